import PyProof.Rows.All
import Wide.All
import OpenK.AllK
import Wide.FinOn
import HandS.ForMost
import HandS.ForExc
import HandS.IsInst
import HandS.Deep
import HandS.ExcInit
import HandS.ExcField
import HandS.ExcOwn
import KE.KExcIs
import HandS.ExcIs
import HandS.Lambda
import HandS.TupAny
import HandS.TupMul
import HandS.Walk
import HandS.Zip
import HandS.Style
import HandS.Iter
import HandS.Conv
import HandS.DictComp
import HandS.TupSets
import HandS.SortRule
import KE.DataFind
import KE.KDictList
import KE.GoesMore
import KE.GoesEnum
import KE.KIndexOf
import HandS.Hot
import HandS.HotCalls
import HandS.ExcInitHot
import HandS.WordsExc
import HandS.ExcCtx
import KE.KRevSl
import PyProof.Rows.SortShellAny
import HandS.SetFor
import HandS.Strs
import KE.OsSort
import HandS.FStrTup
import KE.KEqDeep
import HandS.SortInts
import PySem.Challenge.RW_linkneed_k39_whole_least_long_jumps
set_option Elab.async false
set_option linter.all false
set_option maxRecDepth 100000
set_option maxHeartbeats 2000000
namespace Lk
open PySem PySem.Spec PyProof.Rows L2
/-! ### heaps and data -/
theorem same_new {H : Hp} {p : Addr} (h : H p = none) (o : HO) : Same H (upd H p o) := fun b u q => by rw [upd_ne (ne_of_none q h)]; exact q
theorem same_del {H H' : Hp} (l : Addr) (e : Same H H') : Same (del H l) (del H' l) := fun b o q => by
  by_cases hb : b = l
  · subst hb; rw [del_same] at q; cases q
  · rw [del_ne hb] at q ⊢; exact e b o q
theorem del_le (H : Hp) (l : Addr) : Same (del H l) H := fun b o q => by
  by_cases hb : b = l
  · subst hb; rw [del_same] at q; cases q
  · rw [del_ne hb] at q; exact q
theorem del_upd (H : Hp) (l : Addr) (o : HO) : del (upd H l o) l = del H l := by
  funext b
  by_cases hb : b = l
  · subst hb; rw [del_same, del_same]
  · rw [del_ne hb, del_ne hb, upd_ne hb]
theorem same_eq {H H' : Hp} (e : H = H') : Same H H' := by subst e; exact Same.refl _
/-- what was tracked and is not at l -/
theorem Same.off {H H' : Hp} {l b : Addr} {o : HO} (e : Same (del H l) (del H' l)) (hb : b ≠ l) (h : H b = some o) : H' b = some o := by
  have q := e b o (by rw [del_ne hb]; exact h)
  rw [del_ne hb] at q
  exact q
theorem seqT_same {K : PySem.W.Frag} {H H' : Hp} {a : Addr} {xs : List V} (e : Same H H') (h : SqT K H a xs) : SqT K H' a xs := by
  rcases h with (h | ⟨o, h⟩) | h
  · exact .inl (.inl (e _ _ h))
  · exact .inl (.inr ⟨o, e _ _ h⟩)
  · exact .inr h
mutual
theorem dp_same {K : PySem.W.Frag} {H H' : Hp} (e : Same H H') : ∀ {v : V} {d : PyData}, Dp K H v d → Dp K H' v d
  | _, _, .non => .non
  | _, _, .bl b => .bl b
  | _, _, .int i => .int i
  | _, _, .str x => .str x
  | _, _, .lst h a => .lst (e.seq h) (dpAll_same e a)
  | _, _, .tup h a => .tup (seqT_same e h) (dpAll_same e a)
theorem dpAll_same {K : PySem.W.Frag} {H H' : Hp} (e : Same H H') : ∀ {vs : List V} {ds : List PyData}, DpAll K H vs ds → DpAll K H' vs ds
  | _, _, .nil => .nil
  | _, _, .cons a b => .cons (dp_same e a) (dpAll_same e b)
end
theorem same_mut {H H' : Hp} {p : Addr} {o : HO} (e : Same H H') (h : H p = none) : Same H (upd H' p o) := fun b u q => by
  rw [upd_ne (ne_of_none q h)]
  exact e b u q
theorem ifT {b : Bool} {A B : Prop} (e : b = true) (h : A) : if b = true then A else B := by subst e; exact iteT h
theorem ifF {b : Bool} {A B : Prop} (e : b = false) (h : B) : if b = true then A else B := by subst e; exact iteF h
theorem ite_both {c : Bool} {A B : Prop} (hB : B) (h : B → c = true → A) : if c = true then A else B := by
  cases c with
  | true => exact iteT (h hB rfl)
  | false => exact iteF hB
theorem dpAll_str {K : PySem.W.Frag} {H : Hp} : ∀ l : List Str, DpAll K H (l.map V.str) (l.map PyData.str)
  | [] => .nil
  | x :: r => .cons (.str x) (dpAll_str r)
def iV (ns : List Int) : List V := ns.map V.int
theorem iV_len (ns : List Int) : (iV ns).length = ns.length := List.length_map _
theorem iV_app (ns : List Int) (i : Int) : iV ns ++ [V.int i] = iV (ns ++ [i]) := by unfold iV; rw [List.map_append]; rfl
theorem iV_get {ns : List Int} {j : Nat} {y : V} (h : (iV ns)[j]? = some y) : ∃ i, ns[j]? = some i ∧ y = .int i := by
  unfold iV at h
  rw [List.getElem?_map] at h
  cases e : ns[j]? with
  | none => rw [e] at h; cases h
  | some i => rw [e] at h; exact ⟨i, rfl, (Option.some.inj h).symm⟩
theorem szl {n : Nat} (h : n ≤ 1000000) : n < sizeLine := Nat.lt_of_le_of_lt h (by decide)
/-! ### kinds of data -/
def tyN : PyData → String
  | .none => "NoneType"
  | .bool _ => "bool"
  | .int _ => "int"
  | .str _ => "str"
  | .list _ => "list"
  | .tuple _ => "tuple"
  | .dict _ => "dict"
def isI : PyData → Bool
  | .int _ => true
  | _ => false
def isB : PyData → Bool
  | .bool _ => true
  | _ => false
def isN : PyData → Bool
  | .int i => decide (0 ≤ i)
  | _ => false
def isW : PyData → Bool
  | .int i => decide (0 ≤ i) && decide (i < 65536)
  | _ => false
theorem ty_of {K : PySem.W.Frag} {H : Hp} {v : V} {d : PyData} (h : Dp K H v d) : TyX K H v (.type (tyN d)) := by
  cases h with
  | non => exact .base .non
  | bl b => exact .base (.bl b)
  | int i => exact .base (.int i)
  | str x => exact .base (.str x)
  | lst h a =>
    rcases h with (h | ⟨o, h⟩) | ⟨o, its, n, h, hc, _⟩
    · exact .base (.lst h)
    · exact .base (.frz h)
    · exact .kList h hc
  | tup h a =>
    rcases h with (h | ⟨o, h⟩) | ⟨o, its, n, h, hc, _⟩
    · exact .base (.tup h)
    · exact .fTuple h
    · exact .kTuple h hc
theorem no_dict {K : PySem.W.Frag} {H : Hp} {v : V} {kvs : List (PyData × PyData)} (h : Dp K H v (.dict kvs)) : False := by cases h
theorem kit_int {K : PySem.W.Frag} {H : Hp} {v : V} {d : PyData} (h : Dp K H v d) : PySem.W.kitOne K (.type (tyN d)) (.type "int") = some (isI d || isB d) := by
  cases h with
  | non => exact kit_ty (a := "NoneType") (b := "int") (r := false) (by decide +kernel)
  | bl b => exact kit_ty (a := "bool") (b := "int") (r := true) (by decide +kernel)
  | int i => exact kit_ty (a := "int") (b := "int") (r := true) (by decide +kernel)
  | str x => exact kit_ty (a := "str") (b := "int") (r := false) (by decide +kernel)
  | lst h a => exact kit_ty (a := "list") (b := "int") (r := false) (by decide +kernel)
  | tup h a => exact kit_ty (a := "tuple") (b := "int") (r := false) (by decide +kernel)
theorem kit_bool {K : PySem.W.Frag} {H : Hp} {v : V} {d : PyData} (h : Dp K H v d) : PySem.W.kitOne K (.type (tyN d)) (.type "bool") = some (isB d) := by
  cases h with
  | non => exact kit_ty (a := "NoneType") (b := "bool") (r := false) (by decide +kernel)
  | bl b => exact kit_ty (a := "bool") (b := "bool") (r := true) (by decide +kernel)
  | int i => exact kit_ty (a := "int") (b := "bool") (r := false) (by decide +kernel)
  | str x => exact kit_ty (a := "str") (b := "bool") (r := false) (by decide +kernel)
  | lst h a => exact kit_ty (a := "list") (b := "bool") (r := false) (by decide +kernel)
  | tup h a => exact kit_ty (a := "tuple") (b := "bool") (r := false) (by decide +kernel)
theorem isI_int {K : PySem.W.Frag} {H : Hp} {v : V} {d : PyData} (h : Dp K H v d) (e : isI d = true) : ∃ i, v = .int i ∧ d = .int i := by
  cases h <;> first | exact ⟨_, rfl, rfl⟩ | cases e
theorem dp_get {K : PySem.W.Frag} {H : Hp} : ∀ {vs : List V} {ds : List PyData} {i : Nat} {v : V}, DpAll K H vs ds → vs[i]? = some v → ∃ d, d ∈ ds ∧ ds[i]? = some d ∧ Dp K H v d
  | _, _, _, _, .nil, e => by simp at e
  | _, _, 0, _, .cons a b, e => by
    simp at e
    subst e
    exact ⟨_, List.mem_cons_self .., rfl, a⟩
  | _, _, i + 1, _, .cons a b, e => by
    obtain ⟨d, h1, h2, h3⟩ := dp_get b (i := i) (by simpa using e)
    exact ⟨d, List.mem_cons_of_mem _ h1, by simpa using h2, h3⟩
theorem dp_len {K : PySem.W.Frag} {H : Hp} : ∀ {vs : List V} {ds : List PyData}, DpAll K H vs ds → vs.length = ds.length
  | _, _, .nil => rfl
  | _, _, .cons a b => by simp [dp_len b]
theorem dp_at {K : PySem.W.Frag} {H : Hp} {vs : List V} {ds : List PyData} {r : Int} (h : DpAll K H vs ds) (h0 : 0 ≤ r) (h1 : r < (ds.length : Int)) : ∃ v d, atI vs r = some v ∧ d ∈ ds ∧ ds[r.toNat]? = some d ∧ Dp K H v d := by
  obtain ⟨n, rfl⟩ : ∃ n : Nat, r = (n : Int) := ⟨r.toNat, by omega⟩
  have hl := dp_len h
  have hn : n < vs.length := by omega
  obtain ⟨d, m, e, q⟩ := dp_get h (List.getElem?_eq_getElem hn)
  exact ⟨vs[n], d, atI_nat (List.getElem?_eq_getElem hn), m, by simpa using e, q⟩
theorem PS.as {X : Cx} {st : Stmt} {t : TS} (t' : TS) (h : L2.PS X st t) (e : t = t' := by rfl) : L2.PS X st t' := e ▸ h
theorem passAt0 {X : Cx} : ∀ σ, PassesAt CX0 X σ ((fun _ => E0) σ) := fun _ _ _ _ _ _ _ h => h.elim
/-! ### in and not in of tuples, items of any depth -/
section
variable {X : Cx}
def rInU (K : PySem.W.Frag) (neg : Bool) : R2 := fun x y H Q => ∃ d ds, Dp K H x d ∧ Dp K H y (.tuple ds) ∧ SeqAt.shaped d = true ∧ SeqAt.shaped (.tuple ds) = true ∧ Q (.bl (if neg then !(ds.any fun z => PyData.eqv z d) else ds.any fun z => PyData.eqv z d)) H
theorem op_inU (hu : X.A.units + 65 < cLine) : OpR X (compareOp .In) (rInU X.K false) := by
  rintro ps₁ s₁ τ G a b va vb R J ra rb ⟨da, db, ha, hb, sa, sb, q⟩
  have ⟨_, w1⟩ := Dp.reads J da a va ha ra
  have ⟨_, w2⟩ := Dp.reads J (.tuple db) b vb hb rb
  exact SeqAt.in_tuple_reads w2 w1 (SeqAt.canLay_of_shaped sb) (SeqAt.canLay_of_shaped sa) (room_in_shaped sa hu) ⟨.bl _, G, J, rfl, q⟩
theorem op_notInU (hu : X.A.units + 65 < cLine) : OpR X (compareOp .NotIn) (rInU X.K true) := by
  rintro ps₁ s₁ τ G a b va vb R J ra rb ⟨da, db, ha, hb, sa, sb, q⟩
  have ⟨_, w1⟩ := Dp.reads J da a va ha ra
  have ⟨_, w2⟩ := Dp.reads J (.tuple db) b vb hb rb
  exact SeqAt.notIn_tuple_reads w2 w1 (SeqAt.canLay_of_shaped sb) (SeqAt.canLay_of_shaped sa) (room_in_shaped sa hu) ⟨.bl _, G, J, rfl, q⟩
/-! ### f(k = v, ..), keywords alone; it may raise, in a try -/
variable {CX : CXT} {k : Nat} {f : Addr} {fd : FuncData} {ps ks : List Str} {sp : Sp} {E : L2.St → XK} {x : Str} {p pos : Pos} {kws : List Keyword} {tk : TA}
  {g : List Value → List Value → List Value} {gV : List V → List V → List V}
def tCallKS (sp : Sp) (gV : List V → List V → List V) (E : L2.St → XK) (tk : TA) : TE := fun σ H Q => tk σ H fun zs H2 => sp (gV [] zs) H2 Q (E σ)
theorem run_fnkS {pins : List (Addr × Obj)} {σ : L2.St} {H : Hp} {s : Shared} {Q : VK} {us ws : List Value} {vs zs : List V} (F : FnOk X.prog X.w X.K X.mg X.base CX k f fd ps sp) (hr : Room k X.A) (hb : KBinds X.K fd ps ks g gV) (hx : PassesAt CX X σ (E σ))
    (I : Inv X pins σ H s) (r : Vals vs us) (rz : Vals zs ws) (h : sp (gV vs zs) H Q (E σ)) : wpAny (model X.prog X.w) X.A (call (.ref f) us (ks.zip ws)) (EP X pins σ Q) X.xe s := by
  have rr := hb.rel r rz
  have len : (g us ws).length = ps.length := rr.length ▸ F.len _ _ _ _ h
  refine wpAny_call (codeAny_mono (F.run X.A X.stack s H ⟨us, ks.zip ws⟩ (g us ws) (gV vs zs) Q (E σ) hr I.env0 (hb.to s us ws I.kIn len) rr h) fun o s₂ ho => ?_)
  match o, ho with
  | .error e, ho => exact hx pins H s e s₂ I ho
  | .ok (.ret _), ho => exact I.after ho
  | .ok .next, ho => exact ho.elim
  | .ok .brk, ho => exact ho.elim
  | .ok .cont, ho => exact ho.elim
theorem pe_callKS (F : FnOk X.prog X.w X.K X.mg X.base CX k f fd ps sp) (hr : Room k X.A) (hg : Gl X x) (hm : X.mg x = some (.ref f)) (hk : PySem.W.keepIn X.K (.ref f) = true) (hb : KBinds X.K fd ps ks g gV) (hx : ∀ σ, PassesAt CX X σ (E σ))
    (hkw : PK X kws tk) (hall : (backToKw pos (keywordEach kws X.env)).all (·.1.isSome) = true := by rfl) (hks : (backToKw pos (keywordEach kws X.env)).filterMap (·.1) = ks := by rfl)
    (hdb : (x == ("__debug__" : Str)) = false := by decide)
    (hpl : ((backTo pos (starEach [] X.env)).any (·.1) || (backToKw pos (keywordEach kws X.env)).any (·.1.isNone)) = false := by rfl) :
    PE X (.Call (.Name x p) [] kws pos) (tCallKS sp gV E tk) := by
  refine ⟨fun pins s σ H Q I h => ?_⟩
  refine wpAny_Call_Name_kw (ld_glob I hg hm ?_ hdb)
  refine PySem.W.callWith_KW0 (M := model X.prog X.w) (h₀ := X.base) I.ok.mod.kin hk hall ?_ hpl
  refine thn (hkw.run pos pins s σ H _ I h) fun ws s2 ⟨zs, H2, I2, rz, q2⟩ => ⟨I2.kIn, ?_⟩
  rw [hks]
  exact run_fnkS (us := []) (vs := []) F hr hb (hx σ) I2 .nil rz q2
/-! ### isinstance of the error that a suite holds, an own class's instance with fields -/
structure ExcK (K : PySem.W.Frag) (C : Addr) : Prop where
  hc : (PySem.W.clsIn K C).isSome = true
  hg : PySem.W.findIn K (.ref C) "__getattribute__" = some (some (.builtin "BaseException.__getattribute__"))
  hk : PySem.W.findIn K (.ref C) "__getattr__" = some none
  hs : PySem.W.subIn K (.ref C) (.type "BaseException") = some true
  ha : PySem.W.findIn K (.ref C) "__class__" = some (some (.builtin "object.__class__"))
  hn : PySem.W.specialIn K (.builtin "object.__class__") "__get__" = some (some (.builtin "getset_descriptor.__get__"))
  ht : PySem.W.takesIn K (.builtin "object.__class__") = some true
  hm : PySem.W.mroIn K C (.type "object") = some true
def rIsX (K : PySem.W.Frag) (a : Addr) (cls : Value) (d : Option Addr) : List V → Hp → VK → Prop := fun xs H Q => ∃ (C dd : Addr) (fs : List (Str × V)) (c : V) (u : Value) (b : Bool),
  cls = .ref C ∧ d = some dd ∧ H dd = some (.xd fs) ∧ ExcK K C ∧ xs = [.ref a, c] ∧ ClsV c u ∧ PySem.W.kitOne K (.ref C) u = some b ∧ Q (.bl b) H
def rIsXT (K : PySem.W.Frag) (a : Addr) (cls : Value) (d : Option Addr) : List V → Hp → VK → Prop := fun xs H Q => ∃ (C dd : Addr) (fs : List (Str × V)) (tp : Addr) (cs : List V) (us : List Value) (b : Bool),
  cls = .ref C ∧ d = some dd ∧ H dd = some (.xd fs) ∧ ExcK K C ∧ xs = [.ref a, .ref tp] ∧ H tp = some (.tup cs) ∧ Paired ClsV cs us ∧ PySem.W.kitAny K (.ref C) us = some b ∧ Q (.bl b) H
theorem inst_x {a C dd : Addr} {fs : List (Str × V)} {cls : Value} {d : Option Addr} {oe : Obj} {pn pins : List (Addr × Obj)} {σ : L2.St} {H : Hp} {s : Shared} (hz : Zc cls d oe) (hf : ∃ vs, oe.data = .fields vs) (I : Inv (X.suite a ((a, oe) :: pn)) pins σ H s) (e1 : cls = .ref C) (e2 : d = some dd) (e3 : H dd = some (.xd fs)) :
    ∃ od, PySem.W.InstAt s.heap a oe C od := by
  subst e1 e2
  have ⟨hget, _⟩ := I.pin (a, oe) (List.mem_append_left _ List.mem_cons_self)
  have ⟨vs, hd⟩ := hf
  have ⟨_, hns, _⟩ := (show ObjOk X.prog X.w H s.heap dd (.xd fs) from I.hok dd _ e3)
  have ⟨od, ho, _⟩ := lookIn_ns hns
  exact ⟨some od, ⟨hget, hz.1, by unfold PySem.W.notCls; rw [hd] <;> rfl, by rw [hz.2]; exact ho⟩⟩
theorem call_isX {a : Addr} {cls : Value} {d : Option Addr} {oe : Obj} {pn : List (Addr × Obj)} (hz : Zc cls d oe) (hf : ∃ vs, oe.data = .fields vs) : CallR (X.suite a ((a, oe) :: pn)) (.builtin "isinstance") (rIsX X.K a cls d) := by
  rintro ps₁ s₁ τ G xs us R J r ⟨C, dd, fs, c, u, b, e1, e2, e3, T, rfl, k, e, q⟩
  have ⟨v1, v2, ev, w1, w2⟩ := vals2 r
  subst ev
  have ec := k.eq w2
  subst ec
  obtain rfl : v1 = Value.ref a := w1
  have ⟨od, at_⟩ := inst_x hz hf J e1 e2 e3
  exact PySem.W.kia_one (PySem.W.kitx_exc T.hc T.hg T.hk T.hs T.ha T.hn T.ht T.hm) J.kIn at_ e (fun z => nomatch z) fun tk => ⟨.bl b, G, J.tok tk, rfl, q⟩
theorem call_isXT {a : Addr} {cls : Value} {d : Option Addr} {oe : Obj} {pn : List (Addr × Obj)} (hz : Zc cls d oe) (hf : ∃ vs, oe.data = .fields vs) : CallR (X.suite a ((a, oe) :: pn)) (.builtin "isinstance") (rIsXT X.K a cls d) := by
  rintro ps₁ s₁ τ G xs us R J r ⟨C, dd, fs, tp, cs, ws, b, e1, e2, e3, T, rfl, hT, k, e, q⟩
  have ⟨v1, v2, ev, w1, w2⟩ := vals2 r
  subst ev
  obtain rfl : v2 = Value.ref tp := w2
  obtain rfl : v1 = Value.ref a := w1
  have ⟨od, at_⟩ := inst_x hz hf J e1 e2 e3
  obtain ⟨_, its, rv, ⟨oc, od', dt, sl⟩, g1, g2, n, g3⟩ : ObjOk X.prog X.w G s₁.heap tp (.tup cs) := J.hok tp _ hT
  have ew := ClsV.all k rv
  subst ew
  obtain rfl : oc = .type "tuple" := g2
  obtain rfl : dt = _ := g3
  exact PySem.W.kia_tup (PySem.W.kitx_exc T.hc T.hg T.hk T.hs T.ha T.hn T.ht T.hm) J.kIn at_ g1 e (fun z => nomatch z) fun tk => ⟨.bl b, G, J.tok tk, rfl, q⟩
end
end Lk

set_option Elab.async false
set_option linter.all false
set_option maxRecDepth 100000
set_option maxHeartbeats 2000000
namespace Lk
open PySem PySem.Spec PyProof.Rows L2
theorem deeper_guards (A : Around) (e : Env) : (A.deeper e).guards = A.guards := rfl
/-- a def's promise, where no repr is under way -/
structure FnG (P : Program) (w : World) (K : PySem.W.Frag) (mg : Str → Option Value) (base : Heap) (CX : CXT) (k : Nat) (f : Addr) (fd : FuncData) (ps : List Str) (sp : Sp) : Prop where
  len : ∀ vs H Q E, sp vs H Q E → vs.length = ps.length
  run : ∀ (A : Around) (outer : List Env) (s : Shared) (H : Hp) (args : Args) (us : List Value) (vs : List V) (Q : VK) (E : XK),
    A.guards = some [] → Room k A → Env0 P w K mg base A outer s H → BindsTo s fd args (ps.zip us) → Vals vs us → sp vs H Q E →
      codeAny (model P w) A (.call (.ref f) args) (CR CX outer P w H s Q E) s
section
variable {P : Program} {w : World} {K : PySem.W.Frag} {mg : Str → Option Value} {base : Heap} {CX : CXT}
theorem FnG.mono {j k : Nat} {f : Addr} {fd : FuncData} {ps : List Str} {sp : Sp} (F : FnG P w K mg base CX j f fd ps sp) (h : j ≤ k) : FnG P w K mg base CX k f fd ps sp :=
  ⟨F.len, fun A outer s H args us vs Q E g hr => F.run A outer s H args us vs Q E g (hr.mono h)⟩
theorem FnG.of {k : Nat} {f : Addr} {fd : FuncData} {ps : List Str} {sp : Sp} (F : FnOk P w K mg base CX k f fd ps sp) : FnG P w K mg base CX k f fd ps sp :=
  ⟨F.len, fun A outer s H args us vs Q E _ hr => F.run A outer s H args us vs Q E hr⟩
theorem okG {x qual : Str} {st : Stmt} {f : Addr} {fd : FuncData} {N ps : List Str} {k : Nat} {sp : Sp} (F : Fun K x qual st f fd) (S : FnScope N ps (defScope st)) (len : ∀ vs H Q E, sp vs H Q E → vs.length = ps.length)
    (body : ∀ (cdv : Value) (A : Around) (outer : List Env) (s : Shared) (H : Hp) (vs : List V) (Q : VK) (E : XK), A.guards = some [] → Room k (A.deeper (envOfC qual (defScope st) s.heap.objs.size f cdv)) → sp vs H Q E →
      ∃ t, PSs (cxOf CX0 P w K mg base N qual (defScope st) f cdv A outer s H E).nox (defBody st) t ∧ t { nx := fun _ H' => Q .non H', rt := Q } (L2.start N vs) H) :
    FnG P w K mg base CX0 (k + 1) f fd ps sp := by
  obtain ⟨oc, od, kV, doc, pm, an, cdv, ct, osl, e, lk, hc⟩ := F.ex
  subst e
  refine ⟨len, fun A outer s H args us vs Q E g hr e0 hb r hsp => ?_⟩
  refine LamX.run_ofS lk hc S hr e0 hb r (len _ _ _ _ hsp) fun hr2 => ?_
  obtain ⟨t, h1, h2⟩ := body cdv A outer s H vs Q E g hr2 hsp
  exact ⟨t, h1.nox, h2⟩
end
section
variable {X : Cx} {CX : CXT} {k : Nat} {f : Addr} {fd : FuncData} {ps : List Str} {sp : Sp} {E : XK} {x : Str} {p pos : Pos} {e : Expr} {es : List Expr} {t : TA} {ds : List Value} {dvs : List V}
theorem run_fnG {pins : List (Addr × Obj)} {σ : L2.St} {H : Hp} {s : Shared} {Q : VK} {us : List Value} {vs : List V} (F : FnG X.prog X.w X.K X.mg X.base CX k f fd ps sp) (gu : X.A.guards = some []) (hr : Room k X.A) (hb : Binds X.K fd ps ds) (hd : Vals dvs ds)
    (hx : Passes CX X E) (I : Inv X pins σ H s) (r : Vals vs us) (h : sp (vs ++ dvs) H Q E) : wpAny (model X.prog X.w) X.A (call (.ref f) us) (EP X pins σ Q) X.xe s := by
  have rr := r.append hd
  have ln : (us ++ ds).length = ps.length := rr.length ▸ F.len _ _ _ _ h
  have c := F.run X.A X.stack s H ⟨us, []⟩ (us ++ ds) (vs ++ dvs) Q E gu hr I.env0 (hb s us I.kIn ln) rr h
  refine wpAny_call (codeAny_mono c fun o s2 ho => ?_)
  match o, ho with
  | .error er, ho => exact hx pins σ H s er s2 I ho
  | .ok (.ret _), ho => exact I.after ho
  | .ok .next, ho => exact ho.elim
  | .ok .brk, ho => exact ho.elim
  | .ok .cont, ho => exact ho.elim
theorem pe_callG (F : FnG X.prog X.w X.K X.mg X.base CX k f fd ps sp) (gu : X.A.guards = some []) (hr : Room k X.A) (hg : Gl X x) (hm : X.mg x = some (.ref f)) (hk : PySem.W.keepIn X.K (.ref f) = true) (hb : Binds X.K fd ps ds) (hd : Vals dvs ds) (hx : Passes CX X E)
    (ha : PA X (e :: es) t) (hdb : (x == ("__debug__" : Str)) = false := by decide) (he : starEach (e :: es) X.env = (false, eval e X.env) :: starEach es X.env := by rfl) (hpl : (backTo pos (starEach es X.env)).any (·.1) = false := by rfl) :
    PE X (.Call (.Name x p) (e :: es) [] pos) (tCall sp dvs E t) :=
  ⟨fun pins s σ H Q I h => wpAny_Call_Name_kw (ld_glob I hg hm (PySem.W.callWith_K (h₀ := X.base) I.ok.mod.kin hk
    (thn (ha.run pos pins s σ H _ I h) fun us s1 ⟨vs, H1, I1, r, q⟩ => ⟨I1.kIn, run_fnG F gu hr hb hd hx I1 r q⟩) he hpl) hdb)⟩
end
/-! ### repr of data -/
def rRepr (K : PySem.W.Frag) : List V → Hp → VK → Prop := fun xs H Q => ∃ (x : V) (d : PyData), xs = [x] ∧ Dp K H x d ∧ isDisplay d = true ∧ d.showable = true ∧ d.hasDict = false ∧ d.depth ≤ 100 ∧ d.shown.length ≤ sizeLine ∧ Q (.str d.shown) H
theorem call_reprD {X : Cx} (gu : X.A.guards = some []) (hu : X.A.units + 200 < cLine) : CallR X (.builtin "repr") (rRepr X.K) := by
  intro pins s σ H xs us Q I r h
  obtain ⟨x, d, e, hd, i, sh, nd, dp, sz, q⟩ := h
  subst e
  obtain ⟨u, e, rx⟩ := vals1 r
  subst e
  obtain ⟨as, rd⟩ := hd.reads I d x u rx
  obtain ⟨a, e⟩ := isRef_of_reads rd i
  subst e
  refine repr_of_reads' rd sh (PyData.noDict_hsm nd) gu (by omega) (fun _ _ z => z) (fun h' t k z => ?_) sz
  exact ⟨.str d.shown, H, I.kept (t' := k) z, ⟨t, rfl⟩, q⟩
end Lk

set_option Elab.async false
set_option linter.all false
set_option maxRecDepth 100000
set_option maxHeartbeats 2000000
namespace Lk
open PySem PySem.Spec PyProof.Rows L2
/-! ### the end of a law whose def is promised where no repr is under way -/
def Fine (s₁ : Shared) : Result → Shared → Prop := fun r s' => r = .ok (.ret (.bool true)) ∧ OldK s₁.heap s'.heap ∧ s'.os = s₁.os ∧ AllBare s'.gens
section
variable {P : Program} {w : World} {K : PySem.W.Frag} {mg mb : Str → Option Value} {CX : CXT} {k : Nat} {fa a : Addr} {fd : FuncData} {x : Str} {sp : Sp} {s₁ : Shared} {vs : List Value} {ns : List Int}
/-- what is tracked at the start: nothing, or the script alone -/
structure Begin (P : Program) (w : World) (K : PySem.W.Frag) (H : Hp) (h : Heap) (a : Addr) : Prop where
  only : Only H
  good : HOk P w H h
  one : ∀ b, H b ≠ none → b = a
  out : H a ≠ none → K.lookup a = none
theorem Begin.sees {H : Hp} (B : Begin P w K H s₁.heap a) (ha : s₁.heap.get? a = some { cls := .type "list", data := .seq vs.toArray }) {b : Addr} {m : Str → Option Value} (n : s₁.heap.Ns b m) : (hidT s₁.heap H).Ns b m := by
  obtain ⟨o, es, ep, e, d, r⟩ := n
  cases q : H b with
  | none => exact ⟨o, es, ep, hidT_get e q, d, r⟩
  | some u =>
    have z := B.one b (by rw [q]; exact fun y => nomatch y)
    subst z
    rw [ha] at e
    obtain rfl := Option.some.inj e
    exact nomatch d
theorem Begin.keeps {H : Hp} (B : Begin P w K H s₁.heap a) (KX : K.In s₁.heap) : K.In (hidT s₁.heap H) := fun b o e => by
  refine hidT_get (KX b o e) ?_
  cases q : H b with
  | none => rfl
  | some u =>
    have y : H b ≠ none := by rw [q]; exact fun y => nomatch y
    have z := B.one b y
    subst z
    rw [B.out y] at e
    exact nomatch e
theorem Begin.goes {H : Hp} (B : Begin P w K H s₁.heap a) (KX : K.In s₁.heap) (hns : s₁.heap.Ns mainGlobals mg) (hb : s₁.heap.Ns builtinsNs mb) (hbb : ∀ x : Str, x ≠ "__name__" → mb x = bootBuiltins x) (hlim : s₁.heap.NoLimit) (hg : s₁.gens = #[])
    (ha : s₁.heap.get? a = some { cls := .type "list", data := .seq vs.toArray }) (hr : Room k callerA)
    (F : ∀ base : Heap, K.In base → base.Ns mainGlobals mg → FnG P w K mg base CX k fa fd [x] sp) (bind : ∀ (s : Shared) (u : Value), BindsTo s fd ⟨[u], []⟩ [(x, u)])
    (hsp : sp [.ref a] H (fun v _ => v = .bl true) fun _ _ _ => False) (hCX : ∀ H e s', CX [] H s₁ (fun _ _ _ => False) e s' → False) : codeAny (model P w) callerA (.call (.ref fa) ⟨[.ref a], []⟩) (Fine s₁) s₁ := by
  obtain ⟨mc, l1, l2⟩ := hlim
  have M : Mod K mg (hidT s₁.heap H) := ⟨B.keeps KX, B.sees ha hns, ⟨mb, B.sees ha hb, hbb⟩, mc, B.sees ha l1, l2⟩
  have e0 : Env0 P w K mg (hidT s₁.heap H) callerA [] s₁ H := by
    refine ⟨rfl, M, fun b o e => of_hidT e, ?_, trivial, fun b z => ?_, B.good, .of_eq hg⟩
    · rw [hidT_size]; exact Nat.le_refl _
    · exact nomatch (show b ∈ ([] : List Addr) from z)
  have c := (F _ (B.keeps KX) (B.sees ha hns)).run callerA [] s₁ H ⟨[.ref a], []⟩ [.ref a] [.ref a] _ _ rfl hr e0 (bind s₁ (.ref a)) (.cons rfl .nil) hsp
  refine codeAny_mono c fun r s' z => ?_
  match r, z with
  | .error e, z => exact (hCX H e s' z).elim
  | .ok .next, z => exact z.elim
  | .ok .brk, z => exact z.elim
  | .ok .cont, z => exact z.elim
  | .ok (.ret u), z =>
    obtain ⟨v, H', os, bare, un, good', rv, q⟩ := z
    obtain rfl : v = .bl true := q
    obtain rfl : u = Value.bool true := rv
    refine ⟨rfl, OldK.of_keep fun b o e => ?_, os, bare⟩
    rcases B.only b with y | ⟨ob, xs, y⟩
    · exact un.keep b o e y (fun t => nomatch (show b ∈ ([] : List Addr) from t)) (fun t => nomatch t)
    · have y2 := un.frzs b ob _ y
      have g1 := (B.good b _ y).1
      have g2 := (good' b _ y2).1
      rw [e] at g1
      obtain rfl := Option.some.inj g1
      exact g2
theorem law_go (KX : K.In s₁.heap) (hns : s₁.heap.Ns mainGlobals mg) (hb : s₁.heap.Ns builtinsNs mb) (hbb : ∀ x : Str, x ≠ "__name__" → mb x = bootBuiltins x) (hlim : s₁.heap.NoLimit) (hg : s₁.gens = #[])
    (ha : s₁.heap.get? a = some { cls := .type "list", data := .seq vs.toArray }) (hi : IntsAre vs ns) (hl : ns.length ≤ sizeLine) (hr : Room k callerA)
    (F : ∀ base : Heap, K.In base → base.Ns mainGlobals mg → FnG P w K mg base CX k fa fd [x] sp) (bind : ∀ (s : Shared) (u : Value), BindsTo s fd ⟨[u], []⟩ [(x, u)])
    (hsp : ∀ H : Hp, Only H → SqL K H a (ns.map V.int) → sp [.ref a] H (fun v _ => v = .bl true) fun _ _ _ => False) (hCX : ∀ H e s', CX [] H s₁ (fun _ _ _ => False) e s' → False) : codeAny (model P w) callerA (.call (.ref fa) ⟨[.ref a], []⟩) (Fine s₁) s₁ := by
  have vi := vals_ints hi
  by_cases hk : K.lookup a = none
  · let H : Hp := fun b => if b = a then some (.frz { cls := .type "list", data := .seq vs.toArray } (.lst (ns.map V.int))) else none
    have ya : H a = some (.frz { cls := .type "list", data := .seq vs.toArray } (.lst (ns.map V.int))) := if_pos rfl
    have yb : ∀ b, b ≠ a → H b = none := fun b z => if_neg z
    have B : Begin P w K H s₁.heap a := by
      refine ⟨fun b => ?_, fun b u z => ?_, fun b z => ?_, fun _ => hk⟩
      · by_cases y : b = a
        · subst y; exact .inr ⟨_, _, ya⟩
        · exact .inl (yb b y)
      · by_cases y : b = a
        · subst y
          rw [ya] at z
          obtain rfl := Option.some.inj z
          exact ⟨ha, by rw [List.length_map]; exact hl, vs, _, vi, ha⟩
        · rw [yb b y] at z; exact nomatch z
      · by_cases y : b = a
        · exact y
        · exact absurd (yb b y) z
    exact B.goes KX hns hb hbb hlim hg ha hr F bind (hsp H B.only (.inl (.inr ⟨_, ya⟩))) hCX
  · obtain ⟨o, ho⟩ := Option.ne_none_iff_exists'.mp hk
    have e := KX a o ho
    rw [ha] at e
    obtain rfl := Option.some.inj e
    have B : Begin P w K (fun _ => none) s₁.heap a := ⟨fun _ => .inl rfl, fun _ _ z => (nomatch z), fun _ z => absurd rfl z, fun z => absurd rfl z⟩
    refine B.goes KX hns hb hbb hlim hg ha hr F bind (hsp _ B.only (.inr ⟨_, vs.toArray, _, ho, rfl, rfl, rfl, ?_, ?_⟩)) hCX
    · rw [List.size_toArray, hi.length]; exact hl
    · exact vi
end
/-- the goal that k_head leaves (case hc) -/
theorem walk_go {l : PySem.W.OpenLaw} {n k : Nat} {q : Program} {loose : List Str} {XP : (Str → Option Value) → Heap → Prop} {YP : World → Heap → Prop} {d : DefRec} {K : Params → PySem.W.Frag} {CX : CXT} {sp : PySem.W.Frag → Sp} {x : Str}
    (hn : l.most = some n) (hn2 : n ≤ sizeLine) (hdf : d.params.defaults = []) (hr : Room k callerA) (hY : ∀ (w : World) (h : Heap), YP w h → (K w.params).In h)
    (F : ∀ (w : World) (mg : Str → Option Value) (fa : Addr) (h : Heap), (K w.params).In h → h.Ns mainGlobals mg → mg d.name = some (.ref fa) →
      ∃ fd : FuncData, (∀ (s : Shared) (u : Value), BindsTo s fd ⟨[u], []⟩ [(x, u)]) ∧ ∀ base : Heap, (K w.params).In base → base.Ns mainGlobals mg → FnG l.prog w (K w.params) mg base CX k fa fd [x] (sp (K w.params)))
    (hsp : ∀ (K : PySem.W.Frag) (H : Hp) (a : Addr) (ns : List Int), ns.length ≤ n → Only H → SqL K H a (ns.map V.int) → sp K [.ref a] H (fun v _ => v = .bl true) fun _ _ _ => False)
    (hCX : ∀ (H : Hp) (s : Shared) (e : Value) (s' : Shared), CX [] H s (fun _ _ _ => False) e s' → False) : PySem.W.WalkO q loose XP YP l.row.toRowW d [] (fun f vs => PySem.call f vs) := by
  refine Att.attach_call hn hdf fun w s₀ s₁ mg mb fa o pm cd doc a vs ns G Y ho hd hcd hmg hobj hints hlen hg => ?_
  obtain ⟨fd, hb, hF⟩ := F w mg fa _ (hY w _ Y) G.T.g hmg
  exact law_go (hY w _ Y) G.T.g G.T.b G.T.builtins G.T.nolimit hg hobj hints (Nat.le_trans hlen hn2) hr hF hb (fun H hO hS => hsp (K w.params) H a ns hlen hO hS) fun H e s' => hCX H s₁ e s'
end Lk

set_option Elab.async false
set_option linter.all false
set_option maxRecDepth 100000
set_option maxHeartbeats 2000000
namespace Lk
open PySem PySem.Spec PyProof.Rows L2
/-! ### tuples: what comes stands at some place -/
section
variable {X : Cx}
def rCatS (K : PySem.W.Frag) : R2 := fun x y H Q => ∃ a b xs ys, x = .ref a ∧ y = .ref b ∧ SqT K H a xs ∧ SqT K H b ys ∧ xs.length + ys.length ≤ sizeLine ∧ ∀ p H', Same H H' → SqT K H' p (xs ++ ys) → Q (.ref p) H'
theorem op_catS : OpR X (binaryOp .Add) (rCatS X.K) := by
  intro pins s σ H x y v u Q I rx ry h
  obtain ⟨a, b, xs, ys, ex, ey, ha, hb, hz, q⟩ := h
  refine op_catA pins s σ H x y v u Q I rx ry ⟨a, b, xs, ys, ex, ey, ha, hb, hz, fun e => ?_, fun _ e => ?_, fun _ _ p hp => ?_⟩
  · subst e; exact q b H (Same.refl _) hb
  · subst e; exact q a H (Same.refl _) (by rw [List.append_nil]; exact ha)
  · exact q p _ (same_new hp _) (SqT.of upd_same)
def rSlS (K : PySem.W.Frag) : V → Option Int → Option Int → Hp → VK → Prop := fun x lo hi H Q => ∃ a xs, x = .ref a ∧ SqT K H a xs ∧ ∀ p H', Same H H' → SqT K H' p (cutV xs lo hi) → Q (.ref p) H'
theorem cut_whole {xs : List V} {lo hi : Option Int} (h : HT.sIx xs.length 0 lo = 0 ∧ HT.sIx xs.length xs.length hi = xs.length) : cutV xs lo hi = xs := by
  unfold cutV
  rw [h.1, h.2, List.drop_zero, Nat.sub_zero, List.take_length]
theorem sl_tupS : SlR X (rSlS X.K) := by
  intro pins s σ H x v vl vu lo hi sl Q I rx hs pl pu h
  obtain ⟨a, xs, ex, hx, q⟩ := h
  refine sl_tupA pins s σ H x v vl vu lo hi sl Q I rx hs pl pu ⟨a, xs, ex, hx, fun w => q a H (Same.refl _) ?_, fun _ p hp => q p _ (same_new hp _) (SqT.of upd_same)⟩
  rw [cut_whole w]; exact hx
theorem cut_hi {xs : List V} {n : Nat} : cutV xs none (some (n : Int)) = xs.take n := by
  unfold cutV
  have e1 : HT.sIx xs.length 0 none = 0 := by simp [HT.sIx]
  rw [e1, List.drop_zero, Nat.sub_zero]
  have e2 : HT.sIx xs.length xs.length (some (n : Int)) = min n xs.length := by
    simp only [HT.sIx]
    try split
    all_goals omega
  rw [e2]
  by_cases h : n ≤ xs.length
  · rw [Nat.min_eq_left h]
  · rw [Nat.min_eq_right (by omega), List.take_length, List.take_of_length_le (by omega)]
theorem cut_lo {xs : List V} {n : Nat} : cutV xs (some (n : Int)) none = xs.drop n := by
  unfold cutV
  have e1 : HT.sIx xs.length xs.length none = xs.length := by simp [HT.sIx]
  have e2 : HT.sIx xs.length 0 (some (n : Int)) = min n xs.length := by
    simp only [HT.sIx]
    try split
    all_goals omega
  rw [e1, e2]
  by_cases h : n ≤ xs.length
  · rw [Nat.min_eq_left h, List.take_of_length_le (by rw [List.length_drop]; omega)]
  · rw [Nat.min_eq_right (by omega), List.drop_length, List.drop_of_length_le (by omega), List.take_nil]
/-! ### (z,) * k -/
theorem mul_self (l : Addr) (items : Array Value) (n : Nat) (dd : Option Addr) (sl : Array (Option Value)) (u : Tok) :
    Meets (Builtin.«tuple.__mul__» ⟨[.ref l, .int 1 u], []⟩) (fun _ R s => s.heap.get? l = some { cls := .type "tuple", dict := dd, data := .seq items n, slots := sl } ∧ R (.ok (.ret (Value.ref l))) s) :=
  .of_wp fun prog w A R s h => by
    obtain ⟨hp, g, d, tk, os⟩ := s
    obtain ⟨hl, h⟩ := h
    have f1 := AutoSeq1.idx_int
    wp_walk using wpAny_loadPart' hl
    all_goals first | exact ⟨_, rfl, h⟩ | trace_state
theorem mul_nought (l : Addr) (items : Array Value) (n : Nat) (dd : Option Addr) (sl : Array (Option Value)) (u : Tok) (ne : items.isEmpty = false) :
    Meets (Builtin.«tuple.__mul__» ⟨[.ref l, .int 0 u], []⟩) (fun _ R s => s.heap.get? l = some { cls := .type "tuple", dict := dd, data := .seq items n, slots := sl } ∧
      R (.ok (.ret (Value.ref s.heap.objs.size))) { s with heap := s.heap.push { cls := Value.type "tuple", data := Data.seq #[] }, toks := s.toks }) :=
  .of_wp fun prog w A R s h => by
    obtain ⟨hp, g, d, tk, os⟩ := s
    obtain ⟨hl, h⟩ := h
    have f1 := AutoSeq1.idx_int
    have c1 : (items.isEmpty || (0 : Int) == 1) = false := by rw [ne]; rfl
    wp_walk using wpAny_loadPart' hl
    repeat (first
      | (refine wpAny_ite_false (decide_eq_false (by rw [c1]; exact Bool.false_ne_true)) ?_; wp_walk using wpAny_loadPart' hl))
    all_goals first | exact ⟨_, rfl, h⟩ | trace_state
/-- (z,) * k -/
def rRepS (K : PySem.W.Frag) : R2 := fun x y H Q => ∃ l k z, x = .ref l ∧ y = .int k ∧ SqT K H l [z] ∧ 0 ≤ k ∧ k ≤ 1000 ∧ ∀ p H', Same H H' → SqT K H' p (List.replicate k.toNat z) → Q (.ref p) H'
theorem rep_one (z : V) : ∀ n, (List.replicate n [z]).flatten = List.replicate n z
  | 0 => rfl
  | n + 1 => by rw [List.replicate_succ, List.flatten_cons, rep_one z n]; rfl
theorem op_repS : OpR X (binaryOp .Mult) (rRepS X.K) := by
  intro pins s σ H x y v u Q I rx ry h
  obtain ⟨l, k, z, ex, ey, hT, h0, h1, q⟩ := h
  by_cases c : 2 ≤ k
  · refine op_repT pins s σ H x y v u Q I rx ry ⟨l, k, [z], ex, ey, hT, (fun e => nomatch e), c, h1, (by show 1 ≤ 1000; decide), fun p hp => ?_⟩
    rw [rep_one]
    exact q p _ (same_new hp _) (SqT.of upd_same)
  subst ex ey
  obtain rfl : v = Value.ref l := rx
  obtain ⟨t, rfl⟩ := ry
  obtain ⟨its, r, ⟨⟨cls, dd, data, sl⟩, ho, hc, n, hd⟩, hs⟩ := I.tuple hT
  simp only at hc hd
  subst hc hd
  have hn : its.toArray.isEmpty = false := by
    cases r with
    | cons a b => rfl
  rcases (by omega : k = 0 ∨ k = 1) with e | e
  · subst e
    refine wpAny_binaryOp_repeat_ref (T := "tuple") (U := "int") (by decide) ⟨_, ho, rfl⟩ (fun s' => typeIs_int s' 0 t) noFill_tuple_mul F.fills_int_mul F.slot_int_rmul repeat_tuple F.slot_int_index.lookup
      (call_meets F.slot_int_rmul (typeIs_int s 0 t) F.entry_int_rmul (F.args_int_rmul_2 _ _) (int_rmul_tuple 0 t l its.toArray n dd sl)
        ⟨ho, rfl, ⟨_, ho, rfl⟩, call_meets F.slot_tuple_mul ⟨_, ho, rfl⟩ F.entry_tuple_mul (F.args_tuple_mul_2 _ _) (mul_nought l its.toArray n dd sl t hn) ⟨ho, ?_⟩⟩)
    refine ⟨.ref s.heap.objs.size, _, I.laid (t' := s.toks) (o := .tup []) (fun b ob q => Heap.get?_push_of_some _ q) (Nat.le_refl _) ?_, rfl, q _ _ (same_new (I.hok.fresh (Nat.le_refl _)) _) (SqT.of upd_same)⟩
    exact ⟨by decide, [], .nil, IsTup.new _ _⟩
  · subst e
    refine wpAny_binaryOp_repeat_ref (T := "tuple") (U := "int") (by decide) ⟨_, ho, rfl⟩ (fun s' => typeIs_int s' 1 t) noFill_tuple_mul F.fills_int_mul F.slot_int_rmul repeat_tuple F.slot_int_index.lookup
      (call_meets F.slot_int_rmul (typeIs_int s 1 t) F.entry_int_rmul (F.args_int_rmul_2 _ _) (int_rmul_tuple 1 t l its.toArray n dd sl)
        ⟨ho, rfl, ⟨_, ho, rfl⟩, call_meets F.slot_tuple_mul ⟨_, ho, rfl⟩ F.entry_tuple_mul (F.args_tuple_mul_2 _ _) (mul_self l its.toArray n dd sl t) ⟨ho, ?_⟩⟩)
    exact ⟨.ref l, H, I, rfl, q l H (Same.refl _) hT⟩
/-! ### any of a tuple of ints -/
def rAnyT (K : PySem.W.Frag) : List V → Hp → VK → Prop := fun vs H Q => ∃ (a : Addr) (ns : List Int), vs = [V.ref a] ∧ SqT K H a (iV ns) ∧ Q (.bl (ns.any (· != 0))) H
theorem truth_ints {prog : Program} {w : World} {A : Around} {ns : List Int} {its : List Value} (r : Vals (iV ns) its) :
    TruthOf prog w A (fun i v => its.toArray[i]? = some v) (fun i => ns.getD i 0 != 0) := fun i v s Q E hv hq => by
  have hv' : its[i]? = some v := by simpa using hv
  have hlt : i < (iV ns).length := by
    rw [r.length]
    exact (List.getElem?_eq_some_iff.mp hv').1
  obtain ⟨n, hn, hy⟩ := iV_get (List.getElem?_eq_getElem hlt)
  obtain ⟨u, e, ru⟩ := r.get (List.getElem?_eq_getElem hlt)
  rw [hv'] at e
  obtain rfl := Option.some.inj e
  rw [hy] at ru
  obtain ⟨t, rfl⟩ := ru
  have hg : ns.getD i 0 = n := by rw [List.getD_eq_getElem?_getD, hn] <;> rfl
  have hq' : Q (ns.getD i 0 != 0) s := hq
  rw [hg] at hq'
  exact PySem.P.truthy_int hq'
theorem any_turns (ns : List Int) : (List.range ns.length).any (fun i => ns.getD i 0 != 0) = ns.any (· != 0) := by
  rw [Bool.eq_iff_iff, List.any_eq_true, List.any_eq_true]
  constructor
  · rintro ⟨i, hi, h⟩
    have hi' : i < ns.length := List.mem_range.mp hi
    refine ⟨ns[i], List.getElem_mem hi', ?_⟩
    rw [List.getD_eq_getElem?_getD, List.getElem?_eq_getElem hi'] at h
    exact h
  · rintro ⟨x, hx, h⟩
    obtain ⟨i, hi, rfl⟩ := List.getElem_of_mem hx
    refine ⟨i, List.mem_range.mpr hi, ?_⟩
    rw [List.getD_eq_getElem?_getD, List.getElem?_eq_getElem hi]
    exact h
theorem cr_anyT (hc : X.calm = true) : CallR X (.builtin "any") (rAnyT X.K) := by
  intro pins s σ H vs us Q I r h
  obtain ⟨a, ns, rfl, hs, q⟩ := h
  obtain ⟨its, rv, ht, _⟩ := I.tuple hs
  rw [Vals.ref1 r]
  have hlt : a < s.heap.objs.size := by obtain ⟨_, e, _⟩ := ht; exact Heap.lt_size e
  refine call_any_walk (wpAny_pyIter_tuple ht ?_)
  have hne : a ≠ s.heap.objs.size := Nat.ne_of_lt hlt
  refine ⟨_, _, _, _, _, _, _, rfl, Walks.tuple (A := X.A.in1) (I.ok.hd hc) _ a hne its.toArray, ⟨⟨_, Heap.get?_push_size _ rfl, rfl, rfl⟩, ht.push _⟩, truth_ints rv, fun h' tk hk => ?_⟩
  refine ⟨.bl _, H, I.kept fun b o eo => hk b o (fun m => ?_) (Heap.get?_push_of_some _ eo), ?_, q⟩
  · have e1 := List.mem_singleton.mp m
    exact absurd (e1 ▸ Heap.lt_size eo) (Nat.lt_irrefl _)
  · show Value.bool _ = Value.bool _
    rw [← any_turns, List.size_toArray, ← rv.length, iV_len]
end
theorem walk_zipT {K : PySem.W.Frag} {a b : Addr} {xs ys : List V} {n : Nat} (hn : n = min xs.length ys.length) : Walk (RZ.ItzT K a b) n (fun H => SqT K H a xs ∧ SqT K H b ys) (YPair (fun i => xs[i]?) (fun i => ys[i]?)) where
  goes i H hi q := by
    subst hn
    exact ⟨xs, ys, xs[i]'(by omega), ys[i]'(by omega), q.1, q.2, by simp, by simp⟩
  stops H q := ⟨xs, ys, q.1, q.2, by omega⟩
  yields i H v H' _ q y := by
    obtain ⟨T, x, z, e, f, g, hx, hy⟩ := y
    exact ⟨T, x, z, e, f, g, hx xs q.1, hy ys q.2⟩
end Lk

set_option Elab.async false
set_option linter.all false
set_option maxRecDepth 100000
set_option maxHeartbeats 2000000
namespace Lk
open PySem PySem.Spec PyProof.Rows L2
/-! ### the layer's rules with the written part named: within a comprehension's element -/
section
variable {X : Cx} {K : PySem.W.Frag}
theorem ix_tupK (e : X.K = K) : IxR X (rIxT K) := e ▸ ix_tup
theorem ix_listK (e : X.K = K) : IxR X (rIxL K) := e ▸ ix_list
theorem pi_tupK {tg l : Expr} {tl : TE} (e : X.K = K) (h : PE X l tl) : PI X tg l (iTup K tl) := e ▸ pi_tup h
theorem pi_listK {tg l : Expr} {tl : TE} (e : X.K = K) (h : PE X l tl) : PI X tg l (iList K tl) := e ▸ pi_list h
theorem cr_sumK (e : X.K = K) (hc : X.calm = true) : CallR X (.builtin "sum") (rSum K) := e ▸ cr_sum hc
theorem cr_maxK (e : X.K = K) (hc : X.calm = true) : CallR X (.builtin "max") (rMax K) := e ▸ cr_max hc
theorem cr_minK (e : X.K = K) (hc : X.calm = true) : CallR X (.builtin "min") (rMin K) := e ▸ cr_min hc
theorem cr_allK (e : X.K = K) (hc : X.calm = true) : CallR X (.builtin "all") (rAll K) := e ▸ cr_all hc
theorem cr_anyK (e : X.K = K) (hc : X.calm = true) : CallR X (.builtin "any") (rAny K) := e ▸ cr_any hc
def rLenS (K : PySem.W.Frag) : List V → Hp → VK → Prop := fun xs H Q => ∃ p ys, xs = [.ref p] ∧ (SqL K H p ys ∨ SqT K H p ys) ∧ Q (.int ys.length) H
theorem call_lenK (e : X.K = K) : CallR X (.builtin "len") (rLenS K) := e ▸ call_len_seq
theorem call_isiK (e : X.K = K) : CallR X (.builtin "isinstance") (rIsi K) := e ▸ call_isi
theorem op_inK (e : X.K = K) : OpR X (compareOp .In) (rIn K false) := e ▸ op_in_seq
theorem op_notInK (e : X.K = K) : OpR X (compareOp .NotIn) (rIn K true) := e ▸ op_notIn_seq
theorem op_eqDK (e : X.K = K) (hu : X.A.units + 64 < cLine) : OpR X (compareOp .Eq) (rEqD K) := e ▸ op_eqD hu
theorem op_neDK (e : X.K = K) (hu : X.A.units + 64 < cLine) : OpR X (compareOp .NotEq) (rNeD K) := e ▸ op_neD hu
theorem op_catK (e : X.K = K) : OpR X (binaryOp .Add) (rCatS K) := e ▸ op_catS
theorem op_repK (e : X.K = K) : OpR X (binaryOp .Mult) (rRepS K) := e ▸ op_repS
theorem sl_tupK (e : X.K = K) : SlR X (rSlS K) := e ▸ sl_tupS
end
end Lk

set_option Elab.async false
set_option linter.all false
set_option maxRecDepth 100000
set_option maxHeartbeats 2000000
namespace Lk
open PySem PySem.Spec PyProof.Rows L2
theorem fun_binds {K : PySem.W.Frag} {x qual : Str} {st : Stmt} {f : Addr} {fd : FuncData} {ps ks : List Str} {g : List Value → List Value → List Value} {gV : List V → List V → List V} (F : Fun K x qual st f fd)
    (h : ∀ (kV doc pm : Value) (an : Option Addr) (cdv ct : Value) (us ws : List Value), (g us ws).length = ps.length → bindArgs (PySem.W.fnOf x qual (defArgs st) (defBody st) (defScope st) .none kV doc pm an cdv ct) ⟨us, ks.zip ws⟩ = pure (ps.zip (g us ws)))
    (rel : ∀ {vs : List V} {us : List Value} {zs : List V} {ws : List Value}, Vals vs us → Vals zs ws → Vals (gV vs zs) (g us ws)) : KBinds K fd ps ks g gV := by
  obtain ⟨oc, od, kV, doc, pm, an, cdv, ct, osl, rfl, lk, hcd⟩ := F.ex
  exact ⟨fun s us ws _ hl => .of_eq (h kV doc pm an cdv ct us ws hl), rel⟩
theorem cls_some {K : PySem.W.Frag} {C : Addr} (h : PySem.W.hasDictIn K C = true) : (PySem.W.clsIn K C).isSome = true := by
  obtain ⟨cd, hc, _⟩ := PySem.W.any_some h
  rw [hc]
  rfl
theorem kit_self {K : PySem.W.Frag} {C : Addr} : PySem.W.kitOne K (.ref C) (.ref C) = some true := if_pos (by simp)
theorem kit_own {K : PySem.W.Frag} {C D : Addr} {b : Bool} (hc : (PySem.W.clsIn K D).isSome = true) (ht : PySem.W.typeIn K (.ref D) = some (.type "type")) (h4 : PySem.W.subIn K (.ref C) (.ref D) = some b) (hn : b = false → (Value.ref C == Value.ref D) = false) : PySem.W.kitOne K (.ref C) (.ref D) = some b := by
  have e2 : ((PySem.W.clsIn K D).isSome && PySem.W.typeIn K (.ref D) == some (.type "type")) = true := by rw [hc, ht] <;> rfl
  show (if (Value.ref C == Value.ref D) = true then some true else (if ((PySem.W.clsIn K D).isSome && PySem.W.typeIn K (.ref D) == some (.type "type")) = true then PySem.W.subIn K (.ref C) (.ref D) else none)) = some b
  rw [if_pos e2, h4]
  cases b with
  | true => split <;> rfl
  | false => rw [hn rfl]; rfl
theorem kit_blt {K : PySem.W.Frag} {C : Addr} {T : String} {b : Bool} (hm : PySem.W.kitMeta T = true) (h4 : PySem.W.subIn K (.ref C) (.type T) = some b) : PySem.W.kitOne K (.ref C) (.type T) = some b := by
  show (if (Value.ref C == Value.type T) = true then some true else if PySem.W.kitMeta T = true then PySem.W.subIn K (.ref C) (.type T) else none) = some b
  rw [if_neg (by simp), if_pos hm, h4]
end Lk

set_option Elab.async false
set_option linter.all false
set_option maxRecDepth 100000
set_option maxHeartbeats 2000000
namespace Lk
open PySem PySem.Spec PyProof.Rows L2
section
variable {X : Cx}
/-- list(o.values()) -/
def tListVals (td : TE) : TE := fun σ H Q => td σ H fun x H1 => ∃ a kvs, x = V.ref a ∧ H1 a = some (.dK kvs) ∧ ∀ p, H1 p = none → Q (.ref p) (upd H1 p (.lst (kvs.map (·.2))))
variable {o : Expr} {p pos apos mpos : Pos} {td : TE}
theorem pe_listVals (hc : X.calm = true) (hg : Gl X "list") (hm : X.mg "list" = none) (hd : PE X o td) (hbase : attributeBase o "values" X.env (eval o X.env) = eval o X.env := by rfl) (hline : (apos.endLine == mpos.line) = true := by rfl)
    (hse : starEach [Expr.Call (.Attribute o "values" apos) [] [] mpos] X.env = [(false, eval (Expr.Call (.Attribute o "values" apos) [] [] mpos) X.env)] := by rfl) :
    PE X (.Call (.Name "list" p) [.Call (.Attribute o "values" apos) [] [] mpos] [] pos) (tListVals td) := by
  refine ⟨fun pins s σ H Q I h => ?_⟩
  refine wpAny_Call_Name_kw (ld_blt I hg hm (u := .type "list") (by first | rfl | decide +kernel) ?_ (by first | decide +kernel | decide) (by first | decide +kernel | decide))
  rw [hse]
  refine PySem.callWith_type1 (wpAny_Call_method0_late hbase hline (thn (hd.run pins s σ H _ I h) fun v s1 ⟨x, H1, I1, r1, a, kvs, ex, ha, q⟩ => ?_))
  subst ex
  obtain rfl : v = Value.ref a := r1
  obtain ⟨hz, hsys, vs, rel, dof⟩ := dk_of I1.hok ha
  obtain ⟨ep, dat⟩ := dof.dictAt
  have dat' := dat
  obtain ⟨ob, es, ho, ex, hdat, hko, hpr, hnd⟩ := dat'
  refine ⟨"dict", "dict.values", F.plainAttrs_dict, F.slot_dict_values, F.type_dict_values, ⟨ob, ho, ex.1⟩, fun b e => ?_, Calls.callWith_builtin rfl (PySem.evalArgs_none ?_)⟩
  · cases e
    exact ⟨ob, ho, ex.2.1⟩
  refine call_meetsIn F.slot_dict_values ⟨ob, ho, ex.1⟩ F.entry_dict_values (F.args_dict_values_1 _) (meets_dict_values (mixKind X.prog X.w) a hsys) ⟨⟨vs, dof⟩, ?_⟩
  have k1 : ∀ b u, s1.heap.get? b = some u → (s1.heap.push { cls := .type "dict_values", data := .fields #[.ref a] }).get? b = some u := fun b u e => Heap.get?_push_of_some _ e
  have dat1 : (s1.heap.push { cls := .type "dict_values", data := .fields #[.ref a] }).DictAt (mixKind X.prog X.w) a vs ep := dat.keep k1
  have I2 : Inv X pins σ H1 { s1 with heap := s1.heap.push { cls := .type "dict_values", data := .fields #[.ref a] } } := I1.kept (t' := s1.toks) k1
  have hl : kvs.length = vs.length := Paired.length rel
  refine PySem.W.kdl_call (r := s1.heap.objs.size) (PySem.W.kdl_values (knd := mixKind X.prog X.w) (kvs := vs) (ep := ep)) (I1.ok.hd hc) ⟨⟨_, Heap.get?_push_size _ rfl, rfl, rfl⟩, dat1⟩ (by rw [← hl]; exact hz) fun h' tk acc' c' hkeep hS hacc => ?_
  refine ⟨.ref _, upd H1 (s1.heap.push { cls := .type "dict_values", data := .fields #[.ref a] }).objs.size (.lst (kvs.map (·.2))), I2.laid hkeep (Nat.le_refl _) (show ObjOk X.prog X.w _ _ _ (.lst (kvs.map (·.2))) from ⟨?_, acc'.toList, c', ?_, ?_⟩), rfl, q _ (I2.hok.fresh (Nat.le_refl _))⟩
  · rw [List.length_map]; exact hz
  · have el : acc'.toList.length = acc'.size := by simp
    refine vals_of_at (by rw [List.length_map, el, hacc.1, hl]) fun j x w h1 h2 => ?_
    obtain ⟨k, hk⟩ := hacc.2 j w (by rw [← Array.getElem?_toList]; exact h2)
    obtain ⟨y, e1, e2⟩ := KV.at' rel hk
    rw [List.getElem?_map, e1] at h1
    cases h1
    exact e2
  · rw [Array.toArray_toList]; exact hS
/-- o.remove(e), by data: the first item that is equal is gone -/
def rRemD (K : PySem.W.Frag) : V → List V → Hp → VK → Prop := fun x vs H Q => ∃ (l : Addr) (xs : List V) (ds : List PyData) (y : V) (d : PyData) (j : Nat), x = .ref l ∧ vs = [y] ∧ H l = some (.lst xs) ∧ DpAll K H xs ds ∧ Dp K H y d ∧
  PyData.plainAll ds = true ∧ d.plain = true ∧ min (PyData.depthAll ds) d.depth ≤ 60 ∧ (ds.findIdx? fun z => PyData.eqv z d) = some j ∧ Q .non (upd H l (.lst (xs.eraseIdx j)))
theorem mt_removeD (hu : X.A.units + 65 < cLine) : MtM X "list.remove" (rRemD X.K) := by
  intro pins s σ H x vs v us Q I rx rv h
  obtain ⟨l, xs, ds, y, d, j, rfl, rfl, hH, hx, hy, p1, p2, p3, hj, q⟩ := h
  cases rx
  obtain ⟨u, rfl, ru⟩ := vals1 rv
  obtain ⟨z, its, n, r, hl, e⟩ := I.lstM hH
  obtain ⟨as, r1⟩ := Dp.readsAll I ds xs its hx r
  obtain ⟨bs, r2⟩ := Dp.reads I d y u hy ru
  have hsz : its.toArray.size ≤ sizeLine := by rw [List.size_toArray, ← hl]; exact z
  refine SeqAt.remove_list_data (l := l) (vs := its.toArray) (xs := ds) (x := u) (d := d) (j := j) ⟨_, e, rfl, n, rfl⟩ (by simpa using r1) r2 p1 p2 (by omega) hj hsz ?_
  refine ⟨.non, _, I.lset (its' := its.eraseIdx j) hH e ?_ (r.eraseIdx j) ?_, rfl, q⟩
  · show its.toArray.eraseIdxIfInBounds j = (its.eraseIdx j).toArray
    rw [List.eraseIdxIfInBounds_toArray]
  · have := len_erase xs j
    omega
end
end Lk

set_option Elab.async false
set_option linter.all false
set_option maxRecDepth 100000
set_option maxHeartbeats 2000000
namespace Lk
open PySem PySem.Spec PyProof.Rows L2
mutual
def noL : PyData → Bool
  | .list _ => false
  | .dict _ => false
  | .tuple ds => noLs ds
  | _ => true
def noLs : List PyData → Bool
  | [] => true
  | d :: ds => noL d && noLs ds
end
theorem seqT_off {K : PySem.W.Frag} {H : Hp} {a l : Addr} {xs ys : List V} (h : SqT K H a xs) (hl : H l = some (.lst ys)) : SqT K (del H l) a xs := by
  rcases h with (h | ⟨o, h⟩) | h
  · have n : a ≠ l := fun z => by rw [z, hl] at h; cases h
    exact .inl (.inl (by rw [del_ne n]; exact h))
  · have n : a ≠ l := fun z => by rw [z, hl] at h; cases h
    exact .inl (.inr ⟨o, by rw [del_ne n]; exact h⟩)
  · exact .inr h
mutual
theorem dp_off {K : PySem.W.Frag} {H : Hp} {l : Addr} {ys : List V} (hl : H l = some (.lst ys)) : ∀ {v : V} {d : PyData}, noL d = true → Dp K H v d → Dp K (del H l) v d
  | _, _, _, .non => .non
  | _, _, _, .bl b => .bl b
  | _, _, _, .int i => .int i
  | _, _, _, .str x => .str x
  | _, _, n, .lst h a => nomatch n
  | _, _, n, .tup h a => .tup (seqT_off h hl) (dpAll_off hl n a)
theorem dpAll_off {K : PySem.W.Frag} {H : Hp} {l : Addr} {ys : List V} (hl : H l = some (.lst ys)) : ∀ {vs : List V} {ds : List PyData}, noLs ds = true → DpAll K H vs ds → DpAll K (del H l) vs ds
  | _, _, _, .nil => .nil
  | _, _, n, .cons a b => .cons (dp_off hl (Bool.and_eq_true_iff.mp n).1 a) (dpAll_off hl (Bool.and_eq_true_iff.mp n).2 b)
end
theorem same_off {H H' : Hp} {p : Addr} (e : Same H H') (h : H p = none) : Same H (del H' p) := fun b o q => by
  rw [del_ne (ne_of_none q h)]; exact e b o q
theorem dpAll_app {K : PySem.W.Frag} {H : Hp} : ∀ {vs : List V} {ds : List PyData} {v : V} {d : PyData}, DpAll K H vs ds → Dp K H v d → DpAll K H (vs ++ [v]) (ds ++ [d])
  | _, _, _, _, .nil, h => .cons h .nil
  | _, _, _, _, .cons a b, h => .cons a (dpAll_app b h)
theorem dp_ints {K : PySem.W.Frag} {H : Hp} : ∀ ws : List Int, DpAll K H (iV ws) (ws.map .int)
  | [] => .nil
  | w :: r => .cons (.int w) (dp_ints r)
theorem iV_take (ws : List Int) (n : Nat) : (iV ws).take n = iV (ws.take n) := by unfold iV; rw [List.map_take]
theorem iV_drop (ws : List Int) (n : Nat) : (iV ws).drop n = iV (ws.drop n) := by unfold iV; rw [List.map_drop]
end Lk

set_option Elab.async false
set_option linter.all false
set_option maxRecDepth 100000
set_option maxHeartbeats 4000000
namespace Lk
open PySem PySem.Spec PyProof.Rows L2
/-! ### enumerate of a tuple -/
def itO (t : Addr) : Obj := { cls := .type "tuple_iterator", data := .fields #[.ref t, .int 0 0] }
def enO (n : Addr) : Obj := { cls := .type "enumerate", data := .fields #[.none, .bool false, .ref n, rawInt 0, .none, .none] }
set_option maxHeartbeats 2000000 in
theorem meets_enumT (t : Addr) (items : Array Value) :
    Meets (Builtin.«enumerate.__new__» ⟨[.type "enumerate", .ref t], []⟩) (fun _ R s => s.heap.IsTuple t items ∧ R (.ok (.ret (.ref (s.heap.push (itO t)).objs.size))) { s with heap := (s.heap.push (itO t)).push (enO s.heap.objs.size) }) :=
  .of_wp fun prog w A R s h => by
    obtain ⟨hp, g, d, tk, os⟩ := s
    obtain ⟨ht, h⟩ := h
    have kind := sub_enumerate
    have go : ∀ {A' : Around} {E : Value → Shared → Prop} {Q : Value → Shared → Prop}, Q (.ref hp.objs.size) ⟨hp.push (itO t), g, d, tk, os⟩ → wpAny (model prog w) A' (pyIter (.ref t)) Q E ⟨hp, g, d, tk, os⟩ :=
      fun q => (begins_tuple t items).iter prog w _ _ ⟨hp, g, d, tk, os⟩ _ ht q
    wp_walk using go
    refine wpAny_stack_any fun st => wpAny_pure ?_
    split
    · rename_i c _ _ _ _ _
      cases (c == Value.type "enumerate")
      all_goals
        wp_walk using go
        exact ⟨_, rfl, h⟩
    · wp_walk using go
      exact ⟨_, rfl, h⟩
theorem call_enumT {prog : Program} {w : World} {A : Around} {E : Value → Shared → Prop} {s : Shared} {t : Addr} {items : Array Value} {Q : Value → Shared → Prop} (ht : s.heap.IsTuple t items)
    (h : ∀ h', IsEnum h' (s.heap.objs.size + 1) s.heap.objs.size 0 .none → h'.get? s.heap.objs.size = some (itO t) → (∀ b o, s.heap.get? b = some o → h'.get? b = some o) → Q (.ref (s.heap.objs.size + 1)) { s with heap := h' }) :
    wpAny (model prog w) A (call (.type "enumerate") [.ref t]) Q E s := by
  refine callType_new F.called_enumerate (by decide) (F.typeCall_enumerate_1 _) (F.newCall_enumerate_1 _) (fun obj => F.args_object_init_2 obj _) F.entry_enumerate_new (meets_enumT t items) ⟨ht, ?_⟩
  have z : (s.heap.push (itO t)).objs.size = s.heap.objs.size + 1 := Heap.size_push ..
  have e : IsEnum ((s.heap.push (itO t)).push (enO s.heap.objs.size)) (s.heap.objs.size + 1) s.heap.objs.size 0 .none := by
    have y := Heap.get?_push_size (s.heap.push (itO t)) (o := enO s.heap.objs.size) rfl
    rw [z] at y
    exact y
  show _ ∧ _
  rw [z]
  exact ⟨⟨_, e, rfl⟩, h _ e (Heap.get?_push_of_some _ (Heap.get?_push_size _ rfl)) fun b o x => Heap.get?_push_of_some _ (Heap.get?_push_of_some _ x)⟩
def IteT (K : PySem.W.Frag) (a : Addr) : It :=
  ⟨fun i H => ∃ (xs : List V) (x : V), SqT K H a xs ∧ xs[i]? = some x, fun i H v H' => ∃ T x, v = .ref T ∧ H T = none ∧ H' = upd H T (.tup [.int (i : Nat), x]) ∧ ∀ xs, SqT K H a xs → xs[i]? = some x, fun i H => ∃ xs : List V, SqT K H a xs ∧ xs.length ≤ i⟩
theorem turn_enumT {P : Program} {w : World} {K : PySem.W.Frag} {elts : List Expr} {kk : Nat} {tpos : Pos} (a e it : Addr) :
    Turn P w K (.Tuple elts kk tpos) (IteT K a) [e, it] e (fun i h => (∃ old, IsEnum h e it ((i : Nat) : Int) old) ∧ h.IsTupleIter it a i ∧ e ≠ it) where
  mem := by simp
  obj := fun i h st b hb => by
    obtain ⟨⟨old, he⟩, ⟨o, ho, hc, hd⟩, _⟩ := st
    rcases (by simpa using hb : b = e ∨ b = it) with z | z
    · rw [z]; exact ⟨_, he, fun v q => nomatch q⟩
    · rw [z]; exact ⟨o, ho, fun v q => by rw [hd] at q; cases q⟩
  keep := fun i h h' st k => let ⟨⟨old, he⟩, hi, hne⟩ := st; ⟨⟨old, k e (by simp) _ he⟩, hi.at fun o q => k it (by simp) o q, hne⟩
  item := by
    rintro X rfl rfl rfl hc i pins s σ H E I hf ⟨⟨old, he⟩, hit, hne⟩ ⟨xs, x, hq, hx⟩
    obtain ⟨its, rv, p, hz⟩ := I.tuple hq
    obtain ⟨u, hu, ru⟩ := rv.get hx
    have hel : e < s.heap.objs.size := Heap.lt_size he
    have hil : it < s.heap.objs.size := by obtain ⟨_, q, _⟩ := hit; exact Heap.lt_size q
    have nea : e ≠ a := fun z => by
      obtain ⟨o, ho, c1, _⟩ := p
      rw [← z, he] at ho
      cases ho
      exact absurd (Value.type.inj c1) (by decide)
    have nia : a ≠ it := fun z => by
      obtain ⟨o, ho, c1, _⟩ := p
      obtain ⟨o2, ho2, c2, _⟩ := hit
      rw [z, ho2] at ho
      cases ho
      rw [c1] at c2
      exact absurd (Value.type.inj c2) (by decide)
    have lt : i < its.toArray.size := by rw [List.size_toArray]; exact (List.getElem?_eq_some_iff.mp hu).1
    refine wpAny_pyNext_enum_itemD (Draws.tuple (A := X.A.in1) (I.ok.hd hc) it a nia its.toArray) he ⟨hit, p⟩ lt hne (by simp [hne, nea]) fun y h' tk hP ho hs hT hsz hk => ?_
    obtain ⟨hit', p'⟩ := hs
    obtain rfl : u = y := by
      have z : its[i]? = some y := by simpa using hP
      rw [hu] at z
      exact Option.some.inj z
    refine ⟨_, rfl, wpAny_letOwnedTupleGo_enum (s := { s with heap := h', toks := tk + 1 }) ho fun h'' he' sb => ?_⟩
    have hT2 : h''.get? s.heap.objs.size = some { cls := .type "tuple", data := .seq #[.int i tk, u] } := (sb.2 _ (Nat.ne_of_gt hel)).trans hT
    have new : ObjOk X.prog X.w (upd H s.heap.objs.size (.tup [.int (i : Nat), x])) h'' s.heap.objs.size (.tup [.int (i : Nat), x]) :=
      ⟨by show 2 ≤ sizeLine; decide, [.int i tk, u], .cons ⟨_, rfl⟩ (.cons ru .nil), ⟨_, hT2, rfl, _, rfl⟩⟩
    have I1 : Inv X pins σ (upd H s.heap.objs.size (.tup [.int (i : Nat), x])) { s with heap := h'', toks := tk + 1 } :=
      I.turnedNew (ch := [e, it]) (fun b ob hb q => (sb.2 b (fun z => hb (by simp [z]))).trans (hk b ob (fun z => hb (by simp [z])) (fun z => hb (by simp [z])) q)) hf (Nat.le_refl _) new
    refine ⟨.ref s.heap.objs.size, _, I1, rfl, ⟨_, x, rfl, I.hok.fresh (Nat.le_refl _), rfl, fun ys hy => by rw [I.tuple_inj hy hq]; exact hx⟩, ⟨⟨u, ?_⟩, hit'.at fun o q => (sb.2 it (Ne.symm hne)).trans q, hne⟩, fun b hb => ?_⟩
    · rw [show ((i + 1 : Nat) : Int) = (i : Int) + 1 by omega]; exact he'
    · have hb' : b < s.heap.objs.size := by
        rcases (by simpa using hb : b = e ∨ b = it) with z | z
        · rw [z]; exact hel
        · rw [z]; exact hil
      rw [upd_ne (Nat.ne_of_lt hb')]
      exact (hf b hb).1
  done := by
    rintro X rfl rfl rfl hc i pins s σ H E I hf ⟨⟨old, he⟩, hit, hne⟩ ⟨xs, hq, hx⟩
    obtain ⟨its, rv, p, hz⟩ := I.tuple hq
    obtain ⟨f0, f1, f2, f3, f4, f5⟩ := hf it (by simp)
    have nia : a ≠ it := fun z => by
      obtain ⟨o, ho, c1, _⟩ := p
      obtain ⟨o2, ho2, c2, _⟩ := hit
      rw [z, ho2] at ho
      cases ho
      rw [c1] at c2
      exact absurd (Value.type.inj c2) (by decide)
    have no : its.toArray[i]? = none := by
      rw [List.getElem?_toArray, List.getElem?_eq_none_iff, ← rv.length]
      exact hx
    have D : Draws X.prog X.w X.A.in1 it [it, a] 0 (fun _ _ => True) (fun _ h => h.IsTupleIter it a i ∧ h.IsTuple a its.toArray) :=
      ⟨fun _ _ st => let ⟨o, ho, _⟩ := st.1; ⟨o, ho⟩, fun _ _ _ st hk => ⟨st.1.at fun o e => hk it (by simp) o e, st.2.at fun o e => hk a (by simp) o e⟩, fun j _ _ _ h => absurd h (Nat.not_lt_zero _),
        fun s Q E st hE => wpAny_nextOf_tuple_end (A := X.A.in1) (I.ok.hd hc) st.1 st.2 no hE⟩
    exact wpAny_pyNext_enum_endD D he ⟨hit, p⟩ fun h' eb => ⟨rfl, I.turned (t' := s.toks) (fun b o hb q => eb b o hb q) f0 f1 f3 f4 f5⟩
  self := fun A i s Q E st h => let ⟨⟨_, he⟩, _⟩ := st; wpAny_pyIter_enum he h
def iEnumT (K : PySem.W.Frag) (ta : TA) : TI := fun σ H R => ta σ H fun vs H1 => ∃ a xs, vs = [.ref a] ∧ SqT K H1 a xs ∧ R (IteT K a) H1
theorem pi_enumT {X : Cx} {e : Expr} {ta : TA} {p pos tpos : Pos} {elts : List Expr} {kk : Nat} (hg : Gl X "enumerate") (hm : X.mg "enumerate" = none) (ha : PA X [e] ta) (hs : starEach [e] X.env = [(false, eval e X.env)] := by rfl) :
    PI X (.Tuple elts kk tpos) (.Call (.Name "enumerate" p) [e] [] pos) (iEnumT X.K ta) := by
  refine ⟨fun pins s σ H R I h => Call_ (ld_blt I hg hm boot_enumerate (PyProof.Rows.callWith_type1 (thn (ha.run pos pins s σ H _ I h) fun us s1 ⟨vs, H1, I1, r1, a, xs, ex, hq, q⟩ => ?_) hs rfl))⟩
  subst ex
  obtain ⟨its, rv, pt, hz⟩ := I1.tuple hq
  rw [Vals.ref1 r1]
  refine call_enumT pt fun h' he hi hk => wpAny_pyIter_enum he ?_
  have I2 : Inv X pins σ H1 { s1 with heap := h' } := I1.kept (t' := s1.toks) hk
  refine ⟨s1.heap.objs.size + 1, [s1.heap.objs.size + 1, s1.heap.objs.size], _, _, H1, rfl, I2, turn_enumT a (s1.heap.objs.size + 1) s1.heap.objs.size, ⟨⟨.none, he⟩, ⟨_, hi, rfl, rfl⟩, Nat.succ_ne_self _⟩, fun b hb => ?_, q⟩
  have le : s1.heap.objs.size ≤ b := by
    rcases (by simpa using hb : b = s1.heap.objs.size + 1 ∨ b = s1.heap.objs.size) with z | z
    · rw [z]; exact Nat.le_add_right _ _
    · rw [z]; exact Nat.le_refl _
  exact I1.fpOk le (I1.hok.fresh le)
theorem walk_enumT {K : PySem.W.Frag} {a : Addr} {xs : List V} : Walk (IteT K a) xs.length (fun H => SqT K H a xs) (YPair (fun i => some (.int (i : Nat))) (fun i => xs[i]?)) := by
  refine ⟨fun i _ hi q => ⟨xs, xs[i], q, by simp [hi]⟩, fun _ q => ⟨xs, q, Nat.le_refl _⟩, fun i H v H' _ q y => ?_⟩
  obtain ⟨T, x, h1, h2, h3, h4⟩ := y
  exact ⟨T, .int (i : Nat), x, h1, h2, h3, rfl, h4 xs q⟩
end Lk

set_option Elab.async false
set_option linter.all false
set_option maxRecDepth 100000
namespace Lk
open PySem PySem.Spec PyProof.Rows L2
section
variable {X : Cx}
theorem strs_of : ∀ {ss : List Str} {us : List Value}, Vals (ss.map V.str) us → StrsAre us ss
  | [], _, h => by cases h; exact .nil
  | s :: ss, _, h => by
    cases h with
    | cons a t =>
      obtain ⟨k, rfl⟩ := a
      exact .cons s k (strs_of t)
def rTIndex (K : PySem.W.Frag) : V → List V → Hp → VK → Prop := fun x xs H Q => ∃ (a : Addr) (ss : List Str) (k : Str), x = .ref a ∧ xs = [.str k] ∧ SqT K H a (ss.map V.str) ∧ k ∈ ss ∧ Q (.int (ss.idxOf k : Nat)) H
theorem mt_tindex : MtR X "tuple.index" (rTIndex X.K) := by
  intro pins s σ H x xs v us Q I rx rxs h
  obtain ⟨a, ss, k, rfl, rfl, hs, hk, q⟩ := h
  cases rx
  cases rxs with
  | cons ry rt =>
    cases rt
    obtain ⟨t, rfl⟩ := ry
    obtain ⟨its, rv, pl, hz⟩ := I.tuple hs
    exact SeqAt.tuple_index_strs pl (strs_of rv) hk ⟨.int (ss.idxOf k : Nat), H, I.tok _, ⟨_, rfl⟩, q⟩
end
end Lk

set_option Elab.async false
set_option linter.all false
set_option maxRecDepth 100000
set_option maxHeartbeats 4000000
namespace Lk
open PySem PySem.Spec PyProof.Rows L2 HT
/-! ### t[::-1] of a tuple: some of its items, no more than it has -/
section
variable {prog : Program} {w : World} {A : Around} {E : Value → Shared → Prop} {s : Shared}
theorem applied_rev {sl : Addr} {vl vu vs : Value} {n : Nat} {Q : Int × Int × Nat → Shared → Prop} (hs : s.heap.IsSliceOf sl vl vu vs) (pl : IsPart vl none) (pu : IsPart vu none) (ps : IsPart vs (some (-1)))
    (h : Q ((n : Int) - 1, -1, n) s) : wpAny (model prog w) A (Builtin.Slice.sliceApplied (.ref sl) (pure (n : Int))) Q E s := by
  obtain ⟨ob, h1, h2, h3⟩ := id hs
  unfold Builtin.Slice.sliceApplied Builtin.Slice.sliceFields
  refine wpAny_bind (wpAny_bind (wpAny_field h1 h3 (x := vl) rfl (wpAny_bind (wpAny_field h1 h3 (x := vu) rfl (wpAny_bind (wpAny_field h1 h3 (x := vs) rfl (wpAny_pure ?_)))))))
  refine wpAny_bind (slicePart_ ps ?_)
  show wpAny _ _ (if ((-1 : Int) == 0) = true then _ else _) _ _ s
  rw [if_neg (by decide)]
  refine wpAny_bind (slicePart_ pl (wpAny_bind (slicePart_ pu (wpAny_bind (wpAny_pure ?_)))))
  show wpAny _ _ (match Builtin.Slice.sliceAdjust none none (-1) (n : Int) with | (lo, hi) => pure (lo, (-1 : Int), Builtin.Slice.slicePlaces lo hi (-1))) _ _ s
  have e : Builtin.Slice.sliceAdjust none none (-1) (n : Int) = ((n : Int) - 1, -1) := by
    unfold Builtin.Slice.sliceAdjust
    simp
  rw [e]
  have e2 : Builtin.Slice.slicePlaces ((n : Int) - 1) (-1) (-1) = n := by
    unfold Builtin.Slice.slicePlaces
    rw [if_neg (show ¬ ((-1 : Int) > 0) by decide)]
    by_cases c : (n : Int) - 1 > -1
    · rw [if_pos c]
      have : ((n : Int) - 1 - -1 - 1) / (- -1) = (n : Int) - 1 := by
        rw [show (- -1 : Int) = 1 by decide, Int.ediv_one]; omega
      rw [this]; omega
    · rw [if_neg c]; omega
  show wpAny _ _ (pure ((n : Int) - 1, (-1 : Int), Builtin.Slice.slicePlaces ((n : Int) - 1) (-1) (-1))) _ _ s
  rw [e2]
  exact wpAny_pure h
def revPick (items : Array Value) : Array Value := ((List.range items.size).filterMap fun (m : Nat) => items[(((items.size : Int) - 1) + (m : Int) * (-1)).toNat]?).toArray
theorem revPick_size (items : Array Value) : (revPick items).size ≤ items.size := by
  unfold revPick
  rw [List.size_toArray]
  exact Nat.le_trans (List.length_filterMap_le _ _) (by rw [List.length_range]; exact Nat.le_refl _)
theorem getItem_tuple_rev {t sl : Addr} {items : Array Value} {vl vu vs : Value} {Q : Value → Shared → Prop} (ht : IsTup s.heap t items) (hs : s.heap.IsSliceOf sl vl vu vs) (pl : IsPart vl none) (pu : IsPart vu none) (ps : IsPart vs (some (-1)))
    (h : Q (.ref s.heap.objs.size) { s with heap := s.heap.push { cls := .type "tuple", data := .seq (revPick items) } }) (hsz : items.size ≤ sizeLine) : wpAny (model prog w) A (getItem (.ref t) (.ref sl)) Q E s := by
  have few : sizeOk (.seq (revPick items)) := Nat.le_trans (revPick_size items) hsz
  obtain ⟨ob, h1, h2, h3⟩ := id hs
  have hT : s.TypeIs (.ref sl) "slice" := ⟨ob, h1, h2⟩
  unfold getItem
  try with_reducible refine wpAny_holding ?_
  first | refine wpAny_bind (wpAny_pure ?_) | skip
  refine wpAny_bind (wpAny_sequenceKey ht.typeIs (by decide) (wpAny_bind (wpAny_callSpecial?_slot (name := Str.ofString "__getitem__") ht.typeIs PyProof.Rows.slot_tuple_getitem (wpAny_call_entry PyProof.Rows.slot_tuple_getitem ht.typeIs entry_tuple_getitem ?_ (args_tuple_getitem _ _)))))
  show wpAny _ _ (Builtin.Tuple.tupleItemsOf (.ref t) >>= _) _ _ s
  refine wpAny_bind (tupleItemsOf_ ht (wpAny_bind (wpAny_typeOf hT ?_)))
  rw [if_pos (by decide)]
  refine wpAny_bind (applied_rev hs pl pu ps ?_)
  have no : ¬ ((((items.size : Int) - 1) == 0 && (-1 : Int) == 1 && items.size == items.size) = true) := by
    rw [show ((-1 : Int) == 1) = false by decide, Bool.and_false, Bool.false_and]
    exact Bool.false_ne_true
  show wpAny _ _ (if (((items.size : Int) - 1) == 0 && (-1 : Int) == 1 && items.size == items.size) = true then _ else _) _ _ s
  rw [if_neg no]
  first
    | exact wpAny_bind (m := Builtin.Tuple.tupleExact _) (wpAny_newObj_type (wpAny_pure ⟨_, rfl, wpAny_pure h⟩) few)
    | exact wpAny_bind (m := Builtin.Tuple.tupleExact _) (wpAny_newObj_type (wpAny_bind (wpAny_pure (wpAny_pure ⟨_, rfl, wpAny_pure h⟩))) few)
    | exact wpAny_bind (wpAny_bind (m := Builtin.Tuple.tupleExact _) (wpAny_newObj_type (wpAny_pure (wpAny_pure ⟨_, rfl, wpAny_pure h⟩)) few))
    | exact wpAny_bind (wpAny_bind (m := Builtin.Tuple.tupleExact _) (wpAny_newObj_type (wpAny_pure ⟨_, rfl, wpAny_pure h⟩) few))
end
theorem vals_pick {xs : List V} {us : List Value} (r : Vals xs us) (f : Nat → Nat) : ∀ is : List Nat, Vals (is.filterMap fun m => xs[f m]?) (is.filterMap fun m => us[f m]?)
  | [] => .nil
  | i :: is => by
    have t := vals_pick r f is
    cases e : xs[f i]? with
    | none =>
      have e2 : us[f i]? = none := by
        rw [List.getElem?_eq_none_iff] at e ⊢
        rw [← r.length]; exact e
      simp only [List.filterMap_cons, e, e2]
      exact t
    | some x =>
      obtain ⟨u, e2, ru⟩ := r.get e
      simp only [List.filterMap_cons, e, e2]
      exact .cons ru t
theorem range_all {α : Type} : ∀ l : List α, (List.range l.length).filterMap (fun m => l[m]?) = l
  | [] => rfl
  | a :: r => by
    have i := range_all r
    rw [List.length_cons, List.range_succ_eq_map, List.filterMap_cons]
    simp only [List.getElem?_cons_zero, List.filterMap_map, Function.comp_def, List.getElem?_cons_succ]
    rw [i]
theorem fm_congr {α β : Type} {f g : α → Option β} : ∀ {l : List α}, (∀ m ∈ l, f m = g m) → l.filterMap f = l.filterMap g
  | [], _ => rfl
  | a :: r, h => by
    rw [List.filterMap_cons, List.filterMap_cons, h a List.mem_cons_self, fm_congr fun m hm => h m (List.mem_cons_of_mem _ hm)]
theorem pick_reverse {α : Type} (l : List α) : ((List.range l.length).filterMap fun (m : Nat) => l[(((l.length : Int) - 1) + (m : Int) * (-1)).toNat]?) = l.reverse := by
  have h := range_all l.reverse
  rw [List.length_reverse] at h
  refine Eq.trans (fm_congr fun m hm => ?_) h
  have hm' := List.mem_range.mp hm
  rw [List.getElem?_reverse hm']
  congr 1
  omega
def tRevT (K : PySem.W.Frag) (te : TE) : TE := fun σ H Q => te σ H fun x H1 => ∃ a xs, x = .ref a ∧ SqT K H1 a xs ∧ ∀ p, H1 p = none → Q (.ref p) (upd H1 p (.tup xs.reverse))
theorem pe_revT {X : Cx} {e : Expr} {te : TE} {k : Nat} {p1 p2 p3 pos : Pos} (he : PE X e te) : PE X (.Subscript e (.Slice none none (some (.UnaryOp .USub (.Constant (.int 1) k p1) p2)) p3) pos) (tRevT X.K te) := by
  refine ⟨fun pins s σ H Q I h => Subscript_ (thn (he.run pins s σ H _ I h) fun v s1 ⟨x, H1, I1, r1, a, xs, ex, hx, q⟩ => ?_)⟩
  subst ex
  cases r1
  have hst : PO X (some (.UnaryOp .USub (.Constant (.int 1) k p1) p2)) (tPart (tUn (rU fun i => .int (-i)) (tC (.int 1)))) := po_some (pe_un un_neg pe_int)
  refine wpAny_Slice (thn (po_none.run pins s1 σ H1 (fun o G => o = none ∧ G = H1) I1 ⟨rfl, rfl⟩) fun vl s2 ⟨l, H2, I2, pl, el, e2⟩ => ?_)
  subst el e2
  refine thn (po_none.run pins s2 σ H2 (fun o G => o = none ∧ G = H2) I2 ⟨rfl, rfl⟩) fun vu s3 ⟨u, H3, I3, pu, eu, e3⟩ => ?_
  subst eu e3
  refine thn (hst.run pins s3 σ H3 (fun o G => o = some (-1) ∧ G = H3) I3 ⟨1, rfl, -1, rfl, rfl, rfl⟩) fun vs s4 ⟨o, H4, I4, ps, eo, e4⟩ => ?_
  subst eo e4
  have I5 : Inv X pins σ H4 { s4 with heap := s4.heap.push { cls := .type "slice", data := .fields #[vl, vu, vs] } } := I4.kept (t' := s4.toks) fun b ob q => Heap.get?_push_of_some _ q
  obtain ⟨its, r, ht, hz⟩ := I5.tuple hx
  show wpAny (model X.prog X.w) X.A (subscriptTail e (.Slice none none (some (.UnaryOp .USub (.Constant (.int 1) k p1) p2)) p3) (.ref a) (.ref s4.heap.objs.size)) (EP X pins σ Q) X.xe { s4 with heap := s4.heap.push { cls := .type "slice", data := .fields #[vl, vu, vs] } }
  refine tail_any (ops := [.ref a, .ref s4.heap.objs.size]) ht.typeIs (PyProof.Rows.slot_tuple_getitem.lookup) ?_ (by with_unfolding_all rfl)
  have hlen := r.length
  refine getItem_tuple_rev ht (Heap.IsSliceOf.new _ vl vu vs) pl pu ps ?_ (by rw [List.size_toArray, ← hlen]; exact hz)
  have rv := vals_pick r (fun m => (((its.toArray.size : Int) - 1) + (m : Int) * (-1)).toNat) (List.range its.toArray.size)
  have ep : revPick its.toArray = ((List.range its.toArray.size).filterMap fun (m : Nat) => its[(((its.toArray.size : Int) - 1) + (m : Int) * (-1)).toNat]?).toArray := by
    unfold revPick
    congr 1
    refine congrArg (fun f => List.filterMap f _) (funext fun m => ?_)
    simp
  rw [ep]
  have lz : xs.reverse.length ≤ sizeLine := by rw [List.length_reverse]; exact hz
  have rv2 : Vals xs.reverse ((List.range its.toArray.size).filterMap fun (m : Nat) => its[(((its.toArray.size : Int) - 1) + (m : Int) * (-1)).toNat]?) := by
    have e := pick_reverse xs
    rw [List.size_toArray] at rv ⊢
    rw [← hlen] at rv ⊢
    rw [e] at rv
    exact rv
  refine ⟨.ref _, _, I5.laid (t' := s4.toks) (o := .tup xs.reverse) (fun b ob q => Heap.get?_push_of_some _ q) (Nat.le_refl _) ⟨lz, _, rv2, IsTup.new _ _⟩, rfl, q _ (I5.hok.fresh (Nat.le_refl _))⟩
end Lk

set_option Elab.async false
set_option linter.all false
set_option maxRecDepth 100000
set_option maxHeartbeats 4000000
namespace Lk
open PySem PySem.Spec PyProof.Rows L2 L2H HotX
/-! ### a def over L2N's exceptions (their context is none) -/
section
variable {P : Program} {w : World} {K : PySem.W.Frag} {mg : Str → Option Value} {base : Heap}
theorem okXN {x qual : Str} {st : Stmt} {f : Addr} {fd : FuncData} {N ps : List Str} {k : Nat} {sp : Sp} (F : Fun K x qual st f fd) (S : FnScope N ps (defScope st)) (len : ∀ vs H Q E, sp vs H Q E → vs.length = ps.length)
    (bd : ∀ (cdv : Value) (A : Around) (outer : List Env) (s : Shared) (H : Hp) (vs : List V) (Q : VK) (E : XK), Room k (A.deeper (envOfC qual (defScope st) s.heap.objs.size f cdv)) → sp vs H Q E →
      ∃ t, PSs (cxOf (L2N.CX P w) P w K mg base N qual (defScope st) f cdv A outer s H E) (defBody st) t ∧ t { nx := fun _ H' => Q .non H', rt := Q } (L2.start N vs) H) : FnOk P w K mg base (L2N.CX P w) (k + 1) f fd ps sp := by
  obtain ⟨_, _, _, _, _, _, cdv, _, _, rfl, l1, l2⟩ := F.ex
  exact fn_of l1 l2 S len fun A outer s H vs Q E h1 h2 => bd cdv A outer s H vs Q E h1 h2
end
/-! ### C(..), the object's context is none -/
theorem pmk_oexN {X : Cx} {CX : CXT} {x : Str} {C fI : Addr} {k : Nat} {fd : FuncData} {ps : List Str} {sp : Sp} {ds : List Value} {dvs : List V} {e : Expr} {es : List Expr} {ta : TA} {p pos : Pos} (T : OexC X.K C)
    (iC : PySem.W.findIn X.K (.ref C) "__init__" = some (some (.ref fI))) (tI : PySem.W.typeIn X.K (.ref fI) = some (.type "function")) (F1 : FnOk X.prog X.w X.K X.mg X.base CX k fI fd ps sp) (hr : Room (k + 1) X.A) (hb : Binds X.K fd ps ds)
    (hd : Vals dvs ds) (hx : Passes CX X (fun _ _ _ => False)) (hg : Gl X x) (hm : X.mg x = some (.ref C)) (ha : PA X (e :: es) ta) (hdb : (x == ("__debug__" : Str)) = false := by decide)
    (he : starEach (e :: es) X.env = (false, eval e X.env) :: starEach es X.env := by rfl) (hpl : (backTo pos (starEach es X.env)).any (·.1) = false := by rfl) : L2N.PMk X (.Call (.Name x p) (e :: es) [] pos) (tMkO C sp dvs ta) := by
  intro pins s σ H Q I h
  obtain ⟨nm, q, N, bs, bm, sn, sub, ab, col, dd, k0, k1, k2, k3, k5, hC, hbm⟩ := T.cls
  refine wpAny_Call_Name_kw (ld_glob I hg hm (PySem.W.callWith_K (h₀ := X.base) I.ok.mod.kin T.kC (thn (ha.run pos pins s σ H _ I h) fun us s1 ⟨vs, H1, I1, r1, hz, q1⟩ => ⟨I1.kIn, ?_⟩) he hpl) hdb)
  obtain ⟨hp, g, dr, tk, os⟩ := s1
  let n := hp.objs.size
  let h1 := (hp.push (PySem.W.kdv_tup us)).push (PySem.HandSPX.excO C n)
  have le1 : n ≤ n + 1 := Nat.le_succ _
  have fr : H1 (n + 1) = none := I1.hok.fresh le1
  have grow : ∀ b o, hp.get? b = some o → h1.get? b = some o := fun b o e => Heap.get?_push_of_some _ (Heap.get?_push_of_some _ e)
  have there : h1.get? (n + 1) = some (PySem.HandSPX.excO C n) := by
    show ((hp.push (PySem.W.kdv_tup us)).push (PySem.HandSPX.excO C hp.objs.size)).get? (hp.objs.size + 1) = some (PySem.HandSPX.excO C hp.objs.size)
    heap_get
  have want := q1 (n + 1) fr
  have I2 : Inv X pins σ (upd H1 (n + 1) (exo (n + 1) C none)) ⟨h1, g, dr, tk, os⟩ := I1.laid (t' := tk) (a := n + 1) (o := exo (n + 1) C none) (h' := h1) grow le1 (exo_ok there)
  have r2 : Vals (V.ref (n + 1) :: (vs ++ dvs)) (Value.ref (n + 1) :: (us ++ ds)) := .cons rfl (r1.append hd)
  have hl : (Value.ref (n + 1) :: us ++ ds).length = ps.length := by
    have := r2.length
    rw [F1.len _ _ _ _ want] at this
    exact this.symm
  have few : us.length ≤ sizeLine := by rw [← Paired.length r1, sizeLine_eq]; omega
  have run1 := F1.run _ X.stack _ _ ⟨Value.ref (n + 1) :: us, []⟩ (Value.ref (n + 1) :: (us ++ ds)) _ _ (fun _ _ _ => False) (hr.make C us []) (I2.env0.make C us []) (hb _ (Value.ref (n + 1) :: us) I2.kIn hl) r2 want
  have beh : ∀ (r : Result) (s' : Shared), CR CX X.stack X.prog X.w (upd H1 (n + 1) (exo (n + 1) C none)) ⟨h1, g, dr, tk, os⟩ (fun v H2 => v = .non ∧ ∃ (d : Addr) (fs : List (Str × V)), H2 (n + 1) = some (exo (n + 1) C (some d)) ∧ H2 d = some (exd d fs) ∧ H1 d = none ∧ Q (.ref C) (some d) (upd (del H2 (n + 1)) d (.xd fs))) (fun _ _ _ => False) r s' →
      (∃ u, r = .ok (.ret u) ∧ u = Value.none ∧ L2N.MkP X pins σ Q (.ref (n + 1)) s') ∨ ∃ er, r = .error er ∧ X.xe er s' := fun r s' hq' => by
    match r, hq' with
    | .error er, hq' => exact .inr ⟨er, rfl, hx pins σ _ _ er s' I2 hq'⟩
    | .ok (.ret u), hq' =>
      obtain ⟨v, H2, os2, bare2, un2, hok2, rv, ev, d, fs, ea, ed, hd1, q2⟩ := hq'
      subst ev
      obtain ⟨h2, g2, d2, t2, os'⟩ := s'
      obtain ⟨t0, G, J, kG, ge, hoe, na⟩ := mk_end0 (d2 := d2) (t2 := t2) I1 le1 grow un2 hok2 os2 bare2 ea ed hd1
      refine .inl ⟨u, rfl, rv, n + 1, _, _, ⟨G, g2, d2, t2, os'⟩, _, .ref C, some d, rfl, J, kG, ge, hoe, ⟨rfl, rfl, fun ws hw => ?_⟩, rfl, rfl, na, rfl, bare2, raises_own T.exC T.tyC, q2⟩
      cases hw; rfl
    | .ok .next, hq' => exact hq'.elim
    | .ok .brk, hq' => exact hq'.elim
    | .ok .cont, hq' => exact hq'.elim
  refine wpAny_call (PySem.HandSPX.call_own F.excBase_ValueError (fun Y => PySem.HandSPX.refsVE_contains Y bm hbm) (I1.kIn _ _ hC) (PySem.W.looks_findIn I1.kIn iC) (fun self => PySem.W.bind_fn I1.kIn self tI) few (codeAny_mono run1 fun r s' z => ?_))
  rcases beh r s' z with ⟨u, rfl, e, y⟩ | ⟨er, rfl, y⟩
  · exact ⟨e, y⟩
  · exact y
/-! ### a def that is handed the exception in hand -/
structure FnP (P : Program) (w : World) (K : PySem.W.Frag) (mg : Str → Option Value) (base : Heap) (k : Nat) (f : Addr) (fd : FuncData) (ps : List Str) (sp : Addr × Obj → Sp) : Prop where
  many : ∀ p vs H Q E, sp p vs H Q E → vs.length = ps.length
  goes : ∀ (p : Addr × Obj) (A : Around) (outer : List Env) (s : Shared) (H : Hp) (args : Args) (us : List Value) (vs : List V) (Q : VK) (E : XK), RoomH k A → Hot1 A p → PinOk outer H s p → Env0 P w K mg base A outer s H → BindsTo s fd args (ps.zip us) →
    Vals vs us → sp p vs H Q E → codeAny (model P w) A (.call (.ref f) args) (CR CX0 outer P w H s Q E) s
section
variable {P : Program} {w : World} {K : PySem.W.Frag} {mg : Str → Option Value} {base : Heap}
theorem okP {x qual : Str} {st : Stmt} {f : Addr} {fd : FuncData} {N ps : List Str} {k : Nat} {sp : Addr × Obj → Sp} (F : Fun K x qual st f fd) (S : FnScope N ps (defScope st)) (len : ∀ p vs H Q E, sp p vs H Q E → vs.length = ps.length)
    (bd : ∀ (p : Addr × Obj) (cdv : Value) (A : Around) (outer : List Env) (s : Shared) (H : Hp) (vs : List V) (Q : VK) (E : XK), Hot1 A p → RoomH k (A.deeper (envOfC qual (defScope st) s.heap.objs.size f cdv)) → sp p vs H Q E →
      ∃ t, PSs (cxH CX0 P w K mg base N qual (defScope st) f cdv A outer s H E p).nox (defBody st) t ∧ t { nx := fun _ H' => Q .non H', rt := Q } (L2.start N vs) H) : FnP P w K mg base (k + 1) f fd ps sp := by
  obtain ⟨_, _, kV, doc, pm, an, cdv, ct, _, rfl, l1, l2⟩ := F.ex
  refine ⟨len, fun p A outer s H args us vs Q E r0 hot hpin e0 hb r hsp => ?_⟩
  have many := len _ _ _ _ _ hsp
  have KX : K.In s.heap := e0.mod.kin.keeps fun b o e => (e0.bs b o e).1
  have lm : s.heap.NoLimit := e0.mod.nolimit.keeps fun b o e => (e0.bs b o e).1
  refine codeAny_call_function r0.depth (KX _ _ l1) rfl S.co S.gen rfl (PySem.W.codeRec_of KX l2) (hb _ _ _ _ (wpAny_newFunctionEnv_cells S.kind (fun y hy => ?_) fun env he s1 z => ?_))
  · obtain ⟨n, v⟩ := y
    exact (S.par n (List.of_mem_zip hy).1).imp (fun q => q) fun q => ⟨q, PySem.W.cellsFrom_some _ _ _ (.inl q)⟩
  subst he
  obtain ⟨t, ht, hq⟩ := bd p cdv A outer s H vs Q E hot (r0.deeper _) hsp
  have I := inv_startH (CX := CX0) (E := E) S hpin e0 many r z
  refine ⟨lm.keeps z.toInCall.keep, codeAny_func (wpAny_mono (ht.nox.run [] s1 (L2.start N vs) H _ I hq) (fun fl s' hs => ?_) fun _ _ y => y)⟩
  match fl, hs with
  | .ret u, ⟨v, σ', H', J, rv, q⟩ => exact ⟨v, H', J.os, J.bare, J.base, J.hok, rv, q⟩
  | .next, ⟨σ', H', J, q⟩ => exact ⟨V.non, H', J.os, J.bare, J.base, J.hok, (rfl : Value.none = Value.none), q⟩
  | .brk, ⟨_, _, _, q⟩ => exact q.elim
  | .cont, ⟨_, _, _, q⟩ => exact q.elim
theorem okH {x qual : Str} {st : Stmt} {f : Addr} {fd : FuncData} {N ps : List Str} {k : Nat} {sp : Sp} (F : Fun K x qual st f fd) (S : FnScope N ps (defScope st)) (len : ∀ vs H Q E, sp vs H Q E → vs.length = ps.length)
    (bd : ∀ (p : Addr × Obj) (cdv : Value) (A : Around) (outer : List Env) (s : Shared) (H : Hp) (vs : List V) (Q : VK) (E : XK), Hot1 A p → RoomH k (A.deeper (envOfC qual (defScope st) s.heap.objs.size f cdv)) → sp vs H Q E →
      ∃ t, PSs (cxH CX0 P w K mg base N qual (defScope st) f cdv A outer s H E p).nox (defBody st) t ∧ t { nx := fun _ H' => Q .non H', rt := Q } (L2.start N vs) H) : FnH P w K mg base CX0 (k + 1) f fd ps sp :=
  have F1 : FnP P w K mg base (k + 1) f fd ps (fun _ => sp) := okP F S (fun _ => len) bd
  ⟨len, fun A outer s H args us vs Q E p h1 h2 h3 h4 h5 h6 h7 => F1.goes p A outer s H args us vs Q E h1 h2 h3 h4 h5 h6 h7⟩
end
theorem fnH_vac {P : Program} {w : World} {K : PySem.W.Frag} {mg : Str → Option Value} {base : Heap} {k : Nat} {f : Addr} {fd : FuncData} {ps : List Str} {sp : Sp} (h : ∀ vs H Q E, ¬ sp vs H Q E) : FnH P w K mg base CX0 k f fd ps sp :=
  ⟨fun vs H Q E z => absurd z (h vs H Q E), fun _ _ _ H _ _ vs Q E _ _ _ _ _ _ _ z => absurd z (h vs H Q E)⟩
theorem hotOf {X : Cx} {p : Addr × Obj} (h : Hot1 X.A p) (m : p ∈ X.pn) : HotC X := ⟨p, h, m⟩
section
variable {X : Cx} {k : Nat} {f : Addr} {fd : FuncData} {ps : List Str} {sp : Addr × Obj → Sp} {x : Str} {q pos : Pos} {e : Expr} {es : List Expr} {t : TA} {p : Addr × Obj}
def tCallP (sp : Addr × Obj → Sp) (p : Addr × Obj) (t : TA) : TE := fun σ H Q => t σ H fun vs H1 => sp p vs H1 Q E0
/-- the call that hands it on -/
theorem pe_callP (F : FnP X.prog X.w X.K X.mg X.base k f fd ps sp) (hr : RoomH k X.A) (hot : Hot1 X.A p) (hp : p ∈ X.pn) (hg : Gl X x) (hm : X.mg x = some (.ref f)) (hk : PySem.W.keepIn X.K (.ref f) = true) (hb : Binds X.K fd ps [])
    (ha : PA X (e :: es) t) (hdb : (x == ("__debug__" : Str)) = false := by decide) (he : starEach (e :: es) X.env = (false, eval e X.env) :: starEach es X.env := by rfl) (hpl : (backTo pos (starEach es X.env)).any (·.1) = false := by rfl) :
    PE X (.Call (.Name x q) (e :: es) [] pos) (tCallP sp p t) := by
  refine ⟨fun pins s σ H Q I h => wpAny_Call_Name_kw (ld_glob I hg hm (PySem.W.callWith_K (h₀ := X.base) I.ok.mod.kin hk (thn (ha.run pos pins s σ H _ I h) fun us s1 ⟨vs, H1, I1, r, q⟩ => ⟨I1.kIn, ?_⟩) he hpl) hdb)⟩
  have ln : us.length = ps.length := by rw [← r.length]; exact F.many _ _ _ _ _ q
  have b := hb s1 us I1.kIn (by rw [List.append_nil]; exact ln)
  rw [List.append_nil] at b
  obtain ⟨p1, p2, p3, p4, p5⟩ := I1.pin p (List.mem_append_left _ hp)
  have ok : PinOk X.stack H1 s1 p := ⟨p1, p2, fun m => (List.mem_cons.mp (I1.stkSub p.1 m)).elim p3 p4, p5⟩
  refine wpAny_call (codeAny_mono (F.goes p X.A X.stack s1 H1 ⟨us, []⟩ us vs Q E0 hr hot ok I1.env0 b r q) fun o s2 ho => ?_)
  match o, ho with
  | .error _, ho => exact ho.elim
  | .ok (.ret _), ho => exact I1.after ho
  | .ok .next, ho => exact ho.elim
  | .ok .brk, ho => exact ho.elim
  | .ok .cont, ho => exact ho.elim
end
/-! ### what such a def asks of it -/
section
variable {X : Cx} {a C : Addr} {oe : Obj} {cls : Value} {d : Option Addr}
theorem inst_p {dd : Addr} {fs : List (Str × V)} {pins : List (Addr × Obj)} {σ : L2.St} {H : Hp} {s : Shared} (hp : (a, oe) ∈ X.pn) (hz : Zc cls d oe) (hf : ∃ vs, oe.data = .fields vs) (I : Inv X pins σ H s) (e1 : cls = .ref C) (e2 : d = some dd) (e3 : H dd = some (.xd fs)) :
    ∃ od, PySem.W.InstAt s.heap a oe C od := by
  subst e1 e2
  obtain ⟨g, _⟩ := I.pin (a, oe) (List.mem_append_left _ hp)
  obtain ⟨vs, hd⟩ := hf
  obtain ⟨_, n, _⟩ := (show ObjOk X.prog X.w H s.heap dd (.xd fs) from I.hok dd _ e3)
  obtain ⟨od, ho, _⟩ := lookIn_ns n
  exact ⟨some od, g, hz.1, by unfold PySem.W.notCls; rw [hd] <;> rfl, by rw [hz.2]; exact ho⟩
theorem call_isP (hp : (a, oe) ∈ X.pn) (hz : Zc cls d oe) (hf : ∃ vs, oe.data = .fields vs) : CallR X (.builtin "isinstance") (rIsX X.K a cls d) := by
  rintro ps₁ s₁ τ G xs us R J r ⟨C, dd, fs, c, u, b, e1, e2, e3, T, rfl, k, e, q⟩
  obtain ⟨v1, v2, rfl, w1, w2⟩ := vals2 r
  obtain rfl := k.eq w2
  obtain rfl : v1 = Value.ref a := w1
  obtain ⟨od, y⟩ := inst_p hp hz hf J e1 e2 e3
  exact PySem.W.kia_one (PySem.W.kitx_exc T.hc T.hg T.hk T.hs T.ha T.hn T.ht T.hm) J.kIn y e (fun z => nomatch z) fun tk => ⟨.bl b, G, J.tok tk, rfl, q⟩
theorem pe_xfP {e : Expr} {te : TE} {pos : Pos} {n : Str} (T : XfC X.K C) (hno : PySem.W.findIn X.K (.ref C) n = some none) (hp : (a, oe) ∈ X.pn) (hz : Zc cls d oe) (hf : ∃ vs, oe.data = .fields vs) (he : PE X e te)
    (hb : attributeBase e n X.env (eval e X.env) = eval e X.env := by rfl) : PE X (.Attribute e n pos) (tXf a cls d C n te) := by
  refine ⟨fun pins s σ H Q I h => attr_of hb (thn (he.run pins s σ H _ I h) fun u s1 ⟨x, H1, I1, rx, ex, ec, dd, fs, v, ed, ea, l, q⟩ => ?_)⟩
  subst ex ec ed
  obtain rfl : u = Value.ref a := rx
  obtain ⟨mA, n1, n2⟩ := (show ObjOk X.prog X.w H1 s1.heap dd (.xd fs) from I1.hok dd _ ea)
  obtain ⟨od, ho, hl⟩ := lookIn_ns n1
  obtain ⟨u, hu, ru⟩ := RelO.some_of (v := v) (o := mA n) (by rw [← l]; exact n2 n)
  obtain ⟨vs, hd⟩ := hf
  have J : PySem.W.InstAt s1.heap a oe C (some od) := ⟨(I1.pin (a, oe) (List.mem_append_left _ hp)).1, hz.1, by unfold PySem.W.notCls; rw [hd] <;> rfl, by rw [hz.2]; exact ho⟩
  exact HandSPX.exc_get I1.kIn J T.ga T.gg T.exC (PySem.W.findObj_own T.hdC hno rfl (by rw [hl, hu])) (handed_of ru) ⟨v, H1, I1.tok _, ru, q⟩
end
/-- the exception that a suite holds is hot -/
theorem hot_suite {X : Cx} {a : Addr} {oe : Obj} {cls : Value} {d : Option Addr} {pn : List (Addr × Obj)} (hz : L2N.Zn cls d oe) (hf : ∃ vs, oe.data = .fields vs) : Hot1 (X.suite a ((a, oe) :: pn)).A (a, oe) := by
  obtain ⟨vs, e⟩ := hf
  exact ⟨rfl, vs, e, hz.2.2 vs e⟩
end Lk

set_option Elab.async false
set_option linter.all false
set_option maxRecDepth 100000
set_option maxHeartbeats 4000000
namespace Lk
open PySem PySem.Spec PyProof.Rows L2
/-! ### displays: what they come to, as data -/
def EvD (K : PySem.W.Frag) (σ : L2.St) (H0 : Hp) (t : TE) (d : PyData) : Prop := ∀ (H : Hp) (Q : VK), Same H0 H → (∀ x H', Same H H' → Dp K H' x d → Q x H') → t σ H Q
def EvA (K : PySem.W.Frag) (σ : L2.St) (H0 : Hp) (t : TA) (ds : List PyData) : Prop := ∀ (H : Hp) (Q : List V → Hp → Prop), Same H0 H → (∀ xs H', Same H H' → DpAll K H' xs ds → Q xs H') → t σ H Q
section
variable {K : PySem.W.Frag} {σ : L2.St} {H0 : Hp}
theorem ev_int {i : Int} : EvD K σ H0 (tC (.int i)) (.int i) := fun _ _ _ k => k _ _ (Same.refl _) (.int i)
theorem ev_str {s : Str} : EvD K σ H0 (tC (.str s)) (.str s) := fun _ _ _ k => k _ _ (Same.refl _) (.str s)
theorem ev_bl {b : Bool} : EvD K σ H0 (tC (.bl b)) (.bool b) := fun _ _ _ k => k _ _ (Same.refl _) (.bl b)
theorem ev_non : EvD K σ H0 (tC .non) .none := fun _ _ _ k => k _ _ (Same.refl _) .non
theorem ev_neg {i : Int} : EvD K σ H0 (tUn (rU fun i => .int (-i)) (tC (.int i))) (.int (-i)) := fun _ _ _ k => ⟨i, rfl, k _ _ (Same.refl _) (.int (-i))⟩
theorem ev_var {i : Nat} {x : V} {d : PyData} (h : σ[i]? = some (some x)) (hd : Dp K H0 x d) : EvD K σ H0 (tVar i) d := fun _ _ e k => ⟨x, h, k x _ (Same.refl _) (dp_same e hd)⟩
theorem ea_nil : EvA K σ H0 tNil [] := fun _ _ _ k => k _ _ (Same.refl _) .nil
theorem ea_cons {t : TE} {ts : TA} {d : PyData} {ds : List PyData} (a : EvD K σ H0 t d) (b : EvA K σ H0 ts ds) : EvA K σ H0 (tCons t ts) (d :: ds) := fun H Q e k =>
  a H _ e fun x H1 e1 h1 => b H1 _ (e.trans e1) fun xs H2 e2 h2 => k (x :: xs) H2 (e1.trans e2) (.cons (dp_same e2 h1) h2)
theorem ev_tup {ts : TA} {ds : List PyData} (a : EvA K σ H0 ts ds) (n : ds.length ≤ 1000) : EvD K σ H0 (tTup ts) (.tuple ds) := fun H Q e k =>
  a H _ e fun xs H1 e1 h1 => ⟨by rw [dp_len h1]; exact Nat.le_of_lt (szl (by omega)), fun p hp => k _ _ (e1.trans (same_new hp _)) (.tup (SqT.of upd_same) (dpAll_same (same_new hp _) h1))⟩
theorem ev_lst {ts : TA} {ds : List PyData} (a : EvA K σ H0 ts ds) (n : ds.length ≤ 1000) : EvD K σ H0 (tLst ts) (.list ds) := fun H Q e k =>
  a H _ e fun xs H1 e1 h1 => ⟨by rw [dp_len h1]; exact Nat.le_of_lt (szl (by omega)), fun p hp => k _ _ (e1.trans (same_new hp _)) (.lst (SqL.of upd_same) (dpAll_same (same_new hp _) h1))⟩
theorem tup_of {H : Hp} {x : V} {ds : List PyData} (h : Dp K H x (.tuple ds)) : ∃ (a : Addr) (xs : List V), x = .ref a ∧ SqT K H a xs ∧ DpAll K H xs ds := by
  cases h with
  | tup h a => exact ⟨_, _, rfl, h, a⟩
theorem lst_of {H : Hp} {x : V} {ds : List PyData} (h : Dp K H x (.list ds)) : ∃ (a : Addr) (xs : List V), x = .ref a ∧ SqL K H a xs ∧ DpAll K H xs ds := by
  cases h with
  | lst h a => exact ⟨_, _, rfl, h, a⟩
theorem dpAll_cat {H : Hp} : ∀ {xs ys : List V} {ds es : List PyData}, DpAll K H xs ds → DpAll K H ys es → DpAll K H (xs ++ ys) (ds ++ es)
  | _, _, _, _, .nil, h => h
  | _, _, _, _, .cons a b, h => .cons a (dpAll_cat b h)
theorem ev_cat {ta tb : TE} {ds es : List PyData} (a : EvD K σ H0 ta (.tuple ds)) (b : EvD K σ H0 tb (.tuple es)) (n : ds.length ≤ 1000) (m : es.length ≤ 1000) : EvD K σ H0 (tOp (rCatS K) ta tb) (.tuple (ds ++ es)) := fun H Q e k =>
  a H _ e fun x H1 e1 h1 => b H1 _ (e.trans e1) fun y H2 e2 h2 => by
    obtain ⟨p, xs, rfl, hp, hx⟩ := tup_of (dp_same e2 h1)
    obtain ⟨q, ys, rfl, hq, hy⟩ := tup_of h2
    refine ⟨p, q, xs, ys, rfl, rfl, hp, hq, by rw [dp_len hx, dp_len hy]; exact Nat.le_of_lt (szl (by omega)), fun r H3 e3 h3 => ?_⟩
    exact k _ _ ((e1.trans e2).trans e3) (.tup h3 (dpAll_cat (dpAll_same e3 hx) (dpAll_same e3 hy)))
theorem dpAll_drop {H : Hp} : ∀ {xs : List V} {ds : List PyData} (n : Nat), DpAll K H xs ds → DpAll K H (xs.drop n) (ds.drop n)
  | _, _, 0, h => h
  | _, _, n + 1, .nil => .nil
  | _, _, n + 1, .cons a b => dpAll_drop n b
theorem dpAll_takes {H : Hp} : ∀ {xs : List V} {ds : List PyData} (n : Nat), DpAll K H xs ds → DpAll K H (xs.take n) (ds.take n)
  | _, _, 0, h => .nil
  | _, _, n + 1, .nil => .nil
  | _, _, n + 1, .cons a b => .cons a (dpAll_takes n b)
theorem dpAll_reverse {H : Hp} : ∀ {xs : List V} {ds : List PyData}, DpAll K H xs ds → DpAll K H xs.reverse ds.reverse
  | _, _, .nil => .nil
  | x :: xs, d :: ds, .cons a b => by
    rw [List.reverse_cons, List.reverse_cons]
    exact dpAll_app (dpAll_reverse b) a
theorem ev_rev {ta : TE} {ds : List PyData} (a : EvD K σ H0 ta (.tuple ds)) : EvD K σ H0 (tRevT K ta) (.tuple ds.reverse) := fun H Q e k =>
  a H _ e fun x H1 e1 h1 => by
    obtain ⟨p, xs, rfl, hp, hx⟩ := tup_of h1
    refine ⟨p, xs, rfl, hp, fun q hq => ?_⟩
    exact k _ _ (e1.trans (same_new hq _)) (.tup (SqT.of upd_same) (dpAll_same (same_new hq _) (dpAll_reverse hx)))
theorem ev_list {ta : TE} {ds : List PyData} (a : EvD K σ H0 ta (.tuple ds)) : EvD K σ H0 (tCB (fun xs H Q => ∃ p ys, xs = [V.ref p] ∧ (SqL K H p ys ∨ SqT K H p ys) ∧ ∀ l, H l = none → Q (.ref l) (upd H l (.lst ys))) (tCons ta tNil)) (.list ds) := fun H Q e k =>
  a H _ e fun x H1 e1 h1 => by
    obtain ⟨p, xs, rfl, hp, hx⟩ := tup_of h1
    refine ⟨p, xs, rfl, .inr hp, fun q hq => ?_⟩
    exact k _ _ (e1.trans (same_new hq _)) (.lst (SqL.of upd_same) (dpAll_same (same_new hq _) hx))
theorem ev_cut {ta : TE} {ds : List PyData} (a : EvD K σ H0 ta (.tuple ds)) : EvD K σ H0 (tSl (rSlS K) ta (tPart (tUn (rU fun i => .int (-i)) (tC (.int 1)))) tNoPart) (.tuple ((ds.drop (HT.sIx ds.length 0 (some (-1)))).take (HT.sIx ds.length ds.length none - HT.sIx ds.length 0 (some (-1))))) := fun H Q e k =>
  a H _ e fun x H1 e1 h1 => by
    obtain ⟨p, xs, rfl, hp, hx⟩ := tup_of h1
    refine ⟨1, rfl, -1, rfl, p, xs, rfl, hp, fun q H2 e2 h2 => ?_⟩
    refine k _ _ (e1.trans e2) (.tup h2 ?_)
    unfold cutV
    rw [dp_len hx]
    exact dpAll_takes _ (dpAll_drop _ (dpAll_same e2 hx))
theorem ev_add {ta tb : TE} {i j : Int} (a : EvD K σ H0 ta (.int i)) (b : EvD K σ H0 tb (.int j)) : EvD K σ H0 (tOp (rI0 fun i j => .int (i + j)) ta tb) (.int (i + j)) := fun H Q e k =>
  a H _ e fun x H1 e1 h1 => b H1 _ (e.trans e1) fun y H2 e2 h2 => by
    cases h1; cases h2
    exact ⟨_, _, rfl, rfl, k _ _ (e1.trans e2) (.int _)⟩
theorem goS {t : TE} {rest : TS} {D : Ends} {i : Nat} {d : PyData} (e : EvD K σ H0 t d) (k : ∀ x H', Same H0 H' → Dp K H' x d → rest D (σ.set i (some x)) H') : tSeq (tAsg t (gName i)) rest D σ H0 := e H0 _ (Same.refl _) k
end
/-! ### the same, away from a list at l -/
def EvE (K : PySem.W.Frag) (l : Addr) (σ : L2.St) (H0 : Hp) (t : TE) (d : PyData) : Prop := ∀ (H : Hp) (Q : VK), Same H0 H → (∀ x H', Same H H' → Dp K (del H' l) x d → Q x H') → t σ H Q
def EaE (K : PySem.W.Frag) (l : Addr) (σ : L2.St) (H0 : Hp) (t : TA) (ds : List PyData) : Prop := ∀ (H : Hp) (Q : List V → Hp → Prop), Same H0 H → (∀ xs H', Same H H' → DpAll K (del H' l) xs ds → Q xs H') → t σ H Q
section
variable {K : PySem.W.Frag} {l : Addr} {σ : L2.St} {H0 : Hp}
theorem off_new {H H1 : Hp} {zs : List V} {p : Addr} {o : HO} (hl : H l = some (.lst zs)) (e : Same H H1) (hp : H1 p = none) : p ≠ l ∧ (del (upd H1 p o) l) p = some o := by
  have n : p ≠ l := fun z => by rw [z, e _ _ hl] at hp; cases hp
  exact ⟨n, by rw [del_ne n]; exact upd_same⟩
theorem ee_int {i : Int} : EvE K l σ H0 (tC (.int i)) (.int i) := fun _ _ _ k => k _ _ (Same.refl _) (.int i)
theorem ee_str {s : Str} : EvE K l σ H0 (tC (.str s)) (.str s) := fun _ _ _ k => k _ _ (Same.refl _) (.str s)
theorem ee_bl {b : Bool} : EvE K l σ H0 (tC (.bl b)) (.bool b) := fun _ _ _ k => k _ _ (Same.refl _) (.bl b)
theorem ee_non : EvE K l σ H0 (tC .non) .none := fun _ _ _ k => k _ _ (Same.refl _) .non
theorem ee_neg {i : Int} : EvE K l σ H0 (tUn (rU fun i => .int (-i)) (tC (.int i))) (.int (-i)) := fun _ _ _ k => ⟨i, rfl, k _ _ (Same.refl _) (.int (-i))⟩
theorem ee_var {i : Nat} {x : V} {d : PyData} (h : σ[i]? = some (some x)) (hd : Dp K (del H0 l) x d) : EvE K l σ H0 (tVar i) d := fun _ _ e k => ⟨x, h, k x _ (Same.refl _) (dp_same (same_del l e) hd)⟩
theorem eb_nil : EaE K l σ H0 tNil [] := fun _ _ _ k => k _ _ (Same.refl _) .nil
theorem eb_cons {t : TE} {ts : TA} {d : PyData} {ds : List PyData} (a : EvE K l σ H0 t d) (b : EaE K l σ H0 ts ds) : EaE K l σ H0 (tCons t ts) (d :: ds) := fun H Q e k =>
  a H _ e fun x H1 e1 h1 => b H1 _ (e.trans e1) fun xs H2 e2 h2 => k (x :: xs) H2 (e1.trans e2) (.cons (dp_same (same_del l e2) h1) h2)
theorem ee_tup {ts : TA} {ds : List PyData} {zs : List V} (hl : H0 l = some (.lst zs)) (a : EaE K l σ H0 ts ds) (n : ds.length ≤ 1000) : EvE K l σ H0 (tTup ts) (.tuple ds) := fun H Q e k =>
  a H _ e fun xs H1 e1 h1 => ⟨by rw [dp_len h1]; exact Nat.le_of_lt (szl (by omega)), fun p hp => k _ _ (e1.trans (same_new hp _)) (.tup (SqT.of (off_new hl (e.trans e1) hp).2) (dpAll_same (same_del l (same_new hp _)) h1))⟩
theorem ee_lst {ts : TA} {ds : List PyData} {zs : List V} (hl : H0 l = some (.lst zs)) (a : EaE K l σ H0 ts ds) (n : ds.length ≤ 1000) : EvE K l σ H0 (tLst ts) (.list ds) := fun H Q e k =>
  a H _ e fun xs H1 e1 h1 => ⟨by rw [dp_len h1]; exact Nat.le_of_lt (szl (by omega)), fun p hp => k _ _ (e1.trans (same_new hp _)) (.lst (SqL.of (off_new hl (e.trans e1) hp).2) (dpAll_same (same_del l (same_new hp _)) h1))⟩
theorem ee_cat {ta tb : TE} {ds es : List PyData} {zs : List V} (hl : H0 l = some (.lst zs)) (a : EvE K l σ H0 ta (.tuple ds)) (b : EvE K l σ H0 tb (.tuple es)) (n : ds.length ≤ 1000) (m : es.length ≤ 1000) : EvE K l σ H0 (tOp (rCatS K) ta tb) (.tuple (ds ++ es)) := fun H Q e k =>
  a H _ e fun x H1 e1 h1 => b H1 _ (e.trans e1) fun y H2 e2 h2 => by
    obtain ⟨p, xs, rfl, hp, hx⟩ := tup_of (dp_same (same_del l e2) h1)
    obtain ⟨q, ys, rfl, hq, hy⟩ := tup_of h2
    refine ⟨p, q, xs, ys, rfl, rfl, seqT_same (del_le _ l) hp, seqT_same (del_le _ l) hq, by rw [dp_len hx, dp_len hy]; exact Nat.le_of_lt (szl (by omega)), fun r H3 e3 h3 => ?_⟩
    exact k _ _ ((e1.trans e2).trans e3) (.tup (seqT_off h3 ((((e.trans e1).trans e2).trans e3) _ _ hl)) (dpAll_cat (dpAll_same (same_del l e3) hx) (dpAll_same (same_del l e3) hy)))
theorem ee_rev {ta : TE} {ds : List PyData} {zs : List V} (hl : H0 l = some (.lst zs)) (a : EvE K l σ H0 ta (.tuple ds)) : EvE K l σ H0 (tRevT K ta) (.tuple ds.reverse) := fun H Q e k =>
  a H _ e fun x H1 e1 h1 => by
    obtain ⟨p, xs, rfl, hp, hx⟩ := tup_of h1
    refine ⟨p, xs, rfl, seqT_same (del_le _ l) hp, fun q hq => ?_⟩
    exact k _ _ (e1.trans (same_new hq _)) (.tup (SqT.of (off_new hl (e.trans e1) hq).2) (dpAll_same (same_del l (same_new hq _)) (dpAll_reverse hx)))
theorem ee_list {ta : TE} {ds : List PyData} {zs : List V} (hl : H0 l = some (.lst zs)) (a : EvE K l σ H0 ta (.tuple ds)) : EvE K l σ H0 (tCB (fun xs H Q => ∃ p ys, xs = [V.ref p] ∧ (SqL K H p ys ∨ SqT K H p ys) ∧ ∀ l, H l = none → Q (.ref l) (upd H l (.lst ys))) (tCons ta tNil)) (.list ds) := fun H Q e k =>
  a H _ e fun x H1 e1 h1 => by
    obtain ⟨p, xs, rfl, hp, hx⟩ := tup_of h1
    refine ⟨p, xs, rfl, .inr (seqT_same (del_le _ l) hp), fun q hq => ?_⟩
    exact k _ _ (e1.trans (same_new hq _)) (.lst (SqL.of (off_new hl (e.trans e1) hq).2) (dpAll_same (same_del l (same_new hq _)) hx))
theorem ee_cut {ta : TE} {ds : List PyData} {zs : List V} (hl : H0 l = some (.lst zs)) (a : EvE K l σ H0 ta (.tuple ds)) : EvE K l σ H0 (tSl (rSlS K) ta (tPart (tUn (rU fun i => .int (-i)) (tC (.int 1)))) tNoPart) (.tuple ((ds.drop (HT.sIx ds.length 0 (some (-1)))).take (HT.sIx ds.length ds.length none - HT.sIx ds.length 0 (some (-1))))) := fun H Q e k =>
  a H _ e fun x H1 e1 h1 => by
    obtain ⟨p, xs, rfl, hp, hx⟩ := tup_of h1
    refine ⟨1, rfl, -1, rfl, p, xs, rfl, seqT_same (del_le _ l) hp, fun q H2 e2 h2 => ?_⟩
    refine k _ _ (e1.trans e2) (.tup (seqT_off h2 (((e.trans e1).trans e2) _ _ hl)) ?_)
    unfold cutV
    rw [dp_len hx]
    exact dpAll_takes _ (dpAll_drop _ (dpAll_same (same_del l e2) hx))
theorem ee_add {ta tb : TE} {i j : Int} (a : EvE K l σ H0 ta (.int i)) (b : EvE K l σ H0 tb (.int j)) : EvE K l σ H0 (tOp (rI0 fun i j => .int (i + j)) ta tb) (.int (i + j)) := fun H Q e k =>
  a H _ e fun x H1 e1 h1 => b H1 _ (e.trans e1) fun y H2 e2 h2 => by
    cases h1; cases h2
    exact ⟨_, _, rfl, rfl, k _ _ (e1.trans e2) (.int _)⟩
theorem goE {t : TE} {rest : TS} {D : Ends} {i : Nat} {d : PyData} (e : EvE K l σ H0 t d) (k : ∀ x H', Same H0 H' → Dp K (del H' l) x d → rest D (σ.set i (some x)) H') : tSeq (tAsg t (gName i)) rest D σ H0 := e H0 _ (Same.refl _) k
end
theorem takes0N {X : Cx} : L2N.Takes X (fun _ _ _ _ => False) := fun _ _ x => by
  obtain ⟨_, _, _, _, _, _, _, _, _, _, _, _, _, _, _, _, z⟩ := x
  exact z.elim
end Lk

set_option Elab.async false
set_option linter.all false
set_option maxRecDepth 100000
set_option maxHeartbeats 4000000
namespace Lk
open PySem PySem.Spec PyProof.Rows L2 HT
/-! ### l[::-1] of a list -/
def tRevL (K : PySem.W.Frag) (te : TE) : TE := fun σ H Q => te σ H fun x H1 => ∃ a xs, x = .ref a ∧ SqL K H1 a xs ∧ ∀ p, H1 p = none → Q (.ref p) (upd H1 p (.lst xs.reverse))
theorem vals_rev : ∀ {xs : List V} {us : List Value}, Vals xs us → Vals xs.reverse us.reverse
  | _, _, .nil => .nil
  | _, _, .cons a t => by
    rw [List.reverse_cons, List.reverse_cons]
    exact (vals_rev t).append (.cons a .nil)
theorem pe_revL {X : Cx} {e : Expr} {te : TE} {k : Nat} {p1 p2 p3 pos : Pos} (he : PE X e te) : PE X (.Subscript e (.Slice none none (some (.UnaryOp .USub (.Constant (.int 1) k p1) p2)) p3) pos) (tRevL X.K te) := by
  refine ⟨fun pins s σ H Q I h => Subscript_ (thn (he.run pins s σ H _ I h) fun v sA ⟨x, HA, IA, rA, a, xs, ex, hx, q⟩ => ?_)⟩
  subst ex
  cases rA
  have hst : PO X (some (.UnaryOp .USub (.Constant (.int 1) k p1) p2)) (tPart (tUn (rU fun i => .int (-i)) (tC (.int 1)))) := po_some (pe_un un_neg pe_int)
  refine wpAny_Slice (thn (po_none.run pins sA σ HA (fun o G => o = none ∧ G = HA) IA ⟨rfl, rfl⟩) fun vl sB ⟨l, HB, IB, pl, el, eB⟩ => ?_)
  subst el eB
  refine thn (po_none.run pins sB σ HB (fun o G => o = none ∧ G = HB) IB ⟨rfl, rfl⟩) fun vu sC ⟨u, HC, IC, pu, eu, eC⟩ => ?_
  subst eu eC
  refine thn (hst.run pins sC σ HC (fun o G => o = some (-1) ∧ G = HC) IC ⟨1, rfl, -1, rfl, rfl, rfl⟩) fun vs sD ⟨o, HD, ID, ps, eo, eD⟩ => ?_
  subst eo eD
  have IE : Inv X pins σ HD { sD with heap := sD.heap.push { cls := .type "slice", data := .fields #[vl, vu, vs] } } := ID.kept (t' := sD.toks) fun b ob q => Heap.get?_push_of_some _ q
  obtain ⟨its, r, ht, hz⟩ := IE.list hx
  show wpAny (model X.prog X.w) X.A (subscriptTail e (.Slice none none (some (.UnaryOp .USub (.Constant (.int 1) k p1) p2)) p3) (.ref a) (.ref sD.heap.objs.size)) (EP X pins σ Q) X.xe { sD with heap := sD.heap.push { cls := .type "slice", data := .fields #[vl, vu, vs] } }
  refine tail_any (ops := [.ref a, .ref sD.heap.objs.size]) ht.isList.typeIs slot_list_getitem.lookup ?_ (by with_unfolding_all rfl)
  have hlen := r.length
  refine wpAny_getItem_list_slice ht.isList (Heap.IsSliceOf.new _ vl vu vs) pl pu ps (by simp) ?_ (by rw [List.size_toArray, ← hlen]; exact hz)
  rw [PySem.W.krv_pick]
  have lz : xs.reverse.length ≤ sizeLine := by rw [List.length_reverse]; exact hz
  exact ⟨.ref _, _, IE.laid (t' := sD.toks) (o := .lst xs.reverse) (fun b ob q => Heap.get?_push_of_some _ q) (Nat.le_refl _) ⟨lz, _, 0, vals_rev r, Heap.get?_push_size _ rfl⟩, rfl, q _ (IE.hok.fresh (Nat.le_refl _))⟩
end Lk

set_option Elab.async false
set_option linter.all false
set_option maxRecDepth 100000
set_option maxHeartbeats 1000000
namespace Lk
open PySem PySem.Spec PyProof.Rows L2
section
variable {X : Cx}
/-- sorted(d): a dict whose keys are ints, of any number -/
def rSortDA : List V → Hp → VK → Prop := fun xs G Q => ∃ (a : Addr) (kvs : List (Key × V)) (ks : List Int), xs = [.ref a] ∧ Rd G a (.dK kvs) ∧ kvs.map (·.1) = ks.map Sum.inl ∧ ks.length ≤ 100000 ∧
  ∀ (zs : List Int) (p : Addr), zs.Perm ks → zs.Pairwise (· ≤ ·) → G p = none → Q (.ref p) (upd G p (.lst (zs.map V.int)))
theorem call_sortedDA (quiet : X.calm = true) : CallR X (.builtin "sorted") rSortDA := by
  rintro pins s σ G xs us Q J rel ⟨a, kvs, ks, rfl, hd, hk, hm, q⟩
  obtain ⟨u, rfl, ru⟩ := vals1 rel
  cases ru
  obtain ⟨_, lo, cs, rl, dd⟩ := dk_rd J.hok hd
  obtain ⟨ep, hat⟩ := dd.dictAt
  have keyed : cs.map (·.1) = ks.map Sum.inl := rl.keys.symm.trans hk
  have many : cs.length = ks.length := by simpa using congrArg List.length keyed
  have fits : cs.length ≤ sizeLine := by rw [many, sizeLine_eq]; omega
  refine Calls.call_function_entry kind_sorted plain_sorted entry_sorted (args_sorted1 _) ?_
  unfold Builtin.«sorted»
  refine wpAny_bind (m := checkCount "sorted" 1 1 _) (wpAny_pure ?_)
  refine wpAny_bind (PySem.W.kdu_collect (A := X.A.in1) (PySem.W.kdl_dict (knd := mixKind X.prog X.w) (kvs := cs) (ep := ep) lo) (J.ok.hd quiet) hat fits fun h1 t1 got keep gives => ?_)
  have gl : got.toList.length = ks.length := by rw [Array.length_toList, gives.1, many]
  have nums : IntsAre got.toList ks := ints_each gl fun j v e => by
    obtain ⟨k, x, e1, e2⟩ := gives.2 j v (by rw [← Array.getElem?_toList]; exact e)
    have e3 : (ks.map (Sum.inl (β := Str)))[j]? = some k := by rw [← keyed, List.getElem?_map, e1]; rfl
    rw [List.getElem?_map] at e3
    cases e4 : ks[j]? with
    | none => rw [e4] at e3; cases e3
    | some y =>
      rw [e4] at e3
      obtain rfl : Sum.inl y = k := Option.some.inj e3
      rcases keyIs_shape (show keyIs (Sum.inl y) v = true from e2) with ⟨i, t, ek, ev⟩ | ⟨z, t, ek, _⟩
      · cases ek; exact ⟨y, t, rfl, ev⟩
      · cases ek
  have J1 : Inv X pins σ G { s with heap := h1, toks := t1 } := J.kept keep
  refine wpAny_bind (wpAny_newList ?_ (by rw [gl, sizeLine_eq]; omega))
  have laid : (h1.push (seqObj "list" got.toList.toArray 0)).get? h1.objs.size = some (seqObj "list" got.toList.toArray 0) := Heap.get?_push_size _ rfl
  show wpAny _ _ _ _ _ { s with heap := h1.push (seqObj "list" got.toList.toArray 0), toks := t1 }
  refine wpAny_bind (wpAny_holding (wpAny_call_entry slot_list_sort ⟨_, laid, rfl⟩ entry_list_sort
    (list_sort_treeAny (s := { s with heap := h1.push (seqObj "list" got.toList.toArray 0), toks := t1 }) laid nums (by rw [gl, sizeLine_eq]; omega) fun out zs w1 w2 w3 => ⟨_, rfl, ?_⟩) (args_list_sort _)))
  obtain ⟨n', at'⟩ := sortedHeap_at (vs := got.toList) (out := out) laid
  have room : (zs.map V.int).length ≤ sizeLine := by rw [List.length_map, w2.length_eq, sizeLine_eq]; omega
  have ok1 : ObjOk X.prog X.w (upd G h1.objs.size (.lst (zs.map V.int))) (sortedHeap (h1.push (seqObj "list" got.toList.toArray 0)) h1.objs.size got.toList out) h1.objs.size (.lst (zs.map V.int)) :=
    ⟨room, out.toList, n', vals_of_ints w1, by rw [Array.toArray_toList]; exact at'⟩
  refine wpAny_pure ⟨_, rfl, .ref h1.objs.size, upd G h1.objs.size (.lst (zs.map V.int)), J1.laid (t' := t1) (fun b u e => ?_) (Nat.le_refl _) ok1, rfl, q zs _ w2 w3 (J1.hok.fresh (Nat.le_refl _))⟩
  have lt : b < h1.objs.size := Heap.lt_size e
  rw [sortedHeap_old (Nat.ne_of_lt lt) (by rw [size_push']; exact Nat.lt_succ_of_lt lt)]
  exact Heap.get?_push_of_some _ e
end
end Lk

set_option Elab.async false
set_option linter.all false
set_option maxRecDepth 100000
set_option maxHeartbeats 4000000
namespace Lk
open PySem PySem.Spec PyProof.Rows L2
/-! ### set(l) of ints, of a list or a tuple; sorted of such a set, of any number -/
abbrev nSet (w : World) : Obj := { cls := .type "set", dict := none, data := .set #[] 0 (.fresh 0 0 (!w.params.followText "set-order")) }
section
variable {P : Program} {w : World} {A : Around} {E : Value → Shared → Prop} {s : Shared}
theorem call_set_lst {d : Addr} {us : Array Value} (ns : List Int) {Q : Value → Shared → Prop} (quiet : A.handled = none) (hd : s.heap.IsList d us) (hI : IntsAre us.toList ns) (few : ns.length + 1 < scanBound)
    (fin : ∀ (g : Heap) (tk c : Nat), SetR w g s.heap.objs.size (fun j => decide (j ∈ ns)) c → c ≤ ns.length → (∀ b o, s.heap.get? b = some o → g.get? b = some o) → Q (.ref s.heap.objs.size) { s with heap := g, toks := tk }) :
    wpAny (model P w) A (call (.type "set") [.ref d]) Q E s := by
  have size : us.size = ns.length := by rw [← Array.length_toList]; exact IntsAre.length hI
  obtain ⟨c0, tl0, hm0⟩ := F.called_set.mro
  have k1 := F.called_set.made; have k2 := F.called_set.sub
  refine wpAny_call (codeAny_of_tree ?_); show wpAny _ _ (callAny (.type "set") _) _ _ _
  refine wpAny_pure ⟨Code.quiet_builtin _ (by decide +kernel), codeAny_builtin F.entry_type_call ?_⟩; rw [Around.under_plain (weight_type_call_type "set" [.ref d] []) rfl]
  have k3 := F.called_set.notType; have k4 := F.called_set.canCreate; have k5 := F.typeCall_set_1 (.ref d)
  repeat (any_goals (first | assumption | wp_step))
  refine codeAny_mono (code_set_led1 (.ref d) (E := E) (Q₁ := fun v s₁ => v = .ref s.heap.objs.size ∧ s₁ = { s with heap := s.heap.push (nSet w) }) ⟨rfl, rfl⟩) fun r s₁ hr => ?_
  match r, hr with
  | .error e, hr => exact hr
  | .ok .next, hr => exact hr.elim
  | .ok .brk, hr => exact hr.elim
  | .ok .cont, hr => exact hr.elim
  | .ok (.ret v), hr =>
    obtain ⟨rfl, rfl⟩ := hr
    have at0 : (s.heap.push (nSet w)).get? s.heap.objs.size = some (nSet w) := Heap.get?_push_size _ rfl
    have ty0 : Shared.TypeIs { s with heap := s.heap.push (nSet w) } (.ref s.heap.objs.size) "set" := ⟨_, at0, rfl⟩
    have k6 := F.called_set.init.lookup; have k7 := F.called_set.init.bind (.ref s.heap.objs.size)
    repeat (any_goals (first | assumption | wp_step))
    refine codeAny_mono (codeAny_call_builtin (R := wants (fun r s₂ => r = .none ∧ ∃ g tk c, s₂ = { s with heap := g, toks := tk } ∧ SetR w g s.heap.objs.size (fun j => decide (j ∈ ns)) c ∧ c ≤ ns.length ∧
        (∀ b o, s.heap.get? b = some o → g.get? b = some o)) E) F.called_set.init.plain F.entry_set_init (check_set_init_1 ty0 ?_)) fun q s₂ hq => ?_
    · obtain ⟨⟨c1, d1, da1, sl1⟩, e1, e2, n1, e3⟩ := hd
      simp only at e2 e3
      subst e2 e3
      have e4 : (s.heap.push (nSet w)).get? d = some { cls := .type "list", dict := d1, data := .seq us n1, slots := sl1 } := Heap.get?_push_of_some _ e1
      have n2 := F.sub_list_set; have n3 := F.sub_list_frozenset; have n4 : (Value.type "list" == Value.type "dict") = false := by decide
      have il : (s.heap.push (nSet w)).IsList d us := ⟨_, e4, rfl, n1, rfl⟩
      unfold Builtin.«set.__init__» noKeywords Builtin.Frozenset.updateFrom
      unfold nSet at *
      generalize hPI : pyIter = PI; wp_walk
      subst hPI
      refine wpAny_pyIter_list il ?_; refine wpAny_bind (wpAny_runValue ?_)
      have lt := Heap.lt_size e1
      have q3 : A.in1.in1.in1.handled = none := by simp [quiet]
      have zz : (s.heap.push (nSet w)).objs.size = s.heap.objs.size + 1 := Heap.size_push ..
      have ne1 : d ≠ (s.heap.push (nSet w)).objs.size := by rw [zz]; exact Nat.ne_of_lt (Nat.lt_succ_of_lt lt)
      have ne2 : s.heap.objs.size ∉ [(s.heap.push (nSet w)).objs.size, d] := by
        rw [zz]; simp only [List.mem_cons, List.not_mem_nil, or_false, not_or]; exact ⟨Nat.ne_of_lt (Nat.lt_succ_self _), Nat.ne_of_gt lt⟩
      have val : ∀ (i : Nat) (v : Value), us[i]? = some v → ∃ k t, ns[i]? = some k ∧ v = .int k t := fun i v hv => by
        have hi : i < ns.length := by rw [← size]; exact (Array.getElem?_eq_some_iff.mp hv).1
        obtain ⟨t, e⟩ := IntsAre.int_at hI i v (by rw [Array.getElem?_toList]; exact hv)
        exact ⟨ns[i], t, List.getElem?_eq_getElem hi, by rw [e, List.getD_eq_getElem?_getD, List.getElem?_eq_getElem hi]; rfl⟩
      refine set_update_ints ((Walks.list q3 _ d ne1 us).toS) s.heap.objs.size ne2 ns size few val (us.size - 0) 0 _ (by omega) (Nat.zero_le _) ⟨⟨_, Heap.get?_push_size _ rfl, rfl, rfl⟩, il.push _⟩ ?start ?finish
      case start => exact ⟨0, Nat.le_refl 0, setR_new_at (Heap.get?_push_of_some _ at0)⟩
      case finish =>
        rintro ⟨g, gs, dr, tk, os⟩ c mv hc R
        obtain rfl : gs = s.gens := mv.gens
        obtain rfl : dr = s.drawn := mv.drawn
        obtain rfl : os = s.os := mv.os
        show wpAny _ _ _ _ _ _
        refine wpAny_pure ?_; show wpAny _ _ (ret Value.none) _ _ _
        rw [size] at hc
        refine wpAny_pure ⟨rfl, g, tk, c, rfl, R, hc, fun b o e => ?_⟩
        have b0 := Heap.lt_size e
        have b2 : b ≠ (s.heap.push (nSet w)).objs.size := by rw [zz]; exact Nat.ne_of_lt (Nat.lt_succ_of_lt b0)
        exact mv.heap b o (by simp only [List.mem_cons, List.not_mem_nil, or_false, not_or]; exact ⟨Nat.ne_of_lt b0, b2⟩) (Heap.get?_push_of_some _ (Heap.get?_push_of_some _ e))
    · match q, hq with
      | .error e, hq => exact hq
      | .ok .next, hq => exact hq.elim
      | .ok .brk, hq => exact hq.elim
      | .ok .cont, hq => exact hq.elim
      | .ok (.ret v), hq =>
        obtain ⟨rfl, g, tk, c, rfl, R, hc, keep⟩ := hq
        repeat (any_goals (first | assumption | wp_step))
        exact fin _ _ _ R hc keep
end
section
variable {X : Cx}
def rSetN (K : PySem.W.Frag) (w : World) : List V → Hp → VK → Prop := fun xs H Q => ∃ (l : Addr) (ns : List Int), xs = [.ref l] ∧ (SqL K H l (iV ns) ∨ SqT K H l (iV ns)) ∧ ns.length ≤ 1000 ∧
  ∀ (a : Addr) (c : Nat), H a = none → c ≤ ns.length → Q (.ref a) (upd H a (SetO w a (fun j => decide (j ∈ ns)) c))
theorem call_setN (hc : X.calm = true) : CallR X (.type "set") (rSetN X.K X.w) := by
  rintro pins s σ H xs us Q I r ⟨l, ns, rfl, hq, few, q⟩
  rw [Vals.ref1 r]
  have hn := I.hok.fresh (Nat.le_refl _)
  have fb : ns.length + 1 < scanBound := by unfold scanBound; omega
  rcases hq with hq | hq
  · obtain ⟨its, rv, ⟨o, n, pt⟩, _⟩ := I.list hq
    refine call_set_lst ns (I.ok.hd hc) (show s.heap.IsList l its.toArray from ?_) (ints_of_vals rv) fb fun g tk c R hcn k => ?_
    · obtain ⟨ho, h2, h3⟩ := pt
      exact ⟨_, ho, h2, n, h3.2⟩
    · exact ⟨.ref _, _, I.laid (t' := tk) k (Nat.le_refl _) (setO_new R), rfl, q _ c hn hcn⟩
  · obtain ⟨its, rv, pt, _⟩ := I.tuple hq
    refine call_set_tupI ns (I.ok.hd hc) (show s.heap.IsTuple l its.toArray from pt) (ints_of_vals rv) fb fun g tk c R hcn k => ?_
    exact ⟨.ref _, _, I.laid (t' := tk) k (Nat.le_refl _) (setO_new R), rfl, q _ c hn hcn⟩
def rSortN (w : World) : List V → Hp → VK → Prop := fun vs H Q => ∃ (a : Addr) (S : Int → Bool) (n : Nat), vs = [.ref a] ∧ H a = some (SetO w a S n) ∧ n ≤ 1000 ∧
  ∀ (ns : List Int) (p : Addr), ns.Pairwise (· < ·) → (∀ k : Int, k ∈ ns ↔ S k = true) → H p = none → Q (.ref p) (upd H p (.lst (iV ns)))
theorem call_sortedN (quiet : X.calm = true) : CallR X (.builtin "sorted") (rSortN X.w) := by
  rintro pins s σ H xs us Q I r ⟨a, S, n, rfl, ha, few, q⟩
  obtain ⟨o, es, ep, tb, g1, g2, g3, g4, g5, g6, g7, g8, g9, g10, g11⟩ := setO_get I ha
  rw [Vals.ref1 r]
  refine Calls.call_function_entry kind_sorted plain_sorted entry_sorted (args_sorted1 _) ?_; unfold Builtin.«sorted»
  refine wpAny_bind (m := checkCount "sorted" 1 1 _) (wpAny_pure ?_)
  refine wpAny_bind (collect_set (A := X.A.in1) (I.ok.hd quiet) ⟨o, g1, g2.1, g3⟩ g8 g7 g10 g11 fun s1 vs k1 hz e1 e2 pm => ?_)
  have len : vs.length = n := by rw [pm.length_eq, List.length_map, Array.length_toList]; exact g9
  have nums : IntsAre vs (vs.map Builtin.Re.reRawOf) := ints_of vs fun v m => by
    obtain ⟨e, he, z⟩ := List.mem_map.mp (pm.mem_iff.mp m)
    obtain ⟨k, tk, z2, _⟩ := g4 e he
    exact ⟨k, tk, z.symm.trans z2⟩
  have pk : (vs.map Builtin.Re.reRawOf).Perm (es.toList.map keyOf) := by
    have z := pm.map Builtin.Re.reRawOf
    rwa [List.map_map] at z
  have fits : vs.length ≤ sizeLine := by rw [len, sizeLine_eq]; omega
  refine wpAny_bind (wpAny_newList ?_ fits)
  have laid : (s1.heap.push (seqObj "list" vs.toArray 0)).get? s1.heap.objs.size = some (seqObj "list" vs.toArray 0) := Heap.get?_push_size _ rfl
  refine wpAny_bind (wpAny_holding (wpAny_call_entry slot_list_sort ⟨_, laid, rfl⟩ entry_list_sort (list_sort_treeAny laid nums fits fun out zs w1 w2 w3 => ⟨_, rfl, ?_⟩) (args_list_sort _)))
  obtain ⟨c', at'⟩ := sortedHeap_at (vs := vs) (out := out) laid
  have pn : zs.Perm (es.toList.map keyOf) := w2.trans pk
  have room : (iV zs).length ≤ sizeLine := by rw [iV_len, w2.length_eq, List.length_map]; exact fits
  have hok : ObjOk X.prog X.w (upd H s1.heap.objs.size (.lst (iV zs))) (sortedHeap (s1.heap.push (seqObj "list" vs.toArray 0)) s1.heap.objs.size vs out) s1.heap.objs.size (.lst (iV zs)) :=
    ⟨room, out.toList, c', vals_of_ints w1, by rw [Array.toArray_toList]; exact at'⟩
  have keep : ∀ b u, s.heap.get? b = some u → (sortedHeap (s1.heap.push (seqObj "list" vs.toArray 0)) s1.heap.objs.size vs out).get? b = some u := fun b u e => by
    have z := k1 b u e
    have lt := Heap.lt_size z
    rw [sortedHeap_old (Nat.ne_of_lt lt) (by rw [size_push']; exact Nat.lt_succ_of_lt lt)]
    exact Heap.get?_push_of_some _ z
  have hn := I.hok.fresh hz
  have J : Inv X pins σ (upd H s1.heap.objs.size (.lst (iV zs))) { s with heap := sortedHeap (s1.heap.push (seqObj "list" vs.toArray 0)) s1.heap.objs.size vs out, gens := s1.gens, drawn := s1.drawn, toks := s1.toks } :=
    I.call (ch := []) (Un.laid keep hz hn) (I.hok.laid keep hz hok) (by rw [e1]; exact I.bare) (fun _ z => nomatch z)
  have es1 : ({ s1 with heap := sortedHeap (s1.heap.push (seqObj "list" vs.toArray 0)) s1.heap.objs.size vs out } : Shared) = { s with heap := sortedHeap (s1.heap.push (seqObj "list" vs.toArray 0)) s1.heap.objs.size vs out, gens := s1.gens, drawn := s1.drawn, toks := s1.toks } := by
    cases s1; cases s; cases e2; rfl
  refine wpAny_pure ⟨_, rfl, ?_⟩
  rw [es1]
  exact ⟨.ref _, _, J, rfl, q zs _ (lt_of_le_nodup zs w3 (pn.nodup_iff.mpr g5)) (fun k => by rw [pn.mem_iff, ← g6 k]) hn⟩
end
end Lk

set_option Elab.async false
set_option linter.all false
set_option maxRecDepth 100000
set_option maxHeartbeats 2000000
namespace Lk
open PySem PySem.Spec PyProof.Rows L2
/-! ### the end of a law with one table of code objects, where no repr is under way -/
abbrev tabO : Obj := { cls := .none, data := .fields #[] }
section
variable {P : Program} {w : World} {K : PySem.W.Frag} {mg mb : Str → Option Value} {CX : CXT} {k : Nat} {fa a c t : Addr} {fd : FuncData} {x : Str} {sp : Sp} {s₁ : Shared} {vs : List Value} {ns : List Int}
/-- what is tracked at the start: the table, and the script or not -/
structure BeginT (P : Program) (w : World) (K : PySem.W.Frag) (H : Hp) (h : Heap) (a t : Addr) : Prop where
  tab : H t = some (.tbl #[])
  only : ∀ b, b ≠ t → H b = none ∨ ∃ o xs, H b = some (.frz o xs)
  good : HOk P w H h
  one : ∀ b, H b ≠ none → b = a ∨ b = t
  out : H a ≠ none → K.lookup a = none
theorem BeginT.free {H : Hp} (B : BeginT P w K H s₁.heap a t) (ha : s₁.heap.get? a = some { cls := .type "list", data := .seq vs.toArray }) (ht : s₁.heap.get? t = some tabO) {b : Addr} {o : Obj} (e : s₁.heap.get? b = some o) (n1 : ∀ v n, o.data ≠ .seq v n) (n2 : o.data ≠ .fields #[]) : H b = none := by
  cases q : H b with
  | none => rfl
  | some u =>
    rcases B.one b (by rw [q]; exact fun y => nomatch y) with z | z
    · subst z
      rw [ha] at e
      obtain rfl := Option.some.inj e
      exact absurd rfl (n1 _ _)
    · subst z
      rw [ht] at e
      obtain rfl := Option.some.inj e
      exact absurd rfl n2
theorem BeginT.sees {H : Hp} (B : BeginT P w K H s₁.heap a t) (ha : s₁.heap.get? a = some { cls := .type "list", data := .seq vs.toArray }) (ht : s₁.heap.get? t = some tabO) {b : Addr} {m : Str → Option Value} (n : s₁.heap.Ns b m) : (hidT s₁.heap H).Ns b m := by
  obtain ⟨o, es, ep, e, d, r⟩ := n
  refine ⟨o, es, ep, hidT_get e (B.free ha ht e (fun v n z => ?_) fun z => ?_), d, r⟩
  · rw [d] at z; exact nomatch z
  · rw [d] at z; exact nomatch z
theorem BeginT.keeps {H : Hp} (B : BeginT P w K H s₁.heap a t) (nt : K.lookup t = none) (KX : K.In s₁.heap) : K.In (hidT s₁.heap H) := fun b o e => by
  refine hidT_get (KX b o e) ?_
  cases q : H b with
  | none => rfl
  | some u =>
    have y : H b ≠ none := by rw [q]; exact fun y => nomatch y
    rcases B.one b y with z | z
    · subst z
      rw [B.out y] at e
      exact nomatch e
    · subst z
      rw [nt] at e
      exact nomatch e
theorem BeginT.table {H : Hp} (B : BeginT P w K H s₁.heap a t) (ha : s₁.heap.get? a = some { cls := .type "list", data := .seq vs.toArray }) (ht : s₁.heap.get? t = some tabO) (hc : PySem.W.CodeHd s₁.heap c t) (hns : s₁.heap.Ns mainGlobals mg)
    (hbm : ∃ (bm : Addr) (ob : Obj), mg "__builtins__" = some (.ref bm) ∧ bm ≠ builtinsNs ∧ s₁.heap.get? bm = some ob ∧ ob.cls = .type "module" ∧ ob.dict = some builtinsNs ∧ ob.data = .plain) : LamX.TabB (hidT s₁.heap H) mg c t := by
  obtain ⟨og, eg, ep, hg1, hg2, _⟩ := id hns
  refine ⟨?_, ?_, fun z => ?_⟩
  · obtain ⟨o, us, file, tf, flags, tg, inF, text, tt, e1, r1, r2, r3, rest⟩ := hc
    refine ⟨o, us, file, tf, flags, tg, inF, text, tt, hidT_get e1 (B.free ha ht e1 (fun v n z => ?_) fun z => ?_), r1, r2, r3, rest⟩
    · rw [r2] at z; exact nomatch z
    · rw [r2] at z
      obtain rfl := Data.fields.inj z
      exact nomatch r3
  · obtain ⟨m, om, m1, m2, m3, m4, m5, m6⟩ := hbm
    refine ⟨m, om, m1, m2, fun z => ?_, fun z => ?_, hidT_get m3 (B.free ha ht m3 (fun v n z => ?_) fun z => ?_), m4, m5, m6⟩
    · subst z
      rw [hg1] at m3
      obtain rfl := Option.some.inj m3
      rw [m6] at hg2; exact nomatch hg2
    · subst z
      rw [ht] at m3
      obtain rfl := Option.some.inj m3
      exact nomatch m6
    · rw [m6] at z; exact nomatch z
    · rw [m6] at z; exact nomatch z
  · rw [z, ht] at hg1
    obtain rfl := Option.some.inj hg1
    exact nomatch hg2
theorem BeginT.goes {H : Hp} (B : BeginT P w K H s₁.heap a t) (KX : K.In s₁.heap) (hns : s₁.heap.Ns mainGlobals mg) (hb : s₁.heap.Ns builtinsNs mb) (hbb : ∀ x : Str, x ≠ "__name__" → mb x = bootBuiltins x) (hlim : s₁.heap.NoLimit) (hg : s₁.gens = #[])
    (ha : s₁.heap.get? a = some { cls := .type "list", data := .seq vs.toArray }) (ht : s₁.heap.get? t = some tabO) (nt : K.lookup t = none) (hc : PySem.W.CodeHd s₁.heap c t)
    (hbm : ∃ (bm : Addr) (ob : Obj), mg "__builtins__" = some (.ref bm) ∧ bm ≠ builtinsNs ∧ s₁.heap.get? bm = some ob ∧ ob.cls = .type "module" ∧ ob.dict = some builtinsNs ∧ ob.data = .plain) (hr : Room k callerA)
    (F : ∀ base : Heap, K.In base → base.Ns mainGlobals mg → LamX.TabB base mg c t → FnG P w K mg base CX k fa fd [x] sp) (bind : ∀ (s : Shared) (u : Value), BindsTo s fd ⟨[u], []⟩ [(x, u)])
    (hsp : sp [.ref a] H (fun v _ => v = .bl true) fun _ _ _ => False) (hCX : ∀ H e s', CX [] H s₁ (fun _ _ _ => False) e s' → False) : codeAny (model P w) callerA (.call (.ref fa) ⟨[.ref a], []⟩) (Fine s₁) s₁ := by
  obtain ⟨mc, l1, l2⟩ := hlim
  have M : Mod K mg (hidT s₁.heap H) := ⟨B.keeps nt KX, B.sees ha ht hns, ⟨mb, B.sees ha ht hb, hbb⟩, mc, B.sees ha ht l1, l2⟩
  have e0 : Env0 P w K mg (hidT s₁.heap H) callerA [] s₁ H := by
    refine ⟨rfl, M, fun b o e => of_hidT e, ?_, trivial, fun b z => ?_, B.good, .of_eq hg⟩
    · rw [hidT_size]; exact Nat.le_refl _
    · exact nomatch (show b ∈ ([] : List Addr) from z)
  have go := (F _ (B.keeps nt KX) (B.sees ha ht hns) (B.table ha ht hc hns hbm)).run callerA [] s₁ H ⟨[.ref a], []⟩ [.ref a] [.ref a] _ _ rfl hr e0 (bind s₁ (.ref a)) (.cons rfl .nil) hsp
  refine codeAny_mono go fun r s' z => ?_
  match r, z with
  | .error e, z => exact (hCX H e s' z).elim
  | .ok .next, z => exact z.elim
  | .ok .brk, z => exact z.elim
  | .ok .cont, z => exact z.elim
  | .ok (.ret u), z =>
    obtain ⟨v, H', os, bare, un, good', rv, q⟩ := z
    obtain rfl : v = .bl true := q
    obtain rfl : u = Value.bool true := rv
    have stays : ∀ b o, b ≠ t → s₁.heap.get? b = some o → s'.heap.get? b = some o := fun b o nb e => by
      rcases B.only b nb with y | ⟨ob, xs, y⟩
      · exact un.keep b o e y (fun t => nomatch (show b ∈ ([] : List Addr) from t)) (fun t => nomatch t)
      · have g1 := (B.good b _ y).1
        have g2 := (good' b _ (un.frzs b ob _ y)).1
        rw [e] at g1
        obtain rfl := Option.some.inj g1
        exact g2
    obtain ⟨more, hm⟩ := un.tbls t #[] B.tab
    have hm' : s'.heap.get? t = some { cls := .none, data := .fields (#[] ++ more) } := good' t _ hm
    refine ⟨rfl, ⟨fun b o e => ?_, fun b o e => ?_⟩, os, bare⟩
    · by_cases z : b = t
      · subst z
        rw [ht] at e
        obtain rfl := Option.some.inj e
        exact .inr (.inl ⟨(hc.tab ht).isCodeTable, rfl, #[], more, rfl, hm'⟩)
      · exact .inl (stays b o z e)
    · by_cases z : b = t
      · subst z; exact ⟨_, hm'⟩
      · exact ⟨o, stays b o z e⟩
theorem law_goT (KX : K.In s₁.heap) (hns : s₁.heap.Ns mainGlobals mg) (hb : s₁.heap.Ns builtinsNs mb) (hbb : ∀ x : Str, x ≠ "__name__" → mb x = bootBuiltins x) (hlim : s₁.heap.NoLimit) (hg : s₁.gens = #[])
    (ha : s₁.heap.get? a = some { cls := .type "list", data := .seq vs.toArray }) (ht : s₁.heap.get? t = some tabO) (nt : K.lookup t = none) (hc : PySem.W.CodeHd s₁.heap c t)
    (hbm : ∃ (bm : Addr) (ob : Obj), mg "__builtins__" = some (.ref bm) ∧ bm ≠ builtinsNs ∧ s₁.heap.get? bm = some ob ∧ ob.cls = .type "module" ∧ ob.dict = some builtinsNs ∧ ob.data = .plain) (hi : IntsAre vs ns) (hl : ns.length ≤ sizeLine) (hr : Room k callerA)
    (F : ∀ base : Heap, K.In base → base.Ns mainGlobals mg → LamX.TabB base mg c t → FnG P w K mg base CX k fa fd [x] sp) (bind : ∀ (s : Shared) (u : Value), BindsTo s fd ⟨[u], []⟩ [(x, u)])
    (hsp : ∀ H : Hp, H t = some (.tbl #[]) → SqL K H a (ns.map V.int) → sp [.ref a] H (fun v _ => v = .bl true) fun _ _ _ => False) (hCX : ∀ H e s', CX [] H s₁ (fun _ _ _ => False) e s' → False) : codeAny (model P w) callerA (.call (.ref fa) ⟨[.ref a], []⟩) (Fine s₁) s₁ := by
  have vi := vals_ints hi
  have nat : a ≠ t := fun z => by
    rw [z, ht] at ha
    exact nomatch congrArg Obj.data (Option.some.inj ha)
  by_cases hk : K.lookup a = none
  · let H : Hp := fun b => if b = t then some (.tbl #[]) else if b = a then some (.frz { cls := .type "list", data := .seq vs.toArray } (.lst (ns.map V.int))) else none
    have yt : H t = some (.tbl #[]) := if_pos rfl
    have ya : H a = some (.frz { cls := .type "list", data := .seq vs.toArray } (.lst (ns.map V.int))) := (if_neg nat).trans (if_pos rfl)
    have yb : ∀ b, b ≠ t → b ≠ a → H b = none := fun b z y => (if_neg z).trans (if_neg y)
    have B : BeginT P w K H s₁.heap a t := by
      refine ⟨yt, fun b n => ?_, fun b u z => ?_, fun b z => ?_, fun _ => hk⟩
      · by_cases y : b = a
        · subst y; exact .inr ⟨_, _, ya⟩
        · exact .inl (yb b n y)
      · by_cases n : b = t
        · subst n
          rw [yt] at z
          obtain rfl := Option.some.inj z
          exact ht
        · by_cases y : b = a
          · subst y
            rw [ya] at z
            obtain rfl := Option.some.inj z
            exact ⟨ha, by rw [List.length_map]; exact hl, vs, _, vi, ha⟩
          · rw [yb b n y] at z; exact nomatch z
      · by_cases n : b = t
        · exact .inr n
        · by_cases y : b = a
          · exact .inl y
          · exact absurd (yb b n y) z
    exact B.goes KX hns hb hbb hlim hg ha ht nt hc hbm hr F bind (hsp H yt (.inl (.inr ⟨_, ya⟩))) hCX
  · obtain ⟨o, ho⟩ := Option.ne_none_iff_exists'.mp hk
    have e := KX a o ho
    rw [ha] at e
    obtain rfl := Option.some.inj e
    let H : Hp := fun b => if b = t then some (.tbl #[]) else none
    have yt : H t = some (.tbl #[]) := if_pos rfl
    have yb : ∀ b, b ≠ t → H b = none := fun b z => if_neg z
    have B : BeginT P w K H s₁.heap a t := by
      refine ⟨yt, fun b n => .inl (yb b n), fun b u z => ?_, fun b z => ?_, fun z => absurd (yb a nat) z⟩
      · by_cases n : b = t
        · subst n
          rw [yt] at z
          obtain rfl := Option.some.inj z
          exact ht
        · rw [yb b n] at z; exact nomatch z
      · by_cases n : b = t
        · exact .inr n
        · exact absurd (yb b n) z
    refine B.goes KX hns hb hbb hlim hg ha ht nt hc hbm hr F bind (hsp _ yt (.inr ⟨_, vs.toArray, _, ho, rfl, rfl, rfl, ?_, ?_⟩)) hCX
    · rw [List.size_toArray, hi.length]; exact hl
    · exact vi
end
/-- the table of the def of that name -/
structure TabAt (K : PySem.W.Frag) (f c t : Addr) : Prop where
  fn : ∃ (o : Obj) (fd : FuncData), K.lookup f = some o ∧ o.data = .func fd ∧ fd.code = .ref c
  code : ∃ (e : Value) (dd : Option Addr) (vs : Array Value) (sl : Array (Option Value)), K.lookup c = some ⟨e, dd, .fields vs, sl⟩ ∧ vs[11]? = some (.ref t)
  none : K.lookup t = none
theorem walk_goT {l : PySem.W.OpenLaw} {n k : Nat} {q : Program} {loose : List Str} {XP : (Str → Option Value) → Heap → Prop} {YP : World → Heap → Prop} {d : DefRec} {K : Params → PySem.W.Frag} {CX : CXT} {sp : Addr → PySem.W.Frag → Sp} {x y : Str}
    (hn : l.most = some n) (hn2 : n ≤ sizeLine) (hdf : d.params.defaults = []) (hr : Room k callerA) (hrec : ((recsOf q).any fun e => e.name == y) = true) (hY : ∀ (w : World) (h : Heap), YP w h → (K w.params).In h)
    (F : ∀ (w : World) (mg : Str → Option Value) (fa : Addr) (h : Heap), (K w.params).In h → h.Ns mainGlobals mg → mg d.name = some (.ref fa) →
      ∃ (fd : FuncData) (f c t : Addr), mg y = some (.ref f) ∧ TabAt (K w.params) f c t ∧ (∀ (s : Shared) (u : Value), BindsTo s fd ⟨[u], []⟩ [(x, u)]) ∧ ∀ base : Heap, (K w.params).In base → base.Ns mainGlobals mg → LamX.TabB base mg c t → FnG l.prog w (K w.params) mg base CX k fa fd [x] (sp t (K w.params)))
    (hsp : ∀ (t : Addr) (K : PySem.W.Frag) (H : Hp) (a : Addr) (ns : List Int), ns.length ≤ n → H t = some (.tbl #[]) → SqL K H a (ns.map V.int) → sp t K [.ref a] H (fun v _ => v = .bl true) fun _ _ _ => False)
    (hCX : ∀ (H : Hp) (s : Shared) (e : Value) (s' : Shared), CX [] H s (fun _ _ _ => False) e s' → False) : PySem.W.WalkO q loose XP YP l.row.toRowW d [] (fun f vs => PySem.call f vs) := by
  refine Att.attach_call hn hdf fun w s₀ s₁ mg mb fa o pm cd doc a vs ns G Y ho hd hcd hmg hobj hints hlen hg => ?_
  have KX := hY w _ Y
  obtain ⟨fd, f, c, t, hf, ⟨⟨o1, fd1, k1, k2, k3⟩, ⟨ec, dd, vc, sl, k4, k5⟩, nt⟩, hb, hF⟩ := F w mg fa _ KX G.T.g hmg
  obtain ⟨dL, hm, nm⟩ := List.any_eq_true.mp hrec
  obtain ⟨a', o', fd', c', P', t1, t2, t3, t4, t5, t6⟩ := G.T.tab dL hm
  rw [show dL.name = y from beq_iff_eq.mp nm, hf] at t1
  obtain rfl := Value.ref.inj (Option.some.inj t1)
  rw [KX _ _ k1] at t2
  obtain rfl := Option.some.inj t2
  rw [k2] at t3
  obtain rfl := Data.func.inj t3
  rw [k3] at t4
  obtain rfl := Value.ref.inj t4
  obtain ⟨⟨oc, vo, y1, y2, y3, y4⟩, y5⟩ := id t6
  rw [KX _ _ k4] at y1
  obtain rfl := Option.some.inj y1
  obtain rfl := Data.fields.inj y3
  rw [k5] at y4
  obtain rfl := Value.ref.inj (Option.some.inj y4)
  exact law_goT KX G.T.g G.T.b G.T.builtins G.T.nolimit hg hobj y5 nt (PySem.W.CodeHd.of t5 t6) G.T.bmain hints (Nat.le_trans hlen hn2) hr hF hb (fun H hO hS => hsp t (K w.params) H a ns hlen hO hS) fun H e s' => hCX H s₁ e s'
/-- a def over its own table -/
theorem okGT {P : Program} {w : World} {K : PySem.W.Frag} {mg : Str → Option Value} {base : Heap} {x qual : Str} {st : Stmt} {f c : Addr} {fd : FuncData} {N ps : List Str} {k : Nat} {sp : Sp} (F : Fun K x qual st f fd) (S : FnScope N ps (defScope st))
    (hc : ∃ (o : Obj) (fd : FuncData), K.lookup f = some o ∧ o.data = .func fd ∧ fd.code = .ref c) (len : ∀ vs H Q E, sp vs H Q E → vs.length = ps.length)
    (body : ∀ (A : Around) (outer : List Env) (s : Shared) (H : Hp) (vs : List V) (Q : VK) (E : XK), A.guards = some [] → Room k (A.deeper (envOfC qual (defScope st) s.heap.objs.size f (.ref c))) → sp vs H Q E →
      ∃ t, PSs (cxOf CX0 P w K mg base N qual (defScope st) f (.ref c) A outer s H E).nox (defBody st) t ∧ t { nx := fun _ H' => Q .non H', rt := Q } (L2.start N vs) H) :
    FnG P w K mg base CX0 (k + 1) f fd ps sp := by
  obtain ⟨oc, od, kV, doc, pm, an, cdv, ct, osl, e, lk, h⟩ := F.ex
  subst e
  obtain ⟨o, fd', h1, h2, h3⟩ := hc
  rw [lk] at h1
  obtain rfl := Option.some.inj h1
  obtain rfl := Data.func.inj h2
  obtain rfl : cdv = .ref c := h3
  refine ⟨len, fun A outer s H args us vs Q E g hr e0 hb r hsp => ?_⟩
  refine LamX.run_ofS lk h S hr e0 hb r (len _ _ _ _ hsp) fun hr2 => ?_
  obtain ⟨t, h1, h2⟩ := body A outer s H vs Q E g hr2 hsp
  exact ⟨t, h1.nox, h2⟩
end Lk

set_option Elab.async false
set_option linter.all false
set_option maxRecDepth 100000
set_option maxHeartbeats 4000000
namespace Lk
open PySem PySem.Spec PyProof.Rows L2
def top (i : Nat) : Stmt := PySem.Challenge.pw_linkneed_k39_whole_least_long_jumps.main.body.getD i (.Pass ⟨0, 0, 0, 0⟩)
abbrev s_NotUsable___init__ : Stmt := inClass (top 7) 0
abbrev sl_NotUsable___init__ : List Str := ["self", "word", "at"]
theorem sc_NotUsable___init__ : FnScope sl_NotUsable___init__ ["self", "word", "at"] (defScope s_NotUsable___init__) := ⟨rfl, rfl, rfl, by decide +kernel, rfl, by decide +kernel, by decide +kernel⟩
abbrev s_Missing___init__ : Stmt := inClass (top 8) 0
abbrev sl_Missing___init__ : List Str := ["self", "title"]
theorem sc_Missing___init__ : FnScope sl_Missing___init__ ["self", "title"] (defScope s_Missing___init__) := ⟨rfl, rfl, rfl, by decide +kernel, rfl, by decide +kernel, by decide +kernel⟩
abbrev s_Twice___init__ : Stmt := inClass (top 9) 0
abbrev sl_Twice___init__ : List Str := ["self", "title"]
theorem sc_Twice___init__ : FnScope sl_Twice___init__ ["self", "title"] (defScope s_Twice___init__) := ⟨rfl, rfl, rfl, by decide +kernel, rfl, by decide +kernel, by decide +kernel⟩
abbrev s_Unlike___init__ : Stmt := inClass (top 10) 0
abbrev sl_Unlike___init__ : List Str := ["self", "title"]
theorem sc_Unlike___init__ : FnScope sl_Unlike___init__ ["self", "title"] (defScope s_Unlike___init__) := ⟨rfl, rfl, rfl, by decide +kernel, rfl, by decide +kernel, by decide +kernel⟩
abbrev s_Beyond___init__ : Stmt := inClass (top 11) 0
abbrev sl_Beyond___init__ : List Str := ["self", "need"]
theorem sc_Beyond___init__ : FnScope sl_Beyond___init__ ["self", "need"] (defScope s_Beyond___init__) := ⟨rfl, rfl, rfl, by decide +kernel, rfl, by decide +kernel, by decide +kernel⟩
abbrev s_is_integer : Stmt := top 13
abbrev sl_is_integer : List Str := ["thing"]
theorem sc_is_integer : FnScope sl_is_integer ["thing"] (defScope s_is_integer) := ⟨rfl, rfl, rfl, by decide +kernel, rfl, by decide +kernel, by decide +kernel⟩
abbrev s_is_number : Stmt := top 14
abbrev sl_is_number : List Str := ["thing"]
theorem sc_is_number : FnScope sl_is_number ["thing"] (defScope s_is_number) := ⟨rfl, rfl, rfl, by decide +kernel, rfl, by decide +kernel, by decide +kernel⟩
abbrev s_is_number_set : Stmt := top 15
abbrev sl_is_number_set : List Str := ["thing", "one", "other"]
theorem sc_is_number_set : FnScope sl_is_number_set ["thing"] (defScope s_is_number_set) := ⟨rfl, rfl, rfl, by decide +kernel, rfl, by decide +kernel, by decide +kernel⟩
abbrev s_long_jumps : Stmt := top 17
abbrev sl_long_jumps : List Str := ["things", "low", "high"]
theorem sc_long_jumps : FnScope sl_long_jumps ["things", "low", "high"] (defScope s_long_jumps) := ⟨rfl, rfl, rfl, by decide +kernel, rfl, by decide +kernel, by decide +kernel⟩
abbrev s_holds_long : Stmt := top 18
abbrev sl_holds_long : List Str := ["things", "low", "high", "chosen", "at"]
theorem sc_holds_long : FnScope sl_holds_long ["things", "low", "high", "chosen"] (defScope s_holds_long) := ⟨rfl, rfl, rfl, by decide +kernel, rfl, by decide +kernel, by decide +kernel⟩
abbrev s_least_long : Stmt := top 19
abbrev sl_least_long : List Str := ["things", "low", "high", "chosen", "far", "at"]
theorem sc_least_long : FnScope sl_least_long ["things", "low", "high"] (defScope s_least_long) := ⟨rfl, rfl, rfl, by decide +kernel, rfl, by decide +kernel, by decide +kernel⟩
abbrev s_addresses_of : Stmt := top 20
abbrev sl_addresses_of : List Str := ["things", "chosen", "addresses", "at", "thing", "length"]
theorem sc_addresses_of : FnScope sl_addresses_of ["things", "chosen"] (defScope s_addresses_of) := ⟨rfl, rfl, rfl, by decide +kernel, rfl, by decide +kernel, by decide +kernel⟩
abbrev s_is_jump : Stmt := top 21
abbrev sl_is_jump : List Str := ["thing"]
theorem sc_is_jump : FnScope sl_is_jump ["thing"] (defScope s_is_jump) := ⟨rfl, rfl, rfl, by decide +kernel, rfl, by decide +kernel, by decide +kernel⟩
abbrev s__too_far : Stmt := top 22
abbrev sl__too_far : List Str := ["things", "low", "high", "chosen", "addresses", "far", "at", "thing"]
theorem sc__too_far : FnScope sl__too_far ["things", "low", "high", "chosen"] (defScope s__too_far) := ⟨rfl, rfl, rfl, by decide +kernel, rfl, by decide +kernel, by decide +kernel⟩
abbrev s__check_layout : Stmt := top 23
abbrev sl__check_layout : List Str := ["things", "low", "high", "thing"]
theorem sc__check_layout : FnScope sl__check_layout ["things", "low", "high"] (defScope s__check_layout) := ⟨rfl, rfl, rfl, by decide +kernel, rfl, by decide +kernel, by decide +kernel⟩
abbrev s__is_thing : Stmt := top 24
abbrev sl__is_thing : List Str := ["thing", "many"]
theorem sc__is_thing : FnScope sl__is_thing ["thing", "many"] (defScope s__is_thing) := ⟨rfl, rfl, rfl, by decide +kernel, rfl, by decide +kernel, by decide +kernel⟩
abbrev s__law_feed : Stmt := top 26
abbrev sl__law_feed : List Str := ["_law_script", "_law_cell"]
theorem sc__law_feed : FnScope sl__law_feed ["_law_script"] (defScope s__law_feed) := ⟨rfl, rfl, rfl, by decide +kernel, rfl, by decide +kernel, by decide +kernel⟩
abbrev s__law_draw : Stmt := top 27
abbrev sl__law_draw : List Str := ["_law_feed_here", "_law_size", "_law_figure", "_law_cells", "_law_spot", "_law_cell", "_law_blend"]
theorem sc__law_draw : FnScope sl__law_draw ["_law_feed_here", "_law_size"] (defScope s__law_draw) := ⟨rfl, rfl, rfl, by decide +kernel, rfl, by decide +kernel, by decide +kernel⟩
abbrev s__law_any : Stmt := top 28
abbrev sl__law_any : List Str := ["_law_feed_here", "_law_some_here"]
theorem sc__law_any : FnScope sl__law_any ["_law_feed_here", "_law_some_here"] (defScope s__law_any) := ⟨rfl, rfl, rfl, by decide +kernel, rfl, by decide +kernel, by decide +kernel⟩
abbrev s__law_same : Stmt := top 29
abbrev sl__law_same : List Str := ["_law_told", "_law_due"]
theorem sc__law_same : FnScope sl__law_same ["_law_told", "_law_due"] (defScope s__law_same) := ⟨rfl, rfl, rfl, by decide +kernel, rfl, by decide +kernel, by decide +kernel⟩
abbrev s__law_heard : Stmt := top 30
abbrev sl__law_heard : List Str := ["_law_ask", "e", "_law_kin"]
theorem sc__law_heard : FnScope sl__law_heard ["_law_ask"] (defScope s__law_heard) := ⟨rfl, rfl, rfl, by decide +kernel, rfl, by decide +kernel, by decide +kernel⟩
abbrev s__law_spots : Stmt := top 31
abbrev sl__law_spots : List Str := ["_law_things_here", "_law_chosen", "_law_found", "_law_k", "_law_one"]
theorem sc__law_spots : FnScope sl__law_spots ["_law_things_here", "_law_chosen"] (defScope s__law_spots) := ⟨rfl, rfl, rfl, by decide +kernel, rfl, by decide +kernel, by decide +kernel⟩
abbrev s__law_far : Stmt := top 32
abbrev sl__law_far : List Str := ["_law_things_here", "_law_low", "_law_high", "_law_chosen", "_law_spots_here", "_law_found", "_law_k", "_law_far_here"]
theorem sc__law_far : FnScope sl__law_far ["_law_things_here", "_law_low", "_law_high", "_law_chosen"] (defScope s__law_far) := ⟨rfl, rfl, rfl, by decide +kernel, rfl, by decide +kernel, by decide +kernel⟩
abbrev s__law_jumps : Stmt := top 33
abbrev sl__law_jumps : List Str := ["_law_things_here", "_law_k"]
theorem sc__law_jumps : FnScope sl__law_jumps ["_law_things_here"] (defScope s__law_jumps) := ⟨rfl, rfl, rfl, by decide +kernel, rfl, by decide +kernel, by decide +kernel⟩
abbrev s__law_is_held : Stmt := top 34
abbrev sl__law_is_held : List Str := ["_law_things_here", "_law_low", "_law_high", "_law_chosen", "_law_k"]
theorem sc__law_is_held : FnScope sl__law_is_held ["_law_things_here", "_law_low", "_law_high", "_law_chosen"] (defScope s__law_is_held) := ⟨rfl, rfl, rfl, by decide +kernel, rfl, by decide +kernel, by decide +kernel⟩
abbrev s__law_least : Stmt := top 35
abbrev sl__law_least : List Str := ["_law_things_here", "_law_low", "_law_high", "_law_choices", "_law_k", "_law_held", "_law_found", "_law_some_here"]
theorem sc__law_least : FnScope sl__law_least ["_law_things_here", "_law_low", "_law_high"] (defScope s__law_least) := ⟨rfl, rfl, rfl, by decide +kernel, rfl, by decide +kernel, by decide +kernel⟩
abbrev s__law_grown : Stmt := top 36
abbrev sl__law_grown : List Str := ["_law_things_here", "_law_low", "_law_high", "_law_found", "_law_late"]
theorem sc__law_grown : FnScope sl__law_grown ["_law_things_here", "_law_low", "_law_high"] (defScope s__law_grown) := ⟨rfl, rfl, rfl, by decide +kernel, rfl, by decide +kernel, by decide +kernel⟩
abbrev s__law_things : Stmt := top 37
abbrev sl__law_things : List Str := ["_law_feed_here", "_law_many", "_law_most", "_law_found", "_law_jumps_here", "_law_way", "_law_k", "_law_to"]
theorem sc__law_things : FnScope sl__law_things ["_law_feed_here", "_law_many", "_law_most"] (defScope s__law_things) := ⟨rfl, rfl, rfl, by decide +kernel, rfl, by decide +kernel, by decide +kernel⟩
abbrev s__law_bounds : Stmt := top 38
abbrev sl__law_bounds : List Str := ["_law_feed_here", "_law_low"]
theorem sc__law_bounds : FnScope sl__law_bounds ["_law_feed_here"] (defScope s__law_bounds) := ⟨rfl, rfl, rfl, by decide +kernel, rfl, by decide +kernel, by decide +kernel⟩
abbrev s__law_some : Stmt := top 39
abbrev sl__law_some : List Str := ["_law_feed_here", "_law_some_here", "_law_often", "_law_k"]
theorem sc__law_some : FnScope sl__law_some ["_law_feed_here", "_law_some_here"] (defScope s__law_some) := ⟨rfl, rfl, rfl, by decide +kernel, rfl, by decide +kernel, by decide +kernel⟩
abbrev s__law_are_held_right : Stmt := top 40
abbrev sl__law_are_held_right : List Str := ["_law_feed_here", "_law_things_here", "_law_low", "_law_high", "_law_due", "_law_every", "_law_told", "_law_late", "_law_some_here", "_law_one", "_law_lap", "_law_k"]
theorem sc__law_are_held_right : FnScope sl__law_are_held_right ["_law_feed_here", "_law_things_here", "_law_low", "_law_high", "_law_due"] (defScope s__law_are_held_right) := ⟨rfl, rfl, rfl, by decide +kernel, rfl, by decide +kernel, by decide +kernel⟩
abbrev s__law_is_told_right : Stmt := top 41
abbrev sl__law_is_told_right : List Str := ["_law_feed_here", "_law_things_here", "_law_low", "_law_high", "_law_due", "_law_kept", "_law_told"]
theorem sc__law_is_told_right : FnScope sl__law_is_told_right ["_law_feed_here", "_law_things_here", "_law_low", "_law_high", "_law_due"] (defScope s__law_is_told_right) := ⟨rfl, rfl, rfl, by decide +kernel, rfl, by decide +kernel, by decide +kernel⟩
abbrev s__law_are_few_right : Stmt := top 42
abbrev sl__law_are_few_right : List Str := ["_law_to", "_law_rows", "_law_told", "_law_late", "_law_things_here", "_law_low", "_law_high", "_law_due", "_law_row"]
theorem sc__law_are_few_right : FnScope sl__law_are_few_right [] (defScope s__law_are_few_right) := ⟨rfl, rfl, rfl, by decide +kernel, rfl, by decide +kernel, by decide +kernel⟩
abbrev s__law_are_refused : Stmt := top 43
abbrev sl__law_are_refused : List Str := ["_law_feed_here", "_law_things_here", "_law_many", "_law_jumps_here", "_law_told", "_law_odds_in", "_law_lows", "_law_highs", "_law_bads", "_law_plain", "_law_lap", "_law_odd", "_law_low", "_law_high", "_law_bad", "_law_due", "_law_k"]
theorem sc__law_are_refused : FnScope sl__law_are_refused ["_law_feed_here", "_law_things_here"] (defScope s__law_are_refused) := ⟨rfl, rfl, rfl, by decide +kernel, rfl, by decide +kernel, by decide +kernel⟩
abbrev s_law : Stmt := top 44
abbrev sl_law : List Str := ["_law_script", "_law_feed_here", "_law_lap", "_law_things_here", "_law_low", "_law_high", "_law_far_here"]
theorem sc_law : FnScope sl_law ["_law_script"] (defScope s_law) := ⟨rfl, rfl, rfl, by decide +kernel, rfl, by decide +kernel, by decide +kernel⟩
structure Txt (K : PySem.W.Frag) (mg : Str → Option Value) where
  C_NeedError : Addr
  mC_NeedError : mg "NeedError" = some (.ref C_NeedError)
  C_PaperError : Addr
  mC_PaperError : mg "PaperError" = some (.ref C_PaperError)
  C_UnitError : Addr
  mC_UnitError : mg "UnitError" = some (.ref C_UnitError)
  C_LinkError : Addr
  mC_LinkError : mg "LinkError" = some (.ref C_LinkError)
  C_LiveError : Addr
  mC_LiveError : mg "LiveError" = some (.ref C_LiveError)
  C_TextError : Addr
  mC_TextError : mg "TextError" = some (.ref C_TextError)
  C_NotUsable : Addr
  mC_NotUsable : mg "NotUsable" = some (.ref C_NotUsable)
  C_Missing : Addr
  mC_Missing : mg "Missing" = some (.ref C_Missing)
  C_Twice : Addr
  mC_Twice : mg "Twice" = some (.ref C_Twice)
  C_Unlike : Addr
  mC_Unlike : mg "Unlike" = some (.ref C_Unlike)
  C_Beyond : Addr
  mC_Beyond : mg "Beyond" = some (.ref C_Beyond)
  f_NotUsable__init__ : Addr
  d_NotUsable__init__ : FuncData
  F_NotUsable__init__ : Fun K "__init__" "NotUsable.__init__" s_NotUsable___init__ f_NotUsable__init__ d_NotUsable__init__
  b_NotUsable__init__ : Binds K d_NotUsable__init__ ["self", "word", "at"] []
  f_Missing__init__ : Addr
  d_Missing__init__ : FuncData
  F_Missing__init__ : Fun K "__init__" "Missing.__init__" s_Missing___init__ f_Missing__init__ d_Missing__init__
  b_Missing__init__ : Binds K d_Missing__init__ ["self", "title"] []
  f_Twice__init__ : Addr
  d_Twice__init__ : FuncData
  F_Twice__init__ : Fun K "__init__" "Twice.__init__" s_Twice___init__ f_Twice__init__ d_Twice__init__
  b_Twice__init__ : Binds K d_Twice__init__ ["self", "title"] []
  f_Unlike__init__ : Addr
  d_Unlike__init__ : FuncData
  F_Unlike__init__ : Fun K "__init__" "Unlike.__init__" s_Unlike___init__ f_Unlike__init__ d_Unlike__init__
  b_Unlike__init__ : Binds K d_Unlike__init__ ["self", "title"] []
  f_Beyond__init__ : Addr
  d_Beyond__init__ : FuncData
  F_Beyond__init__ : Fun K "__init__" "Beyond.__init__" s_Beyond___init__ f_Beyond__init__ d_Beyond__init__
  b_Beyond__init__ : Binds K d_Beyond__init__ ["self", "need"] []
  f_is_integer : Addr
  d_is_integer : FuncData
  F_is_integer : Fun K "is_integer" "is_integer" s_is_integer f_is_integer d_is_integer
  m_is_integer : mg "is_integer" = some (.ref f_is_integer)
  k_is_integer : PySem.W.keepIn K (.ref f_is_integer) = true
  b_is_integer : Binds K d_is_integer ["thing"] []
  f_is_number : Addr
  d_is_number : FuncData
  F_is_number : Fun K "is_number" "is_number" s_is_number f_is_number d_is_number
  m_is_number : mg "is_number" = some (.ref f_is_number)
  k_is_number : PySem.W.keepIn K (.ref f_is_number) = true
  b_is_number : Binds K d_is_number ["thing"] []
  f_is_number_set : Addr
  d_is_number_set : FuncData
  F_is_number_set : Fun K "is_number_set" "is_number_set" s_is_number_set f_is_number_set d_is_number_set
  m_is_number_set : mg "is_number_set" = some (.ref f_is_number_set)
  k_is_number_set : PySem.W.keepIn K (.ref f_is_number_set) = true
  b_is_number_set : Binds K d_is_number_set ["thing"] []
  f_long_jumps : Addr
  d_long_jumps : FuncData
  F_long_jumps : Fun K "long_jumps" "long_jumps" s_long_jumps f_long_jumps d_long_jumps
  m_long_jumps : mg "long_jumps" = some (.ref f_long_jumps)
  k_long_jumps : PySem.W.keepIn K (.ref f_long_jumps) = true
  b_long_jumps : Binds K d_long_jumps ["things", "low", "high"] []
  w_long_jumps_high_things_low : KBinds K d_long_jumps ["things", "low", "high"] ["high", "things", "low"] (fun us ws => match us, ws with | [], [c, a, b] => [a, b, c] | _, _ => []) (fun vs zs => match vs, zs with | [], [c, a, b] => [a, b, c] | _, _ => [])
  f_holds_long : Addr
  d_holds_long : FuncData
  F_holds_long : Fun K "holds_long" "holds_long" s_holds_long f_holds_long d_holds_long
  m_holds_long : mg "holds_long" = some (.ref f_holds_long)
  k_holds_long : PySem.W.keepIn K (.ref f_holds_long) = true
  b_holds_long : Binds K d_holds_long ["things", "low", "high", "chosen"] []
  w_holds_long_chosen_high_low_things : KBinds K d_holds_long ["things", "low", "high", "chosen"] ["chosen", "high", "low", "things"] (fun us ws => match us, ws with | [], [d, c, b, a] => [a, b, c, d] | _, _ => []) (fun vs zs => match vs, zs with | [], [d, c, b, a] => [a, b, c, d] | _, _ => [])
  f_least_long : Addr
  d_least_long : FuncData
  F_least_long : Fun K "least_long" "least_long" s_least_long f_least_long d_least_long
  m_least_long : mg "least_long" = some (.ref f_least_long)
  k_least_long : PySem.W.keepIn K (.ref f_least_long) = true
  b_least_long : Binds K d_least_long ["things", "low", "high"] []
  f_addresses_of : Addr
  d_addresses_of : FuncData
  F_addresses_of : Fun K "addresses_of" "addresses_of" s_addresses_of f_addresses_of d_addresses_of
  m_addresses_of : mg "addresses_of" = some (.ref f_addresses_of)
  k_addresses_of : PySem.W.keepIn K (.ref f_addresses_of) = true
  b_addresses_of : Binds K d_addresses_of ["things", "chosen"] []
  f_is_jump : Addr
  d_is_jump : FuncData
  F_is_jump : Fun K "is_jump" "is_jump" s_is_jump f_is_jump d_is_jump
  m_is_jump : mg "is_jump" = some (.ref f_is_jump)
  k_is_jump : PySem.W.keepIn K (.ref f_is_jump) = true
  b_is_jump : Binds K d_is_jump ["thing"] []
  f__too_far : Addr
  d__too_far : FuncData
  F__too_far : Fun K "_too_far" "_too_far" s__too_far f__too_far d__too_far
  m__too_far : mg "_too_far" = some (.ref f__too_far)
  k__too_far : PySem.W.keepIn K (.ref f__too_far) = true
  b__too_far : Binds K d__too_far ["things", "low", "high", "chosen"] []
  f__check_layout : Addr
  d__check_layout : FuncData
  F__check_layout : Fun K "_check_layout" "_check_layout" s__check_layout f__check_layout d__check_layout
  m__check_layout : mg "_check_layout" = some (.ref f__check_layout)
  k__check_layout : PySem.W.keepIn K (.ref f__check_layout) = true
  b__check_layout : Binds K d__check_layout ["things", "low", "high"] []
  f__is_thing : Addr
  d__is_thing : FuncData
  F__is_thing : Fun K "_is_thing" "_is_thing" s__is_thing f__is_thing d__is_thing
  m__is_thing : mg "_is_thing" = some (.ref f__is_thing)
  k__is_thing : PySem.W.keepIn K (.ref f__is_thing) = true
  b__is_thing : Binds K d__is_thing ["thing", "many"] []
  f__law_feed : Addr
  d__law_feed : FuncData
  F__law_feed : Fun K "_law_feed" "_law_feed" s__law_feed f__law_feed d__law_feed
  m__law_feed : mg "_law_feed" = some (.ref f__law_feed)
  k__law_feed : PySem.W.keepIn K (.ref f__law_feed) = true
  b__law_feed : Binds K d__law_feed ["_law_script"] []
  f__law_draw : Addr
  d__law_draw : FuncData
  F__law_draw : Fun K "_law_draw" "_law_draw" s__law_draw f__law_draw d__law_draw
  m__law_draw : mg "_law_draw" = some (.ref f__law_draw)
  k__law_draw : PySem.W.keepIn K (.ref f__law_draw) = true
  b__law_draw : Binds K d__law_draw ["_law_feed_here", "_law_size"] []
  f__law_any : Addr
  d__law_any : FuncData
  F__law_any : Fun K "_law_any" "_law_any" s__law_any f__law_any d__law_any
  m__law_any : mg "_law_any" = some (.ref f__law_any)
  k__law_any : PySem.W.keepIn K (.ref f__law_any) = true
  b__law_any : Binds K d__law_any ["_law_feed_here", "_law_some_here"] []
  f__law_same : Addr
  d__law_same : FuncData
  F__law_same : Fun K "_law_same" "_law_same" s__law_same f__law_same d__law_same
  m__law_same : mg "_law_same" = some (.ref f__law_same)
  k__law_same : PySem.W.keepIn K (.ref f__law_same) = true
  b__law_same : Binds K d__law_same ["_law_told", "_law_due"] []
  f__law_heard : Addr
  d__law_heard : FuncData
  F__law_heard : Fun K "_law_heard" "_law_heard" s__law_heard f__law_heard d__law_heard
  m__law_heard : mg "_law_heard" = some (.ref f__law_heard)
  k__law_heard : PySem.W.keepIn K (.ref f__law_heard) = true
  b__law_heard : Binds K d__law_heard ["_law_ask"] []
  f__law_spots : Addr
  d__law_spots : FuncData
  F__law_spots : Fun K "_law_spots" "_law_spots" s__law_spots f__law_spots d__law_spots
  m__law_spots : mg "_law_spots" = some (.ref f__law_spots)
  k__law_spots : PySem.W.keepIn K (.ref f__law_spots) = true
  b__law_spots : Binds K d__law_spots ["_law_things_here", "_law_chosen"] []
  f__law_far : Addr
  d__law_far : FuncData
  F__law_far : Fun K "_law_far" "_law_far" s__law_far f__law_far d__law_far
  m__law_far : mg "_law_far" = some (.ref f__law_far)
  k__law_far : PySem.W.keepIn K (.ref f__law_far) = true
  b__law_far : Binds K d__law_far ["_law_things_here", "_law_low", "_law_high", "_law_chosen"] []
  f__law_jumps : Addr
  d__law_jumps : FuncData
  F__law_jumps : Fun K "_law_jumps" "_law_jumps" s__law_jumps f__law_jumps d__law_jumps
  m__law_jumps : mg "_law_jumps" = some (.ref f__law_jumps)
  k__law_jumps : PySem.W.keepIn K (.ref f__law_jumps) = true
  b__law_jumps : Binds K d__law_jumps ["_law_things_here"] []
  f__law_is_held : Addr
  d__law_is_held : FuncData
  F__law_is_held : Fun K "_law_is_held" "_law_is_held" s__law_is_held f__law_is_held d__law_is_held
  m__law_is_held : mg "_law_is_held" = some (.ref f__law_is_held)
  k__law_is_held : PySem.W.keepIn K (.ref f__law_is_held) = true
  b__law_is_held : Binds K d__law_is_held ["_law_things_here", "_law_low", "_law_high", "_law_chosen"] []
  f__law_least : Addr
  d__law_least : FuncData
  F__law_least : Fun K "_law_least" "_law_least" s__law_least f__law_least d__law_least
  m__law_least : mg "_law_least" = some (.ref f__law_least)
  k__law_least : PySem.W.keepIn K (.ref f__law_least) = true
  b__law_least : Binds K d__law_least ["_law_things_here", "_law_low", "_law_high"] []
  f__law_grown : Addr
  d__law_grown : FuncData
  F__law_grown : Fun K "_law_grown" "_law_grown" s__law_grown f__law_grown d__law_grown
  m__law_grown : mg "_law_grown" = some (.ref f__law_grown)
  k__law_grown : PySem.W.keepIn K (.ref f__law_grown) = true
  b__law_grown : Binds K d__law_grown ["_law_things_here", "_law_low", "_law_high"] []
  f__law_things : Addr
  d__law_things : FuncData
  F__law_things : Fun K "_law_things" "_law_things" s__law_things f__law_things d__law_things
  m__law_things : mg "_law_things" = some (.ref f__law_things)
  k__law_things : PySem.W.keepIn K (.ref f__law_things) = true
  b__law_things : Binds K d__law_things ["_law_feed_here", "_law_many", "_law_most"] []
  f__law_bounds : Addr
  d__law_bounds : FuncData
  F__law_bounds : Fun K "_law_bounds" "_law_bounds" s__law_bounds f__law_bounds d__law_bounds
  m__law_bounds : mg "_law_bounds" = some (.ref f__law_bounds)
  k__law_bounds : PySem.W.keepIn K (.ref f__law_bounds) = true
  b__law_bounds : Binds K d__law_bounds ["_law_feed_here"] []
  f__law_some : Addr
  d__law_some : FuncData
  F__law_some : Fun K "_law_some" "_law_some" s__law_some f__law_some d__law_some
  m__law_some : mg "_law_some" = some (.ref f__law_some)
  k__law_some : PySem.W.keepIn K (.ref f__law_some) = true
  b__law_some : Binds K d__law_some ["_law_feed_here", "_law_some_here"] []
  f__law_are_held_right : Addr
  d__law_are_held_right : FuncData
  F__law_are_held_right : Fun K "_law_are_held_right" "_law_are_held_right" s__law_are_held_right f__law_are_held_right d__law_are_held_right
  m__law_are_held_right : mg "_law_are_held_right" = some (.ref f__law_are_held_right)
  k__law_are_held_right : PySem.W.keepIn K (.ref f__law_are_held_right) = true
  b__law_are_held_right : Binds K d__law_are_held_right ["_law_feed_here", "_law_things_here", "_law_low", "_law_high", "_law_due"] []
  f__law_is_told_right : Addr
  d__law_is_told_right : FuncData
  F__law_is_told_right : Fun K "_law_is_told_right" "_law_is_told_right" s__law_is_told_right f__law_is_told_right d__law_is_told_right
  m__law_is_told_right : mg "_law_is_told_right" = some (.ref f__law_is_told_right)
  k__law_is_told_right : PySem.W.keepIn K (.ref f__law_is_told_right) = true
  b__law_is_told_right : Binds K d__law_is_told_right ["_law_feed_here", "_law_things_here", "_law_low", "_law_high", "_law_due"] []
  f__law_are_few_right : Addr
  d__law_are_few_right : FuncData
  F__law_are_few_right : Fun K "_law_are_few_right" "_law_are_few_right" s__law_are_few_right f__law_are_few_right d__law_are_few_right
  m__law_are_few_right : mg "_law_are_few_right" = some (.ref f__law_are_few_right)
  k__law_are_few_right : PySem.W.keepIn K (.ref f__law_are_few_right) = true
  b__law_are_few_right : Binds K d__law_are_few_right [] []
  f__law_are_refused : Addr
  d__law_are_refused : FuncData
  F__law_are_refused : Fun K "_law_are_refused" "_law_are_refused" s__law_are_refused f__law_are_refused d__law_are_refused
  m__law_are_refused : mg "_law_are_refused" = some (.ref f__law_are_refused)
  k__law_are_refused : PySem.W.keepIn K (.ref f__law_are_refused) = true
  b__law_are_refused : Binds K d__law_are_refused ["_law_feed_here", "_law_things_here"] []
  f_law : Addr
  d_law : FuncData
  F_law : Fun K "law" "law" s_law f_law d_law
  m_law : mg "law" = some (.ref f_law)
  k_law : PySem.W.keepIn K (.ref f_law) = true
  b_law : Binds K d_law ["_law_script"] []
  x_NotUsable : OexC K C_NotUsable
  xk_NotUsable : ExcK K C_NotUsable
  xf_NotUsable : XfC K C_NotUsable
  i_NotUsable : PySem.W.findIn K (.ref C_NotUsable) "__init__" = some (some (.ref f_NotUsable__init__))
  t_NotUsable : PySem.W.typeIn K (.ref f_NotUsable__init__) = some (.type "function")
  n_NotUsable_word : PySem.W.findIn K (.ref C_NotUsable) "word" = some none
  n_NotUsable_at : PySem.W.findIn K (.ref C_NotUsable) "at" = some none
  ex_NotUsable_NeedError : PySem.W.exmOne K (.ref C_NotUsable) (.ref C_NeedError) = some true
  is_NotUsable_Beyond : PySem.W.kitOne K (.ref C_NotUsable) (.ref C_Beyond) = some false
  is_NotUsable_Twice : PySem.W.kitOne K (.ref C_NotUsable) (.ref C_Twice) = some false
  is_NotUsable_Unlike : PySem.W.kitOne K (.ref C_NotUsable) (.ref C_Unlike) = some false
  is_NotUsable_PaperError : PySem.W.kitOne K (.ref C_NotUsable) (.ref C_PaperError) = some false
  is_NotUsable_UnitError : PySem.W.kitOne K (.ref C_NotUsable) (.ref C_UnitError) = some true
  is_NotUsable_LinkError : PySem.W.kitOne K (.ref C_NotUsable) (.ref C_LinkError) = some false
  is_NotUsable_NotUsable : PySem.W.kitOne K (.ref C_NotUsable) (.ref C_NotUsable) = some true
  is_NotUsable_Missing : PySem.W.kitOne K (.ref C_NotUsable) (.ref C_Missing) = some false
  is_NotUsable_LiveError : PySem.W.kitOne K (.ref C_NotUsable) (.ref C_LiveError) = some false
  is_NotUsable_TextError : PySem.W.kitOne K (.ref C_NotUsable) (.ref C_TextError) = some false
  x_Missing : OexC K C_Missing
  xk_Missing : ExcK K C_Missing
  xf_Missing : XfC K C_Missing
  i_Missing : PySem.W.findIn K (.ref C_Missing) "__init__" = some (some (.ref f_Missing__init__))
  t_Missing : PySem.W.typeIn K (.ref f_Missing__init__) = some (.type "function")
  n_Missing_title : PySem.W.findIn K (.ref C_Missing) "title" = some none
  ex_Missing_NeedError : PySem.W.exmOne K (.ref C_Missing) (.ref C_NeedError) = some true
  is_Missing_Beyond : PySem.W.kitOne K (.ref C_Missing) (.ref C_Beyond) = some false
  is_Missing_Twice : PySem.W.kitOne K (.ref C_Missing) (.ref C_Twice) = some false
  is_Missing_Unlike : PySem.W.kitOne K (.ref C_Missing) (.ref C_Unlike) = some false
  is_Missing_PaperError : PySem.W.kitOne K (.ref C_Missing) (.ref C_PaperError) = some false
  is_Missing_UnitError : PySem.W.kitOne K (.ref C_Missing) (.ref C_UnitError) = some false
  is_Missing_LinkError : PySem.W.kitOne K (.ref C_Missing) (.ref C_LinkError) = some true
  is_Missing_NotUsable : PySem.W.kitOne K (.ref C_Missing) (.ref C_NotUsable) = some false
  is_Missing_Missing : PySem.W.kitOne K (.ref C_Missing) (.ref C_Missing) = some true
  is_Missing_LiveError : PySem.W.kitOne K (.ref C_Missing) (.ref C_LiveError) = some false
  is_Missing_TextError : PySem.W.kitOne K (.ref C_Missing) (.ref C_TextError) = some false
  x_Twice : OexC K C_Twice
  xk_Twice : ExcK K C_Twice
  xf_Twice : XfC K C_Twice
  i_Twice : PySem.W.findIn K (.ref C_Twice) "__init__" = some (some (.ref f_Twice__init__))
  t_Twice : PySem.W.typeIn K (.ref f_Twice__init__) = some (.type "function")
  n_Twice_title : PySem.W.findIn K (.ref C_Twice) "title" = some none
  ex_Twice_NeedError : PySem.W.exmOne K (.ref C_Twice) (.ref C_NeedError) = some true
  is_Twice_Beyond : PySem.W.kitOne K (.ref C_Twice) (.ref C_Beyond) = some false
  is_Twice_Twice : PySem.W.kitOne K (.ref C_Twice) (.ref C_Twice) = some true
  is_Twice_Unlike : PySem.W.kitOne K (.ref C_Twice) (.ref C_Unlike) = some false
  is_Twice_PaperError : PySem.W.kitOne K (.ref C_Twice) (.ref C_PaperError) = some false
  is_Twice_UnitError : PySem.W.kitOne K (.ref C_Twice) (.ref C_UnitError) = some false
  is_Twice_LinkError : PySem.W.kitOne K (.ref C_Twice) (.ref C_LinkError) = some true
  is_Twice_NotUsable : PySem.W.kitOne K (.ref C_Twice) (.ref C_NotUsable) = some false
  is_Twice_Missing : PySem.W.kitOne K (.ref C_Twice) (.ref C_Missing) = some false
  is_Twice_LiveError : PySem.W.kitOne K (.ref C_Twice) (.ref C_LiveError) = some false
  is_Twice_TextError : PySem.W.kitOne K (.ref C_Twice) (.ref C_TextError) = some false
  x_Unlike : OexC K C_Unlike
  xk_Unlike : ExcK K C_Unlike
  xf_Unlike : XfC K C_Unlike
  i_Unlike : PySem.W.findIn K (.ref C_Unlike) "__init__" = some (some (.ref f_Unlike__init__))
  t_Unlike : PySem.W.typeIn K (.ref f_Unlike__init__) = some (.type "function")
  n_Unlike_title : PySem.W.findIn K (.ref C_Unlike) "title" = some none
  ex_Unlike_NeedError : PySem.W.exmOne K (.ref C_Unlike) (.ref C_NeedError) = some true
  is_Unlike_Beyond : PySem.W.kitOne K (.ref C_Unlike) (.ref C_Beyond) = some false
  is_Unlike_Twice : PySem.W.kitOne K (.ref C_Unlike) (.ref C_Twice) = some false
  is_Unlike_Unlike : PySem.W.kitOne K (.ref C_Unlike) (.ref C_Unlike) = some true
  is_Unlike_PaperError : PySem.W.kitOne K (.ref C_Unlike) (.ref C_PaperError) = some false
  is_Unlike_UnitError : PySem.W.kitOne K (.ref C_Unlike) (.ref C_UnitError) = some false
  is_Unlike_LinkError : PySem.W.kitOne K (.ref C_Unlike) (.ref C_LinkError) = some true
  is_Unlike_NotUsable : PySem.W.kitOne K (.ref C_Unlike) (.ref C_NotUsable) = some false
  is_Unlike_Missing : PySem.W.kitOne K (.ref C_Unlike) (.ref C_Missing) = some false
  is_Unlike_LiveError : PySem.W.kitOne K (.ref C_Unlike) (.ref C_LiveError) = some false
  is_Unlike_TextError : PySem.W.kitOne K (.ref C_Unlike) (.ref C_TextError) = some false
  x_Beyond : OexC K C_Beyond
  xk_Beyond : ExcK K C_Beyond
  xf_Beyond : XfC K C_Beyond
  i_Beyond : PySem.W.findIn K (.ref C_Beyond) "__init__" = some (some (.ref f_Beyond__init__))
  t_Beyond : PySem.W.typeIn K (.ref f_Beyond__init__) = some (.type "function")
  n_Beyond_need : PySem.W.findIn K (.ref C_Beyond) "need" = some none
  ex_Beyond_NeedError : PySem.W.exmOne K (.ref C_Beyond) (.ref C_NeedError) = some true
  is_Beyond_Beyond : PySem.W.kitOne K (.ref C_Beyond) (.ref C_Beyond) = some true
  is_Beyond_Twice : PySem.W.kitOne K (.ref C_Beyond) (.ref C_Twice) = some false
  is_Beyond_Unlike : PySem.W.kitOne K (.ref C_Beyond) (.ref C_Unlike) = some false
  is_Beyond_PaperError : PySem.W.kitOne K (.ref C_Beyond) (.ref C_PaperError) = some false
  is_Beyond_UnitError : PySem.W.kitOne K (.ref C_Beyond) (.ref C_UnitError) = some false
  is_Beyond_LinkError : PySem.W.kitOne K (.ref C_Beyond) (.ref C_LinkError) = some true
  is_Beyond_NotUsable : PySem.W.kitOne K (.ref C_Beyond) (.ref C_NotUsable) = some false
  is_Beyond_Missing : PySem.W.kitOne K (.ref C_Beyond) (.ref C_Missing) = some false
  is_Beyond_LiveError : PySem.W.kitOne K (.ref C_Beyond) (.ref C_LiveError) = some false
  is_Beyond_TextError : PySem.W.kitOne K (.ref C_Beyond) (.ref C_TextError) = some false
  z_isinstance : mg "isinstance" = none
  z_int : mg "int" = none
  z_bool : mg "bool" = none
  z_all : mg "all" = none
  z_tuple : mg "tuple" = none
  z_zip : mg "zip" = none
  z_sorted : mg "sorted" = none
  z_len : mg "len" = none
  z_enumerate : mg "enumerate" = none
  z_repr : mg "repr" = none
  z_range : mg "range" = none
  z_set : mg "set" = none
  z_min : mg "min" = none
  z_max : mg "max" = none
  z_list : mg "list" = none
theorem hu1 {A : Around} {k : Nat} (hr : Room k A) : A.units + 1 < cLine := by have := hr.un; omega
/-! ### things: lengths and jumps -/
inductive Th where
  | len (n : Int)
  | jmp (t : Nat)
def Th.d : Th → PyData
  | .len n => .int n
  | .jmp t => .tuple [.str "jump", .int t]
def Th.isJ : Th → Bool
  | .len _ => false
  | .jmp _ => true
def ck (cs : List Nat) : List (Key × V) := cs.map fun (i : Nat) => (Sum.inl (i : Int), V.bl true)
def lenT (cs : List Nat) (i : Nat) : Th → Int
  | .len n => n
  | .jmp _ => 1 + (if i ∈ cs then 1 else 0)
def addrAt (cs : List Nat) (ts : List Th) : Nat → Int
  | 0 => 0
  | k + 1 => addrAt cs ts k + lenT cs k (ts.getD k (.len 0))
def addrsTo (cs : List Nat) (ts : List Th) (n : Nat) : List Int := (List.range (n + 1)).map (addrAt cs ts)
def addrs (cs : List Nat) (ts : List Th) : List Int := addrsTo cs ts ts.length
theorem addrsTo_len (cs : List Nat) (ts : List Th) (n : Nat) : (addrsTo cs ts n).length = n + 1 := by unfold addrsTo; rw [List.length_map, List.length_range]
theorem addrsTo_at {cs : List Nat} {ts : List Th} {n k : Nat} (h : k ≤ n) : (addrsTo cs ts n).getD k 0 = addrAt cs ts k := by
  unfold addrsTo
  rw [List.getD_eq_getElem?_getD, List.getElem?_map, List.getElem?_range (by omega)]
  rfl
def spJ (K : PySem.W.Frag) : Sp := fun vs H Q _ => ∃ (x : V) (t : Th), vs = [x] ∧ Dp K H x t.d ∧ Q (.bl t.isJ) H
def spAddr (K : PySem.W.Frag) : Sp := fun vs H Q _ => ∃ (x : V) (c : Addr) (ts : List Th) (cs : List Nat), vs = [x, .ref c] ∧ Dp K H x (.tuple (ts.map Th.d)) ∧ H c = some (.dK (ck cs)) ∧ ts.length ≤ 2000 ∧
  ∀ p H', Same H H' → H p = none → H' p = some (.lst (iV (addrs cs ts))) → Q (.ref p) H'
theorem ck_val (cs : List Nat) (i : Nat) : (valV (ck cs) (Sum.inl (i : Int))).isSome = decide (i ∈ cs) := by
  induction cs with
  | nil => rfl
  | cons c cs ih =>
    show (valV ((Sum.inl (c : Int), V.bl true) :: ck cs) (Sum.inl (i : Int))).isSome = _
    by_cases e : c = i
    · rw [valV_pos (by rw [e]), e]; simp
    · rw [valV_neg (fun z => e (by have := Sum.inl.inj z; omega)), ih]
      have : i ≠ c := fun z => e z.symm
      simp [this]
theorem th_get {K : PySem.W.Frag} {H : Hp} {xs : List V} {ts : List Th} {i : Nat} {z : V} (h : DpAll K H xs (ts.map Th.d)) (e : xs[i]? = some z) : ∃ t, ts[i]? = some t ∧ Dp K H z t.d := by
  obtain ⟨d, _, e1, h1⟩ := dp_get h e
  rw [List.getElem?_map] at e1
  cases c : ts[i]? with
  | none => rw [c] at e1; cases e1
  | some t =>
    rw [c] at e1
    obtain rfl : t.d = d := Option.some.inj e1
    exact ⟨t, rfl, h1⟩
theorem tup_inv {K : PySem.W.Frag} {H : Hp} {x : V} {ds : List PyData} (h : Dp K H x (.tuple ds)) : ∃ (a : Addr) (xs : List V), x = .ref a ∧ SqT K H a xs ∧ DpAll K H xs ds := by
  cases h with
  | tup h a => exact ⟨_, _, rfl, h, a⟩
end Lk

set_option Elab.async false
set_option linter.all false
set_option maxRecDepth 100000
set_option maxHeartbeats 4000000
namespace Lk
open PySem PySem.Spec PyProof.Rows L2
section
variable {P : Program} {w : World} {K : PySem.W.Frag} {mg : Str → Option Value} {base : Heap}
theorem kit_tup {K : PySem.W.Frag} {H : Hp} {v : V} {d : PyData} (h : Dp K H v d) : PySem.W.kitOne K (.type (tyN d)) (.type "tuple") = some (match d with | .tuple _ => true | _ => false) := by
  cases h with
  | non => exact kit_ty (a := "NoneType") (b := "tuple") (r := false) (by decide +kernel)
  | bl b => exact kit_ty (a := "bool") (b := "tuple") (r := false) (by decide +kernel)
  | int i => exact kit_ty (a := "int") (b := "tuple") (r := false) (by decide +kernel)
  | str x => exact kit_ty (a := "str") (b := "tuple") (r := false) (by decide +kernel)
  | lst h a => exact kit_ty (a := "list") (b := "tuple") (r := false) (by decide +kernel)
  | tup h a => exact kit_ty (a := "tuple") (b := "tuple") (r := true) (by decide +kernel)
theorem ok_is_jump (T : Txt K mg) : FnOk P w K mg base CX0 1 T.f_is_jump T.d_is_jump ["thing"] (spJ K) := by
  have nd := sc_is_jump.nd
  refine T.F_is_jump.ok sc_is_jump (fun vs H Q E h => ?_) (fun cdv A outer s H vs Q E hr h => ?_)
  · obtain ⟨x, t, rfl, _⟩ := h
    rfl
  obtain ⟨x, t, rfl, hd, k⟩ := h
  refine ⟨_, (pss_one (ps_ret (pe_callB call_isi (by rfl) T.z_isinstance (by decide +kernel) (pa_cons (pv 0) (pa_cons (pe_bltn (v := .ty "tuple") rfl T.z_tuple (by decide +kernel) rfl) pa_nil))))), ?_⟩
  refine ⟨_, rfl, x, .ty "tuple", _, _, _, rfl, .ty "tuple", ty_of hd, kit_tup hd, ?_⟩
  cases t with
  | len n => exact k
  | jmp t => exact k
theorem ok_addresses (T : Txt K mg) : FnOk P w K mg base CX0 2 T.f_addresses_of T.d_addresses_of ["things", "chosen"] (spAddr K) := by
  have nd := sc_addresses_of.nd
  refine T.F_addresses_of.ok sc_addresses_of (fun vs H Q E h => ?_) (fun cdv A outer s H vs Q E hr h => ?_)
  · obtain ⟨x, c, ts, cs, rfl, _⟩ := h
    rfl
  obtain ⟨x, c, ts, cs, rfl, hd, hc, hts, k⟩ := h
  have G_is_jump : FnOk P w K mg base CX0 1 _ _ _ (spJ K) := ok_is_jump T
  have hr_is_jump := hr
  refine ⟨_, (pss_cons (ps_set (i := 2) nd rfl (Or.inl rfl) (pe_lst (pa_cons pe_int pa_nil)))
      (pss_cons (ps_for PassesOwn.never rfl (pi_enumT (by rfl) T.z_enumerate (pa_cons (pv 0) pa_nil)) (pg_tup rfl (pgs_cons (pg_name (i := 3) nd rfl (Or.inl rfl)) (pgs_cons (pg_name (i := 4) nd rfl (Or.inl rfl)) pgs_nil)))
      (pss_cons (ps_set (i := 5) nd rfl (Or.inl rfl) (pv 4))
      (pss_cons (ps_if (pt_val (pe_call G_is_jump hr_is_jump rfl T.m_is_jump T.k_is_jump T.b_is_jump .nil pass0 (pa_cons (pv 4) pa_nil))) (pss_one (ps_set (i := 5) nd rfl (Or.inl rfl) (pe_op op_add pe_int (pe_callTy call_int1 (by rfl) T.z_int (by decide +kernel) (pa_cons (pe_cmp (pc_din (hu1 hr) (pv 3) (pv 1)) (by rfl)) pa_nil))))) pss_nil)
      (pss_one (ps_expr (pe_bm PySem.F.plainAttrs_list PySem.F.slot_list_append PySem.F.type_list_append mt_append (pv 2) (pa_cons (pe_op op_add (pe_ix ix_list (pv 2) (pe_un un_neg pe_int) (fun _ _ => rfl)) (pv 5)) pa_nil)))))))
      (pss_one (ps_ret (pv 2))))), ?_⟩
  obtain ⟨a, xs, rfl, ha, hx⟩ := tup_inv hd
  have hl : xs.length = ts.length := by rw [dp_len hx, List.length_map]
  refine ⟨(by show 1 ≤ sizeLine; decide), fun p hp => ?_⟩
  have ncp : c ≠ p := fun z => by rw [← z, hc] at hp; cases hp
  have s0 := same_new hp (.lst [.int 0])
  refine ⟨_, rfl, a, xs, rfl, seqT_same s0 ha, ?_⟩
  refine for_it (walk_enumT (K := K) (a := a) (xs := xs)) (fun i σ H' => ∃ (o3 o4 o5 : Option V), σ = [some (.ref a), some (.ref c), some (.ref p), o3, o4, o5] ∧ Same H H' ∧ H' p = some (.lst (iV (addrsTo cs ts i)))) ?_ ?_ ?_ ?_
  · exact ⟨none, none, none, rfl, s0, upd_same⟩
  · rintro i σ H' _ ⟨o3, o4, o5, _, e, _⟩
    exact seqT_same e ha
  · rintro i y σ H3 H4 hi ⟨o3, o4, o5, rfl, e, ep⟩ ⟨TT, y1, z, rfl, hTT, rfl, hy, hz⟩
    obtain rfl : V.int (i : Nat) = y1 := Option.some.inj hy
    obtain ⟨t, ht, hdz⟩ := th_get hx hz
    have e4 : Same H (upd H3 TT (.tup [.int (i : Nat), z])) := e.trans (same_new hTT _)
    have npT : p ≠ TT := fun q => by rw [← q, ep] at hTT; cases hTT
    have ep4 : (upd H3 TT (.tup [.int (i : Nat), z])) p = some (.lst (iV (addrsTo cs ts i))) := by rw [upd_ne npT]; exact ep
    refine ⟨TT, _, rfl, SqT.of upd_same, rfl, _, _, rfl, _, _, rfl, rfl, ?_⟩
    have hi2 : i < ts.length := by omega
    have tg : ts.getD i (.len 0) = t := by rw [List.getD_eq_getElem?_getD, ht]; rfl
    have step : addrsTo cs ts (i + 1) = addrsTo cs ts i ++ [addrAt cs ts i + lenT cs i t] := by
      unfold addrsTo
      rw [List.range_succ, List.map_append]
      show _ ++ [addrAt cs ts i + lenT cs i (ts.getD i (.len 0))] = _
      rw [tg]
    have last : atI (iV (addrsTo cs ts i)) (-1) = some (V.int (addrAt cs ts i)) := by
      have : addrsTo cs ts i = (List.range i).map (addrAt cs ts) ++ [addrAt cs ts i] := by
        unfold addrsTo
        rw [List.range_succ, List.map_append]
        rfl
      rw [this, ← iV_app]
      exact atI_last _ _
    refine ⟨_, rfl, ?_⟩
    have hdz4 := dp_same e4 (dp_same (Same.refl H) hdz)
    refine ⟨_, rfl, z, t, rfl, hdz4, _, rfl, ?_⟩
    cases t with
    | len n =>
      obtain rfl : z = .int n := by cases hdz4; rfl
      refine iteF ?_
      refine ⟨_, rfl, .inl ⟨rfl, _, SqL.of ep4⟩, _, rfl, 1, rfl, p, _, _, _, rfl, rfl, SqL.of ep4, last, _, rfl, _, _, rfl, rfl, p, _, _, rfl, rfl, ep4, (by rw [iV_len, addrsTo_len]; exact szl (by omega)), ?_⟩
      refine ⟨_, _, _, rfl, same_mut e4 hp, ?_⟩
      rw [upd_same, iV_app, step]
      rfl
    | jmp j =>
      refine iteT ?_
      have dg : DGet (upd H3 TT (.tup [.int (i : Nat), z])) c (.int (i : Nat)) (valV (ck cs) (Sum.inl (i : Int))) := .inl ⟨_, Sum.inl (i : Int), .inl (e4 _ _ hc), rfl, rfl⟩
      refine ⟨_, rfl, _, rfl, c, _, rfl, dg, .inr ⟨_, rfl, _, _, rfl, rfl, ?_⟩⟩
      rw [ck_val]
      refine ⟨_, rfl, .inl ⟨rfl, _, SqL.of ep4⟩, _, rfl, 1, rfl, p, _, _, _, rfl, rfl, SqL.of ep4, last, _, rfl, _, _, rfl, rfl, p, _, _, rfl, rfl, ep4, (by rw [iV_len, addrsTo_len]; exact szl (by omega)), ?_⟩
      refine ⟨_, _, _, rfl, same_mut e4 hp, ?_⟩
      rw [upd_same, iV_app, step]
      show some (HO.lst (iV (addrsTo cs ts i ++ [addrAt cs ts i + (1 + if decide (i ∈ cs) = true then 1 else 0)]))) = some (HO.lst (iV (addrsTo cs ts i ++ [addrAt cs ts i + (1 + if i ∈ cs then 1 else 0)])))
      by_cases m : i ∈ cs
      · rw [if_pos (decide_eq_true m), if_pos m]
      · rw [if_neg (by rw [decide_eq_false m]; exact Bool.false_ne_true), if_neg m]
  · rintro σ H' ⟨o3, o4, o5, rfl, e, ep⟩
    rw [hl] at ep
    exact ⟨_, rfl, k p H' e hp ep⟩
end
end Lk

set_option Elab.async false
set_option linter.all false
set_option maxRecDepth 100000
set_option maxHeartbeats 4000000
namespace Lk
open PySem PySem.Spec PyProof.Rows L2
theorem iV_at {ws : List Int} {j : Nat} (h : j < ws.length) : (iV ws)[j]? = some (.int (ws.getD j 0)) := by
  unfold iV
  rw [List.getElem?_map, List.getElem?_eq_getElem h, List.getD_eq_getElem?_getD, List.getElem?_eq_getElem h]
  rfl
def isFar (cs : List Nat) (ts : List Th) (low high : Int) (i : Nat) : Bool := match ts.getD i (.len 0) with
  | .len _ => false
  | .jmp t => decide (i ∉ cs) && !(decide (low ≤ addrAt cs ts t - addrAt cs ts i) && decide (addrAt cs ts t - addrAt cs ts i ≤ high))
def farTo (cs : List Nat) (ts : List Th) (low high : Int) (n : Nat) : List Nat := (List.range n).filter (isFar cs ts low high)
def farL (cs : List Nat) (ts : List Th) (low high : Int) : List Nat := farTo cs ts low high ts.length
def GoodTs (ts : List Th) : Prop := ∀ i t, ts.getD i (.len 0) = .jmp t → t ≤ ts.length
def nV (ns : List Nat) : List V := ns.map fun (i : Nat) => V.int (i : Int)
theorem farTo_succ (cs : List Nat) (ts : List Th) (low high : Int) (n : Nat) : farTo cs ts low high (n + 1) = farTo cs ts low high n ++ (if isFar cs ts low high n = true then [n] else []) := by
  unfold farTo
  rw [List.range_succ, List.filter_append]
  congr 1
  by_cases c : isFar cs ts low high n = true
  · rw [if_pos c, List.filter_cons_of_pos c]; rfl
  · rw [if_neg c, List.filter_cons_of_neg c]; rfl
def spFar (K : PySem.W.Frag) : Sp := fun vs H Q _ => ∃ (x : V) (c : Addr) (low high : Int) (ts : List Th) (cs : List Nat), vs = [x, .int low, .int high, .ref c] ∧ Dp K H x (.tuple (ts.map Th.d)) ∧ H c = some (.dK (ck cs)) ∧ ts.length ≤ 2000 ∧ GoodTs ts ∧
  ∀ p H', Same H H' → H p = none → H' p = some (.lst (nV (farL cs ts low high))) → Q (.ref p) H'
section
variable {P : Program} {w : World} {K : PySem.W.Frag} {mg : Str → Option Value} {base : Heap}
theorem dp_nth {H : Hp} {xs : List V} {ds : List PyData} {i : Nat} (h : DpAll K H xs ds) (hi : i < ds.length) : ∃ v, xs[i]? = some v ∧ Dp K H v ds[i] := by
  have hl := dp_len h
  have h2 : i < xs.length := by omega
  obtain ⟨d, _, e, q⟩ := dp_get h (List.getElem?_eq_getElem h2)
  rw [List.getElem?_eq_getElem hi] at e
  obtain rfl := Option.some.inj e
  exact ⟨_, List.getElem?_eq_getElem h2, q⟩
theorem none_of {H H1 : Hp} {d : Addr} (e : Same H H1) (h : H1 d = none) : H d = none := by
  cases q : H d with
  | none => rfl
  | some o => rw [e d o q] at h; cases h
theorem ok_too_far (T : Txt K mg) : FnOk P w K mg base CX0 3 T.f__too_far T.d__too_far ["things", "low", "high", "chosen"] (spFar K) := by
  have nd := sc__too_far.nd
  refine T.F__too_far.ok sc__too_far (fun vs H Q E h => ?_) (fun cdv A outer s H vs Q E hr h => ?_)
  · obtain ⟨x, c, low, high, ts, cs, rfl, _⟩ := h
    rfl
  obtain ⟨x, c, low, high, ts, cs, rfl, hd, hc, hts, hg, k⟩ := h
  have G_is_jump : FnOk P w K mg base CX0 1 _ _ _ (spJ K) := ok_is_jump T
  have hr_is_jump := hr.mono (show 1 ≤ 2 by omega)
  have G_addresses_of : FnOk P w K mg base CX0 2 _ _ _ (spAddr K) := ok_addresses T
  have hr_addresses_of := hr
  refine ⟨_, (pss_cons (ps_set (i := 4) nd rfl (Or.inl rfl) (pe_call G_addresses_of hr_addresses_of rfl T.m_addresses_of T.k_addresses_of T.b_addresses_of .nil pass0 (pa_cons (pv 0) (pa_cons (pv 3) pa_nil))))
      (pss_cons (ps_set (i := 5) nd rfl (Or.inl rfl) (pe_lst pa_nil))
      (pss_cons (ps_for PassesOwn.never rfl (pi_enumT (by rfl) T.z_enumerate (pa_cons (pv 0) pa_nil)) (pg_tup rfl (pgs_cons (pg_name (i := 6) nd rfl (Or.inl rfl)) (pgs_cons (pg_name (i := 7) nd rfl (Or.inl rfl)) pgs_nil)))
      (pss_one (ps_if (PW.pt (pw_and (pt_val (pe_call G_is_jump hr_is_jump rfl T.m_is_jump T.k_is_jump T.b_is_jump .nil pass0 (pa_cons (pv 7) pa_nil))) (pw_and (pt_cmp (pc_dnotin (hu1 hr) (pv 6) (pv 3)) (by rfl)) (pw_and1 (pt_not (pt_chain op_le op_le (pv 1) (pe_op op_sub (pe_ix ix_list (pv 4) (pe_ix ix_tup (pv 7) pe_int (fun _ _ => rfl)) (fun _ _ => rfl)) (pe_ix ix_list (pv 4) (pv 6) (fun _ _ => rfl))) (pv 2))))))) (pss_one (ps_expr (pe_bm PySem.F.plainAttrs_list PySem.F.slot_list_append PySem.F.type_list_append mt_append (pv 5) (pa_cons (pv 6) pa_nil)))) pss_nil)))
      (pss_one (ps_ret (pv 5)))))), ?_⟩
  refine ⟨_, rfl, _, rfl, x, c, ts, cs, rfl, hd, hc, hts, fun pa H1 e1 hpa ea => ?_⟩
  obtain ⟨a, xs, rfl, ha, hx⟩ := tup_inv (dp_same e1 hd)
  have hl : xs.length = ts.length := by rw [dp_len hx, List.length_map]
  refine ⟨(by show 0 ≤ sizeLine; decide), fun pf hpf => ?_⟩
  have s0 := same_new hpf (.lst [])
  have naf : pa ≠ pf := fun z => by rw [← z, ea] at hpf; cases hpf
  have pf0 := none_of e1 hpf
  refine ⟨_, rfl, a, xs, rfl, seqT_same s0 ha, ?_⟩
  refine for_it (walk_enumT (K := K) (a := a) (xs := xs)) (fun i σ H' => ∃ (o6 o7 : Option V), σ = [some (.ref a), some (.int low), some (.int high), some (.ref c), some (.ref pa), some (.ref pf), o6, o7] ∧ Same H1 H' ∧ H' pf = some (.lst (nV (farTo cs ts low high i)))) ?_ ?_ ?_ ?_
  · exact ⟨none, none, rfl, s0, upd_same⟩
  · rintro i σ H' _ ⟨_, _, _, e, _⟩
    exact seqT_same e ha
  · rintro i y σ H3 H4 hi ⟨o6, o7, rfl, e, ep⟩ ⟨TT, y1, z, rfl, hTT, rfl, hy, hz⟩
    obtain rfl : V.int (i : Nat) = y1 := Option.some.inj hy
    obtain ⟨t, ht, hdz⟩ := th_get hx hz
    have e4 : Same H1 (upd H3 TT (.tup [.int (i : Nat), z])) := e.trans (same_new hTT _)
    have npT : pf ≠ TT := fun q => by rw [← q, ep] at hTT; cases hTT
    have ep4 : (upd H3 TT (.tup [.int (i : Nat), z])) pf = some (.lst (nV (farTo cs ts low high i))) := by rw [upd_ne npT]; exact ep
    have hi2 : i < ts.length := by omega
    have tg : ts.getD i (.len 0) = t := by rw [List.getD_eq_getElem?_getD, ht]; rfl
    have hdz4 := dp_same e4 hdz
    refine ⟨TT, _, rfl, SqT.of upd_same, rfl, _, _, rfl, _, _, rfl, rfl, ?_⟩
    have skip : isFar cs ts low high i = false → H3 = H3 → ∃ (o6 o7 : Option V), [some (V.ref a), some (.int low), some (.int high), some (.ref c), some (.ref pa), some (.ref pf), some (V.int (i : Nat)), some z] = [some (.ref a), some (.int low), some (.int high), some (.ref c), some (.ref pa), some (.ref pf), o6, o7] ∧
        Same H1 (upd H3 TT (.tup [.int (i : Nat), z])) ∧ (upd H3 TT (.tup [.int (i : Nat), z])) pf = some (.lst (nV (farTo cs ts low high (i + 1)))) := fun q _ => by
      refine ⟨_, _, rfl, e4, ?_⟩
      rw [farTo_succ, if_neg (by rw [q]; exact Bool.false_ne_true), List.append_nil]
      exact ep4
    refine ⟨_, rfl, z, t, rfl, hdz4, _, rfl, ?_⟩
    cases t with
    | len n =>
      refine iteF ?_
      refine iteF ?_
      exact skip (by unfold isFar; rw [tg]) rfl
    | jmp j =>
      refine iteT ?_
      have dg : DGet (upd H3 TT (.tup [.int (i : Nat), z])) c (.int (i : Nat)) (valV (ck cs) (Sum.inl (i : Int))) := .inl ⟨_, Sum.inl (i : Int), .inl ((e1.trans e4) _ _ hc), rfl, rfl⟩
      refine ⟨_, rfl, _, rfl, c, _, rfl, dg, _, rfl, ?_⟩
      rw [ck_val]
      by_cases m : i ∈ cs
      · refine ifF (by rw [decide_eq_true m]; rfl) ?_
        refine iteF ?_
        exact skip (by unfold isFar; rw [tg, decide_eq_false (not_not_intro m)]; rfl) rfl
      · refine ifT (by rw [decide_eq_false m]; rfl) ?_
        have hj : j ≤ ts.length := hg i j tg
        obtain ⟨ap, zs, rfl, hap, hzs⟩ := tup_inv hdz4
        obtain ⟨v1, ev1, hv1⟩ := dp_nth hzs (i := 1) (Nat.lt_succ_self _)
        obtain rfl : v1 = .int (j : Int) := by cases hv1; rfl
        have hz1 : atI zs 1 = some (V.int (j : Int)) := atI_nat (j := 1) ev1
        have ea4 := e4 _ _ ea
        have atj : atI (iV (addrs cs ts)) (j : Int) = some (V.int (addrAt cs ts j)) := by
          refine atI_nat ?_
          rw [iV_at (by unfold addrs; rw [addrsTo_len]; omega)]
          unfold addrs
          rw [addrsTo_at hj]
        have ati : atI (iV (addrs cs ts)) (i : Int) = some (V.int (addrAt cs ts i)) := by
          refine atI_nat ?_
          rw [iV_at (by unfold addrs; rw [addrsTo_len]; omega)]
          unfold addrs
          rw [addrsTo_at (by omega)]
        have fe : isFar cs ts low high i = !(decide (low ≤ addrAt cs ts j - addrAt cs ts i) && decide (addrAt cs ts j - addrAt cs ts i ≤ high)) := by
          unfold isFar; rw [tg]
          show (decide (i ∉ cs) && _) = _
          rw [decide_eq_true m, Bool.true_and]
        have add : isFar cs ts low high i = true → ∃ (o6 o7 : Option V), [some (V.ref a), some (.int low), some (.int high), some (.ref c), some (.ref pa), some (.ref pf), some (V.int (i : Nat)), some (.ref ap)] = [some (.ref a), some (.int low), some (.int high), some (.ref c), some (.ref pa), some (.ref pf), o6, o7] ∧
            Same H1 (upd (upd H3 TT (.tup [.int (i : Nat), .ref ap])) pf (.lst (nV (farTo cs ts low high i) ++ [.int (i : Nat)]))) ∧ (upd (upd H3 TT (.tup [.int (i : Nat), .ref ap])) pf (.lst (nV (farTo cs ts low high i) ++ [.int (i : Nat)]))) pf = some (.lst (nV (farTo cs ts low high (i + 1)))) := fun q => by
          refine ⟨_, _, rfl, same_mut e4 hpf, ?_⟩
          rw [upd_same, farTo_succ, if_pos q]
          unfold nV
          rw [List.map_append]
          rfl
        have few : (nV (farTo cs ts low high i)).length < sizeLine := by
          unfold nV farTo
          rw [List.length_map]
          exact szl (Nat.le_trans (List.length_filter_le _ _) (by rw [List.length_range]; omega))
        refine ⟨_, rfl, _, rfl, _, rfl, ap, _, _, _, rfl, rfl, hap, hz1, pa, _, _, _, rfl, rfl, SqL.of ea4, atj, _, rfl, _, rfl, pa, _, _, _, rfl, rfl, SqL.of ea4, ati, _, _, rfl, rfl, _, _, rfl, rfl, _, rfl, ?_⟩
        by_cases c1 : low ≤ addrAt cs ts j - addrAt cs ts i
        · refine ifT (decide_eq_true c1) ?_
          refine ⟨_, rfl, _, _, rfl, rfl, _, rfl, ?_⟩
          by_cases c2 : addrAt cs ts j - addrAt cs ts i ≤ high
          · rw [decide_eq_true c2]
            refine iteF ?_
            exact skip (by rw [fe, decide_eq_true c1, decide_eq_true c2]; rfl) rfl
          · rw [decide_eq_false c2]
            refine iteT ?_
            refine ⟨_, rfl, .inl ⟨rfl, _, SqL.of ep4⟩, _, rfl, pf, _, _, rfl, rfl, ep4, few, ?_⟩
            exact add (by rw [fe, decide_eq_true c1, decide_eq_false c2]; rfl)
        · refine ifF (decide_eq_false c1) ?_
          refine ⟨_, rfl, ?_⟩
          refine iteT ?_
          refine ⟨_, rfl, .inl ⟨rfl, _, SqL.of ep4⟩, _, rfl, pf, _, _, rfl, rfl, ep4, few, ?_⟩
          exact add (by rw [fe, decide_eq_false c1]; rfl)
  · rintro σ H' ⟨o6, o7, rfl, e, ep⟩
    rw [hl] at ep
    exact ⟨_, rfl, k pf H' (e1.trans e) pf0 ep⟩
end
end Lk

set_option Elab.async false
set_option linter.all false
set_option maxRecDepth 100000
set_option maxHeartbeats 4000000
namespace Lk
open PySem PySem.Spec PyProof.Rows L2
theorem farL_mem {cs : List Nat} {ts : List Th} {low high : Int} {i : Nat} (h : i ∈ farL cs ts low high) : i < ts.length ∧ i ∉ cs := by
  obtain ⟨h1, h2⟩ := List.mem_filter.mp h
  refine ⟨List.mem_range.mp h1, fun m => ?_⟩
  unfold isFar at h2
  split at h2
  · cases h2
  · rw [decide_eq_false (not_not_intro m)] at h2; cases h2
theorem farL_nodup (cs : List Nat) (ts : List Th) (low high : Int) : (farL cs ts low high).Nodup := List.nodup_range.filter _
def leastN (ts : List Th) (low high : Int) : Nat → List Nat → List Nat
  | 0, cs => cs
  | n + 1, cs => match farL cs ts low high with
    | [] => cs
    | f :: fs => leastN ts low high n (cs ++ f :: fs)
def leastL (ts : List Th) (low high : Int) : List Nat := leastN ts low high (ts.length + 1) []
theorem len_le_nat : ∀ {l T : List Nat}, l.Nodup → (∀ x ∈ l, x ∈ T) → l.length ≤ T.length
  | [], _, _, _ => Nat.zero_le _
  | x :: l, T, hn, hs => by
    have hx := hs x List.mem_cons_self
    have hn' := List.nodup_cons.mp hn
    have := len_le_nat (T := T.erase x) hn'.2 fun y m => (List.mem_erase_of_ne (show y ≠ x from fun e => hn'.1 (by rw [← e]; exact m))).mpr (hs y (List.mem_cons_of_mem _ m))
    rw [List.length_erase_of_mem hx] at this
    have := List.length_pos_of_mem hx
    simp only [List.length_cons]
    omega
theorem few_nat {l : List Nat} {n : Nat} (hn : l.Nodup) (h : ∀ x ∈ l, x < n) : l.length ≤ n := by
  have := len_le_nat hn (T := List.range n) fun x m => List.mem_range.mpr (h x m)
  rw [List.length_range] at this
  exact this
def spLeast (K : PySem.W.Frag) : Sp := fun vs H Q _ => ∃ (x : V) (low high : Int) (ts : List Th), vs = [x, .int low, .int high] ∧ Dp K H x (.tuple (ts.map Th.d)) ∧ ts.length ≤ 2000 ∧ GoodTs ts ∧
  ∀ p H', Same H H' → H p = none → H' p = some (.dK (ck (leastL ts low high))) → Q (.ref p) H'
section
variable {P : Program} {w : World} {K : PySem.W.Frag} {mg : Str → Option Value} {base : Heap}
theorem ok_least (T : Txt K mg) : FnOk P w K mg base CX0 4 T.f_least_long T.d_least_long ["things", "low", "high"] (spLeast K) := by
  have nd := sc_least_long.nd
  refine T.F_least_long.ok sc_least_long (fun vs H Q E h => ?_) (fun cdv A outer s H vs Q E hr h => ?_)
  · obtain ⟨x, low, high, ts, rfl, _⟩ := h
    rfl
  obtain ⟨x, low, high, ts, rfl, hd, hts, hg, k⟩ := h
  have G__too_far : FnOk P w K mg base CX0 3 _ _ _ (spFar K) := ok_too_far T
  have hr__too_far := hr
  refine ⟨_, (pss_cons (ps_set (i := 3) nd rfl (Or.inl rfl) pe_dnewK)
      (pss_cons (ps_set (i := 4) nd rfl (Or.inl rfl) (pe_call G__too_far hr__too_far rfl T.m__too_far T.k__too_far T.b__too_far .nil pass0 (pa_cons (pv 0) (pa_cons (pv 1) (pa_cons (pv 2) (pa_cons (pv 3) pa_nil))))))
      (pss_cons (ps_while PassesOwn.never (pt_cmpR op_gt (pe_callB call_len_seq (by rfl) T.z_len PySem.boot_len (pa_cons (pv 4) pa_nil)) pe_int (nomark _)) (pss_cons (ps_for PassesOwn.never rfl (pi_list (pv 4)) (pg_name (i := 5) nd rfl (Or.inl rfl))
      (pss_one (ps_dput (hu1 hr) (pv 3) (pv 5) pe_bl rfl)))
      (pss_one (ps_set (i := 4) nd rfl (Or.inl rfl) (pe_call G__too_far hr__too_far rfl T.m__too_far T.k__too_far T.b__too_far .nil pass0 (pa_cons (pv 0) (pa_cons (pv 1) (pa_cons (pv 2) (pa_cons (pv 3) pa_nil)))))))))
      (pss_one (ps_ret (pv 3)))))), ?_⟩
  refine fun c hc => ?_
  have e0 : Same H (upd H c (.dK [])) := same_new hc _
  refine ⟨_, rfl, _, rfl, _, rfl, _, rfl, x, c, low, high, ts, [], rfl, dp_same e0 hd, upd_same, hts, hg, fun f H1 e1 hf ef => ?_⟩
  refine ⟨fun m σ H' => ∃ (cs : List Nat) (n : Nat) (f : Addr) (o5 : Option V), σ = [some x, some (.int low), some (.int high), some (.ref c), some (.ref f), o5] ∧ m = ts.length - cs.length ∧ Same H H' ∧ H' c = some (.dK (ck cs)) ∧ H' f = some (.lst (nV (farL cs ts low high))) ∧
    cs.Nodup ∧ (∀ i ∈ cs, i < ts.length) ∧ leastN ts low high n cs = leastL ts low high ∧ ts.length + 1 ≤ n + cs.length, ⟨_, [], ts.length + 1, f, none, rfl, rfl, e0.trans e1, e1 _ _ upd_same, ef, List.nodup_nil, (fun _ m => nomatch m), rfl, Nat.le_refl _⟩, ?_⟩
  rintro m σ H' ⟨cs, n, f, o5, rfl, rfl, e, ec, ef, nd1, hlt, hN, hn⟩
  have hcl := few_nat nd1 hlt
  obtain ⟨n', rfl⟩ : ∃ n', n = n' + 1 := ⟨n - 1, by omega⟩
  refine ⟨_, rfl, f, _, rfl, .inl (SqL.of ef), _, _, rfl, rfl, _, rfl, ?_⟩
  cases efar : farL cs ts low high with
  | nil =>
    refine iteF ?_
    have : leastN ts low high (n' + 1) cs = cs := by rw [leastN, efar]
    rw [this] at hN
    rw [hN] at ec
    exact ⟨_, rfl, k c H' e hc ec⟩
  | cons f0 fr =>
    refine ifT (decide_eq_true (show (0 : Int) < ((nV (f0 :: fr)).length : Int) by unfold nV; rw [List.length_map, List.length_cons]; omega)) ?_
    have hN' : leastN ts low high n' (cs ++ f0 :: fr) = leastL ts low high := by rw [← hN, leastN, efar]
    have nd2 : (cs ++ f0 :: fr).Nodup := by
      rw [← efar]
      exact List.nodup_append.mpr ⟨nd1, farL_nodup .., fun a ma b mb q => (farL_mem mb).2 (q ▸ ma)⟩
    have hlt2 : ∀ i ∈ cs ++ f0 :: fr, i < ts.length := fun i mi => by
      rw [← efar] at mi
      exact (List.mem_append.mp mi).elim (hlt i) fun h => (farL_mem h).1
    have hcl2 := few_nat nd2 hlt2
    rw [efar] at ef
    refine ⟨fun σ' H'' => ∃ m', m' < ts.length - cs.length ∧ (∃ (cs : List Nat) (n : Nat) (f : Addr) (o5 : Option V), σ' = [some x, some (.int low), some (.int high), some (.ref c), some (.ref f), o5] ∧ m' = ts.length - cs.length ∧ Same H H'' ∧ H'' c = some (.dK (ck cs)) ∧ H'' f = some (.lst (nV (farL cs ts low high))) ∧
      cs.Nodup ∧ (∀ i ∈ cs, i < ts.length) ∧ leastN ts low high n cs = leastL ts low high ∧ ts.length + 1 ≤ n + cs.length), fun _ _ z => z, ?_⟩
    refine ⟨_, rfl, f, rfl, ⟨_, SqL.of ef⟩, ?_⟩
    refine for_list (K := K) (a := f) (xs := nV (f0 :: fr)) (fun i σ H2 => ∃ o5, σ = [some x, some (.int low), some (.int high), some (.ref c), some (.ref f), o5] ∧ Same H H2 ∧ H2 c = some (.dK (ck (cs ++ (f0 :: fr).take i))) ∧ H2 f = some (.lst (nV (f0 :: fr)))) ?_ ?_ ?_ ?_
    · exact ⟨_, rfl, e, by rw [List.take_zero, List.append_nil]; exact ec, ef⟩
    · rintro i σ H2 _ ⟨_, _, _, _, h⟩
      exact SqL.of h
    · rintro i z σ H2 hiz ⟨o5, rfl, e2, ec2, ef2⟩
      obtain ⟨j, hj, rfl⟩ : ∃ j : Nat, (f0 :: fr)[i]? = some j ∧ z = .int (j : Int) := by
        unfold nV at hiz
        rw [List.getElem?_map] at hiz
        cases hh : (f0 :: fr)[i]? with
        | none => rw [hh] at hiz; cases hiz
        | some j => rw [hh] at hiz; exact ⟨j, rfl, (Option.some.inj hiz).symm⟩
      have hjn : j ∉ cs ++ (f0 :: fr).take i := by
        intro mj
        have ek : cs ++ f0 :: fr = (cs ++ (f0 :: fr).take i) ++ (f0 :: fr).drop i := by rw [List.append_assoc, List.take_append_drop]
        rw [ek] at nd2
        have il := (List.getElem?_eq_some_iff.mp hj).1
        have : j ∈ (f0 :: fr).drop i := by
          rw [List.drop_eq_getElem_cons il]
          rw [List.getElem?_eq_getElem il] at hj
          rw [Option.some.inj hj]
          exact List.mem_cons_self
        exact (List.nodup_append.mp nd2).2.2 j mj j this rfl
      have hvn : valV (ck (cs ++ (f0 :: fr).take i)) (Sum.inl (j : Int)) = none := by
        have := ck_val (cs ++ (f0 :: fr).take i) j
        rw [decide_eq_false hjn] at this
        cases hh : valV (ck (cs ++ (f0 :: fr).take i)) (Sum.inl (j : Int)) with
        | none => rfl
        | some v => rw [hh] at this; cases this
      refine ⟨_, rfl, _, rfl, c, _, rfl, DPut.k (k := Sum.inl (j : Int)) ec2 ?_, ?_⟩
      · unfold ck
        rw [List.length_map, List.length_append, List.length_take]
        rw [List.length_append] at hcl2
        exact szl (by omega)
      · rw [putK_new _ hvn]
        refine ⟨_, rfl, same_mut e2 hc, ?_, ?_⟩
        · rw [upd_same, List.take_succ, hj, ← List.append_assoc]
          unfold ck
          rw [List.map_append (l₁ := cs ++ (f0 :: fr).take i)]
          rfl
        · rw [upd_ne (fun q => by rw [q, ec2] at ef2; cases ef2)]; exact ef2
    · rintro σ H2 ⟨o5, rfl, e2, ec2, ef2⟩
      have ll : (nV (f0 :: fr)).length = (f0 :: fr).length := List.length_map _
      rw [ll, List.take_length] at ec2
      refine ⟨_, rfl, _, rfl, _, rfl, _, rfl, x, c, low, high, ts, cs ++ f0 :: fr, rfl, dp_same e2 hd, ec2, hts, hg, fun f' H3 e3 hf3 ef3 => ?_⟩
      rw [List.length_append] at hcl2
      simp only [List.length_cons] at hcl2
      exact ⟨_, by rw [List.length_append]; simp only [List.length_cons]; omega, cs ++ f0 :: fr, n', f', _, rfl, rfl, e2.trans e3, e3 _ _ ec2, ef3, nd2, hlt2, hN', by rw [List.length_append]; simp only [List.length_cons]; omega⟩
end
end Lk

set_option Elab.async false
set_option linter.all false
set_option maxRecDepth 100000
set_option maxHeartbeats 4000000
namespace Lk
open PySem PySem.Spec PyProof.Rows L2
def fdK (q : Addr) (p b t : Int) : List (Key × V) := [(Sum.inr "cells", .ref q), (Sum.inr "spot", .int p), (Sum.inr "left", .int b), (Sum.inr "turn", .int t)]
/-- the feed: its numbers at q, the spot, what is left of a great one, the turn -/
def Feed (K : PySem.W.Frag) (H : Hp) (l q : Addr) (ns : List Int) : Prop := ∃ (p b t : Int), H l = some (.dK (fdK q p b t)) ∧ SqL K (del H l) q (iV ns) ∧ 0 ≤ p ∧ ns.length ≤ 63
def spFeed (K : PySem.W.Frag) : Sp := fun vs H Q _ => ∃ (a : Addr) (ns : List Int), vs = [.ref a] ∧ SqL K H a (iV ns) ∧ ns.length ≤ 63 ∧ ∀ (p : Addr) (H' : Hp), Same H H' → ∀ q ns, H p = none → Feed K H' p q ns → Q (.ref p) H'
def spTake (K : PySem.W.Frag) : Sp := fun vs H Q _ => ∃ (l : Addr) (m : Int) (q : Addr) (ns : List Int), vs = [.ref l, .int m] ∧ Feed K H l q ns ∧ 0 < m ∧ m < 1000000 ∧ ∀ (r : Int) (H' : Hp), 0 ≤ r → r < m → Feed K H' l q ns → Same (del H l) (del H' l) → Q (.int r) H'
theorem fd_get {H : Hp} {l q : Addr} {p b t : Int} (h : H l = some (.dK (fdK q p b t))) : DGet H l (.str "cells") (some (.ref q)) ∧ DGet H l (.str "spot") (some (.int p)) ∧ DGet H l (.str "left") (some (.int b)) ∧ DGet H l (.str "turn") (some (.int t)) := by
  refine ⟨?_, ?_, ?_, ?_⟩
  · exact .inl ⟨_, Sum.inr "cells", .inl h, rfl, rfl⟩
  · exact .inl ⟨_, Sum.inr "spot", .inl h, rfl, rfl⟩
  · exact .inl ⟨_, Sum.inr "left", .inl h, rfl, rfl⟩
  · exact .inl ⟨_, Sum.inr "turn", .inl h, rfl, rfl⟩
section
variable {P : Program} {w : World} {K : PySem.W.Frag} {mg : Str → Option Value} {base : Heap}
theorem ok_feed (T : Txt K mg) : FnOk P w K mg base CX0 1 T.f__law_feed T.d__law_feed ["_law_script"] (spFeed K) := by
  have nd := sc__law_feed.nd
  refine T.F__law_feed.ok sc__law_feed (fun vs H Q E h => ?_) (fun cdv A outer s H vs Q E hr h => ?_)
  · obtain ⟨a, ns, rfl, _⟩ := h
    rfl
  obtain ⟨a, ns, rfl, hS, h63, k⟩ := h
  refine ⟨_, (pss_one (ps_ret (pe_disp (pps_cons pe_str (pe_lc (own := [("_law_cell", 1)]) (g := gName 1) (tt := tYes) (by rfl) nd (pi_list (pe_slice sl_list (pv 0) po_none (po_some pe_int))) (blkOk_by (own := [("_law_cell", 1)]) (N := sl__law_feed) (sc := defScope s__law_feed) (by decide +kernel)) (fun _ _ _ _ _ => pg_name (i := 1) nd rfl (Or.inl rfl)) (fun _ _ _ _ _ => pts_nil) (fun _ _ _ _ _ => (pe_callTy call_int1 (by rfl) T.z_int (by decide +kernel) (pa_cons (pv 1) pa_nil)))) (pps_cons pe_str pe_int (pps_cons pe_str pe_int (pps_cons pe_str pe_int pps_nil)))) rfl rfl (by intro z; cases z) (Nat.le_of_ble_eq_true rfl)))), ?_⟩
  refine fun l hl => ?_
  have e1 : Same H (upd H l (.dK [])) := same_new hl _
  refine ⟨_, rfl, 59, rfl, a, _, rfl, e1.seq hS, fun sl hsl => ⟨sl, rfl, ⟨_, SqL.of upd_same⟩, fun D hD => ?_⟩⟩
  have hcut : cutV (iV ns) none (some 59) = iV (ns.take 59) := (cut_hi (n := 59)).trans (iV_take ns 59)
  rw [hcut] at hD
  have ndl : D ≠ l := fun z => by
    rw [z, upd_ne (fun y => by rw [← y, upd_same] at hsl; cases hsl), upd_same] at hD
    cases hD
  have nsl : sl ≠ l := fun y => by rw [y, upd_same] at hsl; cases hsl
  have e2 : Same (upd H l (.dK [])) (upd (upd H l (.dK [])) sl (.lst (iV (ns.take 59)))) := same_new hsl _
  have esl : (upd (upd H l (.dK [])) sl (.lst (iV (ns.take 59)))) sl = some (.lst (iV (ns.take 59))) := upd_same
  rw [hcut]
  generalize upd (upd H l (.dK [])) sl (.lst (iV (ns.take 59))) = G at *
  generalize hms : ns.take 59 = ms at *
  have lms : ms.length ≤ 59 := by rw [← hms, List.length_take]; omega
  refine lc_it (walk_list (K := K) (a := sl) (xs := iV ms)) (fun i H' => Same G H' ∧ H' D = some (.lst (iV (ms.take i)))) ?_ ?_ ?_ ?_
  · exact ⟨same_new hD _, upd_same⟩
  · rintro i H' _ ⟨e, _⟩
    exact SqL.of (e _ _ esl)
  · rintro i z H1 H2 hi ⟨e, hDl⟩ ⟨rfl, hz⟩
    rw [iV_len] at hi
    rw [iV_at hi] at hz
    cases hz
    refine ⟨rfl, ?_⟩
    refine ⟨_, rfl, .inl ⟨_, rfl, ?_⟩⟩
    refine ⟨_, hDl, (by rw [iV_len, List.length_take]; exact szl (by omega)), same_mut e hD, ?_⟩
    rw [upd_same, List.take_succ, List.getElem?_eq_getElem hi]
    have : iV (ms.take i ++ [ms[i]]) = iV (ms.take i) ++ [V.int (ms.getD i 0)] := by
      rw [List.getD_eq_getElem?_getD, List.getElem?_eq_getElem hi]
      exact List.map_append ..
    rw [← this]; rfl
  · rintro H1 ⟨e, hDl⟩
    rw [iV_len, List.take_length] at hDl
    have el := (e2.trans e) _ _ (upd_same : (upd H l (.dK [])) l = some (.dK []))
    refine ⟨el, [(Sum.inr "cells", .ref D), (Sum.inr "spot", .int 0), (Sum.inr "left", .int 0), (Sum.inr "turn", .int 0)], rfl, Nat.le_of_ble_eq_true rfl, ?_⟩
    have em : mergeK [] [((Sum.inr "cells" : Key), V.ref D), (Sum.inr "spot", .int 0), (Sum.inr "left", .int 0), (Sum.inr "turn", .int 0)] = fdK D 0 0 0 := by
      rfl
    rw [em]
    have eH : Same H (upd H1 l (.dK (fdK D 0 0 0))) := same_mut ((e1.trans e2).trans e) hl
    refine k l _ eH D ms hl ⟨0, 0, 0, upd_same, SqL.of ?_, Int.le_refl _, by omega⟩
    rw [del_upd, del_ne ndl]
    exact hDl
end
end Lk

set_option Elab.async false
set_option linter.all false
set_option maxRecDepth 100000
set_option maxHeartbeats 4000000
namespace Lk
open PySem PySem.Spec PyProof.Rows L2
theorem lay_ints : ∀ ns : List Int, PyData.canLayAll0 (ns.map .int) = true
  | [] => rfl
  | n :: r => by
    show (true && PyData.canLayAll0 (r.map .int)) = true
    rw [lay_ints r]; rfl
theorem dep_ints : ∀ ns : List Int, PyData.depthAll (ns.map .int) = 0
  | [] => rfl
  | n :: r => by
    simp only [List.map_cons, PyData.depthAll, PyData.depth, dep_ints r]
    try rfl
theorem shaped_iV (ns : List Int) : SeqAt.shaped (.list (ns.map .int)) = true := by
  unfold SeqAt.shaped
  rw [Bool.and_eq_true_iff]
  refine ⟨lay_ints ns, decide_eq_true ?_⟩
  simp only [PyData.depth, dep_ints]
  omega
theorem fmod_small (x : Int) {c : Int} (h0 : 0 < c) (h1 : c < 2 ^ 64) : -(2 ^ 64) < x.fmod c ∧ x.fmod c < 2 ^ 64 := by
  have a := Int.fmod_nonneg_of_pos x h0
  have b := Int.fmod_lt_of_pos x h0
  omega
theorem putT {q : Addr} {p b t x : Int} : putK (fdK q p b t) (Sum.inr "turn") (.int x) = fdK q p b x := rfl
theorem putL {q : Addr} {p b t x : Int} : putK (fdK q p b t) (Sum.inr "left") (.int x) = fdK q p x t := rfl
theorem putS {q : Addr} {p b t x : Int} : putK (fdK q p b t) (Sum.inr "spot") (.int x) = fdK q x b t := rfl
section
variable {P : Program} {w : World} {K : PySem.W.Frag} {mg : Str → Option Value} {base : Heap}
theorem ok_draw (T : Txt K mg) : FnOk P w K mg base CX0 1 T.f__law_draw T.d__law_draw ["_law_feed_here", "_law_size"] (spTake K) := by
  have nd := sc__law_draw.nd
  refine T.F__law_draw.ok sc__law_draw (fun vs H Q E h => ?_) (fun cdv A outer s H vs Q E hr h => ?_)
  · obtain ⟨l, m, q, ns, rfl, _⟩ := h
    rfl
  obtain ⟨l, m, q, ns, rfl, ⟨p, b, t, hl, hq, hp0, h63⟩, hm, hm1, k⟩ := h
  refine ⟨_, (pss_cons (ps_dput (hu1 hr) (pv 0) pe_str (pe_op op_add (pe_dget (hu1 hr) (pv 0) pe_str (fun _ _ => rfl)) pe_int) rfl)
      (pss_cons (ps_if (pt_cmpR op_gt (pe_dget (hu1 hr) (pv 0) pe_str (fun _ _ => rfl)) pe_int (nomark _)) (pss_cons (ps_set (i := 2) nd rfl (Or.inl rfl) (pe_op op_modN (pe_callTy call_int1 (by rfl) T.z_int (by decide +kernel) (pa_cons (pe_dget (hu1 hr) (pv 0) pe_str (fun _ _ => rfl)) pa_nil)) (pv 1)))
      (pss_cons (ps_dput (hu1 hr) (pv 0) pe_str (pe_op op_fdivN (pe_callTy call_int1 (by rfl) T.z_int (by decide +kernel) (pa_cons (pe_dget (hu1 hr) (pv 0) pe_str (fun _ _ => rfl)) pa_nil)) (pv 1)) rfl)
      (pss_one (ps_ret (pv 2))))) pss_nil)
      (pss_cons (ps_par (i := 3) (j := 4) rfl nd rfl rfl (by decide) rfl rfl (pa_cons (pe_dget (hu1 hr) (pv 0) pe_str (fun _ _ => rfl)) (pa_cons (pe_dget (hu1 hr) (pv 0) pe_str (fun _ _ => rfl)) pa_nil)) (by rfl))
      (pss_cons (ps_dput (hu1 hr) (pv 0) pe_str (pe_op op_add (pv 4) pe_int) rfl)
      (pss_cons (ps_set (i := 5) nd rfl (Or.inl rfl) (pe_ifExp (pt_cmpR (op_neD hr.units) (pv 3) (pe_lst pa_nil) (nomark _)) (pe_ix ix_list (pv 3) (pe_op op_modN (pe_callTy call_int1 (by rfl) T.z_int (by decide +kernel) (pa_cons (pv 4) pa_nil)) (pe_callB call_len_seq (by rfl) T.z_len PySem.boot_len (pa_cons (pv 3) pa_nil))) (fun _ _ => rfl)) pe_int))
      (pss_cons (ps_if (PW.pt (pw_and (pt_cmpR op_ge (pv 5) (pe_op op_pow pe_int pe_int) (nomark _)) (pw_and1 (pt_cmpR op_lt (pv 4) (pe_callB call_len_seq (by rfl) T.z_len PySem.boot_len (pa_cons (pv 3) pa_nil)) (nomark _))))) (pss_cons (ps_dput (hu1 hr) (pv 0) pe_str (pe_op op_fdivN (pe_callTy call_int1 (by rfl) T.z_int (by decide +kernel) (pa_cons (pv 5) pa_nil)) (pv 1)) rfl)
      (pss_one (ps_ret (pe_op op_modN (pe_callTy call_int1 (by rfl) T.z_int (by decide +kernel) (pa_cons (pv 5) pa_nil)) (pv 1))))) pss_nil)
      (pss_cons (ps_set (i := 6) nd rfl (Or.inl rfl) (pe_op op_modN (pe_callTy call_int1 (by rfl) T.z_int (by decide +kernel) (pa_cons (pe_op op_add (pe_op op_add (pe_op op_modN (pe_callTy call_int1 (by rfl) T.z_int (by decide +kernel) (pa_cons (pv 5) pa_nil)) pe_int) (pe_op op_mul pe_int (pe_dget (hu1 hr) (pv 0) pe_str (fun _ _ => rfl)))) pe_int) pa_nil)) pe_int))
      (pss_cons (ps_set (i := 6) nd rfl (Or.inl rfl) (pe_op op_modN (pe_callTy call_int1 (by rfl) T.z_int (by decide +kernel) (pa_cons (pe_op op_add (pe_op op_add (pe_op op_mul (pv 6) (pv 6)) (pe_op op_mul pe_int (pe_dget (hu1 hr) (pv 0) pe_str (fun _ _ => rfl)))) pe_int) pa_nil)) pe_int))
      (pss_one (ps_ret (pe_op op_modN (pe_callTy call_int1 (by rfl) T.z_int (by decide +kernel) (pa_cons (pe_op op_fdivN (pe_op op_modN (pe_callTy call_int1 (by rfl) T.z_int (by decide +kernel) (pa_cons (pe_op op_add (pe_op op_mul (pv 6) (pv 6)) (pe_op op_mul pe_int (pv 6))) pa_nil)) pe_int) pe_int) pa_nil)) (pv 1)))))))))))), ?_⟩
  have sz : ∀ {p b t : Int}, (fdK q p b t).length < sizeLine := fun {p b t} => by show 4 < sizeLine; decide
  refine ⟨_, rfl, l, _, rfl, (fd_get hl).2.2.2, _, _, rfl, rfl, _, rfl, l, _, rfl, DPut.k (k := Sum.inr "turn") hl sz, ?_⟩
  rw [putT]
  have kq : ∀ {H2 : Hp} {o : HO}, Same (del H l) (del H2 l) → Same (del H l) (del (upd H2 l o) l) := fun {H2 o} e => by rw [del_upd]; exact e
  have e1 : Same (del H l) (del (upd H l (.dK (fdK q p b (t + 1)))) l) := kq (Same.refl _)
  have hl1 : (upd H l (.dK (fdK q p b (t + 1)))) l = some (.dK (fdK q p b (t + 1))) := upd_same
  generalize upd H l (.dK (fdK q p b (t + 1))) = H1 at e1 hl1 ⊢
  have fin : ∀ (r : Int) (H2 : Hp) (p b t : Int), H2 l = some (.dK (fdK q p b t)) → 0 ≤ p → Same (del H l) (del H2 l) → 0 ≤ r → r < m → Q (.int r) H2 := fun r H2 p b t h2 hp e r0 r1 => k r H2 r0 r1 ⟨p, b, t, h2, e.seq hq, hp, h63⟩ e
  refine ⟨_, rfl, l, _, rfl, (fd_get hl1).2.2.1, _, _, rfl, rfl, _, rfl, ?_⟩
  refine ite2 (fun c1 => ?_) (fun c1 => ?_)
  · refine ⟨_, rfl, l, _, rfl, (fd_get hl1).2.2.1, .inl ⟨_, rfl, _, rfl, _, _, rfl, rfl, (by show m ≠ 0; omega), ?_⟩⟩
    refine ⟨_, rfl, l, _, rfl, (fd_get hl1).2.2.1, .inl ⟨_, rfl, _, rfl, _, _, rfl, rfl, ⟨by omega, by omega⟩, _, rfl, l, _, rfl, DPut.k (k := Sum.inr "left") hl1 sz, ?_⟩⟩
    rw [putL]
    exact ⟨_, rfl, fin _ _ _ _ _ upd_same hp0 (kq e1) (Int.fmod_nonneg_of_pos _ hm) (Int.fmod_lt_of_pos _ hm)⟩
  · have hq1 : SqL K H1 q (iV ns) := (del_le H1 l).seq (e1.seq hq)
    refine ⟨_, rfl, l, _, rfl, (fd_get hl1).1, _, rfl, l, _, rfl, (fd_get hl1).2.1, _, _, rfl, ?_⟩
    refine ⟨_, rfl, _, _, rfl, rfl, _, rfl, l, _, rfl, DPut.k (k := Sum.inr "spot") hl1 sz, ?_⟩
    rw [putS]
    have e2 := kq (o := .dK (fdK q (p + 1) b (t + 1))) e1
    have hl2 : (upd H1 l (.dK (fdK q (p + 1) b (t + 1)))) l = some (.dK (fdK q (p + 1) b (t + 1))) := upd_same
    generalize upd H1 l (.dK (fdK q (p + 1) b (t + 1))) = H2 at e2 hl2 ⊢
    have hq2 : SqL K H2 q (iV ns) := (del_le H2 l).seq (e2.seq hq)
    refine ⟨_, rfl, (by show 0 ≤ sizeLine; decide), fun pe hpe => ?_⟩
    have e3 : Same H2 (upd H2 pe (.lst [])) := same_new hpe _
    refine ⟨.list (ns.map .int), .list [], .lst (e3.seq hq2) (dp_ints ns), .lst (SqL.of upd_same) .nil, shaped_iV ns, rfl, _, rfl, ?_⟩
    have hl3 := e3 _ _ hl2
    have e23 := e2.trans (same_del l e3)
    have hq3 := e3.seq hq2
    generalize upd H2 pe (.lst []) = H3 at e3 hl3 e23 hq3 ⊢
    cases ns with
    | nil =>
      refine iteF ?_
      refine ⟨_, rfl, _, _, rfl, rfl, ⟨by decide, by decide, by decide⟩, _, _, rfl, rfl, _, rfl, ?_⟩
      have dgt := (fd_get hl3).2.2.2
      refine ite2 (fun c2 => ?_) (fun c2 => ?_)
      · refine ⟨_, rfl, _, rfl, q, _, rfl, .inl hq3, _, _, rfl, rfl, _, rfl, ?_⟩
        refine ite2 (fun c3 => ?_) (fun c3 => ?_)
        · refine ⟨_, rfl, .inl ⟨_, rfl, _, rfl, _, _, rfl, rfl, ⟨by omega, by omega⟩, _, rfl, l, _, rfl, DPut.k (k := Sum.inr "left") hl3 sz, ?_⟩⟩
          rw [putL]
          exact ⟨_, rfl, .inl ⟨_, rfl, _, rfl, _, _, rfl, rfl, (by show m ≠ 0; omega), fin _ _ _ _ _ upd_same (by omega) (kq e23) (Int.fmod_nonneg_of_pos _ hm) (Int.fmod_lt_of_pos _ hm)⟩⟩
        · refine ⟨_, rfl, .inl ⟨_, rfl, _, _, rfl, rfl, (by show (1998697 : Int) ≠ 0; decide), _, rfl, l, _, rfl, dgt, _, _, rfl, rfl, .inl ⟨by decide, by decide⟩, _, _, rfl, rfl, _, _, rfl, rfl, .inl ⟨_, rfl, _, _, rfl, rfl, (by show (2147475467 : Int) ≠ 0; decide), ?_⟩⟩⟩
          refine ⟨_, rfl, _, rfl, _, _, rfl, rfl, .inr (fmod_small _ (by decide) (by decide)), _, rfl, l, _, rfl, dgt, _, _, rfl, rfl, .inl ⟨by decide, by decide⟩, _, _, rfl, rfl, _, _, rfl, rfl, .inl ⟨_, rfl, _, _, rfl, rfl, (by show (2147479253 : Int) ≠ 0; decide), ?_⟩⟩
          exact ⟨_, rfl, _, rfl, _, _, rfl, rfl, .inr (fmod_small _ (by decide) (by decide)), _, rfl, _, _, rfl, rfl, .inl ⟨by decide, by decide⟩, _, _, rfl, rfl, .inl ⟨_, rfl, _, _, rfl, rfl, (by show (2147481571 : Int) ≠ 0; decide), _, _, rfl, rfl, ⟨by decide, by decide⟩, .inl ⟨_, rfl, _, rfl, _, _, rfl, rfl, (by show m ≠ 0; omega), fin _ _ _ _ _ hl3 (by omega) e23 (Int.fmod_nonneg_of_pos _ hm) (Int.fmod_lt_of_pos _ hm)⟩⟩⟩
      · refine iteF ?_
        refine ⟨_, rfl, .inl ⟨_, rfl, _, _, rfl, rfl, (by show (1998697 : Int) ≠ 0; decide), _, rfl, l, _, rfl, dgt, _, _, rfl, rfl, .inl ⟨by decide, by decide⟩, _, _, rfl, rfl, _, _, rfl, rfl, .inl ⟨_, rfl, _, _, rfl, rfl, (by show (2147475467 : Int) ≠ 0; decide), ?_⟩⟩⟩
        refine ⟨_, rfl, _, rfl, _, _, rfl, rfl, .inr (fmod_small _ (by decide) (by decide)), _, rfl, l, _, rfl, dgt, _, _, rfl, rfl, .inl ⟨by decide, by decide⟩, _, _, rfl, rfl, _, _, rfl, rfl, .inl ⟨_, rfl, _, _, rfl, rfl, (by show (2147479253 : Int) ≠ 0; decide), ?_⟩⟩
        exact ⟨_, rfl, _, rfl, _, _, rfl, rfl, .inr (fmod_small _ (by decide) (by decide)), _, rfl, _, _, rfl, rfl, .inl ⟨by decide, by decide⟩, _, _, rfl, rfl, .inl ⟨_, rfl, _, _, rfl, rfl, (by show (2147481571 : Int) ≠ 0; decide), _, _, rfl, rfl, ⟨by decide, by decide⟩, .inl ⟨_, rfl, _, rfl, _, _, rfl, rfl, (by show m ≠ 0; omega), fin _ _ _ _ _ hl3 (by omega) e23 (Int.fmod_nonneg_of_pos _ hm) (Int.fmod_lt_of_pos _ hm)⟩⟩⟩
    | cons n0 nr =>
      refine iteT ?_
      have lpos : (0 : Int) < ((iV (n0 :: nr)).length : Int) := by rw [iV_len]; simp only [List.length_cons]; omega
      have f0 := Int.fmod_nonneg_of_pos p lpos
      have f1 := Int.fmod_lt_of_pos p lpos
      have at3 : atI (iV (n0 :: nr)) (p.fmod ((iV (n0 :: nr)).length : Int)) = some (.int ((n0 :: nr).getD (p.fmod ((iV (n0 :: nr)).length : Int)).toNat 0)) := by
        obtain ⟨x, hx⟩ := Int.eq_ofNat_of_zero_le f0
        rw [hx]
        exact atI_nat (iV_at (by rw [iV_len] at f1 hx; omega))
      refine ⟨_, rfl, _, rfl, .inl ⟨_, rfl, _, rfl, q, _, rfl, .inl hq3, _, _, rfl, rfl, (by show ((iV (n0 :: nr)).length : Int) ≠ 0; omega), q, _, _, _, rfl, rfl, hq3, at3, ?_⟩⟩
      refine ⟨_, rfl, _, _, rfl, rfl, ⟨by decide, by decide, by decide⟩, _, _, rfl, rfl, _, rfl, ?_⟩
      have dgt := (fd_get hl3).2.2.2
      refine ite2 (fun c2 => ?_) (fun c2 => ?_)
      · refine ⟨_, rfl, _, rfl, q, _, rfl, .inl hq3, _, _, rfl, rfl, _, rfl, ?_⟩
        refine ite2 (fun c3 => ?_) (fun c3 => ?_)
        · refine ⟨_, rfl, .inl ⟨_, rfl, _, rfl, _, _, rfl, rfl, ⟨by omega, by omega⟩, _, rfl, l, _, rfl, DPut.k (k := Sum.inr "left") hl3 sz, ?_⟩⟩
          rw [putL]
          exact ⟨_, rfl, .inl ⟨_, rfl, _, rfl, _, _, rfl, rfl, (by show m ≠ 0; omega), fin _ _ _ _ _ upd_same (by omega) (kq e23) (Int.fmod_nonneg_of_pos _ hm) (Int.fmod_lt_of_pos _ hm)⟩⟩
        · refine ⟨_, rfl, .inl ⟨_, rfl, _, _, rfl, rfl, (by show (1998697 : Int) ≠ 0; decide), _, rfl, l, _, rfl, dgt, _, _, rfl, rfl, .inl ⟨by decide, by decide⟩, _, _, rfl, rfl, _, _, rfl, rfl, .inl ⟨_, rfl, _, _, rfl, rfl, (by show (2147475467 : Int) ≠ 0; decide), ?_⟩⟩⟩
          refine ⟨_, rfl, _, rfl, _, _, rfl, rfl, .inr (fmod_small _ (by decide) (by decide)), _, rfl, l, _, rfl, dgt, _, _, rfl, rfl, .inl ⟨by decide, by decide⟩, _, _, rfl, rfl, _, _, rfl, rfl, .inl ⟨_, rfl, _, _, rfl, rfl, (by show (2147479253 : Int) ≠ 0; decide), ?_⟩⟩
          exact ⟨_, rfl, _, rfl, _, _, rfl, rfl, .inr (fmod_small _ (by decide) (by decide)), _, rfl, _, _, rfl, rfl, .inl ⟨by decide, by decide⟩, _, _, rfl, rfl, .inl ⟨_, rfl, _, _, rfl, rfl, (by show (2147481571 : Int) ≠ 0; decide), _, _, rfl, rfl, ⟨by decide, by decide⟩, .inl ⟨_, rfl, _, rfl, _, _, rfl, rfl, (by show m ≠ 0; omega), fin _ _ _ _ _ hl3 (by omega) e23 (Int.fmod_nonneg_of_pos _ hm) (Int.fmod_lt_of_pos _ hm)⟩⟩⟩
      · refine iteF ?_
        refine ⟨_, rfl, .inl ⟨_, rfl, _, _, rfl, rfl, (by show (1998697 : Int) ≠ 0; decide), _, rfl, l, _, rfl, dgt, _, _, rfl, rfl, .inl ⟨by decide, by decide⟩, _, _, rfl, rfl, _, _, rfl, rfl, .inl ⟨_, rfl, _, _, rfl, rfl, (by show (2147475467 : Int) ≠ 0; decide), ?_⟩⟩⟩
        refine ⟨_, rfl, _, rfl, _, _, rfl, rfl, .inr (fmod_small _ (by decide) (by decide)), _, rfl, l, _, rfl, dgt, _, _, rfl, rfl, .inl ⟨by decide, by decide⟩, _, _, rfl, rfl, _, _, rfl, rfl, .inl ⟨_, rfl, _, _, rfl, rfl, (by show (2147479253 : Int) ≠ 0; decide), ?_⟩⟩
        exact ⟨_, rfl, _, rfl, _, _, rfl, rfl, .inr (fmod_small _ (by decide) (by decide)), _, rfl, _, _, rfl, rfl, .inl ⟨by decide, by decide⟩, _, _, rfl, rfl, .inl ⟨_, rfl, _, _, rfl, rfl, (by show (2147481571 : Int) ≠ 0; decide), _, _, rfl, rfl, ⟨by decide, by decide⟩, .inl ⟨_, rfl, _, rfl, _, _, rfl, rfl, (by show m ≠ 0; omega), fin _ _ _ _ _ hl3 (by omega) e23 (Int.fmod_nonneg_of_pos _ hm) (Int.fmod_lt_of_pos _ hm)⟩⟩⟩
end
end Lk

set_option Elab.async false
set_option linter.all false
set_option maxRecDepth 100000
set_option maxHeartbeats 4000000
namespace Lk
open PySem PySem.Spec PyProof.Rows L2
/-! ### data -/
def tlen : PyData → Nat
  | .tuple ds => ds.length
  | _ => 0
def numI : PyData → Int
  | .int a => a
  | _ => 0
def ascI (ds : List PyData) : Bool := (ds.zip (ds.drop 1)).all fun p => decide (numI p.1 < numI p.2)
def isS : PyData → Bool
  | .tuple ds => ds.all isN && ascI ds
  | _ => false
/-- a thing of a layout of so many -/
def isTh (m : Int) : PyData → Bool
  | .tuple [a, b] => (match a with | .str z => z == ("jump" : Str) | _ => false) && (isN b && decide (numI b ≤ m))
  | .tuple _ => false
  | d => isN d
def calmT : PyData → Bool
  | .tuple [a, _] => (match a with | .str _ => true | _ => false)
  | _ => true
/-! ### promises -/
def notUsable (C : Addr) (n : Str) (H : Hp) (E : XK) : Prop := ∀ (d : Addr) (H' : Hp), Same H H' → H d = none → H' d = some (.xd [("at", .int (-1)), ("word", .str n)]) → E (.ref C) (some d) H'
def spInit (C : Addr) : Sp := fun vs H Q _ => ∃ (a : Addr) (x y : V), vs = [.ref a, x, y] ∧ H a = some (exo a C none) ∧
  ∀ (d : Addr) (H' : Hp), H d = none → d ≠ a → H' a = some (exo a C (some d)) → H' d = some (exd d [("at", y), ("word", x)]) → (∀ b o, b ≠ a → H b = some o → H' b = some o) → Q .non H'
def sp1 (g : PyData → Bool) (K : PySem.W.Frag) : Sp := fun vs H Q _ => ∃ (x : V) (d : PyData), vs = [x] ∧ Dp K H x d ∧ Q (.bl (g d)) H
def spSet (K : PySem.W.Frag) : Sp := fun vs H Q _ => ∃ (x : V) (d : PyData), vs = [x] ∧ Dp K H x d ∧ tlen d ≤ 2000 ∧ ∀ H', Same H H' → Q (.bl (isS d)) H'
def spTh (K : PySem.W.Frag) : Sp := fun vs H Q _ => ∃ (x : V) (d : PyData) (m : Int), vs = [x, .int m] ∧ Dp K H x d ∧ calmT d = true ∧ Q (.bl (isTh m d)) H
section
variable {P : Program} {w : World} {K : PySem.W.Frag} {mg : Str → Option Value} {base : Heap}
theorem fn_vac {CX : CXT} {k : Nat} {f : Addr} {fd : FuncData} {ps : List Str} {sp : Sp} (h : ∀ vs H Q E, ¬ sp vs H Q E) : FnOk P w K mg base CX k f fd ps sp :=
  ⟨fun vs H Q E z => absurd z (h vs H Q E), fun _ _ _ H _ _ vs Q E _ _ _ _ z => absurd z (h vs H Q E)⟩
theorem ok_init (T : Txt K mg) : FnOk P w K mg base CX0 1 T.f_NotUsable__init__ T.d_NotUsable__init__ ["self", "word", "at"] (spInit T.C_NotUsable) := by
  have nd := sc_NotUsable___init__.nd
  refine T.F_NotUsable__init__.ok sc_NotUsable___init__ (fun vs H Q E h => ?_) (fun cdv A outer s H vs Q E hr h => ?_)
  · obtain ⟨a, x, y, rfl, _⟩ := h
    rfl
  obtain ⟨a, x, y, rfl, ha, k⟩ := h
  refine ⟨_, (pss_cons (ps_ost (pv 0) (pv 1))
      (pss_one (ps_ost (pv 0) (pv 2)))), ?_⟩
  refine ⟨_, rfl, _, rfl, a, T.C_NotUsable, rfl, T.x_NotUsable, T.n_NotUsable_word, .inl ⟨ha, fun d hd hda => ?_⟩⟩
  refine ⟨_, rfl, _, rfl, a, T.C_NotUsable, rfl, T.x_NotUsable, T.n_NotUsable_at, .inr ⟨d, [("word", x)], ?_, ?_, (by show 1 ≤ 900; decide), ?_⟩⟩
  · exact upd_same
  · rw [upd_ne hda]; exact upd_same
  · refine k d _ hd hda ?_ ?_ ?_
    · rw [upd_ne hda.symm, upd_same]
    · exact upd_same
    · intro b o hb e
      have hbd : b ≠ d := ne_of_none e hd
      rw [upd_ne hbd, upd_ne hb, upd_ne hbd]
      exact e
/-- what a made and raised NotUsable asks -/
theorem made {T : Txt K mg} {H : Hp} {n : Str} {E : XK} (k : ∀ (d : Addr) (H' : Hp), Same H H' → H d = none → H' d = some (.xd [("at", .int (-1)), ("word", .str n)]) → E (.ref T.C_NotUsable) (some d) H') :
    ∀ a, H a = none → spInit T.C_NotUsable [.ref a, .str n, .int (-1)] (upd H a (exo a T.C_NotUsable none))
      (fun v H2 => v = .non ∧ ∃ (d : Addr) (fs : List (Str × V)), H2 a = some (exo a T.C_NotUsable (some d)) ∧ H2 d = some (exd d fs) ∧ H d = none ∧ E (.ref T.C_NotUsable) (some d) (upd (del H2 a) d (.xd fs))) (fun _ _ _ => False) := by
  intro a ha
  refine ⟨a, _, _, rfl, upd_same, fun d H' hd hda e1 e2 e3 => ⟨rfl, d, _, e1, e2, ?_, ?_⟩⟩
  · rw [upd_ne hda] at hd
    exact hd
  · rw [upd_ne hda] at hd
    refine k d _ (fun b o e => ?_) hd upd_same
    have hbd : b ≠ d := ne_of_none e hd
    have hba : b ≠ a := ne_of_none e ha
    rw [upd_ne hbd, del_ne hba]
    exact e3 b o hba (by rw [upd_ne hba]; exact e)
theorem ok_is_integer (T : Txt K mg) : FnOk P w K mg base CX0 1 T.f_is_integer T.d_is_integer ["thing"] (sp1 isI K) := by
  have nd := sc_is_integer.nd
  refine T.F_is_integer.ok sc_is_integer (fun vs H Q E h => ?_) (fun cdv A outer s H vs Q E hr h => ?_)
  · obtain ⟨x, d, rfl, _⟩ := h
    rfl
  obtain ⟨x, d, rfl, hd, k⟩ := h
  refine ⟨_, (pss_one (ps_ret (pe_and (pe_callB call_isi (by rfl) T.z_isinstance (by decide +kernel) (pa_cons (pv 0) (pa_cons (pe_bltn (v := .ty "int") rfl T.z_int (by decide +kernel) rfl) pa_nil))) (pe_one (pe_not (pe_callB call_isi (by rfl) T.z_isinstance (by decide +kernel) (pa_cons (pv 0) (pa_cons (pe_bltn (v := .ty "bool") rfl T.z_bool (by decide +kernel) rfl) pa_nil)))))))), ?_⟩
  refine ⟨_, rfl, x, .ty "int", _, _, _, rfl, .ty "int", ty_of hd, kit_int hd, _, rfl, ?_⟩
  refine ite2 (fun c => ?_) (fun c => ?_)
  · refine ⟨_, rfl, x, .ty "bool", _, _, _, rfl, .ty "bool", ty_of hd, kit_bool hd, _, rfl, ?_⟩
    have e : (!isB d) = isI d := by cases hd <;> first | rfl | (simp [isI, isB] at c)
    rw [e]
    exact k
  · have e : isI d = false := by cases hd <;> first | rfl | (exact absurd rfl c)
    rw [e] at k
    exact k
theorem ok_is_number (T : Txt K mg) : FnOk P w K mg base CX0 2 T.f_is_number T.d_is_number ["thing"] (sp1 isN K) := by
  have nd := sc_is_number.nd
  refine T.F_is_number.ok sc_is_number (fun vs H Q E h => ?_) (fun cdv A outer s H vs Q E hr h => ?_)
  · obtain ⟨x, d, rfl, _⟩ := h
    rfl
  obtain ⟨x, d, rfl, hd, k⟩ := h
  have G_is_integer : FnOk P w K mg base CX0 1 _ _ _ (sp1 isI K) := ok_is_integer T
  have hr_is_integer := hr
  refine ⟨_, (pss_one (ps_ret (pe_and (pe_call G_is_integer hr_is_integer rfl T.m_is_integer T.k_is_integer T.b_is_integer .nil pass0 (pa_cons (pv 0) pa_nil)) (pe_one (pe_cmpR op_ge (pv 0) pe_int (nomark _)))))), ?_⟩
  refine ⟨_, rfl, x, d, rfl, hd, _, rfl, ?_⟩
  refine ite2 (fun c => ?_) (fun c => ?_)
  · obtain ⟨i, rfl, rfl⟩ := isI_int hd c
    exact ⟨_, rfl, _, _, rfl, rfl, k⟩
  · have e : isN d = false := by cases hd <;> first | rfl | (exact absurd rfl c)
    rw [e] at k
    exact k
theorem ne_t {i j : Int} (h : i ≠ j) : (!decide (V.int i = V.int j)) = true := by rw [decide_eq_false fun z => h (V.int.inj z)]; rfl
theorem ne_f {i j : Int} (h : i = j) : (!decide (V.int i = V.int j)) = false := by rw [decide_eq_true (congrArg V.int h)]; rfl
theorem isS_eq (ds : List PyData) : isS (.tuple ds) = (ds.all isN && ascI ds) := rfl
theorem isN_int {K : PySem.W.Frag} {H : Hp} {v : V} {d : PyData} (h : Dp K H v d) (e : isN d = true) : ∃ i : Int, v = .int i ∧ d = .int i ∧ 0 ≤ i := by
  cases h with
  | int i => exact ⟨i, rfl, rfl, of_decide_eq_true e⟩
  | _ => cases e
theorem ok_is_number_set (T : Txt K mg) : FnOk P w K mg base CX0 3 T.f_is_number_set T.d_is_number_set ["thing"] (spSet K) := by
  have nd := sc_is_number_set.nd
  refine T.F_is_number_set.ok sc_is_number_set (fun vs H Q E h => ?_) (fun cdv A outer s H vs Q E hr h => ?_)
  · obtain ⟨x, d, rfl, _⟩ := h
    rfl
  obtain ⟨x, d, rfl, hd, ht, k⟩ := h
  have G_is_number : FnOk P w K mg base CX0 2 _ _ _ (sp1 isN K) := ok_is_number T
  have hr_is_number := hr
  refine ⟨_, (pss_cons (ps_if (PW.pt (pw_or (pt_not (pt_val (pe_callB call_isi (by rfl) T.z_isinstance (by decide +kernel) (pa_cons (pv 0) (pa_cons (pe_bltn (v := .ty "tuple") rfl T.z_tuple (by decide +kernel) rfl) pa_nil))))) (pw_or1 (pt_not (pt_val (pe_callB (cr_all rfl) (by rfl) T.z_all (by decide +kernel) (pa_cons (pe_lc (own := [("one", 1)]) (g := gName 1) (tt := tYes) (by rfl) nd (pi_tup (pv 0)) (blkOk_by (own := [("one", 1)]) (N := sl_is_number_set) (sc := defScope s_is_number_set) (by decide +kernel)) (fun _ _ _ _ _ => pg_name (i := 1) nd rfl (Or.inl rfl)) (fun _ _ _ _ _ => pts_nil) (fun _ _ _ _ _ => (pe_call G_is_number hr_is_number rfl T.m_is_number T.k_is_number T.b_is_number .nil pass0 (pa_cons (pv 1) pa_nil)))) pa_nil))))))) (pss_one (ps_ret pe_bl)) pss_nil)
      (pss_one (ps_ret (pe_callB (cr_all rfl) (by rfl) T.z_all (by decide +kernel) (pa_cons (pe_lc (own := [("one", 1), ("other", 2)]) (g := gTup K 2 (gCons (gName 1) (gCons (gName 2) gNil))) (tt := tYes) (by rfl) nd (RZ.pi_zipA (by rfl) T.z_zip (pa_cons (pv 0) (pa_cons (pe_slice sl_tupS (pv 0) (po_some pe_int) po_none) pa_nil))) (blkOk_by (own := [("one", 1), ("other", 2)]) (N := sl_is_number_set) (sc := defScope s_is_number_set) (by decide +kernel)) (fun _ _ _ _ _ => by exact (pg_tup rfl (pgs_cons (pg_name (i := 1) nd rfl (Or.inl rfl)) (pgs_cons (pg_name (i := 2) nd rfl (Or.inl rfl)) pgs_nil)))) (fun _ _ _ _ _ => pts_nil) (fun _ _ _ _ _ => (pe_cmpR op_lt (pv 1) (pv 2) (nomark _)))) pa_nil))))), ?_⟩
  refine ⟨_, rfl, x, .ty "tuple", _, _, _, rfl, .ty "tuple", ty_of hd, kit_tup hd, _, rfl, ?_⟩
  cases hd with
  | non => exact k H (Same.refl _)
  | bl b => exact k H (Same.refl _)
  | int i => exact k H (Same.refl _)
  | str z => exact k H (Same.refl _)
  | lst h a => exact k H (Same.refl _)
  | @tup a xs ds ha hx =>
    have hl := dp_len hx
    have hz : ds.length ≤ 2000 := ht
    refine ⟨_, rfl, a, rfl, ⟨_, ha⟩, fun D hD => ?_⟩
    refine lc_tup (K := K) (a := a) (xs := xs) (fun i H' => Same H H' ∧ H' D = some (.lst (((ds.take i).map isN).map V.bl))) ?_ ?_ ?_ ?_
    · exact ⟨same_new hD _, upd_same⟩
    · rintro i H' _ ⟨e, _⟩
      exact seqT_same e ha
    · rintro i x H' hix ⟨e, hDl⟩
      obtain ⟨d, _, hdi, hdx⟩ := dp_get hx hix
      refine ⟨rfl, _, rfl, x, d, rfl, dp_same e hdx, ?_⟩
      have hi : i < ds.length := (List.getElem?_eq_some_iff.mp hdi).1
      refine ⟨_, hDl, (by rw [List.length_map, List.length_map, List.length_take]; exact szl (by omega)), same_mut e hD, ?_⟩
      rw [upd_same, List.take_succ, hdi, List.map_append, List.map_append]
      rfl
    · rintro H1 ⟨e, hDl⟩
      rw [hl, List.take_length] at hDl
      refine ⟨D, _, rfl, SqL.of hDl, _, rfl, ?_⟩
      have ea : ((ds.map isN).all id) = ds.all isN := by rw [List.all_map]; rfl
      rw [ea]
      rw [isS_eq] at k
      cases hw : ds.all isN with
      | false =>
        rw [hw, Bool.false_and] at k
        exact iteT (k H1 e)
      | true =>
        rw [hw, Bool.true_and] at k
        refine iteF ?_
        have hall : ∀ d ∈ ds, isN d = true := fun d m => List.all_eq_true.mp hw d m
        have hx1 := dpAll_same e hx
        refine ⟨_, rfl, _, rfl, _, rfl, a, _, rfl, seqT_same e ha, fun p1 H2 e2 h1 => ?_⟩
        have h1' : SqT K H2 p1 (xs.drop 1) := cut_lo (n := 1) ▸ h1
        refine ⟨a, p1, xs, xs.drop 1, rfl, .inr ⟨seqT_same e2 (seqT_same e ha), h1', fun D2 hD2 => ?_⟩⟩
        have hx2 := dpAll_same e2 hx1
        have hzl : (ds.zip (ds.drop 1)).length = ds.length - 1 := by rw [List.length_zip, List.length_drop]; omega
        refine lc_it (walk_zipT (xs := xs) (ys := xs.drop 1) (n := ds.length - 1) (by rw [List.length_drop, hl]; omega)) (fun i H' => Same H2 H' ∧ H' D2 = some (.lst (((ds.zip (ds.drop 1)).take i).map fun p => V.bl (decide (numI p.1 < numI p.2))))) ?_ ?_ ?_ ?_
        · exact ⟨same_new hD2 _, upd_same⟩
        · rintro i H' _ ⟨e3, _⟩
          exact ⟨seqT_same e3 (seqT_same e2 (seqT_same e ha)), seqT_same e3 h1'⟩
        · rintro i x H3 H4 hi ⟨e3, hDl⟩ ⟨TT, y, z, rfl, hTT, rfl, hy, hz⟩
          obtain ⟨d1, _, hd1, hdy⟩ := dp_get hx2 hy
          have hz' : xs[i + 1]? = some z := by
            have hz0 : (xs.drop 1)[i]? = some z := hz
            rw [List.getElem?_drop, Nat.add_comm] at hz0; exact hz0
          obtain ⟨d2, _, hd2, hdz⟩ := dp_get hx2 hz'
          obtain ⟨i1, rfl, rfl, _⟩ := isN_int hdy (hall _ (List.mem_of_getElem? hd1))
          obtain ⟨i2, rfl, rfl, _⟩ := isN_int hdz (hall _ (List.mem_of_getElem? hd2))
          have e4 : Same H3 (upd H3 TT (.tup [.int i1, .int i2])) := same_new hTT _
          have hzi : (ds.zip (ds.drop 1))[i]? = some (.int i1, .int i2) := by
            rw [List.getElem?_zip_eq_some]
            exact ⟨hd1, by rw [List.getElem?_drop, Nat.add_comm]; exact hd2⟩
          refine ⟨TT, _, rfl, SqT.of upd_same, rfl, _, _, rfl, _, _, rfl, rfl, ?_⟩
          refine ⟨rfl, ?_⟩
          refine ⟨_, rfl, _, rfl, _, _, rfl, rfl, ?_⟩
          refine ⟨_, e4 _ _ hDl, (by rw [List.length_map, List.length_take]; exact szl (by omega)), same_mut (e3.trans e4) hD2, ?_⟩
          rw [upd_same, List.take_succ, hzi, List.map_append]
          rfl
        · rintro H3 ⟨e3, hDl⟩
          rw [← hzl, List.take_length] at hDl
          have ek : ((ds.zip (ds.drop 1)).map fun p => V.bl (decide (numI p.1 < numI p.2))) = ((ds.zip (ds.drop 1)).map fun p => decide (numI p.1 < numI p.2)).map V.bl := by rw [List.map_map]; rfl
          rw [ek] at hDl
          have ea2 : (((ds.zip (ds.drop 1)).map fun p => decide (numI p.1 < numI p.2)).all id) = ascI ds := by rw [List.all_map]; rfl
          refine ⟨D2, _, rfl, SqL.of hDl, ?_⟩
          rw [ea2]
          exact k H3 (e.trans (e2.trans e3))
theorem ok_is_thing (T : Txt K mg) : FnOk P w K mg base CX0 3 T.f__is_thing T.d__is_thing ["thing", "many"] (spTh K) := by
  have nd := sc__is_thing.nd
  refine T.F__is_thing.ok sc__is_thing (fun vs H Q E h => ?_) (fun cdv A outer s H vs Q E hr h => ?_)
  · obtain ⟨x, d, m, rfl, _⟩ := h
    rfl
  obtain ⟨x, d, m, rfl, hd, hc, k⟩ := h
  have G_is_number : FnOk P w K mg base CX0 2 _ _ _ (sp1 isN K) := ok_is_number T
  have hr_is_number := hr
  refine ⟨_, (pss_cons (ps_if (pt_not (pt_val (pe_callB call_isi (by rfl) T.z_isinstance (by decide +kernel) (pa_cons (pv 0) (pa_cons (pe_bltn (v := .ty "tuple") rfl T.z_tuple (by decide +kernel) rfl) pa_nil))))) (pss_one (ps_ret (pe_call G_is_number hr_is_number rfl T.m_is_number T.k_is_number T.b_is_number .nil pass0 (pa_cons (pv 0) pa_nil)))) pss_nil)
      (pss_one (ps_ret (pe_and (pe_cmpR op_eq (pe_callB call_len_seq (by rfl) T.z_len PySem.boot_len (pa_cons (pv 0) pa_nil)) pe_int (nomark _)) (pe_and (pe_cmpR op_eq (pe_ix ix_tup (pv 0) pe_int (fun _ _ => rfl)) pe_str (nomark _)) (pe_and (pe_call G_is_number hr_is_number rfl T.m_is_number T.k_is_number T.b_is_number .nil pass0 (pa_cons (pe_ix ix_tup (pv 0) pe_int (fun _ _ => rfl)) pa_nil)) (pe_one (pe_cmpR op_le (pe_ix ix_tup (pv 0) pe_int (fun _ _ => rfl)) (pv 1) (nomark _))))))))), ?_⟩
  refine ⟨_, rfl, x, .ty "tuple", _, _, _, rfl, .ty "tuple", ty_of hd, kit_tup hd, _, rfl, ?_⟩
  cases hd with
  | non => exact ifT rfl ⟨_, rfl, _, _, rfl, .non, k⟩
  | bl b => exact ifT rfl ⟨_, rfl, _, _, rfl, .bl b, k⟩
  | int i => exact ifT rfl ⟨_, rfl, _, _, rfl, .int i, k⟩
  | str z => exact ifT rfl ⟨_, rfl, _, _, rfl, .str z, k⟩
  | lst h a => exact ifT rfl ⟨_, rfl, _, _, rfl, .lst h a, k⟩
  | @tup a xs ds ha hx =>
    have hl := dp_len hx
    refine ifF rfl ?_
    refine ⟨_, rfl, a, xs, rfl, .inr ha, rfl, _, rfl, ?_⟩
    match ds, hx, hl, k, hc with
    | [d0, d1], hx, hl, k, hc =>
      obtain ⟨x0, x1, rfl⟩ : ∃ x0 x1, xs = [x0, x1] := by
        match xs, hl with
        | [x0, x1], _ => exact ⟨x0, x1, rfl⟩
      obtain ⟨h0, h1⟩ : Dp K H x0 d0 ∧ Dp K H x1 d1 := by
        cases hx with
        | cons h0 t => cases t with
          | cons h1 _ => exact ⟨h0, h1⟩
      obtain ⟨z, rfl, rfl⟩ : ∃ z, d0 = .str z ∧ x0 = .str z := by
        cases h0 with
        | str z => exact ⟨z, rfl, rfl⟩
        | _ => cases hc
      refine iteT ?_
      refine ⟨_, rfl, a, _, _, _, rfl, rfl, ha, atI_nat (show [V.str z, x1][0]? = some (V.str z) from rfl), rfl, _, rfl, ?_⟩
      have e : isTh m (.tuple [.str z, d1]) = ((z == ("jump" : Str)) && (isN d1 && decide (numI d1 ≤ m))) := rfl
      rw [e] at k
      refine ite2 (fun c => ?_) (fun c => ?_)
      · have cz : (z == ("jump" : Str)) = true := beq_iff_eq.mpr (V.str.inj (of_decide_eq_true c))
        rw [cz, Bool.true_and] at k
        refine ⟨_, rfl, a, _, _, _, rfl, rfl, ha, atI_nat (show [V.str z, x1][1]? = some x1 from rfl), x1, d1, rfl, h1, _, rfl, ?_⟩
        refine ite2 (fun c2 => ?_) (fun c2 => ?_)
        · rw [c2, Bool.true_and] at k
          obtain ⟨i, rfl, rfl, _⟩ := isN_int h1 c2
          exact ⟨_, rfl, a, _, _, _, rfl, rfl, ha, atI_nat (show [V.str z, V.int i][1]? = some (V.int i) from rfl), _, rfl, _, _, rfl, rfl, k⟩
        · rw [Bool.eq_false_iff.mpr c2, Bool.false_and] at k
          exact k
      · have cz : (z == ("jump" : Str)) = false := beq_eq_false_iff_ne.mpr fun q => c (decide_eq_true (congrArg V.str q))
        rw [cz, Bool.false_and] at k
        exact k
    | [], _, hl, k, _ => exact ite2 (fun c => absurd (of_decide_eq_true c) fun z => by have := V.int.inj z; rw [hl] at this; simp at this) fun _ => k
    | [d0], _, hl, k, _ => exact ite2 (fun c => absurd (of_decide_eq_true c) fun z => by have := V.int.inj z; rw [hl] at this; simp at this) fun _ => k
    | d0 :: d1 :: d2 :: r, _, hl, k, _ => exact ite2 (fun c => absurd (of_decide_eq_true c) fun z => by have := V.int.inj z; rw [hl] at this; simp at this; omega) fun _ => k
end
end Lk

set_option Elab.async false
set_option linter.all false
set_option maxRecDepth 100000
set_option maxHeartbeats 4000000
set_option pp.maxSteps 1500
namespace Lk
open PySem PySem.Spec PyProof.Rows L2
def isThs : PyData → Bool
  | .tuple ds => ds.all (isTh ds.length)
  | _ => false
def calmThs : PyData → Bool
  | .tuple ds => ds.all calmT
  | _ => true
def okLow (d : PyData) : Bool := isI d && decide (numI d ≤ 0)
def badL (d lo hi : PyData) : Option Str := if isThs d then (if okLow lo then (if isN hi then none else some "high") else some "low") else some "things"
def spChkA (C : Addr) (K : PySem.W.Frag) : Sp := fun vs H Q E => ∃ (x y z : V) (d lo hi : PyData), vs = [x, y, z] ∧ Dp K H x d ∧ Dp K H y lo ∧ Dp K H z hi ∧ tlen d ≤ 2000 ∧ calmThs d = true ∧
  match badL d lo hi with
  | none => ∀ H', Same H H' → Q .non H'
  | some n => notUsable C n H E
def spChkG (K : PySem.W.Frag) : Sp := fun vs H Q _ => ∃ (x y z : V) (d lo hi : PyData), vs = [x, y, z] ∧ Dp K H x d ∧ Dp K H y lo ∧ Dp K H z hi ∧ tlen d ≤ 2000 ∧ calmThs d = true ∧ badL d lo hi = none ∧ ∀ H', Same H H' → Q .non H'
section
variable {P : Program} {w : World} {K : PySem.W.Frag} {mg : Str → Option Value} {base : Heap}
theorem all_id (ds : List PyData) (f : PyData → Bool) : ((ds.map f).all id) = ds.all f := by rw [List.all_map]; rfl
theorem ok_checkA (T : Txt K mg) : FnOk P w K mg base (L2N.CX P w) 4 T.f__check_layout T.d__check_layout ["things", "low", "high"] (spChkA T.C_NotUsable K) := by
  have nd := sc__check_layout.nd
  refine okXN T.F__check_layout sc__check_layout (fun vs H Q E h => ?_) (fun cdv A outer s H vs Q E hr h => ?_)
  · obtain ⟨x, y, z, d, lo, hi, rfl, _⟩ := h
    rfl
  obtain ⟨x, y, z, d, lo, hi, rfl, hd, hlo, hhi, ht, hc, k⟩ := h
  have G__is_thing : FnOk P w K mg base CX0 3 _ _ _ (spTh K) := ok_is_thing T
  have hr__is_thing := hr
  have G_is_integer : FnOk P w K mg base CX0 1 _ _ _ (sp1 isI K) := ok_is_integer T
  have hr_is_integer := hr.mono (j := 1) (by omega)
  have G_is_number : FnOk P w K mg base CX0 2 _ _ _ (sp1 isN K) := ok_is_number T
  have hr_is_number := hr.mono (j := 2) (by omega)
  have G_NotUsable__init__ : FnOk P w K mg base CX0 1 _ _ _ (spInit T.C_NotUsable) := ok_init T
  have hr_NotUsable__init__ := hr.mono (j := 2) (by omega)
  refine ⟨_, (pss_cons (ps_if (PW.pt (pw_or (pt_not (pt_val (pe_callB call_isi (by rfl) T.z_isinstance (by decide +kernel) (pa_cons (pv 0) (pa_cons (pe_bltn (v := .ty "tuple") rfl T.z_tuple (by decide +kernel) rfl) pa_nil))))) (pw_or1 (pt_not (pt_val (pe_callB (cr_all rfl) (by rfl) T.z_all (by decide +kernel) (pa_cons (pe_lc (own := [("thing", 3)]) (g := gName 3) (tt := tYes) (by rfl) nd (pi_tup (pv 0)) (blkOk_by (own := [("thing", 3)]) (N := sl__check_layout) (sc := defScope s__check_layout) (by decide +kernel)) (fun _ _ _ _ _ => pg_name (i := 3) nd rfl (Or.inl rfl)) (fun _ _ _ _ _ => pts_nil) (fun _ _ _ _ _ => (pe_call G__is_thing hr__is_thing rfl T.m__is_thing T.k__is_thing T.b__is_thing .nil pass0 (pa_cons (pv 3) (pa_cons (pe_callB (call_lenK (K := K) rfl) (by rfl) T.z_len PySem.boot_len (pa_cons (pv 0) pa_nil)) pa_nil))))) pa_nil))))))) (pss_one (L2N.ps_raise rfl (L2N.takes_of rfl rfl rfl rfl) (pmk_oexN T.x_NotUsable T.i_NotUsable T.t_NotUsable G_NotUsable__init__ hr_NotUsable__init__ T.b_NotUsable__init__ .nil pass0 rfl T.mC_NotUsable (by exact (pa_cons pe_str (pa_cons (pe_un un_neg pe_int) pa_nil)))))) pss_nil)
      (pss_cons (ps_if (PW.pt (pw_or (pt_not (pt_val (pe_call G_is_integer hr_is_integer rfl T.m_is_integer T.k_is_integer T.b_is_integer .nil pass0 (pa_cons (pv 1) pa_nil)))) (pw_or1 (pt_cmpR op_gt (pv 1) pe_int (nomark _))))) (pss_one (L2N.ps_raise rfl (L2N.takes_of rfl rfl rfl rfl) (pmk_oexN T.x_NotUsable T.i_NotUsable T.t_NotUsable G_NotUsable__init__ hr_NotUsable__init__ T.b_NotUsable__init__ .nil pass0 rfl T.mC_NotUsable (by exact (pa_cons pe_str (pa_cons (pe_un un_neg pe_int) pa_nil)))))) pss_nil)
      (pss_one (ps_if (pt_not (pt_val (pe_call G_is_number hr_is_number rfl T.m_is_number T.k_is_number T.b_is_number .nil pass0 (pa_cons (pv 2) pa_nil)))) (pss_one (L2N.ps_raise rfl (L2N.takes_of rfl rfl rfl rfl) (pmk_oexN T.x_NotUsable T.i_NotUsable T.t_NotUsable G_NotUsable__init__ hr_NotUsable__init__ T.b_NotUsable__init__ .nil pass0 rfl T.mC_NotUsable (by exact (pa_cons pe_str (pa_cons (pe_un un_neg pe_int) pa_nil)))))) pss_nil)))), ?_⟩
  have no : ∀ n, badL d lo hi = some n → ∀ H1, Same H H1 → ∀ a, H1 a = none → spInit T.C_NotUsable [.ref a, .str n, .int (-1)] (upd H1 a (exo a T.C_NotUsable none))
      (fun v H2 => v = .non ∧ ∃ (d : Addr) (fs : List (Str × V)), H2 a = some (exo a T.C_NotUsable (some d)) ∧ H2 d = some (exd d fs) ∧ H1 d = none ∧ E (.ref T.C_NotUsable) (some d) (upd (del H2 a) d (.xd fs))) (fun _ _ _ => False) :=
    fun n hn H1 e1 => made fun d1 H2 e2 hn2 he => (show notUsable T.C_NotUsable n H E by rw [hn] at k; exact k) d1 H2 (e1.trans e2) (none_of e1 hn2) he
  refine ⟨_, rfl, x, .ty "tuple", _, _, _, rfl, .ty "tuple", ty_of hd, kit_tup hd, _, rfl, ?_⟩
  cases hd with
  | non => exact ⟨_, rfl, (by show 2 ≤ 1000; decide), no _ rfl H (Same.refl _)⟩
  | bl b => exact ⟨_, rfl, (by show 2 ≤ 1000; decide), no _ rfl H (Same.refl _)⟩
  | int i => exact ⟨_, rfl, (by show 2 ≤ 1000; decide), no _ rfl H (Same.refl _)⟩
  | str z => exact ⟨_, rfl, (by show 2 ≤ 1000; decide), no _ rfl H (Same.refl _)⟩
  | lst h a => exact ⟨_, rfl, (by show 2 ≤ 1000; decide), no _ rfl H (Same.refl _)⟩
  | @tup a xs ds ha hx =>
    have hl := dp_len hx
    have hz : ds.length ≤ 2000 := ht
    refine ⟨_, rfl, a, rfl, ⟨_, ha⟩, fun D hD => ?_⟩
    refine lc_tup (K := K) (a := a) (xs := xs) (fun i H' => Same H H' ∧ H' D = some (.lst (((ds.take i).map (isTh ds.length)).map V.bl))) ?_ ?_ ?_ ?_
    · exact ⟨same_new hD _, upd_same⟩
    · rintro i H' _ ⟨e, _⟩
      exact seqT_same e ha
    · rintro i z H' hiz ⟨e, hDl⟩
      obtain ⟨d3, _, hdi, hdz⟩ := dp_get hx hiz
      have hi : i < ds.length := (List.getElem?_eq_some_iff.mp hdi).1
      refine ⟨rfl, ?_⟩
      refine ⟨_, rfl, _, rfl, a, _, rfl, .inr (seqT_same e ha), z, d3, ds.length, ?_, dp_same e hdz, ?_, ?_⟩
      · rw [hl]; rfl
      · exact List.all_eq_true.mp hc d3 (List.mem_of_getElem? hdi)
      · refine ⟨_, hDl, (by rw [List.length_map, List.length_map, List.length_take]; exact szl (by omega)), same_mut e hD, ?_⟩
        rw [upd_same, List.take_succ, hdi, List.map_append, List.map_append]
        rfl
    · rintro H1 ⟨e, hDl⟩
      rw [hl, List.take_length] at hDl
      refine ⟨D, _, rfl, SqL.of hDl, _, rfl, ?_⟩
      rw [all_id]
      have hm' : isThs (.tuple ds) = ds.all (isTh ds.length) := rfl
      cases hw : ds.all (isTh ds.length) with
      | false =>
        refine iteT ?_
        exact ⟨_, rfl, (by show 2 ≤ 1000; decide), no _ (by unfold badL; rw [hm', hw]; rfl) H1 e⟩
      | true =>
        refine iteF ?_
        refine ⟨_, rfl, y, lo, rfl, dp_same e hlo, _, rfl, ?_⟩
        cases hil : isI lo with
        | false =>
          refine iteT ?_
          exact ⟨_, rfl, (by show 2 ≤ 1000; decide), no _ (by unfold badL okLow; rw [hm', hw, hil]; rfl) H1 e⟩
        | true =>
          refine iteF ?_
          obtain ⟨j, rfl, rfl⟩ := isI_int hlo hil
          refine ⟨_, rfl, _, _, rfl, rfl, ?_⟩
          refine ⟨_, rfl, ?_⟩
          refine ite2 (fun c => ?_) (fun c => ?_)
          · have cj : ¬ j ≤ 0 := by have := of_decide_eq_true c; omega
            exact ⟨_, rfl, (by show 2 ≤ 1000; decide), no _ (by unfold badL okLow; rw [hm', hw, hil]; show (if true = true then (if (true && decide (j ≤ 0)) = true then _ else some ("low" : Str)) else _) = _; rw [decide_eq_false cj]; rfl) H1 e⟩
          · have cj : j ≤ 0 := by have : ¬ 0 < j := fun q => c (decide_eq_true q); omega
            have hlw : okLow (.int j) = true := by unfold okLow; rw [hil]; exact decide_eq_true cj
            refine ⟨_, rfl, z, hi, rfl, dp_same e hhi, _, rfl, ?_⟩
            cases hih : isN hi with
            | false =>
              refine iteT ?_
              exact ⟨_, rfl, (by show 2 ≤ 1000; decide), no _ (by unfold badL; rw [hm', hw, hlw, hih]; rfl) H1 e⟩
            | true =>
              refine iteF ?_
              have hb : badL (.tuple ds) (.int j) hi = none := by unfold badL; rw [hm', hw, hlw, hih]; rfl
              rw [hb] at k
              exact k H1 e
theorem badL_none {d lo hi : PyData} (h : badL d lo hi = none) : isThs d = true ∧ okLow lo = true ∧ isN hi = true := by
  unfold badL at h
  cases h1 : isThs d with
  | false => rw [h1] at h; cases h
  | true =>
    rw [h1] at h
    cases h2 : okLow lo with
    | false => rw [h2] at h; cases h
    | true =>
      rw [h2] at h
      cases h3 : isN hi with
      | false => rw [h3] at h; cases h
      | true => exact ⟨rfl, rfl, rfl⟩
theorem ok_checkG (T : Txt K mg) : FnOk P w K mg base CX0 4 T.f__check_layout T.d__check_layout ["things", "low", "high"] (spChkG K) := by
  have nd := sc__check_layout.nd
  refine T.F__check_layout.ok sc__check_layout (fun vs H Q E h => ?_) (fun cdv A outer s H vs Q E hr h => ?_)
  · obtain ⟨x, y, z, d, lo, hi, rfl, _⟩ := h
    rfl
  obtain ⟨x, y, z, d, lo, hi, rfl, hd, hlo, hhi, ht, hc, hb, k⟩ := h
  obtain ⟨hth, hlw, hih⟩ := badL_none hb
  have G__is_thing : FnOk P w K mg base CX0 3 _ _ _ (spTh K) := ok_is_thing T
  have hr__is_thing := hr
  have G_is_integer : FnOk P w K mg base CX0 1 _ _ _ (sp1 isI K) := ok_is_integer T
  have hr_is_integer := hr.mono (j := 1) (by omega)
  have G_is_number : FnOk P w K mg base CX0 2 _ _ _ (sp1 isN K) := ok_is_number T
  have hr_is_number := hr.mono (j := 2) (by omega)
  refine ⟨_, (pss_cons (ps_if (PW.pt (pw_or (pt_not (pt_val (pe_callB call_isi (by rfl) T.z_isinstance (by decide +kernel) (pa_cons (pv 0) (pa_cons (pe_bltn (v := .ty "tuple") rfl T.z_tuple (by decide +kernel) rfl) pa_nil))))) (pw_or1 (pt_not (pt_val (pe_callB (cr_all rfl) (by rfl) T.z_all (by decide +kernel) (pa_cons (pe_lc (own := [("thing", 3)]) (g := gName 3) (tt := tYes) (by rfl) nd (pi_tup (pv 0)) (blkOk_by (own := [("thing", 3)]) (N := sl__check_layout) (sc := defScope s__check_layout) (by decide +kernel)) (fun _ _ _ _ _ => pg_name (i := 3) nd rfl (Or.inl rfl)) (fun _ _ _ _ _ => pts_nil) (fun _ _ _ _ _ => (pe_call G__is_thing hr__is_thing rfl T.m__is_thing T.k__is_thing T.b__is_thing .nil pass0 (pa_cons (pv 3) (pa_cons (pe_callB (call_lenK (K := K) rfl) (by rfl) T.z_len PySem.boot_len (pa_cons (pv 0) pa_nil)) pa_nil))))) pa_nil))))))) (pss_one ps_never) pss_nil)
      (pss_cons (ps_if (PW.pt (pw_or (pt_not (pt_val (pe_call G_is_integer hr_is_integer rfl T.m_is_integer T.k_is_integer T.b_is_integer .nil pass0 (pa_cons (pv 1) pa_nil)))) (pw_or1 (pt_cmpR op_gt (pv 1) pe_int (nomark _))))) (pss_one ps_never) pss_nil)
      (pss_one (ps_if (pt_not (pt_val (pe_call G_is_number hr_is_number rfl T.m_is_number T.k_is_number T.b_is_number .nil pass0 (pa_cons (pv 2) pa_nil)))) (pss_one ps_never) pss_nil)))), ?_⟩
  refine ⟨_, rfl, x, .ty "tuple", _, _, _, rfl, .ty "tuple", ty_of hd, kit_tup hd, _, rfl, ?_⟩
  cases hd with
  | non => cases hth
  | bl b => cases hth
  | int i => cases hth
  | str z => cases hth
  | lst h a => cases hth
  | @tup a xs ds ha hx =>
    have hl := dp_len hx
    have hz : ds.length ≤ 2000 := ht
    refine ⟨_, rfl, a, rfl, ⟨_, ha⟩, fun D hD => ?_⟩
    refine lc_tup (K := K) (a := a) (xs := xs) (fun i H' => Same H H' ∧ H' D = some (.lst (((ds.take i).map (isTh ds.length)).map V.bl))) ?_ ?_ ?_ ?_
    · exact ⟨same_new hD _, upd_same⟩
    · rintro i H' _ ⟨e, _⟩
      exact seqT_same e ha
    · rintro i z H' hiz ⟨e, hDl⟩
      obtain ⟨d3, _, hdi, hdz⟩ := dp_get hx hiz
      have hi : i < ds.length := (List.getElem?_eq_some_iff.mp hdi).1
      refine ⟨rfl, ?_⟩
      refine ⟨_, rfl, _, rfl, a, _, rfl, .inr (seqT_same e ha), z, d3, ds.length, ?_, dp_same e hdz, ?_, ?_⟩
      · rw [hl]; rfl
      · exact List.all_eq_true.mp hc d3 (List.mem_of_getElem? hdi)
      · refine ⟨_, hDl, (by rw [List.length_map, List.length_map, List.length_take]; exact szl (by omega)), same_mut e hD, ?_⟩
        rw [upd_same, List.take_succ, hdi, List.map_append, List.map_append]
        rfl
    · rintro H1 ⟨e, hDl⟩
      rw [hl, List.take_length] at hDl
      refine ⟨D, _, rfl, SqL.of hDl, _, rfl, ?_⟩
      rw [all_id]
      have hw : ds.all (isTh ds.length) = true := hth
      rw [hw]
      refine iteF ?_
      refine ⟨_, rfl, y, lo, rfl, dp_same e hlo, _, rfl, ?_⟩
      have hil : isI lo = true := (Bool.and_eq_true_iff.mp hlw).1
      obtain ⟨j, rfl, rfl⟩ := isI_int hlo hil
      refine iteF ?_
      refine ⟨_, rfl, _, _, rfl, rfl, ?_⟩
      refine ⟨_, rfl, ?_⟩
      have cj : j ≤ 0 := of_decide_eq_true (Bool.and_eq_true_iff.mp hlw).2
      refine ite2 (fun c => ?_) (fun c => ?_)
      · have := of_decide_eq_true c
        omega
      refine ⟨_, rfl, z, hi, rfl, dp_same e hhi, _, rfl, ?_⟩
      rw [hih]
      refine iteF ?_
      exact k H1 e
end
end Lk

set_option Elab.async false
set_option linter.all false
set_option maxRecDepth 100000
set_option maxHeartbeats 4000000
set_option pp.maxSteps 1500
namespace Lk
open PySem PySem.Spec PyProof.Rows L2
theorem leastN_ok {ts : List Th} {low high : Int} : ∀ {n : Nat} {cs : List Nat}, cs.Nodup → (∀ i ∈ cs, i < ts.length) → (leastN ts low high n cs).Nodup ∧ ∀ i ∈ leastN ts low high n cs, i < ts.length
  | 0, cs, h1, h2 => ⟨h1, h2⟩
  | n + 1, cs, h1, h2 => by
    unfold leastN
    cases e : farL cs ts low high with
    | nil => exact ⟨h1, h2⟩
    | cons f fs =>
      refine leastN_ok (n := n) ?_ ?_
      · rw [← e]
        exact List.nodup_append.mpr ⟨h1, farL_nodup .., fun a ma b mb q => (farL_mem mb).2 (q ▸ ma)⟩
      · intro i m
        rw [← e] at m
        exact (List.mem_append.mp m).elim (h2 i) fun h => (farL_mem h).1
theorem leastL_ok (ts : List Th) (low high : Int) : (leastL ts low high).Nodup ∧ ∀ i ∈ leastL ts low high, i < ts.length := leastN_ok List.nodup_nil fun _ m => nomatch m
/-- in order -/
def leastS (ts : List Th) (low high : Int) : List Nat := (List.range ts.length).filter fun i => decide (i ∈ leastL ts low high)
theorem leastS_perm (ts : List Th) (low high : Int) : (leastS ts low high).Perm (leastL ts low high) := by
  obtain ⟨h1, h2⟩ := leastL_ok ts low high
  refine (List.perm_ext_iff_of_nodup (List.nodup_range.filter _) h1).mpr fun i => ?_
  rw [List.mem_filter, List.mem_range, decide_eq_true_iff]
  exact ⟨fun h => h.2, fun h => ⟨h2 i h, h⟩⟩
theorem leastS_asc (ts : List Th) (low high : Int) : (leastS ts low high).Pairwise (· < ·) := List.Pairwise.sublist (List.filter_sublist ..) (List.pairwise_lt_range ..)
theorem asc_nI {l : List Nat} (h : l.Pairwise (· < ·)) : (l.map fun (i : Nat) => (i : Int)).Pairwise (· ≤ ·) := by
  rw [List.pairwise_map]
  exact h.imp fun q => by omega
theorem leastS_eq {ts : List Th} {low high : Int} {zs : List Int} (h : zs.Perm ((leastL ts low high).map fun (i : Nat) => (i : Int))) (hs : zs.Pairwise (· ≤ ·)) : zs.map V.int = nV (leastS ts low high) := by
  have e : zs = (leastS ts low high).map fun (i : Nat) => (i : Int) := PySem.W.os_sorted_one (h.trans ((leastS_perm ts low high).symm.map _)) hs (asc_nI (leastS_asc ts low high))
  rw [e, List.map_map]
  rfl
def okTs (ts : List Th) : Prop := isThs (.tuple (ts.map Th.d)) = true
def spLongG (K : PySem.W.Frag) : Sp := fun vs H Q _ => ∃ (x : V) (low high : Int) (ts : List Th), vs = [x, .int low, .int high] ∧ Dp K H x (.tuple (ts.map Th.d)) ∧ ts.length ≤ 2000 ∧ GoodTs ts ∧ okTs ts ∧ low ≤ 0 ∧ 0 ≤ high ∧
  ∀ p H', Same H H' → SqT K H' p (nV (leastS ts low high)) → Q (.ref p) H'
def spLongB (C : Addr) (K : PySem.W.Frag) : Sp := fun vs H Q E => ∃ (x y z : V) (d lo hi : PyData) (n : Str), vs = [x, y, z] ∧ Dp K H x d ∧ Dp K H y lo ∧ Dp K H z hi ∧ tlen d ≤ 2000 ∧ calmThs d = true ∧ badL d lo hi = some n ∧ notUsable C n H E
theorem calm_ths (ts : List Th) : calmThs (.tuple (ts.map Th.d)) = true := by
  refine List.all_eq_true.mpr fun d m => ?_
  obtain ⟨t, _, rfl⟩ := List.mem_map.mp m
  cases t <;> rfl
section
variable {P : Program} {w : World} {K : PySem.W.Frag} {mg : Str → Option Value} {base : Heap}
theorem ok_longB (T : Txt K mg) : FnOk P w K mg base (L2N.CX P w) 5 T.f_long_jumps T.d_long_jumps ["things", "low", "high"] (spLongB T.C_NotUsable K) := by
  have nd := sc_long_jumps.nd
  refine okXN T.F_long_jumps sc_long_jumps (fun vs H Q E h => ?_) (fun cdv A outer s H vs Q E hr h => ?_)
  · obtain ⟨x, y, z, d, lo, hi, n, rfl, _⟩ := h
    rfl
  obtain ⟨x, y, z, d, lo, hi, n, rfl, hd, hlo, hhi, ht, hc, hb, k⟩ := h
  have G__check_layout : FnOk P w K mg base (L2N.CX P w) 4 _ _ _ (spChkA T.C_NotUsable K) := ok_checkA T
  have hr__check_layout := hr
  refine ⟨_, (pss_cons (ps_expr (pe_call G__check_layout hr__check_layout rfl T.m__check_layout T.k__check_layout T.b__check_layout .nil (L2N.passes_call (L2N.takes_of rfl rfl rfl rfl) (fun _ _ _ _ h => h)) (pa_cons (pv 0) (pa_cons (pv 1) (pa_cons (pv 2) pa_nil)))))
      (pss_one ps_never)), ?_⟩
  refine ⟨_, rfl, _, rfl, _, rfl, x, y, z, d, lo, hi, rfl, hd, hlo, hhi, ht, hc, ?_⟩
  rw [hb]
  exact k
theorem ok_longG (T : Txt K mg) : FnOk P w K mg base CX0 5 T.f_long_jumps T.d_long_jumps ["things", "low", "high"] (spLongG K) := by
  have nd := sc_long_jumps.nd
  refine T.F_long_jumps.ok sc_long_jumps (fun vs H Q E h => ?_) (fun cdv A outer s H vs Q E hr h => ?_)
  · obtain ⟨x, low, high, ts, rfl, _⟩ := h
    rfl
  obtain ⟨x, low, high, ts, rfl, hd, hts, hg, hok, hl0, hh0, k⟩ := h
  have G__check_layout : FnOk P w K mg base CX0 4 _ _ _ (spChkG K) := ok_checkG T
  have hr__check_layout := hr
  have G_least_long : FnOk P w K mg base CX0 4 _ _ _ (spLeast K) := ok_least T
  have hr_least_long := hr
  refine ⟨_, (pss_cons (ps_expr (pe_call G__check_layout hr__check_layout rfl T.m__check_layout T.k__check_layout T.b__check_layout .nil pass0 (pa_cons (pv 0) (pa_cons (pv 1) (pa_cons (pv 2) pa_nil)))))
      (pss_one (ps_ret (pe_callTy call_tuple_of (by rfl) T.z_tuple (by decide +kernel) (pa_cons (pe_callB (call_sortedDA (by rfl)) (by rfl) T.z_sorted (by decide +kernel) (pa_cons (pe_call G_least_long hr_least_long rfl T.m_least_long T.k_least_long T.b_least_long .nil pass0 (pa_cons (pv 0) (pa_cons (pv 1) (pa_cons (pv 2) pa_nil)))) pa_nil)) pa_nil))))), ?_⟩
  have hbn : badL (.tuple (ts.map Th.d)) (.int low) (.int high) = none := by
    unfold badL okLow
    rw [show isThs (.tuple (ts.map Th.d)) = true from hok]
    show (if true = true then (if (true && decide (low ≤ 0)) = true then (if decide (0 ≤ high) = true then _ else _) else _) else _) = _
    rw [decide_eq_true hl0, decide_eq_true hh0]
    rfl
  refine ⟨_, rfl, _, rfl, _, rfl, x, _, _, _, _, _, rfl, hd, .int low, .int high, by show (ts.map Th.d).length ≤ 2000; rw [List.length_map]; exact hts, calm_ths ts, hbn, fun H1 e1 => ?_⟩
  refine ⟨_, rfl, _, rfl, _, rfl, x, low, high, ts, rfl, dp_same e1 hd, hts, hg, fun p H2 e2 hp ep => ?_⟩
  have hlt := (leastS_perm ts low high).length_eq
  have hle : (leastS ts low high).length ≤ ts.length := by
    have := List.length_filter_le (fun i => decide (i ∈ leastL ts low high)) (List.range ts.length)
    rw [List.length_range] at this
    exact this
  refine ⟨p, ck (leastL ts low high), (leastL ts low high).map fun (i : Nat) => (i : Int), rfl, (.inl ep), ?_, ?_, fun zs q pm srt hq => ?_⟩
  · unfold ck
    rw [List.map_map, List.map_map]
    rfl
  · rw [List.length_map]; omega
  rw [leastS_eq pm srt]
  refine ⟨q, _, rfl, .inl ⟨SqL.of upd_same, fun l hl => ?_⟩⟩
  refine k l _ ((e1.trans e2).trans ((same_new hq _).trans (same_new hl _))) (SqT.of upd_same)
end
end Lk

set_option Elab.async false
set_option linter.all false
set_option maxRecDepth 100000
set_option maxHeartbeats 4000000
set_option pp.maxSteps 1500
namespace Lk
open PySem PySem.Spec PyProof.Rows L2
def jmpAt (ts : List Th) (i : Int) : Bool := decide (i < ts.length) && (ts.getD i.toNat (.len 0)).isJ
def isCh (ts : List Th) (d : PyData) : Bool := isS d && (match d with | .tuple ds => ds.all fun c => jmpAt ts (numI c) | _ => false)
def OkL (K : PySem.W.Frag) (H : Hp) (x : V) (low high : Int) (ts : List Th) : Prop := Dp K H x (.tuple (ts.map Th.d)) ∧ ts.length ≤ 2000 ∧ GoodTs ts ∧ okTs ts ∧ low ≤ 0 ∧ 0 ≤ high
def spHoldB (C : Addr) (K : PySem.W.Frag) : Sp := fun vs H Q E => ∃ (x y z u : V) (d lo hi ch : PyData) (n : Str), vs = [x, y, z, u] ∧ Dp K H x d ∧ Dp K H y lo ∧ Dp K H z hi ∧ tlen d ≤ 2000 ∧ calmThs d = true ∧ badL d lo hi = some n ∧ notUsable C n H E
def spHoldC (C : Addr) (K : PySem.W.Frag) : Sp := fun vs H Q E => ∃ (x u : V) (low high : Int) (ts : List Th) (ch : PyData), vs = [x, .int low, .int high, u] ∧ OkL K H x low high ts ∧ Dp K H u ch ∧ tlen ch ≤ 2000 ∧ isCh ts ch = false ∧ notUsable C "chosen" H E
def natD (cs : List Nat) : PyData := .tuple (cs.map fun (i : Nat) => .int (i : Int))
def spHoldG (K : PySem.W.Frag) : Sp := fun vs H Q _ => ∃ (x u : V) (low high : Int) (ts : List Th) (cs : List Nat), vs = [x, .int low, .int high, u] ∧ OkL K H x low high ts ∧ Dp K H u (natD cs) ∧ cs.length ≤ 2000 ∧ cs.Pairwise (· < ·) ∧ (∀ i ∈ cs, jmpAt ts (i : Int) = true) ∧
  ∀ H', Same H H' → Q (.bl (decide (farL cs ts low high = []))) H'
theorem okL_none {K : PySem.W.Frag} {H : Hp} {x : V} {low high : Int} {ts : List Th} (h : OkL K H x low high ts) : badL (.tuple (ts.map Th.d)) (.int low) (.int high) = none := by
  obtain ⟨_, _, _, hok, hl0, hh0⟩ := h
  unfold badL okLow
  rw [show isThs (.tuple (ts.map Th.d)) = true from hok]
  show (if true = true then (if (true && decide (low ≤ 0)) = true then (if decide (0 ≤ high) = true then _ else _) else _) else _) = _
  rw [decide_eq_true hl0, decide_eq_true hh0]
  rfl
theorem nat_not_take {l : List Nat} (h : l.Pairwise (· < ·)) {i x : Nat} (e : l[i]? = some x) : x ∉ l.take i := fun m => by
  have il := (List.getElem?_eq_some_iff.mp e).1
  have h2 := List.take_append_drop i l ▸ h
  have xd : x ∈ l.drop i := by
    rw [List.drop_eq_getElem_cons il]
    rw [List.getElem?_eq_getElem il] at e
    rw [Option.some.inj e]
    exact List.mem_cons_self
  have := (List.pairwise_append.mp h2).2.2 x m x xd
  omega
theorem asc_nat : ∀ {cs : List Nat}, cs.Pairwise (· < ·) → ascI (cs.map fun (i : Nat) => PyData.int (i : Int)) = true
  | [], _ => rfl
  | [_], _ => rfl
  | a :: b :: r, h => by
    obtain ⟨h1, h2⟩ := List.pairwise_cons.mp h
    have ih := asc_nat h2
    show (decide ((a : Int) < (b : Int)) && ascI ((b :: r).map fun (i : Nat) => PyData.int (i : Int))) = true
    rw [ih, Bool.and_true]
    exact decide_eq_true (by have := h1 b List.mem_cons_self; omega)
theorem isS_nat {cs : List Nat} (h : cs.Pairwise (· < ·)) : isS (natD cs) = true := by
  rw [show natD cs = .tuple (cs.map fun (i : Nat) => PyData.int (i : Int)) from rfl, isS_eq, asc_nat h, Bool.and_true]
  refine List.all_eq_true.mpr fun d m => ?_
  obtain ⟨i, _, rfl⟩ := List.mem_map.mp m
  exact decide_eq_true (Int.natCast_nonneg i)
theorem isS_tup {K : PySem.W.Frag} {H : Hp} {x : V} {d : PyData} (h : Dp K H x d) (e : isS d = true) : ∃ (a : Addr) (xs : List V) (ds : List PyData), x = .ref a ∧ d = .tuple ds ∧ SqT K H a xs ∧ DpAll K H xs ds ∧ ∀ d ∈ ds, isN d = true := by
  cases h with
  | non => cases e
  | bl b => cases e
  | int i => cases e
  | str z => cases e
  | lst h a => cases e
  | @tup a xs ds ha hx =>
    rw [isS_eq] at e
    exact ⟨a, xs, ds, rfl, rfl, ha, hx, fun d m => List.all_eq_true.mp (Bool.and_eq_true_iff.mp e).1 d m⟩
section
variable {P : Program} {w : World} {K : PySem.W.Frag} {mg : Str → Option Value} {base : Heap}
theorem ok_holdB (T : Txt K mg) : FnOk P w K mg base (L2N.CX P w) 5 T.f_holds_long T.d_holds_long ["things", "low", "high", "chosen"] (spHoldB T.C_NotUsable K) := by
  have nd := sc_holds_long.nd
  refine okXN T.F_holds_long sc_holds_long (fun vs H Q E h => ?_) (fun cdv A outer s H vs Q E hr h => ?_)
  · obtain ⟨x, y, z, u, d, lo, hi, ch, n, rfl, _⟩ := h
    rfl
  obtain ⟨x, y, z, u, d, lo, hi, ch, n, rfl, hd, hlo, hhi, ht, hc, hb, k⟩ := h
  have G__check_layout : FnOk P w K mg base (L2N.CX P w) 4 _ _ _ (spChkA T.C_NotUsable K) := ok_checkA T
  have hr__check_layout := hr
  refine ⟨_, (pss_cons (ps_expr (pe_call G__check_layout hr__check_layout rfl T.m__check_layout T.k__check_layout T.b__check_layout .nil (L2N.passes_call (L2N.takes_of rfl rfl rfl rfl) (fun _ _ _ _ h => h)) (pa_cons (pv 0) (pa_cons (pv 1) (pa_cons (pv 2) pa_nil)))))
      (pss_cons ps_never (pss_one ps_never))), ?_⟩
  refine ⟨_, rfl, _, rfl, _, rfl, x, y, z, d, lo, hi, rfl, hd, hlo, hhi, ht, hc, ?_⟩
  rw [hb]
  exact k
theorem ok_holdC (T : Txt K mg) : FnOk P w K mg base (L2N.CX P w) 5 T.f_holds_long T.d_holds_long ["things", "low", "high", "chosen"] (spHoldC T.C_NotUsable K) := by
  have nd := sc_holds_long.nd
  refine okXN T.F_holds_long sc_holds_long (fun vs H Q E h => ?_) (fun cdv A outer s H vs Q E hr h => ?_)
  · obtain ⟨x, u, low, high, ts, ch, rfl, _⟩ := h
    rfl
  obtain ⟨x, u, low, high, ts, ch, rfl, hL, hu, hcl, hch, k⟩ := h
  have hbn := okL_none hL
  obtain ⟨hd, hts, hg, hok, hl0, hh0⟩ := hL
  have G__check_layout : FnOk P w K mg base CX0 4 _ _ _ (spChkG K) := ok_checkG T
  have hr__check_layout := hr
  have G_is_number_set : FnOk P w K mg base CX0 3 _ _ _ (spSet K) := ok_is_number_set T
  have hr_is_number_set := hr.mono (j := 3) (by omega)
  have G_is_jump : FnOk P w K mg base CX0 1 _ _ _ (spJ K) := ok_is_jump T
  have hr_is_jump := hr.mono (j := 1) (by omega)
  have G_NotUsable__init__ : FnOk P w K mg base CX0 1 _ _ _ (spInit T.C_NotUsable) := ok_init T
  have hr_NotUsable__init__ := hr.mono (j := 2) (by omega)
  refine ⟨_, (pss_cons (ps_expr (pe_call G__check_layout hr__check_layout rfl T.m__check_layout T.k__check_layout T.b__check_layout .nil pass0 (pa_cons (pv 0) (pa_cons (pv 1) (pa_cons (pv 2) pa_nil)))))
      (pss_cons (ps_if (PW.pt (pw_or (pt_not (pt_val (pe_call G_is_number_set hr_is_number_set rfl T.m_is_number_set T.k_is_number_set T.b_is_number_set .nil pass0 (pa_cons (pv 3) pa_nil)))) (pw_or1 (pt_not (pt_val (pe_callB (cr_all rfl) (by rfl) T.z_all (by decide +kernel) (pa_cons (pe_lc (own := [("at", 4)]) (g := gName 4) (tt := tYes) (by rfl) nd (pi_tup (pv 3)) (blkOk_by (own := [("at", 4)]) (N := sl_holds_long) (sc := defScope s_holds_long) (by decide +kernel)) (fun _ _ _ _ _ => pg_name (i := 4) nd rfl (Or.inl rfl)) (fun _ _ _ _ _ => pts_nil) (fun _ _ _ _ _ => (pe_and (pe_cmpR op_lt (pv 4) (pe_callB (call_lenK (K := K) rfl) (by rfl) T.z_len PySem.boot_len (pa_cons (pv 0) pa_nil)) (nomark _)) (pe_one (pe_call G_is_jump hr_is_jump rfl T.m_is_jump T.k_is_jump T.b_is_jump .nil pass0 (pa_cons (pe_ix (ix_tupK (K := K) rfl) (pv 0) (pv 4) (fun _ _ => rfl)) pa_nil)))))) pa_nil))))))) (pss_one (L2N.ps_raise rfl (L2N.takes_of rfl rfl rfl rfl) (pmk_oexN T.x_NotUsable T.i_NotUsable T.t_NotUsable G_NotUsable__init__ hr_NotUsable__init__ T.b_NotUsable__init__ .nil pass0 rfl T.mC_NotUsable (by exact (pa_cons pe_str (pa_cons (pe_un un_neg pe_int) pa_nil)))))) pss_nil)
      (pss_one ps_never))), ?_⟩
  refine ⟨_, rfl, _, rfl, _, rfl, x, _, _, _, _, _, rfl, hd, .int low, .int high, by show (ts.map Th.d).length ≤ 2000; rw [List.length_map]; exact hts, calm_ths ts, hbn, fun H1 e1 => ?_⟩
  have no : ∀ H1, Same H H1 → ∀ a, H1 a = none → spInit T.C_NotUsable [.ref a, .str "chosen", .int (-1)] (upd H1 a (exo a T.C_NotUsable none))
      (fun v H2 => v = .non ∧ ∃ (d : Addr) (fs : List (Str × V)), H2 a = some (exo a T.C_NotUsable (some d)) ∧ H2 d = some (exd d fs) ∧ H1 d = none ∧ E (.ref T.C_NotUsable) (some d) (upd (del H2 a) d (.xd fs))) (fun _ _ _ => False) :=
    fun H1 e1 => made fun d1 H2 e2 hn he => k d1 H2 (e1.trans e2) (none_of e1 hn) he
  refine ⟨_, rfl, u, ch, rfl, dp_same e1 hu, hcl, fun H2 e2 => ?_⟩
  refine ⟨_, rfl, ?_⟩
  cases hs : isS ch with
  | false =>
    refine iteT ?_
    exact ⟨_, rfl, (by show 2 ≤ 1000; decide), no H2 (e1.trans e2)⟩
  | true =>
    refine iteF ?_
    have e12 := e1.trans e2
    obtain ⟨a, xs, ds, rfl, rfl, ha, hx, hall⟩ := isS_tup (dp_same e12 hu) hs
    obtain ⟨b, ys, rfl, hb, hy⟩ := tup_inv (dp_same e12 hd)
    have hl := dp_len hx
    have hly : ys.length = ts.length := by rw [dp_len hy, List.length_map]
    have hz : ds.length ≤ 2000 := hcl
    refine ⟨_, rfl, a, rfl, ⟨_, ha⟩, fun D hD => ?_⟩
    refine lc_tup (K := K) (a := a) (xs := xs) (fun i H' => Same H2 H' ∧ H' D = some (.lst (((ds.take i).map fun c => jmpAt ts (numI c)).map V.bl))) ?_ ?_ ?_ ?_
    · exact ⟨same_new hD _, upd_same⟩
    · rintro i H' _ ⟨e, _⟩
      exact seqT_same e ha
    · rintro i z H' hiz ⟨e, hDl⟩
      obtain ⟨d3, _, hdi, hdz⟩ := dp_get hx hiz
      have hi : i < ds.length := (List.getElem?_eq_some_iff.mp hdi).1
      obtain ⟨j, rfl, rfl, hj0⟩ := isN_int hdz (hall _ (List.mem_of_getElem? hdi))
      have fin : ∀ H3, Same H' H3 → ∀ v, v = jmpAt ts j → H3 D = some (.lst (((ds.take i).map fun c => jmpAt ts (numI c)).map V.bl)) ∧ ((((ds.take i).map fun c => jmpAt ts (numI c)).map V.bl).length + 1 ≤ sizeLine) ∧ Same H2 (upd H3 D (.lst (((ds.take i).map fun c => jmpAt ts (numI c)).map V.bl ++ [V.bl v]))) ∧
          (upd H3 D (.lst (((ds.take i).map fun c => jmpAt ts (numI c)).map V.bl ++ [V.bl v]))) D = some (.lst (((ds.take (i + 1)).map fun c => jmpAt ts (numI c)).map V.bl)) := fun H3 e3 v hv => by
        subst hv
        refine ⟨e3 _ _ hDl, ?_, same_mut (e.trans e3) hD, ?_⟩
        · rw [List.length_map, List.length_map, List.length_take]; exact szl (by omega)
        · rw [upd_same, List.take_succ, hdi, List.map_append, List.map_append]
          rfl
      refine ⟨rfl, ?_⟩
      refine ⟨_, rfl, _, rfl, b, _, rfl, .inr (seqT_same e hb), _, _, rfl, rfl, _, rfl, ?_⟩
      refine ite2 (fun c => ?_) (fun c => ?_)
      · have cj : j < (ys.length : Int) := of_decide_eq_true c
        have jn : j.toNat < ts.length := by omega
        have jj : (j.toNat : Int) = j := Int.toNat_of_nonneg hj0
        obtain ⟨v, hv⟩ : ∃ v, ys[j.toNat]? = some v := ⟨_, List.getElem?_eq_getElem (by omega)⟩
        obtain ⟨t, ht, hdt⟩ := th_get hy hv
        have ei : jmpAt ts j = t.isJ := by
          unfold jmpAt
          rw [decide_eq_true (show j < (ts.length : Int) by omega), Bool.true_and, List.getD_eq_getElem?_getD, ht]
          rfl
        obtain ⟨w1, w2, w3, w4⟩ := fin H' (Same.refl _) t.isJ ei.symm
        exact ⟨_, rfl, _, rfl, b, ys, j, v, rfl, rfl, seqT_same e hb, jj ▸ atI_nat hv, v, t, rfl, dp_same e hdt, _, w1, w2, w3, w4⟩
      · have cj : ¬ j < (ts.length : Int) := fun q => c (decide_eq_true (by rw [hly]; exact q))
        obtain ⟨w1, w2, w3, w4⟩ := fin H' (Same.refl _) false (by unfold jmpAt; rw [decide_eq_false cj]; rfl)
        exact ⟨_, w1, w2, w3, w4⟩
    · rintro H3 ⟨e, hDl⟩
      rw [hl, List.take_length] at hDl
      refine ⟨D, _, rfl, SqL.of hDl, _, rfl, ?_⟩
      have ea : ((ds.map fun c => jmpAt ts (numI c)).all id) = false := by
        rw [List.all_map]
        unfold isCh at hch
        rw [hs, Bool.true_and] at hch
        exact hch
      rw [ea]
      refine ifT rfl ?_
      exact ⟨_, rfl, (by show 2 ≤ 1000; decide), no H3 (e12.trans e)⟩
theorem ok_holdG (T : Txt K mg) : FnOk P w K mg base CX0 5 T.f_holds_long T.d_holds_long ["things", "low", "high", "chosen"] (spHoldG K) := by
  have nd := sc_holds_long.nd
  refine T.F_holds_long.ok sc_holds_long (fun vs H Q E h => ?_) (fun cdv A outer s H vs Q E hr h => ?_)
  · obtain ⟨x, u, low, high, ts, cs, rfl, _⟩ := h
    rfl
  obtain ⟨x, u, low, high, ts, cs, rfl, hL, hu, hcl, hasc, hch, k⟩ := h
  have hbn := okL_none hL
  obtain ⟨hd, hts, hg, hok, hl0, hh0⟩ := hL
  have G__check_layout : FnOk P w K mg base CX0 4 _ _ _ (spChkG K) := ok_checkG T
  have hr__check_layout := hr
  have G_is_number_set : FnOk P w K mg base CX0 3 _ _ _ (spSet K) := ok_is_number_set T
  have hr_is_number_set := hr.mono (j := 3) (by omega)
  have G_is_jump : FnOk P w K mg base CX0 1 _ _ _ (spJ K) := ok_is_jump T
  have hr_is_jump := hr.mono (j := 1) (by omega)
  have G__too_far : FnOk P w K mg base CX0 3 _ _ _ (spFar K) := ok_too_far T
  have hr__too_far := hr.mono (j := 3) (by omega)
  refine ⟨_, (pss_cons (ps_expr (pe_call G__check_layout hr__check_layout rfl T.m__check_layout T.k__check_layout T.b__check_layout .nil pass0 (pa_cons (pv 0) (pa_cons (pv 1) (pa_cons (pv 2) pa_nil)))))
      (pss_cons (ps_if (PW.pt (pw_or (pt_not (pt_val (pe_call G_is_number_set hr_is_number_set rfl T.m_is_number_set T.k_is_number_set T.b_is_number_set .nil pass0 (pa_cons (pv 3) pa_nil)))) (pw_or1 (pt_not (pt_val (pe_callB (cr_all rfl) (by rfl) T.z_all (by decide +kernel) (pa_cons (pe_lc (own := [("at", 4)]) (g := gName 4) (tt := tYes) (by rfl) nd (pi_tup (pv 3)) (blkOk_by (own := [("at", 4)]) (N := sl_holds_long) (sc := defScope s_holds_long) (by decide +kernel)) (fun _ _ _ _ _ => pg_name (i := 4) nd rfl (Or.inl rfl)) (fun _ _ _ _ _ => pts_nil) (fun _ _ _ _ _ => (pe_and (pe_cmpR op_lt (pv 4) (pe_callB (call_lenK (K := K) rfl) (by rfl) T.z_len PySem.boot_len (pa_cons (pv 0) pa_nil)) (nomark _)) (pe_one (pe_call G_is_jump hr_is_jump rfl T.m_is_jump T.k_is_jump T.b_is_jump .nil pass0 (pa_cons (pe_ix (ix_tupK (K := K) rfl) (pv 0) (pv 4) (fun _ _ => rfl)) pa_nil)))))) pa_nil))))))) (pss_one ps_never) pss_nil)
      (pss_one (ps_ret (pe_cmpR op_eq (pe_callB call_len_seq (by rfl) T.z_len PySem.boot_len (pa_cons (pe_call G__too_far hr__too_far rfl T.m__too_far T.k__too_far T.b__too_far .nil pass0 (pa_cons (pv 0) (pa_cons (pv 1) (pa_cons (pv 2) (pa_cons (pe_dc (own := [("at", 4)]) (g := gName 4) (tt := tYes) (by rfl) nd (pi_tup (pv 3)) (blkOk_by (own := [("at", 4)]) (N := sl_holds_long) (sc := defScope s_holds_long) (by decide +kernel)) (fun _ _ _ _ _ => pg_name (i := 4) nd rfl (Or.inl rfl)) (fun _ _ _ _ _ => pts_nil) (fun _ _ _ _ _ => (pv 4)) (fun _ _ _ _ _ => pe_bl)) pa_nil))))) pa_nil)) pe_int (nomark _)))))), ?_⟩
  refine ⟨_, rfl, _, rfl, _, rfl, x, _, _, _, _, _, rfl, hd, .int low, .int high, by show (ts.map Th.d).length ≤ 2000; rw [List.length_map]; exact hts, calm_ths ts, hbn, fun H1 e1 => ?_⟩
  refine ⟨_, rfl, u, natD cs, rfl, dp_same e1 hu, by show (cs.map _).length ≤ 2000; rw [List.length_map]; exact hcl, fun H2 e2 => ?_⟩
  refine ⟨_, rfl, ?_⟩
  have hs : isS (natD cs) = true := isS_nat hasc
  rw [hs]
  refine iteF ?_
  have e12 := e1.trans e2
  obtain ⟨a, xs, rfl, ha, hx⟩ := tup_inv (dp_same e12 hu)
  obtain ⟨b, ys, rfl, hb, hy⟩ := tup_inv (dp_same e12 hd)
  have hl := dp_len hx
  rw [List.length_map] at hl
  have hly : ys.length = ts.length := by rw [dp_len hy, List.length_map]
  have hnat : ∀ {i : Nat} {z : V}, xs[i]? = some z → ∃ c : Nat, cs[i]? = some c ∧ z = .int (c : Int) := fun {i z} hz => by
    obtain ⟨d3, _, hdi, hdz⟩ := dp_get hx hz
    rw [List.getElem?_map] at hdi
    cases hc : cs[i]? with
    | none => rw [hc] at hdi; cases hdi
    | some c =>
      rw [hc] at hdi
      obtain rfl : PyData.int (c : Int) = d3 := Option.some.inj hdi
      cases hdz
      exact ⟨c, rfl, rfl⟩
  refine ⟨_, rfl, a, rfl, ⟨_, ha⟩, fun D hD => ?_⟩
  refine lc_tup (K := K) (a := a) (xs := xs) (fun i H' => Same H2 H' ∧ H' D = some (.lst (List.replicate i (V.bl true)))) ?_ ?_ ?_ ?_
  · exact ⟨same_new hD _, upd_same⟩
  · rintro i H' _ ⟨e, _⟩
    exact seqT_same e ha
  · rintro i z H' hiz ⟨e, hDl⟩
    obtain ⟨c, hci, rfl⟩ := hnat hiz
    have hi : i < cs.length := (List.getElem?_eq_some_iff.mp hci).1
    have hjm := hch c (List.mem_of_getElem? hci)
    obtain ⟨hj1, hj2⟩ := Bool.and_eq_true_iff.mp hjm
    have cl : (c : Int) < ts.length := of_decide_eq_true hj1
    refine ⟨rfl, ?_⟩
    refine ⟨_, rfl, _, rfl, b, _, rfl, .inr (seqT_same e hb), _, _, rfl, rfl, _, rfl, ?_⟩
    refine ifT (decide_eq_true (show (c : Int) < (ys.length : Int) by rw [hly]; exact cl)) ?_
    obtain ⟨v, hv⟩ : ∃ v, ys[c]? = some v := ⟨_, List.getElem?_eq_getElem (by omega)⟩
    obtain ⟨t, ht, hdt⟩ := th_get hy hv
    have ej : t.isJ = true := by
      rw [show (c : Int).toNat = c from Int.toNat_natCast c, List.getD_eq_getElem?_getD, ht] at hj2
      exact hj2
    refine ⟨_, rfl, _, rfl, b, ys, c, v, rfl, rfl, seqT_same e hb, atI_nat hv, v, t, rfl, dp_same e hdt, ?_⟩
    rw [ej]
    refine ⟨_, hDl, by rw [List.length_replicate]; exact szl (by omega), same_mut e hD, ?_⟩
    rw [upd_same, List.replicate_succ']
  · rintro H3 ⟨e, hDl⟩
    refine ⟨D, List.replicate xs.length true, rfl, SqL.of (by rw [List.map_replicate]; exact hDl), _, rfl, ?_⟩
    have ea : ((List.replicate xs.length true).all id) = true := List.all_eq_true.mpr fun x m => by rw [(List.mem_replicate.mp m).2]; rfl
    rw [ea]
    refine iteF ?_
    have ha3 := seqT_same e ha
    refine ⟨_, rfl, _, rfl, _, rfl, _, rfl, a, rfl, ⟨_, ha3⟩, fun C hC => ?_⟩
    refine dc_tup (K := K) (a := a) (xs := xs) (fun i H' => Same H3 H' ∧ H' C = some (.dK (ck (cs.take i)))) ?_ ?_ ?_ ?_
    · exact ⟨same_new hC _, upd_same⟩
    · rintro i H' _ ⟨e3, _⟩
      exact seqT_same e3 ha3
    · rintro i z H' hiz ⟨e3, hDl⟩
      obtain ⟨c, hci, rfl⟩ := hnat hiz
      have hi : i < cs.length := (List.getElem?_eq_some_iff.mp hci).1
      have hno : c ∉ cs.take i := fun m => nat_not_take hasc hci m
      have hvn : valV (ck (cs.take i)) (Sum.inl (c : Int)) = none := by
        have := ck_val (cs.take i) c
        rw [decide_eq_false hno] at this
        cases hh : valV (ck (cs.take i)) (Sum.inl (c : Int)) with
        | none => rfl
        | some v => rw [hh] at this; cases this
      refine ⟨rfl, ?_⟩
      unfold tYes
      dsimp only
      rw [if_pos rfl]
      refine ⟨_, rfl, ?_⟩
      refine ⟨_, Sum.inl (c : Int), rfl, hDl, ?_, ?_⟩
      · unfold ck
        rw [List.length_map, List.length_take]
        exact szl (by omega)
      · refine ⟨same_mut e3 hC, ?_⟩
        rw [upd_same, putK_new _ hvn, List.take_succ, hci]
        unfold ck
        rw [List.map_append]
        rfl
    · rintro H4 ⟨e3, hDl⟩
      rw [hl, List.take_length] at hDl
      have e04 := (e12.trans e).trans e3
      refine ⟨_, C, low, high, ts, cs, rfl, dp_same e04 hd, hDl, hts, hg, fun f H5 e4 hf ef => ?_⟩
      refine ⟨f, _, rfl, .inl (SqL.of ef), ?_⟩
      refine ⟨rfl, ?_⟩
      have eq : decide (V.int ((nV (farL cs ts low high)).length : Int) = V.int 0) = decide (farL cs ts low high = []) := by
        unfold nV
        rw [List.length_map]
        cases farL cs ts low high with
        | nil => rfl
        | cons f r =>
          have e1 : decide (f :: r = []) = false := decide_eq_false fun z => nomatch z
          rw [e1]
          refine decide_eq_false fun z => ?_
          have := V.int.inj z
          rw [List.length_cons] at this
          omega
      have kk := k H5 (e04.trans e4)
      rw [← eq] at kk
      exact kk
end
end Lk

set_option Elab.async false
set_option linter.all false
set_option maxRecDepth 100000
set_option maxHeartbeats 4000000
set_option pp.maxSteps 1500
namespace Lk
open PySem PySem.Spec PyProof.Rows L2
/-- which are jumps -/
def jmpsTo (ts : List Th) (n : Nat) : List Nat := (List.range n).filter fun i => (ts.getD i (.len 0)).isJ
def jmps (ts : List Th) : List Nat := jmpsTo ts ts.length
def spJumps (K : PySem.W.Frag) : Sp := fun vs H Q _ => ∃ (x : V) (ts : List Th), vs = [x] ∧ Dp K H x (.tuple (ts.map Th.d)) ∧ ts.length ≤ 2000 ∧ ∀ p H', Same H H' → H p = none → H' p = some (.lst (nV (jmps ts))) → Q (.ref p) H'
theorem jmpsTo_snoc (ts : List Th) (n : Nat) : jmpsTo ts (n + 1) = jmpsTo ts n ++ (if (ts.getD n (.len 0)).isJ then [n] else []) := by
  unfold jmpsTo
  rw [List.range_succ, List.filter_append]
  congr 1
  show (match (ts.getD n (.len 0)).isJ with | true => n :: [] | false => []) = _
  cases (ts.getD n (.len 0)).isJ <;> rfl
section
variable {P : Program} {w : World} {K : PySem.W.Frag} {mg : Str → Option Value} {base : Heap}
theorem ok_law_jumps (T : Txt K mg) : FnOk P w K mg base CX0 1 T.f__law_jumps T.d__law_jumps ["_law_things_here"] (spJumps K) := by
  have nd := sc__law_jumps.nd
  refine T.F__law_jumps.ok sc__law_jumps (fun vs H Q E h => ?_) (fun cdv A outer s H vs Q E hr h => ?_)
  · obtain ⟨x, ts, rfl, _⟩ := h
    rfl
  obtain ⟨x, ts, rfl, hd, hts, k⟩ := h
  refine ⟨_, (pss_one (ps_ret (pe_lc (own := [("_law_k", 1)]) (g := gName 1) (by rfl) nd (pi_range1 (by rfl) T.z_range (pa_cons (pe_callB call_len_seq (by rfl) T.z_len PySem.boot_len (pa_cons (pv 0) pa_nil)) pa_nil)) (blkOk_by (own := [("_law_k", 1)]) (N := sl__law_jumps) (sc := defScope s__law_jumps) (by decide +kernel)) (fun _ _ _ _ _ => pg_name (i := 1) nd rfl (Or.inl rfl)) (fun _ _ _ _ _ => (pts_one (pt_val (pe_callB (call_isiK (K := K) rfl) (by rfl) T.z_isinstance (by decide +kernel) (pa_cons (pe_ix (ix_tupK (K := K) rfl) (pv 0) (pv 1) (fun _ _ => rfl)) (pa_cons (pe_bltn (v := .ty "tuple") rfl T.z_tuple (by decide +kernel) rfl) pa_nil)))))) (fun _ _ _ _ _ => (pv 1))))), ?_⟩
  obtain ⟨b, ys, rfl, hb, hy⟩ := tup_inv hd
  have hly : ys.length = ts.length := by rw [dp_len hy, List.length_map]
  refine ⟨_, rfl, b, ys, rfl, .inr hb, (ys.length : Int), rfl, by omega, by omega, fun D hD => ?_⟩
  refine lc_range (lo := 0) (n := (ys.length : Int).toNat) (fun j H' => Same H H' ∧ H' D = some (.lst (nV (jmpsTo ts j)))) ?_ ?_ ?_
  · exact ⟨same_new hD _, upd_same⟩
  · rintro j H' hj ⟨e, eD⟩
    have hj2 : j < ys.length := by omega
    refine ⟨rfl, ?_⟩
    rw [Int.zero_add]
    obtain ⟨v, hv⟩ : ∃ v, ys[j]? = some v := ⟨_, List.getElem?_eq_getElem hj2⟩
    obtain ⟨t, ht, hdt⟩ := th_get hy hv
    have hgd : ts.getD j (.len 0) = t := by rw [List.getD_eq_getElem?_getD, ht]; rfl
    have few : (jmpsTo ts j).length ≤ j := by
      have := List.length_filter_le (fun i => (ts.getD i (.len 0)).isJ) (List.range j)
      rw [List.length_range] at this
      exact this
    refine ⟨_, rfl, _, rfl, b, ys, (j : Int), v, rfl, rfl, seqT_same e hb, atI_nat hv, v, .ty "tuple", _, _, _, rfl, .ty "tuple", ty_of (dp_same e hdt), kit_tup (dp_same e hdt), _, rfl, ?_⟩
    rw [jmpsTo_snoc, hgd]
    cases t with
    | len n =>
      refine iteF ⟨e, ?_⟩
      rw [show (Th.len n).isJ = false from rfl, if_neg (by decide), List.append_nil]
      exact eD
    | jmp n =>
      refine iteT ⟨_, rfl, _, eD, by unfold nV; rw [List.length_map]; exact szl (by omega), same_mut e hD, ?_⟩
      rw [upd_same, show (Th.jmp n).isJ = true from rfl, if_pos rfl]
      unfold nV
      rw [List.map_append]
      rfl
  · rintro H' ⟨e, eD⟩
    rw [show (ys.length : Int).toNat = ts.length by omega] at eD
    exact k D H' e hD eD
end
end Lk

set_option Elab.async false
set_option linter.all false
set_option maxRecDepth 100000
set_option maxHeartbeats 4000000
set_option pp.maxSteps 1500
namespace Lk
open PySem PySem.Spec PyProof.Rows L2
def spSpots (K : PySem.W.Frag) : Sp := fun vs H Q _ => ∃ (x : V) (c : Addr) (ts : List Th) (cs : List Nat), vs = [x, .ref c] ∧ Dp K H x (.tuple (ts.map Th.d)) ∧ (SqL K H c (nV cs) ∨ SqT K H c (nV cs)) ∧ ts.length ≤ 2000 ∧
  ∀ p H', Same H H' → H p = none → H' p = some (.lst (iV (addrs cs ts))) → Q (.ref p) H'
theorem flat_nV (cs : List Nat) : (nV cs).all flatV = true := List.all_eq_true.mpr fun v m => by
  obtain ⟨i, _, rfl⟩ := List.mem_map.mp m
  rfl
theorem in_nV (i : Nat) : ∀ cs : List Nat, inV (.int (i : Int)) (nV cs) = decide (i ∈ cs)
  | [] => rfl
  | c :: r => by
    show (((c : Int) == (i : Int)) || inV (.int (i : Int)) (nV r)) = _
    rw [in_nV i r]
    by_cases e : c = i
    · rw [e]; simp
    · have e1 : ((c : Int) == (i : Int)) = false := beq_eq_false_iff_ne.mpr fun q => e (by omega)
      rw [e1, Bool.false_or]
      have : i ≠ c := fun z => e z.symm
      simp [this]
section
variable {P : Program} {w : World} {K : PySem.W.Frag} {mg : Str → Option Value} {base : Heap}
theorem ok_law_spots (T : Txt K mg) : FnOk P w K mg base CX0 1 T.f__law_spots T.d__law_spots ["_law_things_here", "_law_chosen"] (spSpots K) := by
  have nd := sc__law_spots.nd
  refine T.F__law_spots.ok sc__law_spots (fun vs H Q E h => ?_) (fun cdv A outer s H vs Q E hr h => ?_)
  · obtain ⟨x, c, ts, cs, rfl, _⟩ := h
    rfl
  obtain ⟨x, c, ts, cs, rfl, hd, hc, hts, k⟩ := h
  refine ⟨_, (pss_cons (ps_set (i := 2) nd rfl (Or.inl rfl) (pe_lst (pa_cons pe_int pa_nil)))
      (pss_cons (ps_for PassesOwn.never rfl (pi_range1 (by rfl) T.z_range (pa_cons (pe_callB call_len_seq (by rfl) T.z_len PySem.boot_len (pa_cons (pv 0) pa_nil)) pa_nil)) (pg_name (i := 3) nd rfl (Or.inl rfl))
      (pss_cons (ps_set (i := 4) nd rfl (Or.inl rfl) (pe_ix ix_tup (pv 0) (pv 3) (fun _ _ => rfl)))
      (pss_one (ps_expr (pe_bm PySem.F.plainAttrs_list PySem.F.slot_list_append PySem.F.type_list_append mt_append (pv 2) (pa_cons (pe_op op_add (pe_ix ix_list (pv 2) (pe_un un_neg pe_int) (fun _ _ => rfl)) (pe_ifExp (pt_not (pt_val (pe_callB call_isi (by rfl) T.z_isinstance (by decide +kernel) (pa_cons (pv 4) (pa_cons (pe_bltn (v := .ty "tuple") rfl T.z_tuple (by decide +kernel) rfl) pa_nil))))) (pv 4) (pe_op op_add pe_int (pe_callTy call_int1 (by rfl) T.z_int (by decide +kernel) (pa_cons (pe_cmpR op_in_seq (pv 3) (pv 1) (by rfl)) pa_nil))))) pa_nil))))))
      (pss_one (ps_ret (pv 2))))), ?_⟩
  obtain ⟨b, ys, rfl, hb, hy⟩ := tup_inv hd
  have hly : ys.length = ts.length := by rw [dp_len hy, List.length_map]
  refine ⟨(by show 1 ≤ sizeLine; decide), fun p hp => ?_⟩
  have s0 := same_new hp (.lst [.int 0])
  refine ⟨_, rfl, b, ys, rfl, .inr (seqT_same s0 hb), ?_⟩
  refine ⟨(ys.length : Int), rfl, by omega, by omega, ?_⟩
  refine for_range (lo := 0) (n := (ys.length : Int).toNat) (fun i σ H' => ∃ (o3 o4 : Option V), σ = [some (.ref b), some (.ref c), some (.ref p), o3, o4] ∧ Same H H' ∧ H' p = some (.lst (iV (addrsTo cs ts i)))) ?_ ?_ ?_
  · exact ⟨none, none, rfl, s0, upd_same⟩
  · rintro i σ H' hi ⟨o3, o4, rfl, e, ep⟩
    rw [Int.zero_add]
    have hi2 : i < ys.length := by omega
    obtain ⟨v, hv⟩ : ∃ v, ys[i]? = some v := ⟨_, List.getElem?_eq_getElem hi2⟩
    obtain ⟨t, ht, hdt⟩ := th_get hy hv
    have tg : ts.getD i (.len 0) = t := by rw [List.getD_eq_getElem?_getD, ht]; rfl
    have step : addrsTo cs ts (i + 1) = addrsTo cs ts i ++ [addrAt cs ts i + lenT cs i t] := by
      unfold addrsTo
      rw [List.range_succ, List.map_append]
      show _ ++ [addrAt cs ts i + lenT cs i (ts.getD i (.len 0))] = _
      rw [tg]
    have last : atI (iV (addrsTo cs ts i)) (-1) = some (V.int (addrAt cs ts i)) := by
      have : addrsTo cs ts i = (List.range i).map (addrAt cs ts) ++ [addrAt cs ts i] := by
        unfold addrsTo
        rw [List.range_succ, List.map_append]
        rfl
      rw [this, ← iV_app]
      exact atI_last _ _
    refine ⟨_, rfl, _, rfl, b, ys, (i : Int), v, rfl, rfl, seqT_same e hb, atI_nat hv, ?_⟩
    have hdz := dp_same e hdt
    refine ⟨_, rfl, .inl ⟨rfl, _, SqL.of ep⟩, _, rfl, 1, rfl, p, _, _, _, rfl, rfl, SqL.of ep, last, ?_⟩
    refine ⟨_, rfl, v, .ty "tuple", _, _, _, rfl, .ty "tuple", ty_of hdz, kit_tup hdz, _, rfl, ?_⟩
    cases t with
    | len n =>
      obtain rfl : v = .int n := by cases hdz; rfl
      refine iteT ?_
      refine ⟨_, rfl, _, _, rfl, rfl, p, _, _, rfl, rfl, ep, (by rw [iV_len, addrsTo_len]; exact szl (by omega)), ?_⟩
      refine ⟨_, _, rfl, same_mut e hp, ?_⟩
      rw [upd_same, iV_app, step]
      rfl
    | jmp j =>
      refine iteF ?_
      have hc' : SqL K H' c (nV cs) ∨ SqT K H' c (nV cs) := hc.elim (fun h => .inl (Same.seq e h)) fun h => .inr (seqT_same e h)
      refine ⟨_, rfl, _, rfl, c, _, rfl, hc', rfl, flat_nV cs, .inr ⟨_, rfl, _, _, rfl, rfl, ?_⟩⟩
      rw [in_nV]
      refine ⟨_, _, rfl, rfl, p, _, _, rfl, rfl, ep, (by rw [iV_len, addrsTo_len]; exact szl (by omega)), ?_⟩
      refine ⟨_, _, rfl, same_mut e hp, ?_⟩
      rw [upd_same, iV_app, step]
      show some (HO.lst (iV (addrsTo cs ts i ++ [addrAt cs ts i + (1 + if decide (i ∈ cs) = true then 1 else 0)]))) = some (HO.lst (iV (addrsTo cs ts i ++ [addrAt cs ts i + (1 + if i ∈ cs then 1 else 0)])))
      by_cases m : i ∈ cs
      · rw [if_pos (decide_eq_true m), if_pos m]
      · rw [if_neg (by rw [decide_eq_false m]; exact Bool.false_ne_true), if_neg m]
  · rintro σ H' ⟨o3, o4, rfl, e, ep⟩
    rw [show (ys.length : Int).toNat = ts.length by omega] at ep
    exact ⟨_, rfl, k p H' e hp ep⟩
end
end Lk

set_option Elab.async false
set_option linter.all false
set_option maxRecDepth 100000
set_option maxHeartbeats 4000000
set_option pp.maxSteps 1500
namespace Lk
open PySem PySem.Spec PyProof.Rows L2
def outOf (cs : List Nat) (ts : List Th) (low high : Int) (i : Nat) : Bool := match ts.getD i (.len 0) with
  | .len _ => false
  | .jmp t => decide (addrAt cs ts t - addrAt cs ts i < low) || decide (addrAt cs ts t - addrAt cs ts i > high)
def outL (cs : List Nat) (ts : List Th) (low high : Int) : List Nat := (jmps ts).filter (outOf cs ts low high)
def spOut (K : PySem.W.Frag) : Sp := fun vs H Q _ => ∃ (x : V) (c : Addr) (low high : Int) (ts : List Th) (cs : List Nat), vs = [x, .int low, .int high, .ref c] ∧ Dp K H x (.tuple (ts.map Th.d)) ∧ (SqL K H c (nV cs) ∨ SqT K H c (nV cs)) ∧ ts.length ≤ 2000 ∧ GoodTs ts ∧
  ∀ p H', Same H H' → H p = none → H' p = some (.lst (nV (outL cs ts low high))) → Q (.ref p) H'
section
variable {P : Program} {w : World} {K : PySem.W.Frag} {mg : Str → Option Value} {base : Heap}
theorem ok_law_far (T : Txt K mg) : FnOk P w K mg base CX0 2 T.f__law_far T.d__law_far ["_law_things_here", "_law_low", "_law_high", "_law_chosen"] (spOut K) := by
  have nd := sc__law_far.nd
  refine T.F__law_far.ok sc__law_far (fun vs H Q E h => ?_) (fun cdv A outer s H vs Q E hr h => ?_)
  · obtain ⟨x, c, low, high, ts, cs, rfl, _⟩ := h
    rfl
  obtain ⟨x, c, low, high, ts, cs, rfl, hd, hc, hts, hg, k⟩ := h
  have G__law_spots : FnOk P w K mg base CX0 1 _ _ _ (spSpots K) := ok_law_spots T
  have hr__law_spots := hr
  have G__law_jumps : FnOk P w K mg base CX0 1 _ _ _ (spJumps K) := ok_law_jumps T
  have hr__law_jumps := hr
  refine ⟨_, (pss_cons (ps_par (i := 4) (j := 5) rfl nd rfl rfl (by decide) rfl rfl (pa_cons (pe_call G__law_spots hr__law_spots rfl T.m__law_spots T.k__law_spots T.b__law_spots .nil pass0 (pa_cons (pv 0) (pa_cons (pv 3) pa_nil))) (pa_cons (pe_lst pa_nil) pa_nil)) (by rfl))
      (pss_cons (ps_for PassesOwn.never rfl (pi_list (pe_call G__law_jumps hr__law_jumps rfl T.m__law_jumps T.k__law_jumps T.b__law_jumps .nil pass0 (pa_cons (pv 0) pa_nil))) (pg_name (i := 6) nd rfl (Or.inl rfl))
      (pss_cons (ps_set (i := 7) nd rfl (Or.inl rfl) (pe_op op_sub (pe_ix ix_list (pv 4) (pe_ix ix_tup (pe_ix ix_tup (pv 0) (pv 6) (fun _ _ => rfl)) pe_int (fun _ _ => rfl)) (fun _ _ => rfl)) (pe_ix ix_list (pv 4) (pv 6) (fun _ _ => rfl))))
      (pss_one (ps_if (PW.pt (pw_or (pt_cmpR op_lt (pv 7) (pv 1) (nomark _)) (pw_or1 (pt_cmpR op_gt (pv 7) (pv 2) (nomark _))))) (pss_one (ps_expr (pe_bm PySem.F.plainAttrs_list PySem.F.slot_list_append PySem.F.type_list_append mt_append (pv 5) (pa_cons (pv 6) pa_nil)))) pss_nil))))
      (pss_one (ps_ret (pv 5))))), ?_⟩
  obtain ⟨b, ys, rfl, hb, hy⟩ := tup_inv hd
  have hly : ys.length = ts.length := by rw [dp_len hy, List.length_map]
  refine ⟨_, rfl, _, rfl, _, c, ts, cs, rfl, hd, hc, hts, fun p H1 e1 hp ep => ?_⟩
  refine ⟨(by show 0 ≤ sizeLine; decide), fun q hq => ?_⟩
  have e2 := e1.trans (same_new hq (.lst []))
  refine ⟨_, _, rfl, ?_⟩
  refine ⟨_, rfl, _, ts, rfl, dp_same e2 hd, hts, fun j H2 e3 hj ej => ?_⟩
  have e03 := e2.trans e3
  have hjl : (jmps ts).length ≤ ts.length := by
    have := List.length_filter_le (fun i => (ts.getD i (.len 0)).isJ) (List.range ts.length)
    rw [List.length_range] at this
    exact this
  have eq3 : H2 q = some (.lst (nV ((jmps ts).take 0 |>.filter (outOf cs ts low high)))) := by
    rw [List.take_zero]
    exact e3 _ _ upd_same
  refine ⟨j, rfl, ⟨_, SqL.of ej⟩, ?_⟩
  refine for_list (K := K) (a := j) (xs := nV (jmps ts)) (fun i σ H' => ∃ o6 o7, σ = [some (.ref b), some (.int low), some (.int high), some (.ref c), some (.ref p), some (.ref q), o6, o7] ∧ Same H H' ∧ H' j = some (.lst (nV (jmps ts))) ∧ H' p = some (.lst (iV (addrs cs ts))) ∧
    H' q = some (.lst (nV (((jmps ts).take i).filter (outOf cs ts low high))))) ?_ ?_ ?_ ?_
  · exact ⟨none, none, rfl, e03, ej, (e2.trans e3 |> fun _ => e3 _ _ (by rw [upd_ne (fun z => by rw [z, hq] at ep; cases ep)]; exact ep)), eq3⟩
  · rintro i σ H' _ ⟨_, _, _, _, h, _⟩
    exact SqL.of h
  · rintro i z σ H' hiz ⟨o6, o7, rfl, e, ej', ep', eq'⟩
    obtain ⟨m, hm, rfl⟩ : ∃ m : Nat, (jmps ts)[i]? = some m ∧ z = .int (m : Int) := by
      unfold nV at hiz
      rw [List.getElem?_map] at hiz
      cases hh : (jmps ts)[i]? with
      | none => rw [hh] at hiz; cases hiz
      | some m => rw [hh] at hiz; exact ⟨m, rfl, (Option.some.inj hiz).symm⟩
    have mm : m ∈ jmps ts := List.mem_of_getElem? hm
    obtain ⟨m1, m2⟩ := List.mem_filter.mp mm
    have mlt := List.mem_range.mp m1
    obtain ⟨v, hv⟩ : ∃ v, ys[m]? = some v := ⟨_, List.getElem?_eq_getElem (by omega)⟩
    obtain ⟨t, ht, hdt⟩ := th_get hy hv
    have hgd : ts.getD m (.len 0) = t := by rw [List.getD_eq_getElem?_getD, ht]; rfl
    cases t with
    | len n => rw [hgd] at m2; cases m2
    | jmp n =>
      have hn := hg m n hgd
      obtain ⟨a1, xs1, rfl, ha1, hx1⟩ := tup_inv (dp_same e hdt)
      obtain ⟨y0, y1, rfl, h1⟩ : ∃ y0 y1, xs1 = [y0, y1] ∧ y1 = .int (n : Int) := by
        cases hx1 with
        | cons h0 r => cases r with
          | cons h1 r2 => cases r2; cases h1; exact ⟨_, _, rfl, rfl⟩
      subst h1
      have adr : ∀ k, k ≤ ts.length → atI (iV (addrs cs ts)) ((k : Nat) : Int) = some (V.int (addrAt cs ts k)) := fun k hk => by
        refine atI_nat ?_
        unfold iV addrs addrsTo
        rw [List.getElem?_map, List.getElem?_map, List.getElem?_range (by omega)]
        rfl
      refine ⟨_, rfl, _, rfl, _, rfl, b, ys, (m : Int), _, rfl, rfl, seqT_same e hb, atI_nat hv, a1, _, 1, .int (n : Int), rfl, rfl, ha1, atI_nat (show [y0, V.int (n : Int)][1]? = some (V.int (n : Int)) from rfl), ?_⟩
      refine ⟨p, _, _, _, rfl, rfl, SqL.of ep', adr n hn, _, rfl, _, rfl, p, _, _, _, rfl, rfl, SqL.of ep', adr m (by omega), ?_⟩
      refine ⟨_, _, rfl, rfl, ?_⟩
      have few : (((jmps ts).take i).filter (outOf cs ts low high)).length ≤ 2000 := by
        have h1 := List.length_filter_le (outOf cs ts low high) ((jmps ts).take i)
        rw [List.length_take] at h1
        omega
      have eo : outOf cs ts low high m = (decide (addrAt cs ts n - addrAt cs ts m < low) || decide (addrAt cs ts n - addrAt cs ts m > high)) := by
        unfold outOf; rw [hgd]
      have stp : ((jmps ts).take (i + 1)).filter (outOf cs ts low high) = ((jmps ts).take i).filter (outOf cs ts low high) ++ (if outOf cs ts low high m then [m] else []) := by
        rw [List.take_succ, hm, List.filter_append]
        congr 1
        show (match outOf cs ts low high m with | true => m :: [] | false => []) = _
        cases outOf cs ts low high m <;> rfl
      have nqj : j ≠ q := fun z => by rw [z, upd_same] at hj; cases hj
      have nqp : p ≠ q := fun z => by rw [z, hq] at ep; cases ep
      have hq0 : H q = none := none_of e1 hq
      have app : outOf cs ts low high m = true → ∃ o6' o7', [some (V.ref b), some (V.int low), some (V.int high), some (V.ref c), some (V.ref p), some (V.ref q), some (V.int (m : Int)), some (V.int (addrAt cs ts n - addrAt cs ts m))] = [some (V.ref b), some (V.int low), some (V.int high), some (V.ref c), some (V.ref p), some (V.ref q), o6', o7'] ∧ Same H (upd H' q (.lst (nV (((jmps ts).take i).filter (outOf cs ts low high)) ++ [V.int (m : Int)]))) ∧
          (upd H' q (.lst (nV (((jmps ts).take i).filter (outOf cs ts low high)) ++ [V.int (m : Int)]))) j = some (.lst (nV (jmps ts))) ∧ (upd H' q (.lst (nV (((jmps ts).take i).filter (outOf cs ts low high)) ++ [V.int (m : Int)]))) p = some (.lst (iV (addrs cs ts))) ∧
          (upd H' q (.lst (nV (((jmps ts).take i).filter (outOf cs ts low high)) ++ [V.int (m : Int)]))) q = some (.lst (nV (((jmps ts).take (i + 1)).filter (outOf cs ts low high)))) := fun h => by
        refine ⟨_, _, rfl, same_mut e hq0, by rw [upd_ne nqj]; exact ej', by rw [upd_ne nqp]; exact ep', ?_⟩
        rw [upd_same, stp, h, if_pos rfl]
        unfold nV
        rw [List.map_append]
        rfl
      refine ⟨_, rfl, _, rfl, _, _, rfl, rfl, _, rfl, ?_⟩
      refine ite2 (fun c1 => ?_) (fun c1 => ?_)
      · refine ⟨_, rfl, .inl ⟨rfl, _, SqL.of eq'⟩, _, rfl, q, _, _, rfl, rfl, eq', (by unfold nV; rw [List.length_map]; exact szl (by omega)), ?_⟩
        exact app (by rw [eo, c1]; rfl)
      refine ⟨_, rfl, _, rfl, _, _, rfl, rfl, _, rfl, ?_⟩
      refine ite2 (fun c2 => ?_) (fun c2 => ?_)
      · refine ⟨_, rfl, .inl ⟨rfl, _, SqL.of eq'⟩, _, rfl, q, _, _, rfl, rfl, eq', (by unfold nV; rw [List.length_map]; exact szl (by omega)), ?_⟩
        exact app (by rw [eo]; rw [Bool.or_eq_true]; exact .inr c2)
      · refine ⟨_, _, rfl, e, ej', ep', ?_⟩
        rw [stp, show outOf cs ts low high m = false by rw [eo, Bool.eq_false_iff.mpr c1]; exact Bool.eq_false_iff.mpr c2, if_neg Bool.false_ne_true, List.append_nil]
        exact eq'
  · rintro σ H' ⟨o6, o7, rfl, e, ej', ep', eq'⟩
    rw [show (nV (jmps ts)).length = (jmps ts).length from List.length_map _, List.take_length] at eq'
    exact ⟨_, rfl, k q H' e (none_of e1 hq) eq'⟩
end
end Lk

set_option Elab.async false
set_option linter.all false
set_option maxRecDepth 100000
set_option maxHeartbeats 4000000
set_option pp.maxSteps 1500
namespace Lk
open PySem PySem.Spec PyProof.Rows L2
theorem rng_out (d low high : Int) : (!(decide (low ≤ d) && decide (d ≤ high))) = (decide (d < low) || decide (d > high)) := by
  by_cases h1 : low ≤ d
  · rw [decide_eq_true h1, decide_eq_false (show ¬ d < low by omega), Bool.true_and, Bool.false_or]
    by_cases h2 : d ≤ high
    · rw [decide_eq_true h2, decide_eq_false (show ¬ d > high by omega)]; rfl
    · rw [decide_eq_false h2, decide_eq_true (show d > high by omega)]; rfl
  · rw [decide_eq_false h1, decide_eq_true (show d < low by omega)]; rfl
theorem farL_out (cs : List Nat) (ts : List Th) (low high : Int) : farL cs ts low high = (outL cs ts low high).filter fun i => !decide (i ∈ cs) := by
  unfold farL farTo outL jmps jmpsTo
  rw [List.filter_filter, List.filter_filter]
  refine List.filter_congr fun i _ => ?_
  unfold isFar outOf
  cases ts.getD i (.len 0) with
  | len n => show false = (((!decide (i ∈ cs)) && false) && false); rw [Bool.and_false]
  | jmp t =>
    show (decide (i ∉ cs) && !(decide (low ≤ addrAt cs ts t - addrAt cs ts i) && decide (addrAt cs ts t - addrAt cs ts i ≤ high))) = (((!decide (i ∈ cs)) && (decide (addrAt cs ts t - addrAt cs ts i < low) || decide (addrAt cs ts t - addrAt cs ts i > high))) && true)
    rw [rng_out, Bool.and_true]
    by_cases m : i ∈ cs
    · rw [decide_eq_true m, decide_eq_false (not_not_intro m)]; rfl
    · rw [decide_eq_false m, decide_eq_true m]; rfl
def spIsHeld (K : PySem.W.Frag) : Sp := fun vs H Q _ => ∃ (x : V) (c : Addr) (low high : Int) (ts : List Th) (cs : List Nat), vs = [x, .int low, .int high, .ref c] ∧ Dp K H x (.tuple (ts.map Th.d)) ∧ (SqL K H c (nV cs) ∨ SqT K H c (nV cs)) ∧ ts.length ≤ 2000 ∧ GoodTs ts ∧
  ∀ H', Same H H' → Q (.bl (decide (farL cs ts low high = []))) H'
section
variable {P : Program} {w : World} {K : PySem.W.Frag} {mg : Str → Option Value} {base : Heap}
theorem ok_law_is_held (T : Txt K mg) : FnOk P w K mg base CX0 3 T.f__law_is_held T.d__law_is_held ["_law_things_here", "_law_low", "_law_high", "_law_chosen"] (spIsHeld K) := by
  have nd := sc__law_is_held.nd
  refine T.F__law_is_held.ok sc__law_is_held (fun vs H Q E h => ?_) (fun cdv A outer s H vs Q E hr h => ?_)
  · obtain ⟨x, c, low, high, ts, cs, rfl, _⟩ := h
    rfl
  obtain ⟨x, c, low, high, ts, cs, rfl, hd, hc, hts, hg, k⟩ := h
  have G__law_far : FnOk P w K mg base CX0 2 _ _ _ (spOut K) := ok_law_far T
  have hr__law_far := hr
  refine ⟨_, (pss_one (ps_ret (pe_cmpR (op_eqD hr.units) (pe_lc (own := [("_law_k", 4)]) (g := gName 4) (by rfl) nd (pi_list (pe_call G__law_far hr__law_far rfl T.m__law_far T.k__law_far T.b__law_far .nil pass0 (pa_cons (pv 0) (pa_cons (pv 1) (pa_cons (pv 2) (pa_cons (pv 3) pa_nil)))))) (blkOk_by (own := [("_law_k", 4)]) (N := sl__law_is_held) (sc := defScope s__law_is_held) (by decide +kernel)) (fun _ _ _ _ _ => pg_name (i := 4) nd rfl (Or.inl rfl)) (fun _ _ _ _ _ => (pts_one (pt_cmpR (op_notInK (K := K) rfl) (pv 4) (pv 3) (by rfl)))) (fun _ _ _ _ _ => (pv 4))) (pe_lst pa_nil) (nomark _)))), ?_⟩
  refine ⟨_, rfl, _, rfl, _, rfl, _, rfl, x, c, low, high, ts, cs, rfl, hd, hc, hts, hg, fun p H1 e1 hp ep => ?_⟩
  refine ⟨p, rfl, ⟨_, SqL.of ep⟩, fun D hD => ?_⟩
  refine lc_list (K := K) (a := p) (xs := nV (outL cs ts low high)) (fun i H' => Same H1 H' ∧ H' D = some (.lst (nV (((outL cs ts low high).take i).filter fun i => !decide (i ∈ cs))))) ?_ ?_ ?_ ?_
  · exact ⟨same_new hD _, upd_same⟩
  · rintro i H' _ ⟨e, _⟩
    exact SqL.of (e _ _ ep)
  · rintro i z H' hiz ⟨e, eD⟩
    obtain ⟨m, hm, rfl⟩ : ∃ m : Nat, (outL cs ts low high)[i]? = some m ∧ z = .int (m : Int) := by
      unfold nV at hiz
      rw [List.getElem?_map] at hiz
      cases hh : (outL cs ts low high)[i]? with
      | none => rw [hh] at hiz; cases hiz
      | some m => rw [hh] at hiz; exact ⟨m, rfl, (Option.some.inj hiz).symm⟩
    have he := e1.trans e
    have hc' : SqL K H' c (nV cs) ∨ SqT K H' c (nV cs) := hc.elim (fun h => .inl (Same.seq he h)) fun h => .inr (seqT_same he h)
    have few : (((outL cs ts low high).take i).filter fun i => !decide (i ∈ cs)).length ≤ 2000 := by
      have h1 := List.length_filter_le (fun i => !decide (i ∈ cs)) ((outL cs ts low high).take i)
      have h2 := List.length_filter_le (outOf cs ts low high) (jmps ts)
      have h3 := List.length_filter_le (fun i => (ts.getD i (.len 0)).isJ) (List.range ts.length)
      rw [List.length_range] at h3
      rw [List.length_take] at h1
      have h4 : (outL cs ts low high).length ≤ (jmps ts).length := h2
      have h5 : (jmps ts).length ≤ ts.length := h3
      omega
    have stp : ((outL cs ts low high).take (i + 1)).filter (fun i => !decide (i ∈ cs)) = ((outL cs ts low high).take i).filter (fun i => !decide (i ∈ cs)) ++ (if decide (m ∈ cs) then [] else [m]) := by
      rw [List.take_succ, hm, List.filter_append]
      congr 1
      show (match !decide (m ∈ cs) with | true => m :: [] | false => []) = _
      cases decide (m ∈ cs) <;> rfl
    refine ⟨rfl, ?_⟩
    refine ⟨_, rfl, _, rfl, c, _, rfl, hc', rfl, flat_nV cs, _, rfl, ?_⟩
    rw [in_nV, stp]
    refine ite2 (fun q => ?_) (fun q => ?_)
    · have q' : decide (m ∈ cs) = false := by cases h : decide (m ∈ cs) with
        | false => rfl
        | true => rw [h] at q; cases q
      refine ⟨_, rfl, _, eD, by unfold nV; rw [List.length_map]; exact szl (by omega), same_mut e hD, ?_⟩
      rw [upd_same, q', if_neg Bool.false_ne_true]
      unfold nV
      rw [List.map_append]
      rfl
    · have q' : decide (m ∈ cs) = true := by cases h : decide (m ∈ cs) with
        | true => rfl
        | false => rw [h] at q; exact absurd rfl q
      rw [q', if_pos rfl, List.append_nil]
      exact ⟨e, eD⟩
  · rintro H' ⟨e, eD⟩
    rw [show (nV (outL cs ts low high)).length = (outL cs ts low high).length from List.length_map _, List.take_length, ← farL_out] at eD
    refine ⟨(by show 0 ≤ sizeLine; decide), fun pe hpe => ?_⟩
    have e3 : Same H' (upd H' pe (.lst [])) := same_new hpe _
    have en : nV (farL cs ts low high) = iV ((farL cs ts low high).map fun (i : Nat) => (i : Int)) := by unfold nV iV; rw [List.map_map]; rfl
    rw [en] at eD
    refine ⟨.list (((farL cs ts low high).map fun (i : Nat) => (i : Int)).map .int), .list [], .lst (SqL.of (e3 _ _ eD)) (dp_ints _), .lst (SqL.of upd_same) .nil, shaped_iV _, rfl, ?_⟩
    have ee : PyData.eqv (.list (((farL cs ts low high).map fun (i : Nat) => (i : Int)).map .int)) (.list []) = decide (farL cs ts low high = []) := by
      cases farL cs ts low high with
      | nil => rfl
      | cons a r => rfl
    rw [ee]
    exact k _ ((e1.trans e).trans e3)
end
end Lk

set_option Elab.async false
set_option linter.all false
set_option maxRecDepth 100000
set_option maxHeartbeats 4000000
set_option pp.maxSteps 1500
namespace Lk
open PySem PySem.Spec PyProof.Rows L2
/-- lists and tuples made while a feed stands at l -/
theorem new_ne {K : PySem.W.Frag} {H : Hp} {l q p : Addr} {ns : List Int} (f : Feed K H l q ns) (h : H p = none) : p ≠ l := fun z => by
  obtain ⟨_, _, _, e, _⟩ := f
  rw [z, e] at h; cases h
/-- what is kept of a feed and of what stood ahead -/
structure FI (K : PySem.W.Frag) (H : Hp) (l q : Addr) (ns : List Int) (H' : Hp) : Prop where
  f : Feed K H' l q ns
  s : Same (del H l) (del H' l)
theorem FI.fresh {K : PySem.W.Frag} {H H' : Hp} {l q p : Addr} {ns : List Int} (f : FI K H l q ns H') (h : H' p = none) : H p = none := by
  have n := new_ne f.f h
  cases e : H p with
  | none => rfl
  | some o =>
    have := f.s p o (by rw [del_ne n]; exact e)
    rw [del_ne n, h] at this; cases this
theorem FI.put {K : PySem.W.Frag} {H H' : Hp} {l q p : Addr} {ns : List Int} (h0 : Feed K H l q ns) (f : FI K H l q ns H') (h : H p = none) (o : HO) : FI K H l q ns (upd H' p o) := by
  have n := new_ne h0 h
  have s : Same (del H l) (del (upd H' p o) l) := fun b u e => by
    by_cases c : b = l
    · subst c; rw [del_same] at e; cases e
    · have e2 := f.s b u e
      rw [del_ne c] at e e2 ⊢
      rw [upd_ne (fun z => by rw [z, h] at e; cases e)]; exact e2
  obtain ⟨a, b, t, h1, h2, h3, h4⟩ := f.f
  obtain ⟨_, _, _, _, g2, _, _⟩ := h0
  exact ⟨⟨a, b, t, by rw [upd_ne (Ne.symm n)]; exact h1, s.seq g2, h3, h4⟩, s⟩
theorem FI.new {K : PySem.W.Frag} {H H' : Hp} {l q p : Addr} {ns : List Int} (h0 : Feed K H l q ns) (f : FI K H l q ns H') (h : H' p = none) (o : HO) : FI K H l q ns (upd H' p o) := FI.put h0 f (f.fresh h) o
theorem FI.draw {K : PySem.W.Frag} {H H' H2 : Hp} {l q : Addr} {ns : List Int} (f : FI K H l q ns H') (f2 : Feed K H2 l q ns) (s2 : Same (del H' l) (del H2 l)) : FI K H l q ns H2 := ⟨f2, f.s.trans s2⟩
theorem FI.ref {K : PySem.W.Frag} {H : Hp} {l q : Addr} {ns : List Int} (f : Feed K H l q ns) : FI K H l q ns H := ⟨f, Same.refl _⟩
def spAny (K : PySem.W.Frag) : Sp := fun vs H Q _ => ∃ (l b : Addr) (xs : List V) (q : Addr) (ns : List Int), vs = [.ref l, .ref b] ∧ Feed K H l q ns ∧ SqL K (del H l) b xs ∧ 0 < xs.length ∧ xs.length ≤ 1000 ∧ ∀ (y : V) (H' : Hp), y ∈ xs → Feed K H' l q ns → Same (del H l) (del H' l) → Q y H'
/-- low and high, in a tuple -/
def spBounds (K : PySem.W.Frag) : Sp := fun vs H Q _ => ∃ (l q : Addr) (ns : List Int), vs = [.ref l] ∧ Feed K H l q ns ∧ ∀ (low high : Int) (t : Addr) (H' : Hp), low ≤ 0 → 0 ≤ high → SqT K H' t [.int low, .int high] → Feed K H' l q ns → Same (del H l) (del H' l) → Q (.ref t) H'
section
variable {P : Program} {w : World} {K : PySem.W.Frag} {mg : Str → Option Value} {base : Heap}
theorem ok_any (T : Txt K mg) : FnOk P w K mg base CX0 2 T.f__law_any T.d__law_any ["_law_feed_here", "_law_some_here"] (spAny K) := by
  have nd := sc__law_any.nd
  refine T.F__law_any.ok sc__law_any (fun vs H Q E h => ?_) (fun cdv A outer s H vs Q E hr h => ?_)
  · obtain ⟨l, b, xs, q, ns, rfl, _⟩ := h
    rfl
  obtain ⟨l, b, xs, q, ns, rfl, hf, hb, h0, h1, k⟩ := h
  have G__law_draw : FnOk P w K mg base CX0 1 _ _ _ (spTake K) := ok_draw T
  have hr__law_draw := hr
  refine ⟨_, (pss_one (ps_ret (pe_ix ix_list (pv 1) (pe_call G__law_draw hr__law_draw rfl T.m__law_draw T.k__law_draw T.b__law_draw .nil pass0 (pa_cons (pv 0) (pa_cons (pe_callB call_len_seq (by rfl) T.z_len PySem.boot_len (pa_cons (pv 1) pa_nil)) pa_nil))) (fun _ _ => rfl)))), ?_⟩
  refine ⟨_, rfl, _, rfl, _, rfl, b, xs, rfl, .inl ((del_le H l).seq hb), l, (xs.length : Int), q, ns, rfl, hf, by omega, by omega, fun r H2 r0 r1 f2 k2 => ?_⟩
  obtain ⟨n, rfl⟩ := Int.eq_ofNat_of_zero_le r0
  have hn : n < xs.length := by omega
  refine ⟨b, _, _, _, rfl, rfl, (del_le H2 l).seq (k2.seq hb), atI_nat (List.getElem?_eq_getElem hn), ?_⟩
  exact k _ H2 (List.getElem_mem hn) f2 k2
theorem ok_law_bounds (T : Txt K mg) : FnOk P w K mg base CX0 3 T.f__law_bounds T.d__law_bounds ["_law_feed_here"] (spBounds K) := by
  have nd := sc__law_bounds.nd
  refine T.F__law_bounds.ok sc__law_bounds (fun vs H Q E h => ?_) (fun cdv A outer s H vs Q E hr h => ?_)
  · obtain ⟨l, q, ns, rfl, _⟩ := h
    rfl
  obtain ⟨l, q, ns, rfl, hf, k⟩ := h
  have G__law_any : FnOk P w K mg base CX0 2 _ _ _ (spAny K) := ok_any T
  have hr__law_any := hr
  refine ⟨_, (pss_cons (ps_set (i := 1) nd rfl (Or.inl rfl) (pe_call G__law_any hr__law_any rfl T.m__law_any T.k__law_any T.b__law_any .nil pass0 (pa_cons (pv 0) (pa_cons (pe_lst (pa_cons pe_int (pa_cons (pe_un un_neg pe_int) (pa_cons (pe_un un_neg pe_int) (pa_cons (pe_un un_neg pe_int) (pa_cons (pe_un un_neg pe_int) (pa_cons (pe_un un_neg pe_int) (pa_cons (pe_un un_neg pe_int) (pa_cons (pe_un un_neg pe_int) (pa_cons (pe_un un_neg pe_int) (pa_cons (pe_un un_neg pe_int) pa_nil))))))))))) pa_nil))))
      (pss_one (ps_ret (pe_tup (pa_cons (pv 1) (pa_cons (pe_call G__law_any hr__law_any rfl T.m__law_any T.k__law_any T.b__law_any .nil pass0 (pa_cons (pv 0) (pa_cons (pe_lst (pa_cons pe_int (pa_cons pe_int (pa_cons pe_int (pa_cons pe_int (pa_cons pe_int (pa_cons pe_int (pa_cons pe_int (pa_cons pe_int (pa_cons pe_int (pa_cons (pe_op op_pow pe_int pe_int) pa_nil))))))))))) pa_nil))) pa_nil)))))), ?_⟩
  refine ⟨_, rfl, 1, rfl, 2, rfl, 3, rfl, 4, rfl, 5, rfl, 8, rfl, 8, rfl, 9, rfl, 100, rfl, (by show 10 ≤ sizeLine; decide), fun p hp => ?_⟩
  have f1 := FI.new hf (FI.ref hf) hp (.lst [V.int 0, .int (-1), .int (-2), .int (-3), .int (-4), .int (-5), .int (-8), .int (-8), .int (-9), .int (-100)])
  refine ⟨l, p, _, q, ns, rfl, f1.f, SqL.of (by rw [del_ne (new_ne hf hp)]; exact upd_same), (by show 0 < 10; decide), (by show 10 ≤ 1000; decide), fun y H2 hy g2 k2 => ?_⟩
  obtain ⟨low, rfl, hlow⟩ : ∃ low : Int, y = .int low ∧ low ≤ 0 := by
    simp only [List.mem_cons, List.not_mem_nil, or_false] at hy
    rcases hy with h | h | h | h | h | h | h | h | h | h <;> subst h <;> exact ⟨_, rfl, by decide⟩
  have f2 := f1.draw g2 k2
  refine ⟨_, rfl, _, rfl, _, _, rfl, rfl, ⟨by decide, by decide, by decide⟩, (by show 10 ≤ sizeLine; decide), fun p2 hp2 => ?_⟩
  have f3 := FI.new hf f2 hp2 (.lst [V.int 0, .int 1, .int 2, .int 3, .int 4, .int 5, .int 7, .int 7, .int 8, .int (10 ^ (40 : Int).toNat)])
  refine ⟨l, p2, _, q, ns, rfl, f3.f, SqL.of (by rw [del_ne (new_ne g2 hp2)]; exact upd_same), (by show 0 < 10; decide), (by show 10 ≤ 1000; decide), fun y H3 hy g3 k3 => ?_⟩
  obtain ⟨high, rfl, hhigh⟩ : ∃ high : Int, y = .int high ∧ 0 ≤ high := by
    simp only [List.mem_cons, List.not_mem_nil, or_false] at hy
    rcases hy with h | h | h | h | h | h | h | h | h | h <;> subst h <;> exact ⟨_, rfl, by decide⟩
  have f4 := f3.draw g3 k3
  refine ⟨(by show 2 ≤ sizeLine; decide), fun t ht => ?_⟩
  have f5 := FI.new hf f4 ht (.tup [.int low, .int high])
  exact k low high t _ hlow hhigh (SqT.of upd_same) f5.f f5.s
end
end Lk

set_option Elab.async false
set_option linter.all false
set_option maxRecDepth 100000
set_option maxHeartbeats 4000000
set_option pp.maxSteps 1500
namespace Lk
open PySem PySem.Spec PyProof.Rows L2
/-- a drawn part of some -/
def spSome (K : PySem.W.Frag) : Sp := fun vs H Q _ => ∃ (l b q : Addr) (ns : List Int) (js : List Nat), vs = [.ref l, .ref b] ∧ Feed K H l q ns ∧ SqT K (del H l) b (nV js) ∧ js.length ≤ 2000 ∧
  ∀ (ms : List Nat) (t : Addr) (H' : Hp), ms.Sublist js → SqT K (del H' l) t (nV ms) → FI K H l q ns H' → Q (.ref t) H'
section
variable {P : Program} {w : World} {K : PySem.W.Frag} {mg : Str → Option Value} {base : Heap}
theorem ok_law_some (T : Txt K mg) : FnOk P w K mg base CX0 2 T.f__law_some T.d__law_some ["_law_feed_here", "_law_some_here"] (spSome K) := by
  have nd := sc__law_some.nd
  refine T.F__law_some.ok sc__law_some (fun vs H Q E h => ?_) (fun cdv A outer s H vs Q E hr h => ?_)
  · obtain ⟨l, b, q, ns, js, rfl, _⟩ := h
    rfl
  obtain ⟨l, b, q, ns, js, rfl, hf, hb, hj, k⟩ := h
  have G__law_draw : FnOk P w K mg base CX0 1 _ _ _ (spTake K) := ok_draw T
  have hr__law_draw := hr
  refine ⟨_, (pss_cons (ps_set (i := 2) nd rfl (Or.inr rfl) (pe_call G__law_draw hr__law_draw rfl T.m__law_draw T.k__law_draw T.b__law_draw .nil pass0 (pa_cons (pv 0) (pa_cons pe_int pa_nil))))
      (pss_one (ps_ret (pe_callTy call_tuple_of (by rfl) T.z_tuple (by decide +kernel) (pa_cons (pe_lc (own := [("_law_k", 3)]) (g := gName 3) (by rfl) nd (pi_tup (pv 1)) (blkOk_by (own := [("_law_k", 3)]) (N := sl__law_some) (sc := defScope s__law_some) (by decide +kernel)) (fun _ _ _ _ _ => pg_name (i := 3) nd rfl (Or.inl rfl)) (fun _ _ _ _ _ => (pts_one (pt_cmpR op_gt (pe_call G__law_draw hr__law_draw rfl T.m__law_draw T.k__law_draw T.b__law_draw .nil pass0 (pa_cons (pv 0) (pa_cons pe_int pa_nil))) (pv 2) (nomark _)))) (fun _ _ _ _ _ => (pv 3))) pa_nil))))), ?_⟩
  refine ⟨_, rfl, l, 3, q, ns, rfl, hf, by decide, by decide, fun r H2 r0 r1 g2 k2 => ?_⟩
  have f2 := (FI.ref hf).draw g2 k2
  refine ⟨_, rfl, b, rfl, ⟨_, (del_le H2 l) |> fun e => seqT_same e (seqT_same f2.s hb)⟩, fun D hD => ?_⟩
  have f3 := FI.new hf f2 hD (.lst [])
  refine lc_tup (K := K) (a := b) (xs := nV js) (fun i H' => FI K H l q ns H' ∧ ∃ ms : List Nat, H' D = some (.lst (nV ms)) ∧ ms.Sublist (js.take i)) ?_ ?_ ?_ ?_
  · exact ⟨f3, [], upd_same, List.nil_sublist _⟩
  · rintro i H' _ ⟨f, _⟩
    exact seqT_same (del_le H' l) (seqT_same f.s hb)
  · rintro i z H' hiz ⟨f, ms, eD, hs⟩
    obtain ⟨m, hm, rfl⟩ : ∃ m : Nat, js[i]? = some m ∧ z = .int (m : Int) := by
      unfold nV at hiz
      rw [List.getElem?_map] at hiz
      cases hh : js[i]? with
      | none => rw [hh] at hiz; cases hiz
      | some m => rw [hh] at hiz; exact ⟨m, rfl, (Option.some.inj hiz).symm⟩
    have stp : js.take (i + 1) = js.take i ++ [m] := by rw [List.take_succ, hm]; rfl
    have hms : ms.length ≤ 2000 := by
      have := hs.length_le
      rw [List.length_take] at this
      omega
    have nD := new_ne g2 hD
    refine ⟨rfl, ?_⟩
    refine ⟨_, rfl, l, 4, q, ns, rfl, f.f, by decide, by decide, fun r' H3 _ _ g3 k3 => ?_⟩
    have f4 := f.draw g3 k3
    have eD3 : H3 D = some (.lst (nV ms)) := by
      have := k3 D _ (by rw [del_ne nD]; exact eD)
      rw [del_ne nD] at this
      exact this
    refine ⟨_, rfl, _, _, rfl, rfl, _, rfl, ?_⟩
    refine ite2 (fun c => ?_) (fun c => ?_)
    · refine ⟨_, rfl, _, eD3, by unfold nV; rw [List.length_map]; exact szl (by omega), FI.put hf f4 (f2.fresh hD) _, ms ++ [m], ?_, ?_⟩
      · rw [upd_same]
        unfold nV
        rw [List.map_append]
        rfl
      · rw [stp]
        exact hs.append (List.Sublist.refl _)
    · refine ⟨f4, ms, eD3, ?_⟩
      rw [stp]
      exact hs.trans (List.sublist_append_left _ _)
  · rintro H' ⟨f, ms, eD, hs⟩
    rw [show (nV js).length = js.length from List.length_map _, List.take_length] at hs
    refine ⟨D, _, rfl, .inl ⟨SqL.of eD, fun t ht => ?_⟩⟩
    have f5 := FI.new hf f ht (.tup (nV ms))
    exact k ms t _ hs (SqT.of (by rw [del_ne (new_ne f.f ht)]; exact upd_same)) f5
end
end Lk

set_option Elab.async false
set_option linter.all false
set_option maxRecDepth 100000
set_option maxHeartbeats 4000000
namespace Lk
open PySem PySem.Spec PyProof.Rows L2
/-! ### data that repr tells in few signs -/
mutual
def smB : PyData → Bool
  | .int i => decide (i.natAbs < 10 ^ 41)
  | .str s => decide ((reprText s).length ≤ 20)
  | .list ds => smBs ds
  | .tuple ds => smBs ds
  | .none => true
  | .bool _ => true
  | .dict _ => false
def smBs : List PyData → Bool
  | [] => true
  | d :: ds => smB d && smBs ds
end
mutual
def nodes : PyData → Nat
  | .list ds => 1 + nodesL ds
  | .tuple ds => 1 + nodesL ds
  | _ => 1
def nodesL : List PyData → Nat
  | [] => 0
  | d :: ds => nodes d + nodesL ds
end
theorem wide_log {i : Int} (h : i.natAbs < 10 ^ 41) : i.natAbs.log2 < 1920 := by
  by_cases c : i.natAbs = 0
  · rw [c]; decide
  · have h2 : (10 : Nat) ^ 41 < 2 ^ 137 := by decide
    have := (Nat.log2_lt c).mpr (Nat.lt_trans h h2)
    omega
theorem list_text : ∀ ts : List Str, (listText ts).length ≤ piled ts + 2
  | [] => by decide +kernel
  | t :: ts => by
    have e : listText (t :: ts) = textFrom 1 (("[" : Str) ++ (if 0 > 0 then ", " else "" : String) ++ t) ts ++ "]" := rfl
    have h := textFrom_length_pos ts 1 (("[" : Str) ++ (if 0 > 0 then ", " else "" : String) ++ t) (Nat.succ_pos _)
    have l1 : (("[" : Str) ++ (if 0 > 0 then ", " else "" : String) ++ t).length = 1 + t.length := by
      rw [Str.length_append, Str.length_append]
      rfl
    have l2 : (("]" : Str)).length = 1 := rfl
    rw [e, Str.length_append, h, l1, piled_cons, l2]
    omega
mutual
theorem few_signs : ∀ d : PyData, smB d = true → d.showable = true ∧ d.hasDict = false ∧ d.shown.length + 2 ≤ 48 * nodes d
  | .int i, h => by
    have h1 : i.natAbs < 10 ^ 41 := of_decide_eq_true h
    refine ⟨decide_eq_true (wide_log h1), rfl, ?_⟩
    show (Str.ofString (toString i)).length + 2 ≤ 48 * 1
    rw [PySem.ofString_length]
    have := int_text_length_le10 (a := i) (k := 41) (by decide) h1
    omega
  | .str s, h => by
    have := of_decide_eq_true h
    exact ⟨rfl, rfl, by show (reprText s).length + 2 ≤ 48 * 1; omega⟩
  | .none, _ => ⟨rfl, rfl, by decide +kernel⟩
  | .bool true, _ => ⟨rfl, rfl, by decide +kernel⟩
  | .bool false, _ => ⟨rfl, rfl, by decide +kernel⟩
  | .dict _, h => nomatch h
  | .list ds, h => by
    obtain ⟨a, b, c⟩ := few_signsL ds h
    refine ⟨a, b, ?_⟩
    have := list_text (PyData.shownAll ds)
    show (listText (PyData.shownAll ds)).length + 2 ≤ 48 * (1 + nodesL ds)
    omega
  | .tuple ds, h => by
    obtain ⟨a, b, c⟩ := few_signsL ds h
    refine ⟨a, b, ?_⟩
    have := fmt_text (PyData.shownAll ds)
    show (tupleText (PyData.shownAll ds)).length + 2 ≤ 48 * (1 + nodesL ds)
    omega
theorem few_signsL : ∀ ds : List PyData, smBs ds = true → PyData.showableAll ds = true ∧ PyData.hasDictAll ds = false ∧ piled (PyData.shownAll ds) ≤ 48 * nodesL ds
  | [], _ => ⟨rfl, rfl, Nat.le_refl _⟩
  | d :: ds, h => by
    obtain ⟨h1, h2⟩ := Bool.and_eq_true_iff.mp h
    obtain ⟨a1, b1, c1⟩ := few_signs d h1
    obtain ⟨a2, b2, c2⟩ := few_signsL ds h2
    refine ⟨?_, ?_, ?_⟩
    · show (d.showable && PyData.showableAll ds) = true
      rw [a1, a2]; rfl
    · show (d.hasDict || PyData.hasDictAll ds) = false
      rw [b1, b2]; rfl
    · show piled (d.shown :: PyData.shownAll ds) ≤ 48 * (nodes d + nodesL ds)
      rw [piled_cons]
      omega
end
/-- repr can be asked -/
structure Rp (d : PyData) : Prop where
  i : isDisplay d = true
  s : smB d = true
  n : nodes d ≤ 300000
  d : d.depth ≤ 100
theorem smBs_map {α : Type} {f : α → PyData} : ∀ {l : List α}, (∀ x ∈ l, smB (f x) = true) → smBs (l.map f) = true
  | [], _ => rfl
  | x :: l, h => by
    show (smB (f x) && smBs (l.map f)) = true
    rw [h x List.mem_cons_self, smBs_map fun y m => h y (List.mem_cons_of_mem _ m)]; rfl
theorem nodesL_map {α : Type} {f : α → PyData} {k : Nat} : ∀ {l : List α}, (∀ x ∈ l, nodes (f x) ≤ k) → nodesL (l.map f) ≤ k * l.length
  | [], _ => Nat.zero_le _
  | x :: l, h => by
    show nodes (f x) + nodesL (l.map f) ≤ k * (l.length + 1)
    have h1 := h x List.mem_cons_self
    have h2 := nodesL_map (k := k) fun y m => h y (List.mem_cons_of_mem _ m)
    rw [Nat.mul_add]
    omega
theorem depthAll_map {α : Type} {f : α → PyData} {k : Nat} : ∀ {l : List α}, (∀ x ∈ l, (f x).depth ≤ k) → PyData.depthAll (l.map f) ≤ k
  | [], _ => Nat.zero_le _
  | x :: l, h => by
    show max (f x).depth (PyData.depthAll (l.map f)) ≤ k
    have h1 := h x List.mem_cons_self
    have h2 := depthAll_map (k := k) fun y m => h y (List.mem_cons_of_mem _ m)
    omega
theorem smBs_all : ∀ {l : List PyData}, (∀ x ∈ l, smB x = true) → smBs l = true := fun {l} h => by
  have := smBs_map (f := id) (l := l) h
  rwa [List.map_id] at this
theorem nodesL_all {k : Nat} {l : List PyData} (h : ∀ x ∈ l, nodes x ≤ k) : nodesL l ≤ k * l.length := by
  have := nodesL_map (f := id) (l := l) h
  rwa [List.map_id] at this
theorem depthAll_all {k : Nat} {l : List PyData} (h : ∀ x ∈ l, x.depth ≤ k) : PyData.depthAll l ≤ k := by
  have := depthAll_map (f := id) (l := l) h
  rwa [List.map_id] at this
def rReprR (K : PySem.W.Frag) : List V → Hp → VK → Prop := fun xs H Q => ∃ (x : V) (d : PyData), xs = [x] ∧ Dp K H x d ∧ Rp d ∧ Q (.str d.shown) H
theorem call_reprR {X : Cx} (gu : X.A.guards = some []) (hu : X.A.units + 200 < cLine) : CallR X (.builtin "repr") (rReprR X.K) := by
  intro pins s σ H xs us Q I r h
  obtain ⟨x, d, e, hd, R, q⟩ := h
  obtain ⟨a, b, c⟩ := few_signs d R.s
  refine call_reprD gu hu pins s σ H xs us Q I r ⟨x, d, e, hd, R.i, a, b, R.d, ?_, q⟩
  have := R.n
  have : sizeLine = 16777216 := by decide
  omega
end Lk

set_option Elab.async false
set_option linter.all false
set_option maxRecDepth 100000
set_option pp.maxSteps 1500
set_option maxHeartbeats 4000000
namespace Lk
open PySem PySem.Spec PyProof.Rows L2
def spSame (K : PySem.W.Frag) : Sp := fun vs H Q _ => ∃ (x y : V) (d : PyData), vs = [x, y] ∧ Dp K H x d ∧ Dp K H y d ∧ Rp d ∧ Q (.bl true) H
section
variable {P : Program} {w : World} {K : PySem.W.Frag} {mg : Str → Option Value} {base : Heap}
theorem ok_same (T : Txt K mg) : FnG P w K mg base CX0 1 T.f__law_same T.d__law_same ["_law_told", "_law_due"] (spSame K) := by
  have nd := sc__law_same.nd
  refine okG T.F__law_same sc__law_same (fun vs H Q E h => ?_) (fun cdv A outer s H vs Q E gu0 hr h => ?_)
  · obtain ⟨x, y, d, rfl, _⟩ := h
    rfl
  obtain ⟨x, y, d, rfl, hx, hy, hr', k⟩ := h
  have gu : (A.deeper (envOfC "_law_same" (defScope s__law_same) s.heap.objs.size T.f__law_same cdv)).guards = some [] := gu0
  have hu2 : (A.deeper (envOfC "_law_same" (defScope s__law_same) s.heap.objs.size T.f__law_same cdv)).units + 200 < cLine := by have := hr.un; omega
  refine ⟨_, (pss_one (ps_ret (pe_cmpR op_eq (pe_callB (call_reprR gu hu2) (by rfl) T.z_repr (by decide +kernel) (pa_cons (pv 0) pa_nil)) (pe_callB (call_reprR gu hu2) (by rfl) T.z_repr (by decide +kernel) (pa_cons (pv 1) pa_nil)) (nomark _)))), ?_⟩
  refine ⟨_, rfl, x, d, rfl, hx, hr', _, rfl, y, d, rfl, hy, hr', rfl, ?_⟩
  rw [decide_eq_true rfl]
  exact k
end
end Lk

set_option Elab.async false
set_option linter.all false
set_option maxRecDepth 100000
set_option maxHeartbeats 1000000
namespace Lk
open PySem PySem.Spec PyProof.Rows L2
/-! ### the least choice holds, and lies in each one that holds -/
def Pos (ts : List Th) : Prop := ∀ i n, ts.getD i (.len 0) = .len n → 0 ≤ n
theorem leastN_holds {ts : List Th} {low high : Int} : ∀ {n : Nat} {cs : List Nat}, cs.Nodup → (∀ i ∈ cs, i < ts.length) → ts.length + 1 ≤ n + cs.length → farL (leastN ts low high n cs) ts low high = []
  | 0, cs, h1, h2, h3 => by
    have := few_nat h1 h2
    omega
  | n + 1, cs, h1, h2, h3 => by
    unfold leastN
    cases e : farL cs ts low high with
    | nil => exact e
    | cons f fs =>
      refine leastN_holds (n := n) ?_ ?_ ?_
      · rw [← e]
        exact List.nodup_append.mpr ⟨h1, farL_nodup .., fun a ma b mb q => (farL_mem mb).2 (q ▸ ma)⟩
      · intro i m
        rw [← e] at m
        exact (List.mem_append.mp m).elim (h2 i) fun h => (farL_mem h).1
      · rw [List.length_append, List.length_cons]; omega
theorem least_holds (ts : List Th) (low high : Int) : farL (leastL ts low high) ts low high = [] := leastN_holds List.nodup_nil (fun _ m => nomatch m) (Nat.le_refl _)
theorem lenT_mono {cs ds : List Nat} (h : ∀ i ∈ cs, i ∈ ds) (k : Nat) (t : Th) : lenT cs k t ≤ lenT ds k t := by
  cases t with
  | len n => exact Int.le_refl _
  | jmp t =>
    show 1 + (if k ∈ cs then (1 : Int) else 0) ≤ 1 + (if k ∈ ds then (1 : Int) else 0)
    by_cases c : k ∈ cs
    · rw [if_pos c, if_pos (h k c)]; exact Int.le_refl _
    · rw [if_neg c]
      by_cases d : k ∈ ds
      · rw [if_pos d]; omega
      · rw [if_neg d]; exact Int.le_refl _
theorem lenT_pos {cs : List Nat} {ts : List Th} (hp : Pos ts) (k : Nat) : 0 ≤ lenT cs k (ts.getD k (.len 0)) := by
  cases e : ts.getD k (.len 0) with
  | len n => exact hp k n e
  | jmp t =>
    show 0 ≤ 1 + (if k ∈ cs then (1 : Int) else 0)
    by_cases c : k ∈ cs
    · rw [if_pos c]; decide
    · rw [if_neg c]; decide
theorem addr_mono {cs ds : List Nat} {ts : List Th} (hp : Pos ts) (h : ∀ i ∈ cs, i ∈ ds) (i : Nat) : ∀ k, 0 ≤ addrAt cs ts (i + k) - addrAt cs ts i ∧ addrAt cs ts (i + k) - addrAt cs ts i ≤ addrAt ds ts (i + k) - addrAt ds ts i
  | 0 => by rw [Nat.add_zero]; omega
  | k + 1 => by
    obtain ⟨h1, h2⟩ := addr_mono hp h i k
    have e1 : addrAt cs ts (i + (k + 1)) = addrAt cs ts (i + k) + lenT cs (i + k) (ts.getD (i + k) (.len 0)) := rfl
    have e2 : addrAt ds ts (i + (k + 1)) = addrAt ds ts (i + k) + lenT ds (i + k) (ts.getD (i + k) (.len 0)) := rfl
    have p1 := lenT_pos (cs := cs) hp (i + k)
    have p2 := lenT_mono h (i + k) (ts.getD (i + k) (.len 0))
    omega
theorem out_mono {cs ds : List Nat} {ts : List Th} {low high : Int} (hp : Pos ts) (hl : low ≤ 0) (hh : 0 ≤ high) (h : ∀ i ∈ cs, i ∈ ds) {i : Nat} (o : outOf cs ts low high i = true) : outOf ds ts low high i = true := by
  unfold outOf at o ⊢
  cases e : ts.getD i (.len 0) with
  | len n => rw [e] at o; cases o
  | jmp t =>
    rw [e] at o
    show (decide (addrAt ds ts t - addrAt ds ts i < low) || decide (addrAt ds ts t - addrAt ds ts i > high)) = true
    have o' : (decide (addrAt cs ts t - addrAt cs ts i < low) || decide (addrAt cs ts t - addrAt cs ts i > high)) = true := o
    rw [Bool.or_eq_true, decide_eq_true_iff, decide_eq_true_iff] at o' ⊢
    rcases Nat.le_total i t with q | q
    · obtain ⟨k, rfl⟩ := Nat.exists_eq_add_of_le q
      have := addr_mono hp h i k
      omega
    · obtain ⟨k, rfl⟩ := Nat.exists_eq_add_of_le q
      have := addr_mono hp h t k
      omega
theorem far_in {cs ds : List Nat} {ts : List Th} {low high : Int} (hp : Pos ts) (hl : low ≤ 0) (hh : 0 ≤ high) (h : ∀ i ∈ cs, i ∈ ds) (hd : farL ds ts low high = []) : ∀ i ∈ farL cs ts low high, i ∈ ds := fun i m => by
  rw [farL_out] at m hd
  obtain ⟨m1, _⟩ := List.mem_filter.mp m
  obtain ⟨m3, m4⟩ := List.mem_filter.mp m1
  have o := out_mono hp hl hh h m4
  have mo : i ∈ outL ds ts low high := List.mem_filter.mpr ⟨m3, o⟩
  have := List.filter_eq_nil_iff.mp hd i mo
  by_cases c : i ∈ ds
  · exact c
  · exact absurd (by rw [decide_eq_false c]; rfl) this
theorem leastN_in {ds : List Nat} {ts : List Th} {low high : Int} (hp : Pos ts) (hl : low ≤ 0) (hh : 0 ≤ high) (hd : farL ds ts low high = []) : ∀ {n : Nat} {cs : List Nat}, (∀ i ∈ cs, i ∈ ds) → ∀ i ∈ leastN ts low high n cs, i ∈ ds
  | 0, cs, h => h
  | n + 1, cs, h => by
    unfold leastN
    cases e : farL cs ts low high with
    | nil => exact h
    | cons f fs =>
      refine leastN_in hp hl hh hd (n := n) fun i m => ?_
      rw [← e] at m
      exact (List.mem_append.mp m).elim (h i) (far_in hp hl hh h hd i)
theorem least_in {ds : List Nat} {ts : List Th} {low high : Int} (hp : Pos ts) (hl : low ≤ 0) (hh : 0 ≤ high) (hd : farL ds ts low high = []) : ∀ i ∈ leastL ts low high, i ∈ ds := leastN_in hp hl hh hd fun _ m => nomatch m
end Lk

set_option Elab.async false
set_option linter.all false
set_option maxRecDepth 100000
set_option maxHeartbeats 4000000
set_option pp.maxSteps 1500
namespace Lk
open PySem PySem.Spec PyProof.Rows L2
/-- drawn things: of so many, and their jumps at most so many -/
structure DrT (ts : List Th) (n m : Nat) : Prop where
  len : ts.length = n
  good : ∀ i t, ts.getD i (.len 0) = .jmp t → t ≤ n
  pos : ∀ i k, ts.getD i (.len 0) = .len k → 0 ≤ k ∧ k ≤ 10 ^ 30
  few : (jmps ts).length ≤ m
/-- a list of things, filled while draws go on -/
structure UT (K : PySem.W.Frag) (H : Hp) (l p : Addr) (ts : List Th) : Prop where
  ne : p ≠ l
  ex : ∃ xs, H p = some (.lst xs) ∧ DpAll K (del (del H l) p) xs (ts.map Th.d)
theorem UT.draw {K : PySem.W.Frag} {H H' : Hp} {l p : Addr} {ts : List Th} (u : UT K H l p ts) (e : Same (del H l) (del H' l)) : UT K H' l p ts := by
  obtain ⟨n, xs, h1, h2⟩ := u
  exact ⟨n, xs, Same.off e n h1, dpAll_same (same_del p e) h2⟩
theorem UT.new {K : PySem.W.Frag} {H : Hp} {l p a : Addr} {ts : List Th} (u : UT K H l p ts) (h : H a = none) (o : HO) : UT K (upd H a o) l p ts := u.draw (same_del l (same_new h o))
theorem del_comm (H : Hp) (a b : Addr) : del (del H a) b = del (del H b) a := by
  funext c
  by_cases h1 : c = a
  · subst h1
    by_cases h2 : c = b
    · subst h2; rw [del_same]
    · rw [del_ne h2, del_same, del_same]
  · by_cases h2 : c = b
    · subst h2; rw [del_same, del_ne h1, del_same]
    · rw [del_ne h2, del_ne h1, del_ne h1, del_ne h2]
theorem UT.put {K : PySem.W.Frag} {H : Hp} {l p : Addr} {ts : List Th} {t : Th} {xs : List V} {v : V} (u : UT K H l p ts) (h1 : H p = some (.lst xs)) (hv : Dp K (del (del H l) p) v t.d) : UT K (upd H p (.lst (xs ++ [v]))) l p (ts ++ [t]) := by
  obtain ⟨n, ys, g1, g2⟩ := u
  rw [h1] at g1
  obtain rfl := HO.lst.inj (Option.some.inj g1)
  refine ⟨n, _, upd_same, ?_⟩
  rw [del_comm, del_upd, del_comm, List.map_append]
  exact dpAll_app g2 hv
theorem getD_snoc {ts : List Th} {t : Th} {i : Nat} : (ts ++ [t]).getD i (.len 0) = if i < ts.length then ts.getD i (.len 0) else if i = ts.length then t else .len 0 := by
  rw [List.getD_eq_getElem?_getD, List.getD_eq_getElem?_getD]
  by_cases h : i < ts.length
  · rw [if_pos h, List.getElem?_append_left h]
  · rw [if_neg h, List.getElem?_append_right (by omega)]
    by_cases e : i = ts.length
    · rw [if_pos e, e, Nat.sub_self]; rfl
    · rw [if_neg e]
      obtain ⟨k, hk⟩ : ∃ k, i - ts.length = k + 1 := ⟨i - ts.length - 1, by omega⟩
      rw [hk]; rfl
theorem jmps_snoc (ts : List Th) (t : Th) : jmps (ts ++ [t]) = jmps ts ++ (if t.isJ then [ts.length] else []) := by
  unfold jmps
  rw [List.length_append, List.length_singleton, jmpsTo_snoc, getD_snoc, if_neg (Nat.lt_irrefl _), if_pos rfl]
  congr 1
  unfold jmpsTo
  refine List.filter_congr fun i m => ?_
  rw [getD_snoc, if_pos (List.mem_range.mp m)]
/-- of things drawn so far -/
structure DrI (ts : List Th) (i n m : Nat) : Prop where
  len : ts.length = i
  good : ∀ i t, ts.getD i (.len 0) = .jmp t → t ≤ n
  pos : ∀ i k, ts.getD i (.len 0) = .len k → 0 ≤ k ∧ k ≤ 10 ^ 30
  few : (jmps ts).length ≤ m
theorem DrI.nil (n m : Nat) : DrI [] 0 n m := ⟨rfl, (fun _ _ e => nomatch e), (fun i k e => by
  have : (Th.len 0) = .len k := e
  cases this
  exact ⟨Int.le_refl _, by decide⟩), Nat.zero_le _⟩
theorem DrI.snocL {ts : List Th} {i n m : Nat} (d : DrI ts i n m) {k : Int} (h0 : 0 ≤ k) (h1 : k ≤ 10 ^ 30) : DrI (ts ++ [.len k]) (i + 1) n m := by
  refine ⟨by rw [List.length_append, d.len]; rfl, fun j t e => ?_, fun j k' e => ?_, ?_⟩
  · rw [getD_snoc] at e
    split at e
    · exact d.good j t e
    · split at e <;> cases e
  · rw [getD_snoc] at e
    split at e
    · exact d.pos j k' e
    · split at e
      · cases e; exact ⟨h0, h1⟩
      · cases e; exact ⟨Int.le_refl _, by decide⟩
  · rw [jmps_snoc]
    show (jmps ts ++ []).length ≤ m
    rw [List.append_nil]; exact d.few
theorem DrI.snocJ {ts : List Th} {i n m : Nat} (d : DrI ts i n m) {t : Nat} (h : t ≤ n) (hm : (jmps ts).length < m) : DrI (ts ++ [.jmp t]) (i + 1) n m := by
  refine ⟨by rw [List.length_append, d.len]; rfl, fun j t' e => ?_, fun j k' e => ?_, ?_⟩
  · rw [getD_snoc] at e
    split at e
    · exact d.good j t' e
    · split at e
      · cases e; exact h
      · cases e
  · rw [getD_snoc] at e
    split at e
    · exact d.pos j k' e
    · split at e
      · cases e
      · cases e; exact ⟨Int.le_refl _, by decide⟩
  · rw [jmps_snoc]
    show (jmps ts ++ [ts.length]).length ≤ m
    rw [List.length_append, List.length_singleton]; omega
theorem seq_mid {t1 t2 : TS} {D : Ends} {σ : L2.St} {H : Hp} (I : L2.St → Hp → Prop) (hI : ∀ σ' H', I σ' H' → t2 D σ' H') (h : ∀ nx : L2.St → Hp → Prop, (∀ σ' H', I σ' H' → nx σ' H') → t1 { D with nx := nx } σ H) : tSeq t1 t2 D σ H := h _ hI
def spThings (K : PySem.W.Frag) : Sp := fun vs H Q _ => ∃ (l q : Addr) (ns : List Int) (n m : Nat), vs = [.ref l, .int (n : Int), .int (m : Int)] ∧ Feed K H l q ns ∧ n ≤ 1000 ∧ m ≤ 1000 ∧
  ∀ (ts : List Th) (t : Addr) (H' : Hp), DrT ts n m → Dp K (del H' l) (.ref t) (.tuple (ts.map Th.d)) → FI K H l q ns H' → Q (.ref t) H'
section
variable {P : Program} {w : World} {K : PySem.W.Frag} {mg : Str → Option Value} {base : Heap}
theorem ok_law_things (T : Txt K mg) : FnOk P w K mg base CX0 3 T.f__law_things T.d__law_things ["_law_feed_here", "_law_many", "_law_most"] (spThings K) := by
  have nd := sc__law_things.nd
  refine T.F__law_things.ok sc__law_things (fun vs H Q E h => ?_) (fun cdv A outer s H vs Q E hr h => ?_)
  · obtain ⟨l, q, ns, n, m, rfl, _⟩ := h
    rfl
  obtain ⟨l, q, ns, n, m, rfl, hf, hn, hm, k⟩ := h
  have G__law_any : FnOk P w K mg base CX0 2 _ _ _ (spAny K) := ok_any T
  have hr__law_any := hr
  have G__law_draw : FnOk P w K mg base CX0 1 _ _ _ (spTake K) := ok_draw T
  have hr__law_draw := hr.mono (j := 1) (by omega)
  refine ⟨_, (pss_cons (ps_par3 (i := 3) (j := 4) (l := 5) rfl nd rfl rfl rfl (by decide) (by decide) (by decide) rfl rfl rfl (pa_cons (pe_lst pa_nil) (pa_cons pe_int (pa_cons (pe_call G__law_draw hr__law_draw rfl T.m__law_draw T.k__law_draw T.b__law_draw .nil pass0 (pa_cons (pv 0) (pa_cons pe_int pa_nil))) pa_nil))) (by rfl))
      (pss_cons (ps_for PassesOwn.never rfl (pi_range1 (by rfl) T.z_range (pa_cons (pv 1) pa_nil)) (pg_name (i := 6) nd rfl (Or.inl rfl))
      (pss_one (ps_if (PW.pt (pw_and (pt_cmpR op_lt (pv 4) (pv 2) (nomark _)) (pw_and1 (pt_cmpR op_gt (pe_call G__law_draw hr__law_draw rfl T.m__law_draw T.k__law_draw T.b__law_draw .nil pass0 (pa_cons (pv 0) (pa_cons pe_int pa_nil))) pe_int (nomark _))))) (pss_cons (ps_set (i := 4) nd rfl (Or.inl rfl) (pe_op op_add (pv 4) pe_int))
      (pss_cons (ps_set (i := 7) nd rfl (Or.inl rfl) (pe_call G__law_draw hr__law_draw rfl T.m__law_draw T.k__law_draw T.b__law_draw .nil pass0 (pa_cons (pv 0) (pa_cons (pe_op op_add (pv 1) pe_int) pa_nil))))
      (pss_cons (ps_if (pt_cmpR op_gt (pv 5) pe_int (nomark _)) (pss_one (ps_set (i := 7) nd rfl (Or.inl rfl) (pe_callB (call_min2 rfl) (by rfl) T.z_min (by decide +kernel) (pa_cons (pv 1) (pa_cons (pe_callB (call_max2 rfl) (by rfl) T.z_max (by decide +kernel) (pa_cons pe_int (pa_cons (pe_op op_add (pv 6) (pe_call G__law_any hr__law_any rfl T.m__law_any T.k__law_any T.b__law_any .nil pass0 (pa_cons (pv 0) (pa_cons (pe_lst (pa_cons pe_int (pa_cons pe_int (pa_cons pe_int (pa_cons pe_int (pa_cons pe_int (pa_cons (pe_un un_neg pe_int) (pa_cons (pe_un un_neg pe_int) (pa_cons (pe_un un_neg pe_int) (pa_cons pe_int (pa_cons pe_int pa_nil))))))))))) pa_nil)))) pa_nil))) pa_nil))))) pss_nil)
      (pss_one (ps_expr (pe_bm PySem.F.plainAttrs_list PySem.F.slot_list_append PySem.F.type_list_append mt_append (pv 3) (pa_cons (pe_tup (pa_cons pe_str (pa_cons (pv 7) pa_nil))) pa_nil))))))) (pss_one (ps_expr (pe_bm PySem.F.plainAttrs_list PySem.F.slot_list_append PySem.F.type_list_append mt_append (pv 3) (pa_cons (pe_call G__law_any hr__law_any rfl T.m__law_any T.k__law_any T.b__law_any .nil pass0 (pa_cons (pv 0) (pa_cons (pe_lst (pa_cons pe_int (pa_cons pe_int (pa_cons pe_int (pa_cons pe_int (pa_cons pe_int (pa_cons pe_int (pa_cons pe_int (pa_cons pe_int (pa_cons pe_int (pa_cons (pe_op op_mul (pe_op op_pow pe_int pe_int) (pe_callTy call_int1 (by rfl) T.z_int (by decide +kernel) (pa_cons (pe_cmpR op_eq (pv 5) pe_int (nomark _)) pa_nil))) pa_nil))))))))))) pa_nil))) pa_nil)))))))
      (pss_one (ps_ret (pe_callTy call_tuple_of (by rfl) T.z_tuple (by decide +kernel) (pa_cons (pv 3) pa_nil)))))), ?_⟩
  refine ⟨(by show 0 ≤ sizeLine; decide), fun p hp => ?_⟩
  have f0 := FI.new hf (FI.ref hf) hp (.lst [])
  refine ⟨_, rfl, l, 4, q, ns, rfl, f0.f, by decide, by decide, fun way H1 w0 w1 g1 k1 => ?_⟩
  have f1 := f0.draw g1 k1
  have npl := new_ne hf hp
  have up : Same (del (upd H p (.lst [])) l) (del H1 l) := k1
  have u1 : UT K H1 l p [] := ⟨npl, [], Same.off up npl upd_same, .nil⟩
  refine ⟨_, _, _, rfl, ?_⟩
  refine ⟨_, rfl, (n : Int), rfl, by omega, by omega, ?_⟩
  have hp0 : H p = none := hp
  refine for_range (lo := 0) (n := (n : Int).toNat) (fun i σ H' => ∃ (ts : List Th) (o6 o7 : Option V), σ = [some (.ref l), some (.int (n : Int)), some (.int (m : Int)), some (.ref p), some (.int ((jmps ts).length : Int)), some (.int way), o6, o7] ∧ FI K H l q ns H' ∧ UT K H' l p ts ∧ DrI ts i n m) ?_ ?_ ?_
  · exact ⟨[], none, none, rfl, f1, u1, DrI.nil n m⟩
  · rintro i σ H2 hi ⟨ts, o6, o7, rfl, f2, u2, dr⟩
    rw [Int.zero_add]
    have put : ∀ (H3 : Hp) (y : V) (th : Th), FI K H l q ns H3 → UT K H3 l p ts → (∀ xs, H3 p = some (.lst xs) → Dp K (del (del H3 l) p) y th.d) → DrI (ts ++ [th]) (i + 1) n m → ∀ (jc : Int), jc = ((jmps (ts ++ [th])).length : Int) → ∀ (a b : Option V),
        ∃ xs, H3 p = some (.lst xs) ∧ xs.length < sizeLine ∧ ∃ (ts : List Th) (o6 o7 : Option V), [some (V.ref l), some (.int (n : Int)), some (.int (m : Int)), some (.ref p), some (.int jc), some (.int way), a, b] = [some (V.ref l), some (.int (n : Int)), some (.int (m : Int)), some (.ref p), some (.int ((jmps ts).length : Int)), some (.int way), o6, o7] ∧ FI K H l q ns (upd H3 p (.lst (xs ++ [y]))) ∧ UT K (upd H3 p (.lst (xs ++ [y]))) l p ts ∧ DrI ts (i + 1) n m := by
      intro H3 y th f3 u3 hy d3 jc hj a b
      obtain ⟨xs, h1, h2⟩ := u3.ex
      have hl := dp_len h2
      rw [List.length_map, dr.len] at hl
      subst hj
      exact ⟨xs, h1, by rw [hl]; exact szl (by omega), ts ++ [th], a, b, rfl, FI.put hf f3 hp0 _, UT.put u3 h1 (hy xs h1), d3⟩
    refine ⟨_, rfl, _, rfl, _, _, rfl, rfl, _, rfl, ?_⟩
    refine ite2 (fun c1 => ?_) (fun c1 => ?_)
    · refine ⟨_, rfl, l, 3, q, ns, rfl, f2.f, by decide, by decide, fun r H3 r0 r1 g3 k3 => ?_⟩
      have f3 := f2.draw g3 k3
      have u3 := u2.draw k3
      refine ⟨_, _, rfl, rfl, _, rfl, ?_⟩
      refine ite2 (fun c2 => ?_) (fun c2 => ?_)
      · refine ⟨_, rfl, _, _, rfl, rfl, ?_⟩
        refine ⟨_, rfl, _, rfl, _, _, rfl, rfl, l, ((n : Int) + 1), q, ns, rfl, f3.f, by omega, by omega, fun to H4 to0 to1 g4 k4 => ?_⟩
        have f4 := f3.draw g4 k4
        have u4 := u3.draw k4
        have cm : (jmps ts).length < m := by have := of_decide_eq_true c1; omega
        obtain ⟨t0, rfl⟩ := Int.eq_ofNat_of_zero_le to0
        dsimp only [gName]
        refine seq_mid (t1 := tIfS _ _ _) (fun σ' H' => ∃ t : Nat, σ' = [some (V.ref l), some (.int (n : Int)), some (.int (m : Int)), some (.ref p), some (.int (((jmps ts).length : Int) + 1)), some (.int way), some (.int (i : Int)), some (.int (t : Int))] ∧ t ≤ n ∧ FI K H l q ns H' ∧ UT K H' l p ts) ?_ ?_
        · rintro σ' H5 ⟨t, rfl, ht, f5, u5⟩
          obtain ⟨xs, h1, h2⟩ := u5.ex
          refine ⟨_, rfl, .inl ⟨rfl, _, SqL.of h1⟩, ?_⟩
          refine ⟨_, rfl, (by show 2 ≤ sizeLine; decide), fun a ha => ?_⟩
          have nal := new_ne f5.f ha
          have nap : a ≠ p := fun z => by rw [z, h1] at ha; cases ha
          obtain ⟨xs', w1, w2, w3⟩ := put (upd H5 a (.tup [.str "jump", .int (t : Int)])) (.ref a) (.jmp t) (FI.new hf f5 ha _) (u5.new ha _) (fun _ _ => .tup (SqT.of (by rw [del_ne nap, del_ne nal]; exact upd_same)) (.cons (.str _) (.cons (.int _) .nil))) (dr.snocJ ht cm) (((jmps ts).length : Int) + 1) (by rw [jmps_snoc]; show _ = (((jmps ts ++ [ts.length]).length : Nat) : Int); rw [List.length_append, List.length_singleton]; omega) (some (.int (i : Int))) (some (.int (t : Int)))
          exact ⟨p, xs', _, rfl, rfl, w1, w2, w3⟩
        · intro nx hnx
          refine ⟨_, rfl, _, _, rfl, rfl, _, rfl, ?_⟩
          refine ite2 (fun c3 => ?_) (fun c3 => ?_)
          · refine ⟨_, rfl, _, rfl, _, rfl, 1, rfl, 2, rfl, 3, rfl, (by show 10 ≤ sizeLine; decide), fun a ha => ?_⟩
            have f5 := FI.new hf f4 ha (.lst [V.int 1, .int 2, .int 3, .int 4, .int 5, .int (-1), .int (-2), .int (-3), .int 0, .int 6])
            have u5 := u4.new ha (.lst [V.int 1, .int 2, .int 3, .int 4, .int 5, .int (-1), .int (-2), .int (-3), .int 0, .int 6])
            refine ⟨l, a, _, q, ns, rfl, f5.f, SqL.of (by rw [del_ne (new_ne f4.f ha)]; exact upd_same), (by show 0 < 10; decide), (by show 10 ≤ 1000; decide), fun y H6 hy g6 k6 => ?_⟩
            obtain ⟨v, rfl⟩ : ∃ v : Int, y = .int v := by
              simp only [List.mem_cons, List.not_mem_nil, or_false] at hy
              rcases hy with h | h | h | h | h | h | h | h | h | h <;> exact ⟨_, h⟩
            refine ⟨_, _, rfl, rfl, _, _, rfl, _, _, rfl, ?_⟩
            obtain ⟨t, ht, hle⟩ : ∃ t : Nat, (if (if (i : Int) + v > 0 then (i : Int) + v else 0) < (n : Int) then (if (i : Int) + v > 0 then (i : Int) + v else 0) else (n : Int)) = (t : Int) ∧ t ≤ n := by
              by_cases q1 : (i : Int) + v > 0
              · rw [if_pos q1]
                by_cases q2 : (i : Int) + v < (n : Int)
                · rw [if_pos q2]; exact ⟨((i : Int) + v).toNat, by omega, by omega⟩
                · rw [if_neg q2]; exact ⟨n, rfl, Nat.le_refl _⟩
              · rw [if_neg q1]
                by_cases q2 : (0 : Int) < (n : Int)
                · rw [if_pos q2]; exact ⟨0, rfl, Nat.zero_le _⟩
                · rw [if_neg q2]; exact ⟨n, rfl, Nat.le_refl _⟩
            exact hnx _ _ ⟨t, by rw [← ht]; rfl, hle, f5.draw g6 k6, u5.draw k6⟩
          · exact hnx _ _ ⟨t0, rfl, by have : (Int.ofNat t0) = (t0 : Int) := rfl; omega, f4, u4⟩
      · obtain ⟨xs, h1, h2⟩ := u3.ex
        refine ⟨_, rfl, .inl ⟨rfl, _, SqL.of h1⟩, ?_⟩
        refine ⟨_, rfl, ?_⟩
        refine ⟨_, _, rfl, rfl, ⟨by decide, by decide, by decide⟩, _, rfl, rfl, .inr ⟨_, rfl, ?_⟩⟩
        have bit : ∀ b : Bool, (0 : Int) ≤ 10 ^ (30 : Int).toNat * (if b = true then 1 else 0) ∧ (10 : Int) ^ (30 : Int).toNat * (if b = true then 1 else 0) ≤ 10 ^ 30 := by decide
        generalize hb : decide (V.int way = V.int 0) = bw
        refine ⟨_, _, rfl, rfl, ?_, (by show 10 ≤ sizeLine; decide), fun a ha => ?_⟩
        · cases bw <;> exact .inr ⟨by decide, by decide⟩
        have f4 := FI.new hf f3 ha (.lst [V.int 0, .int 1, .int 1, .int 2, .int 2, .int 3, .int 7, .int 8, .int 1, .int (10 ^ (30 : Int).toNat * (if bw = true then 1 else 0))])
        have u4 := u3.new ha (.lst [V.int 0, .int 1, .int 1, .int 2, .int 2, .int 3, .int 7, .int 8, .int 1, .int (10 ^ (30 : Int).toNat * (if bw = true then 1 else 0))])
        refine ⟨l, a, _, q, ns, rfl, f4.f, SqL.of (by rw [del_ne (new_ne f3.f ha)]; exact upd_same), (by show 0 < 10; decide), (by show 10 ≤ 1000; decide), fun y H4 hy g4 k4 => ?_⟩
        obtain ⟨v, rfl, v0, v1⟩ : ∃ v : Int, y = .int v ∧ 0 ≤ v ∧ v ≤ 10 ^ 30 := by
          simp only [List.mem_cons, List.not_mem_nil, or_false] at hy
          rcases hy with h | h | h | h | h | h | h | h | h | h <;> subst h
          all_goals first | exact ⟨_, rfl, (bit bw).1, (bit bw).2⟩ | exact ⟨_, rfl, by decide, by decide⟩
        obtain ⟨xs', w1, w2, w3⟩ := put H4 (.int v) (.len v) (f4.draw g4 k4) (u4.draw k4) (fun _ _ => .int v) (dr.snocL v0 v1) ((jmps ts).length : Int) (by rw [jmps_snoc]; show _ = (((jmps ts ++ []).length : Nat) : Int); rw [List.append_nil]) (some (.int (i : Int))) o7
        exact ⟨p, xs', _, rfl, rfl, w1, w2, w3⟩
    · obtain ⟨xs, h1, h2⟩ := u2.ex
      refine ⟨_, rfl, .inl ⟨rfl, _, SqL.of h1⟩, ?_⟩
      refine ⟨_, rfl, ?_⟩
      refine ⟨_, _, rfl, rfl, ⟨by decide, by decide, by decide⟩, _, rfl, rfl, .inr ⟨_, rfl, ?_⟩⟩
      have bit : ∀ b : Bool, (0 : Int) ≤ 10 ^ (30 : Int).toNat * (if b = true then 1 else 0) ∧ (10 : Int) ^ (30 : Int).toNat * (if b = true then 1 else 0) ≤ 10 ^ 30 := by decide
      generalize hb : decide (V.int way = V.int 0) = bw
      refine ⟨_, _, rfl, rfl, ?_, (by show 10 ≤ sizeLine; decide), fun a ha => ?_⟩
      · cases bw <;> exact .inr ⟨by decide, by decide⟩
      have f4 := FI.new hf f2 ha (.lst [V.int 0, .int 1, .int 1, .int 2, .int 2, .int 3, .int 7, .int 8, .int 1, .int (10 ^ (30 : Int).toNat * (if bw = true then 1 else 0))])
      have u4 := u2.new ha (.lst [V.int 0, .int 1, .int 1, .int 2, .int 2, .int 3, .int 7, .int 8, .int 1, .int (10 ^ (30 : Int).toNat * (if bw = true then 1 else 0))])
      refine ⟨l, a, _, q, ns, rfl, f4.f, SqL.of (by rw [del_ne (new_ne f2.f ha)]; exact upd_same), (by show 0 < 10; decide), (by show 10 ≤ 1000; decide), fun y H4 hy g4 k4 => ?_⟩
      obtain ⟨v, rfl, v0, v1⟩ : ∃ v : Int, y = .int v ∧ 0 ≤ v ∧ v ≤ 10 ^ 30 := by
        simp only [List.mem_cons, List.not_mem_nil, or_false] at hy
        rcases hy with h | h | h | h | h | h | h | h | h | h <;> subst h
        all_goals first | exact ⟨_, rfl, (bit bw).1, (bit bw).2⟩ | exact ⟨_, rfl, by decide, by decide⟩
      obtain ⟨xs', w1, w2, w3⟩ := put H4 (.int v) (.len v) (f4.draw g4 k4) (u4.draw k4) (fun _ _ => .int v) (dr.snocL v0 v1) ((jmps ts).length : Int) (by rw [jmps_snoc]; show _ = (((jmps ts ++ []).length : Nat) : Int); rw [List.append_nil]) (some (.int (i : Int))) o7
      exact ⟨p, xs', _, rfl, rfl, w1, w2, w3⟩
  · rintro σ H2 ⟨ts, o6, o7, rfl, f2, u2, dr⟩
    rw [show (n : Int).toNat = n from Int.toNat_natCast n] at dr
    obtain ⟨n2, xs, h1, h2⟩ := u2
    refine ⟨_, rfl, p, xs, rfl, .inl ⟨SqL.of h1, fun t ht => ?_⟩⟩
    have f3 := FI.new hf f2 ht (.tup xs)
    refine k ts t _ ⟨dr.len, dr.good, dr.pos, dr.few⟩ ?_ f3
    refine .tup (xs := xs) (SqT.of (by rw [del_ne (new_ne f2.f ht)]; exact upd_same)) ?_
    refine dpAll_same (fun b o e => ?_) h2
    by_cases c : b = p
    · subst c; rw [del_same] at e; cases e
    · rw [del_ne c] at e
      exact same_del l (same_new ht _) b o e
end
end Lk

set_option Elab.async false
set_option linter.all false
set_option maxRecDepth 100000
set_option maxHeartbeats 4000000
set_option pp.maxSteps 1500
namespace Lk
open PySem PySem.Spec PyProof.Rows L2
/-! ### all choices of a few jumps -/
theorem addr_same {cs ds : List Nat} (h : ∀ i, i ∈ cs ↔ i ∈ ds) (ts : List Th) : ∀ k, addrAt cs ts k = addrAt ds ts k
  | 0 => rfl
  | k + 1 => by
    show addrAt cs ts k + lenT cs k (ts.getD k (.len 0)) = addrAt ds ts k + lenT ds k (ts.getD k (.len 0))
    rw [addr_same h ts k]
    cases ts.getD k (.len 0) with
    | len n => rfl
    | jmp t =>
      show addrAt ds ts k + (1 + (if k ∈ cs then (1 : Int) else 0)) = addrAt ds ts k + (1 + (if k ∈ ds then (1 : Int) else 0))
      by_cases c : k ∈ cs
      · rw [if_pos c, if_pos ((h k).mp c)]
      · rw [if_neg c, if_neg fun d => c ((h k).mpr d)]
theorem out_same {cs ds : List Nat} (h : ∀ i, i ∈ cs ↔ i ∈ ds) (ts : List Th) (low high : Int) (i : Nat) : outOf cs ts low high i = outOf ds ts low high i := by
  unfold outOf
  cases ts.getD i (.len 0) with
  | len n => rfl
  | jmp t =>
    show (decide (addrAt cs ts t - addrAt cs ts i < low) || decide (addrAt cs ts t - addrAt cs ts i > high)) = (decide (addrAt ds ts t - addrAt ds ts i < low) || decide (addrAt ds ts t - addrAt ds ts i > high))
    rw [addr_same h, addr_same h]
theorem far_same {cs ds : List Nat} (h : ∀ i, i ∈ cs ↔ i ∈ ds) (ts : List Th) (low high : Int) : farL cs ts low high = farL ds ts low high := by
  rw [farL_out, farL_out]
  unfold outL
  rw [List.filter_filter, List.filter_filter]
  refine List.filter_congr fun i _ => ?_
  have m : decide (i ∈ cs) = decide (i ∈ ds) := by
    by_cases c : i ∈ cs
    · rw [decide_eq_true c, decide_eq_true ((h i).mp c)]
    · rw [decide_eq_false c, decide_eq_false fun d => c ((h i).mpr d)]
  rw [out_same h, m]
theorem far_jmp {cs : List Nat} {ts : List Th} {low high : Int} {i : Nat} (h : i ∈ farL cs ts low high) : i ∈ jmps ts := by
  rw [farL_out] at h
  exact (List.mem_filter.mp (List.mem_filter.mp h).1).1
theorem leastN_jmp {ts : List Th} {low high : Int} : ∀ {n : Nat} {cs : List Nat}, (∀ i ∈ cs, i ∈ jmps ts) → ∀ i ∈ leastN ts low high n cs, i ∈ jmps ts
  | 0, cs, h => h
  | n + 1, cs, h => by
    unfold leastN
    cases e : farL cs ts low high with
    | nil => exact h
    | cons f fs =>
      refine leastN_jmp (n := n) fun i m => ?_
      rw [← e] at m
      exact (List.mem_append.mp m).elim (h i) far_jmp
theorem leastL_jmp {ts : List Th} {low high : Int} : ∀ i ∈ leastL ts low high, i ∈ jmps ts := leastN_jmp fun _ m => nomatch m
theorem leastS_jmps (ts : List Th) (low high : Int) : leastS ts low high = (jmps ts).filter fun i => decide (i ∈ leastL ts low high) := by
  unfold leastS jmps jmpsTo
  rw [List.filter_filter]
  refine List.filter_congr fun i m => ?_
  by_cases c : i ∈ leastL ts low high
  · have := (List.mem_filter.mp (leastL_jmp i c)).2
    rw [decide_eq_true c, this]; rfl
  · rw [decide_eq_false c]; rfl
theorem mem_leastS {ts : List Th} {low high : Int} {i : Nat} : i ∈ leastS ts low high ↔ i ∈ leastL ts low high := by
  rw [leastS_jmps, List.mem_filter, decide_eq_true_iff]
  exact ⟨fun h => h.2, fun h => ⟨leastL_jmp i h, h⟩⟩
theorem leastS_holds (ts : List Th) (low high : Int) : farL (leastS ts low high) ts low high = [] := by
  rw [far_same fun _ => mem_leastS]
  exact least_holds ts low high
def more (css : List (List Nat)) (k : Nat) : List (List Nat) := css ++ css.map fun c => c ++ [k]
def subsF (js : List Nat) (css : List (List Nat)) : List (List Nat) := js.foldl more css
theorem subs_mem : ∀ {js : List Nat} {css : List (List Nat)} {c s : List Nat}, c ∈ css → s.Sublist js → c ++ s ∈ subsF js css
  | [], css, c, s, hc, hs => by
    rw [List.sublist_nil.mp hs, List.append_nil]; exact hc
  | k :: js, css, c, s, hc, hs => by
    show c ++ s ∈ subsF js (more css k)
    cases hs with
    | cons _ h => exact subs_mem (List.mem_append_left _ hc) h
    | cons_cons _ h =>
      rw [List.append_cons]
      exact subs_mem (List.mem_append_right _ (List.mem_map.mpr ⟨c, hc, rfl⟩)) h
theorem subs_len : ∀ (js : List Nat) (css : List (List Nat)), (subsF js css).length = css.length * 2 ^ js.length
  | [], css => (Nat.mul_one _).symm
  | k :: js, css => by
    show (subsF js (more css k)).length = _
    rw [subs_len js]
    unfold more
    rw [List.length_append, List.length_map, List.length_cons, Nat.pow_succ, Nat.mul_comm (2 ^ js.length) 2, ← Nat.mul_assoc]
    congr 1
    omega
theorem subs_few {b : Nat} : ∀ {js : List Nat} {css : List (List Nat)}, (∀ c ∈ css, c.length ≤ b) → ∀ c ∈ subsF js css, c.length ≤ b + js.length
  | [], css, h => h
  | k :: js, css, h => fun c m => by
    have := subs_few (b := b + 1) (js := js) (css := more css k) (fun c m => by
      rcases List.mem_append.mp m with q | q
      · have := h c q; omega
      · obtain ⟨d, hd, rfl⟩ := List.mem_map.mp q
        rw [List.length_append, List.length_singleton]
        have := h d hd; omega) c m
    rw [List.length_cons]; omega
def subsJ (js : List Nat) : List (List Nat) := subsF js [[]]
theorem subsJ_snoc (js : List Nat) (k : Nat) : subsJ (js ++ [k]) = more (subsJ js) k := by
  unfold subsJ subsF
  rw [List.foldl_append]; rfl
theorem subsJ_len (js : List Nat) : (subsJ js).length = 2 ^ js.length := by
  unfold subsJ; rw [subs_len]; exact Nat.one_mul _
theorem subsJ_few {js : List Nat} : ∀ c ∈ subsJ js, c.length ≤ js.length := fun c m => by
  have := subs_few (b := 0) (js := js) (css := [[]]) (fun c m => by rw [List.mem_singleton.mp m]; exact Nat.le_refl _) c m
  omega
def heldL (ts : List Th) (low high : Int) : List (List Nat) := (subsJ (jmps ts)).filter fun cs => decide (farL cs ts low high = [])
def inAll (css : List (List Nat)) (k : Nat) : Bool := css.all fun cs => decide (k ∈ cs)
theorem least_of_all {ts : List Th} {low high : Int} (hp : Pos ts) (hl : low ≤ 0) (hh : 0 ≤ high) : (jmps ts).filter (inAll (heldL ts low high)) = leastS ts low high := by
  rw [leastS_jmps]
  refine List.filter_congr fun k m => ?_
  by_cases c : k ∈ leastL ts low high
  · rw [decide_eq_true c]
    refine List.all_eq_true.mpr fun cs mc => decide_eq_true ?_
    exact least_in hp hl hh (of_decide_eq_true (List.mem_filter.mp mc).2) k c
  · rw [decide_eq_false c]
    refine Bool.eq_false_iff.mpr fun q => c (mem_leastS.mp ?_)
    have ms : leastS ts low high ∈ heldL ts low high := by
      refine List.mem_filter.mpr ⟨?_, decide_eq_true (leastS_holds ts low high)⟩
      have := subs_mem (js := jmps ts) (css := [[]]) (c := []) (s := leastS ts low high) (List.mem_singleton.mpr rfl) (by rw [leastS_jmps]; exact List.filter_sublist ..)
      rwa [List.nil_append] at this
    exact of_decide_eq_true (List.all_eq_true.mp q _ ms)
theorem dp_nV {K : PySem.W.Frag} {H : Hp} : ∀ {xs : List V} {cs : List Nat}, DpAll K H xs (cs.map fun (i : Nat) => PyData.int (i : Int)) → xs = nV cs
  | _, [], .nil => rfl
  | _, c :: cs, .cons h t => by cases h; rw [dp_nV t]; rfl
theorem nV_dp {K : PySem.W.Frag} {H : Hp} : ∀ cs : List Nat, DpAll K H (nV cs) (cs.map fun (i : Nat) => PyData.int (i : Int))
  | [] => .nil
  | c :: cs => .cons (.int _) (nV_dp cs)
theorem nat_inv {K : PySem.W.Frag} {H : Hp} {z : V} {cs : List Nat} (h : Dp K H z (natD cs)) : ∃ a, z = .ref a ∧ SqT K H a (nV cs) := by
  obtain ⟨a, xs, e, h1, h2⟩ := tup_inv h
  rw [dp_nV h2] at h1
  exact ⟨a, e, h1⟩
theorem nat_dp {K : PySem.W.Frag} {H : Hp} {a : Addr} {cs : List Nat} (h : SqT K H a (nV cs)) : Dp K H (.ref a) (natD cs) := .tup h (nV_dp cs)
theorem nats_get {K : PySem.W.Frag} {H : Hp} {xs : List V} {css : List (List Nat)} {i : Nat} {z : V} (h : DpAll K H xs (css.map natD)) (e : xs[i]? = some z) : ∃ cs, css[i]? = some cs ∧ Dp K H z (natD cs) := by
  obtain ⟨d, _, e1, h1⟩ := dp_get h e
  rw [List.getElem?_map] at e1
  cases c : css[i]? with
  | none => rw [c] at e1; cases e1
  | some cs =>
    rw [c] at e1
    obtain rfl : natD cs = d := Option.some.inj e1
    exact ⟨cs, rfl, h1⟩
theorem nV_get {l : List Nat} {i : Nat} {z : V} (hiz : (nV l)[i]? = some z) : ∃ m : Nat, l[i]? = some m ∧ z = .int (m : Int) := by
  unfold nV at hiz
  rw [List.getElem?_map] at hiz
  cases hh : l[i]? with
  | none => rw [hh] at hiz; cases hiz
  | some m => rw [hh] at hiz; exact ⟨m, rfl, (Option.some.inj hiz).symm⟩
theorem dpAll_cat2 {K : PySem.W.Frag} {H : Hp} : ∀ {vs ws : List V} {ds es : List PyData}, DpAll K H vs ds → DpAll K H ws es → DpAll K H (vs ++ ws) (ds ++ es)
  | _, _, _, _, .nil, h => h
  | _, _, _, _, .cons a b, h => .cons a (dpAll_cat2 b h)
theorem nV_len (l : List Nat) : (nV l).length = l.length := List.length_map _
theorem nV_snoc (l : List Nat) (m : Nat) : nV l ++ [V.int (m : Int)] = nV (l ++ [m]) := by unfold nV; rw [List.map_append]; rfl
theorem filter_step {α : Type} {l : List α} {i : Nat} {m : α} (p : α → Bool) (h : l[i]? = some m) : (l.take (i + 1)).filter p = (l.take i).filter p ++ (if p m then [m] else []) := by
  rw [List.take_succ, h, List.filter_append]
  congr 1
  show (match p m with | true => m :: [] | false => []) = _
  cases p m <;> rfl
def spLeastLaw (K : PySem.W.Frag) : Sp := fun vs H Q _ => ∃ (x : V) (low high : Int) (ts : List Th), vs = [x, .int low, .int high] ∧ Dp K H x (.tuple (ts.map Th.d)) ∧ ts.length ≤ 2000 ∧ GoodTs ts ∧ Pos ts ∧ low ≤ 0 ∧ 0 ≤ high ∧ (jmps ts).length ≤ 7 ∧
  ∀ p H', Same H H' → SqT K H' p (nV (leastS ts low high)) → Q (.ref p) H'
section
variable {P : Program} {w : World} {K : PySem.W.Frag} {mg : Str → Option Value} {base : Heap}
theorem ok_law_least (T : Txt K mg) : FnOk P w K mg base CX0 4 T.f__law_least T.d__law_least ["_law_things_here", "_law_low", "_law_high"] (spLeastLaw K) := by
  have nd := sc__law_least.nd
  refine T.F__law_least.ok sc__law_least (fun vs H Q E h => ?_) (fun cdv A outer s H vs Q E hr h => ?_)
  · obtain ⟨x, low, high, ts, rfl, _⟩ := h
    rfl
  obtain ⟨x, low, high, ts, rfl, hd, hts, hg, hpos, hl0, hh0, h7, k⟩ := h
  have G__law_jumps : FnOk P w K mg base CX0 1 _ _ _ (spJumps K) := ok_law_jumps T
  have hr__law_jumps := hr.mono (j := 1) (by omega)
  have G__law_is_held : FnOk P w K mg base CX0 3 _ _ _ (spIsHeld K) := ok_law_is_held T
  have hr__law_is_held := hr
  refine ⟨_, (pss_cons (ps_set (i := 3) nd rfl (Or.inl rfl) (pe_lst (pa_cons (pe_tup pa_nil) pa_nil)))
      (pss_cons (ps_for PassesOwn.never rfl (pi_list (pe_call G__law_jumps hr__law_jumps rfl T.m__law_jumps T.k__law_jumps T.b__law_jumps .nil pass0 (pa_cons (pv 0) pa_nil))) (pg_name (i := 4) nd rfl (Or.inr rfl))
      (pss_one (ps_set (i := 3) nd rfl (Or.inl rfl) (pe_op op_cat (pv 3) (pe_lc (own := [("_law_some_here", 7)]) (g := gName 7) (tt := tYes) (by rfl) nd (pi_list (pv 3)) (blkOk_by (own := [("_law_some_here", 7)]) (N := sl__law_least) (sc := defScope s__law_least) (by decide +kernel)) (fun _ _ _ _ _ => pg_name (i := 7) nd rfl (Or.inl rfl)) (fun _ _ _ _ _ => pts_nil) (fun _ _ _ _ _ => (pe_op (op_catK (K := K) rfl) (pv 7) (pe_tup (pa_cons (pv 4) pa_nil)))))))))
      (pss_cons (ps_setLc (i := 5) (own := [("_law_some_here", 7)]) (g := gName 7) (by rfl) nd rfl rfl (sw_true rfl rfl rfl (by decide +kernel)) (pi_list (pv 3)) (blkOk_by (own := [("_law_some_here", 7)]) (N := sl__law_least) (sc := defScope s__law_least) (by decide +kernel)) (fun _ _ _ _ _ => pg_name (i := 7) nd rfl (Or.inl rfl)) (fun _ _ _ _ _ => (pts_one (pt_val (pe_call G__law_is_held hr__law_is_held rfl T.m__law_is_held T.k__law_is_held T.b__law_is_held .nil pass0 (pa_cons (pv 0) (pa_cons (pv 1) (pa_cons (pv 2) (pa_cons (pv 7) pa_nil)))))))) (fun _ _ _ _ _ => (pv 7)))
      (pss_cons (ps_set (i := 6) nd rfl (Or.inl rfl) (pe_call G__law_jumps hr__law_jumps rfl T.m__law_jumps T.k__law_jumps T.b__law_jumps .nil pass0 (pa_cons (pv 0) pa_nil)))
      (pss_cons (ps_for PassesOwn.never rfl (pi_list (pv 5)) (pg_name (i := 7) nd rfl (Or.inr rfl))
      (pss_one (ps_setLc (i := 6) (own := [("_law_k", 4)]) (g := gName 4) (by rfl) nd rfl rfl (sw_true rfl rfl rfl (by decide +kernel)) (pi_list (pv 6)) (blkOk_by (own := [("_law_k", 4)]) (N := sl__law_least) (sc := defScope s__law_least) (by decide +kernel)) (fun _ _ _ _ _ => pg_name (i := 4) nd rfl (Or.inl rfl)) (fun _ _ _ _ _ => (pts_one (pt_cmpR (op_inK (K := K) rfl) (pv 4) (pv 7) (by rfl)))) (fun _ _ _ _ _ => (pv 4)))))
      (pss_one (ps_ret (pe_callTy call_tuple_of (by rfl) T.z_tuple (by decide +kernel) (pa_cons (pv 6) pa_nil))))))))), ?_⟩
  refine ⟨(by show 0 ≤ sizeLine; decide), fun t0 ht0 => ?_⟩
  refine ⟨(by show 1 ≤ sizeLine; decide), fun p hp0 => ?_⟩
  have ept : (upd (upd H t0 (.tup [])) p (.lst [.ref t0])) t0 = some (.tup []) := by
    rw [upd_ne (fun z => by rw [← z, upd_same] at hp0; cases hp0)]; exact upd_same
  have epp : (upd (upd H t0 (.tup [])) p (.lst [.ref t0])) p = some (.lst [.ref t0]) := upd_same
  have e0 : Same H (upd (upd H t0 (.tup [])) p (.lst [.ref t0])) := (same_new ht0 _).trans (same_new hp0 _)
  generalize upd (upd H t0 (.tup [])) p (.lst [.ref t0]) = H0 at ept epp e0 ⊢
  refine ⟨_, rfl, x, ts, rfl, dp_same e0 hd, hts, fun j H1 e1 hj ej => ?_⟩
  have e01 := e0.trans e1
  refine ⟨j, rfl, ⟨_, SqL.of ej⟩, ?_⟩
  refine for_list (K := K) (a := j) (xs := nV (jmps ts)) (fun i σ H' => ∃ (p : Addr) (xs : List V) (o4 : Option V), σ = [some x, some (.int low), some (.int high), some (.ref p), o4, none, none, none] ∧ Same H1 H' ∧ H' p = some (.lst xs) ∧ DpAll K H' xs ((subsJ ((jmps ts).take i)).map natD)) ?_ ?_ ?_ ?_
  · exact ⟨p, _, none, rfl, Same.refl _, e1 _ _ epp, .cons (nat_dp (cs := []) (SqT.of (e1 _ _ ept))) .nil⟩
  · rintro i σ H' _ ⟨_, _, _, _, e, _⟩
    exact SqL.of (e _ _ ej)
  · rintro i z σ H' hiz ⟨p, xs, o4, rfl, e, ep, hx⟩
    obtain ⟨m, hm, rfl⟩ := nV_get hiz
    have stp : subsJ ((jmps ts).take (i + 1)) = more (subsJ ((jmps ts).take i)) m := by
      rw [List.take_succ, hm]; exact subsJ_snoc _ _
    have lt : ((jmps ts).take i).length ≤ 7 := by rw [List.length_take]; omega
    have few := subsJ_few (js := (jmps ts).take i)
    have lc : (subsJ ((jmps ts).take i)).length ≤ 128 := by
      rw [subsJ_len]
      exact Nat.le_trans (Nat.pow_le_pow_right (by decide) lt) (by decide)
    have lx := dp_len hx
    rw [List.length_map] at lx
    generalize subsJ ((jmps ts).take i) = css at hx stp few lc lx
    refine ⟨_, rfl, ?_⟩
    refine ⟨_, rfl, p, rfl, ⟨_, SqL.of ep⟩, fun D hD => ?_⟩
    refine lc_list (K := K) (a := p) (xs := xs) (fun n H2 => Same H' H2 ∧ ∃ ys, H2 D = some (.lst ys) ∧ DpAll K (del H2 D) ys (((css.take n).map fun c => c ++ [m]).map natD)) ?_ ?_ ?_ ?_
    · exact ⟨same_new hD _, [], upd_same, .nil⟩
    · rintro n H2 _ ⟨e2, _⟩
      exact SqL.of (e2 _ _ ep)
    · rintro n z H2 hnz ⟨e2, ys, eD, hy⟩
      obtain ⟨cs, hcs, hdz⟩ := nats_get hx hnz
      obtain ⟨a, rfl, ha⟩ := nat_inv hdz
      have hn : n < css.length := (List.getElem?_eq_some_iff.mp hcs).1
      have hcl := few cs (List.mem_of_getElem? hcs)
      have ly := dp_len hy
      rw [List.length_map, List.length_map, List.length_take] at ly
      refine ⟨rfl, ?_⟩
      refine ⟨_, rfl, _, rfl, (by show 1 ≤ sizeLine; decide), fun t ht => ?_⟩
      have e3 := same_new ht (.tup [.int (m : Int)])
      refine ⟨a, t, nV cs, [.int (m : Int)], rfl, rfl, seqT_same (e2.trans e3) ha, SqT.of upd_same, by rw [nV_len]; exact Nat.le_of_lt (szl (by show cs.length + 1 ≤ _; omega)), fun r H3 e4 hr3 => ?_⟩
      have e23 := e3.trans e4
      have eD3 := e23 _ _ eD
      refine ⟨ys, eD3, szl (by omega), same_mut (e2.trans e23) hD, ys ++ [.ref r], upd_same, ?_⟩
      rw [del_upd, List.take_succ, hcs, List.map_append, List.map_append]
      refine dpAll_app (dpAll_same (same_del D e23) hy) (nat_dp (cs := cs ++ [m]) ?_)
      rw [← nV_snoc]
      exact seqT_off hr3 eD3
    · rintro H3 ⟨e2, ys, eD, hy⟩
      rw [lx, List.take_length] at hy
      have ly := dp_len hy
      rw [List.length_map, List.length_map] at ly
      refine ⟨p, D, xs, ys, rfl, rfl, e2 _ _ ep, eD, Nat.le_of_lt (szl (by omega)), fun p2 hp2 => ?_⟩
      have e3 := same_new hp2 (.lst (xs ++ ys))
      refine ⟨p2, xs ++ ys, _, rfl, (e.trans e2).trans e3, upd_same, ?_⟩
      rw [stp]
      unfold more
      rw [List.map_append]
      exact dpAll_cat2 (dpAll_same (e2.trans e3) hx) (dpAll_same ((del_le H3 D).trans e3) hy)
  · rintro σ H2 ⟨p, xs, o4, rfl, e2, ep, hx⟩
    rw [nV_len, List.take_length] at hx
    have lx := dp_len hx
    rw [List.length_map] at lx
    have lc : (subsJ (jmps ts)).length ≤ 128 := by
      rw [subsJ_len]
      exact Nat.le_trans (Nat.pow_le_pow_right (by decide) h7) (by decide)
    have e02 := e01.trans e2
    have hheld : (subsJ (jmps ts)).filter (fun cs => decide (farL cs ts low high = [])) = heldL ts low high := rfl
    generalize subsJ (jmps ts) = css at hx lx lc hheld
    refine ⟨_, rfl, p, rfl, ⟨_, SqL.of ep⟩, fun D hD => ?_⟩
    refine lc_list (K := K) (a := p) (xs := xs) (fun n H' => Same H2 H' ∧ ∃ ys, H' D = some (.lst ys) ∧ DpAll K (del H' D) ys (((css.take n).filter fun cs => decide (farL cs ts low high = [])).map natD)) ?_ ?_ ?_ ?_
    · exact ⟨same_new hD _, [], upd_same, .nil⟩
    · rintro n H' _ ⟨e3, _⟩
      exact SqL.of (e3 _ _ ep)
    · rintro n z H' hnz ⟨e3, ys, eD, hy⟩
      obtain ⟨cs, hcs, hdz⟩ := nats_get hx hnz
      obtain ⟨a, rfl, ha⟩ := nat_inv hdz
      have hn : n < css.length := (List.getElem?_eq_some_iff.mp hcs).1
      have ly := dp_len hy
      rw [List.length_map] at ly
      have lf := List.length_filter_le (fun cs => decide (farL cs ts low high = [])) (css.take n)
      rw [List.length_take] at lf
      refine ⟨rfl, ?_⟩
      refine ⟨_, rfl, _, rfl, _, rfl, _, rfl, x, a, low, high, ts, cs, rfl, dp_same (e02.trans e3) hd, .inr (seqT_same e3 ha), hts, hg, fun H4 e4 => ?_⟩
      have eD4 := e4 _ _ eD
      have stp := filter_step (fun cs => decide (farL cs ts low high = [])) hcs
      refine ⟨_, rfl, ?_⟩
      refine ite2 (fun c => ?_) (fun c => ?_)
      · refine ⟨_, rfl, ys, eD4, szl (by omega), same_mut (e3.trans e4) hD, ys ++ [.ref a], upd_same, ?_⟩
        rw [if_pos c] at stp
        rw [del_upd, stp, List.map_append]
        exact dpAll_app (dpAll_same (same_del D e4) hy) (nat_dp (cs := cs) (seqT_off (seqT_same (e3.trans e4) ha) eD4))
      · rw [if_neg c, List.append_nil] at stp
        refine ⟨e3.trans e4, ys, eD4, ?_⟩
        rw [stp]
        exact dpAll_same (same_del D e4) hy
    · rintro H3 ⟨e3, ys, eD, hy⟩
      rw [lx, List.take_length, hheld] at hy
      have hy := dpAll_same (del_le H3 D) hy
      have e03 := e02.trans e3
      refine ⟨_, rfl, x, ts, rfl, dp_same e03 hd, hts, fun f H4 e4 hf ef => ?_⟩
      refine ⟨_, rfl, D, rfl, ⟨_, SqL.of (e4 _ _ eD)⟩, ?_⟩
      have ly := dp_len hy
      rw [List.length_map] at ly
      have hy4 := dpAll_same e4 hy
      have jl : (jmps ts).filter (inAll ((heldL ts low high).take 0)) = jmps ts := by
        rw [List.take_zero]
        exact List.filter_eq_self.mpr fun _ _ => rfl
      have fl : ∀ i, ((jmps ts).filter (inAll ((heldL ts low high).take i))).length ≤ 7 := fun i => Nat.le_trans (List.length_filter_le _ _) h7
      refine for_list (K := K) (a := D) (xs := ys) (fun i σ H' => ∃ (f : Addr) (o4 o7 : Option V), σ = [some x, some (.int low), some (.int high), some (.ref p), o4, some (.ref D), some (.ref f), o7] ∧ Same H4 H' ∧ H' f = some (.lst (nV ((jmps ts).filter (inAll ((heldL ts low high).take i)))))) ?_ ?_ ?_ ?_
      · exact ⟨f, _, _, rfl, Same.refl _, by rw [jl]; exact ef⟩
      · rintro i σ H' _ ⟨_, _, _, _, e5, _⟩
        exact SqL.of (e5 _ _ (e4 _ _ eD))
      · rintro i z σ H' hiz ⟨f, o4, o7, rfl, e5, ef⟩
        obtain ⟨cs, hcs, hdz⟩ := nats_get hy4 hiz
        obtain ⟨a, rfl, ha⟩ := nat_inv (dp_same e5 hdz)
        have stp : (jmps ts).filter (inAll ((heldL ts low high).take (i + 1))) = ((jmps ts).filter (inAll ((heldL ts low high).take i))).filter fun k => decide (k ∈ cs) := by
          rw [List.filter_filter, List.take_succ, hcs]
          refine List.filter_congr fun k _ => ?_
          unfold inAll
          rw [List.all_append, Bool.and_comm]
          show ((decide (k ∈ cs) && true) && _) = _
          rw [Bool.and_true]
        have fl := fl i
        generalize (jmps ts).filter (inAll ((heldL ts low high).take i)) = fs at ef stp fl
        refine ⟨_, rfl, f, rfl, ⟨_, SqL.of ef⟩, fun C hC => ?_⟩
        refine lc_list (K := K) (a := f) (xs := nV fs) (fun n H5 => Same H' H5 ∧ H5 C = some (.lst (nV ((fs.take n).filter fun k => decide (k ∈ cs))))) ?_ ?_ ?_ ?_
        · exact ⟨same_new hC _, upd_same⟩
        · rintro n H5 _ ⟨e6, _⟩
          exact SqL.of (e6 _ _ ef)
        · rintro n z H5 hnz ⟨e6, eC⟩
          obtain ⟨m, hm, rfl⟩ := nV_get hnz
          have sf := filter_step (fun k => decide (k ∈ cs)) hm
          have lf := List.length_filter_le (fun k => decide (k ∈ cs)) (fs.take n)
          rw [List.length_take] at lf
          refine ⟨rfl, ?_⟩
          refine ⟨_, rfl, _, rfl, a, _, rfl, .inr (seqT_same e6 ha), rfl, flat_nV cs, _, rfl, ?_⟩
          rw [in_nV, sf]
          refine ite2 (fun c => ?_) (fun c => ?_)
          · have c : decide (m ∈ cs) = true := c
            refine ⟨_, rfl, _, eC, by rw [nV_len]; exact szl (by omega), same_mut e6 hC, ?_⟩
            rw [upd_same, if_pos c, nV_snoc]
          · have c : ¬ decide (m ∈ cs) = true := c
            rw [if_neg c, List.append_nil]
            exact ⟨e6, eC⟩
        · rintro H5 ⟨e6, eC⟩
          rw [nV_len, List.take_length, ← stp] at eC
          exact ⟨C, _, _, rfl, e5.trans e6, eC⟩
      · rintro σ H' ⟨f, o4, o7, rfl, e5, ef⟩
        rw [ly, List.take_length, least_of_all hpos hl0 hh0] at ef
        refine ⟨_, rfl, f, _, rfl, .inl ⟨SqL.of ef, fun t ht => ?_⟩⟩
        exact k t _ (((e03.trans e4).trans e5).trans (same_new ht _)) (SqT.of upd_same)
end
end Lk

set_option Elab.async false
set_option linter.all false
set_option maxRecDepth 100000
set_option maxHeartbeats 4000000
set_option pp.maxSteps 1500
namespace Lk
open PySem PySem.Spec PyProof.Rows L2
/-! ### whatever is too far is chosen, till nothing else is -/
theorem asc_same : ∀ {l m : List Nat}, l.Pairwise (· < ·) → m.Pairwise (· < ·) → (∀ i, i ∈ l ↔ i ∈ m) → l = m
  | [], [], _, _, _ => rfl
  | [], b :: m, _, _, h => nomatch (h b).mpr List.mem_cons_self
  | a :: l, [], _, _, h => nomatch (h a).mp List.mem_cons_self
  | a :: l, b :: m, hl, hm, h => by
    obtain ⟨l1, l2⟩ := List.pairwise_cons.mp hl
    obtain ⟨m1, m2⟩ := List.pairwise_cons.mp hm
    have e : a = b := by
      rcases List.mem_cons.mp ((h a).mp List.mem_cons_self) with q | q
      · exact q
      · rcases List.mem_cons.mp ((h b).mpr List.mem_cons_self) with r | r
        · exact r.symm
        · have := m1 a q; have := l1 b r; omega
    subst e
    rw [asc_same l2 m2 fun i => ⟨fun q => ?_, fun q => ?_⟩]
    · rcases List.mem_cons.mp ((h i).mp (List.mem_cons_of_mem _ q)) with r | r
      · have := l1 i q; omega
      · exact r
    · rcases List.mem_cons.mp ((h i).mpr (List.mem_cons_of_mem _ q)) with r | r
      · have := m1 i q; omega
      · exact r
def growL (ts : List Th) (low high : Int) (cs : List Nat) : List Nat := (List.range ts.length).filter fun i => decide (i ∈ cs) || decide (i ∈ outL cs ts low high)
theorem outL_lt {ts : List Th} {low high : Int} {cs : List Nat} {i : Nat} (h : i ∈ outL cs ts low high) : i < ts.length := List.mem_range.mp (List.mem_filter.mp (List.mem_filter.mp h).1).1
theorem outL_len (ts : List Th) (low high : Int) (cs : List Nat) : (outL cs ts low high).length ≤ ts.length := by
  have h1 := List.length_filter_le (outOf cs ts low high) (jmps ts)
  have h2 := List.length_filter_le (fun i => (ts.getD i (.len 0)).isJ) (List.range ts.length)
  rw [List.length_range] at h2
  have h4 : (outL cs ts low high).length ≤ (jmps ts).length := h1
  have h5 : (jmps ts).length ≤ ts.length := h2
  omega
theorem mem_grow {ts : List Th} {low high : Int} {cs : List Nat} (h : ∀ i ∈ cs, i < ts.length) {i : Nat} : i ∈ growL ts low high cs ↔ i ∈ cs ∨ i ∈ outL cs ts low high := by
  unfold growL
  rw [List.mem_filter, Bool.or_eq_true, decide_eq_true_iff, decide_eq_true_iff, List.mem_range]
  exact ⟨fun q => q.2, fun q => ⟨q.elim (h i) outL_lt, q⟩⟩
theorem grow_asc (ts : List Th) (low high : Int) (cs : List Nat) : (growL ts low high cs).Pairwise (· < ·) := List.Pairwise.sublist (List.filter_sublist ..) (List.pairwise_lt_range ..)
theorem asc_nodup {l : List Nat} (h : l.Pairwise (· < ·)) : l.Nodup := h.imp fun q => Nat.ne_of_lt q
theorem asc_int {l : List Nat} {zs : List Int} (h : l.Pairwise (· < ·)) (hz : zs.Pairwise (· < ·)) (e : ∀ k, k ∈ zs ↔ ∃ i ∈ l, (i : Int) = k) : zs = l.map fun (i : Nat) => (i : Int) := by
  have hl : (l.map fun (i : Nat) => (i : Int)).Pairwise (· < ·) := by
    rw [List.pairwise_map]
    exact h.imp fun q => by omega
  refine PySem.W.os_sorted_one ?_ (hz.imp fun q => Int.le_of_lt q) (hl.imp fun q => Int.le_of_lt q)
  refine (List.perm_ext_iff_of_nodup (hz.imp fun q => by omega) (hl.imp fun q => by omega)).mpr fun k => ?_
  rw [e k, List.mem_map]
/-- what is chosen so far: ascending, in each choice that holds -/
structure Grw (ts : List Th) (low high : Int) (cs : List Nat) : Prop where
  asc : cs.Pairwise (· < ·)
  lt : ∀ i ∈ cs, i < ts.length
  inn : ∀ i ∈ cs, i ∈ leastL ts low high
theorem Grw.nil (ts : List Th) (low high : Int) : Grw ts low high [] := ⟨List.Pairwise.nil, (fun _ m => nomatch m), (fun _ m => nomatch m)⟩
theorem Grw.grow {ts : List Th} {low high : Int} {cs : List Nat} (g : Grw ts low high cs) (hp : Pos ts) (hl : low ≤ 0) (hh : 0 ≤ high) : Grw ts low high (growL ts low high cs) := by
  refine ⟨grow_asc .., fun i m => ?_, fun i m => ?_⟩
  · exact ((mem_grow g.lt).mp m).elim (g.lt i) outL_lt
  · rcases (mem_grow g.lt).mp m with q | q
    · exact g.inn i q
    · by_cases c : i ∈ cs
      · exact g.inn i c
      · refine far_in hp hl hh g.inn (least_holds ts low high) i ?_
        rw [farL_out]
        exact List.mem_filter.mpr ⟨q, by rw [decide_eq_false c]; rfl⟩
theorem Grw.len {ts : List Th} {low high : Int} {cs : List Nat} (g : Grw ts low high cs) : cs.length ≤ ts.length := few_nat (asc_nodup g.asc) g.lt
theorem Grw.more {ts : List Th} {low high : Int} {cs : List Nat} (g : Grw ts low high cs) (n : growL ts low high cs ≠ cs) : cs.length < (growL ts low high cs).length := by
  have h1 : cs.length ≤ (growL ts low high cs).length := len_le_nat (asc_nodup g.asc) fun i m => (mem_grow g.lt).mpr (.inl m)
  refine Nat.lt_of_le_of_ne h1 fun e => n ?_
  refine asc_same (grow_asc ..) g.asc fun i => ⟨fun m => ?_, fun m => (mem_grow g.lt).mpr (.inl m)⟩
  refine Classical.byContradiction fun c => ?_
  have := len_le_nat (l := i :: cs) (T := growL ts low high cs) (List.nodup_cons.mpr ⟨c, asc_nodup g.asc⟩) fun j mj => by
    rcases List.mem_cons.mp mj with q | q
    · rw [q]; exact m
    · exact (mem_grow g.lt).mpr (.inl q)
  rw [List.length_cons] at this
  omega
theorem Grw.done {ts : List Th} {low high : Int} {cs : List Nat} (g : Grw ts low high cs) (hp : Pos ts) (hl : low ≤ 0) (hh : 0 ≤ high) (e : growL ts low high cs = cs) : cs = leastS ts low high := by
  have hf : farL cs ts low high = [] := by
    rw [farL_out]
    refine List.filter_eq_nil_iff.mpr fun i m => ?_
    have : i ∈ cs := by rw [← e]; exact (mem_grow g.lt).mpr (.inr m)
    rw [decide_eq_true this]
    exact Bool.false_ne_true
  refine asc_same g.asc (leastS_asc ts low high) fun i => ?_
  rw [mem_leastS]
  exact ⟨g.inn i, least_in hp hl hh hf i⟩
def natL (cs : List Nat) : PyData := .list ((cs.map fun (i : Nat) => (i : Int)).map .int)
theorem natL_dp {K : PySem.W.Frag} {H : Hp} {a : Addr} {cs : List Nat} (h : SqL K H a (nV cs)) : Dp K H (.ref a) (natL cs) := by
  have e : nV cs = iV (cs.map fun (i : Nat) => (i : Int)) := by unfold nV iV; rw [List.map_map]; rfl
  rw [e] at h
  exact .lst h (dp_ints _)
theorem natL_eqv (cs ds : List Nat) : PyData.eqv (natL cs) (natL ds) = decide (cs = ds) := by
  show PyData.eqv (.list _) (.list _) = _
  rw [PyData.eqv, PySem.W.ked_eqvAll]
  by_cases h : cs = ds
  · rw [h, decide_eq_true rfl, decide_eq_true rfl]
  · rw [decide_eq_false h]
    refine decide_eq_false fun e => h ?_
    have := congrArg (List.map Int.toNat) e
    rw [List.map_map, List.map_map] at this
    have id' : (Int.toNat ∘ fun (i : Nat) => (i : Int)) = id := by funext i; exact Int.toNat_natCast i
    rwa [id', List.map_id, List.map_id] at this
def spGrown (K : PySem.W.Frag) : Sp := fun vs H Q _ => ∃ (x : V) (low high : Int) (ts : List Th), vs = [x, .int low, .int high] ∧ Dp K H x (.tuple (ts.map Th.d)) ∧ ts.length ≤ 400 ∧ GoodTs ts ∧ Pos ts ∧ low ≤ 0 ∧ 0 ≤ high ∧
  ∀ p H', Same H H' → SqT K H' p (nV (leastS ts low high)) → Q (.ref p) H'
def GW (K : PySem.W.Frag) (H : Hp) (x : V) (low high : Int) (ts : List Th) (m : Nat) (σ : L2.St) (H' : Hp) : Prop := ∃ (cs : List Nat) (f : Addr) (late : V) (dl : PyData), σ = [some x, some (.int low), some (.int high), some (.ref f), some late] ∧ Same H H' ∧ H' f = some (.lst (nV cs)) ∧ Dp K H' late dl ∧ Grw ts low high cs ∧
  ((dl = .none ∧ m = ts.length + 2) ∨ ∃ ds, dl = natL ds ∧ Grw ts low high ds ∧ cs = growL ts low high ds ∧ m = ts.length + 1 - ds.length)
theorem natL_shaped (cs : List Nat) : SeqAt.shaped (natL cs) = true := shaped_iV _
section
variable {P : Program} {w : World} {K : PySem.W.Frag} {mg : Str → Option Value} {base : Heap}
theorem ok_law_grown (T : Txt K mg) : FnOk P w K mg base CX0 3 T.f__law_grown T.d__law_grown ["_law_things_here", "_law_low", "_law_high"] (spGrown K) := by
  have nd := sc__law_grown.nd
  refine T.F__law_grown.ok sc__law_grown (fun vs H Q E h => ?_) (fun cdv A outer s H vs Q E hr h => ?_)
  · obtain ⟨x, low, high, ts, rfl, _⟩ := h
    rfl
  obtain ⟨x, low, high, ts, rfl, hd, hts, hg, hpos, hl0, hh0, k⟩ := h
  have G__law_far : FnOk P w K mg base CX0 2 _ _ _ (spOut K) := ok_law_far T
  have hr__law_far := hr
  refine ⟨_, (pss_cons (ps_par (i := 3) (j := 4) rfl nd rfl rfl (by decide) rfl rfl (pa_cons (pe_lst pa_nil) (pa_cons pe_non pa_nil)) (by rfl))
      (pss_cons (ps_while PassesOwn.never (pt_cmpR (op_neD hr.units) (pv 3) (pv 4) (nomark _)) (pss_cons (ps_set (i := 4) nd rfl (Or.inl rfl) (pv 3))
      (pss_one (ps_set (i := 3) nd rfl (Or.inl rfl) (pe_callB (call_sortedN (by rfl)) (by rfl) T.z_sorted (by decide +kernel) (pa_cons (pe_callTy (call_setN (by rfl)) (by rfl) T.z_set (by decide +kernel) (pa_cons (pe_op op_cat (pv 4) (pe_call G__law_far hr__law_far rfl T.m__law_far T.k__law_far T.b__law_far .nil pass0 (pa_cons (pv 0) (pa_cons (pv 1) (pa_cons (pv 2) (pa_cons (pv 4) pa_nil)))))) pa_nil)) pa_nil))))))
      (pss_one (ps_ret (pe_callTy call_tuple_of (by rfl) T.z_tuple (by decide +kernel) (pa_cons (pv 3) pa_nil)))))), ?_⟩
  refine ⟨(by show 0 ≤ sizeLine; decide), fun f0 hf0 => ?_⟩
  have e0 := same_new hf0 (.lst [])
  refine ⟨_, _, rfl, ?_⟩
  refine ⟨GW K H x low high ts, ⟨_, [], f0, .non, .none, rfl, e0, upd_same, .non, Grw.nil _ _ _, .inl ⟨rfl, rfl⟩⟩, ?_⟩
  rintro m σ H' ⟨cs, f, late, dl, rfl, e, ef, hdl, hgr, hm⟩
  have hsl : SeqAt.shaped dl = true := by
    rcases hm with ⟨rfl, _⟩ | ⟨ds, rfl, _⟩
    · rfl
    · exact natL_shaped ds
  refine ⟨_, rfl, _, rfl, natL cs, dl, natL_dp (SqL.of ef), hdl, natL_shaped cs, hsl, _, rfl, ?_⟩
  have hcl := hgr.len
  have stop : PyData.eqv (natL cs) dl = true → cs = leastS ts low high := fun q => by
    rcases hm with ⟨rfl, _⟩ | ⟨ds, rfl, g, e1, _⟩
    · cases q
    · rw [natL_eqv] at q
      have q := of_decide_eq_true q
      subst q
      exact hgr.done hpos hl0 hh0 e1.symm
  have less : PyData.eqv (natL cs) dl = false → ts.length + 1 - cs.length < m := fun q => by
    rcases hm with ⟨rfl, rfl⟩ | ⟨ds, rfl, g, e1, rfl⟩
    · omega
    · rw [natL_eqv] at q
      have q := of_decide_eq_false q
      have := g.more (fun z => q (by rw [e1]; exact z))
      rw [← e1] at this
      have := g.len
      omega
  cases hq : PyData.eqv (natL cs) dl with
  | true =>
    refine iteF ?_
    have es := stop hq
    rw [es] at ef
    refine ⟨_, rfl, f, _, rfl, .inl ⟨SqL.of ef, fun t ht => ?_⟩⟩
    exact k t _ (e.trans (same_new ht _)) (SqT.of upd_same)
  | false =>
    refine iteT ?_
    refine ⟨fun σ' H'' => ∃ m', m' < m ∧ GW K H x low high ts m' σ' H'', fun _ _ z => z, ?_⟩
    refine ⟨_, rfl, ?_⟩
    refine ⟨_, rfl, _, rfl, _, rfl, _, rfl, _, rfl, x, f, low, high, ts, cs, rfl, dp_same e hd, .inl (SqL.of ef), by omega, hg, fun o H1 e1 ho eo => ?_⟩
    have ol := outL_len ts low high cs
    refine ⟨f, o, _, _, rfl, rfl, e1 _ _ ef, eo, by rw [nV_len, nV_len]; exact Nat.le_of_lt (szl (by omega)), fun p hp => ?_⟩
    have e2 := same_new hp (.lst (nV cs ++ nV (outL cs ts low high)))
    have en : nV cs ++ nV (outL cs ts low high) = iV ((cs ++ outL cs ts low high).map fun (i : Nat) => (i : Int)) := by
      unfold nV iV
      rw [List.map_append, List.map_append, List.map_map, List.map_map]
      rfl
    refine ⟨p, (cs ++ outL cs ts low high).map fun (i : Nat) => (i : Int), rfl, .inl (SqL.of (by rw [← en]; exact upd_same)), by rw [List.length_map, List.length_append]; omega, fun a c ha hc => ?_⟩
    rw [List.length_map, List.length_append] at hc
    have e3 := same_new ha (SetO w a (fun j => decide (j ∈ (cs ++ outL cs ts low high).map fun (i : Nat) => (i : Int))) c)
    refine ⟨a, _, c, rfl, upd_same, by omega, fun zs p2 hz hzm hp2 => ?_⟩
    have e4 := same_new hp2 (.lst (iV zs))
    have ez : zs = (growL ts low high cs).map fun (i : Nat) => (i : Int) := asc_int (grow_asc ..) hz fun k => by
      rw [hzm k, decide_eq_true_iff, List.mem_map]
      refine ⟨fun ⟨i, m1, m2⟩ => ⟨i, (mem_grow hgr.lt).mpr (List.mem_append.mp m1), m2⟩, fun ⟨i, m1, m2⟩ => ⟨i, List.mem_append.mpr ((mem_grow hgr.lt).mp m1), m2⟩⟩
    have ezn : iV zs = nV (growL ts low high cs) := by rw [ez]; unfold iV nV; rw [List.map_map]; rfl
    refine ⟨_, less hq, growL ts low high cs, p2, .ref f, natL cs, rfl, (((e.trans e1).trans e2).trans e3).trans e4, by rw [upd_same, ezn], ?_, hgr.grow hpos hl0 hh0, .inr ⟨cs, rfl, hgr, rfl, rfl⟩⟩
    exact natL_dp (SqL.of ((((e1.trans e2).trans e3).trans e4) _ _ ef))
end
end Lk

set_option Elab.async false
set_option linter.all false
set_option maxRecDepth 100000
set_option maxHeartbeats 4000000
set_option pp.maxSteps 1500
namespace Lk
open PySem PySem.Spec PyProof.Rows L2
/-! ### data and a feed -/
theorem call_setW {X : Cx} {w : World} (e : X.w = w) (hc : X.calm = true) : CallR X (.type "set") (rSetN X.K w) := e ▸ call_setN hc
theorem call_sortW {X : Cx} {w : World} (e : X.w = w) (hc : X.calm = true) : CallR X (.builtin "sorted") (rSortN w) := e ▸ call_sortedN hc
def rTupS (K : PySem.W.Frag) : List V → Hp → VK → Prop := fun xs H Q => ∃ p ys, xs = [V.ref p] ∧ ((SqL K H p ys ∧ ∀ l, H l = none → Q (.ref l) (upd H l (.tup ys))) ∨ SqT K H p ys ∧ Q (.ref p) H)
theorem call_tupleK {X : Cx} {K : PySem.W.Frag} (e : X.K = K) : CallR X (.type "tuple") (rTupS K) := e ▸ call_tuple_of
section
variable {K : PySem.W.Frag} {H H' : Hp} {l q : Addr} {ns : List Int}
theorem seqT_offF {a : Addr} {xs : List V} (f : Feed K H l q ns) (h : SqT K H a xs) : SqT K (del H l) a xs := by
  obtain ⟨_, _, _, hl, _⟩ := f
  rcases h with (h | ⟨o, h⟩) | h
  · exact .inl (.inl (by rw [del_ne (fun z => by rw [z, hl] at h; cases h)]; exact h))
  · exact .inl (.inr ⟨o, by rw [del_ne (fun z => by rw [z, hl] at h; cases h)]; exact h⟩)
  · exact .inr h
mutual
theorem dp_offF (f : Feed K H l q ns) : ∀ {v : V} {d : PyData}, noL d = true → Dp K H v d → Dp K (del H l) v d
  | _, _, _, .non => .non
  | _, _, _, .bl b => .bl b
  | _, _, _, .int i => .int i
  | _, _, _, .str x => .str x
  | _, _, n, .lst h a => nomatch n
  | _, _, n, .tup h a => .tup (seqT_offF f h) (dpAll_offF f n a)
theorem dpAll_offF (f : Feed K H l q ns) : ∀ {vs : List V} {ds : List PyData}, noLs ds = true → DpAll K H vs ds → DpAll K (del H l) vs ds
  | _, _, _, .nil => .nil
  | _, _, n, .cons a b => .cons (dp_offF f (Bool.and_eq_true_iff.mp n).1 a) (dpAll_offF f (Bool.and_eq_true_iff.mp n).2 b)
end
theorem FI.ext {H2 : Hp} (f : FI K H l q ns H') (e : Same H' H2) : FI K H l q ns H2 := by
  obtain ⟨⟨a, b, t, h1, h2, h3, h4⟩, s⟩ := f
  exact ⟨⟨a, b, t, e _ _ h1, Same.seq (same_del l e) h2, h3, h4⟩, s.trans (same_del l e)⟩
theorem FI.dp {v : V} {d : PyData} (hf : Feed K H l q ns) (f : FI K H l q ns H') (n : noL d = true) (h : Dp K H v d) : Dp K H' v d := dp_same (del_le H' l) (dp_same f.s (dp_offF hf n h))
theorem FI.dps {vs : List V} {ds : List PyData} (hf : Feed K H l q ns) (f : FI K H l q ns H') (n : noLs ds = true) (h : DpAll K H vs ds) : DpAll K H' vs ds := dpAll_same (del_le H' l) (dpAll_same f.s (dpAll_offF hf n h))
theorem FI.sq {a : Addr} {xs : List V} (hf : Feed K H l q ns) (f : FI K H l q ns H') (h : SqT K H a xs) : SqT K H' a xs := seqT_same (del_le H' l) (seqT_same f.s (seqT_offF hf h))
theorem FI.lst {a : Addr} {xs : List V} (hf : Feed K H l q ns) (f : FI K H l q ns H') (h : H a = some (.lst xs)) : H' a = some (.lst xs) := by
  obtain ⟨_, _, _, hl, _⟩ := hf
  exact Same.off f.s (fun z => by rw [z, hl] at h; cases h) h
end
theorem noLs_ints : ∀ cs : List Nat, noLs (cs.map fun (i : Nat) => PyData.int (i : Int)) = true
  | [] => rfl
  | c :: cs => noLs_ints cs
theorem noL_nat (cs : List Nat) : noL (natD cs) = true := noLs_ints cs
theorem noLs_nats : ∀ css : List (List Nat), noLs (css.map natD) = true
  | [] => rfl
  | c :: css => by
    show (noL (natD c) && noLs (css.map natD)) = true
    rw [noL_nat, noLs_nats css]; rfl
theorem noLs_ths : ∀ ts : List Th, noLs (ts.map Th.d) = true
  | [] => rfl
  | t :: ts => by
    show (noL t.d && noLs (ts.map Th.d)) = true
    rw [noLs_ths ts]
    cases t <;> rfl
theorem noL_ths (ts : List Th) : noL (.tuple (ts.map Th.d)) = true := noLs_ths ts
/-- a list of choices, filled while draws go on -/
structure UD (K : PySem.W.Frag) (H : Hp) (l p : Addr) (css : List (List Nat)) : Prop where
  ne : p ≠ l
  ex : ∃ xs, H p = some (.lst xs) ∧ DpAll K (del (del H l) p) xs (css.map natD)
theorem UD.draw {K : PySem.W.Frag} {H H' : Hp} {l p : Addr} {css : List (List Nat)} (u : UD K H l p css) (e : Same (del H l) (del H' l)) : UD K H' l p css := by
  obtain ⟨n, xs, h1, h2⟩ := u
  exact ⟨n, xs, Same.off e n h1, dpAll_same (same_del p e) h2⟩
theorem UD.ext {K : PySem.W.Frag} {H H' : Hp} {l p : Addr} {css : List (List Nat)} (u : UD K H l p css) (e : Same H H') : UD K H' l p css := u.draw (same_del l e)
theorem UD.put {K : PySem.W.Frag} {H : Hp} {l p : Addr} {css : List (List Nat)} {cs : List Nat} {xs : List V} {v : V} (u : UD K H l p css) (h1 : H p = some (.lst xs)) (hv : Dp K (del (del H l) p) v (natD cs)) : UD K (upd H p (.lst (xs ++ [v]))) l p (css ++ [cs]) := by
  obtain ⟨n, ys, g1, g2⟩ := u
  rw [h1] at g1
  obtain rfl := HO.lst.inj (Option.some.inj g1)
  refine ⟨n, _, upd_same, ?_⟩
  rw [del_comm, del_upd, del_comm, List.map_append]
  exact dpAll_app g2 hv
/-- a choice: some jumps, in order -/
structure Chc (ts : List Th) (cs : List Nat) : Prop where
  asc : cs.Pairwise (· < ·)
  jmp : ∀ i ∈ cs, i ∈ jmps ts
theorem Chc.sub {ts : List Th} {cs ds : List Nat} (c : Chc ts cs) (h : ds.Sublist cs) : Chc ts ds := ⟨c.asc.sublist h, fun i m => c.jmp i (h.subset m)⟩
theorem Chc.all (ts : List Th) : Chc ts (jmps ts) := ⟨List.Pairwise.sublist (List.filter_sublist ..) (List.pairwise_lt_range ..), fun _ m => m⟩
theorem Chc.least (ts : List Th) (low high : Int) : Chc ts (leastS ts low high) := ⟨leastS_asc .., fun i m => leastL_jmp i (mem_leastS.mp m)⟩
theorem Chc.nil (ts : List Th) : Chc ts [] := ⟨List.Pairwise.nil, fun _ m => nomatch m⟩
theorem jmps_lt {ts : List Th} {i : Nat} (h : i ∈ jmps ts) : i < ts.length := List.mem_range.mp (List.mem_filter.mp h).1
theorem Chc.len {ts : List Th} {cs : List Nat} (c : Chc ts cs) : cs.length ≤ ts.length := few_nat (asc_nodup c.asc) fun i m => jmps_lt (c.jmp i m)
theorem Chc.at {ts : List Th} {cs : List Nat} (c : Chc ts cs) : ∀ i ∈ cs, jmpAt ts (i : Int) = true := fun i m => by
  have h := c.jmp i m
  unfold jmpAt
  rw [decide_eq_true (show (i : Int) < ts.length by have := jmps_lt h; omega), Bool.true_and, Int.toNat_natCast]
  exact (List.mem_filter.mp h).2
theorem okTs_of {ts : List Th} (hg : GoodTs ts) (hp : Pos ts) : okTs ts := by
  refine List.all_eq_true.mpr fun d m => ?_
  obtain ⟨t, mt, rfl⟩ := List.mem_map.mp m
  obtain ⟨i, hi, rfl⟩ := List.getElem_of_mem mt
  have e : ts.getD i (.len 0) = ts[i] := by rw [List.getD_eq_getElem?_getD, List.getElem?_eq_getElem hi]; rfl
  cases c : ts[i] with
  | len n => exact decide_eq_true (hp i n (by rw [e, c]))
  | jmp t =>
    have := hg i t (by rw [e, c])
    show ((("jump" : Str) == ("jump" : Str)) && (decide (0 ≤ (t : Int)) && decide ((t : Int) ≤ ((ts.map Th.d).length : Nat)))) = true
    rw [List.length_map, decide_eq_true (Int.natCast_nonneg t), decide_eq_true (show (t : Int) ≤ (ts.length : Nat) by omega)]
    rfl
def dropK (cs : List Nat) (m : Nat) : List Nat := cs.filter fun k => !decide (k = m)
def mergeN (ts : List Th) (cs : List Nat) : List Nat := (List.range ts.length).filter fun i => decide (i ∈ cs)
theorem mem_merge {ts : List Th} {cs : List Nat} (h : ∀ i ∈ cs, i < ts.length) {i : Nat} : i ∈ mergeN ts cs ↔ i ∈ cs := by
  unfold mergeN
  rw [List.mem_filter, decide_eq_true_iff, List.mem_range]
  exact ⟨fun q => q.2, fun q => ⟨h i q, q⟩⟩
theorem Chc.merge {ts : List Th} {cs ds : List Nat} (c : Chc ts cs) (d : Chc ts ds) : Chc ts (mergeN ts (cs ++ ds)) :=
  ⟨List.Pairwise.sublist (List.filter_sublist ..) (List.pairwise_lt_range ..), fun i m => by
    have m := of_decide_eq_true (List.mem_filter.mp m).2
    exact (List.mem_append.mp m).elim (c.jmp i) (d.jmp i)⟩
theorem cut_nV (l : List Nat) (a b : Option Int) : ∃ m : List Nat, cutV (nV l) a b = nV m ∧ m.length ≤ l.length := by
  refine ⟨(l.drop (HT.sIx (nV l).length 0 a)).take (HT.sIx (nV l).length (nV l).length b - HT.sIx (nV l).length 0 a), ?_, ?_⟩
  · unfold cutV nV
    rw [List.map_take, List.map_drop]
  · rw [List.length_take, List.length_drop]; omega
theorem nV_inj : ∀ {l m : List Nat}, nV l = nV m → l = m
  | [], [], _ => rfl
  | a :: l, b :: m, h => by
    have h' : V.int (a : Int) :: nV l = V.int (b : Int) :: nV m := h
    obtain ⟨h1, h2⟩ := List.cons.inj h'
    have := V.int.inj h1
    rw [nV_inj h2, show a = b by omega]
  | [], b :: m, h => nomatch h
  | a :: l, [], h => nomatch h
theorem due_drops {ts : List Th} {low high : Int} (hp : Pos ts) (hl : low ≤ 0) (hh : 0 ≤ high) {m : Nat} (h : m ∈ leastS ts low high) : farL (dropK (leastS ts low high) m) ts low high ≠ [] := fun e => by
  have := least_in hp hl hh e m (mem_leastS.mp h)
  have := (List.mem_filter.mp this).2
  rw [decide_eq_true rfl] at this
  cases this
theorem far_all (ts : List Th) (low high : Int) : farL (jmps ts) ts low high = [] := by
  rw [farL_out]
  refine List.filter_eq_nil_iff.mpr fun i m => ?_
  rw [decide_eq_true (List.mem_filter.mp m).1]
  exact Bool.false_ne_true
/-- all but two lists stays -/
def Two (p r : Addr) (H H' : Hp) : Prop := Same (del (del H p) r) (del (del H' p) r)
theorem Two.ref (p r : Addr) (H : Hp) : Two p r H H := Same.refl _
theorem Two.ext {p r : Addr} {H H' H2 : Hp} (t : Two p r H H') (e : Same H' H2) : Two p r H H2 := Same.trans t (same_del r (same_del p e))
theorem Two.put1 {p r : Addr} {H H' : Hp} (t : Two p r H H') (o : HO) : Two p r H (upd H' p o) := by
  unfold Two
  rw [del_upd]
  exact t
theorem Two.put2 {p r : Addr} {H H' : Hp} (t : Two p r H H') (o : HO) : Two p r H (upd H' r o) := by
  unfold Two
  rw [del_comm (upd H' r o), del_upd, del_comm H']
  exact t
theorem Two.dps {K : PySem.W.Frag} {p r : Addr} {H H' : Hp} {ys zs vs : List V} {ds : List PyData} (t : Two p r H H') (h1 : H p = some (.lst ys)) (h2 : H r = some (.lst zs)) (n : p ≠ r) (no : noLs ds = true) (h : DpAll K H vs ds) : DpAll K H' vs ds :=
  dpAll_same ((del_le _ r).trans (del_le _ p)) (dpAll_same t (dpAll_off (ys := zs) (by rw [del_ne n.symm]; exact h2) no (dpAll_off h1 no h)))
theorem Two.dp {K : PySem.W.Frag} {p r : Addr} {H H' : Hp} {ys zs : List V} {v : V} {d : PyData} (t : Two p r H H') (h1 : H p = some (.lst ys)) (h2 : H r = some (.lst zs)) (n : p ≠ r) (no : noL d = true) (h : Dp K H v d) : Dp K H' v d :=
  dp_same ((del_le _ r).trans (del_le _ p)) (dp_same t (dp_off (ys := zs) (by rw [del_ne n.symm]; exact h2) no (dp_off h1 no h)))
theorem Two.at {p r a : Addr} {H H' : Hp} {o : HO} (t : Two p r H H') (n1 : a ≠ p) (n2 : a ≠ r) (h : H a = some o) : H' a = some o := by
  have := t a o (by rw [del_ne n2, del_ne n1]; exact h)
  rw [del_ne n2, del_ne n1] at this
  exact this
theorem dp_bls {K : PySem.W.Frag} {H : Hp} : ∀ bs : List Bool, DpAll K H (bs.map V.bl) (bs.map PyData.bool)
  | [] => .nil
  | b :: bs => .cons (.bl b) (dp_bls bs)
theorem FI.two {K : PySem.W.Frag} {H HB HC : Hp} {l q p r : Addr} {ns : List Int} (hf : Feed K H l q ns) (f : FI K H l q ns HB) (tw : Two p r HB HC) (hp : H p = none) (hr : H r = none) : FI K H l q ns HC := by
  have npl := new_ne hf hp
  have nrl := new_ne hf hr
  have s : Same (del H l) (del HC l) := fun b o e => by
    by_cases c : b = l
    · subst c; rw [del_same] at e; cases e
    · have e1 := f.s b o e
      rw [del_ne c] at e e1 ⊢
      exact tw.at (fun z => by rw [z, hp] at e; cases e) (fun z => by rw [z, hr] at e; cases e) e1
  obtain ⟨a, b, t, h1, h2, h3, h4⟩ := f.f
  obtain ⟨_, _, _, _, g2, _, _⟩ := hf
  exact ⟨⟨a, b, t, tw.at npl.symm nrl.symm h1, s.seq g2, h3, h4⟩, s⟩
theorem natD_shaped (cs : List Nat) : SeqAt.shaped (natD cs) = true := by
  have e : natD cs = .tuple ((cs.map fun (i : Nat) => (i : Int)).map .int) := by unfold natD; rw [List.map_map]; rfl
  rw [e]
  unfold SeqAt.shaped
  rw [Bool.and_eq_true_iff]
  refine ⟨lay_ints _, decide_eq_true ?_⟩
  simp only [PyData.depth, dep_ints]
  omega
theorem natD_none (cs : List Nat) : PyData.eqv (natD cs) (.tuple []) = decide (cs = []) := by
  cases cs with
  | nil => rfl
  | cons a r => rfl
def blsD (bs : List Bool) : PyData := .list (bs.map .bool)
theorem bls_rp {bs : List Bool} (h : bs.length ≤ 1000) : Rp (blsD bs) := by
  refine ⟨rfl, smBs_map fun _ _ => rfl, ?_, ?_⟩
  · show 1 + nodesL (bs.map .bool) ≤ 300000
    have := nodesL_map (f := PyData.bool) (l := bs) (k := 1) fun _ _ => Nat.le_refl _
    omega
  · show PyData.depthAll (bs.map .bool) + 1 ≤ 100
    have := depthAll_map (f := PyData.bool) (l := bs) (k := 0) fun _ _ => Nat.le_refl _
    omega
def spHeldR (K : PySem.W.Frag) : Sp := fun vs H Q _ => ∃ (l due q : Addr) (x : V) (ns : List Int) (low high : Int) (ts : List Th), vs = [.ref l, x, .int low, .int high, .ref due] ∧ Feed K H l q ns ∧ Dp K H x (.tuple (ts.map Th.d)) ∧ SqT K H due (nV (leastS ts low high)) ∧
  ts.length ≤ 400 ∧ GoodTs ts ∧ Pos ts ∧ low ≤ 0 ∧ 0 ≤ high ∧ ∀ H', FI K H l q ns H' → Q (.bl true) H'
section
variable {P : Program} {w : World} {K : PySem.W.Frag} {mg : Str → Option Value} {base : Heap}
theorem ok_held_right (T : Txt K mg) : FnG P w K mg base CX0 6 T.f__law_are_held_right T.d__law_are_held_right ["_law_feed_here", "_law_things_here", "_law_low", "_law_high", "_law_due"] (spHeldR K) := by
  have nd := sc__law_are_held_right.nd
  refine okG T.F__law_are_held_right sc__law_are_held_right (fun vs H Q E h => ?_) (fun cdv A outer s H vs Q E gu0 hr h => ?_)
  · obtain ⟨l, due, q, x, ns, low, high, ts, rfl, _⟩ := h
    rfl
  obtain ⟨l, due, q, x, ns, low, high, ts, rfl, hf, hd, hdue, hts, hg, hpos, hl0, hh0, k⟩ := h
  have gu : (A.deeper (envOfC "_law_are_held_right" (defScope s__law_are_held_right) s.heap.objs.size T.f__law_are_held_right cdv)).guards = some [] := gu0
  have G__law_jumps : FnOk P w K mg base CX0 1 _ _ _ (spJumps K) := ok_law_jumps T
  have hr__law_jumps : Room 1 _ := hr.mono (by omega)
  have G__law_some : FnOk P w K mg base CX0 2 _ _ _ (spSome K) := ok_law_some T
  have hr__law_some : Room 2 _ := hr.mono (by omega)
  have G_holds_long : FnOk P w K mg base CX0 5 _ _ _ (spHoldG K) := ok_holdG T
  have hr_holds_long : Room 5 _ := hr
  have G__law_is_held : FnOk P w K mg base CX0 3 _ _ _ (spIsHeld K) := ok_law_is_held T
  have hr__law_is_held : Room 3 _ := hr.mono (by omega)
  have G__law_same : FnG P w K mg base CX0 1 _ _ _ (spSame K) := ok_same T
  have hr__law_same : Room 1 _ := hr.mono (by omega)
  refine ⟨_, (pss_cons (ps_asg (pe_tup (pa_cons (pe_callTy call_tuple_of (by rfl) T.z_tuple (by decide +kernel) (pa_cons (pe_call G__law_jumps hr__law_jumps rfl T.m__law_jumps T.k__law_jumps T.b__law_jumps .nil pass0 (pa_cons (pv 1) pa_nil)) pa_nil)) (pa_cons (pe_lst pa_nil) (pa_cons (pe_lst pa_nil) pa_nil)))) (pg_tup rfl (pgs_cons (pg_name (i := 5) nd rfl (Or.inr rfl)) (pgs_cons (pg_name (i := 6) nd rfl (Or.inl rfl)) (pgs_cons (pg_name (i := 7) nd rfl (Or.inl rfl)) pgs_nil)))))
      (pss_cons (ps_set (i := 8) nd rfl (Or.inl rfl) (pe_op op_cat (pe_lst (pa_cons (pv 4) (pa_cons (pv 5) (pa_cons (pe_tup pa_nil) pa_nil)))) (pe_lc (own := [("_law_lap", 10)]) (g := gName 10) (tt := tYes) (by rfl) nd (pi_range1 (by rfl) T.z_range (pa_cons pe_int pa_nil)) (blkOk_by (own := [("_law_lap", 10)]) (N := sl__law_are_held_right) (sc := defScope s__law_are_held_right) (by decide +kernel)) (fun _ _ _ _ _ => pg_name (i := 10) nd rfl (Or.inl rfl)) (fun _ _ _ _ _ => pts_nil) (fun _ _ _ _ _ => (pe_call G__law_some hr__law_some rfl T.m__law_some T.k__law_some T.b__law_some .nil pass0 (pa_cons (pv 0) (pa_cons (pv 5) pa_nil)))))))
      (pss_cons (ps_set (i := 8) nd rfl (Or.inl rfl) (pe_op op_cat (pv 8) (pe_lc (own := [("_law_one", 9)]) (g := gName 9) (tt := tYes) (by rfl) nd (pi_tup (pe_op op_catS (pe_slice sl_tupS (pv 4) po_none (po_some pe_int)) (pe_slice sl_tupS (pv 4) (po_some (pe_un un_neg pe_int)) po_none))) (blkOk_by (own := [("_law_one", 9)]) (N := sl__law_are_held_right) (sc := defScope s__law_are_held_right) (by decide +kernel)) (fun _ _ _ _ _ => pg_name (i := 9) nd rfl (Or.inr rfl)) (fun _ _ _ _ _ => pts_nil) (fun _ _ _ _ _ => (pe_callTy (T := "tuple") (call_tupleK (K := K) rfl) (by rfl) T.z_tuple (by decide +kernel) (pa_cons (by exact (pe_lc (own := [("_law_k", 11)]) (g := gName 11) (by rfl) nd (pi_tupK (K := K) rfl (pv 4)) (by exact blkOk_by (own := [("_law_k", 11)]) (N := sl__law_are_held_right) (by kernel_rfl)) (fun _ _ _ _ _ => pg_name (i := 11) nd rfl (Or.inl rfl)) (fun _ _ _ _ _ => (pts_one (pt_cmpR op_ne (pv 11) (pv 9) (nomark _)))) (fun _ _ _ _ _ => (pv 11)))) pa_nil))))))
      (pss_cons (ps_expr (pe_bm PySem.F.plainAttrs_list PySem.F.slot_list_append PySem.F.type_list_append mt_append (pv 8) (pa_cons (pe_callTy call_tuple_of (by rfl) T.z_tuple (by decide +kernel) (pa_cons (pe_callB (call_sortW (w := w) rfl (by rfl)) (by rfl) T.z_sorted (by decide +kernel) (pa_cons (pe_callTy (call_setW (w := w) rfl (by rfl)) (by rfl) T.z_set (by decide +kernel) (pa_cons (pe_op op_catS (pv 4) (pe_call G__law_some hr__law_some rfl T.m__law_some T.k__law_some T.b__law_some .nil pass0 (pa_cons (pv 0) (pa_cons (pv 5) pa_nil)))) pa_nil)) pa_nil)) pa_nil)) pa_nil)))
      (pss_cons (ps_for PassesOwn.never rfl (pi_list (pv 8)) (pg_name (i := 9) nd rfl (Or.inl rfl))
      (pss_cons (ps_expr (pe_bm PySem.F.plainAttrs_list PySem.F.slot_list_append PySem.F.type_list_append mt_append (pv 6) (pa_cons (pe_call G_holds_long hr_holds_long rfl T.m_holds_long T.k_holds_long T.b_holds_long .nil pass0 (pa_cons (pv 1) (pa_cons (pv 2) (pa_cons (pv 3) (pa_cons (pv 9) pa_nil))))) pa_nil)))
      (pss_one (ps_expr (pe_bm PySem.F.plainAttrs_list PySem.F.slot_list_append PySem.F.type_list_append mt_append (pv 7) (pa_cons (pe_call G__law_is_held hr__law_is_held rfl T.m__law_is_held T.k__law_is_held T.b__law_is_held .nil pass0 (pa_cons (pv 1) (pa_cons (pv 2) (pa_cons (pv 3) (pa_cons (pv 9) pa_nil))))) pa_nil))))))
      (pss_cons (ps_if (PW.pt (pw_or (pt_cmpR op_notBl (pe_ix ix_list (pv 7) pe_int (fun _ _ => rfl)) pe_bl (nomark _)) (pw_or (pt_cmpR op_notBl (pe_ix ix_list (pv 7) pe_int (fun _ _ => rfl)) pe_bl (nomark _)) (pw_or1 (PW.pt (pw_and (pt_cmpR (op_neD hr.units) (pv 4) (pe_tup pa_nil) (nomark _)) (pw_and1 (pt_cmpR op_notBl (pe_ix ix_list (pv 7) pe_int (fun _ _ => rfl)) pe_bl (nomark _))))))))) (pss_one (ps_ret pe_bl)) pss_nil)
      (pss_cons (ps_expr (pe_bm PySem.F.plainAttrs_list PySem.F.slot_list_append PySem.F.type_list_append mt_append (pv 6) (pa_cons (by exact (pe_callKS (E := fun _ => E0) G_holds_long hr_holds_long rfl T.m_holds_long T.k_holds_long T.w_holds_long_chosen_high_low_things passAt0 (pk_cons (pe_ix ix_list (pv 8) pe_int (fun _ _ => rfl)) (pk_cons (pv 3) (pk_cons (pv 2) (pk_cons (pv 1) pk_nil)))))) pa_nil)))
      (pss_one (ps_ret (by exact (pe_callG G__law_same gu hr__law_same rfl T.m__law_same T.k__law_same T.b__law_same .nil pass0 (pa_cons (pv 6) (pa_cons (pe_op op_cat (pv 7) (pe_lst (pa_cons (pe_ix ix_list (pv 7) pe_int (fun _ _ => rfl)) pa_nil))) pa_nil))))))))))))), ?_⟩
  refine ⟨_, rfl, x, ts, rfl, hd, by omega, fun j H1 e1 hj ej => ?_⟩
  refine ⟨j, _, rfl, .inl ⟨SqL.of ej, fun t ht => ?_⟩⟩
  refine ⟨(by show 0 ≤ sizeLine; decide), fun p hp => ?_⟩
  refine ⟨(by show 0 ≤ sizeLine; decide), fun r hr2 => ?_⟩
  refine ⟨(by show 3 ≤ sizeLine; decide), fun tp htp => ?_⟩
  refine ⟨tp, _, rfl, SqT.of upd_same, rfl, _, _, rfl, _, _, rfl, _, _, rfl, rfl, ?_⟩
  obtain ⟨H4, e4, ht4, ep, er, npr, hp0, hr0, eH4⟩ : ∃ H4 : Hp, Same H H4 ∧ SqT K H4 t (nV (jmps ts)) ∧ H4 p = some (.lst []) ∧ H4 r = some (.lst []) ∧ p ≠ r ∧ H p = none ∧ H r = none ∧
      H4 = upd (upd (upd (upd H1 t (.tup (nV (jmps ts)))) p (.lst [])) r (.lst [])) tp (.tup [.ref t, .ref p, .ref r]) := by
    have a1 := same_new ht (.tup (nV (jmps ts)))
    have a2 := same_new hp (.lst [])
    have a3 := same_new hr2 (.lst [])
    have a4 := same_new htp (.tup [.ref t, .ref p, .ref r])
    refine ⟨_, (((e1.trans a1).trans a2).trans a3).trans a4, SqT.of (a4 _ _ (a3 _ _ (a2 _ _ upd_same))), a4 _ _ (a3 _ _ upd_same), a4 _ _ upd_same, fun z => ?_, none_of (e1.trans a1) hp, none_of ((e1.trans a1).trans a2) hr2, rfl⟩
    rw [← z, upd_same] at hr2
    cases hr2
  rw [← eH4]
  clear eH4
  have f4 := (FI.ref hf).ext e4
  have hdue4 := seqT_same e4 hdue
  have hd4 := dp_same e4 hd
  -- the first ones, and four drawn ones
  refine ⟨_, rfl, _, rfl, (by show 0 ≤ sizeLine; decide), fun t0 ht0 => ⟨(by show 3 ≤ sizeLine; decide), fun p1 hp1 => ?_⟩⟩
  obtain ⟨H5, e5, ep1, ht05, eH5⟩ : ∃ H5 : Hp, Same H4 H5 ∧ H5 p1 = some (.lst [.ref due, .ref t, .ref t0]) ∧ SqT K H5 t0 (nV []) ∧ H5 = upd (upd H4 t0 (.tup [])) p1 (.lst [.ref due, .ref t, .ref t0]) :=
    ⟨_, (same_new ht0 _).trans (same_new hp1 _), upd_same, SqT.of (same_new hp1 _ _ _ upd_same), rfl⟩
  rw [← eH5]
  clear eH5
  have f5 := f4.ext e5
  refine ⟨(4 : Int), rfl, by decide, by decide, fun D hD => ?_⟩
  have nDl := new_ne f5.f hD
  refine lc_range (lo := 0) (n := (4 : Int).toNat) (fun i H' => FI K H5 l q ns H' ∧ ∃ css, UD K H' l D css ∧ css.length = i ∧ ∀ cs ∈ css, Chc ts cs) ?_ ?_ ?_
  · refine ⟨(FI.ref f5.f).new f5.f hD _, [], ⟨nDl, [], upd_same, .nil⟩, rfl, fun _ m => nomatch m⟩
  · rintro i H' hi ⟨f, css, ud, hcl, hcs⟩
    refine ⟨rfl, ?_⟩
    refine ⟨_, rfl, _, rfl, l, t, q, ns, jmps ts, rfl, f.f, ?_, ?_, fun ms u H2 hs hu f2 => ?_⟩
    · exact seqT_same f.s (seqT_offF f5.f (seqT_same e5 ht4))
    · have := (Chc.all ts).len; omega
    · have ud2 := ud.draw f2.s
      obtain ⟨acc, eD, hacc⟩ := ud2.ex
      have hal := dp_len hacc
      rw [List.length_map] at hal
      refine ⟨acc, eD, szl (by omega), FI.put f5.f (f.draw f2.f f2.s) hD _, css ++ [ms], ud2.put eD (nat_dp (seqT_off hu (by rw [del_ne nDl]; exact eD))), by rw [List.length_append, hcl]; rfl, fun cs m => ?_⟩
      rcases List.mem_append.mp m with m | m
      · exact hcs cs m
      · rw [List.mem_singleton.mp m]; exact (Chc.all ts).sub hs
  · rintro H6 ⟨f6, css, ud, hcl, hcs⟩
    have hcl : css.length = 4 := hcl
    obtain ⟨acc, eD, hacc⟩ := ud.ex
    have hal := dp_len hacc
    rw [List.length_map] at hal
    refine ⟨p1, D, _, _, rfl, rfl, FI.lst f5.f f6 ep1, eD, by show 3 + acc.length ≤ sizeLine; exact Nat.le_of_lt (szl (by omega)), fun p2 hp2 => ?_⟩
    obtain ⟨H7, e7, ep2, eH7⟩ : ∃ H7 : Hp, Same H6 H7 ∧ H7 p2 = some (.lst ([.ref due, .ref t, .ref t0] ++ acc)) ∧ H7 = upd H6 p2 (.lst ([.ref due, .ref t, .ref t0] ++ acc)) := ⟨_, same_new hp2 _, upd_same, rfl⟩
    rw [← eH7]
    clear eH7
    have f7 := f6.ext e7
    have hdue7 := f7.sq f5.f (seqT_same e5 hdue4)
    obtain ⟨xs7, ex7⟩ : ∃ xs7, xs7 = [V.ref due, .ref t, .ref t0] ++ acc := ⟨_, rfl⟩
    rw [← ex7] at ep2
    have hx7 : DpAll K H7 xs7 ((leastS ts low high :: jmps ts :: [] :: css).map natD) := by
      rw [ex7]
      exact .cons (nat_dp hdue7) (.cons (nat_dp (f7.sq f5.f (seqT_same e5 ht4))) (.cons (nat_dp (f7.sq f5.f ht05)) (dpAll_same (((del_le _ D).trans (del_le _ l)).trans e7) hacc)))
    have hc7 : ∀ cs ∈ (leastS ts low high :: jmps ts :: [] :: css), Chc ts cs := fun cs m => by
      rcases List.mem_cons.mp m with rfl | m
      · exact Chc.least ..
      rcases List.mem_cons.mp m with rfl | m
      · exact Chc.all ts
      rcases List.mem_cons.mp m with rfl | m
      · exact Chc.nil ts
      exact hcs cs m
    have hl7 : xs7.length = 7 := by
      rw [ex7, List.length_append]; show 3 + acc.length = 7; omega
    have hdl := (Chc.least ts low high).len
    -- without one
    refine ⟨_, rfl, ?_⟩
    refine ⟨_, rfl, 4, rfl, due, _, rfl, hdue7, fun a1 H8 e8 ha1 => ?_⟩
    refine ⟨_, rfl, 2, rfl, -2, rfl, due, _, rfl, seqT_same e8 hdue7, fun a2 H9 e9 ha2 => ?_⟩
    have c1 : cutV (nV (leastS ts low high)) none (some 4) = nV ((leastS ts low high).take 4) := (cut_hi (n := 4)).trans (List.map_take ..).symm
    obtain ⟨m2, c2, l2⟩ := cut_nV (leastS ts low high) (some (-2)) none
    rw [c1] at ha1
    rw [c2] at ha2
    have l1 : ((leastS ts low high).take 4).length ≤ 4 := by rw [List.length_take]; omega
    refine ⟨a1, a2, _, _, rfl, rfl, seqT_same e9 ha1, ha2, by rw [nV_len, nV_len]; exact Nat.le_of_lt (szl (by omega)), fun a3 H10 e10 ha3 => ?_⟩
    have na : nV ((leastS ts low high).take 4) ++ nV m2 = nV ((leastS ts low high).take 4 ++ m2) := (List.map_append ..).symm
    rw [na] at ha3
    have las : ((leastS ts low high).take 4 ++ m2).length ≤ 404 := by rw [List.length_append]; omega
    have e710 := (e8.trans e9).trans e10
    have hdue10 := seqT_same e710 hdue7
    have first : ∀ m r, leastS ts low high = m :: r → ∃ r', (leastS ts low high).take 4 ++ m2 = m :: r' := fun m r e => ⟨_, by rw [e]; rfl⟩
    generalize (leastS ts low high).take 4 ++ m2 = as at ha3 las first
    refine ⟨a3, rfl, ⟨_, ha3⟩, fun D2 hD2 => ?_⟩
    refine lc_tup (K := K) (a := a3) (xs := nV as) (fun i H' => Same H10 H' ∧ ∃ ys, H' D2 = some (.lst ys) ∧ DpAll K (del H' D2) ys (((as.take i).map (dropK (leastS ts low high))).map natD)) ?_ ?_ ?_ ?_
    · exact ⟨same_new hD2 _, [], upd_same, .nil⟩
    · rintro i H' _ ⟨e, _⟩
      exact seqT_same e ha3
    · rintro i z H' hiz ⟨e, ys, eD2, hy⟩
      obtain ⟨m, hm, rfl⟩ := nV_get hiz
      have hi : i < as.length := (List.getElem?_eq_some_iff.mp hm).1
      have hyl := dp_len hy
      rw [List.length_map, List.length_map, List.length_take] at hyl
      have hdue' := seqT_same e hdue10
      refine ⟨rfl, ?_⟩
      refine ⟨_, rfl, due, rfl, ⟨_, hdue'⟩, fun D3 hD3 => ?_⟩
      refine lc_tup (K := K) (a := due) (xs := nV (leastS ts low high)) (fun j H2 => Same H' H2 ∧ H2 D3 = some (.lst (nV (((leastS ts low high).take j).filter fun k => !decide (k = m))))) ?_ ?_ ?_ ?_
      · exact ⟨same_new hD3 _, upd_same⟩
      · rintro j H2 _ ⟨e2, _⟩
        exact seqT_same e2 hdue'
      · rintro j z H2 hjz ⟨e2, eD3⟩
        obtain ⟨k', hk', rfl⟩ := nV_get hjz
        have sf := filter_step (fun k => !decide (k = m)) hk'
        have lf := List.length_filter_le (fun k => !decide (k = m)) ((leastS ts low high).take j)
        rw [List.length_take] at lf
        refine ⟨rfl, ?_⟩
        refine ⟨_, rfl, _, rfl, rfl, _, rfl, ?_⟩
        rw [sf]
        have ek : (!decide (V.int (k' : Int) = V.int (m : Int))) = !decide (k' = m) := by
          by_cases c : k' = m
          · rw [c, decide_eq_true rfl, decide_eq_true rfl]
          · rw [decide_eq_false c, decide_eq_false fun z => c (by have := V.int.inj z; omega)]
        rw [ek]
        refine ite2 (fun c => ?_) (fun c => ?_)
        · have c : (!decide (k' = m)) = true := c
          refine ⟨_, rfl, _, eD3, by rw [nV_len]; exact szl (by omega), same_mut e2 hD3, ?_⟩
          rw [upd_same, if_pos c, nV_snoc]
        · have c : ¬ (!decide (k' = m)) = true := c
          rw [if_neg c, List.append_nil]
          exact ⟨e2, eD3⟩
      · rintro H2 ⟨e2, eD3⟩
        rw [nV_len, List.take_length] at eD3
        refine ⟨D3, _, rfl, .inl ⟨SqL.of eD3, fun u hu => ?_⟩⟩
        have e3 := same_new hu (.tup (nV (dropK (leastS ts low high) m)))
        have eD2' := (e2.trans e3) _ _ eD2
        refine ⟨ys, eD2', szl (by omega), same_mut (e.trans (e2.trans e3)) hD2, ys ++ [.ref u], upd_same, ?_⟩
        rw [del_upd, List.take_succ, hm, List.map_append, List.map_append]
        refine dpAll_app (dpAll_same (same_del D2 (e2.trans e3)) hy) (nat_dp (cs := dropK (leastS ts low high) m) ?_)
        exact seqT_off (SqT.of upd_same) eD2'
    · rintro H11 ⟨e11, ys, eD2, hy⟩
      rw [nV_len, List.take_length] at hy
      have hyl := dp_len hy
      rw [List.length_map, List.length_map] at hyl
      have e711 := e710.trans e11
      refine ⟨p2, D2, _, _, rfl, rfl, e711 _ _ ep2, eD2, by rw [hl7]; exact Nat.le_of_lt (szl (by omega)), fun p3 hp3 => ?_⟩
      obtain ⟨H12, e12, ep3, eH12⟩ : ∃ H12 : Hp, Same H11 H12 ∧ H12 p3 = some (.lst (xs7 ++ ys)) ∧ H12 = upd H11 p3 (.lst (xs7 ++ ys)) := ⟨_, same_new hp3 _, upd_same, rfl⟩
      rw [← eH12]
      clear eH12
      have e712 := e711.trans e12
      have f12 := f7.ext e712
      have hx12 : DpAll K H12 (xs7 ++ ys) (((leastS ts low high :: jmps ts :: [] :: css) ++ as.map (dropK (leastS ts low high))).map natD) := by
        rw [List.map_append]
        exact dpAll_cat2 (dpAll_same e712 hx7) (dpAll_same ((del_le _ D2).trans e12) hy)
      have np3l : p3 ≠ l := new_ne (f7.ext e711).f hp3
      have u12 : UD K H12 l p3 ((leastS ts low high :: jmps ts :: [] :: css) ++ as.map (dropK (leastS ts low high))) :=
        ⟨np3l, _, ep3, dpAll_off (ys := xs7 ++ ys) (by rw [del_ne np3l]; exact ep3) (noLs_nats _) (dpAll_offF f12.f (noLs_nats _) hx12)⟩
      -- some more
      refine ⟨_, rfl, .inl ⟨rfl, _, SqL.of ep3⟩, ?_⟩
      have jl := (Chc.all ts).len
      have hdue12 := seqT_same e712 hdue7
      refine ⟨_, rfl, _, rfl, _, rfl, l, t, q, ns, jmps ts, rfl, f12.f, seqT_offF f12.f (f12.sq f5.f (seqT_same e5 ht4)), by omega, fun ms u H13 hs hu f13 => ?_⟩
      have ml := hs.length_le
      refine ⟨due, u, _, _, rfl, rfl, f13.sq f12.f hdue12, seqT_same (del_le H13 l) hu, by rw [nV_len, nV_len]; exact Nat.le_of_lt (szl (by omega)), fun v H14 e14 hv => ?_⟩
      have en : nV (leastS ts low high) ++ nV ms = iV ((leastS ts low high ++ ms).map fun (i : Nat) => (i : Int)) := by
        unfold nV iV
        rw [List.map_append, List.map_append, List.map_map, List.map_map]
        rfl
      rw [en] at hv
      refine ⟨v, (leastS ts low high ++ ms).map fun (i : Nat) => (i : Int), rfl, .inr hv, by rw [List.length_map, List.length_append]; omega, fun a c ha hc => ?_⟩
      rw [List.length_map, List.length_append] at hc
      have e15 := same_new ha (SetO w a (fun j => decide (j ∈ (leastS ts low high ++ ms).map fun (i : Nat) => (i : Int))) c)
      refine ⟨a, _, c, rfl, upd_same, by omega, fun zs p4 hz hzm hp4 => ?_⟩
      have e16 := same_new hp4 (.lst (iV zs))
      have cms : Chc ts ms := (Chc.all ts).sub hs
      have cmg := (Chc.least ts low high).merge cms
      have ez : zs = (mergeN ts (leastS ts low high ++ ms)).map fun (i : Nat) => (i : Int) := asc_int cmg.asc hz fun k => by
        rw [hzm k, decide_eq_true_iff, List.mem_map]
        have mm : ∀ {i}, i ∈ mergeN ts (leastS ts low high ++ ms) ↔ i ∈ leastS ts low high ++ ms := mem_merge fun i m => (List.mem_append.mp m).elim (fun z => jmps_lt ((Chc.least ts low high).jmp i z)) fun z => jmps_lt (cms.jmp i z)
        exact ⟨fun ⟨i, m1, m2⟩ => ⟨i, mm.mpr m1, m2⟩, fun ⟨i, m1, m2⟩ => ⟨i, mm.mp m1, m2⟩⟩
      have ezn : iV zs = nV (mergeN ts (leastS ts low high ++ ms)) := by rw [ez]; unfold iV nV; rw [List.map_map]; rfl
      refine ⟨p4, _, rfl, .inl ⟨SqL.of upd_same, fun t5 ht5 => ?_⟩⟩
      have e17 := same_new ht5 (.tup (iV zs))
      have e1317 := ((e14.trans e15).trans e16).trans e17
      have ht5' : SqT K (upd (upd (upd H14 a (SetO w a (fun j => decide (j ∈ (leastS ts low high ++ ms).map fun (i : Nat) => (i : Int))) c)) p4 (.lst (iV zs))) t5 (.tup (iV zs))) t5 (nV (mergeN ts (leastS ts low high ++ ms))) := by rw [← ezn]; exact SqT.of upd_same
      obtain ⟨H17, eH17⟩ : ∃ H17, H17 = upd (upd (upd H14 a (SetO w a (fun j => decide (j ∈ (leastS ts low high ++ ms).map fun (i : Nat) => (i : Int))) c)) p4 (.lst (iV zs))) t5 (.tup (iV zs)) := ⟨_, rfl⟩
      rw [← eH17] at e1317 ht5'
      have u17 := (u12.draw f13.s).ext e1317
      have f17 := f13.ext e1317
      obtain ⟨x17, h17, d17⟩ := u17.ex
      have l17 := dp_len d17
      rw [List.length_map, List.length_append, List.length_map] at l17
      simp only [List.length_cons] at l17
      refine ⟨p3, x17, _, rfl, rfl, by rw [← eH17]; exact h17, szl (by omega), ?_⟩
      rw [← eH17]
      have u18 := u17.put (v := .ref t5) (cs := mergeN ts (leastS ts low high ++ ms)) h17 (nat_dp (seqT_off (seqT_offF f17.f ht5') (by rw [del_ne np3l]; exact h17)))
      have fB : FI K H5 l q ns (upd H17 p3 (.lst (x17 ++ [.ref t5]))) := FI.put f5.f (f12.draw f17.f f17.s) ((f7.ext e711).fresh hp3) _
      have l18 : ((leastS ts low high :: jmps ts :: [] :: css) ++ as.map (dropK (leastS ts low high)) ++ [mergeN ts (leastS ts low high ++ ms)]).length ≤ 500 := by
        rw [List.length_append, List.length_append, List.length_map]
        simp only [List.length_cons, List.length_nil]
        omega
      have c18 : ∀ cs ∈ ((leastS ts low high :: jmps ts :: [] :: css) ++ as.map (dropK (leastS ts low high)) ++ [mergeN ts (leastS ts low high ++ ms)]), Chc ts cs := fun cs m => by
        rcases List.mem_append.mp m with m | m
        · rcases List.mem_append.mp m with m | m
          · exact hc7 cs m
          · obtain ⟨k, _, rfl⟩ := List.mem_map.mp m
            exact (Chc.least ts low high).sub (List.filter_sublist ..)
        · rw [List.mem_singleton.mp m]; exact cmg
      have g0 : ((leastS ts low high :: jmps ts :: [] :: css) ++ as.map (dropK (leastS ts low high)) ++ [mergeN ts (leastS ts low high ++ ms)])[0]? = some (leastS ts low high) := rfl
      have g1 : ((leastS ts low high :: jmps ts :: [] :: css) ++ as.map (dropK (leastS ts low high)) ++ [mergeN ts (leastS ts low high ++ ms)])[1]? = some (jmps ts) := rfl
      have g7 : ∀ m r, leastS ts low high = m :: r → ((leastS ts low high :: jmps ts :: [] :: css) ++ as.map (dropK (leastS ts low high)) ++ [mergeN ts (leastS ts low high ++ ms)])[7]? = some (dropK (leastS ts low high) m) := fun m r e => by
        obtain ⟨r', er⟩ := first m r e
        rw [er, List.append_assoc, List.getElem?_append_right (by simp only [List.length_cons]; omega)]
        simp only [List.length_cons, hcl]
        rfl
      have g3 : ∃ cs, ((leastS ts low high :: jmps ts :: [] :: css) ++ as.map (dropK (leastS ts low high)) ++ [mergeN ts (leastS ts low high ++ ms)])[3]? = some cs := ⟨_, List.getElem?_eq_getElem (by rw [List.length_append, List.length_append]; simp only [List.length_cons]; omega)⟩
      generalize (leastS ts low high :: jmps ts :: [] :: css) ++ as.map (dropK (leastS ts low high)) ++ [mergeN ts (leastS ts low high ++ ms)] = cB at u18 l18 c18 g0 g1 g7 g3
      have lx : (x17 ++ [V.ref t5]).length ≠ 0 := by rw [List.length_append]; simp
      have hB := (upd_same : (upd H17 p3 (.lst (x17 ++ [V.ref t5]))) p3 = some (.lst (x17 ++ [V.ref t5])))
      generalize x17 ++ [V.ref t5] = xB at u18 fB lx hB ⊢
      generalize upd H17 p3 (.lst xB) = HB at u18 fB hB ⊢
      have fA : FI K H l q ns HB := f5.draw fB.f fB.s
      have epB := FI.lst f5.f fB (e5 _ _ ep)
      have erB := FI.lst f5.f fB (e5 _ _ er)
      have hdueB := fB.sq f5.f (seqT_same e5 hdue4)
      have hdB := fB.dp f5.f (noL_ths ts) (dp_same e5 hd4)
      have np3p : p3 ≠ p := fun z => by
        rw [z, epB] at hB
        rw [← HO.lst.inj (Option.some.inj hB)] at lx
        exact lx rfl
      have np3r : p3 ≠ r := fun z => by
        rw [z, erB] at hB
        rw [← HO.lst.inj (Option.some.inj hB)] at lx
        exact lx rfl
      obtain ⟨xB', h1B, h2B⟩ := u18.ex
      rw [hB] at h1B
      obtain rfl := HO.lst.inj (Option.some.inj h1B)
      have hxB := dpAll_same ((del_le _ p3).trans (del_le _ l)) h2B
      have npl : p ≠ l := fun z => by
        obtain ⟨_, _, _, hl, _⟩ := hf
        rw [z, hl] at hp0; cases hp0
      have nrl : r ≠ l := fun z => by
        obtain ⟨_, _, _, hl, _⟩ := hf
        rw [z, hl] at hr0; cases hr0
      have lxc := dp_len hxB
      rw [List.length_map] at lxc
      clear u18 h2B d17 ht5' e1317 hacc hx12 u12 hx7 eH17 u17 hv hzm hz e15 e16 e17 ht5 hp4 ez ezn en
      dsimp only
      refine ⟨_, rfl, p3, rfl, ⟨_, SqL.of hB⟩, ?_⟩
      refine for_list (K := K) (a := p3) (xs := xB) (fun i σ H' => ∃ (o9 o10 o11 : Option V), σ = [some (.ref l), some x, some (.int low), some (.int high), some (.ref due), some (.ref t), some (.ref p), some (.ref r), some (.ref p3), o9, o10, o11] ∧ Two p r HB H' ∧
        H' p = some (.lst (((cB.take i).map fun cs => decide (farL cs ts low high = [])).map V.bl)) ∧ H' r = some (.lst (((cB.take i).map fun cs => decide (farL cs ts low high = [])).map V.bl))) ?_ ?_ ?_ ?_
      · exact ⟨_, _, _, rfl, Two.ref p r HB, epB, erB⟩
      · rintro i σ H' _ ⟨_, _, _, _, tw, _⟩
        exact SqL.of (tw.at np3p np3r hB)
      · rintro i z σ H' hiz ⟨o9, o10, o11, rfl, tw, hp', hr'⟩
        obtain ⟨cs, hcs', hdz⟩ := nats_get hxB hiz
        have hch := c18 cs (List.mem_of_getElem? hcs')
        have hi : i < cB.length := (List.getElem?_eq_some_iff.mp hcs').1
        have hz' := tw.dp epB erB npr (noL_nat cs) hdz
        have hx' := tw.dp epB erB npr (noL_ths ts) hdB
        have lt : (((cB.take i).map fun cs => decide (farL cs ts low high = [])).map V.bl).length ≤ 500 := by
          rw [List.length_map, List.length_map, List.length_take]; omega
        have stp : (((cB.take i).map fun cs => decide (farL cs ts low high = [])).map V.bl) ++ [V.bl (decide (farL cs ts low high = []))] = (((cB.take (i + 1)).map fun cs => decide (farL cs ts low high = [])).map V.bl) := by
          rw [List.take_succ, hcs', List.map_append, List.map_append]
          rfl
        have hcl' := hch.len
        refine ⟨_, rfl, .inl ⟨rfl, _, SqL.of hp'⟩, ?_⟩
        refine ⟨_, rfl, _, rfl, _, rfl, _, rfl, x, z, low, high, ts, cs, rfl, ⟨hx', by omega, hg, okTs_of hg hpos, hl0, hh0⟩, hz', by omega, hch.asc, hch.at, fun H2 e2 => ?_⟩
        refine ⟨p, _, _, rfl, rfl, e2 _ _ hp', szl (by omega), ?_⟩
        have tw2 := (tw.ext e2).put1 (.lst ((((cB.take i).map fun cs => decide (farL cs ts low high = [])).map V.bl) ++ [V.bl (decide (farL cs ts low high = []))]))
        have er2 : (upd H2 p (.lst ((((cB.take i).map fun cs => decide (farL cs ts low high = [])).map V.bl) ++ [V.bl (decide (farL cs ts low high = []))]))) r = some (.lst (((cB.take i).map fun cs => decide (farL cs ts low high = [])).map V.bl)) := by
          rw [upd_ne npr.symm]; exact e2 _ _ hr'
        have ep2' : (upd H2 p (.lst ((((cB.take i).map fun cs => decide (farL cs ts low high = [])).map V.bl) ++ [V.bl (decide (farL cs ts low high = []))]))) p = some (.lst (((cB.take (i + 1)).map fun cs => decide (farL cs ts low high = [])).map V.bl)) := by
          rw [upd_same, stp]
        generalize upd H2 p (.lst ((((cB.take i).map fun cs => decide (farL cs ts low high = [])).map V.bl) ++ [V.bl (decide (farL cs ts low high = []))])) = H3 at tw2 er2 ep2' ⊢
        have hz3 := tw2.dp epB erB npr (noL_nat cs) hdz
        obtain ⟨za, rfl, hza⟩ := nat_inv hz3
        dsimp only
        refine ⟨_, rfl, .inl ⟨rfl, _, SqL.of er2⟩, ?_⟩
        refine ⟨_, rfl, _, rfl, _, rfl, _, rfl, x, za, low, high, ts, cs, rfl, tw2.dp epB erB npr (noL_ths ts) hdB, .inr hza, by omega, hg, fun H4 e4 => ?_⟩
        refine ⟨r, _, _, rfl, rfl, e4 _ _ er2, szl (by omega), ?_⟩
        refine ⟨_, _, _, rfl, (tw2.ext e4).put2 _, ?_, ?_⟩
        · rw [upd_ne npr]; exact e4 _ _ ep2'
        · rw [upd_same, stp]
      · rintro σ HC ⟨o9, o10, o11, rfl, tw, hpC, hrC⟩
        rw [lxc, List.take_length] at hpC hrC
        have atb : ∀ {n : Nat} {cs : List Nat}, cB[n]? = some cs → atI ((cB.map fun cs => decide (farL cs ts low high = [])).map V.bl) (n : Int) = some (V.bl (decide (farL cs ts low high = []))) := fun {n cs} e => by
          refine atI_nat ?_
          rw [List.getElem?_map, List.getElem?_map, e]; rfl
        have lb : (cB.map fun cs => decide (farL cs ts low high = [])).length ≤ 500 := by rw [List.length_map]; exact l18
        have fC : FI K H l q ns HC → Q (.bl true) HC := fun f => k HC f
        dsimp only
        refine ⟨_, rfl, r, _, _, _, rfl, rfl, SqL.of hrC, atb g0, _, _, rfl, rfl, _, rfl, ?_⟩
        refine ifF (by rw [leastS_holds]; rfl) ?_
        refine ⟨_, rfl, r, _, _, _, rfl, rfl, SqL.of hrC, atb g1, _, _, rfl, rfl, _, rfl, ?_⟩
        refine ifF (by rw [far_all]; rfl) ?_
        refine ⟨_, rfl, (by show 0 ≤ sizeLine; decide), fun p5 hp5 => ?_⟩
        have s5 := same_new hp5 (.tup [])
        have tw5 := tw.ext s5
        have hp5' := s5 _ _ hpC
        have hr5' := s5 _ _ hrC
        have d5 : Dp K (upd HC p5 (.tup [])) (.ref p5) (.tuple []) := .tup (SqT.of upd_same) .nil
        generalize upd HC p5 (.tup []) = H5' at s5 tw5 hp5' hr5' d5 ⊢
        have hx5 := tw5.dp epB erB npr (noL_ths ts) hdB
        refine ⟨natD (leastS ts low high), .tuple [], tw5.dp epB erB npr (noL_nat _) (nat_dp hdueB), d5, natD_shaped _, rfl, _, rfl, ?_⟩
        rw [natD_none]
        refine ite_both ?_ fun rest c => ?_
        · refine iteF ?_
          dsimp only
          obtain ⟨cs3, g3⟩ := g3
          obtain ⟨z3, hz3⟩ : ∃ z, xB[3]? = some z := ⟨_, List.getElem?_eq_getElem (by rw [lxc]; exact (List.getElem?_eq_some_iff.mp g3).1)⟩
          obtain ⟨cs3', g3', hd3⟩ := nats_get hxB hz3
          rw [g3] at g3'
          obtain rfl := Option.some.inj g3'
          have c3 := c18 cs3 (List.mem_of_getElem? g3)
          have l3 := c3.len
          refine ⟨_, rfl, .inl ⟨rfl, _, SqL.of hp5'⟩, ?_⟩
          refine ⟨_, rfl, p3, _, _, _, rfl, rfl, SqL.of (tw5.at np3p np3r hB), atI_nat hz3, _, rfl, _, rfl, _, rfl, x, z3, low, high, ts, cs3, rfl, ⟨hx5, by omega, hg, okTs_of hg hpos, hl0, hh0⟩, tw5.dp epB erB npr (noL_nat cs3) hd3, by omega, c3.asc, c3.at, fun H6 e6 => ?_⟩
          refine ⟨p, _, _, rfl, rfl, e6 _ _ hp5', szl (by rw [List.length_map]; omega), ?_⟩
          have tw6 := (tw5.ext e6).put1 (.lst ((cB.map fun cs => decide (farL cs ts low high = [])).map V.bl ++ [V.bl (decide (farL cs3 ts low high = []))]))
          have hp6 : (upd H6 p (.lst ((cB.map fun cs => decide (farL cs ts low high = [])).map V.bl ++ [V.bl (decide (farL cs3 ts low high = []))]))) p = some (.lst ((cB.map fun cs => decide (farL cs ts low high = [])).map V.bl ++ [V.bl (decide (farL cs3 ts low high = []))])) := upd_same
          have hr6 : (upd H6 p (.lst ((cB.map fun cs => decide (farL cs ts low high = [])).map V.bl ++ [V.bl (decide (farL cs3 ts low high = []))]))) r = some (.lst ((cB.map fun cs => decide (farL cs ts low high = [])).map V.bl)) := by
            rw [upd_ne npr.symm]; exact e6 _ _ hr5'
          generalize upd H6 p (.lst ((cB.map fun cs => decide (farL cs ts low high = [])).map V.bl ++ [V.bl (decide (farL cs3 ts low high = []))])) = H7' at tw6 hp6 hr6 ⊢
          dsimp only
          refine ⟨_, rfl, _, rfl, _, rfl, r, _, _, _, rfl, rfl, SqL.of hr6, atb g3, (by show 1 ≤ sizeLine; decide), fun p6 hp6' => ?_⟩
          have s8 := same_new hp6' (.lst [V.bl (decide (farL cs3 ts low high = []))])
          refine ⟨r, p6, _, _, rfl, rfl, s8 _ _ hr6, upd_same, by rw [List.length_map]; exact Nat.le_of_lt (szl (by show _ + 1 ≤ _; omega)), fun p7 hp7 => ?_⟩
          have s9 := same_new hp7 (.lst ((cB.map fun cs => decide (farL cs ts low high = [])).map V.bl ++ [V.bl (decide (farL cs3 ts low high = []))]))
          have eb : (cB.map fun cs => decide (farL cs ts low high = [])).map V.bl ++ [V.bl (decide (farL cs3 ts low high = []))] = ((cB.map fun cs => decide (farL cs ts low high = [])) ++ [decide (farL cs3 ts low high = [])]).map V.bl := by
            rw [List.map_append]; rfl
          refine ⟨.ref p, .ref p7, blsD ((cB.map fun cs => decide (farL cs ts low high = [])) ++ [decide (farL cs3 ts low high = [])]), rfl, ?_, ?_, bls_rp (by rw [List.length_append]; show _ + 1 ≤ _; omega), ?_⟩
          · exact .lst (SqL.of (by rw [← eb]; exact (s8.trans s9) _ _ hp6)) (dp_bls _)
          · exact .lst (SqL.of (by rw [← eb]; exact upd_same)) (dp_bls _)
          · exact k _ (FI.two hf fA (tw6.ext (s8.trans s9)) hp0 hr0)
        · have nn : leastS ts low high ≠ [] := fun z => by
            rw [decide_eq_true z] at c; cases c
          obtain ⟨m, rr, em⟩ : ∃ m rr, leastS ts low high = m :: rr := by
            cases hh : leastS ts low high with
            | nil => exact absurd hh nn
            | cons a b => exact ⟨a, b, rfl⟩
          have dr := due_drops hpos hl0 hh0 (m := m) (by rw [em]; exact List.mem_cons_self)
          refine ⟨_, rfl, r, _, _, _, rfl, rfl, SqL.of hr5', atb (g7 m rr em), _, _, rfl, rfl, _, rfl, ?_⟩
          rw [decide_eq_false dr]
          exact rest
end
end Lk

set_option Elab.async false
set_option linter.all false
set_option maxRecDepth 100000
set_option maxHeartbeats 4000000
set_option pp.maxSteps 1500
namespace Lk
open PySem PySem.Spec PyProof.Rows L2
def spToldR (K : PySem.W.Frag) : Sp := fun vs H Q _ => ∃ (l due q : Addr) (x : V) (ns : List Int) (low high : Int) (ts : List Th), vs = [.ref l, x, .int low, .int high, .ref due] ∧ Feed K H l q ns ∧ Dp K H x (.tuple (ts.map Th.d)) ∧ SqT K H due (nV (leastS ts low high)) ∧
  ts.length ≤ 400 ∧ GoodTs ts ∧ Pos ts ∧ (∀ i k, ts.getD i (.len 0) = .len k → k ≤ 10 ^ 30) ∧ low ≤ 0 ∧ -100 ≤ low ∧ 0 ≤ high ∧ high ≤ 10 ^ 40 ∧ ∀ H', FI K H l q ns H' → Q (.bl true) H'
theorem nat_small {n : Nat} (h : n ≤ 1000000) : smB (.int (n : Int)) = true := decide_eq_true (by
  rw [Int.natAbs_natCast]
  exact Nat.lt_of_le_of_lt h (by decide))
theorem natD_sm {cs : List Nat} (h : ∀ i ∈ cs, i ≤ 1000000) : smB (natD cs) = true := smBs_map fun i m => nat_small (h i m)
theorem natD_nodes (cs : List Nat) : nodes (natD cs) ≤ 1 + cs.length := by
  show 1 + nodesL (cs.map fun (i : Nat) => PyData.int (i : Int)) ≤ _
  have := nodesL_map (f := fun (i : Nat) => PyData.int (i : Int)) (l := cs) (k := 1) fun _ _ => Nat.le_refl _
  omega
theorem natD_depth (cs : List Nat) : (natD cs).depth ≤ 1 := by
  show PyData.depthAll (cs.map fun (i : Nat) => PyData.int (i : Int)) + 1 ≤ 1
  have := depthAll_map (f := fun (i : Nat) => PyData.int (i : Int)) (l := cs) (k := 0) fun _ _ => Nat.le_refl _
  omega
theorem th_at {ts : List Th} {t : Th} (h : t ∈ ts) : ∃ i, ts.getD i (.len 0) = t := by
  obtain ⟨i, hi, rfl⟩ := List.getElem_of_mem h
  exact ⟨i, by rw [List.getD_eq_getElem?_getD, List.getElem?_eq_getElem hi]; rfl⟩
theorem ths_rp {ts : List Th} {low high : Int} (hts : ts.length ≤ 400) (hg : GoodTs ts) (hp : Pos ts) (hb : ∀ i k, ts.getD i (.len 0) = .len k → k ≤ 10 ^ 30) (l0 : low ≤ 0) (l1 : -100 ≤ low) (h0 : 0 ≤ high) (h1 : high ≤ 10 ^ 40) :
    Rp (.list [.tuple (ts.map Th.d), .int low, .int high]) := by
  have big : (10 : Nat) ^ 40 < 10 ^ 41 := by decide
  have b30 : (10 : Nat) ^ 30 < 10 ^ 41 := by decide
  have sm1 : smBs (ts.map Th.d) = true := smBs_map fun t m => by
    obtain ⟨i, e⟩ := th_at m
    cases t with
    | len k =>
      have p1 := hp i k e
      have p2 := hb i k e
      refine decide_eq_true ?_
      have : (k.natAbs : Int) ≤ 10 ^ 30 := by rw [Int.natAbs_of_nonneg p1]; exact p2
      have : k.natAbs ≤ 10 ^ 30 := by exact_mod_cast this
      omega
    | jmp j =>
      have := hg i j e
      show (decide ((reprText ("jump" : Str)).length ≤ 20) && (smB (.int (j : Int)) && true)) = true
      rw [nat_small (n := j) (by omega)]
      decide +kernel
  have nd1 := nodesL_map (f := Th.d) (l := ts) (k := 3) fun t _ => by cases t <;> exact Nat.le_of_ble_eq_true rfl
  have dp1 := depthAll_map (f := Th.d) (l := ts) (k := 1) fun t _ => by cases t <;> exact Nat.le_of_ble_eq_true rfl
  refine ⟨rfl, ?_, ?_, ?_⟩
  · show (smBs (ts.map Th.d) && (decide (low.natAbs < 10 ^ 41) && (decide (high.natAbs < 10 ^ 41) && true))) = true
    have a1 : low.natAbs < 10 ^ 41 := by omega
    have a2 : high.natAbs < 10 ^ 41 := by
      have : (high.natAbs : Int) ≤ 10 ^ 40 := by rw [Int.natAbs_of_nonneg h0]; exact h1
      have : high.natAbs ≤ 10 ^ 40 := by exact_mod_cast this
      omega
    rw [sm1, decide_eq_true a1, decide_eq_true a2]; rfl
  · show 1 + ((1 + nodesL (ts.map Th.d)) + (1 + (1 + 0))) ≤ 300000
    omega
  · show max (PyData.depthAll (ts.map Th.d) + 1) (max 0 (max 0 0)) + 1 ≤ 100
    omega
section
variable {P : Program} {w : World} {K : PySem.W.Frag} {mg : Str → Option Value} {base : Heap}
theorem ok_told_right (T : Txt K mg) : FnG P w K mg base CX0 7 T.f__law_is_told_right T.d__law_is_told_right ["_law_feed_here", "_law_things_here", "_law_low", "_law_high", "_law_due"] (spToldR K) := by
  have nd := sc__law_is_told_right.nd
  refine okG T.F__law_is_told_right sc__law_is_told_right (fun vs H Q E h => ?_) (fun cdv A outer s H vs Q E gu0 hr h => ?_)
  · obtain ⟨l, due, q, x, ns, low, high, ts, rfl, _⟩ := h
    rfl
  obtain ⟨l, due, q, x, ns, low, high, ts, rfl, hf, hd, hdue, hts, hg, hpos, hb30, hl0, hl1, hh0, hh1, k⟩ := h
  have gu : (A.deeper (envOfC "_law_is_told_right" (defScope s__law_is_told_right) s.heap.objs.size T.f__law_is_told_right cdv)).guards = some [] := gu0
  have hu2 : (A.deeper (envOfC "_law_is_told_right" (defScope s__law_is_told_right) s.heap.objs.size T.f__law_is_told_right cdv)).units + 200 < cLine := by have := hr.un; omega
  have G_long_jumps : FnOk P w K mg base CX0 5 _ _ _ (spLongG K) := ok_longG T
  have hr_long_jumps : Room 5 _ := hr.mono (by omega)
  have G__law_same : FnG P w K mg base CX0 1 _ _ _ (spSame K) := ok_same T
  have hr__law_same : Room 1 _ := hr.mono (by omega)
  have G__law_are_held_right : FnG P w K mg base CX0 6 _ _ _ (spHeldR K) := ok_held_right T
  have hr__law_are_held_right : Room 6 _ := hr
  refine ⟨_, (pss_cons (ps_set (i := 5) nd rfl (Or.inl rfl) (pe_callB (call_reprR gu hu2) (by rfl) T.z_repr (by decide +kernel) (pa_cons (pe_lst (pa_cons (pv 1) (pa_cons (pv 2) (pa_cons (pv 3) pa_nil)))) pa_nil)))
      (pss_cons (ps_set (i := 6) nd rfl (Or.inl rfl) (pe_lst (pa_cons (pe_call G_long_jumps hr_long_jumps rfl T.m_long_jumps T.k_long_jumps T.b_long_jumps .nil pass0 (pa_cons (pv 1) (pa_cons (pv 2) (pa_cons (pv 3) pa_nil)))) (pa_cons (by exact (pe_callKS (E := fun _ => E0) G_long_jumps hr_long_jumps rfl T.m_long_jumps T.k_long_jumps T.w_long_jumps_high_things_low passAt0 (pk_cons (pv 3) (pk_cons (pv 1) (pk_cons (pv 2) pk_nil))))) pa_nil))))
      (pss_cons (ps_if (PW.pt (pw_or (pt_not (pt_val (by exact (pe_callG G__law_same gu hr__law_same rfl T.m__law_same T.k__law_same T.b__law_same .nil pass0 (pa_cons (pv 6) (pa_cons (pe_lst (pa_cons (pv 4) (pa_cons (pv 4) pa_nil))) pa_nil)))))) (pw_or1 (pt_not (pt_val (by exact (pe_callG G__law_are_held_right gu hr__law_are_held_right rfl T.m__law_are_held_right T.k__law_are_held_right T.b__law_are_held_right .nil pass0 (pa_cons (pv 0) (pa_cons (pv 1) (pa_cons (pv 2) (pa_cons (pv 3) (pa_cons (pv 4) pa_nil)))))))))))) (pss_one (ps_ret pe_bl)) pss_nil)
      (pss_one (ps_ret (pe_cmpR op_eq (pe_callB (call_reprR gu hu2) (by rfl) T.z_repr (by decide +kernel) (pa_cons (pe_lst (pa_cons (pv 1) (pa_cons (pv 2) (pa_cons (pv 3) pa_nil)))) pa_nil)) (pv 5) (nomark _))))))), ?_⟩
  have rp := ths_rp hts hg hpos hb30 hl0 hl1 hh0 hh1
  obtain ⟨sh, hsh⟩ : ∃ sh, (PyData.list [.tuple (ts.map Th.d), .int low, .int high]).shown = sh := ⟨_, rfl⟩
  refine ⟨_, rfl, _, rfl, _, rfl, (by show 3 ≤ sizeLine; decide), fun p1 hp1 => ?_⟩
  have s1 := same_new hp1 (.lst [x, .int low, .int high])
  have d1 : Dp K (upd H p1 (.lst [x, .int low, .int high])) (.ref p1) (.list [.tuple (ts.map Th.d), .int low, .int high]) := .lst (SqL.of upd_same) (.cons (dp_same s1 hd) (.cons (.int low) (.cons (.int high) .nil)))
  refine ⟨.ref p1, _, rfl, d1, rp, ?_⟩
  rw [hsh]
  clear d1
  generalize upd H p1 (.lst [x, .int low, .int high]) = H1 at s1 ⊢
  have hd1 := dp_same s1 hd
  have ok := okTs_of hg hpos
  refine ⟨_, rfl, _, rfl, _, rfl, x, low, high, ts, rfl, hd1, by omega, hg, ok, hl0, hh0, fun z1 H2 e2 hz1 => ?_⟩
  refine ⟨_, rfl, _, rfl, _, rfl, x, low, high, ts, rfl, dp_same e2 hd1, by omega, hg, ok, hl0, hh0, fun z2 H3 e3 hz2 => ?_⟩
  refine ⟨(by show 2 ≤ sizeLine; decide), fun p2 hp2 => ?_⟩
  have s4 := same_new hp2 (.lst [V.ref z1, .ref z2])
  have d4 : Dp K (upd H3 p2 (.lst [V.ref z1, .ref z2])) (.ref p2) (.list [natD (leastS ts low high), natD (leastS ts low high)]) :=
    .lst (SqL.of upd_same) (.cons (dp_same (e3.trans s4) (nat_dp hz1)) (.cons (dp_same s4 (nat_dp hz2)) .nil))
  have e14 := (e2.trans e3).trans s4
  generalize upd H3 p2 (.lst [V.ref z1, .ref z2]) = H4 at s4 d4 e14 ⊢
  have e04 := s1.trans e14
  dsimp only
  refine ⟨_, rfl, _, rfl, _, rfl, (by show 2 ≤ sizeLine; decide), fun p3 hp3 => ?_⟩
  have s5 := same_new hp3 (.lst [V.ref due, .ref due])
  have e05 := e04.trans s5
  have hdue5 := seqT_same e05 hdue
  have d5 : Dp K (upd H4 p3 (.lst [V.ref due, .ref due])) (.ref p3) (.list [natD (leastS ts low high), natD (leastS ts low high)]) := .lst (SqL.of upd_same) (.cons (nat_dp hdue5) (.cons (nat_dp hdue5) .nil))
  have d45 := dp_same s5 d4
  generalize upd H4 p3 (.lst [V.ref due, .ref due]) = H5 at s5 e05 hdue5 d5 d45 ⊢
  refine ⟨.ref p2, .ref p3, _, rfl, d45, d5, ?_, ?_⟩
  · have hl := (Chc.least ts low high).len
    have sm := natD_sm (cs := leastS ts low high) fun i m => by have := jmps_lt ((Chc.least ts low high).jmp i m); omega
    have n1 := natD_nodes (leastS ts low high)
    have dd := natD_depth (leastS ts low high)
    refine ⟨rfl, ?_, ?_, ?_⟩
    · show (smB (natD (leastS ts low high)) && (smB (natD (leastS ts low high)) && true)) = true
      rw [sm]; rfl
    · show 1 + (nodes (natD (leastS ts low high)) + (nodes (natD (leastS ts low high)) + 0)) ≤ 300000
      omega
    · show max (natD (leastS ts low high)).depth (max (natD (leastS ts low high)).depth 0) + 1 ≤ 100
      omega
  · refine ⟨_, rfl, ?_⟩
    refine iteF ?_
    have f5 := (FI.ref hf).ext e05
    refine ⟨_, rfl, _, rfl, _, rfl, _, rfl, _, rfl, l, due, q, x, ns, low, high, ts, rfl, f5.f, dp_same e05 hd, hdue5, hts, hg, hpos, hl0, hh0, fun H6 f6 => ?_⟩
    refine ⟨_, rfl, ?_⟩
    refine iteF ?_
    have f06 := f5.draw f6.f f6.s
    have hd6 := f06.dp hf (noL_ths ts) hd
    dsimp only
    refine ⟨_, rfl, _, rfl, _, rfl, (by show 3 ≤ sizeLine; decide), fun p4 hp4 => ?_⟩
    have s7 := same_new hp4 (.lst [x, .int low, .int high])
    refine ⟨.ref p4, _, rfl, .lst (SqL.of upd_same) (.cons (dp_same s7 hd6) (.cons (.int low) (.cons (.int high) .nil))), rp, ?_⟩
    rw [hsh]
    refine ⟨_, rfl, rfl, ?_⟩
    rw [decide_eq_true rfl]
    exact k _ (f06.ext s7)
end
end Lk

set_option Elab.async false
set_option linter.all false
set_option maxRecDepth 100000
set_option maxHeartbeats 4000000
set_option pp.maxSteps 1500
namespace Lk
open PySem PySem.Spec PyProof.Rows L2
/-! ### displays of lists: what they come to -/
def EvL (K : PySem.W.Frag) (σ : L2.St) (H0 : Hp) (t : TE) (ds : List PyData) : Prop := ∀ (H : Hp) (Q : VK), Same H0 H → (∀ p xs H', Same H H' → H' p = some (.lst xs) → DpAll K H' xs ds → Q (.ref p) H') → t σ H Q
section
variable {K : PySem.W.Frag} {σ : L2.St} {H0 : Hp}
theorem el_lst {ts : TA} {ds : List PyData} (a : EvA K σ H0 ts ds) (n : ds.length ≤ 1000) : EvL K σ H0 (tLst ts) ds := fun H Q e k =>
  a H _ e fun xs H1 e1 h1 => ⟨by rw [dp_len h1]; exact Nat.le_of_lt (szl (by omega)), fun p hp => k p xs _ (e1.trans (same_new hp _)) upd_same (dpAll_same (same_new hp _) h1)⟩
theorem el_var {i : Nat} {p : Addr} {xs : List V} {ds : List PyData} (h : σ[i]? = some (some (.ref p))) (h1 : H0 p = some (.lst xs)) (hd : DpAll K H0 xs ds) : EvL K σ H0 (tVar i) ds := fun H Q e k => ⟨_, h, k p xs H (Same.refl _) (e _ _ h1) (dpAll_same e hd)⟩
theorem el_cat {ta tb : TE} {ds es : List PyData} (a : EvL K σ H0 ta ds) (b : EvL K σ H0 tb es) (n : ds.length ≤ 1000) (m : es.length ≤ 1000) : EvL K σ H0 (tOp rCat ta tb) (ds ++ es) := fun H Q e k =>
  a H _ e fun p xs H1 e1 h1 d1 => b H1 _ (e.trans e1) fun q ys H2 e2 h2 d2 =>
    ⟨p, q, xs, ys, rfl, rfl, e2 _ _ h1, h2, by rw [dp_len d1, dp_len d2]; exact Nat.le_of_lt (szl (by omega)), fun r hr => k r _ _ ((e1.trans e2).trans (same_new hr _)) upd_same (dpAll_cat2 (dpAll_same (e2.trans (same_new hr _)) d1) (dpAll_same (same_new hr _) d2))⟩
theorem goSL {t : TE} {rest : TS} {D : Ends} {i : Nat} {ds : List PyData} (e : EvL K σ H0 t ds) (k : ∀ p xs H', Same H0 H' → H' p = some (.lst xs) → DpAll K H' xs ds → rest D (σ.set i (some (.ref p))) H') : tSeq (tAsg t (gName i)) rest D σ H0 := e H0 _ (Same.refl _) k
theorem goSC {ta tb : TE} {rest : TS} {D : Ends} {i : Nat} {ds es : List PyData} (a : EvL K σ H0 ta ds) (b : EvL K σ H0 tb es) (n : ds.length ≤ 1000) (m : es.length ≤ 1000) (k : ∀ p xs H', Same H0 H' → H0 p = none → H' p = some (.lst xs) → DpAll K H' xs (ds ++ es) → rest D (σ.set i (some (.ref p))) H') : tSeq (tAsg (tOp rCat ta tb) (gName i)) rest D σ H0 :=
  a H0 _ (Same.refl _) fun p xs H1 e1 h1 d1 => b H1 _ e1 fun q ys H2 e2 h2 d2 =>
    ⟨p, q, xs, ys, rfl, rfl, e2 _ _ h1, h2, by rw [dp_len d1, dp_len d2]; exact Nat.le_of_lt (szl (by omega)), fun r hr => k r _ _ ((e1.trans e2).trans (same_new hr _)) (none_of (e1.trans e2) hr) upd_same (dpAll_cat2 (dpAll_same (e2.trans (same_new hr _)) d1) (dpAll_same (same_new hr _) d2))⟩
theorem inA1 {t : TE} {d : PyData} {Q : List V → Hp → Prop} (e : EvD K σ H0 t d) (k : ∀ x H', Same H0 H' → Dp K H' x d → Q [x] H') : tCons t tNil σ H0 Q := e H0 _ (Same.refl _) k
end
/-- a row: things, bounds, the least choice -/
structure Rw where
  ts : List Th
  low : Int
  high : Int
  cs : List Nat
def Rw.d (r : Rw) : PyData := .tuple [.tuple (r.ts.map Th.d), .int r.low, .int r.high, natD r.cs]
def goodB (ts : List Th) : Bool := ts.all fun t => match t with
  | .len n => decide (0 ≤ n)
  | .jmp t => decide (t ≤ ts.length)
def Rw.ok (r : Rw) : Bool := goodB r.ts && (decide (r.ts.length ≤ 10) && (decide (r.low ≤ 0) && (decide (0 ≤ r.high) && decide (leastS r.ts r.low r.high = r.cs))))
theorem goodB_good {ts : List Th} (h : goodB ts = true) : GoodTs ts ∧ Pos ts := by
  have at_ : ∀ i, i < ts.length → ts.getD i (.len 0) ∈ ts := fun i hi => by
    rw [List.getD_eq_getElem?_getD, List.getElem?_eq_getElem hi]
    exact List.getElem_mem hi
  have no : ∀ i, ¬ i < ts.length → ts.getD i (.len 0) = .len 0 := fun i hi => by
    rw [List.getD_eq_getElem?_getD, List.getElem?_eq_none (by omega)]; rfl
  refine ⟨fun i t e => ?_, fun i n e => ?_⟩
  · by_cases hi : i < ts.length
    · have := List.all_eq_true.mp h _ (at_ i hi)
      rw [e] at this
      exact of_decide_eq_true this
    · rw [no i hi] at e; cases e
  · by_cases hi : i < ts.length
    · have := List.all_eq_true.mp h _ (at_ i hi)
      rw [e] at this
      exact of_decide_eq_true this
    · rw [no i hi] at e; cases e; exact Int.le_refl _
def rowsA : List Rw := [⟨[], -8, 7, []⟩, ⟨[.len 5, .len 0, .len 9], 0, 0, []⟩, ⟨[.jmp 0], 0, 0, []⟩, ⟨[.jmp 1], 0, 0, [0]⟩]
def rowsB : List Rw := [⟨[.jmp 1], 0, 1, []⟩, ⟨[.jmp 2, .len 6, .len 1], -8, 7, []⟩, ⟨[.jmp 2, .len 7, .len 1], -8, 7, [0]⟩, ⟨[.jmp 2, .len 6], -8, 7, []⟩]
def rowsC : List Rw := [⟨[.len 8, .jmp 0], -8, 7, []⟩, ⟨[.len 9, .jmp 0], -8, 7, [1]⟩, ⟨[.len 0, .jmp 0], 0, 0, []⟩]
def rowsE : List Rw := [⟨[.jmp 2, .jmp 4, .len 1, .len 1], -2, 2, [0, 1]⟩, ⟨[.jmp 2, .jmp 3, .len 1, .len 1], -2, 2, []⟩]
def rowsF : List Rw := [⟨[.len 2, .jmp 4, .jmp 0, .len 0, .len 3], -2, 2, [1, 2]⟩, ⟨[.len 1, .jmp 0, .jmp 0], -2, 2, []⟩]
def rowsG : List Rw := [⟨[.jmp 3, .len 3, .jmp 0, .jmp 2, .len 5], -4, 4, [0, 2]⟩]
def rowH : Rw := ⟨[.jmp 2, .len 4, .jmp 0, .len 9, .jmp 2], -5, 4, [0, 2, 4]⟩
def rowsW : List Rw := rowsA ++ rowsB ++ rowsC ++ rowsE ++ rowsF ++ rowsG ++ [rowH]
theorem rows_ok : ∀ r ∈ rowsW, r.ok = true := by decide +kernel
structure RwOk (r : Rw) : Prop where
  good : GoodTs r.ts
  pos : Pos r.ts
  len : r.ts.length ≤ 10
  low : r.low ≤ 0
  high : 0 ≤ r.high
  cs : leastS r.ts r.low r.high = r.cs
theorem rw_ok {r : Rw} (m : r ∈ rowsW) : RwOk r := by
  have h := rows_ok r m
  unfold Rw.ok at h
  simp only [Bool.and_eq_true, decide_eq_true_eq] at h
  obtain ⟨h1, h2, h3, h4, h5⟩ := h
  obtain ⟨g1, g2⟩ := goodB_good h1
  exact ⟨g1, g2, h2, h3, h4, h5⟩
theorem rows_noL : ∀ r ∈ rowsW, noL r.d = true := by decide +kernel
theorem row_inv {K : PySem.W.Frag} {H : Hp} {z : V} {r : Rw} (h : Dp K H z r.d) : ∃ (a : Addr) (v0 v3 : V), z = .ref a ∧ SqT K H a [v0, .int r.low, .int r.high, v3] ∧ Dp K H v0 (.tuple (r.ts.map Th.d)) ∧ Dp K H v3 (natD r.cs) := by
  obtain ⟨a, xs, rfl, ha, hx⟩ := tup_inv h
  cases hx with
  | cons h0 r1 => cases r1 with
    | cons h1 r2 => cases r2 with
      | cons h2 r3 => cases r3 with
        | cons h3 r4 =>
          cases r4
          cases h1
          cases h2
          exact ⟨a, _, _, rfl, ha, h0, h3⟩
theorem rws_get {K : PySem.W.Frag} {H : Hp} {xs : List V} {rs : List Rw} {i : Nat} {z : V} (h : DpAll K H xs (rs.map Rw.d)) (e : xs[i]? = some z) : ∃ r, rs[i]? = some r ∧ Dp K H z r.d := by
  obtain ⟨d, _, e1, h1⟩ := dp_get h e
  rw [List.getElem?_map] at e1
  cases c : rs[i]? with
  | none => rw [c] at e1; cases e1
  | some r =>
    rw [c] at e1
    obtain rfl : r.d = d := Option.some.inj e1
    exact ⟨r, rfl, h1⟩
theorem dp_reps {K : PySem.W.Frag} {H : Hp} : ∀ n : Nat, DpAll K H (List.replicate n (V.bl true)) (List.replicate n (PyData.bool true))
  | 0 => .nil
  | n + 1 => .cons (.bl true) (dp_reps n)
def dueF : PyData := .list [.list (rowsW.map fun r => natD r.cs), .list (List.replicate 17 (.bool true))]
theorem dueF_rp : Rp dueF := ⟨rfl, by decide +kernel, by decide +kernel, by decide +kernel⟩
theorem at_st {F : L2.St → Hp → Prop} {σ : L2.St} {H : Hp} (σ' : L2.St) (e : σ = σ') (h : F σ' H) : F σ H := e ▸ h
def spTrue : Sp := fun vs _ Q _ => vs = [] ∧ ∀ H', Q (.bl true) H'
section
variable {P : Program} {w : World} {K : PySem.W.Frag} {mg : Str → Option Value} {base : Heap}
theorem ok_few_right (T : Txt K mg) : FnG P w K mg base CX0 6 T.f__law_are_few_right T.d__law_are_few_right [] (fun vs H Q _ => vs = [] ∧ ∀ H', Same H H' → Q (.bl true) H') := by
  have nd := sc__law_are_few_right.nd
  refine okG T.F__law_are_few_right sc__law_are_few_right (fun vs H Q E h => ?_) (fun cdv A outer s H vs Q E gu0 hr h => ?_)
  · obtain ⟨rfl, _⟩ := h
    rfl
  obtain ⟨rfl, k⟩ := h
  have gu : (A.deeper (envOfC "_law_are_few_right" (defScope s__law_are_few_right) s.heap.objs.size T.f__law_are_few_right cdv)).guards = some [] := gu0
  have G_long_jumps : FnOk P w K mg base CX0 5 _ _ _ (spLongG K) := ok_longG T
  have hr_long_jumps : Room 5 _ := hr
  have G_holds_long : FnOk P w K mg base CX0 5 _ _ _ (spHoldG K) := ok_holdG T
  have hr_holds_long : Room 5 _ := hr
  have G__law_same : FnG P w K mg base CX0 1 _ _ _ (spSame K) := ok_same T
  have hr__law_same : Room 1 _ := hr.mono (by omega)
  refine ⟨_, (pss_cons (ps_set (i := 0) nd rfl (Or.inl rfl) (pe_tup (pa_cons pe_str (pa_cons pe_int pa_nil))))
      (pss_cons (ps_set (i := 1) nd rfl (Or.inl rfl) (pe_lst (pa_cons (pe_tup (pa_cons (pe_tup pa_nil) (pa_cons (pe_un un_neg pe_int) (pa_cons pe_int (pa_cons (pe_tup pa_nil) pa_nil))))) (pa_cons (pe_tup (pa_cons (pe_tup (pa_cons pe_int (pa_cons pe_int (pa_cons pe_int pa_nil)))) (pa_cons pe_int (pa_cons pe_int (pa_cons (pe_tup pa_nil) pa_nil))))) (pa_cons (pe_tup (pa_cons (pe_tup (pa_cons (pe_tup (pa_cons pe_str (pa_cons pe_int pa_nil))) pa_nil)) (pa_cons pe_int (pa_cons pe_int (pa_cons (pe_tup pa_nil) pa_nil))))) (pa_cons (pe_tup (pa_cons (pe_tup (pa_cons (pe_tup (pa_cons pe_str (pa_cons pe_int pa_nil))) pa_nil)) (pa_cons pe_int (pa_cons pe_int (pa_cons (pe_tup (pa_cons pe_int pa_nil)) pa_nil))))) pa_nil))))))
      (pss_cons (ps_set (i := 1) nd rfl (Or.inl rfl) (pe_op op_cat (pv 1) (pe_lst (pa_cons (pe_tup (pa_cons (pe_tup (pa_cons (pe_tup (pa_cons pe_str (pa_cons pe_int pa_nil))) pa_nil)) (pa_cons pe_int (pa_cons pe_int (pa_cons (pe_tup pa_nil) pa_nil))))) (pa_cons (pe_tup (pa_cons (pe_tup (pa_cons (pv 0) (pa_cons pe_int (pa_cons pe_int pa_nil)))) (pa_cons (pe_un un_neg pe_int) (pa_cons pe_int (pa_cons (pe_tup pa_nil) pa_nil))))) (pa_cons (pe_tup (pa_cons (pe_tup (pa_cons (pv 0) (pa_cons pe_int (pa_cons pe_int pa_nil)))) (pa_cons (pe_un un_neg pe_int) (pa_cons pe_int (pa_cons (pe_tup (pa_cons pe_int pa_nil)) pa_nil))))) (pa_cons (pe_tup (pa_cons (pe_tup (pa_cons (pv 0) (pa_cons pe_int pa_nil))) (pa_cons (pe_un un_neg pe_int) (pa_cons pe_int (pa_cons (pe_tup pa_nil) pa_nil))))) pa_nil)))))))
      (pss_cons (ps_set (i := 1) nd rfl (Or.inl rfl) (pe_op op_cat (pv 1) (pe_lst (pa_cons (pe_tup (pa_cons (pe_tup (pa_cons pe_int (pa_cons (pe_tup (pa_cons pe_str (pa_cons pe_int pa_nil))) pa_nil))) (pa_cons (pe_un un_neg pe_int) (pa_cons pe_int (pa_cons (pe_tup pa_nil) pa_nil))))) (pa_cons (pe_tup (pa_cons (pe_tup (pa_cons pe_int (pa_cons (pe_tup (pa_cons pe_str (pa_cons pe_int pa_nil))) pa_nil))) (pa_cons (pe_un un_neg pe_int) (pa_cons pe_int (pa_cons (pe_tup (pa_cons pe_int pa_nil)) pa_nil))))) (pa_cons (pe_tup (pa_cons (pe_tup (pa_cons pe_int (pa_cons (pe_tup (pa_cons pe_str (pa_cons pe_int pa_nil))) pa_nil))) (pa_cons pe_int (pa_cons pe_int (pa_cons (pe_tup pa_nil) pa_nil))))) pa_nil))))))
      (pss_cons (ps_set (i := 1) nd rfl (Or.inl rfl) (pe_op op_cat (pv 1) (pe_lst (pa_cons (pe_tup (pa_cons (pe_tup (pa_cons (pv 0) (pa_cons (pe_tup (pa_cons pe_str (pa_cons pe_int pa_nil))) (pa_cons pe_int (pa_cons pe_int pa_nil))))) (pa_cons (pe_un un_neg pe_int) (pa_cons pe_int (pa_cons (pe_tup (pa_cons pe_int (pa_cons pe_int pa_nil))) pa_nil))))) (pa_cons (pe_tup (pa_cons (pe_tup (pa_cons (pv 0) (pa_cons (pe_tup (pa_cons pe_str (pa_cons pe_int pa_nil))) (pa_cons pe_int (pa_cons pe_int pa_nil))))) (pa_cons (pe_un un_neg pe_int) (pa_cons pe_int (pa_cons (pe_tup pa_nil) pa_nil))))) pa_nil)))))
      (pss_cons (ps_set (i := 1) nd rfl (Or.inl rfl) (pe_op op_cat (pv 1) (pe_lst (pa_cons (pe_tup (pa_cons (pe_tup (pa_cons pe_int (pa_cons (pe_tup (pa_cons pe_str (pa_cons pe_int pa_nil))) (pa_cons (pe_tup (pa_cons pe_str (pa_cons pe_int pa_nil))) (pa_cons pe_int (pa_cons pe_int pa_nil)))))) (pa_cons (pe_un un_neg pe_int) (pa_cons pe_int (pa_cons (pe_tup (pa_cons pe_int (pa_cons pe_int pa_nil))) pa_nil))))) (pa_cons (pe_tup (pa_cons (pe_tup (pa_cons pe_int (pa_cons (pe_tup (pa_cons pe_str (pa_cons pe_int pa_nil))) (pa_cons (pe_tup (pa_cons pe_str (pa_cons pe_int pa_nil))) pa_nil)))) (pa_cons (pe_un un_neg pe_int) (pa_cons pe_int (pa_cons (pe_tup pa_nil) pa_nil))))) pa_nil)))))
      (pss_cons (ps_set (i := 1) nd rfl (Or.inl rfl) (pe_op op_cat (pv 1) (pe_lst (pa_cons (pe_tup (pa_cons (pe_tup (pa_cons (pe_tup (pa_cons pe_str (pa_cons pe_int pa_nil))) (pa_cons pe_int (pa_cons (pe_tup (pa_cons pe_str (pa_cons pe_int pa_nil))) (pa_cons (pv 0) (pa_cons pe_int pa_nil)))))) (pa_cons (pe_un un_neg pe_int) (pa_cons pe_int (pa_cons (pe_tup (pa_cons pe_int (pa_cons pe_int pa_nil))) pa_nil))))) pa_nil))))
      (pss_cons (ps_expr (pe_bm PySem.F.plainAttrs_list PySem.F.slot_list_append PySem.F.type_list_append mt_append (pv 1) (pa_cons (pe_tup (pa_cons (pe_tup (pa_cons (pv 0) (pa_cons pe_int (pa_cons (pe_tup (pa_cons pe_str (pa_cons pe_int pa_nil))) (pa_cons pe_int (pa_cons (pv 0) pa_nil)))))) (pa_cons (pe_un un_neg pe_int) (pa_cons pe_int (pa_cons (pe_tup (pa_cons pe_int (pa_cons pe_int (pa_cons pe_int pa_nil)))) pa_nil))))) pa_nil)))
      (pss_cons (ps_setLc (i := 2) (own := [("_law_things_here", 4), ("_law_low", 5), ("_law_high", 6), ("_law_due", 7)]) (g := gTup K 4 (gCons (gName 4) (gCons (gName 5) (gCons (gName 6) (gCons (gName 7) gNil))))) (tt := tYes) (by rfl) nd rfl rfl (sw_true rfl rfl rfl (by decide +kernel)) (pi_list (pv 1)) (blkOk_by (own := [("_law_things_here", 4), ("_law_low", 5), ("_law_high", 6), ("_law_due", 7)]) (N := sl__law_are_few_right) (sc := defScope s__law_are_few_right) (by decide +kernel)) (fun _ _ _ _ _ => by exact (pg_tup rfl (pgs_cons (pg_name (i := 4) nd rfl (Or.inl rfl)) (pgs_cons (pg_name (i := 5) nd rfl (Or.inl rfl)) (pgs_cons (pg_name (i := 6) nd rfl (Or.inl rfl)) (pgs_cons (pg_name (i := 7) nd rfl (Or.inl rfl)) pgs_nil)))))) (fun _ _ _ _ _ => pts_nil) (fun _ _ _ _ _ => (pe_call G_long_jumps hr_long_jumps rfl T.m_long_jumps T.k_long_jumps T.b_long_jumps .nil pass0 (pa_cons (pv 4) (pa_cons (pv 5) (pa_cons (pv 6) pa_nil))))))
      (pss_cons (ps_setLc (i := 3) (own := [("_law_things_here", 4), ("_law_low", 5), ("_law_high", 6), ("_law_due", 7)]) (g := gTup K 4 (gCons (gName 4) (gCons (gName 5) (gCons (gName 6) (gCons (gName 7) gNil))))) (tt := tYes) (by rfl) nd rfl rfl (sw_true rfl rfl rfl (by decide +kernel)) (pi_list (pv 1)) (blkOk_by (own := [("_law_things_here", 4), ("_law_low", 5), ("_law_high", 6), ("_law_due", 7)]) (N := sl__law_are_few_right) (sc := defScope s__law_are_few_right) (by decide +kernel)) (fun _ _ _ _ _ => by exact (pg_tup rfl (pgs_cons (pg_name (i := 4) nd rfl (Or.inl rfl)) (pgs_cons (pg_name (i := 5) nd rfl (Or.inl rfl)) (pgs_cons (pg_name (i := 6) nd rfl (Or.inl rfl)) (pgs_cons (pg_name (i := 7) nd rfl (Or.inl rfl)) pgs_nil)))))) (fun _ _ _ _ _ => pts_nil) (fun _ _ _ _ _ => (pe_call G_holds_long hr_holds_long rfl T.m_holds_long T.k_holds_long T.b_holds_long .nil pass0 (pa_cons (pv 4) (pa_cons (pv 5) (pa_cons (pv 6) (pa_cons (pv 7) pa_nil)))))))
      (pss_one (ps_ret (by exact (pe_callG G__law_same gu hr__law_same rfl T.m__law_same T.k__law_same T.b__law_same .nil pass0 (pa_cons (pe_lst (pa_cons (pv 2) (pa_cons (pv 3) pa_nil))) (pa_cons (pe_lst (pa_cons (pe_lc (own := [("_law_row", 8)]) (g := gName 8) (tt := tYes) (by rfl) nd (pi_list (pv 1)) (blkOk_by (own := [("_law_row", 8)]) (N := sl__law_are_few_right) (sc := defScope s__law_are_few_right) (by decide +kernel)) (fun _ _ _ _ _ => pg_name (i := 8) nd rfl (Or.inl rfl)) (fun _ _ _ _ _ => pts_nil) (fun _ _ _ _ _ => (pe_ix (ix_tupK (K := K) rfl) (pv 8) pe_int (fun _ _ => rfl)))) (pa_cons (pe_op op_rep (pe_lst (pa_cons pe_bl pa_nil)) (pe_callB call_len_seq (by rfl) T.z_len PySem.boot_len (pa_cons (pv 1) pa_nil))) pa_nil))) pa_nil)))))))))))))))), ?_⟩
  refine goS (K := K) (d := .tuple [.str "jump", .int 2]) (by repeat (first | exact ev_int | exact ev_str | exact ev_bl | exact ev_non | exact ev_neg | exact ea_nil | exact ev_var rfl (.int _) | exact ev_var rfl (by assumption) | apply ea_cons | apply ev_tup | apply ev_lst | apply ev_add | apply ev_cat | apply ev_cut | apply ev_rev | apply ev_list | (simp only [List.length_map, List.length_cons, List.length_nil, List.length_append, List.length_reverse, List.length_take, List.length_drop]; omega))) fun vto H1 e1 hto => ?_
  refine goSL (K := K) (ds := rowsA.map Rw.d) (el_lst (by repeat (first | exact ev_int | exact ev_str | exact ev_bl | exact ev_non | exact ev_neg | exact ea_nil | exact ev_var rfl (.int _) | exact ev_var rfl (by assumption) | apply ea_cons | apply ev_tup | apply ev_lst | apply ev_add | apply ev_cat | apply ev_cut | apply ev_rev | apply ev_list | (simp only [List.length_map, List.length_cons, List.length_nil, List.length_append, List.length_reverse, List.length_take, List.length_drop]; omega))) (by decide)) fun p2 xs2 H2 e2 ep2 hx2 => ?_
  have hto2 := dp_same e2 hto
  refine goSL (K := K) (ds := (rowsA ++ rowsB).map Rw.d) (el_cat (ds := rowsA.map Rw.d) (es := rowsB.map Rw.d) (el_var rfl ep2 hx2) (el_lst (by repeat (first | exact ev_int | exact ev_str | exact ev_bl | exact ev_non | exact ev_neg | exact ea_nil | exact ev_var rfl (.int _) | exact ev_var rfl (by assumption) | apply ea_cons | apply ev_tup | apply ev_lst | apply ev_add | apply ev_cat | apply ev_cut | apply ev_rev | apply ev_list | (simp only [List.length_map, List.length_cons, List.length_nil, List.length_append, List.length_reverse, List.length_take, List.length_drop]; omega))) (by decide)) (by decide) (by decide)) fun p3 xs3 H3 e3 ep3 hx3 => ?_
  have hto3 := dp_same e3 hto2
  refine goSL (K := K) (ds := (rowsA ++ rowsB ++ rowsC).map Rw.d) (el_cat (ds := (rowsA ++ rowsB).map Rw.d) (es := rowsC.map Rw.d) (el_var rfl ep3 hx3) (el_lst (by repeat (first | exact ev_int | exact ev_str | exact ev_bl | exact ev_non | exact ev_neg | exact ea_nil | exact ev_var rfl (.int _) | exact ev_var rfl (by assumption) | apply ea_cons | apply ev_tup | apply ev_lst | apply ev_add | apply ev_cat | apply ev_cut | apply ev_rev | apply ev_list | (simp only [List.length_map, List.length_cons, List.length_nil, List.length_append, List.length_reverse, List.length_take, List.length_drop]; omega))) (by decide)) (by decide) (by decide)) fun p4 xs4 H4 e4 ep4 hx4 => ?_
  have hto4 := dp_same e4 hto3
  refine goSL (K := K) (ds := (rowsA ++ rowsB ++ rowsC ++ rowsE).map Rw.d) (el_cat (ds := (rowsA ++ rowsB ++ rowsC).map Rw.d) (es := rowsE.map Rw.d) (el_var rfl ep4 hx4) (el_lst (by repeat (first | exact ev_int | exact ev_str | exact ev_bl | exact ev_non | exact ev_neg | exact ea_nil | exact ev_var rfl (.int _) | exact ev_var rfl (by assumption) | apply ea_cons | apply ev_tup | apply ev_lst | apply ev_add | apply ev_cat | apply ev_cut | apply ev_rev | apply ev_list | (simp only [List.length_map, List.length_cons, List.length_nil, List.length_append, List.length_reverse, List.length_take, List.length_drop]; omega))) (by decide)) (by decide) (by decide)) fun p5 xs5 H5 e5 ep5 hx5 => ?_
  have hto5 := dp_same e5 hto4
  refine goSL (K := K) (ds := (rowsA ++ rowsB ++ rowsC ++ rowsE ++ rowsF).map Rw.d) (el_cat (ds := (rowsA ++ rowsB ++ rowsC ++ rowsE).map Rw.d) (es := rowsF.map Rw.d) (el_var rfl ep5 hx5) (el_lst (by repeat (first | exact ev_int | exact ev_str | exact ev_bl | exact ev_non | exact ev_neg | exact ea_nil | exact ev_var rfl (.int _) | exact ev_var rfl (by assumption) | apply ea_cons | apply ev_tup | apply ev_lst | apply ev_add | apply ev_cat | apply ev_cut | apply ev_rev | apply ev_list | (simp only [List.length_map, List.length_cons, List.length_nil, List.length_append, List.length_reverse, List.length_take, List.length_drop]; omega))) (by decide)) (by decide) (by decide)) fun p6 xs6 H6 e6 ep6 hx6 => ?_
  have hto6 := dp_same e6 hto5
  refine goSC (K := K) (ds := (rowsA ++ rowsB ++ rowsC ++ rowsE ++ rowsF).map Rw.d) (es := rowsG.map Rw.d) (el_var rfl ep6 hx6) (el_lst (by repeat (first | exact ev_int | exact ev_str | exact ev_bl | exact ev_non | exact ev_neg | exact ea_nil | exact ev_var rfl (.int _) | exact ev_var rfl (by assumption) | apply ea_cons | apply ev_tup | apply ev_lst | apply ev_add | apply ev_cat | apply ev_cut | apply ev_rev | apply ev_list | (simp only [List.length_map, List.length_cons, List.length_nil, List.length_append, List.length_reverse, List.length_take, List.length_drop]; omega))) (by decide)) (by decide) (by decide) fun p7 xs7 H7 e7 np7 ep7 hx7 => ?_
  have hto7 := dp_same e7 hto6
  refine ⟨_, rfl, .inl ⟨rfl, _, SqL.of ep7⟩, ?_⟩
  refine inA1 (K := K) (d := .tuple [.tuple [.tuple [.str "jump", .int 2], .int 4, .tuple [.str "jump", .int 0], .int 9, .tuple [.str "jump", .int 2]], .int (-5), .int 4, .tuple [.int 0, .int 2, .int 4]]) (by repeat (first | exact ev_int | exact ev_str | exact ev_bl | exact ev_non | exact ev_neg | exact ea_nil | exact ev_var rfl (.int _) | exact ev_var rfl (by assumption) | apply ea_cons | apply ev_tup | apply ev_lst | apply ev_add | apply ev_cat | apply ev_cut | apply ev_rev | apply ev_list | (simp only [List.length_map, List.length_cons, List.length_nil, List.length_append, List.length_reverse, List.length_take, List.length_drop]; omega))) fun zH H8 e8 hzH => ?_
  have hzH : Dp K H8 zH rowH.d := hzH
  have ep8 := e8 _ _ ep7
  have lx7 := dp_len hx7
  refine ⟨p7, xs7, zH, rfl, rfl, ep8, by rw [lx7]; exact szl (by decide), ?_⟩
  have hx9 : DpAll K (upd H8 p7 (.lst (xs7 ++ [zH]))) (xs7 ++ [zH]) (rowsW.map Rw.d) := by
    have nl : noLs (((rowsA ++ rowsB ++ rowsC ++ rowsE ++ rowsF).map Rw.d) ++ (rowsG.map Rw.d)) = true := by decide +kernel
    have h1 := dpAll_off ep8 nl (dpAll_same e8 hx7)
    have h2 := dp_off ep8 (show noL rowH.d = true by decide +kernel) hzH
    have h3 : DpAll K (del H8 p7) (xs7 ++ [zH]) (rowsW.map Rw.d) := dpAll_app h1 h2
    rw [← del_upd H8 p7 (.lst (xs7 ++ [zH]))] at h3
    exact dpAll_same (del_le _ p7) h3
  have e06 := ((((e1.trans e2).trans e3).trans e4).trans e5).trans e6
  have e9 : Same H (upd H8 p7 (.lst (xs7 ++ [zH]))) := same_mut ((e06.trans e7).trans e8) (none_of e06 np7)
  have ep9 : (upd H8 p7 (.lst (xs7 ++ [zH]))) p7 = some (.lst (xs7 ++ [zH])) := upd_same
  generalize upd H8 p7 (.lst (xs7 ++ [zH])) = H9 at hx9 e9 ep9 ⊢
  generalize xs7 ++ [zH] = xs at hx9 ep9
  have lx := dp_len hx9
  rw [List.length_map] at lx
  have lw : rowsW.length = 17 := rfl
  dsimp only
  refine at_st [some vto, some (.ref p7), none, none, none, none, none, none, none] rfl ?_
  -- long_jumps
  refine ⟨_, rfl, p7, rfl, ⟨_, SqL.of ep9⟩, fun D hD => ?_⟩
  refine lc_list (K := K) (a := p7) (xs := xs) (fun i H' => Same H9 H' ∧ ∃ ys, H' D = some (.lst ys) ∧ DpAll K (del H' D) ys ((rowsW.take i).map fun r => natD r.cs)) ?_ ?_ ?_ ?_
  · exact ⟨same_new hD _, [], upd_same, .nil⟩
  · rintro i H' _ ⟨e, _⟩
    exact SqL.of (e _ _ ep9)
  · rintro i z H' hiz ⟨e, ys, eD, hy⟩
    obtain ⟨r, hri, hdz⟩ := rws_get hx9 hiz
    have hok := rw_ok (List.mem_of_getElem? hri)
    obtain ⟨a, v0, v3, rfl, ha, hv0, hv3⟩ := row_inv (dp_same e hdz)
    have ly := dp_len hy
    rw [List.length_map, List.length_take] at ly
    refine ⟨a, _, rfl, ha, rfl, _, _, rfl, _, _, rfl, _, _, rfl, _, _, rfl, rfl, ?_⟩
    refine ⟨rfl, ?_⟩
    have h10 := hok.len
    refine ⟨_, rfl, _, rfl, _, rfl, v0, r.low, r.high, r.ts, rfl, hv0, by omega, hok.good, okTs_of hok.good hok.pos, hok.low, hok.high, fun p' H2 e2 hz => ?_⟩
    have eD2 := e2 _ _ eD
    refine ⟨ys, eD2, szl (by omega), same_mut (e.trans e2) hD, ys ++ [.ref p'], upd_same, ?_⟩
    rw [del_upd, List.take_succ, hri, List.map_append]
    refine dpAll_app (dpAll_same (same_del D e2) hy) (nat_dp (cs := r.cs) ?_)
    rw [hok.cs] at hz
    exact seqT_off hz eD2
  · rintro H10 ⟨e10, ys, eD, hy⟩
    rw [lx, List.take_length] at hy
    have hyA := dpAll_same (del_le _ D) hy
    have lyA := dp_len hyA
    rw [List.length_map] at lyA
    have ep10 := e10 _ _ ep9
    have hx10 := dpAll_same e10 hx9
    dsimp only [gName]
    refine at_st [some vto, some (.ref p7), some (.ref D), none, none, none, none, none, none] rfl ?_
    -- holds_long
    refine ⟨_, rfl, p7, rfl, ⟨_, SqL.of ep10⟩, fun C hC => ?_⟩
    refine lc_list (K := K) (a := p7) (xs := xs) (fun i H' => Same H10 H' ∧ H' C = some (.lst (List.replicate i (V.bl true)))) ?_ ?_ ?_ ?_
    · exact ⟨same_new hC _, upd_same⟩
    · rintro i H' _ ⟨e, _⟩
      exact SqL.of (e _ _ ep10)
    · rintro i z H' hiz ⟨e, eC⟩
      obtain ⟨r, hri, hdz⟩ := rws_get hx10 hiz
      have hi : i < rowsW.length := (List.getElem?_eq_some_iff.mp hri).1
      have hok := rw_ok (List.mem_of_getElem? hri)
      obtain ⟨a, v0, v3, rfl, ha, hv0, hv3⟩ := row_inv (dp_same e hdz)
      refine ⟨a, _, rfl, ha, rfl, _, _, rfl, _, _, rfl, _, _, rfl, _, _, rfl, rfl, ?_⟩
      refine ⟨rfl, ?_⟩
      have h10 := hok.len
      have hch : Chc r.ts r.cs := hok.cs ▸ Chc.least r.ts r.low r.high
      have hcl := hch.len
      refine ⟨_, rfl, _, rfl, _, rfl, _, rfl, v0, v3, r.low, r.high, r.ts, r.cs, rfl, ⟨hv0, by omega, hok.good, okTs_of hok.good hok.pos, hok.low, hok.high⟩, hv3, by omega, hch.asc, hch.at, fun H2 e2 => ?_⟩
      have hh : farL r.cs r.ts r.low r.high = [] := hok.cs ▸ leastS_holds r.ts r.low r.high
      rw [hh, decide_eq_true rfl]
      refine ⟨_, e2 _ _ eC, by rw [List.length_replicate]; exact szl (by omega), same_mut (e.trans e2) hC, ?_⟩
      rw [upd_same, List.replicate_succ']
    · rintro H11 ⟨e11, eC⟩
      have eD11 := e11 _ _ eD
      have hy11 := dpAll_same e11 hyA
      rw [lx] at eC
      dsimp only [gName]
      refine at_st [some vto, some (.ref p7), some (.ref D), some (.ref C), none, none, none, none, none] rfl ?_
      refine ⟨_, rfl, _, rfl, (by show 2 ≤ sizeLine; decide), fun q1 hq1 => ?_⟩
      have s12 := same_new hq1 (.lst [V.ref D, .ref C])
      have eq1 : (upd H11 q1 (.lst [V.ref D, .ref C])) q1 = some (.lst [V.ref D, .ref C]) := upd_same
      generalize upd H11 q1 (.lst [V.ref D, .ref C]) = H12 at s12 eq1 ⊢
      have ep12 := s12 _ _ (e11 _ _ ep10)
      have hx12 := dpAll_same (e11.trans s12) hx10
      have eD12 := s12 _ _ eD11
      have hy12 := dpAll_same s12 hy11
      have eC12 := s12 _ _ eC
      refine ⟨_, rfl, p7, rfl, ⟨_, SqL.of ep12⟩, fun B hB => ?_⟩
      refine lc_list (K := K) (a := p7) (xs := xs) (fun i H' => Same H12 H' ∧ ∃ ys, H' B = some (.lst ys) ∧ DpAll K (del H' B) ys ((rowsW.take i).map fun r => natD r.cs)) ?_ ?_ ?_ ?_
      · exact ⟨same_new hB _, [], upd_same, .nil⟩
      · rintro i H' _ ⟨e, _⟩
        exact SqL.of (e _ _ ep12)
      · rintro i z H' hiz ⟨e, zs, eB, hz⟩
        obtain ⟨r, hri, hdz⟩ := rws_get hx12 hiz
        obtain ⟨a, v0, v3, rfl, ha, hv0, hv3⟩ := row_inv (dp_same e hdz)
        have lz := dp_len hz
        rw [List.length_map, List.length_take] at lz
        refine ⟨rfl, ?_⟩
        refine ⟨_, rfl, a, _, _, _, rfl, rfl, ha, atI_nat (show [v0, V.int r.low, V.int r.high, v3][3]? = some v3 from rfl), ?_⟩
        refine ⟨zs, eB, szl (by omega), same_mut e hB, zs ++ [v3], upd_same, ?_⟩
        rw [del_upd, List.take_succ, hri, List.map_append]
        exact dpAll_app hz (dp_off eB (noL_nat r.cs) hv3)
      · rintro H13 ⟨e13, zs, eB, hz⟩
        rw [lx, List.take_length] at hz
        have hzA := dpAll_same (del_le _ B) hz
        refine ⟨(by show 1 ≤ sizeLine; decide), fun b hb => ?_⟩
        have s14 := same_new hb (.lst [V.bl true])
        refine ⟨_, rfl, p7, _, rfl, .inl (SqL.of (s14 _ _ (e13 _ _ ep12))), b, _, [V.bl true], rfl, rfl, upd_same, ?_, ?_, ?_, fun c hc => ?_⟩
        · rw [lx, lw]; decide
        · rw [lx, lw]; decide
        · rw [lx, lw]; decide
        rw [lx, lw]
        have s15 := same_new hc (.lst (List.replicate (((17 : Nat) : Int)).toNat [V.bl true]).flatten)
        refine ⟨(by show 2 ≤ sizeLine; decide), fun q2 hq2 => ?_⟩
        have s16 := same_new hq2 (.lst [V.ref B, .ref c])
        have e1316 := (s14.trans s15).trans s16
        refine ⟨.ref q1, .ref q2, dueF, rfl, ?_, ?_, dueF_rp, ?_⟩
        · refine .lst (SqL.of ((e13.trans e1316) _ _ eq1)) (.cons (.lst (SqL.of ((e13.trans e1316) _ _ eD12)) (dpAll_same (e13.trans e1316) hy12)) (.cons (.lst (SqL.of ((e13.trans e1316) _ _ eC12)) ?_) .nil))
          rw [lw]
          exact dp_reps 17
        · refine .lst (SqL.of upd_same) (.cons (.lst (SqL.of (e1316 _ _ eB)) (dpAll_same e1316 hzA)) (.cons (.lst (SqL.of (s16 _ _ upd_same)) ?_) .nil))
          exact dp_reps 17
        · exact k _ (((((e9.trans e10).trans e11).trans s12).trans e13).trans e1316)
end
end Lk

set_option Elab.async false
set_option linter.all false
set_option maxRecDepth 100000
set_option maxHeartbeats 4000000
set_option pp.maxSteps 1500
namespace Lk
open PySem PySem.Spec PyProof.Rows L2
/-! ### exceptions whose context is none are exceptions -/
theorem traced_imp {h base : Heap} {e : Addr} {Z Z' : Obj → Prop} {fl : Value} (i : ∀ o, Z o → Z' o) (t : HandSPX.TracedZ h base e Z fl) : HandSPX.TracedZ h base e Z' fl := by
  obtain ⟨oe, vs, T, oT, ts, h1, h2, r⟩ := t
  exact ⟨oe, vs, T, oT, ts, h1, i oe h2, r⟩
theorem cx_c {P : Program} {w : World} {outer : List Env} {H : Hp} {s : Shared} {E : XK} {u : Value} {s' : Shared} (c : L2N.CX P w outer H s E u s') : L2.CX P w outer H s E u s' := by
  obtain ⟨a, B, H', cls, d, e, ⟨f1, f2, f3, f4⟩, r⟩ := c
  exact ⟨a, B, H', cls, d, e, ⟨f1, f2, f3, traced_imp (fun _ z => L2N.Zn.zc z) f4⟩, r⟩
theorem fn_c {P : Program} {w : World} {K : PySem.W.Frag} {mg : Str → Option Value} {base : Heap} {k : Nat} {f : Addr} {fd : FuncData} {ps : List Str} {sp : Sp} (F : FnOk P w K mg base (L2N.CX P w) k f fd ps sp) : FnOk P w K mg base (L2.CX P w) k f fd ps sp :=
  ⟨F.len, fun A outer s H args us vs Q E hr e0 hb hv hs => codeAny_mono (F.run A outer s H args us vs Q E hr e0 hb hv hs) fun r s' z => by
    match r, z with
    | .error e, z => exact cx_c z
    | .ok (.ret _), z => exact z
    | .ok .next, z => exact z
    | .ok .brk, z => exact z
    | .ok .cont, z => exact z⟩
theorem takes_len {X : Cx} {W : WX} (t : Takes X W) : Takes X (fun c d σ H => σ.length = X.N.length → W c d σ H) := fun u s' ⟨a, B, sI, pins, σ, H, cls, d, e, I, nb, up, sky, na, os, ag, w⟩ => t u s' ⟨a, B, sI, pins, σ, H, cls, d, e, I, nb, up, sky, na, os, ag, w I.len⟩
/-- what is heard of a NotUsable that the asked one lets out -/
def heardOf (C : Addr) (Q : VK) : XK := fun cls d H' => ∃ (dd : Addr) (n : Str), cls = .ref C ∧ d = some dd ∧ H' dd = some (.xd [("at", .int (-1)), ("word", .str n)]) ∧ ∀ p H'', Same H' H'' → H'' p = some (.tup [.str "use", .str n, .int (-1)]) → Q (.ref p) H''
def TTHeard (C : Addr) : (XK → Hp → VK → Prop) → Hp → VK → Prop := fun tl H Q => tl (heardOf C Q) H fun v H2 => [V.str "told", v].length ≤ sizeLine ∧ ∀ p, H2 p = none → Q (.ref p) (upd H2 p (.tup [.str "told", v]))
def heardTs {K : PySem.W.Frag} {mg : Str → Option Value} (T : Txt K mg) (a : Addr) (cls : Value) (d : Option Addr) : TS := (tSeq (tAsg (tLst (tCons (tCB (rIsX K a cls d) (tCons (tVar 1) (tCons (tC (.ref T.C_PaperError)) tNil))) (tCons (tCB (rIsX K a cls d) (tCons (tVar 1) (tCons (tC (.ref T.C_UnitError)) tNil))) (tCons (tCB (rIsX K a cls d) (tCons (tVar 1) (tCons (tC (.ref T.C_LinkError)) tNil))) tNil)))) (gName 2)) (tSeq (tAsg (tOp rCat (tVar 2) (tLst (tCons (tCB (rIsX K a cls d) (tCons (tVar 1) (tCons (tC (.ref T.C_LiveError)) tNil))) (tCons (tCB (rIsX K a cls d) (tCons (tVar 1) (tCons (tC (.ref T.C_TextError)) tNil))) tNil)))) (gName 2)) (tSeq (tIfS (tAnd (tTest (tOp (rEqD K) (tVar 2) (tLst (tCons (tC (.bl false)) (tCons (tC (.bl true)) (tCons (tC (.bl false)) (tCons (tC (.bl false)) (tCons (tC (.bl false)) tNil)))))))) (tB (tCB (rIsX K a cls d) (tCons (tVar 1) (tCons (tC (.ref T.C_NotUsable)) tNil))))) (tRet (tTup (tCons (tC (.str "use")) (tCons (tXf a cls d T.C_NotUsable "word" (tVar 1)) (tCons (tXf a cls d T.C_NotUsable "at" (tVar 1)) tNil))))) tNext) (tSeq tNever (tSeq tNever (tSeq tNever (tSeq tNever tNever)))))))
theorem heard_gives {X : Cx} (T : Txt X.K X.mg) {k : Nat} (hr0 : Room (k + 1) X.A) {g : Addr} {cdg : Value} {q : Str} :
    LamX.GivesTo X sl__law_heard "_law_heard" (defScope s__law_heard) g cdg (defBody s__law_heard) "_law_ask" q (TTHeard T.C_NotUsable) := by
  intro f c' s H Q tl act hc h
  have hr := hr0.deeper (envOfC "_law_heard" (defScope s__law_heard) s.heap.objs.size g cdg)
  have nd := sc__law_heard.nd
  refine ⟨_, pss_one (ps_try_as (X := (cxOf C8.CX0 X.prog X.w X.K X.mg X.base sl__law_heard "_law_heard" (defScope s__law_heard) g cdg X.A X.stack s H C8.E0).nox) (c := .ref T.C_NeedError) (i := 1) (Wout := fun _ _ _ _ => False)
      (tb := fun W D σ H => ∃ Ech : XK, (∀ cls d σ' H', σ'.length = 3 → Ech cls d H' → W cls d σ' H') ∧ σ[0]? = some (some (.ref f)) ∧ H c' = some (LamX.CodeO c' q) ∧ tl Ech H fun v H2 => [V.str "told", v].length ≤ sizeLine ∧ ∀ p, H2 p = none → D.rt (.ref p) (upd H2 p (.tup [.str "told", v])))
      (ts := heardTs T)
      rfl rfl nd rfl rfl ⟨rfl, by decide, Or.inl T.mC_NeedError⟩ LamX.takes0 (fun W pn xe tk _ => ?_) (fun a oe cls d pn hz hf => ?_)), ?_⟩
  · refine ⟨fun pins s' σ H' D I h' => ?_⟩
    obtain ⟨Ech, hW, h1, h2, h3⟩ := h'
    exact (pss_one (ps_ret (pe_tup (pa_cons pe_str (pa_cons (act _ pn xe Ech _ _ (takes_len tk) fun cls d σ' H' he hl => hW cls d σ' H' hl he) pa_nil))))).run pins s' σ H' D I ⟨h1, h2, h3⟩
  · have hu : ((cxOf C8.CX0 X.prog X.w X.K X.mg X.base sl__law_heard "_law_heard" (defScope s__law_heard) g cdg X.A X.stack s H C8.E0).nox.suite a ((a, oe) :: pn)).A.units + 64 < cLine := by have := hr.un; exact hr.units
    exact (pss_cons (ps_set (i := 2) nd rfl (Or.inl rfl) (pe_lst (pa_cons (pe_callB (call_isX hz hf) (by rfl) T.z_isinstance (by decide +kernel) (pa_cons (pv 1) (pa_cons (pe_glob (v := .ref T.C_PaperError) rfl T.mC_PaperError rfl) pa_nil))) (pa_cons (pe_callB (call_isX hz hf) (by rfl) T.z_isinstance (by decide +kernel) (pa_cons (pv 1) (pa_cons (pe_glob (v := .ref T.C_UnitError) rfl T.mC_UnitError rfl) pa_nil))) (pa_cons (pe_callB (call_isX hz hf) (by rfl) T.z_isinstance (by decide +kernel) (pa_cons (pv 1) (pa_cons (pe_glob (v := .ref T.C_LinkError) rfl T.mC_LinkError rfl) pa_nil))) pa_nil)))))
      (pss_cons (ps_set (i := 2) nd rfl (Or.inl rfl) (pe_op op_cat (pv 2) (pe_lst (pa_cons (pe_callB (call_isX hz hf) (by rfl) T.z_isinstance (by decide +kernel) (pa_cons (pv 1) (pa_cons (pe_glob (v := .ref T.C_LiveError) rfl T.mC_LiveError rfl) pa_nil))) (pa_cons (pe_callB (call_isX hz hf) (by rfl) T.z_isinstance (by decide +kernel) (pa_cons (pv 1) (pa_cons (pe_glob (v := .ref T.C_TextError) rfl T.mC_TextError rfl) pa_nil))) pa_nil)))))
      (pss_cons (ps_if (PW.pt (pw_and (pt_cmpR (op_eqD hu) (pv 2) (pe_lst (pa_cons pe_bl (pa_cons pe_bl (pa_cons pe_bl (pa_cons pe_bl (pa_cons pe_bl pa_nil)))))) (nomark _)) (pw_and1 (pt_val (pe_callB (call_isX hz hf) (by rfl) T.z_isinstance (by decide +kernel) (pa_cons (pv 1) (pa_cons (pe_glob (v := .ref T.C_NotUsable) rfl T.mC_NotUsable rfl) pa_nil))))))) (pss_one (ps_ret (pe_tup (pa_cons pe_str (pa_cons (by exact (pe_xf T.xf_NotUsable T.n_NotUsable_word hz hf (pv 1))) (pa_cons (by exact (pe_xf T.xf_NotUsable T.n_NotUsable_at hz hf (pv 1))) pa_nil)))))) pss_nil)
      (pss_cons ps_never
      (pss_cons ps_never
      (pss_cons ps_never
      (pss_cons ps_never
      (pss_one ps_never))))))))
  · refine ⟨heardOf T.C_NotUsable Q, fun cls d σ' H' hl ⟨dd, n, e1, e2, hxd, kk⟩ => ?_, rfl, hc, h⟩
    subst e1 e2
    obtain ⟨x0, x1, x2, rfl⟩ : ∃ x0 x1 x2, σ' = [x0, x1, x2] := by
      match σ', hl with
      | [x0, x1, x2], _ => exact ⟨x0, x1, x2, rfl⟩
    refine ⟨true, T.ex_NotUsable_NeedError, fun _ a ha => ?_, fun z => Bool.noConfusion z⟩
    refine ⟨_, rfl, T.C_NotUsable, dd, _, _, _, _, rfl, rfl, hxd, T.xk_NotUsable, rfl, .own _, T.is_NotUsable_PaperError, ?_⟩
    refine ⟨_, rfl, T.C_NotUsable, dd, _, _, _, _, rfl, rfl, hxd, T.xk_NotUsable, rfl, .own _, T.is_NotUsable_UnitError, ?_⟩
    refine ⟨_, rfl, T.C_NotUsable, dd, _, _, _, _, rfl, rfl, hxd, T.xk_NotUsable, rfl, .own _, T.is_NotUsable_LinkError, ?_⟩
    refine ⟨(by show 3 ≤ sizeLine; decide), fun p1 hp1 => ?_⟩
    have s1 := same_new hp1 (.lst [V.bl false, .bl true, .bl false])
    have ep1 : (upd H' p1 (.lst [V.bl false, .bl true, .bl false])) p1 = some (.lst [V.bl false, .bl true, .bl false]) := upd_same
    generalize upd H' p1 (.lst [V.bl false, .bl true, .bl false]) = H1 at s1 ep1 ⊢
    have hxd1 := s1 _ _ hxd
    refine ⟨_, rfl, _, rfl, T.C_NotUsable, dd, _, _, _, _, rfl, rfl, hxd1, T.xk_NotUsable, rfl, .own _, T.is_NotUsable_LiveError, ?_⟩
    refine ⟨_, rfl, T.C_NotUsable, dd, _, _, _, _, rfl, rfl, hxd1, T.xk_NotUsable, rfl, .own _, T.is_NotUsable_TextError, ?_⟩
    refine ⟨(by show 2 ≤ sizeLine; decide), fun p2 hp2 => ?_⟩
    have s2 := same_new hp2 (.lst [V.bl false, .bl false])
    refine ⟨p1, p2, _, _, rfl, rfl, s2 _ _ ep1, upd_same, (by show 3 + 2 ≤ sizeLine; decide), fun p3 hp3 => ?_⟩
    have s3 := same_new hp3 (.lst ([V.bl false, .bl true, .bl false] ++ [V.bl false, .bl false]))
    have d3 : Dp X.K (upd (upd H1 p2 (.lst [V.bl false, .bl false])) p3 (.lst ([V.bl false, .bl true, .bl false] ++ [V.bl false, .bl false]))) (.ref p3) (blsD [false, true, false, false, false]) := .lst (SqL.of upd_same) (dp_bls [false, true, false, false, false])
    have s23 := s2.trans s3
    generalize upd (upd H1 p2 (.lst [V.bl false, .bl false])) p3 (.lst ([V.bl false, .bl true, .bl false] ++ [V.bl false, .bl false])) = H3 at s23 d3 ⊢
    refine ⟨_, rfl, (by show 5 ≤ sizeLine; decide), fun p4 hp4 => ?_⟩
    have s4 := same_new hp4 (.lst [V.bl false, .bl true, .bl false, .bl false, .bl false])
    refine ⟨blsD [false, true, false, false, false], blsD [false, true, false, false, false], dp_same s4 d3, .lst (SqL.of upd_same) (dp_bls [false, true, false, false, false]), (by decide +kernel), (by decide +kernel), _, rfl, ?_⟩
    have s04 := (s1.trans s23).trans s4
    have hxd4 := s04 _ _ hxd
    refine ifT (by decide +kernel) ?_
    refine ⟨_, rfl, T.C_NotUsable, dd, _, _, _, _, rfl, rfl, hxd4, T.xk_NotUsable, rfl, .own _, T.is_NotUsable_NotUsable, _, rfl, iteT ?_⟩
    refine ⟨_, rfl, rfl, rfl, dd, _, _, rfl, hxd4, rfl, _, rfl, rfl, rfl, dd, _, _, rfl, hxd4, rfl, (by show 3 ≤ sizeLine; decide), fun p5 hp5 => ?_⟩
    exact kk p5 _ (s04.trans (same_new hp5 _)) upd_same
end Lk

set_option Elab.async false
set_option linter.all false
set_option maxRecDepth 100000
set_option maxHeartbeats 4000000
namespace Lk
open PySem PySem.Spec PyProof.Rows L2
/-! ### what is refused, as data -/
def thsD (ts : List Th) : List PyData := ts.map Th.d
def odds1 (ts : List Th) : List PyData := [.none, .list (thsD ts), .tuple (thsD ts ++ [.int (-1)]), .tuple (thsD ts ++ [.bool true]), .tuple (thsD ts ++ [.tuple [.str "jump"]]), .tuple [.list [.str "jump", .int 0]], .int 7, .str "jump"]
def odds2 (ts : List Th) : List PyData := [.tuple (thsD ts ++ [.tuple [.str "jump", .int (((ts.length : Nat) : Int) + 2)]]), .tuple ([.tuple [.str "jump", .bool true]] ++ thsD ts), .tuple [.tuple [.str "jump", .int (-1)]], .tuple [.tuple [.str "jumps", .int 0]]]
def odds3 (ts : List Th) : List PyData := [.tuple (thsD ts ++ [.tuple [.str "jump", .int 0, .int 0]]), .tuple (thsD ts ++ [.none]), .tuple [.tuple [.str "jump", .none]], .tuple [.tuple []], .tuple [.tuple [.str "jump", .str "0"]]]
def odds4 : PyData := .tuple [.str "1"]
def oddsD (ts : List Th) : List PyData := odds1 ts ++ odds2 ts ++ odds3 ts ++ [odds4]
def lowsD : List PyData := [.int 1, .bool true, .bool false, .none, .str "0", .tuple [.int 0], .int (10 ^ (20 : Int).toNat), .list [.int 0], .str "-8"]
def highsD : List PyData := [.int (-1), .bool true, .bool false, .none, .str "7", .tuple [.int 7], .int (-(10 ^ (20 : Int).toNat)), .list [.int 7]]
def badsD (ts : List Th) : List PyData := [.none, natL (jmps ts), .tuple [.int ((ts.length : Nat) : Int)], .tuple [.int (-1)], .tuple [.bool true], .tuple [.none], .str "0", .int 0, .bool true, .tuple [.str "0"], .tuple [.tuple [.int 0]], .tuple [.bool false]]
structure OddT (d : PyData) : Prop where
  len : tlen d ≤ 2000
  calm : calmThs d = true
  no : isThs d = false
theorem calm_app {ds es : List PyData} (h1 : ds.all calmT = true) (h2 : es.all calmT = true) : calmThs (.tuple (ds ++ es)) = true := by
  show (ds ++ es).all calmT = true
  rw [List.all_append, h1, h2]; rfl
theorem calm_th (ts : List Th) : (thsD ts).all calmT = true := calm_ths ts
theorem odd_end {ts : List Th} {x : PyData} (hl : ts.length ≤ 400) (hc : calmT x = true) (h : isTh (ts.length + 1) x = false) : OddT (.tuple (thsD ts ++ [x])) := by
  have ll : (thsD ts ++ [x]).length = ts.length + 1 := by unfold thsD; rw [List.length_append, List.length_map]; rfl
  refine ⟨?_, calm_app (calm_th ts) (by show (calmT x && true) = true; rw [hc]; rfl), ?_⟩
  · show (thsD ts ++ [x]).length ≤ 2000
    omega
  · show (thsD ts ++ [x]).all (isTh (thsD ts ++ [x]).length) = false
    rw [ll, List.all_append]
    show ((thsD ts).all _ && (isTh (ts.length + 1) x && true)) = false
    rw [h, Bool.false_and, Bool.and_false]
theorem odd_start {ts : List Th} {x : PyData} (hl : ts.length ≤ 400) (hc : calmT x = true) (h : ∀ m, isTh m x = false) : OddT (.tuple ([x] ++ thsD ts)) := by
  have ll : ([x] ++ thsD ts).length = ts.length + 1 := by unfold thsD; rw [List.length_append, List.length_map]; show 1 + ts.length = _; omega
  refine ⟨?_, calm_app (by show (calmT x && true) = true; rw [hc]; rfl) (calm_th ts), ?_⟩
  · show ([x] ++ thsD ts).length ≤ 2000
    omega
  · show ([x] ++ thsD ts).all (isTh ([x] ++ thsD ts).length) = false
    rw [List.all_append]
    show ((isTh _ x && true) && _) = false
    rw [h, Bool.false_and, Bool.false_and]
theorem odds_all {ts : List Th} (hl : ts.length ≤ 400) : ∀ d ∈ oddsD ts, OddT d := fun d m => by
  unfold oddsD odds1 odds2 odds3 odds4 at m
  simp only [List.mem_append, List.mem_cons, List.not_mem_nil, or_false] at m
  rcases m with ((m | m) | m) | m
  · rcases m with h | h | h | h | h | h | h | h <;> subst h
    · exact ⟨Nat.zero_le _, rfl, rfl⟩
    · exact ⟨Nat.zero_le _, rfl, rfl⟩
    · exact odd_end hl rfl rfl
    · exact odd_end hl rfl rfl
    · exact odd_end hl rfl rfl
    · exact ⟨by decide +kernel, by decide +kernel, by decide +kernel⟩
    · exact ⟨Nat.zero_le _, rfl, rfl⟩
    · exact ⟨Nat.zero_le _, rfl, rfl⟩
  · rcases m with h | h | h | h <;> subst h
    · refine odd_end hl rfl ?_
      show ((("jump" : Str) == ("jump" : Str)) && (decide (0 ≤ ((ts.length : Nat) : Int) + 2) && decide ((((ts.length : Nat) : Int) + 2) ≤ ((ts.length + 1 : Nat) : Int)))) = false
      rw [decide_eq_false (show ¬ ((((ts.length : Nat) : Int) + 2) ≤ ((ts.length + 1 : Nat) : Int)) by omega), Bool.and_false, Bool.and_false]
    · exact odd_start hl rfl fun m => rfl
    · exact ⟨by decide +kernel, by decide +kernel, by decide +kernel⟩
    · exact ⟨by decide +kernel, by decide +kernel, by decide +kernel⟩
  · rcases m with h | h | h | h | h <;> subst h
    · exact odd_end hl rfl rfl
    · exact odd_end hl rfl rfl
    · exact ⟨by decide +kernel, by decide +kernel, by decide +kernel⟩
    · exact ⟨by decide +kernel, by decide +kernel, by decide +kernel⟩
    · exact ⟨by decide +kernel, by decide +kernel, by decide +kernel⟩
  · subst m
    exact ⟨by decide +kernel, by decide +kernel, by decide +kernel⟩
theorem lows_all : ∀ d ∈ lowsD, okLow d = false := by decide +kernel
theorem highs_all : ∀ d ∈ highsD, isN d = false := by decide +kernel
/-- no choice -/
structure BadC (ts : List Th) (d : PyData) : Prop where
  len : tlen d ≤ 2000
  no : isCh ts d = false
theorem asc_of : ∀ {l : List Int}, ascI (l.map PyData.int) = true → l.Pairwise (· < ·)
  | [], _ => List.Pairwise.nil
  | [a], _ => List.pairwise_singleton ..
  | a :: b :: r, h => by
    have h' : (decide (a < b) && ascI ((b :: r).map PyData.int)) = true := h
    obtain ⟨h1, h2⟩ := Bool.and_eq_true_iff.mp h'
    have ih := asc_of h2
    have hab := of_decide_eq_true h1
    refine List.pairwise_cons.mpr ⟨fun x m => ?_, ih⟩
    rcases List.mem_cons.mp m with q | q
    · rw [q]; exact hab
    · have := (List.pairwise_cons.mp ih).1 x q; omega
theorem isCh_asc {ts : List Th} {l : List Int} (h : isCh ts (.tuple (l.map .int)) = true) : l.Pairwise (· < ·) := by
  have := (Bool.and_eq_true_iff.mp h).1
  rw [isS_eq] at this
  exact asc_of (Bool.and_eq_true_iff.mp this).2
theorem isCh_at {ts : List Th} {l : List Int} (h : isCh ts (.tuple (l.map .int)) = true) : ∀ i ∈ l, jmpAt ts i = true := fun i m => by
  have h2 := (Bool.and_eq_true_iff.mp h).2
  exact List.all_eq_true.mp h2 (.int i) (List.mem_map.mpr ⟨i, m, rfl⟩)
theorem bad_ints {ts : List Th} {l : List Int} (hl : l.length ≤ 2000) (h : ¬ (l.Pairwise (· < ·) ∧ ∀ i ∈ l, jmpAt ts i = true)) : BadC ts (.tuple (l.map .int)) := by
  refine ⟨by show (l.map _).length ≤ 2000; rw [List.length_map]; exact hl, Bool.eq_false_iff.mpr fun z => h ⟨isCh_asc z, isCh_at z⟩⟩
theorem bads_all {ts : List Th} (hl : ts.length ≤ 400) : ∀ d ∈ badsD ts, BadC ts d := fun d m => by
  unfold badsD at m
  simp only [List.mem_cons, List.not_mem_nil, or_false] at m
  have jl := (Chc.all ts).len
  rcases m with h | h | h | h | h | h | h | h | h | h | h | h <;> subst h
  · exact ⟨Nat.zero_le _, rfl⟩
  · exact ⟨Nat.zero_le _, rfl⟩
  · refine bad_ints (l := [((ts.length : Nat) : Int)]) (Nat.le_of_ble_eq_true rfl) fun ⟨_, h⟩ => ?_
    have := h _ List.mem_cons_self
    unfold jmpAt at this
    rw [decide_eq_false (by omega), Bool.false_and] at this
    cases this
  · exact ⟨by decide +kernel, rfl⟩
  · exact ⟨by decide +kernel, rfl⟩
  · exact ⟨by decide +kernel, rfl⟩
  · exact ⟨Nat.zero_le _, rfl⟩
  · exact ⟨Nat.zero_le _, rfl⟩
  · exact ⟨Nat.zero_le _, rfl⟩
  · exact ⟨by decide +kernel, rfl⟩
  · exact ⟨by decide +kernel, rfl⟩
  · exact ⟨by decide +kernel, rfl⟩
theorem bad_dup {ts : List Th} {js ms : List Nat} (hl : js.length ≤ 400) (hm : ms.length ≤ 400) (h1 : ms ≠ []) (h2 : ∀ i ∈ ms, i ∈ js) : BadC ts (natD (js ++ ms)) := by
  have e : natD (js ++ ms) = .tuple (((js ++ ms).map fun (i : Nat) => (i : Int)).map .int) := by unfold natD; rw [List.map_map]; rfl
  rw [e]
  refine bad_ints (by rw [List.length_map, List.length_append]; omega) fun ⟨h, _⟩ => ?_
  cases ms with
  | nil => exact h1 rfl
  | cons m r =>
    rw [List.map_append] at h
    have := (List.pairwise_append.mp h).2.2 (m : Int) (List.mem_map.mpr ⟨m, h2 m List.mem_cons_self, rfl⟩) (m : Int) (List.mem_map.mpr ⟨m, List.mem_cons_self, rfl⟩)
    omega
theorem bad_rev {ts : List Th} {js : List Nat} (hl : js.length ≤ 400) (ha : js.Pairwise (· < ·)) (h1 : 1 < js.length) : BadC ts (natD js.reverse) := by
  have e : natD js.reverse = .tuple ((js.reverse.map fun (i : Nat) => (i : Int)).map .int) := by unfold natD; rw [List.map_map]; rfl
  rw [e]
  refine bad_ints (by rw [List.length_map, List.length_reverse]; omega) fun ⟨h, _⟩ => ?_
  rw [List.pairwise_map, List.pairwise_reverse] at h
  match js, h1, ha, h with
  | a :: b :: r, _, ha, h =>
    have h1 := (List.pairwise_cons.mp ha).1 b List.mem_cons_self
    have h2 := (List.pairwise_cons.mp h).1 b List.mem_cons_self
    omega
theorem bad_plain {ts : List Th} {zs : List Int} {p : Nat} (hl : zs.length ≤ 2000) (h : (p : Int) ∈ zs) (hp : p ∉ jmps ts) : BadC ts (.tuple (zs.map .int)) := by
  refine bad_ints hl fun ⟨_, h2⟩ => hp ?_
  have := h2 _ h
  unfold jmpAt at this
  obtain ⟨q1, q2⟩ := Bool.and_eq_true_iff.mp this
  rw [Int.toNat_natCast] at q2
  exact List.mem_filter.mpr ⟨List.mem_range.mpr (by have := of_decide_eq_true q1; omega), q2⟩
theorem cut_last {l : List Nat} (h : l ≠ []) : ∃ m : List Nat, cutV (nV l) (some (-1)) none = nV m ∧ m ≠ [] ∧ m.length ≤ l.length ∧ ∀ i ∈ m, i ∈ l := by
  have hp : 0 < l.length := List.length_pos_iff.mpr h
  refine ⟨(l.drop (l.length - 1)).take 1, ?_, ?_, ?_, ?_⟩
  · unfold cutV
    have e1 : HT.sIx (nV l).length 0 (some (-1)) = l.length - 1 := by
      rw [nV_len]
      show (if (-1 : Int) < 0 then ((-1 : Int) + (l.length : Int)).toNat else min (-1 : Int).toNat l.length) = _
      rw [if_pos (by decide)]; omega
    have e2 : HT.sIx (nV l).length (nV l).length none = l.length := (HT.sIx_none _ _).trans (nV_len l)
    rw [e1, e2, show l.length - (l.length - 1) = 1 by omega]
    unfold nV
    rw [List.map_take, List.map_drop]
  · intro z
    have := congrArg List.length z
    rw [List.length_take, List.length_drop] at this
    simp at this; omega
  · rw [List.length_take, List.length_drop]; omega
  · exact fun i m => List.mem_of_mem_drop (List.mem_of_mem_take m)
/-! ### lists that are made away from a list at l -/
def EvM (K : PySem.W.Frag) (l : Addr) (σ : L2.St) (H0 : Hp) (t : TE) (ds : List PyData) : Prop := ∀ (H : Hp) (Q : VK), Same H0 H → (∀ p xs H', Same H H' → H' p = some (.lst xs) → DpAll K (del H' l) xs ds → Q (.ref p) H') → t σ H Q
section
variable {K : PySem.W.Frag} {l : Addr} {σ : L2.St} {H0 : Hp}
theorem em_lst {ts : TA} {ds : List PyData} (a : EaE K l σ H0 ts ds) (n : ds.length ≤ 1000) : EvM K l σ H0 (tLst ts) ds := fun H Q e k =>
  a H _ e fun xs H1 e1 h1 => ⟨by rw [dp_len h1]; exact Nat.le_of_lt (szl (by omega)), fun p hp => k p xs _ (e1.trans (same_new hp _)) upd_same (dpAll_same (same_del l (same_new hp _)) h1)⟩
theorem em_var {i : Nat} {p : Addr} {xs : List V} {ds : List PyData} (h : σ[i]? = some (some (.ref p))) (h1 : H0 p = some (.lst xs)) (hd : DpAll K (del H0 l) xs ds) : EvM K l σ H0 (tVar i) ds := fun H Q e k => ⟨_, h, k p xs H (Same.refl _) (e _ _ h1) (dpAll_same (same_del l e) hd)⟩
/-- a new list, and what lies in it lies away from it -/
theorem goMC {ta tb : TE} {rest : TS} {D : Ends} {i : Nat} {ds es : List PyData} (a : EvM K l σ H0 ta ds) (b : EvM K l σ H0 tb es) (n : ds.length ≤ 1000) (m : es.length ≤ 1000) (k : ∀ p xs H', Same H0 H' → H0 p = none → H' p = some (.lst xs) → DpAll K (del (del H' l) p) xs (ds ++ es) → rest D (σ.set i (some (.ref p))) H') : tSeq (tAsg (tOp rCat ta tb) (gName i)) rest D σ H0 :=
  a H0 _ (Same.refl _) fun p xs H1 e1 h1 d1 => b H1 _ e1 fun q ys H2 e2 h2 d2 =>
    ⟨p, q, xs, ys, rfl, rfl, e2 _ _ h1, h2, by rw [dp_len d1, dp_len d2]; exact Nat.le_of_lt (szl (by omega)), fun r hr => by
      have s := same_off (same_new hr (.lst (xs ++ ys))) hr
      have s' : Same (del H2 l) (del (del (upd H2 r (.lst (xs ++ ys))) l) r) := by rw [del_comm]; exact same_del l s
      exact k r _ _ ((e1.trans e2).trans (same_new hr _)) (none_of (e1.trans e2) hr) upd_same (dpAll_cat2 (dpAll_same ((same_del l e2).trans s') d1) (dpAll_same s' d2))⟩
theorem goML {ts : TA} {rest : TS} {D : Ends} {i : Nat} {ds : List PyData} (a : EaE K l σ H0 ts ds) (n : ds.length ≤ 1000) (k : ∀ p xs H', Same H0 H' → H0 p = none → H' p = some (.lst xs) → DpAll K (del (del H' l) p) xs ds → rest D (σ.set i (some (.ref p))) H') : tSeq (tAsg (tLst ts) (gName i)) rest D σ H0 :=
  a H0 _ (Same.refl _) fun xs H1 e1 h1 => ⟨by rw [dp_len h1]; exact Nat.le_of_lt (szl (by omega)), fun p hp => by
    have s := same_off (same_new hp (.lst xs)) hp
    have s' : Same (del H1 l) (del (del (upd H1 p (.lst xs)) l) p) := by rw [del_comm]; exact same_del l s
    exact k p xs _ (e1.trans (same_new hp _)) (none_of e1 hp) upd_same (dpAll_same s' h1)⟩
theorem inE1 {t : TE} {d : PyData} {Q : List V → Hp → Prop} (e : EvE K l σ H0 t d) (k : ∀ x H', Same H0 H' → Dp K (del H' l) x d → Q [x] H') : tCons t tNil σ H0 Q := e H0 _ (Same.refl _) k
theorem ee_listL {i : Nat} {p : Addr} {cs : List Nat} {zs : List V} (hl : H0 l = some (.lst zs)) (h : σ[i]? = some (some (.ref p))) (hp : SqL K H0 p (nV cs)) : EvE K l σ H0 (tCB (fun xs H Q => ∃ p ys, xs = [V.ref p] ∧ (SqL K H p ys ∨ SqT K H p ys) ∧ ∀ l, H l = none → Q (.ref l) (upd H l (.lst ys))) (tCons (tVar i) tNil)) (natL cs) := fun H Q e k => by
  refine ⟨_, h, p, _, rfl, .inl (Same.seq e hp), fun q hq => ?_⟩
  refine k _ _ (same_new hq _) ?_
  have en : nV cs = iV (cs.map fun (i : Nat) => (i : Int)) := by unfold nV iV; rw [List.map_map]; rfl
  rw [en]
  exact .lst (SqL.of (off_new hl e hq).2) (dp_ints _)
end
/-! ### what the turns keep -/
def noTb (H : Hp) : Hp := fun b => match H b with
  | some (.tbl _) => none
  | o => o
theorem noTb_some {H : Hp} {b : Addr} {o : HO} (h : H b = some o) (n : ∀ ps, o ≠ .tbl ps) : noTb H b = some o := by
  unfold noTb
  rw [h]
  cases o with
  | tbl ps => exact absurd rfl (n ps)
  | _ => rfl
theorem noTb_le (H : Hp) : Same (noTb H) H := fun b o e => by
  unfold noTb at e
  cases h : H b with
  | none => rw [h] at e; cases e
  | some u =>
    rw [h] at e
    cases u with
    | tbl ps => cases e
    | _ => exact e
theorem noTb_notb {H : Hp} {b : Addr} {o : HO} (e : noTb H b = some o) : ∀ ps, o ≠ .tbl ps := fun ps z => by
  unfold noTb at e
  subst z
  cases h : H b with
  | none => rw [h] at e; cases e
  | some u =>
    rw [h] at e
    cases u with
    | tbl ps => cases e
    | _ => cases e
theorem noTb_ext {H H' : Hp} (x : LamX.ExtN H H') : Same (noTb H) (noTb H') := fun b o e => noTb_some (x b o (noTb_le H b o e) (noTb_notb e)) (noTb_notb e)
theorem noTb_same {H H' : Hp} (x : Same H H') : Same (noTb H) (noTb H') := noTb_ext (LamX.ExtN.of x)
theorem seqT_tb {K : PySem.W.Frag} {H : Hp} {a : Addr} {xs : List V} (h : SqT K H a xs) : SqT K (noTb H) a xs := by
  rcases h with (h | ⟨o, h⟩) | h
  · exact .inl (.inl (noTb_some h fun _ z => nomatch z))
  · exact .inl (.inr ⟨o, noTb_some h fun _ z => nomatch z⟩)
  · exact .inr h
theorem seqL_tb {K : PySem.W.Frag} {H : Hp} {a : Addr} {xs : List V} (h : SqL K H a xs) : SqL K (noTb H) a xs := by
  rcases h with (h | ⟨o, h⟩) | h
  · exact .inl (.inl (noTb_some h fun _ z => nomatch z))
  · exact .inl (.inr ⟨o, noTb_some h fun _ z => nomatch z⟩)
  · exact .inr h
mutual
theorem dp_tb {K : PySem.W.Frag} {H : Hp} : ∀ {v : V} {d : PyData}, Dp K H v d → Dp K (noTb H) v d
  | _, _, .non => .non
  | _, _, .bl b => .bl b
  | _, _, .int i => .int i
  | _, _, .str x => .str x
  | _, _, .lst h a => .lst (seqL_tb h) (dpAll_tb a)
  | _, _, .tup h a => .tup (seqT_tb h) (dpAll_tb a)
theorem dpAll_tb {K : PySem.W.Frag} {H : Hp} : ∀ {vs : List V} {ds : List PyData}, DpAll K H vs ds → DpAll K (noTb H) vs ds
  | _, _, .nil => .nil
  | _, _, .cons a b => .cons (dp_tb a) (dpAll_tb b)
end
theorem seqL_offF {K : PySem.W.Frag} {H : Hp} {l q a : Addr} {ns : List Int} {xs : List V} (f : Feed K H l q ns) (h : SqL K H a xs) : SqL K (del H l) a xs := by
  obtain ⟨_, _, _, hl, _⟩ := f
  rcases h with (h | ⟨o, h⟩) | h
  · exact .inl (.inl (by rw [del_ne (fun z => by rw [z, hl] at h; cases h)]; exact h))
  · exact .inl (.inr ⟨o, by rw [del_ne (fun z => by rw [z, hl] at h; cases h)]; exact h⟩)
  · exact .inr h
mutual
theorem dp_offL {K : PySem.W.Frag} {H : Hp} {l q : Addr} {ns : List Int} (f : Feed K H l q ns) : ∀ {v : V} {d : PyData}, Dp K H v d → Dp K (del H l) v d
  | _, _, .non => .non
  | _, _, .bl b => .bl b
  | _, _, .int i => .int i
  | _, _, .str x => .str x
  | _, _, .lst h a => .lst (seqL_offF f h) (dpAll_offL f a)
  | _, _, .tup h a => .tup (seqT_offF f h) (dpAll_offL f a)
theorem dpAll_offL {K : PySem.W.Frag} {H : Hp} {l q : Addr} {ns : List Int} (f : Feed K H l q ns) : ∀ {vs : List V} {ds : List PyData}, DpAll K H vs ds → DpAll K (del H l) vs ds
  | _, _, .nil => .nil
  | _, _, .cons a b => .cons (dp_offL f a) (dpAll_offL f b)
end
/-- what the turns leave: all but the feed, the list of what is told, and tables -/
def Rest (l pt : Addr) (H : Hp) : Hp := del (noTb (del H l)) pt
theorem rest_le (l pt : Addr) (H : Hp) : Same (Rest l pt H) H := (del_le _ pt).trans ((noTb_le _).trans (del_le _ l))
theorem rest_at {l pt b : Addr} {H : Hp} {o : HO} (h : H b = some o) (n1 : b ≠ l) (n2 : b ≠ pt) (n3 : ∀ ps, o ≠ .tbl ps) : Rest l pt H b = some o := by
  unfold Rest
  rw [del_ne n2]
  exact noTb_some (by rw [del_ne n1]; exact h) n3
theorem rest_ext {l pt : Addr} {H H' : Hp} (x : LamX.ExtN H H') : Same (Rest l pt H) (Rest l pt H') := by
  refine same_del pt (noTb_ext fun b o e n => ?_)
  by_cases c : b = l
  · subst c; rw [del_same] at e; cases e
  · rw [del_ne c] at e ⊢; exact x b o e n
structure RI (K : PySem.W.Frag) (l q pt : Addr) (ns : List Int) (tb : List (Addr × Str)) (HB H : Hp) (ds : List PyData) : Prop where
  f : Feed K H l q ns
  c : SqL K (del (del H l) pt) q (iV ns)
  s : Same (Rest l pt HB) (Rest l pt H)
  np : pt ≠ l
  no : noLs ds = true
  told : ∃ xs, H pt = some (.lst xs) ∧ DpAll K (del H pt) xs ds
  tab : LamX.Tabs tb H
section
variable {K : PySem.W.Frag} {l q pt : Addr} {ns : List Int} {tb : List (Addr × Str)} {HB H H' : Hp} {ds : List PyData}
theorem RI.ext (r : RI K l q pt ns tb HB H ds) (e : Same H H') : RI K l q pt ns tb HB H' ds := by
  obtain ⟨f, c, s, np, no, ⟨xs, h1, h2⟩, tab⟩ := r
  exact ⟨((FI.ref f).ext e).f, Same.seq (same_del pt (same_del l e)) c, s.trans (rest_ext (LamX.ExtN.of e)), np, no, ⟨xs, e _ _ h1, dpAll_same (same_del pt e) h2⟩, tab.ext e⟩
theorem ext_del {H H' : Hp} (x : LamX.ExtN H H') (c : Addr) : LamX.ExtN (del H c) (del H' c) := fun b o e n => by
  by_cases z : b = c
  · subst z; rw [del_same] at e; cases e
  · rw [del_ne z] at e ⊢; exact x b o e n
theorem RI.lam (r : RI K l q pt ns tb HB H ds) (x : LamX.ExtN H H') (t : LamX.Tabs tb H') : RI K l q pt ns tb HB H' ds := by
  obtain ⟨⟨p, b, u, f1, f2, f3, f4⟩, c, s, np, no, ⟨xs, h1, h2⟩, tab⟩ := r
  have g1 := x _ _ f1 (fun _ z => nomatch z)
  have g2 := x _ _ h1 (fun _ z => nomatch z)
  refine ⟨⟨p, b, u, g1, ?_, f3, f4⟩, ?_, s.trans (rest_ext x), np, no, ⟨xs, g2, ?_⟩, t⟩
  · exact Same.seq (noTb_le _) (Same.seq (noTb_ext (ext_del x l)) (seqL_tb f2))
  · exact Same.seq (noTb_le _) (Same.seq (noTb_ext (ext_del (ext_del x l) pt)) (seqL_tb c))
  · exact dpAll_same (noTb_le _) (dpAll_same (noTb_ext (ext_del x pt)) (dpAll_tb h2))
theorem tabs_off {H H' : Hp} {b : Addr} {o : HO} (hb : H b = some o) (n1 : ∀ ps, o ≠ .tbl ps) (n2 : ∀ q, o ≠ LamX.CodeO b q) (e : Same (del H b) (del H' b)) (t : LamX.Tabs tb H) : LamX.Tabs tb H' := fun p hp => by
  obtain ⟨ps, h1, h2, h3⟩ := t p hp
  have at_ : ∀ {c : Addr} {u : HO}, c ≠ b → H c = some u → H' c = some u := fun {c u} n h => by
    have := e c u (by rw [del_ne n]; exact h)
    rw [del_ne n] at this; exact this
  refine ⟨ps, at_ (fun z => n1 ps (Option.some.inj (hb.symm.trans (by rw [← z]; exact h1)))) h1, h2, fun pos cv hc => ?_⟩
  obtain ⟨c, e1, e2⟩ := h3 pos cv hc
  refine ⟨c, e1, at_ (fun z => ?_) e2⟩
  subst z
  exact n2 p.2 (Option.some.inj (hb.symm.trans e2))
theorem RI.draw (r : RI K l q pt ns tb HB H ds) (f2 : Feed K H' l q ns) (e : Same (del H l) (del H' l)) : RI K l q pt ns tb HB H' ds := by
  obtain ⟨f, c, s, np, no, ⟨xs, h1, h2⟩, tab⟩ := r
  have hp := Same.off e np h1
  refine ⟨f2, Same.seq (same_del pt e) c, s.trans (same_del pt (noTb_same e)), np, no, ⟨xs, hp, ?_⟩, ?_⟩
  · have hl1 := dpAll_offF f no (dpAll_same (del_le H pt) h2)
    exact dpAll_off hp no (dpAll_same (del_le H' l) (dpAll_same e hl1))
  · obtain ⟨_, _, _, hl, _⟩ := f
    exact tabs_off hl (fun _ z => nomatch z) (fun _ z => by unfold LamX.CodeO at z; cases z) e tab
theorem RI.put (r : RI K l q pt ns tb HB H ds) {xs : List V} {v : V} {d : PyData} (h : H pt = some (.lst xs)) (nd : noL d = true) (hv : Dp K H v d) : RI K l q pt ns tb HB (upd H pt (.lst (xs ++ [v]))) (ds ++ [d]) := by
  obtain ⟨f, c, s, np, no, ⟨ys, h1, h2⟩, tab⟩ := r
  rw [h] at h1
  obtain rfl := HO.lst.inj (Option.some.inj h1)
  have e : Same (del H pt) (del (upd H pt (.lst (xs ++ [v]))) pt) := by rw [del_upd]; exact Same.refl _
  have no2 : noLs (ds ++ [d]) = true := by
    have go : ∀ ds : List PyData, noLs ds = true → noLs (ds ++ [d]) = true := fun ds => by
      induction ds with
      | nil => intro _; show (noL d && true) = true; rw [nd]; rfl
      | cons a r ih =>
        intro h
        obtain ⟨q1, q2⟩ := Bool.and_eq_true_iff.mp h
        show (noL a && noLs (r ++ [d])) = true
        rw [q1, ih q2]; rfl
    exact go ds no
  have c2 : SqL K (del (del (upd H pt (.lst (xs ++ [v]))) l) pt) q (iV ns) := by
    rw [del_comm, del_upd, del_comm]; exact c
  refine ⟨?_, c2, ?_, np, no2, ⟨_, upd_same, ?_⟩, tabs_off h (fun _ z => nomatch z) (fun _ z => by unfold LamX.CodeO at z; cases z) e tab⟩
  · obtain ⟨p, b, u, f1, f2, f3, f4⟩ := f
    exact ⟨p, b, u, by rw [upd_ne np.symm]; exact f1, Same.seq (del_le _ pt) c2, f3, f4⟩
  · refine s.trans ?_
    unfold Rest
    refine fun b o hb => ?_
    by_cases c : b = pt
    · subst c; rw [del_same] at hb; cases hb
    · rw [del_ne c] at hb ⊢
      have h3 := noTb_le _ _ _ hb
      refine noTb_some ?_ (noTb_notb hb)
      by_cases z : b = l
      · subst z; rw [del_same] at h3; cases h3
      · rw [del_ne z] at h3 ⊢; rw [upd_ne c]; exact h3
  · rw [del_upd]
    exact dpAll_app h2 (dp_off h nd hv)
theorem RI.dp (r : RI K l q pt ns tb HB H ds) {v : V} {d : PyData} (h : Dp K (Rest l pt HB) v d) : Dp K H v d := dp_same (rest_le l pt H) (dp_same r.s h)
theorem RI.at (r : RI K l q pt ns tb HB H ds) {a : Addr} {o : HO} (h : Rest l pt HB a = some o) : H a = some o := rest_le l pt H _ _ (r.s _ _ h)
end
end Lk

set_option Elab.async false
set_option linter.all false
set_option maxRecDepth 100000
set_option maxHeartbeats 4000000
set_option pp.maxSteps 1500
namespace Lk
open PySem PySem.Spec PyProof.Rows L2
theorem pe_heard {X : Cx} (T : Txt X.K X.mg) {k : Nat} (hr : Room (k + 2) X.A) {tb : List (Addr × Str)} {c P : Addr} (TB : LamX.TabB X.base X.mg c P) (hcode : X.env.code = .ref c) (hmT : (P, X.env.qual ++ "<lambda>") ∈ tb) (hu : ∀ p ∈ tb, p.1 = P → p.2 = X.env.qual ++ "<lambda>")
    {params : Arguments} {body : Expr} {scope : Scope} {t : XK → TE} {p lpos pos : PySem.Pos} (hg : Gl X "_law_heard") (L : LamX.LamS X.env.scope scope) (hdef : defaultsOf params X.env = ([], []))
    (hbind : ∀ (q : Str) (cl : List (Str × Addr)) (pm cv ctv : Value), bindArgs (PySem.W.kla_fn "<lambda>" q params body scope cl pm cv ctv) ⟨[], []⟩ = pure [])
    (hbody : ∀ (A : Around) (outer : List Env) (s : Shared) (H : Hp) (E : XK) (f c' : Addr), Room k (A.deeper (LamX.lamEnv X scope s.heap.objs.size f c')) → PE (LamX.lamCx X A outer s H E scope f c') body (t E)) :
    PE X (.Call (.Name "_law_heard" p) [.Lambda params body scope lpos] [] pos) (LamX.tLam tb (TTHeard T.C_NotUsable) t) := by
  obtain ⟨oc, od, kV, doc, pm, an, cdv, ct, osl, e, lk, h⟩ := T.F__law_heard.ex
  have b := T.b__law_heard
  rw [e] at lk b
  exact LamX.pe_lamcall hg T.m__law_heard T.k__law_heard lk h b sc__law_heard rfl (.inl rfl) (heard_gives T (k := 0) (hr.mono (by omega))) TB hcode hmT hu hr L hdef hbind hbody
theorem ee_pow {K : PySem.W.Frag} {l : Addr} {σ : L2.St} {H0 : Hp} {i j : Int} (h : CPow i j) : EvE K l σ H0 (tOp (rI CPow fun i j => .int (i ^ j.toNat)) (tC (.int i)) (tC (.int j))) (.int (i ^ j.toNat)) := fun H Q e k => ⟨_, _, rfl, rfl, h, k _ _ (Same.refl _) (.int _)⟩
theorem ee_minus {K : PySem.W.Frag} {l : Addr} {σ : L2.St} {H0 : Hp} {t : TE} {i : Int} (a : EvE K l σ H0 t (.int i)) : EvE K l σ H0 (tUn (rU fun i => .int (-i)) t) (.int (-i)) := fun H Q e k => a H _ e fun x H1 e1 h1 => by
  cases h1
  exact ⟨_, rfl, k _ _ e1 (.int _)⟩
/-- the list of no choices, filled on the way -/
structure BL (K : PySem.W.Frag) (ts : List Th) (pt : Addr) (HA H' : Hp) (pb : Addr) (m : Nat) : Prop where
  s : Same HA H'
  n : HA pb = none
  ex : ∃ xs ds, H' pb = some (.lst xs) ∧ DpAll K (del (del H' pt) pb) xs ds ∧ 0 < ds.length ∧ ds.length ≤ m ∧ ∀ d ∈ ds, BadC ts d
theorem BL.mono {K : PySem.W.Frag} {ts : List Th} {pt pb : Addr} {HA H' : Hp} {m m' : Nat} (b : BL K ts pt HA H' pb m) (h : m ≤ m') : BL K ts pt HA H' pb m' := by
  obtain ⟨s, n, xs, ds, h1, h2, h3, h4, h5⟩ := b
  exact ⟨s, n, xs, ds, h1, h2, h3, Nat.le_trans h4 h, h5⟩
theorem BL.ext {K : PySem.W.Frag} {ts : List Th} {pt pb : Addr} {HA H' H2 : Hp} {m : Nat} (b : BL K ts pt HA H' pb m) (e : Same H' H2) : BL K ts pt HA H2 pb m := by
  obtain ⟨s, n, xs, ds, h1, h2, r⟩ := b
  exact ⟨s.trans e, n, xs, ds, e _ _ h1, dpAll_same (same_del pb (same_del pt e)) h2, r⟩
theorem BL.put {K : PySem.W.Frag} {ts : List Th} {pt pb : Addr} {HA H' : Hp} {xs : List V} {ds : List PyData} {v : V} {d : PyData} {m : Nat} (s : Same HA H') (n : HA pb = none) (h1 : H' pb = some (.lst xs)) (h2 : DpAll K (del (del H' pt) pb) xs ds) (l1 : ds.length ≤ m) (hds : ∀ d ∈ ds, BadC ts d)
    (hv : Dp K (del (del H' pt) pb) v d) (hd : BadC ts d) : BL K ts pt HA (upd H' pb (.lst (xs ++ [v]))) pb (m + 1) := by
  refine ⟨same_mut s n, n, _, ds ++ [d], upd_same, ?_, by rw [List.length_append]; show 0 < _ + 1; omega, by rw [List.length_append]; show _ + 1 ≤ _; omega, fun x m => ?_⟩
  · rw [del_comm, del_upd, del_comm]
    exact dpAll_app h2 hv
  · rcases List.mem_append.mp m with m | m
    · exact hds x m
    · rw [List.mem_singleton.mp m]; exact hd
theorem fresh_off {H Hf : Hp} {pt pb : Addr} (e : Same H Hf) (h : H pb = none) : Same (del H pt) (del (del Hf pt) pb) := by
  rw [del_comm]
  exact same_del pt (same_off e h)
mutual
theorem dp_offK {K : PySem.W.Frag} {H : Hp} {l : Addr} {kv : List (Key × V)} (hl : H l = some (.dK kv)) : ∀ {v : V} {d : PyData}, Dp K H v d → Dp K (del H l) v d
  | _, _, .non => .non
  | _, _, .bl b => .bl b
  | _, _, .int i => .int i
  | _, _, .str x => .str x
  | _, _, .lst h a => .lst (by
      rcases h with (h | ⟨o, h⟩) | h
      · exact .inl (.inl (by rw [del_ne (fun z => by rw [z, hl] at h; cases h)]; exact h))
      · exact .inl (.inr ⟨o, by rw [del_ne (fun z => by rw [z, hl] at h; cases h)]; exact h⟩)
      · exact .inr h) (dpAll_offK hl a)
  | _, _, .tup h a => .tup (by
      rcases h with (h | ⟨o, h⟩) | h
      · exact .inl (.inl (by rw [del_ne (fun z => by rw [z, hl] at h; cases h)]; exact h))
      · exact .inl (.inr ⟨o, by rw [del_ne (fun z => by rw [z, hl] at h; cases h)]; exact h⟩)
      · exact .inr h) (dpAll_offK hl a)
theorem dpAll_offK {K : PySem.W.Frag} {H : Hp} {l : Addr} {kv : List (Key × V)} (hl : H l = some (.dK kv)) : ∀ {vs : List V} {ds : List PyData}, DpAll K H vs ds → DpAll K (del H l) vs ds
  | _, _, .nil => .nil
  | _, _, .cons a b => .cons (dp_offK hl a) (dpAll_offK hl b)
end
theorem rest_of (l pt : Addr) (H : Hp) : Same (noTb (del (del H pt) l)) (Rest l pt H) := fun b o e => by
  have e1 := noTb_le _ _ _ e
  have n := noTb_notb e
  by_cases c : b = l
  · subst c; rw [del_same] at e1; cases e1
  · rw [del_ne c] at e1
    by_cases d : b = pt
    · subst d; rw [del_same] at e1; cases e1
    · rw [del_ne d] at e1
      exact rest_at e1 c d n
theorem dpAll_rest {K : PySem.W.Frag} {H : Hp} {l pt : Addr} {kv : List (Key × V)} (hl : H l = some (.dK kv)) (np : pt ≠ l) {vs : List V} {ds : List PyData} (h : DpAll K (del H pt) vs ds) : DpAll K (Rest l pt H) vs ds :=
  dpAll_same (rest_of l pt H) (dpAll_tb (dpAll_offK (kv := kv) (by rw [del_ne np.symm]; exact hl) h))
theorem dp_rest {K : PySem.W.Frag} {H : Hp} {l pt : Addr} {kv : List (Key × V)} (hl : H l = some (.dK kv)) (np : pt ≠ l) {v : V} {d : PyData} (h : Dp K (del H pt) v d) : Dp K (Rest l pt H) v d :=
  dp_same (rest_of l pt H) (dp_tb (dp_offK (kv := kv) (by rw [del_ne np.symm]; exact hl) h))
theorem dp_mem {K : PySem.W.Frag} {H : Hp} {xs : List V} {ds : List PyData} {y : V} (h : DpAll K H xs ds) (m : y ∈ xs) : ∃ d, d ∈ ds ∧ Dp K H y d := by
  obtain ⟨i, hi, e⟩ := List.getElem_of_mem m
  obtain ⟨d, md, _, hd⟩ := dp_get h (List.getElem?_eq_some_iff.mpr ⟨hi, e⟩)
  exact ⟨d, md, hd⟩
def useD (n : Str) : PyData := .tuple [.str "use", .str n, .int (-1)]
def dueU : List PyData := [useD "things", useD "things", useD "things", useD "low", useD "low", useD "high", useD "high", useD "chosen"]
/-- told.append(heard(lambda: ..)): the asked one is refused -/
theorem tells {K : PySem.W.Frag} {l q pt C : Addr} {ns : List Int} {tb : List (Addr × Str)} {HB G : Hp} {ds : List PyData} {rest : TS} {D : Ends} {σ : L2.St} {tl : XK → TE} (r : RI K l q pt ns tb HB G ds) (hσ : σ[4]? = some (some (.ref pt))) (n : Str) (few : ds.length ≤ 1000)
    (call : ∀ (G1 : Hp) (E : XK) (Q : VK), RI K l q pt ns tb HB G1 ds → notUsable C n G1 E → tl E σ G1 Q) (next : ∀ G2, RI K l q pt ns tb HB G2 (ds ++ [useD n]) → rest D σ G2) :
    tSeq (tDrop (tBM K "list" rAppend (tVar 4) (tCons (LamX.tLam tb (TTHeard C) tl) tNil))) rest D σ G := by
  obtain ⟨xs, h1, h2⟩ := r.told
  refine ⟨_, hσ, .inl ⟨rfl, _, SqL.of h1⟩, r.tab, fun G1 eN t1 => ?_⟩
  have r1 := r.lam eN t1
  refine call G1 _ _ r1 fun d G2 e2 hd hxd => ⟨d, n, rfl, rfl, hxd, fun p G3 e3 hp => ?_⟩
  have r3 := (r1.ext e2).ext e3
  obtain ⟨ys, g1, g2⟩ := r3.told
  have lg := dp_len g2
  refine ⟨pt, ys, _, rfl, rfl, g1, szl (by omega), ?_⟩
  exact next _ (r3.put g1 rfl (.tup (SqT.of hp) (.cons (.str _) (.cons (.str _) (.cons (.int _) .nil)))))
theorem tells_end {K : PySem.W.Frag} {l q pt C : Addr} {ns : List Int} {tb : List (Addr × Str)} {HB G : Hp} {ds : List PyData} {D : Ends} {σ : L2.St} {tl : XK → TE} (r : RI K l q pt ns tb HB G ds) (hσ : σ[4]? = some (some (.ref pt))) (n : Str) (few : ds.length ≤ 1000)
    (call : ∀ (G1 : Hp) (E : XK) (Q : VK), RI K l q pt ns tb HB G1 ds → notUsable C n G1 E → tl E σ G1 Q) (next : ∀ G2, RI K l q pt ns tb HB G2 (ds ++ [useD n]) → D.nx σ G2) :
    tDrop (tBM K "list" rAppend (tVar 4) (tCons (LamX.tLam tb (TTHeard C) tl) tNil)) D σ G :=
  tells (rest := tNext) (D := D) r hσ n few call next
theorem el_rep {K : PySem.W.Frag} {σ : L2.St} {H0 : Hp} {ta : TE} {ds : List PyData} (k : Nat) (a : EvL K σ H0 ta ds) (n : ds.length ≤ 1000) (hk : k ≤ 10) : EvL K σ H0 (tOp rRep ta (tC (.int (k : Int)))) (List.replicate k ds).flatten := fun H Q e kk =>
  a H _ e fun p xs H1 e1 h1 d1 => by
    have lx := dp_len d1
    refine ⟨p, (k : Int), xs, rfl, rfl, h1, by omega, by omega, ?_, fun q hq => ?_⟩
    · rw [Int.toNat_natCast, lx]
      exact Nat.le_trans (Nat.mul_le_mul n hk) (by decide)
    · rw [Int.toNat_natCast]
      have go : ∀ m : Nat, DpAll K (upd H1 q (.lst (List.replicate k xs).flatten)) (List.replicate m xs).flatten (List.replicate m ds).flatten := fun m => by
        induction m with
        | zero => exact .nil
        | succ m ih =>
          rw [List.replicate_succ, List.replicate_succ, List.flatten_cons, List.flatten_cons]
          exact dpAll_cat2 (dpAll_same (same_new hq _) d1) ih
      exact kk q _ _ (e1.trans (same_new hq _)) upd_same (go k)
theorem inL1 {K : PySem.W.Frag} {σ : L2.St} {H0 : Hp} {t : TE} {ds : List PyData} {Q : List V → Hp → Prop} (e : EvL K σ H0 t ds) (k : ∀ p xs H', Same H0 H' → H' p = some (.lst xs) → DpAll K H' xs ds → Q [.ref p] H') : tCons t tNil σ H0 Q := e H0 _ (Same.refl _) k
def dueM : List PyData := (List.replicate 3 [useD "things"]).flatten ++ (List.replicate 2 [useD "low"]).flatten ++ (List.replicate 2 [useD "high"]).flatten
theorem dueM_rp : Rp (.list (List.replicate 3 dueU).flatten) := ⟨rfl, by decide +kernel, by decide +kernel, by decide +kernel⟩
theorem badL_things {d lo hi : PyData} (h : isThs d = false) : badL d lo hi = some "things" := by unfold badL; rw [h]; rfl
theorem badL_low {d lo hi : PyData} (h : isThs d = true) (h2 : okLow lo = false) : badL d lo hi = some "low" := by unfold badL; rw [h, h2]; rfl
theorem badL_high {d lo hi : PyData} (h : isThs d = true) (h2 : okLow lo = true) (h3 : isN hi = false) : badL d lo hi = some "high" := by unfold badL; rw [h, h2, h3]; rfl
def lamQ : Str := "_law_are_refused.<locals>.<lambda>"
def spRefused (t : Addr) (K : PySem.W.Frag) : Sp := fun vs H Q _ => ∃ (l q : Addr) (x : V) (ns : List Int) (ts : List Th), vs = [.ref l, x] ∧ Feed K H l q ns ∧ Dp K H x (.tuple (ts.map Th.d)) ∧ ts.length ≤ 400 ∧ GoodTs ts ∧ Pos ts ∧ LamX.Tabs [(t, lamQ)] H ∧ ∀ H', Q (.bl true) H'
section
variable {P : Program} {w : World} {K : PySem.W.Frag} {mg : Str → Option Value} {base : Heap}
theorem ok_refused (T : Txt K mg) {c t : Addr} (hT : TabAt K T.f__law_are_refused c t) (TB : LamX.TabB base mg c t) : FnG P w K mg base CX0 8 T.f__law_are_refused T.d__law_are_refused ["_law_feed_here", "_law_things_here"] (spRefused t K) := by
  have nd := sc__law_are_refused.nd
  refine okGT T.F__law_are_refused sc__law_are_refused hT.fn (fun vs H Q E h => ?_) (fun A outer s H vs Q E gu0 hr h => ?_)
  · obtain ⟨l, q, x, ns, ts, rfl, _⟩ := h
    rfl
  obtain ⟨l, q, x, ns, ts, rfl, hf, hd, hts, hg, hpos, htab, k⟩ := h
  have gu : (A.deeper (envOfC "_law_are_refused" (defScope s__law_are_refused) s.heap.objs.size T.f__law_are_refused (.ref c))).guards = some [] := gu0
  have G__law_jumps : FnOk P w K mg base CX0 1 _ _ _ (spJumps K) := ok_law_jumps T
  have hr__law_jumps : Room 1 _ := hr.mono (by omega)
  have G__law_any : FnOk P w K mg base CX0 2 _ _ _ (spAny K) := ok_any T
  have hr__law_any : Room 2 _ := hr.mono (by omega)
  have G_long_jumps : FnOk P w K mg base (L2.CX P w) 5 _ _ _ (spLongB T.C_NotUsable K) := fn_c (ok_longB T)
  have G_holds_long : FnOk P w K mg base (L2.CX P w) 5 _ _ _ (spHoldB T.C_NotUsable K) := fn_c (ok_holdB T)
  have G_holds_longC : FnOk P w K mg base (L2.CX P w) 5 _ _ _ (spHoldC T.C_NotUsable K) := fn_c (ok_holdC T)
  have G__law_same : FnG P w K mg base CX0 1 _ _ _ (spSame K) := ok_same T
  have hr__law_same : Room 1 _ := hr.mono (by omega)
  have hmT : (t, (envOfC "_law_are_refused" (defScope s__law_are_refused) s.heap.objs.size T.f__law_are_refused (.ref c)).qual ++ "<lambda>") ∈ [(t, lamQ)] := List.mem_singleton.mpr (by rfl)
  have huT : ∀ p ∈ [(t, lamQ)], p.1 = t → p.2 = (envOfC "_law_are_refused" (defScope s__law_are_refused) s.heap.objs.size T.f__law_are_refused (.ref c)).qual ++ "<lambda>" := fun p m _ => by
    rw [List.mem_singleton.mp m]; rfl
  refine ⟨_, (pss_cons (ps_asg (pe_tup (pa_cons (pe_callB call_len_seq (by rfl) T.z_len PySem.boot_len (pa_cons (pv 1) pa_nil)) (pa_cons (pe_call G__law_jumps hr__law_jumps rfl T.m__law_jumps T.k__law_jumps T.b__law_jumps .nil pass0 (pa_cons (pv 1) pa_nil)) (pa_cons (pe_lst pa_nil) pa_nil)))) (pg_tup rfl (pgs_cons (pg_name (i := 2) nd rfl (Or.inl rfl)) (pgs_cons (pg_name (i := 3) nd rfl (Or.inr rfl)) (pgs_cons (pg_name (i := 4) nd rfl (Or.inl rfl)) pgs_nil)))))
      (pss_cons (ps_set (i := 5) nd rfl (Or.inl rfl) (pe_lst (pa_cons pe_non (pa_cons (pe_callTy call_list_of (by rfl) T.z_list (by decide +kernel) (pa_cons (pv 1) pa_nil)) (pa_cons (pe_op op_catS (pv 1) (pe_tup (pa_cons (pe_un un_neg pe_int) pa_nil))) (pa_cons (pe_op op_catS (pv 1) (pe_tup (pa_cons pe_bl pa_nil))) (pa_cons (pe_op op_catS (pv 1) (pe_tup (pa_cons (pe_tup (pa_cons pe_str pa_nil)) pa_nil))) (pa_cons (pe_tup (pa_cons (pe_lst (pa_cons pe_str (pa_cons pe_int pa_nil))) pa_nil)) (pa_cons pe_int (pa_cons pe_str pa_nil))))))))))
      (pss_cons (ps_set (i := 5) nd rfl (Or.inl rfl) (pe_op op_cat (pv 5) (pe_lst (pa_cons (pe_op op_catS (pv 1) (pe_tup (pa_cons (pe_tup (pa_cons pe_str (pa_cons (pe_op op_add (pv 2) pe_int) pa_nil))) pa_nil))) (pa_cons (pe_op op_catS (pe_tup (pa_cons (pe_tup (pa_cons pe_str (pa_cons pe_bl pa_nil))) pa_nil)) (pv 1)) (pa_cons (pe_tup (pa_cons (pe_tup (pa_cons pe_str (pa_cons (pe_un un_neg pe_int) pa_nil))) pa_nil)) (pa_cons (pe_tup (pa_cons (pe_tup (pa_cons pe_str (pa_cons pe_int pa_nil))) pa_nil)) pa_nil)))))))
      (pss_cons (ps_set (i := 5) nd rfl (Or.inl rfl) (pe_op op_cat (pv 5) (pe_lst (pa_cons (pe_op op_catS (pv 1) (pe_tup (pa_cons (pe_tup (pa_cons pe_str (pa_cons pe_int (pa_cons pe_int pa_nil)))) pa_nil))) (pa_cons (pe_op op_catS (pv 1) (pe_tup (pa_cons pe_non pa_nil))) (pa_cons (pe_tup (pa_cons (pe_tup (pa_cons pe_str (pa_cons pe_non pa_nil))) pa_nil)) (pa_cons (pe_tup (pa_cons (pe_tup pa_nil) pa_nil)) (pa_cons (pe_tup (pa_cons (pe_tup (pa_cons pe_str (pa_cons pe_str pa_nil))) pa_nil)) pa_nil))))))))
      (pss_cons (ps_expr (pe_bm PySem.F.plainAttrs_list PySem.F.slot_list_append PySem.F.type_list_append mt_append (pv 5) (pa_cons (pe_tup (pa_cons pe_str pa_nil)) pa_nil)))
      (pss_cons (ps_set (i := 6) nd rfl (Or.inl rfl) (pe_lst (pa_cons pe_int (pa_cons pe_bl (pa_cons pe_bl (pa_cons pe_non (pa_cons pe_str (pa_cons (pe_tup (pa_cons pe_int pa_nil)) (pa_cons (pe_op op_pow pe_int pe_int) (pa_cons (pe_lst (pa_cons pe_int pa_nil)) (pa_cons pe_str pa_nil)))))))))))
      (pss_cons (ps_set (i := 7) nd rfl (Or.inl rfl) (pe_lst (pa_cons (pe_un un_neg pe_int) (pa_cons pe_bl (pa_cons pe_bl (pa_cons pe_non (pa_cons pe_str (pa_cons (pe_tup (pa_cons pe_int pa_nil)) (pa_cons (pe_un un_neg (pe_op op_pow pe_int pe_int)) (pa_cons (pe_lst (pa_cons pe_int pa_nil)) pa_nil))))))))))
      (pss_cons (ps_set (i := 8) nd rfl (Or.inl rfl) (pe_lst (pa_cons pe_non (pa_cons (pe_callTy call_list_of (by rfl) T.z_list (by decide +kernel) (pa_cons (pv 3) pa_nil)) (pa_cons (pe_tup (pa_cons (pv 2) pa_nil)) (pa_cons (pe_tup (pa_cons (pe_un un_neg pe_int) pa_nil)) (pa_cons (pe_tup (pa_cons pe_bl pa_nil)) (pa_cons (pe_tup (pa_cons pe_non pa_nil)) (pa_cons pe_str (pa_cons pe_int (pa_cons pe_bl (pa_cons (pe_tup (pa_cons pe_str pa_nil)) (pa_cons (pe_tup (pa_cons (pe_tup (pa_cons pe_int pa_nil)) pa_nil)) (pa_cons (pe_tup (pa_cons pe_bl pa_nil)) pa_nil))))))))))))))
      (pss_cons (ps_setLc (i := 9) (own := [("_law_k", 16)]) (g := gName 16) (by rfl) nd rfl rfl (sw_true rfl rfl rfl (by decide +kernel)) (pi_range1 (by rfl) T.z_range (pa_cons (pv 2) pa_nil)) (blkOk_by (own := [("_law_k", 16)]) (N := sl__law_are_refused) (sc := defScope s__law_are_refused) (by decide +kernel)) (fun _ _ _ _ _ => pg_name (i := 16) nd rfl (Or.inl rfl)) (fun _ _ _ _ _ => (pts_one (pt_cmpR (op_notInK (K := K) rfl) (pv 16) (pv 3) (by rfl)))) (fun _ _ _ _ _ => (pv 16)))
      (pss_cons (ps_if (pt_cmpR (op_neD hr.units) (pv 9) (pe_lst pa_nil) (nomark _)) (pss_one (ps_expr (pe_bm PySem.F.plainAttrs_list PySem.F.slot_list_append PySem.F.type_list_append mt_append (pv 8) (pa_cons (pe_callTy call_tuple_of (by rfl) T.z_tuple (by decide +kernel) (pa_cons (pe_callB cr_sortedI (by rfl) T.z_sorted (by decide +kernel) (pa_cons (pe_op op_cat (pv 3) (pe_slice sl_list (pv 9) po_none (po_some pe_int))) pa_nil)) pa_nil)) pa_nil)))) pss_nil)
      (pss_cons (ps_if (pt_cmpR (op_neD hr.units) (pv 3) (pe_lst pa_nil) (nomark _)) (pss_one (ps_set (i := 8) nd rfl (Or.inl rfl) (pe_op op_cat (pv 8) (pe_lst (pa_cons (pe_callTy call_tuple_of (by rfl) T.z_tuple (by decide +kernel) (pa_cons (pe_op op_cat (pv 3) (pe_slice sl_list (pv 3) (po_some (pe_un un_neg pe_int)) po_none)) pa_nil)) (pa_cons (pe_callTy call_tuple_of (by rfl) T.z_tuple (by decide +kernel) (pa_cons (pe_op op_cat (pv 3) (pe_lst (pa_cons (pe_ix ix_list (pv 3) pe_int (fun _ _ => rfl)) pa_nil))) pa_nil)) pa_nil)))))) pss_nil)
      (pss_cons (ps_if (pt_cmpR op_gt (pe_callB call_len_seq (by rfl) T.z_len PySem.boot_len (pa_cons (pv 3) pa_nil)) pe_int (nomark _)) (pss_one (ps_expr (pe_bm PySem.F.plainAttrs_list PySem.F.slot_list_append PySem.F.type_list_append mt_append (pv 8) (pa_cons (pe_callTy call_tuple_of (by rfl) T.z_tuple (by decide +kernel) (pa_cons (pe_revL (pv 3)) pa_nil)) pa_nil)))) pss_nil)
      (pss_cons (ps_for PassesOwn.never rfl (pi_range1 (by rfl) T.z_range (pa_cons pe_int pa_nil)) (pg_name (i := 10) nd rfl (Or.inl rfl))
      (pss_cons (ps_asg (pe_tup (pa_cons (pe_call G__law_any hr__law_any rfl T.m__law_any T.k__law_any T.b__law_any .nil pass0 (pa_cons (pv 0) (pa_cons (pv 5) pa_nil))) (pa_cons (pe_call G__law_any hr__law_any rfl T.m__law_any T.k__law_any T.b__law_any .nil pass0 (pa_cons (pv 0) (pa_cons (pv 6) pa_nil))) (pa_cons (pe_call G__law_any hr__law_any rfl T.m__law_any T.k__law_any T.b__law_any .nil pass0 (pa_cons (pv 0) (pa_cons (pv 7) pa_nil))) pa_nil)))) (pg_tup rfl (pgs_cons (pg_name (i := 11) nd rfl (Or.inr rfl)) (pgs_cons (pg_name (i := 12) nd rfl (Or.inr rfl)) (pgs_cons (pg_name (i := 13) nd rfl (Or.inr rfl)) pgs_nil)))))
      (pss_cons (ps_set (i := 14) nd rfl (Or.inr rfl) (pe_call G__law_any hr__law_any rfl T.m__law_any T.k__law_any T.b__law_any .nil pass0 (pa_cons (pv 0) (pa_cons (pv 8) pa_nil))))
      (pss_cons (ps_expr (pe_bm PySem.F.plainAttrs_list PySem.F.slot_list_append PySem.F.type_list_append mt_append (pv 4) (pa_cons (by exact pe_heard T (by exact hr) (by exact TB) (by rfl) (by exact hmT) (by exact huT) (by rfl) (by exact LamX.lamS_by (sc := defScope s__law_are_refused) (by decide +kernel)) (by rfl) (by intro _ _ _ _ _; rfl) (fun A' outer' s' H' E' f' c' hrL => by exact (pe_call (E := E') G_long_jumps hrL rfl T.m_long_jumps T.k_long_jumps T.b_long_jumps .nil (L2.passes_call (L2.takes_of rfl rfl rfl rfl) (fun _ _ _ _ h => h)) (pa_cons (pv 11) (pa_cons (pv 12) (pa_cons (pv 13) pa_nil)))))) pa_nil)))
      (pss_cons (ps_expr (pe_bm PySem.F.plainAttrs_list PySem.F.slot_list_append PySem.F.type_list_append mt_append (pv 4) (pa_cons (by exact pe_heard T (by exact hr) (by exact TB) (by rfl) (by exact hmT) (by exact huT) (by rfl) (by exact LamX.lamS_by (sc := defScope s__law_are_refused) (by decide +kernel)) (by rfl) (by intro _ _ _ _ _; rfl) (fun A' outer' s' H' E' f' c' hrL => by exact (pe_call (E := E') G_long_jumps hrL rfl T.m_long_jumps T.k_long_jumps T.b_long_jumps .nil (L2.passes_call (L2.takes_of rfl rfl rfl rfl) (fun _ _ _ _ h => h)) (pa_cons (pv 11) (pa_cons (pe_un un_neg pe_int) (pa_cons pe_int pa_nil)))))) pa_nil)))
      (pss_cons (ps_expr (pe_bm PySem.F.plainAttrs_list PySem.F.slot_list_append PySem.F.type_list_append mt_append (pv 4) (pa_cons (by exact pe_heard T (by exact hr) (by exact TB) (by rfl) (by exact hmT) (by exact huT) (by rfl) (by exact LamX.lamS_by (sc := defScope s__law_are_refused) (by decide +kernel)) (by rfl) (by intro _ _ _ _ _; rfl) (fun A' outer' s' H' E' f' c' hrL => by exact (pe_call (E := E') G_holds_long hrL rfl T.m_holds_long T.k_holds_long T.b_holds_long .nil (L2.passes_call (L2.takes_of rfl rfl rfl rfl) (fun _ _ _ _ h => h)) (pa_cons (pv 11) (pa_cons (pv 12) (pa_cons (pv 13) (pa_cons (pv 14) pa_nil))))))) pa_nil)))
      (pss_cons (ps_expr (pe_bm PySem.F.plainAttrs_list PySem.F.slot_list_append PySem.F.type_list_append mt_append (pv 4) (pa_cons (by exact pe_heard T (by exact hr) (by exact TB) (by rfl) (by exact hmT) (by exact huT) (by rfl) (by exact LamX.lamS_by (sc := defScope s__law_are_refused) (by decide +kernel)) (by rfl) (by intro _ _ _ _ _; rfl) (fun A' outer' s' H' E' f' c' hrL => by exact (pe_call (E := E') G_long_jumps hrL rfl T.m_long_jumps T.k_long_jumps T.b_long_jumps .nil (L2.passes_call (L2.takes_of rfl rfl rfl rfl) (fun _ _ _ _ h => h)) (pa_cons (pv 1) (pa_cons (pv 12) (pa_cons (pv 13) pa_nil)))))) pa_nil)))
      (pss_cons (ps_expr (pe_bm PySem.F.plainAttrs_list PySem.F.slot_list_append PySem.F.type_list_append mt_append (pv 4) (pa_cons (by exact pe_heard T (by exact hr) (by exact TB) (by rfl) (by exact hmT) (by exact huT) (by rfl) (by exact LamX.lamS_by (sc := defScope s__law_are_refused) (by decide +kernel)) (by rfl) (by intro _ _ _ _ _; rfl) (fun A' outer' s' H' E' f' c' hrL => by exact (pe_callKS (E := fun _ => E') G_holds_long hrL rfl T.m_holds_long T.k_holds_long T.w_holds_long_chosen_high_low_things (fun σ pins H s e s' I c => L2.passes_call (L2.takes_of rfl rfl rfl rfl) (fun _ _ _ _ h => h) pins σ H s e s' I c) (pk_cons (pv 14) (pk_cons (pv 13) (pk_cons (pv 12) (pk_cons (pv 1) pk_nil))))))) pa_nil)))
      (pss_cons (ps_expr (pe_bm PySem.F.plainAttrs_list PySem.F.slot_list_append PySem.F.type_list_append mt_append (pv 4) (pa_cons (by exact pe_heard T (by exact hr) (by exact TB) (by rfl) (by exact hmT) (by exact huT) (by rfl) (by exact LamX.lamS_by (sc := defScope s__law_are_refused) (by decide +kernel)) (by rfl) (by intro _ _ _ _ _; rfl) (fun A' outer' s' H' E' f' c' hrL => by exact (pe_call (E := E') G_long_jumps hrL rfl T.m_long_jumps T.k_long_jumps T.b_long_jumps .nil (L2.passes_call (L2.takes_of rfl rfl rfl rfl) (fun _ _ _ _ h => h)) (pa_cons (pv 1) (pa_cons (pe_un un_neg pe_int) (pa_cons (pv 13) pa_nil)))))) pa_nil)))
      (pss_cons (ps_expr (pe_bm PySem.F.plainAttrs_list PySem.F.slot_list_append PySem.F.type_list_append mt_append (pv 4) (pa_cons (by exact pe_heard T (by exact hr) (by exact TB) (by rfl) (by exact hmT) (by exact huT) (by rfl) (by exact LamX.lamS_by (sc := defScope s__law_are_refused) (by decide +kernel)) (by rfl) (by intro _ _ _ _ _; rfl) (fun A' outer' s' H' E' f' c' hrL => by exact (pe_call (E := E') G_holds_long hrL rfl T.m_holds_long T.k_holds_long T.b_holds_long .nil (L2.passes_call (L2.takes_of rfl rfl rfl rfl) (fun _ _ _ _ h => h)) (pa_cons (pv 1) (pa_cons pe_int (pa_cons (pv 13) (pa_cons (pv 14) pa_nil))))))) pa_nil)))
      (pss_one (ps_expr (pe_bm PySem.F.plainAttrs_list PySem.F.slot_list_append PySem.F.type_list_append mt_append (pv 4) (pa_cons (by exact pe_heard T (by exact hr) (by exact TB) (by rfl) (by exact hmT) (by exact huT) (by rfl) (by exact LamX.lamS_by (sc := defScope s__law_are_refused) (by decide +kernel)) (by rfl) (by intro _ _ _ _ _; rfl) (fun A' outer' s' H' E' f' c' hrL => by exact (pe_call (E := E') G_holds_longC hrL rfl T.m_holds_long T.k_holds_long T.b_holds_long .nil (L2.passes_call (L2.takes_of rfl rfl rfl rfl) (fun _ _ _ _ h => h)) (pa_cons (pv 1) (pa_cons (pe_un un_neg pe_int) (pa_cons pe_int (pa_cons (pv 14) pa_nil))))))) pa_nil))))))))))))))
      (pss_cons (ps_set (i := 15) nd rfl (Or.inl rfl) (pe_op op_cat (pe_op op_cat (pe_op op_rep (pe_lst (pa_cons (pe_tup (pa_cons pe_str (pa_cons pe_str (pa_cons (pe_un un_neg pe_int) pa_nil)))) pa_nil)) pe_int) (pe_op op_rep (pe_lst (pa_cons (pe_tup (pa_cons pe_str (pa_cons pe_str (pa_cons (pe_un un_neg pe_int) pa_nil)))) pa_nil)) pe_int)) (pe_op op_rep (pe_lst (pa_cons (pe_tup (pa_cons pe_str (pa_cons pe_str (pa_cons (pe_un un_neg pe_int) pa_nil)))) pa_nil)) pe_int)))
      (pss_one (ps_ret (by exact (pe_callG G__law_same gu hr__law_same rfl T.m__law_same T.k__law_same T.b__law_same .nil pass0 (pa_cons (pv 4) (pa_cons (pe_op op_rep (pe_op op_cat (pv 15) (pe_lst (pa_cons (pe_tup (pa_cons pe_str (pa_cons pe_str (pa_cons (pe_un un_neg pe_int) pa_nil)))) pa_nil))) pe_int) pa_nil)))))))))))))))))))), ?_⟩
  obtain ⟨b, ys, rfl, hb, hy⟩ := tup_inv hd
  have hly : ys.length = ts.length := by rw [dp_len hy, List.length_map]
  refine ⟨_, rfl, b, ys, rfl, .inr hb, _, rfl, _, ts, rfl, hd, by omega, fun j H1 e1 hj ej => ⟨(by show 0 ≤ sizeLine; decide), fun pt hpt => ⟨(by show 3 ≤ sizeLine; decide), fun tp htp => ?_⟩⟩⟩
  refine ⟨tp, _, rfl, SqT.of upd_same, rfl, _, _, rfl, _, _, rfl, _, _, rfl, rfl, ?_⟩
  obtain ⟨H2, e2, ej2, hl, npt, eH2⟩ : ∃ H2 : Hp, Same H H2 ∧ H2 j = some (.lst (nV (jmps ts))) ∧ H2 pt = some (.lst []) ∧ H pt = none ∧ H2 = upd (upd H1 pt (.lst [])) tp (.tup [.int (ys.length : Int), .ref j, .ref pt]) := by
    have a1 := same_new hpt (.lst [])
    have a2 := same_new htp (.tup [.int (ys.length : Int), .ref j, .ref pt])
    exact ⟨_, (e1.trans a1).trans a2, a2 _ _ (a1 _ _ ej), a2 _ _ upd_same, none_of e1 hpt, rfl⟩
  rw [← eH2]
  clear eH2
  refine at_st [some (.ref l), some (.ref b), some (.int ((ts.length : Nat) : Int)), some (.ref j), some (.ref pt), none, none, none, none, none, none, none, none, none, none, none, none] (by rw [hly]; rfl) ?_
  dsimp only
  have htab2 := htab.ext e2
  have f2 := ((FI.ref hf).ext e2).f
  have hx2 : Dp K (del H2 pt) (.ref b) (.tuple (ts.map Th.d)) := dp_off hl (noL_ths ts) (dp_same e2 hd)
  -- the odd ones
  refine goML (K := K) (l := pt) (ds := odds1 ts) (by unfold odds1 thsD; repeat (first | exact ee_int | exact ee_str | exact ee_bl | exact ee_non | exact ee_neg | exact eb_nil | exact ee_var rfl (.int _) | exact ee_var rfl (by assumption) | apply eb_cons | apply ee_tup hl | apply ee_lst hl | apply ee_add | apply ee_cat hl | apply ee_cut hl | apply ee_rev hl | apply ee_list hl | (simp only [List.length_map, List.length_cons, List.length_nil, List.length_append, List.length_reverse, List.length_take, List.length_drop]; omega))) (by show 8 ≤ 1000; decide) fun p3 x3 H3 e3 n3 ep3 d3 => ?_
  have hl2 := hl
  have hl := e3 _ _ hl2
  have hx3 := dp_same (same_del pt e3) hx2
  refine goMC (K := K) (l := pt) (ds := odds1 ts) (es := odds2 ts) (em_var rfl ep3 (dpAll_same (del_le _ p3) d3)) (em_lst (by unfold odds2 thsD; repeat (first | exact ee_int | exact ee_str | exact ee_bl | exact ee_non | exact ee_neg | exact eb_nil | exact ee_var rfl (.int _) | exact ee_var rfl (by assumption) | apply eb_cons | apply ee_tup hl | apply ee_lst hl | apply ee_add | apply ee_cat hl | apply ee_cut hl | apply ee_rev hl | apply ee_list hl | (simp only [List.length_map, List.length_cons, List.length_nil, List.length_append, List.length_reverse, List.length_take, List.length_drop]; omega))) (by show 4 ≤ 1000; decide)) (by show 8 ≤ 1000; decide) (by show 4 ≤ 1000; decide) fun p4 x4 H4 e4 n4 ep4 d4 => ?_
  have hl3 := hl
  have hl := e4 _ _ hl3
  have hx4 := dp_same (same_del pt e4) hx3
  refine goMC (K := K) (l := pt) (ds := odds1 ts ++ odds2 ts) (es := odds3 ts) (em_var rfl ep4 (dpAll_same (del_le _ p4) d4)) (em_lst (by unfold odds3 thsD; repeat (first | exact ee_int | exact ee_str | exact ee_bl | exact ee_non | exact ee_neg | exact eb_nil | exact ee_var rfl (.int _) | exact ee_var rfl (by assumption) | apply eb_cons | apply ee_tup hl | apply ee_lst hl | apply ee_add | apply ee_cat hl | apply ee_cut hl | apply ee_rev hl | apply ee_list hl | (simp only [List.length_map, List.length_cons, List.length_nil, List.length_append, List.length_reverse, List.length_take, List.length_drop]; omega))) (by show 5 ≤ 1000; decide)) (by show 12 ≤ 1000; decide) (by show 5 ≤ 1000; decide) fun po x5 H5 e5 n5 ep5 d5 => ?_
  have hl4 := hl
  have hl := e5 _ _ hl4
  refine ⟨_, rfl, .inl ⟨rfl, _, SqL.of ep5⟩, ?_⟩
  refine inE1 (K := K) (l := pt) (d := odds4) (by unfold odds4; repeat (first | exact ee_int | exact ee_str | exact ee_bl | exact ee_non | exact ee_neg | exact eb_nil | exact ee_var rfl (.int _) | exact ee_var rfl (by assumption) | apply eb_cons | apply ee_tup hl | apply ee_lst hl | apply ee_add | apply ee_cat hl | apply ee_cut hl | apply ee_rev hl | apply ee_list hl | (simp only [List.length_map, List.length_cons, List.length_nil, List.length_append, List.length_reverse, List.length_take, List.length_drop]; omega))) fun z6 H6 e6 hz6 => ?_
  have ep6 := e6 _ _ ep5
  have lx5 : x5.length = 17 := dp_len d5
  refine ⟨po, x5, z6, rfl, rfl, ep6, by rw [lx5]; exact szl (by decide), ?_⟩
  have npo : po ≠ pt := fun z => by rw [z, hl4] at n5; cases n5
  have d7 : DpAll K (del (del (upd H6 po (.lst (x5 ++ [z6]))) pt) po) (x5 ++ [z6]) (oddsD ts) := by
    rw [del_comm, del_upd, del_comm]
    exact dpAll_app (dpAll_same (same_del po (same_del pt e6)) d5) (dp_off (l := po) (ys := x5) (by rw [del_ne npo]; exact ep6) rfl hz6)
  have ep7 : (upd H6 po (.lst (x5 ++ [z6]))) po = some (.lst (x5 ++ [z6])) := upd_same
  have e47 : Same H4 (upd H6 po (.lst (x5 ++ [z6]))) := same_mut (e5.trans e6) n5
  generalize upd H6 po (.lst (x5 ++ [z6])) = H7 at d7 ep7 e47 ⊢
  generalize x5 ++ [z6] = xo at d7 ep7
  have e27 := (e3.trans e4).trans e47
  have hl := e47 _ _ hl4
  dsimp only
  refine at_st [some (.ref l), some (.ref b), some (.int ((ts.length : Nat) : Int)), some (.ref j), some (.ref pt), some (.ref po), none, none, none, none, none, none, none, none, none, none, none] rfl ?_
  -- the bounds
  refine goML (K := K) (l := pt) (ds := lowsD) (eb_cons ee_int (eb_cons ee_bl (eb_cons ee_bl (eb_cons ee_non (eb_cons ee_str (eb_cons (ee_tup hl (eb_cons ee_int eb_nil) (by decide)) (eb_cons (ee_pow ⟨by decide, by decide, by decide⟩) (eb_cons (ee_lst hl (eb_cons ee_int eb_nil) (by decide)) (eb_cons ee_str eb_nil))))))))) (by decide) fun pw xw H8 e8 n8 ep8 d8 => ?_
  have hl7 := hl
  have hl := e8 _ _ hl7
  refine goML (K := K) (l := pt) (ds := highsD) (eb_cons ee_neg (eb_cons ee_bl (eb_cons ee_bl (eb_cons ee_non (eb_cons ee_str (eb_cons (ee_tup hl (eb_cons ee_int eb_nil) (by decide)) (eb_cons (ee_minus (ee_pow ⟨by decide, by decide, by decide⟩)) (eb_cons (ee_lst hl (eb_cons ee_int eb_nil) (by decide)) eb_nil)))))))) (by decide) fun ph xh H9 e9 n9 ep9 d9 => ?_
  have hl8 := hl
  have hl := e9 _ _ hl8
  have e29 := (e27.trans e8).trans e9
  have ej9 := e29 _ _ ej2
  -- no choices
  refine goML (K := K) (l := pt) (ds := badsD ts) (eb_cons ee_non (eb_cons (ee_listL hl rfl (SqL.of ej9)) (by repeat (first | exact ee_int | exact ee_str | exact ee_bl | exact ee_non | exact ee_neg | exact eb_nil | exact ee_var rfl (.int _) | exact ee_var rfl (by assumption) | apply eb_cons | apply ee_tup hl | apply ee_lst hl | apply ee_add | apply ee_cat hl | apply ee_cut hl | apply ee_rev hl | apply ee_list hl | (simp only [List.length_map, List.length_cons, List.length_nil, List.length_append, List.length_reverse, List.length_take, List.length_drop]; omega))))) (by show 12 ≤ 1000; decide) fun pb xb HA eA nA epA dA => ?_
  have hl9 := hl
  have hl := eA _ _ hl9
  have e2A := e29.trans eA
  have ejA := e2A _ _ ej2
  have jlen := (Chc.all ts).len
  -- the plain ones
  have bl0 : BL K ts pt H9 HA pb 12 := ⟨eA, nA, xb, badsD ts, epA, dA, by show 0 < 12; decide, by show 12 ≤ 12; decide, bads_all hts⟩
  refine at_st [some (.ref l), some (.ref b), some (.int ((ts.length : Nat) : Int)), some (.ref j), some (.ref pt), some (.ref po), some (.ref pw), some (.ref ph), some (.ref pb), none, none, none, none, none, none, none, none] rfl ?_
  refine ⟨_, rfl, _, rfl, by omega, by omega, fun D hD => ?_⟩
  refine lc_range (lo := 0) (n := ((ts.length : Nat) : Int).toNat) (fun i H' => Same HA H' ∧ H' D = some (.lst (nV ((List.range i).filter fun i => !decide (i ∈ jmps ts))))) ?_ ?_ ?_
  · exact ⟨same_new hD _, upd_same⟩
  · rintro i H' hi ⟨e, eD⟩
    rw [Int.zero_add]
    have lf := List.length_filter_le (fun i => !decide (i ∈ jmps ts)) (List.range i)
    rw [List.length_range] at lf
    have stp : (List.range (i + 1)).filter (fun i => !decide (i ∈ jmps ts)) = (List.range i).filter (fun i => !decide (i ∈ jmps ts)) ++ (if (!decide (i ∈ jmps ts)) = true then [i] else []) := by
      rw [List.range_succ, List.filter_append]
      congr 1
      show (match !decide (i ∈ jmps ts) with | true => i :: [] | false => []) = _
      cases !decide (i ∈ jmps ts) <;> rfl
    refine ⟨rfl, ?_⟩
    refine ⟨_, rfl, _, rfl, j, _, rfl, .inl (SqL.of (e _ _ ejA)), rfl, flat_nV _, _, rfl, ?_⟩
    rw [in_nV, stp]
    refine ite2 (fun cc => ?_) (fun cc => ?_)
    · have cc : (!decide (i ∈ jmps ts)) = true := cc
      refine ⟨_, rfl, _, eD, by rw [nV_len]; exact szl (by omega), same_mut e hD, ?_⟩
      rw [upd_same, if_pos cc, nV_snoc]
    · have cc : ¬ (!decide (i ∈ jmps ts)) = true := cc
      rw [if_neg cc, List.append_nil]
      exact ⟨e, eD⟩
  · rintro HC ⟨eC, eD⟩
    rw [Int.toNat_natCast] at eD
    have hpl : ∀ i ∈ (List.range ts.length).filter (fun i => !decide (i ∈ jmps ts)), i ∉ jmps ts := fun i m q => by
      have := (List.mem_filter.mp m).2
      rw [decide_eq_true q] at this; cases this
    have lpl := List.length_filter_le (fun i => !decide (i ∈ jmps ts)) (List.range ts.length)
    rw [List.length_range] at lpl
    generalize (List.range ts.length).filter (fun i => !decide (i ∈ jmps ts)) = pls at eD hpl lpl
    have bl1 := bl0.ext eC
    have npb : pb ≠ pt := fun z => by rw [z, hl9] at nA; cases nA
    have hl8' := hl9
    dsimp only [gName]
    refine at_st [some (.ref l), some (.ref b), some (.int ((ts.length : Nat) : Int)), some (.ref j), some (.ref pt), some (.ref po), some (.ref pw), some (.ref ph), some (.ref pb), some (.ref D), none, none, none, none, none, none, none] rfl ?_
    refine seq_mid (t1 := tIfS _ _ _) (fun σ' H' => σ' = [some (.ref l), some (.ref b), some (.int ((ts.length : Nat) : Int)), some (.ref j), some (.ref pt), some (.ref po), some (.ref pw), some (.ref ph), some (.ref pb), some (.ref D), none, none, none, none, none, none, none] ∧ BL K ts pt H9 H' pb 13) ?_ ?_
    · rintro σ' H' ⟨rfl, bl2⟩
      refine seq_mid (t1 := tIfS _ _ _) (fun σ' H' => ∃ pb, σ' = [some (.ref l), some (.ref b), some (.int ((ts.length : Nat) : Int)), some (.ref j), some (.ref pt), some (.ref po), some (.ref pw), some (.ref ph), some (.ref pb), some (.ref D), none, none, none, none, none, none, none] ∧ BL K ts pt H9 H' pb 15) ?_ ?_
      · rintro σ' H' ⟨pb, rfl, bl3⟩
        refine seq_mid (t1 := tIfS _ _ _) (fun σ' H' => σ' = [some (.ref l), some (.ref b), some (.int ((ts.length : Nat) : Int)), some (.ref j), some (.ref pt), some (.ref po), some (.ref pw), some (.ref ph), some (.ref pb), some (.ref D), none, none, none, none, none, none, none] ∧ BL K ts pt H9 H' pb 16) ?_ ?_
        · rintro σ' HB ⟨rfl, bl⟩
          have sB := bl.s
          have e2B := e29.trans sB
          have fB := ((FI.ref f2).ext e2B).f
          have npl := new_ne hf npt
          obtain ⟨kp, kb, kt, hlB, _⟩ := id fB
          have hptB := sB _ _ hl9
          have rB : RI K l q pt ns [(t, lamQ)] HB HB [] := by
            refine ⟨fB, ?_, Same.refl _, npl, rfl, ⟨[], hptB, .nil⟩, htab2.ext e2B⟩
            have e0B := e2.trans e2B
            obtain ⟨_, _, _, _, c0, _, _⟩ := hf
            refine Same.seq (fun a o h => ?_) c0
            have n1 : a ≠ pt := fun z => by
              subst z
              rw [del_ne npl, npt] at h; cases h
            rw [del_ne n1]
            exact same_del l e0B a o h
          -- what stands by
          have tO : HB po = some (.lst xo) := ((e8.trans e9).trans sB) _ _ ep7
          have dO := dpAll_rest hlB npl (dpAll_same (same_del pt ((e8.trans e9).trans sB)) (dpAll_same (del_le _ po) d7))
          have tW : HB pw = some (.lst xw) := (e9.trans sB) _ _ ep8
          have dW := dpAll_rest hlB npl (dpAll_same (same_del pt (e9.trans sB)) (dpAll_same (del_le _ pw) d8))
          have tH : HB ph = some (.lst xh) := sB _ _ ep9
          have dH := dpAll_rest hlB npl (dpAll_same (same_del pt sB) (dpAll_same (del_le _ ph) d9))
          have dX := dp_rest hlB npl (dp_same (same_del pt e2B) hx2)
          obtain ⟨xb', dsB, tB, dB0, lB0, lB1, hdsB⟩ := bl.ex
          have dB := dpAll_rest hlB npl (dpAll_same (del_le _ pb) dB0)
          have nb := bl.n
          clear bl bl2 bl1 bl0
          have lxo : xo.length = 18 := dp_len dO
          have lxw : xw.length = 9 := dp_len dW
          have lxh : xh.length = 8 := dp_len dH
          have lxb := dp_len dB
          have ne_l : ∀ {a : Addr} {xs : List V}, HB a = some (.lst xs) → a ≠ l := fun {a xs} h z => by rw [z, hlB] at h; cases h
          have rO := rest_at (l := l) (pt := pt) tO (ne_l tO) npo (fun _ z => nomatch z)
          have rW := rest_at (l := l) (pt := pt) tW (ne_l tW) (fun z => by rw [z, hl7] at n8; cases n8) (fun _ z => nomatch z)
          have rH := rest_at (l := l) (pt := pt) tH (ne_l tH) (fun z => by rw [z, hl8] at n9; cases n9) (fun _ z => nomatch z)
          have rBd := rest_at (l := l) (pt := pt) tB (ne_l tB) (fun z => by rw [z, hl9] at nb; cases nb) (fun _ z => nomatch z)
          have okT : isThs (.tuple (ts.map Th.d)) = true := okTs_of hg hpos
          have lenT : tlen (.tuple (ts.map Th.d)) ≤ 2000 := by show (ts.map Th.d).length ≤ 2000; rw [List.length_map]; omega
          have calT := calm_ths ts
          refine ⟨(3 : Int), rfl, by decide, by decide, ?_⟩
          refine for_range (lo := 0) (n := (3 : Int).toNat) (fun i σ H' => ∃ (o10 o11 o12 o13 o14 : Option V), σ = [some (.ref l), some (.ref b), some (.int ((ts.length : Nat) : Int)), some (.ref j), some (.ref pt), some (.ref po), some (.ref pw), some (.ref ph), some (.ref pb), some (.ref D), o10, o11, o12, o13, o14, none, none] ∧
            RI K l q pt ns [(t, lamQ)] HB H' (List.replicate i dueU).flatten) ?_ ?_ ?_
          · exact ⟨_, _, _, _, _, rfl, rB⟩
          · rintro i σ G0 hi ⟨o10, o11, o12, o13, o14, rfl, r0⟩
            have few : ∀ k, k ≤ 8 → (List.replicate i dueU).flatten.length + k ≤ 1000 := fun k hk => by
              have hi3 : i < 3 := hi
              have : (List.replicate i dueU).flatten.length = i * 8 := by
                rw [List.length_flatten, List.map_replicate, List.sum_replicate_nat]; rfl
              omega
            have at_ : ∀ {G : Hp} {ds : List PyData} {a : Addr} {xs : List V}, RI K l q pt ns [(t, lamQ)] HB G ds → Rest l pt HB a = some (.lst xs) → HB a = some (.lst xs) → SqL K (del G l) a xs := fun {G ds a xs} r h1 h2 => SqL.of (by rw [del_ne (ne_l h2)]; exact r.at h1)
            refine ⟨_, rfl, _, rfl, l, po, xo, q, ns, rfl, r0.f, at_ r0 rO tO, by omega, by omega, fun y1 G1 m1 g1 k1 => ?_⟩
            have r1 := r0.draw g1 k1
            obtain ⟨d1, md1, hd1⟩ := dp_mem dO m1
            refine ⟨_, rfl, _, rfl, l, pw, xw, q, ns, rfl, r1.f, at_ r1 rW tW, by omega, by omega, fun y2 G2 m2 g2 k2 => ?_⟩
            have r2 := r1.draw g2 k2
            obtain ⟨d2, md2, hd2⟩ := dp_mem dW m2
            refine ⟨_, rfl, _, rfl, l, ph, xh, q, ns, rfl, r2.f, at_ r2 rH tH, by omega, by omega, fun y3 G3 m3 g3 k3 => ?_⟩
            have r3 := r2.draw g3 k3
            obtain ⟨d3, md3, hd3⟩ := dp_mem dH m3
            refine ⟨(by show 3 ≤ sizeLine; decide), fun tq htq => ?_⟩
            have r4 := r3.ext (same_new htq (.tup [y1, y2, y3]))
            refine ⟨tq, _, rfl, SqT.of upd_same, rfl, _, _, rfl, _, _, rfl, _, _, rfl, rfl, ?_⟩
            generalize upd G3 tq (.tup [y1, y2, y3]) = G4 at r4 ⊢
            dsimp only
            refine ⟨_, rfl, _, rfl, l, pb, xb', q, ns, rfl, r4.f, at_ r4 rBd tB, by omega, by omega, fun y4 G5 m4 g5 k5 => ?_⟩
            have r5 := r4.draw g5 k5
            obtain ⟨d4, md4, hd4⟩ := dp_mem dB m4
            dsimp only [gName]
            refine at_st [some (.ref l), some (.ref b), some (.int ((ts.length : Nat) : Int)), some (.ref j), some (.ref pt), some (.ref po), some (.ref pw), some (.ref ph), some (.ref pb), some (.ref D), some (.int ((0 : Int) + (i : Nat))), some y1, some y2, some y3, some y4, none, none] rfl ?_
            have w1 := odds_all hts d1 md1
            have w2 := lows_all d2 md2
            have w3 := highs_all d3 md3
            have w4 := hdsB d4 md4
            refine tells (K := K) r5 rfl "things" (few 0 (by decide)) (fun G E Q r hn => ⟨_, rfl, _, rfl, _, rfl, y1, y2, y3, d1, d2, d3, _, rfl, r.dp hd1, r.dp hd2, r.dp hd3, w1.len, w1.calm, badL_things w1.no, hn⟩) fun G6 r6 => ?_
            refine tells (K := K) r6 rfl "things" (by rw [List.length_append]; exact few 1 (by decide)) (fun G E Q r hn => ⟨_, rfl, 8, rfl, y1, _, _, d1, .int (-8), .int 7, _, rfl, r.dp hd1, .int _, .int _, w1.len, w1.calm, badL_things w1.no, hn⟩) fun G7 r7 => ?_
            rw [List.append_assoc] at r7
            refine tells (K := K) r7 rfl "things" (by rw [List.length_append]; exact few 2 (by decide)) (fun G E Q r hn => ⟨_, rfl, _, rfl, _, rfl, _, rfl, y1, y2, y3, y4, d1, d2, d3, d4, _, rfl, r.dp hd1, r.dp hd2, r.dp hd3, w1.len, w1.calm, badL_things w1.no, hn⟩) fun G8 r8 => ?_
            rw [List.append_assoc] at r8
            refine tells (K := K) r8 rfl "low" (by rw [List.length_append]; exact few 3 (by decide)) (fun G E Q r hn => ⟨_, rfl, _, rfl, _, rfl, .ref b, y2, y3, _, d2, d3, _, rfl, r.dp dX, r.dp hd2, r.dp hd3, lenT, calT, badL_low okT w2, hn⟩) fun G9 r9 => ?_
            rw [List.append_assoc] at r9
            refine tells (K := K) r9 rfl "low" (by rw [List.length_append]; exact few 4 (by decide)) (fun G E Q r hn => ⟨_, rfl, _, rfl, _, rfl, _, rfl, .ref b, y2, y3, y4, _, d2, d3, d4, _, rfl, r.dp dX, r.dp hd2, r.dp hd3, lenT, calT, badL_low okT w2, hn⟩) fun G10 r10 => ?_
            rw [List.append_assoc] at r10
            refine tells (K := K) r10 rfl "high" (by rw [List.length_append]; exact few 5 (by decide)) (fun G E Q r hn => ⟨_, rfl, 8, rfl, _, rfl, .ref b, _, y3, _, .int (-8), d3, _, rfl, r.dp dX, .int _, r.dp hd3, lenT, calT, badL_high okT rfl w3, hn⟩) fun G11 r11 => ?_
            rw [List.append_assoc] at r11
            refine tells (K := K) r11 rfl "high" (by rw [List.length_append]; exact few 6 (by decide)) (fun G E Q r hn => ⟨_, rfl, _, rfl, _, rfl, .ref b, _, y3, y4, _, .int 0, d3, d4, _, rfl, r.dp dX, .int _, r.dp hd3, lenT, calT, badL_high okT rfl w3, hn⟩) fun G12 r12 => ?_
            rw [List.append_assoc] at r12
            refine tells_end (K := K) r12 rfl "chosen" (by rw [List.length_append]; exact few 7 (by decide)) (fun G E Q r hn => ⟨_, rfl, 8, rfl, _, rfl, .ref b, y4, -8, 7, ts, d4, rfl, ⟨r.dp dX, by omega, hg, okTs_of hg hpos, by decide, by decide⟩, r.dp hd4, w4.len, w4.no, hn⟩) fun G13 r13 => ?_
            rw [List.append_assoc] at r13
            refine ⟨_, _, _, _, _, rfl, ?_⟩
            have es : (List.replicate (i + 1) dueU).flatten = (List.replicate i dueU).flatten ++ dueU := by
              rw [List.replicate_succ', List.flatten_append]
              rfl
            rw [es]
            exact r13
          · rintro σ GZ ⟨o10, o11, o12, o13, o14, rfl, rZ⟩
            obtain ⟨xz, hz1, hz2⟩ := rZ.told
            dsimp only
            refine goSL (K := K) (ds := dueM) (el_cat (el_cat (el_rep 3 (el_lst (by repeat (first | exact ev_int | exact ev_str | exact ev_bl | exact ev_non | exact ev_neg | exact ea_nil | exact ev_var rfl (.int _) | exact ev_var rfl (by assumption) | apply ea_cons | apply ev_tup | apply ev_lst | apply ev_add | apply ev_cat | apply ev_cut | apply ev_rev | apply ev_list | (simp only [List.length_map, List.length_cons, List.length_nil, List.length_append, List.length_reverse, List.length_take, List.length_drop]; omega))) (by decide)) (by decide) (by decide)) (el_rep 2 (el_lst (by repeat (first | exact ev_int | exact ev_str | exact ev_bl | exact ev_non | exact ev_neg | exact ea_nil | exact ev_var rfl (.int _) | exact ev_var rfl (by assumption) | apply ea_cons | apply ev_tup | apply ev_lst | apply ev_add | apply ev_cat | apply ev_cut | apply ev_rev | apply ev_list | (simp only [List.length_map, List.length_cons, List.length_nil, List.length_append, List.length_reverse, List.length_take, List.length_drop]; omega))) (by decide)) (by decide) (by decide)) (by decide) (by decide)) (el_rep 2 (el_lst (by repeat (first | exact ev_int | exact ev_str | exact ev_bl | exact ev_non | exact ev_neg | exact ea_nil | exact ev_var rfl (.int _) | exact ev_var rfl (by assumption) | apply ea_cons | apply ev_tup | apply ev_lst | apply ev_add | apply ev_cat | apply ev_cut | apply ev_rev | apply ev_list | (simp only [List.length_map, List.length_cons, List.length_nil, List.length_append, List.length_reverse, List.length_take, List.length_drop]; omega))) (by decide)) (by decide) (by decide)) (by decide) (by decide)) fun pu xu G1 e1 h1 hu => ?_
            refine ⟨_, rfl, ?_⟩
            refine inL1 (K := K) (ds := (List.replicate 3 (dueM ++ [useD "chosen"])).flatten) (el_rep 3 (el_cat (el_var rfl h1 hu) (el_lst (by unfold useD; repeat (first | exact ev_int | exact ev_str | exact ev_bl | exact ev_non | exact ev_neg | exact ea_nil | exact ev_var rfl (.int _) | exact ev_var rfl (by assumption) | apply ea_cons | apply ev_tup | apply ev_lst | apply ev_add | apply ev_cat | apply ev_cut | apply ev_rev | apply ev_list | (simp only [List.length_map, List.length_cons, List.length_nil, List.length_append, List.length_reverse, List.length_take, List.length_drop]; omega))) (by decide)) (by decide) (by decide)) (by decide) (by decide)) fun pv xv G2 e2 h2 hv => ?_
            have hz3 : DpAll K G2 xz (List.replicate 3 dueU).flatten := dpAll_same (e1.trans e2) (dpAll_same (del_le _ pt) hz2)
            refine ⟨.ref pt, .ref pv, .list (List.replicate 3 dueU).flatten, rfl, .lst (SqL.of ((e1.trans e2) _ _ hz1)) hz3, .lst (SqL.of h2) hv, dueM_rp, k _⟩
        · intro nx hnx
          have npb : pb ≠ pt := fun z => by have := bl3.n; rw [z, hl9] at this; cases this
          refine ⟨_, rfl, j, _, rfl, .inl (SqL.of (bl3.s _ _ (e29 _ _ ej2))), _, _, rfl, rfl, _, rfl, ?_⟩
          refine ite2 (fun cc => ?_) (fun cc => hnx _ _ ⟨rfl, bl3.mono (by decide)⟩)
          have jl1 : 1 < (jmps ts).length := by
            have := of_decide_eq_true cc
            rw [nV_len] at this
            omega
          obtain ⟨sB, nB, xs, ds, h1, h2, h3, h4, h5⟩ := bl3
          have ejB := sB _ _ (e29 _ _ ej2)
          refine ⟨_, rfl, .inl ⟨rfl, _, SqL.of h1⟩, ?_⟩
          refine ⟨_, rfl, j, _, rfl, SqL.of ejB, fun r1 hr1 => ?_⟩
          have a1 := same_new hr1 (.lst (nV (jmps ts)).reverse)
          refine ⟨r1, _, rfl, .inl ⟨SqL.of upd_same, fun t1 ht1 => ?_⟩⟩
          have a2 := same_new ht1 (.tup (nV (jmps ts)).reverse)
          have a12 := a1.trans a2
          have er : (nV (jmps ts)).reverse = nV (jmps ts).reverse := (List.map_reverse ..).symm
          have h1' := a12 _ _ h1
          have dz : Dp K (del (del (upd (upd H' r1 (.lst (nV (jmps ts)).reverse)) t1 (.tup (nV (jmps ts)).reverse)) pt) pb) (.ref t1) (natD (jmps ts).reverse) := by
            refine nat_dp (seqT_off (seqT_off ?_ (a12 _ _ (sB _ _ hl9))) (by rw [del_ne npb]; exact h1'))
            rw [← er]
            exact SqT.of upd_same
          refine ⟨pb, xs, _, rfl, rfl, h1', szl (by rw [dp_len h2]; omega), ?_⟩
          exact hnx _ _ ⟨rfl, BL.put (sB.trans a12) nB h1' (dpAll_same (same_del pb (same_del pt a12)) h2) h4 h5 dz (bad_rev (by omega) (Chc.all ts).asc jl1)⟩
      · intro nx hnx
        refine ⟨_, rfl, (by show 0 ≤ sizeLine; decide), fun pe hpe => ?_⟩
        have s1 := same_new hpe (.lst [])
        have ejB := bl2.s _ _ (e29 _ _ ej2)
        have ej1 := s1 _ _ ejB
        refine ⟨natL (jmps ts), natL [], natL_dp (SqL.of ej1), natL_dp (cs := []) (SqL.of upd_same), natL_shaped _, natL_shaped _, _, rfl, ?_⟩
        rw [natL_eqv]
        have bl3 := bl2.ext s1
        generalize upd H' pe (.lst []) = H1 at s1 ej1 bl3 ⊢
        by_cases je : jmps ts = []
        · rw [decide_eq_true je]
          exact iteF (hnx _ _ ⟨pb, rfl, bl3.mono (by decide)⟩)
        · rw [decide_eq_false je]
          refine iteT ?_
          obtain ⟨sB, nB, xs, ds, h1, h2, h3, h4, h5⟩ := bl3
          obtain ⟨m, cm, cm1, cm2, cm3⟩ := cut_last je
          obtain ⟨j0, jr, ejr⟩ : ∃ j0 jr, jmps ts = j0 :: jr := by
            cases hj0 : jmps ts with
            | nil => exact absurd hj0 je
            | cons a r => exact ⟨a, r, rfl⟩
          refine ⟨_, rfl, _, rfl, _, rfl, 1, rfl, -1, rfl, j, _, rfl, SqL.of ej1, fun s1 hs1 => ?_⟩
          rw [cm]
          have a1 := same_new hs1 (.lst (nV m))
          refine ⟨j, s1, _, _, rfl, rfl, a1 _ _ ej1, upd_same, by rw [nV_len, nV_len]; exact Nat.le_of_lt (szl (by omega)), fun c1 hc1 => ?_⟩
          have a2 := same_new hc1 (.lst (nV (jmps ts) ++ nV m))
          refine ⟨c1, _, rfl, .inl ⟨SqL.of upd_same, fun t1 ht1 => ?_⟩⟩
          have a3 := same_new ht1 (.tup (nV (jmps ts) ++ nV m))
          have q1 : SqT K (upd (upd (upd H1 s1 (.lst (nV m))) c1 (.lst (nV (jmps ts) ++ nV m))) t1 (.tup (nV (jmps ts) ++ nV m))) t1 (nV (jmps ts ++ m)) := by
            rw [show nV (jmps ts ++ m) = nV (jmps ts) ++ nV m from List.map_append ..]
            exact SqT.of upd_same
          have a13 := (a1.trans a2).trans a3
          generalize upd (upd (upd H1 s1 (.lst (nV m))) c1 (.lst (nV (jmps ts) ++ nV m))) t1 (.tup (nV (jmps ts) ++ nV m)) = H2' at q1 a13 ⊢
          have ej2' := a13 _ _ ej1
          refine ⟨_, rfl, _, rfl, j, _, _, _, rfl, rfl, SqL.of ej2', (by rw [ejr]; exact atI_nat (j := 0) rfl : atI (nV (jmps ts)) 0 = some (V.int (j0 : Int))), (by show 1 ≤ sizeLine; decide), fun s2 hs2 => ?_⟩
          have b1 := same_new hs2 (.lst [V.int (j0 : Int)])
          refine ⟨j, s2, _, _, rfl, rfl, b1 _ _ ej2', upd_same, by rw [nV_len]; exact Nat.le_of_lt (szl (by show _ + 1 ≤ _; omega)), fun c2 hc2 => ?_⟩
          have b2 := same_new hc2 (.lst (nV (jmps ts) ++ [V.int (j0 : Int)]))
          refine ⟨c2, _, rfl, .inl ⟨SqL.of upd_same, fun t2 ht2 => ?_⟩⟩
          have b3 := same_new ht2 (.tup (nV (jmps ts) ++ [V.int (j0 : Int)]))
          have q2 : SqT K (upd (upd (upd H2' s2 (.lst [V.int (j0 : Int)])) c2 (.lst (nV (jmps ts) ++ [V.int (j0 : Int)]))) t2 (.tup (nV (jmps ts) ++ [V.int (j0 : Int)]))) t2 (nV (jmps ts ++ [j0])) := by
            rw [← nV_snoc]
            exact SqT.of upd_same
          have b13 := (b1.trans b2).trans b3
          generalize upd (upd (upd H2' s2 (.lst [V.int (j0 : Int)])) c2 (.lst (nV (jmps ts) ++ [V.int (j0 : Int)]))) t2 (.tup (nV (jmps ts) ++ [V.int (j0 : Int)])) = H3' at q2 b13 ⊢
          refine ⟨(by show 2 ≤ sizeLine; decide), fun p2 hp2 => ?_⟩
          have d1 := same_new hp2 (.lst [V.ref t1, .ref t2])
          have f13 := (a13.trans b13).trans d1
          refine ⟨pb, p2, _, _, rfl, rfl, f13 _ _ h1, upd_same, by rw [dp_len h2]; exact Nat.le_of_lt (szl (by show _ + 2 ≤ _; omega)), fun pb2 hpb2 => ?_⟩
          have d2 := same_new hpb2 (.lst (xs ++ [V.ref t1, .ref t2]))
          have fr := fresh_off (pt := pt) d2 hpb2
          have hptf := (sB.trans f13) _ _ hl9
          refine hnx _ _ ⟨pb2, rfl, (sB.trans f13).trans d2, none_of (sB.trans f13) hpb2, _, ds ++ [natD (jmps ts ++ m), natD (jmps ts ++ [j0])], upd_same, ?_, by rw [List.length_append]; show 0 < _ + 2; omega, by rw [List.length_append]; show _ + 2 ≤ 15; omega, fun d md => ?_⟩
          · refine dpAll_cat2 (dpAll_same ((same_del pt f13).trans fr) (dpAll_same (del_le _ pb) h2)) (.cons (dp_same fr (nat_dp (seqT_off (seqT_same (b13.trans d1) q1) hptf))) (.cons (dp_same fr (nat_dp (seqT_off (seqT_same d1 q2) hptf))) .nil))
          · rcases List.mem_append.mp md with md | md
            · exact h5 d md
            · rcases List.mem_cons.mp md with rfl | md
              · exact bad_dup (by omega) (by omega) cm1 cm3
              · rw [List.mem_singleton.mp md]
                exact bad_dup (by omega) (by show 1 ≤ 400; decide) (fun z => nomatch z) (fun i mi => by rw [List.mem_singleton.mp mi, ejr]; exact List.mem_cons_self)
    · intro nx hnx
      refine ⟨_, rfl, (by show 0 ≤ sizeLine; decide), fun pe hpe => ?_⟩
      have s1 := same_new hpe (.lst [])
      have eD1 := s1 _ _ eD
      refine ⟨natL pls, natL [], natL_dp (SqL.of eD1), natL_dp (cs := []) (SqL.of upd_same), natL_shaped _, natL_shaped _, _, rfl, ?_⟩
      rw [natL_eqv]
      have bl2 := bl1.ext s1
      have ej1 := (eC.trans s1) _ _ ejA
      generalize upd HC pe (.lst []) = H1 at s1 eD1 bl2 ej1 ⊢
      cases pls with
      | nil => exact iteF (hnx _ _ ⟨rfl, bl2.mono (by decide)⟩)
      | cons p0 pr =>
        refine iteT ?_
        obtain ⟨sB, nB, xs, ds, h1, h2, h3, h4, h5⟩ := bl2
        refine ⟨_, rfl, .inl ⟨rfl, _, SqL.of h1⟩, ?_⟩
        refine ⟨_, rfl, _, rfl, 1, rfl, D, _, rfl, SqL.of eD1, fun s1 hs1 => ?_⟩
        have ec : cutV (nV (p0 :: pr)) none (some 1) = nV [p0] := (cut_hi (n := 1)).trans rfl
        rw [ec]
        have a1 := same_new hs1 (.lst (nV [p0]))
        refine ⟨j, s1, _, _, rfl, rfl, a1 _ _ ej1, upd_same, by rw [nV_len]; exact Nat.le_of_lt (szl (by show _ + 1 ≤ _; omega)), fun c1 hc1 => ?_⟩
        have a2 := same_new hc1 (.lst (nV (jmps ts) ++ nV [p0]))
        have en : nV (jmps ts) ++ nV [p0] = ((jmps ts ++ [p0]).map fun (i : Nat) => (i : Int)).map V.int := by
          unfold nV
          rw [List.map_map, List.map_append]
          rfl
        refine ⟨c1, (jmps ts ++ [p0]).map fun (i : Nat) => (i : Int), rfl, SqL.of (by rw [← en]; exact upd_same), fun zs p2 hz1 hz2 hp2 => ?_⟩
        have a3 := same_new hp2 (.lst (zs.map V.int))
        refine ⟨p2, _, rfl, .inl ⟨SqL.of upd_same, fun t1 ht1 => ?_⟩⟩
        have a4 := same_new ht1 (.tup (zs.map V.int))
        have a14 := ((a1.trans a2).trans a3).trans a4
        have lz : zs.length ≤ 401 := by
          rw [hz1.length_eq, List.length_map, List.length_append]; show _ + 1 ≤ 401; omega
        have zm : (p0 : Int) ∈ zs := hz1.mem_iff.mpr (List.mem_map.mpr ⟨p0, List.mem_append_right _ List.mem_cons_self, rfl⟩)
        have h1' := a14 _ _ h1
        have hpt' := a14 _ _ (sB _ _ hl8')
        have dz : Dp K (del (del (upd (upd (upd (upd H1 s1 (.lst (nV [p0]))) c1 (.lst (nV (jmps ts) ++ nV [p0]))) p2 (.lst (zs.map V.int))) t1 (.tup (zs.map V.int))) pt) pb) (.ref t1) (.tuple (zs.map .int)) :=
          .tup (seqT_off (seqT_off (SqT.of upd_same) hpt') (by rw [del_ne npb]; exact h1')) (dp_ints zs)
        refine ⟨pb, xs, _, rfl, rfl, h1', szl (by rw [dp_len h2]; omega), ?_⟩
        refine hnx _ _ ⟨rfl, BL.put (sB.trans a14) nB h1' (dpAll_same (same_del pb (same_del pt a14)) h2) h4 h5 dz (bad_plain (by omega) zm (hpl p0 List.mem_cons_self))⟩
end
end Lk

set_option Elab.async false
set_option linter.all false
set_option maxRecDepth 100000
set_option maxHeartbeats 4000000
set_option pp.maxSteps 1500
namespace Lk
open PySem PySem.Spec PyProof.Rows L2
section
variable {X : Cx} {CX : CXT} {k : Nat} {f : Addr} {fd : FuncData} {ps : List Str} {sp : Sp} {E : XK} {x : Str} {p pos : PySem.Pos} {ds : List Value} {dvs : List V}
theorem pe_callG0 (F : FnG X.prog X.w X.K X.mg X.base CX k f fd ps sp) (gu : X.A.guards = some []) (hr : Room k X.A) (hg : Gl X x) (hm : X.mg x = some (.ref f)) (hk : PySem.W.keepIn X.K (.ref f) = true) (hb : Binds X.K fd ps ds) (hd : Vals dvs ds) (hx : Passes CX X E)
    (hdb : (x == ("__debug__" : Str)) = false := by decide) : PE X (.Call (.Name x p) [] [] pos) (tCall sp dvs E tNil) :=
  ⟨fun _ _ _ _ _ I h => wpAny_Call_Name_kw (ld_glob I hg hm (PySem.W.callWith_K0 I.kIn hk (run_fnG (us := []) F gu hr hb hd hx I .nil h)) hdb)⟩
end
/-- low and high, in a tuple, and how far they go -/
def spBounds2 (K : PySem.W.Frag) : Sp := fun vs H Q _ => ∃ (l q : Addr) (ns : List Int), vs = [.ref l] ∧ Feed K H l q ns ∧ ∀ (low high : Int) (t : Addr) (H' : Hp), low ≤ 0 → -100 ≤ low → 0 ≤ high → high ≤ 10 ^ 40 → SqT K H' t [.int low, .int high] → FI K H l q ns H' → Q (.ref t) H'
theorem DrT.goods {ts : List Th} {n m : Nat} (d : DrT ts n m) : GoodTs ts := fun i t e => by rw [d.len]; exact d.good i t e
theorem DrT.poss {ts : List Th} {n m : Nat} (d : DrT ts n m) : Pos ts := fun i k e => (d.pos i k e).1
def spLaw (tb : Addr) (K : PySem.W.Frag) : Sp := fun vs H Q _ => ∃ (a : Addr) (ns : List Int), vs = [.ref a] ∧ SqL K H a (iV ns) ∧ ns.length ≤ 63 ∧ H tb = some (.tbl #[]) ∧ ∀ H', Q (.bl true) H'
section
variable {P : Program} {w : World} {K : PySem.W.Frag} {mg : Str → Option Value} {base : Heap}
theorem ok_law_bounds2 (T : Txt K mg) : FnOk P w K mg base CX0 3 T.f__law_bounds T.d__law_bounds ["_law_feed_here"] (spBounds2 K) := by
  have nd := sc__law_bounds.nd
  refine T.F__law_bounds.ok sc__law_bounds (fun vs H Q E h => ?_) (fun cdv A outer s H vs Q E hr h => ?_)
  · obtain ⟨l, q, ns, rfl, _⟩ := h
    rfl
  obtain ⟨l, q, ns, rfl, hf, k⟩ := h
  have G__law_any : FnOk P w K mg base CX0 2 _ _ _ (spAny K) := ok_any T
  have hr__law_any := hr
  refine ⟨_, (pss_cons (ps_set (i := 1) nd rfl (Or.inl rfl) (pe_call G__law_any hr__law_any rfl T.m__law_any T.k__law_any T.b__law_any .nil pass0 (pa_cons (pv 0) (pa_cons (pe_lst (pa_cons pe_int (pa_cons (pe_un un_neg pe_int) (pa_cons (pe_un un_neg pe_int) (pa_cons (pe_un un_neg pe_int) (pa_cons (pe_un un_neg pe_int) (pa_cons (pe_un un_neg pe_int) (pa_cons (pe_un un_neg pe_int) (pa_cons (pe_un un_neg pe_int) (pa_cons (pe_un un_neg pe_int) (pa_cons (pe_un un_neg pe_int) pa_nil))))))))))) pa_nil))))
      (pss_one (ps_ret (pe_tup (pa_cons (pv 1) (pa_cons (pe_call G__law_any hr__law_any rfl T.m__law_any T.k__law_any T.b__law_any .nil pass0 (pa_cons (pv 0) (pa_cons (pe_lst (pa_cons pe_int (pa_cons pe_int (pa_cons pe_int (pa_cons pe_int (pa_cons pe_int (pa_cons pe_int (pa_cons pe_int (pa_cons pe_int (pa_cons pe_int (pa_cons (pe_op op_pow pe_int pe_int) pa_nil))))))))))) pa_nil))) pa_nil)))))), ?_⟩
  refine ⟨_, rfl, 1, rfl, 2, rfl, 3, rfl, 4, rfl, 5, rfl, 8, rfl, 8, rfl, 9, rfl, 100, rfl, (by show 10 ≤ sizeLine; decide), fun p hp => ?_⟩
  have f1 := FI.new hf (FI.ref hf) hp (.lst [V.int 0, .int (-1), .int (-2), .int (-3), .int (-4), .int (-5), .int (-8), .int (-8), .int (-9), .int (-100)])
  refine ⟨l, p, _, q, ns, rfl, f1.f, SqL.of (by rw [del_ne (new_ne hf hp)]; exact upd_same), (by show 0 < 10; decide), (by show 10 ≤ 1000; decide), fun y H2 hy g2 k2 => ?_⟩
  obtain ⟨low, rfl, hlow, hlow2⟩ : ∃ low : Int, y = .int low ∧ low ≤ 0 ∧ -100 ≤ low := by
    simp only [List.mem_cons, List.not_mem_nil, or_false] at hy
    rcases hy with h | h | h | h | h | h | h | h | h | h <;> subst h <;> exact ⟨_, rfl, by decide, by decide⟩
  have f2 := f1.draw g2 k2
  refine ⟨_, rfl, _, rfl, _, _, rfl, rfl, ⟨by decide, by decide, by decide⟩, (by show 10 ≤ sizeLine; decide), fun p2 hp2 => ?_⟩
  have f3 := FI.new hf f2 hp2 (.lst [V.int 0, .int 1, .int 2, .int 3, .int 4, .int 5, .int 7, .int 7, .int 8, .int (10 ^ (40 : Int).toNat)])
  refine ⟨l, p2, _, q, ns, rfl, f3.f, SqL.of (by rw [del_ne (new_ne g2 hp2)]; exact upd_same), (by show 0 < 10; decide), (by show 10 ≤ 1000; decide), fun y H3 hy g3 k3 => ?_⟩
  obtain ⟨high, rfl, hhigh, hhigh2⟩ : ∃ high : Int, y = .int high ∧ 0 ≤ high ∧ high ≤ 10 ^ 40 := by
    simp only [List.mem_cons, List.not_mem_nil, or_false] at hy
    rcases hy with h | h | h | h | h | h | h | h | h | h <;> subst h <;> exact ⟨_, rfl, by decide, by decide⟩
  have f4 := f3.draw g3 k3
  refine ⟨(by show 2 ≤ sizeLine; decide), fun t ht => ?_⟩
  exact k low high t _ hlow hlow2 hhigh hhigh2 (SqT.of upd_same) (FI.new hf f4 ht (.tup [.int low, .int high]))
theorem ok_law (T : Txt K mg) {c tb : Addr} (hT : TabAt K T.f__law_are_refused c tb) (TB : LamX.TabB base mg c tb) : FnG P w K mg base CX0 9 T.f_law T.d_law ["_law_script"] (spLaw tb K) := by
  have nd := sc_law.nd
  refine okG T.F_law sc_law (fun vs H Q E h => ?_) (fun cdv A outer s H vs Q E gu0 hr h => ?_)
  · obtain ⟨a, ns, rfl, _⟩ := h
    rfl
  obtain ⟨a, ns, rfl, hS, h63, htb, k⟩ := h
  have gu : (A.deeper (envOfC "law" (defScope s_law) s.heap.objs.size T.f_law cdv)).guards = some [] := gu0
  have G__law_feed : FnOk P w K mg base CX0 1 _ _ _ (spFeed K) := ok_feed T
  have hr__law_feed : Room 1 _ := hr.mono (by omega)
  have G__law_draw : FnOk P w K mg base CX0 1 _ _ _ (spTake K) := ok_draw T
  have hr__law_draw : Room 1 _ := hr.mono (by omega)
  have G__law_any : FnOk P w K mg base CX0 2 _ _ _ (spAny K) := ok_any T
  have hr__law_any : Room 2 _ := hr.mono (by omega)
  have G__law_things : FnOk P w K mg base CX0 3 _ _ _ (spThings K) := ok_law_things T
  have hr__law_things : Room 3 _ := hr.mono (by omega)
  have G__law_bounds : FnOk P w K mg base CX0 3 _ _ _ (spBounds2 K) := ok_law_bounds2 T
  have hr__law_bounds : Room 3 _ := hr.mono (by omega)
  have G__law_least : FnOk P w K mg base CX0 4 _ _ _ (spLeastLaw K) := ok_law_least T
  have hr__law_least : Room 4 _ := hr.mono (by omega)
  have G__law_grown : FnOk P w K mg base CX0 3 _ _ _ (spGrown K) := ok_law_grown T
  have hr__law_grown : Room 3 _ := hr.mono (by omega)
  have G__law_is_told_right : FnG P w K mg base CX0 7 _ _ _ (spToldR K) := ok_told_right T
  have hr__law_is_told_right : Room 7 _ := hr.mono (by omega)
  have G__law_are_few_right : FnG P w K mg base CX0 6 _ _ _ (fun vs H Q _ => vs = [] ∧ ∀ H', Same H H' → Q (.bl true) H') := ok_few_right T
  have hr__law_are_few_right : Room 6 _ := hr.mono (by omega)
  have G__law_are_refused : FnG P w K mg base CX0 8 _ _ _ (spRefused tb K) := ok_refused T hT TB
  have hr__law_are_refused : Room 8 _ := hr
  refine ⟨_, (pss_cons (ps_set (i := 1) nd rfl (Or.inl rfl) (pe_call G__law_feed hr__law_feed rfl T.m__law_feed T.k__law_feed T.b__law_feed .nil pass0 (pa_cons (pv 0) pa_nil)))
      (pss_cons (ps_for PassesOwn.never rfl (pi_range1 (by rfl) T.z_range (pa_cons pe_int pa_nil)) (pg_name (i := 2) nd rfl (Or.inl rfl))
      (pss_cons (ps_set (i := 3) nd rfl (Or.inl rfl) (pe_call G__law_things hr__law_things rfl T.m__law_things T.k__law_things T.b__law_things .nil pass0 (pa_cons (pv 1) (pa_cons (pe_call G__law_draw hr__law_draw rfl T.m__law_draw T.k__law_draw T.b__law_draw .nil pass0 (pa_cons (pv 1) (pa_cons pe_int pa_nil))) (pa_cons pe_int pa_nil)))))
      (pss_cons (ps_asg (pe_call G__law_bounds hr__law_bounds rfl T.m__law_bounds T.k__law_bounds T.b__law_bounds .nil pass0 (pa_cons (pv 1) pa_nil)) (pg_tup rfl (pgs_cons (pg_name (i := 4) nd rfl (Or.inl rfl)) (pgs_cons (pg_name (i := 5) nd rfl (Or.inl rfl)) pgs_nil))))
      (pss_one (ps_if (pt_not (pt_val (by exact (pe_callG G__law_is_told_right gu hr__law_is_told_right rfl T.m__law_is_told_right T.k__law_is_told_right T.b__law_is_told_right .nil pass0 (pa_cons (pv 1) (pa_cons (pv 3) (pa_cons (pv 4) (pa_cons (pv 5) (pa_cons (pe_call G__law_least hr__law_least rfl T.m__law_least T.k__law_least T.b__law_least .nil pass0 (pa_cons (pv 3) (pa_cons (pv 4) (pa_cons (pv 5) pa_nil)))) pa_nil))))))))) (pss_one (ps_ret pe_bl)) pss_nil)))))
      (pss_cons (ps_set (i := 6) nd rfl (Or.inl rfl) (pe_call G__law_things hr__law_things rfl T.m__law_things T.k__law_things T.b__law_things .nil pass0 (pa_cons (pv 1) (pa_cons (pe_call G__law_any hr__law_any rfl T.m__law_any T.k__law_any T.b__law_any .nil pass0 (pa_cons (pv 1) (pa_cons (pe_lst (pa_cons pe_int (pa_cons pe_int (pa_cons pe_int (pa_cons pe_int (pa_cons pe_int (pa_cons pe_int (pa_cons pe_int (pa_cons pe_int pa_nil))))))))) pa_nil))) (pa_cons pe_int pa_nil)))))
      (pss_cons (ps_asg (pe_call G__law_bounds hr__law_bounds rfl T.m__law_bounds T.k__law_bounds T.b__law_bounds .nil pass0 (pa_cons (pv 1) pa_nil)) (pg_tup rfl (pgs_cons (pg_name (i := 4) nd rfl (Or.inl rfl)) (pgs_cons (pg_name (i := 5) nd rfl (Or.inl rfl)) pgs_nil))))
      (pss_cons (ps_if (pt_not (pt_val (by exact (pe_callG G__law_is_told_right gu hr__law_is_told_right rfl T.m__law_is_told_right T.k__law_is_told_right T.b__law_is_told_right .nil pass0 (pa_cons (pv 1) (pa_cons (pv 6) (pa_cons (pv 4) (pa_cons (pv 5) (pa_cons (pe_call G__law_grown hr__law_grown rfl T.m__law_grown T.k__law_grown T.b__law_grown .nil pass0 (pa_cons (pv 6) (pa_cons (pv 4) (pa_cons (pv 5) pa_nil)))) pa_nil))))))))) (pss_one (ps_ret pe_bl)) pss_nil)
      (pss_one (ps_ret (pe_and (by exact (pe_callG0 G__law_are_few_right gu hr__law_are_few_right rfl T.m__law_are_few_right T.k__law_are_few_right T.b__law_are_few_right .nil pass0)) (pe_one (by exact (pe_callG G__law_are_refused gu hr__law_are_refused rfl T.m__law_are_refused T.k__law_are_refused T.b__law_are_refused .nil pass0 (pa_cons (pv 1) (pa_cons (pv 3) pa_nil))))))))))))), ?_⟩
  refine ⟨_, rfl, a, ns, rfl, hS, h63, fun l H1 e1 q ms hl0 f1 => ?_⟩
  dsimp only [gName]
  refine ⟨(2 : Int), rfl, by decide, by decide, ?_⟩
  refine for_range (lo := 0) (n := (2 : Int).toNat) (fun i σ H' => ∃ (o2 o3 o4 o5 : Option V), σ = [some (.ref a), some (.ref l), o2, o3, o4, o5, none] ∧ FI K H1 l q ms H' ∧
    (i = 0 ∨ ∃ (t : Addr) (ts : List Th) (n : Nat), o3 = some (.ref t) ∧ n ≤ 13 ∧ DrT ts n 7 ∧ Dp K (del H' l) (.ref t) (.tuple (ts.map Th.d)))) ?_ ?_ ?_
  · exact ⟨none, none, none, none, rfl, FI.ref f1, .inl rfl⟩
  · rintro i σ H2 hi ⟨o2, o3, o4, o5, rfl, f2, _⟩
    refine ⟨_, rfl, _, rfl, l, 14, q, ms, rfl, f2.f, by decide, by decide, fun r H3 r0 r1 g3 k3 => ?_⟩
    have f3 := f2.draw g3 k3
    obtain ⟨n, rfl⟩ := Int.eq_ofNat_of_zero_le r0
    refine ⟨l, q, ms, n, 7, rfl, f3.f, by omega, by decide, fun ts t H4 dr hd4 g4 => ?_⟩
    have f4 := f3.draw g4.f g4.s
    dsimp only [gName]
    refine ⟨_, rfl, l, q, ms, rfl, f4.f, fun low high u H5 l0 l1 h0 h1 hu g5 => ?_⟩
    have f5 := f4.draw g5.f g5.s
    have hd5 := dp_same g5.s hd4
    refine ⟨u, _, rfl, hu, rfl, _, _, rfl, _, _, rfl, rfl, ?_⟩
    dsimp only
    have hx5 := dp_same (del_le H5 l) hd5
    refine ⟨_, rfl, _, rfl, _, rfl, _, rfl, _, rfl, _, rfl, _, rfl, .ref t, low, high, ts, rfl, hx5, by have := dr.len; omega, dr.goods, dr.poss, l0, h0, dr.few, fun due H6 e6 hdue => ?_⟩
    have f6 := f5.ext e6
    refine ⟨l, due, q, .ref t, ms, low, high, ts, rfl, f6.f, dp_same e6 hx5, hdue, by have := dr.len; omega, dr.goods, dr.poss, fun i k e => (dr.pos i k e).2, l0, l1, h0, h1, fun H7 g7 => ?_⟩
    have f7 := f6.draw g7.f g7.s
    refine ⟨_, rfl, ?_⟩
    refine iteF ?_
    exact ⟨_, _, _, _, rfl, f7, .inr ⟨t, ts, n, rfl, by omega, dr, dp_same g7.s (dp_same (same_del l e6) hd5)⟩⟩
  · rintro σ H2 ⟨o2, o3, o4, o5, rfl, f2, hh⟩
    rcases hh with hh | ⟨t, ts, n, rfl, hn, dr, hd2⟩
    · cases hh
    dsimp only
    refine ⟨_, rfl, _, rfl, (by show 8 ≤ sizeLine; decide), fun p hp => ?_⟩
    have f3 := FI.new f1 f2 hp (.lst [V.int 20, .int 24, .int 30, .int 40, .int 25, .int 120, .int 33, .int 18])
    have hd3 := dp_same (same_del l (same_new hp (.lst [V.int 20, .int 24, .int 30, .int 40, .int 25, .int 120, .int 33, .int 18]))) hd2
    refine ⟨l, p, _, q, ms, rfl, f3.f, SqL.of (by rw [del_ne (new_ne f2.f hp)]; exact upd_same), (by show 0 < 8; decide), (by show 8 ≤ 1000; decide), fun y H4 hy g4 k4 => ?_⟩
    obtain ⟨m, rfl, hm⟩ : ∃ m : Nat, y = .int (m : Int) ∧ m ≤ 120 := by
      simp only [List.mem_cons, List.not_mem_nil, or_false] at hy
      rcases hy with h | h | h | h | h | h | h | h <;> subst h
      all_goals first | exact ⟨20, rfl, by decide⟩ | exact ⟨24, rfl, by decide⟩ | exact ⟨30, rfl, by decide⟩ | exact ⟨40, rfl, by decide⟩ | exact ⟨25, rfl, by decide⟩ | exact ⟨120, rfl, by decide⟩ | exact ⟨33, rfl, by decide⟩ | exact ⟨18, rfl, by decide⟩
    have f4 := f3.draw g4 k4
    have hd4 := dp_same k4 hd3
    refine ⟨l, q, ms, m, 90, rfl, f4.f, by omega, by decide, fun fs u H5 fr hu5 g5 => ?_⟩
    have f5 := f4.draw g5.f g5.s
    have hd5 := dp_same g5.s hd4
    dsimp only [gName]
    refine ⟨_, rfl, l, q, ms, rfl, f5.f, fun low high v H6 l0 l1 h0 h1 hv g6 => ?_⟩
    have f6 := f5.draw g6.f g6.s
    have hd6 := dp_same g6.s hd5
    have hu6 := dp_same (del_le H6 l) (dp_same g6.s hu5)
    refine ⟨v, _, rfl, hv, rfl, _, _, rfl, _, _, rfl, rfl, ?_⟩
    dsimp only
    refine ⟨_, rfl, _, rfl, _, rfl, _, rfl, _, rfl, _, rfl, _, rfl, .ref u, low, high, fs, rfl, hu6, by have := fr.len; omega, fr.goods, fr.poss, l0, h0, fun due H7 e7 hdue => ?_⟩
    have f7 := f6.ext e7
    have hd7 := dp_same (same_del l e7) hd6
    refine ⟨l, due, q, .ref u, ms, low, high, fs, rfl, f7.f, dp_same e7 hu6, hdue, by have := fr.len; omega, fr.goods, fr.poss, fun i k e => (fr.pos i k e).2, l0, l1, h0, h1, fun H8 g8 => ?_⟩
    have f8 := f7.draw g8.f g8.s
    have hd8 := dp_same g8.s hd7
    refine ⟨_, rfl, ?_⟩
    refine iteF ?_
    dsimp only
    refine ⟨rfl, fun H9 e9 => ?_⟩
    have f9 := f8.ext e9
    have hd9 := dp_same (del_le H9 l) (dp_same (same_del l e9) hd8)
    refine ⟨true, rfl, iteT ?_⟩
    have ntl : tb ≠ l := fun z => by
      have z1 := e1 _ _ htb
      obtain ⟨_, _, _, hl, _⟩ := f1
      rw [z, hl] at z1; cases z1
    have h9 := Same.off f9.s ntl (e1 _ _ htb)
    refine ⟨_, rfl, _, rfl, l, q, .ref t, ms, ts, rfl, f9.f, hd9, by have := dr.len; omega, dr.goods, dr.poss, fun p m => ?_, k⟩
    rw [List.mem_singleton.mp m]
    exact LamX.TabS.nil h9
end
end Lk

set_option Elab.async false
set_option linter.all false
set_option maxRecDepth 100000
set_option maxHeartbeats 4000000
namespace Lk
open PySem PySem.Spec PyProof.Rows L2
theorem all_mk {l : PySem.W.OpenLaw} {w : World} {K : PySem.W.Frag} {h : Heap} {mg : Str → Option Value} {fa : Addr} (X : K.In h) (G : h.Ns mainGlobals mg) (hfa : mg "law" = some (.ref fa))
    {C_NeedError : Addr}
    {C_PaperError : Addr}
    {C_UnitError : Addr}
    {C_LinkError : Addr}
    {C_LiveError : Addr}
    {C_TextError : Addr}
    {C_NotUsable : Addr}
    {C_Missing : Addr}
    {C_Twice : Addr}
    {C_Unlike : Addr}
    {C_Beyond : Addr}
    {f_NotUsable__init__ : Addr} {oc0 kV0 dc0 pm0 cd0 ct0 : Value} {od0 an0 : Option Addr} {sl0 : Array (Option Value)}
    {f_Missing__init__ : Addr} {oc1 kV1 dc1 pm1 cd1 ct1 : Value} {od1 an1 : Option Addr} {sl1 : Array (Option Value)}
    {f_Twice__init__ : Addr} {oc2 kV2 dc2 pm2 cd2 ct2 : Value} {od2 an2 : Option Addr} {sl2 : Array (Option Value)}
    {f_Unlike__init__ : Addr} {oc3 kV3 dc3 pm3 cd3 ct3 : Value} {od3 an3 : Option Addr} {sl3 : Array (Option Value)}
    {f_Beyond__init__ : Addr} {oc4 kV4 dc4 pm4 cd4 ct4 : Value} {od4 an4 : Option Addr} {sl4 : Array (Option Value)}
    {f_is_integer : Addr} {oc5 kV5 dc5 pm5 cd5 ct5 : Value} {od5 an5 : Option Addr} {sl5 : Array (Option Value)}
    {f_is_number : Addr} {oc6 kV6 dc6 pm6 cd6 ct6 : Value} {od6 an6 : Option Addr} {sl6 : Array (Option Value)}
    {f_is_number_set : Addr} {oc7 kV7 dc7 pm7 cd7 ct7 : Value} {od7 an7 : Option Addr} {sl7 : Array (Option Value)}
    {f_long_jumps : Addr} {oc8 kV8 dc8 pm8 cd8 ct8 : Value} {od8 an8 : Option Addr} {sl8 : Array (Option Value)}
    {f_holds_long : Addr} {oc9 kV9 dc9 pm9 cd9 ct9 : Value} {od9 an9 : Option Addr} {sl9 : Array (Option Value)}
    {f_least_long : Addr} {oc10 kV10 dc10 pm10 cd10 ct10 : Value} {od10 an10 : Option Addr} {sl10 : Array (Option Value)}
    {f_addresses_of : Addr} {oc11 kV11 dc11 pm11 cd11 ct11 : Value} {od11 an11 : Option Addr} {sl11 : Array (Option Value)}
    {f_is_jump : Addr} {oc12 kV12 dc12 pm12 cd12 ct12 : Value} {od12 an12 : Option Addr} {sl12 : Array (Option Value)}
    {f__too_far : Addr} {oc13 kV13 dc13 pm13 cd13 ct13 : Value} {od13 an13 : Option Addr} {sl13 : Array (Option Value)}
    {f__check_layout : Addr} {oc14 kV14 dc14 pm14 cd14 ct14 : Value} {od14 an14 : Option Addr} {sl14 : Array (Option Value)}
    {f__is_thing : Addr} {oc15 kV15 dc15 pm15 cd15 ct15 : Value} {od15 an15 : Option Addr} {sl15 : Array (Option Value)}
    {f__law_feed : Addr} {oc16 kV16 dc16 pm16 cd16 ct16 : Value} {od16 an16 : Option Addr} {sl16 : Array (Option Value)}
    {f__law_draw : Addr} {oc17 kV17 dc17 pm17 cd17 ct17 : Value} {od17 an17 : Option Addr} {sl17 : Array (Option Value)}
    {f__law_any : Addr} {oc18 kV18 dc18 pm18 cd18 ct18 : Value} {od18 an18 : Option Addr} {sl18 : Array (Option Value)}
    {f__law_same : Addr} {oc19 kV19 dc19 pm19 cd19 ct19 : Value} {od19 an19 : Option Addr} {sl19 : Array (Option Value)}
    {f__law_heard : Addr} {oc20 kV20 dc20 pm20 cd20 ct20 : Value} {od20 an20 : Option Addr} {sl20 : Array (Option Value)}
    {f__law_spots : Addr} {oc21 kV21 dc21 pm21 cd21 ct21 : Value} {od21 an21 : Option Addr} {sl21 : Array (Option Value)}
    {f__law_far : Addr} {oc22 kV22 dc22 pm22 cd22 ct22 : Value} {od22 an22 : Option Addr} {sl22 : Array (Option Value)}
    {f__law_jumps : Addr} {oc23 kV23 dc23 pm23 cd23 ct23 : Value} {od23 an23 : Option Addr} {sl23 : Array (Option Value)}
    {f__law_is_held : Addr} {oc24 kV24 dc24 pm24 cd24 ct24 : Value} {od24 an24 : Option Addr} {sl24 : Array (Option Value)}
    {f__law_least : Addr} {oc25 kV25 dc25 pm25 cd25 ct25 : Value} {od25 an25 : Option Addr} {sl25 : Array (Option Value)}
    {f__law_grown : Addr} {oc26 kV26 dc26 pm26 cd26 ct26 : Value} {od26 an26 : Option Addr} {sl26 : Array (Option Value)}
    {f__law_things : Addr} {oc27 kV27 dc27 pm27 cd27 ct27 : Value} {od27 an27 : Option Addr} {sl27 : Array (Option Value)}
    {f__law_bounds : Addr} {oc28 kV28 dc28 pm28 cd28 ct28 : Value} {od28 an28 : Option Addr} {sl28 : Array (Option Value)}
    {f__law_some : Addr} {oc29 kV29 dc29 pm29 cd29 ct29 : Value} {od29 an29 : Option Addr} {sl29 : Array (Option Value)}
    {f__law_are_held_right : Addr} {oc30 kV30 dc30 pm30 cd30 ct30 : Value} {od30 an30 : Option Addr} {sl30 : Array (Option Value)}
    {f__law_is_told_right : Addr} {oc31 kV31 dc31 pm31 cd31 ct31 : Value} {od31 an31 : Option Addr} {sl31 : Array (Option Value)}
    {f__law_are_few_right : Addr} {oc32 kV32 dc32 pm32 cd32 ct32 : Value} {od32 an32 : Option Addr} {sl32 : Array (Option Value)}
    {f__law_are_refused : Addr} {oc33 kV33 dc33 pm33 cd33 ct33 : Value} {od33 an33 : Option Addr} {sl33 : Array (Option Value)}
    {f_law : Addr} {oc34 kV34 dc34 pm34 cd34 ct34 : Value} {od34 an34 : Option Addr} {sl34 : Array (Option Value)}
    {nm0 q0 : Str} {N0 : Addr} {bs0 bm0 : List Value} {sn0 : List Str} {sub0 : List Value} {ab0 : Bool} {col0 : Option Bool} {dd0 : Option Addr} {m00 m10 m20 m30 m50 : Option Value}
    {nm1 q1 : Str} {N1 : Addr} {bs1 bm1 : List Value} {sn1 : List Str} {sub1 : List Value} {ab1 : Bool} {col1 : Option Bool} {dd1 : Option Addr} {m01 m11 m21 m31 m51 : Option Value}
    {nm2 q2 : Str} {N2 : Addr} {bs2 bm2 : List Value} {sn2 : List Str} {sub2 : List Value} {ab2 : Bool} {col2 : Option Bool} {dd2 : Option Addr} {m02 m12 m22 m32 m52 : Option Value}
    {nm3 q3 : Str} {N3 : Addr} {bs3 bm3 : List Value} {sn3 : List Str} {sub3 : List Value} {ab3 : Bool} {col3 : Option Bool} {dd3 : Option Addr} {m03 m13 m23 m33 m53 : Option Value}
    {nm4 q4 : Str} {N4 : Addr} {bs4 bm4 : List Value} {sn4 : List Str} {sub4 : List Value} {ab4 : Bool} {col4 : Option Bool} {dd4 : Option Addr} {m04 m14 m24 m34 m54 : Option Value}
    {cT tT : Addr} {ecT : Value} {dcT : Option Addr} {vsT : Array Value} {slT : Array (Option Value)}
    (aC_NeedError : PySem.W.nsIn K mainGlobals "NeedError" = some (some (.ref C_NeedError)))
    (aC_PaperError : PySem.W.nsIn K mainGlobals "PaperError" = some (some (.ref C_PaperError)))
    (aC_UnitError : PySem.W.nsIn K mainGlobals "UnitError" = some (some (.ref C_UnitError)))
    (aC_LinkError : PySem.W.nsIn K mainGlobals "LinkError" = some (some (.ref C_LinkError)))
    (aC_LiveError : PySem.W.nsIn K mainGlobals "LiveError" = some (some (.ref C_LiveError)))
    (aC_TextError : PySem.W.nsIn K mainGlobals "TextError" = some (some (.ref C_TextError)))
    (aC_NotUsable : PySem.W.nsIn K mainGlobals "NotUsable" = some (some (.ref C_NotUsable)))
    (aC_Missing : PySem.W.nsIn K mainGlobals "Missing" = some (some (.ref C_Missing)))
    (aC_Twice : PySem.W.nsIn K mainGlobals "Twice" = some (some (.ref C_Twice)))
    (aC_Unlike : PySem.W.nsIn K mainGlobals "Unlike" = some (some (.ref C_Unlike)))
    (aC_Beyond : PySem.W.nsIn K mainGlobals "Beyond" = some (some (.ref C_Beyond)))
    (a0 : PySem.W.findIn K (.ref C_NotUsable) "__init__" = some (some (.ref f_NotUsable__init__)))
    (t0 : PySem.W.typeIn K (.ref f_NotUsable__init__) = some (.type "function"))
    (l0 : K.lookup f_NotUsable__init__ = some ⟨oc0, od0, .func (PySem.W.fnOf "__init__" "NotUsable.__init__" (defArgs s_NotUsable___init__) (defBody s_NotUsable___init__) (defScope s_NotUsable___init__) .none kV0 dc0 pm0 an0 cd0 ct0), sl0⟩)
    (c0 : PySem.W.codeIn K cd0 "NotUsable.__init__" = true)
    (k0 : PySem.W.keepIn K (.ref f_NotUsable__init__) = true)
    (a1 : PySem.W.findIn K (.ref C_Missing) "__init__" = some (some (.ref f_Missing__init__)))
    (t1 : PySem.W.typeIn K (.ref f_Missing__init__) = some (.type "function"))
    (l1 : K.lookup f_Missing__init__ = some ⟨oc1, od1, .func (PySem.W.fnOf "__init__" "Missing.__init__" (defArgs s_Missing___init__) (defBody s_Missing___init__) (defScope s_Missing___init__) .none kV1 dc1 pm1 an1 cd1 ct1), sl1⟩)
    (c1 : PySem.W.codeIn K cd1 "Missing.__init__" = true)
    (k1 : PySem.W.keepIn K (.ref f_Missing__init__) = true)
    (a2 : PySem.W.findIn K (.ref C_Twice) "__init__" = some (some (.ref f_Twice__init__)))
    (t2 : PySem.W.typeIn K (.ref f_Twice__init__) = some (.type "function"))
    (l2 : K.lookup f_Twice__init__ = some ⟨oc2, od2, .func (PySem.W.fnOf "__init__" "Twice.__init__" (defArgs s_Twice___init__) (defBody s_Twice___init__) (defScope s_Twice___init__) .none kV2 dc2 pm2 an2 cd2 ct2), sl2⟩)
    (c2 : PySem.W.codeIn K cd2 "Twice.__init__" = true)
    (k2 : PySem.W.keepIn K (.ref f_Twice__init__) = true)
    (a3 : PySem.W.findIn K (.ref C_Unlike) "__init__" = some (some (.ref f_Unlike__init__)))
    (t3 : PySem.W.typeIn K (.ref f_Unlike__init__) = some (.type "function"))
    (l3 : K.lookup f_Unlike__init__ = some ⟨oc3, od3, .func (PySem.W.fnOf "__init__" "Unlike.__init__" (defArgs s_Unlike___init__) (defBody s_Unlike___init__) (defScope s_Unlike___init__) .none kV3 dc3 pm3 an3 cd3 ct3), sl3⟩)
    (c3 : PySem.W.codeIn K cd3 "Unlike.__init__" = true)
    (k3 : PySem.W.keepIn K (.ref f_Unlike__init__) = true)
    (a4 : PySem.W.findIn K (.ref C_Beyond) "__init__" = some (some (.ref f_Beyond__init__)))
    (t4 : PySem.W.typeIn K (.ref f_Beyond__init__) = some (.type "function"))
    (l4 : K.lookup f_Beyond__init__ = some ⟨oc4, od4, .func (PySem.W.fnOf "__init__" "Beyond.__init__" (defArgs s_Beyond___init__) (defBody s_Beyond___init__) (defScope s_Beyond___init__) .none kV4 dc4 pm4 an4 cd4 ct4), sl4⟩)
    (c4 : PySem.W.codeIn K cd4 "Beyond.__init__" = true)
    (k4 : PySem.W.keepIn K (.ref f_Beyond__init__) = true)
    (a5 : PySem.W.nsIn K mainGlobals "is_integer" = some (some (.ref f_is_integer)))
    (l5 : K.lookup f_is_integer = some ⟨oc5, od5, .func (PySem.W.fnOf "is_integer" "is_integer" (defArgs s_is_integer) (defBody s_is_integer) (defScope s_is_integer) .none kV5 dc5 pm5 an5 cd5 ct5), sl5⟩)
    (c5 : PySem.W.codeIn K cd5 "is_integer" = true)
    (k5 : PySem.W.keepIn K (.ref f_is_integer) = true)
    (a6 : PySem.W.nsIn K mainGlobals "is_number" = some (some (.ref f_is_number)))
    (l6 : K.lookup f_is_number = some ⟨oc6, od6, .func (PySem.W.fnOf "is_number" "is_number" (defArgs s_is_number) (defBody s_is_number) (defScope s_is_number) .none kV6 dc6 pm6 an6 cd6 ct6), sl6⟩)
    (c6 : PySem.W.codeIn K cd6 "is_number" = true)
    (k6 : PySem.W.keepIn K (.ref f_is_number) = true)
    (a7 : PySem.W.nsIn K mainGlobals "is_number_set" = some (some (.ref f_is_number_set)))
    (l7 : K.lookup f_is_number_set = some ⟨oc7, od7, .func (PySem.W.fnOf "is_number_set" "is_number_set" (defArgs s_is_number_set) (defBody s_is_number_set) (defScope s_is_number_set) .none kV7 dc7 pm7 an7 cd7 ct7), sl7⟩)
    (c7 : PySem.W.codeIn K cd7 "is_number_set" = true)
    (k7 : PySem.W.keepIn K (.ref f_is_number_set) = true)
    (a8 : PySem.W.nsIn K mainGlobals "long_jumps" = some (some (.ref f_long_jumps)))
    (l8 : K.lookup f_long_jumps = some ⟨oc8, od8, .func (PySem.W.fnOf "long_jumps" "long_jumps" (defArgs s_long_jumps) (defBody s_long_jumps) (defScope s_long_jumps) .none kV8 dc8 pm8 an8 cd8 ct8), sl8⟩)
    (c8 : PySem.W.codeIn K cd8 "long_jumps" = true)
    (k8 : PySem.W.keepIn K (.ref f_long_jumps) = true)
    (a9 : PySem.W.nsIn K mainGlobals "holds_long" = some (some (.ref f_holds_long)))
    (l9 : K.lookup f_holds_long = some ⟨oc9, od9, .func (PySem.W.fnOf "holds_long" "holds_long" (defArgs s_holds_long) (defBody s_holds_long) (defScope s_holds_long) .none kV9 dc9 pm9 an9 cd9 ct9), sl9⟩)
    (c9 : PySem.W.codeIn K cd9 "holds_long" = true)
    (k9 : PySem.W.keepIn K (.ref f_holds_long) = true)
    (a10 : PySem.W.nsIn K mainGlobals "least_long" = some (some (.ref f_least_long)))
    (l10 : K.lookup f_least_long = some ⟨oc10, od10, .func (PySem.W.fnOf "least_long" "least_long" (defArgs s_least_long) (defBody s_least_long) (defScope s_least_long) .none kV10 dc10 pm10 an10 cd10 ct10), sl10⟩)
    (c10 : PySem.W.codeIn K cd10 "least_long" = true)
    (k10 : PySem.W.keepIn K (.ref f_least_long) = true)
    (a11 : PySem.W.nsIn K mainGlobals "addresses_of" = some (some (.ref f_addresses_of)))
    (l11 : K.lookup f_addresses_of = some ⟨oc11, od11, .func (PySem.W.fnOf "addresses_of" "addresses_of" (defArgs s_addresses_of) (defBody s_addresses_of) (defScope s_addresses_of) .none kV11 dc11 pm11 an11 cd11 ct11), sl11⟩)
    (c11 : PySem.W.codeIn K cd11 "addresses_of" = true)
    (k11 : PySem.W.keepIn K (.ref f_addresses_of) = true)
    (a12 : PySem.W.nsIn K mainGlobals "is_jump" = some (some (.ref f_is_jump)))
    (l12 : K.lookup f_is_jump = some ⟨oc12, od12, .func (PySem.W.fnOf "is_jump" "is_jump" (defArgs s_is_jump) (defBody s_is_jump) (defScope s_is_jump) .none kV12 dc12 pm12 an12 cd12 ct12), sl12⟩)
    (c12 : PySem.W.codeIn K cd12 "is_jump" = true)
    (k12 : PySem.W.keepIn K (.ref f_is_jump) = true)
    (a13 : PySem.W.nsIn K mainGlobals "_too_far" = some (some (.ref f__too_far)))
    (l13 : K.lookup f__too_far = some ⟨oc13, od13, .func (PySem.W.fnOf "_too_far" "_too_far" (defArgs s__too_far) (defBody s__too_far) (defScope s__too_far) .none kV13 dc13 pm13 an13 cd13 ct13), sl13⟩)
    (c13 : PySem.W.codeIn K cd13 "_too_far" = true)
    (k13 : PySem.W.keepIn K (.ref f__too_far) = true)
    (a14 : PySem.W.nsIn K mainGlobals "_check_layout" = some (some (.ref f__check_layout)))
    (l14 : K.lookup f__check_layout = some ⟨oc14, od14, .func (PySem.W.fnOf "_check_layout" "_check_layout" (defArgs s__check_layout) (defBody s__check_layout) (defScope s__check_layout) .none kV14 dc14 pm14 an14 cd14 ct14), sl14⟩)
    (c14 : PySem.W.codeIn K cd14 "_check_layout" = true)
    (k14 : PySem.W.keepIn K (.ref f__check_layout) = true)
    (a15 : PySem.W.nsIn K mainGlobals "_is_thing" = some (some (.ref f__is_thing)))
    (l15 : K.lookup f__is_thing = some ⟨oc15, od15, .func (PySem.W.fnOf "_is_thing" "_is_thing" (defArgs s__is_thing) (defBody s__is_thing) (defScope s__is_thing) .none kV15 dc15 pm15 an15 cd15 ct15), sl15⟩)
    (c15 : PySem.W.codeIn K cd15 "_is_thing" = true)
    (k15 : PySem.W.keepIn K (.ref f__is_thing) = true)
    (a16 : PySem.W.nsIn K mainGlobals "_law_feed" = some (some (.ref f__law_feed)))
    (l16 : K.lookup f__law_feed = some ⟨oc16, od16, .func (PySem.W.fnOf "_law_feed" "_law_feed" (defArgs s__law_feed) (defBody s__law_feed) (defScope s__law_feed) .none kV16 dc16 pm16 an16 cd16 ct16), sl16⟩)
    (c16 : PySem.W.codeIn K cd16 "_law_feed" = true)
    (k16 : PySem.W.keepIn K (.ref f__law_feed) = true)
    (a17 : PySem.W.nsIn K mainGlobals "_law_draw" = some (some (.ref f__law_draw)))
    (l17 : K.lookup f__law_draw = some ⟨oc17, od17, .func (PySem.W.fnOf "_law_draw" "_law_draw" (defArgs s__law_draw) (defBody s__law_draw) (defScope s__law_draw) .none kV17 dc17 pm17 an17 cd17 ct17), sl17⟩)
    (c17 : PySem.W.codeIn K cd17 "_law_draw" = true)
    (k17 : PySem.W.keepIn K (.ref f__law_draw) = true)
    (a18 : PySem.W.nsIn K mainGlobals "_law_any" = some (some (.ref f__law_any)))
    (l18 : K.lookup f__law_any = some ⟨oc18, od18, .func (PySem.W.fnOf "_law_any" "_law_any" (defArgs s__law_any) (defBody s__law_any) (defScope s__law_any) .none kV18 dc18 pm18 an18 cd18 ct18), sl18⟩)
    (c18 : PySem.W.codeIn K cd18 "_law_any" = true)
    (k18 : PySem.W.keepIn K (.ref f__law_any) = true)
    (a19 : PySem.W.nsIn K mainGlobals "_law_same" = some (some (.ref f__law_same)))
    (l19 : K.lookup f__law_same = some ⟨oc19, od19, .func (PySem.W.fnOf "_law_same" "_law_same" (defArgs s__law_same) (defBody s__law_same) (defScope s__law_same) .none kV19 dc19 pm19 an19 cd19 ct19), sl19⟩)
    (c19 : PySem.W.codeIn K cd19 "_law_same" = true)
    (k19 : PySem.W.keepIn K (.ref f__law_same) = true)
    (a20 : PySem.W.nsIn K mainGlobals "_law_heard" = some (some (.ref f__law_heard)))
    (l20 : K.lookup f__law_heard = some ⟨oc20, od20, .func (PySem.W.fnOf "_law_heard" "_law_heard" (defArgs s__law_heard) (defBody s__law_heard) (defScope s__law_heard) .none kV20 dc20 pm20 an20 cd20 ct20), sl20⟩)
    (c20 : PySem.W.codeIn K cd20 "_law_heard" = true)
    (k20 : PySem.W.keepIn K (.ref f__law_heard) = true)
    (a21 : PySem.W.nsIn K mainGlobals "_law_spots" = some (some (.ref f__law_spots)))
    (l21 : K.lookup f__law_spots = some ⟨oc21, od21, .func (PySem.W.fnOf "_law_spots" "_law_spots" (defArgs s__law_spots) (defBody s__law_spots) (defScope s__law_spots) .none kV21 dc21 pm21 an21 cd21 ct21), sl21⟩)
    (c21 : PySem.W.codeIn K cd21 "_law_spots" = true)
    (k21 : PySem.W.keepIn K (.ref f__law_spots) = true)
    (a22 : PySem.W.nsIn K mainGlobals "_law_far" = some (some (.ref f__law_far)))
    (l22 : K.lookup f__law_far = some ⟨oc22, od22, .func (PySem.W.fnOf "_law_far" "_law_far" (defArgs s__law_far) (defBody s__law_far) (defScope s__law_far) .none kV22 dc22 pm22 an22 cd22 ct22), sl22⟩)
    (c22 : PySem.W.codeIn K cd22 "_law_far" = true)
    (k22 : PySem.W.keepIn K (.ref f__law_far) = true)
    (a23 : PySem.W.nsIn K mainGlobals "_law_jumps" = some (some (.ref f__law_jumps)))
    (l23 : K.lookup f__law_jumps = some ⟨oc23, od23, .func (PySem.W.fnOf "_law_jumps" "_law_jumps" (defArgs s__law_jumps) (defBody s__law_jumps) (defScope s__law_jumps) .none kV23 dc23 pm23 an23 cd23 ct23), sl23⟩)
    (c23 : PySem.W.codeIn K cd23 "_law_jumps" = true)
    (k23 : PySem.W.keepIn K (.ref f__law_jumps) = true)
    (a24 : PySem.W.nsIn K mainGlobals "_law_is_held" = some (some (.ref f__law_is_held)))
    (l24 : K.lookup f__law_is_held = some ⟨oc24, od24, .func (PySem.W.fnOf "_law_is_held" "_law_is_held" (defArgs s__law_is_held) (defBody s__law_is_held) (defScope s__law_is_held) .none kV24 dc24 pm24 an24 cd24 ct24), sl24⟩)
    (c24 : PySem.W.codeIn K cd24 "_law_is_held" = true)
    (k24 : PySem.W.keepIn K (.ref f__law_is_held) = true)
    (a25 : PySem.W.nsIn K mainGlobals "_law_least" = some (some (.ref f__law_least)))
    (l25 : K.lookup f__law_least = some ⟨oc25, od25, .func (PySem.W.fnOf "_law_least" "_law_least" (defArgs s__law_least) (defBody s__law_least) (defScope s__law_least) .none kV25 dc25 pm25 an25 cd25 ct25), sl25⟩)
    (c25 : PySem.W.codeIn K cd25 "_law_least" = true)
    (k25 : PySem.W.keepIn K (.ref f__law_least) = true)
    (a26 : PySem.W.nsIn K mainGlobals "_law_grown" = some (some (.ref f__law_grown)))
    (l26 : K.lookup f__law_grown = some ⟨oc26, od26, .func (PySem.W.fnOf "_law_grown" "_law_grown" (defArgs s__law_grown) (defBody s__law_grown) (defScope s__law_grown) .none kV26 dc26 pm26 an26 cd26 ct26), sl26⟩)
    (c26 : PySem.W.codeIn K cd26 "_law_grown" = true)
    (k26 : PySem.W.keepIn K (.ref f__law_grown) = true)
    (a27 : PySem.W.nsIn K mainGlobals "_law_things" = some (some (.ref f__law_things)))
    (l27 : K.lookup f__law_things = some ⟨oc27, od27, .func (PySem.W.fnOf "_law_things" "_law_things" (defArgs s__law_things) (defBody s__law_things) (defScope s__law_things) .none kV27 dc27 pm27 an27 cd27 ct27), sl27⟩)
    (c27 : PySem.W.codeIn K cd27 "_law_things" = true)
    (k27 : PySem.W.keepIn K (.ref f__law_things) = true)
    (a28 : PySem.W.nsIn K mainGlobals "_law_bounds" = some (some (.ref f__law_bounds)))
    (l28 : K.lookup f__law_bounds = some ⟨oc28, od28, .func (PySem.W.fnOf "_law_bounds" "_law_bounds" (defArgs s__law_bounds) (defBody s__law_bounds) (defScope s__law_bounds) .none kV28 dc28 pm28 an28 cd28 ct28), sl28⟩)
    (c28 : PySem.W.codeIn K cd28 "_law_bounds" = true)
    (k28 : PySem.W.keepIn K (.ref f__law_bounds) = true)
    (a29 : PySem.W.nsIn K mainGlobals "_law_some" = some (some (.ref f__law_some)))
    (l29 : K.lookup f__law_some = some ⟨oc29, od29, .func (PySem.W.fnOf "_law_some" "_law_some" (defArgs s__law_some) (defBody s__law_some) (defScope s__law_some) .none kV29 dc29 pm29 an29 cd29 ct29), sl29⟩)
    (c29 : PySem.W.codeIn K cd29 "_law_some" = true)
    (k29 : PySem.W.keepIn K (.ref f__law_some) = true)
    (a30 : PySem.W.nsIn K mainGlobals "_law_are_held_right" = some (some (.ref f__law_are_held_right)))
    (l30 : K.lookup f__law_are_held_right = some ⟨oc30, od30, .func (PySem.W.fnOf "_law_are_held_right" "_law_are_held_right" (defArgs s__law_are_held_right) (defBody s__law_are_held_right) (defScope s__law_are_held_right) .none kV30 dc30 pm30 an30 cd30 ct30), sl30⟩)
    (c30 : PySem.W.codeIn K cd30 "_law_are_held_right" = true)
    (k30 : PySem.W.keepIn K (.ref f__law_are_held_right) = true)
    (a31 : PySem.W.nsIn K mainGlobals "_law_is_told_right" = some (some (.ref f__law_is_told_right)))
    (l31 : K.lookup f__law_is_told_right = some ⟨oc31, od31, .func (PySem.W.fnOf "_law_is_told_right" "_law_is_told_right" (defArgs s__law_is_told_right) (defBody s__law_is_told_right) (defScope s__law_is_told_right) .none kV31 dc31 pm31 an31 cd31 ct31), sl31⟩)
    (c31 : PySem.W.codeIn K cd31 "_law_is_told_right" = true)
    (k31 : PySem.W.keepIn K (.ref f__law_is_told_right) = true)
    (a32 : PySem.W.nsIn K mainGlobals "_law_are_few_right" = some (some (.ref f__law_are_few_right)))
    (l32 : K.lookup f__law_are_few_right = some ⟨oc32, od32, .func (PySem.W.fnOf "_law_are_few_right" "_law_are_few_right" (defArgs s__law_are_few_right) (defBody s__law_are_few_right) (defScope s__law_are_few_right) .none kV32 dc32 pm32 an32 cd32 ct32), sl32⟩)
    (c32 : PySem.W.codeIn K cd32 "_law_are_few_right" = true)
    (k32 : PySem.W.keepIn K (.ref f__law_are_few_right) = true)
    (a33 : PySem.W.nsIn K mainGlobals "_law_are_refused" = some (some (.ref f__law_are_refused)))
    (l33 : K.lookup f__law_are_refused = some ⟨oc33, od33, .func (PySem.W.fnOf "_law_are_refused" "_law_are_refused" (defArgs s__law_are_refused) (defBody s__law_are_refused) (defScope s__law_are_refused) .none kV33 dc33 pm33 an33 cd33 ct33), sl33⟩)
    (c33 : PySem.W.codeIn K cd33 "_law_are_refused" = true)
    (k33 : PySem.W.keepIn K (.ref f__law_are_refused) = true)
    (a34 : PySem.W.nsIn K mainGlobals "law" = some (some (.ref f_law)))
    (l34 : K.lookup f_law = some ⟨oc34, od34, .func (PySem.W.fnOf "law" "law" (defArgs s_law) (defBody s_law) (defScope s_law) .none kV34 dc34 pm34 an34 cd34 ct34), sl34⟩)
    (c34 : PySem.W.codeIn K cd34 "law" = true)
    (k34 : PySem.W.keepIn K (.ref f_law) = true)
    (xL0 : K.lookup C_NotUsable = some (excClassObj nm0 q0 C_NotUsable N0 bs0 bm0 true sn0 sub0 ab0 col0 dd0 m00 m10 m20 m30 m50 "ValueError.__new__"))
    (xR0 : PySem.HandSPX.refsVE bm0 = true)
    (sa0 : PySem.W.findIn K (.ref C_NotUsable) "__setattr__" = some (some (.builtin "object.__setattr__")))
    (ga0 : PySem.W.findIn K (.ref C_NotUsable) "__getattribute__" = some (some (.builtin "BaseException.__getattribute__")))
    (gg0 : PySem.W.findIn K (.ref C_NotUsable) "__getattr__" = some none)
    (n0_word : PySem.W.findIn K (.ref C_NotUsable) "word" = some none)
    (n0_at : PySem.W.findIn K (.ref C_NotUsable) "at" = some none)
    (eC0 : PySem.W.subIn K (.ref C_NotUsable) (.type "BaseException") = some true)
    (tC0 : PySem.W.typeIn K (.ref C_NotUsable) = some (.type "type"))
    (kC0 : PySem.W.keepIn K (.ref C_NotUsable) = true)
    (hC0 : PySem.W.hasDictIn K C_NotUsable = true)
    (cl0 : PySem.W.findIn K (.ref C_NotUsable) "__class__" = some (some (.builtin "object.__class__")))
    (mo0 : PySem.W.mroIn K C_NotUsable (.type "object") = some true)
    (q3_NotUsable_NeedError : PySem.W.subIn K (.ref C_NotUsable) (.ref C_NeedError) = some true)
    (q3_NotUsable_Beyond : PySem.W.subIn K (.ref C_NotUsable) (.ref C_Beyond) = some false)
    (q4_NotUsable_Beyond : (Value.ref C_NotUsable == Value.ref C_Beyond) = false)
    (q3_NotUsable_Twice : PySem.W.subIn K (.ref C_NotUsable) (.ref C_Twice) = some false)
    (q4_NotUsable_Twice : (Value.ref C_NotUsable == Value.ref C_Twice) = false)
    (q3_NotUsable_Unlike : PySem.W.subIn K (.ref C_NotUsable) (.ref C_Unlike) = some false)
    (q4_NotUsable_Unlike : (Value.ref C_NotUsable == Value.ref C_Unlike) = false)
    (q3_NotUsable_PaperError : PySem.W.subIn K (.ref C_NotUsable) (.ref C_PaperError) = some false)
    (q4_NotUsable_PaperError : (Value.ref C_NotUsable == Value.ref C_PaperError) = false)
    (q3_NotUsable_UnitError : PySem.W.subIn K (.ref C_NotUsable) (.ref C_UnitError) = some true)
    (q3_NotUsable_LinkError : PySem.W.subIn K (.ref C_NotUsable) (.ref C_LinkError) = some false)
    (q4_NotUsable_LinkError : (Value.ref C_NotUsable == Value.ref C_LinkError) = false)
    (q3_NotUsable_NotUsable : PySem.W.subIn K (.ref C_NotUsable) (.ref C_NotUsable) = some true)
    (q3_NotUsable_Missing : PySem.W.subIn K (.ref C_NotUsable) (.ref C_Missing) = some false)
    (q4_NotUsable_Missing : (Value.ref C_NotUsable == Value.ref C_Missing) = false)
    (q3_NotUsable_LiveError : PySem.W.subIn K (.ref C_NotUsable) (.ref C_LiveError) = some false)
    (q4_NotUsable_LiveError : (Value.ref C_NotUsable == Value.ref C_LiveError) = false)
    (q3_NotUsable_TextError : PySem.W.subIn K (.ref C_NotUsable) (.ref C_TextError) = some false)
    (q4_NotUsable_TextError : (Value.ref C_NotUsable == Value.ref C_TextError) = false)
    (xL1 : K.lookup C_Missing = some (excClassObj nm1 q1 C_Missing N1 bs1 bm1 true sn1 sub1 ab1 col1 dd1 m01 m11 m21 m31 m51 "ValueError.__new__"))
    (xR1 : PySem.HandSPX.refsVE bm1 = true)
    (sa1 : PySem.W.findIn K (.ref C_Missing) "__setattr__" = some (some (.builtin "object.__setattr__")))
    (ga1 : PySem.W.findIn K (.ref C_Missing) "__getattribute__" = some (some (.builtin "BaseException.__getattribute__")))
    (gg1 : PySem.W.findIn K (.ref C_Missing) "__getattr__" = some none)
    (n1_title : PySem.W.findIn K (.ref C_Missing) "title" = some none)
    (eC1 : PySem.W.subIn K (.ref C_Missing) (.type "BaseException") = some true)
    (tC1 : PySem.W.typeIn K (.ref C_Missing) = some (.type "type"))
    (kC1 : PySem.W.keepIn K (.ref C_Missing) = true)
    (hC1 : PySem.W.hasDictIn K C_Missing = true)
    (cl1 : PySem.W.findIn K (.ref C_Missing) "__class__" = some (some (.builtin "object.__class__")))
    (mo1 : PySem.W.mroIn K C_Missing (.type "object") = some true)
    (q3_Missing_NeedError : PySem.W.subIn K (.ref C_Missing) (.ref C_NeedError) = some true)
    (q3_Missing_Beyond : PySem.W.subIn K (.ref C_Missing) (.ref C_Beyond) = some false)
    (q4_Missing_Beyond : (Value.ref C_Missing == Value.ref C_Beyond) = false)
    (q3_Missing_Twice : PySem.W.subIn K (.ref C_Missing) (.ref C_Twice) = some false)
    (q4_Missing_Twice : (Value.ref C_Missing == Value.ref C_Twice) = false)
    (q3_Missing_Unlike : PySem.W.subIn K (.ref C_Missing) (.ref C_Unlike) = some false)
    (q4_Missing_Unlike : (Value.ref C_Missing == Value.ref C_Unlike) = false)
    (q3_Missing_PaperError : PySem.W.subIn K (.ref C_Missing) (.ref C_PaperError) = some false)
    (q4_Missing_PaperError : (Value.ref C_Missing == Value.ref C_PaperError) = false)
    (q3_Missing_UnitError : PySem.W.subIn K (.ref C_Missing) (.ref C_UnitError) = some false)
    (q4_Missing_UnitError : (Value.ref C_Missing == Value.ref C_UnitError) = false)
    (q3_Missing_LinkError : PySem.W.subIn K (.ref C_Missing) (.ref C_LinkError) = some true)
    (q3_Missing_NotUsable : PySem.W.subIn K (.ref C_Missing) (.ref C_NotUsable) = some false)
    (q4_Missing_NotUsable : (Value.ref C_Missing == Value.ref C_NotUsable) = false)
    (q3_Missing_Missing : PySem.W.subIn K (.ref C_Missing) (.ref C_Missing) = some true)
    (q3_Missing_LiveError : PySem.W.subIn K (.ref C_Missing) (.ref C_LiveError) = some false)
    (q4_Missing_LiveError : (Value.ref C_Missing == Value.ref C_LiveError) = false)
    (q3_Missing_TextError : PySem.W.subIn K (.ref C_Missing) (.ref C_TextError) = some false)
    (q4_Missing_TextError : (Value.ref C_Missing == Value.ref C_TextError) = false)
    (xL2 : K.lookup C_Twice = some (excClassObj nm2 q2 C_Twice N2 bs2 bm2 true sn2 sub2 ab2 col2 dd2 m02 m12 m22 m32 m52 "ValueError.__new__"))
    (xR2 : PySem.HandSPX.refsVE bm2 = true)
    (sa2 : PySem.W.findIn K (.ref C_Twice) "__setattr__" = some (some (.builtin "object.__setattr__")))
    (ga2 : PySem.W.findIn K (.ref C_Twice) "__getattribute__" = some (some (.builtin "BaseException.__getattribute__")))
    (gg2 : PySem.W.findIn K (.ref C_Twice) "__getattr__" = some none)
    (n2_title : PySem.W.findIn K (.ref C_Twice) "title" = some none)
    (eC2 : PySem.W.subIn K (.ref C_Twice) (.type "BaseException") = some true)
    (tC2 : PySem.W.typeIn K (.ref C_Twice) = some (.type "type"))
    (kC2 : PySem.W.keepIn K (.ref C_Twice) = true)
    (hC2 : PySem.W.hasDictIn K C_Twice = true)
    (cl2 : PySem.W.findIn K (.ref C_Twice) "__class__" = some (some (.builtin "object.__class__")))
    (mo2 : PySem.W.mroIn K C_Twice (.type "object") = some true)
    (q3_Twice_NeedError : PySem.W.subIn K (.ref C_Twice) (.ref C_NeedError) = some true)
    (q3_Twice_Beyond : PySem.W.subIn K (.ref C_Twice) (.ref C_Beyond) = some false)
    (q4_Twice_Beyond : (Value.ref C_Twice == Value.ref C_Beyond) = false)
    (q3_Twice_Twice : PySem.W.subIn K (.ref C_Twice) (.ref C_Twice) = some true)
    (q3_Twice_Unlike : PySem.W.subIn K (.ref C_Twice) (.ref C_Unlike) = some false)
    (q4_Twice_Unlike : (Value.ref C_Twice == Value.ref C_Unlike) = false)
    (q3_Twice_PaperError : PySem.W.subIn K (.ref C_Twice) (.ref C_PaperError) = some false)
    (q4_Twice_PaperError : (Value.ref C_Twice == Value.ref C_PaperError) = false)
    (q3_Twice_UnitError : PySem.W.subIn K (.ref C_Twice) (.ref C_UnitError) = some false)
    (q4_Twice_UnitError : (Value.ref C_Twice == Value.ref C_UnitError) = false)
    (q3_Twice_LinkError : PySem.W.subIn K (.ref C_Twice) (.ref C_LinkError) = some true)
    (q3_Twice_NotUsable : PySem.W.subIn K (.ref C_Twice) (.ref C_NotUsable) = some false)
    (q4_Twice_NotUsable : (Value.ref C_Twice == Value.ref C_NotUsable) = false)
    (q3_Twice_Missing : PySem.W.subIn K (.ref C_Twice) (.ref C_Missing) = some false)
    (q4_Twice_Missing : (Value.ref C_Twice == Value.ref C_Missing) = false)
    (q3_Twice_LiveError : PySem.W.subIn K (.ref C_Twice) (.ref C_LiveError) = some false)
    (q4_Twice_LiveError : (Value.ref C_Twice == Value.ref C_LiveError) = false)
    (q3_Twice_TextError : PySem.W.subIn K (.ref C_Twice) (.ref C_TextError) = some false)
    (q4_Twice_TextError : (Value.ref C_Twice == Value.ref C_TextError) = false)
    (xL3 : K.lookup C_Unlike = some (excClassObj nm3 q3 C_Unlike N3 bs3 bm3 true sn3 sub3 ab3 col3 dd3 m03 m13 m23 m33 m53 "ValueError.__new__"))
    (xR3 : PySem.HandSPX.refsVE bm3 = true)
    (sa3 : PySem.W.findIn K (.ref C_Unlike) "__setattr__" = some (some (.builtin "object.__setattr__")))
    (ga3 : PySem.W.findIn K (.ref C_Unlike) "__getattribute__" = some (some (.builtin "BaseException.__getattribute__")))
    (gg3 : PySem.W.findIn K (.ref C_Unlike) "__getattr__" = some none)
    (n3_title : PySem.W.findIn K (.ref C_Unlike) "title" = some none)
    (eC3 : PySem.W.subIn K (.ref C_Unlike) (.type "BaseException") = some true)
    (tC3 : PySem.W.typeIn K (.ref C_Unlike) = some (.type "type"))
    (kC3 : PySem.W.keepIn K (.ref C_Unlike) = true)
    (hC3 : PySem.W.hasDictIn K C_Unlike = true)
    (cl3 : PySem.W.findIn K (.ref C_Unlike) "__class__" = some (some (.builtin "object.__class__")))
    (mo3 : PySem.W.mroIn K C_Unlike (.type "object") = some true)
    (q3_Unlike_NeedError : PySem.W.subIn K (.ref C_Unlike) (.ref C_NeedError) = some true)
    (q3_Unlike_Beyond : PySem.W.subIn K (.ref C_Unlike) (.ref C_Beyond) = some false)
    (q4_Unlike_Beyond : (Value.ref C_Unlike == Value.ref C_Beyond) = false)
    (q3_Unlike_Twice : PySem.W.subIn K (.ref C_Unlike) (.ref C_Twice) = some false)
    (q4_Unlike_Twice : (Value.ref C_Unlike == Value.ref C_Twice) = false)
    (q3_Unlike_Unlike : PySem.W.subIn K (.ref C_Unlike) (.ref C_Unlike) = some true)
    (q3_Unlike_PaperError : PySem.W.subIn K (.ref C_Unlike) (.ref C_PaperError) = some false)
    (q4_Unlike_PaperError : (Value.ref C_Unlike == Value.ref C_PaperError) = false)
    (q3_Unlike_UnitError : PySem.W.subIn K (.ref C_Unlike) (.ref C_UnitError) = some false)
    (q4_Unlike_UnitError : (Value.ref C_Unlike == Value.ref C_UnitError) = false)
    (q3_Unlike_LinkError : PySem.W.subIn K (.ref C_Unlike) (.ref C_LinkError) = some true)
    (q3_Unlike_NotUsable : PySem.W.subIn K (.ref C_Unlike) (.ref C_NotUsable) = some false)
    (q4_Unlike_NotUsable : (Value.ref C_Unlike == Value.ref C_NotUsable) = false)
    (q3_Unlike_Missing : PySem.W.subIn K (.ref C_Unlike) (.ref C_Missing) = some false)
    (q4_Unlike_Missing : (Value.ref C_Unlike == Value.ref C_Missing) = false)
    (q3_Unlike_LiveError : PySem.W.subIn K (.ref C_Unlike) (.ref C_LiveError) = some false)
    (q4_Unlike_LiveError : (Value.ref C_Unlike == Value.ref C_LiveError) = false)
    (q3_Unlike_TextError : PySem.W.subIn K (.ref C_Unlike) (.ref C_TextError) = some false)
    (q4_Unlike_TextError : (Value.ref C_Unlike == Value.ref C_TextError) = false)
    (xL4 : K.lookup C_Beyond = some (excClassObj nm4 q4 C_Beyond N4 bs4 bm4 true sn4 sub4 ab4 col4 dd4 m04 m14 m24 m34 m54 "ValueError.__new__"))
    (xR4 : PySem.HandSPX.refsVE bm4 = true)
    (sa4 : PySem.W.findIn K (.ref C_Beyond) "__setattr__" = some (some (.builtin "object.__setattr__")))
    (ga4 : PySem.W.findIn K (.ref C_Beyond) "__getattribute__" = some (some (.builtin "BaseException.__getattribute__")))
    (gg4 : PySem.W.findIn K (.ref C_Beyond) "__getattr__" = some none)
    (n4_need : PySem.W.findIn K (.ref C_Beyond) "need" = some none)
    (eC4 : PySem.W.subIn K (.ref C_Beyond) (.type "BaseException") = some true)
    (tC4 : PySem.W.typeIn K (.ref C_Beyond) = some (.type "type"))
    (kC4 : PySem.W.keepIn K (.ref C_Beyond) = true)
    (hC4 : PySem.W.hasDictIn K C_Beyond = true)
    (cl4 : PySem.W.findIn K (.ref C_Beyond) "__class__" = some (some (.builtin "object.__class__")))
    (mo4 : PySem.W.mroIn K C_Beyond (.type "object") = some true)
    (q3_Beyond_NeedError : PySem.W.subIn K (.ref C_Beyond) (.ref C_NeedError) = some true)
    (q3_Beyond_Beyond : PySem.W.subIn K (.ref C_Beyond) (.ref C_Beyond) = some true)
    (q3_Beyond_Twice : PySem.W.subIn K (.ref C_Beyond) (.ref C_Twice) = some false)
    (q4_Beyond_Twice : (Value.ref C_Beyond == Value.ref C_Twice) = false)
    (q3_Beyond_Unlike : PySem.W.subIn K (.ref C_Beyond) (.ref C_Unlike) = some false)
    (q4_Beyond_Unlike : (Value.ref C_Beyond == Value.ref C_Unlike) = false)
    (q3_Beyond_PaperError : PySem.W.subIn K (.ref C_Beyond) (.ref C_PaperError) = some false)
    (q4_Beyond_PaperError : (Value.ref C_Beyond == Value.ref C_PaperError) = false)
    (q3_Beyond_UnitError : PySem.W.subIn K (.ref C_Beyond) (.ref C_UnitError) = some false)
    (q4_Beyond_UnitError : (Value.ref C_Beyond == Value.ref C_UnitError) = false)
    (q3_Beyond_LinkError : PySem.W.subIn K (.ref C_Beyond) (.ref C_LinkError) = some true)
    (q3_Beyond_NotUsable : PySem.W.subIn K (.ref C_Beyond) (.ref C_NotUsable) = some false)
    (q4_Beyond_NotUsable : (Value.ref C_Beyond == Value.ref C_NotUsable) = false)
    (q3_Beyond_Missing : PySem.W.subIn K (.ref C_Beyond) (.ref C_Missing) = some false)
    (q4_Beyond_Missing : (Value.ref C_Beyond == Value.ref C_Missing) = false)
    (q3_Beyond_LiveError : PySem.W.subIn K (.ref C_Beyond) (.ref C_LiveError) = some false)
    (q4_Beyond_LiveError : (Value.ref C_Beyond == Value.ref C_LiveError) = false)
    (q3_Beyond_TextError : PySem.W.subIn K (.ref C_Beyond) (.ref C_TextError) = some false)
    (q4_Beyond_TextError : (Value.ref C_Beyond == Value.ref C_TextError) = false)
    (q1_NeedError : PySem.W.typeIn K (.ref C_NeedError) = some (.type "type"))
    (q2_NeedError : PySem.W.hasDictIn K C_NeedError = true)
    (q5_NeedError : PySem.W.subIn K (.ref C_NeedError) (.type "BaseException") = some true)
    (q1_Beyond : PySem.W.typeIn K (.ref C_Beyond) = some (.type "type"))
    (q2_Beyond : PySem.W.hasDictIn K C_Beyond = true)
    (q1_Twice : PySem.W.typeIn K (.ref C_Twice) = some (.type "type"))
    (q2_Twice : PySem.W.hasDictIn K C_Twice = true)
    (q1_Unlike : PySem.W.typeIn K (.ref C_Unlike) = some (.type "type"))
    (q2_Unlike : PySem.W.hasDictIn K C_Unlike = true)
    (q1_PaperError : PySem.W.typeIn K (.ref C_PaperError) = some (.type "type"))
    (q2_PaperError : PySem.W.hasDictIn K C_PaperError = true)
    (q1_UnitError : PySem.W.typeIn K (.ref C_UnitError) = some (.type "type"))
    (q2_UnitError : PySem.W.hasDictIn K C_UnitError = true)
    (q1_LinkError : PySem.W.typeIn K (.ref C_LinkError) = some (.type "type"))
    (q2_LinkError : PySem.W.hasDictIn K C_LinkError = true)
    (q1_NotUsable : PySem.W.typeIn K (.ref C_NotUsable) = some (.type "type"))
    (q2_NotUsable : PySem.W.hasDictIn K C_NotUsable = true)
    (q1_Missing : PySem.W.typeIn K (.ref C_Missing) = some (.type "type"))
    (q2_Missing : PySem.W.hasDictIn K C_Missing = true)
    (q1_LiveError : PySem.W.typeIn K (.ref C_LiveError) = some (.type "type"))
    (q2_LiveError : PySem.W.hasDictIn K C_LiveError = true)
    (q1_TextError : PySem.W.typeIn K (.ref C_TextError) = some (.type "type"))
    (q2_TextError : PySem.W.hasDictIn K C_TextError = true)
    (sn' : PySem.W.specialIn K (.builtin "object.__class__") "__get__" = some (some (.builtin "getset_descriptor.__get__")))
    (tk : PySem.W.takesIn K (.builtin "object.__class__") = some true)
    (eT : cd33 = .ref cT)
    (oT : K.lookup cT = some ⟨ecT, dcT, .fields vsT, slT⟩)
    (vT : vsT[11]? = some (.ref tT))
    (nT : K.lookup tT = none)
    (z_isinstance : PySem.W.nsIn K mainGlobals "isinstance" = some none)
    (z_int : PySem.W.nsIn K mainGlobals "int" = some none)
    (z_bool : PySem.W.nsIn K mainGlobals "bool" = some none)
    (z_all : PySem.W.nsIn K mainGlobals "all" = some none)
    (z_tuple : PySem.W.nsIn K mainGlobals "tuple" = some none)
    (z_zip : PySem.W.nsIn K mainGlobals "zip" = some none)
    (z_sorted : PySem.W.nsIn K mainGlobals "sorted" = some none)
    (z_len : PySem.W.nsIn K mainGlobals "len" = some none)
    (z_enumerate : PySem.W.nsIn K mainGlobals "enumerate" = some none)
    (z_repr : PySem.W.nsIn K mainGlobals "repr" = some none)
    (z_range : PySem.W.nsIn K mainGlobals "range" = some none)
    (z_set : PySem.W.nsIn K mainGlobals "set" = some none)
    (z_min : PySem.W.nsIn K mainGlobals "min" = some none)
    (z_max : PySem.W.nsIn K mainGlobals "max" = some none)
    (z_list : PySem.W.nsIn K mainGlobals "list" = some none)
    : ∃ (fd : FuncData) (f c t : Addr), mg "_law_are_refused" = some (.ref f) ∧ TabAt K f c t ∧ (∀ (s : Shared) (v : Value), BindsTo s fd ⟨[v], []⟩ [("_law_script", v)]) ∧ ∀ base : Heap, K.In base → base.Ns mainGlobals mg → LamX.TabB base mg c t → FnG l.prog w K mg base CX0 9 fa fd ["_law_script"] (spLaw t K) := by
  have e := hfa.symm.trans (PySem.W.mg_of X G a34)
  cases e
  have F0 := fun_mk (st := s_NotUsable___init__) l0 c0 k0
  have b0 := F0.binds (ps := ["self", "word", "at"]) fun _ _ _ _ _ _ us hl => match us, hl with | [_, _, _], _ => rfl
  have F1 := fun_mk (st := s_Missing___init__) l1 c1 k1
  have b1 := F1.binds (ps := ["self", "title"]) fun _ _ _ _ _ _ us hl => match us, hl with | [_, _], _ => rfl
  have F2 := fun_mk (st := s_Twice___init__) l2 c2 k2
  have b2 := F2.binds (ps := ["self", "title"]) fun _ _ _ _ _ _ us hl => match us, hl with | [_, _], _ => rfl
  have F3 := fun_mk (st := s_Unlike___init__) l3 c3 k3
  have b3 := F3.binds (ps := ["self", "title"]) fun _ _ _ _ _ _ us hl => match us, hl with | [_, _], _ => rfl
  have F4 := fun_mk (st := s_Beyond___init__) l4 c4 k4
  have b4 := F4.binds (ps := ["self", "need"]) fun _ _ _ _ _ _ us hl => match us, hl with | [_, _], _ => rfl
  have F5 := fun_mk (st := s_is_integer) l5 c5 k5
  have b5 := F5.binds (ps := ["thing"]) fun _ _ _ _ _ _ us hl => match us, hl with | [_], _ => rfl
  have F6 := fun_mk (st := s_is_number) l6 c6 k6
  have b6 := F6.binds (ps := ["thing"]) fun _ _ _ _ _ _ us hl => match us, hl with | [_], _ => rfl
  have F7 := fun_mk (st := s_is_number_set) l7 c7 k7
  have b7 := F7.binds (ps := ["thing"]) fun _ _ _ _ _ _ us hl => match us, hl with | [_], _ => rfl
  have F8 := fun_mk (st := s_long_jumps) l8 c8 k8
  have b8 := F8.binds (ps := ["things", "low", "high"]) fun _ _ _ _ _ _ us hl => match us, hl with | [_, _, _], _ => rfl
  have Ww_long_jumps_high_things_low : KBinds K _ ["things", "low", "high"] ["high", "things", "low"] (fun us ws => match us, ws with | [], [c, a, b] => [a, b, c] | _, _ => []) (fun vs zs => match vs, zs with | [], [c, a, b] => [a, b, c] | _, _ => []) := fun_binds F8
    (fun _ _ _ _ _ _ us ws hl => match us, ws, hl with | [], [_, _, _], _ => rfl | [], [], h => nomatch h | [], [_], h => nomatch h | [], [_, _], h => nomatch h | [], _ :: _ :: _ :: _ :: _, h => nomatch h | _ :: _, _, h => nomatch h)
    (fun r1 r2 => match r1, r2 with | .nil, .cons c (.cons a (.cons b .nil)) => .cons a (.cons b (.cons c .nil)) | .nil, .nil => .nil | .nil, .cons _ .nil => .nil | .nil, .cons _ (.cons _ .nil) => .nil | .nil, .cons _ (.cons _ (.cons _ (.cons _ _))) => .nil | .cons _ _, _ => .nil)
  have F9 := fun_mk (st := s_holds_long) l9 c9 k9
  have b9 := F9.binds (ps := ["things", "low", "high", "chosen"]) fun _ _ _ _ _ _ us hl => match us, hl with | [_, _, _, _], _ => rfl
  have Ww_holds_long_chosen_high_low_things : KBinds K _ ["things", "low", "high", "chosen"] ["chosen", "high", "low", "things"] (fun us ws => match us, ws with | [], [d, c, b, a] => [a, b, c, d] | _, _ => []) (fun vs zs => match vs, zs with | [], [d, c, b, a] => [a, b, c, d] | _, _ => []) := fun_binds F9
    (fun _ _ _ _ _ _ us ws hl => match us, ws, hl with | [], [_, _, _, _], _ => rfl | [], [], h => nomatch h | [], [_], h => nomatch h | [], [_, _], h => nomatch h | [], [_, _, _], h => nomatch h | [], _ :: _ :: _ :: _ :: _ :: _, h => nomatch h | _ :: _, _, h => nomatch h)
    (fun r1 r2 => match r1, r2 with | .nil, .cons d (.cons c (.cons b (.cons a .nil))) => .cons a (.cons b (.cons c (.cons d .nil))) | .nil, .nil => .nil | .nil, .cons _ .nil => .nil | .nil, .cons _ (.cons _ .nil) => .nil | .nil, .cons _ (.cons _ (.cons _ .nil)) => .nil | .nil, .cons _ (.cons _ (.cons _ (.cons _ (.cons _ _)))) => .nil | .cons _ _, _ => .nil)
  have F10 := fun_mk (st := s_least_long) l10 c10 k10
  have b10 := F10.binds (ps := ["things", "low", "high"]) fun _ _ _ _ _ _ us hl => match us, hl with | [_, _, _], _ => rfl
  have F11 := fun_mk (st := s_addresses_of) l11 c11 k11
  have b11 := F11.binds (ps := ["things", "chosen"]) fun _ _ _ _ _ _ us hl => match us, hl with | [_, _], _ => rfl
  have F12 := fun_mk (st := s_is_jump) l12 c12 k12
  have b12 := F12.binds (ps := ["thing"]) fun _ _ _ _ _ _ us hl => match us, hl with | [_], _ => rfl
  have F13 := fun_mk (st := s__too_far) l13 c13 k13
  have b13 := F13.binds (ps := ["things", "low", "high", "chosen"]) fun _ _ _ _ _ _ us hl => match us, hl with | [_, _, _, _], _ => rfl
  have F14 := fun_mk (st := s__check_layout) l14 c14 k14
  have b14 := F14.binds (ps := ["things", "low", "high"]) fun _ _ _ _ _ _ us hl => match us, hl with | [_, _, _], _ => rfl
  have F15 := fun_mk (st := s__is_thing) l15 c15 k15
  have b15 := F15.binds (ps := ["thing", "many"]) fun _ _ _ _ _ _ us hl => match us, hl with | [_, _], _ => rfl
  have F16 := fun_mk (st := s__law_feed) l16 c16 k16
  have b16 := F16.binds (ps := ["_law_script"]) fun _ _ _ _ _ _ us hl => match us, hl with | [_], _ => rfl
  have F17 := fun_mk (st := s__law_draw) l17 c17 k17
  have b17 := F17.binds (ps := ["_law_feed_here", "_law_size"]) fun _ _ _ _ _ _ us hl => match us, hl with | [_, _], _ => rfl
  have F18 := fun_mk (st := s__law_any) l18 c18 k18
  have b18 := F18.binds (ps := ["_law_feed_here", "_law_some_here"]) fun _ _ _ _ _ _ us hl => match us, hl with | [_, _], _ => rfl
  have F19 := fun_mk (st := s__law_same) l19 c19 k19
  have b19 := F19.binds (ps := ["_law_told", "_law_due"]) fun _ _ _ _ _ _ us hl => match us, hl with | [_, _], _ => rfl
  have F20 := fun_mk (st := s__law_heard) l20 c20 k20
  have b20 := F20.binds (ps := ["_law_ask"]) fun _ _ _ _ _ _ us hl => match us, hl with | [_], _ => rfl
  have F21 := fun_mk (st := s__law_spots) l21 c21 k21
  have b21 := F21.binds (ps := ["_law_things_here", "_law_chosen"]) fun _ _ _ _ _ _ us hl => match us, hl with | [_, _], _ => rfl
  have F22 := fun_mk (st := s__law_far) l22 c22 k22
  have b22 := F22.binds (ps := ["_law_things_here", "_law_low", "_law_high", "_law_chosen"]) fun _ _ _ _ _ _ us hl => match us, hl with | [_, _, _, _], _ => rfl
  have F23 := fun_mk (st := s__law_jumps) l23 c23 k23
  have b23 := F23.binds (ps := ["_law_things_here"]) fun _ _ _ _ _ _ us hl => match us, hl with | [_], _ => rfl
  have F24 := fun_mk (st := s__law_is_held) l24 c24 k24
  have b24 := F24.binds (ps := ["_law_things_here", "_law_low", "_law_high", "_law_chosen"]) fun _ _ _ _ _ _ us hl => match us, hl with | [_, _, _, _], _ => rfl
  have F25 := fun_mk (st := s__law_least) l25 c25 k25
  have b25 := F25.binds (ps := ["_law_things_here", "_law_low", "_law_high"]) fun _ _ _ _ _ _ us hl => match us, hl with | [_, _, _], _ => rfl
  have F26 := fun_mk (st := s__law_grown) l26 c26 k26
  have b26 := F26.binds (ps := ["_law_things_here", "_law_low", "_law_high"]) fun _ _ _ _ _ _ us hl => match us, hl with | [_, _, _], _ => rfl
  have F27 := fun_mk (st := s__law_things) l27 c27 k27
  have b27 := F27.binds (ps := ["_law_feed_here", "_law_many", "_law_most"]) fun _ _ _ _ _ _ us hl => match us, hl with | [_, _, _], _ => rfl
  have F28 := fun_mk (st := s__law_bounds) l28 c28 k28
  have b28 := F28.binds (ps := ["_law_feed_here"]) fun _ _ _ _ _ _ us hl => match us, hl with | [_], _ => rfl
  have F29 := fun_mk (st := s__law_some) l29 c29 k29
  have b29 := F29.binds (ps := ["_law_feed_here", "_law_some_here"]) fun _ _ _ _ _ _ us hl => match us, hl with | [_, _], _ => rfl
  have F30 := fun_mk (st := s__law_are_held_right) l30 c30 k30
  have b30 := F30.binds (ps := ["_law_feed_here", "_law_things_here", "_law_low", "_law_high", "_law_due"]) fun _ _ _ _ _ _ us hl => match us, hl with | [_, _, _, _, _], _ => rfl
  have F31 := fun_mk (st := s__law_is_told_right) l31 c31 k31
  have b31 := F31.binds (ps := ["_law_feed_here", "_law_things_here", "_law_low", "_law_high", "_law_due"]) fun _ _ _ _ _ _ us hl => match us, hl with | [_, _, _, _, _], _ => rfl
  have F32 := fun_mk (st := s__law_are_few_right) l32 c32 k32
  have b32 := F32.binds (ps := []) fun _ _ _ _ _ _ us hl => match us, hl with | [], _ => rfl
  have F33 := fun_mk (st := s__law_are_refused) l33 c33 k33
  have b33 := F33.binds (ps := ["_law_feed_here", "_law_things_here"]) fun _ _ _ _ _ _ us hl => match us, hl with | [_, _], _ => rfl
  have F34 := fun_mk (st := s_law) l34 c34 k34
  have b34 := F34.binds (ps := ["_law_script"]) fun _ _ _ _ _ _ us hl => match us, hl with | [_], _ => rfl
  let T : Txt K mg := {
    C_NeedError := C_NeedError, mC_NeedError := PySem.W.mg_of X G aC_NeedError,
    C_PaperError := C_PaperError, mC_PaperError := PySem.W.mg_of X G aC_PaperError,
    C_UnitError := C_UnitError, mC_UnitError := PySem.W.mg_of X G aC_UnitError,
    C_LinkError := C_LinkError, mC_LinkError := PySem.W.mg_of X G aC_LinkError,
    C_LiveError := C_LiveError, mC_LiveError := PySem.W.mg_of X G aC_LiveError,
    C_TextError := C_TextError, mC_TextError := PySem.W.mg_of X G aC_TextError,
    C_NotUsable := C_NotUsable, mC_NotUsable := PySem.W.mg_of X G aC_NotUsable,
    C_Missing := C_Missing, mC_Missing := PySem.W.mg_of X G aC_Missing,
    C_Twice := C_Twice, mC_Twice := PySem.W.mg_of X G aC_Twice,
    C_Unlike := C_Unlike, mC_Unlike := PySem.W.mg_of X G aC_Unlike,
    C_Beyond := C_Beyond, mC_Beyond := PySem.W.mg_of X G aC_Beyond,
    x_NotUsable := ⟨⟨nm0, q0, N0, bs0, bm0, sn0, sub0, ab0, col0, dd0, m00, m10, m20, m30, m50, xL0, xR0⟩, sa0, eC0, tC0, kC0⟩, xk_NotUsable := ⟨cls_some hC0, ga0, gg0, eC0, cl0, sn', tk, mo0⟩, xf_NotUsable := ⟨ga0, gg0, eC0, hC0⟩, i_NotUsable := a0, t_NotUsable := t0,
    n_NotUsable_word := n0_word,
    n_NotUsable_at := n0_at,
    ex_NotUsable_NeedError := PySem.W.exm_ref q5_NeedError q2_NeedError q1_NeedError q3_NotUsable_NeedError,
    is_NotUsable_Beyond := kit_own (cls_some q2_Beyond) q1_Beyond q3_NotUsable_Beyond (fun _ => q4_NotUsable_Beyond),
    is_NotUsable_Twice := kit_own (cls_some q2_Twice) q1_Twice q3_NotUsable_Twice (fun _ => q4_NotUsable_Twice),
    is_NotUsable_Unlike := kit_own (cls_some q2_Unlike) q1_Unlike q3_NotUsable_Unlike (fun _ => q4_NotUsable_Unlike),
    is_NotUsable_PaperError := kit_own (cls_some q2_PaperError) q1_PaperError q3_NotUsable_PaperError (fun _ => q4_NotUsable_PaperError),
    is_NotUsable_UnitError := kit_own (cls_some q2_UnitError) q1_UnitError q3_NotUsable_UnitError (fun z => nomatch z),
    is_NotUsable_LinkError := kit_own (cls_some q2_LinkError) q1_LinkError q3_NotUsable_LinkError (fun _ => q4_NotUsable_LinkError),
    is_NotUsable_NotUsable := kit_self,
    is_NotUsable_Missing := kit_own (cls_some q2_Missing) q1_Missing q3_NotUsable_Missing (fun _ => q4_NotUsable_Missing),
    is_NotUsable_LiveError := kit_own (cls_some q2_LiveError) q1_LiveError q3_NotUsable_LiveError (fun _ => q4_NotUsable_LiveError),
    is_NotUsable_TextError := kit_own (cls_some q2_TextError) q1_TextError q3_NotUsable_TextError (fun _ => q4_NotUsable_TextError),
    x_Missing := ⟨⟨nm1, q1, N1, bs1, bm1, sn1, sub1, ab1, col1, dd1, m01, m11, m21, m31, m51, xL1, xR1⟩, sa1, eC1, tC1, kC1⟩, xk_Missing := ⟨cls_some hC1, ga1, gg1, eC1, cl1, sn', tk, mo1⟩, xf_Missing := ⟨ga1, gg1, eC1, hC1⟩, i_Missing := a1, t_Missing := t1,
    n_Missing_title := n1_title,
    ex_Missing_NeedError := PySem.W.exm_ref q5_NeedError q2_NeedError q1_NeedError q3_Missing_NeedError,
    is_Missing_Beyond := kit_own (cls_some q2_Beyond) q1_Beyond q3_Missing_Beyond (fun _ => q4_Missing_Beyond),
    is_Missing_Twice := kit_own (cls_some q2_Twice) q1_Twice q3_Missing_Twice (fun _ => q4_Missing_Twice),
    is_Missing_Unlike := kit_own (cls_some q2_Unlike) q1_Unlike q3_Missing_Unlike (fun _ => q4_Missing_Unlike),
    is_Missing_PaperError := kit_own (cls_some q2_PaperError) q1_PaperError q3_Missing_PaperError (fun _ => q4_Missing_PaperError),
    is_Missing_UnitError := kit_own (cls_some q2_UnitError) q1_UnitError q3_Missing_UnitError (fun _ => q4_Missing_UnitError),
    is_Missing_LinkError := kit_own (cls_some q2_LinkError) q1_LinkError q3_Missing_LinkError (fun z => nomatch z),
    is_Missing_NotUsable := kit_own (cls_some q2_NotUsable) q1_NotUsable q3_Missing_NotUsable (fun _ => q4_Missing_NotUsable),
    is_Missing_Missing := kit_self,
    is_Missing_LiveError := kit_own (cls_some q2_LiveError) q1_LiveError q3_Missing_LiveError (fun _ => q4_Missing_LiveError),
    is_Missing_TextError := kit_own (cls_some q2_TextError) q1_TextError q3_Missing_TextError (fun _ => q4_Missing_TextError),
    x_Twice := ⟨⟨nm2, q2, N2, bs2, bm2, sn2, sub2, ab2, col2, dd2, m02, m12, m22, m32, m52, xL2, xR2⟩, sa2, eC2, tC2, kC2⟩, xk_Twice := ⟨cls_some hC2, ga2, gg2, eC2, cl2, sn', tk, mo2⟩, xf_Twice := ⟨ga2, gg2, eC2, hC2⟩, i_Twice := a2, t_Twice := t2,
    n_Twice_title := n2_title,
    ex_Twice_NeedError := PySem.W.exm_ref q5_NeedError q2_NeedError q1_NeedError q3_Twice_NeedError,
    is_Twice_Beyond := kit_own (cls_some q2_Beyond) q1_Beyond q3_Twice_Beyond (fun _ => q4_Twice_Beyond),
    is_Twice_Twice := kit_self,
    is_Twice_Unlike := kit_own (cls_some q2_Unlike) q1_Unlike q3_Twice_Unlike (fun _ => q4_Twice_Unlike),
    is_Twice_PaperError := kit_own (cls_some q2_PaperError) q1_PaperError q3_Twice_PaperError (fun _ => q4_Twice_PaperError),
    is_Twice_UnitError := kit_own (cls_some q2_UnitError) q1_UnitError q3_Twice_UnitError (fun _ => q4_Twice_UnitError),
    is_Twice_LinkError := kit_own (cls_some q2_LinkError) q1_LinkError q3_Twice_LinkError (fun z => nomatch z),
    is_Twice_NotUsable := kit_own (cls_some q2_NotUsable) q1_NotUsable q3_Twice_NotUsable (fun _ => q4_Twice_NotUsable),
    is_Twice_Missing := kit_own (cls_some q2_Missing) q1_Missing q3_Twice_Missing (fun _ => q4_Twice_Missing),
    is_Twice_LiveError := kit_own (cls_some q2_LiveError) q1_LiveError q3_Twice_LiveError (fun _ => q4_Twice_LiveError),
    is_Twice_TextError := kit_own (cls_some q2_TextError) q1_TextError q3_Twice_TextError (fun _ => q4_Twice_TextError),
    x_Unlike := ⟨⟨nm3, q3, N3, bs3, bm3, sn3, sub3, ab3, col3, dd3, m03, m13, m23, m33, m53, xL3, xR3⟩, sa3, eC3, tC3, kC3⟩, xk_Unlike := ⟨cls_some hC3, ga3, gg3, eC3, cl3, sn', tk, mo3⟩, xf_Unlike := ⟨ga3, gg3, eC3, hC3⟩, i_Unlike := a3, t_Unlike := t3,
    n_Unlike_title := n3_title,
    ex_Unlike_NeedError := PySem.W.exm_ref q5_NeedError q2_NeedError q1_NeedError q3_Unlike_NeedError,
    is_Unlike_Beyond := kit_own (cls_some q2_Beyond) q1_Beyond q3_Unlike_Beyond (fun _ => q4_Unlike_Beyond),
    is_Unlike_Twice := kit_own (cls_some q2_Twice) q1_Twice q3_Unlike_Twice (fun _ => q4_Unlike_Twice),
    is_Unlike_Unlike := kit_self,
    is_Unlike_PaperError := kit_own (cls_some q2_PaperError) q1_PaperError q3_Unlike_PaperError (fun _ => q4_Unlike_PaperError),
    is_Unlike_UnitError := kit_own (cls_some q2_UnitError) q1_UnitError q3_Unlike_UnitError (fun _ => q4_Unlike_UnitError),
    is_Unlike_LinkError := kit_own (cls_some q2_LinkError) q1_LinkError q3_Unlike_LinkError (fun z => nomatch z),
    is_Unlike_NotUsable := kit_own (cls_some q2_NotUsable) q1_NotUsable q3_Unlike_NotUsable (fun _ => q4_Unlike_NotUsable),
    is_Unlike_Missing := kit_own (cls_some q2_Missing) q1_Missing q3_Unlike_Missing (fun _ => q4_Unlike_Missing),
    is_Unlike_LiveError := kit_own (cls_some q2_LiveError) q1_LiveError q3_Unlike_LiveError (fun _ => q4_Unlike_LiveError),
    is_Unlike_TextError := kit_own (cls_some q2_TextError) q1_TextError q3_Unlike_TextError (fun _ => q4_Unlike_TextError),
    x_Beyond := ⟨⟨nm4, q4, N4, bs4, bm4, sn4, sub4, ab4, col4, dd4, m04, m14, m24, m34, m54, xL4, xR4⟩, sa4, eC4, tC4, kC4⟩, xk_Beyond := ⟨cls_some hC4, ga4, gg4, eC4, cl4, sn', tk, mo4⟩, xf_Beyond := ⟨ga4, gg4, eC4, hC4⟩, i_Beyond := a4, t_Beyond := t4,
    n_Beyond_need := n4_need,
    ex_Beyond_NeedError := PySem.W.exm_ref q5_NeedError q2_NeedError q1_NeedError q3_Beyond_NeedError,
    is_Beyond_Beyond := kit_self,
    is_Beyond_Twice := kit_own (cls_some q2_Twice) q1_Twice q3_Beyond_Twice (fun _ => q4_Beyond_Twice),
    is_Beyond_Unlike := kit_own (cls_some q2_Unlike) q1_Unlike q3_Beyond_Unlike (fun _ => q4_Beyond_Unlike),
    is_Beyond_PaperError := kit_own (cls_some q2_PaperError) q1_PaperError q3_Beyond_PaperError (fun _ => q4_Beyond_PaperError),
    is_Beyond_UnitError := kit_own (cls_some q2_UnitError) q1_UnitError q3_Beyond_UnitError (fun _ => q4_Beyond_UnitError),
    is_Beyond_LinkError := kit_own (cls_some q2_LinkError) q1_LinkError q3_Beyond_LinkError (fun z => nomatch z),
    is_Beyond_NotUsable := kit_own (cls_some q2_NotUsable) q1_NotUsable q3_Beyond_NotUsable (fun _ => q4_Beyond_NotUsable),
    is_Beyond_Missing := kit_own (cls_some q2_Missing) q1_Missing q3_Beyond_Missing (fun _ => q4_Beyond_Missing),
    is_Beyond_LiveError := kit_own (cls_some q2_LiveError) q1_LiveError q3_Beyond_LiveError (fun _ => q4_Beyond_LiveError),
    is_Beyond_TextError := kit_own (cls_some q2_TextError) q1_TextError q3_Beyond_TextError (fun _ => q4_Beyond_TextError),
    f_NotUsable__init__ := _, d_NotUsable__init__ := _, F_NotUsable__init__ := F0, b_NotUsable__init__ := b0,
    f_Missing__init__ := _, d_Missing__init__ := _, F_Missing__init__ := F1, b_Missing__init__ := b1,
    f_Twice__init__ := _, d_Twice__init__ := _, F_Twice__init__ := F2, b_Twice__init__ := b2,
    f_Unlike__init__ := _, d_Unlike__init__ := _, F_Unlike__init__ := F3, b_Unlike__init__ := b3,
    f_Beyond__init__ := _, d_Beyond__init__ := _, F_Beyond__init__ := F4, b_Beyond__init__ := b4,
    f_is_integer := _, d_is_integer := _, F_is_integer := F5, b_is_integer := b5, m_is_integer := PySem.W.mg_of X G a5, k_is_integer := k5,
    f_is_number := _, d_is_number := _, F_is_number := F6, b_is_number := b6, m_is_number := PySem.W.mg_of X G a6, k_is_number := k6,
    f_is_number_set := _, d_is_number_set := _, F_is_number_set := F7, b_is_number_set := b7, m_is_number_set := PySem.W.mg_of X G a7, k_is_number_set := k7,
    f_long_jumps := _, d_long_jumps := _, F_long_jumps := F8, b_long_jumps := b8, m_long_jumps := PySem.W.mg_of X G a8, k_long_jumps := k8, w_long_jumps_high_things_low := Ww_long_jumps_high_things_low,
    f_holds_long := _, d_holds_long := _, F_holds_long := F9, b_holds_long := b9, m_holds_long := PySem.W.mg_of X G a9, k_holds_long := k9, w_holds_long_chosen_high_low_things := Ww_holds_long_chosen_high_low_things,
    f_least_long := _, d_least_long := _, F_least_long := F10, b_least_long := b10, m_least_long := PySem.W.mg_of X G a10, k_least_long := k10,
    f_addresses_of := _, d_addresses_of := _, F_addresses_of := F11, b_addresses_of := b11, m_addresses_of := PySem.W.mg_of X G a11, k_addresses_of := k11,
    f_is_jump := _, d_is_jump := _, F_is_jump := F12, b_is_jump := b12, m_is_jump := PySem.W.mg_of X G a12, k_is_jump := k12,
    f__too_far := _, d__too_far := _, F__too_far := F13, b__too_far := b13, m__too_far := PySem.W.mg_of X G a13, k__too_far := k13,
    f__check_layout := _, d__check_layout := _, F__check_layout := F14, b__check_layout := b14, m__check_layout := PySem.W.mg_of X G a14, k__check_layout := k14,
    f__is_thing := _, d__is_thing := _, F__is_thing := F15, b__is_thing := b15, m__is_thing := PySem.W.mg_of X G a15, k__is_thing := k15,
    f__law_feed := _, d__law_feed := _, F__law_feed := F16, b__law_feed := b16, m__law_feed := PySem.W.mg_of X G a16, k__law_feed := k16,
    f__law_draw := _, d__law_draw := _, F__law_draw := F17, b__law_draw := b17, m__law_draw := PySem.W.mg_of X G a17, k__law_draw := k17,
    f__law_any := _, d__law_any := _, F__law_any := F18, b__law_any := b18, m__law_any := PySem.W.mg_of X G a18, k__law_any := k18,
    f__law_same := _, d__law_same := _, F__law_same := F19, b__law_same := b19, m__law_same := PySem.W.mg_of X G a19, k__law_same := k19,
    f__law_heard := _, d__law_heard := _, F__law_heard := F20, b__law_heard := b20, m__law_heard := PySem.W.mg_of X G a20, k__law_heard := k20,
    f__law_spots := _, d__law_spots := _, F__law_spots := F21, b__law_spots := b21, m__law_spots := PySem.W.mg_of X G a21, k__law_spots := k21,
    f__law_far := _, d__law_far := _, F__law_far := F22, b__law_far := b22, m__law_far := PySem.W.mg_of X G a22, k__law_far := k22,
    f__law_jumps := _, d__law_jumps := _, F__law_jumps := F23, b__law_jumps := b23, m__law_jumps := PySem.W.mg_of X G a23, k__law_jumps := k23,
    f__law_is_held := _, d__law_is_held := _, F__law_is_held := F24, b__law_is_held := b24, m__law_is_held := PySem.W.mg_of X G a24, k__law_is_held := k24,
    f__law_least := _, d__law_least := _, F__law_least := F25, b__law_least := b25, m__law_least := PySem.W.mg_of X G a25, k__law_least := k25,
    f__law_grown := _, d__law_grown := _, F__law_grown := F26, b__law_grown := b26, m__law_grown := PySem.W.mg_of X G a26, k__law_grown := k26,
    f__law_things := _, d__law_things := _, F__law_things := F27, b__law_things := b27, m__law_things := PySem.W.mg_of X G a27, k__law_things := k27,
    f__law_bounds := _, d__law_bounds := _, F__law_bounds := F28, b__law_bounds := b28, m__law_bounds := PySem.W.mg_of X G a28, k__law_bounds := k28,
    f__law_some := _, d__law_some := _, F__law_some := F29, b__law_some := b29, m__law_some := PySem.W.mg_of X G a29, k__law_some := k29,
    f__law_are_held_right := _, d__law_are_held_right := _, F__law_are_held_right := F30, b__law_are_held_right := b30, m__law_are_held_right := PySem.W.mg_of X G a30, k__law_are_held_right := k30,
    f__law_is_told_right := _, d__law_is_told_right := _, F__law_is_told_right := F31, b__law_is_told_right := b31, m__law_is_told_right := PySem.W.mg_of X G a31, k__law_is_told_right := k31,
    f__law_are_few_right := _, d__law_are_few_right := _, F__law_are_few_right := F32, b__law_are_few_right := b32, m__law_are_few_right := PySem.W.mg_of X G a32, k__law_are_few_right := k32,
    f__law_are_refused := _, d__law_are_refused := _, F__law_are_refused := F33, b__law_are_refused := b33, m__law_are_refused := PySem.W.mg_of X G a33, k__law_are_refused := k33,
    f_law := _, d_law := _, F_law := F34, b_law := b34, m_law := PySem.W.mg_of X G a34, k_law := k34,
    z_isinstance := PySem.W.mg_none_of X G z_isinstance, z_int := PySem.W.mg_none_of X G z_int, z_bool := PySem.W.mg_none_of X G z_bool, z_all := PySem.W.mg_none_of X G z_all, z_tuple := PySem.W.mg_none_of X G z_tuple, z_zip := PySem.W.mg_none_of X G z_zip, z_sorted := PySem.W.mg_none_of X G z_sorted, z_len := PySem.W.mg_none_of X G z_len, z_enumerate := PySem.W.mg_none_of X G z_enumerate, z_repr := PySem.W.mg_none_of X G z_repr, z_range := PySem.W.mg_none_of X G z_range, z_set := PySem.W.mg_none_of X G z_set, z_min := PySem.W.mg_none_of X G z_min, z_max := PySem.W.mg_none_of X G z_max, z_list := PySem.W.mg_none_of X G z_list }
  have tab : TabAt K f__law_are_refused cT tT := ⟨⟨_, _, l33, rfl, eT⟩, ⟨_, _, _, _, oT, vT⟩, nT⟩
  exact ⟨_, f__law_are_refused, cT, tT, T.m__law_are_refused, tab, fun s v => .of_eq rfl, fun base _ _ TB => ok_law T tab TB⟩
theorem walk {l : PySem.W.OpenLaw} {q : Program} {loose : List Str} {XP : (Str → Option Value) → Heap → Prop} {YP : World → Heap → Prop} {d : DefRec} {K : Params → PySem.W.Frag} (hn : l.most = some 63) (hdf : d.params.defaults = []) (hrec : ((recsOf q).any fun e => e.name == ("_law_are_refused" : Str)) = true)
    (hY : ∀ (w : World) (h : Heap), YP w h → (K w.params).In h)
    (F : ∀ (w : World) (mg : Str → Option Value) (fa : Addr) (h : Heap), (K w.params).In h → h.Ns mainGlobals mg → mg d.name = some (.ref fa) →
      ∃ (fd : FuncData) (f c t : Addr), mg "_law_are_refused" = some (.ref f) ∧ TabAt (K w.params) f c t ∧ (∀ (s : Shared) (v : Value), BindsTo s fd ⟨[v], []⟩ [("_law_script", v)]) ∧ ∀ base : Heap, (K w.params).In base → base.Ns mainGlobals mg → LamX.TabB base mg c t → FnG l.prog w (K w.params) mg base CX0 9 fa fd ["_law_script"] (spLaw t (K w.params))) :
    PySem.W.WalkO q loose XP YP l.row.toRowW d [] (fun f vs => PySem.call f vs) :=
  walk_goT (n := 63) (k := 9) (x := "_law_script") (y := "_law_are_refused") (CX := CX0) (sp := spLaw) hn (by decide) hdf ⟨rfl, by decide, by decide⟩ hrec hY F (fun _ _ _ a ns hl ht hS => ⟨a, ns, rfl, hS, hl, ht, fun _ => rfl⟩) fun _ _ _ _ z => z
end Lk
open PySem PySem.W PyProof.Rows
set_option maxRecDepth 100000 in
set_option maxHeartbeats 0 in
theorem PySem.Challenge.cw_linkneed_k39_whole_least_long_jumps_holds : PySem.Challenge.rw_linkneed_k39_whole_least_long_jumps.Holds := by
  w_on; o_law; k_head; (case hw => w_witness2)
  k_fill
  refine Lk.walk (l := PySem.Challenge.rw_linkneed_k39_whole_least_long_jumps) rfl rfl (by decide +kernel) (fun w h Y => PySem.W.km_in_of Y) ?F
  case F =>
    intro w mg fa h KX G hmg
    refine' Lk.all_mk KX G hmg ?aC_NeedError ?aC_PaperError ?aC_UnitError ?aC_LinkError ?aC_LiveError ?aC_TextError ?aC_NotUsable ?aC_Missing ?aC_Twice ?aC_Unlike ?aC_Beyond ?a0 ?t0 ?l0 ?c0 ?k0 ?a1 ?t1 ?l1 ?c1 ?k1 ?a2 ?t2 ?l2 ?c2 ?k2 ?a3 ?t3 ?l3 ?c3 ?k3 ?a4 ?t4 ?l4 ?c4 ?k4 ?a5 ?l5 ?c5 ?k5 ?a6 ?l6 ?c6 ?k6 ?a7 ?l7 ?c7 ?k7 ?a8 ?l8 ?c8 ?k8 ?a9 ?l9 ?c9 ?k9 ?a10 ?l10 ?c10 ?k10 ?a11 ?l11 ?c11 ?k11 ?a12 ?l12 ?c12 ?k12 ?a13 ?l13 ?c13 ?k13 ?a14 ?l14 ?c14 ?k14 ?a15 ?l15 ?c15 ?k15 ?a16 ?l16 ?c16 ?k16 ?a17 ?l17 ?c17 ?k17 ?a18 ?l18 ?c18 ?k18 ?a19 ?l19 ?c19 ?k19 ?a20 ?l20 ?c20 ?k20 ?a21 ?l21 ?c21 ?k21 ?a22 ?l22 ?c22 ?k22 ?a23 ?l23 ?c23 ?k23 ?a24 ?l24 ?c24 ?k24 ?a25 ?l25 ?c25 ?k25 ?a26 ?l26 ?c26 ?k26 ?a27 ?l27 ?c27 ?k27 ?a28 ?l28 ?c28 ?k28 ?a29 ?l29 ?c29 ?k29 ?a30 ?l30 ?c30 ?k30 ?a31 ?l31 ?c31 ?k31 ?a32 ?l32 ?c32 ?k32 ?a33 ?l33 ?c33 ?k33 ?a34 ?l34 ?c34 ?k34 ?xL0 ?xR0 ?sa0 ?ga0 ?gg0 ?n0_word ?n0_at ?eC0 ?tC0 ?kC0 ?hC0 ?cl0 ?mo0 ?q3_NotUsable_NeedError ?q3_NotUsable_Beyond ?q4_NotUsable_Beyond ?q3_NotUsable_Twice ?q4_NotUsable_Twice ?q3_NotUsable_Unlike ?q4_NotUsable_Unlike ?q3_NotUsable_PaperError ?q4_NotUsable_PaperError ?q3_NotUsable_UnitError ?q3_NotUsable_LinkError ?q4_NotUsable_LinkError ?q3_NotUsable_NotUsable ?q3_NotUsable_Missing ?q4_NotUsable_Missing ?q3_NotUsable_LiveError ?q4_NotUsable_LiveError ?q3_NotUsable_TextError ?q4_NotUsable_TextError ?xL1 ?xR1 ?sa1 ?ga1 ?gg1 ?n1_title ?eC1 ?tC1 ?kC1 ?hC1 ?cl1 ?mo1 ?q3_Missing_NeedError ?q3_Missing_Beyond ?q4_Missing_Beyond ?q3_Missing_Twice ?q4_Missing_Twice ?q3_Missing_Unlike ?q4_Missing_Unlike ?q3_Missing_PaperError ?q4_Missing_PaperError ?q3_Missing_UnitError ?q4_Missing_UnitError ?q3_Missing_LinkError ?q3_Missing_NotUsable ?q4_Missing_NotUsable ?q3_Missing_Missing ?q3_Missing_LiveError ?q4_Missing_LiveError ?q3_Missing_TextError ?q4_Missing_TextError ?xL2 ?xR2 ?sa2 ?ga2 ?gg2 ?n2_title ?eC2 ?tC2 ?kC2 ?hC2 ?cl2 ?mo2 ?q3_Twice_NeedError ?q3_Twice_Beyond ?q4_Twice_Beyond ?q3_Twice_Twice ?q3_Twice_Unlike ?q4_Twice_Unlike ?q3_Twice_PaperError ?q4_Twice_PaperError ?q3_Twice_UnitError ?q4_Twice_UnitError ?q3_Twice_LinkError ?q3_Twice_NotUsable ?q4_Twice_NotUsable ?q3_Twice_Missing ?q4_Twice_Missing ?q3_Twice_LiveError ?q4_Twice_LiveError ?q3_Twice_TextError ?q4_Twice_TextError ?xL3 ?xR3 ?sa3 ?ga3 ?gg3 ?n3_title ?eC3 ?tC3 ?kC3 ?hC3 ?cl3 ?mo3 ?q3_Unlike_NeedError ?q3_Unlike_Beyond ?q4_Unlike_Beyond ?q3_Unlike_Twice ?q4_Unlike_Twice ?q3_Unlike_Unlike ?q3_Unlike_PaperError ?q4_Unlike_PaperError ?q3_Unlike_UnitError ?q4_Unlike_UnitError ?q3_Unlike_LinkError ?q3_Unlike_NotUsable ?q4_Unlike_NotUsable ?q3_Unlike_Missing ?q4_Unlike_Missing ?q3_Unlike_LiveError ?q4_Unlike_LiveError ?q3_Unlike_TextError ?q4_Unlike_TextError ?xL4 ?xR4 ?sa4 ?ga4 ?gg4 ?n4_need ?eC4 ?tC4 ?kC4 ?hC4 ?cl4 ?mo4 ?q3_Beyond_NeedError ?q3_Beyond_Beyond ?q3_Beyond_Twice ?q4_Beyond_Twice ?q3_Beyond_Unlike ?q4_Beyond_Unlike ?q3_Beyond_PaperError ?q4_Beyond_PaperError ?q3_Beyond_UnitError ?q4_Beyond_UnitError ?q3_Beyond_LinkError ?q3_Beyond_NotUsable ?q4_Beyond_NotUsable ?q3_Beyond_Missing ?q4_Beyond_Missing ?q3_Beyond_LiveError ?q4_Beyond_LiveError ?q3_Beyond_TextError ?q4_Beyond_TextError ?q1_NeedError ?q2_NeedError ?q5_NeedError ?q1_Beyond ?q2_Beyond ?q1_Twice ?q2_Twice ?q1_Unlike ?q2_Unlike ?q1_PaperError ?q2_PaperError ?q1_UnitError ?q2_UnitError ?q1_LinkError ?q2_LinkError ?q1_NotUsable ?q2_NotUsable ?q1_Missing ?q2_Missing ?q1_LiveError ?q2_LiveError ?q1_TextError ?q2_TextError ?sn' ?tk ?eT ?oT ?vT ?nT ?z_isinstance ?z_int ?z_bool ?z_all ?z_tuple ?z_zip ?z_sorted ?z_len ?z_enumerate ?z_repr ?z_range ?z_set ?z_min ?z_max ?z_list
    (case aC_NeedError => k_is)
    (case aC_PaperError => k_is)
    (case aC_UnitError => k_is)
    (case aC_LinkError => k_is)
    (case aC_LiveError => k_is)
    (case aC_TextError => k_is)
    (case aC_NotUsable => k_is)
    (case aC_Missing => k_is)
    (case aC_Twice => k_is)
    (case aC_Unlike => k_is)
    (case aC_Beyond => k_is)
    (case a0 => k_is)
    (case t0 => k_is)
    (case l0 => k_is)
    (case c0 => k_is)
    (case k0 => k_is)
    (case a1 => k_is)
    (case t1 => k_is)
    (case l1 => k_is)
    (case c1 => k_is)
    (case k1 => k_is)
    (case a2 => k_is)
    (case t2 => k_is)
    (case l2 => k_is)
    (case c2 => k_is)
    (case k2 => k_is)
    (case a3 => k_is)
    (case t3 => k_is)
    (case l3 => k_is)
    (case c3 => k_is)
    (case k3 => k_is)
    (case a4 => k_is)
    (case t4 => k_is)
    (case l4 => k_is)
    (case c4 => k_is)
    (case k4 => k_is)
    (case a5 => k_is)
    (case l5 => k_is)
    (case c5 => k_is)
    (case k5 => k_is)
    (case a6 => k_is)
    (case l6 => k_is)
    (case c6 => k_is)
    (case k6 => k_is)
    (case a7 => k_is)
    (case l7 => k_is)
    (case c7 => k_is)
    (case k7 => k_is)
    (case a8 => k_is)
    (case l8 => k_is)
    (case c8 => k_is)
    (case k8 => k_is)
    (case a9 => k_is)
    (case l9 => k_is)
    (case c9 => k_is)
    (case k9 => k_is)
    (case a10 => k_is)
    (case l10 => k_is)
    (case c10 => k_is)
    (case k10 => k_is)
    (case a11 => k_is)
    (case l11 => k_is)
    (case c11 => k_is)
    (case k11 => k_is)
    (case a12 => k_is)
    (case l12 => k_is)
    (case c12 => k_is)
    (case k12 => k_is)
    (case a13 => k_is)
    (case l13 => k_is)
    (case c13 => k_is)
    (case k13 => k_is)
    (case a14 => k_is)
    (case l14 => k_is)
    (case c14 => k_is)
    (case k14 => k_is)
    (case a15 => k_is)
    (case l15 => k_is)
    (case c15 => k_is)
    (case k15 => k_is)
    (case a16 => k_is)
    (case l16 => k_is)
    (case c16 => k_is)
    (case k16 => k_is)
    (case a17 => k_is)
    (case l17 => k_is)
    (case c17 => k_is)
    (case k17 => k_is)
    (case a18 => k_is)
    (case l18 => k_is)
    (case c18 => k_is)
    (case k18 => k_is)
    (case a19 => k_is)
    (case l19 => k_is)
    (case c19 => k_is)
    (case k19 => k_is)
    (case a20 => k_is)
    (case l20 => k_is)
    (case c20 => k_is)
    (case k20 => k_is)
    (case a21 => k_is)
    (case l21 => k_is)
    (case c21 => k_is)
    (case k21 => k_is)
    (case a22 => k_is)
    (case l22 => k_is)
    (case c22 => k_is)
    (case k22 => k_is)
    (case a23 => k_is)
    (case l23 => k_is)
    (case c23 => k_is)
    (case k23 => k_is)
    (case a24 => k_is)
    (case l24 => k_is)
    (case c24 => k_is)
    (case k24 => k_is)
    (case a25 => k_is)
    (case l25 => k_is)
    (case c25 => k_is)
    (case k25 => k_is)
    (case a26 => k_is)
    (case l26 => k_is)
    (case c26 => k_is)
    (case k26 => k_is)
    (case a27 => k_is)
    (case l27 => k_is)
    (case c27 => k_is)
    (case k27 => k_is)
    (case a28 => k_is)
    (case l28 => k_is)
    (case c28 => k_is)
    (case k28 => k_is)
    (case a29 => k_is)
    (case l29 => k_is)
    (case c29 => k_is)
    (case k29 => k_is)
    (case a30 => k_is)
    (case l30 => k_is)
    (case c30 => k_is)
    (case k30 => k_is)
    (case a31 => k_is)
    (case l31 => k_is)
    (case c31 => k_is)
    (case k31 => k_is)
    (case a32 => k_is)
    (case l32 => k_is)
    (case c32 => k_is)
    (case k32 => k_is)
    (case a33 => k_is)
    (case l33 => k_is)
    (case c33 => k_is)
    (case k33 => k_is)
    (case a34 => k_is)
    (case l34 => k_is)
    (case c34 => k_is)
    (case k34 => k_is)
    (case xL0 => k_is)
    (case xR0 => decide +kernel)
    (case sa0 => k_is)
    (case ga0 => k_is)
    (case gg0 => k_is)
    (case n0_word => k_is)
    (case n0_at => k_is)
    (case eC0 => k_is)
    (case tC0 => k_is)
    (case kC0 => k_is)
    (case hC0 => k_is)
    (case cl0 => k_is)
    (case mo0 => k_is)
    (case q3_NotUsable_NeedError => k_is)
    (case q3_NotUsable_Beyond => k_is)
    (case q4_NotUsable_Beyond => decide +kernel)
    (case q3_NotUsable_Twice => k_is)
    (case q4_NotUsable_Twice => decide +kernel)
    (case q3_NotUsable_Unlike => k_is)
    (case q4_NotUsable_Unlike => decide +kernel)
    (case q3_NotUsable_PaperError => k_is)
    (case q4_NotUsable_PaperError => decide +kernel)
    (case q3_NotUsable_UnitError => k_is)
    (case q3_NotUsable_LinkError => k_is)
    (case q4_NotUsable_LinkError => decide +kernel)
    (case q3_NotUsable_NotUsable => k_is)
    (case q3_NotUsable_Missing => k_is)
    (case q4_NotUsable_Missing => decide +kernel)
    (case q3_NotUsable_LiveError => k_is)
    (case q4_NotUsable_LiveError => decide +kernel)
    (case q3_NotUsable_TextError => k_is)
    (case q4_NotUsable_TextError => decide +kernel)
    (case xL1 => k_is)
    (case xR1 => decide +kernel)
    (case sa1 => k_is)
    (case ga1 => k_is)
    (case gg1 => k_is)
    (case n1_title => k_is)
    (case eC1 => k_is)
    (case tC1 => k_is)
    (case kC1 => k_is)
    (case hC1 => k_is)
    (case cl1 => k_is)
    (case mo1 => k_is)
    (case q3_Missing_NeedError => k_is)
    (case q3_Missing_Beyond => k_is)
    (case q4_Missing_Beyond => decide +kernel)
    (case q3_Missing_Twice => k_is)
    (case q4_Missing_Twice => decide +kernel)
    (case q3_Missing_Unlike => k_is)
    (case q4_Missing_Unlike => decide +kernel)
    (case q3_Missing_PaperError => k_is)
    (case q4_Missing_PaperError => decide +kernel)
    (case q3_Missing_UnitError => k_is)
    (case q4_Missing_UnitError => decide +kernel)
    (case q3_Missing_LinkError => k_is)
    (case q3_Missing_NotUsable => k_is)
    (case q4_Missing_NotUsable => decide +kernel)
    (case q3_Missing_Missing => k_is)
    (case q3_Missing_LiveError => k_is)
    (case q4_Missing_LiveError => decide +kernel)
    (case q3_Missing_TextError => k_is)
    (case q4_Missing_TextError => decide +kernel)
    (case xL2 => k_is)
    (case xR2 => decide +kernel)
    (case sa2 => k_is)
    (case ga2 => k_is)
    (case gg2 => k_is)
    (case n2_title => k_is)
    (case eC2 => k_is)
    (case tC2 => k_is)
    (case kC2 => k_is)
    (case hC2 => k_is)
    (case cl2 => k_is)
    (case mo2 => k_is)
    (case q3_Twice_NeedError => k_is)
    (case q3_Twice_Beyond => k_is)
    (case q4_Twice_Beyond => decide +kernel)
    (case q3_Twice_Twice => k_is)
    (case q3_Twice_Unlike => k_is)
    (case q4_Twice_Unlike => decide +kernel)
    (case q3_Twice_PaperError => k_is)
    (case q4_Twice_PaperError => decide +kernel)
    (case q3_Twice_UnitError => k_is)
    (case q4_Twice_UnitError => decide +kernel)
    (case q3_Twice_LinkError => k_is)
    (case q3_Twice_NotUsable => k_is)
    (case q4_Twice_NotUsable => decide +kernel)
    (case q3_Twice_Missing => k_is)
    (case q4_Twice_Missing => decide +kernel)
    (case q3_Twice_LiveError => k_is)
    (case q4_Twice_LiveError => decide +kernel)
    (case q3_Twice_TextError => k_is)
    (case q4_Twice_TextError => decide +kernel)
    (case xL3 => k_is)
    (case xR3 => decide +kernel)
    (case sa3 => k_is)
    (case ga3 => k_is)
    (case gg3 => k_is)
    (case n3_title => k_is)
    (case eC3 => k_is)
    (case tC3 => k_is)
    (case kC3 => k_is)
    (case hC3 => k_is)
    (case cl3 => k_is)
    (case mo3 => k_is)
    (case q3_Unlike_NeedError => k_is)
    (case q3_Unlike_Beyond => k_is)
    (case q4_Unlike_Beyond => decide +kernel)
    (case q3_Unlike_Twice => k_is)
    (case q4_Unlike_Twice => decide +kernel)
    (case q3_Unlike_Unlike => k_is)
    (case q3_Unlike_PaperError => k_is)
    (case q4_Unlike_PaperError => decide +kernel)
    (case q3_Unlike_UnitError => k_is)
    (case q4_Unlike_UnitError => decide +kernel)
    (case q3_Unlike_LinkError => k_is)
    (case q3_Unlike_NotUsable => k_is)
    (case q4_Unlike_NotUsable => decide +kernel)
    (case q3_Unlike_Missing => k_is)
    (case q4_Unlike_Missing => decide +kernel)
    (case q3_Unlike_LiveError => k_is)
    (case q4_Unlike_LiveError => decide +kernel)
    (case q3_Unlike_TextError => k_is)
    (case q4_Unlike_TextError => decide +kernel)
    (case xL4 => k_is)
    (case xR4 => decide +kernel)
    (case sa4 => k_is)
    (case ga4 => k_is)
    (case gg4 => k_is)
    (case n4_need => k_is)
    (case eC4 => k_is)
    (case tC4 => k_is)
    (case kC4 => k_is)
    (case hC4 => k_is)
    (case cl4 => k_is)
    (case mo4 => k_is)
    (case q3_Beyond_NeedError => k_is)
    (case q3_Beyond_Beyond => k_is)
    (case q3_Beyond_Twice => k_is)
    (case q4_Beyond_Twice => decide +kernel)
    (case q3_Beyond_Unlike => k_is)
    (case q4_Beyond_Unlike => decide +kernel)
    (case q3_Beyond_PaperError => k_is)
    (case q4_Beyond_PaperError => decide +kernel)
    (case q3_Beyond_UnitError => k_is)
    (case q4_Beyond_UnitError => decide +kernel)
    (case q3_Beyond_LinkError => k_is)
    (case q3_Beyond_NotUsable => k_is)
    (case q4_Beyond_NotUsable => decide +kernel)
    (case q3_Beyond_Missing => k_is)
    (case q4_Beyond_Missing => decide +kernel)
    (case q3_Beyond_LiveError => k_is)
    (case q4_Beyond_LiveError => decide +kernel)
    (case q3_Beyond_TextError => k_is)
    (case q4_Beyond_TextError => decide +kernel)
    (case q1_NeedError => k_is)
    (case q2_NeedError => k_is)
    (case q5_NeedError => k_is)
    (case q1_Beyond => k_is)
    (case q2_Beyond => k_is)
    (case q1_Twice => k_is)
    (case q2_Twice => k_is)
    (case q1_Unlike => k_is)
    (case q2_Unlike => k_is)
    (case q1_PaperError => k_is)
    (case q2_PaperError => k_is)
    (case q1_UnitError => k_is)
    (case q2_UnitError => k_is)
    (case q1_LinkError => k_is)
    (case q2_LinkError => k_is)
    (case q1_NotUsable => k_is)
    (case q2_NotUsable => k_is)
    (case q1_Missing => k_is)
    (case q2_Missing => k_is)
    (case q1_LiveError => k_is)
    (case q2_LiveError => k_is)
    (case q1_TextError => k_is)
    (case q2_TextError => k_is)
    (case sn' => rfl)
    (case tk => k_is)
    (case eT => rfl)
    (case oT => k_is)
    (case vT => rfl)
    (case nT => first | kernel_rfl | rfl)
    (case z_isinstance => k_is)
    (case z_int => k_is)
    (case z_bool => k_is)
    (case z_all => k_is)
    (case z_tuple => k_is)
    (case z_zip => k_is)
    (case z_sorted => k_is)
    (case z_len => k_is)
    (case z_enumerate => k_is)
    (case z_repr => k_is)
    (case z_range => k_is)
    (case z_set => k_is)
    (case z_min => k_is)
    (case z_max => k_is)
    (case z_list => k_is)

