import PyProof.Rows.All
import Wide.All
import OpenK.AllK
import Wide.FinOn
import HandS.ForMost
import HandS.ForExc
import HandS.IsInst
import HandS.Deep
import HandS.ExcInit
import HandS.ExcField
import HandS.ExcOwn
import KE.KExcIs
import HandS.ExcIs
import PySem.Challenge.RW_linkneed_k06_whole_operations
set_option Elab.async false
set_option linter.all false
set_option maxRecDepth 100000
set_option maxHeartbeats 2000000
namespace Lk
open PySem PySem.Spec PyProof.Rows L2
/-! ### heaps and data -/
theorem same_new {H : Hp} {p : Addr} (h : H p = none) (o : HO) : Same H (upd H p o) := fun b u q => by rw [upd_ne (ne_of_none q h)]; exact q
theorem same_del {H H' : Hp} (l : Addr) (e : Same H H') : Same (del H l) (del H' l) := fun b o q => by
  by_cases hb : b = l
  · subst hb; rw [del_same] at q; cases q
  · rw [del_ne hb] at q ⊢; exact e b o q
theorem del_le (H : Hp) (l : Addr) : Same (del H l) H := fun b o q => by
  by_cases hb : b = l
  · subst hb; rw [del_same] at q; cases q
  · rw [del_ne hb] at q; exact q
theorem del_upd (H : Hp) (l : Addr) (o : HO) : del (upd H l o) l = del H l := by
  funext b
  by_cases hb : b = l
  · subst hb; rw [del_same, del_same]
  · rw [del_ne hb, del_ne hb, upd_ne hb]
theorem same_eq {H H' : Hp} (e : H = H') : Same H H' := by subst e; exact Same.refl _
/-- what was tracked and is not at l -/
theorem Same.off {H H' : Hp} {l b : Addr} {o : HO} (e : Same (del H l) (del H' l)) (hb : b ≠ l) (h : H b = some o) : H' b = some o := by
  have q := e b o (by rw [del_ne hb]; exact h)
  rw [del_ne hb] at q
  exact q
theorem seqT_same {K : PySem.W.Frag} {H H' : Hp} {a : Addr} {xs : List V} (e : Same H H') (h : SqT K H a xs) : SqT K H' a xs := by
  rcases h with (h | ⟨o, h⟩) | h
  · exact .inl (.inl (e _ _ h))
  · exact .inl (.inr ⟨o, e _ _ h⟩)
  · exact .inr h
mutual
theorem dp_same {K : PySem.W.Frag} {H H' : Hp} (e : Same H H') : ∀ {v : V} {d : PyData}, Dp K H v d → Dp K H' v d
  | _, _, .non => .non
  | _, _, .bl b => .bl b
  | _, _, .int i => .int i
  | _, _, .str x => .str x
  | _, _, .lst h a => .lst (e.seq h) (dpAll_same e a)
  | _, _, .tup h a => .tup (seqT_same e h) (dpAll_same e a)
theorem dpAll_same {K : PySem.W.Frag} {H H' : Hp} (e : Same H H') : ∀ {vs : List V} {ds : List PyData}, DpAll K H vs ds → DpAll K H' vs ds
  | _, _, .nil => .nil
  | _, _, .cons a b => .cons (dp_same e a) (dpAll_same e b)
end
theorem same_mut {H H' : Hp} {p : Addr} {o : HO} (e : Same H H') (h : H p = none) : Same H (upd H' p o) := fun b u q => by
  rw [upd_ne (ne_of_none q h)]
  exact e b u q
theorem ifT {b : Bool} {A B : Prop} (e : b = true) (h : A) : if b = true then A else B := by subst e; exact iteT h
theorem ifF {b : Bool} {A B : Prop} (e : b = false) (h : B) : if b = true then A else B := by subst e; exact iteF h
theorem ite_both {c : Bool} {A B : Prop} (hB : B) (h : B → c = true → A) : if c = true then A else B := by
  cases c with
  | true => exact iteT (h hB rfl)
  | false => exact iteF hB
theorem dpAll_str {K : PySem.W.Frag} {H : Hp} : ∀ l : List Str, DpAll K H (l.map V.str) (l.map PyData.str)
  | [] => .nil
  | x :: r => .cons (.str x) (dpAll_str r)
def iV (ns : List Int) : List V := ns.map V.int
theorem iV_len (ns : List Int) : (iV ns).length = ns.length := List.length_map _
theorem iV_app (ns : List Int) (i : Int) : iV ns ++ [V.int i] = iV (ns ++ [i]) := by unfold iV; rw [List.map_append]; rfl
theorem iV_get {ns : List Int} {j : Nat} {y : V} (h : (iV ns)[j]? = some y) : ∃ i, ns[j]? = some i ∧ y = .int i := by
  unfold iV at h
  rw [List.getElem?_map] at h
  cases e : ns[j]? with
  | none => rw [e] at h; cases h
  | some i => rw [e] at h; exact ⟨i, rfl, (Option.some.inj h).symm⟩
theorem szl {n : Nat} (h : n ≤ 1000000) : n < sizeLine := Nat.lt_of_le_of_lt h (by decide)
/-! ### kinds of data -/
def tyN : PyData → String
  | .none => "NoneType"
  | .bool _ => "bool"
  | .int _ => "int"
  | .str _ => "str"
  | .list _ => "list"
  | .tuple _ => "tuple"
  | .dict _ => "dict"
def isI : PyData → Bool
  | .int _ => true
  | _ => false
def isB : PyData → Bool
  | .bool _ => true
  | _ => false
def isN : PyData → Bool
  | .int i => decide (0 ≤ i)
  | _ => false
def isW : PyData → Bool
  | .int i => decide (0 ≤ i) && decide (i < 65536)
  | _ => false
theorem ty_of {K : PySem.W.Frag} {H : Hp} {v : V} {d : PyData} (h : Dp K H v d) : TyX K H v (.type (tyN d)) := by
  cases h with
  | non => exact .base .non
  | bl b => exact .base (.bl b)
  | int i => exact .base (.int i)
  | str x => exact .base (.str x)
  | lst h a =>
    rcases h with (h | ⟨o, h⟩) | ⟨o, its, n, h, hc, _⟩
    · exact .base (.lst h)
    · exact .base (.frz h)
    · exact .kList h hc
  | tup h a =>
    rcases h with (h | ⟨o, h⟩) | ⟨o, its, n, h, hc, _⟩
    · exact .base (.tup h)
    · exact .fTuple h
    · exact .kTuple h hc
theorem no_dict {K : PySem.W.Frag} {H : Hp} {v : V} {kvs : List (PyData × PyData)} (h : Dp K H v (.dict kvs)) : False := by cases h
theorem kit_int {K : PySem.W.Frag} {H : Hp} {v : V} {d : PyData} (h : Dp K H v d) : PySem.W.kitOne K (.type (tyN d)) (.type "int") = some (isI d || isB d) := by
  cases h with
  | non => exact kit_ty (a := "NoneType") (b := "int") (r := false) (by decide +kernel)
  | bl b => exact kit_ty (a := "bool") (b := "int") (r := true) (by decide +kernel)
  | int i => exact kit_ty (a := "int") (b := "int") (r := true) (by decide +kernel)
  | str x => exact kit_ty (a := "str") (b := "int") (r := false) (by decide +kernel)
  | lst h a => exact kit_ty (a := "list") (b := "int") (r := false) (by decide +kernel)
  | tup h a => exact kit_ty (a := "tuple") (b := "int") (r := false) (by decide +kernel)
theorem kit_bool {K : PySem.W.Frag} {H : Hp} {v : V} {d : PyData} (h : Dp K H v d) : PySem.W.kitOne K (.type (tyN d)) (.type "bool") = some (isB d) := by
  cases h with
  | non => exact kit_ty (a := "NoneType") (b := "bool") (r := false) (by decide +kernel)
  | bl b => exact kit_ty (a := "bool") (b := "bool") (r := true) (by decide +kernel)
  | int i => exact kit_ty (a := "int") (b := "bool") (r := false) (by decide +kernel)
  | str x => exact kit_ty (a := "str") (b := "bool") (r := false) (by decide +kernel)
  | lst h a => exact kit_ty (a := "list") (b := "bool") (r := false) (by decide +kernel)
  | tup h a => exact kit_ty (a := "tuple") (b := "bool") (r := false) (by decide +kernel)
theorem isI_int {K : PySem.W.Frag} {H : Hp} {v : V} {d : PyData} (h : Dp K H v d) (e : isI d = true) : ∃ i, v = .int i ∧ d = .int i := by
  cases h <;> first | exact ⟨_, rfl, rfl⟩ | cases e
theorem dp_get {K : PySem.W.Frag} {H : Hp} : ∀ {vs : List V} {ds : List PyData} {i : Nat} {v : V}, DpAll K H vs ds → vs[i]? = some v → ∃ d, d ∈ ds ∧ ds[i]? = some d ∧ Dp K H v d
  | _, _, _, _, .nil, e => by simp at e
  | _, _, 0, _, .cons a b, e => by
    simp at e
    subst e
    exact ⟨_, List.mem_cons_self .., rfl, a⟩
  | _, _, i + 1, _, .cons a b, e => by
    obtain ⟨d, h1, h2, h3⟩ := dp_get b (i := i) (by simpa using e)
    exact ⟨d, List.mem_cons_of_mem _ h1, by simpa using h2, h3⟩
theorem dp_len {K : PySem.W.Frag} {H : Hp} : ∀ {vs : List V} {ds : List PyData}, DpAll K H vs ds → vs.length = ds.length
  | _, _, .nil => rfl
  | _, _, .cons a b => by simp [dp_len b]
theorem dp_at {K : PySem.W.Frag} {H : Hp} {vs : List V} {ds : List PyData} {r : Int} (h : DpAll K H vs ds) (h0 : 0 ≤ r) (h1 : r < (ds.length : Int)) : ∃ v d, atI vs r = some v ∧ d ∈ ds ∧ ds[r.toNat]? = some d ∧ Dp K H v d := by
  obtain ⟨n, rfl⟩ : ∃ n : Nat, r = (n : Int) := ⟨r.toNat, by omega⟩
  have hl := dp_len h
  have hn : n < vs.length := by omega
  obtain ⟨d, m, e, q⟩ := dp_get h (List.getElem?_eq_getElem hn)
  exact ⟨vs[n], d, atI_nat (List.getElem?_eq_getElem hn), m, by simpa using e, q⟩
theorem PS.as {X : Cx} {st : Stmt} {t : TS} (t' : TS) (h : L2.PS X st t) (e : t = t' := by rfl) : L2.PS X st t' := e ▸ h
theorem passAt0 {X : Cx} : ∀ σ, PassesAt CX0 X σ ((fun _ => E0) σ) := fun _ _ _ _ _ _ _ h => h.elim
/-! ### in and not in of tuples, items of any depth -/
section
variable {X : Cx}
def rInU (K : PySem.W.Frag) (neg : Bool) : R2 := fun x y H Q => ∃ d ds, Dp K H x d ∧ Dp K H y (.tuple ds) ∧ SeqAt.shaped d = true ∧ SeqAt.shaped (.tuple ds) = true ∧ Q (.bl (if neg then !(ds.any fun z => PyData.eqv z d) else ds.any fun z => PyData.eqv z d)) H
theorem op_inU (hu : X.A.units + 65 < cLine) : OpR X (compareOp .In) (rInU X.K false) := by
  rintro ps₁ s₁ τ G a b va vb R J ra rb ⟨da, db, ha, hb, sa, sb, q⟩
  have ⟨_, w1⟩ := Dp.reads J da a va ha ra
  have ⟨_, w2⟩ := Dp.reads J (.tuple db) b vb hb rb
  exact SeqAt.in_tuple_reads w2 w1 (SeqAt.canLay_of_shaped sb) (SeqAt.canLay_of_shaped sa) (room_in_shaped sa hu) ⟨.bl _, G, J, rfl, q⟩
theorem op_notInU (hu : X.A.units + 65 < cLine) : OpR X (compareOp .NotIn) (rInU X.K true) := by
  rintro ps₁ s₁ τ G a b va vb R J ra rb ⟨da, db, ha, hb, sa, sb, q⟩
  have ⟨_, w1⟩ := Dp.reads J da a va ha ra
  have ⟨_, w2⟩ := Dp.reads J (.tuple db) b vb hb rb
  exact SeqAt.notIn_tuple_reads w2 w1 (SeqAt.canLay_of_shaped sb) (SeqAt.canLay_of_shaped sa) (room_in_shaped sa hu) ⟨.bl _, G, J, rfl, q⟩
/-! ### f(k = v, ..), keywords alone; it may raise, in a try -/
variable {CX : CXT} {k : Nat} {f : Addr} {fd : FuncData} {ps ks : List Str} {sp : Sp} {E : L2.St → XK} {x : Str} {p pos : Pos} {kws : List Keyword} {tk : TA}
  {g : List Value → List Value → List Value} {gV : List V → List V → List V}
def tCallKS (sp : Sp) (gV : List V → List V → List V) (E : L2.St → XK) (tk : TA) : TE := fun σ H Q => tk σ H fun zs H2 => sp (gV [] zs) H2 Q (E σ)
theorem run_fnkS {pins : List (Addr × Obj)} {σ : L2.St} {H : Hp} {s : Shared} {Q : VK} {us ws : List Value} {vs zs : List V} (F : FnOk X.prog X.w X.K X.mg X.base CX k f fd ps sp) (hr : Room k X.A) (hb : KBinds X.K fd ps ks g gV) (hx : PassesAt CX X σ (E σ))
    (I : Inv X pins σ H s) (r : Vals vs us) (rz : Vals zs ws) (h : sp (gV vs zs) H Q (E σ)) : wpAny (model X.prog X.w) X.A (call (.ref f) us (ks.zip ws)) (EP X pins σ Q) X.xe s := by
  have rr := hb.rel r rz
  have len : (g us ws).length = ps.length := rr.length ▸ F.len _ _ _ _ h
  refine wpAny_call (codeAny_mono (F.run X.A X.stack s H ⟨us, ks.zip ws⟩ (g us ws) (gV vs zs) Q (E σ) hr I.env0 (hb.to s us ws I.kIn len) rr h) fun o s₂ ho => ?_)
  match o, ho with
  | .error e, ho => exact hx pins H s e s₂ I ho
  | .ok (.ret _), ho => exact I.after ho
  | .ok .next, ho => exact ho.elim
  | .ok .brk, ho => exact ho.elim
  | .ok .cont, ho => exact ho.elim
theorem pe_callKS (F : FnOk X.prog X.w X.K X.mg X.base CX k f fd ps sp) (hr : Room k X.A) (hg : Gl X x) (hm : X.mg x = some (.ref f)) (hk : PySem.W.keepIn X.K (.ref f) = true) (hb : KBinds X.K fd ps ks g gV) (hx : ∀ σ, PassesAt CX X σ (E σ))
    (hkw : PK X kws tk) (hall : (backToKw pos (keywordEach kws X.env)).all (·.1.isSome) = true := by rfl) (hks : (backToKw pos (keywordEach kws X.env)).filterMap (·.1) = ks := by rfl)
    (hdb : (x == ("__debug__" : Str)) = false := by decide)
    (hpl : ((backTo pos (starEach [] X.env)).any (·.1) || (backToKw pos (keywordEach kws X.env)).any (·.1.isNone)) = false := by rfl) :
    PE X (.Call (.Name x p) [] kws pos) (tCallKS sp gV E tk) := by
  refine ⟨fun pins s σ H Q I h => ?_⟩
  refine wpAny_Call_Name_kw (ld_glob I hg hm ?_ hdb)
  refine PySem.W.callWith_KW0 (M := model X.prog X.w) (h₀ := X.base) I.ok.mod.kin hk hall ?_ hpl
  refine thn (hkw.run pos pins s σ H _ I h) fun ws s2 ⟨zs, H2, I2, rz, q2⟩ => ⟨I2.kIn, ?_⟩
  rw [hks]
  exact run_fnkS (us := []) (vs := []) F hr hb (hx σ) I2 .nil rz q2
/-! ### isinstance of the error that a suite holds, an own class's instance with fields -/
structure ExcK (K : PySem.W.Frag) (C : Addr) : Prop where
  hc : (PySem.W.clsIn K C).isSome = true
  hg : PySem.W.findIn K (.ref C) "__getattribute__" = some (some (.builtin "BaseException.__getattribute__"))
  hk : PySem.W.findIn K (.ref C) "__getattr__" = some none
  hs : PySem.W.subIn K (.ref C) (.type "BaseException") = some true
  ha : PySem.W.findIn K (.ref C) "__class__" = some (some (.builtin "object.__class__"))
  hn : PySem.W.specialIn K (.builtin "object.__class__") "__get__" = some (some (.builtin "getset_descriptor.__get__"))
  ht : PySem.W.takesIn K (.builtin "object.__class__") = some true
  hm : PySem.W.mroIn K C (.type "object") = some true
def rIsX (K : PySem.W.Frag) (a : Addr) (cls : Value) (d : Option Addr) : List V → Hp → VK → Prop := fun xs H Q => ∃ (C dd : Addr) (fs : List (Str × V)) (c : V) (u : Value) (b : Bool),
  cls = .ref C ∧ d = some dd ∧ H dd = some (.xd fs) ∧ ExcK K C ∧ xs = [.ref a, c] ∧ ClsV c u ∧ PySem.W.kitOne K (.ref C) u = some b ∧ Q (.bl b) H
def rIsXT (K : PySem.W.Frag) (a : Addr) (cls : Value) (d : Option Addr) : List V → Hp → VK → Prop := fun xs H Q => ∃ (C dd : Addr) (fs : List (Str × V)) (tp : Addr) (cs : List V) (us : List Value) (b : Bool),
  cls = .ref C ∧ d = some dd ∧ H dd = some (.xd fs) ∧ ExcK K C ∧ xs = [.ref a, .ref tp] ∧ H tp = some (.tup cs) ∧ Paired ClsV cs us ∧ PySem.W.kitAny K (.ref C) us = some b ∧ Q (.bl b) H
theorem inst_x {a C dd : Addr} {fs : List (Str × V)} {cls : Value} {d : Option Addr} {oe : Obj} {pn pins : List (Addr × Obj)} {σ : L2.St} {H : Hp} {s : Shared} (hz : Zc cls d oe) (hf : ∃ vs, oe.data = .fields vs) (I : Inv (X.suite a ((a, oe) :: pn)) pins σ H s) (e1 : cls = .ref C) (e2 : d = some dd) (e3 : H dd = some (.xd fs)) :
    ∃ od, PySem.W.InstAt s.heap a oe C od := by
  subst e1 e2
  have ⟨hget, _⟩ := I.pin (a, oe) (List.mem_append_left _ List.mem_cons_self)
  have ⟨vs, hd⟩ := hf
  have ⟨_, hns, _⟩ := (show ObjOk X.prog X.w H s.heap dd (.xd fs) from I.hok dd _ e3)
  have ⟨od, ho, _⟩ := lookIn_ns hns
  exact ⟨some od, ⟨hget, hz.1, by unfold PySem.W.notCls; rw [hd] <;> rfl, by rw [hz.2]; exact ho⟩⟩
theorem call_isX {a : Addr} {cls : Value} {d : Option Addr} {oe : Obj} {pn : List (Addr × Obj)} (hz : Zc cls d oe) (hf : ∃ vs, oe.data = .fields vs) : CallR (X.suite a ((a, oe) :: pn)) (.builtin "isinstance") (rIsX X.K a cls d) := by
  rintro ps₁ s₁ τ G xs us R J r ⟨C, dd, fs, c, u, b, e1, e2, e3, T, rfl, k, e, q⟩
  have ⟨v1, v2, ev, w1, w2⟩ := vals2 r
  subst ev
  have ec := k.eq w2
  subst ec
  obtain rfl : v1 = Value.ref a := w1
  have ⟨od, at_⟩ := inst_x hz hf J e1 e2 e3
  exact PySem.W.kia_one (PySem.W.kitx_exc T.hc T.hg T.hk T.hs T.ha T.hn T.ht T.hm) J.kIn at_ e (fun z => nomatch z) fun tk => ⟨.bl b, G, J.tok tk, rfl, q⟩
theorem call_isXT {a : Addr} {cls : Value} {d : Option Addr} {oe : Obj} {pn : List (Addr × Obj)} (hz : Zc cls d oe) (hf : ∃ vs, oe.data = .fields vs) : CallR (X.suite a ((a, oe) :: pn)) (.builtin "isinstance") (rIsXT X.K a cls d) := by
  rintro ps₁ s₁ τ G xs us R J r ⟨C, dd, fs, tp, cs, ws, b, e1, e2, e3, T, rfl, hT, k, e, q⟩
  have ⟨v1, v2, ev, w1, w2⟩ := vals2 r
  subst ev
  obtain rfl : v2 = Value.ref tp := w2
  obtain rfl : v1 = Value.ref a := w1
  have ⟨od, at_⟩ := inst_x hz hf J e1 e2 e3
  obtain ⟨_, its, rv, ⟨oc, od', dt, sl⟩, g1, g2, n, g3⟩ : ObjOk X.prog X.w G s₁.heap tp (.tup cs) := J.hok tp _ hT
  have ew := ClsV.all k rv
  subst ew
  obtain rfl : oc = .type "tuple" := g2
  obtain rfl : dt = _ := g3
  exact PySem.W.kia_tup (PySem.W.kitx_exc T.hc T.hg T.hk T.hs T.ha T.hn T.ht T.hm) J.kIn at_ g1 e (fun z => nomatch z) fun tk => ⟨.bl b, G, J.tok tk, rfl, q⟩
end
end Lk

set_option Elab.async false
set_option linter.all false
set_option maxRecDepth 100000
set_option maxHeartbeats 2000000
namespace Lk
open PySem PySem.Spec PyProof.Rows L2
def top (i : Nat) : Stmt := PySem.Challenge.pw_linkneed_k06_whole_operations.main.body.getD i (.Pass ⟨0, 0, 0, 0⟩)
abbrev s_NotUsable___init__ : Stmt := inClass (top 7) 0
abbrev sl_NotUsable___init__ : List Str := ["self", "word", "at"]
theorem sc_NotUsable___init__ : FnScope sl_NotUsable___init__ ["self", "word", "at"] (defScope s_NotUsable___init__) := ⟨rfl, rfl, rfl, by decide +kernel, rfl, by decide +kernel, by decide +kernel⟩
abbrev s_is_integer : Stmt := top 10
abbrev sl_is_integer : List Str := ["thing"]
theorem sc_is_integer : FnScope sl_is_integer ["thing"] (defScope s_is_integer) := ⟨rfl, rfl, rfl, by decide +kernel, rfl, by decide +kernel, by decide +kernel⟩
abbrev s_is_number : Stmt := top 11
abbrev sl_is_number : List Str := ["thing"]
theorem sc_is_number : FnScope sl_is_number ["thing"] (defScope s_is_number) := ⟨rfl, rfl, rfl, by decide +kernel, rfl, by decide +kernel, by decide +kernel⟩
abbrev s_is_word : Stmt := top 12
abbrev sl_is_word : List Str := ["thing"]
theorem sc_is_word : FnScope sl_is_word ["thing"] (defScope s_is_word) := ⟨rfl, rfl, rfl, by decide +kernel, rfl, by decide +kernel, by decide +kernel⟩
abbrev s_operated : Stmt := top 15
abbrev sl_operated : List Str := ["operation", "one", "other"]
theorem sc_operated : FnScope sl_operated ["operation", "one", "other"] (defScope s_operated) := ⟨rfl, rfl, rfl, by decide +kernel, rfl, by decide +kernel, by decide +kernel⟩
abbrev s__divided : Stmt := top 16
abbrev sl__divided : List Str := ["operation", "one", "other"]
theorem sc__divided : FnScope sl__divided ["operation", "one", "other"] (defScope s__divided) := ⟨rfl, rfl, rfl, by decide +kernel, rfl, by decide +kernel, by decide +kernel⟩
abbrev s__reckoned : Stmt := top 17
abbrev sl__reckoned : List Str := ["operation", "one", "other"]
theorem sc__reckoned : FnScope sl__reckoned ["operation", "one", "other"] (defScope s__reckoned) := ⟨rfl, rfl, rfl, by decide +kernel, rfl, by decide +kernel, by decide +kernel⟩
abbrev s__law_tape : Stmt := top 19
abbrev sl__law_tape : List Str := ["_law_script", "_law_tape_here", "_law_state", "_law_at", "_law_cell", "_law_rest", "_law_k"]
theorem sc__law_tape : FnScope sl__law_tape ["_law_script"] (defScope s__law_tape) := ⟨rfl, rfl, rfl, by decide +kernel, rfl, by decide +kernel, by decide +kernel⟩
abbrev s__law_take : Stmt := top 20
abbrev sl__law_take : List Str := ["_law_tape_here", "_law_many"]
theorem sc__law_take : FnScope sl__law_take ["_law_tape_here", "_law_many"] (defScope s__law_take) := ⟨rfl, rfl, rfl, by decide +kernel, rfl, by decide +kernel, by decide +kernel⟩
abbrev s__law_word : Stmt := top 21
abbrev sl__law_word : List Str := ["_law_tape_here", "_law_edges", "_law_sort"]
theorem sc__law_word : FnScope sl__law_word ["_law_tape_here"] (defScope s__law_word) := ⟨rfl, rfl, rfl, by decide +kernel, rfl, by decide +kernel, by decide +kernel⟩
abbrev s__law_fits : Stmt := top 22
abbrev sl__law_fits : List Str := ["_law_verb", "_law_first", "_law_second", "_law_told", "_law_k"]
theorem sc__law_fits : FnScope sl__law_fits ["_law_verb", "_law_first", "_law_second", "_law_told"] (defScope s__law_fits) := ⟨rfl, rfl, rfl, by decide +kernel, rfl, by decide +kernel, by decide +kernel⟩
abbrev s__law_refused : Stmt := top 23
abbrev sl__law_refused : List Str := ["_law_verb", "_law_first", "_law_second", "_law_name", "_law_told", "_law_by_name", "e"]
theorem sc__law_refused : FnScope sl__law_refused ["_law_verb", "_law_first", "_law_second", "_law_name"] (defScope s__law_refused) := ⟨rfl, rfl, rfl, by decide +kernel, rfl, by decide +kernel, by decide +kernel⟩
abbrev s__law_all_refused : Stmt := top 24
abbrev sl__law_all_refused : List Str := ["_law_tape_here", "_law_kinds", "_law_things", "_law_names", "_law_at", "_law_kind", "_law_thing", "_law_name"]
theorem sc__law_all_refused : FnScope sl__law_all_refused ["_law_tape_here"] (defScope s__law_all_refused) := ⟨rfl, rfl, rfl, by decide +kernel, rfl, by decide +kernel, by decide +kernel⟩
abbrev s_law : Stmt := top 25
abbrev sl_law : List Str := ["_law_script", "_law_tape_here", "_law_turn", "_law_first", "_law_second", "_law_verb", "_law_told"]
theorem sc_law : FnScope sl_law ["_law_script"] (defScope s_law) := ⟨rfl, rfl, rfl, by decide +kernel, rfl, by decide +kernel, by decide +kernel⟩
/-! ### what is computed -/
inductive Vb | add | sub | mul | div | rem | less | same
deriving DecidableEq
def Vb.s : Vb → Str
  | .add => "add"
  | .sub => "sub"
  | .mul => "mul"
  | .div => "div"
  | .rem => "rem"
  | .less => "less"
  | .same => "same"
def opV : Vb → Int → Int → V
  | .add, i, j => .int ((i + j).fmod 65536)
  | .sub, i, j => .int ((i - j).fmod 65536)
  | .mul, i, j => .int ((i * j).fmod 65536)
  | .div, i, j => if j = 0 then .non else .int (i.fdiv j)
  | .rem, i, j => if j = 0 then .non else .int (i.fmod j)
  | .less, i, j => .int (if decide (i < j) = true then 1 else 0)
  | .same, i, j => .int (if decide (V.int i = V.int j) = true then 1 else 0)
def ops : List Str := ["add", "sub", "mul", "div", "rem", "less", "same"]
def isOp (d : PyData) : Bool := (ops.map PyData.str).any fun z => PyData.eqv z d
def bad (dx dy dz : PyData) : Option Str := if isOp dx = false then some "operation" else if isW dy = false then some "one" else if isW dz = false then some "other" else none
/-! ### promises -/
def spInit (C : Addr) : Sp := fun vs H Q _ => ∃ (a : Addr) (x y : V), vs = [.ref a, x, y] ∧ H a = some (exo a C none) ∧
  ∀ (d : Addr) (H' : Hp), H d = none → d ≠ a → H' a = some (exo a C (some d)) → H' d = some (exd d [("at", y), ("word", x)]) → (∀ b o, b ≠ a → H b = some o → H' b = some o) → Q .non H'
def sp1 (g : PyData → Bool) (K : PySem.W.Frag) : Sp := fun vs H Q _ => ∃ (x : V) (d : PyData), vs = [x] ∧ Dp K H x d ∧ Q (.bl (g d)) H
def spDiv : Sp := fun vs H Q _ => ∃ (v : Vb) (i j : Int), vs = [.str v.s, .int i, .int j] ∧ (v = .div ∨ v = .rem) ∧ 0 ≤ j ∧ j < 65536 ∧ Q (opV v i j) H
def spRec : Sp := fun vs H Q _ => ∃ (v : Vb) (i j : Int), vs = [.str v.s, .int i, .int j] ∧ (0 ≤ j ∧ j < 65536) ∧ ((v = .add ∧ Q (.int (i + j)) H) ∨ (v = .sub ∧ Q (.int (i - j)) H) ∨ (v = .mul ∧ Q (.int (i * j)) H))
def spOpG : Sp := fun vs H Q _ => ∃ (v : Vb) (i j : Int), vs = [.str v.s, .int i, .int j] ∧ 0 ≤ i ∧ i < 65536 ∧ 0 ≤ j ∧ j < 65536 ∧ ∀ H', Same H H' → Q (opV v i j) H'
def spOpB (K : PySem.W.Frag) (C : Addr) : Sp := fun vs H Q E => ∃ (x y z : V) (dx dy dz : PyData) (n : Str), vs = [x, y, z] ∧ Dp K H x dx ∧ Dp K H y dy ∧ Dp K H z dz ∧ SeqAt.shaped dx = true ∧ bad dx dy dz = some n ∧
  ∀ (d : Addr) (H' : Hp), Same H H' → H d = none → H' d = some (.xd [("at", .int (-1)), ("word", .str n)]) → E (.ref C) (some d) H'
def spTape (K : PySem.W.Frag) : Sp := fun vs H Q _ => ∃ (a : Addr) (ns : List Int), vs = [.ref a] ∧ SqL K H a (iV ns) ∧ ns.length ≤ 63 ∧ ∀ (p : Addr) (H' : Hp) (ms : List Int), Same H H' → H p = none → H' p = some (.lst (iV ms)) → Q (.ref p) H'
def spTake : Sp := fun vs H Q _ => ∃ (l : Addr) (ns : List Int) (m : Int), vs = [.ref l, .int m] ∧ H l = some (.lst (iV ns)) ∧ 0 < m ∧ ∀ (r : Int) (ms : List Int) (H' : Hp), 0 ≤ r → r < m → H' l = some (.lst (iV ms)) → Same (del H l) (del H' l) → Q (.int r) H'
def spWord : Sp := fun vs H Q _ => ∃ (l : Addr) (ns : List Int), vs = [.ref l] ∧ H l = some (.lst (iV ns)) ∧ ∀ (r : Int) (ms : List Int) (H' : Hp), 0 ≤ r → r < 65536 → H' l = some (.lst (iV ms)) → Same (del H l) (del H' l) → Q (.int r) H'
def spFits : Sp := fun vs H Q _ => ∃ (v : Vb) (i j : Int), vs = [.str v.s, .int i, .int j, opV v i j] ∧ 0 ≤ i ∧ i < 65536 ∧ 0 ≤ j ∧ j < 65536 ∧ ∀ H', Same H H' → Q (.bl true) H'
def spRefused (K : PySem.W.Frag) : Sp := fun vs H Q _ => ∃ (x y z : V) (dx dy dz : PyData) (n : Str), vs = [x, y, z, .str n] ∧ Dp K H x dx ∧ Dp K H y dy ∧ Dp K H z dz ∧ SeqAt.shaped dx = true ∧ bad dx dy dz = some n ∧ ∀ H', Same H H' → Q (.bl true) H'
def spAll : Sp := fun vs H Q _ => ∃ (l : Addr) (ns : List Int), vs = [.ref l] ∧ H l = some (.lst (iV ns)) ∧ ∀ H', Q (.bl true) H'
def spLaw (K : PySem.W.Frag) : Sp := fun vs H Q _ => ∃ (a : Addr) (ns : List Int), vs = [.ref a] ∧ SqL K H a (iV ns) ∧ ns.length ≤ 63 ∧ ∀ H', Q (.bl true) H'
/-! ### what the top has written -/
structure Txt (K : PySem.W.Frag) (mg : Str → Option Value) where
  C_NotUsable : Addr
  C_NeedError : Addr
  C_UnitError : Addr
  C_LinkError : Addr
  C_LiveError : Addr
  C_PaperError : Addr
  C_TextError : Addr
  f_NotUsable__init__ : Addr
  d_NotUsable__init__ : FuncData
  F_NotUsable__init__ : Fun K "__init__" "NotUsable.__init__" s_NotUsable___init__ f_NotUsable__init__ d_NotUsable__init__
  x_NotUsable : OexC K C_NotUsable
  xk : ExcK K C_NotUsable
  xf : XfC K C_NotUsable
  i_NotUsable : PySem.W.findIn K (.ref C_NotUsable) "__init__" = some (some (.ref f_NotUsable__init__))
  t_NotUsable : PySem.W.typeIn K (.ref f_NotUsable__init__) = some (.type "function")
  nW : PySem.W.findIn K (.ref C_NotUsable) "word" = some none
  nA : PySem.W.findIn K (.ref C_NotUsable) "at" = some none
  mC_NotUsable : mg "NotUsable" = some (.ref C_NotUsable)
  mC_NeedError : mg "NeedError" = some (.ref C_NeedError)
  mC_UnitError : mg "UnitError" = some (.ref C_UnitError)
  mC_LinkError : mg "LinkError" = some (.ref C_LinkError)
  mC_LiveError : mg "LiveError" = some (.ref C_LiveError)
  mC_PaperError : mg "PaperError" = some (.ref C_PaperError)
  mC_TextError : mg "TextError" = some (.ref C_TextError)
  exN : PySem.W.exmOne K (.ref C_NotUsable) (.ref C_NeedError) = some true
  isN : PySem.W.kitOne K (.ref C_NotUsable) (.ref C_NotUsable) = some true
  isU : PySem.W.kitOne K (.ref C_NotUsable) (.ref C_UnitError) = some true
  isV : PySem.W.kitOne K (.ref C_NotUsable) (.type "ValueError") = some true
  isT : PySem.W.kitAny K (.ref C_NotUsable) [.ref C_LinkError, .ref C_LiveError, .ref C_PaperError, .ref C_TextError] = some false
  b_NotUsable__init__ : Binds K d_NotUsable__init__ ["self", "word", "at"] []
  f_is_integer : Addr
  d_is_integer : FuncData
  F_is_integer : Fun K "is_integer" "is_integer" s_is_integer f_is_integer d_is_integer
  m_is_integer : mg "is_integer" = some (.ref f_is_integer)
  k_is_integer : PySem.W.keepIn K (.ref f_is_integer) = true
  b_is_integer : Binds K d_is_integer ["thing"] []
  f_is_number : Addr
  d_is_number : FuncData
  F_is_number : Fun K "is_number" "is_number" s_is_number f_is_number d_is_number
  m_is_number : mg "is_number" = some (.ref f_is_number)
  k_is_number : PySem.W.keepIn K (.ref f_is_number) = true
  b_is_number : Binds K d_is_number ["thing"] []
  f_is_word : Addr
  d_is_word : FuncData
  F_is_word : Fun K "is_word" "is_word" s_is_word f_is_word d_is_word
  m_is_word : mg "is_word" = some (.ref f_is_word)
  k_is_word : PySem.W.keepIn K (.ref f_is_word) = true
  b_is_word : Binds K d_is_word ["thing"] []
  f_operated : Addr
  d_operated : FuncData
  F_operated : Fun K "operated" "operated" s_operated f_operated d_operated
  m_operated : mg "operated" = some (.ref f_operated)
  k_operated : PySem.W.keepIn K (.ref f_operated) = true
  b_operated : Binds K d_operated ["operation", "one", "other"] []
  w1_operated : KBinds K d_operated ["operation", "one", "other"] ["other", "operation", "one"] (fun us ws => match us, ws with | [], [c, a, b] => [a, b, c] | _, _ => []) (fun vs zs => match vs, zs with | [], [c, a, b] => [a, b, c] | _, _ => [])
  w2_operated : KBinds K d_operated ["operation", "one", "other"] ["one", "other", "operation"] (fun us ws => match us, ws with | [], [b, c, a] => [a, b, c] | _, _ => []) (fun vs zs => match vs, zs with | [], [b, c, a] => [a, b, c] | _, _ => [])
  f__divided : Addr
  d__divided : FuncData
  F__divided : Fun K "_divided" "_divided" s__divided f__divided d__divided
  m__divided : mg "_divided" = some (.ref f__divided)
  k__divided : PySem.W.keepIn K (.ref f__divided) = true
  b__divided : Binds K d__divided ["operation", "one", "other"] []
  f__reckoned : Addr
  d__reckoned : FuncData
  F__reckoned : Fun K "_reckoned" "_reckoned" s__reckoned f__reckoned d__reckoned
  m__reckoned : mg "_reckoned" = some (.ref f__reckoned)
  k__reckoned : PySem.W.keepIn K (.ref f__reckoned) = true
  b__reckoned : Binds K d__reckoned ["operation", "one", "other"] []
  f__law_tape : Addr
  d__law_tape : FuncData
  F__law_tape : Fun K "_law_tape" "_law_tape" s__law_tape f__law_tape d__law_tape
  m__law_tape : mg "_law_tape" = some (.ref f__law_tape)
  k__law_tape : PySem.W.keepIn K (.ref f__law_tape) = true
  b__law_tape : Binds K d__law_tape ["_law_script"] []
  f__law_take : Addr
  d__law_take : FuncData
  F__law_take : Fun K "_law_take" "_law_take" s__law_take f__law_take d__law_take
  m__law_take : mg "_law_take" = some (.ref f__law_take)
  k__law_take : PySem.W.keepIn K (.ref f__law_take) = true
  b__law_take : Binds K d__law_take ["_law_tape_here", "_law_many"] []
  f__law_word : Addr
  d__law_word : FuncData
  F__law_word : Fun K "_law_word" "_law_word" s__law_word f__law_word d__law_word
  m__law_word : mg "_law_word" = some (.ref f__law_word)
  k__law_word : PySem.W.keepIn K (.ref f__law_word) = true
  b__law_word : Binds K d__law_word ["_law_tape_here"] []
  f__law_fits : Addr
  d__law_fits : FuncData
  F__law_fits : Fun K "_law_fits" "_law_fits" s__law_fits f__law_fits d__law_fits
  m__law_fits : mg "_law_fits" = some (.ref f__law_fits)
  k__law_fits : PySem.W.keepIn K (.ref f__law_fits) = true
  b__law_fits : Binds K d__law_fits ["_law_verb", "_law_first", "_law_second", "_law_told"] []
  f__law_refused : Addr
  d__law_refused : FuncData
  F__law_refused : Fun K "_law_refused" "_law_refused" s__law_refused f__law_refused d__law_refused
  m__law_refused : mg "_law_refused" = some (.ref f__law_refused)
  k__law_refused : PySem.W.keepIn K (.ref f__law_refused) = true
  b__law_refused : Binds K d__law_refused ["_law_verb", "_law_first", "_law_second", "_law_name"] []
  f__law_all_refused : Addr
  d__law_all_refused : FuncData
  F__law_all_refused : Fun K "_law_all_refused" "_law_all_refused" s__law_all_refused f__law_all_refused d__law_all_refused
  m__law_all_refused : mg "_law_all_refused" = some (.ref f__law_all_refused)
  k__law_all_refused : PySem.W.keepIn K (.ref f__law_all_refused) = true
  b__law_all_refused : Binds K d__law_all_refused ["_law_tape_here"] []
  f_law : Addr
  d_law : FuncData
  F_law : Fun K "law" "law" s_law f_law d_law
  t_WB : Tok
  c_WORD_BOUND : mg "WORD_BOUND" = some (.int 65536 t_WB)
  a_OPERATIONS : Addr
  c_OPERATIONS : mg "OPERATIONS" = some (.ref a_OPERATIONS)
  s_OPERATIONS : ∀ H, SqT K H a_OPERATIONS (ops.map V.str)
  z_len : mg "len" = none
  z_int : mg "int" = none
  z_bool : mg "bool" = none
  z_range : mg "range" = none
  z_isinstance : mg "isinstance" = none
  z_ValueError : mg "ValueError" = none
section
variable {P : Program} {w : World} {K : PySem.W.Frag} {mg : Str → Option Value} {base : Heap}
theorem ok_init (T : Txt K mg) : FnOk P w K mg base CX0 1 T.f_NotUsable__init__ T.d_NotUsable__init__ ["self", "word", "at"] (spInit T.C_NotUsable) := by
  have nd := sc_NotUsable___init__.nd
  refine T.F_NotUsable__init__.ok sc_NotUsable___init__ (fun vs H Q E h => ?_) (fun cdv A outer s H vs Q E hr h => ?_)
  · obtain ⟨a, x, y, rfl, _⟩ := h
    rfl
  obtain ⟨a, x, y, rfl, ha, k⟩ := h
  refine ⟨_, (pss_cons (ps_ost (pv 0) (pv 1))
      (pss_one (ps_ost (pv 0) (pv 2)))), ?_⟩
  refine ⟨_, rfl, _, rfl, a, T.C_NotUsable, rfl, T.x_NotUsable, T.nW, .inl ⟨ha, fun d hd hda => ?_⟩⟩
  refine ⟨_, rfl, _, rfl, a, T.C_NotUsable, rfl, T.x_NotUsable, T.nA, .inr ⟨d, [("word", x)], ?_, ?_, (by show 1 ≤ 900; decide), ?_⟩⟩
  · exact upd_same
  · rw [upd_ne hda]; exact upd_same
  · refine k d _ hd hda ?_ ?_ ?_
    · rw [upd_ne hda.symm, upd_same]
    · exact upd_same
    · intro b o hb e
      have hbd : b ≠ d := ne_of_none e hd
      rw [upd_ne hbd, upd_ne hb, upd_ne hbd]
      exact e
theorem ok_is_integer (T : Txt K mg) : FnOk P w K mg base CX0 1 T.f_is_integer T.d_is_integer ["thing"] (sp1 isI K) := by
  have nd := sc_is_integer.nd
  refine T.F_is_integer.ok sc_is_integer (fun vs H Q E h => ?_) (fun cdv A outer s H vs Q E hr h => ?_)
  · obtain ⟨x, d, rfl, _⟩ := h
    rfl
  obtain ⟨x, d, rfl, hd, k⟩ := h
  refine ⟨_, (pss_one (ps_ret (pe_and (pe_callB call_isi (by rfl) T.z_isinstance (by decide +kernel) (pa_cons (pv 0) (pa_cons (pe_bltn (v := .ty "int") rfl T.z_int (by decide +kernel) rfl) pa_nil))) (pe_one (pe_not (pe_callB call_isi (by rfl) T.z_isinstance (by decide +kernel) (pa_cons (pv 0) (pa_cons (pe_bltn (v := .ty "bool") rfl T.z_bool (by decide +kernel) rfl) pa_nil)))))))), ?_⟩
  refine ⟨_, rfl, x, .ty "int", _, _, _, rfl, .ty "int", ty_of hd, kit_int hd, _, rfl, ?_⟩
  refine ite2 (fun c => ?_) (fun c => ?_)
  · refine ⟨_, rfl, x, .ty "bool", _, _, _, rfl, .ty "bool", ty_of hd, kit_bool hd, _, rfl, ?_⟩
    have e : (!isB d) = isI d := by cases hd <;> first | rfl | (simp [isI, isB] at c)
    rw [e]
    exact k
  · have e : isI d = false := by cases hd <;> first | rfl | (exact absurd rfl c)
    rw [e] at k
    exact k
theorem ok_is_number (T : Txt K mg) : FnOk P w K mg base CX0 2 T.f_is_number T.d_is_number ["thing"] (sp1 isN K) := by
  have nd := sc_is_number.nd
  refine T.F_is_number.ok sc_is_number (fun vs H Q E h => ?_) (fun cdv A outer s H vs Q E hr h => ?_)
  · obtain ⟨x, d, rfl, _⟩ := h
    rfl
  obtain ⟨x, d, rfl, hd, k⟩ := h
  have G_is_integer : FnOk P w K mg base CX0 1 _ _ _ (sp1 isI K) := ok_is_integer T
  have hr_is_integer := hr
  refine ⟨_, (pss_one (ps_ret (pe_and (pe_call G_is_integer hr_is_integer rfl T.m_is_integer T.k_is_integer T.b_is_integer .nil pass0 (pa_cons (pv 0) pa_nil)) (pe_one (pe_cmpR op_ge (pv 0) pe_int (nomark _)))))), ?_⟩
  refine ⟨_, rfl, x, d, rfl, hd, _, rfl, ?_⟩
  refine ite2 (fun c => ?_) (fun c => ?_)
  · obtain ⟨i, rfl, rfl⟩ := isI_int hd c
    exact ⟨_, rfl, _, _, rfl, rfl, k⟩
  · have e : isN d = false := by cases hd <;> first | rfl | (exact absurd rfl c)
    rw [e] at k
    exact k
theorem ok_is_word (T : Txt K mg) : FnOk P w K mg base CX0 3 T.f_is_word T.d_is_word ["thing"] (sp1 isW K) := by
  have nd := sc_is_word.nd
  refine T.F_is_word.ok sc_is_word (fun vs H Q E h => ?_) (fun cdv A outer s H vs Q E hr h => ?_)
  · obtain ⟨x, d, rfl, _⟩ := h
    rfl
  obtain ⟨x, d, rfl, hd, k⟩ := h
  have G_is_number : FnOk P w K mg base CX0 2 _ _ _ (sp1 isN K) := ok_is_number T
  have hr_is_number := hr
  refine ⟨_, (pss_one (ps_ret (pe_and (pe_call G_is_number hr_is_number rfl T.m_is_number T.k_is_number T.b_is_number .nil pass0 (pa_cons (pv 0) pa_nil)) (pe_one (pe_cmpR op_lt (pv 0) (pe_glob (v := .int (65536)) rfl T.c_WORD_BOUND ⟨_, rfl⟩) (nomark _)))))), ?_⟩
  refine ⟨_, rfl, x, d, rfl, hd, _, rfl, ?_⟩
  refine ite2 (fun c => ?_) (fun c => ?_)
  · have e : isI d = true := by cases hd <;> first | rfl | (cases c)
    obtain ⟨i, rfl, rfl⟩ := isI_int hd e
    refine ⟨_, rfl, _, _, rfl, rfl, ?_⟩
    have e2 : isW (.int i) = decide (i < 65536) := by
      show (decide (0 ≤ i) && decide (i < 65536)) = _
      rw [show decide (0 ≤ i) = true from c]; rfl
    rw [e2] at k
    exact k
  · have e : isW d = false := by
      cases hd <;> first | rfl | skip
      rename_i i
      show (decide (0 ≤ i) && decide (i < 65536)) = false
      rw [show decide (0 ≤ i) = false from Bool.eq_false_iff.mpr c]; rfl
    rw [e] at k
    exact k
end
end Lk

set_option Elab.async false
set_option linter.all false
set_option maxRecDepth 100000
set_option maxHeartbeats 2000000
namespace Lk
open PySem PySem.Spec PyProof.Rows L2
section
variable {P : Program} {w : World} {K : PySem.W.Frag} {mg : Str → Option Value} {base : Heap}
theorem hu65 {A : Around} {k : Nat} (hr : Room k A) : A.units + 65 < cLine := by have := hr.un; omega
theorem ok_divided (T : Txt K mg) : FnOk P w K mg base CX0 1 T.f__divided T.d__divided ["operation", "one", "other"] spDiv := by
  have nd := sc__divided.nd
  refine T.F__divided.ok sc__divided (fun vs H Q E h => ?_) (fun cdv A outer s H vs Q E hr h => ?_)
  · obtain ⟨v, i, j, rfl, _⟩ := h
    rfl
  obtain ⟨v, i, j, rfl, hv, h0, h1, k⟩ := h
  refine ⟨_, (pss_cons (ps_if (pt_cmpR op_eq (pv 2) pe_int (nomark _)) (pss_one (ps_ret pe_non)) pss_nil)
      (pss_cons (ps_if (pt_cmpR op_eq (pv 0) pe_str (nomark _)) (pss_one (ps_ret (pe_op op_fdivN (pv 1) (pv 2)))) pss_nil)
      (pss_one (ps_ret (pe_op op_modN (pv 1) (pv 2)))))), ?_⟩
  refine ⟨_, rfl, rfl, _, rfl, ?_⟩
  refine ite2 (fun c => ?_) (fun c => ?_)
  · have e : j = 0 := V.int.inj (of_decide_eq_true c)
    subst e
    have e2 : opV v i 0 = .non := by rcases hv with rfl | rfl <;> rfl
    rw [e2] at k
    exact k
  · have e : j ≠ 0 := fun z => c (by rw [z]; exact decide_eq_true rfl)
    refine ⟨_, rfl, rfl, _, rfl, ?_⟩
    rcases hv with rfl | rfl
    · refine ifT (by decide +kernel) ?_
      refine ⟨_, rfl, _, rfl, _, _, rfl, rfl, ⟨e, by omega⟩, ?_⟩
      have e2 : opV .div i j = .int (i.fdiv j) := if_neg e
      rw [e2] at k
      exact k
    · refine ifF (by decide +kernel) ?_
      refine ⟨_, rfl, _, rfl, _, _, rfl, rfl, e, ?_⟩
      have e2 : opV .rem i j = .int (i.fmod j) := if_neg e
      rw [e2] at k
      exact k
theorem ok_reckoned (T : Txt K mg) : FnOk P w K mg base CX0 1 T.f__reckoned T.d__reckoned ["operation", "one", "other"] spRec := by
  have nd := sc__reckoned.nd
  refine T.F__reckoned.ok sc__reckoned (fun vs H Q E h => ?_) (fun cdv A outer s H vs Q E hr h => ?_)
  · obtain ⟨v, i, j, rfl, _⟩ := h
    rfl
  obtain ⟨v, i, j, rfl, hb, h⟩ := h
  refine ⟨_, (pss_cons (ps_if (pt_cmpR op_eq (pv 0) pe_str (nomark _)) (pss_one (ps_ret (pe_op op_add (pv 1) (pv 2)))) pss_nil)
      (pss_cons (ps_if (pt_cmpR op_eq (pv 0) pe_str (nomark _)) (pss_one (ps_ret (pe_op op_sub (pv 1) (pv 2)))) pss_nil)
      (pss_one (ps_ret (pe_op op_mul (pv 1) (pv 2)))))), ?_⟩
  rcases h with ⟨rfl, k⟩ | ⟨rfl, k⟩ | ⟨rfl, k⟩
  · refine ⟨_, rfl, rfl, _, rfl, ifT (by decide +kernel) ?_⟩
    exact ⟨_, rfl, _, rfl, _, _, rfl, rfl, k⟩
  · refine ⟨_, rfl, rfl, _, rfl, ifF (by decide +kernel) ?_⟩
    refine ⟨_, rfl, rfl, _, rfl, ifT (by decide +kernel) ?_⟩
    exact ⟨_, rfl, _, rfl, _, _, rfl, rfl, k⟩
  · refine ⟨_, rfl, rfl, _, rfl, ifF (by decide +kernel) ?_⟩
    refine ⟨_, rfl, rfl, _, rfl, ifF (by decide +kernel) ?_⟩
    exact ⟨_, rfl, _, rfl, _, _, rfl, rfl, .inr ⟨by omega, by omega⟩, k⟩
theorem isOp_s (v : Vb) : isOp (.str v.s) = true := by cases v <;> decide +kernel
theorem ops_shaped : SeqAt.shaped (.tuple (ops.map PyData.str)) = true := by decide +kernel
theorem isW_of {i : Int} (h0 : 0 ≤ i) (h1 : i < 65536) : isW (.int i) = true := by
  show (decide (0 ≤ i) && decide (i < 65536)) = true
  rw [decide_eq_true h0, decide_eq_true h1]
  rfl
theorem ok_opG (T : Txt K mg) : FnOk P w K mg base CX0 4 T.f_operated T.d_operated ["operation", "one", "other"] spOpG := by
  have nd := sc_operated.nd
  refine T.F_operated.ok sc_operated (fun vs H Q E h => ?_) (fun cdv A outer s H vs Q E hr h => ?_)
  · obtain ⟨v, i, j, rfl, _⟩ := h
    rfl
  obtain ⟨v, i, j, rfl, hi0, hi1, hj0, hj1, k⟩ := h
  have hu := hu65 hr
  have G_is_word : FnOk P w K mg base CX0 3 _ _ _ (sp1 isW K) := ok_is_word T
  have G__divided : FnOk P w K mg base CX0 1 _ _ _ spDiv := ok_divided T
  have G__reckoned : FnOk P w K mg base CX0 1 _ _ _ spRec := ok_reckoned T
  have hr_is_word := hr
  have hr__divided := hr.mono (j := 1) (by decide)
  have hr__reckoned := hr.mono (j := 1) (by decide)
  refine ⟨_, (pss_cons (ps_if (pt_cmpR (op_notInU hu) (pv 0) (pe_glob (v := .ref T.a_OPERATIONS) rfl T.c_OPERATIONS rfl) (by rfl)) (pss_one ps_never) pss_nil)
      (pss_cons (ps_if (pt_not (pt_val (pe_call G_is_word hr_is_word rfl T.m_is_word T.k_is_word T.b_is_word .nil pass0 (pa_cons (pv 1) pa_nil)))) (pss_one ps_never) pss_nil)
      (pss_cons (ps_if (pt_not (pt_val (pe_call G_is_word hr_is_word rfl T.m_is_word T.k_is_word T.b_is_word .nil pass0 (pa_cons (pv 2) pa_nil)))) (pss_one ps_never) pss_nil)
      (pss_cons (ps_if (pt_cmpR op_in_seq (pv 0) (pe_tup (pa_cons pe_str (pa_cons pe_str pa_nil))) (by rfl)) (pss_one (ps_ret (pe_call G__divided hr__divided rfl T.m__divided T.k__divided T.b__divided .nil pass0 (pa_cons (pv 0) (pa_cons (pv 1) (pa_cons (pv 2) pa_nil)))))) pss_nil)
      (pss_cons (ps_if (pt_cmpR op_eq (pv 0) pe_str (nomark _)) (pss_one (ps_ret (pe_callTy call_int1 (by rfl) T.z_int (by decide +kernel) (pa_cons (pe_cmpR op_lt (pv 1) (pv 2) (nomark _)) pa_nil)))) pss_nil)
      (pss_cons (ps_if (pt_cmpR op_eq (pv 0) pe_str (nomark _)) (pss_one (ps_ret (pe_callTy call_int1 (by rfl) T.z_int (by decide +kernel) (pa_cons (pe_cmpR op_eq (pv 1) (pv 2) (nomark _)) pa_nil)))) pss_nil)
      (pss_one (ps_ret (pe_op op_modN (pe_call G__reckoned hr__reckoned rfl T.m__reckoned T.k__reckoned T.b__reckoned .nil pass0 (pa_cons (pv 0) (pa_cons (pv 1) (pa_cons (pv 2) pa_nil)))) (pe_glob (v := .int (65536)) rfl T.c_WORD_BOUND ⟨_, rfl⟩)))))))))), ?_⟩
  refine ⟨_, rfl, .str v.s, ops.map .str, .str _, .tup (T.s_OPERATIONS H) (dpAll_str _), (by cases v <;> decide +kernel), ops_shaped, _, rfl, ifF ?_ ?_⟩
  · show (!(isOp (.str v.s))) = false
    rw [isOp_s]
    rfl
  refine ⟨_, rfl, .int i, .int i, rfl, .int i, _, rfl, ?_⟩
  rw [isW_of hi0 hi1]
  refine iteF ?_
  refine ⟨_, rfl, .int j, .int j, rfl, .int j, _, rfl, ?_⟩
  rw [isW_of hj0 hj1]
  refine iteF ?_
  refine ⟨_, rfl, (by show 2 ≤ sizeLine; decide), fun p hp => ?_⟩
  have g1 : Same H (upd H p (.tup [.str "div", .str "rem"])) := same_new hp _
  refine ⟨p, [.str "div", .str "rem"], rfl, .inr (SqT.of upd_same), rfl, rfl, _, rfl, ?_⟩
  cases v
  case div =>
    refine ifT (by decide +kernel) ?_
    exact ⟨_, rfl, _, rfl, _, rfl, .div, i, j, rfl, .inl rfl, hj0, hj1, k _ g1⟩
  case rem =>
    refine ifT (by decide +kernel) ?_
    exact ⟨_, rfl, _, rfl, _, rfl, .rem, i, j, rfl, .inr rfl, hj0, hj1, k _ g1⟩
  case less =>
    refine ifF (by decide +kernel) ?_
    refine ⟨_, rfl, rfl, _, rfl, ifT (by decide +kernel) ?_⟩
    exact ⟨_, rfl, _, rfl, _, _, rfl, rfl, .inr ⟨_, rfl, k _ g1⟩⟩
  case same =>
    refine ifF (by decide +kernel) ?_
    refine ⟨_, rfl, rfl, _, rfl, ifF (by decide +kernel) ?_⟩
    refine ⟨_, rfl, rfl, _, rfl, ifT (by decide +kernel) ?_⟩
    exact ⟨_, rfl, _, rfl, rfl, .inr ⟨_, rfl, k _ g1⟩⟩
  case add =>
    refine ifF (by decide +kernel) ?_
    refine ⟨_, rfl, rfl, _, rfl, ifF (by decide +kernel) ?_⟩
    refine ⟨_, rfl, rfl, _, rfl, ifF (by decide +kernel) ?_⟩
    exact ⟨_, rfl, _, rfl, _, rfl, .add, i, j, rfl, ⟨hj0, hj1⟩, .inl ⟨rfl, _, _, rfl, rfl, (by show (65536 : Int) ≠ 0; decide), k _ g1⟩⟩
  case sub =>
    refine ifF (by decide +kernel) ?_
    refine ⟨_, rfl, rfl, _, rfl, ifF (by decide +kernel) ?_⟩
    refine ⟨_, rfl, rfl, _, rfl, ifF (by decide +kernel) ?_⟩
    exact ⟨_, rfl, _, rfl, _, rfl, .sub, i, j, rfl, ⟨hj0, hj1⟩, .inr (.inl ⟨rfl, _, _, rfl, rfl, (by show (65536 : Int) ≠ 0; decide), k _ g1⟩)⟩
  case mul =>
    refine ifF (by decide +kernel) ?_
    refine ⟨_, rfl, rfl, _, rfl, ifF (by decide +kernel) ?_⟩
    refine ⟨_, rfl, rfl, _, rfl, ifF (by decide +kernel) ?_⟩
    exact ⟨_, rfl, _, rfl, _, rfl, .mul, i, j, rfl, ⟨hj0, hj1⟩, .inr (.inr ⟨rfl, _, _, rfl, rfl, (by show (65536 : Int) ≠ 0; decide), k _ g1⟩)⟩
/-- what a made and raised NotUsable asks -/
theorem made {T : Txt K mg} {H : Hp} {n : Str} {E : XK} (k : ∀ (d : Addr) (H' : Hp), Same H H' → H d = none → H' d = some (.xd [("at", .int (-1)), ("word", .str n)]) → E (.ref T.C_NotUsable) (some d) H') :
    ∀ a, H a = none → spInit T.C_NotUsable [.ref a, .str n, .int (-1)] (upd H a (exo a T.C_NotUsable none))
      (fun v H2 => v = .non ∧ ∃ (d : Addr) (fs : List (Str × V)), H2 a = some (exo a T.C_NotUsable (some d)) ∧ H2 d = some (exd d fs) ∧ H d = none ∧ E (.ref T.C_NotUsable) (some d) (upd (del H2 a) d (.xd fs))) (fun _ _ _ => False) := by
  intro a ha
  refine ⟨a, _, _, rfl, upd_same, fun d H' hd hda e1 e2 e3 => ⟨rfl, d, _, e1, e2, ?_, ?_⟩⟩
  · rw [upd_ne hda] at hd
    exact hd
  · rw [upd_ne hda] at hd
    refine k d _ (fun b o e => ?_) hd upd_same
    have hbd : b ≠ d := ne_of_none e hd
    have hba : b ≠ a := ne_of_none e ha
    rw [upd_ne hbd, del_ne hba]
    exact e3 b o hba (by rw [upd_ne hba]; exact e)
theorem ok_opB (T : Txt K mg) : FnOk P w K mg base (L2.CX P w) 4 T.f_operated T.d_operated ["operation", "one", "other"] (spOpB K T.C_NotUsable) := by
  have nd := sc_operated.nd
  refine T.F_operated.okX sc_operated (fun vs H Q E h => ?_) (fun cdv A outer s H vs Q E hr h => ?_)
  · obtain ⟨x, y, z, dx, dy, dz, n, rfl, _⟩ := h
    rfl
  obtain ⟨x, y, z, dx, dy, dz, n, rfl, hx, hy, hz, sx, hb, k⟩ := h
  have hu := hu65 hr
  have G_NotUsable__init__ : FnOk P w K mg base CX0 1 _ _ _ (spInit T.C_NotUsable) := ok_init T
  have hr_NotUsable__init__ := hr.mono (j := 2) (by decide)
  have G_is_word : FnOk P w K mg base CX0 3 _ _ _ (sp1 isW K) := ok_is_word T
  have G__divided : FnOk P w K mg base CX0 1 _ _ _ spDiv := ok_divided T
  have G__reckoned : FnOk P w K mg base CX0 1 _ _ _ spRec := ok_reckoned T
  have hr_is_word := hr
  have hr__divided := hr.mono (j := 1) (by decide)
  have hr__reckoned := hr.mono (j := 1) (by decide)
  refine ⟨_, (pss_cons (ps_if (pt_cmpR (op_notInU hu) (pv 0) (pe_glob (v := .ref T.a_OPERATIONS) rfl T.c_OPERATIONS rfl) (by rfl)) (pss_one (ps_raise rfl (takes_of rfl rfl rfl rfl) (pmk_oex T.x_NotUsable T.i_NotUsable T.t_NotUsable G_NotUsable__init__ hr_NotUsable__init__ T.b_NotUsable__init__ .nil pass0 rfl T.mC_NotUsable (by exact (pa_cons pe_str (pa_cons (pe_un un_neg pe_int) pa_nil)))))) pss_nil)
      (pss_cons (ps_if (pt_not (pt_val (pe_call G_is_word hr_is_word rfl T.m_is_word T.k_is_word T.b_is_word .nil pass0 (pa_cons (pv 1) pa_nil)))) (pss_one (ps_raise rfl (takes_of rfl rfl rfl rfl) (pmk_oex T.x_NotUsable T.i_NotUsable T.t_NotUsable G_NotUsable__init__ hr_NotUsable__init__ T.b_NotUsable__init__ .nil pass0 rfl T.mC_NotUsable (by exact (pa_cons pe_str (pa_cons (pe_un un_neg pe_int) pa_nil)))))) pss_nil)
      (pss_cons (ps_if (pt_not (pt_val (pe_call G_is_word hr_is_word rfl T.m_is_word T.k_is_word T.b_is_word .nil pass0 (pa_cons (pv 2) pa_nil)))) (pss_one (ps_raise rfl (takes_of rfl rfl rfl rfl) (pmk_oex T.x_NotUsable T.i_NotUsable T.t_NotUsable G_NotUsable__init__ hr_NotUsable__init__ T.b_NotUsable__init__ .nil pass0 rfl T.mC_NotUsable (by exact (pa_cons pe_str (pa_cons (pe_un un_neg pe_int) pa_nil)))))) pss_nil)
      (pss_cons (ps_if (pt_cmpR op_in_seq (pv 0) (pe_tup (pa_cons pe_str (pa_cons pe_str pa_nil))) (by rfl)) (pss_one (ps_ret (pe_call G__divided hr__divided rfl T.m__divided T.k__divided T.b__divided .nil pass0 (pa_cons (pv 0) (pa_cons (pv 1) (pa_cons (pv 2) pa_nil)))))) pss_nil)
      (pss_cons (ps_if (pt_cmpR op_eq (pv 0) pe_str (nomark _)) (pss_one (ps_ret (pe_callTy call_int1 (by rfl) T.z_int (by decide +kernel) (pa_cons (pe_cmpR op_lt (pv 1) (pv 2) (nomark _)) pa_nil)))) pss_nil)
      (pss_cons (ps_if (pt_cmpR op_eq (pv 0) pe_str (nomark _)) (pss_one (ps_ret (pe_callTy call_int1 (by rfl) T.z_int (by decide +kernel) (pa_cons (pe_cmpR op_eq (pv 1) (pv 2) (nomark _)) pa_nil)))) pss_nil)
      (pss_one (ps_ret (pe_op op_modN (pe_call G__reckoned hr__reckoned rfl T.m__reckoned T.k__reckoned T.b__reckoned .nil pass0 (pa_cons (pv 0) (pa_cons (pv 1) (pa_cons (pv 2) pa_nil)))) (pe_glob (v := .int (65536)) rfl T.c_WORD_BOUND ⟨_, rfl⟩)))))))))), ?_⟩
  refine ⟨_, rfl, dx, ops.map .str, hx, .tup (T.s_OPERATIONS H) (dpAll_str _), sx, ops_shaped, _, rfl, ?_⟩
  unfold bad at hb
  cases ho : isOp dx with
  | false =>
    rw [ho, if_pos rfl] at hb
    cases hb
    refine ifT (by show (!(isOp dx)) = true; rw [ho]; rfl) ?_
    exact ⟨_, rfl, (by show 2 ≤ 1000; decide), made k⟩
  | true =>
    rw [ho, if_neg (by decide)] at hb
    refine ifF (by show (!(isOp dx)) = false; rw [ho]; rfl) ?_
    refine ⟨_, rfl, y, dy, rfl, hy, _, rfl, ?_⟩
    cases h1 : isW dy with
    | false =>
      rw [h1, if_pos rfl] at hb
      cases hb
      refine iteT ?_
      exact ⟨_, rfl, (by show 2 ≤ 1000; decide), made k⟩
    | true =>
      rw [h1, if_neg (by decide)] at hb
      refine iteF ?_
      refine ⟨_, rfl, z, dz, rfl, hz, _, rfl, ?_⟩
      cases h2 : isW dz with
      | false =>
        rw [h2, if_pos rfl] at hb
        cases hb
        refine iteT ?_
        exact ⟨_, rfl, (by show 2 ≤ 1000; decide), made k⟩
      | true =>
        rw [h2, if_neg (by decide)] at hb
        cases hb
end
end Lk

set_option Elab.async false
set_option linter.all false
set_option maxRecDepth 100000
set_option maxHeartbeats 2000000
namespace Lk
open PySem PySem.Spec PyProof.Rows L2
section
variable {P : Program} {w : World} {K : PySem.W.Frag} {mg : Str → Option Value} {base : Heap}
theorem ok_take (T : Txt K mg) : FnOk P w K mg base CX0 1 T.f__law_take T.d__law_take ["_law_tape_here", "_law_many"] spTake := by
  have nd := sc__law_take.nd
  refine T.F__law_take.ok sc__law_take (fun vs H Q E h => ?_) (fun cdv A outer s H vs Q E hr h => ?_)
  · obtain ⟨l, ns, m, rfl, _⟩ := h
    rfl
  obtain ⟨l, ns, m, rfl, hl, hm, k⟩ := h
  refine ⟨_, (pss_cons (ps_if (pt_cmpR op_gt (pe_callB call_len_seq (by rfl) T.z_len PySem.boot_len (pa_cons (pv 0) pa_nil)) pe_int (nomark _)) (pss_one (ps_ret (pe_op op_modN (pe_callTy call_int1 (by rfl) T.z_int (by decide +kernel) (pa_cons (pe_bm0 PySem.F.plainAttrs_list PySem.F.slot_list_pop PySem.F.type_list_pop mt_pop (pv 0)) pa_nil)) (pv 1)))) pss_nil)
      (pss_one (ps_ret pe_int))), ?_⟩
  refine ⟨_, rfl, l, _, rfl, .inl (SqL.of hl), _, _, rfl, rfl, _, rfl, ?_⟩
  refine ite2 (fun c => ?_) (fun c => ?_)
  · have c' : (0 : Int) < ((iV ns).length : Int) := of_decide_eq_true c
    have hlt : (iV ns).length - 1 < (iV ns).length := by omega
    obtain ⟨z, hz, hy⟩ := iV_get (List.getElem?_eq_getElem hlt)
    refine ⟨_, rfl, .inl ⟨rfl, _, SqL.of hl⟩, l, iV ns, .int z, rfl, rfl, hl, (by rw [List.getElem?_eq_getElem hlt, hy]), .inl ⟨z, rfl, ?_⟩⟩
    refine ⟨_, rfl, _, _, rfl, rfl, (by show m ≠ 0; omega), ?_⟩
    have b0 := Int.fmod_nonneg_of_pos z hm
    have b1 := Int.fmod_lt_of_pos z hm
    refine k _ ns.dropLast _ b0 b1 ?_ (same_eq (del_upd _ _ _).symm)
    rw [upd_same]
    unfold iV
    rw [List.map_dropLast]
  · exact k 0 ns H (Int.le_refl 0) hm hl (Same.refl _)
def edges : List Int := [0, 1, 65535, 2, 32768, 3, 256, 255, 65534, 32767, 257, 32769]
theorem edge_at {r : Int} (h0 : 0 ≤ r) (h1 : r < 12) : ∃ v : Int, atI (iV edges) r = some (.int v) ∧ 0 ≤ v ∧ v < 65536 := by
  obtain ⟨n, rfl⟩ : ∃ n : Nat, r = (n : Int) := ⟨r.toNat, by omega⟩
  have hlt : n < edges.length := by show n < 12; omega
  have hall : ∀ x ∈ edges, 0 ≤ x ∧ x < 65536 := by decide
  refine ⟨edges[n], ?_, hall _ (List.getElem_mem hlt)⟩
  refine atI_nat ?_
  unfold iV
  rw [List.getElem?_map, List.getElem?_eq_getElem hlt]
  rfl
theorem ok_word (T : Txt K mg) : FnOk P w K mg base CX0 2 T.f__law_word T.d__law_word ["_law_tape_here"] spWord := by
  have nd := sc__law_word.nd
  refine T.F__law_word.ok sc__law_word (fun vs H Q E h => ?_) (fun cdv A outer s H vs Q E hr h => ?_)
  · obtain ⟨l, ns, rfl, _⟩ := h
    rfl
  obtain ⟨l, ns, rfl, hl, k⟩ := h
  have G__law_take : FnOk P w K mg base CX0 1 _ _ _ spTake := ok_take T
  have hr__law_take := hr
  refine ⟨_, (pss_cons (ps_set (i := 1) nd rfl (Or.inl rfl) (pe_tup (pa_cons pe_int (pa_cons pe_int (pa_cons pe_int (pa_cons pe_int (pa_cons pe_int (pa_cons pe_int (pa_cons pe_int (pa_cons pe_int (pa_cons pe_int (pa_cons pe_int (pa_cons pe_int (pa_cons pe_int pa_nil))))))))))))))
      (pss_cons (ps_set (i := 2) nd rfl (Or.inl rfl) (pe_call G__law_take hr__law_take rfl T.m__law_take T.k__law_take T.b__law_take .nil pass0 (pa_cons (pv 0) (pa_cons pe_int pa_nil))))
      (pss_cons (ps_if (pt_cmpR op_lt (pv 2) pe_int (nomark _)) (pss_one (ps_ret (pe_ix ix_tup (pv 1) (pe_call G__law_take hr__law_take rfl T.m__law_take T.k__law_take T.b__law_take .nil pass0 (pa_cons (pv 0) (pa_cons pe_int pa_nil))) (fun _ _ => rfl)))) pss_nil)
      (pss_cons (ps_if (pt_cmpR op_eq (pv 2) pe_int (nomark _)) (pss_one (ps_ret (pe_call G__law_take hr__law_take rfl T.m__law_take T.k__law_take T.b__law_take .nil pass0 (pa_cons (pv 0) (pa_cons pe_int pa_nil))))) pss_nil)
      (pss_one (ps_ret (pe_op op_modN (pe_callTy call_int1 (by rfl) T.z_int (by decide +kernel) (pa_cons (pe_op op_add (pe_op op_mul (pe_call G__law_take hr__law_take rfl T.m__law_take T.k__law_take T.b__law_take .nil pass0 (pa_cons (pv 0) (pa_cons pe_int pa_nil))) pe_int) (pe_call G__law_take hr__law_take rfl T.m__law_take T.k__law_take T.b__law_take .nil pass0 (pa_cons (pv 0) (pa_cons pe_int pa_nil)))) pa_nil)) pe_int))))))), ?_⟩
  refine ⟨(by show 12 ≤ sizeLine; decide), fun p hp => ?_⟩
  have hpl : p ≠ l := (ne_of_none hl hp).symm
  have g0 : Same (del H l) (del (upd H p (.tup (iV edges))) l) := same_del l (same_new hp _)
  have e0 : (upd H p (.tup (iV edges))) l = some (.lst (iV ns)) := by rw [upd_ne hpl.symm]; exact hl
  refine ⟨_, rfl, l, ns, 8, rfl, e0, by decide, fun r1 n1 H1 b0 b1 e1 g1 => ?_⟩
  have p1 : H1 p = some (.tup (iV edges)) := Same.off g1 hpl upd_same
  refine ⟨_, rfl, _, _, rfl, rfl, _, rfl, ?_⟩
  refine ite2 (fun c => ?_) (fun c => ?_)
  · refine ⟨_, rfl, _, rfl, l, n1, 12, rfl, e1, by decide, fun r2 n2 H2 c0 c1 e2 g2 => ?_⟩
    have p2 : H2 p = some (.tup (iV edges)) := Same.off g2 hpl p1
    obtain ⟨v, hv, v0, v1⟩ := edge_at c0 c1
    exact ⟨p, _, _, _, rfl, rfl, SqT.of p2, hv, k v n2 H2 v0 v1 e2 (g0.trans (g1.trans g2))⟩
  · refine ⟨_, rfl, rfl, _, rfl, ?_⟩
    refine ite2 (fun d => ?_) (fun d => ?_)
    · exact ⟨_, rfl, l, n1, 40, rfl, e1, by decide, fun r2 n2 H2 c0 c1 e2 g2 => k r2 n2 H2 c0 (by omega) e2 (g0.trans (g1.trans g2))⟩
    · refine ⟨_, rfl, l, n1, 5040, rfl, e1, by decide, fun r2 n2 H2 c0 c1 e2 g2 => ?_⟩
      refine ⟨_, _, rfl, rfl, .inr ⟨by decide, by decide⟩, _, rfl, l, n2, 5040, rfl, e2, by decide, fun r3 n3 H3 d0 d1 e3 g3 => ?_⟩
      refine ⟨_, _, rfl, rfl, .inl ⟨_, rfl, _, _, rfl, rfl, (by show (65536 : Int) ≠ 0; decide), ?_⟩⟩
      exact k _ n3 H3 (Int.fmod_nonneg_of_pos _ (by decide)) (Int.fmod_lt_of_pos _ (by decide)) e3 (g0.trans (g1.trans (g2.trans g3)))
theorem ok_tape (T : Txt K mg) : FnOk P w K mg base CX0 1 T.f__law_tape T.d__law_tape ["_law_script"] (spTape K) := by
  have nd := sc__law_tape.nd
  refine T.F__law_tape.ok sc__law_tape (fun vs H Q E h => ?_) (fun cdv A outer s H vs Q E hr h => ?_)
  · obtain ⟨a, ns, rfl, _⟩ := h
    rfl
  obtain ⟨a, ns, rfl, hS, h63, k⟩ := h
  refine ⟨_, (pss_cons (ps_set (i := 1) nd rfl (Or.inl rfl) (pe_lst pa_nil))
      (pss_cons (ps_set (i := 2) nd rfl (Or.inl rfl) pe_int)
      (pss_cons (ps_for PassesOwn.never rfl (pi_range1 (by rfl) T.z_range (pa_cons (pe_callB call_len_seq (by rfl) T.z_len PySem.boot_len (pa_cons (pv 0) pa_nil)) pa_nil)) (pg_name (i := 3) nd rfl (Or.inl rfl))
      (pss_cons (ps_set (i := 4) nd rfl (Or.inl rfl) (pe_ix ix_list (pv 0) (pv 3) (fun _ _ => rfl)))
      (pss_cons (ps_set (i := 2) nd rfl (Or.inl rfl) (pe_op op_modN (pe_op op_add (pe_op op_add (pe_op op_mul (pv 2) pe_int) (pe_op op_mul (pe_op op_modN (pe_callTy call_int1 (by rfl) T.z_int (by decide +kernel) (pa_cons (pv 4) pa_nil)) pe_int) (pe_op op_add (pv 3) pe_int))) pe_int) pe_int))
      (pss_one (ps_if (pt_cmpR op_ge (pv 4) (pe_op op_pow pe_int pe_int) (nomark _)) (pss_cons (ps_set (i := 5) nd rfl (Or.inl rfl) (pv 4))
      (pss_one (ps_for PassesOwn.never rfl (pi_range1 (by rfl) T.z_range (pa_cons pe_int pa_nil)) (pg_name (i := 6) nd rfl (Or.inl rfl))
      (pss_one (ps_if (pt_cmpR op_gt (pv 5) pe_int (nomark _)) (pss_cons (ps_expr (pe_bm PySem.F.plainAttrs_list PySem.F.slot_list_append PySem.F.type_list_append mt_append (pv 1) (pa_cons (pe_op op_modN (pe_callTy call_int1 (by rfl) T.z_int (by decide +kernel) (pa_cons (pv 5) pa_nil)) pe_int) pa_nil)))
      (pss_one (ps_set (i := 5) nd rfl (Or.inl rfl) (pe_op op_fdivN (pv 5) pe_int)))) pss_nil))))) pss_nil)))))
      (pss_cons (ps_for PassesOwn.never rfl (pi_range1 (by rfl) T.z_range (pa_cons pe_int pa_nil)) (pg_name (i := 6) nd rfl (Or.inl rfl))
      (pss_cons (ps_set (i := 2) nd rfl (Or.inl rfl) (pe_op op_modN (pe_op op_mul (pv 2) pe_int) pe_int))
      (pss_one (ps_expr (pe_bm PySem.F.plainAttrs_list PySem.F.slot_list_append PySem.F.type_list_append mt_append (pv 1) (pa_cons (pe_op op_modN (pe_op op_fdivN (pv 2) pe_int) pe_int) pa_nil))))))
      (pss_cons (ps_expr (pe_bm0 PySem.F.plainAttrs_list PySem.F.slot_list_reverse PySem.F.type_list_reverse mt_reverse (pv 1)))
      (pss_one (ps_ret (pv 1)))))))), ?_⟩
  refine ⟨(by show 0 ≤ sizeLine; decide), fun p hp => ?_⟩
  have s0 : Same H (upd H p (.lst [])) := same_new hp _
  refine ⟨_, rfl, a, _, rfl, .inl (s0.seq hS), (ns.length : Int), (by rw [iV_len]), by omega, by omega, ?_⟩
  refine for_range (lo := 0) (n := (ns.length : Int).toNat) (fun i σ H' => ∃ (ms : List Int) (st : Int) (o3 o4 o5 o6 : Option V), σ = [some (.ref a), some (.ref p), some (.int st), o3, o4, o5, o6] ∧ Same H H' ∧ H' p = some (.lst (iV ms)) ∧ ms.length ≤ 60 * i) ?_ ?_ ?_
  · exact ⟨[], 0, none, none, none, none, rfl, s0, upd_same, Nat.zero_le _⟩
  · rintro i σ H1 hi ⟨ms, st, o3, o4, o5, o6, rfl, s1, e1, hms⟩
    have hi2 : i < ns.length := by omega
    have hat : atI (iV ns) ((0 : Int) + (i : Int)) = some (.int ns[i]) := by
      rw [Int.zero_add]
      refine atI_nat ?_
      unfold iV
      rw [List.getElem?_map, List.getElem?_eq_getElem hi2]
      rfl
    -- _law_cell = _law_script[_law_at]
    refine ⟨_, rfl, _, rfl, a, _, _, _, rfl, rfl, s1.seq hS, hat, ?_⟩
    -- the state
    refine ⟨_, rfl, _, _, rfl, rfl, .inr ⟨by decide, by decide⟩, _, rfl, .inl ⟨_, rfl, _, _, rfl, rfl, (by show (1000003 : Int) ≠ 0; decide), _, rfl, _, _, rfl, rfl, _, _, rfl, rfl, .inr ⟨by omega, by omega⟩, _, _, rfl, rfl, _, _, rfl, rfl, _, _, rfl, rfl, (by show (2147483629 : Int) ≠ 0; decide), ?_⟩⟩
    -- if _law_cell >= 10 ** 18
    refine ⟨_, rfl, _, _, rfl, rfl, ⟨by decide, by decide, by decide⟩, _, _, rfl, rfl, _, rfl, ?_⟩
    refine ite2 (fun c => ?_) (fun c => ?_)
    · refine ⟨_, rfl, 60, rfl, by decide, by decide, ?_⟩
      refine for_range (lo := 0) (n := (60 : Int).toNat) (fun j σ H' => ∃ (ms : List Int) (rest : Int) (o6 : Option V) (st : Int), σ = [some (.ref a), some (.ref p), some (.int st), some (.int (0 + (i : Int))), some (.int ns[i]), some (.int rest), o6] ∧ Same H H' ∧ H' p = some (.lst (iV ms)) ∧ ms.length ≤ 60 * i + j) ?_ ?_ ?_
      · exact ⟨ms, _, _, _, rfl, s1, e1, hms⟩
      · rintro j σ H2 hj ⟨ms2, rest, o6', st2, rfl, s2, e2, hm2⟩
        have hj2 : j < 60 := hj
        refine ⟨_, rfl, _, _, rfl, rfl, _, rfl, ?_⟩
        refine ite2 (fun d => ?_) (fun d => ?_)
        · refine ⟨_, rfl, .inl ⟨rfl, _, SqL.of e2⟩, _, rfl, .inl ⟨_, rfl, _, _, rfl, rfl, (by show (5040 : Int) ≠ 0; decide), p, _, _, rfl, rfl, e2, (by rw [iV_len]; exact szl (by omega)), ?_⟩⟩
          refine ⟨_, rfl, _, _, rfl, rfl, ⟨by decide, by decide⟩, ?_⟩
          refine ⟨ms2 ++ [rest.fmod 5040], _, _, _, rfl, same_mut s2 hp, ?_, by rw [List.length_append]; show _ + 1 ≤ _; omega⟩
          rw [upd_same, iV_app]
        · exact ⟨ms2, rest, _, _, rfl, s2, e2, by omega⟩
      · rintro σ H2 ⟨ms2, rest, o6', st2, rfl, s2, e2, hm2⟩
        have hz : (60 : Int).toNat = 60 := rfl
        exact ⟨ms2, _, _, _, _, _, rfl, s2, e2, by omega⟩
    · exact ⟨ms, _, _, _, _, _, rfl, s1, e1, by omega⟩
  · rintro σ H1 ⟨ms, st, o3, o4, o5, o6, rfl, s1, e1, hms⟩
    have hz : (ns.length : Int).toNat = ns.length := by omega
    refine ⟨300, rfl, by decide, by decide, ?_⟩
    refine for_range (lo := 0) (n := (300 : Int).toNat) (fun j σ H' => ∃ (ms : List Int) (st : Int) (o3 o4 o5 o6 : Option V), σ = [some (.ref a), some (.ref p), some (.int st), o3, o4, o5, o6] ∧ Same H H' ∧ H' p = some (.lst (iV ms)) ∧ ms.length ≤ 60 * ns.length + j) ?_ ?_ ?_
    · exact ⟨ms, st, _, _, _, _, rfl, s1, e1, by omega⟩
    · rintro j σ H2 hj ⟨ms2, st2, q3, q4, q5, q6, rfl, s2, e2, hm2⟩
      have hj2 : j < 300 := hj
      refine ⟨_, rfl, _, _, rfl, rfl, .inr ⟨by decide, by decide⟩, _, _, rfl, rfl, (by show (2147483629 : Int) ≠ 0; decide), ?_⟩
      refine ⟨_, rfl, .inl ⟨rfl, _, SqL.of e2⟩, _, rfl, _, _, rfl, rfl, ⟨by decide, by decide⟩, _, _, rfl, rfl, (by show (5040 : Int) ≠ 0; decide), p, _, _, rfl, rfl, e2, (by rw [iV_len]; exact szl (by omega)), ?_⟩
      refine ⟨ms2 ++ [_], _, _, _, _, _, rfl, same_mut s2 hp, (by rw [upd_same, iV_app]), by rw [List.length_append]; show _ + 1 ≤ _; omega⟩
    · rintro σ H2 ⟨ms2, st2, q3, q4, q5, q6, rfl, s2, e2, hm2⟩
      refine ⟨_, rfl, .inl ⟨rfl, _, SqL.of e2⟩, p, _, rfl, rfl, e2, ?_⟩
      refine ⟨_, rfl, ?_⟩
      refine k p _ ms2.reverse (same_mut s2 hp) hp ?_
      rw [upd_same]
      unfold iV
      rw [List.map_reverse]
end
end Lk

set_option Elab.async false
set_option linter.all false
set_option maxRecDepth 100000
set_option maxHeartbeats 2000000
namespace Lk
open PySem PySem.Spec PyProof.Rows L2
section
variable {P : Program} {w : World} {K : PySem.W.Frag} {mg : Str → Option Value} {base : Heap}
def fits : Vb → Int → Int → Int → Prop
  | .add, i, j, t => t = i + j ∨ t + 65536 = i + j
  | .sub, i, j, t => t + j = i ∨ t + j = i + 65536
  | .mul, i, j, t => (i * j - t).fmod 65536 = 0
  | .div, i, j, t => t * j ≤ i ∧ i < t * j + j
  | .rem, i, j, t => t < j ∧ (i - t).fmod j = 0
  | .less, i, j, t => t = if i - j < 0 then 1 else 0
  | .same, i, j, t => t = if i - j = 0 then 1 else 0
theorem fits_ok (v : Vb) {i j : Int} (i0 : 0 ≤ i) (i1 : i < 65536) (j0 : 0 ≤ j) (j1 : j < 65536) (h : ¬ ((v = .div ∨ v = .rem) ∧ j = 0)) : ∃ t, opV v i j = .int t ∧ 0 ≤ t ∧ t ≤ 65535 ∧ fits v i j t := by
  cases v with
  | add =>
    refine ⟨(i + j).fmod 65536, rfl, ?_⟩
    show 0 ≤ (i + j).fmod 65536 ∧ (i + j).fmod 65536 ≤ 65535 ∧ ((i + j).fmod 65536 = i + j ∨ (i + j).fmod 65536 + 65536 = i + j)
    rw [Int.fmod_eq_emod_of_nonneg _ (by decide)]
    omega
  | sub =>
    refine ⟨(i - j).fmod 65536, rfl, ?_⟩
    show 0 ≤ (i - j).fmod 65536 ∧ (i - j).fmod 65536 ≤ 65535 ∧ ((i - j).fmod 65536 + j = i ∨ (i - j).fmod 65536 + j = i + 65536)
    rw [Int.fmod_eq_emod_of_nonneg _ (by decide)]
    omega
  | mul =>
    refine ⟨(i * j).fmod 65536, rfl, ?_⟩
    show 0 ≤ (i * j).fmod 65536 ∧ (i * j).fmod 65536 ≤ 65535 ∧ (i * j - (i * j).fmod 65536).fmod 65536 = 0
    rw [Int.fmod_eq_emod_of_nonneg _ (by decide), Int.fmod_eq_emod_of_nonneg _ (by decide)]
    generalize i * j = m
    omega
  | div =>
    have hj : j ≠ 0 := fun e => h ⟨.inl rfl, e⟩
    have hp : 0 < j := by omega
    refine ⟨i.fdiv j, if_neg hj, ?_⟩
    rw [Int.fdiv_eq_ediv_of_nonneg _ j0]
    have a1 := Int.ediv_mul_le i hj
    have a2 := Int.lt_ediv_add_one_mul_self i hp
    rw [Int.add_mul, Int.one_mul] at a2
    have a3 : 0 ≤ i / j := Int.ediv_nonneg i0 j0
    have a4 : i / j ≤ i := Int.ediv_le_self _ i0
    exact ⟨a3, by omega, a1, a2⟩
  | rem =>
    have hj : j ≠ 0 := fun e => h ⟨.inr rfl, e⟩
    have hp : 0 < j := by omega
    refine ⟨i.fmod j, if_neg hj, ?_⟩
    show 0 ≤ i.fmod j ∧ i.fmod j ≤ 65535 ∧ (i.fmod j < j ∧ (i - i.fmod j).fmod j = 0)
    rw [Int.fmod_eq_emod_of_nonneg _ j0, Int.fmod_eq_emod_of_nonneg _ j0]
    have a1 := Int.emod_nonneg i hj
    have a2 := Int.emod_lt_of_pos i hp
    exact ⟨a1, by omega, a2, by rw [Int.sub_emod, Int.emod_emod_of_dvd _ (Int.dvd_refl j), Int.sub_self]; rfl⟩
  | less =>
    refine ⟨if decide (i < j) = true then 1 else 0, rfl, ?_⟩
    show 0 ≤ (if decide (i < j) = true then (1 : Int) else 0) ∧ (if decide (i < j) = true then (1 : Int) else 0) ≤ 65535 ∧ (if decide (i < j) = true then (1 : Int) else 0) = if i - j < 0 then 1 else 0
    by_cases c : i < j
    · rw [if_pos (decide_eq_true c), if_pos (by omega)]; decide
    · rw [if_neg (by rw [decide_eq_false c]; decide), if_neg (by omega)]; decide
  | same =>
    refine ⟨if decide (V.int i = V.int j) = true then 1 else 0, rfl, ?_⟩
    show 0 ≤ (if decide (V.int i = V.int j) = true then (1 : Int) else 0) ∧ (if decide (V.int i = V.int j) = true then (1 : Int) else 0) ≤ 65535 ∧ (if decide (V.int i = V.int j) = true then (1 : Int) else 0) = if i - j = 0 then 1 else 0
    by_cases c : i = j
    · subst c
      rw [if_pos (decide_eq_true rfl), if_pos (by omega)]; decide
    · have c2 : ¬ V.int i = V.int j := fun e => c (V.int.inj e)
      rw [if_neg (by rw [decide_eq_false c2]; decide), if_neg (by omega)]; decide
theorem inDR (v : Vb) : inV (.str v.s) [.str "div", .str "rem"] = decide (v = .div ∨ v = .rem) := by cases v <;> decide +kernel
theorem eqI {i j : Int} : decide (V.int i = V.int j) = decide (i = j) := by
  by_cases c : i = j
  · subst c; rw [decide_eq_true rfl, decide_eq_true rfl]
  · rw [decide_eq_false c, decide_eq_false fun e => c (V.int.inj e)]
theorem ok_fits (T : Txt K mg) : FnOk P w K mg base CX0 1 T.f__law_fits T.d__law_fits ["_law_verb", "_law_first", "_law_second", "_law_told"] spFits := by
  have nd := sc__law_fits.nd
  refine T.F__law_fits.ok sc__law_fits (fun vs H Q E h => ?_) (fun cdv A outer s H vs Q E hr h => ?_)
  · obtain ⟨v, i, j, rfl, _⟩ := h
    rfl
  obtain ⟨v, i, j, rfl, i0, i1, j0, j1, k⟩ := h
  refine ⟨_, (pss_cons (ps_if (PW.pt (pw_and (pt_cmpR op_in_seq (pv 0) (pe_tup (pa_cons pe_str (pa_cons pe_str pa_nil))) (by rfl)) (pw_and1 (pt_cmpR op_eq (pv 2) pe_int (nomark _))))) (pss_one (ps_ret (pe_cmpR op_isN (pv 3) pe_non (nomark _)))) pss_nil)
      (pss_cons (ps_if (PW.pt (pw_or (pt_not (pt_val (pe_callB call_isi (by rfl) T.z_isinstance (by decide +kernel) (pa_cons (pv 3) (pa_cons (pe_bltn (v := .ty "int") rfl T.z_int (by decide +kernel) rfl) pa_nil))))) (pw_or (pt_val (pe_callB call_isi (by rfl) T.z_isinstance (by decide +kernel) (pa_cons (pv 3) (pa_cons (pe_bltn (v := .ty "bool") rfl T.z_bool (by decide +kernel) rfl) pa_nil)))) (pw_or (pt_cmpR op_lt (pv 3) pe_int (nomark _)) (pw_or1 (pt_cmpR op_gt (pv 3) pe_int (nomark _))))))) (pss_one (ps_ret pe_bl)) pss_nil)
      (pss_cons (ps_if (pt_cmpR op_eq (pv 0) pe_str (nomark _)) (pss_one (ps_ret (pe_or (pe_cmpR op_eq (pv 3) (pe_op op_add (pv 1) (pv 2)) (nomark _)) (pe_one (pe_cmpR op_eq (pe_op op_add (pv 3) pe_int) (pe_op op_add (pv 1) (pv 2)) (nomark _)))))) pss_nil)
      (pss_cons (ps_if (pt_cmpR op_eq (pv 0) pe_str (nomark _)) (pss_one (ps_ret (pe_or (pe_cmpR op_eq (pe_op op_add (pv 3) (pv 2)) (pv 1) (nomark _)) (pe_one (pe_cmpR op_eq (pe_op op_add (pv 3) (pv 2)) (pe_op op_add (pv 1) pe_int) (nomark _)))))) pss_nil)
      (pss_cons (ps_if (pt_cmpR op_eq (pv 0) pe_str (nomark _)) (pss_one (ps_ret (pe_cmpR op_eq (pe_op op_modN (pe_callTy call_int1 (by rfl) T.z_int (by decide +kernel) (pa_cons (pe_op op_sub (pe_op op_mul (pv 1) (pv 2)) (pv 3)) pa_nil)) pe_int) pe_int (nomark _)))) pss_nil)
      (pss_cons (ps_if (pt_cmpR op_eq (pv 0) pe_str (nomark _)) (pss_one (ps_ret (pe_and (pe_cmpR op_le (pe_op op_mul (pv 3) (pv 2)) (pv 1) (nomark _)) (pe_one (pe_cmpR op_lt (pv 1) (pe_op op_add (pe_op op_mul (pv 3) (pv 2)) (pv 2)) (nomark _)))))) pss_nil)
      (pss_cons (ps_if (pt_cmpR op_eq (pv 0) pe_str (nomark _)) (pss_one (ps_ret (pe_and (pe_cmpR op_lt (pv 3) (pv 2) (nomark _)) (pe_one (pe_cmpR op_eq (pe_op op_modN (pe_callTy call_int1 (by rfl) T.z_int (by decide +kernel) (pa_cons (pe_op op_sub (pv 1) (pv 3)) pa_nil)) (pv 2)) pe_int (nomark _)))))) pss_nil)
      (pss_cons (ps_if (pt_cmpR op_eq (pv 0) pe_str (nomark _)) (pss_one (ps_ret (pe_cmpR op_eq (pv 3) (pe_callB call_len_seq (by rfl) T.z_len PySem.boot_len (pa_cons (pe_lc (own := [("_law_k", 4)]) (g := gName 4) (by rfl) nd (pi_tup (pe_tup (pa_cons (pe_op op_sub (pv 1) (pv 2)) pa_nil))) (blkOk_by (own := [("_law_k", 4)]) (N := sl__law_fits) (sc := defScope s__law_fits) (by decide +kernel)) (fun _ _ _ _ _ => pg_name (i := 4) nd rfl (Or.inl rfl)) (fun _ _ _ _ _ => (pts_one (pt_cmpR op_lt (pv 4) pe_int (nomark _)))) (fun _ _ _ _ _ => pe_int)) pa_nil)) (nomark _)))) pss_nil)
      (pss_one (ps_ret (pe_cmpR op_eq (pv 3) (pe_callB call_len_seq (by rfl) T.z_len PySem.boot_len (pa_cons (pe_lc (own := [("_law_k", 4)]) (g := gName 4) (by rfl) nd (pi_tup (pe_tup (pa_cons (pe_op op_sub (pv 1) (pv 2)) pa_nil))) (blkOk_by (own := [("_law_k", 4)]) (N := sl__law_fits) (sc := defScope s__law_fits) (by decide +kernel)) (fun _ _ _ _ _ => pg_name (i := 4) nd rfl (Or.inl rfl)) (fun _ _ _ _ _ => (pts_one (pt_cmpR op_eq (pv 4) pe_int (nomark _)))) (fun _ _ _ _ _ => pe_int)) pa_nil)) (nomark _)))))))))))), ?_⟩
  refine ⟨_, rfl, (by show 2 ≤ sizeLine; decide), fun p hp => ?_⟩
  have g1 : Same H (upd H p (.tup [.str "div", .str "rem"])) := same_new hp _
  refine ⟨p, [.str "div", .str "rem"], rfl, .inr (SqT.of upd_same), rfl, rfl, _, rfl, ?_⟩
  by_cases hz : (v = .div ∨ v = .rem) ∧ j = 0
  · obtain ⟨hv, rfl⟩ := hz
    refine ifT (by show inV (.str v.s) [.str "div", .str "rem"] = true; rw [inDR]; exact decide_eq_true hv) ?_
    refine ⟨_, rfl, rfl, _, rfl, iteT ?_⟩
    have e : opV v i 0 = .non := by rcases hv with rfl | rfl <;> rfl
    refine ⟨_, rfl, rfl, ?_⟩
    rw [e]
    exact k _ g1
  · obtain ⟨t, et, t0, t1, ft⟩ := fits_ok v i0 i1 j0 j1 hz
    rw [et]
    refine ite_both ?_ (fun tail c => ?_)
    rotate_left
    · have hv : v = .div ∨ v = .rem := of_decide_eq_true ((inDR v).symm.trans c)
      have hj : j ≠ 0 := fun e => hz ⟨hv, e⟩
      exact ⟨_, rfl, rfl, _, rfl, ifF (by rw [eqI]; exact decide_eq_false hj) tail⟩
    refine ⟨_, rfl, .int t, .ty "int", _, _, _, rfl, .ty "int", .base (.int t), kit_ty (a := "int") (b := "int") (r := true) (by decide +kernel), _, rfl, ifF rfl ?_⟩
    refine ⟨_, rfl, .int t, .ty "bool", _, _, _, rfl, .ty "bool", .base (.int t), kit_ty (a := "int") (b := "bool") (r := false) (by decide +kernel), _, rfl, ifF rfl ?_⟩
    refine ⟨_, rfl, _, _, rfl, rfl, _, rfl, ifF (decide_eq_false (by omega)) ?_⟩
    refine ⟨_, rfl, _, _, rfl, rfl, _, rfl, ifF (decide_eq_false (by omega)) ?_⟩
    have k1 : ∀ b : Bool, b = true → Q (.bl b) (upd H p (.tup [.str "div", .str "rem"])) := fun b e => by rw [e]; exact k _ g1
    cases v with
    | add =>
      refine ⟨_, rfl, rfl, _, rfl, ifT (by decide +kernel) ?_⟩
      refine ⟨_, rfl, _, rfl, _, rfl, _, _, rfl, rfl, rfl, _, rfl, ?_⟩
      refine ite2 (fun c => k _ g1) (fun c => ?_)
      refine ⟨_, rfl, _, _, rfl, rfl, _, rfl, _, rfl, _, _, rfl, rfl, rfl, k1 _ ?_⟩
      rw [eqI] at c ⊢
      have c2 : ¬ t = i + j := fun e => c (decide_eq_true e)
      exact decide_eq_true (ft.resolve_left c2)
    | sub =>
      refine ⟨_, rfl, rfl, _, rfl, ifF (by decide +kernel) ?_⟩
      refine ⟨_, rfl, rfl, _, rfl, ifT (by decide +kernel) ?_⟩
      refine ⟨_, rfl, _, rfl, _, _, rfl, rfl, _, rfl, rfl, _, rfl, ?_⟩
      refine ite2 (fun c => k _ g1) (fun c => ?_)
      refine ⟨_, rfl, _, rfl, _, _, rfl, rfl, _, rfl, _, _, rfl, rfl, rfl, k1 _ ?_⟩
      rw [eqI] at c ⊢
      have c2 : ¬ t + j = i := fun e => c (decide_eq_true e)
      exact decide_eq_true (ft.resolve_left c2)
    | mul =>
      refine ⟨_, rfl, rfl, _, rfl, ifF (by decide +kernel) ?_⟩
      refine ⟨_, rfl, rfl, _, rfl, ifF (by decide +kernel) ?_⟩
      refine ⟨_, rfl, rfl, _, rfl, ifT (by decide +kernel) ?_⟩
      refine ⟨_, rfl, _, rfl, _, _, rfl, rfl, .inl ⟨by omega, by omega⟩, _, rfl, _, _, rfl, rfl, .inl ⟨_, rfl, _, _, rfl, rfl, (by show (65536 : Int) ≠ 0; decide), rfl, k1 _ ?_⟩⟩
      rw [eqI]
      exact decide_eq_true ft
    | div =>
      refine ⟨_, rfl, rfl, _, rfl, ifF (by decide +kernel) ?_⟩
      refine ⟨_, rfl, rfl, _, rfl, ifF (by decide +kernel) ?_⟩
      refine ⟨_, rfl, rfl, _, rfl, ifF (by decide +kernel) ?_⟩
      refine ⟨_, rfl, rfl, _, rfl, ifT (by decide +kernel) ?_⟩
      refine ⟨_, rfl, _, rfl, _, _, rfl, rfl, .inl ⟨by omega, by omega⟩, _, rfl, _, _, rfl, rfl, _, rfl, ifT (decide_eq_true ft.1) ?_⟩
      refine ⟨_, rfl, _, rfl, _, rfl, _, _, rfl, rfl, .inl ⟨by omega, by omega⟩, _, rfl, _, _, rfl, rfl, _, _, rfl, rfl, k1 _ (decide_eq_true ft.2)⟩
    | rem =>
      refine ⟨_, rfl, rfl, _, rfl, ifF (by decide +kernel) ?_⟩
      refine ⟨_, rfl, rfl, _, rfl, ifF (by decide +kernel) ?_⟩
      refine ⟨_, rfl, rfl, _, rfl, ifF (by decide +kernel) ?_⟩
      refine ⟨_, rfl, rfl, _, rfl, ifF (by decide +kernel) ?_⟩
      refine ⟨_, rfl, rfl, _, rfl, ifT (by decide +kernel) ?_⟩
      refine ⟨_, rfl, _, rfl, _, _, rfl, rfl, _, rfl, ifT (decide_eq_true ft.1) ?_⟩
      have hj : j ≠ 0 := fun e => hz ⟨.inr rfl, e⟩
      refine ⟨_, rfl, _, rfl, _, _, rfl, rfl, .inl ⟨_, rfl, _, rfl, _, _, rfl, rfl, hj, rfl, k1 _ ?_⟩⟩
      rw [eqI]
      exact decide_eq_true ft.2
    | less =>
      refine ⟨_, rfl, rfl, _, rfl, ifF (by decide +kernel) ?_⟩
      refine ⟨_, rfl, rfl, _, rfl, ifF (by decide +kernel) ?_⟩
      refine ⟨_, rfl, rfl, _, rfl, ifF (by decide +kernel) ?_⟩
      refine ⟨_, rfl, rfl, _, rfl, ifF (by decide +kernel) ?_⟩
      refine ⟨_, rfl, rfl, _, rfl, ifF (by decide +kernel) ?_⟩
      refine ⟨_, rfl, rfl, _, rfl, ifT (by decide +kernel) ?_⟩
      refine ⟨_, rfl, _, rfl, _, rfl, _, _, rfl, rfl, (by show 1 ≤ sizeLine; decide), fun p2 hp2 => ⟨p2, rfl, ⟨_, SqT.of upd_same⟩, fun D hD => lc_tup (K := K) (a := p2) (xs := [.int (i - j)])
        (fun n H' => Same H H' ∧ H' p2 = some (.tup [.int (i - j)]) ∧ H D = none ∧ H' D = some (.lst (if n = 0 then [] else if i - j < 0 then [.int 0] else []))) ?_ ?_ ?_ ?_⟩⟩
      · have hDp : D ≠ p2 := (ne_of_none upd_same hD).symm
        have hD1 := (Same.trans g1 (same_new hp2 _)).free hD
        exact ⟨(g1.trans (same_new hp2 _)).trans (same_new hD _), by rw [upd_ne hDp.symm]; exact upd_same, hD1, upd_same⟩
      · intro n H' _ ⟨_, q, _⟩
        exact SqT.of q
      · rintro n x H' hx ⟨s1, q1, q2, q3⟩
        match n, hx with
        | 0, hx =>
          cases hx
          refine ⟨rfl, _, rfl, _, _, rfl, rfl, _, rfl, ?_⟩
          have hDp : D ≠ p2 := fun e => by rw [e] at q3; rw [q3] at q1; cases q1
          refine ite2 (fun c => ?_) (fun c => ?_)
          · have c2 : i - j < 0 := of_decide_eq_true c
            refine ⟨_, q3, (by show 0 < sizeLine; decide), same_mut s1 q2, by rw [upd_ne hDp.symm]; exact q1, q2, ?_⟩
            rw [upd_same]
            simp [c2]
          · have c2 : ¬ i - j < 0 := fun e => c (decide_eq_true e)
            refine ⟨s1, q1, q2, ?_⟩
            rw [if_neg (by decide), if_neg c2]
            exact q3
        | n + 1, hx => cases hx
      · rintro H' ⟨s1, q1, q2, q3⟩
        refine ⟨D, _, rfl, .inl (SqL.of q3), rfl, ?_⟩
        have e : (V.int t) = V.int (((if ([V.int (i - j)]).length = 0 then [] else if i - j < 0 then [V.int 0] else []) : List V).length : Int) := by
          have ft' : t = if i - j < 0 then 1 else 0 := ft
          rw [ft']
          by_cases c : i - j < 0
          · simp [c]
          · simp [c]
        rw [decide_eq_true e]
        exact k _ s1
    | same =>
      refine ⟨_, rfl, rfl, _, rfl, ifF (by decide +kernel) ?_⟩
      refine ⟨_, rfl, rfl, _, rfl, ifF (by decide +kernel) ?_⟩
      refine ⟨_, rfl, rfl, _, rfl, ifF (by decide +kernel) ?_⟩
      refine ⟨_, rfl, rfl, _, rfl, ifF (by decide +kernel) ?_⟩
      refine ⟨_, rfl, rfl, _, rfl, ifF (by decide +kernel) ?_⟩
      refine ⟨_, rfl, rfl, _, rfl, ifF (by decide +kernel) ?_⟩
      refine ⟨_, rfl, _, rfl, _, rfl, _, _, rfl, rfl, (by show 1 ≤ sizeLine; decide), fun p2 hp2 => ⟨p2, rfl, ⟨_, SqT.of upd_same⟩, fun D hD => lc_tup (K := K) (a := p2) (xs := [.int (i - j)])
        (fun n H' => Same H H' ∧ H' p2 = some (.tup [.int (i - j)]) ∧ H D = none ∧ H' D = some (.lst (if n = 0 then [] else if i - j = 0 then [.int 0] else []))) ?_ ?_ ?_ ?_⟩⟩
      · have hDp : D ≠ p2 := (ne_of_none upd_same hD).symm
        have hD1 := (Same.trans g1 (same_new hp2 _)).free hD
        exact ⟨(g1.trans (same_new hp2 _)).trans (same_new hD _), by rw [upd_ne hDp.symm]; exact upd_same, hD1, upd_same⟩
      · intro n H' _ ⟨_, q, _⟩
        exact SqT.of q
      · rintro n x H' hx ⟨s1, q1, q2, q3⟩
        match n, hx with
        | 0, hx =>
          cases hx
          refine ⟨rfl, _, rfl, rfl, _, rfl, ?_⟩
          have hDp : D ≠ p2 := fun e => by rw [e] at q3; rw [q3] at q1; cases q1
          rw [eqI]
          refine ite2 (fun c => ?_) (fun c => ?_)
          · have c2 : i - j = 0 := of_decide_eq_true c
            refine ⟨_, q3, (by show 0 < sizeLine; decide), same_mut s1 q2, by rw [upd_ne hDp.symm]; exact q1, q2, ?_⟩
            rw [upd_same]
            simp [c2]
          · have c2 : ¬ i - j = 0 := fun e => c (decide_eq_true e)
            refine ⟨s1, q1, q2, ?_⟩
            rw [if_neg (by decide), if_neg c2]
            exact q3
        | n + 1, hx => cases hx
      · rintro H' ⟨s1, q1, q2, q3⟩
        refine ⟨D, _, rfl, .inl (SqL.of q3), rfl, ?_⟩
        have e : (V.int t) = V.int (((if ([V.int (i - j)]).length = 0 then [] else if i - j = 0 then [V.int 0] else []) : List V).length : Int) := by
          have ft' : t = if i - j = 0 then 1 else 0 := ft
          rw [ft']
          by_cases c : i - j = 0
          · simp [c]
          · simp [c]
        rw [decide_eq_true e]
        exact k _ s1
end
end Lk

set_option Elab.async false
set_option linter.all false
set_option maxRecDepth 100000
set_option maxHeartbeats 2000000
namespace Lk
open PySem PySem.Spec PyProof.Rows L2
section
variable {P : Program} {w : World} {K : PySem.W.Frag} {mg : Str → Option Value} {base : Heap}
def try__law_refused_1 {K : PySem.W.Frag} {mg : Str → Option Value} (T : Txt K mg) : TS := fun D σ H => (fun W => (tSeq (tIfS (tB (tVar 5)) (tDrop (tBM K "list" rAppend (tVar 4) (tCons (tCallKS (spOpB K T.C_NotUsable) (fun vs zs => match vs, zs with | [], [c, a, b] => [a, b, c] | _, _ => []) (WE W) (tCons (tVar 2) (tCons (tVar 0) (tCons (tVar 1) tNil)))) tNil))) (tDrop (tBM K "list" rAppend (tVar 4) (tCons (tCallS (spOpB K T.C_NotUsable) (WE W) (tCons (tVar 0) (tCons (tVar 1) (tCons (tVar 2) tNil)))) tNil)))) (tRet (tC (.bl false))))) (wAs K (.ref T.C_NeedError) 6 (fun a cls d => (tSeq (tIfS (tOr (tNot (tB (tCB (rIsX K a cls d) (tCons (tVar 6) (tCons (tC (.ref T.C_NotUsable)) tNil))))) (tOr (tNot (tB (tCB (rIsX K a cls d) (tCons (tVar 6) (tCons (tC (.ref T.C_UnitError)) tNil))))) (tNot (tB (tCB (rIsX K a cls d) (tCons (tVar 6) (tCons (tC (.ty "ValueError")) tNil))))))) (tRet (tC (.bl false))) tNext) (tSeq (tIfS (tB (tCB (rIsXT K a cls d) (tCons (tVar 6) (tCons (tTup (tCons (tC (.ref T.C_LinkError)) (tCons (tC (.ref T.C_LiveError)) (tCons (tC (.ref T.C_PaperError)) (tCons (tC (.ref T.C_TextError)) tNil))))) tNil)))) (tRet (tC (.bl false))) tNext) (tIfS (tOr (tTest (tOp rNe (tXf a cls d T.C_NotUsable "word" (tVar 6)) (tVar 3))) (tTest (tOp rNe (tXf a cls d T.C_NotUsable "at" (tVar 6)) (tUn (rU fun i => .int (-i)) (tC (.int 1)))))) (tRet (tC (.bl false))) tNext)))) (fun _ _ _ _ => False) D) D σ H
theorem ok_refused (T : Txt K mg) : FnOk P w K mg base CX0 5 T.f__law_refused T.d__law_refused ["_law_verb", "_law_first", "_law_second", "_law_name"] (spRefused K) := by
  have nd := sc__law_refused.nd
  refine T.F__law_refused.ok sc__law_refused (fun vs H Q E h => ?_) (fun cdv A outer s H vs Q E hr h => ?_)
  · obtain ⟨x, y, z, dx, dy, dz, n, rfl, _⟩ := h
    rfl
  obtain ⟨x, y, z, dx, dy, dz, n, rfl, hx, hy, hz', sx, hb, k⟩ := h
  have G_operated : FnOk P w K mg base (L2.CX P w) 4 _ _ _ (spOpB K T.C_NotUsable) := ok_opB T
  have hr_operated := hr
  refine ⟨_, (pss_cons (ps_set (i := 4) nd rfl (Or.inl rfl) (pe_lst pa_nil))
      (pss_cons (ps_for PassesOwn.never rfl (pi_tup (pe_tup (pa_cons pe_bl (pa_cons pe_bl pa_nil)))) (pg_name (i := 5) nd rfl (Or.inl rfl))
      (pss_one (PS.as (try__law_refused_1 T) (ps_try_as (i := 6) (tb := fun W => (tSeq (tIfS (tB (tVar 5)) (tDrop (tBM K "list" rAppend (tVar 4) (tCons (tCallKS (spOpB K T.C_NotUsable) (fun vs zs => match vs, zs with | [], [c, a, b] => [a, b, c] | _, _ => []) (WE W) (tCons (tVar 2) (tCons (tVar 0) (tCons (tVar 1) tNil)))) tNil))) (tDrop (tBM K "list" rAppend (tVar 4) (tCons (tCallS (spOpB K T.C_NotUsable) (WE W) (tCons (tVar 0) (tCons (tVar 1) (tCons (tVar 2) tNil)))) tNil)))) (tRet (tC (.bl false)))))
      (ts := fun a cls d => (tSeq (tIfS (tOr (tNot (tB (tCB (rIsX K a cls d) (tCons (tVar 6) (tCons (tC (.ref T.C_NotUsable)) tNil))))) (tOr (tNot (tB (tCB (rIsX K a cls d) (tCons (tVar 6) (tCons (tC (.ref T.C_UnitError)) tNil))))) (tNot (tB (tCB (rIsX K a cls d) (tCons (tVar 6) (tCons (tC (.ty "ValueError")) tNil))))))) (tRet (tC (.bl false))) tNext) (tSeq (tIfS (tB (tCB (rIsXT K a cls d) (tCons (tVar 6) (tCons (tTup (tCons (tC (.ref T.C_LinkError)) (tCons (tC (.ref T.C_LiveError)) (tCons (tC (.ref T.C_PaperError)) (tCons (tC (.ref T.C_TextError)) tNil))))) tNil)))) (tRet (tC (.bl false))) tNext) (tIfS (tOr (tTest (tOp rNe (tXf a cls d T.C_NotUsable "word" (tVar 6)) (tVar 3))) (tTest (tOp rNe (tXf a cls d T.C_NotUsable "at" (tVar 6)) (tUn (rU fun i => .int (-i)) (tC (.int 1)))))) (tRet (tC (.bl false))) tNext)))) (Wout := fun _ _ _ _ => False) rfl rfl nd rfl rfl ⟨rfl, by decide, Or.inl T.mC_NeedError⟩ takes0 (fun W pn xe tk _ => by exact (pss_cons (ps_if (pt_val (pv 5)) (pss_one (ps_expr (pe_bm PySem.F.plainAttrs_list PySem.F.slot_list_append PySem.F.type_list_append mt_append (pv 4) (pa_cons (by exact (pe_callKS G_operated hr_operated rfl T.m_operated T.k_operated T.w1_operated (fun σ => passAt tk σ) (pk_cons (pv 2) (pk_cons (pv 0) (pk_cons (pv 1) pk_nil))))) pa_nil)))) (pss_one (ps_expr (pe_bm PySem.F.plainAttrs_list PySem.F.slot_list_append PySem.F.type_list_append mt_append (pv 4) (pa_cons (by exact (pe_callS G_operated hr_operated rfl T.m_operated T.k_operated T.b_operated (fun σ => passAt tk σ) (by exact (pa_cons (pv 0) (pa_cons (pv 1) (pa_cons (pv 2) pa_nil)))))) pa_nil)))))
      (pss_one (ps_ret pe_bl))))
      (fun a oe cls d pn hz hf => by exact (pss_cons (ps_if (PW.pt (pw_or (pt_not (pt_val (pe_callB (call_isX hz hf) (by rfl) T.z_isinstance (by decide +kernel) (pa_cons (pv 6) (pa_cons (pe_glob (v := .ref T.C_NotUsable) rfl T.mC_NotUsable rfl) pa_nil))))) (pw_or (pt_not (pt_val (pe_callB (call_isX hz hf) (by rfl) T.z_isinstance (by decide +kernel) (pa_cons (pv 6) (pa_cons (pe_glob (v := .ref T.C_UnitError) rfl T.mC_UnitError rfl) pa_nil))))) (pw_or1 (pt_not (pt_val (pe_callB (call_isX hz hf) (by rfl) T.z_isinstance (by decide +kernel) (pa_cons (pv 6) (pa_cons (pe_bltn (v := .ty "ValueError") rfl T.z_ValueError (by decide +kernel) rfl) pa_nil))))))))) (pss_one (ps_ret pe_bl)) pss_nil)
      (pss_cons (ps_if (pt_val (pe_callB (call_isXT hz hf) (by rfl) T.z_isinstance (by decide +kernel) (pa_cons (pv 6) (pa_cons (pe_tup (pa_cons (pe_glob (v := .ref T.C_LinkError) rfl T.mC_LinkError rfl) (pa_cons (pe_glob (v := .ref T.C_LiveError) rfl T.mC_LiveError rfl) (pa_cons (pe_glob (v := .ref T.C_PaperError) rfl T.mC_PaperError rfl) (pa_cons (pe_glob (v := .ref T.C_TextError) rfl T.mC_TextError rfl) pa_nil))))) pa_nil)))) (pss_one (ps_ret pe_bl)) pss_nil)
      (pss_one (ps_if (PW.pt (pw_or (pt_cmpR op_ne (by exact (pe_xf T.xf T.nW hz hf (pv 6))) (pv 3) (nomark _)) (pw_or1 (pt_cmpR op_ne (by exact (pe_xf T.xf T.nA hz hf (pv 6))) (pe_un un_neg pe_int) (nomark _))))) (pss_one (ps_ret pe_bl)) pss_nil)))))))))
      (pss_one (ps_ret pe_bl)))), ?_⟩
  refine ⟨(by show 0 ≤ sizeLine; decide), fun p hp => ?_⟩
  refine ⟨(by show 2 ≤ sizeLine; decide), fun q hq => ⟨q, rfl, ⟨_, SqT.of upd_same⟩, ?_⟩⟩
  have s0 : Same H (upd (upd H p (.lst [])) q (.tup [.bl false, .bl true])) := (same_new hp _).trans (same_new hq _)
  refine for_tup (K := K) (a := q) (xs := [.bl false, .bl true]) (fun i σ H' => ∃ o5 : Option V, σ = [some x, some y, some z, some (.str n), some (.ref p), o5, none] ∧ Same H H' ∧ H' p = some (.lst []) ∧ H' q = some (.tup [.bl false, .bl true])) ?_ ?_ ?_ ?_
  · have hqp : q ≠ p := fun e => by rw [e, upd_same] at hq; cases hq
    exact ⟨none, rfl, s0, by rw [upd_ne hqp.symm]; exact upd_same, upd_same⟩
  · rintro i σ H1 _ ⟨_, _, _, _, q1⟩
    exact SqT.of q1
  · rintro i yv σ H1 hi ⟨o5, rfl, s1, e1, q1⟩
    obtain ⟨b, rfl⟩ : ∃ b, yv = V.bl b := by
      match i, hi with
      | 0, hi => exact ⟨_, (Option.some.inj hi).symm⟩
      | 1, hi => exact ⟨_, (Option.some.inj hi).symm⟩
      | n + 2, hi => cases hi
    refine ⟨_, rfl, b, rfl, ?_⟩
    refine ite2 (fun _ => ?_) (fun _ => ?_)
    · refine ⟨_, rfl, .inl ⟨rfl, _, SqL.of e1⟩, _, rfl, _, rfl, _, rfl, x, y, z, dx, dy, dz, n, rfl, dp_same s1 hx, dp_same s1 hy, dp_same s1 hz', sx, hb, fun d H2 s2 hd hxd => ⟨true, T.exN, fun _ a ha => ?_, fun q => Bool.noConfusion q⟩⟩
      refine ⟨_, rfl, T.C_NotUsable, d, _, _, _, _, rfl, rfl, hxd, T.xk, rfl, .own _, T.isN, _, rfl, ifF rfl ?_⟩
      refine ⟨_, rfl, T.C_NotUsable, d, _, _, _, _, rfl, rfl, hxd, T.xk, rfl, .own _, T.isU, _, rfl, ifF rfl ?_⟩
      refine ⟨_, rfl, T.C_NotUsable, d, _, _, _, _, rfl, rfl, hxd, T.xk, rfl, .ty _, T.isV, _, rfl, ifF rfl ?_⟩
      refine ⟨_, rfl, (by show 4 ≤ sizeLine; decide), fun tp htp => ⟨T.C_NotUsable, d, _, tp, _, _, _, rfl, rfl, (by rw [upd_ne (ne_of_none hxd htp)]; exact hxd), T.xk, rfl, upd_same, .cons (.own _) (.cons (.own _) (.cons (.own _) (.cons (.own _) .nil))), T.isT, _, rfl, ifF rfl ?_⟩⟩
      have hx2 : (upd H2 tp (.tup [.ref T.C_LinkError, .ref T.C_LiveError, .ref T.C_PaperError, .ref T.C_TextError])) d = some (.xd [("at", .int (-1)), ("word", .str n)]) := by rw [upd_ne (ne_of_none hxd htp)]; exact hxd
      refine ⟨_, rfl, rfl, rfl, d, _, _, rfl, hx2, rfl, _, rfl, rfl, _, rfl, ifF (by simp) ?_⟩
      refine ⟨_, rfl, rfl, rfl, d, _, _, rfl, hx2, rfl, _, rfl, rfl, _, rfl, ifF rfl ?_⟩
      exact ⟨_, rfl, s1.trans (s2.trans (same_new htp _)), by rw [upd_ne (ne_of_none (s2 _ _ e1) htp)]; exact s2 _ _ e1, by rw [upd_ne (ne_of_none (s2 _ _ q1) htp)]; exact s2 _ _ q1⟩
    · refine ⟨_, rfl, .inl ⟨rfl, _, SqL.of e1⟩, _, rfl, _, rfl, _, rfl, x, y, z, dx, dy, dz, n, rfl, dp_same s1 hx, dp_same s1 hy, dp_same s1 hz', sx, hb, fun d H2 s2 hd hxd => ⟨true, T.exN, fun _ a ha => ?_, fun q => Bool.noConfusion q⟩⟩
      refine ⟨_, rfl, T.C_NotUsable, d, _, _, _, _, rfl, rfl, hxd, T.xk, rfl, .own _, T.isN, _, rfl, ifF rfl ?_⟩
      refine ⟨_, rfl, T.C_NotUsable, d, _, _, _, _, rfl, rfl, hxd, T.xk, rfl, .own _, T.isU, _, rfl, ifF rfl ?_⟩
      refine ⟨_, rfl, T.C_NotUsable, d, _, _, _, _, rfl, rfl, hxd, T.xk, rfl, .ty _, T.isV, _, rfl, ifF rfl ?_⟩
      refine ⟨_, rfl, (by show 4 ≤ sizeLine; decide), fun tp htp => ⟨T.C_NotUsable, d, _, tp, _, _, _, rfl, rfl, (by rw [upd_ne (ne_of_none hxd htp)]; exact hxd), T.xk, rfl, upd_same, .cons (.own _) (.cons (.own _) (.cons (.own _) (.cons (.own _) .nil))), T.isT, _, rfl, ifF rfl ?_⟩⟩
      have hx2 : (upd H2 tp (.tup [.ref T.C_LinkError, .ref T.C_LiveError, .ref T.C_PaperError, .ref T.C_TextError])) d = some (.xd [("at", .int (-1)), ("word", .str n)]) := by rw [upd_ne (ne_of_none hxd htp)]; exact hxd
      refine ⟨_, rfl, rfl, rfl, d, _, _, rfl, hx2, rfl, _, rfl, rfl, _, rfl, ifF (by simp) ?_⟩
      refine ⟨_, rfl, rfl, rfl, d, _, _, rfl, hx2, rfl, _, rfl, rfl, _, rfl, ifF rfl ?_⟩
      exact ⟨_, rfl, s1.trans (s2.trans (same_new htp _)), by rw [upd_ne (ne_of_none (s2 _ _ e1) htp)]; exact s2 _ _ e1, by rw [upd_ne (ne_of_none (s2 _ _ q1) htp)]; exact s2 _ _ q1⟩
  · rintro σ H1 ⟨o5, rfl, s1, e1, q1⟩
    exact k H1 s1
end
end Lk

set_option Elab.async false
set_option linter.all false
set_option maxRecDepth 100000
set_option maxHeartbeats 2000000
namespace Lk
open PySem PySem.Spec PyProof.Rows L2
def kindsD : List PyData := [.str "", .str "Add", .str "number", .str "add ", .str "call", .str "plus", .none, .bool true, .int 3, .tuple [.str "add"], .list [.str "add"]]
def thingsD : List PyData := [.int (-1), .int 65536, .bool true, .bool false, .none, .str "1", .str "", .tuple [], .tuple [.int 5], .list [.int 7], .int (10 ^ 59), .int (-65535)]
theorem kinds_bad : ∀ d ∈ kindsD, isOp d = false ∧ SeqAt.shaped d = true := by decide +kernel
theorem things_bad : ∀ d ∈ thingsD, isW d = false ∧ SeqAt.shaped d = true := by decide +kernel
def vbs2 : List Vb := [.add, .sub, .mul, .div, .rem, .less, .same]
def vbs : List Vb := [.add, .div, .sub, .rem, .mul, .less, .same]
theorem name_at {r : Int} (h0 : 0 ≤ r) (h1 : r < 7) : ∃ v : Vb, atI (vbs.map fun v => V.str v.s) r = some (.str v.s) := by
  obtain ⟨n, rfl⟩ : ∃ n : Nat, r = (n : Int) := ⟨r.toNat, by omega⟩
  have hlt : n < vbs.length := by show n < 7; omega
  refine ⟨vbs[n], atI_nat ?_⟩
  rw [List.getElem?_map, List.getElem?_eq_getElem hlt]
  rfl
theorem bad_op {dx dy dz : PyData} (h : isOp dx = false) : bad dx dy dz = some ("operation" : Str) := if_pos h
theorem bad_one {v : Vb} {dy dz : PyData} (h : isW dy = false) : bad (.str v.s) dy dz = some ("one" : Str) := by
  unfold bad
  rw [isOp_s, if_neg (by decide), if_pos h]
theorem bad_other {v : Vb} {dy dz : PyData} (h1 : isW dy = true) (h : isW dz = false) : bad (.str v.s) dy dz = some ("other" : Str) := by
  unfold bad
  rw [isOp_s, if_neg (by decide), h1, if_neg (by decide), if_pos h]
theorem shaped_s (v : Vb) : SeqAt.shaped (.str v.s) = true := by cases v <;> decide +kernel
section
variable {P : Program} {w : World} {K : PySem.W.Frag} {mg : Str → Option Value} {base : Heap}
theorem ok_all (T : Txt K mg) : FnOk P w K mg base CX0 6 T.f__law_all_refused T.d__law_all_refused ["_law_tape_here"] spAll := by
  have nd := sc__law_all_refused.nd
  refine T.F__law_all_refused.ok sc__law_all_refused (fun vs H Q E h => ?_) (fun cdv A outer s H vs Q E hr h => ?_)
  · obtain ⟨l, ns, rfl, _⟩ := h
    rfl
  obtain ⟨l, ns, rfl, hl, k⟩ := h
  have G__law_take : FnOk P w K mg base CX0 1 _ _ _ spTake := ok_take T
  have hr__law_take := hr.mono (j := 1) (by decide)
  have G__law_word : FnOk P w K mg base CX0 2 _ _ _ spWord := ok_word T
  have hr__law_word := hr.mono (j := 2) (by decide)
  have G__law_refused : FnOk P w K mg base CX0 5 _ _ _ (spRefused K) := ok_refused T
  have hr__law_refused := hr
  refine ⟨_, (pss_cons (ps_set (i := 1) nd rfl (Or.inl rfl) (pe_tup (pa_cons pe_str (pa_cons pe_str (pa_cons pe_str (pa_cons pe_str (pa_cons pe_str (pa_cons pe_str (pa_cons pe_non (pa_cons pe_bl (pa_cons pe_int (pa_cons (pe_tup (pa_cons pe_str pa_nil)) (pa_cons (pe_lst (pa_cons pe_str pa_nil)) pa_nil)))))))))))))
      (pss_cons (ps_set (i := 2) nd rfl (Or.inl rfl) (pe_tup (pa_cons (pe_un un_neg pe_int) (pa_cons pe_int (pa_cons pe_bl (pa_cons pe_bl (pa_cons pe_non (pa_cons pe_str (pa_cons pe_str (pa_cons (pe_tup pa_nil) (pa_cons (pe_tup (pa_cons pe_int pa_nil)) (pa_cons (pe_lst (pa_cons pe_int pa_nil)) (pa_cons (pe_op op_pow pe_int pe_int) (pa_cons (pe_un un_neg pe_int) pa_nil))))))))))))))
      (pss_cons (ps_set (i := 3) nd rfl (Or.inl rfl) (pe_tup (pa_cons pe_str (pa_cons pe_str (pa_cons pe_str (pa_cons pe_str (pa_cons pe_str (pa_cons pe_str (pa_cons pe_str pa_nil)))))))))
      (pss_cons (ps_set (i := 4) nd rfl (Or.inl rfl) (pe_call G__law_take hr__law_take rfl T.m__law_take T.k__law_take T.b__law_take .nil pass0 (pa_cons (pv 0) (pa_cons pe_int pa_nil))))
      (pss_cons (ps_for PassesOwn.never rfl (pi_tup (pv 1)) (pg_name (i := 5) nd rfl (Or.inl rfl))
      (pss_one (ps_if (pt_not (pt_val (pe_call G__law_refused hr__law_refused rfl T.m__law_refused T.k__law_refused T.b__law_refused .nil pass0 (pa_cons (pv 5) (pa_cons (pe_call G__law_word hr__law_word rfl T.m__law_word T.k__law_word T.b__law_word .nil pass0 (pa_cons (pv 0) pa_nil)) (pa_cons (pe_call G__law_word hr__law_word rfl T.m__law_word T.k__law_word T.b__law_word .nil pass0 (pa_cons (pv 0) pa_nil)) (pa_cons pe_str pa_nil))))))) (pss_one (ps_ret pe_bl)) pss_nil)))
      (pss_cons (ps_for PassesOwn.never rfl (pi_tup (pv 2)) (pg_name (i := 6) nd rfl (Or.inl rfl))
      (pss_cons (ps_set (i := 7) nd rfl (Or.inl rfl) (pe_ix ix_tup (pv 3) (pe_call G__law_take hr__law_take rfl T.m__law_take T.k__law_take T.b__law_take .nil pass0 (pa_cons (pv 0) (pa_cons pe_int pa_nil))) (fun _ _ => rfl)))
      (pss_cons (ps_if (pt_not (pt_val (pe_call G__law_refused hr__law_refused rfl T.m__law_refused T.k__law_refused T.b__law_refused .nil pass0 (pa_cons (pv 7) (pa_cons (pv 6) (pa_cons (pe_call G__law_word hr__law_word rfl T.m__law_word T.k__law_word T.b__law_word .nil pass0 (pa_cons (pv 0) pa_nil)) (pa_cons pe_str pa_nil))))))) (pss_one (ps_ret pe_bl)) pss_nil)
      (pss_one (ps_if (pt_not (pt_val (pe_call G__law_refused hr__law_refused rfl T.m__law_refused T.k__law_refused T.b__law_refused .nil pass0 (pa_cons (pv 7) (pa_cons (pe_call G__law_word hr__law_word rfl T.m__law_word T.k__law_word T.b__law_word .nil pass0 (pa_cons (pv 0) pa_nil)) (pa_cons (pv 6) (pa_cons pe_str pa_nil))))))) (pss_one (ps_ret pe_bl)) pss_nil)))))
      (pss_cons (ps_set (i := 7) nd rfl (Or.inl rfl) (pe_ix ix_tup (pv 3) (pe_call G__law_take hr__law_take rfl T.m__law_take T.k__law_take T.b__law_take .nil pass0 (pa_cons (pv 0) (pa_cons pe_int pa_nil))) (fun _ _ => rfl)))
      (pss_cons (ps_if (pt_not (pt_val (pe_call G__law_refused hr__law_refused rfl T.m__law_refused T.k__law_refused T.b__law_refused .nil pass0 (pa_cons (pe_ix ix_tup (pv 1) (pe_op op_sub (pv 4) (pe_op op_fdivN (pv 4) pe_int)) (fun _ _ => rfl)) (pa_cons (pe_ix ix_tup (pv 2) (pv 4) (fun _ _ => rfl)) (pa_cons pe_int (pa_cons pe_str pa_nil))))))) (pss_one (ps_ret pe_bl)) pss_nil)
      (pss_cons (ps_if (pt_not (pt_val (pe_call G__law_refused hr__law_refused rfl T.m__law_refused T.k__law_refused T.b__law_refused .nil pass0 (pa_cons (pe_ix ix_tup (pv 1) pe_int (fun _ _ => rfl)) (pa_cons pe_int (pa_cons (pe_ix ix_tup (pv 2) (pv 4) (fun _ _ => rfl)) (pa_cons pe_str pa_nil))))))) (pss_one (ps_ret pe_bl)) pss_nil)
      (pss_one (ps_ret (pe_call G__law_refused hr__law_refused rfl T.m__law_refused T.k__law_refused T.b__law_refused .nil pass0 (pa_cons (pv 7) (pa_cons (pe_ix ix_tup (pv 2) (pv 4) (fun _ _ => rfl)) (pa_cons (pe_ix ix_tup (pv 2) (pe_op op_sub pe_int (pv 4)) (fun _ _ => rfl)) (pa_cons pe_str pa_nil)))))))))))))))), ?_⟩
  -- the three tuples
  refine ⟨(by show 1 ≤ sizeLine; decide), fun p1 hp1 => ⟨(by show 1 ≤ sizeLine; decide), fun p2 hp2 => ⟨(by show 11 ≤ sizeLine; decide), fun pk hpk => ?_⟩⟩⟩
  refine ⟨_, rfl, (by show 0 ≤ sizeLine; decide), fun p3 hp3 => ⟨(by show 1 ≤ sizeLine; decide), fun p4 hp4 => ⟨(by show 1 ≤ sizeLine; decide), fun p5 hp5 => ⟨_, _, rfl, rfl, ⟨by decide, by decide, by decide⟩, _, rfl, (by show 12 ≤ sizeLine; decide), fun pt hpt => ?_⟩⟩⟩⟩
  refine ⟨(by show 7 ≤ sizeLine; decide), fun pn hpn => ?_⟩
  have s1 := same_new hp1 (.tup [.str "add"])
  have s2 := same_new hp2 (.lst [.str "add"])
  have s3 := same_new hpk (.tup [.str "", .str "Add", .str "number", .str "add ", .str "call", .str "plus", .non, .bl true, .int 3, .ref p1, .ref p2])
  have s4 := same_new hp3 (.tup [])
  have s5 := same_new hp4 (.tup [.int 5])
  have s6 := same_new hp5 (.lst [.int 7])
  have s7 := same_new hpt (.tup [.int (-1), .int 65536, .bl true, .bl false, .non, .str "1", .str "", .ref p3, .ref p4, .ref p5, .int (10 ^ (59 : Int).toNat), .int (-65535)])
  have s8 := same_new hpn (.tup (vbs.map fun v => V.str v.s))
  have t7 := s7.trans s8
  have t6 := s6.trans t7
  have t5 := s5.trans t6
  have t4 := s4.trans t5
  have t3 := s3.trans t4
  have t2 := s2.trans t3
  have t1 := s1.trans t2
  have n1 : p1 ≠ l := (ne_of_none hl hp1).symm
  have n2 : p2 ≠ l := (ne_of_none (s1 _ _ hl) hp2).symm
  have nk : pk ≠ l := (ne_of_none ((s1.trans s2) _ _ hl) hpk).symm
  have n3 : p3 ≠ l := (ne_of_none ((s1.trans (s2.trans s3)) _ _ hl) hp3).symm
  have n4 : p4 ≠ l := (ne_of_none ((s1.trans (s2.trans (s3.trans s4))) _ _ hl) hp4).symm
  have n5 : p5 ≠ l := (ne_of_none ((s1.trans (s2.trans (s3.trans (s4.trans s5)))) _ _ hl) hp5).symm
  have nt : pt ≠ l := (ne_of_none ((s1.trans (s2.trans (s3.trans (s4.trans (s5.trans s6))))) _ _ hl) hpt).symm
  have nn : pn ≠ l := (ne_of_none ((s1.trans (s2.trans (s3.trans (s4.trans (s5.trans (s6.trans s7)))))) _ _ hl) hpn).symm
  have a1 := t2 _ _ (upd_same (H := H) (a := p1) (o := .tup [.str "add"]))
  have a2 := t3 _ _ (upd_same (a := p2) (o := .lst [.str "add"]))
  have ak := t4 _ _ (upd_same (a := pk) (o := .tup [.str "", .str "Add", .str "number", .str "add ", .str "call", .str "plus", .non, .bl true, .int 3, .ref p1, .ref p2]))
  have a3 := t5 _ _ (upd_same (a := p3) (o := .tup []))
  have a4 := t6 _ _ (upd_same (a := p4) (o := .tup [.int 5]))
  have a5 := t7 _ _ (upd_same (a := p5) (o := .lst [.int 7]))
  have at' := s8 _ _ (upd_same (a := pt) (o := .tup [.int (-1), .int 65536, .bl true, .bl false, .non, .str "1", .str "", .ref p3, .ref p4, .ref p5, .int (10 ^ (59 : Int).toNat), .int (-65535)]))
  have an := t1 _ _ hl
  have au := upd_same (H := upd (upd (upd (upd (upd (upd (upd H p1 (.tup [.str "add"])) p2 (.lst [.str "add"])) pk (.tup [.str "", .str "Add", .str "number", .str "add ", .str "call", .str "plus", .non, .bl true, .int 3, .ref p1, .ref p2])) p3 (.tup [])) p4 (.tup [.int 5])) p5 (.lst [.int 7])) pt (.tup [.int (-1), .int 65536, .bl true, .bl false, .non, .str "1", .str "", .ref p3, .ref p4, .ref p5, .int (10 ^ (59 : Int).toNat), .int (-65535)])) (a := pn) (o := .tup (vbs.map fun v => V.str v.s))
  have off : ∀ {H' : Hp} {b : Addr} {o : HO}, b ≠ l → H' b = some o → del H' l b = some o := fun hb e => by rw [del_ne hb]; exact e
  have KD : DpAll K (del (upd (upd (upd (upd (upd (upd (upd (upd H p1 (.tup [.str "add"])) p2 (.lst [.str "add"])) pk (.tup [.str "", .str "Add", .str "number", .str "add ", .str "call", .str "plus", .non, .bl true, .int 3, .ref p1, .ref p2])) p3 (.tup [])) p4 (.tup [.int 5])) p5 (.lst [.int 7])) pt (.tup [.int (-1), .int 65536, .bl true, .bl false, .non, .str "1", .str "", .ref p3, .ref p4, .ref p5, .int (10 ^ (59 : Int).toNat), .int (-65535)])) pn (.tup (vbs.map fun v => V.str v.s))) l) [.str "", .str "Add", .str "number", .str "add ", .str "call", .str "plus", .non, .bl true, .int 3, .ref p1, .ref p2] kindsD :=
    .cons (.str _) (.cons (.str _) (.cons (.str _) (.cons (.str _) (.cons (.str _) (.cons (.str _) (.cons .non (.cons (.bl _) (.cons (.int _) (.cons (.tup (SqT.of (off n1 a1)) (.cons (.str _) .nil)) (.cons (.lst (SqL.of (off n2 a2)) (.cons (.str _) .nil)) .nil))))))))))
  have TD : DpAll K (del (upd (upd (upd (upd (upd (upd (upd (upd H p1 (.tup [.str "add"])) p2 (.lst [.str "add"])) pk (.tup [.str "", .str "Add", .str "number", .str "add ", .str "call", .str "plus", .non, .bl true, .int 3, .ref p1, .ref p2])) p3 (.tup [])) p4 (.tup [.int 5])) p5 (.lst [.int 7])) pt (.tup [.int (-1), .int 65536, .bl true, .bl false, .non, .str "1", .str "", .ref p3, .ref p4, .ref p5, .int (10 ^ (59 : Int).toNat), .int (-65535)])) pn (.tup (vbs.map fun v => V.str v.s))) l) [.int (-1), .int 65536, .bl true, .bl false, .non, .str "1", .str "", .ref p3, .ref p4, .ref p5, .int (10 ^ (59 : Int).toNat), .int (-65535)] thingsD :=
    .cons (.int _) (.cons (.int _) (.cons (.bl _) (.cons (.bl _) (.cons .non (.cons (.str _) (.cons (.str _) (.cons (.tup (SqT.of (off n3 a3)) .nil) (.cons (.tup (SqT.of (off n4 a4)) (.cons (.int _) .nil)) (.cons (.lst (SqL.of (off n5 a5)) (.cons (.int _) .nil)) (.cons (.int _) (.cons (.int _) .nil)))))))))))
  refine ⟨_, rfl, l, ns, 12, rfl, an, by decide, fun r ms H0 r0 r1 e0 g0 => ?_⟩
  have g0' : Same (del (upd (upd (upd (upd (upd (upd (upd (upd H p1 (.tup [.str "add"])) p2 (.lst [.str "add"])) pk (.tup [.str "", .str "Add", .str "number", .str "add ", .str "call", .str "plus", .non, .bl true, .int 3, .ref p1, .ref p2])) p3 (.tup [])) p4 (.tup [.int 5])) p5 (.lst [.int 7])) pt (.tup [.int (-1), .int 65536, .bl true, .bl false, .non, .str "1", .str "", .ref p3, .ref p4, .ref p5, .int (10 ^ (59 : Int).toNat), .int (-65535)])) pn (.tup (vbs.map fun v => V.str v.s))) l) (del H0 l) := g0
  clear g0
  have g0 := g0'
  clear g0'
  generalize hG : upd (upd (upd (upd (upd (upd (upd (upd H p1 (.tup [.str "add"])) p2 (.lst [.str "add"])) pk (.tup [.str "", .str "Add", .str "number", .str "add ", .str "call", .str "plus", .non, .bl true, .int 3, .ref p1, .ref p2])) p3 (.tup [])) p4 (.tup [.int 5])) p5 (.lst [.int 7])) pt (.tup [.int (-1), .int 65536, .bl true, .bl false, .non, .str "1", .str "", .ref p3, .ref p4, .ref p5, .int (10 ^ (59 : Int).toNat), .int (-65535)])) pn (.tup (vbs.map fun v => V.str v.s)) = G at *
  have KDl : ∀ {H' : Hp}, Same (del G l) (del H' l) → ∀ {x d}, Dp K (del G l) x d → Dp K H' x d := by
    intro H' g x d h
    exact dp_same (g.trans (del_le _ _)) h
  -- the kinds
  refine ⟨_, rfl, pk, rfl, ⟨_, SqT.of (Same.off g0 nk ak)⟩, for_tup (K := K) (a := pk) (xs := [.str "", .str "Add", .str "number", .str "add ", .str "call", .str "plus", .non, .bl true, .int 3, .ref p1, .ref p2])
    (fun i σ H' => ∃ (ms : List Int) (o5 o6 o7 : Option V), σ = [some (.ref l), some (.ref pk), some (.ref pt), some (.ref pn), some (.int r), o5, o6, o7] ∧ H' l = some (.lst (iV ms)) ∧ Same (del G l) (del H' l)) ?_ ?_ ?_ ?_⟩
  · exact ⟨ms, _, _, _, rfl, e0, g0⟩
  · rintro i σ H' _ ⟨_, _, _, _, _, _, g⟩
    exact SqT.of (Same.off g nk ak)
  · rintro i x σ H' hi ⟨m0, o5, o6, o7, rfl, e, g⟩
    obtain ⟨d, hd, _, hx⟩ := dp_get KD hi
    obtain ⟨b1, b2⟩ := kinds_bad d hd
    refine ⟨_, rfl, _, rfl, l, m0, rfl, e, fun w1 m1 H1 _ _ e1 g1 => ⟨_, rfl, l, m1, rfl, e1, fun w2 m2 H2 _ _ e2 g2 => ?_⟩⟩
    have gg := g.trans (g1.trans g2)
    refine ⟨x, .int w1, .int w2, d, .int w1, .int w2, _, rfl, KDl gg hx, .int _, .int _, b2, bad_op b1, fun H3 h3 => ⟨_, rfl, ifF rfl ?_⟩⟩
    exact ⟨m2, _, _, _, rfl, h3 _ _ e2, gg.trans (same_del l h3)⟩
  rintro σ H' ⟨m0, o5, o6, o7, rfl, e, g⟩
  -- the things
  refine ⟨_, rfl, pt, rfl, ⟨_, SqT.of (Same.off g nt at')⟩, for_tup (K := K) (a := pt) (xs := [.int (-1), .int 65536, .bl true, .bl false, .non, .str "1", .str "", .ref p3, .ref p4, .ref p5, .int (10 ^ (59 : Int).toNat), .int (-65535)])
    (fun i σ H' => ∃ (ms : List Int) (o5 o6 o7 : Option V), σ = [some (.ref l), some (.ref pk), some (.ref pt), some (.ref pn), some (.int r), o5, o6, o7] ∧ H' l = some (.lst (iV ms)) ∧ Same (del G l) (del H' l)) ?_ ?_ ?_ ?_⟩
  · exact ⟨m0, _, _, _, rfl, e, g⟩
  · rintro i σ H' _ ⟨_, _, _, _, _, _, g⟩
    exact SqT.of (Same.off g nt at')
  · rintro i x σ H' hi ⟨m0, o5, o6, o7, rfl, e, g⟩
    obtain ⟨d, hd, _, hx⟩ := dp_get TD hi
    obtain ⟨b1, b2⟩ := things_bad d hd
    refine ⟨_, rfl, _, rfl, l, m0, 7, rfl, e, by decide, fun r7 m1 H1 q0 q1 e1 g1 => ?_⟩
    obtain ⟨v, hv⟩ := name_at q0 q1
    refine ⟨pn, _, _, _, rfl, rfl, SqT.of (Same.off (g.trans g1) nn au), hv, ?_⟩
    refine ⟨_, rfl, _, rfl, _, rfl, l, m1, rfl, e1, fun w2 m2 H2 _ _ e2 g2 => ?_⟩
    have gg := g.trans (g1.trans g2)
    refine ⟨.str v.s, x, .int w2, .str v.s, d, .int w2, _, rfl, .str _, KDl gg hx, .int _, shaped_s v, bad_one b1, fun H3 h3 => ⟨_, rfl, ifF rfl ?_⟩⟩
    refine ⟨_, rfl, _, rfl, l, m2, rfl, h3 _ _ e2, fun w4 m4 H4 c0 c1 e4 g4 => ⟨_, rfl, ?_⟩⟩
    have gg2 := gg.trans ((same_del l h3).trans g4)
    refine ⟨.str v.s, .int w4, x, .str v.s, .int w4, d, _, rfl, .str _, .int _, KDl gg2 hx, shaped_s v, bad_other (isW_of c0 c1) b1, fun H5 h5 => ⟨_, rfl, ifF rfl ?_⟩⟩
    exact ⟨m4, _, _, _, rfl, h5 _ _ e4, gg2.trans (same_del l h5)⟩
  rintro σ H' ⟨m0, o5, o6, o7, rfl, e, g⟩
  refine ⟨_, rfl, _, rfl, l, m0, 7, rfl, e, by decide, fun r7 m1 H1 q0 q1 e1 g1 => ?_⟩
  obtain ⟨v, hv⟩ := name_at q0 q1
  have gg := g.trans g1
  refine ⟨pn, _, _, _, rfl, rfl, SqT.of (Same.off gg nn au), hv, ?_⟩
  -- the three last ones
  have i1 : 0 ≤ r - r.fdiv 11 ∧ r - r.fdiv 11 < (kindsD.length : Int) := by
    show 0 ≤ r - r.fdiv 11 ∧ r - r.fdiv 11 < 11
    rw [Int.fdiv_eq_ediv_of_nonneg _ (by decide)]
    omega
  obtain ⟨x1, d1, hx1, hm1, _, hd1⟩ := dp_at KD i1.1 i1.2
  obtain ⟨x2, d2, hx2, hm2, _, hd2⟩ := dp_at TD r0 (show r < 12 from r1)
  obtain ⟨x3, d3, hx3, hm3, _, hd3⟩ := dp_at TD (show 0 ≤ 11 - r by omega) (show 11 - r < 12 by omega)
  obtain ⟨b1, b2⟩ := kinds_bad d1 hm1
  obtain ⟨b3, b4⟩ := things_bad d2 hm2
  have kS := SqT.of (K := K) (Same.off gg nk ak)
  have tS := SqT.of (K := K) (Same.off gg nt at')
  refine ⟨_, rfl, _, rfl, _, rfl, _, _, rfl, rfl, ⟨by decide, by decide⟩, _, _, rfl, rfl, pk, _, _, _, rfl, rfl, kS, hx1, ?_⟩
  refine ⟨_, rfl, _, rfl, pt, _, _, _, rfl, rfl, tS, hx2, ?_⟩
  refine ⟨x1, x2, .int 1, d1, d2, .int 1, _, rfl, KDl gg hd1, KDl gg hd2, .int _, b2, bad_op b1, fun H2 h2 => ⟨_, rfl, ifF rfl ?_⟩⟩
  have gg2 := gg.trans (same_del l h2)
  have hk0 : ∃ x0 d0, atI ([.str "", .str "Add", .str "number", .str "add ", .str "call", .str "plus", .non, .bl true, .int 3, .ref p1, .ref p2] : List V) 0 = some x0 ∧ d0 ∈ kindsD ∧ kindsD[(0 : Int).toNat]? = some d0 ∧ Dp K (del G l) x0 d0 := dp_at KD (by decide) (by decide)
  obtain ⟨x0, d0, hx0, hm0, _, hd0⟩ := hk0
  obtain ⟨c1, c2⟩ := kinds_bad d0 hm0
  refine ⟨_, rfl, pk, _, _, _, rfl, rfl, SqT.of (Same.off gg2 nk ak), hx0, ?_⟩
  refine ⟨_, rfl, _, rfl, pt, _, _, _, rfl, rfl, SqT.of (Same.off gg2 nt at'), hx2, ?_⟩
  refine ⟨x0, .int 0, x2, d0, .int 0, d2, _, rfl, KDl gg2 hd0, .int _, KDl gg2 hd2, c2, bad_op c1, fun H3 h3 => ⟨_, rfl, ifF rfl ?_⟩⟩
  have gg3 := gg2.trans (same_del l h3)
  refine ⟨_, rfl, _, rfl, _, rfl, pt, _, _, _, rfl, rfl, SqT.of (Same.off gg3 nt at'), hx2, ?_⟩
  refine ⟨_, rfl, _, rfl, _, _, rfl, rfl, pt, _, _, _, rfl, rfl, SqT.of (Same.off gg3 nt at'), hx3, ?_⟩
  exact ⟨.str v.s, x2, x3, .str v.s, d2, d3, _, rfl, .str _, KDl gg3 hd2, KDl gg3 hd3, shaped_s v, bad_one b3, fun H4 _ => k H4⟩
theorem ok_law (T : Txt K mg) : FnOk P w K mg base CX0 7 T.f_law T.d_law ["_law_script"] (spLaw K) := by
  have nd := sc_law.nd
  refine T.F_law.ok sc_law (fun vs H Q E h => ?_) (fun cdv A outer s H vs Q E hr h => ?_)
  · obtain ⟨a, ns, rfl, _⟩ := h
    rfl
  obtain ⟨a, ns, rfl, hS, h63, k⟩ := h
  have G__law_tape : FnOk P w K mg base CX0 1 _ _ _ (spTape K) := ok_tape T
  have hr__law_tape := hr.mono (j := 1) (by decide)
  have G__law_take : FnOk P w K mg base CX0 1 _ _ _ spTake := ok_take T
  have hr__law_take := hr.mono (j := 1) (by decide)
  have G__law_word : FnOk P w K mg base CX0 2 _ _ _ spWord := ok_word T
  have hr__law_word := hr.mono (j := 2) (by decide)
  have G_operated : FnOk P w K mg base CX0 4 _ _ _ spOpG := ok_opG T
  have hr_operated := hr.mono (j := 4) (by decide)
  have G__law_fits : FnOk P w K mg base CX0 1 _ _ _ spFits := ok_fits T
  have hr__law_fits := hr.mono (j := 1) (by decide)
  have G__law_all_refused : FnOk P w K mg base CX0 6 _ _ _ spAll := ok_all T
  have hr__law_all_refused := hr
  refine ⟨_, (pss_cons (ps_set (i := 1) nd rfl (Or.inl rfl) (pe_call G__law_tape hr__law_tape rfl T.m__law_tape T.k__law_tape T.b__law_tape .nil pass0 (pa_cons (pv 0) pa_nil)))
      (pss_cons (ps_for PassesOwn.never rfl (pi_range1 (by rfl) T.z_range (pa_cons pe_int pa_nil)) (pg_name (i := 2) nd rfl (Or.inl rfl))
      (pss_cons (ps_set (i := 3) nd rfl (Or.inl rfl) (pe_call G__law_word hr__law_word rfl T.m__law_word T.k__law_word T.b__law_word .nil pass0 (pa_cons (pv 1) pa_nil)))
      (pss_cons (ps_set (i := 4) nd rfl (Or.inl rfl) (pe_call G__law_word hr__law_word rfl T.m__law_word T.k__law_word T.b__law_word .nil pass0 (pa_cons (pv 1) pa_nil)))
      (pss_cons (ps_if (pt_cmpR op_eq (pe_call G__law_take hr__law_take rfl T.m__law_take T.k__law_take T.b__law_take .nil pass0 (pa_cons (pv 1) (pa_cons pe_int pa_nil))) pe_int (nomark _)) (pss_one (ps_set (i := 4) nd rfl (Or.inl rfl) (pv 3))) pss_nil)
      (pss_one (ps_for PassesOwn.never rfl (pi_tup (pe_tup (pa_cons pe_str (pa_cons pe_str (pa_cons pe_str (pa_cons pe_str (pa_cons pe_str (pa_cons pe_str (pa_cons pe_str pa_nil))))))))) (pg_name (i := 5) nd rfl (Or.inl rfl))
      (pss_cons (ps_if (pt_cmpR op_lt (pv 2) pe_int (nomark _)) (pss_one (ps_set (i := 6) nd rfl (Or.inl rfl) (pe_call G_operated hr_operated rfl T.m_operated T.k_operated T.b_operated .nil pass0 (pa_cons (pv 5) (pa_cons (pv 3) (pa_cons (pv 4) pa_nil)))))) (pss_one (ps_set (i := 6) nd rfl (Or.inl rfl) (by exact (pe_callKS (E := fun _ => E0) G_operated hr_operated rfl T.m_operated T.k_operated T.w2_operated passAt0 (pk_cons (pv 3) (pk_cons (pv 4) (pk_cons (pv 5) pk_nil))))))))
      (pss_one (ps_if (pt_not (pt_val (pe_call G__law_fits hr__law_fits rfl T.m__law_fits T.k__law_fits T.b__law_fits .nil pass0 (pa_cons (pv 5) (pa_cons (pv 3) (pa_cons (pv 4) (pa_cons (pv 6) pa_nil))))))) (pss_one (ps_ret pe_bl)) pss_nil)))))))))
      (pss_one (ps_ret (pe_call G__law_all_refused hr__law_all_refused rfl T.m__law_all_refused T.k__law_all_refused T.b__law_all_refused .nil pass0 (pa_cons (pv 1) pa_nil)))))), ?_⟩
  refine ⟨_, rfl, a, ns, rfl, hS, h63, fun p H0 ms s0 hp e0 => ?_⟩
  refine ⟨30, rfl, by decide, by decide, ?_⟩
  refine for_range (lo := 0) (n := (30 : Int).toNat) (fun i σ H' => ∃ (ms : List Int) (o2 o3 o4 o5 o6 : Option V), σ = [some (.ref a), some (.ref p), o2, o3, o4, o5, o6] ∧ H' p = some (.lst (iV ms))) ?_ ?_ ?_
  · exact ⟨ms, _, _, _, _, _, rfl, e0⟩
  · rintro i σ H1 hi ⟨m1, o2, o3, o4, o5, o6, rfl, e1⟩
    refine ⟨_, rfl, p, m1, rfl, e1, fun x m2 H2 x0 x1 e2 g2 => ?_⟩
    refine ⟨_, rfl, p, m2, rfl, e2, fun y m3 H3 y0 y1 e3 g3 => ?_⟩
    refine ⟨_, rfl, p, m3, 9, rfl, e3, by decide, fun z m4 H4 z0 z1 e4 g4 => ?_⟩
    refine ⟨rfl, _, rfl, ?_⟩
    refine ite2 (fun _ => ?_) (fun _ => ?_)
    · refine ⟨_, rfl, ?_⟩
      refine ⟨(by show 7 ≤ sizeLine; decide), fun q hq => ⟨q, rfl, ⟨_, SqT.of upd_same⟩, for_tup (K := K) (a := q) (xs := vbs2.map fun v => V.str v.s)
        (fun n σ H' => ∃ (ms : List Int) (o5 o6 : Option V), σ = [some (.ref a), some (.ref p), some (.int (0 + (i : Int))), some (.int x), some (.int x), o5, o6] ∧ H' p = some (.lst (iV ms)) ∧ H' q = some (.tup (vbs2.map fun v => V.str v.s))) ?_ ?_ ?_ ?_⟩⟩
      · exact ⟨m4, _, _, rfl, by rw [upd_ne (ne_of_none e4 hq)]; exact e4, upd_same⟩
      · rintro n σ H' _ ⟨_, _, _, _, _, q1⟩
        exact SqT.of q1
      · rintro n vv σ H' hv ⟨ms, q5, q6, rfl, e, q1⟩
        obtain ⟨v, rfl⟩ : ∃ v : Vb, vv = .str v.s := by
          rw [List.getElem?_map] at hv
          cases he : vbs2[n]? with
          | none => rw [he] at hv; cases hv
          | some v => rw [he] at hv; exact ⟨v, (Option.some.inj hv).symm⟩
        refine ⟨_, rfl, _, _, rfl, rfl, _, rfl, ?_⟩
        refine ite2 (fun _ => ?_) (fun _ => ?_)
        · refine ⟨_, rfl, _, rfl, _, rfl, v, x, x, rfl, x0, x1, x0, x1, fun H5 s5 => ?_⟩
          refine ⟨_, rfl, _, rfl, _, rfl, _, rfl, v, x, x, rfl, x0, x1, x0, x1, fun H6 s6 => ⟨_, rfl, ifF rfl ?_⟩⟩
          exact ⟨ms, _, _, rfl, s6 _ _ (s5 _ _ e), s6 _ _ (s5 _ _ q1)⟩
        · refine ⟨_, rfl, _, rfl, _, rfl, v, x, x, rfl, x0, x1, x0, x1, fun H5 s5 => ?_⟩
          refine ⟨_, rfl, _, rfl, _, rfl, _, rfl, v, x, x, rfl, x0, x1, x0, x1, fun H6 s6 => ⟨_, rfl, ifF rfl ?_⟩⟩
          exact ⟨ms, _, _, rfl, s6 _ _ (s5 _ _ e), s6 _ _ (s5 _ _ q1)⟩
      · rintro σ H' ⟨ms, q5, q6, rfl, e, q1⟩
        exact ⟨ms, _, _, _, _, _, rfl, e⟩
    · refine ⟨(by show 7 ≤ sizeLine; decide), fun q hq => ⟨q, rfl, ⟨_, SqT.of upd_same⟩, for_tup (K := K) (a := q) (xs := vbs2.map fun v => V.str v.s)
        (fun n σ H' => ∃ (ms : List Int) (o5 o6 : Option V), σ = [some (.ref a), some (.ref p), some (.int (0 + (i : Int))), some (.int x), some (.int y), o5, o6] ∧ H' p = some (.lst (iV ms)) ∧ H' q = some (.tup (vbs2.map fun v => V.str v.s))) ?_ ?_ ?_ ?_⟩⟩
      · exact ⟨m4, _, _, rfl, by rw [upd_ne (ne_of_none e4 hq)]; exact e4, upd_same⟩
      · rintro n σ H' _ ⟨_, _, _, _, _, q1⟩
        exact SqT.of q1
      · rintro n vv σ H' hv ⟨ms, q5, q6, rfl, e, q1⟩
        obtain ⟨v, rfl⟩ : ∃ v : Vb, vv = .str v.s := by
          rw [List.getElem?_map] at hv
          cases he : vbs2[n]? with
          | none => rw [he] at hv; cases hv
          | some v => rw [he] at hv; exact ⟨v, (Option.some.inj hv).symm⟩
        refine ⟨_, rfl, _, _, rfl, rfl, _, rfl, ?_⟩
        refine ite2 (fun _ => ?_) (fun _ => ?_)
        · refine ⟨_, rfl, _, rfl, _, rfl, v, x, y, rfl, x0, x1, y0, y1, fun H5 s5 => ?_⟩
          refine ⟨_, rfl, _, rfl, _, rfl, _, rfl, v, x, y, rfl, x0, x1, y0, y1, fun H6 s6 => ⟨_, rfl, ifF rfl ?_⟩⟩
          exact ⟨ms, _, _, rfl, s6 _ _ (s5 _ _ e), s6 _ _ (s5 _ _ q1)⟩
        · refine ⟨_, rfl, _, rfl, _, rfl, v, x, y, rfl, x0, x1, y0, y1, fun H5 s5 => ?_⟩
          refine ⟨_, rfl, _, rfl, _, rfl, _, rfl, v, x, y, rfl, x0, x1, y0, y1, fun H6 s6 => ⟨_, rfl, ifF rfl ?_⟩⟩
          exact ⟨ms, _, _, rfl, s6 _ _ (s5 _ _ e), s6 _ _ (s5 _ _ q1)⟩
      · rintro σ H' ⟨ms, q5, q6, rfl, e, q1⟩
        exact ⟨ms, _, _, _, _, _, rfl, e⟩
  · rintro σ H1 ⟨m1, o2, o3, o4, o5, o6, rfl, e1⟩
    exact ⟨_, rfl, p, m1, rfl, e1, k⟩
end
end Lk

set_option Elab.async false
set_option linter.all false
set_option maxRecDepth 100000
set_option maxHeartbeats 2000000
namespace Lk
open PySem PySem.Spec PyProof.Rows L2
theorem fun_binds {K : PySem.W.Frag} {x qual : Str} {st : Stmt} {f : Addr} {fd : FuncData} {ps ks : List Str} {g : List Value → List Value → List Value} {gV : List V → List V → List V} (F : Fun K x qual st f fd)
    (h : ∀ (kV doc pm : Value) (an : Option Addr) (cdv ct : Value) (us ws : List Value), (g us ws).length = ps.length → bindArgs (PySem.W.fnOf x qual (defArgs st) (defBody st) (defScope st) .none kV doc pm an cdv ct) ⟨us, ks.zip ws⟩ = pure (ps.zip (g us ws)))
    (rel : ∀ {vs : List V} {us : List Value} {zs : List V} {ws : List Value}, Vals vs us → Vals zs ws → Vals (gV vs zs) (g us ws)) : KBinds K fd ps ks g gV := by
  obtain ⟨oc, od, kV, doc, pm, an, cdv, ct, osl, rfl, lk, hcd⟩ := F.ex
  exact ⟨fun s us ws _ hl => .of_eq (h kV doc pm an cdv ct us ws hl), rel⟩
theorem cls_some {K : PySem.W.Frag} {C : Addr} (h : PySem.W.hasDictIn K C = true) : (PySem.W.clsIn K C).isSome = true := by
  obtain ⟨cd, hc, _⟩ := PySem.W.any_some h
  rw [hc]
  rfl
theorem kit_self {K : PySem.W.Frag} {C : Addr} : PySem.W.kitOne K (.ref C) (.ref C) = some true := if_pos (by simp)
theorem kit_own {K : PySem.W.Frag} {C D : Addr} {b : Bool} (hc : (PySem.W.clsIn K D).isSome = true) (ht : PySem.W.typeIn K (.ref D) = some (.type "type")) (h4 : PySem.W.subIn K (.ref C) (.ref D) = some b) (hn : b = false → (Value.ref C == Value.ref D) = false) : PySem.W.kitOne K (.ref C) (.ref D) = some b := by
  have e2 : ((PySem.W.clsIn K D).isSome && PySem.W.typeIn K (.ref D) == some (.type "type")) = true := by rw [hc, ht] <;> rfl
  show (if (Value.ref C == Value.ref D) = true then some true else (if ((PySem.W.clsIn K D).isSome && PySem.W.typeIn K (.ref D) == some (.type "type")) = true then PySem.W.subIn K (.ref C) (.ref D) else none)) = some b
  rw [if_pos e2, h4]
  cases b with
  | true => split <;> rfl
  | false => rw [hn rfl]; rfl
theorem kit_blt {K : PySem.W.Frag} {C : Addr} {T : String} {b : Bool} (hm : PySem.W.kitMeta T = true) (h4 : PySem.W.subIn K (.ref C) (.type T) = some b) : PySem.W.kitOne K (.ref C) (.type T) = some b := by
  show (if (Value.ref C == Value.type T) = true then some true else if PySem.W.kitMeta T = true then PySem.W.subIn K (.ref C) (.type T) else none) = some b
  rw [if_neg (by simp), if_pos hm, h4]
theorem all_mk {l : PySem.W.OpenLaw} {w : World} {K : PySem.W.Frag} {h : Heap} {mg : Str → Option Value} {fa : Addr} (X : K.In h) (G : h.Ns mainGlobals mg) (hfa : mg "law" = some (.ref fa))
    {C_NotUsable : Addr}
    {C_NeedError : Addr}
    {C_UnitError : Addr}
    {C_LinkError : Addr}
    {C_LiveError : Addr}
    {C_PaperError : Addr}
    {C_TextError : Addr}
    {f_NotUsable__init__ : Addr} {oc0 kV0 dc0 pm0 cd0 ct0 : Value} {od0 an0 : Option Addr} {sl0 : Array (Option Value)}
    {f_is_integer : Addr} {oc1 kV1 dc1 pm1 cd1 ct1 : Value} {od1 an1 : Option Addr} {sl1 : Array (Option Value)}
    {f_is_number : Addr} {oc2 kV2 dc2 pm2 cd2 ct2 : Value} {od2 an2 : Option Addr} {sl2 : Array (Option Value)}
    {f_is_word : Addr} {oc3 kV3 dc3 pm3 cd3 ct3 : Value} {od3 an3 : Option Addr} {sl3 : Array (Option Value)}
    {f_operated : Addr} {oc4 kV4 dc4 pm4 cd4 ct4 : Value} {od4 an4 : Option Addr} {sl4 : Array (Option Value)}
    {f__divided : Addr} {oc5 kV5 dc5 pm5 cd5 ct5 : Value} {od5 an5 : Option Addr} {sl5 : Array (Option Value)}
    {f__reckoned : Addr} {oc6 kV6 dc6 pm6 cd6 ct6 : Value} {od6 an6 : Option Addr} {sl6 : Array (Option Value)}
    {f__law_tape : Addr} {oc7 kV7 dc7 pm7 cd7 ct7 : Value} {od7 an7 : Option Addr} {sl7 : Array (Option Value)}
    {f__law_take : Addr} {oc8 kV8 dc8 pm8 cd8 ct8 : Value} {od8 an8 : Option Addr} {sl8 : Array (Option Value)}
    {f__law_word : Addr} {oc9 kV9 dc9 pm9 cd9 ct9 : Value} {od9 an9 : Option Addr} {sl9 : Array (Option Value)}
    {f__law_fits : Addr} {oc10 kV10 dc10 pm10 cd10 ct10 : Value} {od10 an10 : Option Addr} {sl10 : Array (Option Value)}
    {f__law_refused : Addr} {oc11 kV11 dc11 pm11 cd11 ct11 : Value} {od11 an11 : Option Addr} {sl11 : Array (Option Value)}
    {f__law_all_refused : Addr} {oc12 kV12 dc12 pm12 cd12 ct12 : Value} {od12 an12 : Option Addr} {sl12 : Array (Option Value)}
    {f_law : Addr} {oc13 kV13 dc13 pm13 cd13 ct13 : Value} {od13 an13 : Option Addr} {sl13 : Array (Option Value)}
    {nm q : Str} {N : Addr} {bs bm : List Value} {sn : List Str} {sub : List Value} {ab : Bool} {col : Option Bool} {dd : Option Addr} {m0 m1 m2 m3 m5 : Option Value}
    {t_WB : Tok} {aO : Addr} {ddO : Option Addr} {itsO : Array Value} {nO : Nat} {slO : Array (Option Value)}
    (aC_NotUsable : PySem.W.nsIn K mainGlobals "NotUsable" = some (some (.ref C_NotUsable)))
    (aC_NeedError : PySem.W.nsIn K mainGlobals "NeedError" = some (some (.ref C_NeedError)))
    (aC_UnitError : PySem.W.nsIn K mainGlobals "UnitError" = some (some (.ref C_UnitError)))
    (aC_LinkError : PySem.W.nsIn K mainGlobals "LinkError" = some (some (.ref C_LinkError)))
    (aC_LiveError : PySem.W.nsIn K mainGlobals "LiveError" = some (some (.ref C_LiveError)))
    (aC_PaperError : PySem.W.nsIn K mainGlobals "PaperError" = some (some (.ref C_PaperError)))
    (aC_TextError : PySem.W.nsIn K mainGlobals "TextError" = some (some (.ref C_TextError)))
    (a0 : PySem.W.findIn K (.ref C_NotUsable) "__init__" = some (some (.ref f_NotUsable__init__)))
    (t0 : PySem.W.typeIn K (.ref f_NotUsable__init__) = some (.type "function"))
    (l0 : K.lookup f_NotUsable__init__ = some ⟨oc0, od0, .func (PySem.W.fnOf "__init__" "NotUsable.__init__" (defArgs s_NotUsable___init__) (defBody s_NotUsable___init__) (defScope s_NotUsable___init__) .none kV0 dc0 pm0 an0 cd0 ct0), sl0⟩)
    (c0 : PySem.W.codeIn K cd0 "NotUsable.__init__" = true)
    (k0 : PySem.W.keepIn K (.ref f_NotUsable__init__) = true)
    (a1 : PySem.W.nsIn K mainGlobals "is_integer" = some (some (.ref f_is_integer)))
    (l1 : K.lookup f_is_integer = some ⟨oc1, od1, .func (PySem.W.fnOf "is_integer" "is_integer" (defArgs s_is_integer) (defBody s_is_integer) (defScope s_is_integer) .none kV1 dc1 pm1 an1 cd1 ct1), sl1⟩)
    (c1 : PySem.W.codeIn K cd1 "is_integer" = true)
    (k1 : PySem.W.keepIn K (.ref f_is_integer) = true)
    (a2 : PySem.W.nsIn K mainGlobals "is_number" = some (some (.ref f_is_number)))
    (l2 : K.lookup f_is_number = some ⟨oc2, od2, .func (PySem.W.fnOf "is_number" "is_number" (defArgs s_is_number) (defBody s_is_number) (defScope s_is_number) .none kV2 dc2 pm2 an2 cd2 ct2), sl2⟩)
    (c2 : PySem.W.codeIn K cd2 "is_number" = true)
    (k2 : PySem.W.keepIn K (.ref f_is_number) = true)
    (a3 : PySem.W.nsIn K mainGlobals "is_word" = some (some (.ref f_is_word)))
    (l3 : K.lookup f_is_word = some ⟨oc3, od3, .func (PySem.W.fnOf "is_word" "is_word" (defArgs s_is_word) (defBody s_is_word) (defScope s_is_word) .none kV3 dc3 pm3 an3 cd3 ct3), sl3⟩)
    (c3 : PySem.W.codeIn K cd3 "is_word" = true)
    (k3 : PySem.W.keepIn K (.ref f_is_word) = true)
    (a4 : PySem.W.nsIn K mainGlobals "operated" = some (some (.ref f_operated)))
    (l4 : K.lookup f_operated = some ⟨oc4, od4, .func (PySem.W.fnOf "operated" "operated" (defArgs s_operated) (defBody s_operated) (defScope s_operated) .none kV4 dc4 pm4 an4 cd4 ct4), sl4⟩)
    (c4 : PySem.W.codeIn K cd4 "operated" = true)
    (k4 : PySem.W.keepIn K (.ref f_operated) = true)
    (a5 : PySem.W.nsIn K mainGlobals "_divided" = some (some (.ref f__divided)))
    (l5 : K.lookup f__divided = some ⟨oc5, od5, .func (PySem.W.fnOf "_divided" "_divided" (defArgs s__divided) (defBody s__divided) (defScope s__divided) .none kV5 dc5 pm5 an5 cd5 ct5), sl5⟩)
    (c5 : PySem.W.codeIn K cd5 "_divided" = true)
    (k5 : PySem.W.keepIn K (.ref f__divided) = true)
    (a6 : PySem.W.nsIn K mainGlobals "_reckoned" = some (some (.ref f__reckoned)))
    (l6 : K.lookup f__reckoned = some ⟨oc6, od6, .func (PySem.W.fnOf "_reckoned" "_reckoned" (defArgs s__reckoned) (defBody s__reckoned) (defScope s__reckoned) .none kV6 dc6 pm6 an6 cd6 ct6), sl6⟩)
    (c6 : PySem.W.codeIn K cd6 "_reckoned" = true)
    (k6 : PySem.W.keepIn K (.ref f__reckoned) = true)
    (a7 : PySem.W.nsIn K mainGlobals "_law_tape" = some (some (.ref f__law_tape)))
    (l7 : K.lookup f__law_tape = some ⟨oc7, od7, .func (PySem.W.fnOf "_law_tape" "_law_tape" (defArgs s__law_tape) (defBody s__law_tape) (defScope s__law_tape) .none kV7 dc7 pm7 an7 cd7 ct7), sl7⟩)
    (c7 : PySem.W.codeIn K cd7 "_law_tape" = true)
    (k7 : PySem.W.keepIn K (.ref f__law_tape) = true)
    (a8 : PySem.W.nsIn K mainGlobals "_law_take" = some (some (.ref f__law_take)))
    (l8 : K.lookup f__law_take = some ⟨oc8, od8, .func (PySem.W.fnOf "_law_take" "_law_take" (defArgs s__law_take) (defBody s__law_take) (defScope s__law_take) .none kV8 dc8 pm8 an8 cd8 ct8), sl8⟩)
    (c8 : PySem.W.codeIn K cd8 "_law_take" = true)
    (k8 : PySem.W.keepIn K (.ref f__law_take) = true)
    (a9 : PySem.W.nsIn K mainGlobals "_law_word" = some (some (.ref f__law_word)))
    (l9 : K.lookup f__law_word = some ⟨oc9, od9, .func (PySem.W.fnOf "_law_word" "_law_word" (defArgs s__law_word) (defBody s__law_word) (defScope s__law_word) .none kV9 dc9 pm9 an9 cd9 ct9), sl9⟩)
    (c9 : PySem.W.codeIn K cd9 "_law_word" = true)
    (k9 : PySem.W.keepIn K (.ref f__law_word) = true)
    (a10 : PySem.W.nsIn K mainGlobals "_law_fits" = some (some (.ref f__law_fits)))
    (l10 : K.lookup f__law_fits = some ⟨oc10, od10, .func (PySem.W.fnOf "_law_fits" "_law_fits" (defArgs s__law_fits) (defBody s__law_fits) (defScope s__law_fits) .none kV10 dc10 pm10 an10 cd10 ct10), sl10⟩)
    (c10 : PySem.W.codeIn K cd10 "_law_fits" = true)
    (k10 : PySem.W.keepIn K (.ref f__law_fits) = true)
    (a11 : PySem.W.nsIn K mainGlobals "_law_refused" = some (some (.ref f__law_refused)))
    (l11 : K.lookup f__law_refused = some ⟨oc11, od11, .func (PySem.W.fnOf "_law_refused" "_law_refused" (defArgs s__law_refused) (defBody s__law_refused) (defScope s__law_refused) .none kV11 dc11 pm11 an11 cd11 ct11), sl11⟩)
    (c11 : PySem.W.codeIn K cd11 "_law_refused" = true)
    (k11 : PySem.W.keepIn K (.ref f__law_refused) = true)
    (a12 : PySem.W.nsIn K mainGlobals "_law_all_refused" = some (some (.ref f__law_all_refused)))
    (l12 : K.lookup f__law_all_refused = some ⟨oc12, od12, .func (PySem.W.fnOf "_law_all_refused" "_law_all_refused" (defArgs s__law_all_refused) (defBody s__law_all_refused) (defScope s__law_all_refused) .none kV12 dc12 pm12 an12 cd12 ct12), sl12⟩)
    (c12 : PySem.W.codeIn K cd12 "_law_all_refused" = true)
    (k12 : PySem.W.keepIn K (.ref f__law_all_refused) = true)
    (a13 : PySem.W.nsIn K mainGlobals "law" = some (some (.ref f_law)))
    (l13 : K.lookup f_law = some ⟨oc13, od13, .func (PySem.W.fnOf "law" "law" (defArgs s_law) (defBody s_law) (defScope s_law) .none kV13 dc13 pm13 an13 cd13 ct13), sl13⟩)
    (c13 : PySem.W.codeIn K cd13 "law" = true)
    (k13 : PySem.W.keepIn K (.ref f_law) = true)
    (xL : K.lookup C_NotUsable = some (excClassObj nm q C_NotUsable N bs bm true sn sub ab col dd m0 m1 m2 m3 m5 "ValueError.__new__"))
    (xR : PySem.HandSPX.refsVE bm = true)
    (sa : PySem.W.findIn K (.ref C_NotUsable) "__setattr__" = some (some (.builtin "object.__setattr__")))
    (ga : PySem.W.findIn K (.ref C_NotUsable) "__getattribute__" = some (some (.builtin "BaseException.__getattribute__")))
    (gg : PySem.W.findIn K (.ref C_NotUsable) "__getattr__" = some none)
    (nW : PySem.W.findIn K (.ref C_NotUsable) "word" = some none)
    (nA : PySem.W.findIn K (.ref C_NotUsable) "at" = some none)
    (eC : PySem.W.subIn K (.ref C_NotUsable) (.type "BaseException") = some true)
    (tC : PySem.W.typeIn K (.ref C_NotUsable) = some (.type "type"))
    (kC : PySem.W.keepIn K (.ref C_NotUsable) = true)
    (hC : PySem.W.hasDictIn K C_NotUsable = true)
    (cl : PySem.W.findIn K (.ref C_NotUsable) "__class__" = some (some (.builtin "object.__class__")))
    (sn' : PySem.W.specialIn K (.builtin "object.__class__") "__get__" = some (some (.builtin "getset_descriptor.__get__")))
    (tk : PySem.W.takesIn K (.builtin "object.__class__") = some true)
    (mo : PySem.W.mroIn K C_NotUsable (.type "object") = some true)
    (q1NeedError : PySem.W.typeIn K (.ref C_NeedError) = some (.type "type"))
    (q2NeedError : PySem.W.hasDictIn K C_NeedError = true)
    (q3NeedError : PySem.W.subIn K (.ref C_NotUsable) (.ref C_NeedError) = some true)
    (q1UnitError : PySem.W.typeIn K (.ref C_UnitError) = some (.type "type"))
    (q2UnitError : PySem.W.hasDictIn K C_UnitError = true)
    (q3UnitError : PySem.W.subIn K (.ref C_NotUsable) (.ref C_UnitError) = some true)
    (q1LinkError : PySem.W.typeIn K (.ref C_LinkError) = some (.type "type"))
    (q2LinkError : PySem.W.hasDictIn K C_LinkError = true)
    (q3LinkError : PySem.W.subIn K (.ref C_NotUsable) (.ref C_LinkError) = some false)
    (q4LinkError : (Value.ref C_NotUsable == Value.ref C_LinkError) = false)
    (q1LiveError : PySem.W.typeIn K (.ref C_LiveError) = some (.type "type"))
    (q2LiveError : PySem.W.hasDictIn K C_LiveError = true)
    (q3LiveError : PySem.W.subIn K (.ref C_NotUsable) (.ref C_LiveError) = some false)
    (q4LiveError : (Value.ref C_NotUsable == Value.ref C_LiveError) = false)
    (q1PaperError : PySem.W.typeIn K (.ref C_PaperError) = some (.type "type"))
    (q2PaperError : PySem.W.hasDictIn K C_PaperError = true)
    (q3PaperError : PySem.W.subIn K (.ref C_NotUsable) (.ref C_PaperError) = some false)
    (q4PaperError : (Value.ref C_NotUsable == Value.ref C_PaperError) = false)
    (q1TextError : PySem.W.typeIn K (.ref C_TextError) = some (.type "type"))
    (q2TextError : PySem.W.hasDictIn K C_TextError = true)
    (q3TextError : PySem.W.subIn K (.ref C_NotUsable) (.ref C_TextError) = some false)
    (q4TextError : (Value.ref C_NotUsable == Value.ref C_TextError) = false)
    (q5 : PySem.W.subIn K (.ref C_NeedError) (.type "BaseException") = some true)
    (q7 : PySem.W.subIn K (.ref C_NotUsable) (.type "ValueError") = some true)
    (wb : PySem.W.nsIn K mainGlobals "WORD_BOUND" = some (some (.int 65536 t_WB)))
    (oa : PySem.W.nsIn K mainGlobals "OPERATIONS" = some (some (.ref aO)))
    (ol : K.lookup aO = some ⟨.type "tuple", ddO, .seq itsO nO, slO⟩)
    (ov : Vals (ops.map V.str) itsO.toList)
    (os' : itsO.size ≤ sizeLine)
    (z_len : PySem.W.nsIn K mainGlobals "len" = some none)
    (z_int : PySem.W.nsIn K mainGlobals "int" = some none)
    (z_bool : PySem.W.nsIn K mainGlobals "bool" = some none)
    (z_range : PySem.W.nsIn K mainGlobals "range" = some none)
    (z_isinstance : PySem.W.nsIn K mainGlobals "isinstance" = some none)
    (z_ValueError : PySem.W.nsIn K mainGlobals "ValueError" = some none)
    : ∃ fd : FuncData, (∀ (s : Shared) (v : Value), BindsTo s fd ⟨[v], []⟩ [("_law_script", v)]) ∧ ∀ base : Heap, K.In base → base.Ns mainGlobals mg → FnOk l.prog w K mg base CX0 7 fa fd ["_law_script"] (spLaw K) := by
  have e := hfa.symm.trans (PySem.W.mg_of X G a13)
  cases e
  have F0 := fun_mk (st := s_NotUsable___init__) l0 c0 k0
  have b0 := F0.binds (ps := ["self", "word", "at"]) fun _ _ _ _ _ _ us hl => match us, hl with | [_, _, _], _ => rfl
  have F1 := fun_mk (st := s_is_integer) l1 c1 k1
  have b1 := F1.binds (ps := ["thing"]) fun _ _ _ _ _ _ us hl => match us, hl with | [_], _ => rfl
  have F2 := fun_mk (st := s_is_number) l2 c2 k2
  have b2 := F2.binds (ps := ["thing"]) fun _ _ _ _ _ _ us hl => match us, hl with | [_], _ => rfl
  have F3 := fun_mk (st := s_is_word) l3 c3 k3
  have b3 := F3.binds (ps := ["thing"]) fun _ _ _ _ _ _ us hl => match us, hl with | [_], _ => rfl
  have F4 := fun_mk (st := s_operated) l4 c4 k4
  have b4 := F4.binds (ps := ["operation", "one", "other"]) fun _ _ _ _ _ _ us hl => match us, hl with | [_, _, _], _ => rfl
  have F5 := fun_mk (st := s__divided) l5 c5 k5
  have b5 := F5.binds (ps := ["operation", "one", "other"]) fun _ _ _ _ _ _ us hl => match us, hl with | [_, _, _], _ => rfl
  have F6 := fun_mk (st := s__reckoned) l6 c6 k6
  have b6 := F6.binds (ps := ["operation", "one", "other"]) fun _ _ _ _ _ _ us hl => match us, hl with | [_, _, _], _ => rfl
  have F7 := fun_mk (st := s__law_tape) l7 c7 k7
  have b7 := F7.binds (ps := ["_law_script"]) fun _ _ _ _ _ _ us hl => match us, hl with | [_], _ => rfl
  have F8 := fun_mk (st := s__law_take) l8 c8 k8
  have b8 := F8.binds (ps := ["_law_tape_here", "_law_many"]) fun _ _ _ _ _ _ us hl => match us, hl with | [_, _], _ => rfl
  have F9 := fun_mk (st := s__law_word) l9 c9 k9
  have b9 := F9.binds (ps := ["_law_tape_here"]) fun _ _ _ _ _ _ us hl => match us, hl with | [_], _ => rfl
  have F10 := fun_mk (st := s__law_fits) l10 c10 k10
  have b10 := F10.binds (ps := ["_law_verb", "_law_first", "_law_second", "_law_told"]) fun _ _ _ _ _ _ us hl => match us, hl with | [_, _, _, _], _ => rfl
  have F11 := fun_mk (st := s__law_refused) l11 c11 k11
  have b11 := F11.binds (ps := ["_law_verb", "_law_first", "_law_second", "_law_name"]) fun _ _ _ _ _ _ us hl => match us, hl with | [_, _, _, _], _ => rfl
  have F12 := fun_mk (st := s__law_all_refused) l12 c12 k12
  have b12 := F12.binds (ps := ["_law_tape_here"]) fun _ _ _ _ _ _ us hl => match us, hl with | [_], _ => rfl
  have F13 := fun_mk (st := s_law) l13 c13 k13
  have b13 := F13.binds (ps := ["_law_script"]) fun _ _ _ _ _ _ us hl => match us, hl with | [_], _ => rfl
  have w1 : KBinds K _ ["operation", "one", "other"] ["other", "operation", "one"] (fun us ws => match us, ws with | [], [c, a, b] => [a, b, c] | _, _ => []) (fun vs zs => match vs, zs with | [], [c, a, b] => [a, b, c] | _, _ => []) := fun_binds F4
    (fun _ _ _ _ _ _ us ws hl => match us, ws, hl with | [], [_, _, _], _ => rfl | [], [], h => nomatch h | [], [_], h => nomatch h | [], [_, _], h => nomatch h | [], _ :: _ :: _ :: _ :: _, h => nomatch h | _ :: _, _, h => nomatch h)
    (fun r1 r2 => match r1, r2 with | .nil, .cons r (.cons s (.cons t .nil)) => .cons s (.cons t (.cons r .nil)) | .nil, .nil => .nil | .nil, .cons _ .nil => .nil | .nil, .cons _ (.cons _ .nil) => .nil | .nil, .cons _ (.cons _ (.cons _ (.cons _ _))) => .nil | .cons _ _, _ => .nil)
  have w2 : KBinds K _ ["operation", "one", "other"] ["one", "other", "operation"] (fun us ws => match us, ws with | [], [b, c, a] => [a, b, c] | _, _ => []) (fun vs zs => match vs, zs with | [], [b, c, a] => [a, b, c] | _, _ => []) := fun_binds F4
    (fun _ _ _ _ _ _ us ws hl => match us, ws, hl with | [], [_, _, _], _ => rfl | [], [], h => nomatch h | [], [_], h => nomatch h | [], [_, _], h => nomatch h | [], _ :: _ :: _ :: _ :: _, h => nomatch h | _ :: _, _, h => nomatch h)
    (fun r1 r2 => match r1, r2 with | .nil, .cons r (.cons s (.cons t .nil)) => .cons t (.cons r (.cons s .nil)) | .nil, .nil => .nil | .nil, .cons _ .nil => .nil | .nil, .cons _ (.cons _ .nil) => .nil | .nil, .cons _ (.cons _ (.cons _ (.cons _ _))) => .nil | .cons _ _, _ => .nil)
  let T : Txt K mg := {
    C_NotUsable := C_NotUsable, mC_NotUsable := PySem.W.mg_of X G aC_NotUsable,
    C_NeedError := C_NeedError, mC_NeedError := PySem.W.mg_of X G aC_NeedError,
    C_UnitError := C_UnitError, mC_UnitError := PySem.W.mg_of X G aC_UnitError,
    C_LinkError := C_LinkError, mC_LinkError := PySem.W.mg_of X G aC_LinkError,
    C_LiveError := C_LiveError, mC_LiveError := PySem.W.mg_of X G aC_LiveError,
    C_PaperError := C_PaperError, mC_PaperError := PySem.W.mg_of X G aC_PaperError,
    C_TextError := C_TextError, mC_TextError := PySem.W.mg_of X G aC_TextError,
    x_NotUsable := ⟨⟨nm, q, N, bs, bm, sn, sub, ab, col, dd, m0, m1, m2, m3, m5, xL, xR⟩, sa, eC, tC, kC⟩, xk := ⟨cls_some hC, ga, gg, eC, cl, sn', tk, mo⟩, xf := ⟨ga, gg, eC, hC⟩, i_NotUsable := a0, t_NotUsable := t0, nW := nW, nA := nA,
    exN := PySem.W.exm_ref q5 q2NeedError q1NeedError q3NeedError, isN := kit_self, isU := kit_own (cls_some q2UnitError) q1UnitError q3UnitError (fun z => nomatch z), isV := kit_blt rfl q7,
    isT := kitAny_cons (kit_own (cls_some q2LinkError) q1LinkError q3LinkError fun _ => q4LinkError) (fun _ => kitAny_cons (kit_own (cls_some q2LiveError) q1LiveError q3LiveError fun _ => q4LiveError) (fun _ => kitAny_cons (kit_own (cls_some q2PaperError) q1PaperError q3PaperError fun _ => q4PaperError) (fun _ => kitAny_cons (kit_own (cls_some q2TextError) q1TextError q3TextError fun _ => q4TextError) (fun _ => kitAny_nil) (fun z => nomatch z)) (fun z => nomatch z)) (fun z => nomatch z)) (fun z => nomatch z),
    f_NotUsable__init__ := _, d_NotUsable__init__ := _, F_NotUsable__init__ := F0, b_NotUsable__init__ := b0,
    f_is_integer := _, d_is_integer := _, F_is_integer := F1, m_is_integer := PySem.W.mg_of X G a1, k_is_integer := k1, b_is_integer := b1,
    f_is_number := _, d_is_number := _, F_is_number := F2, m_is_number := PySem.W.mg_of X G a2, k_is_number := k2, b_is_number := b2,
    f_is_word := _, d_is_word := _, F_is_word := F3, m_is_word := PySem.W.mg_of X G a3, k_is_word := k3, b_is_word := b3,
    f_operated := _, d_operated := _, F_operated := F4, m_operated := PySem.W.mg_of X G a4, k_operated := k4, b_operated := b4,
    f__divided := _, d__divided := _, F__divided := F5, m__divided := PySem.W.mg_of X G a5, k__divided := k5, b__divided := b5,
    f__reckoned := _, d__reckoned := _, F__reckoned := F6, m__reckoned := PySem.W.mg_of X G a6, k__reckoned := k6, b__reckoned := b6,
    f__law_tape := _, d__law_tape := _, F__law_tape := F7, m__law_tape := PySem.W.mg_of X G a7, k__law_tape := k7, b__law_tape := b7,
    f__law_take := _, d__law_take := _, F__law_take := F8, m__law_take := PySem.W.mg_of X G a8, k__law_take := k8, b__law_take := b8,
    f__law_word := _, d__law_word := _, F__law_word := F9, m__law_word := PySem.W.mg_of X G a9, k__law_word := k9, b__law_word := b9,
    f__law_fits := _, d__law_fits := _, F__law_fits := F10, m__law_fits := PySem.W.mg_of X G a10, k__law_fits := k10, b__law_fits := b10,
    f__law_refused := _, d__law_refused := _, F__law_refused := F11, m__law_refused := PySem.W.mg_of X G a11, k__law_refused := k11, b__law_refused := b11,
    f__law_all_refused := _, d__law_all_refused := _, F__law_all_refused := F12, m__law_all_refused := PySem.W.mg_of X G a12, k__law_all_refused := k12, b__law_all_refused := b12,
    f_law := _, d_law := _, F_law := F13,
    w1_operated := w1, w2_operated := w2,
    t_WB := t_WB, c_WORD_BOUND := PySem.W.mg_of X G wb, a_OPERATIONS := aO, c_OPERATIONS := PySem.W.mg_of X G oa, s_OPERATIONS := fun _ => .inr ⟨_, itsO, nO, ol, rfl, rfl, os', ov⟩,
    z_len := PySem.W.mg_none_of X G z_len, z_int := PySem.W.mg_none_of X G z_int, z_bool := PySem.W.mg_none_of X G z_bool, z_range := PySem.W.mg_none_of X G z_range, z_isinstance := PySem.W.mg_none_of X G z_isinstance, z_ValueError := PySem.W.mg_none_of X G z_ValueError }
  exact ⟨_, fun s v => .of_eq rfl, fun base _ _ => ok_law T⟩
theorem walk {l : PySem.W.OpenLaw} {q : Program} {loose : List Str} {XP : (Str → Option Value) → Heap → Prop} {YP : World → Heap → Prop} {d : DefRec} {K : Params → PySem.W.Frag} (hn : l.most = some 63) (hdf : d.params.defaults = [])
    (hY : ∀ (w : World) (h : Heap), YP w h → (K w.params).In h)
    (F : ∀ (w : World) (mg : Str → Option Value) (fa : Addr) (h : Heap), (K w.params).In h → h.Ns mainGlobals mg → mg d.name = some (.ref fa) →
      ∃ fd : FuncData, (∀ (s : Shared) (u : Value), BindsTo s fd ⟨[u], []⟩ [("_law_script", u)]) ∧ ∀ base : Heap, (K w.params).In base → base.Ns mainGlobals mg → FnOk l.prog w (K w.params) mg base CX0 7 fa fd ["_law_script"] (spLaw (K w.params))) :
    PySem.W.WalkO q loose XP YP l.row.toRowW d [] (fun f vs => PySem.call f vs) :=
  L2.walk_of (n := 63) (k := 7) (x := "_law_script") (CX := fun _ => CX0) (sp := fun w => spLaw (K w.params)) hn (by decide) hdf ⟨rfl, by decide, by decide⟩ hY F (fun _ _ a ns hl _ hS => ⟨a, ns, rfl, hS, hl, fun _ => rfl⟩) fun _ _ _ _ _ z => z
end Lk
open PySem PySem.W PyProof.Rows
set_option maxRecDepth 100000 in
set_option maxHeartbeats 0 in
theorem PySem.Challenge.cw_linkneed_k06_whole_operations_holds : PySem.Challenge.rw_linkneed_k06_whole_operations.Holds := by
  w_on; o_law; k_head; (case hw => w_witness2)
  k_fill
  refine Lk.walk (l := PySem.Challenge.rw_linkneed_k06_whole_operations) rfl rfl (fun w h Y => PySem.W.kIn_of Y) ?F
  case F =>
    intro w mg fa h KX G hmg
    refine' Lk.all_mk KX G hmg ?aC_NotUsable ?aC_NeedError ?aC_UnitError ?aC_LinkError ?aC_LiveError ?aC_PaperError ?aC_TextError ?a0 ?t0 ?l0 ?c0 ?k0 ?a1 ?l1 ?c1 ?k1 ?a2 ?l2 ?c2 ?k2 ?a3 ?l3 ?c3 ?k3 ?a4 ?l4 ?c4 ?k4 ?a5 ?l5 ?c5 ?k5 ?a6 ?l6 ?c6 ?k6 ?a7 ?l7 ?c7 ?k7 ?a8 ?l8 ?c8 ?k8 ?a9 ?l9 ?c9 ?k9 ?a10 ?l10 ?c10 ?k10 ?a11 ?l11 ?c11 ?k11 ?a12 ?l12 ?c12 ?k12 ?a13 ?l13 ?c13 ?k13 ?xL ?xR ?sa ?ga ?gg ?nW ?nA ?eC ?tC ?kC ?hC ?cl ?sn' ?tk ?mo ?q1NeedError ?q2NeedError ?q3NeedError ?q1UnitError ?q2UnitError ?q3UnitError ?q1LinkError ?q2LinkError ?q3LinkError ?q4LinkError ?q1LiveError ?q2LiveError ?q3LiveError ?q4LiveError ?q1PaperError ?q2PaperError ?q3PaperError ?q4PaperError ?q1TextError ?q2TextError ?q3TextError ?q4TextError ?q5 ?q7 ?wb ?oa ?ol ?ov ?os' ?z_len ?z_int ?z_bool ?z_range ?z_isinstance ?z_ValueError
    (case aC_NotUsable => k_is)
    (case aC_NeedError => k_is)
    (case aC_UnitError => k_is)
    (case aC_LinkError => k_is)
    (case aC_LiveError => k_is)
    (case aC_PaperError => k_is)
    (case aC_TextError => k_is)
    (case a0 => k_is)
    (case t0 => k_is)
    (case l0 => k_is)
    (case c0 => k_is)
    (case k0 => k_is)
    (case a1 => k_is)
    (case l1 => k_is)
    (case c1 => k_is)
    (case k1 => k_is)
    (case a2 => k_is)
    (case l2 => k_is)
    (case c2 => k_is)
    (case k2 => k_is)
    (case a3 => k_is)
    (case l3 => k_is)
    (case c3 => k_is)
    (case k3 => k_is)
    (case a4 => k_is)
    (case l4 => k_is)
    (case c4 => k_is)
    (case k4 => k_is)
    (case a5 => k_is)
    (case l5 => k_is)
    (case c5 => k_is)
    (case k5 => k_is)
    (case a6 => k_is)
    (case l6 => k_is)
    (case c6 => k_is)
    (case k6 => k_is)
    (case a7 => k_is)
    (case l7 => k_is)
    (case c7 => k_is)
    (case k7 => k_is)
    (case a8 => k_is)
    (case l8 => k_is)
    (case c8 => k_is)
    (case k8 => k_is)
    (case a9 => k_is)
    (case l9 => k_is)
    (case c9 => k_is)
    (case k9 => k_is)
    (case a10 => k_is)
    (case l10 => k_is)
    (case c10 => k_is)
    (case k10 => k_is)
    (case a11 => k_is)
    (case l11 => k_is)
    (case c11 => k_is)
    (case k11 => k_is)
    (case a12 => k_is)
    (case l12 => k_is)
    (case c12 => k_is)
    (case k12 => k_is)
    (case a13 => k_is)
    (case l13 => k_is)
    (case c13 => k_is)
    (case k13 => k_is)
    (case xL => k_is)
    (case xR => decide +kernel)
    (case sa => k_is)
    (case ga => k_is)
    (case gg => k_is)
    (case nW => k_is)
    (case nA => k_is)
    (case eC => k_is)
    (case tC => k_is)
    (case kC => k_is)
    (case hC => k_is)
    (case cl => k_is)
    (case sn' => rfl)
    (case tk => k_is)
    (case mo => k_is)
    (case q1NeedError => k_is)
    (case q2NeedError => k_is)
    (case q3NeedError => k_is)
    (case q1UnitError => k_is)
    (case q2UnitError => k_is)
    (case q3UnitError => k_is)
    (case q1LinkError => k_is)
    (case q2LinkError => k_is)
    (case q3LinkError => k_is)
    (case q4LinkError => decide +kernel)
    (case q1LiveError => k_is)
    (case q2LiveError => k_is)
    (case q3LiveError => k_is)
    (case q4LiveError => decide +kernel)
    (case q1PaperError => k_is)
    (case q2PaperError => k_is)
    (case q3PaperError => k_is)
    (case q4PaperError => decide +kernel)
    (case q1TextError => k_is)
    (case q2TextError => k_is)
    (case q3TextError => k_is)
    (case q4TextError => decide +kernel)
    (case q5 => k_is)
    (case q7 => k_is)
    (case wb => k_is)
    (case oa => k_is)
    (case ol => k_is)
    (case ov => exact .cons ⟨_, rfl⟩ (.cons ⟨_, rfl⟩ (.cons ⟨_, rfl⟩ (.cons ⟨_, rfl⟩ (.cons ⟨_, rfl⟩ (.cons ⟨_, rfl⟩ (.cons ⟨_, rfl⟩ .nil)))))))
    (case os' => decide)
    (case z_len => k_is)
    (case z_int => k_is)
    (case z_bool => k_is)
    (case z_range => k_is)
    (case z_isinstance => k_is)
    (case z_ValueError => k_is)

