import PyProof.Rows.All
import Wide.All
import OpenK.AllK
import Wide.FinOn
import KE.KStateDown
import Lean
import KE.KTypeName
import HandS.Exc
import HandS.ExcInit
import HandS.ForMost
import HandS.ForExc
import HandS.TupAny
import HandS.TupMul
import HandS.TupLe
import HandS.Wide
import HandS.Style
import HandS.IsInst
import HandS.Conv
import HandS.AnyAll
import HandS.CallSlots
import HandS.Flow
import HandS.Zip
import KE.DataEq
import KE.DataCmp
import KE.DataIsa
import PyProof.ReprRoads
import HandS.Lambda
import KE.GoesMore
import KE.GoesEnum
import HandS.ExcField
import HandS.TryOnly
import HandS.WordsExc
import KE.KExcIs
import HandS.ExcIs
import HandS.Comp
import HandS.GenList
import PyProof.TupleOfGen
import HandS.EndTab
import HandS.Head0
import HandS.Head1
import HandS.Head2
import HandS.HeadHook1
import HandS.HeadHook2
import HandS.HeadHook3
import HandS.HeadHook4
import KE.KNestM
import HandS.More
import HandS.Dict
import PySem.Challenge.RW_lawsleft_k01_counts_and_their_order
set_option Elab.async false
set_option linter.all false
set_option maxRecDepth 100000
set_option maxHeartbeats 1000000
namespace DL
open PySem PySem.Spec PyProof.Rows L2
/-- the name of a class as its object keeps it -/
def clsNm (K : PySem.W.Frag) (c : Addr) : Option Str := match K.lookup c with
  | some (o : Obj) => (match o.slots[2]? with
    | some (some (Value.str nm _)) => some nm
    | _ => none)
  | none => none
section
open PySem.W PySem.Calls Builtin Builtin.Getset_descriptor
variable {prog : Program} {w : World} {A : Around} {E : Value → Shared → Prop} {s : Shared} {K : Frag} {C : Addr} {R : Result → Shared → Prop} {nm : Str}
theorem clsNm_at (k : K.In s.heap) (e : clsNm K C = some nm) : ∃ o tk, s.heap.get? C = some o ∧ o.slots[2]? = some (some (.str nm tk)) := by
  unfold clsNm at e
  split at e
  · rename_i o ho
    split at e
    · rename_i n tk hs
      cases e
      exact ⟨o, tk, k _ _ ho, hs⟩
    · cases e
  · cases e
theorem clsName_run {tp : Value} (k : K.In s.heap) (ht : typeIn K (.ref C) = some (.type "type")) (e : clsNm K C = some nm) (h : ∀ tk, R (.ok (.ret (.str nm tk))) s) :
    codeAny (model prog w) A (.call (.builtin "getset_descriptor.__get__") ⟨[.builtin "type.__name__", .ref C, tp], []⟩) R s := by
  obtain ⟨o, tk, ho, hs⟩ := clsNm_at k e
  obtain ⟨hp, g, dr, t, os⟩ := s
  have isT : Looks (model prog w) hp (typeOf (.ref C)) (.type "type") := looks_typeIn k ht
  have isS : Looks (model prog w) hp (isSubtype (.type "type") (.type "type")) true := .of_pure (by rw [isSubtype_type]; kernel_rfl)
  refine codeAny_call_builtin KF.slot_gs.plain KF.entry_gs (KF.slot_gs.check _ _ _ _ _ _ _ _ ktyn_type (KF.args_gs _ _ _) ?_)
  unfold Builtin.«getset_descriptor.__get__» descrGet
  rw [dga_obj]
  refine wpAny_bind (wpAny_pure ?_)
  unfold descrGetter descrCheckInstance descrNameAndClass isInstance
  simp only [ktyn_owner]
  repeat lk
  refine ⟨Code.quiet_builtin _ (by decide +kernel), codeAny_builtin ktyn_entry ?_⟩
  unfold Builtin.«type.__name__» keptObject slotAt
  dsimp only
  refine wpAny_bind (wpAny_bind (wpAny_loadPart ho ?_))
  refine wpAny_pure ?_
  rw [hs]
  exact wpAny_pure (h tk)
theorem clsName_attr {expr : Bool} {Q : Value → Shared → Prop} (k : K.In s.heap) (hr : readsIn K C (.type "type") = true) (ht : typeIn K (.ref C) = some (.type "type")) (e : clsNm K C = some nm)
    (hf : findCls K (.ref C) (.type "type") "__name__" = some (.get (.builtin "getset_descriptor.__get__") (.builtin "type.__name__") (.ref C) (.type "type")))
    (h : ∀ tk, Q (.str nm tk) { s with toks := s.toks + 1 }) : wpAny (model prog w) A (getAttr (.ref C) "__name__" expr) Q E s := by
  refine cls_read k hr hf ?_
  show wpAny _ _ (do ret (← holding [Value.builtin "type.__name__"] (call (.builtin "getset_descriptor.__get__") [.builtin "type.__name__", .ref C, .type "type"]))) _ _ _
  refine wpAny_bind (wpAny_holding (wpAny_call (clsName_run (s := { s with toks := s.toks + 1 }) k ht e fun tk => ?_)))
  exact wpAny_pure (handed_on rfl (h tk))

/-- an instance of an error's class tells its class -/
theorem errCls_attr {x : Addr} {ox : Obj} {od : Option Obj} {expr : Bool} {Q : Value → Shared → Prop} (k : K.In s.heap) (I : InstAt s.heap x ox C od) (hga : findIn K (.ref C) "__getattribute__" = some (some (.builtin "BaseException.__getattribute__"))) (hgt : findIn K (.ref C) "__getattr__" = some none)
    (hsub : subIn K (.ref C) (.type "BaseException") = some true) (hf : findObj K C od "__class__" = some (.bind (.builtin "getset_descriptor.__get__") (.builtin "object.__class__"))) (hm : mroIn K C (.type "object") = some true)
    (h : Q (.ref C) { s with toks := s.toks + 1 }) : wpAny (model prog w) A (getAttr (.ref x) "__class__" expr) Q E s := by
  obtain ⟨hp, g, d, t, os⟩ := s
  have isC := I.type (M := model prog w)
  have l1 := looks_findIn (M := model prog w) k hga
  have l2 := looks_findIn (M := model prog w) k hgt
  have l3 := looks_find (M := model prog w) k I hf
  have isE : Looks (model prog w) hp (isInstance (.ref x) (.type "BaseException")) true := isC.andThen (looks_subIn k hsub)
  have n0 : (expr && onTheHeap (Value.builtin "BaseException.__getattribute__")) = false := by cases expr <;> rfl
  have n2 : (Value.builtin "BaseException.__getattribute__" == Value.builtin "object.__getattribute__") = false := by decide +kernel
  have n1 : (onTheHeap (Value.ref C) && Value.builtin "BaseException.__getattribute__" == Value.builtin "object.__getattribute__") = false := by rw [n2]; rfl
  unfold getAttr getAttrBy
  refine wpAny_bind (wpAny_mkText (wpAny_holding (wpAny_bind (isC.at (wpAny_bind (l1.at ?_))))))
  show wpAny _ _ (if (onTheHeap (Value.ref C) && Value.builtin "BaseException.__getattribute__" == Value.builtin "object.__getattribute__") = true then _ else _) _ _ _
  rw [n1, if_neg Bool.false_ne_true]; unfold getAttrByItsOwn hookBefore
  refine wpAny_bind ?_; rw [if_pos (show onTheHeap (Value.ref C) = true from rfl)]
  refine l2.at (wpAny_bind (wpAny_attempt (wpAny_holding ?_)))
  unfold callGetattribute; rw [n0, if_neg Bool.false_ne_true]
  unfold boundAndCalled; rw [PySem.F.excAttr_ValueError.ga.bind (.ref x)]
  refine wpAny_bind (wpAny_pure ?_)
  show wpAny _ _ (call (.builtin "BaseException.__getattribute__") [.ref x, .str "__class__" t]) _ _ _
  refine wpAny_call (codeAny_call_builtin PySem.F.excAttr_ValueError.ga.plain PySem.F.entry_bexc_ga ?_)
  refine @check_slot (model prog w) _ _ ⟨hp, g, d, t + 1, os⟩ "BaseException.__getattribute__" "BaseException" "__getattribute__" (.ref x) [.str "__class__" t] [] _ (by decide +kernel) (by decide +kernel) isE (PySem.F.args_bexc_ga (.ref x) (.str "__class__" t)) ?_
  unfold Builtin.«object.__getattribute__»
  refine wpAny_bind (wpAny_of_eq (a := ((Value.ref x : Value), [Value.str "__class__" t])) (by first | rfl | (simp only [slotArgs]; rfl)) (wpAny_bind (wpAny_pure (wpAny_bind (isC.at (wpAny_bind (l3.at ?_)))))))
  show wpAny _ _ (holding [Value.builtin "object.__class__"] (call (.builtin "getset_descriptor.__get__") [.builtin "object.__class__", .ref x, .ref C]) >>= ret) _ _ _
  refine wpAny_bind (wpAny_holding (wpAny_call (class_get (s := ⟨hp, g, d, t + 1, os⟩) (ox := ox) (od := od) k I hm (wpAny_pure ?_))))
  show wpAny _ _ (handedOut (.ref C)) _ _ _
  rw [handedOut_of (show handedIn (.ref C) = true from rfl)]
  first | exact wpAny_pure h | exact wpAny_pure (wpAny_pure h)
end
/-- what must be known of an error's class for its name to be told by its instances -/
structure NmC (K : PySem.W.Frag) (C : Addr) (nm : Str) : Prop where
  ga : PySem.W.findIn K (.ref C) "__getattribute__" = some (some (.builtin "BaseException.__getattribute__"))
  gg : PySem.W.findIn K (.ref C) "__getattr__" = some none
  ex : PySem.W.subIn K (.ref C) (.type "BaseException") = some true
  hd : PySem.W.hasDictIn K C = true
  cl : PySem.W.findIn K (.ref C) "__class__" = some (some (.builtin "object.__class__"))
  cg : PySem.W.specialIn K (.builtin "object.__class__") "__get__" = some (some (.builtin "getset_descriptor.__get__"))
  ct : PySem.W.takesIn K (.builtin "object.__class__") = some true
  mo : PySem.W.mroIn K C (.type "object") = some true
  rd : PySem.W.readsIn K C (.type "type") = true
  ty : PySem.W.typeIn K (.ref C) = some (.type "type")
  nm : clsNm K C = some nm
  ff : PySem.W.findCls K (.ref C) (.type "type") "__name__" = some (.get (.builtin "getset_descriptor.__get__") (.builtin "type.__name__") (.ref C) (.type "type"))
/-- e.__class__.__name__, e an error that is being made -/
def tCn (K : PySem.W.Frag) (te : TE) : TE := fun σ H Q => te σ H fun x H1 => ∃ (a C dx : Addr) (fs : List (Str × V)) (nm : Str), x = .ref a ∧ NmC K C nm ∧ H1 a = some (exo a C (some dx)) ∧ H1 dx = some (exd dx fs) ∧ Q (.str nm) H1
theorem pe_cn {X : Cx} {e : Expr} {te : TE} {p1 p2 : Pos} (he : PE X e te) (h1 : attributeBase e "__class__" X.env (eval e X.env) = eval e X.env := by rfl)
    (h2 : attributeBase (.Attribute e "__class__" p1) "__name__" X.env (eval (.Attribute e "__class__" p1) X.env) = eval (.Attribute e "__class__" p1) X.env := by rfl) :
    PE X (.Attribute (.Attribute e "__class__" p1) "__name__" p2) (tCn X.K te) := by
  refine ⟨fun pins s σ H Q I h => ?_⟩
  refine attr_of h2 (attr_of h1 (thn (he.run pins s σ H _ I h) fun u s1 ⟨x, H1, I1, rx, a, C, dx, fs, nm, ex, N, ea, ed, q⟩ => ?_))
  subst ex
  obtain rfl : u = Value.ref a := rx
  obtain ⟨t1, ho⟩ := exo_at I1.hok ea
  obtain ⟨mA, hns, rel⟩ := exd_at I1.hok ed
  obtain ⟨oD, _, _, hoD, _, _⟩ := hns
  have J : PySem.W.InstAt s1.heap a { cls := .ref C, dict := some dx, data := .fields #[.ref t1, .none, .none, .none, .bool false, .none] } C (some oD) := ⟨ho, rfl, rfl, hoD⟩
  have isC : (PySem.W.clsIn X.K C).isSome = true := by
    obtain ⟨cd, hc, _⟩ := PySem.W.any_some N.hd
    rw [hc]; rfl
  refine errCls_attr I1.kIn J N.ga N.gg N.ex (PySem.W.findObj_data isC N.cl N.cg N.ct) N.mo ?_
  have I2 := I1.tok (s1.toks + 1)
  exact clsName_attr I2.kIn N.rd N.ty N.nm N.ff fun tk => ⟨.str nm, H1, I2.tok _, ⟨tk, rfl⟩, q⟩
end DL

set_option Elab.async false
set_option linter.all false
set_option maxRecDepth 100000
set_option maxHeartbeats 1000000
/-! DL: programs over data. The state of a def is a list of slots and a list of mutable objects; a statement is a function of it. -/
namespace DL
open PySem PySem.Spec PyProof.Rows L2

abbrev PD := PyData
/-- tables of code objects: the code, its table, and how all that lies in it is called, if that is told -/
abbrev TbT : Type := List (Addr × Addr × Option Str)
def TabO (H : Hp) (P : Addr) : Option Str → Prop
  | none => GxR.TabG H P
  | some q => LamX.TabS H P q
theorem codeO_lst {c : Addr} {q : Str} (xs : List V) : LamX.CodeO c q ≠ .lst xs := fun z => by
  unfold LamX.CodeO at z
  cases z
/-- what is written but to lists leaves the tables -/
theorem TabO.stay {H H2 : Hp} {P : Addr} (e : ∀ b o, H b = some o → (∀ xs, o ≠ .lst xs) → H2 b = some o) : ∀ {t : Option Str}, TabO H P t → TabO H2 P t
  | none, ⟨ps, a, b⟩ => ⟨ps, e _ _ a (fun _ z => nomatch z), b⟩
  | some q, ⟨ps, a, b, k⟩ => ⟨ps, e _ _ a (fun _ z => nomatch z), b, fun pos cv hc => by
    obtain ⟨c, e1, e2⟩ := k pos cv hc
    exact ⟨c, e1, e _ _ e2 codeO_lst⟩⟩
/-- a value: data, a mutable object by its number, a thing of the written part, a tuple with such in it -/
inductive D where
  | dat (d : PyData) | ref (l : Nat) | obj (a : Addr) | mix (xs : List D) | fro (xs : List PyData) | ty (n : String)
/-- a mutable object -/
inductive MO where
  | lst (xs : List D)

/-- a list that nobody writes -/
def FrL (K : PySem.W.Frag) (H : Hp) (a : Addr) (vs : List V) : Prop :=
  (∃ o, H a = some (.frz o (.lst vs))) ∨
    ∃ (o : Obj) (its : Array Value) (n : Nat), K.lookup a = some o ∧ o.cls = .type "list" ∧ o.dict = none ∧ o.data = .seq its n ∧ its.size ≤ sizeLine ∧ Vals vs its.toList
theorem FrL.sq {K : PySem.W.Frag} {H : Hp} {a : Addr} {vs : List V} (h : FrL K H a vs) : SqL K H a vs := by
  rcases h with h | h
  · exact .inl (.inr h)
  · exact .inr h
section
variable (K : PySem.W.Frag) (H : Hp)
mutual
def RepP : PyData → V → Prop
  | .none, v => v = .non
  | .bool b, v => v = .bl b
  | .int i, v => v = .int i
  | .str x, v => v = .str x
  | .tuple ds, v => ∃ a vs, v = .ref a ∧ SqT K H a vs ∧ RepPs ds vs
  | .list _, _ => False
  | .dict _, _ => False
def RepPs : List PyData → List V → Prop
  | [], vs => vs = []
  | d :: ds, vs => ∃ v r, vs = v :: r ∧ RepP d v ∧ RepPs ds r
end
variable (ρ : List Addr)
mutual
def Rep : D → V → Prop
  | .dat d, v => RepP K H d v
  | .ref l, v => ∃ a, ρ[l]? = some a ∧ v = .ref a
  | .obj a, v => v = .ref a
  | .mix ds, v => ∃ a vs, v = .ref a ∧ SqT K H a vs ∧ Reps ds vs
  | .fro ds, v => ∃ a vs, v = .ref a ∧ FrL K H a vs ∧ RepPs K H ds vs
  | .ty n, v => v = .ty n
def Reps : List D → List V → Prop
  | [], vs => vs = []
  | d :: ds, vs => ∃ v r, vs = v :: r ∧ Rep d v ∧ Reps ds r
end
end

/-- tuples stay -/
def KT (K : PySem.W.Frag) (H H' : Hp) : Prop := (∀ a vs, SqT K H a vs → SqT K H' a vs) ∧ ∀ a vs, FrL K H a vs → FrL K H' a vs
section
variable {K : PySem.W.Frag} {H H' : Hp} {ρ ρ' : List Addr}
mutual
theorem RepP.mono (kt : KT K H H') : ∀ (d : PyData) (v : V), RepP K H d v → RepP K H' d v
  | .none, _, h => h
  | .bool _, _, h => h
  | .int _, _, h => h
  | .str _, _, h => h
  | .tuple ds, v, h => by
    obtain ⟨a, vs, e, s, r⟩ := h
    exact ⟨a, vs, e, kt.1 a vs s, RepPs.mono kt ds vs r⟩
  | .list _, _, h => h.elim
  | .dict _, _, h => h.elim
theorem RepPs.mono (kt : KT K H H') : ∀ (ds : List PyData) (vs : List V), RepPs K H ds vs → RepPs K H' ds vs
  | [], _, h => h
  | d :: ds, vs, h => by
    obtain ⟨v, r, e, h1, h2⟩ := h
    exact ⟨v, r, e, RepP.mono kt d v h1, RepPs.mono kt ds r h2⟩
end
mutual
theorem Rep.mono (kt : KT K H H') (kr : ∀ (l : Nat) (a : Addr), ρ[l]? = some a → ρ'[l]? = some a) : ∀ (d : D) (v : V), Rep K H ρ d v → Rep K H' ρ' d v
  | .dat d, v, h => RepP.mono kt d v h
  | .ref l, v, h => by
    obtain ⟨a, e, h⟩ := h
    exact ⟨a, kr l a e, h⟩
  | .obj _, _, h => h
  | .mix ds, v, h => by
    obtain ⟨a, vs, e, s, r⟩ := h
    exact ⟨a, vs, e, kt.1 a vs s, Reps.mono kt kr ds vs r⟩
  | .fro ds, v, h => by
    obtain ⟨a, vs, e, s, r⟩ := h
    exact ⟨a, vs, e, kt.2 a vs s, RepPs.mono kt ds vs r⟩
  | .ty _, _, h => h
theorem Reps.mono (kt : KT K H H') (kr : ∀ (l : Nat) (a : Addr), ρ[l]? = some a → ρ'[l]? = some a) : ∀ (ds : List D) (vs : List V), Reps K H ρ ds vs → Reps K H' ρ' ds vs
  | [], _, h => h
  | d :: ds, vs, h => by
    obtain ⟨v, r, e, h1, h2⟩ := h
    exact ⟨v, r, e, Rep.mono kt kr d v h1, Reps.mono kt kr ds r h2⟩
end
/-- all items are data -/
def dats : List D → Option (List PyData)
  | [] => some []
  | .dat d :: r => (dats r).map (d :: ·)
  | _ :: _ => none
def mkTup (xs : List D) : D := match dats xs with
  | some ds => .dat (.tuple ds)
  | none => .mix xs
theorem reps_dats : ∀ {xs : List D} {ds : List PyData} {vs : List V}, dats xs = some ds → Reps K H ρ xs vs → RepPs K H ds vs
  | [], ds, vs, e, h => by
    simp only [dats, Option.some.injEq] at e
    subst e
    exact h
  | .dat d :: r, ds, vs, e, h => by
    obtain ⟨v, t, rfl, h1, h2⟩ := h
    simp only [dats, Option.map_eq_some_iff] at e
    obtain ⟨ds', e1, rfl⟩ := e
    exact ⟨v, t, rfl, h1, reps_dats e1 h2⟩
  | .ref _ :: r, ds, vs, e, h => by simp [dats] at e
  | .obj _ :: r, ds, vs, e, h => by simp [dats] at e
  | .mix _ :: r, ds, vs, e, h => by simp [dats] at e
  | .fro _ :: r, ds, vs, e, h => by simp [dats] at e
  | .ty _ :: r, ds, vs, e, h => by simp [dats] at e
theorem rep_mkTup {xs : List D} {a : Addr} {vs : List V} (s : SqT K H a vs) (r : Reps K H ρ xs vs) : Rep K H ρ (mkTup xs) (.ref a) := by
  unfold mkTup
  cases e : dats xs with
  | some ds => exact ⟨a, vs, rfl, s, reps_dats e r⟩
  | none => exact ⟨a, vs, rfl, s, r⟩
theorem RepPs.length : ∀ {ds : List PyData} {vs : List V}, RepPs K H ds vs → vs.length = ds.length
  | [], _, h => by
    have h : _ = [] := h
    rw [h]; rfl
  | d :: ds, _, h => by
    obtain ⟨v, r, rfl, _, h2⟩ := h
    simp [h2.length]
theorem Reps.length : ∀ {ds : List D} {vs : List V}, Reps K H ρ ds vs → vs.length = ds.length
  | [], _, h => by
    have h : _ = [] := h
    rw [h]; rfl
  | d :: ds, _, h => by
    obtain ⟨v, r, rfl, _, h2⟩ := h
    simp [h2.length]
theorem RepPs.get : ∀ {ds : List PyData} {vs : List V} {i : Nat} {d : PyData}, RepPs K H ds vs → ds[i]? = some d → ∃ v, vs[i]? = some v ∧ RepP K H d v
  | [], _, _, _, _, e => by simp at e
  | d :: ds, _, 0, d', h, e => by
    obtain ⟨v, r, rfl, h1, _⟩ := h
    simp only [List.getElem?_cons_zero, Option.some.injEq] at e
    subst e
    exact ⟨v, rfl, h1⟩
  | d :: ds, _, i + 1, d', h, e => by
    obtain ⟨v, r, rfl, _, h2⟩ := h
    exact h2.get (i := i) (by simpa using e)
theorem Reps.get : ∀ {ds : List D} {vs : List V} {i : Nat} {d : D}, Reps K H ρ ds vs → ds[i]? = some d → ∃ v, vs[i]? = some v ∧ Rep K H ρ d v
  | [], _, _, _, _, e => by simp at e
  | d :: ds, _, 0, d', h, e => by
    obtain ⟨v, r, rfl, h1, _⟩ := h
    simp only [List.getElem?_cons_zero, Option.some.injEq] at e
    subst e
    exact ⟨v, rfl, h1⟩
  | d :: ds, _, i + 1, d', h, e => by
    obtain ⟨v, r, rfl, _, h2⟩ := h
    exact h2.get (i := i) (by simpa using e)
theorem RepPs.append : ∀ {ds es : List PyData} {vs ws : List V}, RepPs K H ds vs → RepPs K H es ws → RepPs K H (ds ++ es) (vs ++ ws)
  | [], _, _, _, h, g => by
    have h : _ = [] := h
    subst h; exact g
  | d :: ds, _, _, _, h, g => by
    obtain ⟨v, r, rfl, h1, h2⟩ := h
    exact ⟨v, _, rfl, h1, h2.append g⟩
theorem Reps.append : ∀ {ds es : List D} {vs ws : List V}, Reps K H ρ ds vs → Reps K H ρ es ws → Reps K H ρ (ds ++ es) (vs ++ ws)
  | [], _, _, _, h, g => by
    have h : _ = [] := h
    subst h; exact g
  | d :: ds, _, _, _, h, g => by
    obtain ⟨v, r, rfl, h1, h2⟩ := h
    exact ⟨v, _, rfl, h1, h2.append g⟩
theorem RepPs.reps : ∀ {ds : List PyData} {vs : List V}, RepPs K H ds vs → Reps K H ρ (ds.map .dat) vs
  | [], _, h => h
  | d :: ds, _, h => by
    obtain ⟨v, r, rfl, h1, h2⟩ := h
    exact ⟨v, r, rfl, h1, h2.reps⟩
theorem RepPs.take : ∀ {ds : List PyData} {vs : List V} (n : Nat), RepPs K H ds vs → RepPs K H (ds.take n) (vs.take n)
  | _, _, 0, _ => by simp [RepPs]
  | [], _, n + 1, h => by
    have h : _ = [] := h
    subst h; simp [RepPs]
  | d :: ds, _, n + 1, h => by
    obtain ⟨v, r, rfl, h1, h2⟩ := h
    exact ⟨v, _, rfl, h1, h2.take n⟩
theorem RepPs.drop : ∀ {ds : List PyData} {vs : List V} (n : Nat), RepPs K H ds vs → RepPs K H (ds.drop n) (vs.drop n)
  | _, _, 0, h => h
  | [], _, n + 1, h => by
    have h : _ = [] := h
    subst h; simp [RepPs]
  | d :: ds, _, n + 1, h => by
    obtain ⟨v, r, rfl, h1, h2⟩ := h
    exact h2.drop n
theorem Reps.take : ∀ {ds : List D} {vs : List V} (n : Nat), Reps K H ρ ds vs → Reps K H ρ (ds.take n) (vs.take n)
  | _, _, 0, _ => by simp [Reps]
  | [], _, n + 1, h => by
    have h : _ = [] := h
    subst h; simp [Reps]
  | d :: ds, _, n + 1, h => by
    obtain ⟨v, r, rfl, h1, h2⟩ := h
    exact ⟨v, _, rfl, h1, h2.take n⟩
theorem Reps.drop : ∀ {ds : List D} {vs : List V} (n : Nat), Reps K H ρ ds vs → Reps K H ρ (ds.drop n) (vs.drop n)
  | _, _, 0, h => h
  | [], _, n + 1, h => by
    have h : _ = [] := h
    subst h; simp [Reps]
  | d :: ds, _, n + 1, h => by
    obtain ⟨v, r, rfl, h1, h2⟩ := h
    exact h2.drop n
theorem Reps.set : ∀ {ds : List D} {vs : List V} {d : D} {v : V} (n : Nat), Reps K H ρ ds vs → Rep K H ρ d v → Reps K H ρ (ds.set n d) (vs.set n v)
  | [], _, _, _, _, h, _ => by
    have h : _ = [] := h
    subst h; simp [Reps]
  | _ :: ds, _, _, _, 0, h, g => by
    obtain ⟨v, r, rfl, h1, h2⟩ := h
    exact ⟨_, r, rfl, g, h2⟩
  | _ :: ds, _, _, _, n + 1, h, g => by
    obtain ⟨v, r, rfl, h1, h2⟩ := h
    exact ⟨v, _, rfl, h1, h2.set n g⟩
theorem Reps.eraseIdx : ∀ {ds : List D} {vs : List V} (n : Nat), Reps K H ρ ds vs → Reps K H ρ (ds.eraseIdx n) (vs.eraseIdx n)
  | [], _, _, h => by
    have h : _ = [] := h
    subst h; simp [Reps]
  | _ :: ds, _, 0, h => by
    obtain ⟨v, r, rfl, h1, h2⟩ := h
    exact h2
  | _ :: ds, _, n + 1, h => by
    obtain ⟨v, r, rfl, h1, h2⟩ := h
    exact ⟨v, _, rfl, h1, h2.eraseIdx n⟩
theorem Reps.reverse : ∀ {ds : List D} {vs : List V}, Reps K H ρ ds vs → Reps K H ρ ds.reverse vs.reverse
  | [], _, h => by
    have h : _ = [] := h
    subst h; simp [Reps]
  | _ :: ds, _, h => by
    obtain ⟨v, r, rfl, h1, h2⟩ := h
    rw [List.reverse_cons, List.reverse_cons]
    exact h2.reverse.append ⟨v, [], rfl, h1, rfl⟩
/-- a value is told by its data alone: two values of one datum that is no tuple are one -/
theorem Reps.dropLast {ds : List D} {vs : List V} (h : Reps K H ρ ds vs) : Reps K H ρ ds.dropLast vs.dropLast := by
  rw [List.dropLast_eq_take, List.dropLast_eq_take, h.length]
  exact h.take _
end

structure Ext (ρ : List Addr) (H : Hp) (ρ' : List Addr) (H' : Hp) : Prop where
  pre : ∃ more, ρ' = ρ ++ more ∧ ∀ b ∈ more, H b = none
  keep : ∀ b o, H b = some o → b ∉ ρ → (∀ ps, o ≠ .tbl ps) → H' b = some o
  tbl : ∀ b ps, H b = some (.tbl ps) → ∃ more, H' b = some (.tbl (ps ++ more))
  back : ∀ b, H' b = none → H b = none
/-! ### states -/
inductive Sl where
  | no | d (x : D) | exc (c : Addr) (w : D) | clo (C : List Addr → Hp → V → Prop)
/-- the dict of an error of the class at c: its class's name, and what it was made from -/
def Xd (K : PySem.W.Frag) (c : Addr) (H : Hp) (dd : Addr) (vw : V) : Prop := ∃ nm : Str, clsNm K c = some nm ∧ H dd = some (.xd [("name", .str nm), ("what", vw)])
abbrev Env' := List Sl
abbrev Hh := List MO

section
variable (K : PySem.W.Frag) (pn : List (Addr × Obj)) (H : Hp) (ρ : List Addr)
def SlRep : Sl → Option V → Prop
  | .no, _ => True
  | .d x, ov => ∃ v, ov = some v ∧ Rep K H ρ x v
  | .exc c w, ov => ∃ a oe dd vw, ov = some (.ref a) ∧ (a, oe) ∈ pn ∧ Zc (.ref c) (some dd) oe ∧ (∃ vs, oe.data = .fields vs) ∧ Xd K c H dd vw ∧ Rep K H ρ w vw
  | .clo C, ov => ∃ v, ov = some v ∧ ∀ ρ2 H2, Ext ρ H ρ2 H2 → C ρ2 H2 v
def MoOk (a : Addr) : MO → Prop
  | .lst ds => ∃ vs, H a = some (.lst vs) ∧ Reps K H ρ ds vs
structure EnvR (env : Env') (σ : L2.St) : Prop where
  len : env.length = σ.length
  ok : ∀ (i : Nat) (s : Sl), env[i]? = some s → ∃ ov : Option V, σ[i]? = some ov ∧ SlRep K pn H ρ s ov
end
structure RG (K : PySem.W.Frag) (T : TbT) (ρ : List Addr) (G : Hh) (H : Hp) : Prop where
  nd : ρ.Nodup
  len : G.length = ρ.length
  ok : ∀ (l : Nat) (a : Addr) (mo : MO), ρ[l]? = some a → G[l]? = some mo → MoOk K H ρ a mo
  tab : ∀ p ∈ T, TabO H p.2.1 p.2.2
theorem Ext.refl {ρ : List Addr} {H : Hp} : Ext ρ H ρ H := ⟨⟨[], by simp, by simp⟩, fun _ _ h _ _ => h, fun _ ps h => ⟨#[], by simpa using h⟩, fun _ h => h⟩
theorem Ext.trans {ρ ρ1 ρ2 : List Addr} {H H1 H2 : Hp} (a : Ext ρ H ρ1 H1) (b : Ext ρ1 H1 ρ2 H2) : Ext ρ H ρ2 H2 where
  pre := by
    obtain ⟨m1, rfl, f1⟩ := a.pre
    obtain ⟨m2, rfl, f2⟩ := b.pre
    refine ⟨m1 ++ m2, by simp, fun x hx => ?_⟩
    rcases List.mem_append.mp hx with h | h
    · exact f1 x h
    · exact a.back x (f2 x h)
  keep := fun x o h n t => by
    have h1 := a.keep x o h n t
    refine b.keep x o h1 (fun hx => ?_) t
    obtain ⟨m1, rfl, f1⟩ := a.pre
    rcases List.mem_append.mp hx with z | z
    · exact n z
    · rw [f1 x z] at h; cases h
  tbl := fun x ps h => by
    obtain ⟨m1, h1⟩ := a.tbl x ps h
    obtain ⟨m2, h2⟩ := b.tbl x _ h1
    exact ⟨m1 ++ m2, by rw [h2, Array.append_assoc]⟩
  back := fun x h => a.back x (b.back x h)
section
variable {K : PySem.W.Frag} {T : TbT} {pn : List (Addr × Obj)} {ρ ρ' : List Addr} {H H' : Hp} {G : Hh}
theorem RG.notin (rg : RG K T ρ G H) {a : Addr} {o : HO} (h : H a = some o) (h1 : ∀ vs, o ≠ .lst vs) : a ∉ ρ := fun hm => by
  obtain ⟨l, hl, e⟩ := List.getElem_of_mem hm
  have e' : ρ[l]? = some a := by rw [List.getElem?_eq_getElem hl, e]
  have hl' : l < G.length := by rw [rg.len]; exact hl
  have g := rg.ok l a G[l] e' (List.getElem?_eq_getElem hl')
  cases q : G[l] with
  | lst ds =>
    rw [q] at g
    obtain ⟨vs, hv, _⟩ := g
    rw [h] at hv
    exact h1 vs (Option.some.inj hv)
theorem Ext.kt (rg : RG K T ρ G H) (e : Ext ρ H ρ' H') : KT K H H' := by
  refine ⟨fun a vs h => ?_, fun a vs h => ?_⟩
  · rcases h with (h | ⟨o, h⟩) | h
    · exact .inl (.inl (e.keep a _ h (rg.notin h (fun _ z => nomatch z)) (fun _ z => nomatch z)))
    · exact .inl (.inr ⟨o, e.keep a _ h (rg.notin h (fun _ z => nomatch z)) (fun _ z => nomatch z)⟩)
    · exact .inr h
  · rcases h with ⟨o, h⟩ | h
    · exact .inl ⟨o, e.keep a _ h (rg.notin h (fun _ z => nomatch z)) (fun _ z => nomatch z)⟩
    · exact .inr h
theorem Ext.kr (e : Ext ρ H ρ' H') : ∀ (l : Nat) (a : Addr), ρ[l]? = some a → ρ'[l]? = some a := fun l a h => by
  obtain ⟨m, rfl, _⟩ := e.pre
  have hl := (List.getElem?_eq_some_iff.mp h).1
  rw [List.getElem?_append_left hl]; exact h
theorem Ext.rep (rg : RG K T ρ G H) (e : Ext ρ H ρ' H') {d : D} {v : V} (h : Rep K H ρ d v) : Rep K H' ρ' d v := Rep.mono (e.kt rg) e.kr d v h
theorem Ext.reps (rg : RG K T ρ G H) (e : Ext ρ H ρ' H') {ds : List D} {vs : List V} (h : Reps K H ρ ds vs) : Reps K H' ρ' ds vs := Reps.mono (e.kt rg) e.kr ds vs h
theorem Ext.slrep (rg : RG K T ρ G H) (e : Ext ρ H ρ' H') {s : Sl} {ov : Option V} (h : SlRep K pn H ρ s ov) : SlRep K pn H' ρ' s ov := by
  cases s with
  | no => trivial
  | d x =>
    obtain ⟨v, e1, r⟩ := h
    exact ⟨v, e1, e.rep rg r⟩
  | exc c w =>
    obtain ⟨a, oe, dd, vw, e1, hm, z, f, ⟨nm, hn, hd⟩, r⟩ := h
    exact ⟨a, oe, dd, vw, e1, hm, z, f, ⟨nm, hn, e.keep dd _ hd (rg.notin hd (fun _ z => nomatch z)) (fun _ z => nomatch z)⟩, e.rep rg r⟩
  | clo C =>
    obtain ⟨v, e1, r⟩ := h
    exact ⟨v, e1, fun ρ2 H2 e2 => r ρ2 H2 (e.trans e2)⟩
theorem Ext.envr (rg : RG K T ρ G H) (e : Ext ρ H ρ' H') {env : Env'} {σ : L2.St} (h : EnvR K pn H ρ env σ) : EnvR K pn H' ρ' env σ :=
  ⟨h.len, fun i s hi => let ⟨ov, a, b⟩ := h.ok i s hi; ⟨ov, a, e.slrep rg b⟩⟩
/-- a new untracked-so-far object that is no mutable one of ours -/
theorem ext_new {p : Addr} {o : HO} (hp : H p = none) : Ext ρ H ρ (upd H p o) :=
  ⟨⟨[], by simp, by simp⟩, fun b u h _ _ => by rw [upd_ne (ne_of_none h hp)]; exact h, fun b ps h => ⟨#[], by rw [upd_ne (ne_of_none h hp)]; simpa using h⟩, fun b h => by
    by_cases hb : b = p
    · rw [hb]; exact hp
    · rw [upd_ne hb] at h; exact h⟩
theorem sqL_none_upd {p a : Addr} {o : HO} {vs : List V} (hp : a ≠ p) (h : SqL K H a vs) : SqL K (upd H p o) a vs := by
  rcases h with (h | ⟨ob, h⟩) | h
  · exact .inl (.inl (by rw [upd_ne hp]; exact h))
  · exact .inl (.inr ⟨ob, by rw [upd_ne hp]; exact h⟩)
  · exact .inr h
end
end DL

set_option Elab.async false
set_option linter.all false
set_option maxRecDepth 100000
set_option maxHeartbeats 1000000
namespace DL
open PySem PySem.Spec PyProof.Rows L2

/-! ### expressions -/
inductive RE where
  | ok (d : D) (G : Hh) | ex (c : Addr) (w : D) (G : Hh) | bad
abbrev ES := Env' → Hh → RE
inductive RA where
  | ok (ds : List D) (G : Hh) | ex (c : Addr) (w : D) (G : Hh) | bad
abbrev AS := Env' → Hh → RA
inductive RT where
  | ok (b : Bool) (G : Hh) | ex (c : Addr) (w : D) (G : Hh) | bad
abbrev TSm := Env' → Hh → RT

structure SR (X : Cx) (T : TbT) (ρ : List Addr) (env : Env') (G : Hh) (σ : L2.St) (H : Hp) : Prop where
  rg : RG X.K T ρ G H
  ev : EnvR X.K X.pn H ρ env σ
/-- what an exception must lead to -/
def PostX (X : Cx) (T : TbT) (W : WX) (σ : L2.St) (ρ : List Addr) (H : Hp) (c : Addr) (w : D) (G' : Hh) : Prop :=
  ∀ ρ' H' dd vw, Ext ρ H ρ' H' → RG X.K T ρ' G' H' → Xd X.K c H' dd vw → Rep X.K H' ρ' w vw → W (.ref c) (some dd) σ H'
def PostE (X : Cx) (T : TbT) (W : WX) (σ : L2.St) (ρ : List Addr) (H : Hp) (r : RE) (Q : VK) : Prop :=
  match r with
  | .ok d G' => ∀ v ρ' H', Ext ρ H ρ' H' → RG X.K T ρ' G' H' → Rep X.K H' ρ' d v → Q v H'
  | .ex c w G' => PostX X T W σ ρ H c w G'
  | .bad => False
def PostA (X : Cx) (T : TbT) (W : WX) (σ : L2.St) (ρ : List Addr) (H : Hp) (r : RA) (Q : List V → Hp → Prop) : Prop :=
  match r with
  | .ok ds G' => ∀ vs ρ' H', Ext ρ H ρ' H' → RG X.K T ρ' G' H' → Reps X.K H' ρ' ds vs → Q vs H'
  | .ex c w G' => PostX X T W σ ρ H c w G'
  | .bad => False
def PostT (X : Cx) (T : TbT) (W : WX) (σ : L2.St) (ρ : List Addr) (H : Hp) (r : RT) (Q : Bool → Hp → Prop) : Prop :=
  match r with
  | .ok b G' => ∀ ρ' H', Ext ρ H ρ' H' → RG X.K T ρ' G' H' → Q b H'
  | .ex c w G' => PostX X T W σ ρ H c w G'
  | .bad => False
/-- an operation that raises nothing -/
def PostO (X : Cx) (T : TbT) (ρ : List Addr) (H : Hp) (r : Option (D × Hh)) (Q : VK) : Prop :=
  match r with
  | some (d, G') => ∀ v ρ' H', Ext ρ H ρ' H' → RG X.K T ρ' G' H' → Rep X.K H' ρ' d v → Q v H'
  | none => False
section
variable {X : Cx} {T : TbT} {W : WX} {σ : L2.St} {ρ ρ1 : List Addr} {H H1 : Hp}
theorem PostX.ext {c : Addr} {w : D} {G : Hh} (e : Ext ρ H ρ1 H1) (h : PostX X T W σ ρ H c w G) : PostX X T W σ ρ1 H1 c w G := fun ρ' H' dd vw e1 => h ρ' H' dd vw (e.trans e1)
theorem PostE.ext {r : RE} {Q : VK} (e : Ext ρ H ρ1 H1) (h : PostE X T W σ ρ H r Q) : PostE X T W σ ρ1 H1 r Q := by
  cases r with
  | ok d G => exact fun v ρ' H' e1 => h v ρ' H' (e.trans e1)
  | ex c w G => exact PostX.ext e h
  | bad => exact h
theorem PostA.ext {r : RA} {Q : List V → Hp → Prop} (e : Ext ρ H ρ1 H1) (h : PostA X T W σ ρ H r Q) : PostA X T W σ ρ1 H1 r Q := by
  cases r with
  | ok d G => exact fun v ρ' H' e1 => h v ρ' H' (e.trans e1)
  | ex c w G => exact PostX.ext e h
  | bad => exact h
theorem PostT.ext {r : RT} {Q : Bool → Hp → Prop} (e : Ext ρ H ρ1 H1) (h : PostT X T W σ ρ H r Q) : PostT X T W σ ρ1 H1 r Q := by
  cases r with
  | ok d G => exact fun ρ' H' e1 => h ρ' H' (e.trans e1)
  | ex c w G => exact PostX.ext e h
  | bad => exact h
theorem PostO.ext {r : Option (D × Hh)} {Q : VK} (e : Ext ρ H ρ1 H1) (h : PostO X T ρ H r Q) : PostO X T ρ1 H1 r Q := by
  rcases r with _ | ⟨d, G⟩
  · exact h
  · exact fun v ρ' H' e1 => h v ρ' H' (e.trans e1)
end
section
variable (X : Cx) (T : TbT) (W : WX)
def tE (f : ES) : TE := fun σ H Q => ∃ ρ env G, SR X T ρ env G σ H ∧ PostE X T W σ ρ H (f env G) Q
def tA (f : AS) : TA := fun σ H Q => ∃ ρ env G, SR X T ρ env G σ H ∧ PostA X T W σ ρ H (f env G) Q
def tT (f : TSm) : TT := fun σ H Q => ∃ ρ env G, SR X T ρ env G σ H ∧ PostT X T W σ ρ H (f env G) Q
abbrev DE (e : Expr) (f : ES) : Prop := PE X e (tE X T W f)
abbrev DA (es : List Expr) (f : AS) : Prop := PA X es (tA X T W f)
abbrev DT (e : Expr) (f : TSm) : Prop := PT X e (tT X T W f)
end
theorem PE_imp {X : Cx} {e : Expr} {t t' : TE} (h : PE X e t) (i : ∀ σ H Q, t' σ H Q → t σ H Q) : PE X e t' := ⟨fun pins s σ H Q I q => h.run pins s σ H Q I (i σ H Q q)⟩
theorem PA_imp {X : Cx} {e : List Expr} {t t' : TA} (h : PA X e t) (i : ∀ σ H Q, t' σ H Q → t σ H Q) : PA X e t' := ⟨fun pos pins s σ H Q I q => h.run pos pins s σ H Q I (i σ H Q q)⟩
theorem PT_imp {X : Cx} {e : Expr} {t t' : TT} (h : PT X e t) (i : ∀ σ H Q, t' σ H Q → t σ H Q) : PT X e t' := ⟨fun pins s σ H Q I q => h.run pins s σ H Q I (i σ H Q q)⟩
theorem PW_imp {X : Cx} {e : Expr} {t t' : TT} (h : PW X e t) (i : ∀ σ H Q, t' σ H Q → t σ H Q) : PW X e t' := ⟨fun wh pins s σ H Q I q => h.run wh pins s σ H Q I (i σ H Q q)⟩

/-! ### combinators -/
def eVar (i : Nat) : ES := fun env G => match env[i]? with
  | some (.d x) => .ok x G
  | _ => .bad
def eC (d : D) : ES := fun _ G => .ok d G
/-- then -/
def eThen (f : ES) (k : D → Env' → Hh → RE) : ES := fun env G => match f env G with
  | .ok d G1 => k d env G1
  | .ex c w G1 => .ex c w G1
  | .bad => .bad
def RE.of : Option (D × Hh) → RE
  | some (d, G) => .ok d G
  | none => .bad
def eUn (g : D → Hh → Option (D × Hh)) (f : ES) : ES := eThen f fun d _ G => RE.of (g d G)
def eBin (g : D → D → Hh → Option (D × Hh)) (f h : ES) : ES := eThen f fun x => eThen h fun y _ G => RE.of (g x y G)
def aNil : AS := fun _ G => .ok [] G
def aCons (f : ES) (g : AS) : AS := fun env G => match f env G with
  | .ok d G1 => (match g env G1 with
    | .ok ds G2 => .ok (d :: ds) G2
    | .ex c w G2 => .ex c w G2
    | .bad => .bad)
  | .ex c w G1 => .ex c w G1
  | .bad => .bad
def eArgs (g : List D → Hh → Option (D × Hh)) (f : AS) : ES := fun env G => match f env G with
  | .ok ds G1 => RE.of (g ds G1)
  | .ex c w G1 => .ex c w G1
  | .bad => .bad
def tTest' (g : D → Hh → Option Bool) (f : ES) : TSm := fun env G => match f env G with
  | .ok d G1 => (match g d G1 with
    | some b => .ok b G1
    | none => .bad)
  | .ex c w G1 => .ex c w G1
  | .bad => .bad
def sAnd (f g : TSm) : TSm := fun env G => match f env G with
  | .ok b G1 => if b then g env G1 else .ok false G1
  | r => r
def sOr (f g : TSm) : TSm := fun env G => match f env G with
  | .ok b G1 => if b then .ok true G1 else g env G1
  | r => r
def sNot (f : TSm) : TSm := fun env G => match f env G with
  | .ok b G1 => .ok (!b) G1
  | r => r
def eIf (c : TSm) (f g : ES) : ES := fun env G => match c env G with
  | .ok b G1 => if b then f env G1 else g env G1
  | .ex c w G1 => .ex c w G1
  | .bad => .bad
/-- a and b, a or b, as values -/
def eAnd (tr : D → Hh → Option Bool) (f g : ES) : ES := eThen f fun x env G => match tr x G with
  | some true => g env G
  | some false => .ok x G
  | none => .bad
def eOr (tr : D → Hh → Option Bool) (f g : ES) : ES := eThen f fun x env G => match tr x G with
  | some true => .ok x G
  | some false => g env G
  | none => .bad

section
variable {X : Cx} {T : TbT} {W : WX}
theorem de_var (i : Nat) {x : Str} {pos : Pos} (hN : X.N[i]? = some x := by rfl) (hv : Vis X.env.scope x := by first | exact Or.inl rfl | exact Or.inr (Or.inl rfl) | exact Or.inr (Or.inr rfl)) (hd : (x == ("__debug__" : Str)) = false := by decide)
    (hcd : (x == ("__classdict__" : Str)) = false := by decide) : DE X T W (.Name x pos) (eVar i) :=
  PE_imp (pe_var hN hv hd hcd) fun σ H Q ⟨ρ, env, G, sr, p⟩ => by
    unfold eVar at p
    split at p
    · rename_i x hx
      obtain ⟨ov, ho, v, rfl, r⟩ := sr.ev.ok i _ hx
      exact ⟨v, ho, p v ρ H Ext.refl sr.rg r⟩
    · exact p.elim
theorem de_c {e : Expr} {v : V} {d : D} (h : PE X e (tC v)) (hr : ∀ H ρ, Rep X.K H ρ d v) : DE X T W e (eC d) :=
  PE_imp h fun σ H Q ⟨ρ, env, G, sr, p⟩ => p v ρ H Ext.refl sr.rg (hr H ρ)
theorem de_int {i : Int} {j pos} : DE X T W (.Constant (.int i) j pos) (eC (.dat (.int i))) := de_c pe_int fun _ _ => rfl
theorem de_bl {b : Bool} {j pos} : DE X T W (.Constant (.bool b) j pos) (eC (.dat (.bool b))) := de_c pe_bl fun _ _ => rfl
theorem de_non {j pos} : DE X T W (.Constant .none j pos) (eC (.dat .none)) := de_c pe_non fun _ _ => rfl
theorem de_str {x : Str} {j pos} : DE X T W (.Constant (.str x) j pos) (eC (.dat (.str x))) := de_c pe_str fun _ _ => rfl
/-- a module's constant -/
theorem de_glob {x : Str} {v : V} {u : Value} {d : D} {pos : Pos} (hg : Gl X x) (hm : X.mg x = some u) (r : RelV v u) (hr : ∀ H ρ, Rep X.K H ρ d v) (hd : (x == ("__debug__" : Str)) = false := by decide) : DE X T W (.Name x pos) (eC d) := de_c (pe_glob hg hm r hd) hr

/-- a value, then what is made of it -/
def tK (X : Cx) (T : TbT) (W : WX) (k : D → Env' → Hh → RE) (σ : L2.St) (Q : VK) : VK := fun v H1 =>
  ∃ ρ env G d, SR X T ρ env G σ H1 ∧ Rep X.K H1 ρ d v ∧ PostE X T W σ ρ H1 (k d env G) Q
theorem tE_then {f : ES} {k : D → Env' → Hh → RE} {σ : L2.St} {H : Hp} {Q : VK} (h : tE X T W (eThen f k) σ H Q) : tE X T W f σ H (tK X T W k σ Q) := by
  obtain ⟨ρ, env, G, sr, p⟩ := h
  refine ⟨ρ, env, G, sr, ?_⟩
  unfold eThen at p
  cases e : f env G with
  | ok d G1 =>
    rw [e] at p
    exact fun v ρ1 H1 e1 rg1 r1 => ⟨ρ1, env, G1, d, ⟨rg1, e1.envr sr.rg sr.ev⟩, r1, PostE.ext e1 p⟩
  | ex c w G1 => rw [e] at p; exact p
  | bad => rw [e] at p; exact p
theorem tE_bin {g : D → D → Hh → Option (D × Hh)} {f h : ES} {σ : L2.St} {H : Hp} {Q : VK} (q : tE X T W (eBin g f h) σ H Q) :
    tE X T W f σ H fun v H1 => tE X T W h σ H1 fun u H2 => ∃ ρ G x y, RG X.K T ρ G H2 ∧ Rep X.K H2 ρ x v ∧ Rep X.K H2 ρ y u ∧ PostO X T ρ H2 (g x y G) Q := by
  obtain ⟨ρ, env, G, sr, p⟩ := q
  refine ⟨ρ, env, G, sr, ?_⟩
  unfold eBin eThen at p
  cases e : f env G with
  | ok x G1 =>
    rw [e] at p
    intro v ρ1 H1 e1 rg1 r1
    refine ⟨ρ1, env, G1, ⟨rg1, e1.envr sr.rg sr.ev⟩, ?_⟩
    dsimp only at p
    cases e2 : h env G1 with
    | ok y G2 =>
      rw [e2] at p
      intro u ρ2 H2 e2' rg2 r2
      refine ⟨ρ2, G2, x, y, rg2, e2'.rep rg1 r1, r2, ?_⟩
      dsimp only at p
      cases e3 : g x y G2 with
      | none => rw [e3] at p; exact p
      | some z =>
        obtain ⟨d, G3⟩ := z
        rw [e3] at p
        exact fun w ρ3 H3 e4 => p w ρ3 H3 ((e1.trans e2').trans e4)
    | ex c w G2 => rw [e2] at p; exact PostX.ext e1 p
    | bad => rw [e2] at p; exact p
  | ex c w G1 => rw [e] at p; exact p
  | bad => rw [e] at p; exact p
/-- a two-place operation over data -/
def r2 (X : Cx) (T : TbT) (g : D → D → Hh → Option (D × Hh)) : R2 := fun v u H Q => ∃ ρ G x y, RG X.K T ρ G H ∧ Rep X.K H ρ x v ∧ Rep X.K H ρ y u ∧ PostO X T ρ H (g x y G) Q
def r1 (X : Cx) (T : TbT) (g : D → Hh → Option (D × Hh)) : V → Hp → VK → Prop := fun v H Q => ∃ ρ G x, RG X.K T ρ G H ∧ Rep X.K H ρ x v ∧ PostO X T ρ H (g x G) Q
def rA (X : Cx) (T : TbT) (g : List D → Hh → Option (D × Hh)) : List V → Hp → VK → Prop := fun vs H Q => ∃ ρ G ds, RG X.K T ρ G H ∧ Reps X.K H ρ ds vs ∧ PostO X T ρ H (g ds G) Q
variable {a b c : Expr} {fa fb : ES} {pos : Pos} {g : D → D → Hh → Option (D × Hh)}
theorem de_op {op : Operator} (ho : OpR X (binaryOp op) (r2 X T g)) (ha : DE X T W a fa) (hb : DE X T W b fb) : DE X T W (.BinOp a op b pos) (eBin g fa fb) :=
  PE_imp (pe_op ho ha hb) fun _ _ _ h => tE_bin h
theorem de_cmp {op : CmpOp} (ho : OpR X (compareOp op) (r2 X T g)) (ha : DE X T W a fa) (hb : DE X T W b fb) (hm : behindInMarks op b = false) : DE X T W (.Compare a [op] [b] pos) (eBin g fa fb) :=
  PE_imp (pe_cmpR ho ha hb hm) fun _ _ _ h => tE_bin h
theorem de_ix (ho : IxR X (r2 X T g)) (ha : DE X T W a fa) (hb : DE X T W b fb) (hs : PlainIx b) : DE X T W (.Subscript a b pos) (eBin g fa fb) :=
  PE_imp (pe_ix ho ha hb hs) fun _ _ _ h => tE_bin h
theorem tE_un {g : D → Hh → Option (D × Hh)} {f : ES} {σ : L2.St} {H : Hp} {Q : VK} (q : tE X T W (eUn g f) σ H Q) : tE X T W f σ H fun v H1 => r1 X T g v H1 Q := by
  obtain ⟨ρ, env, G, sr, p⟩ := q
  refine ⟨ρ, env, G, sr, ?_⟩
  unfold eUn eThen at p
  cases e : f env G with
  | ok x G1 =>
    rw [e] at p
    intro v ρ1 H1 e1 rg1 r1
    refine ⟨ρ1, G1, x, rg1, r1, ?_⟩
    dsimp only at p
    cases e3 : g x G1 with
    | none => rw [e3] at p; exact p
    | some z =>
      obtain ⟨d, G3⟩ := z
      rw [e3] at p
      exact fun w ρ3 H3 e4 => p w ρ3 H3 (e1.trans e4)
  | ex c w G1 => rw [e] at p; exact p
  | bad => rw [e] at p; exact p
theorem de_un {op : UnaryOp} {g : D → Hh → Option (D × Hh)} (ho : UnR X (unaryOp op) (r1 X T g)) (ha : DE X T W a fa) : DE X T W (.UnaryOp op a pos) (eUn g fa) :=
  PE_imp (pe_un ho ha) fun _ _ _ h => tE_un h

/-! ### arguments -/
theorem da_nil : DA X T W [] aNil := PA_imp pa_nil fun _ H _ ⟨ρ, _, _, sr, p⟩ => p [] ρ H Ext.refl sr.rg rfl
theorem tA_cons {f : ES} {g : AS} {σ : L2.St} {H : Hp} {Q : List V → Hp → Prop} (q : tA X T W (aCons f g) σ H Q) : tCons (tE X T W f) (tA X T W g) σ H Q := by
  obtain ⟨ρ, env, G, sr, p⟩ := q
  refine ⟨ρ, env, G, sr, ?_⟩
  unfold aCons at p
  cases e : f env G with
  | ok x G1 =>
    rw [e] at p
    intro v ρ1 H1 e1 rg1 r1
    refine ⟨ρ1, env, G1, ⟨rg1, e1.envr sr.rg sr.ev⟩, ?_⟩
    dsimp only at p
    cases e2 : g env G1 with
    | ok ds G2 =>
      rw [e2] at p
      exact fun vs ρ2 H2 e2' rg2 r2 => p (v :: vs) ρ2 H2 (e1.trans e2') rg2 ⟨v, vs, rfl, e2'.rep rg1 r1, r2⟩
    | ex c w G2 => rw [e2] at p; exact PostX.ext e1 p
    | bad => rw [e2] at p; exact p
  | ex c w G1 => rw [e] at p; exact p
  | bad => rw [e] at p; exact p
theorem da_cons {e : Expr} {es : List Expr} {f : ES} {g : AS} (ha : DE X T W e f) (hr : DA X T W es g) (hs : starEach (e :: es) X.env = (false, eval e X.env) :: starEach es X.env := by rfl) : DA X T W (e :: es) (aCons f g) :=
  PA_imp (pa_cons ha hr hs) fun _ _ _ h => tA_cons h
theorem tA_args {g : List D → Hh → Option (D × Hh)} {f : AS} {σ : L2.St} {H : Hp} {Q : VK} (q : tE X T W (eArgs g f) σ H Q) : tA X T W f σ H fun vs H1 => rA X T g vs H1 Q := by
  obtain ⟨ρ, env, G, sr, p⟩ := q
  refine ⟨ρ, env, G, sr, ?_⟩
  unfold eArgs at p
  cases e : f env G with
  | ok ds G1 =>
    rw [e] at p
    intro vs ρ1 H1 e1 rg1 r1
    refine ⟨ρ1, G1, ds, rg1, r1, ?_⟩
    dsimp only at p
    cases e3 : g ds G1 with
    | none => rw [e3] at p; exact p
    | some z =>
      obtain ⟨d, G3⟩ := z
      rw [e3] at p
      exact fun w ρ3 H3 e4 => p w ρ3 H3 (e1.trans e4)
  | ex c w G1 => rw [e] at p; exact p
  | bad => rw [e] at p; exact p
variable {es : List Expr} {fs : AS} {ga : List D → Hh → Option (D × Hh)} {x : Str} {p : Pos} {id : String}
theorem de_callB (hc : CallR X (.builtin id) (rA X T ga)) (hg : Gl X x) (hm : X.mg x = none) (hv : bootBuiltins x = some (.builtin id)) (ha : DA X T W (a :: es) fs) (hn : x ≠ "__name__" := by decide) (hdb : (x == ("__debug__" : Str)) = false := by decide)
    (he : starEach (a :: es) X.env = (false, eval a X.env) :: starEach es X.env := by rfl) (hpl : (backTo pos (starEach es X.env)).any (·.1) = false := by rfl) :
    DE X T W (.Call (.Name x p) (a :: es) [] pos) (eArgs ga fs) :=
  PE_imp (pe_callB hc hg hm hv ha hn hdb he hpl) fun _ _ _ h => tA_args h
theorem de_callTy {TT : String} (hc : CallR X (.type TT) (rA X T ga)) (hg : Gl X x) (hm : X.mg x = none) (hv : bootBuiltins x = some (.type TT)) (ha : DA X T W (a :: es) fs) (hn : x ≠ "__name__" := by decide) (hdb : (x == ("__debug__" : Str)) = false := by decide)
    (he : starEach (a :: es) X.env = (false, eval a X.env) :: starEach es X.env := by rfl) (hpl : (backTo pos (starEach es X.env)).any (·.1) = false := by rfl) :
    DE X T W (.Call (.Name x p) (a :: es) [] pos) (eArgs ga fs) :=
  PE_imp (pe_callTy hc hg hm hv ha hn hdb he hpl) fun _ _ _ h => tA_args h

/-! ### displays -/
def gTupD : List D → Hh → Option (D × Hh) := fun ds G => if ds.length ≤ 100000 then some (mkTup ds, G) else none
def gLstD : List D → Hh → Option (D × Hh) := fun ds G => if ds.length ≤ 100000 then some (.ref G.length, G ++ [.lst ds]) else none
theorem line_of {n : Nat} (h : n ≤ 100000) : n ≤ sizeLine := Nat.le_trans h (by decide)
theorem RG.new (rg : RG X.K T ρ G H) {p : Addr} {vs : List V} {ds : List D} (hp : H p = none) (r : Reps X.K H ρ ds vs) :
    RG X.K T (ρ ++ [p]) (G ++ [.lst ds]) (upd H p (.lst vs)) ∧ Ext ρ H (ρ ++ [p]) (upd H p (.lst vs)) := by
  have e : Ext ρ H (ρ ++ [p]) (upd H p (.lst vs)) := by
    have e0 : Ext ρ H ρ (upd H p (.lst vs)) := ext_new hp
    exact ⟨⟨[p], rfl, fun b hb => by simp at hb; subst hb; exact hp⟩, e0.keep, e0.tbl, e0.back⟩
  have np : p ∉ ρ := fun hm => by
    obtain ⟨l, hl, e'⟩ := List.getElem_of_mem hm
    have e'' : ρ[l]? = some p := by rw [List.getElem?_eq_getElem hl, e']
    have hl' : l < G.length := by rw [rg.len]; exact hl
    have g := rg.ok l p G[l] e'' (List.getElem?_eq_getElem hl')
    cases q : G[l] with
    | lst ds =>
      rw [q] at g
      obtain ⟨vs, hv, _⟩ := g
      rw [hp] at hv; cases hv
  refine ⟨⟨?_, by simp [rg.len], fun l a mo h1 h2 => ?_, fun q hq => ?_⟩, e⟩
  · rw [List.nodup_append]
    exact ⟨rg.nd, by simp, fun a ha b hb => by simp at hb; subst hb; rintro rfl; exact np ha⟩
  · by_cases hl : l < ρ.length
    · rw [List.getElem?_append_left hl] at h1
      rw [List.getElem?_append_left (by rw [rg.len]; exact hl)] at h2
      have g := rg.ok l a mo h1 h2
      cases mo with
      | lst es =>
        obtain ⟨ws, hw, rw'⟩ := g
        exact ⟨ws, by rw [upd_ne (ne_of_none hw hp)]; exact hw, e.reps rg rw'⟩
    · have e1 : l = ρ.length := by
        have := (List.getElem?_eq_some_iff.mp h1).1
        simp at this; omega
      subst e1
      rw [List.getElem?_append_right (Nat.le_refl _), Nat.sub_self] at h1
      rw [List.getElem?_append_right (by rw [rg.len]; exact Nat.le_refl _), rg.len, Nat.sub_self] at h2
      simp at h1 h2
      subst h1; subst h2
      exact ⟨vs, upd_same, e.reps rg r⟩
  · exact (rg.tab q hq).stay fun b o h _ => by rw [upd_ne (ne_of_none h hp)]; exact h
theorem RG.ext_same (rg : RG X.K T ρ G H) {p : Addr} {o : HO} (hp : H p = none) : RG X.K T ρ G (upd H p o) :=
  ⟨rg.nd, rg.len, fun l a mo h1 h2 => by
    have g := rg.ok l a mo h1 h2
    cases mo with
    | lst es =>
      obtain ⟨ws, hw, rw'⟩ := g
      exact ⟨ws, by rw [upd_ne (ne_of_none hw hp)]; exact hw, (ext_new hp).reps rg rw'⟩, fun q hq => by
    exact (rg.tab q hq).stay fun b o h _ => by rw [upd_ne (ne_of_none h hp)]; exact h⟩
theorem new_tup (rg : RG X.K T ρ G H) {p : Addr} {vs : List V} {ds : List D} {Q : VK} (hp : H p = none) (r : Reps X.K H ρ ds vs)
    (q : ∀ v ρ' H', Ext ρ H ρ' H' → RG X.K T ρ' G H' → Rep X.K H' ρ' (mkTup ds) v → Q v H') : Q (.ref p) (upd H p (.tup vs)) :=
  q (.ref p) ρ _ (ext_new hp) (rg.ext_same hp) (rep_mkTup (SqT.of upd_same) ((ext_new hp).reps rg r))
theorem new_lst (rg : RG X.K T ρ G H) {p : Addr} {vs : List V} {ds : List D} {Q : VK} (hp : H p = none) (r : Reps X.K H ρ ds vs)
    (q : ∀ v ρ' H', Ext ρ H ρ' H' → RG X.K T ρ' (G ++ [.lst ds]) H' → Rep X.K H' ρ' (.ref G.length) v → Q v H') : Q (.ref p) (upd H p (.lst vs)) := by
  obtain ⟨g, e⟩ := rg.new hp r
  exact q (.ref p) _ _ e g ⟨p, by rw [rg.len]; simp, rfl⟩
theorem de_tup {k : Nat} (h : DA X T W es fs) : DE X T W (.Tuple es k pos) (eArgs gTupD fs) :=
  PE_imp (pe_tup h) fun σ H Q q => by
    obtain ⟨ρ, env, G, sr, q⟩ := tA_args q
    refine ⟨ρ, env, G, sr, ?_⟩
    cases e : fs env G with
    | ok ds G1 =>
      rw [e] at q
      intro vs ρ1 H1 e1 rg1 rr
      obtain ⟨ρ2, G2, ds2, rg2, rr2, p⟩ := q vs ρ1 H1 e1 rg1 rr
      unfold gTupD at p
      split at p
      · rename_i hl
        exact ⟨line_of (by rw [rr2.length]; exact hl), fun pp hp => new_tup rg2 hp rr2 p⟩
      · exact p.elim
    | ex c w G1 => rw [e] at q; exact q
    | bad => rw [e] at q; exact q
theorem de_lst (h : DA X T W es fs) : DE X T W (.List es pos) (eArgs gLstD fs) :=
  PE_imp (pe_lst h) fun σ H Q q => by
    obtain ⟨ρ, env, G, sr, q⟩ := tA_args q
    refine ⟨ρ, env, G, sr, ?_⟩
    cases e : fs env G with
    | ok ds G1 =>
      rw [e] at q
      intro vs ρ1 H1 e1 rg1 rr
      obtain ⟨ρ2, G2, ds2, rg2, rr2, p⟩ := q vs ρ1 H1 e1 rg1 rr
      unfold gLstD at p
      split at p
      · rename_i hl
        exact ⟨line_of (by rw [rr2.length]; exact hl), fun pp hp => new_lst rg2 hp rr2 p⟩
      · exact p.elim
    | ex c w G1 => rw [e] at q; exact q
    | bad => rw [e] at q; exact q
end
end DL

set_option Elab.async false
set_option linter.all false
set_option maxRecDepth 100000
set_option maxHeartbeats 1000000
namespace DL
open PySem PySem.Spec PyProof.Rows L2
open PySem.SeqAt (eq_plain ne_plain in_tuple_data notIn_tuple_data in_list_data notIn_list_data)
open PySem.W (alike alikeAll dataLt lt_data gt_data le_data ge_data)

/-! ### data, read off the heap -/
section
variable {X : Cx} {T : TbT} {W : WX} {σ : L2.St} {ρ : List Addr} {H : Hp} {G : Hh} {pins : List (Addr × Obj)} {s : Shared}
mutual
theorem RepP.reads (I : Inv X pins σ H s) : ∀ (d : PyData) (v : V) (u : Value), RepP X.K H d v → RelV v u → Reads s.heap u d [] ∧ d.plain = true
  | .none, v, u, h, r => by
    have h : v = .non := h
    subst h; cases r; exact ⟨.none, rfl⟩
  | .bool b, v, u, h, r => by
    have h : v = .bl b := h
    subst h; cases r; exact ⟨.bool b, rfl⟩
  | .int i, v, u, h, r => by
    have h : v = .int i := h
    subst h; obtain ⟨t, rfl⟩ := r; exact ⟨.int i t, rfl⟩
  | .str x, v, u, h, r => by
    have h : v = .str x := h
    subst h; obtain ⟨t, rfl⟩ := r; exact ⟨.str x t, rfl⟩
  | .tuple ds, v, u, h, r => by
    obtain ⟨a, vs, rfl, hs, hr⟩ := h
    cases r
    obtain ⟨its, rv, ⟨o, ho, hc, n, hd⟩, _⟩ := I.tuple hs
    obtain ⟨h1, h2⟩ := RepPs.reads I ds vs its hr rv
    exact ⟨.tuple ho hc hd h1, by simpa [PyData.plain] using h2⟩
  | .list _, _, _, h, _ => h.elim
  | .dict _, _, _, h, _ => h.elim
theorem RepPs.reads (I : Inv X pins σ H s) : ∀ (ds : List PyData) (vs : List V) (us : List Value), RepPs X.K H ds vs → Vals vs us → ReadsAll s.heap us ds [] ∧ PyData.plainAll ds = true
  | [], vs, us, h, r => by
    have h : vs = [] := h
    subst h; cases r; exact ⟨.nil, rfl⟩
  | d :: ds, vs, us, h, r => by
    obtain ⟨v, t, rfl, h1, h2⟩ := h
    cases r with
    | cons r1 r2 =>
      obtain ⟨a1, b1⟩ := RepP.reads I d v _ h1 r1
      obtain ⟨a2, b2⟩ := RepPs.reads I ds t _ h2 r2
      exact ⟨.cons a1 a2, by simp [PyData.plainAll, b1, b2]⟩
end
/-- a value as data: lists by what they hold -/
def view (G : Hh) : D → Option PyData
  | .dat d => some d
  | .ref l => (match G[l]? with
    | some (.lst xs) => (dats xs).map .list
    | none => none)
  | .fro xs => some (.list xs)
  | _ => none
theorem view_reads (I : Inv X pins σ H s) (rg : RG X.K T ρ G H) : ∀ {d : D} {e : PyData} {v : V} {u : Value}, Rep X.K H ρ d v → RelV v u → view G d = some e → ∃ as, Reads s.heap u e as ∧ e.plain = true
  | .dat d, e, v, u, h, r, w => by
    have w : some d = some e := w
    cases w
    exact ⟨[], RepP.reads I d v u h r⟩
  | .ref l, e, v, u, h, r, w => by
    obtain ⟨a, ha, rfl⟩ := h
    cases r
    simp only [view] at w
    split at w
    · rename_i xs hx
      obtain ⟨vs, hv, hr⟩ := rg.ok l a _ ha hx
      simp only [Option.map_eq_some_iff] at w
      obtain ⟨ds, hd, rfl⟩ := w
      obtain ⟨its, rv, ⟨o, n, ho, hc, _, hdd⟩, _⟩ := I.list (SqL.of hv)
      obtain ⟨h1, h2⟩ := RepPs.reads I ds vs its (reps_dats hd hr) rv
      exact ⟨_, .list ho hc hdd h1, by simpa [PyData.plain] using h2⟩
    · cases w
  | .fro xs, e, v, u, h, r, w => by
    obtain ⟨a, vs, rfl, hf, hr⟩ := h
    cases r
    have w : some (PyData.list xs) = some e := w
    cases w
    obtain ⟨its, rv, ⟨o, n, ho, hc, _, hdd⟩, _⟩ := I.list hf.sq
    obtain ⟨h1, h2⟩ := RepPs.reads I xs vs its hr rv
    exact ⟨_, .list ho hc hdd h1, by simpa [PyData.plain] using h2⟩
  | .obj _, _, _, _, _, _, w => by cases w
  | .mix _, _, _, _, _, _, w => by cases w
  | .ty _, _, _, _, _, _, w => by cases w
theorem ref_lst (rg : RG X.K T ρ G H) {l : Nat} {v : V} {xs : List D} (h : Rep X.K H ρ (.ref l) v) (e : G[l]? = some (.lst xs)) : ∃ a vs, v = .ref a ∧ ρ[l]? = some a ∧ H a = some (.lst vs) ∧ Reps X.K H ρ xs vs := by
  obtain ⟨a, ha, rfl⟩ := h
  obtain ⟨vs, hv, hr⟩ := rg.ok l a _ ha e
  exact ⟨a, vs, rfl, ha, hv, hr⟩
/-- an operation hands back a value and changes nothing -/
theorem post_val {d : D} {v : V} {Q : VK} (rg : RG X.K T ρ G H) (r : Rep X.K H ρ d v) (p : PostO X T ρ H (some (d, G)) Q) : Q v H := p v ρ H Ext.refl rg r
theorem post_int {i : Int} {Q : VK} (rg : RG X.K T ρ G H) (p : PostO X T ρ H (some (.dat (.int i), G)) Q) : Q (.int i) H := p _ ρ H Ext.refl rg rfl
theorem post_bl {b : Bool} {Q : VK} (rg : RG X.K T ρ G H) (p : PostO X T ρ H (some (.dat (.bool b), G)) Q) : Q (.bl b) H := p _ ρ H Ext.refl rg rfl
end

def lim : Nat := 100000
/-! ### arithmetic -/
def mulOk (i j : Int) : Bool := decide (i.natAbs < 2 ^ 64) || (decide (j.natAbs < 2 ^ 64) || decide (i.natAbs.log2 + j.natAbs.log2 < 1000000))
def gAdd (x y : D) (G : Hh) : Option (D × Hh) := match x, y with
  | .dat (.int i), .dat (.int j) => some (.dat (.int (i + j)), G)
  | .dat (.str x), .dat (.str y) => if x.length + y.length ≤ 100000 then some (.dat (.str (x ++ y)), G) else none
  | .dat (.tuple a), .dat (.tuple b) => if a.length + b.length ≤ 100000 then some (.dat (.tuple (a ++ b)), G) else none
  | .ref l, .ref m => (match G[l]?, G[m]? with
    | some (.lst a), some (.lst b) => if a.length + b.length ≤ 100000 then some (.ref G.length, G ++ [.lst (a ++ b)]) else none
    | _, _ => none)
  | _, _ => none
def gSub (x y : D) (G : Hh) : Option (D × Hh) := match x, y with
  | .dat (.int i), .dat (.int j) => some (.dat (.int (i - j)), G)
  | _, _ => none
theorem tuple_mulS (l : Addr) (items : Array Value) (n : Nat) (dd : Option Addr) (sl : Array (Option Value)) (x : Int) (u : Tok) (c0 : (decide (x < -(2 ^ 63)) || decide (x ≥ 2 ^ 63)) = false) (c1 : (items.isEmpty || x == 1) = true) :
    Meets (Builtin.«tuple.__mul__» ⟨[.ref l, .int x u], []⟩) (fun _ R s => s.heap.get? l = some { cls := .type "tuple", dict := dd, data := .seq items n, slots := sl } ∧
      R (.ok (.ret (Value.ref l))) s) :=
  .of_wp fun prog w A R s h => by
    obtain ⟨hp, g, d, tk, os⟩ := s
    obtain ⟨hl, h⟩ := h
    have f1 := AutoSeq1.idx_int
    wp_walk using wpAny_loadPart' hl
    repeat (first
      | (refine wpAny_ite_false (decide_eq_false (by rw [c0]; exact Bool.false_ne_true)) ?_; wp_walk using wpAny_loadPart' hl)
      | (refine wpAny_ite_true (decide_eq_true c1) ?_; wp_walk using wpAny_loadPart' hl))
    exact ⟨_, rfl, h⟩
theorem tuple_mul0 (l : Addr) (items : Array Value) (n : Nat) (dd : Option Addr) (sl : Array (Option Value)) (x : Int) (u : Tok) (c0 : (decide (x < -(2 ^ 63)) || decide (x ≥ 2 ^ 63)) = false) (c1 : (items.isEmpty || x == 1) = false) (c2 : (decide (x ≤ 0) || items.isEmpty) = true) :
    Meets (Builtin.«tuple.__mul__» ⟨[.ref l, .int x u], []⟩) (fun _ R s => s.heap.get? l = some { cls := .type "tuple", dict := dd, data := .seq items n, slots := sl } ∧
      R (.ok (.ret (Value.ref s.heap.objs.size))) { s with heap := s.heap.push { cls := Value.type "tuple", data := Data.seq #[] }, toks := s.toks }) :=
  .of_wp fun prog w A R s h => by
    obtain ⟨hp, g, d, tk, os⟩ := s
    obtain ⟨hl, h⟩ := h
    have f1 := AutoSeq1.idx_int
    wp_walk using wpAny_loadPart' hl
    repeat (first
      | (refine wpAny_ite_false (decide_eq_false (by rw [c0]; exact Bool.false_ne_true)) ?_; wp_walk using wpAny_loadPart' hl)
      | (refine wpAny_ite_false (decide_eq_false (by rw [c1]; exact Bool.false_ne_true)) ?_; wp_walk using wpAny_loadPart' hl)
      | (refine wpAny_ite_true (decide_eq_true c2) ?_; wp_walk using wpAny_loadPart' hl))
    exact ⟨_, rfl, h⟩

def rRepU (K : PySem.W.Frag) : R2 := fun x y H Q => ∃ l k xs, x = .ref l ∧ y = .int k ∧ SqT K H l xs ∧ 0 ≤ k ∧ k ≤ 1000 ∧ xs.length ≤ 1000 ∧ (xs = [] ∨ k = 1 → Q (.ref l) H) ∧ (xs ≠ [] → k = 0 → ∀ p, H p = none → Q (.ref p) (upd H p (.tup []))) ∧
  (xs ≠ [] → 2 ≤ k → ∀ p, H p = none → Q (.ref p) (upd H p (.tup (List.replicate k.toNat xs).flatten)))
theorem op_repU {X : Cx} : OpR X (binaryOp .Mult) (rRepU X.K) := by
  intro pins s σ H x y v u Q I rx ry h
  obtain ⟨l, k, xs, rfl, rfl, hT, h0, h2, hz, q1, q2, q3⟩ := h
  by_cases hk : xs ≠ [] ∧ 2 ≤ k
  · exact op_repT pins s σ H _ _ v u Q I rx ry ⟨l, k, xs, rfl, rfl, hT, hk.1, hk.2, h2, hz, q3 hk.1 hk.2⟩
  cases rx
  obtain ⟨t, rfl⟩ := ry
  obtain ⟨its, r, ⟨⟨cls, dd, data, sl⟩, ho, hc, n, hd⟩, hs⟩ := I.tuple hT
  simp only at hc hd
  subst hc hd
  have hle : its.length = xs.length := r.length.symm
  have c0 : (decide (k < -(2 ^ 63)) || decide (k ≥ 2 ^ 63)) = false := by
    rw [decide_eq_false (by omega), decide_eq_false (by omega)] <;> rfl
  by_cases h1 : xs = [] ∨ k = 1
  · have c1 : (its.toArray.isEmpty || k == 1) = true := by
      rcases h1 with rfl | rfl
      · obtain rfl : its = [] := List.eq_nil_of_length_eq_zero hle
        rfl
      · simp
    refine wpAny_binaryOp_repeat_ref (T := "tuple") (U := "int") (by decide) ⟨_, ho, rfl⟩ (fun s' => typeIs_int s' k t) noFill_tuple_mul F.fills_int_mul F.slot_int_rmul repeat_tuple F.slot_int_index.lookup
      (call_meets F.slot_int_rmul (typeIs_int s k t) F.entry_int_rmul (F.args_int_rmul_2 _ _) (int_rmul_tuple k t l its.toArray n dd sl)
        ⟨ho, rfl, ⟨_, ho, rfl⟩, call_meets F.slot_tuple_mul ⟨_, ho, rfl⟩ F.entry_tuple_mul (F.args_tuple_mul_2 _ _) (tuple_mulS l its.toArray n dd sl k t c0 c1) ⟨ho, ?_⟩⟩)
    exact ⟨.ref l, H, I, rfl, q1 h1⟩
  · have hx : xs ≠ [] := fun z => h1 (.inl z)
    have hk0 : k = 0 := by
      have a1 : ¬ 2 ≤ k := fun z => hk ⟨hx, z⟩
      have a2 : k ≠ 1 := fun z => h1 (.inr z)
      omega
    subst hk0
    have hn : its ≠ [] := fun e => hx (by
      rw [e] at hle
      exact List.eq_nil_of_length_eq_zero hle.symm)
    have hi : its.toArray.isEmpty = false := by
      cases its with
      | nil => exact absurd rfl hn
      | cons a b => rfl
    have c1 : (its.toArray.isEmpty || (0 : Int) == 1) = false := by rw [hi]; rfl
    have c2 : (decide ((0 : Int) ≤ 0) || its.toArray.isEmpty) = true := rfl
    refine wpAny_binaryOp_repeat_ref (T := "tuple") (U := "int") (by decide) ⟨_, ho, rfl⟩ (fun s' => typeIs_int s' 0 t) noFill_tuple_mul F.fills_int_mul F.slot_int_rmul repeat_tuple F.slot_int_index.lookup
      (call_meets F.slot_int_rmul (typeIs_int s 0 t) F.entry_int_rmul (F.args_int_rmul_2 _ _) (int_rmul_tuple 0 t l its.toArray n dd sl)
        ⟨ho, rfl, ⟨_, ho, rfl⟩, call_meets F.slot_tuple_mul ⟨_, ho, rfl⟩ F.entry_tuple_mul (F.args_tuple_mul_2 _ _) (tuple_mul0 l its.toArray n dd sl 0 t c0 c1 c2) ⟨ho, ?_⟩⟩)
    refine ⟨.ref s.heap.objs.size, _, I.laid (t' := s.toks) (o := .tup []) (fun b ob q => Heap.get?_push_of_some _ q) (Nat.le_refl _) ?_, rfl, q2 hx rfl _ (I.hok.fresh (Nat.le_refl _))⟩
    exact ⟨by decide, [], .nil, IsTup.new _ _⟩
def repL (a : List PyData) (j : Int) : List PyData := (List.replicate j.toNat a).flatten
def gMul (x y : D) (G : Hh) : Option (D × Hh) := match x, y with
  | .dat (.int i), .dat (.int j) => if mulOk i j then some (.dat (.int (i * j)), G) else none
  | .dat (.tuple a), .dat (.int j) => if 0 ≤ j ∧ j ≤ 1000 ∧ a.length ≤ 1000 then some (.dat (.tuple (repL a j)), G) else none
  | _, _ => none
def gDiv (x y : D) (G : Hh) : Option (D × Hh) := match x, y with
  | .dat (.int i), .dat (.int j) => if 0 < j ∧ j.natAbs.log2 < 9000 then some (.dat (.int (i / j)), G) else none
  | _, _ => none
def gMod (x y : D) (G : Hh) : Option (D × Hh) := match x, y with
  | .dat (.int i), .dat (.int j) => if 0 < j then some (.dat (.int (i % j)), G) else none
  | _, _ => none
def gPow (x y : D) (G : Hh) : Option (D × Hh) := match x, y with
  | .dat (.int i), .dat (.int j) => if 0 ≤ j ∧ j ≤ 1000000 ∧ i.natAbs < 2 ^ 64 then some (.dat (.int (i ^ j.toNat)), G) else none
  | _, _ => none
def gNeg (x : D) (G : Hh) : Option (D × Hh) := match x with
  | .dat (.int i) => some (.dat (.int (-i)), G)
  | _ => none
section
variable {X : Cx} {T : TbT} {W : WX}
theorem op_gSub : OpR X (binaryOp .Sub) (r2 X T gSub) := fun pins s σ H v u vv uu Q I rv ru ⟨ρ, G, x, y, rg, rx, ry, p⟩ => by
  unfold gSub at p
  split at p
  · rename_i i j
    exact op_sub pins s σ H v u vv uu Q I rv ru ⟨i, j, rx, ry, post_int rg p⟩
  · exact p.elim
theorem mulOk_ok {i j : Int} (h : mulOk i j = true) : CMul i j ∨ CMulW i j := by
  unfold mulOk at h
  simp only [Bool.or_eq_true, decide_eq_true_eq] at h
  rcases h with h | h | h
  · exact .inl (.inl (by omega))
  · exact .inl (.inr (by omega))
  · exact .inr h
theorem tup_new (rg : RG X.K T ρ G H) {p : Addr} {vs : List V} {ds : List PyData} {Q : VK} (hp : H p = none) (r : RepPs X.K H ds vs)
    (q : PostO X T ρ H (some (.dat (.tuple ds), G)) Q) : Q (.ref p) (upd H p (.tup vs)) :=
  q (.ref p) ρ _ (ext_new hp) (rg.ext_same hp) ⟨p, vs, rfl, SqT.of upd_same, RepPs.mono ((ext_new hp).kt rg) ds vs r⟩
theorem RepPs.rep {K : PySem.W.Frag} {H : Hp} {ds : List PyData} {vs : List V} (h : RepPs K H ds vs) : ∀ n : Nat, RepPs K H (List.replicate n ds).flatten (List.replicate n vs).flatten
  | 0 => rfl
  | n + 1 => by
    rw [List.replicate_succ, List.replicate_succ, List.flatten_cons, List.flatten_cons]
    exact h.append (RepPs.rep h n)
theorem op_gMul : OpR X (binaryOp .Mult) (r2 X T gMul) := fun pins s σ H v u vv uu Q I rv ru ⟨ρ, G, x, y, rg, rx, ry, p⟩ => by
  unfold gMul at p
  split at p
  · rename_i i j
    split at p
    · rename_i hm
      rcases mulOk_ok hm with h | h
      · exact op_mul pins s σ H v u vv uu Q I rv ru ⟨i, j, rx, ry, h, post_int rg p⟩
      · exact op_mulW pins s σ H v u vv uu Q I rv ru ⟨i, j, rx, ry, h, post_int rg p⟩
    · exact p.elim
  · rename_i a j
    split at p
    · rename_i hm
      obtain ⟨pa, va, rfl, sa, ra⟩ := id rx
      refine op_repU pins s σ H _ _ vv uu Q I rv ru ⟨pa, j, va, rfl, ry, sa, hm.1, hm.2.1, by rw [ra.length]; exact hm.2.2, fun e => ?_, fun _ e q hq => ?_, fun _ _ q hq => ?_⟩
      · have e2 : repL a j = a := by
          rcases e with e | e
          · subst e
            have : a = [] := List.eq_nil_of_length_eq_zero (by rw [← ra.length]; rfl)
            subst this
            unfold repL
            simp
          · subst e
            unfold repL
            simp
        rw [e2] at p
        exact p _ ρ H Ext.refl rg rx
      · subst e
        exact tup_new (ds := repL a 0) rg hq rfl p
      · exact tup_new rg hq (ra.rep j.toNat) p
    · exact p.elim
  · exact p.elim
theorem op_gDiv : OpR X (binaryOp .FloorDiv) (r2 X T gDiv) := fun pins s σ H v u vv uu Q I rv ru ⟨ρ, G, x, y, rg, rx, ry, p⟩ => by
  unfold gDiv at p
  split at p
  · rename_i i j
    split at p
    · rename_i hm
      exact op_fdivW pins s σ H v u vv uu Q I rv ru ⟨i, j, rx, ry, hm, post_int rg p⟩
    · exact p.elim
  · exact p.elim
theorem op_gMod : OpR X (binaryOp .Mod) (r2 X T gMod) := fun pins s σ H v u vv uu Q I rv ru ⟨ρ, G, x, y, rg, rx, ry, p⟩ => by
  unfold gMod at p
  split at p
  · rename_i i j
    split at p
    · rename_i hm
      exact op_mod pins s σ H v u vv uu Q I rv ru ⟨i, j, rx, ry, hm, post_int rg p⟩
    · exact p.elim
  · exact p.elim
theorem op_gPow : OpR X (binaryOp .Pow) (r2 X T gPow) := fun pins s σ H v u vv uu Q I rv ru ⟨ρ, G, x, y, rg, rx, ry, p⟩ => by
  unfold gPow at p
  split at p
  · rename_i i j
    split at p
    · rename_i hm
      exact op_pow pins s σ H v u vv uu Q I rv ru ⟨i, j, rx, ry, hm, post_int rg p⟩
    · exact p.elim
  · exact p.elim
theorem un_gNeg : UnR X (unaryOp .USub) (r1 X T gNeg) := fun pins s σ H v vv Q I rv ⟨ρ, G, x, rg, rx, p⟩ => by
  unfold gNeg at p
  split at p
  · rename_i i
    exact un_neg pins s σ H v vv Q I rv ⟨i, rx, post_int rg p⟩
  · exact p.elim
theorem op_gAdd : OpR X (binaryOp .Add) (r2 X T gAdd) := fun pins s σ H v u vv uu Q I rv ru ⟨ρ, G, x, y, rg, rx, ry, p⟩ => by
  unfold gAdd at p
  split at p
  · rename_i i j
    exact op_add pins s σ H v u vv uu Q I rv ru ⟨i, j, rx, ry, post_int rg p⟩
  · rename_i i j
    split at p
    · rename_i hl
      exact op_add_str pins s σ H v u vv uu Q I rv ru ⟨i, j, rx, ry, line_of hl, p _ ρ H Ext.refl rg rfl⟩
    · exact p.elim
  · rename_i a b
    split at p
    · rename_i hl
      obtain ⟨pa, va, rfl, sa, ra⟩ := id rx
      obtain ⟨pb, vb, rfl, sb, rb⟩ := id ry
      refine op_catA pins s σ H _ _ vv uu Q I rv ru ⟨pa, pb, va, vb, rfl, rfl, sa, sb, line_of (by rw [ra.length, rb.length]; exact hl), fun e => ?_, fun e e2 => ?_, fun e e2 q hq => ?_⟩
      · subst e
        have : a = [] := List.eq_nil_of_length_eq_zero (by rw [← ra.length]; rfl)
        subst this
        exact p _ ρ H Ext.refl rg ry
      · subst e2
        have : b = [] := List.eq_nil_of_length_eq_zero (by rw [← rb.length]; rfl)
        subst this
        rw [List.append_nil] at p
        exact p _ ρ H Ext.refl rg rx
      · exact tup_new rg hq (ra.append rb) p
    · exact p.elim
  · rename_i l m
    split at p
    · rename_i a b ha hb
      split at p
      · rename_i hl
        obtain ⟨pa, va, rfl, _, sa, ra⟩ := ref_lst rg rx ha
        obtain ⟨pb, vb, rfl, _, sb, rb⟩ := ref_lst rg ry hb
        exact op_cat pins s σ H _ _ vv uu Q I rv ru ⟨pa, pb, va, vb, rfl, rfl, sa, sb, line_of (by rw [ra.length, rb.length]; exact hl), fun q hq => new_lst rg hq (ra.append rb) p⟩
      · exact p.elim
    · exact p.elim
  · exact p.elim

/-! ### comparisons -/
def gEq (x y : D) (G : Hh) : Option (D × Hh) := match view G x, view G y with
  | some d, some e => if min d.depth e.depth ≤ 60 then some (.dat (.bool (PyData.eqv d e)), G) else none
  | _, _ => none
def gNe (x y : D) (G : Hh) : Option (D × Hh) := match view G x, view G y with
  | some d, some e => if min d.depth e.depth ≤ 60 then some (.dat (.bool (!PyData.eqv d e)), G) else none
  | _, _ => none
theorem op_gEq (hu : X.A.units + 100 < cLine) : OpR X (compareOp .Eq) (r2 X T gEq) := fun pins s σ H v u vv uu Q I rv ru ⟨ρ, G, x, y, rg, rx, ry, p⟩ => by
  unfold gEq at p
  split at p
  · rename_i d e hd he
    split at p
    · rename_i hm
      obtain ⟨as, r1, p1⟩ := view_reads I rg rx rv hd
      obtain ⟨bs, r2, p2⟩ := view_reads I rg ry ru he
      exact eq_plain r1 r2 p1 p2 (by omega) ⟨.bl _, H, I, rfl, post_bl rg p⟩
    · exact p.elim
  · exact p.elim
theorem op_gNe (hu : X.A.units + 100 < cLine) : OpR X (compareOp .NotEq) (r2 X T gNe) := fun pins s σ H v u vv uu Q I rv ru ⟨ρ, G, x, y, rg, rx, ry, p⟩ => by
  unfold gNe at p
  split at p
  · rename_i d e hd he
    split at p
    · rename_i hm
      obtain ⟨as, r1, p1⟩ := view_reads I rg rx rv hd
      obtain ⟨bs, r2, p2⟩ := view_reads I rg ry ru he
      exact ne_plain r1 r2 p1 p2 (by omega) ⟨.bl _, H, I, rfl, post_bl rg p⟩
    · exact p.elim
  · exact p.elim
/-- an order of ints, of tuples that are alike -/
def gOrd (fi : Int → Int → Bool) (ft : PyData → PyData → Bool) (x y : D) (G : Hh) : Option (D × Hh) := match x, y with
  | .dat (.int i), .dat (.int j) => some (.dat (.bool (fi i j)), G)
  | .dat (.tuple a), .dat (.tuple b) => if alike (.tuple a) (.tuple b) = true ∧ min (PyData.tuple a).depth (PyData.tuple b).depth ≤ 60 then some (.dat (.bool (ft (.tuple a) (.tuple b))), G) else none
  | _, _ => none
def gLt := gOrd (fun i j => decide (i < j)) fun a b => dataLt a b
def gGt := gOrd (fun i j => decide (j < i)) fun a b => dataLt b a
def gLe := gOrd (fun i j => decide (i ≤ j)) fun a b => !dataLt b a
def gGe := gOrd (fun i j => decide (j ≤ i)) fun a b => !dataLt a b
theorem op_gOrd {op : CmpOp} {fi : Int → Int → Bool} {ft : PyData → PyData → Bool} (hi : OpR X (compareOp op) (rI0 fun i j => .bl (fi i j)))
    (ht : ∀ {da db : PyData} {s : Shared} {a b : Value} {as bs : List Addr} {E : Value → Shared → Prop} {Q : Value → Shared → Prop}, Reads s.heap a da as → Reads s.heap b db bs → alike da db = true → da ≠ .none → X.A.units + min da.depth db.depth < cLine → Q (.bool (ft da db)) s → wpAny (model X.prog X.w) X.A (compareOp op a b) Q E s)
    (hu : X.A.units + 100 < cLine) : OpR X (compareOp op) (r2 X T (gOrd fi ft)) := fun pins s σ H v u vv uu Q I rv ru ⟨ρ, G, x, y, rg, rx, ry, p⟩ => by
  unfold gOrd at p
  split at p
  · rename_i i j
    exact hi pins s σ H v u vv uu Q I rv ru ⟨i, j, rx, ry, post_bl rg p⟩
  · rename_i a b
    split at p
    · rename_i hm
      exact ht (RepP.reads I _ _ _ rx rv).1 (RepP.reads I _ _ _ ry ru).1 hm.1 (fun z => nomatch z) (by omega) ⟨.bl _, H, I, rfl, post_bl rg p⟩
    · exact p.elim
  · exact p.elim
theorem op_gLt (hu : X.A.units + 100 < cLine) : OpR X (compareOp .Lt) (r2 X T gLt) := op_gOrd op_lt (fun h1 h2 h3 h4 h5 h6 => lt_data h1 h2 h3 h4 h5 h6) hu
theorem op_gGt (hu : X.A.units + 100 < cLine) : OpR X (compareOp .Gt) (r2 X T gGt) := op_gOrd op_gt (fun h1 h2 h3 h4 h5 h6 => gt_data h1 h2 h3 h4 h5 h6) hu
theorem op_gLe (hu : X.A.units + 100 < cLine) : OpR X (compareOp .LtE) (r2 X T gLe) := op_gOrd op_le (fun h1 h2 h3 h4 h5 h6 => le_data h1 h2 h3 h4 h5 h6) hu
theorem op_gGe (hu : X.A.units + 100 < cLine) : OpR X (compareOp .GtE) (r2 X T gGe) := op_gOrd op_ge (fun h1 h2 h3 h4 h5 h6 => ge_data h1 h2 h3 h4 h5 h6) hu

/-- x in a tuple or list, a text in a text -/
def inD (x : D) (c : D) (G : Hh) : Option Bool := match view G x, view G c with
  | some (.str i), some (.str j) => some (!(Builtin.Str.occurrences j i 0 j.length 1).isEmpty)
  | some d, some (.tuple es) => if min (PyData.depthAll es) d.depth ≤ 60 then some (es.any fun y => PyData.eqv y d) else none
  | some d, some (.list es) => if min (PyData.depthAll es) d.depth ≤ 60 then some (es.any fun y => PyData.eqv y d) else none
  | _, _ => none
def gIn (x y : D) (G : Hh) : Option (D × Hh) := (inD x y G).map fun b => (.dat (.bool b), G)
def gNotIn (x y : D) (G : Hh) : Option (D × Hh) := (inD x y G).map fun b => (.dat (.bool (!b)), G)
theorem plain_tuple {es : List PyData} (h : (PyData.tuple es).plain = true) : PyData.plainAll es = true := by simpa [PyData.plain] using h
theorem plain_list {es : List PyData} (h : (PyData.list es).plain = true) : PyData.plainAll es = true := by simpa [PyData.plain] using h
theorem reads_str {h : Heap} {u : Value} {x : Str} {as : List Addr} (r : Reads h u (.str x) as) : ∃ t, u = .str x t := by
  cases r; exact ⟨_, rfl⟩
theorem relV_str {v : V} {x : Str} {t : Tok} (r : RelV v (.str x t)) : v = .str x := by
  have q : RelV (.str x) (.str x t) := ⟨t, rfl⟩
  exact r.inj q
theorem op_gIn (hu : X.A.units + 100 < cLine) : OpR X (compareOp .In) (r2 X T gIn) := fun pins s σ H v u vv uu Q I rv ru ⟨ρ, G, x, y, rg, rx, ry, p⟩ => by
  unfold gIn inD at p
  split at p
  · rename_i i j hi hj
    obtain ⟨_, r1, _⟩ := view_reads I rg rx rv hi
    obtain ⟨_, r2, _⟩ := view_reads I rg ry ru hj
    obtain ⟨t, rfl⟩ := reads_str r1
    obtain ⟨t', rfl⟩ := reads_str r2
    exact op_in_str pins s σ H v u _ _ Q I rv ru ⟨i, j, relV_str rv, relV_str ru, post_bl rg p⟩
  · rename_i d es hd he
    split at p
    · rename_i hm
      obtain ⟨as, r1, p1⟩ := view_reads I rg rx rv hd
      obtain ⟨bs, r2, p2⟩ := view_reads I rg ry ru he
      exact in_tuple_data r2 r1 (plain_tuple p2) p1 (by omega) ⟨.bl _, H, I, rfl, post_bl rg p⟩
    · exact p.elim
  · rename_i d es hd he
    split at p
    · rename_i hm
      obtain ⟨as, r1, p1⟩ := view_reads I rg rx rv hd
      obtain ⟨bs, r2, p2⟩ := view_reads I rg ry ru he
      exact in_list_data r2 r1 (plain_list p2) p1 (by omega) ⟨.bl _, H, I, rfl, post_bl rg p⟩
    · exact p.elim
  · exact p.elim
theorem op_gNotIn (hu : X.A.units + 100 < cLine) : OpR X (compareOp .NotIn) (r2 X T gNotIn) := fun pins s σ H v u vv uu Q I rv ru ⟨ρ, G, x, y, rg, rx, ry, p⟩ => by
  unfold gNotIn inD at p
  split at p
  · rename_i i j hi hj
    obtain ⟨_, r1, _⟩ := view_reads I rg rx rv hi
    obtain ⟨_, r2, _⟩ := view_reads I rg ry ru hj
    obtain ⟨t, rfl⟩ := reads_str r1
    obtain ⟨t', rfl⟩ := reads_str r2
    exact op_notin_str pins s σ H v u _ _ Q I rv ru ⟨i, j, relV_str rv, relV_str ru, post_bl rg p⟩
  · rename_i d es hd he
    split at p
    · rename_i hm
      obtain ⟨as, r1, p1⟩ := view_reads I rg rx rv hd
      obtain ⟨bs, r2, p2⟩ := view_reads I rg ry ru he
      exact notIn_tuple_data r2 r1 (plain_tuple p2) p1 (by omega) ⟨.bl _, H, I, rfl, post_bl rg p⟩
    · exact p.elim
  · rename_i d es hd he
    split at p
    · rename_i hm
      obtain ⟨as, r1, p1⟩ := view_reads I rg rx rv hd
      obtain ⟨bs, r2, p2⟩ := view_reads I rg ry ru he
      exact notIn_list_data r2 r1 (plain_list p2) p1 (by omega) ⟨.bl _, H, I, rfl, post_bl rg p⟩
    · exact p.elim
  · exact p.elim
/-- is None, is True, is False -/
def isD : D → D → Option Bool
  | .dat (.bool a), .dat (.bool b) => some (decide (a = b))
  | .dat .none, .dat .none => some true
  | .dat (.bool _), .dat .none => some false
  | .dat (.int _), .dat .none => some false
  | .dat (.str _), .dat .none => some false
  | .dat (.tuple _), .dat .none => some false
  | .ref _, .dat .none => some false
  | .obj _, .dat .none => some false
  | .mix _, .dat .none => some false
  | .fro _, .dat .none => some false
  | _, _ => none
def gIs (x y : D) (G : Hh) : Option (D × Hh) := (isD x y).map fun b => (.dat (.bool b), G)
def gIsNot (x y : D) (G : Hh) : Option (D × Hh) := (isD x y).map fun b => (.dat (.bool (!b)), G)
theorem op_gIs : OpR X (compareOp .Is) (r2 X T gIs) := fun pins s σ H v u vv uu Q I rv ru ⟨ρ, G, x, y, rg, rx, ry, p⟩ => by
  unfold gIs isD at p
  split at p
  · rename_i a b
    exact op_isBl pins s σ H v u vv uu Q I rv ru ⟨a, b, rx, ry, post_bl rg p⟩
  all_goals first
    | exact p.elim
    | (refine op_isN pins s σ H v u vv uu Q I rv ru ⟨ry, ?_⟩
       have q := post_bl rg p
       first
         | (have e : v = .non := rx
            subst e
            exact q)
         | (have e : v = .bl _ := rx
            subst e
            exact q)
         | (have e : v = .int _ := rx
            subst e
            exact q)
         | (have e : v = .str _ := rx
            subst e
            exact q)
         | (obtain ⟨_, _, rfl, _⟩ := rx
            exact q)
         | (obtain ⟨_, _, rfl⟩ := rx
            exact q)
         | (have e : v = .ref _ := rx
            subst e
            exact q))
theorem op_gIsNot : OpR X (compareOp .IsNot) (r2 X T gIsNot) := fun pins s σ H v u vv uu Q I rv ru ⟨ρ, G, x, y, rg, rx, ry, p⟩ => by
  unfold gIsNot isD at p
  split at p
  · rename_i a b
    exact op_notBl pins s σ H v u vv uu Q I rv ru ⟨a, b, rx, ry, post_bl rg p⟩
  all_goals first
    | exact p.elim
    | (refine op_notN pins s σ H v u vv uu Q I rv ru ⟨ry, ?_⟩
       have q := post_bl rg p
       first
         | (have e : v = .non := rx
            subst e
            exact q)
         | (have e : v = .bl _ := rx
            subst e
            exact q)
         | (have e : v = .int _ := rx
            subst e
            exact q)
         | (have e : v = .str _ := rx
            subst e
            exact q)
         | (obtain ⟨_, _, rfl, _⟩ := rx
            exact q)
         | (obtain ⟨_, _, rfl⟩ := rx
            exact q)
         | (have e : v = .ref _ := rx
            subst e
            exact q))
end
end DL

set_option Elab.async false
set_option linter.all false
set_option maxRecDepth 100000
set_option maxHeartbeats 1000000
namespace DL
open PySem PySem.Spec PyProof.Rows L2
open PySem.SeqAt (eq_plain ne_plain in_tuple_data notIn_tuple_data in_list_data notIn_list_data)
open PySem.W (alike alikeAll dataLt lt_data gt_data le_data ge_data)

/-! ### truth -/
def tru (x : D) (G : Hh) : Option Bool := match x with
  | .dat .none => some false
  | .dat (.bool b) => some b
  | .dat (.int i) => some (i != 0)
  | .dat (.str y) => if y.length ≤ 100000 then some ((y.length : Int) != 0) else none
  | .dat (.tuple ds) => some (!ds.isEmpty)
  | .ref l => (match G[l]? with
    | some (.lst xs) => some (!xs.isEmpty)
    | none => none)
  | .fro xs => some (!xs.isEmpty)
  | .mix xs => some (!xs.isEmpty)
  | _ => none
def truB (x : D) (_ : Hh) : Option Bool := match x with
  | .dat (.bool b) => some b
  | _ => none
theorem isEmpty_len {α β : Type} {a : List α} {b : List β} (h : a.length = b.length) : a.isEmpty = b.isEmpty := by
  cases a <;> cases b <;> simp at h ⊢
section
variable {X : Cx} {T : TbT} {W : WX} {σ : L2.St} {ρ : List Addr} {H : Hp} {G : Hh}
theorem tru_V {x : D} {v : V} {k : Bool} (rg : RG X.K T ρ G H) (r : Rep X.K H ρ x v) (h : tru x G = some k) : TruV X.K v H k := by
  unfold tru at h
  split at h
  · have e : v = .non := r
    subst e; cases h; rfl
  · have e : v = .bl _ := r
    subst e; cases h; rfl
  · have e : v = .int _ := r
    subst e; cases h; rfl
  · split at h
    · rename_i hl
      have e : v = .str _ := r
      subst e; cases h; exact ⟨line_of hl, rfl⟩
    · cases h
  · obtain ⟨a, vs, rfl, s, rs⟩ := r
    cases h
    exact .inr (.inl ⟨vs, s, by rw [isEmpty_len rs.length]⟩)
  · split at h
    · rename_i xs hx
      obtain ⟨a, vs, rfl, _, s, rs⟩ := ref_lst rg r hx
      cases h
      exact .inl ⟨vs, SqL.of s, by rw [isEmpty_len rs.length]⟩
    · cases h
  · obtain ⟨a, vs, rfl, s, rs⟩ := r
    cases h
    exact .inl ⟨vs, s.sq, by rw [isEmpty_len rs.length]⟩
  · obtain ⟨a, vs, rfl, s, rs⟩ := r
    cases h
    exact .inr (.inl ⟨vs, s, by rw [isEmpty_len rs.length]⟩)
  · cases h
theorem tT_test {g : D → Hh → Option Bool} {f : ES} {H : Hp} {Q : Bool → Hp → Prop} (q : tT X T W (tTest' g f) σ H Q) :
    tE X T W f σ H fun v H1 => ∃ ρ G x k, RG X.K T ρ G H1 ∧ Rep X.K H1 ρ x v ∧ g x G = some k ∧ Q k H1 := by
  obtain ⟨ρ, env, G, sr, p⟩ := q
  refine ⟨ρ, env, G, sr, ?_⟩
  unfold tTest' at p
  cases e : f env G with
  | ok x G1 =>
    rw [e] at p
    intro v ρ1 H1 e1 rg1 r1
    dsimp only at p
    cases e3 : g x G1 with
    | none => rw [e3] at p; exact p.elim
    | some k =>
      rw [e3] at p
      exact ⟨ρ1, G1, x, k, rg1, r1, e3, p ρ1 H1 e1 rg1⟩
  | ex c w G1 => rw [e] at p; exact p
  | bad => rw [e] at p; exact p
variable {a b c : Expr} {f fa fb fc : ES} {t u : TSm} {pos : Pos} {rest : List Expr}
theorem dt_truth (ha : DE X T W a f) (he : ∀ whole, isTrue a X.env whole = (do let v ← whole; standAt a.pos; holding [v] (truthy v)) := by intro _; rfl) : DT X T W a (tTest' tru f) :=
  PT_imp (pt_truth ha he) fun σ H Q q => by
    obtain ⟨ρ, env, G, sr, p⟩ := tT_test q
    refine ⟨ρ, env, G, sr, ?_⟩
    cases e : f env G with
    | ok x G1 =>
      rw [e] at p
      intro v ρ1 H1 e1 rg1 r1
      obtain ⟨ρ2, G2, y, k, rg2, r2, h, q⟩ := p v ρ1 H1 e1 rg1 r1
      exact ⟨k, tru_V rg2 r2 h, q⟩
    | ex c w G1 => rw [e] at p; exact p
    | bad => rw [e] at p; exact p
theorem tB_of {H : Hp} {Q : Bool → Hp → Prop} (q : tT X T W (tTest' truB f) σ H Q) : tE X T W f σ H fun v H1 => ∃ k, v = .bl k ∧ Q k H1 := by
  obtain ⟨ρ, env, G, sr, p⟩ := tT_test q
  refine ⟨ρ, env, G, sr, ?_⟩
  cases e : f env G with
  | ok x G1 =>
    rw [e] at p
    intro v ρ1 H1 e1 rg1 r1
    obtain ⟨ρ2, G2, y, k, rg2, r2, h, q⟩ := p v ρ1 H1 e1 rg1 r1
    unfold truB at h
    split at h
    · cases h
      exact ⟨_, r2, q⟩
    · cases h
  | ex c w G1 => rw [e] at p; exact p
  | bad => rw [e] at p; exact p
theorem dt_cmp {op : CmpOp} {g : D → D → Hh → Option (D × Hh)} (ho : OpR X (compareOp op) (r2 X T g)) (ha : DE X T W a fa) (hb : DE X T W b fb) (hm : behindInMarks op b = false) : DT X T W (.Compare a [op] [b] pos) (tTest' truB (eBin g fa fb)) :=
  PT_imp (pt_cmpR ho ha hb hm) fun σ H Q q => tE_bin (tB_of q)
/-- a op b op' c -/
def eChain (g g' : D → D → Hh → Option (D × Hh)) (fa fb fc : ES) : ES := eThen fa fun x => eThen fb fun y env G => match g x y G with
  | some (.dat (.bool true), G2) => eThen fc (fun z _ G3 => RE.of (g' y z G3)) env G2
  | some (.dat (.bool false), G2) => .ok (.dat (.bool false)) G2
  | _ => .bad
theorem tE_chain {g g' : D → D → Hh → Option (D × Hh)} {H : Hp} {Q : VK} (q : tE X T W (eChain g g' fa fb fc) σ H Q) :
    tChain (r2 X T g) (r2 X T g') (tE X T W fa) (tE X T W fb) (tE X T W fc) σ H Q := by
  obtain ⟨ρ, env, G, sr, p⟩ := q
  refine ⟨ρ, env, G, sr, ?_⟩
  unfold eChain eThen at p
  cases e : fa env G with
  | ok x G1 =>
    rw [e] at p
    intro v ρ1 H1 e1 rg1 r1
    refine ⟨ρ1, env, G1, ⟨rg1, e1.envr sr.rg sr.ev⟩, ?_⟩
    dsimp only at p
    cases e2 : fb env G1 with
    | ok y G2 =>
      rw [e2] at p
      intro u ρ2 H2 e2' rg2 r2
      dsimp only at p
      refine ⟨ρ2, G2, x, y, rg2, e2'.rep rg1 r1, r2, ?_⟩
      split at p
      · rename_i G3 hg
        rw [hg]
        intro w ρ3 H3 e3 rg3 r3
        refine ⟨true, r3, ?_⟩
        rw [if_pos rfl]
        have e12 := (e1.trans e2').trans e3
        have sr3 : SR X T ρ3 env G3 σ H3 := ⟨rg3, e12.envr sr.rg sr.ev⟩
        refine ⟨ρ3, env, G3, sr3, ?_⟩
        cases e4 : fc env G3 with
        | ok z G4 =>
          rw [e4] at p
          intro w4 ρ4 H4 e5 rg4 r4
          refine ⟨ρ4, G4, y, z, rg4, e5.rep rg3 (e3.rep rg2 r2), r4, ?_⟩
          dsimp only at p
          cases e6 : g' y z G4 with
          | none => rw [e6] at p; exact p
          | some zz =>
            obtain ⟨d, G5⟩ := zz
            rw [e6] at p
            exact fun w ρ5 H5 e7 => p w ρ5 H5 ((e12.trans e5).trans e7)
        | ex c w G4 => rw [e4] at p; exact PostX.ext e12 p
        | bad => rw [e4] at p; exact p
      · rename_i G3 hg
        rw [hg]
        intro w ρ3 H3 e3 rg3 r3
        refine ⟨false, r3, ?_⟩
        rw [if_neg Bool.false_ne_true]
        exact p _ ρ3 H3 ((e1.trans e2').trans e3) rg3 rfl
      · exact p.elim
    | ex c w G2 => rw [e2] at p; exact PostX.ext e1 p
    | bad => rw [e2] at p; exact p
  | ex c w G1 => rw [e] at p; exact p
  | bad => rw [e] at p; exact p
theorem de_chain {op op' : CmpOp} {g g' : D → D → Hh → Option (D × Hh)} (ho : OpR X (compareOp op) (r2 X T g)) (ho' : OpR X (compareOp op') (r2 X T g')) (ha : DE X T W a fa) (hb : DE X T W b fb) (hc : DE X T W c fc)
    (hm : lastMarks [op, op'] [b, c] = false := by with_unfolding_all rfl) : DE X T W (.Compare a [op, op'] [b, c] pos) (eChain g g' fa fb fc) :=
  PE_imp (pe_chain ho ho' ha hb hc hm) fun _ _ _ q => tE_chain q
theorem dt_chain {op op' : CmpOp} {g g' : D → D → Hh → Option (D × Hh)} (ho : OpR X (compareOp op) (r2 X T g)) (ho' : OpR X (compareOp op') (r2 X T g')) (ha : DE X T W a fa) (hb : DE X T W b fb) (hc : DE X T W c fc)
    (hm : lastMarks [op, op'] [b, c] = false := by with_unfolding_all rfl) : DT X T W (.Compare a [op, op'] [b, c] pos) (tTest' truB (eChain g g' fa fb fc)) :=
  PT_imp (pt_chain ho ho' ha hb hc hm) fun _ _ _ q => tE_chain (tB_of q)
/-! ### and, or, not -/
abbrev DW (X : Cx) (T : TbT) (W : WX) (e : Expr) (f : TSm) : Prop := PW X e (tT X T W f)
theorem tT_and {H : Hp} {Q : Bool → Hp → Prop} (q : tT X T W (sAnd t u) σ H Q) : L2.tAnd (tT X T W t) (tT X T W u) σ H Q := by
  obtain ⟨ρ, env, G, sr, p⟩ := q
  refine ⟨ρ, env, G, sr, ?_⟩
  unfold sAnd at p
  cases e : t env G with
  | ok k G1 =>
    rw [e] at p
    intro ρ1 H1 e1 rg1
    cases k with
    | true => exact ⟨ρ1, env, G1, ⟨rg1, e1.envr sr.rg sr.ev⟩, PostT.ext e1 p⟩
    | false => exact p ρ1 H1 e1 rg1
  | ex c w G1 => rw [e] at p; exact p
  | bad => rw [e] at p; exact p
theorem tT_or {H : Hp} {Q : Bool → Hp → Prop} (q : tT X T W (sOr t u) σ H Q) : L2.tOr (tT X T W t) (tT X T W u) σ H Q := by
  obtain ⟨ρ, env, G, sr, p⟩ := q
  refine ⟨ρ, env, G, sr, ?_⟩
  unfold sOr at p
  cases e : t env G with
  | ok k G1 =>
    rw [e] at p
    intro ρ1 H1 e1 rg1
    cases k with
    | false => exact ⟨ρ1, env, G1, ⟨rg1, e1.envr sr.rg sr.ev⟩, PostT.ext e1 p⟩
    | true => exact p ρ1 H1 e1 rg1
  | ex c w G1 => rw [e] at p; exact p
  | bad => rw [e] at p; exact p
theorem tT_not {H : Hp} {Q : Bool → Hp → Prop} (q : tT X T W (sNot t) σ H Q) : L2.tNot (tT X T W t) σ H Q := by
  obtain ⟨ρ, env, G, sr, p⟩ := q
  refine ⟨ρ, env, G, sr, ?_⟩
  unfold sNot at p
  cases e : t env G with
  | ok k G1 => rw [e] at p; exact p
  | ex c w G1 => rw [e] at p; exact p
  | bad => rw [e] at p; exact p
theorem dw_and1 (ha : DT X T W a t) : DW X T W (.BoolOp .And [a] pos) t := pw_and1 ha
theorem dw_or1 (ha : DT X T W a t) : DW X T W (.BoolOp .Or [a] pos) t := pw_or1 ha
theorem dw_and (ha : DT X T W a t) (hb : DW X T W (.BoolOp .And (b :: rest) pos) u) : DW X T W (.BoolOp .And (a :: b :: rest) pos) (sAnd t u) := PW_imp (pw_and ha hb) fun _ _ _ q => tT_and q
theorem dw_or (ha : DT X T W a t) (hb : DW X T W (.BoolOp .Or (b :: rest) pos) u) : DW X T W (.BoolOp .Or (a :: b :: rest) pos) (sOr t u) := PW_imp (pw_or ha hb) fun _ _ _ q => tT_or q
theorem dt_not (ha : DT X T W a t) : DT X T W (.UnaryOp .Not a pos) (sNot t) := PT_imp (pt_not ha) fun _ _ _ q => tT_not q
theorem DW.dt {e : Expr} (h : DW X T W e t) : DT X T W e t := h.pt
theorem de_one {op : BoolOp} (h : DE X T W a f) : DE X T W (.BoolOp op [a] pos) f := pe_one h
theorem de_and (ha : DE X T W a fa) (hb : DE X T W (.BoolOp .And (b :: rest) pos) fb) : DE X T W (.BoolOp .And (a :: b :: rest) pos) (eAnd tru fa fb) :=
  PE_imp (pe_andT ha hb) fun σ H Q ⟨ρ, env, G, sr, p⟩ => by
    refine ⟨ρ, env, G, sr, ?_⟩
    unfold eAnd eThen at p
    cases e : fa env G with
    | ok x G1 =>
      rw [e] at p
      intro v ρ1 H1 e1 rg1 r1
      dsimp only at p
      cases e2 : tru x G1 with
      | none => rw [e2] at p; exact p.elim
      | some k =>
        rw [e2] at p
        refine ⟨k, tru_V rg1 r1 e2, ?_⟩
        cases k with
        | true => exact ⟨ρ1, env, G1, ⟨rg1, e1.envr sr.rg sr.ev⟩, PostE.ext e1 p⟩
        | false => exact p v ρ1 H1 e1 rg1 r1
    | ex c w G1 => rw [e] at p; exact p
    | bad => rw [e] at p; exact p
theorem de_or (ha : DE X T W a fa) (hb : DE X T W (.BoolOp .Or (b :: rest) pos) fb) : DE X T W (.BoolOp .Or (a :: b :: rest) pos) (eOr tru fa fb) :=
  PE_imp (pe_orT ha hb) fun σ H Q ⟨ρ, env, G, sr, p⟩ => by
    refine ⟨ρ, env, G, sr, ?_⟩
    unfold eOr eThen at p
    cases e : fa env G with
    | ok x G1 =>
      rw [e] at p
      intro v ρ1 H1 e1 rg1 r1
      dsimp only at p
      cases e2 : tru x G1 with
      | none => rw [e2] at p; exact p.elim
      | some k =>
        rw [e2] at p
        refine ⟨k, tru_V rg1 r1 e2, ?_⟩
        cases k with
        | false => exact ⟨ρ1, env, G1, ⟨rg1, e1.envr sr.rg sr.ev⟩, PostE.ext e1 p⟩
        | true => exact p v ρ1 H1 e1 rg1 r1
    | ex c w G1 => rw [e] at p; exact p
    | bad => rw [e] at p; exact p
def gNotT (x : D) (G : Hh) : Option (D × Hh) := (tru x G).map fun b => (.dat (.bool (!b)), G)
theorem de_not (ha : DE X T W a fa) : DE X T W (.UnaryOp .Not a pos) (eUn gNotT fa) :=
  PE_imp (pe_notT ha) fun σ H Q q => by
    obtain ⟨ρ, env, G, sr, p⟩ := tE_un q
    refine ⟨ρ, env, G, sr, ?_⟩
    cases e : fa env G with
    | ok x G1 =>
      rw [e] at p
      intro v ρ1 H1 e1 rg1 r1
      obtain ⟨ρ2, G2, y, rg2, r2, h⟩ := p v ρ1 H1 e1 rg1 r1
      unfold gNotT at h
      cases e2 : tru y G2 with
      | none => rw [e2] at h; exact h.elim
      | some k =>
        rw [e2] at h
        exact ⟨k, tru_V rg2 r2 e2, post_bl rg2 h⟩
    | ex c w G1 => rw [e] at p; exact p
    | bad => rw [e] at p; exact p
theorem de_if (hc : DT X T W c t) (ha : DE X T W a fa) (hb : DE X T W b fb) : DE X T W (.IfExp c a b pos) (eIf t fa fb) :=
  PE_imp (pe_ifExp hc ha hb) fun σ H Q ⟨ρ, env, G, sr, p⟩ => by
    refine ⟨ρ, env, G, sr, ?_⟩
    unfold eIf at p
    cases e : t env G with
    | ok k G1 =>
      rw [e] at p
      intro ρ1 H1 e1 rg1
      cases k with
      | true => exact ⟨ρ1, env, G1, ⟨rg1, e1.envr sr.rg sr.ev⟩, PostE.ext e1 p⟩
      | false => exact ⟨ρ1, env, G1, ⟨rg1, e1.envr sr.rg sr.ev⟩, PostE.ext e1 p⟩
    | ex c w G1 => rw [e] at p; exact p
    | bad => rw [e] at p; exact p

/-! ### items -/
def gIx (x y : D) (G : Hh) : Option (D × Hh) := match x, y with
  | .dat (.tuple ds), .dat (.int i) => (match atI ds i with
    | some d => some (.dat d, G)
    | none => none)
  | .ref l, .dat (.int i) => (match G[l]? with
    | some (.lst xs) => (match atI xs i with
      | some d => some (d, G)
      | none => none)
    | none => none)
  | .fro ds, .dat (.int i) => (match atI ds i with
    | some d => some (.dat d, G)
    | none => none)
  | .mix ds, .dat (.int i) => (match atI ds i with
    | some d => some (d, G)
    | none => none)
  | .dat (.str z), .dat (.int i) => if z.length ≤ 100000 then (match atI z.cps.toList i with
    | some c => some (.dat (.str ⟨#[c]⟩), G)
    | none => none) else none
  | _, _ => none
theorem RepPs.atI {ds : List PyData} {vs : List V} {i : Int} {d : PyData} (r : RepPs X.K H ds vs) (h : atI ds i = some d) : ∃ v, L2.atI vs i = some v ∧ RepP X.K H d v := by
  unfold L2.atI at h ⊢
  rw [r.length]
  cases e : ixN ds.length i with
  | none => rw [e] at h; cases h
  | some j =>
    rw [e] at h
    exact r.get h
theorem Reps.atI {ds : List D} {vs : List V} {i : Int} {d : D} (r : Reps X.K H ρ ds vs) (h : atI ds i = some d) : ∃ v, L2.atI vs i = some v ∧ Rep X.K H ρ d v := by
  unfold L2.atI at h ⊢
  rw [r.length]
  cases e : ixN ds.length i with
  | none => rw [e] at h; cases h
  | some j =>
    rw [e] at h
    exact r.get h
theorem ix_gIx : IxR X (r2 X T gIx) := fun va sl pins s σ H v u vv uu Q I rv ru ⟨ρ, G, x, y, rg, rx, ry, p⟩ hs => by
  unfold gIx at p
  split at p
  · rename_i ds i
    split at p
    · rename_i d hd
      obtain ⟨a, vs, rfl, sq, rs⟩ := rx
      obtain ⟨w, hw, rw'⟩ := rs.atI hd
      exact ix_tup va sl pins s σ H _ u vv uu Q I rv ru ⟨a, vs, i, w, rfl, ry, sq, hw, post_val (d := .dat d) rg rw' p⟩ hs
    · exact p.elim
  · rename_i l i
    split at p
    · rename_i xs hx
      split at p
      · rename_i d hd
        obtain ⟨a, vs, rfl, _, sq, rs⟩ := ref_lst rg rx hx
        obtain ⟨w, hw, rw'⟩ := rs.atI hd
        exact ix_list va sl pins s σ H _ u vv uu Q I rv ru ⟨a, vs, i, w, rfl, ry, SqL.of sq, hw, post_val rg rw' p⟩ hs
      · exact p.elim
    · exact p.elim
  · rename_i ds i
    split at p
    · rename_i d hd
      obtain ⟨a, vs, rfl, sq, rs⟩ := rx
      obtain ⟨w, hw, rw'⟩ := rs.atI hd
      exact ix_list va sl pins s σ H _ u vv uu Q I rv ru ⟨a, vs, i, w, rfl, ry, sq.sq, hw, post_val (d := .dat d) rg rw' p⟩ hs
    · exact p.elim
  · rename_i ds i
    split at p
    · rename_i d hd
      obtain ⟨a, vs, rfl, sq, rs⟩ := rx
      obtain ⟨w, hw, rw'⟩ := rs.atI hd
      exact ix_tup va sl pins s σ H _ u vv uu Q I rv ru ⟨a, vs, i, w, rfl, ry, sq, hw, post_val rg rw' p⟩ hs
    · exact p.elim
  · rename_i z i
    split at p
    · rename_i hl
      split at p
      · rename_i c hc
        exact ix_str va sl pins s σ H _ u vv uu Q I rv ru ⟨z, i, c, rx, ry, line_of hl, hc, post_val (d := .dat (.str ⟨#[c]⟩)) rg rfl p⟩ hs
      · exact p.elim
    · exact p.elim
  · exact p.elim

/-! ### slices -/
inductive RO where
  | ok (o : Option Int) (G : Hh) | ex (c : Addr) (w : D) (G : Hh) | bad
abbrev OS := Env' → Hh → RO
def oNone : OS := fun _ G => .ok none G
def oSome (f : ES) : OS := fun env G => match f env G with
  | .ok (.dat (.int i)) G1 => .ok (some i) G1
  | .ok _ _ => .bad
  | .ex c w G1 => .ex c w G1
  | .bad => .bad
def PostOp (X : Cx) (T : TbT) (W : WX) (σ : L2.St) (ρ : List Addr) (H : Hp) (r : RO) (Q : Option Int → Hp → Prop) : Prop :=
  match r with
  | .ok o G' => ∀ ρ' H', Ext ρ H ρ' H' → RG X.K T ρ' G' H' → Q o H'
  | .ex c w G' => PostX X T W σ ρ H c w G'
  | .bad => False
def tO (X : Cx) (T : TbT) (W : WX) (f : OS) : TO := fun σ H Q => ∃ ρ env G, SR X T ρ env G σ H ∧ PostOp X T W σ ρ H (f env G) Q
abbrev DO (X : Cx) (T : TbT) (W : WX) (e : Option Expr) (f : OS) : Prop := PO X e (tO X T W f)
theorem PO_imp {X : Cx} {e : Option Expr} {t t' : TO} (h : PO X e t) (i : ∀ σ H Q, t' σ H Q → t σ H Q) : PO X e t' := ⟨fun pins s σ H Q I q => h.run pins s σ H Q I (i σ H Q q)⟩
theorem do_none : DO X T W none oNone := PO_imp po_none fun σ H Q ⟨ρ, env, G, sr, p⟩ => p ρ H Ext.refl sr.rg
theorem do_some {e : Expr} (h : DE X T W e f) : DO X T W (some e) (oSome f) := PO_imp (po_some h) fun σ H Q ⟨ρ, env, G, sr, p⟩ => by
  refine ⟨ρ, env, G, sr, ?_⟩
  unfold oSome at p
  cases e2 : f env G with
  | ok x G1 =>
    rw [e2] at p
    intro v ρ1 H1 e1 rg1 r1
    split at p
    · rename_i i _ h
      injection h with h1 h2
      subst h1; subst h2
      exact ⟨_, r1, p ρ1 H1 e1 rg1⟩
    · exact p.elim
    · rename_i h; cases h
    · rename_i h; cases h
  | ex c w G1 => rw [e2] at p; exact p
  | bad => rw [e2] at p; exact p
def cutL {α : Type} (xs : List α) (lo hi : Option Int) : List α := (xs.drop (HT.sIx xs.length 0 lo)).take (HT.sIx xs.length xs.length hi - HT.sIx xs.length 0 lo)
def gSl (x : D) (lo hi : Option Int) (G : Hh) : Option (D × Hh) := match x with
  | .dat (.tuple ds) => some (.dat (.tuple (cutL ds lo hi)), G)
  | .ref l => (match G[l]? with
    | some (.lst xs) => some (.ref G.length, G ++ [.lst (cutL xs lo hi)])
    | none => none)
  | .fro xs => some (.ref G.length, G ++ [.lst ((cutL xs lo hi).map .dat)])
  | .dat (.str z) => if z.length ≤ 100000 then some (.dat (.str (cutS z lo hi)), G) else none
  | _ => none
def eSl (f : ES) (o o' : OS) : ES := eThen f fun x env G => match o env G with
  | .ok lo G1 => (match o' env G1 with
    | .ok hi G2 => RE.of (gSl x lo hi G2)
    | .ex c w G2 => .ex c w G2
    | .bad => .bad)
  | .ex c w G1 => .ex c w G1
  | .bad => .bad
def rSl (X : Cx) (T : TbT) : V → Option Int → Option Int → Hp → VK → Prop := fun v lo hi H Q => ∃ ρ G x, RG X.K T ρ G H ∧ Rep X.K H ρ x v ∧ PostO X T ρ H (gSl x lo hi G) Q
theorem cut_all {α : Type} {xs : List α} {lo hi : Option Int} (h : HT.sIx xs.length 0 lo = 0 ∧ HT.sIx xs.length xs.length hi = xs.length) : cutL xs lo hi = xs := by
  unfold cutL
  rw [h.1, h.2]; simp
theorem sl_gSl : SlR X (rSl X T) := fun pins s σ H v vv vl vu lo hi sl Q I rv hs pl pu ⟨ρ, G, x, rg, rx, p⟩ => by
  unfold gSl at p
  split at p
  · rename_i ds
    obtain ⟨a, vs, rfl, sq, rs⟩ := id rx
    refine sl_tupA pins s σ H _ vv vl vu lo hi sl Q I rv hs pl pu ⟨a, vs, rfl, sq, fun h => ?_, fun h q hq => ?_⟩
    · rw [rs.length] at h
      rw [cut_all h] at p
      exact post_val rg rx p
    · refine tup_new rg hq ?_ p
      unfold cutV cutL
      rw [rs.length]
      exact (rs.drop _).take _
  · rename_i l
    split at p
    · rename_i xs hx
      obtain ⟨a, vs, rfl, _, sq, rs⟩ := ref_lst rg rx hx
      refine sl_list pins s σ H _ vv vl vu lo hi sl Q I rv hs pl pu ⟨a, vs, rfl, SqL.of sq, fun q hq => new_lst rg hq ?_ p⟩
      unfold cutV cutL
      rw [rs.length]
      exact (rs.drop _).take _
    · exact p.elim
  · rename_i xs
    obtain ⟨a, vs, rfl, sq, rs⟩ := rx
    refine sl_list pins s σ H _ vv vl vu lo hi sl Q I rv hs pl pu ⟨a, vs, rfl, sq.sq, fun q hq => new_lst rg hq ?_ p⟩
    unfold cutV cutL
    rw [rs.length]
    exact ((rs.drop _).take _).reps
  · rename_i z
    split at p
    · rename_i hl
      exact sl_str pins s σ H _ vv vl vu lo hi sl Q I rv hs pl pu ⟨z, rx, line_of hl, post_val (d := .dat (.str (cutS z lo hi))) rg rfl p⟩
    · exact p.elim
  · exact p.elim
theorem de_slice {o o' : OS} {lo hi : Option Expr} {p2 : Pos} (he : DE X T W a f) (hl : DO X T W lo o) (hu : DO X T W hi o') : DE X T W (.Subscript a (.Slice lo hi none p2) pos) (eSl f o o') :=
  PE_imp (pe_slice sl_gSl he hl hu) fun σ H Q ⟨ρ, env, G, sr, p⟩ => by
    refine ⟨ρ, env, G, sr, ?_⟩
    unfold eSl eThen at p
    cases e : f env G with
    | ok x G1 =>
      rw [e] at p
      intro v ρ1 H1 e1 rg1 r1
      refine ⟨ρ1, env, G1, ⟨rg1, e1.envr sr.rg sr.ev⟩, ?_⟩
      dsimp only at p
      cases e2 : o env G1 with
      | ok l G2 =>
        rw [e2] at p
        intro ρ2 H2 e2' rg2
        refine ⟨ρ2, env, G2, ⟨rg2, (e1.trans e2').envr sr.rg sr.ev⟩, ?_⟩
        dsimp only at p
        cases e3 : o' env G2 with
        | ok h G3 =>
          rw [e3] at p
          intro ρ3 H3 e3' rg3
          refine ⟨ρ3, G3, x, rg3, e3'.rep rg2 (e2'.rep rg1 r1), ?_⟩
          dsimp only at p
          cases e4 : gSl x l h G3 with
          | none => rw [e4] at p; exact p
          | some z =>
            obtain ⟨d, G4⟩ := z
            rw [e4] at p
            exact fun w ρ4 H4 e5 => p w ρ4 H4 (((e1.trans e2').trans e3').trans e5)
        | ex c w G3 => rw [e3] at p; exact PostX.ext (e1.trans e2') p
        | bad => rw [e3] at p; exact p
      | ex c w G2 => rw [e2] at p; exact PostX.ext e1 p
      | bad => rw [e2] at p; exact p
    | ex c w G1 => rw [e] at p; exact p
    | bad => rw [e] at p; exact p
end
end DL

set_option Elab.async false
set_option linter.all false
set_option maxRecDepth 100000
set_option maxHeartbeats 1000000
namespace DL
open PySem PySem.Spec PyProof.Rows L2

/-! ### built-in functions -/
def ints? : List D → Option (List Int)
  | [] => some []
  | .dat (.int i) :: r => (ints? r).map (i :: ·)
  | _ :: _ => none
def lenD (x : D) (G : Hh) : Option Int := match x with
  | .dat (.str y) => if y.length ≤ 100000 then some y.length else none
  | .dat (.tuple ds) => some ds.length
  | .ref l => (match G[l]? with
    | some (.lst xs) => some xs.length
    | none => none)
  | .fro xs => some xs.length
  | .mix xs => some xs.length
  | _ => none
def gLen (ds : List D) (G : Hh) : Option (D × Hh) := match ds with
  | [x] => (lenD x G).map fun n => (.dat (.int n), G)
  | _ => none
def gInt (ds : List D) (G : Hh) : Option (D × Hh) := match ds with
  | [.dat (.int i)] => some (.dat (.int i), G)
  | [.dat (.bool b)] => some (.dat (.int (if b then 1 else 0)), G)
  | _ => none
def gMax2 (ds : List D) (G : Hh) : Option (D × Hh) := match ds with
  | [.dat (.int i), .dat (.int j)] => some (.dat (.int (if j > i then j else i)), G)
  | _ => none
def gMin2 (ds : List D) (G : Hh) : Option (D × Hh) := match ds with
  | [.dat (.int i), .dat (.int j)] => some (.dat (.int (if j < i then j else i)), G)
  | _ => none
def gList (ds : List D) (G : Hh) : Option (D × Hh) := match ds with
  | [.dat (.tuple xs)] => some (.ref G.length, G ++ [.lst (xs.map .dat)])
  | [.ref l] => (match G[l]? with
    | some (.lst xs) => some (.ref G.length, G ++ [.lst xs])
    | none => none)
  | [.fro xs] => some (.ref G.length, G ++ [.lst (xs.map .dat)])
  | [.mix xs] => some (.ref G.length, G ++ [.lst xs])
  | _ => none
def gTuple (ds : List D) (G : Hh) : Option (D × Hh) := match ds with
  | [.dat (.tuple xs)] => some (.dat (.tuple xs), G)
  | [.ref l] => (match G[l]? with
    | some (.lst xs) => some (mkTup xs, G)
    | none => none)
  | [.fro xs] => some (.dat (.tuple xs), G)
  | _ => none
def gSum (ds : List D) (G : Hh) : Option (D × Hh) := match ds with
  | [.ref l] => (match G[l]? with
    | some (.lst xs) => (match ints? xs with
      | some ns => some (.dat (.int ns.sum), G)
      | none => none)
    | none => none)
  | _ => none
/-- isinstance(x, T), T a built-in type -/
def isaD (n : String) (d : PyData) : Option Bool :=
  if n = "int" then some d.isInt else if n = "bool" then some d.isBool else if n = "str" then some d.isStr else if n = "tuple" then some d.isTuple else if n = "list" then some d.isList else none
def gIsa (ds : List D) (G : Hh) : Option (D × Hh) := match ds with
  | [x, .ty n] => (match view G x with
    | some d => (isaD n d).map fun b => (.dat (.bool b), G)
    | none => none)
  | _ => none
def reprOk (d : PyData) : Bool := d.showable && (d.leavesShort 2000 && (decide (d.weight ≤ 5000) && decide (d.depth ≤ 60)))
def gRepr (ds : List D) (G : Hh) : Option (D × Hh) := match ds with
  | [x] => (match view G x with
    | some d => if reprOk d then some (.dat (.str d.shown), G) else none
    | none => none)
  | _ => none
section
variable {X : Cx} {T : TbT} {W : WX} {σ : L2.St} {ρ : List Addr} {H : Hp} {G : Hh}
theorem reps_one {d : D} {vs : List V} (h : Reps X.K H ρ [d] vs) : ∃ v, vs = [v] ∧ Rep X.K H ρ d v := by
  obtain ⟨v, r, rfl, h1, h2⟩ := h
  have h2 : r = [] := h2
  subst h2
  exact ⟨v, rfl, h1⟩
theorem reps_two {d e : D} {vs : List V} (h : Reps X.K H ρ [d, e] vs) : ∃ v u, vs = [v, u] ∧ Rep X.K H ρ d v ∧ Rep X.K H ρ e u := by
  obtain ⟨v, r, rfl, h1, h2⟩ := h
  obtain ⟨u, rfl, h3⟩ := reps_one h2
  exact ⟨v, u, rfl, h1, h3⟩
theorem reps_ints : ∀ {xs : List D} {ns : List Int} {vs : List V}, ints? xs = some ns → Reps X.K H ρ xs vs → vs = ns.map V.int
  | [], ns, vs, e, h => by
    simp only [ints?, Option.some.injEq] at e
    subst e
    exact h
  | .dat (.int i) :: r, ns, vs, e, h => by
    obtain ⟨v, t, rfl, h1, h2⟩ := h
    simp only [ints?, Option.map_eq_some_iff] at e
    obtain ⟨ns', e1, rfl⟩ := e
    have h1 : v = .int i := h1
    rw [h1, List.map_cons, reps_ints e1 h2]
  | .dat .none :: r, ns, vs, e, h => by simp [ints?] at e
  | .dat (.bool _) :: r, ns, vs, e, h => by simp [ints?] at e
  | .dat (.str _) :: r, ns, vs, e, h => by simp [ints?] at e
  | .dat (.list _) :: r, ns, vs, e, h => by simp [ints?] at e
  | .dat (.tuple _) :: r, ns, vs, e, h => by simp [ints?] at e
  | .dat (.dict _) :: r, ns, vs, e, h => by simp [ints?] at e
  | .ref _ :: r, ns, vs, e, h => by simp [ints?] at e
  | .obj _ :: r, ns, vs, e, h => by simp [ints?] at e
  | .mix _ :: r, ns, vs, e, h => by simp [ints?] at e
  | .fro _ :: r, ns, vs, e, h => by simp [ints?] at e
  | .ty _ :: r, ns, vs, e, h => by simp [ints?] at e
theorem call_gLen : CallR X (.builtin "len") (rA X T gLen) := fun pins s σ H vs us Q I r ⟨ρ, G, ds, rg, rs, p⟩ => by
  unfold gLen at p
  split at p
  · rename_i x
    obtain ⟨v, rfl, rv⟩ := reps_one rs
    unfold lenD at p
    split at p
    · split at p
      · rename_i y hl
        have e : v = .str y := rv
        subst e
        exact call_len pins s σ H _ us Q I r ⟨.str y, y.length, rfl, ⟨line_of hl, rfl⟩, post_int rg p⟩
      · exact p.elim
    · rename_i es
      obtain ⟨a, ws, rfl, sq, rr⟩ := rv
      exact call_len pins s σ H _ us Q I r ⟨.ref a, ws.length, rfl, .inr ⟨ws, sq, rfl⟩, by rw [rr.length]; exact post_int rg p⟩
    · rename_i l
      split at p
      · rename_i xs hx
        obtain ⟨a, ws, rfl, _, sq, rr⟩ := ref_lst rg rv hx
        exact call_len pins s σ H _ us Q I r ⟨.ref a, ws.length, rfl, .inl ⟨ws, SqL.of sq, rfl⟩, by rw [rr.length]; exact post_int rg p⟩
      · exact p.elim
    · rename_i xs
      obtain ⟨a, ws, rfl, sq, rr⟩ := rv
      exact call_len pins s σ H _ us Q I r ⟨.ref a, ws.length, rfl, .inl ⟨ws, sq.sq, rfl⟩, by rw [rr.length]; exact post_int rg p⟩
    · rename_i xs
      obtain ⟨a, ws, rfl, sq, rr⟩ := rv
      exact call_len pins s σ H _ us Q I r ⟨.ref a, ws.length, rfl, .inr ⟨ws, sq, rfl⟩, by rw [rr.length]; exact post_int rg p⟩
    · exact p.elim
  · exact p.elim
theorem call_gInt : CallR X (.type "int") (rA X T gInt) := fun pins s σ H vs us Q I r ⟨ρ, G, ds, rg, rs, p⟩ => by
  unfold gInt at p
  split at p
  · rename_i i
    obtain ⟨v, rfl, rv⟩ := reps_one rs
    have e : v = .int i := rv
    subst e
    exact call_int1 pins s σ H _ us Q I r (.inl ⟨i, rfl, post_int rg p⟩)
  · rename_i b
    obtain ⟨v, rfl, rv⟩ := reps_one rs
    have e : v = .bl b := rv
    subst e
    exact call_int1 pins s σ H _ us Q I r (.inr ⟨b, rfl, post_int rg p⟩)
  · exact p.elim
theorem call_gMax2 (hc : X.calm = true) : CallR X (.builtin "max") (rA X T gMax2) := fun pins s σ H vs us Q I r ⟨ρ, G, ds, rg, rs, p⟩ => by
  unfold gMax2 at p
  split at p
  · rename_i i j
    obtain ⟨v, u, rfl, rv, ru⟩ := reps_two rs
    have e : v = .int i := rv
    have e2 : u = .int j := ru
    subst e; subst e2
    exact call_max2 hc pins s σ H _ us Q I r ⟨i, j, rfl, post_int rg p⟩
  · exact p.elim
theorem call_gMin2 (hc : X.calm = true) : CallR X (.builtin "min") (rA X T gMin2) := fun pins s σ H vs us Q I r ⟨ρ, G, ds, rg, rs, p⟩ => by
  unfold gMin2 at p
  split at p
  · rename_i i j
    obtain ⟨v, u, rfl, rv, ru⟩ := reps_two rs
    have e : v = .int i := rv
    have e2 : u = .int j := ru
    subst e; subst e2
    exact call_min2 hc pins s σ H _ us Q I r ⟨i, j, rfl, post_int rg p⟩
  · exact p.elim
theorem call_gList : CallR X (.type "list") (rA X T gList) := fun pins s σ H vs us Q I r ⟨ρ, G, ds, rg, rs, p⟩ => by
  unfold gList at p
  split at p
  · rename_i xs
    obtain ⟨v, rfl, a, ws, rfl, sq, rr⟩ := reps_one rs
    exact call_list_of pins s σ H _ us Q I r ⟨a, ws, rfl, .inr sq, fun l hl => new_lst rg hl rr.reps p⟩
  · rename_i l
    split at p
    · rename_i xs hx
      obtain ⟨v, rfl, rv⟩ := reps_one rs
      obtain ⟨a, ws, rfl, _, sq, rr⟩ := ref_lst rg rv hx
      exact call_list_of pins s σ H _ us Q I r ⟨a, ws, rfl, .inl (SqL.of sq), fun l hl => new_lst rg hl rr p⟩
    · exact p.elim
  · rename_i xs
    obtain ⟨v, rfl, a, ws, rfl, sq, rr⟩ := reps_one rs
    exact call_list_of pins s σ H _ us Q I r ⟨a, ws, rfl, .inl sq.sq, fun l hl => new_lst rg hl rr.reps p⟩
  · rename_i xs
    obtain ⟨v, rfl, a, ws, rfl, sq, rr⟩ := reps_one rs
    exact call_list_of pins s σ H _ us Q I r ⟨a, ws, rfl, .inr sq, fun l hl => new_lst rg hl rr p⟩
  · exact p.elim
theorem call_gTuple : CallR X (.type "tuple") (rA X T gTuple) := fun pins s σ H vs us Q I r ⟨ρ, G, ds, rg, rs, p⟩ => by
  unfold gTuple at p
  split at p
  · rename_i xs
    obtain ⟨v, rfl, rv⟩ := reps_one rs
    obtain ⟨a, ws, rfl, sq, rr⟩ := id rv
    exact call_tuple_of pins s σ H _ us Q I r ⟨a, ws, rfl, .inr ⟨sq, post_val rg rv p⟩⟩
  · rename_i l
    split at p
    · rename_i xs hx
      obtain ⟨v, rfl, rv⟩ := reps_one rs
      obtain ⟨a, ws, rfl, _, sq, rr⟩ := ref_lst rg rv hx
      exact call_tuple_of pins s σ H _ us Q I r ⟨a, ws, rfl, .inl ⟨SqL.of sq, fun l hl => new_tup rg hl rr p⟩⟩
    · exact p.elim
  · rename_i xs
    obtain ⟨v, rfl, a, ws, rfl, sq, rr⟩ := reps_one rs
    exact call_tuple_of pins s σ H _ us Q I r ⟨a, ws, rfl, .inl ⟨sq.sq, fun l hl => tup_new rg hl rr p⟩⟩
  · exact p.elim
theorem call_gSum (hc : X.calm = true) : CallR X (.builtin "sum") (rA X T gSum) := fun pins s σ H vs us Q I r ⟨ρ, G, ds, rg, rs, p⟩ => by
  unfold gSum at p
  split at p
  · rename_i l
    split at p
    · rename_i xs hx
      split at p
      · rename_i ns hn
        obtain ⟨v, rfl, rv⟩ := reps_one rs
        obtain ⟨a, ws, rfl, _, sq, rr⟩ := ref_lst rg rv hx
        rw [reps_ints hn rr] at sq
        exact cr_sum hc pins s σ H _ us Q I r ⟨a, ns, rfl, SqL.of sq, post_int rg p⟩
      · exact p.elim
    · exact p.elim
  · exact p.elim
theorem call_gIsa : CallR X (.builtin "isinstance") (rA X T gIsa) := fun pins s σ H vs us Q I r ⟨ρ, G, ds, rg, rs, p⟩ => by
  unfold gIsa at p
  split at p
  · rename_i x n
    split at p
    · rename_i d hd
      obtain ⟨v, u, rfl, rv, ru⟩ := reps_two rs
      have e2 : u = .ty n := ru
      subst e2
      obtain ⟨v', u', rfl, rv', ru'⟩ := vals2 r
      cases ru'
      obtain ⟨as, rd, _⟩ := view_reads I rg rv rv' hd
      have fin : ∀ {b : Bool}, isaD n d = some b → ∀ tk, s.toks ≤ tk → EP X pins σ Q (.bool b) { s with toks := tk } := fun {b} hb tk _ => by
        rw [hb] at p
        exact ⟨.bl b, H, I.tok tk, rfl, post_bl rg p⟩
      unfold isaD at fin p
      by_cases h1 : n = "int"
      · subst h1; exact PySem.W.isinstance_int_data rd (fin (by simp))
      · by_cases h2 : n = "bool"
        · subst h2; exact PySem.W.isinstance_bool_data rd (fin (by simp))
        · by_cases h3 : n = "str"
          · subst h3; exact PySem.W.isinstance_str_data rd (fin (by simp))
          · by_cases h4 : n = "tuple"
            · subst h4; exact PySem.W.isinstance_tuple_data rd (fin (by simp))
            · by_cases h5 : n = "list"
              · subst h5; exact PySem.W.isinstance_list_data rd (fin (by simp))
              · simp [h1, h2, h3, h4, h5] at p
                exact p.elim
    · exact p.elim
  · exact p.elim
mutual
theorem noDict_plain : ∀ d : PyData, d.plain = true → d.hasDict = false
  | .none, _ => rfl
  | .bool _, _ => rfl
  | .int _, _ => rfl
  | .str _, _ => rfl
  | .list xs, h => by simp only [PyData.hasDict]; exact noDict_plainAll xs (by simpa [PyData.plain] using h)
  | .tuple xs, h => by simp only [PyData.hasDict]; exact noDict_plainAll xs (by simpa [PyData.plain] using h)
  | .dict _, h => by simp [PyData.plain] at h
theorem noDict_plainAll : ∀ xs : List PyData, PyData.plainAll xs = true → PyData.hasDictAll xs = false
  | [], _ => rfl
  | x :: xs, h => by
    simp only [PyData.plainAll, Bool.and_eq_true] at h
    simp only [PyData.hasDictAll, noDict_plain x h.1, noDict_plainAll xs h.2]; rfl
end
theorem call_gRepr (hg : X.A.guards = some []) (hu : X.A.units + 100 < cLine) : CallR X (.builtin "repr") (rA X T gRepr) := fun pins s σ H vs us Q I r ⟨ρ, G, ds, rg, rs, p⟩ => by
  unfold gRepr at p
  split at p
  · rename_i x
    split at p
    · rename_i d hd
      split at p
      · rename_i hk
        unfold reprOk at hk
        simp only [Bool.and_eq_true, decide_eq_true_eq] at hk
        obtain ⟨k1, k2, k3, k4⟩ := hk
        have hsz : d.shown.length ≤ sizeLine := by
          have := PyData.shown_le 2000 (by decide) d k2
          rw [sizeLine_eq]
          have : (2000 + 2) * d.weight ≤ 2002 * 5000 := Nat.mul_le_mul_left _ k3
          omega
        obtain ⟨v, rfl, rv⟩ := reps_one rs
        obtain ⟨v', rfl, rv'⟩ := vals1 r
        obtain ⟨as, rd, pl⟩ := view_reads I rg rv rv' hd
        have fin : ∀ (h' : Heap) (u : Tok) (tk : Nat), (∀ b o, s.heap.get? b = some o → h'.get? b = some o) → EP X pins σ Q (.str d.shown u) { s with heap := h', toks := tk } := fun h' u tk hk => ⟨.str d.shown, H, I.kept hk, ⟨u, rfl⟩, p _ ρ H Ext.refl rg rfl⟩
        have fin0 : EP X pins σ Q (.str d.shown s.toks) { s with toks := s.toks + 1 } := fin s.heap _ _ fun _ _ e => e
        have hnd := PyData.noDict_hsm (as := as) (noDict_plain d pl)
        cases rd with
        | none => exact PySem.P.repr_of_none (by have q := fin0; simp only [PyData.shown] at q; exact q)
        | bool b => exact PySem.P.repr_of_bool (by have q := fin0; simp only [PyData.shown] at q; exact q)
        | int i t =>
          refine PySem.P.repr_of_int ?_ (by have q := fin0; simp only [PyData.shown] at q; exact q)
          simpa [PyData.showable] using k1
        | str x t => exact PySem.P.repr_of_str (by have q := fin0; simp only [PyData.shown] at q; exact q) (by simpa only [PyData.shown] using hsz)
        | list h1 h2 h3 h4 => exact PySem.repr_of_reads' (.list h1 h2 h3 h4) k1 hnd hg (by omega) (fun _ _ e => e) fin hsz
        | tuple h1 h2 h3 h4 => exact PySem.repr_of_reads' (.tuple h1 h2 h3 h4) k1 hnd hg (by omega) (fun _ _ e => e) fin hsz
        | dict => simp [PyData.plain] at pl
      · exact p.elim
    · exact p.elim
  · exact p.elim

/-! ### methods of lists -/
theorem RG.write (rg : RG X.K T ρ G H) {l : Nat} {a : Addr} {xs ys : List D} {vs ws : List V} (hl : ρ[l]? = some a) (hG : G[l]? = some (.lst xs)) (hH : H a = some (.lst vs)) (r : Reps X.K H ρ ys ws) :
    RG X.K T ρ (G.set l (.lst ys)) (upd H a (.lst ws)) ∧ Ext ρ H ρ (upd H a (.lst ws)) := by
  have am : a ∈ ρ := List.mem_of_getElem? hl
  have e : Ext ρ H ρ (upd H a (.lst ws)) := ⟨⟨[], by simp, by simp⟩, fun b o h nb _ => by rw [upd_ne (fun z : b = a => nb (by rw [z]; exact am))]; exact h, fun b ps h => ⟨#[], by
    rw [upd_ne (fun z => by rw [z, hH] at h; cases h)]; simpa using h⟩, fun b h => by
    by_cases hb : b = a
    · rw [hb, upd_same] at h; cases h
    · rw [upd_ne hb] at h; exact h⟩
  refine ⟨⟨rg.nd, by simpa using rg.len, fun m b mo h1 h2 => ?_, fun q hq => ?_⟩, e⟩
  · by_cases hm : l = m
    · subst hm
      rw [hl] at h1; cases h1
      rw [List.getElem?_set_self (List.getElem?_eq_some_iff.mp hG).1] at h2
      cases h2
      exact ⟨ws, upd_same, e.reps rg r⟩
    · rw [List.getElem?_set_ne hm] at h2
      have g := rg.ok m b mo h1 h2
      have nb : b ≠ a := fun z => by
        subst z
        obtain ⟨p1, q1⟩ := List.getElem?_eq_some_iff.mp hl
        obtain ⟨p2, q2⟩ := List.getElem?_eq_some_iff.mp h1
        exact hm ((List.getElem_inj rg.nd).mp (q1.trans q2.symm))
      cases mo with
      | lst es =>
        obtain ⟨us, hu, ru⟩ := g
        exact ⟨us, by rw [upd_ne nb]; exact hu, e.reps rg ru⟩
  · exact (rg.tab q hq).stay fun b o h nl => by rw [upd_ne (fun z => nl _ (by rw [z, hH] at h; exact (Option.some.inj h).symm))]; exact h
def isLst (x : D) (G : Hh) : Bool := match x with
  | .ref l => (match G[l]? with
    | some (.lst _) => true
    | none => false)
  | .fro _ => true
  | _ => false
def eMet (ok : D → Hh → Bool) (g : D → List D → Hh → Option (D × Hh)) (f : ES) (fs : AS) : ES := eThen f fun x env G => if ok x G then (match fs env G with
    | .ok ds G1 => RE.of (g x ds G1)
    | .ex c w G1 => .ex c w G1
    | .bad => .bad) else .bad
def rMet (X : Cx) (T : TbT) (g : D → List D → Hh → Option (D × Hh)) : V → List V → Hp → VK → Prop := fun v vs H Q => ∃ ρ G x ds, RG X.K T ρ G H ∧ Rep X.K H ρ x v ∧ Reps X.K H ρ ds vs ∧ PostO X T ρ H (g x ds G) Q
variable {o e : Expr} {es : List Expr} {f : ES} {fs : AS} {name : Str} {apos cpos : Pos} {id TT : String} {g : D → List D → Hh → Option (D × Hh)} {okT : D → Hh → Bool}
theorem tE_met {H : Hp} {Q : VK} (hT : ∀ {ρ G H x v}, RG X.K T ρ G H → Rep X.K H ρ x v → okT x G = true → tyV X.K TT v H) (q : tE X T W (eMet okT g f fs) σ H Q) : tBM X.K TT (rMet X T g) (tE X T W f) (tA X T W fs) σ H Q := by
  obtain ⟨ρ, env, G, sr, p⟩ := q
  refine ⟨ρ, env, G, sr, ?_⟩
  unfold eMet eThen at p
  cases e : f env G with
  | ok x G1 =>
    rw [e] at p
    intro v ρ1 H1 e1 rg1 r1
    dsimp only at p
    cases ho : okT x G1 with
    | false => rw [ho] at p; exact p.elim
    | true =>
      rw [ho, if_pos rfl] at p
      refine ⟨hT rg1 r1 ho, ρ1, env, G1, ⟨rg1, e1.envr sr.rg sr.ev⟩, ?_⟩
      cases e2 : fs env G1 with
      | ok ds G2 =>
        rw [e2] at p
        intro vs ρ2 H2 e2' rg2 r2
        refine ⟨ρ2, G2, x, ds, rg2, e2'.rep rg1 r1, r2, ?_⟩
        dsimp only at p
        cases e3 : g x ds G2 with
        | none => rw [e3] at p; exact p
        | some z =>
          obtain ⟨d, G3⟩ := z
          rw [e3] at p
          exact fun w ρ3 H3 e4 => p w ρ3 H3 ((e1.trans e2').trans e4)
      | ex c w G2 => rw [e2] at p; exact PostX.ext e1 p
      | bad => rw [e2] at p; exact p
  | ex c w G1 => rw [e] at p; exact p
  | bad => rw [e] at p; exact p
theorem lst_ty {x : D} {v : V} (rg : RG X.K T ρ G H) (r : Rep X.K H ρ x v) (h : isLst x G = true) : tyV X.K "list" v H := by
  unfold isLst at h
  split at h
  · split at h
    · rename_i xs hx
      obtain ⟨a, vs, rfl, _, sq, _⟩ := ref_lst rg r hx
      exact .inl ⟨rfl, vs, SqL.of sq⟩
    · cases h
  · obtain ⟨a, vs, rfl, sq, _⟩ := r
    exact .inl ⟨rfl, vs, sq.sq⟩
  · cases h
theorem de_met (hT : ∀ {ρ G H x v}, RG X.K T ρ G H → Rep X.K H ρ x v → okT x G = true → tyV X.K TT v H) (pa : PlainAttrs TT) (slot : Slot TT name id) (hty : typeOf (.builtin id) = pure (.type "method_descriptor")) (hm : MtR X id (rMet X T g)) (ho : DE X T W o f) (ha : DA X T W (e :: es) fs)
    (hbase : attributeBase o name X.env (eval o X.env) = eval o X.env := by rfl)
    (hfew : ((backTo cpos (starEach (e :: es) X.env)).all (fun x => !x.1) && (backToKw cpos (keywordEach [] X.env)).all (fun x => x.1.isSome)
      && decide ((e :: es).length + ([] : List Keyword).length + (if ([] : List Keyword).isEmpty then 0 else 1) < 30)) = true := by rfl)
    (hline : (apos.endLine == cpos.line) = true := by rfl) (hs : starEach (e :: es) X.env = (false, eval e X.env) :: starEach es X.env := by rfl) (hplain : (backTo cpos (starEach es X.env)).any (·.1) = false := by rfl) :
    DE X T W (.Call (.Attribute o name apos) (e :: es) [] cpos) (eMet okT g f fs) :=
  PE_imp (pe_bm pa slot hty hm ho ha hbase hfew hline hs hplain) fun _ _ _ q => tE_met hT q
def eMet0 (ok : D → Hh → Bool) (g : D → List D → Hh → Option (D × Hh)) (f : ES) : ES := eThen f fun x env G => if ok x G then RE.of (g x [] G) else .bad
theorem de_met0 (hT : ∀ {ρ G H x v}, RG X.K T ρ G H → Rep X.K H ρ x v → okT x G = true → tyV X.K TT v H) (pa : PlainAttrs TT) (slot : Slot TT name id) (hty : typeOf (.builtin id) = pure (.type "method_descriptor")) (hm : MtR X id (rMet X T g)) (ho : DE X T W o f)
    (hbase : attributeBase o name X.env (eval o X.env) = eval o X.env := by rfl) (hline : (apos.endLine == cpos.line) = true := by rfl) :
    DE X T W (.Call (.Attribute o name apos) [] [] cpos) (eMet0 okT g f) :=
  PE_imp (pe_bm0 pa slot hty hm ho hbase hline) fun σ H Q ⟨ρ, env, G, sr, p⟩ => by
    refine ⟨ρ, env, G, sr, ?_⟩
    unfold eMet0 eThen at p
    cases e : f env G with
    | ok x G1 =>
      rw [e] at p
      intro v ρ1 H1 e1 rg1 r1
      dsimp only at p
      cases ho : okT x G1 with
      | false => rw [ho] at p; exact p.elim
      | true =>
        rw [ho, if_pos rfl] at p
        refine ⟨hT rg1 r1 ho, ρ1, G1, x, [], rg1, r1, rfl, ?_⟩
        cases e3 : g x [] G1 with
        | none => rw [e3] at p; exact p
        | some z =>
          obtain ⟨d, G3⟩ := z
          rw [e3] at p
          exact fun w ρ3 H3 e4 => p w ρ3 H3 (e1.trans e4)
    | ex c w G1 => rw [e] at p; exact p
    | bad => rw [e] at p; exact p

def gAppend (x : D) (ds : List D) (G : Hh) : Option (D × Hh) := match x, ds with
  | .ref l, [d] => (match G[l]? with
    | some (.lst xs) => if xs.length < 100000 then some (.dat .none, G.set l (.lst (xs ++ [d]))) else none
    | none => none)
  | _, _ => none
theorem post_write {d : D} {v : V} {Q : VK} {l : Nat} {a : Addr} {xs ys : List D} {vs ws : List V} (rg : RG X.K T ρ G H) (hl : ρ[l]? = some a) (hG : G[l]? = some (.lst xs)) (hH : H a = some (.lst vs)) (r : Reps X.K H ρ ys ws)
    (rv : Rep X.K H ρ d v) (p : PostO X T ρ H (some (d, G.set l (.lst ys))) Q) : Q v (upd H a (.lst ws)) := by
  obtain ⟨g, e⟩ := rg.write hl hG hH r
  exact p v ρ _ e g (e.rep rg rv)
theorem mt_gAppend : MtR X "list.append" (rMet X T gAppend) := fun pins s σ H v vs vv us Q I rv rs ⟨ρ, G, x, ds, rg, rx, rr, p⟩ => by
  unfold gAppend at p
  split at p
  · rename_i l d
    split at p
    · rename_i xs hx
      split at p
      · rename_i hl
        obtain ⟨a, ws, rfl, ha, sq, rw'⟩ := ref_lst rg rx hx
        obtain ⟨u, rfl, ru⟩ := reps_one rr
        refine mt_append pins s σ H _ _ vv us Q I rv rs ⟨a, ws, u, rfl, rfl, sq, by rw [rw'.length]; exact Nat.lt_of_lt_of_le hl (by decide), ?_⟩
        exact post_write (d := .dat .none) rg ha hx sq (rw'.append (show Reps X.K H ρ [d] [u] from ⟨u, [], rfl, ru, rfl⟩)) rfl p
      · exact p.elim
    · exact p.elim
  · exact p.elim
def gExtend (x : D) (ds : List D) (G : Hh) : Option (D × Hh) := match x, ds with
  | .ref l, [.ref m] => (match G[l]?, G[m]? with
    | some (.lst xs), some (.lst ys) => if xs.length + ys.length ≤ 100000 then some (.dat .none, G.set l (.lst (xs ++ ys))) else none
    | _, _ => none)
  | _, _ => none
theorem mt_gExtend : MtR X "list.extend" (rMet X T gExtend) := fun pins s σ H v vs vv us Q I rv rs ⟨ρ, G, x, ds, rg, rx, rr, p⟩ => by
  unfold gExtend at p
  split at p
  · rename_i l m
    split at p
    · rename_i xs ys hx hy
      split at p
      · rename_i hl
        obtain ⟨a, ws, rfl, ha, sq, rw'⟩ := ref_lst rg rx hx
        obtain ⟨u, rfl, ru⟩ := reps_one rr
        obtain ⟨b, zs, rfl, hb, sq2, rz⟩ := ref_lst rg ru hy
        refine mt_extend pins s σ H _ _ vv us Q I rv rs ⟨a, b, ws, zs, rfl, rfl, sq, sq2, line_of (by rw [rw'.length, rz.length]; exact hl), ?_⟩
        exact post_write (d := .dat .none) rg ha hx sq (rw'.append rz) rfl p
      · exact p.elim
    · exact p.elim
  · exact p.elim
def gPop (x : D) (ds : List D) (G : Hh) : Option (D × Hh) := match x, ds with
  | .ref l, [] => (match G[l]? with
    | some (.lst xs) => (match xs[xs.length - 1]? with
      | some d => some (d, G.set l (.lst xs.dropLast))
      | none => none)
    | none => none)
  | .ref l, [.dat (.int i)] => (match G[l]? with
    | some (.lst xs) => (match ixN xs.length i with
      | some k => (match xs[k]? with
        | some d => some (d, G.set l (.lst (xs.eraseIdx k)))
        | none => none)
      | none => none)
    | none => none)
  | _, _ => none
theorem mt_gPop : MtR X "list.pop" (rMet X T gPop) := fun pins s σ H v vs vv us Q I rv rs ⟨ρ, G, x, ds, rg, rx, rr, p⟩ => by
  unfold gPop at p
  split at p
  · rename_i l
    split at p
    · rename_i xs hx
      split at p
      · rename_i d hd
        obtain ⟨a, ws, rfl, ha, sq, rw'⟩ := ref_lst rg rx hx
        have e : vs = [] := rr
        subst e
        obtain ⟨u, hu, ru⟩ := rw'.get hd
        refine mt_pop pins s σ H _ _ vv us Q I rv rs ⟨a, ws, u, rfl, rfl, sq, by rw [rw'.length]; exact hu, ?_⟩
        exact post_write rg ha hx sq rw'.dropLast ru p
      · exact p.elim
    · exact p.elim
  · rename_i l i
    split at p
    · rename_i xs hx
      split at p
      · rename_i k hk
        split at p
        · rename_i d hd
          obtain ⟨a, ws, rfl, ha, sq, rw'⟩ := ref_lst rg rx hx
          obtain ⟨w, rfl, hw⟩ := reps_one rr
          have e : w = .int i := hw
          subst e
          obtain ⟨u, hu, ru⟩ := rw'.get hd
          obtain ⟨q1, q2, q3, q4⟩ := ixN_seq hk
          have hz := (I.list (SqL.of sq)).choose_spec.2.2
          have hz2 : xs.length ≤ 16777216 := by rw [← rw'.length, ← sizeLine_eq]; exact hz
          refine mt_popAt pins s σ H _ _ vv us Q I rv rs ⟨a, ws, i, k, u, rfl, rfl, sq, by omega, by omega, by rw [rw'.length]; exact q1, hu, ?_⟩
          exact post_write rg ha hx sq (rw'.eraseIdx k) ru p
        · exact p.elim
      · exact p.elim
    · exact p.elim
  · exact p.elim
end
end DL

set_option Elab.async false
set_option linter.all false
set_option maxRecDepth 100000
set_option maxHeartbeats 1000000
namespace DL
open PySem PySem.Spec PyProof.Rows L2

/-! ### statements -/
inductive RS where
  | nx (env : Env') (G : Hh) | rt (d : D) (G : Hh) | bk (env : Env') (G : Hh) | ct (env : Env') (G : Hh) | ex (c : Addr) (w : D) (env : Env') (G : Hh) | bad
abbrev SS := Env' → Hh → RS
abbrev GS := D → Env' → Hh → Option (Env' × Hh)
def PostS (X : Cx) (T : TbT) (W : WX) (ρ : List Addr) (H : Hp) (r : RS) (E : Ends) : Prop :=
  match r with
  | .nx env' G' => ∀ σ' ρ' H', Ext ρ H ρ' H' → SR X T ρ' env' G' σ' H' → E.nx σ' H'
  | .rt d G' => ∀ v ρ' H', Ext ρ H ρ' H' → RG X.K T ρ' G' H' → Rep X.K H' ρ' d v → E.rt v H'
  | .bk env' G' => ∀ σ' ρ' H', Ext ρ H ρ' H' → SR X T ρ' env' G' σ' H' → E.bk σ' H'
  | .ct env' G' => ∀ σ' ρ' H', Ext ρ H ρ' H' → SR X T ρ' env' G' σ' H' → E.ct σ' H'
  | .ex c w env' G' => ∀ σ' ρ' H' dd vw, Ext ρ H ρ' H' → SR X T ρ' env' G' σ' H' → Xd X.K c H' dd vw → Rep X.K H' ρ' w vw → W (.ref c) (some dd) σ' H'
  | .bad => False
def PostG (X : Cx) (T : TbT) (ρ : List Addr) (H : Hp) (r : Option (Env' × Hh)) (Q : L2.St → Hp → Prop) : Prop :=
  match r with
  | some (env', G') => ∀ σ' ρ' H', Ext ρ H ρ' H' → SR X T ρ' env' G' σ' H' → Q σ' H'
  | none => False
section
variable {X : Cx} {T : TbT} {W : WX} {σ : L2.St} {ρ ρ1 : List Addr} {H H1 : Hp} {env : Env'} {G : Hh}
theorem PostG.ext {r : Option (Env' × Hh)} {Q : L2.St → Hp → Prop} (e : Ext ρ H ρ1 H1) (h : PostG X T ρ H r Q) : PostG X T ρ1 H1 r Q := by
  rcases r with _ | ⟨env, G⟩
  · exact h
  · exact fun σ' ρ' H' e1 => h σ' ρ' H' (e.trans e1)
theorem PostS.ext {r : RS} {E : Ends} (e : Ext ρ H ρ1 H1) (h : PostS X T W ρ H r E) : PostS X T W ρ1 H1 r E := by
  cases r with
  | nx env G => exact fun σ' ρ' H' e1 => h σ' ρ' H' (e.trans e1)
  | bk env G => exact fun σ' ρ' H' e1 => h σ' ρ' H' (e.trans e1)
  | ct env G => exact fun σ' ρ' H' e1 => h σ' ρ' H' (e.trans e1)
  | rt d G => exact fun v ρ' H' e1 => h v ρ' H' (e.trans e1)
  | ex c w env G => exact fun σ' ρ' H' dd vw e1 => h σ' ρ' H' dd vw (e.trans e1)
  | bad => exact h
/-- an expression's exception is the statement's -/
theorem PostS.exE {c : Addr} {w : D} {G' : Hh} {E : Ends} (sr : SR X T ρ env G σ H) (h : PostS X T W ρ H (.ex c w env G') E) : PostX X T W σ ρ H c w G' :=
  fun ρ' H' dd vw e rg hd r => h σ ρ' H' dd vw e ⟨rg, e.envr sr.rg sr.ev⟩ hd r
theorem PostS.nx_here {E : Ends} (sr : SR X T ρ env G σ H) (h : PostS X T W ρ H (.nx env G) E) : E.nx σ H := h σ ρ H Ext.refl sr
theorem SR.ext {ρ' : List Addr} {H' : Hp} {G' : Hh} (sr : SR X T ρ env G σ H) (e : Ext ρ H ρ' H') (rg : RG X.K T ρ' G' H') : SR X T ρ' env G' σ H' := ⟨rg, e.envr sr.rg sr.ev⟩
theorem SlRep.d {K : PySem.W.Frag} {pn : List (Addr × Obj)} {x : D} {v : V} (r : Rep K H ρ x v) : SlRep K pn H ρ (.d x) (some v) := ⟨v, rfl, r⟩
theorem EnvR.set {K : PySem.W.Frag} {pn : List (Addr × Obj)} {s : Sl} {ov : Option V} (h : EnvR K pn H ρ env σ) (i : Nat) (r : SlRep K pn H ρ s ov) : EnvR K pn H ρ (env.set i s) (σ.set i ov) := by
  refine ⟨by simp [h.len], fun j t hj => ?_⟩
  by_cases e : i = j
  · subst e
    by_cases hl : i < env.length
    · rw [List.getElem?_set_self hl] at hj
      cases hj
      exact ⟨ov, List.getElem?_set_self (by rw [← h.len]; exact hl), r⟩
    · rw [List.getElem?_eq_none (by simpa using hl)] at hj; cases hj
  · rw [List.getElem?_set_ne e] at hj
    obtain ⟨ov', h1, h2⟩ := h.ok j t hj
    exact ⟨ov', by rw [List.getElem?_set_ne e]; exact h1, h2⟩
end
section
variable (X : Cx) (T : TbT) (W : WX)
def tS (f : SS) : TS := fun E σ H => ∃ ρ env G, SR X T ρ env G σ H ∧ PostS X T W ρ H (f env G) E
def tG (a : GS) : TG := fun v σ H Q => ∃ ρ env G d, SR X T ρ env G σ H ∧ Rep X.K H ρ d v ∧ PostG X T ρ H (a d env G) Q
abbrev DS (s : Stmt) (f : SS) : Prop := PS X s (tS X T W f)
abbrev DSs (s : List Stmt) (f : SS) : Prop := PSs X s (tS X T W f)
abbrev DG (e : Expr) (a : GS) : Prop := PG X e (tG X T a)
end
theorem PS_imp {X : Cx} {e : Stmt} {t t' : TS} (h : PS X e t) (i : ∀ E σ H, t' E σ H → t E σ H) : PS X e t' := ⟨fun pins s σ H E I q => h.run pins s σ H E I (i E σ H q)⟩
theorem PSs_imp {X : Cx} {e : List Stmt} {t t' : TS} (h : PSs X e t) (i : ∀ E σ H, t' E σ H → t E σ H) : PSs X e t' := ⟨fun pins s σ H E I q => h.run pins s σ H E I (i E σ H q)⟩
theorem PG_imp {X : Cx} {e : Expr} {t t' : TG} (h : PG X e t) (i : ∀ v σ H Q, t' v σ H Q → t v σ H Q) : PG X e t' := ⟨fun pins s σ H v u Q I r q => h.run pins s σ H v u Q I r (i v σ H Q q)⟩

def sNil : SS := fun env G => .nx env G
def sSeq (f g : SS) : SS := fun env G => match f env G with
  | .nx e G1 => g e G1
  | r => r
def sAsg (f : ES) (a : GS) : SS := fun env G => match f env G with
  | .ok d G1 => (match a d env G1 with
    | some (env', G') => .nx env' G'
    | none => .bad)
  | .ex c w G1 => .ex c w env G1
  | .bad => .bad
def aName (i : Nat) : GS := fun d env G => some (env.set i (.d d), G)
def sDrop (f : ES) : SS := fun env G => match f env G with
  | .ok _ G1 => .nx env G1
  | .ex c w G1 => .ex c w env G1
  | .bad => .bad
def sRet (f : ES) : SS := fun env G => match f env G with
  | .ok d G1 => .rt d G1
  | .ex c w G1 => .ex c w env G1
  | .bad => .bad
def sRetN : SS := fun _ G => .rt (.dat .none) G
def sBreak : SS := fun env G => .bk env G
def sCont : SS := fun env G => .ct env G
def sIf (t : TSm) (f g : SS) : SS := fun env G => match t env G with
  | .ok b G1 => if b then f env G1 else g env G1
  | .ex c w G1 => .ex c w env G1
  | .bad => .bad
def sAug (i : Nat) (g : D → D → Hh → Option (D × Hh)) (f : ES) : SS := fun env G => match env[i]? with
  | some (.d x) => (match f env G with
    | .ok y G1 => (match g x y G1 with
      | some (z, G2) => .nx (env.set i (.d z)) G2
      | none => .bad)
    | .ex c w G1 => .ex c w env G1
    | .bad => .bad)
  | _ => .bad
def sPar (i j : Nat) (f : AS) : SS := fun env G => match f env G with
  | .ok [x, y] G1 => .nx ((env.set i (.d x)).set j (.d y)) G1
  | .ok _ _ => .bad
  | .ex c w G1 => .ex c w env G1
  | .bad => .bad
def sPar3 (i j l : Nat) (f : AS) : SS := fun env G => match f env G with
  | .ok [x, y, z] G1 => .nx (((env.set i (.d x)).set j (.d y)).set l (.d z)) G1
  | .ok _ _ => .bad
  | .ex c w G1 => .ex c w env G1
  | .bad => .bad
/-- targets, one after another -/
def aList : List GS → List D → Env' → Hh → Option (Env' × Hh)
  | [], [], env, G => some (env, G)
  | a :: as, d :: ds, env, G => (match a d env G with
    | some (env', G') => aList as ds env' G'
    | none => none)
  | _, _, _, _ => none
def aTup (as : List GS) : GS := fun d env G => match d with
  | .dat (.tuple ds) => if ds.length = as.length then aList as (ds.map .dat) env G else none
  | .mix ds => if ds.length = as.length then aList as ds env G else none
  | _ => none
/-- o[i] = v -/
def gSetL (o i v : D) (G : Hh) : Option Hh := match o, i with
  | .ref l, .dat (.int k) => (match G[l]? with
    | some (.lst xs) => (match ixN xs.length k with
      | some j => some (G.set l (.lst (xs.set j v)))
      | none => none)
    | none => none)
  | _, _ => none
def aSub (fo fi : ES) (g : D → D → D → Hh → Option Hh) : GS := fun v env G => match fo env G with
  | .ok o G1 => (match fi env G1 with
    | .ok i G2 => (match g o i v G2 with
      | some G3 => some (env, G3)
      | none => none)
    | _ => none)
  | _ => none

section
variable {X : Cx} {T : TbT} {W : WX} {st : Stmt} {rest : List Stmt} {f g : SS} {fe fa fb : ES} {e a b : Expr} {pos : Pos}
theorem dss_nil : DSs X T W [] sNil := PSs_imp pss_nil fun E σ H ⟨ρ, env, G, sr, p⟩ => PostS.nx_here sr p
theorem dss_cons (h1 : DS X T W st f) (h2 : DSs X T W rest g) : DSs X T W (st :: rest) (sSeq f g) :=
  PSs_imp (pss_cons h1 h2) fun E σ H ⟨ρ, env, G, sr, p⟩ => by
    refine ⟨ρ, env, G, sr, ?_⟩
    unfold sSeq at p
    cases e : f env G with
    | nx env1 G1 =>
      rw [e] at p
      exact fun σ1 ρ1 H1 e1 sr1 => ⟨ρ1, env1, G1, sr1, PostS.ext e1 p⟩
    | rt d G1 => rw [e] at p; exact p
    | bk env1 G1 => rw [e] at p; exact p
    | ct env1 G1 => rw [e] at p; exact p
    | ex c w env1 G1 => rw [e] at p; exact p
    | bad => rw [e] at p; exact p
theorem dss_one (h1 : DS X T W st f) : DSs X T W [st] f := pss_one h1
theorem ds_pass : DS X T W (.Pass pos) sNil := PS_imp ps_pass fun E σ H ⟨ρ, env, G, sr, p⟩ => PostS.nx_here sr p
theorem ds_break : DS X T W (.Break pos) sBreak := PS_imp ps_break fun E σ H ⟨ρ, env, G, sr, p⟩ => p σ ρ H Ext.refl sr
theorem ds_continue : DS X T W (.Continue pos) sCont := PS_imp ps_continue fun E σ H ⟨ρ, env, G, sr, p⟩ => p σ ρ H Ext.refl sr
theorem ds_doc {x : Str} {j : Nat} {pos' : Pos} : DS X T W (.Expr (.Constant (.str x) j pos) pos') sNil := PS_imp ps_doc fun E σ H ⟨ρ, env, G, sr, p⟩ => PostS.nx_here sr p
theorem ds_expr (he : DE X T W e fe) (hs : swapsWith e none pos.line X.env = pure false := by rfl) : DS X T W (.Expr e pos) (sDrop fe) :=
  PS_imp (ps_expr he hs) fun E σ H ⟨ρ, env, G, sr, p⟩ => by
    refine ⟨ρ, env, G, sr, ?_⟩
    unfold sDrop at p
    cases q : fe env G with
    | ok d G1 => rw [q] at p; exact fun v ρ1 H1 e1 rg1 r1 => p σ ρ1 H1 e1 (sr.ext e1 rg1)
    | ex c w G1 => rw [q] at p; exact PostS.exE sr p
    | bad => rw [q] at p; exact p
theorem ds_ret (he : DE X T W e fe) : DS X T W (.Return (some e) pos) (sRet fe) :=
  PS_imp (ps_ret he) fun E σ H ⟨ρ, env, G, sr, p⟩ => by
    refine ⟨ρ, env, G, sr, ?_⟩
    unfold sRet at p
    cases q : fe env G with
    | ok d G1 => rw [q] at p; exact p
    | ex c w G1 => rw [q] at p; exact PostS.exE sr p
    | bad => rw [q] at p; exact p
theorem ds_retN : DS X T W (.Return none pos) sRetN := PS_imp ps_retN fun E σ H ⟨ρ, env, G, sr, p⟩ => p .non ρ H Ext.refl sr.rg rfl
theorem ds_if {c : Expr} {as bs : List Stmt} {t : TSm} (hc : DT X T W c t) (ha : DSs X T W as f) (hb : DSs X T W bs g) : DS X T W (.If c as bs pos) (sIf t f g) :=
  PS_imp (ps_if hc ha hb) fun E σ H ⟨ρ, env, G, sr, p⟩ => by
    refine ⟨ρ, env, G, sr, ?_⟩
    unfold sIf at p
    cases q : t env G with
    | ok k G1 =>
      rw [q] at p
      intro ρ1 H1 e1 rg1
      cases k with
      | true => exact ⟨ρ1, env, G1, sr.ext e1 rg1, PostS.ext e1 p⟩
      | false => exact ⟨ρ1, env, G1, sr.ext e1 rg1, PostS.ext e1 p⟩
    | ex c w G1 => rw [q] at p; exact PostS.exE sr p
    | bad => rw [q] at p; exact p

/-! ### targets and stores -/
theorem dg_name {i : Nat} {x : Str} (hN : X.N.Nodup) (hi : X.N[i]? = some x) (hx : Loc X.env.scope x) (hf : X.fn x = true ∨ X.env.scope.names.lookup x = some .local := by first | exact .inl rfl | exact .inr rfl | assumption) : DG X T (.Name x pos) (aName i) :=
  PG_imp (pg_name hN hi hx hf) fun v σ H Q ⟨ρ, env, G, d, sr, r, p⟩ => p _ ρ H Ext.refl ⟨sr.rg, sr.ev.set i ⟨v, rfl, r⟩⟩
theorem ds_asg {tg : Expr} {ga : GS} (he : DE X T W e fe) (hg : DG X T tg ga) (hs : swapsWithSole [tg] e pos.line X.env = pure false := by rfl) (hw : swappedStores [tg] e X.env = pure none := by rfl)
    (h1 : (assignEach [tg] X.env).map (·.2) = [assign tg X.env] := by rfl) : DS X T W (.Assign [tg] e pos) (sAsg fe ga) :=
  PS_imp (ps_asg he hg hs hw h1) fun E σ H ⟨ρ, env, G, sr, p⟩ => by
    refine ⟨ρ, env, G, sr, ?_⟩
    unfold sAsg at p
    cases q : fe env G with
    | ok d G1 =>
      rw [q] at p
      intro v ρ1 H1 e1 rg1 r1
      refine ⟨ρ1, env, G1, d, sr.ext e1 rg1, r1, ?_⟩
      dsimp only at p
      cases q2 : ga d env G1 with
      | none => rw [q2] at p; exact p.elim
      | some z =>
        obtain ⟨env2, G2⟩ := z
        rw [q2] at p
        exact fun σ2 ρ2 H2 e2 => p σ2 ρ2 H2 (e1.trans e2)
    | ex c w G1 => rw [q] at p; exact PostS.exE sr p
    | bad => rw [q] at p; exact p
def tGs (X : Cx) (T : TbT) (as : List GS) : TGs := fun vs σ H Q => ∃ ρ env G ds, SR X T ρ env G σ H ∧ Reps X.K H ρ ds vs ∧ PostG X T ρ H (aList as ds env G) Q
theorem PGs_imp {X : Cx} {e : List Expr} {t t' : TGs} (h : PGs X e t) (i : ∀ v σ H Q, t' v σ H Q → t v σ H Q) : PGs X e t' := ⟨fun pins s σ H v u Q I r q => h.run pins s σ H v u Q I r (i v σ H Q q)⟩
theorem dgs_nil : PGs X [] (tGs X T []) := PGs_imp pgs_nil fun vs σ H Q ⟨ρ, env, G, ds, sr, r, p⟩ => by
  cases ds with
  | nil => exact ⟨r, p σ ρ H Ext.refl sr⟩
  | cons d ds => exact p.elim
theorem dgs_cons {ga : GS} {gs : List GS} {es : List Expr} (h1 : DG X T e ga) (h2 : PGs X es (tGs X T gs)) (hs : (assignEach (e :: es) X.env).map (·.2) = assign e X.env :: (assignEach es X.env).map (·.2) := by rfl) : PGs X (e :: es) (tGs X T (ga :: gs)) :=
  PGs_imp (pgs_cons h1 h2 hs) fun vs σ H Q ⟨ρ, env, G, ds, sr, r, p⟩ => by
    cases ds with
    | nil => exact p.elim
    | cons d ds =>
      obtain ⟨v, t, rfl, r1, r2⟩ := r
      refine ⟨v, t, rfl, ρ, env, G, d, sr, r1, ?_⟩
      unfold aList at p
      cases q : ga d env G with
      | none => rw [q] at p; exact p
      | some z =>
        obtain ⟨env1, G1⟩ := z
        rw [q] at p
        exact fun σ1 ρ1 H1 e1 sr1 => ⟨ρ1, env1, G1, ds, sr1, e1.reps sr.rg r2, PostG.ext e1 p⟩
theorem dg_tup {gs : List GS} {es : List Expr} {k : Nat} (hc : X.calm = true) (h : PGs X es (tGs X T gs))
    (hn : (assignEach es X.env).length = gs.length := by rfl) (hst : (assignEach es X.env).findIdx? (·.1) = none := by rfl) : DG X T (.Tuple es k pos) (aTup gs) :=
  PG_imp (pg_tup hc h hn hst) fun v σ H Q ⟨ρ, env, G, d, sr, r, p⟩ => by
    unfold aTup at p
    split at p
    · rename_i ds
      split at p
      · rename_i hl
        obtain ⟨a, vs, rfl, sq, rs⟩ := r
        exact ⟨a, vs, rfl, sq, by rw [rs.length]; exact hl, ρ, env, G, _, sr, rs.reps, p⟩
      · exact p.elim
    · rename_i ds
      split at p
      · rename_i hl
        obtain ⟨a, vs, rfl, sq, rs⟩ := r
        exact ⟨a, vs, rfl, sq, by rw [rs.length]; exact hl, ρ, env, G, _, sr, rs, p⟩
      · exact p.elim
    · exact p.elim
theorem dg_sub {o i : Expr} {fo fi : ES} (ho : DE X T W o fo) (hi : DE X T W i fi)
    (ha : ∀ v, assign (.Subscript o i pos) X.env v = (do
      let ov ← holding [v] (eval o X.env)
      let iv ← holding [v, ov] (eval i X.env)
      standAt pos
      holding [v, ov, iv] (setItem ov iv v)
      release [v, ov, iv] []) := by intro _; rfl) : DG X T (.Subscript o i pos) (aSub fo fi gSetL) :=
  PG_imp (pg_sub ho hi set_list ha) fun v σ H Q ⟨ρ, env, G, d, sr, r, p⟩ => by
    refine ⟨ρ, env, G, sr, ?_⟩
    unfold aSub at p
    cases q : fo env G with
    | ok x G1 =>
      rw [q] at p
      intro ov ρ1 H1 e1 rg1 r1
      refine ⟨ρ1, env, G1, sr.ext e1 rg1, ?_⟩
      dsimp only at p
      cases q2 : fi env G1 with
      | ok y G2 =>
        rw [q2] at p
        intro iv ρ2 H2 e2 rg2 r2
        dsimp only at p
        unfold gSetL at p
        split at p
        · rename_i G3 h3
          split at h3
          · rename_i l k
            split at h3
            · rename_i xs hx
              split at h3
              · rename_i j hj
                cases h3
                obtain ⟨a, ws, rfl, hl, sq, rr⟩ := ref_lst rg2 (e2.rep rg1 r1) hx
                obtain ⟨g, e⟩ := rg2.write hl hx sq (rr.set j ((e1.trans e2).rep sr.rg r))
                refine ⟨a, ws, k, j, rfl, r2, sq, by rw [rr.length]; exact hj, ?_⟩
                exact p σ ρ2 _ ((e1.trans e2).trans e) ((sr.ext (e1.trans e2) rg2).ext e g)
              · cases h3
            · cases h3
          · cases h3
        · exact p.elim
      | ex c w G2 => rw [q2] at p; exact p.elim
      | bad => rw [q2] at p; exact p.elim
    | ex c w G1 => rw [q] at p; exact p.elim
    | bad => rw [q] at p; exact p.elim
theorem ds_aug {i : Nat} {x : Str} {op : Operator} {ga : D → D → Hh → Option (D × Hh)} {pos' : Pos} (hN : X.N.Nodup) (hi : X.N[i]? = some x) (hx : Loc X.env.scope x) (he : DE X T W e fe) (ho : OpR X (inplaceOp op) (r2 X T ga)) (hf : X.fn x = true ∨ X.env.scope.names.lookup x = some .local := by first | exact .inl rfl | exact .inr rfl | assumption) :
    DS X T W (.AugAssign (.Name x pos') op e pos) (sAug i ga fe) :=
  PS_imp (ps_aug hN hi hx he ho hf) fun E σ H ⟨ρ, env, G, sr, p⟩ => by
    unfold sAug at p
    split at p
    · rename_i x hx
      obtain ⟨ov, ho, v, rfl, r⟩ := sr.ev.ok i _ hx
      refine ⟨v, ho, ρ, env, G, sr, ?_⟩
      cases q : fe env G with
      | ok y G1 =>
        rw [q] at p
        intro u ρ1 H1 e1 rg1 r1
        dsimp only at p
        refine ⟨ρ1, G1, x, y, rg1, e1.rep sr.rg r, r1, ?_⟩
        split at p
        · rename_i z G2 hg
          rw [hg]
          intro w ρ2 H2 e2 rg2 r2
          have s2 := (sr.ext (e1.trans e2) rg2)
          exact p _ ρ2 H2 (e1.trans e2) ⟨rg2, s2.ev.set i ⟨w, rfl, r2⟩⟩
        · exact p.elim
      | ex c w G1 => rw [q] at p; exact PostS.exE sr p
      | bad => rw [q] at p; exact p
    · exact p.elim
theorem ds_par {i j : Nat} {x y : Str} {fs : AS} {px py pt : Pos} {kt k2 : Nat} {pt2 : Pos} (hc : X.calm = true) (hN : X.N.Nodup) (hi : X.N[i]? = some x) (hj : X.N[j]? = some y) (hij : i ≠ j)
    (hx : X.env.scope.names.lookup x = some .local) (hy : X.env.scope.names.lookup y = some .local) (ha : DA X T W [a, b] fs)
    (hw : swappedStores [.Tuple [.Name x px, .Name y py] kt pt] (.Tuple [a, b] k2 pt2) X.env = pure (some [x, y]))
    (hs : swapsWithSole [.Tuple [.Name x px, .Name y py] kt pt] (.Tuple [a, b] k2 pt2) pos.line X.env = pure false := by rfl) :
    DS X T W (.Assign [.Tuple [.Name x px, .Name y py] kt pt] (.Tuple [a, b] k2 pt2) pos) (sPar i j fs) :=
  PS_imp (ps_par hc hN hi hj hij hx hy ha hw hs) fun E σ H ⟨ρ, env, G, sr, p⟩ => by
    refine ⟨ρ, env, G, sr, ?_⟩
    unfold sPar at p
    cases q : fs env G with
    | ok ds G1 =>
      rw [q] at p
      intro vs ρ1 H1 e1 rg1 rs
      split at p
      · rename_i x y G2 h
        injection h with h1 h2
        subst h1; subst h2
        obtain ⟨v, u, rfl, r1, r2⟩ := reps_two rs
        have s1 := sr.ext e1 rg1
        exact ⟨v, u, rfl, p _ ρ1 H1 e1 ⟨rg1, (s1.ev.set i (SlRep.d r1)).set j (SlRep.d r2)⟩⟩
      · exact p.elim
      · rename_i h; cases h
      · rename_i h; cases h
    | ex c w G1 => rw [q] at p; exact PostS.exE sr p
    | bad => rw [q] at p; exact p
theorem ds_par3 {i j l : Nat} {x y z : Str} {c : Expr} {fs : AS} {px py pz pt : Pos} {kt k2 : Nat} {pt2 : Pos} (hc : X.calm = true) (hN : X.N.Nodup) (hi : X.N[i]? = some x) (hj : X.N[j]? = some y) (hl : X.N[l]? = some z) (hij : i ≠ j) (hil : i ≠ l) (hjl : j ≠ l)
    (hx : X.env.scope.names.lookup x = some .local) (hy : X.env.scope.names.lookup y = some .local) (hz : X.env.scope.names.lookup z = some .local) (ha : DA X T W [a, b, c] fs)
    (hw : swappedStores [.Tuple [.Name x px, .Name y py, .Name z pz] kt pt] (.Tuple [a, b, c] k2 pt2) X.env = pure (some [x, y, z]))
    (hs : swapsWithSole [.Tuple [.Name x px, .Name y py, .Name z pz] kt pt] (.Tuple [a, b, c] k2 pt2) pos.line X.env = pure false := by rfl) :
    DS X T W (.Assign [.Tuple [.Name x px, .Name y py, .Name z pz] kt pt] (.Tuple [a, b, c] k2 pt2) pos) (sPar3 i j l fs) :=
  PS_imp (ps_par3 hc hN hi hj hl hij hil hjl hx hy hz ha hw hs) fun E σ H ⟨ρ, env, G, sr, p⟩ => by
    refine ⟨ρ, env, G, sr, ?_⟩
    unfold sPar3 at p
    cases q : fs env G with
    | ok ds G1 =>
      rw [q] at p
      intro vs ρ1 H1 e1 rg1 rs
      split at p
      · rename_i x y z G2 h
        injection h with h1 h2
        subst h1; subst h2
        obtain ⟨v, t, rfl, r1, rs⟩ := rs
        obtain ⟨u, w, rfl, r2, r3⟩ := reps_two rs
        have s1 := sr.ext e1 rg1
        exact ⟨v, u, w, rfl, p _ ρ1 H1 e1 ⟨rg1, ((s1.ev.set i (SlRep.d r1)).set j (SlRep.d r2)).set l (SlRep.d r3)⟩⟩
      · exact p.elim
      · rename_i h; cases h
      · rename_i h; cases h
    | ex c w G1 => rw [q] at p; exact PostS.exE sr p
    | bad => rw [q] at p; exact p
end
end DL

set_option Elab.async false
set_option linter.all false
set_option maxRecDepth 100000
set_option maxHeartbeats 1000000
/-! enumerate of a tuple (the list's is HandS.Iter's) -/
namespace PySem
open Sem (wp)
open AutoSeq1 (wpAny_loadPart')
theorem meets_enumerate_newB1 {v : Value} {o : Obj} {H : Heap → Prop} (B : Begins v o H) :
    Meets (Builtin.«enumerate.__new__» ⟨[.type "enumerate", v], []⟩) (fun _ R s => H s.heap ∧
      R (.ok (.ret (.ref (s.heap.push o).objs.size))) { s with heap := (s.heap.push o).push { cls := .type "enumerate", data := .fields #[.none, .bool false, .ref s.heap.objs.size, rawInt 0, .none, .none] } }) :=
  .of_wp fun prog w A R s h => by
    obtain ⟨hp, g, d, tk, os⟩ := s; obtain ⟨h1, h⟩ := h
    have hsub := sub_enumerate
    have q1 : ∀ {A' : Around} {E : Value → Shared → Prop} {Q : Value → Shared → Prop}, Q (.ref hp.objs.size) ⟨hp.push o, g, d, tk, os⟩ → wpAny (model prog w) A' (pyIter v) Q E ⟨hp, g, d, tk, os⟩ :=
      fun q => B.iter prog w _ _ ⟨hp, g, d, tk, os⟩ _ h1 q
    wp_walk using q1
    refine wpAny_stack_any fun st => wpAny_pure ?_
    split
    · rename_i c _ _ _ _ _
      cases (c == Value.type "enumerate")
      · wp_walk using q1
        exact ⟨_, rfl, h⟩
      · wp_walk using q1
        exact ⟨_, rfl, h⟩
    · wp_walk using q1
      exact ⟨_, rfl, h⟩
section
variable {prog : Program} {w : World} {A : Around} {E : Value → Shared → Prop} {s : Shared}
theorem enum_begins1 {v : Value} {o : Obj} {H : Heap → Prop} {Q : Value → Shared → Prop} (B : Begins v o H) (h1 : H s.heap)
    (h : ∀ h', IsEnum h' (s.heap.objs.size + 1) s.heap.objs.size 0 .none → h'.get? s.heap.objs.size = some o → h'.objs.size = s.heap.objs.size + 2 →
      (∀ b o, s.heap.get? b = some o → h'.get? b = some o) → Q (.ref (s.heap.objs.size + 1)) { s with heap := h' }) :
    wpAny (model prog w) A (call (.type "enumerate") [v]) Q E s := by
  refine callType_new F.called_enumerate (by decide) (F.typeCall_enumerate_1 _) (F.newCall_enumerate_1 _) (fun obj => F.args_object_init_2 obj _) F.entry_enumerate_new
    (meets_enumerate_newB1 B) ⟨h1, ?_⟩
  have hz : (s.heap.push o).objs.size = s.heap.objs.size + 1 := Heap.size_push ..
  show _ ∧ _
  rw [hz]
  have he : IsEnum ((s.heap.push o).push { cls := .type "enumerate", data := .fields #[.none, .bool false, .ref s.heap.objs.size, rawInt 0, .none, .none] }) (s.heap.objs.size + 1) s.heap.objs.size 0 .none := by
    have := Heap.get?_push_size (s.heap.push o) (o := { cls := .type "enumerate", data := .fields #[.none, .bool false, .ref s.heap.objs.size, rawInt 0, .none, .none] }) rfl
    rw [hz] at this; exact this
  refine ⟨⟨_, he, rfl⟩, h _ he (Heap.get?_push_of_some _ (Heap.get?_push_size _ B.free)) (by rw [Heap.size_push, hz]) fun b o x => Heap.get?_push_of_some _ (Heap.get?_push_of_some _ x)⟩
end
end PySem
namespace DL
open PySem PySem.Spec PyProof.Rows L2
def IteT (K : PySem.W.Frag) (a : Addr) : It :=
  ⟨fun i H => ∃ (xs : List V) (x : V), SqT K H a xs ∧ xs[i]? = some x, fun i H v H' => ∃ T x, v = .ref T ∧ H T = none ∧ H' = upd H T (.tup [.int (i : Nat), x]) ∧ ∀ xs, SqT K H a xs → xs[i]? = some x, fun i H => ∃ xs : List V, SqT K H a xs ∧ xs.length ≤ i⟩
theorem turn_enumT {P : Program} {w : World} {K : PySem.W.Frag} {elts : List Expr} {kk : Nat} {tpos : Pos} (a e it : Addr) :
    Turn P w K (.Tuple elts kk tpos) (IteT K a) [e, it] e (fun i h => (∃ old, IsEnum h e it ((i : Nat) : Int) old) ∧ h.IsTupleIter it a i ∧ e ≠ it) where
  mem := by simp
  obj := fun i h st b hb => by
    obtain ⟨⟨old, he⟩, ⟨o, ho, hc, hd⟩, _⟩ := st
    have e' : b = e ∨ b = it := by simpa using hb
    rcases e' with z | z
    · rw [z]; exact ⟨_, he, fun v q => nomatch q⟩
    · rw [z]; exact ⟨o, ho, fun v q => by rw [hd] at q; cases q⟩
  keep := fun i h h' st k => let ⟨⟨old, he⟩, hi, hne⟩ := st; ⟨⟨old, k e (by simp) _ he⟩, hi.at fun o q => k it (by simp) o q, hne⟩
  item := by
    intro X hP hw hK hc i pins s σ H E I hf st hg
    subst hP hw hK
    obtain ⟨⟨old, he⟩, hit, hne⟩ := st
    obtain ⟨xs, x, hq, hx⟩ := hg
    obtain ⟨its, rv, p, hz⟩ := I.tuple hq
    obtain ⟨u, hu, ru⟩ := rv.get hx
    have hel : e < s.heap.objs.size := Heap.lt_size he
    have hil : it < s.heap.objs.size := by obtain ⟨_, q, _⟩ := hit; exact Heap.lt_size q
    have ht : s.heap.IsTuple a its.toArray := p
    have hae : a ≠ it := fun z => by
      obtain ⟨o1, h1, c1, _⟩ := ht
      obtain ⟨o2, h2, c2, _⟩ := hit
      rw [z, h2] at h1; cases h1; rw [c1] at c2; simp at c2
    have hae2 : a ≠ e := fun z => by
      obtain ⟨o1, h1, c1, _⟩ := ht
      rw [z, he] at h1; cases h1; simp at c1
    have D := Draws.tuple (prog := X.prog) (w := X.w) (A := X.A.in1) (I.ok.hd hc) it a hae its.toArray
    have hlt : i < its.toArray.size := by
      have := (List.getElem?_eq_some_iff.mp hu).1
      simpa using this
    refine wpAny_pyNext_enum_itemD D he ⟨hit, ht⟩ hlt hne (by simp [hne, Ne.symm hae2]) fun y h' tk hy ho st' hT hsz hk => ?_
    have ey : y = u := by
      have q : its.toArray[i]? = some u := by simpa using hu
      exact Option.some.inj (hy.symm.trans q)
    subst ey
    refine ⟨_, rfl, wpAny_letOwnedTupleGo_enum (s := { s with heap := h', toks := tk + 1 }) ho fun h'' he' sb => ?_⟩
    have hT2 : h''.get? s.heap.objs.size = some { cls := .type "tuple", data := .seq #[.int i tk, y] } := (sb.2 _ (Nat.ne_of_gt hel)).trans hT
    have new : ObjOk X.prog X.w (upd H s.heap.objs.size (.tup [.int (i : Nat), x])) h'' s.heap.objs.size (.tup [.int (i : Nat), x]) :=
      ⟨by show 2 ≤ sizeLine; decide, [.int i tk, y], .cons ⟨_, rfl⟩ (.cons ru .nil), ⟨_, hT2, rfl, _, rfl⟩⟩
    have I1 : Inv X pins σ (upd H s.heap.objs.size (.tup [.int (i : Nat), x])) { s with heap := h'', toks := tk + 1 } :=
      I.turnedNew (ch := [e, it]) (fun b ob hb q => (sb.2 b (fun z => hb (by simp [z]))).trans (hk b ob (fun z => hb (by simp [z])) (fun z => hb (by simp [z])) q)) hf (Nat.le_refl _) new
    refine ⟨.ref s.heap.objs.size, _, I1, rfl, ⟨_, x, rfl, I.hok.fresh (Nat.le_refl _), rfl, fun ys hy => by rw [I.tuple_inj hy hq]; exact hx⟩, ⟨⟨y, ?_⟩, st'.1.at fun o q => (sb.2 it (Ne.symm hne)).trans q, hne⟩, fun b hb => ?_⟩
    · have e1 : ((i + 1 : Nat) : Int) = (i : Int) + 1 := by omega
      rw [e1]; exact he'
    · have hb' : b < s.heap.objs.size := by
        have e' : b = e ∨ b = it := by simpa using hb
        rcases e' with z | z
        · rw [z]; exact hel
        · rw [z]; exact hil
      rw [upd_ne (Nat.ne_of_lt hb')]
      exact (hf b hb).1
  done := by
    intro X hP hw hK hc i pins s σ H E I hf st hg
    subst hP hw hK
    obtain ⟨⟨old, he⟩, hit, hne⟩ := st
    obtain ⟨xs, hq, hx⟩ := hg
    obtain ⟨its, rv, p, hz⟩ := I.tuple hq
    obtain ⟨f0, f1, f2, f3, f4, f5⟩ := hf it (by simp)
    have hl := rv.length
    have ht : s.heap.IsTuple a its.toArray := p
    have D : Draws X.prog X.w X.A.in1 it [it, a] i (fun _ _ => True) (fun j h => j = i ∧ h.IsTupleIter it a i ∧ h.IsTuple a its.toArray) :=
      ⟨fun _ _ st => let ⟨o, ho, _⟩ := st.2.1; ⟨o, ho⟩, fun _ _ _ st hk => ⟨st.1, st.2.1.at fun o e => hk it (by simp) o e, st.2.2.at fun o e => hk a (by simp) o e⟩,
        fun j s Q E hj st _ => absurd st.1 (Nat.ne_of_lt hj), fun s Q E st hE => wpAny_nextOf_tuple_end (I.ok.hd hc) st.2.1 st.2.2 (by simp; omega) hE⟩
    exact wpAny_pyNext_enum_endD D he ⟨rfl, hit, ht⟩ fun h' eb => ⟨rfl, I.turned (t' := s.toks) (fun b o hb q => eb b o hb q) f0 f1 f3 f4 f5⟩
  self := fun A i s Q E st h => let ⟨⟨_, he⟩, _⟩ := st; wpAny_pyIter_enum he h
end DL

set_option Elab.async false
set_option linter.all false
set_option maxRecDepth 100000
set_option maxHeartbeats 1000000
namespace DL
open PySem PySem.Spec PyProof.Rows L2
open Classical

/-! ### what is walked -/
inductive RI where
  | ok (xs : List D) (chk : Hh → Prop) (G : Hh) | ex (c : Addr) (w : D) (G : Hh) | bad
abbrev IS := Env' → Hh → RI
def yesH : Hh → Prop := fun _ => True
def ItOk (X : Cx) (T : TbT) (ρ0 : List Addr) (H0 : Hp) (xs : List D) (chk : Hh → Prop) (J : It) : Prop :=
  ∀ ρ G H (i : Nat), Ext ρ0 H0 ρ H → RG X.K T ρ G H → chk G →
    (∀ d, xs[i]? = some d → J.go i H ∧ ∀ x H', J.yld i H x H' → Ext ρ H ρ H' ∧ RG X.K T ρ G H' ∧ Rep X.K H' ρ d x) ∧ (xs.length ≤ i → J.stop i H)
def PostI (X : Cx) (T : TbT) (W : WX) (σ : L2.St) (ρ : List Addr) (H : Hp) (r : RI) (R : It → Hp → Prop) : Prop :=
  match r with
  | .ok xs chk G' => ∀ ρ' H' J, Ext ρ H ρ' H' → RG X.K T ρ' G' H' → ItOk X T ρ' H' xs chk J → R J H'
  | .ex c w G' => PostX X T W σ ρ H c w G'
  | .bad => False
def tI (X : Cx) (T : TbT) (W : WX) (f : IS) : TI := fun σ H R => ∃ ρ env G, SR X T ρ env G σ H ∧ PostI X T W σ ρ H (f env G) R
abbrev DI (X : Cx) (T : TbT) (W : WX) (tg iter : Expr) (f : IS) : Prop := PI X tg iter (tI X T W f)
theorem PI_imp {X : Cx} {tg e : Expr} {t t' : TI} (h : PI X tg e t) (i : ∀ σ H R, t' σ H R → t σ H R) : PI X tg e t' := ⟨fun pins s σ H R I q => h.run pins s σ H R I (i σ H R q)⟩
theorem PI_or {X : Cx} {tg e : Expr} {t t' : TI} (h : PI X tg e t) (h' : PI X tg e t') : PI X tg e (fun σ H R => t σ H R ∨ t' σ H R) := ⟨fun pins s σ H R I q => q.elim (h.run pins s σ H R I) (h'.run pins s σ H R I)⟩

/-! ### for -/
noncomputable def forL (a : GS) (f : SS) (chk : Hh → Prop) : List D → SS
  | [], env, G => if chk G then .nx env G else .bad
  | d :: ds, env, G => if chk G then (match a d env G with
    | some (env1, G1) => (match f env1 G1 with
      | .nx e g => forL a f chk ds e g
      | .ct e g => forL a f chk ds e g
      | .bk e g => .nx e g
      | .rt d g => .rt d g
      | .ex c w e g => .ex c w e g
      | .bad => .bad)
    | none => .bad) else .bad
noncomputable def sFor (src : IS) (a : GS) (f : SS) : SS := fun env G => match src env G with
  | .ok xs chk G1 => forL a f chk xs env G1
  | .ex c w G1 => .ex c w env G1
  | .bad => .bad
section
variable {X : Cx} {T : TbT} {W : WX} {σ : L2.St} {ρ ρ1 : List Addr} {H H1 : Hp} {env : Env'} {G : Hh} {f : SS} {fe : ES} {e : Expr} {pos : Pos} {a : GS} {src : IS} {tg iter : Expr} {body : List Stmt}
theorem ds_for (hp : PassesOwn (model X.prog X.w) X.A X.env X.xe) (hc : X.calm = true) (hi : DI X T W tg iter src) (hg : DG X T tg a) (hb : DSs X T W body f)
    (hs : ∀ x, foldedSetIterable iter X.env x = pure x := by intro _; rfl) : DS X T W (.For tg iter body [] pos) (sFor src a f) :=
  PS_imp (ps_for hp hc hi hg hb hs) fun E σ H ⟨ρ, env, G, sr, p⟩ => by
    refine ⟨ρ, env, G, sr, ?_⟩
    unfold sFor at p
    cases q : src env G with
    | ok xs chk G1 =>
      rw [q] at p
      intro ρ1 H1 J e1 rg1 it
      dsimp only at p
      refine ⟨fun i m σ' H' => ∃ ρ' env' G', Ext ρ1 H1 ρ' H' ∧ SR X T ρ' env' G' σ' H' ∧ i + m = xs.length ∧ PostS X T W ρ' H' (forL a f chk (xs.drop i) env' G') E,
        ⟨xs.length, ρ1, env, G1, Ext.refl, sr.ext e1 rg1, by omega, PostS.ext e1 p⟩, fun i m σ' H' hW => ?_⟩
      obtain ⟨ρ', env', G', e', sr', hm, p'⟩ := hW
      cases hd : xs.drop i with
      | nil =>
        rw [hd] at p'
        unfold forL at p'
        split at p'
        · rename_i hck
          have hl : xs.length ≤ i := by
            have := congrArg List.length hd
            simp at this; omega
          exact .inl ⟨(it ρ' G' H' i e' sr'.rg hck).2 hl, PostS.nx_here sr' p'⟩
        · exact p'.elim
      | cons d ds =>
        rw [hd] at p'
        have hi : xs[i]? = some d := by
          rw [← List.head?_drop, hd]; rfl
        have hds : xs.drop (i + 1) = ds := by
          rw [← List.drop_drop, hd]; rfl
        have hlt : i < xs.length := (List.getElem?_eq_some_iff.mp hi).1
        unfold forL at p'
        split at p'
        · rename_i hck
          obtain ⟨hgo, hy⟩ := (it ρ' G' H' i e' sr'.rg hck).1 d hi
          refine .inr ⟨hgo, fun σ2 H2 => ∃ ρ2 env2 G2, Ext ρ1 H1 ρ2 H2 ∧ SR X T ρ2 env2 G2 σ2 H2 ∧ PostS X T W ρ2 H2 (forL a f chk ds env2 G2) E, fun σ2 H2 hN => ?_, fun x H2 hyl => ?_⟩
          · obtain ⟨ρ2, env2, G2, e2, sr2, p2⟩ := hN
            exact ⟨m - 1, by omega, ρ2, env2, G2, e2, sr2, by omega, by rw [hds]; exact p2⟩
          · obtain ⟨e2, rg2, r2⟩ := hy x H2 hyl
            refine ⟨ρ', env', G', d, sr'.ext e2 rg2, r2, ?_⟩
            cases q3 : a d env' G' with
            | none => rw [q3] at p'; exact p'.elim
            | some z =>
              obtain ⟨env3, G3⟩ := z
              rw [q3] at p'
              intro σ3 ρ3 H3 e3 sr3
              refine ⟨ρ3, env3, G3, sr3, ?_⟩
              have e13 : Ext ρ' H' ρ3 H3 := e2.trans e3
              dsimp only at p'
              cases q4 : f env3 G3 with
              | nx e4 g4 =>
                rw [q4] at p'
                exact fun σ4 ρ4 H4 x4 sr4 => ⟨ρ4, e4, g4, e'.trans (e13.trans x4), sr4, PostS.ext (e13.trans x4) p'⟩
              | ct e4 g4 =>
                rw [q4] at p'
                exact fun σ4 ρ4 H4 x4 sr4 => ⟨ρ4, e4, g4, e'.trans (e13.trans x4), sr4, PostS.ext (e13.trans x4) p'⟩
              | bk e4 g4 =>
                rw [q4] at p'
                exact fun σ4 ρ4 H4 x4 sr4 => p' σ4 ρ4 H4 (e13.trans x4) sr4
              | rt d4 g4 =>
                rw [q4] at p'
                exact fun v4 ρ4 H4 x4 => p' v4 ρ4 H4 (e13.trans x4)
              | ex c4 w4 e4 g4 =>
                rw [q4] at p'
                exact fun σ4 ρ4 H4 dd vw x4 => p' σ4 ρ4 H4 dd vw (e13.trans x4)
              | bad => rw [q4] at p'; exact p'
        · exact p'.elim
    | ex c w G1 => rw [q] at p; exact PostS.exE sr p
    | bad => rw [q] at p; exact p

/-! ### while -/
def whileN (t : TSm) (f : SS) : Nat → SS
  | 0, _, _ => .bad
  | n + 1, env, G => match t env G with
    | .ok false G1 => .nx env G1
    | .ok true G1 => (match f env G1 with
      | .nx e g => whileN t f n e g
      | .ct e g => whileN t f n e g
      | .bk e g => .nx e g
      | .rt d g => .rt d g
      | .ex c w e g => .ex c w e g
      | .bad => .bad)
    | .ex c w G1 => .ex c w env G1
    | .bad => .bad
noncomputable def sWhile (t : TSm) (f : SS) : SS := fun env G => if h : ∃ n, whileN t f n env G ≠ .bad then whileN t f h.choose env G else .bad
theorem whileN_mono {t : TSm} {f : SS} : ∀ {n m : Nat} {env : Env'} {G : Hh}, n ≤ m → whileN t f n env G ≠ .bad → whileN t f m env G = whileN t f n env G
  | 0, _, _, _, _, h => absurd rfl h
  | n + 1, 0, _, _, h, _ => absurd h (by omega)
  | n + 1, m + 1, env, G, h, hb => by
    unfold whileN at hb ⊢
    split
    · rfl
    · rename_i G1 e
      rw [e] at hb
      dsimp only at hb
      split
      · rename_i e2 g2 q; rw [q] at hb; exact whileN_mono (by omega) hb
      · rename_i e2 g2 q; rw [q] at hb; exact whileN_mono (by omega) hb
      · rfl
      · rfl
      · rfl
      · rfl
    · rfl
    · rfl
theorem sWhile_eq {t : TSm} {f : SS} {n : Nat} {r : RS} (h : whileN t f n env G = r) (hr : r ≠ .bad) : sWhile t f env G = r := by
  have hx : ∃ n, whileN t f n env G ≠ .bad := ⟨n, by rw [h]; exact hr⟩
  unfold sWhile
  rw [dif_pos hx]
  have h1 := hx.choose_spec
  rcases Nat.le_total n hx.choose with hl | hl
  · rw [whileN_mono hl (by rw [h]; exact hr), h]
  · rw [← h, whileN_mono hl h1]
theorem ds_while {c : Expr} {t : TSm} (hp : PassesOwn (model X.prog X.w) X.A X.env X.xe) (hc : DT X T W c t) (hb : DSs X T W body f) : DS X T W (.While c body [] pos) (sWhile t f) :=
  PS_imp (ps_while hp hc hb) fun E σ H ⟨ρ, env, G, sr, p⟩ => by
    unfold sWhile at p
    split at p
    · rename_i hx
      generalize hx.choose = n at p
      refine ⟨fun m σ' H' => ∃ ρ' env' G', SR X T ρ' env' G' σ' H' ∧ PostS X T W ρ' H' (whileN t f m env' G') E, ⟨n, ρ, env, G, sr, p⟩, fun m σ' H' ⟨ρ', env', G', sr', p'⟩ => ?_⟩
      refine ⟨ρ', env', G', sr', ?_⟩
      cases m with
      | zero => exact p'.elim
      | succ m =>
        unfold whileN at p'
        cases q : t env' G' with
        | ok k G1 =>
          rw [q] at p'
          intro ρ1 H1 e1 rg1
          cases k with
          | false =>
            rw [if_neg Bool.false_ne_true]
            exact p' σ' ρ1 H1 e1 (sr'.ext e1 rg1)
          | true =>
            rw [if_pos rfl]
            refine ⟨fun σ2 H2 => ∃ ρ2 env2 G2, SR X T ρ2 env2 G2 σ2 H2 ∧ PostS X T W ρ2 H2 (whileN t f m env2 G2) E, fun σ2 H2 hN => ⟨m, Nat.lt_succ_self m, hN⟩, ρ1, env', G1, sr'.ext e1 rg1, ?_⟩
            dsimp only at p'
            cases q4 : f env' G1 with
            | nx e4 g4 =>
              rw [q4] at p'
              exact fun σ4 ρ4 H4 x4 sr4 => ⟨ρ4, e4, g4, sr4, PostS.ext (e1.trans x4) p'⟩
            | ct e4 g4 =>
              rw [q4] at p'
              exact fun σ4 ρ4 H4 x4 sr4 => ⟨ρ4, e4, g4, sr4, PostS.ext (e1.trans x4) p'⟩
            | bk e4 g4 =>
              rw [q4] at p'
              exact fun σ4 ρ4 H4 x4 sr4 => p' σ4 ρ4 H4 (e1.trans x4) sr4
            | rt d4 g4 =>
              rw [q4] at p'
              exact fun v4 ρ4 H4 x4 => p' v4 ρ4 H4 (e1.trans x4)
            | ex c4 w4 e4 g4 =>
              rw [q4] at p'
              exact fun σ4 ρ4 H4 dd vw x4 => p' σ4 ρ4 H4 dd vw (e1.trans x4)
            | bad => rw [q4] at p'; exact p'
        | ex c w G1 => rw [q] at p'; exact PostS.exE sr' p'
        | bad => rw [q] at p'; exact p'
    · exact p.elim

/-! ### sources -/
/-- a tuple, a list, a text -/
def srcSeq (f : ES) : IS := fun env G => match f env G with
  | .ok (.dat (.tuple ds)) G1 => .ok (ds.map .dat) yesH G1
  | .ok (.mix ds) G1 => .ok ds yesH G1
  | .ok (.fro ds) G1 => .ok (ds.map .dat) yesH G1
  | .ok (.ref l) G1 => (match G1[l]? with
    | some (.lst xs) => .ok xs (fun g => g[l]? = some (.lst xs)) G1
    | none => .bad)
  | .ok (.dat (.str z)) G1 => .ok (z.cps.toList.map fun c => .dat (.str ⟨#[c]⟩)) yesH G1
  | .ok _ _ => .bad
  | .ex c w G1 => .ex c w G1
  | .bad => .bad
theorem sqT_inj_go {K : PySem.W.Frag} {H : Hp} {i : Nat} {x : V} {a : Addr} {vs : List V} (s : SqT K H a vs) (hx : vs[i]? = some x) : (Itt K a).go i H := ⟨vs, x, s, hx⟩
theorem it_tup {a : Addr} {vs : List V} {xs : List D} (rg : RG X.K T ρ G H) (s : SqT X.K H a vs) (r : Reps X.K H ρ xs vs) : ItOk X T ρ H xs yesH (Itt X.K a) := fun ρ' G' H' i e rg' _ => by
  have s' := (e.kt rg).1 a vs s
  have r' := e.reps rg r
  refine ⟨fun d hd => ?_, fun hl => ⟨vs, s', by rw [r.length]; exact hl⟩⟩
  obtain ⟨v, hv, rv⟩ := r'.get hd
  refine ⟨⟨vs, v, s', hv⟩, fun x H2 ⟨e1, e2⟩ => ?_⟩
  subst e1
  have q := e2 vs s'
  rw [hv] at q
  cases q
  exact ⟨Ext.refl, rg', rv⟩
theorem it_fro {a : Addr} {vs : List V} {xs : List D} (rg : RG X.K T ρ G H) (s : FrL X.K H a vs) (r : Reps X.K H ρ xs vs) : ItOk X T ρ H xs yesH (Itl X.K a) := fun ρ' G' H' i e rg' _ => by
  have s' := ((e.kt rg).2 a vs s).sq
  have r' := e.reps rg r
  refine ⟨fun d hd => ?_, fun hl => ⟨vs, s', by rw [r.length]; exact hl⟩⟩
  obtain ⟨v, hv, rv⟩ := r'.get hd
  refine ⟨⟨vs, v, s', hv⟩, fun x H2 ⟨e1, e2⟩ => ?_⟩
  subst e1
  have q := e2 vs s'
  rw [hv] at q
  cases q
  exact ⟨Ext.refl, rg', rv⟩
theorem it_lst {a : Addr} {l : Nat} {xs : List D} (hl : ρ[l]? = some a) : ItOk X T ρ H xs (fun g => g[l]? = some (.lst xs)) (Itl X.K a) := fun ρ' G' H' i e rg' hck => by
  obtain ⟨vs, hv, rs⟩ := rg'.ok l a _ (e.kr l a hl) hck
  refine ⟨fun d hd => ?_, fun hl => ⟨vs, SqL.of hv, by rw [rs.length]; exact hl⟩⟩
  obtain ⟨v, hv2, rv⟩ := rs.get hd
  refine ⟨⟨vs, v, SqL.of hv, hv2⟩, fun x H2 ⟨e1, e2⟩ => ?_⟩
  subst e1
  have q := e2 vs (SqL.of hv)
  rw [hv2] at q
  cases q
  exact ⟨Ext.refl, rg', rv⟩
theorem it_str {z : Str} : ItOk X T ρ H (z.cps.toList.map fun c => .dat (.str ⟨#[c]⟩)) yesH (Its z) := fun ρ' G' H' i e rg' _ => by
  refine ⟨fun d hd => ?_, fun hl => ?_⟩
  · rw [List.getElem?_map, Option.map_eq_some_iff] at hd
    obtain ⟨c, hc, rfl⟩ := hd
    have hc' : z.cps[i]? = some c := by simpa using hc
    refine ⟨(Array.getElem?_eq_some_iff.mp hc').1, fun x H2 ⟨e1, c2, h2, e2⟩ => ?_⟩
    rw [hc'] at h2
    cases h2
    subst e1; subst e2
    exact ⟨Ext.refl, rg', rfl⟩
  · show z.cps.size ≤ i
    simpa using hl
theorem di_seq (he : DE X T W e fe) : DI X T W tg e (srcSeq fe) :=
  PI_imp (PI_or (pi_tup he) (PI_or (pi_list he) (pi_str he))) fun σ H R ⟨ρ, env, G, sr, p⟩ => by
    unfold srcSeq at p
    cases q : fe env G with
    | ok d G1 =>
      rw [q] at p
      split at p
      · rename_i ds G2 h
        injection h with h1 h2
        subst h1; subst h2
        refine .inl ⟨ρ, env, G, sr, ?_⟩
        rw [q]
        intro v ρ1 H1 e1 rg1 ⟨a, vs, ev, sq, rs⟩
        exact ⟨a, ev, ⟨vs, sq⟩, p ρ1 H1 _ e1 rg1 (it_tup rg1 sq rs.reps)⟩
      · rename_i ds G2 h
        injection h with h1 h2
        subst h1; subst h2
        refine .inl ⟨ρ, env, G, sr, ?_⟩
        rw [q]
        intro v ρ1 H1 e1 rg1 ⟨a, vs, ev, sq, rs⟩
        exact ⟨a, ev, ⟨vs, sq⟩, p ρ1 H1 _ e1 rg1 (it_tup rg1 sq rs)⟩
      · rename_i ds G2 h
        injection h with h1 h2
        subst h1; subst h2
        refine .inr (.inl ⟨ρ, env, G, sr, ?_⟩)
        rw [q]
        intro v ρ1 H1 e1 rg1 ⟨a, vs, ev, sq, rs⟩
        exact ⟨a, ev, ⟨vs, sq.sq⟩, p ρ1 H1 _ e1 rg1 (it_fro rg1 sq rs.reps)⟩
      · rename_i l G2 h
        injection h with h1 h2
        subst h1; subst h2
        split at p
        · rename_i xs hx
          refine .inr (.inl ⟨ρ, env, G, sr, ?_⟩)
          rw [q]
          intro v ρ1 H1 e1 rg1 r1
          obtain ⟨a, vs, rfl, hl, sq, rs⟩ := ref_lst rg1 r1 hx
          exact ⟨a, rfl, ⟨vs, SqL.of sq⟩, p ρ1 H1 _ e1 rg1 (it_lst hl)⟩
        · exact p.elim
      · rename_i z G2 h
        injection h with h1 h2
        subst h1; subst h2
        refine .inr (.inr ⟨ρ, env, G, sr, ?_⟩)
        rw [q]
        intro v ρ1 H1 e1 rg1 r1
        exact ⟨z, r1, p ρ1 H1 _ e1 rg1 it_str⟩
      · exact p.elim
      · rename_i h; cases h
      · rename_i h; cases h
    | ex c w G1 =>
      rw [q] at p
      refine .inl ⟨ρ, env, G, sr, ?_⟩
      rw [q]
      exact p
    | bad => rw [q] at p; exact p.elim
def rngD (lo : Int) (n : Nat) : List D := (List.range n).map fun i => .dat (.int (lo + (i : Nat)))
theorem it_rng {lo : Int} {n : Nat} : ItOk X T ρ H (rngD lo n) yesH (Itr lo n) := fun ρ' G' H' i e rg' _ => by
  refine ⟨fun d hd => ?_, fun hl => ?_⟩
  · unfold rngD at hd
    rw [List.getElem?_map, Option.map_eq_some_iff] at hd
    obtain ⟨j, hj, rfl⟩ := hd
    obtain ⟨hj1, hj2⟩ := List.getElem?_eq_some_iff.mp hj
    rw [List.getElem_range] at hj2
    subst hj2
    refine ⟨by show i < n; simpa using hj1, fun x H2 ⟨e1, e2⟩ => ?_⟩
    subst e1; subst e2
    exact ⟨Ext.refl, rg', rfl⟩
  · show n ≤ i
    simpa [rngD] using hl
def okR (i : Int) : Prop := -(2 ^ 62) ≤ i ∧ i < 2 ^ 62
instance (i : Int) : Decidable (okR i) := by unfold okR; infer_instance
def srcRange1 (f : AS) : IS := fun env G => match f env G with
  | .ok [.dat (.int n)] G1 => if okR n then .ok (rngD 0 n.toNat) yesH G1 else .bad
  | .ok _ _ => .bad
  | .ex c w G1 => .ex c w G1
  | .bad => .bad
def srcRange2 (f : AS) : IS := fun env G => match f env G with
  | .ok [.dat (.int i), .dat (.int j)] G1 => if okR i ∧ okR j then .ok (rngD i (j - i).toNat) yesH G1 else .bad
  | .ok _ _ => .bad
  | .ex c w G1 => .ex c w G1
  | .bad => .bad
theorem di_range1 {fa : AS} {p pos : Pos} {a : Expr} (hg : Gl X "range") (hm : X.mg "range" = none) (ha : DA X T W [a] fa) (hs : starEach [a] X.env = [(false, eval a X.env)] := by rfl) : DI X T W tg (.Call (.Name "range" p) [a] [] pos) (srcRange1 fa) :=
  PI_imp (pi_range1 hg hm ha hs) fun σ H R ⟨ρ, env, G, sr, p⟩ => by
    refine ⟨ρ, env, G, sr, ?_⟩
    unfold srcRange1 at p
    cases q : fa env G with
    | ok ds G1 =>
      rw [q] at p
      intro vs ρ1 H1 e1 rg1 rs
      split at p
      · rename_i n G2 h
        injection h with h1 h2
        subst h1; subst h2
        split at p
        · rename_i hn
          obtain ⟨v, rfl, rv⟩ := reps_one rs
          have ev : v = .int n := rv
          subst ev
          exact ⟨n, rfl, hn.1, hn.2, p ρ1 H1 _ e1 rg1 it_rng⟩
        · exact p.elim
      · exact p.elim
      · rename_i h; cases h
      · rename_i h; cases h
    | ex c w G1 => rw [q] at p; exact p
    | bad => rw [q] at p; exact p
theorem di_range2 {fa : AS} {p pos : Pos} {a b : Expr} (hg : Gl X "range") (hm : X.mg "range" = none) (ha : DA X T W [a, b] fa) (hs : starEach [a, b] X.env = [(false, eval a X.env), (false, eval b X.env)] := by rfl) (hs2 : starEach [b] X.env = [(false, eval b X.env)] := by rfl) :
    DI X T W tg (.Call (.Name "range" p) [a, b] [] pos) (srcRange2 fa) :=
  PI_imp (pi_range2 hg hm ha hs hs2) fun σ H R ⟨ρ, env, G, sr, p⟩ => by
    refine ⟨ρ, env, G, sr, ?_⟩
    unfold srcRange2 at p
    cases q : fa env G with
    | ok ds G1 =>
      rw [q] at p
      intro vs ρ1 H1 e1 rg1 rs
      split at p
      · rename_i i j G2 h
        injection h with h1 h2
        subst h1; subst h2
        split at p
        · rename_i hn
          obtain ⟨v, u, rfl, r1, r2⟩ := reps_two rs
          have ev : v = .int i := r1
          have eu : u = .int j := r2
          subst ev; subst eu
          exact ⟨i, j, rfl, ⟨hn.1.1, hn.1.2, hn.2.1, hn.2.2⟩, p ρ1 H1 _ e1 rg1 it_rng⟩
        · exact p.elim
      · exact p.elim
      · rename_i h; cases h
      · rename_i h; cases h
    | ex c w G1 => rw [q] at p; exact p
    | bad => rw [q] at p; exact p

/-! ### enumerate, zip -/
def enumF (k : Nat) : List D → List D
  | [] => []
  | d :: r => mkTup [.dat (.int (k : Nat)), d] :: enumF (k + 1) r
theorem enumF_get : ∀ {k : Nat} {ds : List D} {i : Nat} {e : D}, (enumF k ds)[i]? = some e → ∃ d, ds[i]? = some d ∧ e = mkTup [.dat (.int ((k + i : Nat) : Int)), d]
  | k, [], i, e, h => by simp [enumF] at h
  | k, d :: r, 0, e, h => by
    simp only [enumF, List.getElem?_cons_zero, Option.some.injEq] at h
    exact ⟨d, rfl, h.symm⟩
  | k, d :: r, i + 1, e, h => by
    simp only [enumF, List.getElem?_cons_succ] at h
    obtain ⟨d', h1, h2⟩ := enumF_get h
    refine ⟨d', by simpa using h1, ?_⟩
    rw [h2, show k + 1 + i = k + (i + 1) from by omega]
theorem enumF_length : ∀ (k : Nat) (ds : List D), (enumF k ds).length = ds.length
  | _, [] => rfl
  | k, d :: r => by simp [enumF, enumF_length]
def zipF (a b : List D) : List D := List.zipWith (fun x y => mkTup [x, y]) a b
theorem reps_pair {ρ : List Addr} {H : Hp} {x y : D} {v u : V} (h : Rep X.K H ρ x v) (h2 : Rep X.K H ρ y u) : Reps X.K H ρ [x, y] [v, u] := ⟨v, [u], rfl, h, u, [], rfl, h2, rfl⟩
theorem new_pair {ρ : List Addr} {H : Hp} {G : Hh} (rg : RG X.K T ρ G H) {p : Addr} {x y : D} {v u : V} (hp : H p = none) (h : Rep X.K H ρ x v) (h2 : Rep X.K H ρ y u) :
    Ext ρ H ρ (upd H p (.tup [v, u])) ∧ RG X.K T ρ G (upd H p (.tup [v, u])) ∧ Rep X.K (upd H p (.tup [v, u])) ρ (mkTup [x, y]) (.ref p) :=
  ⟨ext_new hp, rg.ext_same hp, rep_mkTup (SqT.of upd_same) ((ext_new hp).reps rg (reps_pair h h2))⟩
theorem it_enumT {a : Addr} {vs : List V} {xs : List D} (rg : RG X.K T ρ G H) (s : SqT X.K H a vs) (r : Reps X.K H ρ xs vs) : ItOk X T ρ H (enumF 0 xs) yesH (IteT X.K a) := fun ρ' G' H' i e rg' _ => by
  have s' := (e.kt rg).1 a vs s
  have r' := e.reps rg r
  refine ⟨fun d hd => ?_, fun hl => ⟨vs, s', by rw [r.length, ← enumF_length 0]; exact hl⟩⟩
  obtain ⟨d, hd', rfl⟩ := enumF_get hd
  obtain ⟨v, hv, rv⟩ := r'.get hd'
  refine ⟨⟨vs, v, s', hv⟩, fun x H2 ⟨p, y, e1, hp, e2, e3⟩ => ?_⟩
  subst e1; subst e2
  have q := e3 vs s'
  rw [hv] at q
  cases q
  rw [Nat.zero_add]
  exact new_pair rg' hp rfl rv
theorem it_enumL {a : Addr} {l : Nat} {xs : List D} (hl : ρ[l]? = some a) : ItOk X T ρ H (enumF 0 xs) (fun g => g[l]? = some (.lst xs)) (Ite X.K a) := fun ρ' G' H' i e rg' hck => by
  obtain ⟨vs, hv, rs⟩ := rg'.ok l a _ (e.kr l a hl) hck
  refine ⟨fun d hd => ?_, fun hl => ⟨vs, SqL.of hv, by rw [rs.length, ← enumF_length 0]; exact hl⟩⟩
  obtain ⟨d, hd', rfl⟩ := enumF_get hd
  obtain ⟨v, hv2, rv⟩ := rs.get hd'
  refine ⟨⟨vs, v, SqL.of hv, hv2⟩, fun x H2 ⟨p, y, e1, hp, e2, e3⟩ => ?_⟩
  subst e1; subst e2
  have q := e3 vs (SqL.of hv)
  rw [hv2] at q
  cases q
  rw [Nat.zero_add]
  exact new_pair rg' hp rfl rv
theorem it_zipT {a b : Addr} {vs ws : List V} {xs ys : List D} (rg : RG X.K T ρ G H) (s : SqT X.K H a vs) (r : Reps X.K H ρ xs vs) (s2 : SqT X.K H b ws) (r2 : Reps X.K H ρ ys ws) : ItOk X T ρ H (zipF xs ys) yesH (RZ.ItzT X.K a b) := fun ρ' G' H' i e rg' _ => by
  have s' := (e.kt rg).1 a vs s
  have s2' := (e.kt rg).1 b ws s2
  have r' := e.reps rg r
  have r2' := e.reps rg r2
  refine ⟨fun d hd => ?_, fun hl => ⟨vs, ws, s', s2', ?_⟩⟩
  · unfold zipF at hd
    rw [List.getElem?_zipWith_eq_some] at hd
    obtain ⟨d1, d2, h1, h2, rfl⟩ := hd
    obtain ⟨v, hv, rv⟩ := r'.get h1
    obtain ⟨u, hu, ru⟩ := r2'.get h2
    refine ⟨⟨vs, ws, v, u, s', s2', hv, hu⟩, fun x H2 ⟨p, y, z, e1, hp, e2, e3, e4⟩ => ?_⟩
    subst e1; subst e2
    have q := e3 vs s'
    rw [hv] at q
    cases q
    have q := e4 ws s2'
    rw [hu] at q
    cases q
    exact new_pair rg' hp rv ru
  · unfold zipF at hl
    rw [List.length_zipWith] at hl
    rw [r.length, r2.length]
    omega
theorem it_zipL {a b : Addr} {l m : Nat} {xs ys : List D} (hl : ρ[l]? = some a) (hm : ρ[m]? = some b) : ItOk X T ρ H (zipF xs ys) (fun g => g[l]? = some (.lst xs) ∧ g[m]? = some (.lst ys)) (Itz X.K a b) := fun ρ' G' H' i e rg' hck => by
  obtain ⟨vs, hv, rs⟩ := rg'.ok l a _ (e.kr l a hl) hck.1
  obtain ⟨ws, hw, rs2⟩ := rg'.ok m b _ (e.kr m b hm) hck.2
  refine ⟨fun d hd => ?_, fun hl => ⟨vs, ws, SqL.of hv, SqL.of hw, ?_⟩⟩
  · unfold zipF at hd
    rw [List.getElem?_zipWith_eq_some] at hd
    obtain ⟨d1, d2, h1, h2, rfl⟩ := hd
    obtain ⟨v, hv', rv⟩ := rs.get h1
    obtain ⟨u, hu, ru⟩ := rs2.get h2
    refine ⟨⟨vs, ws, v, u, SqL.of hv, SqL.of hw, hv', hu⟩, fun x H2 ⟨p, y, z, e1, hp, e2, e3, e4⟩ => ?_⟩
    subst e1; subst e2
    have q := e3 vs (SqL.of hv)
    rw [hv'] at q
    cases q
    have q := e4 ws (SqL.of hw)
    rw [hu] at q
    cases q
    exact new_pair rg' hp rv ru
  · unfold zipF at hl
    rw [List.length_zipWith] at hl
    rw [rs.length, rs2.length]
    omega
def iEnumT (K : PySem.W.Frag) (ta : TA) : TI := fun σ H R => ta σ H fun vs H1 => ∃ a xs, vs = [.ref a] ∧ SqT K H1 a xs ∧ R (IteT K a) H1
theorem pi_enumT {X : Cx} {e : Expr} {ta : TA} {p pos tpos : Pos} {elts : List Expr} {kk : Nat} (hg : Gl X "enumerate") (hm : X.mg "enumerate" = none) (ha : PA X [e] ta) (hs : starEach [e] X.env = [(false, eval e X.env)] := by rfl) :
    PI X (.Tuple elts kk tpos) (.Call (.Name "enumerate" p) [e] [] pos) (iEnumT X.K ta) := by
  refine ⟨fun pins s σ H R I h => ?_⟩
  refine Call_ (ld_blt I hg hm boot_enumerate (PyProof.Rows.callWith_type1 (thn (ha.run pos pins s σ H _ I h) fun us s1 ⟨vs, H1, I1, r1, q1⟩ => ?_) hs rfl))
  obtain ⟨a, xs, ex, hq, q⟩ := q1
  subst ex
  cases r1 with
  | cons r rr =>
    cases rr
    cases r
    obtain ⟨its, rv, p', hz⟩ := I1.tuple hq
    refine enum_begins1 (begins_tuple a its.toArray) p' fun h' he hit hsz hk => wpAny_pyIter_enum he ?_
    have I2 : Inv X pins σ H1 { s1 with heap := h' } := I1.kept (t' := s1.toks) hk
    refine ⟨s1.heap.objs.size + 1, [s1.heap.objs.size + 1, s1.heap.objs.size], _, _, H1, rfl, I2, turn_enumT a (s1.heap.objs.size + 1) s1.heap.objs.size, ⟨⟨.none, he⟩, ⟨_, hit, rfl, rfl⟩, Nat.succ_ne_self _⟩, fun b hb => ?_, q⟩
    have e' : b = s1.heap.objs.size + 1 ∨ b = s1.heap.objs.size := by simpa using hb
    have hle : s1.heap.objs.size ≤ b := by
      rcases e' with z | z
      · rw [z]; exact Nat.le_add_right _ _
      · rw [z]; exact Nat.le_refl _
    exact I1.fpOk hle (I1.hok.fresh hle)
def srcEnum (f : AS) : IS := fun env G => match f env G with
  | .ok [.dat (.tuple ds)] G1 => .ok (enumF 0 (ds.map .dat)) yesH G1
  | .ok [.ref l] G1 => (match G1[l]? with
    | some (.lst xs) => .ok (enumF 0 xs) (fun g => g[l]? = some (.lst xs)) G1
    | none => .bad)
  | .ok _ _ => .bad
  | .ex c w G1 => .ex c w G1
  | .bad => .bad
theorem di_enum {fa : AS} {p pos tpos : Pos} {elts : List Expr} {kk : Nat} (hg : Gl X "enumerate") (hm : X.mg "enumerate" = none) (ha : DA X T W [e] fa) (hs : starEach [e] X.env = [(false, eval e X.env)] := by rfl) :
    DI X T W (.Tuple elts kk tpos) (.Call (.Name "enumerate" p) [e] [] pos) (srcEnum fa) :=
  PI_imp (PI_or (pi_enumT hg hm ha hs) (pi_enum hg hm ha hs)) fun σ H R ⟨ρ, env, G, sr, p⟩ => by
    unfold srcEnum at p
    cases q : fa env G with
    | ok ds G1 =>
      rw [q] at p
      split at p
      · rename_i es G2 h
        injection h with h1 h2
        subst h1; subst h2
        refine .inl ⟨ρ, env, G, sr, ?_⟩
        rw [q]
        intro vs ρ1 H1 e1 rg1 rs
        obtain ⟨v, rfl, a, ws, rfl, sq, rr⟩ := reps_one rs
        exact ⟨a, ws, rfl, sq, p ρ1 H1 _ e1 rg1 (it_enumT rg1 sq rr.reps)⟩
      · rename_i l G2 h
        injection h with h1 h2
        subst h1; subst h2
        split at p
        · rename_i xs hx
          refine .inr ⟨ρ, env, G, sr, ?_⟩
          rw [q]
          intro vs ρ1 H1 e1 rg1 rs
          obtain ⟨v, rfl, rv⟩ := reps_one rs
          obtain ⟨a, ws, rfl, hl, sq, rr⟩ := ref_lst rg1 rv hx
          exact ⟨a, ws, rfl, SqL.of sq, p ρ1 H1 _ e1 rg1 (it_enumL hl)⟩
        · exact p.elim
      · exact p.elim
      · rename_i h; cases h
      · rename_i h; cases h
    | ex c w G1 =>
      rw [q] at p
      refine .inl ⟨ρ, env, G, sr, ?_⟩
      rw [q]
      exact p
    | bad => rw [q] at p; exact p.elim
def srcZip (f : AS) : IS := fun env G => match f env G with
  | .ok [.dat (.tuple ds), .dat (.tuple es)] G1 => .ok (zipF (ds.map .dat) (es.map .dat)) yesH G1
  | .ok [.ref l, .ref m] G1 => (match G1[l]?, G1[m]? with
    | some (.lst xs), some (.lst ys) => .ok (zipF xs ys) (fun g => g[l]? = some (.lst xs) ∧ g[m]? = some (.lst ys)) G1
    | _, _ => .bad)
  | .ok _ _ => .bad
  | .ex c w G1 => .ex c w G1
  | .bad => .bad
theorem di_zip {e2 : Expr} {fa : AS} {p pos tpos : Pos} {elts : List Expr} {kk : Nat} (hg : Gl X "zip") (hm : X.mg "zip" = none) (ha : DA X T W [e, e2] fa)
    (hs : starEach [e, e2] X.env = (false, eval e X.env) :: starEach [e2] X.env := by rfl) (hpl : (backTo pos (starEach [e2] X.env)).any (·.1) = false := by rfl) :
    DI X T W (.Tuple elts kk tpos) (.Call (.Name "zip" p) [e, e2] [] pos) (srcZip fa) :=
  PI_imp (RZ.pi_zipA hg hm ha hs hpl) fun σ H R ⟨ρ, env, G, sr, p⟩ => by
    refine ⟨ρ, env, G, sr, ?_⟩
    unfold srcZip at p
    cases q : fa env G with
    | ok ds G1 =>
      rw [q] at p
      intro vs ρ1 H1 e1 rg1 rs
      split at p
      · rename_i d1 d2 G2 h
        injection h with h1 h2
        subst h1; subst h2
        obtain ⟨v, u, rfl, ⟨a, ws, rfl, sq, rr⟩, ⟨b, zs, rfl, sq2, rr2⟩⟩ := reps_two rs
        exact ⟨a, b, ws, zs, rfl, .inr ⟨sq, sq2, p ρ1 H1 _ e1 rg1 (it_zipT rg1 sq rr.reps sq2 rr2.reps)⟩⟩
      · rename_i l m G2 h
        injection h with h1 h2
        subst h1; subst h2
        split at p
        · rename_i xs ys hx hy
          obtain ⟨v, u, rfl, rv, ru⟩ := reps_two rs
          obtain ⟨a, ws, rfl, hl, sq, rr⟩ := ref_lst rg1 rv hx
          obtain ⟨b, zs, rfl, hm, sq2, rr2⟩ := ref_lst rg1 ru hy
          exact ⟨a, b, ws, zs, rfl, .inl ⟨SqL.of sq, SqL.of sq2, p ρ1 H1 _ e1 rg1 (it_zipL hl hm)⟩⟩
        · exact p.elim
      · exact p.elim
      · rename_i h; cases h
      · rename_i h; cases h
    | ex c w G1 => rw [q] at p; exact p
    | bad => rw [q] at p; exact p
end
end DL

set_option Elab.async false
set_option linter.all false
set_option maxRecDepth 100000
set_option maxHeartbeats 1000000
namespace DL
open PySem PySem.Spec PyProof.Rows L2
open Classical

/-! ### defs -/
abbrev FS := List D → Hh → RE
def PostF (K : PySem.W.Frag) (T : TbT) (ρ : List Addr) (H : Hp) (r : RE) (Q : VK) (E : XK) : Prop :=
  match r with
  | .ok d G' => ∀ v ρ' H', Ext ρ H ρ' H' → RG K T ρ' G' H' → Rep K H' ρ' d v → Q v H'
  | .ex c w G' => ∀ ρ' H' dd vw, Ext ρ H ρ' H' → RG K T ρ' G' H' → Xd K c H' dd vw → Rep K H' ρ' w vw → E (.ref c) (some dd) H'
  | .bad => False
structure FnD (P : Program) (w : World) (K : PySem.W.Frag) (mg : Str → Option Value) (base : Heap) (T : TbT) (k : Nat) (f : Addr) (fd : FuncData) (ps : List Str) (sem : FS) : Prop where
  run : ∀ (A : Around) (outer : List Env) (s : Shared) (H : Hp) (args : Args) (us : List Value) (vs : List V) (Q : VK) (E : XK) (ρ : List Addr) (G : Hh) (ds : List D), Room k A → A.guards = some [] → Env0 P w K mg base A outer s H → BindsTo s fd args (ps.zip us) → Vals vs us →
    vs.length = ps.length → RG K T ρ G H → Reps K H ρ ds vs → PostF K T ρ H (sem ds G) Q E → codeAny (model P w) A (.call (.ref f) args) (CR (L2.CX P w) outer P w H s Q E) s
theorem FnD.mono {P : Program} {w : World} {K : PySem.W.Frag} {mg : Str → Option Value} {base : Heap} {T : TbT} {j k : Nat} {f : Addr} {fd : FuncData} {ps : List Str} {sem : FS} (F : FnD P w K mg base T j f fd ps sem) (h : j ≤ k) : FnD P w K mg base T k f fd ps sem :=
  ⟨fun A outer s H args us vs Q E ρ G ds hr => F.run A outer s H args us vs Q E ρ G ds (hr.mono h)⟩
def fnD (N : Nat) (body : SS) : FS := fun ds G => match body (ds.map .d ++ List.replicate (N - ds.length) .no) G with
  | .nx _ G' => .ok (.dat .none) G'
  | .rt d G' => .ok d G'
  | .ex c w _ G' => .ex c w G'
  | _ => .bad
section
variable {P : Program} {w : World} {K : PySem.W.Frag} {mg : Str → Option Value} {base : Heap} {T : TbT}
theorem envR_start {ρ : List Addr} {H : Hp} {pn : List (Addr × Obj)} {N : List Str} {ds : List D} {vs : List V} (h : Reps K H ρ ds vs) (hl : vs.length ≤ N.length) :
    EnvR K pn H ρ (ds.map .d ++ List.replicate (N.length - ds.length) .no) (L2.start N vs) := by
  have e := h.length
  refine ⟨by unfold L2.start; simp [e], fun i s hi => ?_⟩
  unfold L2.start
  by_cases hlt : i < ds.length
  · rw [List.getElem?_append_left (by simpa using hlt), List.getElem?_map, Option.map_eq_some_iff] at hi
    obtain ⟨d, hd, rfl⟩ := hi
    obtain ⟨v, hv, rv⟩ := h.get hd
    exact ⟨some v, by rw [List.getElem?_append_left (by simp [e]; exact hlt), List.getElem?_map, hv]; rfl, v, rfl, rv⟩
  · rw [List.getElem?_append_right (by simpa using hlt)] at hi
    have h2 := (List.getElem?_eq_some_iff.mp hi).1
    have h3 : s = .no := by
      have := List.mem_of_getElem? hi
      simp at this
      exact this.2
    subst h3
    simp at h2
    have hn : i - vs.length < N.length - vs.length := by omega
    exact ⟨none, by rw [List.getElem?_append_right (by simp [e]; omega), List.getElem?_replicate]; simp [e]; omega, trivial⟩
/-- the wish of a def's body -/
abbrev WE' (E : XK) : WX := fun cls d _ H => E cls d H
theorem FnD.of {x qual : Str} {st : Stmt} {f : Addr} {fd : FuncData} {N ps : List Str} {k : Nat} {body : SS} (F : Fun K x qual st f fd) (S : FnScope N ps (defScope st))
    (hbody : ∀ (cdv : Value) (A : Around) (outer : List Env) (s : Shared) (H : Hp) (E : XK), Room k (A.deeper (envOfC qual (defScope st) s.heap.objs.size f cdv)) → (A.deeper (envOfC qual (defScope st) s.heap.objs.size f cdv)).guards = some [] → PySem.W.codeIn K cdv qual = true →
      DSs (cxOf (L2.CX P w) P w K mg base N qual (defScope st) f cdv A outer s H E) T (WE' E) (defBody st) body) : FnD P w K mg base T (k + 1) f fd ps (fnD N.length body) := by
  obtain ⟨oc, od, kV, doc, pm, an, cdv, ct, osl, rfl, lk, hcd⟩ := F.ex
  refine ⟨fun A outer s H args us vs Q E ρ G ds hr hgd e0 hb r hl rg rs hsp => ?_⟩
  have KX : K.In s.heap := e0.mod.kin.keeps fun b o e => (e0.bs b o e).1
  have lm : s.heap.NoLimit := e0.mod.nolimit.keeps fun b o e => (e0.bs b o e).1
  have hkind : ∀ y ∈ ps.zip us, (defScope st).names.lookup y.1 = some .local ∨ ((defScope st).names.lookup y.1 = some .cell ∧ ((cellsFrom (s.heap.objs.size + 1) (defScope st).names []).lookup y.1).isSome = true) := fun ⟨n, v⟩ hy => by
    rcases S.par n (List.of_mem_zip hy).1 with q | q
    · exact .inl q
    · exact .inr ⟨q, PySem.W.cellsFrom_some _ _ _ (.inl q)⟩
  refine codeAny_call_function hr.depth (KX _ _ lk) rfl S.co S.gen rfl (PySem.W.codeRec_of KX hcd) (hb _ _ _ _ ?_)
  refine wpAny_newFunctionEnv_cells S.kind hkind fun env he s1 x => ?_
  subst he
  refine ⟨lm.keeps x.toInCall.keep, codeAny_func ?_⟩
  have ht := hbody cdv A outer s H E (hr.deeper _) hgd hcd
  have I : Inv (cxOf (L2.CX P w) P w K mg base N qual (defScope st) f cdv A outer s H E) [] (L2.start N vs) H s1 := inv_start S hr.hd e0 hl r x
  have hpl : vs.length ≤ N.length := by
    have := congrArg List.length S.pre
    rw [List.length_take] at this
    omega
  have hq : tS (cxOf (L2.CX P w) P w K mg base N qual (defScope st) f cdv A outer s H E) T (WE' E) body { nx := fun _ H' => Q .non H', rt := Q } (L2.start N vs) H := by
    refine ⟨ρ, _, G, ⟨rg, envR_start rs hpl⟩, ?_⟩
    unfold fnD at hsp
    split at hsp
    · rename_i env' G' e
      rw [e]
      exact fun σ' ρ' H' e1 sr1 => hsp .non ρ' H' e1 sr1.rg rfl
    · rename_i d G' e
      rw [e]
      exact hsp
    · rename_i c w env' G' e
      rw [e]
      exact fun σ' ρ' H' dd vw e1 sr1 => hsp ρ' H' dd vw e1 sr1.rg
    · exact hsp.elim
  refine wpAny_mono (ht.run [] s1 (L2.start N vs) H _ I hq) (fun fl s' hs => ?_) fun e s' hs => hs
  have fin : ∀ {σ' : L2.St} {H' : Hp} {v : V} {u : Value}, Inv (cxOf (L2.CX P w) P w K mg base N qual (defScope st) f cdv A outer s H E) [] σ' H' s' → RelV v u → Q v H' → CE outer P w H s Q u s' :=
    fun {σ' H' v u} J rv q => ⟨v, H', J.os, J.bare, J.base, J.hok, rv, q⟩
  cases fl with
  | ret u =>
    obtain ⟨v, σ', H', J, rv, q⟩ := hs
    exact fin J rv q
  | next =>
    obtain ⟨σ', H', J, q⟩ := hs
    exact fin (v := V.non) (u := Value.none) J rfl q
  | brk =>
    obtain ⟨_, _, _, q⟩ := hs
    exact False.elim q
  | cont =>
    obtain ⟨_, _, _, q⟩ := hs
    exact False.elim q
/-- what leaves the body is taken -/
theorem takes_fn {N : List Str} {qual : Str} {scope : Scope} {f : Addr} {cd : Value} {A : Around} {outer : List Env} {s : Shared} {H : Hp} {E : XK} :
    Takes (cxOf (L2.CX P w) P w K mg base N qual scope f cd A outer s H E) (WE' E) := takes_of rfl rfl rfl rfl
theorem owns_fn {N : List Str} {qual : Str} {scope : Scope} {f : Addr} {cd : Value} {A : Around} {outer : List Env} {s : Shared} {H : Hp} {E : XK} :
    PassesOwn (model (cxOf (L2.CX P w) P w K mg base N qual scope f cd A outer s H E).prog (cxOf (L2.CX P w) P w K mg base N qual scope f cd A outer s H E).w) (cxOf (L2.CX P w) P w K mg base N qual scope f cd A outer s H E).A (cxOf (L2.CX P w) P w K mg base N qual scope f cd A outer s H E).env (cxOf (L2.CX P w) P w K mg base N qual scope f cd A outer s H E).xe := by
  exact passes_of (X := cxOf (L2.CX P w) P w K mg base N qual scope f cd A outer s H E) (K := fun e s'' => L2.CX P w outer H s E e s'') (E₁ := fun e s'' => L2.CX P w outer H s E e s'') rfl
end

/-! ### calls -/
section
variable {X : Cx} {T : TbT} {W : WX} {k : Nat} {f : Addr} {fd : FuncData} {ps : List Str} {sem : FS} {x : Str} {p pos : Pos} {e : Expr} {es : List Expr} {fs : AS}
def eCallA (n : Nat) (sem : FS) (fs : AS) : ES := fun env G => match fs env G with
  | .ok ds G1 => if ds.length = n then sem ds G1 else .bad
  | .ex c w G1 => .ex c w G1
  | .bad => .bad
theorem run_fnD {pins : List (Addr × Obj)} {σ : L2.St} {H : Hp} {s : Shared} {Q : VK} {us : List Value} {vs : List V} {ρ : List Addr} {G : Hh} {ds : List D} (F : FnD X.prog X.w X.K X.mg X.base T k f fd ps sem) (tk : Takes X W) (hr : Room k X.A) (hgd : X.A.guards = some []) (hb : Binds X.K fd ps [])
    (I : Inv X pins σ H s) (r : Vals vs us) (hl : ds.length = ps.length) (rg : RG X.K T ρ G H) (rs : Reps X.K H ρ ds vs) (h : PostE X T W σ ρ H (sem ds G) Q) : wpAny (model X.prog X.w) X.A (call (.ref f) us) (EP X pins σ Q) X.xe s := by
  have hl' : us.length = ps.length := by rw [← r.length, rs.length]; exact hl
  have h2 : PostF X.K T ρ H (sem ds G) Q (WE W σ) := by
    revert h
    cases sem ds G with
    | ok d G' => exact fun h => h
    | ex c w G' => exact fun h => h
    | bad => exact fun h => h
  have hbt := hb s us I.kIn (by simpa using hl')
  rw [List.append_nil] at hbt
  refine wpAny_call (codeAny_mono (F.run X.A X.stack s H ⟨us, []⟩ us vs Q (WE W σ) ρ G ds hr hgd I.env0 hbt r (by rw [rs.length]; exact hl) rg rs h2) fun r s' hq => ?_)
  cases r with
  | error e => exact passAt tk σ pins H s e s' I hq
  | ok fl =>
    cases fl with
    | ret u => exact I.after hq
    | next => exact False.elim hq
    | brk => exact False.elim hq
    | cont => exact False.elim hq
theorem de_callA (F : FnD X.prog X.w X.K X.mg X.base T k f fd ps sem) (tk : Takes X W) (hr : Room k X.A) (hgd : X.A.guards = some []) (hg : Gl X x) (hm : X.mg x = some (.ref f)) (hk : PySem.W.keepIn X.K (.ref f) = true) (hb : Binds X.K fd ps [])
    (ha : DA X T W (e :: es) fs) (hdb : (x == ("__debug__" : Str)) = false := by decide) (he : starEach (e :: es) X.env = (false, eval e X.env) :: starEach es X.env := by rfl) (hpl : (backTo pos (starEach es X.env)).any (·.1) = false := by rfl) :
    DE X T W (.Call (.Name x p) (e :: es) [] pos) (eCallA ps.length sem fs) := by
  refine ⟨fun pins s σ H Q I ⟨ρ, env, G, sr, q⟩ => ?_⟩
  refine wpAny_Call_Name_kw (ld_glob I hg hm ?_ hdb)
  unfold eCallA at q
  refine PySem.W.callWith_K (h₀ := X.base) I.ok.mod.kin hk (thn (ha.run pos pins s σ H (fun vs H1 => ∃ ρ1 G1 ds, ds.length = ps.length ∧ RG X.K T ρ1 G1 H1 ∧ Reps X.K H1 ρ1 ds vs ∧ PostE X T W σ ρ1 H1 (sem ds G1) Q) I ⟨ρ, env, G, sr, ?_⟩) fun us s1 ⟨vs, H1, I1, r, ρ1, G1, ds, hl, rg, rs, q1⟩ => ⟨I1.kIn, ?_⟩) he hpl
  · cases q2 : fs env G with
    | ok ds G1 =>
      rw [q2] at q
      dsimp only at q
      split at q
      · rename_i hl
        exact fun vs ρ1 H1 e1 rg1 rs => ⟨ρ1, G1, ds, hl, rg1, rs, PostE.ext e1 q⟩
      · exact q.elim
    | ex c w G1 => rw [q2] at q; exact q
    | bad => rw [q2] at q; exact q
  · exact run_fnD F tk hr hgd hb I1 r hl rg rs q1
end

/-! ### a def over its own objects alone -/
mutual
def clean : D → Bool
  | .ref _ => false
  | .mix xs => cleans xs
  | _ => true
def cleans : List D → Bool
  | [] => true
  | d :: ds => clean d && cleans ds
end
section
variable {K : PySem.W.Frag} {H H' : Hp} {ρ ρ' : List Addr}
mutual
theorem Rep.clean (kt : KT K H H') : ∀ (d : D) (v : V), clean d = true → Rep K H ρ d v → Rep K H' ρ' d v
  | .dat d, v, _, h => RepP.mono kt d v h
  | .ref l, v, c, h => by cases c
  | .obj _, _, _, h => h
  | .mix ds, v, c, h => by
    obtain ⟨a, vs, e, s, r⟩ := h
    exact ⟨a, vs, e, kt.1 a vs s, Reps.clean kt ds vs (by simpa [DL.clean] using c) r⟩
  | .fro ds, v, _, h => by
    obtain ⟨a, vs, e, s, r⟩ := h
    exact ⟨a, vs, e, kt.2 a vs s, RepPs.mono kt ds vs r⟩
  | .ty _, _, _, h => h
theorem Reps.clean (kt : KT K H H') : ∀ (ds : List D) (vs : List V), cleans ds = true → Reps K H ρ ds vs → Reps K H' ρ' ds vs
  | [], _, _, h => h
  | d :: ds, vs, c, h => by
    obtain ⟨v, r, e, h1, h2⟩ := h
    simp only [cleans, Bool.and_eq_true] at c
    exact ⟨v, r, e, Rep.clean kt d v c.1 h1, Reps.clean kt ds r c.2 h2⟩
end
theorem KT.refl : KT K H H := ⟨fun _ _ h => h, fun _ _ h => h⟩
end
/-- the objects that are handed over, in order -/
def refs : List D → List Nat
  | [] => []
  | .ref l :: r => l :: refs r
  | _ :: r => refs r
def renum : Nat → List D → List D
  | _, [] => []
  | k, .ref _ :: r => .ref k :: renum (k + 1) r
  | k, d :: r => d :: renum k r
/-- what is handed over by value is clean -/
def argsOk : List D → Bool
  | [] => true
  | .ref _ :: r => argsOk r
  | d :: r => clean d && argsOk r
def moClean : MO → Bool
  | .lst xs => cleans xs
def writeBack (G : Hh) : List Nat → Hh → Hh
  | l :: ls, m :: ms => writeBack (G.set l m) ls ms
  | _, _ => G
def pick (G : Hh) (ls : List Nat) : Hh := ls.map fun l => G.getD l (.lst [])
/-- what the callee's outcome is for the caller -/
noncomputable def relOut (G : Hh) (ls : List Nat) : RE → RE
  | .ok d G1 => if ls.length ≤ G1.length ∧ (G1.take ls.length).all moClean = true then
      (if clean d = true then .ok d (writeBack G ls G1) else
        match d with
        | .ref m => (match G1[m]? with
          | some mo => if ls.length ≤ m ∧ moClean mo = true then .ok (.ref G.length) (writeBack G ls G1 ++ [mo]) else .bad
          | none => .bad)
        | .mix [.dat x, .ref m] => (match G1[m]? with
          | some mo => if ls.length ≤ m ∧ moClean mo = true then .ok (.mix [.dat x, .ref G.length]) (writeBack G ls G1 ++ [mo]) else .bad
          | none => .bad)
        | _ => .bad) else .bad
  | .ex c w G1 => if ls.length ≤ G1.length ∧ (G1.take ls.length).all moClean = true ∧ clean w = true then .ex c w (writeBack G ls G1) else .bad
  | .bad => .bad
noncomputable def relCall (sem : FS) : FS := fun ds G =>
  if (refs ds).Nodup ∧ (∀ l ∈ refs ds, l < G.length) ∧ argsOk ds = true ∧ (pick G (refs ds)).all moClean = true then relOut G (refs ds) (sem (renum 0 ds) (pick G (refs ds))) else .bad
section
variable {P : Program} {w : World} {K : PySem.W.Frag} {mg : Str → Option Value} {base : Heap} {T : TbT} {k : Nat} {f : Addr} {fd : FuncData} {ps : List Str} {sem : FS}
theorem writeBack_length : ∀ (ls : List Nat) (G M : Hh), (writeBack G ls M).length = G.length
  | [], G, M => by cases M <;> rfl
  | l :: ls, G, [] => rfl
  | l :: ls, G, m :: ms => by
    show (writeBack (G.set l m) ls ms).length = _
    rw [writeBack_length ls]; simp
theorem writeBack_other : ∀ {ls : List Nat} {G M : Hh} {j : Nat}, j ∉ ls → (writeBack G ls M)[j]? = G[j]?
  | [], G, M, j, _ => by cases M <;> rfl
  | l :: ls, G, [], j, _ => rfl
  | l :: ls, G, m :: ms, j, h => by
    show (writeBack (G.set l m) ls ms)[j]? = _
    rw [writeBack_other (fun z => h (List.mem_cons_of_mem _ z)), List.getElem?_set_ne (fun z => h (by rw [z]; exact List.mem_cons_self))]
theorem writeBack_at : ∀ {ls : List Nat} {G M : Hh} {i l : Nat}, ls.Nodup → ls.length ≤ M.length → (∀ l ∈ ls, l < G.length) → ls[i]? = some l → (writeBack G ls M)[l]? = M[i]?
  | [], _, _, _, _, _, _, _, e => by simp at e
  | l :: ls, G, [], i, j, _, h, _, _ => by simp at h
  | l :: ls, G, m :: ms, 0, j, nd, h, hG, e => by
    have e : l = j := by simpa using e
    subst e
    show (writeBack (G.set l m) ls ms)[l]? = some m
    rw [writeBack_other (List.nodup_cons.mp nd).1, List.getElem?_set_self (hG l List.mem_cons_self)]
  | l :: ls, G, m :: ms, i + 1, j, nd, h, hG, e => by
    show (writeBack (G.set l m) ls ms)[j]? = ms[i]?
    exact writeBack_at (List.nodup_cons.mp nd).2 (by simpa using h) (fun q hq => by simpa using hG q (List.mem_cons_of_mem _ hq)) (by simpa using e)
theorem refs_addr {ρ : List Addr} {H : Hp} : ∀ {ds : List D} {vs : List V}, Reps K H ρ ds vs → ∀ l ∈ refs ds, ∃ a, ρ[l]? = some a
  | [], _, _, l, hl => by simp [refs] at hl
  | .ref m :: ds, _, h, l, hl => by
    obtain ⟨v, r, rfl, ⟨a, ha, _⟩, h2⟩ := h
    rcases List.mem_cons.mp hl with e | hl
    · exact ⟨a, by rw [e]; exact ha⟩
    · exact refs_addr h2 l hl
  | .dat _ :: ds, _, h, l, hl => by obtain ⟨v, r, rfl, _, h2⟩ := h; exact refs_addr h2 l hl
  | .obj _ :: ds, _, h, l, hl => by obtain ⟨v, r, rfl, _, h2⟩ := h; exact refs_addr h2 l hl
  | .mix _ :: ds, _, h, l, hl => by obtain ⟨v, r, rfl, _, h2⟩ := h; exact refs_addr h2 l hl
  | .fro _ :: ds, _, h, l, hl => by obtain ⟨v, r, rfl, _, h2⟩ := h; exact refs_addr h2 l hl
  | .ty _ :: ds, _, h, l, hl => by obtain ⟨v, r, rfl, _, h2⟩ := h; exact refs_addr h2 l hl
/-- the addresses of some objects -/
def addrs (ρ : List Addr) (ls : List Nat) : List Addr := ls.map fun l => ρ.getD l 0
theorem addrs_get {ρ : List Addr} {ls : List Nat} {i l : Nat} (h : ls[i]? = some l) (hl : l < ρ.length) : (addrs ρ ls)[i]? = ρ[l]? := by
  unfold addrs
  rw [List.getElem?_map, h]
  simp [List.getD, List.getElem?_eq_getElem hl]
theorem reps_renum {ρ ρs : List Addr} {H : Hp} : ∀ {ds : List D} {vs : List V} {k : Nat}, Reps K H ρ ds vs → argsOk ds = true → (∀ i l, (refs ds)[i]? = some l → ρs[k + i]? = ρ[l]?) → Reps K H ρs (renum k ds) vs
  | [], _, _, h, _, _ => h
  | .ref m :: ds, _, k, h, c, hs => by
    obtain ⟨v, r, rfl, ⟨a, ha, hv⟩, h2⟩ := h
    have := hs 0 m rfl
    refine ⟨v, r, rfl, ⟨a, by rw [Nat.add_zero] at this; rw [this]; exact ha, hv⟩, reps_renum h2 (by simpa [argsOk] using c) fun i l hi => ?_⟩
    have q := hs (i + 1) l (by simpa [refs] using hi)
    rw [← q]; congr 1; omega
  | .dat _ :: ds, _, k, h, c, hs => by
    obtain ⟨v, r, rfl, h1, h2⟩ := h
    simp only [argsOk, Bool.and_eq_true] at c
    exact ⟨v, r, rfl, Rep.clean KT.refl _ _ c.1 h1, reps_renum h2 c.2 hs⟩
  | .obj _ :: ds, _, k, h, c, hs => by
    obtain ⟨v, r, rfl, h1, h2⟩ := h
    simp only [argsOk, Bool.and_eq_true] at c
    exact ⟨v, r, rfl, Rep.clean KT.refl _ _ c.1 h1, reps_renum h2 c.2 hs⟩
  | .mix _ :: ds, _, k, h, c, hs => by
    obtain ⟨v, r, rfl, h1, h2⟩ := h
    simp only [argsOk, Bool.and_eq_true] at c
    exact ⟨v, r, rfl, Rep.clean KT.refl _ _ c.1 h1, reps_renum h2 c.2 hs⟩
  | .fro _ :: ds, _, k, h, c, hs => by
    obtain ⟨v, r, rfl, h1, h2⟩ := h
    simp only [argsOk, Bool.and_eq_true] at c
    exact ⟨v, r, rfl, Rep.clean KT.refl _ _ c.1 h1, reps_renum h2 c.2 hs⟩
  | .ty _ :: ds, _, k, h, c, hs => by
    obtain ⟨v, r, rfl, h1, h2⟩ := h
    simp only [argsOk, Bool.and_eq_true] at c
    exact ⟨v, r, rfl, Rep.clean KT.refl _ _ c.1 h1, reps_renum h2 c.2 hs⟩
theorem renum_length : ∀ (k : Nat) (ds : List D), (renum k ds).length = ds.length
  | _, [] => rfl
  | k, .ref _ :: r => by simp [renum, renum_length]
  | k, .dat _ :: r => by simp [renum, renum_length]
  | k, .obj _ :: r => by simp [renum, renum_length]
  | k, .mix _ :: r => by simp [renum, renum_length]
  | k, .fro _ :: r => by simp [renum, renum_length]
  | k, .ty _ :: r => by simp [renum, renum_length]
/-- from the callee's objects back to the caller's -/
theorem rel_back {ρ ρs ρ' : List Addr} {G G1 : Hh} {H H' : Hp} {ls : List Nat} (rg : RG K T ρ G H) (hs : ρs = addrs ρ ls) (nd : ls.Nodup) (hlt : ∀ l ∈ ls, l < G.length) (hlen : ls.length ≤ G1.length) (hc : (G1.take ls.length).all moClean = true)
    (kt : KT K H H') (e : Ext ρs H ρ' H') (rg' : RG K T ρ' G1 H') : Ext ρ H ρ H' ∧ RG K T ρ (writeBack G ls G1) H' := by
  have sub : ∀ b, b ∈ ρs → b ∈ ρ := fun b hb => by
    rw [hs] at hb
    obtain ⟨l, hl, rfl⟩ := List.mem_map.mp hb
    have := hlt l hl
    rw [rg.len] at this
    rw [show ρ.getD l 0 = ρ[l] from by simp [List.getD, List.getElem?_eq_getElem this]]
    exact List.getElem_mem this
  have hat : ∀ {i l : Nat}, ls[i]? = some l → ρs[i]? = ρ[l]? := fun {i l} hi => by
    rw [hs]
    exact addrs_get hi (by rw [← rg.len]; exact hlt l (List.mem_of_getElem? hi))
  have E0 : Ext ρ H ρ H' := ⟨⟨[], by simp, by simp⟩, fun b o h nb t => e.keep b o h (fun z => nb (sub b z)) t, e.tbl, e.back⟩
  refine ⟨E0, rg.nd, by rw [writeBack_length]; exact rg.len, fun l a mo h1 h2 => ?_, rg'.tab⟩
  by_cases hl : l ∈ ls
  · obtain ⟨i, hi, ei⟩ := List.getElem_of_mem hl
    have hi' : ls[i]? = some l := by rw [List.getElem?_eq_getElem hi, ei]
    rw [writeBack_at nd hlen hlt hi'] at h2
    have ha : ρ'[i]? = some a := e.kr i a (by rw [hat hi']; exact h1)
    have g := rg'.ok i a mo ha h2
    cases mo with
    | lst xs =>
      obtain ⟨vs, hv, rs⟩ := g
      have hcl : moClean (.lst xs) = true := by
        refine List.all_eq_true.mp hc _ ?_
        refine List.mem_of_getElem? (i := i) ?_
        rw [List.getElem?_take_of_lt hi]; exact h2
      exact ⟨vs, hv, Reps.clean KT.refl xs vs hcl rs⟩
  · rw [writeBack_other hl] at h2
    have g := rg.ok l a mo h1 h2
    cases mo with
    | lst xs =>
      obtain ⟨vs, hv, rs⟩ := g
      refine ⟨vs, e.keep a _ hv (fun hm => ?_) (fun _ z => nomatch z), Reps.mono kt (fun _ _ q => q) xs vs rs⟩
      rw [hs] at hm
      obtain ⟨j, hj, ej⟩ := List.mem_map.mp hm
      have hjl := hlt j hj
      rw [rg.len] at hjl
      rw [show ρ.getD j 0 = ρ[j] from by simp [List.getD, List.getElem?_eq_getElem hjl]] at ej
      obtain ⟨p2, q2⟩ := List.getElem?_eq_some_iff.mp h1
      have : j = l := (List.getElem_inj rg.nd).mp (ej.trans q2.symm)
      exact hl (this ▸ hj)
/-- one object of the callee's own comes along -/
theorem rel_fresh {ρ ρs ρ' : List Addr} {G G1 : Hh} {H H' : Hp} {ls : List Nat} {m : Nat} {mo : MO} {a : Addr} (rg : RG K T ρ G H) (hs : ρs = addrs ρ ls) (e1 : Ext ρs H ρ' H') (rg1 : RG K T ρ' G1 H') (e2 : Ext ρ H ρ H') (rg2 : RG K T ρ (writeBack G ls G1) H')
    (ha : ρ'[m]? = some a) (hm : G1[m]? = some mo) (hm2 : ls.length ≤ m ∧ moClean mo = true) : Ext ρ H (ρ ++ [a]) H' ∧ RG K T (ρ ++ [a]) (writeBack G ls G1 ++ [mo]) H' := by
  have g := rg1.ok m a mo ha hm
  cases mo with
  | lst xs =>
    obtain ⟨ws, hw, rr⟩ := g
    obtain ⟨more, em, fm⟩ := e1.pre
    have hfresh : H a = none := by
      rw [em, hs, List.getElem?_append_right (by simp [addrs]; exact hm2.1)] at ha
      exact fm a (List.mem_of_getElem? ha)
    have na : a ∉ ρ := fun hmem => by
      obtain ⟨l, hl', el⟩ := List.getElem_of_mem hmem
      have hlG : l < G.length := by rw [rg.len]; exact hl'
      have g2 := rg.ok l a G[l] (by rw [List.getElem?_eq_getElem hl', el]) (List.getElem?_eq_getElem hlG)
      cases q : G[l] with
      | lst ys =>
        rw [q] at g2
        obtain ⟨zs, hz, _⟩ := g2
        rw [hfresh] at hz; cases hz
    have e3 : Ext ρ H (ρ ++ [a]) H' := ⟨⟨[a], rfl, fun b hb => by simp at hb; subst hb; exact hfresh⟩, e2.keep, e2.tbl, e2.back⟩
    refine ⟨e3, ?_, by simp [writeBack_length, rg.len], fun l b mo h1 h2 => ?_, rg2.tab⟩
    · rw [List.nodup_append]
      exact ⟨rg.nd, by simp, fun x hx y hy => by simp at hy; subst hy; rintro rfl; exact na hx⟩
    · by_cases hll : l < ρ.length
      · rw [List.getElem?_append_left hll] at h1
        rw [List.getElem?_append_left (by rw [writeBack_length, rg.len]; exact hll)] at h2
        have g3 := rg2.ok l b mo h1 h2
        cases mo with
        | lst ys =>
          obtain ⟨zs, hz, rz⟩ := g3
          exact ⟨zs, hz, Reps.mono KT.refl (fun i c hc => by rw [List.getElem?_append_left (List.getElem?_eq_some_iff.mp hc).1]; exact hc) ys zs rz⟩
      · have e5 : l = ρ.length := by
          have := (List.getElem?_eq_some_iff.mp h1).1
          simp at this; omega
        subst e5
        rw [List.getElem?_append_right (Nat.le_refl _), Nat.sub_self] at h1
        rw [List.getElem?_append_right (by rw [writeBack_length, rg.len]; exact Nat.le_refl _), writeBack_length, rg.len, Nat.sub_self] at h2
        simp at h1 h2
        subst h1; subst h2
        exact ⟨ws, hw, Reps.clean KT.refl xs ws hm2.2 rr⟩
theorem FnD.rel (F : FnD P w K mg base T k f fd ps sem) : FnD P w K mg base T k f fd ps (relCall sem) := by
  refine ⟨fun A outer s H args us vs Q E ρ G ds hr hgd e0 hb r hl rg rs hsp => ?_⟩
  unfold relCall at hsp
  split at hsp
  · rename_i hc
    obtain ⟨nd, hlt, hao, hcl⟩ := hc
    have hget : ∀ {i l : Nat}, (refs ds)[i]? = some l → (addrs ρ (refs ds))[i]? = ρ[l]? := fun {i l} hi => addrs_get hi (by rw [← rg.len]; exact hlt l (List.mem_of_getElem? hi))
    have ndS : (addrs ρ (refs ds)).Nodup := by
      unfold addrs
      rw [List.nodup_iff_pairwise_ne, List.pairwise_map]
      refine List.Pairwise.imp_of_mem ?_ (List.nodup_iff_pairwise_ne.mp nd)
      intro a b ha hb hab z
      have h1 := hlt a ha
      have h2 := hlt b hb
      rw [rg.len] at h1 h2
      rw [show ρ.getD a 0 = ρ[a] from by simp [List.getD, List.getElem?_eq_getElem h1], show ρ.getD b 0 = ρ[b] from by simp [List.getD, List.getElem?_eq_getElem h2]] at z
      exact hab ((List.getElem_inj rg.nd).mp z)
    have rgS : RG K T (addrs ρ (refs ds)) (pick G (refs ds)) H := by
      refine ⟨ndS, by simp [addrs, pick], fun i a mo h1 h2 => ?_, rg.tab⟩
      unfold pick at h2
      rw [List.getElem?_map, Option.map_eq_some_iff] at h2
      obtain ⟨l, hl', rfl⟩ := h2
      rw [hget hl'] at h1
      have hlG := hlt l (List.mem_of_getElem? hl')
      have hG : G[l]? = some (G.getD l (.lst [])) := by simp [List.getD, List.getElem?_eq_getElem hlG]
      have g := rg.ok l a _ h1 hG
      have hcm : moClean (G.getD l (.lst [])) = true := List.all_eq_true.mp hcl _ (List.mem_map.mpr ⟨l, List.mem_of_getElem? hl', rfl⟩)
      cases q : G.getD l (.lst []) with
      | lst xs =>
        rw [q] at g hcm
        obtain ⟨ws, hw, rr⟩ := g
        exact ⟨ws, hw, Reps.clean KT.refl xs ws hcm rr⟩
    refine F.run A outer s H args us vs Q E _ _ (renum 0 ds) hr hgd e0 hb r hl rgS (reps_renum rs hao fun i l hi => by rw [Nat.zero_add]; exact hget hi) ?_
    unfold relOut at hsp
    split at hsp
    · rename_i d G1 e
      rw [e]
      split at hsp
      · rename_i hh
        intro v ρ' H' e1 rg1 r1
        have kt := e1.kt rgS
        obtain ⟨e2, rg2⟩ := rel_back rg rfl nd hlt hh.1 hh.2 kt e1 rg1
        split at hsp
        · rename_i hcd
          exact hsp v ρ H' e2 rg2 (Rep.clean KT.refl d v hcd r1)
        · rename_i hcd
          split at hsp
          · rename_i m
            split at hsp
            · rename_i mo hm
              split at hsp
              · rename_i hm2
                obtain ⟨a, ha, rfl⟩ := r1
                obtain ⟨e3, rg3⟩ := rel_fresh rg rfl e1 rg1 e2 rg2 ha hm hm2
                exact hsp (.ref a) (ρ ++ [a]) H' e3 rg3 ⟨a, by rw [rg.len]; simp, rfl⟩
              · exact hsp.elim
            · exact hsp.elim
          · rename_i x m
            split at hsp
            · rename_i mo hm
              split at hsp
              · rename_i hm2
                obtain ⟨b, vs, rfl, sq, v1, r, rfl, rx, v2, r2, rfl, ⟨a, ha, rfl⟩, rn⟩ := r1
                have rn : r2 = [] := rn
                subst rn
                obtain ⟨e3, rg3⟩ := rel_fresh rg rfl e1 rg1 e2 rg2 ha hm hm2
                exact hsp (.ref b) (ρ ++ [a]) H' e3 rg3 ⟨b, _, rfl, sq, v1, _, rfl, rx, .ref a, [], rfl, ⟨a, by rw [rg.len]; simp, rfl⟩, rfl⟩
              · exact hsp.elim
            · exact hsp.elim
          · exact hsp.elim
      · exact hsp.elim
    · rename_i c w G1 e
      rw [e]
      split at hsp
      · rename_i hh
        intro ρ' H' dd vw e1 rg1 hd r1
        have kt := e1.kt rgS
        obtain ⟨e2, rg2⟩ := rel_back rg rfl nd hlt hh.1 hh.2.1 kt e1 rg1
        exact hsp ρ H' dd vw e2 rg2 hd (Rep.clean KT.refl w vw hh.2.2 r1)
      · exact hsp.elim
    · exact hsp.elim
  · exact hsp.elim
end
end DL

set_option Elab.async false
set_option linter.all false
set_option maxRecDepth 100000
set_option maxHeartbeats 1000000
namespace DL
open PySem PySem.Spec PyProof.Rows L2
open Classical

/-! ### exceptions that are made -/
/-- __init__(self, what) of the errors -/
def spXI (C : Addr) (nm : Str) : Sp := fun vs H Q _ => ∃ (a : Addr) (y : V), vs = [.ref a, y] ∧ H a = some (exo a C none) ∧ ∀ dx, H dx = none → dx ≠ a → Q .non (upd (upd (upd H dx (exd dx [("what", y)])) a (exo a C (some dx))) dx (exd dx [("name", .str nm), ("what", y)]))
/-- how an error is made: its class at C, its __init__ at fI -/
structure Mk (P : Program) (w : World) (K : PySem.W.Frag) (mg : Str → Option Value) (base : Heap) (C fI : Addr) (fd : FuncData) : Prop where
  o : OexC K C
  iC : PySem.W.findIn K (.ref C) "__init__" = some (some (.ref fI))
  tI : PySem.W.typeIn K (.ref fI) = some (.type "function")
  nm : ∃ nm : Str, clsNm K C = some nm ∧ FnOk P w K mg base (L2.CX P w) 1 fI fd ["self", "what"] (spXI C nm)
  bd : Binds K fd ["self", "what"] []
def sRaise (C : Addr) (f : ES) : SS := fun env G => match f env G with
  | .ok w G1 => .ex C w env G1
  | .ex c w G1 => .ex c w env G1
  | .bad => .bad
theorem passes_no {P : Program} {w : World} {X : Cx} : Passes (L2.CX P w) X (fun _ _ _ => False) := fun _ _ _ _ _ _ _ ⟨_, _, _, _, _, _, _, _, _, _, _, _, z⟩ => z.elim
section
variable {X : Cx} {T : TbT} {W : WX} {C fI : Addr} {fd : FuncData} {x : Str} {p pos pos' : Pos} {e : Expr} {fe : ES}
theorem ds_raise (M : Mk X.prog X.w X.K X.mg X.base C fI fd) (hc : X.calm = true) (tk : Takes X W) (hr : Room 2 X.A) (hg : Gl X x) (hm : X.mg x = some (.ref C)) (he : DE X T W e fe)
    (hdb : (x == ("__debug__" : Str)) = false := by decide) (hs : starEach (e :: []) X.env = (false, eval e X.env) :: starEach [] X.env := by rfl) (hpl : (backTo pos (starEach [] X.env)).any (·.1) = false := by rfl) :
    DS X T W (.Raise (some (.Call (.Name x p) [e] [] pos)) none pos') (sRaise C fe) := by
  obtain ⟨nm, hnm, fn⟩ := M.nm
  exact PS_imp (ps_raise hc tk (pmk_oex (dvs := []) (ds := []) M.o M.iC M.tI fn hr M.bd .nil passes_no hg hm (da_cons he da_nil hs) hdb hs hpl)) fun E σ H ⟨ρ, env, G, sr, q⟩ => by
    refine ⟨ρ, env, G, sr, ?_⟩
    unfold sRaise at q
    unfold aCons
    cases h : fe env G with
    | ok w G1 =>
      rw [h] at q
      dsimp only [aNil]
      intro vs ρ1 H1 e1 rg1 rs
      obtain ⟨v, t, rfl, rv, rn⟩ := rs
      have rn : t = [] := rn
      subst rn
      refine ⟨by simp, fun a ha => ⟨a, v, rfl, upd_same, fun dx hd hda => ⟨rfl, dx, _, by rw [upd_ne (Ne.symm hda), upd_same], upd_same, ?_, ?_⟩⟩⟩
      · rw [upd_ne hda] at hd
        exact hd
      · rw [upd_ne hda] at hd
        have eq : ∀ (fs : List (Str × V)) (o1 o2 o3 o4 : HO), upd (del (upd (upd (upd (upd H1 a o1) dx o2) a o3) dx o4) a) dx (.xd fs) = upd H1 dx (.xd fs) := fun fs o1 o2 o3 o4 => by
          funext b
          by_cases h1 : b = dx
          · rw [h1, upd_same, upd_same]
          · rw [upd_ne h1, upd_ne h1]
            by_cases h2 : b = a
            · rw [h2, del_same]; exact ha.symm
            · rw [del_ne h2, upd_ne h1, upd_ne h2, upd_ne h1, upd_ne h2]
        rw [eq]
        exact q σ ρ1 _ dx v (e1.trans (ext_new hd)) ⟨rg1.ext_same hd, (ext_new hd).envr rg1 (e1.envr sr.rg sr.ev)⟩ ⟨nm, hnm, upd_same⟩ ((ext_new hd).rep rg1 rv)
    | ex c w G1 => rw [h] at q; exact PostS.exE sr q
    | bad => rw [h] at q; exact q
end
/-- the errors' own __init__: ValueError.__init__(self, what); self.what = what; self.name = self.__class__.__name__ -/
def tXI (K : PySem.W.Frag) : TS := tSeq (tDrop (tVeI K (tCons (tVar 0) (tCons (tVar 1) tNil)))) (tSeq (tOst K "what" (tVar 0) (tVar 1)) (tOst K "name" (tVar 0) (tCn K (tVar 0))))
section
variable {P : Program} {w : World} {K : PySem.W.Frag} {mg : Str → Option Value} {base : Heap} {C f : Addr} {fd : FuncData} {st : Stmt} {x qual : Str}
theorem init_ok (F : Fun K x qual st f fd) (S : FnScope ["self", "what"] ["self", "what"] (defScope st)) (o : OexC K C) (no : PySem.W.findIn K (.ref C) "what" = some none) (no2 : PySem.W.findIn K (.ref C) "name" = some none) {nm : Str} (N : NmC K C nm)
    (hb : ∀ (cdv : Value) (A : Around) (outer : List Env) (s : Shared) (H : Hp) (E : XK), PSs (cxOf (L2.CX P w) P w K mg base ["self", "what"] qual (defScope st) f cdv A outer s H E) (defBody st) (tXI K)) :
    FnOk P w K mg base (L2.CX P w) 1 f fd ["self", "what"] (spXI C nm) := by
  refine F.okX S (fun vs H Q E h => ?_) (fun cdv A outer s H vs Q E hr h => ⟨tXI K, hb cdv A outer s H E, ?_⟩)
  · obtain ⟨a, y, rfl, _⟩ := h
    rfl
  · obtain ⟨a, y, rfl, ha, q⟩ := h
    refine ⟨_, rfl, _, rfl, a, C, [y], rfl, by simp, o, ha, ?_⟩
    refine ⟨_, rfl, _, rfl, a, C, rfl, o, no, .inl ⟨ha, fun dx hd hne => ?_⟩⟩
    refine ⟨_, rfl, a, C, dx, _, nm, rfl, N, upd_same, by rw [upd_ne hne, upd_same], ?_⟩
    exact ⟨_, rfl, a, C, rfl, o, no2, .inr ⟨dx, _, upd_same, by rw [upd_ne hne, upd_same], by simp, q dx hd hne⟩⟩
end

/-! ### exceptions that are caught -/
def Sl.cut : Sl → Sl
  | .exc _ _ => .no
  | s => s
abbrev cutX (env : Env') : Env' := env.map Sl.cut
section
variable {K : PySem.W.Frag} {pn pn' : List (Addr × Obj)} {H : Hp} {ρ : List Addr} {env : Env'} {σ : L2.St}
theorem EnvR.cut (h : EnvR K pn H ρ env σ) : EnvR K pn' H ρ (cutX env) σ := by
  refine ⟨by simp [h.len], fun i s hi => ?_⟩
  rw [List.getElem?_map, Option.map_eq_some_iff] at hi
  obtain ⟨t, ht, rfl⟩ := hi
  obtain ⟨ov, h1, h2⟩ := h.ok i t ht
  refine ⟨ov, h1, ?_⟩
  cases t with
  | no => trivial
  | d x => exact h2
  | exc c w => trivial
  | clo C => exact h2
end
/-- the suite of an except clause, slot i being its name's -/
def sSuite (i : Nat) (fs : SS) (c : Addr) (w : D) : SS := fun env G => if i < env.length then match fs ((cutX env).set i (.exc c w)) G with
  | .nx env2 G2 => .nx ((cutX env2).set i .no) G2
  | .bk env2 G2 => .bk ((cutX env2).set i .no) G2
  | .ct env2 G2 => .ct ((cutX env2).set i .no) G2
  | .rt d G2 => .rt d G2
  | _ => .bad
  else .bad
/-- .. without a name -/
def sSuite0 (fs : SS) : SS := fun env G => match fs (cutX env) G with
  | .nx env2 G2 => .nx (cutX env2) G2
  | .bk env2 G2 => .bk (cutX env2) G2
  | .ct env2 G2 => .ct (cutX env2) G2
  | .rt d G2 => .rt d G2
  | _ => .bad
/-- what the body of a try leaves -/
def RS.cut : RS → RS
  | .nx env G => .nx (cutX env) G
  | .bk env G => .bk (cutX env) G
  | .ct env G => .ct (cutX env) G
  | .ex c w env G => .ex c w (cutX env) G
  | r => r
def sTry (fb : SS) (h : Addr → D → SS) : SS := fun env G => match (fb (cutX env) G).cut with
  | .ex c w env1 G1 => h c w env1 G1
  | r => r
/-- one clause: m tells which errors it catches -/
def hOne (m : Addr → Option Bool) (suite : Addr → D → SS) : Addr → D → SS := fun c w env G => match m c with
  | some true => suite c w env G
  | some false => .ex c w env G
  | none => .bad
/-- PostS without pins -/
def Post0 (K : PySem.W.Frag) (T : TbT) (W : WX) (ρ : List Addr) (H : Hp) (r : RS) (E : Ends) : Prop :=
  match r with
  | .nx env' G' => ∀ σ' ρ' H', Ext ρ H ρ' H' → RG K T ρ' G' H' → EnvR K [] H' ρ' env' σ' → E.nx σ' H'
  | .rt d G' => ∀ v ρ' H', Ext ρ H ρ' H' → RG K T ρ' G' H' → Rep K H' ρ' d v → E.rt v H'
  | .bk env' G' => ∀ σ' ρ' H', Ext ρ H ρ' H' → RG K T ρ' G' H' → EnvR K [] H' ρ' env' σ' → E.bk σ' H'
  | .ct env' G' => ∀ σ' ρ' H', Ext ρ H ρ' H' → RG K T ρ' G' H' → EnvR K [] H' ρ' env' σ' → E.ct σ' H'
  | .ex c w env' G' => ∀ σ' ρ' H' dd vw, Ext ρ H ρ' H' → RG K T ρ' G' H' → EnvR K [] H' ρ' env' σ' → Xd K c H' dd vw → Rep K H' ρ' w vw → W (.ref c) (some dd) σ' H'
  | .bad => False
theorem cut_cut {env : Env'} : cutX (cutX env) = cutX env := by
  unfold cutX
  rw [List.map_map]
  congr 1
  funext s
  cases s <;> rfl
theorem EnvR.cut' {K : PySem.W.Frag} {pn pn' : List (Addr × Obj)} {H : Hp} {ρ : List Addr} {env : Env'} {σ : L2.St} (h : EnvR K pn H ρ (cutX env) σ) : EnvR K pn' H ρ (cutX env) σ := by
  have := h.cut (pn' := pn')
  rwa [cut_cut] at this
section
variable {X : Cx} {T : TbT} {W : WX} {ρ : List Addr} {H : Hp} {r : RS} {E : Ends}
theorem post_of0 (q : Post0 X.K T W ρ H r.cut E) : PostS X T W ρ H r E := by
  cases r with
  | nx env1 G1 => exact fun σ' ρ' H' e sr => q σ' ρ' H' e sr.rg sr.ev.cut
  | bk env1 G1 => exact fun σ' ρ' H' e sr => q σ' ρ' H' e sr.rg sr.ev.cut
  | ct env1 G1 => exact fun σ' ρ' H' e sr => q σ' ρ' H' e sr.rg sr.ev.cut
  | rt d G1 => exact q
  | ex c w env1 G1 => exact fun σ' ρ' H' dd vw e sr => q σ' ρ' H' dd vw e sr.rg sr.ev.cut
  | bad => exact q
theorem Post0.ext {ρ1 : List Addr} {H1 : Hp} (e : Ext ρ H ρ1 H1) (h : Post0 X.K T W ρ H r E) : Post0 X.K T W ρ1 H1 r E := by
  cases r with
  | nx env G => exact fun σ' ρ' H' e1 => h σ' ρ' H' (e.trans e1)
  | bk env G => exact fun σ' ρ' H' e1 => h σ' ρ' H' (e.trans e1)
  | ct env G => exact fun σ' ρ' H' e1 => h σ' ρ' H' (e.trans e1)
  | rt d G => exact fun v ρ' H' e1 => h v ρ' H' (e.trans e1)
  | ex c w env G => exact fun σ' ρ' H' dd vw e1 => h σ' ρ' H' dd vw (e.trans e1)
  | bad => exact h
end
section
variable {X : Cx} {T : TbT} {W : WX} {x n : Str} {C : Value} {i : Nat} {body suite : List Stmt} {b₀ : Stmt} {np pos pos' : Pos} {fb fs : SS} {m : Addr → Option Bool}
theorem takes_false {X : Cx} : Takes X (fun _ _ _ _ => False) := takes0
/-- the body's reading, whatever the pins -/
def tTry (K : PySem.W.Frag) (T : TbT) (fb : SS) (W : WX) : TS := fun E σ H => ∃ ρ env G, RG K T ρ G H ∧ EnvR K [] H ρ (cutX env) σ ∧ Post0 K T W ρ H (fb (cutX env) G).cut E
theorem tTry_ok {pn : List (Addr × Obj)} {xe : Value → Shared → Prop} (hb : DSs (X.tr pn xe) T W body fb) : PSs (X.tr pn xe) body (tTry X.K T fb W) :=
  PSs_imp hb fun E σ H ⟨ρ, env, G, rg, ev, q⟩ => ⟨ρ, cutX env, G, ⟨rg, ev.cut'⟩, post_of0 q⟩
/-- the suite's reading -/
def tSuite (K : PySem.W.Frag) (T : TbT) (i : Nat) (fs : SS) : Addr → Value → Option Addr → TS := fun a cls d E σ H => ∃ ρ env G c w dd vw, cls = .ref c ∧ d = some dd ∧ Xd K c H dd vw ∧ Rep K H ρ w vw ∧ RG K T ρ G H ∧ EnvR K [] H ρ ((cutX env).set i .no) σ ∧
  σ[i]? = some (some (.ref a)) ∧ Post0 K T (fun _ _ _ _ => False) ρ H (fs ((cutX env).set i (.exc c w)) G).cut E
def tSuite0 (K : PySem.W.Frag) (T : TbT) (fs : SS) : Addr → Value → Option Addr → TS := fun a cls d E σ H => ∃ ρ env G, RG K T ρ G H ∧ EnvR K [] H ρ (cutX env) σ ∧
  Post0 K T (fun _ _ _ _ => False) ρ H (fs (cutX env) G).cut E
theorem suite_ok {a : Addr} {oe : Obj} {pn : List (Addr × Obj)} {cls : Value} {d : Option Addr} (hsu : DSs (X.suite a ((a, oe) :: pn)) T (fun _ _ _ _ => False) suite fs) (hz : Zc cls d oe) (hf : ∃ vs, oe.data = .fields vs) : PSs (X.suite a ((a, oe) :: pn)) suite (tSuite X.K T i fs a cls d) :=
  PSs_imp hsu fun E σ H ⟨ρ, env, G, c, w, dd, vw, ec, ed, hd, rw', rg, ev, ha, q⟩ => by
    subst ec; subst ed
    refine ⟨ρ, (cutX env).set i (.exc c w), G, ⟨rg, ⟨by have := ev.len; simpa using this, fun j s hj => ?_⟩⟩, post_of0 q⟩
    by_cases e : i = j
    · subst e
      have hl : i < (cutX env).length := by
        have := (List.getElem?_eq_some_iff.mp hj).1
        simpa using this
      rw [List.getElem?_set_self hl] at hj
      cases hj
      exact ⟨some (.ref a), ha, a, oe, dd, vw, rfl, List.mem_cons_self, hz, hf, hd, rw'⟩
    · rw [List.getElem?_set_ne e] at hj
      have h2 := ev.cut (pn' := (a, oe) :: pn)
      obtain ⟨ov, h3, h4⟩ := h2.ok j s (by
        rw [List.getElem?_map, List.getElem?_set_ne e, hj]
        show some (Sl.cut s) = some s
        rw [List.getElem?_map, Option.map_eq_some_iff] at hj
        obtain ⟨t, _, rfl⟩ := hj
        cases t <;> rfl)
      exact ⟨ov, h3, h4⟩
theorem suite_ok0 {a : Addr} {oe : Obj} {pn : List (Addr × Obj)} {cls : Value} {d : Option Addr} (hsu : DSs (X.suite a ((a, oe) :: pn)) T (fun _ _ _ _ => False) suite fs) : PSs (X.suite a ((a, oe) :: pn)) suite (tSuite0 X.K T fs a cls d) :=
  PSs_imp hsu fun E σ H ⟨ρ, env, G, rg, ev, q⟩ => ⟨ρ, cutX env, G, ⟨rg, ev.cut'⟩, post_of0 q⟩
/-- behind a suite -/
theorem suite0_post {ρ : List Addr} {H : Hp} {env : Env'} {G : Hh} {E : Ends} {c : Addr} {w : D} (q : PostS X T W ρ H (sSuite0 fs (cutX env) G) E) : Post0 X.K T (fun _ _ _ _ => False) ρ H (fs (cutX env) G).cut E := by
  unfold sSuite0 at q
  rw [cut_cut] at q
  revert q
  cases fs (cutX env) G with
  | nx env1 G1 => exact fun q σ' ρ' H' e rg ev => q σ' ρ' H' e ⟨rg, ev.cut'⟩
  | bk env1 G1 => exact fun q σ' ρ' H' e rg ev => q σ' ρ' H' e ⟨rg, ev.cut'⟩
  | ct env1 G1 => exact fun q σ' ρ' H' e rg ev => q σ' ρ' H' e ⟨rg, ev.cut'⟩
  | rt d G1 => exact fun q => q
  | ex c w env1 G1 => exact fun q => q.elim
  | bad => exact fun q => q
theorem suite_post {ρ : List Addr} {H : Hp} {env : Env'} {G : Hh} {E : Ends} {c : Addr} {w : D} (q : PostS X T W ρ H (sSuite i fs c w (cutX env) G) E) :
    Post0 X.K T (fun _ _ _ _ => False) ρ H (fs ((cutX env).set i (.exc c w)) G).cut { nx := fun σ' H' => E.nx (σ'.set i none) H', rt := E.rt, bk := fun σ' H' => E.bk (σ'.set i none) H', ct := fun σ' H' => E.ct (σ'.set i none) H' } := by
  unfold sSuite at q
  rw [cut_cut] at q
  split at q
  case isFalse => exact q.elim
  revert q
  cases fs ((cutX env).set i (.exc c w)) G with
  | nx env1 G1 => exact fun q σ' ρ' H' e rg ev => q _ ρ' H' e ⟨rg, ev.cut'.set i (s := .no) trivial⟩
  | bk env1 G1 => exact fun q σ' ρ' H' e rg ev => q _ ρ' H' e ⟨rg, ev.cut'.set i (s := .no) trivial⟩
  | ct env1 G1 => exact fun q σ' ρ' H' e rg ev => q _ ρ' H' e ⟨rg, ev.cut'.set i (s := .no) trivial⟩
  | rt d G1 => exact fun q => q
  | ex c w env1 G1 => exact fun q => q.elim
  | bad => exact fun q => q
theorem ds_try_only (hs : X.stack = X.env :: X.outer) (hf : X.env.frame = some X.env.locals) (hc : Names X x C) (tk : Takes X W) (hm : ∀ c b, m c = some b → PySem.W.exmOne X.K (.ref c) C = some b)
    (hb : ∀ (W' : WX) (pn : List (Addr × Obj)) (xe : Value → Shared → Prop), Takes (X.tr pn xe) W' → PassesOwn (model X.prog X.w) X.A X.env xe → DSs (X.tr pn xe) T W' body fb)
    (hsu : ∀ (a : Addr) (oe : Obj) (pn : List (Addr × Obj)), DSs (X.suite a ((a, oe) :: pn)) T (fun _ _ _ _ => False) (b₀ :: suite) fs) :
    DS X T W (.Try body [.ExceptHandler (some (.Name x np)) none (b₀ :: suite) pos'] [] [] pos) (sTry fb (hOne m fun _ _ => sSuite0 fs)) :=
  PS_imp (ps_try_only (tb := tTry X.K T fb) (ts := tSuite0 X.K T fs) (Wout := W) hs hf hc tk (fun W' pn xe t o => tTry_ok (hb W' pn xe t o)) (fun a oe cls d pn _ _ => suite_ok0 (hsu a oe pn))) fun E σ H ⟨ρ, env, G, sr, q⟩ => by
    refine ⟨ρ, env, G, sr.rg, sr.ev.cut, ?_⟩
    unfold sTry at q
    revert q
    cases fb (cutX env) G with
    | nx env1 G1 => exact fun q σ' ρ' H' e rg ev => q σ' ρ' H' e ⟨rg, ev.cut'⟩
    | bk env1 G1 => exact fun q σ' ρ' H' e rg ev => q σ' ρ' H' e ⟨rg, ev.cut'⟩
    | ct env1 G1 => exact fun q σ' ρ' H' e rg ev => q σ' ρ' H' e ⟨rg, ev.cut'⟩
    | rt d G1 => exact fun q => q
    | bad => exact fun q => q
    | ex c w env1 G1 =>
      intro q σ' ρ' H' dd vw e1 rg ev hd r
      dsimp only [RS.cut] at q
      unfold hOne at q
      cases hmc : m c with
      | none => rw [hmc] at q; exact q.elim
      | some b =>
        rw [hmc] at q
        refine ⟨b, hm c b hmc, fun hb a ha => ?_, fun hb => ?_⟩
        · subst hb
          exact ⟨ρ', env1, G1, rg, ev, Post0.ext e1 (suite0_post (c := c) (w := w) q)⟩
        · subst hb
          exact q σ' ρ' H' dd vw e1 ⟨rg, ev.cut'⟩ hd r
theorem ds_try_as (hs : X.stack = X.env :: X.outer) (hf : X.env.frame = some X.env.locals) (hN : X.N.Nodup) (hi : X.N[i]? = some n) (hln : X.env.kindOf n = some .local) (hc : Names X x C) (tk : Takes X W) (hm : ∀ c b, m c = some b → PySem.W.exmOne X.K (.ref c) C = some b)
    (hb : ∀ (W' : WX) (pn : List (Addr × Obj)) (xe : Value → Shared → Prop), Takes (X.tr pn xe) W' → PassesOwn (model X.prog X.w) X.A X.env xe → DSs (X.tr pn xe) T W' body fb)
    (hsu : ∀ (a : Addr) (oe : Obj) (pn : List (Addr × Obj)), DSs (X.suite a ((a, oe) :: pn)) T (fun _ _ _ _ => False) (b₀ :: suite) fs) :
    DS X T W (.Try body [.ExceptHandler (some (.Name x np)) (some n) (b₀ :: suite) pos'] [] [] pos) (sTry fb (hOne m (sSuite i fs))) := by
  refine ⟨fun pins s σ H E I ⟨ρ, env, G, sr, q⟩ => ?_⟩
  refine (ps_try_as (tb := tTry X.K T fb) (ts := tSuite X.K T i fs) (Wout := W) hs hf hN hi hln hc tk (fun W' pn xe t o => tTry_ok (hb W' pn xe t o)) (fun a oe cls d pn hz hf => suite_ok (hsu a oe pn) hz hf)).run pins s σ H E I ?_
  refine ⟨ρ, env, G, sr.rg, sr.ev.cut, ?_⟩
  unfold sTry at q
  revert q
  cases fb (cutX env) G with
  | nx env1 G1 => exact fun q σ' ρ' H' e rg ev => q σ' ρ' H' e ⟨rg, ev.cut'⟩
  | bk env1 G1 => exact fun q σ' ρ' H' e rg ev => q σ' ρ' H' e ⟨rg, ev.cut'⟩
  | ct env1 G1 => exact fun q σ' ρ' H' e rg ev => q σ' ρ' H' e ⟨rg, ev.cut'⟩
  | rt d G1 => exact fun q => q
  | bad => exact fun q => q
  | ex c w env1 G1 =>
    intro q σ' ρ' H' dd vw e1 rg ev hd r
    dsimp only [RS.cut] at q
    unfold hOne at q
    cases hmc : m c with
    | none => rw [hmc] at q; exact q.elim
    | some b =>
      rw [hmc] at q
      refine ⟨b, hm c b hmc, fun hb a ha => ?_, fun hb => ?_⟩
      · subst hb
        refine ⟨ρ', env1, G1, c, w, dd, vw, rfl, rfl, hd, r, rg, ev.set i (s := .no) trivial, ?_, Post0.ext e1 (suite_post q)⟩
        have hle : i < σ'.length := by
          rw [← ev.len]
          unfold sSuite at q
          dsimp only at q
          split at q
          · assumption
          · exact q.elim
        exact List.getElem?_set_self hle
      · subst hb
        exact q σ' ρ' H' dd vw e1 ⟨rg, ev.cut'⟩ hd r
end
end DL

set_option Elab.async false
set_option linter.all false
set_option maxRecDepth 100000
set_option maxHeartbeats 1000000
namespace DL
open PySem PySem.Spec PyProof.Rows L2
open Classical

/-! ### what a caught error tells -/
def eWhat (i : Nat) (m : Addr → Bool) : ES := fun env G => match env[i]? with
  | some (.exc c w) => if m c = true then .ok w G else .bad
  | _ => .bad
def eIsE (i : Nat) (m : Addr → Option Bool) : ES := fun env G => match env[i]? with
  | some (.exc c _) => (match m c with
    | some b => .ok (.dat (.bool b)) G
    | none => .bad)
  | _ => .bad
/-- the dict of a caught error -/
theorem xd_at {X : Cx} {pins : List (Addr × Obj)} {σ : L2.St} {H : Hp} {s : Shared} {a c dd : Addr} {oe : Obj} {vw : V} (I : Inv X pins σ H s) (hm : (a, oe) ∈ X.pn) (hz : Zc (.ref c) (some dd) oe) (hf : ∃ vs, oe.data = .fields vs) (hd : Xd X.K c H dd vw) :
    ∃ (od : Obj) (u : Value), PySem.W.InstAt s.heap a oe c (some od) ∧ PySem.W.lookIn "what" od = some (some u) ∧ RelV vw u := by
  obtain ⟨nm, _, hd⟩ := hd
  have ob : ObjOk X.prog X.w H s.heap dd (.xd [("name", .str nm), ("what", vw)]) := I.hok dd _ hd
  obtain ⟨mA, ns, rel⟩ := ob
  obtain ⟨od, e1, e2⟩ := lookIn_ns ns
  obtain ⟨u, hu, ru⟩ := RelO.some_of (v := vw) (o := mA "what") (rel "what")
  obtain ⟨vs, hv⟩ := hf
  have p := (I.pin (a, oe) (List.mem_append_left _ hm)).1
  exact ⟨od, u, ⟨p, hz.1, by unfold PySem.W.notCls; rw [hv] <;> rfl, by rw [hz.2]; exact e1⟩, by rw [e2, hu], ru⟩
section
variable {X : Cx} {T : TbT} {W : WX}
theorem de_what (i : Nat) {m : Addr → Bool} {x : Str} {p pos : Pos} (hm : ∀ c, m c = true → XfC X.K c ∧ PySem.W.findIn X.K (.ref c) "what" = some none) (hN : X.N[i]? = some x := by rfl) (hv : Vis X.env.scope x := by first | exact Or.inl rfl | exact Or.inr (Or.inl rfl) | exact Or.inr (Or.inr rfl)) (hd : (x == ("__debug__" : Str)) = false := by decide)
    (hcd : (x == ("__classdict__" : Str)) = false := by decide) (hb : attributeBase (.Name x p) "what" X.env (eval (.Name x p) X.env) = eval (.Name x p) X.env := by rfl) : DE X T W (.Attribute (.Name x p) "what" pos) (eWhat i m) := by
  refine ⟨fun pins s σ H Q I ⟨ρ, env, G, sr, q⟩ => ?_⟩
  unfold eWhat at q
  split at q
  · rename_i c w hi
    obtain ⟨ov, ho, a, oe, dd, vw, rfl, hpn, hz, hf, hx, rw'⟩ := sr.ev.ok i _ hi
    split at q
    · rename_i hmc
      obtain ⟨xf, no⟩ := hm c hmc
      have T1 := pe_var (X := X) (pos := p) hN hv hd hcd
      refine attr_of hb (thn (T1.run pins s σ H (fun v H1 => v = .ref a ∧ H1 = H) I ⟨_, ho, rfl, rfl⟩) fun u s1 hh => ?_)
      obtain ⟨v, H1, I1, rv, ev, eH⟩ := hh
      subst ev; subst eH
      obtain rfl : u = Value.ref a := rv
      obtain ⟨od, u, J, hl, ru⟩ := xd_at I1 hpn hz hf hx
      exact HandSPX.exc_get I1.kIn J xf.ga xf.gg xf.exC (PySem.W.findObj_own xf.hdC no rfl hl) (handed_of ru) ⟨vw, H1, I1.tok _, ru, q vw ρ H1 Ext.refl sr.rg rw'⟩
    · exact q.elim
  · exact q.elim
def rIsX (X : Cx) : List V → Hp → VK → Prop := fun xs H Q => ∃ (a c dd : Addr) (oe : Obj) (vw v : V) (cv : Value) (b : Bool), xs = [.ref a, v] ∧ (a, oe) ∈ X.pn ∧ Zc (.ref c) (some dd) oe ∧ (∃ vs, oe.data = .fields vs) ∧ Xd X.K c H dd vw ∧ ExcC X.K c ∧ (∀ u, RelV v u → u = cv) ∧
  PySem.W.kitOne X.K (.ref c) cv = some b ∧ Q (.bl b) H
theorem call_isX : CallR X (.builtin "isinstance") (rIsX X) := by
  intro pins s σ H xs us Q I r h
  obtain ⟨a, c, dd, oe, vw, v, cv, b, rfl, hpn, hz, hf, hd, C, hcv, e, q⟩ := h
  cases r with
  | cons rx rr =>
    cases rr with
    | cons rt rr =>
      cases rr
      cases rx
      have ec := hcv _ rt
      subst ec
      obtain ⟨od, u, J, _, _⟩ := xd_at I hpn hz hf hd
      obtain ⟨cd, hc, _⟩ := PySem.W.any_some C.hd
      exact PySem.W.kia_one (PySem.W.kitx_exc (by rw [hc]; rfl) C.hg C.hk C.hs C.ha C.hn C.ht C.hm) I.kIn J e (fun z => nomatch z) fun tk => ⟨.bl b, H, I.kept (t' := tk) fun _ _ z => z, rfl, q⟩
/-- isinstance(fault, C): C's value cv, of kind v -/
theorem de_isE (i : Nat) {m : Addr → Option Bool} {x y : Str} {p p1 p2 pos : Pos} {v : V} {cv : Value} (hm : ∀ c b, m c = some b → ExcC X.K c ∧ PySem.W.kitOne X.K (.ref c) cv = some b) (hy : PE X (.Name y p2) (tC v)) (hcv : ∀ u, RelV v u → u = cv)
    (hg : Gl X "isinstance") (hmi : X.mg "isinstance" = none) (hN : X.N[i]? = some x := by rfl) (hv : Vis X.env.scope x := by first | exact Or.inl rfl | exact Or.inr (Or.inl rfl) | exact Or.inr (Or.inr rfl)) (hd : (x == ("__debug__" : Str)) = false := by decide)
    (hcd : (x == ("__classdict__" : Str)) = false := by decide)
    (h1 : starEach [.Name x p1, .Name y p2] X.env = (false, eval (.Name x p1) X.env) :: starEach [.Name y p2] X.env := by rfl) (h2 : starEach [.Name y p2] X.env = (false, eval (.Name y p2) X.env) :: starEach [] X.env := by rfl)
    (hpl : (backTo pos (starEach [.Name y p2] X.env)).any (·.1) = false := by rfl) :
    DE X T W (.Call (.Name "isinstance" p) [.Name x p1, .Name y p2] [] pos) (eIsE i m) := by
  have T1 := pe_var (X := X) (pos := p1) hN hv hd hcd
  refine PE_imp (pe_callB call_isX hg hmi (by decide +kernel) (pa_cons T1 (pa_cons hy pa_nil h2) h1) (by decide) (by decide) h1 hpl) fun σ H Q ⟨ρ, env, G, sr, q⟩ => ?_
  unfold eIsE at q
  split at q
  · rename_i c w hi
    obtain ⟨ov, ho, a, oe, dd, vw, rfl, hpn, hz, hf, hx, rw'⟩ := sr.ev.ok i _ hi
    cases hmc : m c with
    | none => rw [hmc] at q; exact q.elim
    | some b =>
      rw [hmc] at q
      obtain ⟨C, hk⟩ := hm c b hmc
      exact ⟨_, ho, a, c, dd, oe, vw, v, cv, b, rfl, hpn, hz, hf, hx, C, hcv, hk, q (.bl b) ρ H Ext.refl sr.rg rfl⟩
  · exact q.elim
/-- the class is one of the program, or a built-in one -/
theorem isE_own {y : Str} {p : Pos} {C : Addr} (hg : Gl X y) (hm : X.mg y = some (.ref C)) (hd : (y == ("__debug__" : Str)) = false := by decide) : PE X (.Name y p) (tC (.ref C)) := pe_glob hg hm rfl hd
theorem isE_own' {C : Addr} : ∀ u, RelV (.ref C) u → u = .ref C := fun u h => h
end
end DL

set_option Elab.async false
set_option linter.all false
set_option maxRecDepth 100000
set_option maxHeartbeats 1000000
namespace DL
open PySem PySem.Spec PyProof.Rows L2
open Classical

/-! ### blocks: what is read in a comprehension -/
abbrev noW : WX := fun _ _ _ _ => False
section
variable (K : PySem.W.Frag) (T : TbT)
def tE0 (f : ES) : TE := fun σ H Q => ∃ ρ env G, RG K T ρ G H ∧ EnvR K [] H ρ env σ ∧ (match f env G with
  | .ok d G' => ∀ v ρ' H', Ext ρ H ρ' H' → RG K T ρ' G' H' → Rep K H' ρ' d v → Q v H'
  | _ => False)
def tT0 (f : TSm) : TT := fun σ H Q => ∃ ρ env G, RG K T ρ G H ∧ EnvR K [] H ρ env σ ∧ (match f env G with
  | .ok b G' => ∀ ρ' H', Ext ρ H ρ' H' → RG K T ρ' G' H' → Q b H'
  | _ => False)
/-- a target that touches the slots vs alone -/
def tG0 (vs : List Nat) (a : GS) : TG := fun v σ H Q => ∃ ρ env G d, RG K T ρ G H ∧ EnvR K [] H ρ env σ ∧ Rep K H ρ d v ∧ (match a d env G with
  | some (env', G') => ∀ σ' ρ' H', Ext ρ H ρ' H' → RG K T ρ' G' H' → EnvR K [] H' ρ' env' σ' → wipe σ' vs = wipe σ vs → Q σ' H'
  | none => False)
def tGs0 (vs : List Nat) (as : List GS) : TGs := fun us σ H Q => ∃ ρ env G ds, RG K T ρ G H ∧ EnvR K [] H ρ env σ ∧ Reps K H ρ ds us ∧ (match aList as ds env G with
  | some (env', G') => ∀ σ' ρ' H', Ext ρ H ρ' H' → RG K T ρ' G' H' → EnvR K [] H' ρ' env' σ' → wipe σ' vs = wipe σ vs → Q σ' H'
  | none => False)
end
theorem wipe_set {σ : L2.St} {i : Nat} {ov : Option V} : ∀ {vs : List Nat}, i ∈ vs → wipe (σ.set i ov) vs = wipe σ vs
  | [], h => by cases h
  | v :: vs, h => by
    show (wipe (σ.set i ov) vs).set v none = (wipe σ vs).set v none
    by_cases hm : i ∈ vs
    · rw [wipe_set hm]
    · have e : i = v := by
        rcases List.mem_cons.mp h with e | e
        · exact e
        · exact absurd e hm
      subst e
      have go : ∀ (ws : List Nat), i ∉ ws → wipe (σ.set i ov) ws = (wipe σ ws).set i ov := by
        intro ws
        induction ws with
        | nil => intro _; rfl
        | cons w ws ih =>
          intro hw
          show (wipe (σ.set i ov) ws).set w none = ((wipe σ ws).set w none).set i ov
          rw [ih (fun z => hw (List.mem_cons_of_mem _ z)), List.set_comm _ _ (fun z => hw (by rw [z]; exact List.mem_cons_self))]
      rw [go vs hm, List.set_set]
theorem wipe_out' {σ : L2.St} {i : Nat} {ov : Option V} : ∀ {vs : List Nat}, i ∉ vs → wipe (σ.set i ov) vs = (wipe σ vs).set i ov
  | [], _ => rfl
  | w :: ws, hw => by
    show (wipe (σ.set i ov) ws).set w none = ((wipe σ ws).set w none).set i ov
    rw [wipe_out' (fun z => hw (List.mem_cons_of_mem _ z)), List.set_comm _ _ (fun z => hw (by rw [z]; exact List.mem_cons_self))]
theorem wipe_wipe {σ : L2.St} : ∀ {vs : List Nat}, wipe (wipe σ vs) vs = wipe σ vs
  | [] => rfl
  | v :: vs => by
    show (wipe ((wipe σ vs).set v none) vs).set v none = (wipe σ vs).set v none
    by_cases h : v ∈ vs
    · rw [wipe_set h, wipe_wipe]
    · rw [wipe_out' h, wipe_wipe, List.set_set]
/-- the slots of a block's own names forgotten -/
def wipeE (env : Env') : List Nat → Env'
  | [] => env
  | v :: vs => (wipeE env vs).set v .no
theorem EnvR.wipe {K : PySem.W.Frag} {pn : List (Addr × Obj)} {H : Hp} {ρ : List Addr} {env : Env'} {σ : L2.St} (h : EnvR K pn H ρ env σ) : ∀ vs : List Nat, EnvR K pn H ρ (wipeE env vs) (L2.wipe σ vs)
  | [] => h
  | v :: vs => (EnvR.wipe h vs).set v (s := .no) trivial
section
variable {X : Cx} {T : TbT} {e c : Expr} {f : ES} {t : TSm} {vs : List Nat} {a : GS}
theorem pe_blk (hp : X.pn = []) (h : DE X T noW e f) : PE X e (tE0 X.K T f) := PE_imp h fun σ H Q ⟨ρ, env, G, rg, ev, q⟩ => ⟨ρ, env, G, ⟨rg, by rw [hp]; exact ev⟩, by
  revert q
  cases f env G with
  | ok d G' => exact fun q => q
  | ex c w G' => exact fun q => q.elim
  | bad => exact fun q => q⟩
theorem pt_blk (hp : X.pn = []) (h : DT X T noW c t) : PT X c (tT0 X.K T t) := PT_imp h fun σ H Q ⟨ρ, env, G, rg, ev, q⟩ => ⟨ρ, env, G, ⟨rg, by rw [hp]; exact ev⟩, by
  revert q
  cases t env G with
  | ok d G' => exact fun q => q
  | ex c w G' => exact fun q => q.elim
  | bad => exact fun q => q⟩
abbrev DG0 (X : Cx) (T : TbT) (vs : List Nat) (e : Expr) (a : GS) : Prop := PG X e (tG0 X.K T vs a)
theorem dg0_name {i : Nat} {x : Str} {pos : Pos} (hN : X.N.Nodup) (hi : X.N[i]? = some x) (hx : Loc X.env.scope x) (hm : i ∈ vs) (hf : X.fn x = true ∨ X.env.scope.names.lookup x = some .local := by first | exact .inl rfl | exact .inr rfl | assumption) : DG0 X T vs (.Name x pos) (aName i) :=
  PG_imp (pg_name hN hi hx hf) fun v σ H Q ⟨ρ, env, G, d, rg, ev, r, q⟩ => q _ ρ H Ext.refl rg (ev.set i ⟨v, rfl, r⟩) (wipe_set hm)
theorem dgs0_nil : PGs X [] (tGs0 X.K T vs []) := PGs_imp pgs_nil fun us σ H Q ⟨ρ, env, G, ds, rg, ev, r, q⟩ => by
  cases ds with
  | nil => exact ⟨r, q σ ρ H Ext.refl rg ev rfl⟩
  | cons d ds => exact q.elim
theorem dgs0_cons {gs : List GS} {es : List Expr} (h1 : DG0 X T vs e a) (h2 : PGs X es (tGs0 X.K T vs gs)) (hs : (assignEach (e :: es) X.env).map (·.2) = assign e X.env :: (assignEach es X.env).map (·.2) := by rfl) : PGs X (e :: es) (tGs0 X.K T vs (a :: gs)) :=
  PGs_imp (pgs_cons h1 h2 hs) fun us σ H Q ⟨ρ, env, G, ds, rg, ev, r, q⟩ => by
    cases ds with
    | nil => exact q.elim
    | cons d ds =>
      obtain ⟨v, ts, rfl, r1, r2⟩ := r
      refine ⟨v, ts, rfl, ρ, env, G, d, rg, ev, r1, ?_⟩
      unfold aList at q
      cases h : a d env G with
      | none => rw [h] at q; exact q
      | some z =>
        obtain ⟨env1, G1⟩ := z
        rw [h] at q
        exact fun σ1 ρ1 H1 e1 rg1 ev1 w1 => ⟨ρ1, env1, G1, ds, rg1, ev1, e1.reps rg r2, by
          dsimp only at q
          revert q
          cases aList gs ds env1 G1 with
          | none => exact fun q => q
          | some z => exact fun q σ' ρ' H' e2 rg2 ev2 w2 => q σ' ρ' H' (e1.trans e2) rg2 ev2 (w2.trans w1)⟩
theorem dg0_tup {gs : List GS} {es : List Expr} {k : Nat} {pos : Pos} (hc : X.calm = true) (h : PGs X es (tGs0 X.K T vs gs))
    (hn : (assignEach es X.env).length = gs.length := by rfl) (hst : (assignEach es X.env).findIdx? (·.1) = none := by rfl) : DG0 X T vs (.Tuple es k pos) (aTup gs) :=
  PG_imp (pg_tup hc h hn hst) fun v σ H Q ⟨ρ, env, G, d, rg, ev, r, q⟩ => by
    unfold aTup at q
    split at q
    · rename_i env' G' hh
      split at hh
      · split at hh
        · rename_i ds hl
          obtain ⟨b, us, rfl, sq, rs⟩ := r
          exact ⟨b, us, rfl, sq, by rw [rs.length]; exact hl, ρ, env, G, _, rg, ev, rs.reps, by rw [hh]; exact q⟩
        · cases hh
      · split at hh
        · rename_i ds hl
          obtain ⟨b, us, rfl, sq, rs⟩ := r
          exact ⟨b, us, rfl, sq, by rw [rs.length]; exact hl, ρ, env, G, _, rg, ev, rs, by rw [hh]; exact q⟩
        · cases hh
      · cases hh
    · exact q.elim
/-- the tests of a clause -/
def tNo : TSm := fun _ G => .ok true G
theorem dts_nil : PTs X [] (tT0 X.K T tNo) := ⟨fun pins s σ H Q I ⟨ρ, env, G, rg, ev, q⟩ => pts_nil.run pins s σ H Q I (q ρ H Ext.refl rg)⟩
theorem dts_one (hp : X.pn = []) (h : DT X T noW c t) : PTs X [c] (tT0 X.K T t) := pts_one (pt_blk hp h)
end

/-! ### [e for x in xs if t] -/
noncomputable def lcL (a : GS) (t : TSm) (f : ES) (l : Nat) (chk : Hh → Prop) (env : Env') : List D → Hh → RE
  | [], G => if chk G then .ok (.ref l) G else .bad
  | x :: xs, G => if chk G then (match a x env G with
    | some (env2, G2) => (match t env2 G2 with
      | .ok true G3 => (match f env2 G3 with
        | .ok y G4 => (match G4[l]? with
          | some (.lst acc) => if acc.length < 100000 then lcL a t f l chk env xs (G4.set l (.lst (acc ++ [y]))) else .bad
          | _ => .bad)
        | _ => .bad)
      | .ok false G3 => lcL a t f l chk env xs G3
      | _ => .bad)
    | none => .bad) else .bad
noncomputable def eLc (src : IS) (a : GS) (t : TSm) (f : ES) (vs : List Nat) : ES := fun env G => match src env G with
  | .ok xs chk G1 => lcL a t f G1.length chk (wipeE (cutX env) vs) xs (G1 ++ [.lst []])
  | .ex c w G1 => .ex c w G1
  | .bad => .bad
section
variable {X : Cx} {T : TbT} {W : WX} {src : IS} {a : GS} {t : TSm} {f : ES} {vs : List Nat}
theorem tE_lc {σ : L2.St} {H : Hp} {Q : VK} (q : tE X T W (eLc src a t f vs) σ H Q) : tLc (tI X T W src) (tG0 X.K T vs a) (tT0 X.K T t) (tE0 X.K T f) vs σ H Q := by
  obtain ⟨ρ, env, G, sr, p⟩ := q
  refine ⟨ρ, env, G, sr, ?_⟩
  unfold eLc at p
  cases q : src env G with
  | ok xs chk G1 =>
    rw [q] at p
    intro ρ1 H1 J e1 rg1 it D hD
    dsimp only at p
    obtain ⟨rg2, e2⟩ := rg1.new (ds := []) (vs := []) hD rfl
    refine ⟨fun i m H' => ∃ ρ' G', Ext (ρ1 ++ [D]) (upd H1 D (.lst [])) ρ' H' ∧ RG X.K T ρ' G' H' ∧ i + m = xs.length ∧ PostE X T W σ ρ' H' (lcL a t f G1.length chk (wipeE (cutX env) vs) (xs.drop i) G') Q,
      ⟨xs.length, _, _, Ext.refl, rg2, by omega, PostE.ext (e1.trans e2) p⟩, fun i m H' hW => ?_⟩
    obtain ⟨ρ', G', e', rg', hm, p'⟩ := hW
    have eD : ρ'[G1.length]? = some D := e'.kr _ _ (by rw [rg1.len]; simp)
    have ew : EnvR X.K [] H' ρ' (wipeE (cutX env) vs) (wipe σ vs) := ((e1.trans e2).trans e').envr sr.rg sr.ev |>.cut.wipe vs
    cases hd : xs.drop i with
    | nil =>
      rw [hd] at p'
      unfold lcL at p'
      split at p'
      · rename_i hck
        have hl : xs.length ≤ i := by
          have := congrArg List.length hd
          simp at this; omega
        exact .inl ⟨(it ρ' G' H' i (e2.trans e') rg' hck).2 hl, p' _ ρ' H' Ext.refl rg' ⟨D, eD, rfl⟩⟩
      · exact p'.elim
    | cons d ds =>
      rw [hd] at p'
      have hi : xs[i]? = some d := by
        rw [← List.head?_drop, hd]; rfl
      have hds : xs.drop (i + 1) = ds := by
        rw [← List.drop_drop, hd]; rfl
      have hlt : i < xs.length := (List.getElem?_eq_some_iff.mp hi).1
      unfold lcL at p'
      split at p'
      · rename_i hck
        obtain ⟨hgo, hy⟩ := (it ρ' G' H' i (e2.trans e') rg' hck).1 d hi
        refine .inr ⟨hgo, fun H2 => ∃ ρ2 G2, Ext (ρ1 ++ [D]) (upd H1 D (.lst [])) ρ2 H2 ∧ RG X.K T ρ2 G2 H2 ∧ PostE X T W σ ρ2 H2 (lcL a t f G1.length chk (wipeE (cutX env) vs) ds G2) Q, fun H2 hN => ?_, fun x H2 hyl => ?_⟩
        · obtain ⟨ρ2, G2, x2, rg2, p2⟩ := hN
          exact ⟨m - 1, by omega, ρ2, G2, x2, rg2, by omega, by rw [hds]; exact p2⟩
        · obtain ⟨x2, rg2, r2⟩ := hy x H2 hyl
          refine ⟨ρ', wipeE (cutX env) vs, G', d, rg2, x2.envr rg' ew, r2, ?_⟩
          cases q3 : a d (wipeE (cutX env) vs) G' with
          | none => rw [q3] at p'; exact p'.elim
          | some z =>
            obtain ⟨env3, G3⟩ := z
            rw [q3] at p'
            intro σ3 ρ3 H3 x3 rg3 ev3 w3
            refine ⟨by rw [w3]; exact wipe_wipe, ρ3, env3, G3, rg3, ev3, ?_⟩
            dsimp only at p'
            cases q4 : t env3 G3 with
            | ok b G4 =>
              rw [q4] at p'
              intro ρ4 H4 x4 rg4
              have xx4 := x2.trans (x3.trans x4)
              cases b with
              | false =>
                rw [if_neg Bool.false_ne_true]
                exact ⟨ρ4, G4, e'.trans xx4, rg4, PostE.ext xx4 p'⟩
              | true =>
                rw [if_pos rfl]
                refine ⟨ρ4, env3, G4, rg4, x4.envr rg3 ev3, ?_⟩
                dsimp only at p'
                cases q5 : f env3 G4 with
                | ok y G5 =>
                  rw [q5] at p'
                  intro v5 ρ5 H5 x5 rg5 r5
                  dsimp only at p'
                  have xx5 := xx4.trans x5
                  split at p'
                  · rename_i acc hacc
                    split at p'
                    · rename_i hl
                      have eD5 : ρ5[G1.length]? = some D := xx5.kr _ _ eD
                      obtain ⟨us, hu, ru⟩ := rg5.ok _ _ _ eD5 hacc
                      obtain ⟨rg6, x6⟩ := rg5.write eD5 hacc hu (ru.append (es := [y]) (ws := [v5]) ⟨v5, [], rfl, r5, rfl⟩)
                      refine ⟨us, hu, Nat.lt_of_lt_of_le (by rw [ru.length]; exact hl) (by decide : 100000 ≤ sizeLine), ρ5, _, e'.trans (xx5.trans x6), rg6, PostE.ext (xx5.trans x6) p'⟩
                    · exact p'.elim
                  · exact p'.elim
                | ex c w G5 => rw [q5] at p'; exact p'
                | bad => rw [q5] at p'; exact p'
            | ex c w G4 => rw [q4] at p'; exact p'.elim
            | bad => rw [q4] at p'; exact p'
      · exact p'.elim
  | ex c w G1 => rw [q] at p; exact p
  | bad => rw [q] at p; exact p
variable {scope : Scope} {own : List (Str × Nat)} {elt tg iter : Expr} {ifs : List Expr} {pos : Pos}
theorem de_lc (hc : X.calm = true) (hN : X.N.Nodup) (hi : DI X T W tg iter src) (ok : BlkOk X.N X.env.scope scope own)
    (hg : ∀ (s : Shared) (H : Hp) (C : Addr) (cl : List (Str × Addr)) (fp : List Addr), DG0 (X.blk s H scope (compEnvC scope cl C X.env) fp) T (own.map (·.2)) tg a)
    (ht : ∀ (s : Shared) (H : Hp) (C : Addr) (cl : List (Str × Addr)) (fp : List Addr), PTs (X.blk s H scope (compEnvC scope cl C X.env) fp) ifs (tT0 X.K T t))
    (he : ∀ (s : Shared) (H : Hp) (C : Addr) (cl : List (Str × Addr)) (fp : List Addr), DE (X.blk s H scope (compEnvC scope cl C X.env) fp) T noW elt f) (hs : ∀ x, foldedSetIterable iter X.env x = pure x := by intro _; rfl) :
    DE X T W (.ListComp elt [⟨tg, iter, ifs, 0⟩] scope pos) (eLc src a t f (own.map (·.2))) :=
  PE_imp (pe_lc hc hN hi ok hg ht (fun s H C cl fp => pe_blk rfl (he s H C cl fp)) hs) fun _ _ _ q => tE_lc q
theorem ds_setLc {i : Nat} {y : Str} {py spos : Pos} (hc : X.calm = true) (hN : X.N.Nodup) (hy : X.N[i]? = some y) (hyl : X.env.scope.names.lookup y = some .local)
    (hsw : swapsWith (.ListComp elt [⟨tg, iter, ifs, 0⟩] scope pos) (some (.Name y py)) spos.line X.env = pure true) (hi : DI X T W tg iter src) (ok : BlkOk X.N X.env.scope scope own)
    (hg : ∀ (s : Shared) (H : Hp) (C : Addr) (cl : List (Str × Addr)) (fp : List Addr), DG0 (X.blk s H scope (compEnvC scope cl C X.env) fp) T (own.map (·.2)) tg a)
    (ht : ∀ (s : Shared) (H : Hp) (C : Addr) (cl : List (Str × Addr)) (fp : List Addr), PTs (X.blk s H scope (compEnvC scope cl C X.env) fp) ifs (tT0 X.K T t))
    (he : ∀ (s : Shared) (H : Hp) (C : Addr) (cl : List (Str × Addr)) (fp : List Addr), DE (X.blk s H scope (compEnvC scope cl C X.env) fp) T noW elt f) (hs : ∀ x, foldedSetIterable iter X.env x = pure x := by intro _; rfl) :
    DS X T W (.Assign [.Name y py] (.ListComp elt [⟨tg, iter, ifs, 0⟩] scope pos) spos) (sAsg (eLc src a t f (own.map (·.2))) (aName i)) :=
  PS_imp (ps_setLc hc hN hy hyl hsw hi ok hg ht (fun s H C cl fp => pe_blk rfl (he s H C cl fp)) hs) fun E σ H ⟨ρ, env, G, sr, q⟩ => by
    refine tE_lc (a := a) (f := f) ⟨ρ, env, G, sr, ?_⟩
    unfold sAsg at q
    cases h : eLc src a t f (own.map (·.2)) env G with
    | ok d G1 =>
      rw [h] at q
      dsimp only [aName] at q
      exact fun v ρ' H' e rg r => q _ ρ' H' e ⟨rg, (e.envr sr.rg sr.ev).set i ⟨v, rfl, r⟩⟩
    | ex c w G1 => rw [h] at q; exact PostS.exE sr q
    | bad => rw [h] at q; exact q
end
end DL

set_option Elab.async false
set_option linter.all false
set_option maxRecDepth 100000
set_option maxHeartbeats 1000000
namespace DL
open PySem PySem.Spec PyProof.Rows L2 GenW
open Classical

/-! ### generator expressions: the block's context -/
abbrev genE (scope : Scope) (C : Addr) (code : Value) (env : Env) : Env := genEnv scope (cloFrom env.cells scope.names []) C code builtinsNs env
/-- the context of the element, woken in A; pn: the generator's own object -/
abbrev gcx (X : Cx) (A : Around) (s : Shared) (H : Hp) (scope : Scope) (ge : Env) (fp : List Addr) (pn : List (Addr × Obj)) : Cx :=
  { X with A := A, s_0 := s, H_0 := H, env := ge, outer := X.stack, stack := ge :: X.stack, ex := fp, fn := fun x => scope.names.lookup x == some .cell, pn := pn, xe := fun _ _ => False }
/-- the names of a generator expression: none of its own is captured -/
structure GenOk (N : List Str) (sc scope : Scope) (own : List (Str × Nat)) : Prop where
  blk : BlkOk N sc scope own
  co : scope.isCoroutine = false
  cell : ∀ y ∈ scope.names, y.2 ≠ .cell
  dot : scope.names.lookup (".0" : Str) = some NameKind.local
section
variable {X : Cx} {pins : List (Addr × Obj)} {σ : L2.St} {H : Hp} {s : Shared}
theorem gen_start {scope : Scope} {own : List (Str × Nat)} {fp : List Addr} {code : Value} {A : Around} {pn pl : List (Addr × Obj)} {s2 : Shared} {m0 : Str → Option Value} (I : Inv X pins σ H s) (ok : GenOk X.N X.env.scope scope own) (hN : X.N.Nodup)
    (hfp : ∀ b ∈ fp, FpOk X pins H b ∧ b < s.heap.objs.size) (hh : A.handled = none) (hfr : A.frames = some (genE scope s.heap.objs.size code X.env :: X.stack)) (kp : ∀ b o, s.heap.get? b = some o → s2.heap.get? b = some o)
    (hns : s2.heap.Ns s.heap.objs.size m0) (hos : s2.os = s.os) (hba : AllBare s2.gens) (hpin : ∀ p ∈ pn ++ pl, s2.heap.get? p.1 = some p.2 ∧ H p.1 = none ∧ p.1 ≠ s.heap.objs.size ∧ p.1 ∉ frs X.stack ∧ ∀ v, p.2.data ≠ .cell v) :
    Inv (gcx X A s H scope (genE scope s.heap.objs.size code X.env) fp pn) pl (wipe σ (own.map (·.2))) H s2 := by
  have hfree : ∀ y ∈ scope.names, y.2 = .free → ∃ c, X.env.cells.lookup y.1 = some c := fun y hy e => by
    rcases ok.blk.free y hy e with k | k
    · exact I.ok.has _ (.inl k)
    · exact I.ok.has _ (.inr k)
  have cm : ∀ {y c}, (y, c) ∈ cloFrom X.env.cells scope.names [] → X.env.cells.lookup y = some c ∧ c < s.heap.objs.size := fun {y c} hm => by
    rcases cloFrom_mem hm with hm | ⟨h1, h2⟩
    · cases hm
    · obtain ⟨c', hc⟩ := hfree _ h1 rfl
      rw [hc] at h2
      have e : c = c' := h2
      subst e
      obtain ⟨w, z⟩ := I.cell _ _ hc
      exact ⟨hc, z.lt⟩
  have mem : ∀ {y c}, (cloFrom X.env.cells scope.names []).lookup y = some c → X.env.cells.lookup y = some c ∧ c < s.heap.objs.size := fun e => cm (PySem.mem_of_lookup e)
  have look : ∀ {y}, scope.names.lookup y = some .free → ∃ c, (cloFrom X.env.cells scope.names []).lookup y = some c ∧ X.env.cells.lookup y = some c := fun {y} hl => by
    obtain ⟨c', e'⟩ := mem_lookup (cloFrom_has (cells := X.env.cells) (acc := []) (PySem.mem_of_lookup hl))
    exact ⟨c', e', (mem e').1⟩
  have okB : (gcx X A s H scope (genE scope s.heap.objs.size code X.env) fp pn).Ok := by
    refine ⟨I.ok.mod, ok.blk.kind, I.ok.glob, rfl, Nat.le_refl _, fun y z c e1 e2 => I.ok.inj y z c (mem e1).1 (mem e2).1, fun y hy => ?_, fun y c z e => ?_, fun _ => hh, hfr, .inr ⟨rfl, rfl⟩, fun b hb => ⟨?_, fun y c e z => ?_⟩, I.bs, Nat.le_trans I.ok.bsz I.sz, fun b o e hb => ?_, fun b hb z => ?_, I.stack, I.stkFree⟩
    · rcases hy with hy | hy
      · exact absurd rfl (ok.cell _ (PySem.mem_of_lookup hy))
      · obtain ⟨c, h1, _⟩ := look hy
        exact ⟨c, h1⟩
    · have z : scope.names.lookup y = some .cell := by
        have z : (scope.names.lookup y == some NameKind.cell) = true := z
        simpa using z
      exact absurd rfl (ok.cell _ (PySem.mem_of_lookup z))
    · exact Nat.ne_of_lt (hfp b hb).2
    · exact (hfp b hb).1.2.2.2.2.1 y c (mem e).1 z
    · rcases (hfp b hb).1.2.2.2.1 with z | z
      · exact I.ok.noex b o e z
      · exact absurd (Nat.lt_of_lt_of_le (Heap.lt_size e) (Nat.le_trans I.ok.bsz z)) (Nat.lt_irrefl _)
    · rcases List.mem_cons.mp (I.stkSub b z) with z | z
      · exact (hfp b hb).1.2.1 z
      · exact (hfp b hb).1.2.2.1 z
  refine ⟨okB, hos, hba, Un.kept kp, ⟨m0, hns, fun i y av e1 e2 e3 => ?_⟩, fun y c e => ?_, I.hok.fresh (Nat.le_refl _), fun y c e => I.freeC y c (mem e).1, hpin, I.hok.kept kp, by rw [wipe_length]; exact I.len⟩
  · obtain ⟨e2, hne⟩ := wipe_some e2
    have no : ∀ k, scope.names.lookup y = some k → k = .local ∨ k = .cell → False := fun k e hh => by
      rcases ok.blk.own _ (PySem.mem_of_lookup e) hh with e' | e'
      · obtain ⟨p, hp, hpy⟩ := List.mem_map.mp e'
        have e3 := ok.blk.ix p hp
        have : p.1 = y := hpy
        rw [this] at e3
        exact hne (List.mem_map.mpr ⟨p, hp, nodup_ix hN e3 e1⟩)
      · exact e' (List.mem_of_getElem? e1)
    have hf : scope.names.lookup y = some .free := by
      have e3 : Vis scope y := e3
      rcases e3 with e3 | e3 | e3
      · exact (no _ e3 (.inl rfl)).elim
      · exact (no _ e3 (.inr rfl)).elim
      · exact e3
    obtain ⟨m, hn, hl⟩ := I.loc
    have hvis : Vis X.env.scope y := (ok.blk.free _ (PySem.mem_of_lookup hf) rfl).elim (fun k => .inr (.inl k)) (fun k => .inr (.inr k))
    obtain ⟨w, r, q⟩ := hl i y av e1 e2 hvis
    refine ⟨w, r, .inr ⟨.inr hf, ?_⟩⟩
    obtain ⟨c, h1, h2⟩ := look hf
    rcases q with ⟨k, _⟩ | ⟨_, c', e', z⟩
    · have k : X.env.scope.names.lookup y = some .local := k
      rcases ok.blk.free _ (PySem.mem_of_lookup hf) rfl with k' | k' <;> rw [show X.env.scope.names.lookup y = _ from k'] at k <;> cases k
    · rw [h2] at e'; cases e'
      exact ⟨c, h1, z.keeps kp⟩
  · obtain ⟨w, z⟩ := I.cell y c (mem e).1
    exact ⟨w, z.keeps kp⟩
end
end DL

set_option Elab.async false
set_option linter.all false
set_option maxRecDepth 100000
set_option maxHeartbeats 1000000
namespace DL
open PySem PySem.Spec PyProof.Rows L2 GenW
open Classical

/-! ### the consumer: it keeps what is handed out in a list (cs = some S), or it does not -/
structure SleptC (cs : Option Addr) (v : Value) (s s' : Shared) : Prop where
  os : s'.os = s.os
  bare : AllBare s'.gens
  keep : ∀ b o, cs ≠ some b → s.heap.get? b = some o → s'.heap.get? b = some o
  own : ∀ S, cs = some S → ∀ acc c, s.heap.get? S = some (lstObj acc c) → ∃ c', s'.heap.get? S = some (lstObj (acc.push v) c')
/-- ys stand in the consumer's list -/
def Holds (cs : Option Addr) (ys : List V) (pl : List (Addr × Obj)) : Prop := (∀ p ∈ pl, cs = some p.1) ∧ ∀ S, cs = some S → ∃ acc c, (S, lstObj acc c) ∈ pl ∧ Vals ys acc.toList
/-- running -/
def GJ (X : Cx) (cs : Option Addr) (ip : List (Addr × Obj)) (ys : List V) (σ : L2.St) (H : Hp) (s : Shared) : Prop := ∃ pl, Holds cs ys pl ∧ Inv X (pl ++ ip) σ H s
def ApartC (X : Cx) (cs : Option Addr) : Prop := ∀ S, cs = some S → X.s_0.heap.objs.size ≤ S ∧ S ≠ X.env.locals ∧ (∀ x c, X.env.cells.lookup x = some c → c ≠ S) ∧ (∀ p ∈ X.pn, p.1 ≠ S)
section
variable {X : Cx} {cs : Option Addr} {ip : List (Addr × Obj)} {ys : List V} {x : V} {v : Value} {σ : L2.St} {H : Hp} {s s' : Shared}
/-- the consumer's list is none of what is tracked -/
theorem GJ.apart (h : GJ X cs ip ys σ H s) {S : Addr} (hS : cs = some S) : H S = none ∧ S ≠ X.env.locals ∧ S ∉ X.fs ∧ ∃ acc c, s.heap.get? S = some (lstObj acc c) ∧ Vals ys acc.toList := by
  obtain ⟨pl, ⟨_, h2⟩, I⟩ := h
  obtain ⟨acc, c, hm, r⟩ := h2 S hS
  obtain ⟨a1, a2, a3, a4, _⟩ := I.pin (S, lstObj acc c) (List.mem_append_right _ (List.mem_append_left _ hm))
  exact ⟨a2, a3, a4, acc, c, a1, r⟩
/-- woken again -/
theorem GJ.woken (hip : ∀ p ∈ ip, cs ≠ some p.1) (hA : ApartC X cs) (h : GJ X cs ip ys σ H s) (rv : RelV x v) (z : SleptC cs v s s') : GJ X cs ip (ys ++ [x]) σ H s' := by
  have hap := fun S (hS : cs = some S) => h.apart hS
  obtain ⟨pl, ⟨hp1, hp2⟩, I⟩ := h
  have I0 : Inv X ip σ H s := I.pins_of fun p hp => I.pin p (List.mem_append_right _ (List.mem_append_right _ hp))
  have nt : ∀ b u, H b = some u → cs ≠ some b := fun b u q e => by
    rw [(hap b e).1] at q; cases q
  obtain ⟨z1, z2, z3, z4⟩ := z
  have hch : ∀ b ∉ cs.toList, cs ≠ some b := fun b hb e => hb (by rw [e]; simp)
  have J : Inv X ip σ H s' := by
    refine I0.call' (ch := cs.toList) z1 ⟨fun b o q _ _ hc => z3 b o (hch b hc) q, fun b o q _ _ hc => ⟨o.slots, z3 b o (hch b hc) q⟩, fun b o q n _ => n, fun b o q hc => ⟨o, z3 b o (hch b hc) q⟩, fun _ _ q => q, fun _ _ _ q => q, fun b ps q => ⟨#[], by rw [q]; simp⟩⟩ (fun b u q => ?_) z2 fun b hb => ?_
    · refine (I0.hok b u q).stay (fun c w hc y => z3 c _ ?_ y) (fun _ y => y) fun _ _ y => y
      rcases hc with y | y
      · rw [y]; exact nt b u q
      · exact nt c _ y
    · have e : cs = some b := by
        cases cs with
        | none => simp at hb
        | some S => simp at hb; rw [hb]
      obtain ⟨a1, a2, a3, a4⟩ := hA b e
      refine ⟨.inr a1, a2, a3, fun p hp => ?_⟩
      rcases List.mem_append.mp hp with hp | hp
      · exact a4 p hp
      · exact fun y => hip p hp (by rw [y]; exact e)
  cases hcs : cs with
  | none => exact ⟨[], ⟨by simp, fun S hS => by cases hS⟩, J⟩
  | some S =>
    obtain ⟨acc, c, hm, r⟩ := hp2 S hcs
    obtain ⟨a0, a1, a2, _⟩ := hap S hcs
    have eS : s.heap.get? S = some (lstObj acc c) := (I.pin (S, lstObj acc c) (List.mem_append_right _ (List.mem_append_left _ hm))).1
    obtain ⟨c', eS'⟩ := z4 S hcs acc c eS
    refine ⟨[(S, lstObj (acc.push v) c')], ⟨fun p hp => by rw [List.mem_singleton.mp hp], fun S' hS' => ?_⟩, J.pins_of fun p hp => ?_⟩
    · cases hS'
      refine ⟨acc.push v, c', List.mem_singleton.mpr rfl, ?_⟩
      rw [Array.toList_push]
      exact r.append (.cons rv .nil)
    · rcases List.mem_append.mp hp with hp | hp
      · rw [List.mem_singleton.mp hp]
        exact ⟨eS', a0, a1, a2, fun v q => by cases q⟩
      · exact J.pin p (List.mem_append_right _ hp)
end

/-! ### what a generator promises -/
/-- ys are out, x is handed out: the consumer stops here (Stp), or goes on (Go) -/
def YG (P : Program) (w : World) (outer : List Env) (ex : List Addr) (H1 : Hp) (sc : Shared) (cs : Option Addr) (a : Addr) (g : Nat) (Stp : V → Hp → Prop) (Go : V → Prop) : Protocol := fun n _ v s1 kap =>
  ∃ (ys : List V) (x : V) (H' : Hp), n + 1 + ys.length = sizeLine ∧ RelV x v ∧ s1.os = sc.os ∧ AllBare s1.gens ∧ s1.heap.NoLimit ∧ s1.heap.IsGen a g ∧ Un (frs outer) ex H1 H' sc.heap s1.heap ∧ HOk P w H' s1.heap ∧
    (∀ S, cs = some S → H' S = none ∧ ∃ acc c, s1.heap.get? S = some (lstObj acc c) ∧ Vals ys acc.toList) ∧ (Stp x H' ∨ (Go x ∧ ∀ s', SleptC cs v s1 s' → kap (.send .none) s'))
def RG' (P : Program) (w : World) (outer : List Env) (ex : List Addr) (H1 : Hp) (sc : Shared) (cs : Option Addr) (Fn : List V → Hp → Prop) : GenEnd := fun _ _ r s1 =>
  ((r = .ok (.ret .none) ∨ r = .ok .next) ∧ ∃ (ys : List V) (H' : Hp), s1.os = sc.os ∧ AllBare s1.gens ∧ Un (frs outer) ex H1 H' sc.heap s1.heap ∧ HOk P w H' s1.heap ∧ ys.length ≤ sizeLine ∧ (∀ S, cs = some S → H' S = none ∧ ∃ acc c, s1.heap.get? S = some (lstObj acc c) ∧ Vals ys acc.toList) ∧ Fn ys H') ∨ ∃ e, r = .error e ∧ False
/-- a generator that has not begun -/
def GMk (X : Cx) (pins : List (Addr × Obj)) (σ : L2.St) (k : Nat) (Stp : V → Hp → Prop) (Go : V → Prop) (Fn : List V → Hp → Prop) (u : Value) (s' : Shared) : Prop :=
  ∃ (a : Addr) (g : Nat) (c : Code) (sc : Shared) (H1 : Hp) (ex : List Addr), u = .ref a ∧ Inv X pins σ H1 sc ∧ ExOk X pins ex ∧ sc.heap.objs.size ≤ a ∧ a < s'.heap.objs.size ∧ s'.heap.IsGen a g ∧ s'.gens[g]? = some (.fresh c) ∧ s'.os = sc.os ∧ AllBare s'.gens ∧ s'.heap.NoLimit ∧ (∀ b o, sc.heap.get? b = some o → s'.heap.get? b = some o) ∧
    ∀ (A : Around) (cs : Option Addr) (s2 : Shared), Room k A → A.guards = some [] → A.frames = some X.stack → (∀ S, cs = some S → s'.heap.objs.size ≤ S ∧ ∃ c, s2.heap.get? S = some (lstObj #[] c)) → (∀ b o, s'.heap.get? b = some o → s2.heap.get? b = some o) → s2.os = sc.os → AllBare s2.gens →
      Seg (model X.prog X.w) A (RG' X.prog X.w X.stack ex H1 sc cs Fn) (YG X.prog X.w X.stack ex H1 sc cs a g Stp Go) sizeLine s2 c ((model X.prog X.w).den c) [] s2
end DL

set_option Elab.async false
set_option linter.all false
set_option maxRecDepth 100000
set_option maxHeartbeats 2000000
namespace DL
open PySem PySem.Spec PyProof.Rows L2 GenW
open Classical

/-- what is asked of a generator expression: P the def's table -/
def tGen (P : Addr) (wi : TI) (g : TG) (te : TE) (vs : List Nat) (Stp : V → Hp → Prop) (Go : V → Prop) (Fn : List V → Hp → Prop) : L2.St → Hp → Prop := fun σ H => wi σ H fun J H1 =>
  ∃ ps : Array Value, H1 P = some (.tbl ps) ∧ TriplesOk ps.toList ∧ ∀ more, TriplesOk (ps ++ more).toList → ∃ W : Nat → Nat → List V → Hp → Prop, (∃ m, W 0 m [] (upd H1 P (.tbl (ps ++ more)))) ∧ ∀ i m ys H, W i m ys H →
    (J.stop i H ∧ Fn ys H) ∨ (J.go i H ∧ ∃ Nx : V → Hp → Prop, (∀ y H', Nx y H' → ∃ m', m' < m ∧ W (i + 1) m' (ys ++ [y]) H') ∧ ∀ x H', J.yld i H x H' → g x (wipe σ vs) H' fun σ2 H2 => wipe σ2 vs = wipe σ vs ∧ te σ2 H2 fun y H4 => ys.length < 100000 ∧ (Stp y H4 ∨ (Go y ∧ Nx y H4)))
section
variable {X : Cx} {pins : List (Addr × Obj)} {σ : L2.St} {H : Hp} {s : Shared} {elt tg iter : Expr} {scope : Scope} {own : List (Str × Nat)} {gpos : Pos} {wi : TI} {g : TG} {te : TE} {k j : Nat} {c P : Addr} {Stp : V → Hp → Prop} {Go : V → Prop} {Fn : List V → Hp → Prop}
/-- the loop, woken -/
theorem gen_loop {H3 : Hp} {s3 : Shared} {fp : List Addr} {it a : Addr} {gn : Nat} {go : Obj} {code : Value} {A : Around} {cs : Option Addr} {tn : Nat → Heap → Prop} {J : It} {W : Nat → Nat → List V → Hp → Prop} {vs : List Nat}
    (hc : X.calm = true) (hco : scope.isCoroutine = false) (hsz : ∀ b ∈ fp, b ≠ a ∧ cs ≠ some b) (hgo : ∀ h : Heap, h.get? a = some go → h.IsGen a gn) (hap : ApartC (gcx X (A.deeper (genE scope s3.heap.objs.size code X.env)) s3 H3 scope (genE scope s3.heap.objs.size code X.env) fp [(a, go)]) cs)
    (T : Turn X.prog X.w X.K tg J fp it tn)
    (pg : PG (gcx X (A.deeper (genE scope s3.heap.objs.size code X.env)) s3 H3 scope (genE scope s3.heap.objs.size code X.env) fp [(a, go)]) tg g)
    (pe : PE (gcx X (A.deeper (genE scope s3.heap.objs.size code X.env)) s3 H3 scope (genE scope s3.heap.objs.size code X.env) fp [(a, go)]) elt te)
    (turn : ∀ i m ys H, W i m ys H → (J.stop i H ∧ Fn ys H) ∨ (J.go i H ∧ ∃ Nx : V → Hp → Prop, (∀ y H', Nx y H' → ∃ m', m' < m ∧ W (i + 1) m' (ys ++ [y]) H') ∧ ∀ x H', J.yld i H x H' → g x (wipe σ vs) H' fun σ2 H2 => wipe σ2 vs = wipe σ vs ∧ te σ2 H2 fun y H4 => ys.length < 100000 ∧ (Stp y H4 ∨ (Go y ∧ Nx y H4)))) :
    ∀ (m i : Nat) (ys : List V) (n : Nat) (s0 s5 : Shared) (H5 : Hp), n + ys.length = sizeLine → W i m ys H5 →
      GJ (gcx X (A.deeper (genE scope s3.heap.objs.size code X.env)) s3 H3 scope (genE scope s3.heap.objs.size code X.env) fp [(a, go)]) cs [] ys (wipe σ vs) H5 s5 → tn i s5.heap → (∀ b ∈ fp, H5 b = none) →
      Seg (model X.prog X.w) A (RG' X.prog X.w X.stack fp H3 s3 cs Fn) (YG X.prog X.w X.stack fp H3 s3 cs a gn Stp Go) n s0 (.compLoop (.GeneratorExp elt [⟨tg, iter, [], 0⟩] scope gpos) 0 (.ref it) .none (genE scope s3.heap.objs.size code X.env))
        ((model X.prog X.w).den (.compLoop (.GeneratorExp elt [⟨tg, iter, [], 0⟩] scope gpos) 0 (.ref it) .none (genE scope s3.heap.objs.size code X.env))) [] s5 := by
  generalize hge : genE scope s3.heap.objs.size code X.env = ge at hap pg pe ⊢
  have hY : ge.scope = scope := by subst hge; rfl
  generalize hX : gcx X (A.deeper ge) s3 H3 scope ge fp [(a, go)] = X' at hap pg pe ⊢
  have xP : X'.prog = X.prog := by subst hX; rfl
  have xw : X'.w = X.w := by subst hX; rfl
  have xK : X'.K = X.K := by subst hX; rfl
  have xc : X'.calm = true := by subst hX; exact hc
  have xpn : X'.pn = [(a, go)] := by subst hX; rfl
  have xfs : X'.fs = frs X.stack := by subst hX; rfl
  have xex : X'.ex = fp := by subst hX; rfl
  have xH : X'.H_0 = H3 := by subst hX; rfl
  have xs : X'.s_0 = s3 := by subst hX; rfl
  have xA : X'.A = A.deeper ge := by subst hX; rfl
  have xe : ∀ {e s}, X'.xe e s → False := by subst hX; exact fun z => z
  have xenv : X'.env = ge := by subst hX; rfl
  have fpk : ∀ {pl : List (Addr × Obj)} {σ' : L2.St} {H' : Hp} {s' : Shared} {ys : List V}, Holds cs ys pl → Inv X' pl σ' H' s' → (∀ b ∈ fp, H' b = none) → ∀ b ∈ fp, FpOk X' pl H' b := fun {pl σ' H' s' ys} hl I hn b hb => by
    have hb' : b ∈ X'.ex := by rw [xex]; exact hb
    refine ⟨hn b hb, (I.ok.exf b hb').1, I.ok.exfs b hb', .inl hb', (I.ok.exf b hb').2, fun p hp => ?_⟩
    rcases List.mem_append.mp hp with hp | hp
    · rw [xpn] at hp
      rw [List.mem_singleton.mp hp]
      exact Ne.symm (hsz b hb).1
    · exact fun e => (hsz b hb).2 (by rw [← e]; exact hl.1 p hp)
  have shape : ∀ {ip : List (Addr × Obj)} {ys : List V} {σ' : L2.St} {H' : Hp} {s' : Shared}, GJ X' cs ip ys σ' H' s' → s'.os = s3.os ∧ AllBare s'.gens ∧ s'.heap.NoLimit ∧ s'.heap.IsGen a gn ∧ Un (frs X.stack) fp H3 H' s3.heap s'.heap ∧ HOk X.prog X.w H' s'.heap ∧
      ∀ S, cs = some S → H' S = none ∧ ∃ acc c, s'.heap.get? S = some (lstObj acc c) ∧ Vals ys acc.toList := fun {ip ys σ' H' s'} h => by
    have ap := fun S (hS : cs = some S) => h.apart hS
    obtain ⟨pl, _, I⟩ := h
    refine ⟨by rw [← xs]; exact I.os, I.bare, I.nolimit, hgo _ (I.pin (a, go) (List.mem_append_left _ (by rw [xpn]; exact List.mem_singleton.mpr rfl))).1, by rw [← xfs, ← xex, ← xH, ← xs]; exact I.base, by rw [← xP, ← xw]; exact I.hok, fun S hS => ?_⟩
    obtain ⟨q1, _, _, q4⟩ := ap S hS
    exact ⟨q1, q4⟩
  intro m
  induction m using Nat.strongRecOn with
  | ind m ih =>
    intro i ys n s0 s5 H5 hn w5 hG st5 n5
    show Seg _ A _ _ _ s0 _ ((compTurn (.GeneratorExp elt [⟨tg, iter, [], 0⟩] scope gpos) 0 (.ref it) .none ge).onRaise (leaving ge)) [] s5
    rw [compTurn_gen, Sem.onRaise_eq_wrap]
    refine seg_bind_wrap (wpAny_standAt ?_)
    obtain ⟨pl, hl, I5⟩ := id hG
    rw [List.append_nil] at I5
    have hA : A.over (.compLoop (.GeneratorExp elt [⟨tg, iter, [], 0⟩] scope gpos) 0 (.ref it) .none ge) [] = X'.A := by rw [xA]; rfl
    rcases turn i m ys H5 w5 with ⟨stop, qq⟩ | ⟨hgo5, Nx, hNx, step⟩
    · have td := T.done X' xP xw xK xc i pl s5 _ H5 (fun _ _ => False) I5 (fpk hl I5 n5) st5 stop
      refine seg_bind_wrap ?_
      rw [hA]
      refine wpAny_mono td (fun r s6 ⟨hr, I6⟩ => ?_) fun _ _ z => z.elim
      subst hr
      have hG6 : GJ X' cs [] ys (wipe σ vs) H5 s6 := ⟨pl, hl, by rw [List.append_nil]; exact I6⟩
      obtain ⟨q1, q2, _, _, q5, q6, q7⟩ := shape hG6
      exact seg_end (.ok .next) (.inl ⟨.inr rfl, ys, H5, q1, q2, q5, q6, by omega, q7, qq⟩)
    · have ti := T.item X' xP xw xK xc i pl s5 _ H5 (fun _ _ => False) I5 (fpk hl I5 n5) st5 hgo5
      refine seg_bind_wrap ?_
      rw [hA]
      refine wpAny_mono ti (fun r s6 ⟨u, hr, h6⟩ => ?_) fun _ _ z => z.elim
      subst hr
      refine seg_bind_wrap ?_
      rw [hA]
      refine wpAny_mono h6 (fun _ s7 ⟨x, H7, I7, r7, y7, st7, n7⟩ => ?_) fun _ _ z => z.elim
      have I7' := I7.pinned (fpk hl I7 n7) (T.obj _ _ st7)
      refine seg_bind_wrap ?_
      rw [hA]
      have r1 := pg.run (pl ++ pinsAt fp s7.heap) s7 _ H7 x u _ I7' r7 (step x H7 y7)
      rw [xP, xw, xenv] at r1
      refine wpAny_mono r1 (fun _ s8 ⟨σ8, H8, I8, hw8, q8⟩ => ?_) fun _ _ z => (xe z).elim
      refine seg_bind_wrap ?_
      simp only [List.forIn_nil]
      refine wpAny_pure ?_
      simp only [if_true]
      have hy : ∀ v, yieldOut ge v = yieldValue v := fun v => by simp only [yieldOut, hY, hco, Bool.false_eq_true, if_false]
      simp only [hy]
      rw [Sem.bind_eq_wrap', Sem.bind_eq_wrap', Sem.wrap_wrap, Sem.wrap_wrap]
      refine seg_wrap ?_
      rw [hA]
      have r2 := pe.run (pl ++ pinsAt fp s7.heap) s8 σ8 H8 _ I8 q8
      rw [xP, xw, xenv] at r2
      refine wpAny_mono r2 (fun v s9 ⟨y, H9, I9, r9, hlen, q9⟩ => ?_) fun _ _ z => (xe z).elim
      obtain ⟨n', hn'⟩ : ∃ n', n = n' + 1 := ⟨n - 1, by rw [sizeLine_eq] at hn; omega⟩
      subst hn'
      have hG9 : GJ X' cs (pinsAt fp s7.heap) ys σ8 H9 s9 := ⟨pl, hl, I9⟩
      obtain ⟨z1, z2, z3, z4, z5, z6, z7⟩ := shape hG9
      refine seg_at (seg_yield rfl rfl rfl ⟨ys, y, H9, hn, r9, z1, z2, z3, z4, z5, z6, z7, ?_⟩)
      rcases q9 with q9 | ⟨q9, nx⟩
      · exact .inl q9
      · refine .inr ⟨q9, fun s10 hsl => ?_⟩
        obtain ⟨m', hm', w'⟩ := hNx y H9 nx
        have hG10 := hG9.woken (fun p hp => (hsz p.1 (of_pinsAt hp).1).2) hap r9 hsl
        obtain ⟨pl', hl', I10⟩ := hG10
        have pin' : ∀ b ∈ fp, ∀ o, s7.heap.get? b = some o → s10.heap.get? b = some o ∧ H9 b = none := fun b hb o e =>
          let z := I10.pin (b, o) (List.mem_append_right _ (List.mem_append_right _ (mem_pinsAt hb e)))
          ⟨z.1, z.2.1⟩
        have hwl : (wipe σ vs).length = σ8.length := by rw [← hw8, wipe_length]
        refine seg_again rfl (ih m' hm' (i + 1) (ys ++ [y]) n' s10 s10 H9 (by rw [List.length_append]; simp; omega) w' ⟨pl', hl', ?_⟩ (T.keep _ _ _ st7 fun b hb o e => (pin' b hb o e).1) fun b hb => ?_)
        · rw [List.append_nil]
          refine (I10.pins_of fun p hp => I10.pin p (List.mem_append_right _ (List.mem_append_left _ hp))).weak hwl fun j v e => ?_
          rw [← hw8] at e
          exact (wipe_some e).1
        · obtain ⟨o, e, _⟩ := T.obj _ _ st7 b hb
          exact (pin' b hb o e).2
end
end DL

set_option Elab.async false
set_option linter.all false
set_option maxRecDepth 100000
set_option maxHeartbeats 2000000
namespace DL
open PySem PySem.Spec PyProof.Rows L2 GenW
open Classical

section
variable {X : Cx} {pins : List (Addr × Obj)} {σ : L2.St} {H : Hp} {s : Shared} {elt tg iter : Expr} {scope : Scope} {own : List (Str × Nat)} {gpos : Pos} {wi : TI} {g : TG} {te : TE} {k j : Nat} {c P : Addr} {Stp : V → Hp → Prop} {Go : V → Prop} {Fn : List V → Hp → Prop}
theorem gen_core (hc : X.calm = true) (hN : X.N.Nodup) (hr : Room j X.A) (I : Inv X pins σ H s) (hi : PI X tg iter wi) (ok : GenOk X.N X.env.scope scope own) (TB : GxR.TabB X.base X.mg c P) (hcode : X.env.code = .ref c)
    (hg : ∀ (A : Around) (s : Shared) (H : Hp) (C : Addr) (code : Value) (fp : List Addr) (pn : List (Addr × Obj)), PG (gcx X (A.deeper (genE scope C code X.env)) s H scope (genE scope C code X.env) fp pn) tg g)
    (he : ∀ (A : Around) (s : Shared) (H : Hp) (C : Addr) (code : Value) (fp : List Addr) (pn : List (Addr × Obj)), Room k (A.deeper (genE scope C code X.env)) → A.guards = some [] → PE (gcx X (A.deeper (genE scope C code X.env)) s H scope (genE scope C code X.env) fp pn) elt te)
    (hs : ∀ v, genFold iter X.env v = pure v) (h : tGen P wi g te (own.map (·.2)) Stp Go Fn σ H) :
    wpAny (model X.prog X.w) X.A (eval (.GeneratorExp elt [⟨tg, iter, [], 0⟩] scope gpos) X.env) (GMk X pins σ (k + 1) Stp Go Fn) X.xe s := by
  have hfree : ∀ y ∈ scope.names, y.2 = .free → ∃ c, X.env.cells.lookup y.1 = some c := fun y hy e => by
    rcases ok.blk.free y hy e with k | k
    · exact I.ok.has _ (.inl k)
    · exact I.ok.has _ (.inr k)
  refine wpAny_GeneratorExp_make ok.co (closure_ok hfree) ok.cell ok.dot ok.blk.kind (by have := hr.dp; omega) (thn (hi.run pins s σ H _ I h) fun xv s1 hx => thn hx fun itv s2 h2 => ?_) hs
  obtain ⟨it, fp, tn, J, H2, rfl, I2, T, st2, f2, ps, hP, ht, q⟩ := h2
  refine ⟨I2.nolimit, ?_⟩
  have hPs : s2.heap.get? P = some { cls := .none, data := .fields ps } := I2.hok P _ hP
  have cd : PySem.W.CodeHd s2.heap c P := TB.code.keeps fun b u e => I2.bk b u e
  have sz : ∀ b ∈ fp, b < s2.heap.objs.size := fun b hb => by
    obtain ⟨o, e, _⟩ := T.obj _ _ st2 b hb
    exact Heap.lt_size e
  have nP : ∀ b ∈ fp, b ≠ P := fun b hb e => by
    have := (f2 b hb).1
    rw [e, hP] at this; cases this
  have cont : ∀ (code : Value) (s3 : Shared) (more : Array Value), Inv X pins σ (upd H2 P (.tbl (ps ++ more))) s3 → TriplesOk (ps ++ more).toList → (∀ b o, b ≠ P → s2.heap.get? b = some o → s3.heap.get? b = some o) → s2.heap.objs.size ≤ s3.heap.objs.size →
      wpAny (model X.prog X.w) X.A (builtinsFor X.env.globals X.env.builtins) (fun bi s₄ => ∀ h', h'.Ns s₄.heap.objs.size (fun y => if y = ".0" then some (.ref it) else none) → Heap.SameBut s₄.heap.objs.size (s₄.heap.push { cls := .type "frame", data := .dict #[] }) h' →
        GMk X pins σ (k + 1) Stp Go Fn (.ref h'.objs.size) { s₄ with
            gens := s₄.gens.push (.fresh (.compStart (.GeneratorExp elt [⟨tg, iter, [], 0⟩] scope gpos) 0 (.ref it) .none (genEnv scope (cloFrom X.env.cells scope.names []) s₄.heap.objs.size code bi X.env))),
            toks := s₄.toks + 1 + 1 + 1,
            heap := h'.push { cls := .type "generator", data := .fields #[.int s₄.gens.size 0, .str "<genexpr>" (s₄.toks + 1), .str (X.env.qual ++ "<genexpr>") (s₄.toks + 1 + 1)] } }) X.xe s3 := by
    intro code s3 more I3 ht3 kp3 sz3
    obtain ⟨bm, ob, e1, e2, e3, e4, e5, e6, e7, e8⟩ := TB.bm
    refine wpAny_builtinsFor (m := X.mg) (by rw [I3.ok.glob]; exact I3.mod.glob.keeps I3.bk) e1 e2 (I3.bk _ _ e5) e6 e7 e8 ?_
    intro h' hn' hs'
    generalize hH3 : upd H2 P (.tbl (ps ++ more)) = H3 at I3
    have szh : h'.objs.size = s3.heap.objs.size + 1 := by rw [hs'.1, Heap.size_push]
    have le3 : s3.heap.objs.size ≤ h'.objs.size := by rw [szh]; exact Nat.le_succ _
    have keep' : ∀ b o, s3.heap.get? b = some o → h'.get? b = some o := fun b o e => hs'.extBut b o (Nat.ne_of_lt (Heap.lt_size e)) (Heap.get?_push_of_some _ e)
    have f3 : ∀ b ∈ fp, FpOk X pins H3 b ∧ b < s3.heap.objs.size := fun b hb => by
      refine ⟨⟨?_, (f2 b hb).2⟩, Nat.lt_of_lt_of_le (sz b hb) sz3⟩
      rw [← hH3, upd_ne (nP b hb)]
      exact (f2 b hb).1
    generalize hgo : ({ cls := .type "generator", data := .fields #[.int s3.gens.size 0, .str "<genexpr>" (s3.toks + 1), .str (X.env.qual ++ "<genexpr>") (s3.toks + 1 + 1)] } : Obj) = go
    have hgen : ∀ h : Heap, h.get? h'.objs.size = some go → h.IsGen h'.objs.size s3.gens.size := fun h e => by
      subst hgo
      exact ⟨_, _, _, e, rfl, rfl, rfl⟩
    have hpushed : (h'.push go).get? h'.objs.size = some go := by
      subst hgo
      exact Heap.get?_push_size _ rfl
    have hgd : ∀ v, go.data ≠ .cell v := fun v z => by
      subst hgo
      cases z
    have keep5 : ∀ b o, s3.heap.get? b = some o → (h'.push go).get? b = some o := fun b o e => Heap.get?_push_of_some _ (keep' b o e)
    refine ⟨h'.objs.size, s3.gens.size, _, s3, H3, fp, rfl, I3, fun b hb => ⟨(f3 b hb).1.2.2.2.1, (f3 b hb).1.2.1, (f3 b hb).1.2.2.2.2.1, (f3 b hb).1.2.2.2.2.2⟩, by omega, ?_, hgen _ hpushed, Array.getElem?_push_size .., rfl, AllBare.push I3.bare rfl, I3.nolimit.keeps keep5, keep5, ?_⟩
    · show _ < (h'.push go).objs.size
      rw [Heap.size_push]; exact Nat.lt_succ_self _
    intro A cs s5 hrw hgu hfr hcs hk5 hos hba
    have hcs' : ∀ S, cs = some S → h'.objs.size < S ∧ ∃ c, s5.heap.get? S = some (lstObj #[] c) := fun S hS => by
      obtain ⟨z1, z2⟩ := hcs S hS
      have z1 : (h'.push go).objs.size ≤ S := z1
      rw [Heap.size_push] at z1
      exact ⟨z1, z2⟩
    have kp : ∀ b o, s3.heap.get? b = some o → s5.heap.get? b = some o := fun b o e => hk5 b o (keep5 b o e)
    have hroom : Room k (A.deeper (genE scope s3.heap.objs.size code X.env)) := hrw.deeper _
    have young : ∀ b, s3.heap.objs.size ≤ b → H3 b = none ∧ b ∉ frs X.stack := fun b hb => by
      refine ⟨I3.hok.fresh hb, fun hm => ?_⟩
      rcases List.mem_cons.mp (I3.stkSub b hm) with z | z
      · rw [z] at hb
        exact absurd (Nat.lt_of_lt_of_le I3.lt hb) (Nat.lt_irrefl _)
      · exact I3.nofs hb z
    have hea : s5.heap.get? h'.objs.size = some go := hk5 _ _ hpushed
    have hgs : GJ (gcx X (A.deeper (genE scope s3.heap.objs.size code X.env)) s3 H3 scope (genE scope s3.heap.objs.size code X.env) fp [(h'.objs.size, go)]) cs [] [] (wipe σ (own.map (·.2))) H3 s5 := by
      have pin1 : s5.heap.get? h'.objs.size = some go ∧ H3 h'.objs.size = none ∧ h'.objs.size ≠ s3.heap.objs.size ∧ h'.objs.size ∉ frs X.stack ∧ ∀ v, go.data ≠ .cell v := by
        obtain ⟨y1, y2⟩ := young h'.objs.size (by omega)
        exact ⟨hea, y1, by omega, y2, hgd⟩
      cases hcs0 : cs with
      | none =>
        refine ⟨[], ⟨by simp, fun S hS => by cases hS⟩, ?_⟩
        refine gen_start (s := s3) (pn := [(h'.objs.size, go)]) I3 ok hN f3 hrw.hd (Around.frames_deeper hfr) kp (hn'.at' fun o e => hk5 _ o (Heap.get?_push_of_some _ e)) hos hba fun p hp => ?_
        rw [List.append_nil, List.append_nil] at hp
        rw [List.mem_singleton.mp hp]
        exact pin1
      | some S =>
        obtain ⟨hS1, cS, hS2⟩ := hcs' S hcs0
        refine ⟨[(S, lstObj #[] cS)], ⟨fun p hp => by rw [List.mem_singleton.mp hp], fun S' hS' => by cases hS'; exact ⟨#[], cS, List.mem_singleton.mpr rfl, .nil⟩⟩, ?_⟩
        refine gen_start (s := s3) (pn := [(h'.objs.size, go)]) I3 ok hN f3 hrw.hd (Around.frames_deeper hfr) kp (hn'.at' fun o e => hk5 _ o (Heap.get?_push_of_some _ e)) hos hba fun p hp => ?_
        rw [List.append_nil] at hp
        rcases List.mem_append.mp hp with hp | hp
        · rw [List.mem_singleton.mp hp]
          exact pin1
        · rw [List.mem_singleton.mp hp]
          obtain ⟨y1, y2⟩ := young S (Nat.le_of_lt (Nat.lt_of_le_of_lt le3 hS1))
          exact ⟨hS2, y1, Nat.ne_of_gt (Nat.lt_of_le_of_lt le3 hS1), y2, fun v z => by cases z⟩
    have hap : ApartC (gcx X (A.deeper (genE scope s3.heap.objs.size code X.env)) s3 H3 scope (genE scope s3.heap.objs.size code X.env) fp [(h'.objs.size, go)]) cs := fun S hS => by
      obtain ⟨hS1, _⟩ := hcs' S hS
      refine ⟨Nat.le_of_lt (Nat.lt_of_le_of_lt le3 hS1), Nat.ne_of_gt (Nat.lt_of_le_of_lt le3 hS1), fun x c e z => ?_, fun p hp => ?_⟩
      · have e : (cloFrom X.env.cells scope.names []).lookup x = some c := e
        rcases cloFrom_mem (PySem.mem_of_lookup e) with hm | ⟨h1, h2⟩
        · cases hm
        · obtain ⟨c', hc'⟩ := hfree _ h1 rfl
          rw [hc'] at h2
          have h2 : c = c' := h2
          subst h2
          obtain ⟨w, z'⟩ := I3.cell _ _ hc'
          have h9 := z'.lt
          rw [z] at h9
          exact absurd (Nat.lt_trans (Nat.lt_of_le_of_lt le3 hS1) h9) (Nat.lt_irrefl _)
      · rw [List.mem_singleton.mp hp]
        exact Nat.ne_of_lt hS1
    obtain ⟨W, ⟨m0, w0⟩, turn⟩ := q more ht3
    rw [hH3] at w0
    have st5 : tn 0 s5.heap := T.keep _ _ _ st2 fun b hb o e => kp b o (kp3 b o (nP b hb) e)
    have loop := gen_loop (iter := iter) (gpos := gpos) (A := A) (cs := cs) (gn := s3.gens.size) (go := go) hc ok.co (fun b hb => ⟨Nat.ne_of_lt (Nat.lt_of_lt_of_le (f3 b hb).2 le3), fun z => absurd (Nat.lt_trans (Nat.lt_of_lt_of_le (f3 b hb).2 le3) (hcs' b z).1) (Nat.lt_irrefl _)⟩) hgen hap T
      (hg A s3 H3 s3.heap.objs.size code fp [(h'.objs.size, go)]) (he A s3 H3 s3.heap.objs.size code fp [(h'.objs.size, go)] hroom hgu) turn m0 0 [] sizeLine s5 s5 H3 (Nat.add_zero _) w0 hgs st5 fun b hb => (f3 b hb).1.1
    show Seg _ A _ _ _ s5 _ ((compStart (.GeneratorExp elt [⟨tg, iter, [], 0⟩] scope gpos) 0 (.ref it) .none (genE scope s3.heap.objs.size code X.env)).onRaise (leaving (genE scope s3.heap.objs.size code X.env))) [] s5
    unfold compStart
    rw [Sem.onRaise_eq_wrap]
    show Seg _ A _ _ _ s5 _ ((ask >>= _).wrap _ _ _ _) [] s5
    refine seg_bind_wrap (wpAny_askSetting ?_)
    split
    · exact seg_again rfl loop
    · refine seg_bind_wrap (wpAny_rule ?_)
      show Seg _ A _ _ _ s5 _ ((standAt iter.pos >>= _).wrap _ _ _ _) [] s5
      exact seg_bind_wrap (wpAny_standAt (seg_bind_wrap (T.self _ 0 s5 _ _ st5 (seg_again rfl loop))))
  cases hf : codeAmong gpos ps.toList with
  | none =>
    refine wpAny_genexprCodeX hcode (cd.code hPs ht) (cd.tab hPs) hf fun c' h' tk hx hge hlt hco' _ htab' _ => ?_
    obtain ⟨o1, vs, fI, tf, fl, tg', inF, tx, tt, op, _, _, _, _, _, _, _, _, _, htr, _⟩ := hco'
    have J := GxR.inv_tab (t' := tk) (g' := s2.gens) (d' := s2.drawn) I2 hP (fun b o hb e => hx b o hb e) htab'.2 I2.bare
    exact cont _ { s2 with heap := h', toks := tk } _ J htr (fun b o hb e => hx b o hb e) (Nat.le_trans hge (Nat.le_of_lt hlt))
  | some cv =>
    refine wpAny_genexprCode_hit hcode (cd.code hPs ht) hf ?_
    have J : Inv X pins σ (upd H2 P (.tbl (ps ++ #[]))) s2 := by
      have e : upd H2 P (.tbl (ps ++ #[])) = H2 := by
        funext b
        by_cases hb : b = P
        · rw [hb, upd_same, hP]; simp
        · rw [upd_ne hb]
      rw [e]; exact I2
    exact cont cv s2 #[] J (by simpa using ht) (fun b o _ e => e) (Nat.le_refl _)
end
end DL

set_option Elab.async false
set_option linter.all false
set_option maxRecDepth 100000
set_option maxHeartbeats 2000000
namespace DL
open PySem PySem.Spec PyProof.Rows L2 GenW
open Classical

/-! ### who walks a generator: tuple(g), all(g) -/
abbrev StpT : V → Hp → Prop := fun _ _ => False
abbrev GoT : V → Prop := fun _ => True
theorem slept_push {S : Addr} {v : Value} {s : Shared} {acc : Array Value} {c : Nat} {G : Array GenState} (hS : s.heap.get? S = some (lstObj acc c)) (hG : AllBare G) : SleptC (some S) v s { s with gens := G, heap := s.heap.update S (Obj.mapSeq (·.push v)) } := by
  obtain ⟨z1, z2, z3, z4⟩ := Slept.push (v := v) hS hG
  exact ⟨z1, z2, fun b o hb e => z3 b o (fun z => hb (by rw [z])) e, fun S' hS' acc' c' e => by cases hS'; exact z4 acc' c' e⟩
theorem slept_none {v : Value} {s : Shared} {G : Array GenState} (hG : AllBare G) : SleptC none v s { s with gens := G } :=
  ⟨rfl, hG, fun _ _ _ e => e, fun S hS => by cases hS⟩
section
variable {P : Program} {w : World} {outer : List Env} {ex : List Addr} {H1 : Hp} {sc : Shared} {a : Addr} {g : Nat} {Stp : V → Hp → Prop} {Go : V → Prop} {Fn : List V → Hp → Prop} {A : Around} {R : Result → Shared → Prop} {cs : Option Addr}
/-- ready to be asked for the next one, at most m more -/
def Rdy (P : Program) (w : World) (outer : List Env) (ex : List Addr) (H1 : Hp) (sc : Shared) (cs : Option Addr) (a : Addr) (g : Nat) (Stp : V → Hp → Prop) (Go : V → Prop) (Fn : List V → Hp → Prop) (B : Around) (m : Nat) (s : Shared) : Prop :=
  s.heap.IsGen a g ∧ s.heap.NoLimit ∧ ∃ gs, s.gens[g]? = some gs ∧ gs.Goes (model P w) B.in1 (RG' P w outer ex H1 sc cs Fn) (YG P w outer ex H1 sc cs a g Stp Go) m (.send .none) (s.setGen g .running)
/-- the consumer's list and the heap, ys being out -/
def Out (P : Program) (w : World) (outer : List Env) (ex : List Addr) (H1 : Hp) (sc : Shared) (cs : Option Addr) (ys : List V) (H' : Hp) (s1 : Shared) : Prop :=
  s1.os = sc.os ∧ AllBare s1.gens ∧ Un (frs outer) ex H1 H' sc.heap s1.heap ∧ HOk P w H' s1.heap ∧ ∀ S, cs = some S → H' S = none ∧ ∃ acc c, s1.heap.get? S = some (lstObj acc c) ∧ Vals ys acc.toList
theorem nextC {B : Around} {Q : Option Value → Shared → Prop} {E : Value → Shared → Prop} {m : Nat} {s : Shared} (hh : B.handled = none) (hd : B.depth < recursionLimit) (hca : cs ≠ some a) (hcc : cs ≠ some cStatics) (r : Rdy P w outer ex H1 sc cs a g Stp Go Fn B m s)
    (hY : ∀ v x H' ys s1, RelV x v → ys.length < sizeLine → Out P w outer ex H1 sc cs ys H' s1 → (Stp x H' ∨ (Go x ∧ ∃ m', m = m' + 1 ∧ ∀ s3, s3.gens = s1.gens → SleptC cs v s1 s3 → Rdy P w outer ex H1 sc cs a g Stp Go Fn B m' s3)) → Q (some v) s1)
    (hP : ∀ ys H' s1, ys.length ≤ sizeLine → Out P w outer ex H1 sc cs ys H' s1 → Fn ys H' → Q none s1) : wpAny (model P w) B (pyNext (.ref a)) Q E s := by
  obtain ⟨hg, hl, gs, hgs, hgo⟩ := r
  have hgl : g < s.gens.size := (Array.getElem?_eq_some_iff.mp hgs).1
  refine wpAny_gsz (n := g + 1) hgl (next_genG (F := fun n s₀ s1 => ∃ (ys : List V) (H' : Hp), s1.os = sc.os ∧ AllBare s1.gens ∧ Un (frs outer) ex H1 H' sc.heap s1.heap ∧ HOk P w H' s1.heap ∧ ys.length ≤ sizeLine ∧ (∀ S, cs = some S → H' S = none ∧ ∃ acc c, s1.heap.get? S = some (lstObj acc c) ∧ Vals ys acc.toList) ∧ Fn ys H')
    (Er := fun _ _ => False) hh hl hd hg hgs hgo (fun v s1 gs' hb hv => ?_) (fun s1 hp h' hk => ?_) fun e s1 he => he.elim)
  · intro hsz
    obtain ⟨ys, x, H', hn, rv, z1, z2, z3, z4, z5, z6, z7, z8⟩ := hv
    have hsz1 : g < s1.gens.size := by
      have q : (s1.setGen g gs').gens.size = s1.gens.size := setGen_size _ _ _
      have hsz' : g + 1 ≤ (s1.setGen g gs').gens.size := hsz
      omega
    have bare1 := allBare_setGen (g := g) (s := s1) z2 hb
    refine hY v x H' ys _ rv (by omega) ⟨z1, bare1, z5, z6, z7⟩ ?_
    rcases z8 with z8 | ⟨z8, kap⟩
    · exact .inl z8
    · refine .inr ⟨z8, ?_⟩
      cases m with
      | zero =>
        exfalso
        cases hcs : cs with
        | none => subst hcs; exact kap _ (slept_none z2)
        | some S =>
          subst hcs
          obtain ⟨_, acc, c, eS, _⟩ := z7 S rfl
          exact kap _ (slept_push eS z2)
      | succ m' =>
        refine ⟨m', rfl, fun s3 hg3 hsl => ?_⟩
        obtain ⟨y1, y2, y3, y4⟩ := hsl
        refine ⟨?_, ?_, gs', ?_, ?_⟩
        · obtain ⟨o, nm, qn, ho, r⟩ := z4
          exact ⟨o, nm, qn, y3 a o hca ho, r⟩
        · obtain ⟨mc, hns, hnn⟩ := z3
          exact ⟨mc, hns.at' fun o e => y3 _ o hcc e, hnn⟩
        · rw [hg3]; exact setGen_at hsz1
        · exact kap _ ⟨y1, allBare_setGen y2 rfl, y3, y4⟩
  · intro _
    obtain ⟨ys, H', z1, z2, z3, z4, z5, z6, z7⟩ := hp
    refine hP ys H' _ z5 ⟨z1, allBare_setGen z2 rfl, z3.trans (Un.kept hk), z4.kept hk, fun S hS => ?_⟩ z7
    obtain ⟨q1, acc, c, q2, q3⟩ := z6 S hS
    exact ⟨q1, acc, c, hk _ _ q2, q3⟩
/-- the generator's items are put behind the list at S -/
theorem drainT {S : Addr} {res : Value} (hh : A.handled = none) (hd : A.depth < recursionLimit) (hSa : S ≠ a) (hSc : S ≠ cStatics)
    (hend : ∀ s' H' ys, ys.length ≤ sizeLine → Out P w outer ex H1 sc (some S) ys H' s' → Fn ys H' → R (.ok (.ret res)) s') :
    ∀ (m : Nat) (s : Shared), Rdy P w outer ex H1 sc (some S) a g StpT GoT Fn A.in1 m s → codeAny (model P w) A (.builtin "list.extend.loop" ⟨[.ref S, .ref a, res], []⟩) R s := by
  intro m
  induction m using Nat.strongRecOn with
  | ind m ih =>
    intro s r
    refine codeAny_builtin F.entry_extend_loop ?_
    rw [Around.under_plainId F.plain_extend_loop _]
    show wpAny _ A.in1 (pyNext (.ref a) >>= fun x => _) _ _ s
    refine wpAny_bind (nextC (B := A.in1) hh hd (fun z => hSa (Option.some.inj z)) (fun z => hSc (Option.some.inj z)) r (fun v x H' ys s1 rv hlt ho hgo => ?_) fun ys H' s1 hle ho hf => wpAny_pure (hend s1 H' ys hle ho hf))
    rcases hgo with z | ⟨_, m', rfl, hk⟩
    · exact z.elim
    · obtain ⟨z1, z2, z3, z4, z5⟩ := ho
      obtain ⟨_, acc, c, eS, ra⟩ := z5 S rfl
      have hlen : acc.size < sizeLine := by
        have e1 := ra.length
        have e2 : acc.toList.length = acc.size := by simp
        omega
      show wpAny _ A.in1 (updateSeq S (fun l => l.push v) >>= fun _ => _) _ _ _
      refine wpAny_bind (wpAny_updateSeq eS rfl (wpAny_pure ⟨plainId_quiet F.plain_extend_loop _, ih m' (Nat.lt_succ_self _) _ (hk _ rfl ?_)⟩) (Nat.le_of_lt hlen) (by show (acc.push v).size ≤ sizeLine + 1; rw [Array.size_push]; omega))
      exact slept_push eS z2
/-- all(g): Q for the answer -/
theorem drainAll (hh : A.handled = none) (hd : A.depth < recursionLimit)
    (hbool : ∀ x v, RelV x v → (∃ H', Stp x H') → v = .bool false) (hbool2 : ∀ x v, RelV x v → Go x → v = .bool true)
    (hstp : ∀ s' x H' ys, Out P w outer ex H1 sc none ys H' s' → Stp x H' → R (.ok (.ret (.bool false))) s') (hend : ∀ s' H' ys, Out P w outer ex H1 sc none ys H' s' → Fn ys H' → R (.ok (.ret (.bool true))) s') :
    ∀ (m : Nat) (s : Shared), Rdy P w outer ex H1 sc none a g Stp Go Fn A.in1 m s → codeAny (model P w) A (.builtin "all.loop" ⟨[.ref a], []⟩) R s := by
  intro m
  induction m using Nat.strongRecOn with
  | ind m ih =>
    intro s r
    refine codeAny_builtin F.entry_all_loop ?_
    rw [Around.under_plainId F.plain_all_loop _]
    show wpAny _ A.in1 (pyNext (.ref a) >>= fun x => _) _ _ s
    refine wpAny_bind (nextC (B := A.in1) hh hd (fun z => by cases z) (fun z => by cases z) r (fun v x H' ys s1 rv hlt ho hgo => ?_) fun ys H' s1 hle ho hf => wpAny_bind (wpAny_rule (wpAny_pure (hend s1 H' ys ho hf))))
    rcases hgo with z | ⟨z, m', rfl, hk⟩
    · have e := hbool x v rv ⟨H', z⟩
      subst e
      refine wpAny_bind (wpAny_holding (wpAny_truthy_bool ?_))
      refine wpAny_bind (wpAny_letGo ?_)
      simp only [Bool.false_eq_true, if_false]
      first
        | exact wpAny_pure (hstp s1 x H' ys ho z)
        | exact wpAny_bind (wpAny_rule (wpAny_pure (hstp s1 x H' ys ho z)))
    · have e := hbool2 x v rv z
      subst e
      refine wpAny_bind (wpAny_holding (wpAny_truthy_bool ?_))
      refine wpAny_bind (wpAny_letGo ?_)
      simp only [if_true]
      refine wpAny_pure ⟨plainId_quiet F.plain_all_loop _, ih m' (Nat.lt_succ_self _) s1 (hk s1 rfl ?_)⟩
      exact slept_none (s := s1) ho.2.1
end
end DL

set_option Elab.async false
set_option linter.all false
set_option maxRecDepth 100000
set_option maxHeartbeats 2000000
namespace DL
open PySem PySem.Spec PyProof.Rows L2 GenW
open Classical

section
variable {X : Cx} {pins : List (Addr × Obj)} {σ : L2.St} {k : Nat} {Stp : V → Hp → Prop} {Go : V → Prop} {Fn : List V → Hp → Prop} {A : Around} {E : Value → Shared → Prop} {s : Shared} {u : Value}
/-- the items of a generator, collected -/
theorem collectG {Q : List Value → Shared → Prop} (hh : A.handled = none) (hdep : A.depth + 3 * k + 10 < recursionLimit) (hun : A.units + 16 * k + 300 < cLine) (hgu : A.guards = some []) (hfr : A.frames = some X.stack) (m : GMk X pins σ k StpT GoT Fn u s)
    (hQ : ∀ s' H' ys us, s.heap.objs.size ≤ s'.heap.objs.size → Inv X pins σ H' s' → Vals ys us → ys.length ≤ sizeLine → Fn ys H' → Q us s') : wpAny (model X.prog X.w) A (collect u) Q E s := by
  obtain ⟨a, g, c, sc, H1, ex, rfl, I, hex, ha1, ha2, hg, hgs, hos, hba, hl, hkp, wake⟩ := m
  have hSa : s.heap.objs.size ≠ a := Nat.ne_of_gt ha2
  have hcl : cStatics < s.heap.objs.size := let ⟨_, hn, _⟩ := hl; hn.lt
  have hSc : s.heap.objs.size ≠ cStatics := Nat.ne_of_gt hcl
  unfold collect
  refine wpAny_bind (wpAny_runValue (codeAny_builtin F.entry_proto_collect ?_))
  rw [Around.under_plainId F.plain_proto_collect _]
  show wpAny _ A.in1 (newList [] >>= fun l => again _) _ _ s
  refine wpAny_bind (wpAny_newObj_type (wpAny_pure ⟨plainId_quiet F.plain_list_iadd _, codeAny_builtin F.entry_list_iadd ?_⟩))
  rw [Around.under_plainId F.plain_list_iadd _]
  show wpAny _ A.in1 (Builtin.List.listExtendWith (.ref s.heap.objs.size) (.ref a) (.ref s.heap.objs.size)) _ _ _
  unfold Builtin.List.listExtendWith
  have k1 : ∀ b o, s.heap.get? b = some o → (s.heap.push { cls := .type "list", data := .seq ([] : List Value).toArray }).get? b = some o := fun b o e => Heap.get?_push_of_some _ e
  have hS1 : (s.heap.push { cls := .type "list", data := .seq ([] : List Value).toArray }).get? s.heap.objs.size = some { cls := .type "list", data := .seq ([] : List Value).toArray } := Heap.get?_push_size _ rfl
  have gty : ∀ {h : Heap}, (∀ b o, s.heap.get? b = some o → h.get? b = some o) → h.IsGen a g := fun {h} q => hg.keeps q
  refine wpAny_bind (wpAny_typeOf (Heap.IsGen.typeIs (s := { s with heap := _ }) (gty k1)) ?_)
  simp only [show Builtin.List.listSameRef (.ref s.heap.objs.size) (.ref a) = false from by simp [Builtin.List.listSameRef, hSa], show (Value.type "generator" == Value.type "list") = false from by decide, show (Value.type "generator" == Value.type "tuple") = false from by decide,
    Bool.or_false, Bool.false_eq_true, if_false]
  refine wpAny_bind (wpAny_pyIter_gen (s := { s with heap := _ }) (gty k1) (wpAny_bind (wpAny_holding ?_)))
  unfold Builtin.List.listLengthHint
  refine wpAny_bind (wpAny_specialOf (Heap.IsGen.typeIs (s := { s with heap := _ }) (gty k1)) F.gen_no_len ?_)
  show wpAny _ A.in1 (specialOf (Value.ref a) (Str.ofString "__length_hint__") >>= fun _ => _) _ _ _
  refine wpAny_bind (wpAny_specialOf (Heap.IsGen.typeIs (s := { s with heap := _ }) (gty k1)) F.gen_no_hint (wpAny_pure ?_))
  show wpAny _ A.in1 (rule "list.extend.makes-room" >>= fun _ => Builtin.List.listTouch (.ref s.heap.objs.size) >>= fun _ => again _) _ _ _
  refine wpAny_bind (wpAny_rule (wpAny_bind ?_))
  show wpAny _ A.in1 (updateSeq s.heap.objs.size (fun l => l.push .none) >>= fun _ => updateSeq s.heap.objs.size (fun l => l.pop)) _ _ _
  refine wpAny_bind (wpAny_updateSeq hS1 rfl ?_)
  have hS2 := Heap.get?_update_self (Obj.mapSeq (·.push Value.none)) hS1 rfl
  refine wpAny_updateSeq hS2 rfl ?_
  have hS3 := Heap.get?_update_self (Obj.mapSeq (·.pop)) hS2 rfl
  have up : ∀ (h : Heap) (f : Obj → Obj), (∀ b o, s.heap.get? b = some o → h.get? b = some o) → ∀ b o, s.heap.get? b = some o → (h.update s.heap.objs.size f).get? b = some o := fun h f q b o e =>
    (Heap.get?_update_other _ _ (Nat.ne_of_gt (Heap.lt_size e))).trans (q b o e)
  have k3 := up _ (Obj.mapSeq (·.pop)) (up _ (Obj.mapSeq (·.push Value.none)) k1)
  refine wpAny_pure ⟨plainId_quiet F.plain_extend_loop _, drainT (P := X.prog) (w := X.w) (outer := X.stack) (ex := ex) (H1 := H1) (sc := sc) (Fn := Fn) (g := g) (A := A) (S := s.heap.objs.size) (a := a) hh (by omega) hSa hSc (fun s' H' ys hle ho hf => ?_) sizeLine _ ⟨gty k3, hl.keeps k3, _, hgs, rfl, ?_⟩⟩
  · obtain ⟨z1, z2, z3, z4, z5⟩ := ho
    obtain ⟨hSn, acc, cc, eS, ra⟩ := z5 _ rfl
    show wpAny _ A (load s.heap.objs.size >>= fun _ => _) _ _ s'
    refine wpAny_bind (wpAny_load eS ?_)
    refine wpAny_pure (hQ s' H' ys acc.toList ?_ (I.call' (ch := ex) z1 z3 z4 z2 hex) ra hle hf)
    exact Nat.le_of_lt (Heap.lt_size eS)
  · refine wake _ (some s.heap.objs.size) _ ⟨hh, ?_, ?_⟩ hgu hfr (fun S hS => by cases hS; exact ⟨Nat.le_refl _, _, hS3⟩) k3 hos (allBare_setGen (s := { s with heap := _ }) hba rfl)
    · show A.depth + 3 * k + 5 < _
      omega
    · show A.units + 1 + 1 + 16 * k + 200 < _
      omega
/-- tuple(g) -/
theorem call_tupleG {Q : Value → Shared → Prop} (hr : Room (k + 8) A) (hgu : A.guards = some []) (hfr : A.frames = some X.stack) (m : GMk X pins σ k StpT GoT Fn u s)
    (hQ : ∀ s' H' ys acc, Inv X pins σ H' s' → Vals ys acc.toList → ys.length ≤ sizeLine → Fn ys H' → Q (.ref s'.heap.objs.size) { s' with heap := s'.heap.push { cls := .type "tuple", data := .seq acc } }) :
    wpAny (model X.prog X.w) A (call (.type "tuple") [u]) Q E s := by
  obtain ⟨a, hu, hTI⟩ : ∃ a, u = .ref a ∧ s.TypeIs (.ref a) "generator" := by
    obtain ⟨a, g, c, sc, H1, ex, hu, _, _, _, _, hg, _⟩ := m
    exact ⟨a, hu, hg.typeIs⟩
  subst hu
  refine callType_codes (Q₁ := fun obj s₁ => s₁.TypeIs obj "tuple" ∧ Q obj s₁) F.called_tuple (F.typeCall_tuple_1 _) F.entry_object_init (codeAny_of_tree ?_) fun obj s₁ h₁ =>
    ⟨h₁.1, F.args_object_init_2 obj _, object_init_meets F.called_tuple.init.lookup F.called_tuple.made (by decide) X.prog X.w A.in1 _ s₁ ⟨h₁.1, rfl, h₁.2⟩⟩
  show wpAny _ A.in1.in1 (checkBuiltinCall "tuple.__new__" ⟨[.type "tuple", .ref a], []⟩ >>= fun _ => again (.builtin "tuple.__new__" ⟨[.type "tuple", .ref a], []⟩)) _ _ s
  refine wpAny_bind (wpAny_of_eq (F.newCall_tuple_1 _) (wpAny_pure ⟨plainId_quiet F.plain_tuple_new _, codeAny_builtin F.entry_tuple_new ?_⟩))
  rw [Around.under_plainId F.plain_tuple_new _]
  have hsub := sub_tuple_self
  have hinit := init_tuple_lookup
  have hmh := madeHere_tuple
  have hd := hr.dp
  have hu := hr.un
  wp_walk using wpAny_typeOf hTI, collectG (k := k) (X := X) (pins := pins) (σ := σ) (Fn := Fn) (show A.in1.in1.handled = none from hr.hd) (show A.depth + 3 * k + 10 < _ by omega) (show A.units + 1 + 1 + 16 * k + 300 < _ by omega) hgu hfr m
  intro s' H' ys us hsz I' rv hle hf
  show wpAny _ _ (Builtin.Tuple.tupleExact us.toArray >>= fun v => _) _ _ _
  unfold Builtin.Tuple.tupleExact
  have hlu : us.length ≤ sizeLine := by rw [← rv.length]; exact hle
  refine wpAny_bind (wpAny_newObj_type (wpAny_pure ?_) (by show us.toArray.size ≤ sizeLine; simpa using hlu))
  have e := hQ s' H' ys us.toArray I' (by simpa using rv) hle hf
  exact ⟨⟨_, Heap.get?_push_size _ rfl, rfl⟩, e⟩
/-- all(g) -/
theorem call_allG {Q : Value → Shared → Prop} {W1 : Prop} (hr : Room (k + 8) A) (hgu : A.guards = some []) (hfr : A.frames = some X.stack) (m : GMk X pins σ k Stp Go Fn u s)
    (hbool : ∀ x v, RelV x v → (∃ H', Stp x H') → v = .bool false) (hbool2 : ∀ x v, RelV x v → Go x → v = .bool true)
    (hs : ∀ s' H' x, Inv X pins σ H' s' → Stp x H' → Q (.bool false) s') (hf : ∀ s' H' ys, Inv X pins σ H' s' → Fn ys H' → Q (.bool true) s') :
    wpAny (model X.prog X.w) A (call (.builtin "all") [u]) Q E s := by
  obtain ⟨a, g, c, sc, H1, ex, rfl, I, hex, ha1, ha2, hg, hgs, hos, hba, hl, hkp, wake⟩ := m
  have hd := hr.dp
  have hu := hr.un
  refine call_function_tree F.kind_all F.plain_all F.entry_all (F.args_all1 _) ?_
  unfold Builtin.«all»
  refine wpAny_bind (m := oneArg "all" _) (wpAny_pure (wpAny_bind (wpAny_pyIter_gen hg ?_)))
  refine wpAny_pure ⟨plainId_quiet F.plain_all_loop _, drainAll (P := X.prog) (w := X.w) (outer := X.stack) (ex := ex) (H1 := H1) (sc := sc) (Stp := Stp) (Go := Go) (Fn := Fn) (g := g) (a := a) hr.hd (by omega) hbool hbool2
    (fun s' x H' ys ho hx => hs s' H' x (I.call' (ch := ex) ho.1 ho.2.2.1 ho.2.2.2.1 ho.2.1 hex) hx) (fun s' H' ys ho hx => hf s' H' ys (I.call' (ch := ex) ho.1 ho.2.2.1 ho.2.2.2.1 ho.2.1 hex) hx) sizeLine s ⟨hg, hl, _, hgs, rfl, ?_⟩⟩
  refine wake _ none _ ⟨hr.hd, ?_, ?_⟩ hgu hfr (fun S hS => by cases hS) (fun _ _ e => e) hos (allBare_setGen (s := s) hba rfl)
  · show A.depth + 3 * k + 5 < _
    omega
  · show A.units + 1 + 1 + 16 * k + 200 < _
    omega
end

/-! ### the expressions -/
section
variable {X : Cx} {T : TbT} {W : WX} {elt tg iter : Expr} {scope : Scope} {own : List (Str × Nat)} {gpos p pos : Pos} {wi : TI} {g : TG} {te : TE} {k j : Nat} {c P : Addr}
theorem pe_tupG (hc : X.calm = true) (hN : X.N.Nodup) (hr : Room (k + 9) X.A) (hgu : X.A.guards = some []) (hi : PI X tg iter wi) (ok : GenOk X.N X.env.scope scope own) (TB : GxR.TabB X.base X.mg c P) (hcode : X.env.code = .ref c)
    (hg : ∀ (A : Around) (s : Shared) (H : Hp) (C : Addr) (code : Value) (fp : List Addr) (pn : List (Addr × Obj)), PG (gcx X (A.deeper (genE scope C code X.env)) s H scope (genE scope C code X.env) fp pn) tg g)
    (he : ∀ (A : Around) (s : Shared) (H : Hp) (C : Addr) (code : Value) (fp : List Addr) (pn : List (Addr × Obj)), Room k (A.deeper (genE scope C code X.env)) → A.guards = some [] → PE (gcx X (A.deeper (genE scope C code X.env)) s H scope (genE scope C code X.env) fp pn) elt te)
    (hgl : Gl X "tuple") (hm : X.mg "tuple" = none) (hs : ∀ v, genFold iter X.env v = pure v := by intro _; rfl)
    (hst : starEach [.GeneratorExp elt [⟨tg, iter, [], 0⟩] scope gpos] X.env = (false, eval (.GeneratorExp elt [⟨tg, iter, [], 0⟩] scope gpos) X.env) :: starEach [] X.env := by rfl) :
    PE X (.Call (.Name "tuple" p) [.GeneratorExp elt [⟨tg, iter, [], 0⟩] scope gpos] [] pos) (fun σ H Q => tGen P wi g te (own.map (·.2)) StpT GoT (fun ys H' => ∀ a, H' a = none → Q (.ref a) (upd H' a (.tup ys))) σ H) := by
  refine ⟨fun pins s σ H Q I h => ?_⟩
  refine wpAny_Call_Name_kw (ld_blt I hgl hm boot_tuple ?_ (by decide) (by decide))
  refine PyProof.Rows.callWith_type1 ?_ hst rfl
  rw [hst]
  show wpAny _ _ (spliced ((false, eval (.GeneratorExp elt [⟨tg, iter, [], 0⟩] scope gpos) X.env) :: backTo pos (starEach [] X.env))) _ _ s
  refine Calls.spliced_cons (wpAny_mono (gen_core hc hN hr I hi ok TB hcode hg he hs h) (fun u s1 m => ?_) fun _ _ z => z)
  refine Calls.spliced_nil ?_
  refine call_tupleG (hr.mono (by omega)) hgu I.ok.frames m fun s' H' ys acc I' rv hle hf => ?_
  have hn : H' s'.heap.objs.size = none := I'.hok.fresh (Nat.le_refl _)
  refine ⟨.ref s'.heap.objs.size, _, I'.laid (t' := s'.toks) (a := s'.heap.objs.size) (o := .tup ys) (fun b o e => Heap.get?_push_of_some _ e) (Nat.le_refl _) ⟨hle, acc.toList, rv, ?_⟩, rfl, hf _ hn⟩
  exact ⟨_, Heap.get?_push_size _ rfl, rfl, 0, by simp⟩
theorem pe_allG (hc : X.calm = true) (hN : X.N.Nodup) (hr : Room (k + 9) X.A) (hgu : X.A.guards = some []) (hi : PI X tg iter wi) (ok : GenOk X.N X.env.scope scope own) (TB : GxR.TabB X.base X.mg c P) (hcode : X.env.code = .ref c)
    (hg : ∀ (A : Around) (s : Shared) (H : Hp) (C : Addr) (code : Value) (fp : List Addr) (pn : List (Addr × Obj)), PG (gcx X (A.deeper (genE scope C code X.env)) s H scope (genE scope C code X.env) fp pn) tg g)
    (he : ∀ (A : Around) (s : Shared) (H : Hp) (C : Addr) (code : Value) (fp : List Addr) (pn : List (Addr × Obj)), Room k (A.deeper (genE scope C code X.env)) → A.guards = some [] → PE (gcx X (A.deeper (genE scope C code X.env)) s H scope (genE scope C code X.env) fp pn) elt te)
    (hgl : Gl X "all") (hm : X.mg "all" = none) (hs : ∀ v, genFold iter X.env v = pure v := by intro _; rfl)
    (hst : starEach [.GeneratorExp elt [⟨tg, iter, [], 0⟩] scope gpos] X.env = (false, eval (.GeneratorExp elt [⟨tg, iter, [], 0⟩] scope gpos) X.env) :: starEach [] X.env := by rfl) :
    PE X (.Call (.Name "all" p) [.GeneratorExp elt [⟨tg, iter, [], 0⟩] scope gpos] [] pos) (fun σ H Q => tGen P wi g te (own.map (·.2)) (fun x H' => x = .bl false ∧ Q (.bl false) H') (fun x => x = .bl true) (fun _ H' => Q (.bl true) H') σ H) := by
  refine ⟨fun pins s σ H Q I h => ?_⟩
  refine wpAny_Call_Name_kw (ld_blt I hgl hm (by decide +kernel : bootBuiltins "all" = some (.builtin "all")) ?_ (by decide) (by decide))
  refine PyProof.Rows.callWith_builtin1 ?_ hst rfl
  rw [hst]
  show wpAny _ _ (spliced ((false, eval (.GeneratorExp elt [⟨tg, iter, [], 0⟩] scope gpos) X.env) :: backTo pos (starEach [] X.env))) _ _ s
  refine Calls.spliced_cons (wpAny_mono (gen_core hc hN hr I hi ok TB hcode hg he hs h) (fun u s1 m => ?_) fun _ _ z => z)
  refine Calls.spliced_nil ?_
  refine call_allG (W1 := True) (hr.mono (by omega)) hgu I.ok.frames m (fun x v r ⟨H', e, _⟩ => by subst e; exact r) (fun x v r e => by subst e; exact r) (fun s' H' x I' hx => ⟨.bl false, H', I', rfl, hx.2⟩) fun s' H' ys I' hx => ⟨.bl true, H', I', rfl, hx⟩
end
end DL

set_option Elab.async false
set_option linter.all false
set_option maxRecDepth 100000
set_option maxHeartbeats 1000000
namespace DL
open PySem PySem.Spec PyProof.Rows L2
open Classical

theorem EnvR.pnil {K : PySem.W.Frag} {pn : List (Addr × Obj)} {H : Hp} {ρ : List Addr} {env : Env'} {σ : L2.St} (h : EnvR K [] H ρ env σ) : EnvR K pn H ρ env σ :=
  ⟨h.len, fun i s hi => by
    obtain ⟨ov, h1, h2⟩ := h.ok i s hi
    refine ⟨ov, h1, ?_⟩
    cases s with
    | no => trivial
    | d x => exact h2
    | exc c w =>
      obtain ⟨a, oe, dd, vw, _, hm, _⟩ := h2
      cases hm
    | clo C => exact h2⟩
theorem pe_blk' {X : Cx} {T : TbT} {e : Expr} {f : ES} (h : DE X T noW e f) : PE X e (tE0 X.K T f) := PE_imp h fun σ H Q ⟨ρ, env, G, rg, ev, q⟩ => ⟨ρ, env, G, ⟨rg, ev.pnil⟩, by
  revert q
  cases f env G with
  | ok d G' => exact fun q => q
  | ex c w G' => exact fun q => q.elim
  | bad => exact fun q => q⟩
/-- the code at c, its table at P, where all is called so; no other code has this table -/
def TIn (T : TbT) (c P : Addr) (t : Option Str) : Prop := (c, P, t) ∈ T ∧ ∀ p ∈ T, p.2.1 = P → p.2.2 = t
/-- a def's table grows -/
theorem RG.grow {K : PySem.W.Frag} {T : TbT} {ρ : List Addr} {G : Hh} {H : Hp} {P : Addr} {ps more : Array Value} (rg : RG K T ρ G H) (hP : H P = some (.tbl ps)) (hu : ∀ p ∈ T, p.2.1 = P → p.2.2 = none) (ht : TriplesOk (ps ++ more).toList) :
    RG K T ρ G (upd H P (.tbl (ps ++ more))) ∧ Ext ρ H ρ (upd H P (.tbl (ps ++ more))) := by
  have e : Ext ρ H ρ (upd H P (.tbl (ps ++ more))) := by
    refine ⟨⟨[], by simp, by simp⟩, fun b o h _ t => ?_, fun b qs h => ?_, fun b h => ?_⟩
    · rw [upd_ne (fun z => t ps (by rw [z, hP] at h; exact (Option.some.inj h).symm))]; exact h
    · by_cases hb : b = P
      · subst hb
        rw [hP] at h
        cases h
        exact ⟨more, upd_same⟩
      · exact ⟨#[], by rw [upd_ne hb]; simpa using h⟩
    · by_cases hb : b = P
      · subst hb
        rw [upd_same] at h; cases h
      · rw [upd_ne hb] at h; exact h
  refine ⟨⟨rg.nd, rg.len, fun l a mo h1 h2 => ?_, fun p hp => ?_⟩, e⟩
  · have g := rg.ok l a mo h1 h2
    cases mo with
    | lst xs =>
      obtain ⟨vs, hv, r⟩ := g
      refine ⟨vs, ?_, e.reps rg r⟩
      rw [upd_ne (fun z => by rw [z, hP] at hv; cases hv)]
      exact hv
  · by_cases hb : p.2.1 = P
    · rw [hu p hp hb, hb]
      exact ⟨_, upd_same, ht⟩
    · have h0 := rg.tab p hp
      revert h0
      cases p.2.2 with
      | none =>
        rintro ⟨qs, h1, h2⟩
        exact ⟨qs, by rw [upd_ne hb]; exact h1, h2⟩
      | some q =>
        rintro ⟨qs, h1, h2, h3⟩
        refine ⟨qs, by rw [upd_ne hb]; exact h1, h2, fun pos cv hc => ?_⟩
        obtain ⟨cc, e1, e2⟩ := h3 pos cv hc
        refine ⟨cc, e1, ?_⟩
        rw [upd_ne (fun z => LamX.codeO_ne ps (by rw [z, hP] at e2; exact (Option.some.inj e2).symm))]
        exact e2

/-! ### tuple(e for x in xs), all(e for x in xs) -/
noncomputable def tgL (a : GS) (f : ES) (chk : Hh → Prop) (env : Env') : List D → List D → Hh → RE
  | [], acc, G => if chk G ∧ acc.length ≤ 100000 then .ok (mkTup acc) G else .bad
  | x :: xs, acc, G => if chk G ∧ acc.length < 100000 then (match a x env G with
    | some (env2, G2) => (match f env2 G2 with
      | .ok y G3 => tgL a f chk env xs (acc ++ [y]) G3
      | _ => .bad)
    | none => .bad) else .bad
noncomputable def eTupG (src : IS) (a : GS) (f : ES) (vs : List Nat) : ES := fun env G => match src env G with
  | .ok xs chk G1 => tgL a f chk (wipeE (cutX env) vs) xs [] G1
  | .ex c w G1 => .ex c w G1
  | .bad => .bad
noncomputable def agL (a : GS) (f : ES) (chk : Hh → Prop) (env : Env') : Nat → List D → Hh → RE
  | n, [], G => if chk G then .ok (.dat (.bool true)) G else .bad
  | n, x :: xs, G => if chk G ∧ n < 100000 then (match a x env G with
    | some (env2, G2) => (match f env2 G2 with
      | .ok (.dat (.bool true)) G3 => agL a f chk env (n + 1) xs G3
      | .ok (.dat (.bool false)) G3 => .ok (.dat (.bool false)) G3
      | _ => .bad)
    | none => .bad) else .bad
noncomputable def eAllG (src : IS) (a : GS) (f : ES) (vs : List Nat) : ES := fun env G => match src env G with
  | .ok xs chk G1 => agL a f chk (wipeE (cutX env) vs) 0 xs G1
  | .ex c w G1 => .ex c w G1
  | .bad => .bad
section
variable {X : Cx} {T : TbT} {W : WX} {src : IS} {a : GS} {f : ES} {vs : List Nat} {c P : Addr}
theorem tE_tg {σ : L2.St} {H : Hp} {Q : VK} (hP : TIn T c P none) (q : tE X T W (eTupG src a f vs) σ H Q) :
    tGen P (tI X T W src) (tG0 X.K T vs a) (tE0 X.K T f) vs StpT GoT (fun ys H' => ∀ p, H' p = none → Q (.ref p) (upd H' p (.tup ys))) σ H := by
  obtain ⟨ρ, env, G, sr, p⟩ := q
  refine ⟨ρ, env, G, sr, ?_⟩
  unfold eTupG at p
  cases q : src env G with
  | ok xs chk G1 =>
    rw [q] at p
    intro ρ1 H1 J e1 rg1 it
    dsimp only at p
    obtain ⟨ps, hps, hts⟩ := rg1.tab (c, P, none) hP.1
    refine ⟨ps, hps, hts, fun more hm => ?_⟩
    obtain ⟨rg2, e2⟩ := rg1.grow hps hP.2 hm
    refine ⟨fun i m ys H' => ∃ ρ' G' acc, Ext ρ1 (upd H1 P (.tbl (ps ++ more))) ρ' H' ∧ RG X.K T ρ' G' H' ∧ i + m = xs.length ∧ Reps X.K H' ρ' acc ys ∧ PostE X T W σ ρ' H' (tgL a f chk (wipeE (cutX env) vs) (xs.drop i) acc G') Q,
      ⟨xs.length, ρ1, G1, [], Ext.refl, rg2, by omega, rfl, PostE.ext (e1.trans e2) p⟩, fun i m ys H' hW => ?_⟩
    obtain ⟨ρ', G', acc, e', rg', hm', ra, p'⟩ := hW
    have ew : EnvR X.K [] H' ρ' (wipeE (cutX env) vs) (wipe σ vs) := ((e1.trans e2).trans e').envr sr.rg sr.ev |>.cut.wipe vs
    cases hd : xs.drop i with
    | nil =>
      rw [hd] at p'
      unfold tgL at p'
      split at p'
      · rename_i hck
        have hl : xs.length ≤ i := by
          have := congrArg List.length hd
          simp at this; omega
        exact .inl ⟨(it ρ' G' H' i (e2.trans e') rg' hck.1).2 hl, fun pp hp => new_tup rg' hp ra p'⟩
      · exact p'.elim
    | cons d ds =>
      rw [hd] at p'
      have hi : xs[i]? = some d := by
        rw [← List.head?_drop, hd]; rfl
      have hds : xs.drop (i + 1) = ds := by
        rw [← List.drop_drop, hd]; rfl
      have hlt : i < xs.length := (List.getElem?_eq_some_iff.mp hi).1
      unfold tgL at p'
      split at p'
      · rename_i hck
        obtain ⟨hgo, hy⟩ := (it ρ' G' H' i (e2.trans e') rg' hck.1).1 d hi
        refine .inr ⟨hgo, fun y H2 => ∃ ρ2 G2 yd, Ext ρ1 (upd H1 P (.tbl (ps ++ more))) ρ2 H2 ∧ RG X.K T ρ2 G2 H2 ∧ Reps X.K H2 ρ2 (acc ++ [yd]) (ys ++ [y]) ∧ PostE X T W σ ρ2 H2 (tgL a f chk (wipeE (cutX env) vs) ds (acc ++ [yd]) G2) Q, fun y H2 hN => ?_, fun x H2 hyl => ?_⟩
        · obtain ⟨ρ2, G2, yd, x2, rg2, r2, p2⟩ := hN
          exact ⟨m - 1, by omega, ρ2, G2, acc ++ [yd], x2, rg2, by omega, r2, by rw [hds]; exact p2⟩
        · obtain ⟨x2, rg2, r2⟩ := hy x H2 hyl
          refine ⟨ρ', wipeE (cutX env) vs, G', d, rg2, x2.envr rg' ew, r2, ?_⟩
          cases q3 : a d (wipeE (cutX env) vs) G' with
          | none => rw [q3] at p'; exact p'.elim
          | some z =>
            obtain ⟨env3, G3⟩ := z
            rw [q3] at p'
            intro σ3 ρ3 H3 x3 rg3 ev3 w3
            refine ⟨by rw [w3]; exact wipe_wipe, ρ3, env3, G3, rg3, ev3, ?_⟩
            dsimp only at p'
            cases q5 : f env3 G3 with
            | ok y G5 =>
              rw [q5] at p'
              intro v5 ρ5 H5 x5 rg5 r5
              have xx5 := x2.trans (x3.trans x5)
              refine ⟨by rw [ra.length]; exact hck.2, .inr ⟨trivial, ρ5, G5, y, e'.trans xx5, rg5, (xx5.reps rg' ra).append ⟨v5, [], rfl, r5, rfl⟩, PostE.ext xx5 p'⟩⟩
            | ex c w G5 => rw [q5] at p'; exact p'
            | bad => rw [q5] at p'; exact p'
      · exact p'.elim
  | ex c w G1 => rw [q] at p; exact p
  | bad => rw [q] at p; exact p
theorem tE_ag {σ : L2.St} {H : Hp} {Q : VK} (hP : TIn T c P none) (q : tE X T W (eAllG src a f vs) σ H Q) :
    tGen P (tI X T W src) (tG0 X.K T vs a) (tE0 X.K T f) vs (fun x H' => x = .bl false ∧ Q (.bl false) H') (fun x => x = .bl true) (fun _ H' => Q (.bl true) H') σ H := by
  obtain ⟨ρ, env, G, sr, p⟩ := q
  refine ⟨ρ, env, G, sr, ?_⟩
  unfold eAllG at p
  cases q : src env G with
  | ok xs chk G1 =>
    rw [q] at p
    intro ρ1 H1 J e1 rg1 it
    dsimp only at p
    obtain ⟨ps, hps, hts⟩ := rg1.tab (c, P, none) hP.1
    refine ⟨ps, hps, hts, fun more hm => ?_⟩
    obtain ⟨rg2, e2⟩ := rg1.grow hps hP.2 hm
    refine ⟨fun i m ys H' => ∃ ρ' G', Ext ρ1 (upd H1 P (.tbl (ps ++ more))) ρ' H' ∧ RG X.K T ρ' G' H' ∧ i + m = xs.length ∧ PostE X T W σ ρ' H' (agL a f chk (wipeE (cutX env) vs) ys.length (xs.drop i) G') Q,
      ⟨xs.length, ρ1, G1, Ext.refl, rg2, by omega, PostE.ext (e1.trans e2) p⟩, fun i m ys H' hW => ?_⟩
    obtain ⟨ρ', G', e', rg', hm', p'⟩ := hW
    have ew : EnvR X.K [] H' ρ' (wipeE (cutX env) vs) (wipe σ vs) := ((e1.trans e2).trans e').envr sr.rg sr.ev |>.cut.wipe vs
    cases hd : xs.drop i with
    | nil =>
      rw [hd] at p'
      unfold agL at p'
      split at p'
      · rename_i hck
        have hl : xs.length ≤ i := by
          have := congrArg List.length hd
          simp at this; omega
        exact .inl ⟨(it ρ' G' H' i (e2.trans e') rg' hck).2 hl, p' _ ρ' H' Ext.refl rg' rfl⟩
      · exact p'.elim
    | cons d ds =>
      rw [hd] at p'
      have hi : xs[i]? = some d := by
        rw [← List.head?_drop, hd]; rfl
      have hds : xs.drop (i + 1) = ds := by
        rw [← List.drop_drop, hd]; rfl
      have hlt : i < xs.length := (List.getElem?_eq_some_iff.mp hi).1
      unfold agL at p'
      split at p'
      · rename_i hck
        obtain ⟨hgo, hy⟩ := (it ρ' G' H' i (e2.trans e') rg' hck.1).1 d hi
        refine .inr ⟨hgo, fun y H2 => ∃ ρ2 G2, Ext ρ1 (upd H1 P (.tbl (ps ++ more))) ρ2 H2 ∧ RG X.K T ρ2 G2 H2 ∧ PostE X T W σ ρ2 H2 (agL a f chk (wipeE (cutX env) vs) (ys.length + 1) ds G2) Q, fun y H2 hN => ?_, fun x H2 hyl => ?_⟩
        · obtain ⟨ρ2, G2, x2, rg2, p2⟩ := hN
          exact ⟨m - 1, by omega, ρ2, G2, x2, rg2, by omega, by rw [hds, List.length_append]; exact p2⟩
        · obtain ⟨x2, rg2, r2⟩ := hy x H2 hyl
          refine ⟨ρ', wipeE (cutX env) vs, G', d, rg2, x2.envr rg' ew, r2, ?_⟩
          cases q3 : a d (wipeE (cutX env) vs) G' with
          | none => rw [q3] at p'; exact p'.elim
          | some z =>
            obtain ⟨env3, G3⟩ := z
            rw [q3] at p'
            intro σ3 ρ3 H3 x3 rg3 ev3 w3
            refine ⟨by rw [w3]; exact wipe_wipe, ρ3, env3, G3, rg3, ev3, ?_⟩
            dsimp only at p'
            cases q5 : f env3 G3 with
            | ok y G5 =>
              rw [q5] at p'
              intro v5 ρ5 H5 x5 rg5 r5
              have xx5 := x2.trans (x3.trans x5)
              split at p'
              · rename_i G6 h6
                cases h6
                have r5 : v5 = .bl true := r5
                exact ⟨hck.2, .inr ⟨r5, ρ5, G5, e'.trans xx5, rg5, PostE.ext xx5 p'⟩⟩
              · rename_i G6 h6
                cases h6
                have r5 : v5 = .bl false := r5
                exact ⟨hck.2, .inl ⟨r5, p' _ ρ5 H5 xx5 rg5 rfl⟩⟩
              · exact p'.elim
            | ex c w G5 => rw [q5] at p'; exact p'
            | bad => rw [q5] at p'; exact p'
      · exact p'.elim
  | ex c w G1 => rw [q] at p; exact p
  | bad => rw [q] at p; exact p
variable {scope : Scope} {own : List (Str × Nat)} {elt tg iter : Expr} {gpos p pos : Pos} {k : Nat}
theorem de_tupG (hc : X.calm = true) (hN : X.N.Nodup) (hr : Room (k + 9) X.A) (hgu : X.A.guards = some []) (hi : DI X T W tg iter src) (ok : GenOk X.N X.env.scope scope own) (TB : GxR.TabB X.base X.mg c P) (hcode : X.env.code = .ref c) (hP : TIn T c P none)
    (hg : ∀ (A : Around) (s : Shared) (H : Hp) (C : Addr) (code : Value) (fp : List Addr) (pn : List (Addr × Obj)), DG0 (gcx X (A.deeper (genE scope C code X.env)) s H scope (genE scope C code X.env) fp pn) T (own.map (·.2)) tg a)
    (he : ∀ (A : Around) (s : Shared) (H : Hp) (C : Addr) (code : Value) (fp : List Addr) (pn : List (Addr × Obj)), Room k (A.deeper (genE scope C code X.env)) → (A.deeper (genE scope C code X.env)).guards = some [] → DE (gcx X (A.deeper (genE scope C code X.env)) s H scope (genE scope C code X.env) fp pn) T noW elt f)
    (hgl : Gl X "tuple") (hm : X.mg "tuple" = none) (hs : ∀ v, genFold iter X.env v = pure v := by intro _; rfl)
    (hst : starEach [.GeneratorExp elt [⟨tg, iter, [], 0⟩] scope gpos] X.env = (false, eval (.GeneratorExp elt [⟨tg, iter, [], 0⟩] scope gpos) X.env) :: starEach [] X.env := by rfl) :
    DE X T W (.Call (.Name "tuple" p) [.GeneratorExp elt [⟨tg, iter, [], 0⟩] scope gpos] [] pos) (eTupG src a f (own.map (·.2))) :=
  PE_imp (pe_tupG hc hN hr hgu hi ok TB hcode hg (fun A s H C code fp pn r1 r2 => pe_blk' (he A s H C code fp pn r1 r2)) hgl hm hs hst) fun _ _ _ q => tE_tg hP q
theorem de_allG (hc : X.calm = true) (hN : X.N.Nodup) (hr : Room (k + 9) X.A) (hgu : X.A.guards = some []) (hi : DI X T W tg iter src) (ok : GenOk X.N X.env.scope scope own) (TB : GxR.TabB X.base X.mg c P) (hcode : X.env.code = .ref c) (hP : TIn T c P none)
    (hg : ∀ (A : Around) (s : Shared) (H : Hp) (C : Addr) (code : Value) (fp : List Addr) (pn : List (Addr × Obj)), DG0 (gcx X (A.deeper (genE scope C code X.env)) s H scope (genE scope C code X.env) fp pn) T (own.map (·.2)) tg a)
    (he : ∀ (A : Around) (s : Shared) (H : Hp) (C : Addr) (code : Value) (fp : List Addr) (pn : List (Addr × Obj)), Room k (A.deeper (genE scope C code X.env)) → (A.deeper (genE scope C code X.env)).guards = some [] → DE (gcx X (A.deeper (genE scope C code X.env)) s H scope (genE scope C code X.env) fp pn) T noW elt f)
    (hgl : Gl X "all") (hm : X.mg "all" = none) (hs : ∀ v, genFold iter X.env v = pure v := by intro _; rfl)
    (hst : starEach [.GeneratorExp elt [⟨tg, iter, [], 0⟩] scope gpos] X.env = (false, eval (.GeneratorExp elt [⟨tg, iter, [], 0⟩] scope gpos) X.env) :: starEach [] X.env := by rfl) :
    DE X T W (.Call (.Name "all" p) [.GeneratorExp elt [⟨tg, iter, [], 0⟩] scope gpos] [] pos) (eAllG src a f (own.map (·.2))) :=
  PE_imp (pe_allG hc hN hr hgu hi ok TB hcode hg (fun A s H C code fp pn r1 r2 => pe_blk' (he A s H C code fp pn r1 r2)) hgl hm hs hst) fun _ _ _ q => tE_ag hP q
end
end DL

set_option Elab.async false
set_option linter.all false
set_option maxRecDepth 100000
set_option maxHeartbeats 1000000
namespace DL
open PySem PySem.Spec PyProof.Rows L2
open Classical

/-! ### [e for x in xs if .. for y in ys if ..] -/
def ItK (K : PySem.W.Frag) (T : TbT) (ρ0 : List Addr) (H0 : Hp) (xs : List D) (chk : Hh → Prop) (J : It) : Prop :=
  ∀ ρ G H (i : Nat), Ext ρ0 H0 ρ H → RG K T ρ G H → chk G →
    (∀ d, xs[i]? = some d → J.go i H ∧ ∀ x H', J.yld i H x H' → Ext ρ H ρ H' ∧ RG K T ρ G H' ∧ Rep K H' ρ d x) ∧ (xs.length ≤ i → J.stop i H)
def tI0 (K : PySem.W.Frag) (T : TbT) (src : IS) : TI := fun σ H R => ∃ ρ env G, RG K T ρ G H ∧ EnvR K [] H ρ env σ ∧ (match src env G with
  | .ok xs chk G' => ∀ ρ' H' J, Ext ρ H ρ' H' → RG K T ρ' G' H' → ItK K T ρ' H' xs chk J → R J H'
  | _ => False)
theorem pi_blk {X : Cx} {T : TbT} {tg iter : Expr} {src : IS} (h : DI X T noW tg iter src) : PI X tg iter (tI0 X.K T src) := PI_imp h fun σ H R ⟨ρ, env, G, rg, ev, q⟩ => ⟨ρ, env, G, ⟨rg, ev.pnil⟩, by
  revert q
  cases src env G with
  | ok xs chk G' => exact fun q => q
  | ex c w G' => exact fun q => q.elim
  | bad => exact fun q => q⟩
/-- the second clause's loop -/
noncomputable def lcIn (a : GS) (t : TSm) (f : ES) (l : Nat) (chk : Hh → Prop) (env : Env') : List D → Hh → Option Hh
  | [], G => if chk G then some G else none
  | x :: xs, G => if chk G then (match a x env G with
    | some (env2, G2) => (match t env2 G2 with
      | .ok true G3 => (match f env2 G3 with
        | .ok y G4 => (match G4[l]? with
          | some (.lst acc) => if acc.length < 100000 then lcIn a t f l chk env xs (G4.set l (.lst (acc ++ [y]))) else none
          | _ => none)
        | _ => none)
      | .ok false G3 => lcIn a t f l chk env xs G3
      | _ => none)
    | none => none) else none
noncomputable def lc2L (a : GS) (t : TSm) (src1 : IS) (a1 : GS) (t1 : TSm) (f : ES) (vs1 : List Nat) (l : Nat) (chk : Hh → Prop) (env : Env') : List D → Hh → RE
  | [], G => if chk G then .ok (.ref l) G else .bad
  | x :: xs, G => if chk G then (match a x env G with
    | some (env2, G2) => (match t env2 G2 with
      | .ok true G3 => (match src1 env2 G3 with
        | .ok ys chk1 G4 => (match lcIn a1 t1 f l chk1 (wipeE env2 vs1) ys G4 with
          | some G5 => lc2L a t src1 a1 t1 f vs1 l chk env xs G5
          | none => .bad)
        | _ => .bad)
      | .ok false G3 => lc2L a t src1 a1 t1 f vs1 l chk env xs G3
      | _ => .bad)
    | none => .bad) else .bad
noncomputable def eLc2 (src : IS) (a : GS) (t : TSm) (src1 : IS) (a1 : GS) (t1 : TSm) (f : ES) (vs vs1 : List Nat) : ES := fun env G => match src env G with
  | .ok xs chk G1 => lc2L a t src1 a1 t1 f vs1 G1.length chk (wipeE (cutX env) vs) xs (G1 ++ [.lst []])
  | .ex c w G1 => .ex c w G1
  | .bad => .bad
section
variable {X : Cx} {T : TbT} {W : WX} {src src1 : IS} {a a1 : GS} {t t1 : TSm} {f : ES} {vs vs1 : List Nat}
/-- the second clause's loop, read -/
theorem lc_in {l : Nat} {D : Addr} {chk : Hh → Prop} {xs : List DL.D} {J1 : It} {Nx : Hp → Prop} {ρ ρ4 : List Addr} {H4 : Hp} {G4 : Hh} {env2 : Env'} {σ2 : L2.St} (rg4 : RG X.K T ρ4 G4 H4) (ev4 : EnvR X.K [] H4 ρ4 env2 σ2) (eD : ρ4[l]? = some D) (it : ItK X.K T ρ4 H4 xs chk J1)
    (hN : ∀ G5 ρ5 H5, lcIn a1 t1 f l chk (wipeE env2 vs1) xs G4 = some G5 → Ext ρ4 H4 ρ5 H5 → RG X.K T ρ5 G5 H5 → Nx H5) (hd : lcIn a1 t1 f l chk (wipeE env2 vs1) xs G4 ≠ none) :
    ∃ W1 : Nat → Nat → Hp → Prop, (∃ m, W1 0 m H4) ∧ ∀ j k H, W1 j k H →
      (J1.stop j H ∧ Nx H) ∨ (J1.go j H ∧ ∃ Nx1 : Hp → Prop, (∀ H', Nx1 H' → ∃ k', k' < k ∧ W1 (j + 1) k' H') ∧ ∀ x H', J1.yld j H x H' → tG0 X.K T vs1 a1 x (wipe σ2 vs1) H' fun σ3 H5 => wipe σ3 vs1 = wipe σ2 vs1 ∧ tT0 X.K T t1 σ3 H5 fun b H6 =>
        if b = true then tE0 X.K T f σ3 H6 fun y H7 => ∃ acc, H7 D = some (.lst acc) ∧ acc.length < sizeLine ∧ Nx1 (upd H7 D (.lst (acc ++ [y]))) else Nx1 H6) := by
  refine ⟨fun i m H' => ∃ ρ' G', Ext ρ4 H4 ρ' H' ∧ RG X.K T ρ' G' H' ∧ i + m = xs.length ∧ lcIn a1 t1 f l chk (wipeE env2 vs1) (xs.drop i) G' = lcIn a1 t1 f l chk (wipeE env2 vs1) xs G4, ⟨xs.length, ρ4, G4, Ext.refl, rg4, by omega, rfl⟩, fun i m H' hW => ?_⟩
  obtain ⟨ρ', G', e', rg', hm, eq⟩ := hW
  have eD' : ρ'[l]? = some D := e'.kr _ _ eD
  have ew : EnvR X.K [] H' ρ' (wipeE env2 vs1) (wipe σ2 vs1) := (e'.envr rg4 ev4).wipe vs1
  cases hdr : xs.drop i with
  | nil =>
    rw [hdr] at eq
    unfold lcIn at eq
    have hl : xs.length ≤ i := by
      have := congrArg List.length hdr
      simp at this; omega
    by_cases hck : chk G'
    · rw [if_pos hck] at eq
      exact .inl ⟨(it ρ' G' H' i e' rg' hck).2 hl, hN G' ρ' H' (by unfold lcIn; exact eq.symm) e' rg'⟩
    · rw [if_neg hck] at eq
      exact absurd (by unfold lcIn; exact eq.symm) hd
  | cons d ds =>
    rw [hdr] at eq
    have hi : xs[i]? = some d := by
      rw [← List.head?_drop, hdr]; rfl
    have hds : xs.drop (i + 1) = ds := by
      rw [← List.drop_drop, hdr]; rfl
    have hlt : i < xs.length := (List.getElem?_eq_some_iff.mp hi).1
    have hne : lcIn a1 t1 f l chk (wipeE env2 vs1) (d :: ds) G' ≠ none := by rw [eq]; exact hd
    generalize hR : lcIn a1 t1 f l chk (wipeE env2 vs1) xs G4 = R at eq hN hd ⊢
    unfold lcIn at eq hne
    by_cases hck : chk G'
    case neg => rw [if_neg hck] at hne; exact absurd rfl hne
    rw [if_pos hck] at eq hne
    obtain ⟨hgo, hy⟩ := (it ρ' G' H' i e' rg' hck).1 d hi
    refine .inr ⟨hgo, fun H2 => ∃ ρ2 G2, Ext ρ4 H4 ρ2 H2 ∧ RG X.K T ρ2 G2 H2 ∧ lcIn a1 t1 f l chk (wipeE env2 vs1) ds G2 = R, fun H2 hN2 => ?_, fun x H2 hyl => ?_⟩
    · obtain ⟨ρ2, G2, x2, rg2, p2⟩ := hN2
      exact ⟨m - 1, by omega, ρ2, G2, x2, rg2, by omega, by rw [hds]; exact p2⟩
    · obtain ⟨x2, rg2, r2⟩ := hy x H2 hyl
      refine ⟨ρ', wipeE env2 vs1, G', d, rg2, x2.envr rg' ew, r2, ?_⟩
      cases q3 : a1 d (wipeE env2 vs1) G' with
      | none => rw [q3] at hne; exact absurd rfl hne
      | some z =>
        obtain ⟨env3, G3⟩ := z
        rw [q3] at eq hne
        intro σ3 ρ3 H3 x3 rg3 ev3 w3
        refine ⟨by rw [w3]; exact wipe_wipe, ρ3, env3, G3, rg3, ev3, ?_⟩
        dsimp only at eq hne
        cases q4 : t1 env3 G3 with
        | ok b G5 =>
          rw [q4] at eq hne
          intro ρ5 H5 x5 rg5
          have xx5 := x2.trans (x3.trans x5)
          cases b with
          | false =>
            rw [if_neg Bool.false_ne_true]
            exact ⟨ρ5, G5, e'.trans xx5, rg5, eq⟩
          | true =>
            rw [if_pos rfl]
            refine ⟨ρ5, env3, G5, rg5, x5.envr rg3 ev3, ?_⟩
            dsimp only at eq hne
            cases q5 : f env3 G5 with
            | ok y G6 =>
              rw [q5] at eq hne
              intro v6 ρ6 H6 x6 rg6 r6
              dsimp only at eq hne
              have xx6 := xx5.trans x6
              cases q6 : G6[l]? with
              | none => rw [q6] at hne; exact absurd rfl hne
              | some mo =>
                rw [q6] at eq hne
                cases mo with
                | lst acc =>
                  dsimp only at eq hne
                  by_cases hl : acc.length < 100000
                  · rw [if_pos hl] at eq
                    have eD6 : ρ6[l]? = some D := xx6.kr _ _ eD'
                    obtain ⟨us, hu, ru⟩ := rg6.ok _ _ _ eD6 q6
                    obtain ⟨rg7, x7⟩ := rg6.write eD6 q6 hu (ru.append (es := [y]) (ws := [v6]) ⟨v6, [], rfl, r6, rfl⟩)
                    exact ⟨us, hu, Nat.lt_of_lt_of_le (by rw [ru.length]; exact hl) (by decide : 100000 ≤ sizeLine), ρ6, _, e'.trans (xx6.trans x7), rg7, eq⟩
                  · rw [if_neg hl] at hne; exact absurd rfl hne
            | ex c w G6 => rw [q5] at hne; exact absurd rfl hne
            | bad => rw [q5] at hne; exact absurd rfl hne
        | ex c w G5 => rw [q4] at hne; exact absurd rfl hne
        | bad => rw [q4] at hne; exact absurd rfl hne
theorem tE_lc2 {σ : L2.St} {H : Hp} {Q : VK} (q : tE X T W (eLc2 src a t src1 a1 t1 f vs vs1) σ H Q) : tLc2 (tI X T W src) (tG0 X.K T vs a) (tT0 X.K T t) (tI0 X.K T src1) (tG0 X.K T vs1 a1) (tT0 X.K T t1) (tE0 X.K T f) vs vs1 σ H Q := by
  obtain ⟨ρ, env, G, sr, p⟩ := q
  refine ⟨ρ, env, G, sr, ?_⟩
  unfold eLc2 at p
  cases q : src env G with
  | ok xs chk G1 =>
    rw [q] at p
    intro ρ1 H1 J e1 rg1 it D hD
    dsimp only at p
    obtain ⟨rg2, e2⟩ := rg1.new (ds := []) (vs := []) hD rfl
    refine ⟨fun i m H' => ∃ ρ' G', Ext (ρ1 ++ [D]) (upd H1 D (.lst [])) ρ' H' ∧ RG X.K T ρ' G' H' ∧ i + m = xs.length ∧ PostE X T W σ ρ' H' (lc2L a t src1 a1 t1 f vs1 G1.length chk (wipeE (cutX env) vs) (xs.drop i) G') Q,
      ⟨xs.length, _, _, Ext.refl, rg2, by omega, PostE.ext (e1.trans e2) p⟩, fun i m H' hW => ?_⟩
    obtain ⟨ρ', G', e', rg', hm, p'⟩ := hW
    have eD : ρ'[G1.length]? = some D := e'.kr _ _ (by rw [rg1.len]; simp)
    have ew : EnvR X.K [] H' ρ' (wipeE (cutX env) vs) (wipe σ vs) := ((e1.trans e2).trans e').envr sr.rg sr.ev |>.cut.wipe vs
    cases hd : xs.drop i with
    | nil =>
      rw [hd] at p'
      unfold lc2L at p'
      split at p'
      · rename_i hck
        have hl : xs.length ≤ i := by
          have := congrArg List.length hd
          simp at this; omega
        exact .inl ⟨(it ρ' G' H' i (e2.trans e') rg' hck).2 hl, p' _ ρ' H' Ext.refl rg' ⟨D, eD, rfl⟩⟩
      · exact p'.elim
    | cons d ds =>
      rw [hd] at p'
      have hi : xs[i]? = some d := by
        rw [← List.head?_drop, hd]; rfl
      have hds : xs.drop (i + 1) = ds := by
        rw [← List.drop_drop, hd]; rfl
      have hlt : i < xs.length := (List.getElem?_eq_some_iff.mp hi).1
      unfold lc2L at p'
      split at p'
      · rename_i hck
        obtain ⟨hgo, hy⟩ := (it ρ' G' H' i (e2.trans e') rg' hck).1 d hi
        refine .inr ⟨hgo, fun H2 => ∃ ρ2 G2, Ext (ρ1 ++ [D]) (upd H1 D (.lst [])) ρ2 H2 ∧ RG X.K T ρ2 G2 H2 ∧ PostE X T W σ ρ2 H2 (lc2L a t src1 a1 t1 f vs1 G1.length chk (wipeE (cutX env) vs) ds G2) Q, fun H2 hN => ?_, fun x H2 hyl => ?_⟩
        · obtain ⟨ρ2, G2, x2, rg2, p2⟩ := hN
          exact ⟨m - 1, by omega, ρ2, G2, x2, rg2, by omega, by rw [hds]; exact p2⟩
        · obtain ⟨x2, rg2, r2⟩ := hy x H2 hyl
          refine ⟨ρ', wipeE (cutX env) vs, G', d, rg2, x2.envr rg' ew, r2, ?_⟩
          cases q3 : a d (wipeE (cutX env) vs) G' with
          | none => rw [q3] at p'; exact p'.elim
          | some z =>
            obtain ⟨env3, G3⟩ := z
            rw [q3] at p'
            intro σ3 ρ3 H3 x3 rg3 ev3 w3
            refine ⟨by rw [w3]; exact wipe_wipe, ρ3, env3, G3, rg3, ev3, ?_⟩
            dsimp only at p'
            cases q4 : t env3 G3 with
            | ok b G4 =>
              rw [q4] at p'
              intro ρ4 H4 x4 rg4
              have xx4 := x2.trans (x3.trans x4)
              cases b with
              | false =>
                rw [if_neg Bool.false_ne_true]
                exact ⟨ρ4, G4, e'.trans xx4, rg4, PostE.ext xx4 p'⟩
              | true =>
                rw [if_pos rfl]
                refine ⟨ρ4, env3, G4, rg4, x4.envr rg3 ev3, ?_⟩
                dsimp only at p'
                cases q5 : src1 env3 G4 with
                | ok ys chk1 G5 =>
                  rw [q5] at p'
                  intro ρ5 H5 J1 x5 rg5 it5
                  dsimp only at p'
                  have xx5 := xx4.trans x5
                  have ev5 := (x4.trans x5).envr rg3 ev3
                  cases q6 : lcIn a1 t1 f G1.length chk1 (wipeE env3 vs1) ys G5 with
                  | none => rw [q6] at p'; exact p'.elim
                  | some G6 =>
                    rw [q6] at p'
                    refine lc_in (ρ := ρ5) rg5 ev5 (xx5.kr _ _ eD) it5 (fun G7 ρ7 H7 e7 x7 rg7 => ?_) (by rw [q6]; simp)
                    rw [q6] at e7
                    cases e7
                    exact ⟨ρ7, _, e'.trans (xx5.trans x7), rg7, PostE.ext (xx5.trans x7) p'⟩
                | ex c w G5 => rw [q5] at p'; exact p'.elim
                | bad => rw [q5] at p'; exact p'
            | ex c w G4 => rw [q4] at p'; exact p'.elim
            | bad => rw [q4] at p'; exact p'
      · exact p'.elim
  | ex c w G1 => rw [q] at p; exact p
  | bad => rw [q] at p; exact p
variable {scope : Scope} {own : List (Str × Nat)} {elt tg iter tg1 iter1 : Expr} {ifs ifs1 : List Expr} {pos : Pos}
theorem de_lc2 (hc : X.calm = true) (hN : X.N.Nodup) (hi : DI X T W tg iter src) (ok : BlkOk X.N X.env.scope scope own) (hv : ∀ i ∈ vs1, i ∈ own.map (·.2))
    (hg : ∀ (s : Shared) (H : Hp) (C : Addr) (cl : List (Str × Addr)) (fp : List Addr), DG0 (X.blk s H scope (compEnvC scope cl C X.env) fp) T (own.map (·.2)) tg a)
    (ht : ∀ (s : Shared) (H : Hp) (C : Addr) (cl : List (Str × Addr)) (fp : List Addr), PTs (X.blk s H scope (compEnvC scope cl C X.env) fp) ifs (tT0 X.K T t))
    (hi1 : ∀ (s : Shared) (H : Hp) (C : Addr) (cl : List (Str × Addr)) (fp : List Addr), DI (X.blk s H scope (compEnvC scope cl C X.env) fp) T noW tg1 iter1 src1)
    (hg1 : ∀ (s : Shared) (H : Hp) (C : Addr) (cl : List (Str × Addr)) (fp : List Addr), DG0 (X.blk s H scope (compEnvC scope cl C X.env) fp) T vs1 tg1 a1)
    (ht1 : ∀ (s : Shared) (H : Hp) (C : Addr) (cl : List (Str × Addr)) (fp : List Addr), PTs (X.blk s H scope (compEnvC scope cl C X.env) fp) ifs1 (tT0 X.K T t1))
    (he : ∀ (s : Shared) (H : Hp) (C : Addr) (cl : List (Str × Addr)) (fp : List Addr), DE (X.blk s H scope (compEnvC scope cl C X.env) fp) T noW elt f)
    (hs : ∀ x, foldedSetIterable iter X.env x = pure x := by intro _; rfl) (hs1 : ∀ env x, foldedSetIterable iter1 env x = pure x := by intro _ _; rfl) :
    DE X T W (.ListComp elt [⟨tg, iter, ifs, 0⟩, ⟨tg1, iter1, ifs1, 0⟩] scope pos) (eLc2 src a t src1 a1 t1 f (own.map (·.2)) vs1) :=
  PE_imp (pe_lc2 hc hN hi ok hv hg ht (fun s H C cl fp => pi_blk (hi1 s H C cl fp)) hg1 ht1 (fun s H C cl fp => pe_blk' (he s H C cl fp)) hs hs1) fun _ _ _ q => tE_lc2 q
theorem ds_setLc2 {i : Nat} {y : Str} {py spos : Pos} (hc : X.calm = true) (hN : X.N.Nodup) (hy : X.N[i]? = some y) (hyl : X.env.scope.names.lookup y = some .local)
    (hsw : swapsWith (.ListComp elt [⟨tg, iter, ifs, 0⟩, ⟨tg1, iter1, ifs1, 0⟩] scope pos) (some (.Name y py)) spos.line X.env = pure true) (hi : DI X T W tg iter src) (ok : BlkOk X.N X.env.scope scope own) (hv : ∀ i ∈ vs1, i ∈ own.map (·.2))
    (hg : ∀ (s : Shared) (H : Hp) (C : Addr) (cl : List (Str × Addr)) (fp : List Addr), DG0 (X.blk s H scope (compEnvC scope cl C X.env) fp) T (own.map (·.2)) tg a)
    (ht : ∀ (s : Shared) (H : Hp) (C : Addr) (cl : List (Str × Addr)) (fp : List Addr), PTs (X.blk s H scope (compEnvC scope cl C X.env) fp) ifs (tT0 X.K T t))
    (hi1 : ∀ (s : Shared) (H : Hp) (C : Addr) (cl : List (Str × Addr)) (fp : List Addr), DI (X.blk s H scope (compEnvC scope cl C X.env) fp) T noW tg1 iter1 src1)
    (hg1 : ∀ (s : Shared) (H : Hp) (C : Addr) (cl : List (Str × Addr)) (fp : List Addr), DG0 (X.blk s H scope (compEnvC scope cl C X.env) fp) T vs1 tg1 a1)
    (ht1 : ∀ (s : Shared) (H : Hp) (C : Addr) (cl : List (Str × Addr)) (fp : List Addr), PTs (X.blk s H scope (compEnvC scope cl C X.env) fp) ifs1 (tT0 X.K T t1))
    (he : ∀ (s : Shared) (H : Hp) (C : Addr) (cl : List (Str × Addr)) (fp : List Addr), DE (X.blk s H scope (compEnvC scope cl C X.env) fp) T noW elt f)
    (hs : ∀ x, foldedSetIterable iter X.env x = pure x := by intro _; rfl) (hs1 : ∀ env x, foldedSetIterable iter1 env x = pure x := by intro _ _; rfl) :
    DS X T W (.Assign [.Name y py] (.ListComp elt [⟨tg, iter, ifs, 0⟩, ⟨tg1, iter1, ifs1, 0⟩] scope pos) spos) (sAsg (eLc2 src a t src1 a1 t1 f (own.map (·.2)) vs1) (aName i)) :=
  PS_imp (ps_setLc2 hc hN hy hyl hsw hi ok hv hg ht (fun s H C cl fp => pi_blk (hi1 s H C cl fp)) hg1 ht1 (fun s H C cl fp => pe_blk' (he s H C cl fp)) hs hs1) fun E σ H ⟨ρ, env, G, sr, q⟩ => by
    refine tE_lc2 (src := src) (a := a) (t := t) (src1 := src1) (a1 := a1) (t1 := t1) (f := f) ⟨ρ, env, G, sr, ?_⟩
    unfold sAsg at q
    cases h : eLc2 src a t src1 a1 t1 f (own.map (·.2)) vs1 env G with
    | ok d G1 =>
      rw [h] at q
      dsimp only [aName] at q
      exact fun v ρ' H' e rg r => q _ ρ' H' e ⟨rg, (e.envr sr.rg sr.ev).set i ⟨v, rfl, r⟩⟩
    | ex c w G1 => rw [h] at q; exact PostS.exE sr q
    | bad => rw [h] at q; exact q
end
end DL

set_option Elab.async false
set_option linter.all false
set_option maxRecDepth 100000
set_option maxHeartbeats 1000000
namespace DL
open PySem PySem.Spec PyProof.Rows L2
open Classical

/-! ### the end: a law is called -/
/-- what is tracked at the law's call: the script, if nobody has written it down, and the tables -/
noncomputable def H0 (K : PySem.W.Frag) (T : TbT) (a : Addr) (o : Obj) (xs : List V) : Hp := fun b =>
  if b = a then (if K.lookup a = none then some (.frz o (.lst xs)) else none) else if b ∈ T.map (·.2.1) then some (.tbl #[]) else none
section
variable {P : Program} {w : World} {K : PySem.W.Frag} {mg mb : Str → Option Value} {k : Nat} {fa a : Addr} {T : TbT} {x : Str} {sem : FS} {s1 : Shared} {us : List Value} {ns : List Int}
/-- what a def's table asks -/
abbrev TBs (base : Heap) (mg : Str → Option Value) (T : TbT) : Prop := ∀ p ∈ T, GxR.TabB base mg p.1 p.2.1
theorem tab_nil {H : Hp} {P : Addr} (h : H P = some (.tbl #[])) : ∀ {t : Option Str}, TabO H P t
  | none => ⟨#[], h, trivial⟩
  | some _ => LamX.TabS.nil h
theorem reps_scr {H : Hp} : ∀ {ns : List Int}, RepPs K H (ns.map PyData.int) (ns.map V.int)
  | [] => rfl
  | n :: ns => ⟨_, _, rfl, rfl, reps_scr⟩
theorem law_callD (kin : K.In s1.heap) (gns : s1.heap.Ns mainGlobals mg) (bns : s1.heap.Ns builtinsNs mb) (bbs : ∀ x : Str, x ≠ "__name__" → mb x = bootBuiltins x) (lim : s1.heap.NoLimit) (nogens : s1.gens = #[])
    (tabs : ∀ p ∈ T, s1.heap.get? p.2.1 = some { cls := .none, data := .fields #[] }) (tabsK : ∀ p ∈ T, K.lookup p.2.1 = none) (heads : ∀ p ∈ T, PySem.W.CodeHd s1.heap p.1 p.2.1)
    (bmain : ∃ (bm : Addr) (ob : Obj), mg "__builtins__" = some (.ref bm) ∧ bm ≠ builtinsNs ∧ s1.heap.get? bm = some ob ∧ ob.cls = .type "module" ∧ ob.dict = some builtinsNs ∧ ob.data = .plain)
    (hobj : s1.heap.get? a = some { cls := .type "list", data := .seq us.toArray }) (inz : IntsAre us ns) (short : ns.length ≤ sizeLine) (room : Room k callerA)
    (F : ∀ base : Heap, K.In base → base.Ns mainGlobals mg → TBs base mg T → ∃ fd : FuncData, (∀ (s : Shared) (u : Value), K.In s.heap → BindsTo s fd ⟨[u], []⟩ [(x, u)]) ∧ FnD P w K mg base T k fa fd [x] sem)
    (hsem : ∃ G', sem [.fro (ns.map PyData.int)] [] = .ok (.dat (.bool true)) G') :
    codeAny (model P w) callerA (.call (.ref fa) ⟨[.ref a], []⟩) (fun r s' => r = .ok (.ret (.bool true)) ∧ OldK s1.heap s'.heap ∧ s'.os = s1.os ∧ AllBare s'.gens) s1 := by
  have rv := vals_ints inz
  have hlen : us.length = ns.length := inz.length
  obtain ⟨H, hH⟩ : ∃ H : Hp, H = H0 K T a { cls := .type "list", data := .seq us.toArray } (ns.map V.int) := ⟨_, rfl⟩
  -- the tables are none of the script
  have tab_at : ∀ b, b ∈ T.map (·.2.1) → s1.heap.get? b = some { cls := .none, data := .fields #[] } ∧ K.lookup b = none ∧ b ≠ a := fun b hb => by
    obtain ⟨p, hp, rfl⟩ := List.mem_map.mp hb
    refine ⟨tabs p hp, tabsK p hp, fun z => ?_⟩
    have e := tabs p hp
    rw [z, hobj] at e
    have e2 : Data.seq us.toArray _ = Data.fields #[] := congrArg Obj.data (Option.some.inj e)
    cases e2
  have at_tab : ∀ b, b ∈ T.map (·.2.1) → H b = some (.tbl #[]) := fun b hb => by
    rw [hH]; unfold H0
    rw [if_neg (tab_at b hb).2.2, if_pos hb]
  have cases_ : ∀ b u, H b = some u → (b = a ∧ K.lookup a = none ∧ u = .frz { cls := .type "list", data := .seq us.toArray } (.lst (ns.map V.int))) ∨ (b ∈ T.map (·.2.1) ∧ u = .tbl #[]) := fun b u e => by
    rw [hH] at e; unfold H0 at e
    by_cases hb : b = a
    · rw [if_pos hb] at e
      by_cases hk : K.lookup a = none
      · rw [if_pos hk] at e
        exact .inl ⟨hb, hk, (Option.some.inj e).symm⟩
      · rw [if_neg hk] at e; cases e
    · rw [if_neg hb] at e
      by_cases hm : b ∈ T.map (·.2.1)
      · rw [if_pos hm] at e
        exact .inr ⟨hm, (Option.some.inj e).symm⟩
      · rw [if_neg hm] at e; cases e
  have hok : HOk P w H s1.heap := fun b u e => by
    rcases cases_ b u e with ⟨rfl, _, rfl⟩ | ⟨hm, rfl⟩
    · exact ⟨hobj, by rw [List.length_map]; exact short, us, _, rv, hobj⟩
    · exact (tab_at b hm).1
  -- nothing else is hidden
  have free_of : ∀ {b : Addr} {o : Obj}, s1.heap.get? b = some o → (∀ z n, o.data ≠ .seq z n) → o.data ≠ .fields #[] → H b = none := fun {b o} e h1 h2 => by
    cases q : H b with
    | none => rfl
    | some u =>
      exfalso
      rcases cases_ b u q with ⟨rfl, _, _⟩ | ⟨hm, _⟩
      · rw [hobj] at e
        cases e
        exact h1 _ _ rfl
      · rw [(tab_at b hm).1] at e
        cases e
        exact h2 rfl
  have dict_of : ∀ {b : Addr} {o : Obj} {es : Array DictEntry} {ep : Nat}, s1.heap.get? b = some o → o.data = .dict es ep → (hidT s1.heap H).get? b = some o := fun {b o es ep} e d =>
    hidT_get e (free_of e (fun _ _ z => by rw [d] at z; cases z) fun z => by rw [d] at z; cases z)
  have ns_of : ∀ {b : Addr} {m : Str → Option Value}, s1.heap.Ns b m → (hidT s1.heap H).Ns b m := fun ⟨o, es, ep, e, d, r⟩ => ⟨o, es, ep, dict_of e d, d, r⟩
  have kin0 : K.In (hidT s1.heap H) := fun b o e => hidT_get (kin b o e) (by
    cases q : H b with
    | none => rfl
    | some u =>
      exfalso
      rcases cases_ b u q with ⟨rfl, hk, _⟩ | ⟨hm, _⟩
      · rw [hk] at e; cases e
      · rw [(tab_at b hm).2.1] at e; cases e)
  obtain ⟨mc, lim1, lim2⟩ := lim
  have mod0 : L2.Mod K mg (hidT s1.heap H) := ⟨kin0, ns_of gns, ⟨mb, ns_of bns, bbs⟩, ⟨mc, ns_of lim1, lim2⟩⟩
  have tbs : TBs (hidT s1.heap H) mg T := fun p hp => by
    refine ⟨?_, ?_, fun z => ?_⟩
    · obtain ⟨o, vs, file, tf, flags, tg, inF, text, tt, q1, q2, q3, q4, q⟩ := heads p hp
      refine ⟨o, vs, file, tf, flags, tg, inF, text, tt, hidT_get q1 (free_of q1 (fun _ _ z => by rw [q3] at z; cases z) fun z => ?_), q2, q3, q4, q⟩
      rw [q3] at z
      cases z
      simp at q4
    · obtain ⟨bm, ob, b1, b2, b3, b4, b5, b6⟩ := bmain
      refine ⟨bm, ob, b1, b2, fun z => ?_, fun z => ?_, hidT_get b3 (free_of b3 (fun _ _ z => by rw [b6] at z; cases z) fun z => by rw [b6] at z; cases z), b4, b5, b6⟩
      · obtain ⟨o, es, ep, e, d, _⟩ := gns
        rw [z, e] at b3
        cases b3
        rw [d] at b6
        cases b6
      · rw [z, tabs p hp] at b3
        cases b3
        cases b6
    · obtain ⟨o, es, ep, e, d, _⟩ := gns
      rw [z, tabs p hp] at e
      cases e
      cases d
  have env0 : Env0 P w K mg (hidT s1.heap H) callerA [] s1 H := ⟨rfl, mod0, fun b o e => of_hidT e, Nat.le_of_eq (hidT_size _ _), trivial, fun b hb => absurd (show b ∈ ([] : List Addr) from hb) (by simp), hok, .of_eq nogens⟩
  have frl : FrL K H a (ns.map V.int) := by
    cases hk : K.lookup a with
    | some o =>
      have e := kin a o hk
      rw [hobj] at e
      cases e
      exact .inr ⟨_, us.toArray, _, hk, rfl, rfl, rfl, by rw [List.size_toArray, hlen]; exact short, by simpa using rv⟩
    | none => exact .inl ⟨_, by rw [hH]; unfold H0; rw [if_pos rfl, if_pos hk]⟩
  have rg : RG K T [] [] H := ⟨List.nodup_nil, rfl, fun l b mo h1 _ => by simp at h1, fun p hp => tab_nil (at_tab p.2.1 (List.mem_map.mpr ⟨p, hp, rfl⟩))⟩
  obtain ⟨G', hs⟩ := hsem
  obtain ⟨fd, bind, F1⟩ := F _ kin0 (ns_of gns) tbs
  refine codeAny_mono (F1.run callerA [] s1 H ⟨[.ref a], []⟩ [.ref a] [.ref a] (fun v _ => v = .bl true) (fun _ _ _ => False) [] [] [.fro (ns.map PyData.int)] room rfl env0 (bind s1 (.ref a) kin) (.cons rfl .nil) rfl rg ⟨.ref a, [], rfl, ⟨a, _, rfl, frl, reps_scr⟩, rfl⟩ ?_) fun r s' h => ?_
  · rw [hs]
    exact fun v ρ' H' _ _ r => r
  cases r with
  | error e =>
    obtain ⟨_, _, _, _, _, _, _, _, _, _, _, _, z⟩ := h
    exact z.elim
  | ok fl =>
    cases fl with
    | next => exact False.elim h
    | brk => exact False.elim h
    | cont => exact False.elim h
    | ret u =>
      obtain ⟨v, H', os, bare, un, hok', r', q⟩ := h
      have q : v = .bl true := q
      subst q
      obtain rfl : u = Value.bool true := r'
      have grown : ∀ b, b ∈ T.map (·.2.1) → ∃ more : Array Value, s'.heap.get? b = some { cls := .none, data := .fields more } := fun b hb => by
        obtain ⟨more, z⟩ := un.tbls b #[] (at_tab b hb)
        exact ⟨_, hok' b _ z⟩
      have kept : ∀ b o, b ∉ T.map (·.2.1) → s1.heap.get? b = some o → s'.heap.get? b = some o := fun b o nb e => by
        cases q : H b with
        | none => exact un.keep b o e q (fun z => by simp [frs] at z) (by simp)
        | some u =>
          rcases cases_ b u q with ⟨rfl, _, rfl⟩ | ⟨hm, _⟩
          · have z := hok' _ _ (un.frzs _ _ _ q)
            rw [hobj] at e
            cases e
            exact z.1
          · exact absurd hm nb
      refine ⟨rfl, ⟨fun b o e => ?_, fun b o e => ?_⟩, os, bare⟩
      · by_cases hb : b ∈ T.map (·.2.1)
        · obtain ⟨more, hm⟩ := grown b hb
          obtain ⟨p, hp, ep⟩ := List.mem_map.mp hb
          subst ep
          have e2 := tabs p hp
          rw [e2] at e
          cases e
          exact .inr (.inl ⟨((heads p hp).tab e2).isCodeTable, rfl, #[], more, rfl, by rw [Array.empty_append]; exact hm⟩)
        · exact .inl (kept b o hb e)
      · by_cases hb : b ∈ T.map (·.2.1)
        · obtain ⟨more, hm⟩ := grown b hb
          exact ⟨_, hm⟩
        · exact ⟨o, kept b o hb e⟩
end
/-- what is known of the law at the head's heap -/
def LawD (l : PySem.W.OpenLaw) (w : World) (K : PySem.W.Frag) (k n : Nat) (x : Str) (mg : Str → Option Value) (fa : Addr) (h : Heap) : Prop :=
  ∃ (T : TbT) (sem : FS), (∀ p ∈ T, h.get? p.2.1 = some { cls := .none, data := .fields #[] }) ∧ (∀ p ∈ T, K.lookup p.2.1 = none) ∧ (∀ p ∈ T, PySem.W.CodeHd h p.1 p.2.1) ∧
    (∀ ns : List Int, ns.length ≤ n → (∀ z ∈ ns, Builtin.Int.intBits z ≤ 1048576) → ∃ G', sem [.fro (ns.map PyData.int)] [] = .ok (.dat (.bool true)) G') ∧
    ∀ base : Heap, K.In base → base.Ns mainGlobals mg → TBs base mg T → ∃ fd : FuncData, (∀ (s : Shared) (u : Value), K.In s.heap → BindsTo s fd ⟨[u], []⟩ [(x, u)]) ∧ FnD l.prog w K mg base T k fa fd [x] sem
end DL

set_option Elab.async false
set_option linter.all false
set_option maxRecDepth 100000
set_option maxHeartbeats 1000000
namespace DL
open PySem PySem.Spec PyProof.Rows L2
open Classical

/-! ### the defs of a text, by their names -/
section
variable (P : Program) (w : World) (K : PySem.W.Frag) (mg : Str → Option Value) (base : Heap) (T : TbT)
/-- the def x of the text stands behind the top -/
def HasF (x : Str) (st : Stmt) : Prop := ∃ (a : Addr) (fd : FuncData), Fun K x x st a fd ∧ mg x = some (.ref a)
/-- .. and its code at c, its table at Pt -/
def HasC (tg : Option Str) (x : Str) (st : Stmt) : Prop := ∃ (a : Addr) (oc : Value) (od : Option Addr) (kV doc pm : Value) (an : Option Addr) (c Pt : Addr) (ct : Value) (osl : Array (Option Value)),
  K.lookup a = some ⟨oc, od, .func (PySem.W.fnOf x x (defArgs st) (defBody st) (defScope st) .none kV doc pm an (.ref c) ct), osl⟩ ∧ PySem.W.codeIn K (.ref c) x = true ∧ PySem.W.keepIn K (.ref a) = true ∧ mg x = some (.ref a) ∧ TIn T c Pt tg
/-- x, called, does what sem says -/
def Has (x : Str) (ps : List Str) (k : Nat) (sem : FS) : Prop := ∃ (a : Addr) (fd : FuncData), mg x = some (.ref a) ∧ PySem.W.keepIn K (.ref a) = true ∧ Binds K fd ps [] ∧ FnD P w K mg base T k a fd ps sem
end
abbrev BindsH (x : Str) (st : Stmt) (ps : List Str) : Prop := ∀ (kV doc pm : Value) (an : Option Addr) (cdv ct : Value) (us : List Value), us.length = ps.length → bindArgs (PySem.W.fnOf x x (defArgs st) (defBody st) (defScope st) .none kV doc pm an cdv ct) ⟨us, []⟩ = pure (ps.zip us)
section
variable {P : Program} {w : World} {K : PySem.W.Frag} {mg : Str → Option Value} {base : Heap} {T : TbT} {x : Str} {st : Stmt} {N ps : List Str} {k : Nat} {body : SS} {sem : FS} {tg : Option Str}
theorem Has.rel (h : Has P w K mg base T x ps k sem) : Has P w K mg base T x ps k (relCall sem) := by
  obtain ⟨a, fd, h1, h2, h3, h4⟩ := h
  exact ⟨a, fd, h1, h2, h3, h4.rel⟩
theorem Has.of (F : HasF K mg x st) (S : FnScope N ps (defScope st)) (hb : BindsH x st ps)
    (hbody : ∀ (a : Addr) (cdv : Value) (A : Around) (outer : List Env) (s : Shared) (H : Hp) (E : XK), Room k (A.deeper (envOfC x (defScope st) s.heap.objs.size a cdv)) → (A.deeper (envOfC x (defScope st) s.heap.objs.size a cdv)).guards = some [] →
      DSs (cxOf (L2.CX P w) P w K mg base N x (defScope st) a cdv A outer s H E) T (WE' E) (defBody st) body) : Has P w K mg base T x ps (k + 1) (fnD N.length body) := by
  obtain ⟨a, fd, hF, hm⟩ := F
  exact ⟨a, fd, hm, hF.kp, hF.binds hb, FnD.of hF S fun cdv A outer s H E r g _ => hbody a cdv A outer s H E r g⟩
/-- a def that holds generator expressions: its code at c, its table at Pt -/
theorem Has.ofC (F : HasC K mg T tg x st) (tb : TBs base mg T) (S : FnScope N ps (defScope st)) (hb : BindsH x st ps)
    (hbody : ∀ (a c Pt : Addr) (A : Around) (outer : List Env) (s : Shared) (H : Hp) (E : XK), GxR.TabB base mg c Pt → TIn T c Pt tg → Room k (A.deeper (envOfC x (defScope st) s.heap.objs.size a (.ref c))) → (A.deeper (envOfC x (defScope st) s.heap.objs.size a (.ref c))).guards = some [] →
      DSs (cxOf (L2.CX P w) P w K mg base N x (defScope st) a (.ref c) A outer s H E) T (WE' E) (defBody st) body) : Has P w K mg base T x ps (k + 1) (fnD N.length body) := by
  obtain ⟨a, oc, od, kV, doc, pm, an, c, Pt, ct, osl, l, hc, hk, hm, hT⟩ := F
  have hF : Fun K x x st a _ := fun_mk l hc hk
  refine ⟨a, _, hm, hk, hF.binds hb, ?_⟩
  refine ⟨fun A outer s H args us vs Q E ρ G ds hr hgd e0 hbt r hl rg rs hsp => ?_⟩
  have KX : K.In s.heap := e0.mod.kin.keeps fun b o e => (e0.bs b o e).1
  have lm : s.heap.NoLimit := e0.mod.nolimit.keeps fun b o e => (e0.bs b o e).1
  have hkind : ∀ y ∈ ps.zip us, (defScope st).names.lookup y.1 = some .local ∨ ((defScope st).names.lookup y.1 = some .cell ∧ ((cellsFrom (s.heap.objs.size + 1) (defScope st).names []).lookup y.1).isSome = true) := fun ⟨n, v⟩ hy => by
    rcases S.par n (List.of_mem_zip hy).1 with q | q
    · exact .inl q
    · exact .inr ⟨q, PySem.W.cellsFrom_some _ _ _ (.inl q)⟩
  refine codeAny_call_function hr.depth (KX _ _ l) rfl S.co S.gen rfl (PySem.W.codeRec_of KX hc) (hbt _ _ _ _ ?_)
  refine wpAny_newFunctionEnv_cells S.kind hkind fun env he s1 xx => ?_
  subst he
  refine ⟨lm.keeps xx.toInCall.keep, codeAny_func ?_⟩
  have ht := hbody a c Pt A outer s H E (tb _ hT.1) hT (hr.deeper _) hgd
  have I : Inv (cxOf (L2.CX P w) P w K mg base N x (defScope st) a (.ref c) A outer s H E) [] (L2.start N vs) H s1 := inv_start S hr.hd e0 hl r xx
  have hpl : vs.length ≤ N.length := by
    have := congrArg List.length S.pre
    rw [List.length_take] at this
    omega
  have hq : tS (cxOf (L2.CX P w) P w K mg base N x (defScope st) a (.ref c) A outer s H E) T (WE' E) body { nx := fun _ H' => Q .non H', rt := Q } (L2.start N vs) H := by
    refine ⟨ρ, _, G, ⟨rg, envR_start rs hpl⟩, ?_⟩
    unfold fnD at hsp
    split at hsp
    · rename_i env' G' e
      rw [e]
      exact fun σ' ρ' H' e1 sr1 => hsp .non ρ' H' e1 sr1.rg rfl
    · rename_i d G' e
      rw [e]
      exact hsp
    · rename_i c w env' G' e
      rw [e]
      exact fun σ' ρ' H' dd vw e1 sr1 => hsp ρ' H' dd vw e1 sr1.rg
    · exact hsp.elim
  refine wpAny_mono (ht.run [] s1 (L2.start N vs) H _ I hq) (fun fl s' hs => ?_) fun e s' hs => hs
  have fin : ∀ {σ' : L2.St} {H' : Hp} {v : V} {u : Value}, Inv (cxOf (L2.CX P w) P w K mg base N x (defScope st) a (.ref c) A outer s H E) [] σ' H' s' → RelV v u → Q v H' → CE outer P w H s Q u s' :=
    fun {σ' H' v u} J rv q => ⟨v, H', J.os, J.bare, J.base, J.hok, rv, q⟩
  cases fl with
  | ret u =>
    obtain ⟨v, σ', H', J, rv, q⟩ := hs
    exact fin J rv q
  | next =>
    obtain ⟨σ', H', J, q⟩ := hs
    exact fin (v := V.non) (u := Value.none) J rfl q
  | brk =>
    obtain ⟨_, _, _, q⟩ := hs
    exact False.elim q
  | cont =>
    obtain ⟨_, _, _, q⟩ := hs
    exact False.elim q
end
theorem un_of {k : Nat} {A : Around} (h : Room k A) : A.units + 100 < cLine := by
  have := h.un
  omega
section
variable {X : Cx} {T : TbT} {W : WX} {k : Nat} {ps : List Str} {sem : FS} {x : Str} {p pos : Pos} {e : Expr} {es : List Expr} {fs : AS}
theorem de_call (h : Has X.prog X.w X.K X.mg X.base T x ps k sem) (tk : Takes X W) (hr : Room k X.A) (hgd : X.A.guards = some []) (hg : Gl X x) (ha : DA X T W (e :: es) fs) (hdb : (x == ("__debug__" : Str)) = false := by decide)
    (he : starEach (e :: es) X.env = (false, eval e X.env) :: starEach es X.env := by rfl) (hpl : (backTo pos (starEach es X.env)).any (·.1) = false := by rfl) :
    DE X T W (.Call (.Name x p) (e :: es) [] pos) (eCallA ps.length sem fs) := by
  obtain ⟨a, fd, hm, hk, hb, F⟩ := h
  exact de_callA F tk hr hgd hg hm hk hb ha hdb he hpl
/-- a built-in type by its name -/
theorem de_ty {n : String} {pos : Pos} (hg : Gl X x) (hm : X.mg x = none) (hv : bootBuiltins x = some (.type n)) (hn : x ≠ "__name__" := by decide) (hd : (x == ("__debug__" : Str)) = false := by decide) : DE X T W (.Name x pos) (eC (.ty n)) :=
  de_c (pe_bltn hg hm hv (v := .ty n) rfl hn hd) fun _ _ => rfl
/-- a module's number, text -/
theorem de_gi {i : Int} {t : Tok} {pos : Pos} (hg : Gl X x) (hm : X.mg x = some (.int i t)) (hd : (x == ("__debug__" : Str)) = false := by decide) : DE X T W (.Name x pos) (eC (.dat (.int i))) := de_glob hg hm (v := .int i) ⟨t, rfl⟩ (fun _ _ => rfl) hd
theorem de_gs {y : Str} {t : Tok} {pos : Pos} (hg : Gl X x) (hm : X.mg x = some (.str y t)) (hd : (x == ("__debug__" : Str)) = false := by decide) : DE X T W (.Name x pos) (eC (.dat (.str y))) := de_glob hg hm (v := .str y) ⟨t, rfl⟩ (fun _ _ => rfl) hd
/-- a module's tuple -/
def TupK (K : PySem.W.Frag) (v : Value) (d : PyData) : Prop := ∃ a, v = .ref a ∧ ∀ H, RepP K H d (.ref a)
theorem de_gt {v : Value} {d : PyData} {pos : Pos} (hg : Gl X x) (hm : X.mg x = some v) (ht : TupK X.K v d) (hd : (x == ("__debug__" : Str)) = false := by decide) : DE X T W (.Name x pos) (eC (.dat d)) := by
  obtain ⟨a, rfl, h⟩ := ht
  exact de_glob hg hm (v := .ref a) rfl (fun H _ => h H) hd
end
/-- a tuple of the written part -/
theorem tupK_of {K : PySem.W.Frag} {a : Addr} {o : Obj} {its : Array Value} {n : Nat} {ds : List PyData} {vs : List V} (l : K.lookup a = some o) (hc : o.cls = .type "tuple") (hs : o.data = .seq its n) (hz : its.size ≤ sizeLine) (rv : Vals vs its.toList)
    (h : ∀ H, RepPs K H ds vs) : TupK K (.ref a) (.tuple ds) := ⟨a, rfl, fun H => ⟨a, vs, rfl, .inr ⟨o, its, n, l, hc, hs, hz, rv⟩, h H⟩⟩
end DL

set_option Elab.async false
set_option linter.all false
set_option maxRecDepth 100000
set_option maxHeartbeats 1000000
namespace DL
open PySem PySem.Spec PyProof.Rows L2
open Classical

theorem bt_len : bootBuiltins "len" = some (.builtin "len") := by decide +kernel
theorem bt_isinstance : bootBuiltins "isinstance" = some (.builtin "isinstance") := by decide +kernel
theorem bt_repr : bootBuiltins "repr" = some (.builtin "repr") := by decide +kernel
theorem bt_max : bootBuiltins "max" = some (.builtin "max") := by decide +kernel
theorem bt_min : bootBuiltins "min" = some (.builtin "min") := by decide +kernel
theorem bt_sum : bootBuiltins "sum" = some (.builtin "sum") := by decide +kernel
theorem bt_int : bootBuiltins "int" = some (.type "int") := by decide +kernel
theorem bt_bool : bootBuiltins "bool" = some (.type "bool") := by decide +kernel
theorem bt_str : bootBuiltins "str" = some (.type "str") := by decide +kernel
theorem bt_list : bootBuiltins "list" = some (.type "list") := by decide +kernel
theorem bt_tuple : bootBuiltins "tuple" = some (.type "tuple") := by decide +kernel
theorem bt_ValueError : bootBuiltins "ValueError" = some (.type "ValueError") := by decide +kernel

/-- a module's number, text, tuple -/
def GI (mg : Str → Option Value) (x : Str) (i : Int) : Prop := ∃ t, mg x = some (.int i t)
def GSt (mg : Str → Option Value) (x : Str) (y : Str) : Prop := ∃ t, mg x = some (.str y t)
def GT (K : PySem.W.Frag) (mg : Str → Option Value) (x : Str) (d : PyData) : Prop := ∃ v, mg x = some v ∧ TupK K v d
/-- a class by its name -/
def GC (P : Program) (w : World) (K : PySem.W.Frag) (mg : Str → Option Value) (base : Heap) (x : Str) (C : Addr) : Prop := mg x = some (.ref C) ∧ ∃ fI fd, Mk P w K mg base C fI fd
section
variable {X : Cx} {T : TbT} {W : WX} {x : Str} {p pos pos' : Pos} {e : Expr} {fe : ES} {C : Addr}
theorem de_kI {i : Int} (hm : GI X.mg x i) (hg : Gl X x) (hd : (x == ("__debug__" : Str)) = false := by decide) : DE X T W (.Name x pos) (eC (.dat (.int i))) := by
  obtain ⟨t, h⟩ := hm
  exact de_gi hg h hd
theorem de_kS {y : Str} (hm : GSt X.mg x y) (hg : Gl X x) (hd : (x == ("__debug__" : Str)) = false := by decide) : DE X T W (.Name x pos) (eC (.dat (.str y))) := by
  obtain ⟨t, h⟩ := hm
  exact de_gs hg h hd
theorem de_kT {d : PyData} (hm : GT X.K X.mg x d) (hg : Gl X x) (hd : (x == ("__debug__" : Str)) = false := by decide) : DE X T W (.Name x pos) (eC (.dat d)) := by
  obtain ⟨v, h1, h2⟩ := hm
  exact de_gt hg h1 h2 hd
theorem ds_raise' (h : GC X.prog X.w X.K X.mg X.base x C) (hc : X.calm = true) (tk : Takes X W) (hr : Room 2 X.A) (hg : Gl X x) (he : DE X T W e fe)
    (hdb : (x == ("__debug__" : Str)) = false := by decide) (hs : starEach (e :: []) X.env = (false, eval e X.env) :: starEach [] X.env := by rfl) (hpl : (backTo pos (starEach [] X.env)).any (·.1) = false := by rfl) :
    DS X T W (.Raise (some (.Call (.Name x p) [e] [] pos)) none pos') (sRaise C fe) := by
  obtain ⟨hm, fI, fd, M⟩ := h
  exact ds_raise M hc tk hr hg hm he hdb hs hpl
end
/-- which of the known errors a clause catches; which are of a class -/
abbrev pick1 (l : List (Addr × Bool)) (c : Addr) : Option Bool := l.lookup c
theorem mem_of_lookup1 {c : Addr} {b : Bool} : ∀ {l : List (Addr × Bool)}, l.lookup c = some b → (c, b) ∈ l
  | [], h => by simp at h
  | (a, v) :: l, h => by
    by_cases e : c = a
    · subst e
      simp [List.lookup] at h
      subst h
      exact List.mem_cons_self
    · have e' : (c == a) = false := by simpa using e
      simp only [List.lookup, e'] at h
      exact List.mem_cons_of_mem _ (mem_of_lookup1 h)
theorem catch_of {K : PySem.W.Frag} {C : Value} {l : List (Addr × Bool)} (h : ∀ p ∈ l, PySem.W.exmOne K (.ref p.1) C = some p.2) : ∀ c b, pick1 l c = some b → PySem.W.exmOne K (.ref c) C = some b := fun c b e => h _ (mem_of_lookup1 e)
theorem kind_of {K : PySem.W.Frag} {C : Value} {l : List (Addr × Bool)} (h0 : ∀ p ∈ l, ExcC K p.1) (h : ∀ p ∈ l, PySem.W.kitOne K (.ref p.1) C = some p.2) : ∀ c b, pick1 l c = some b → ExcC K c ∧ PySem.W.kitOne K (.ref c) C = some b := fun c b e => ⟨h0 _ (mem_of_lookup1 e), h _ (mem_of_lookup1 e)⟩
theorem what_of {K : PySem.W.Frag} {l : List Addr} (h : ∀ c ∈ l, XfC K c ∧ PySem.W.findIn K (.ref c) "what" = some none) : ∀ c, decide (c ∈ l) = true → XfC K c ∧ PySem.W.findIn K (.ref c) "what" = some none := fun c e => h c (of_decide_eq_true e)
end DL

set_option Elab.async false
set_option linter.all false
set_option maxRecDepth 100000
set_option maxHeartbeats 1000000
namespace DL
open PySem PySem.Spec PyProof.Rows L2
open Classical

/-! ### the head: what the top has written, by one look -/
def dvOf : PyData → He.Dv
  | .bool b => .bl b
  | .int i => .int i
  | .str x => .str x
  | _ => .non
def flatD : PyData → Bool
  | .none => true
  | .bool _ => true
  | .int _ => true
  | .str _ => true
  | _ => false
theorem repPs_flat {K : PySem.W.Frag} {H : Hp} : ∀ {ds : List PyData}, ds.all flatD = true → RepPs K H ds ((ds.map dvOf).map (He.Dv.v K))
  | [], _ => rfl
  | d :: ds, h => by
    simp only [List.all_cons, Bool.and_eq_true] at h
    refine ⟨_, _, rfl, ?_, repPs_flat h.2⟩
    cases d with
    | none => rfl
    | bool b => rfl
    | int i => rfl
    | str x => rfl
    | tuple _ => exact absurd h.1 Bool.false_ne_true
    | list _ => exact absurd h.1 Bool.false_ne_true
    | dict _ => exact absurd h.1 Bool.false_ne_true
def kTupB (K : PySem.W.Frag) (x : Str) (ds : List PyData) : Bool := He.eqO (PySem.W.nsIn K mainGlobals x) (some (some (.ref (He.ga K x)))) && (ds.all flatD && He.tupB K x (ds.map dvOf))
section
variable {P : Program} {w : World} {K : PySem.W.Frag} {mg : Str → Option Value} {h base : Heap}
theorem kTupB_ok (X : K.In h) (G : h.Ns mainGlobals mg) {x : Str} {ds : List PyData} (c : kTupB K x ds = true) : GT K mg x (.tuple ds) := by
  obtain ⟨c1, c⟩ := He.ba c
  obtain ⟨c2, c3⟩ := He.ba c
  exact ⟨_, PySem.W.mg_of X G (He.eqO_ok c1), _, rfl, fun H => ⟨_, _, rfl, He.tupB_ok c3 H, repPs_flat c2⟩⟩
/-- an error's class -/
def oexB (K : PySem.W.Frag) (C : Addr) : Bool := match K.lookup C with
  | some ⟨.type c, _, .cls cd, sl⟩ => decide (c = "type") && (cd.hasDict && (!cd.hasDel && ((match cd.mro with
    | .ref C' :: bm => decide (C' = C) && PySem.HandSPX.refsVE bm
    | _ => false) && (match sl.toList with
    | [_, _, _, _, some (.builtin n), _] => decide (n = "ValueError.__new__")
    | _ => false))))
  | _ => false
theorem oexB_ok {C : Addr} (c : oexB K C = true) : ∃ nm q N bs bm sn sub ab col dd k0 k1 k2 k3 k5, K.lookup C = some (excClassObj nm q C N bs bm true sn sub ab col dd k0 k1 k2 k3 k5 "ValueError.__new__") ∧ PySem.HandSPX.refsVE bm = true := by
  unfold oexB at c
  split at c
  · rename_i cn dd cd sl hk
    obtain ⟨nm, bs, mro, ns, qn, hd, sn, sb, ab, col, del⟩ := cd
    obtain ⟨c1, c⟩ := He.ba c
    obtain ⟨c2, c⟩ := He.ba c
    obtain ⟨c3, c⟩ := He.ba c
    obtain ⟨c4, c5⟩ := He.ba c
    dsimp only at c2 c3 c4
    obtain rfl : cn = "type" := of_decide_eq_true c1
    subst c2
    obtain rfl : del = false := by simpa using c3
    cases mro with
    | nil => cases c4
    | cons m bm =>
      cases m with
      | ref C' =>
        obtain ⟨c6, c7⟩ := He.ba c4
        have e6 : C' = C := of_decide_eq_true c6
        rw [e6] at hk
        split at c5
        · rename_i k0 k1 k2 k3 n k5 hs
          obtain rfl : n = "ValueError.__new__" := of_decide_eq_true c5
          obtain rfl : sl = #[k0, k1, k2, k3, some (.builtin "ValueError.__new__"), k5] := by rw [← hs]
          exact ⟨_, _, _, _, _, _, _, _, _, _, _, _, _, _, _, hk, c7⟩
        · cases c5
      | _ => cases c4
  · cases c
def initAt (x : Str) : Str × Option Str := (x, some "__init__")
/-- the error's class x tells its name -/
def cnB (K : PySem.W.Frag) (C : Addr) : Bool := match PySem.W.findCls K (.ref C) (.type "type") "__name__" with
  | some (.get (.builtin g) (.builtin a) (.ref C') (.type t)) => decide (g = "getset_descriptor.__get__") && (decide (a = "type.__name__") && (decide (C' = C) && decide (t = "type")))
  | _ => false
theorem cnB_ok {K : PySem.W.Frag} {C : Addr} (c : cnB K C = true) : PySem.W.findCls K (.ref C) (.type "type") "__name__" = some (.get (.builtin "getset_descriptor.__get__") (.builtin "type.__name__") (.ref C) (.type "type")) := by
  unfold cnB at c
  split at c
  · rename_i g a C' t e
    obtain ⟨c1, c⟩ := He.ba c
    obtain ⟨c2, c⟩ := He.ba c
    obtain ⟨c3, c4⟩ := He.ba c
    rw [e, of_decide_eq_true c1, of_decide_eq_true c2, of_decide_eq_true c3, of_decide_eq_true c4]
  · cases c
def clnB (K : PySem.W.Frag) (x : Str) : Bool := He.eqO (PySem.W.findIn K (.ref (He.ga K x)) "__getattribute__") (some (some (.builtin "BaseException.__getattribute__"))) && (He.eqO (PySem.W.findIn K (.ref (He.ga K x)) "__getattr__") (some none) &&
  (decide (PySem.W.subIn K (.ref (He.ga K x)) (.type "BaseException") = some true) && (PySem.W.hasDictIn K (He.ga K x) && (He.eqO (PySem.W.findIn K (.ref (He.ga K x)) "__class__") (some (some (.builtin "object.__class__"))) &&
  (He.eqO (PySem.W.specialIn K (.builtin "object.__class__") "__get__") (some (some (.builtin "getset_descriptor.__get__"))) && (decide (PySem.W.takesIn K (.builtin "object.__class__") = some true) && (decide (PySem.W.mroIn K (He.ga K x) (.type "object") = some true) &&
  (PySem.W.readsIn K (He.ga K x) (.type "type") && (decide (PySem.W.typeIn K (.ref (He.ga K x)) = some (.type "type")) && (decide (clsNm K (He.ga K x) = some x) && (cnB K (He.ga K x) && He.eqO (PySem.W.findIn K (.ref (He.ga K x)) "name") (some none))))))))))))
theorem clnB_ok {K : PySem.W.Frag} {x : Str} (c : clnB K x = true) : NmC K (He.ga K x) x ∧ PySem.W.findIn K (.ref (He.ga K x)) "name" = some none := by
  obtain ⟨c1, c⟩ := He.ba c
  obtain ⟨c2, c⟩ := He.ba c
  obtain ⟨c3, c⟩ := He.ba c
  obtain ⟨c4, c⟩ := He.ba c
  obtain ⟨c5, c⟩ := He.ba c
  obtain ⟨c6, c⟩ := He.ba c
  obtain ⟨c7, c⟩ := He.ba c
  obtain ⟨c8, c⟩ := He.ba c
  obtain ⟨c9, c⟩ := He.ba c
  obtain ⟨c10, c⟩ := He.ba c
  obtain ⟨c11, c⟩ := He.ba c
  obtain ⟨c12, c13⟩ := He.ba c
  exact ⟨⟨He.eqO_ok c1, He.eqO_ok c2, of_decide_eq_true c3, c4, He.eqO_ok c5, He.eqO_ok c6, of_decide_eq_true c7, of_decide_eq_true c8, c9, of_decide_eq_true c10, of_decide_eq_true c11, cnB_ok c12⟩, He.eqO_ok c13⟩
/-- the error's class x, made by the __init__ of r -/
def errB (K : PySem.W.Frag) (r x : Str) : Bool := He.eqO (PySem.W.nsIn K mainGlobals x) (some (some (.ref (He.ga K x)))) && (oexB K (He.ga K x) && (He.eqO (PySem.W.findIn K (.ref (He.ga K x)) "__setattr__") (some (some (.builtin "object.__setattr__"))) &&
  (decide (PySem.W.subIn K (.ref (He.ga K x)) (.type "BaseException") = some true) && (decide (PySem.W.typeIn K (.ref (He.ga K x)) = some (.type "type")) && (PySem.W.keepIn K (.ref (He.ga K x)) &&
  (He.eqO (PySem.W.findIn K (.ref (He.ga K x)) "__init__") (some (some (.ref (He.fAd K (initAt r))))) && (decide (PySem.W.typeIn K (.ref (He.fAd K (initAt r))) = some (.type "function")) && He.eqO (PySem.W.findIn K (.ref (He.ga K x)) "what") (some none))))))))
/-- what asks an error's kind and its fields -/
def excB (K : PySem.W.Frag) (x : Str) : Bool := He.eqO (PySem.W.findIn K (.ref (He.ga K x)) "__getattribute__") (some (some (.builtin "BaseException.__getattribute__"))) && (He.eqO (PySem.W.findIn K (.ref (He.ga K x)) "__getattr__") (some none) &&
  (decide (PySem.W.subIn K (.ref (He.ga K x)) (.type "BaseException") = some true) && (PySem.W.hasDictIn K (He.ga K x) && (He.eqO (PySem.W.findIn K (.ref (He.ga K x)) "__class__") (some (some (.builtin "object.__class__"))) &&
  (He.eqO (PySem.W.specialIn K (.builtin "object.__class__") "__get__") (some (some (.builtin "getset_descriptor.__get__"))) && (decide (PySem.W.takesIn K (.builtin "object.__class__") = some true) && (decide (PySem.W.mroIn K (He.ga K x) (.type "object") = some true) && He.eqO (PySem.W.findIn K (.ref (He.ga K x)) "what") (some none))))))))
theorem excB_ok {x : Str} (c : excB K x = true) : ExcC K (He.ga K x) ∧ XfC K (He.ga K x) ∧ PySem.W.findIn K (.ref (He.ga K x)) "what" = some none := by
  obtain ⟨c1, c⟩ := He.ba c
  obtain ⟨c2, c⟩ := He.ba c
  obtain ⟨c3, c⟩ := He.ba c
  obtain ⟨c4, c⟩ := He.ba c
  obtain ⟨c5, c⟩ := He.ba c
  obtain ⟨c6, c⟩ := He.ba c
  obtain ⟨c7, c⟩ := He.ba c
  obtain ⟨c8, c9⟩ := He.ba c
  exact ⟨⟨He.eqO_ok c1, He.eqO_ok c2, of_decide_eq_true c3, c4, He.eqO_ok c5, He.eqO_ok c6, of_decide_eq_true c7, of_decide_eq_true c8⟩, ⟨He.eqO_ok c1, He.eqO_ok c2, of_decide_eq_true c3, c4⟩, He.eqO_ok c9⟩
theorem fun_of {x qual : Str} {st : Stmt} {f : Addr} {fd : FuncData} (F : FunD K x qual (defArgs st) (defBody st) (defScope st) [] [] f fd) : Fun K x qual st f fd := by
  obtain ⟨oc, od, dV, kV, doc, pm, an, cdv, ct, osl, rfl, lk, hcd, hD, _⟩ := F.ex
  rcases hD with ⟨_, rfl⟩ | ⟨z, _⟩
  · exact ⟨⟨oc, od, kV, doc, pm, an, cdv, ct, osl, rfl, lk, hcd⟩, F.kp⟩
  · exact absurd rfl z
def veB (K : PySem.W.Frag) : Bool := match PySem.W.findCls K (.type "ValueError") (.type "type") "__init__" with
  | some (.val (.builtin n)) => decide (n = "ValueError.__init__")
  | _ => false
theorem veB_ok (c : veB K = true) : PySem.W.findCls K (.type "ValueError") (.type "type") "__init__" = some (.val (.builtin "ValueError.__init__")) := by
  unfold veB at c
  split at c
  · rename_i n e
    rw [e, of_decide_eq_true c]
  · cases c
/-- a def's datum -/
def dfd (x : Str) (st : Stmt) : He.DefD := ⟨(x, none), x, x, defArgs st, defBody st, defScope st, [], []⟩
def dfi (r q : Str) (st : Stmt) : He.DefD := ⟨initAt r, "__init__", q, defArgs st, defBody st, defScope st, [], []⟩
/-- the tables of a text, and how the code in them is called where that is told -/
abbrev TgD : Type := He.Defn × Option Str
def tgT (K : PySem.W.Frag) (y : TgD) : Addr × Addr × Option Str := ((He.cT K y.1).1, (He.cT K y.1).2, y.2)
theorem inj_nodup {α : Type} {f : α → Nat} : ∀ {l : List α}, (l.map f).Nodup → ∀ {y z : α}, y ∈ l → z ∈ l → f y = f z → y = z
  | [], _, _, _, hy, _, _ => by cases hy
  | b :: l, h, y, z, hy, hz, e => by
    rw [List.map_cons, List.nodup_cons] at h
    rcases List.mem_cons.mp hy with e1 | h1 <;> rcases List.mem_cons.mp hz with e2 | h2
    · rw [e1, e2]
    · exact absurd (List.mem_map.mpr ⟨z, h2, by rw [← e, e1]⟩) h.1
    · exact absurd (List.mem_map.mpr ⟨y, h1, by rw [e, e2]⟩) h.1
    · exact inj_nodup h.2 h1 h2 e
/-- no two tables are one -/
def uniB (K : PySem.W.Frag) (tl : List TgD) : Bool := decide ((tl.map fun y => ((He.cT K y.1).2 : Nat)).Nodup)
theorem uni_ok {K : PySem.W.Frag} {tl : List TgD} (h : uniB K tl = true) {y : TgD} (hy : y ∈ tl) : ∀ p ∈ tl.map (tgT K), p.2.1 = (He.cT K y.1).2 → p.2.2 = y.2 := fun p hp e => by
  obtain ⟨z, hz, rfl⟩ := List.mem_map.mp hp
  have h2 : (tl.map fun y : TgD => ((He.cT K y.1).2 : Nat)).Nodup := of_decide_eq_true h
  have e2 : z = y := inj_nodup (f := fun y : TgD => (He.cT K y.1).2) h2 hz hy e
  rw [e2]; rfl
theorem uni_no {K : PySem.W.Frag} {tl : List TgD} (h : tl.all (fun y => decide (y.2 = none)) = true) {y : TgD} (hy : y ∈ tl) : ∀ p ∈ tl.map (tgT K), p.2.1 = (He.cT K y.1).2 → p.2.2 = y.2 := fun p hp _ => by
  obtain ⟨z, hz, rfl⟩ := List.mem_map.mp hp
  have h1 := of_decide_eq_true (List.all_eq_true.mp h z hz)
  have h2 := of_decide_eq_true (List.all_eq_true.mp h y hy)
  rw [h2]; exact h1
section
variable {fa : List He.Fa} {tl : List TgD} {tg : Option Str} {fn : List He.DefD} {ts : List He.Tab} {tf : List He.Defn} {ex : PySem.W.Frag → Bool} {h0 : Heap}
theorem hasF_of (c : He.SaysX fa fn ts tf ex w h0 K) (X : K.In h) (G : h.Ns mainGlobals mg) {x : Str} {st : Stmt} (hd : dfd x st ∈ fn) (hg : He.Fa.glo x ∈ fa) : HasF K mg x st := by
  obtain ⟨fd, F⟩ := c.t.d.defs hd
  exact ⟨_, fd, fun_of F, He.glo_ok X G (c.t.d.facts hg)⟩
theorem hasC_of (c : He.SaysX fa fn ts (tl.map (·.1)) ex w h0 K) (X : K.In h) (G : h.Ns mainGlobals mg) {x : Str} {st : Stmt} (hd : dfd x st ∈ fn) (hg : He.Fa.glo x ∈ fa) (ht : (((x, none), tg) : TgD) ∈ tl) (hu : ∀ p ∈ tl.map (tgT K), p.2.1 = (He.cT K (x, none)).2 → p.2.2 = tg) : HasC K mg (tl.map (tgT K)) tg x st := by
  obtain ⟨fd, F⟩ := c.t.d.defs hd
  obtain ⟨oc, od, dV, kV, doc, pm, an, cdv, ct, osl, rfl, lk, hcd, hD, _⟩ := F.ex
  rcases hD with ⟨_, rfl⟩ | ⟨z, _⟩
  · obtain ⟨cc, rfl⟩ := He.codeIn_ref hcd
    have e : He.codeOf K (x, none) = cc := He.codeOf_eq lk rfl
    have hm : tgT K ((x, none), tg) ∈ tl.map (tgT K) := List.mem_map_of_mem ht
    unfold tgT at hm
    unfold He.cT at hm hu
    rw [e] at hm hu
    exact ⟨_, oc, od, kV, doc, pm, an, cc, _, ct, osl, lk, hcd, F.kp, He.glo_ok X G (c.t.d.facts hg), hm, hu⟩
  · exact absurd rfl z
theorem gc_of (c : He.SaysX fa fn ts tf ex w h0 K) (X : K.In h) (G : h.Ns mainGlobals mg) {r x q : Str} {st : Stmt} (hd : dfi r q st ∈ fn) (e : errB K r x = true) (en : clnB K x = true) (S : FnScope ["self", "what"] ["self", "what"] (defScope st))
    (bd : ∀ (kV doc pm : Value) (an : Option Addr) (cdv ct : Value) (us : List Value), us.length = 2 → bindArgs (PySem.W.fnOf "__init__" q (defArgs st) (defBody st) (defScope st) .none kV doc pm an cdv ct) ⟨us, []⟩ = pure ((["self", "what"] : List Str).zip us))
    (hb : ∀ (f : Addr) (cdv : Value) (A : Around) (outer : List Env) (s : Shared) (H : Hp) (E : XK), PSs (cxOf (L2.CX P w) P w K mg base ["self", "what"] q (defScope st) f cdv A outer s H E) (defBody st) (tXI K)) : GC P w K mg base x (He.ga K x) := by
  obtain ⟨fd, F⟩ := c.t.d.defs hd
  obtain ⟨c1, e⟩ := He.ba e
  obtain ⟨c2, e⟩ := He.ba e
  obtain ⟨c3, e⟩ := He.ba e
  obtain ⟨c4, e⟩ := He.ba e
  obtain ⟨c5, e⟩ := He.ba e
  obtain ⟨c6, e⟩ := He.ba e
  obtain ⟨c7, e⟩ := He.ba e
  obtain ⟨c8, c9⟩ := He.ba e
  have o : OexC K (He.ga K x) := ⟨oexB_ok c2, He.eqO_ok c3, of_decide_eq_true c4, of_decide_eq_true c5, c6⟩
  have F2 : Fun K "__init__" q st (He.fAd K (initAt r)) fd := fun_of F
  exact ⟨PySem.W.mg_of X G (He.eqO_ok c1), _, fd, ⟨o, He.eqO_ok c7, of_decide_eq_true c8, ⟨x, (clnB_ok en).1.nm, init_ok F2 S o (He.eqO_ok c9) (clnB_ok en).2 (clnB_ok en).1 (hb _)⟩, F2.binds bd⟩⟩
theorem lawD_of (c : He.SaysX fa fn ts (tl.map (·.1)) ex w h K) (X : K.In h) (G : h.Ns mainGlobals mg) {l : PySem.W.OpenLaw} {k n : Nat} {x : Str} {fa' : Addr} {sem : FS} (hm : mg "law" = some (.ref fa'))
    (hsem : ∀ ns : List Int, ns.length ≤ n → (∀ z ∈ ns, Builtin.Int.intBits z ≤ 1048576) → ∃ G', sem [.fro (ns.map PyData.int)] [] = .ok (.dat (.bool true)) G')
    (hlaw : ∀ base : Heap, K.In base → base.Ns mainGlobals mg → TBs base mg (tl.map (tgT K)) → Has l.prog w K mg base (tl.map (tgT K)) "law" [x] k sem) : LawD l w K k n x mg fa' h := by
  refine ⟨tl.map (tgT K), sem, fun p hp => ?_, fun p hp => ?_, fun p hp => ?_, hsem, fun base B N tb => ?_⟩
  · obtain ⟨y, hy, rfl⟩ := List.mem_map.mp hp
    exact c.empty y.1 (List.mem_map_of_mem hy)
  · obtain ⟨y, hy, rfl⟩ := List.mem_map.mp hp
    exact c.out y.1 (List.mem_map_of_mem hy)
  · obtain ⟨y, hy, rfl⟩ := List.mem_map.mp hp
    exact PySem.W.codeHd_of_K X (c.hd y.1 (List.mem_map_of_mem hy))
  · obtain ⟨a, fd2, h1, h2, h3, h4⟩ := hlaw base B N tb
    have e : a = fa' := by
      have := h1.symm.trans hm
      cases this; rfl
    subst e
    exact ⟨fd2, fun s u hk => h3 s [u] hk rfl, h4⟩
end
end
/-- a method's def -/
def clsBody (s : Stmt) (j : Nat) : Stmt := match s with
  | .ClassDef _ _ _ body _ _ _ _ _ _ _ => body.getD j (.Pass ⟨0, 0, 0, 0⟩)
  | s => s
theorem all_at {l : List Bool} (h : l.all id = true) (i : Nat) {b : Bool} (e : l[i]? = some b) : b = true := List.all_eq_true.mp h b (List.mem_of_getElem? e)
theorem walk_K {l : PySem.W.OpenLaw} {n k : Nat} {q : Program} {loose : List Str} {XP : (Str → Option Value) → Heap → Prop} {YP : World → Heap → Prop} {d : DefRec} {x : Str}
    (hn : l.most = some n) (hn2 : n ≤ sizeLine) (hdf : d.params.defaults = []) (hr : Room k callerA)
    (F : ∀ (w : World) (mg : Str → Option Value) (fa : Addr) (h : Heap), YP w h → h.Ns mainGlobals mg → mg d.name = some (.ref fa) → ∃ K : PySem.W.Frag, K.In h ∧ LawD l w K k n x mg fa h) :
    PySem.W.WalkO q loose XP YP l.row.toRowW d [] (fun f vs => PySem.call f vs) :=
  Att.attach_callB hn hdf fun w _ s1 mg mb fa _ _ _ _ a us ns G Y _ _ _ hmg hobj inz hlen bits nog => by
    obtain ⟨K, kin, T, sem, h1, h2, h3, h5, h6⟩ := F w mg fa _ Y G.T.g hmg
    exact law_callD kin G.T.g G.T.b G.T.builtins G.T.nolimit nog h1 h2 h3 G.T.bmain hobj inz (Nat.le_trans hlen hn2) hr h6 (h5 ns hlen bits)
end DL

set_option Elab.async false
set_option linter.all false
set_option maxRecDepth 100000
set_option maxHeartbeats 1000000
namespace DL
open PySem PySem.Spec PyProof.Rows L2
open Classical
/-! ### the functions over data, step by step -/
/-- a proof that simp does not take for a reduction -/
theorem prf {α : Type} {a b : α} (h : a = b) : a = b := h
@[simp] theorem e_eVar (i : Nat) env G : eVar i env G = match env[i]? with
  | some (.d x) => .ok x G
  | _ => .bad := prf rfl
@[simp] theorem e_eC (d : D) z0 G : eC d z0 G = .ok d G
 := prf rfl
@[simp] theorem e_eThen (f : ES) (k : D → Env' → Hh → RE) env G : eThen f k env G = match f env G with
  | .ok d G1 => k d env G1
  | .ex c w G1 => .ex c w G1
  | .bad => .bad := prf rfl
@[simp] theorem e_eUn (g : D → Hh → Option (D × Hh)) (f : ES) env G : eUn g f env G = (eThen f fun d _ G => RE.of (g d G)
) env G
 := prf rfl
@[simp] theorem e_eBin (g : D → D → Hh → Option (D × Hh)) (f h : ES) env G : eBin g f h env G = (eThen f fun x => eThen h fun y _ G => RE.of (g x y G)
) env G
 := prf rfl
@[simp] theorem e_aNil  z0 G : aNil  z0 G = .ok [] G
 := prf rfl
@[simp] theorem e_aCons (f : ES) (g : AS) env G : aCons f g env G = match f env G with
  | .ok d G1 => (match g env G1 with
    | .ok ds G2 => .ok (d :: ds) G2
    | .ex c w G2 => .ex c w G2
    | .bad => .bad)
  | .ex c w G1 => .ex c w G1
  | .bad => .bad := prf rfl
@[simp] theorem e_eArgs (g : List D → Hh → Option (D × Hh)) (f : AS) env G : eArgs g f env G = match f env G with
  | .ok ds G1 => RE.of (g ds G1)
  | .ex c w G1 => .ex c w G1
  | .bad => .bad := prf rfl
@[simp] theorem e_tTest' (g : D → Hh → Option Bool) (f : ES) env G : tTest' g f env G = match f env G with
  | .ok d G1 => (match g d G1 with
    | some b => .ok b G1
    | none => .bad)
  | .ex c w G1 => .ex c w G1
  | .bad => .bad := prf rfl
@[simp] theorem e_sAnd (f g : TSm) env G : sAnd f g env G = match f env G with
  | .ok b G1 => if b then g env G1 else .ok false G1
  | r => r := prf rfl
@[simp] theorem e_sOr (f g : TSm) env G : sOr f g env G = match f env G with
  | .ok b G1 => if b then .ok true G1 else g env G1
  | r => r := prf rfl
@[simp] theorem e_sNot (f : TSm) env G : sNot f env G = match f env G with
  | .ok b G1 => .ok (!b) G1
  | r => r := prf rfl
@[simp] theorem e_eIf (c : TSm) (f g : ES) env G : eIf c f g env G = match c env G with
  | .ok b G1 => if b then f env G1 else g env G1
  | .ex c w G1 => .ex c w G1
  | .bad => .bad := prf rfl
@[simp] theorem e_eAnd (tr : D → Hh → Option Bool) (f g : ES) env G : eAnd tr f g env G = (eThen f fun x env G => match tr x G with
  | some true => g env G
  | some false => .ok x G
  | none => .bad) env G
 := prf rfl
@[simp] theorem e_eOr (tr : D → Hh → Option Bool) (f g : ES) env G : eOr tr f g env G = (eThen f fun x env G => match tr x G with
  | some true => .ok x G
  | some false => g env G
  | none => .bad) env G
 := prf rfl
@[simp] theorem e_eChain (g g' : D → D → Hh → Option (D × Hh)) (fa fb fc : ES) env G : eChain g g' fa fb fc env G = (eThen fa fun x => eThen fb fun y env G => match g x y G with
  | some (.dat (.bool true), G2) => eThen fc (fun z _ G3 => RE.of (g' y z G3)) env G2
  | some (.dat (.bool false), G2) => .ok (.dat (.bool false)) G2
  | _ => .bad) env G
 := prf rfl
@[simp] theorem e_oNone  z0 G : oNone  z0 G = .ok none G
 := prf rfl
@[simp] theorem e_oSome (f : ES) env G : oSome f env G = match f env G with
  | .ok (.dat (.int i)) G1 => .ok (some i) G1
  | .ok _ _ => .bad
  | .ex c w G1 => .ex c w G1
  | .bad => .bad := prf rfl
@[simp] theorem e_eSl (f : ES) (o o' : OS) env G : eSl f o o' env G = (eThen f fun x env G => match o env G with
  | .ok lo G1 => (match o' env G1 with
    | .ok hi G2 => RE.of (gSl x lo hi G2)
    | .ex c w G2 => .ex c w G2
    | .bad => .bad)
  | .ex c w G1 => .ex c w G1
  | .bad => .bad) env G
 := prf rfl
@[simp] theorem e_eMet (ok : D → Hh → Bool) (g : D → List D → Hh → Option (D × Hh)) (f : ES) (fs : AS) env G : eMet ok g f fs env G = (eThen f fun x env G => if ok x G then (match fs env G with
    | .ok ds G1 => RE.of (g x ds G1)
    | .ex c w G1 => .ex c w G1
    | .bad => .bad) else .bad) env G
 := prf rfl
@[simp] theorem e_eMet0 (ok : D → Hh → Bool) (g : D → List D → Hh → Option (D × Hh)) (f : ES) env G : eMet0 ok g f env G = (eThen f fun x env G => if ok x G then RE.of (g x [] G) else .bad
) env G
 := prf rfl
@[simp] theorem e_sNil  env G : sNil  env G = .nx env G
 := prf rfl
@[simp] theorem e_sSeq (f g : SS) env G : sSeq f g env G = match f env G with
  | .nx e G1 => g e G1
  | r => r := prf rfl
@[simp] theorem e_sAsg (f : ES) (a : GS) env G : sAsg f a env G = match f env G with
  | .ok d G1 => (match a d env G1 with
    | some (env', G') => .nx env' G'
    | none => .bad)
  | .ex c w G1 => .ex c w env G1
  | .bad => .bad := prf rfl
@[simp] theorem e_aName (i : Nat) d env G : aName i d env G = some (env.set i (.d d), G)
 := prf rfl
@[simp] theorem e_sDrop (f : ES) env G : sDrop f env G = match f env G with
  | .ok _ G1 => .nx env G1
  | .ex c w G1 => .ex c w env G1
  | .bad => .bad := prf rfl
@[simp] theorem e_sRet (f : ES) env G : sRet f env G = match f env G with
  | .ok d G1 => .rt d G1
  | .ex c w G1 => .ex c w env G1
  | .bad => .bad := prf rfl
@[simp] theorem e_sRetN  z0 G : sRetN  z0 G = .rt (.dat .none) G
 := prf rfl
@[simp] theorem e_sBreak  env G : sBreak  env G = .bk env G
 := prf rfl
@[simp] theorem e_sCont  env G : sCont  env G = .ct env G
 := prf rfl
@[simp] theorem e_sIf (t : TSm) (f g : SS) env G : sIf t f g env G = match t env G with
  | .ok b G1 => if b then f env G1 else g env G1
  | .ex c w G1 => .ex c w env G1
  | .bad => .bad := prf rfl
@[simp] theorem e_sAug (i : Nat) (g : D → D → Hh → Option (D × Hh)) (f : ES) env G : sAug i g f env G = match env[i]? with
  | some (.d x) => (match f env G with
    | .ok y G1 => (match g x y G1 with
      | some (z, G2) => .nx (env.set i (.d z)) G2
      | none => .bad)
    | .ex c w G1 => .ex c w env G1
    | .bad => .bad)
  | _ => .bad := prf rfl
@[simp] theorem e_sPar (i j : Nat) (f : AS) env G : sPar i j f env G = match f env G with
  | .ok [x, y] G1 => .nx ((env.set i (.d x)).set j (.d y)) G1
  | .ok _ _ => .bad
  | .ex c w G1 => .ex c w env G1
  | .bad => .bad := prf rfl
@[simp] theorem e_sPar3 (i j l : Nat) (f : AS) env G : sPar3 i j l f env G = match f env G with
  | .ok [x, y, z] G1 => .nx (((env.set i (.d x)).set j (.d y)).set l (.d z)) G1
  | .ok _ _ => .bad
  | .ex c w G1 => .ex c w env G1
  | .bad => .bad := prf rfl
@[simp] theorem e_aTup (as : List GS) d env G : aTup as d env G = match d with
  | .dat (.tuple ds) => if ds.length = as.length then aList as (ds.map .dat) env G else none
  | .mix ds => if ds.length = as.length then aList as ds env G else none
  | _ => none := prf rfl
@[simp] theorem e_aSub (fo fi : ES) (g : D → D → D → Hh → Option Hh) v env G : aSub fo fi g v env G = match fo env G with
  | .ok o G1 => (match fi env G1 with
    | .ok i G2 => (match g o i v G2 with
      | some G3 => some (env, G3)
      | none => none)
    | _ => none)
  | _ => none := prf rfl
theorem e_sFor (src : IS) (a : GS) (f : SS) env G : sFor src a f env G = match src env G with
  | .ok xs chk G1 => forL a f chk xs env G1
  | .ex c w G1 => .ex c w env G1
  | .bad => .bad := prf rfl
@[simp] theorem e_srcSeq (f : ES) env G : srcSeq f env G = match f env G with
  | .ok (.dat (.tuple ds)) G1 => .ok (ds.map .dat) yesH G1
  | .ok (.mix ds) G1 => .ok ds yesH G1
  | .ok (.fro ds) G1 => .ok (ds.map .dat) yesH G1
  | .ok (.ref l) G1 => (match G1[l]? with
    | some (.lst xs) => .ok xs (fun g => g[l]? = some (.lst xs)) G1
    | none => .bad)
  | .ok (.dat (.str z)) G1 => .ok (z.cps.toList.map fun c => .dat (.str ⟨#[c]⟩)) yesH G1
  | .ok _ _ => .bad
  | .ex c w G1 => .ex c w G1
  | .bad => .bad := prf rfl
@[simp] theorem e_srcRange1 (f : AS) env G : srcRange1 f env G = match f env G with
  | .ok [.dat (.int n)] G1 => if okR n then .ok (rngD 0 n.toNat) yesH G1 else .bad
  | .ok _ _ => .bad
  | .ex c w G1 => .ex c w G1
  | .bad => .bad := prf rfl
@[simp] theorem e_srcRange2 (f : AS) env G : srcRange2 f env G = match f env G with
  | .ok [.dat (.int i), .dat (.int j)] G1 => if okR i ∧ okR j then .ok (rngD i (j - i).toNat) yesH G1 else .bad
  | .ok _ _ => .bad
  | .ex c w G1 => .ex c w G1
  | .bad => .bad := prf rfl
@[simp] theorem e_srcEnum (f : AS) env G : srcEnum f env G = match f env G with
  | .ok [.dat (.tuple ds)] G1 => .ok (enumF 0 (ds.map .dat)) yesH G1
  | .ok [.ref l] G1 => (match G1[l]? with
    | some (.lst xs) => .ok (enumF 0 xs) (fun g => g[l]? = some (.lst xs)) G1
    | none => .bad)
  | .ok _ _ => .bad
  | .ex c w G1 => .ex c w G1
  | .bad => .bad := prf rfl
@[simp] theorem e_srcZip (f : AS) env G : srcZip f env G = match f env G with
  | .ok [.dat (.tuple ds), .dat (.tuple es)] G1 => .ok (zipF (ds.map .dat) (es.map .dat)) yesH G1
  | .ok [.ref l, .ref m] G1 => (match G1[l]?, G1[m]? with
    | some (.lst xs), some (.lst ys) => .ok (zipF xs ys) (fun g => g[l]? = some (.lst xs) ∧ g[m]? = some (.lst ys)) G1
    | _, _ => .bad)
  | .ok _ _ => .bad
  | .ex c w G1 => .ex c w G1
  | .bad => .bad := prf rfl
@[simp] theorem e_fnD (N : Nat) (body : SS) ds G : fnD N body ds G = match body (ds.map .d ++ List.replicate (N - ds.length) .no) G with
  | .nx _ G' => .ok (.dat .none) G'
  | .rt d G' => .ok d G'
  | .ex c w _ G' => .ex c w G'
  | _ => .bad := prf rfl
@[simp] theorem e_eCallA (n : Nat) (sem : FS) (fs : AS) env G : eCallA n sem fs env G = match fs env G with
  | .ok ds G1 => if ds.length = n then sem ds G1 else .bad
  | .ex c w G1 => .ex c w G1
  | .bad => .bad := prf rfl
@[simp] theorem e_sRaise (C : Addr) (f : ES) env G : sRaise C f env G = match f env G with
  | .ok w G1 => .ex C w env G1
  | .ex c w G1 => .ex c w env G1
  | .bad => .bad := prf rfl
@[simp] theorem e_sSuite (i : Nat) (fs : SS) (c : Addr) (w : D) env G : sSuite i fs c w env G = if i < env.length then match fs ((cutX env).set i (.exc c w)) G with
  | .nx env2 G2 => .nx ((cutX env2).set i .no) G2
  | .bk env2 G2 => .bk ((cutX env2).set i .no) G2
  | .ct env2 G2 => .ct ((cutX env2).set i .no) G2
  | .rt d G2 => .rt d G2
  | _ => .bad
  else .bad := prf rfl
@[simp] theorem e_sSuite0 (fs : SS) env G : sSuite0 fs env G = match fs (cutX env) G with
  | .nx env2 G2 => .nx (cutX env2) G2
  | .bk env2 G2 => .bk (cutX env2) G2
  | .ct env2 G2 => .ct (cutX env2) G2
  | .rt d G2 => .rt d G2
  | _ => .bad := prf rfl
theorem e_sTry (fb : SS) (h : Addr → D → SS) env G : sTry fb h env G = match (fb (cutX env) G).cut with
  | .ex c w env1 G1 => h c w env1 G1
  | r => r := prf rfl
@[simp] theorem e_hOne (m : Addr → Option Bool) (suite : Addr → D → SS) c w env G : hOne m suite c w env G = match m c with
  | some true => suite c w env G
  | some false => .ex c w env G
  | none => .bad := prf rfl
@[simp] theorem e_eWhat (i : Nat) (m : Addr → Bool) env G : eWhat i m env G = match env[i]? with
  | some (.exc c w) => if m c = true then .ok w G else .bad
  | _ => .bad := prf rfl
@[simp] theorem e_eIsE (i : Nat) (m : Addr → Option Bool) env G : eIsE i m env G = match env[i]? with
  | some (.exc c _) => (match m c with
    | some b => .ok (.dat (.bool b)) G
    | none => .bad)
  | _ => .bad := prf rfl
@[simp] theorem e_tNo  z0 G : tNo  z0 G = .ok true G
 := prf rfl
theorem e_eLc (src : IS) (a : GS) (t : TSm) (f : ES) (vs : List Nat) env G : eLc src a t f vs env G = match src env G with
  | .ok xs chk G1 => lcL a t f G1.length chk (wipeE (cutX env) vs) xs (G1 ++ [.lst []])
  | .ex c w G1 => .ex c w G1
  | .bad => .bad := prf rfl
theorem e_eTupG (src : IS) (a : GS) (f : ES) (vs : List Nat) env G : eTupG src a f vs env G = match src env G with
  | .ok xs chk G1 => tgL a f chk (wipeE (cutX env) vs) xs [] G1
  | .ex c w G1 => .ex c w G1
  | .bad => .bad := prf rfl
theorem e_eAllG (src : IS) (a : GS) (f : ES) (vs : List Nat) env G : eAllG src a f vs env G = match src env G with
  | .ok xs chk G1 => agL a f chk (wipeE (cutX env) vs) 0 xs G1
  | .ex c w G1 => .ex c w G1
  | .bad => .bad := prf rfl
theorem e_eLc2 (src : IS) (a : GS) (t : TSm) (src1 : IS) (a1 : GS) (t1 : TSm) (f : ES) (vs vs1 : List Nat) env G : eLc2 src a t src1 a1 t1 f vs vs1 env G = match src env G with
  | .ok xs chk G1 => lc2L a t src1 a1 t1 f vs1 G1.length chk (wipeE (cutX env) vs) xs (G1 ++ [.lst []])
  | .ex c w G1 => .ex c w G1
  | .bad => .bad := prf rfl
theorem sFor_ok {src : IS} {a : GS} {f : SS} {env : Env'} {G G1 : Hh} {xs : List D} {chk : Hh → Prop} (h : src env G = .ok xs chk G1) : sFor src a f env G = forL a f chk xs env G1 := by
  unfold sFor
  rw [h]
theorem eLc_ok {src : IS} {a : GS} {t : TSm} {f : ES} {vs : List Nat} {env : Env'} {G G1 : Hh} {xs : List D} {chk : Hh → Prop} (h : src env G = .ok xs chk G1) : eLc src a t f vs env G = lcL a t f G1.length chk (wipeE (cutX env) vs) xs (G1 ++ [.lst []]) := by
  unfold eLc
  rw [h]
theorem eLc2_ok {src src1 : IS} {a a1 : GS} {t t1 : TSm} {f : ES} {vs vs1 : List Nat} {env : Env'} {G G1 : Hh} {xs : List D} {chk : Hh → Prop} (h : src env G = .ok xs chk G1) :
    eLc2 src a t src1 a1 t1 f vs vs1 env G = lc2L a t src1 a1 t1 f vs1 G1.length chk (wipeE (cutX env) vs) xs (G1 ++ [.lst []]) := by
  unfold eLc2
  rw [h]
theorem eTupG_ok {src : IS} {a : GS} {f : ES} {vs : List Nat} {env : Env'} {G G1 : Hh} {xs : List D} {chk : Hh → Prop} (h : src env G = .ok xs chk G1) : eTupG src a f vs env G = tgL a f chk (wipeE (cutX env) vs) xs [] G1 := by
  unfold eTupG
  rw [h]
theorem eAllG_ok {src : IS} {a : GS} {f : ES} {vs : List Nat} {env : Env'} {G G1 : Hh} {xs : List D} {chk : Hh → Prop} (h : src env G = .ok xs chk G1) : eAllG src a f vs env G = agL a f chk (wipeE (cutX env) vs) 0 xs G1 := by
  unfold eAllG
  rw [h]
end DL

set_option Elab.async false
set_option linter.all false
set_option maxRecDepth 100000
set_option maxHeartbeats 1000000
namespace DL
open PySem PySem.Spec PyProof.Rows L2
open Classical
section
variable {G : Hh} {i j : Int} {x y : Str} {a b : List PyData} {d e : PyData} {l m : Nat} {xs ys ds es : List D} {ps : List PyData} {u v : D}
@[simp] theorem of_some : RE.of (some (u, G)) = .ok u G := prf rfl
@[simp] theorem of_none : RE.of none = .bad := prf rfl
@[simp] theorem gAdd_int : gAdd (.dat (.int i)) (.dat (.int j)) G = some (.dat (.int (i + j)), G) := prf rfl
@[simp] theorem gAdd_str : gAdd (.dat (.str x)) (.dat (.str y)) G = if x.length + y.length ≤ 100000 then some (.dat (.str (x ++ y)), G) else none := prf rfl
@[simp] theorem gAdd_tup : gAdd (.dat (.tuple a)) (.dat (.tuple b)) G = if a.length + b.length ≤ 100000 then some (.dat (.tuple (a ++ b)), G) else none := prf rfl
@[simp] theorem gAdd_ref : gAdd (.ref l) (.ref m) G = match G[l]?, G[m]? with
    | some (.lst a), some (.lst b) => if a.length + b.length ≤ 100000 then some (.ref G.length, G ++ [.lst (a ++ b)]) else none
    | _, _ => none := prf rfl
@[simp] theorem gSub_int : gSub (.dat (.int i)) (.dat (.int j)) G = some (.dat (.int (i - j)), G) := prf rfl
@[simp] theorem gMul_int : gMul (.dat (.int i)) (.dat (.int j)) G = if mulOk i j then some (.dat (.int (i * j)), G) else none := prf rfl
@[simp] theorem gMul_tup : gMul (.dat (.tuple a)) (.dat (.int j)) G = if 0 ≤ j ∧ j ≤ 1000 ∧ a.length ≤ 1000 then some (.dat (.tuple (repL a j)), G) else none := prf rfl
@[simp] theorem gDiv_int : gDiv (.dat (.int i)) (.dat (.int j)) G = if 0 < j ∧ j.natAbs.log2 < 9000 then some (.dat (.int (i / j)), G) else none := prf rfl
@[simp] theorem gMod_int : gMod (.dat (.int i)) (.dat (.int j)) G = if 0 < j then some (.dat (.int (i % j)), G) else none := prf rfl
@[simp] theorem gPow_int : gPow (.dat (.int i)) (.dat (.int j)) G = if 0 ≤ j ∧ j ≤ 1000000 ∧ i.natAbs < 2 ^ 64 then some (.dat (.int (i ^ j.toNat)), G) else none := prf rfl
@[simp] theorem gNeg_int : gNeg (.dat (.int i)) G = some (.dat (.int (-i)), G) := prf rfl
@[simp] theorem gEq_dat : gEq (.dat d) (.dat e) G = if min d.depth e.depth ≤ 60 then some (.dat (.bool (PyData.eqv d e)), G) else none := prf rfl
@[simp] theorem gNe_dat : gNe (.dat d) (.dat e) G = if min d.depth e.depth ≤ 60 then some (.dat (.bool (!PyData.eqv d e)), G) else none := prf rfl
theorem gEq_view (h1 : view G u = some d) (h2 : view G v = some e) : gEq u v G = if min d.depth e.depth ≤ 60 then some (.dat (.bool (PyData.eqv d e)), G) else none := by unfold gEq; rw [h1, h2]
theorem gNe_view (h1 : view G u = some d) (h2 : view G v = some e) : gNe u v G = if min d.depth e.depth ≤ 60 then some (.dat (.bool (!PyData.eqv d e)), G) else none := by unfold gNe; rw [h1, h2]
@[simp] theorem view_dat : view G (.dat d) = some d := prf rfl
@[simp] theorem view_ref : view G (.ref l) = match G[l]? with
    | some (.lst xs) => (dats xs).map .list
    | none => none := prf rfl
@[simp] theorem view_fro : view G (.fro a) = some (.list a) := prf rfl
@[simp] theorem gLt_int : gLt (.dat (.int i)) (.dat (.int j)) G = some (.dat (.bool (decide (i < j))), G) := prf rfl
@[simp] theorem gGt_int : gGt (.dat (.int i)) (.dat (.int j)) G = some (.dat (.bool (decide (j < i))), G) := prf rfl
@[simp] theorem gLe_int : gLe (.dat (.int i)) (.dat (.int j)) G = some (.dat (.bool (decide (i ≤ j))), G) := prf rfl
@[simp] theorem gGe_int : gGe (.dat (.int i)) (.dat (.int j)) G = some (.dat (.bool (decide (j ≤ i))), G) := prf rfl
/-- one text within another -/
def inS (c s : Str) : Bool := !(Builtin.Str.occurrences s c 0 s.length 1).isEmpty
@[simp] theorem inD_str : inD (.dat (.str x)) (.dat (.str y)) G = some (inS x y) := prf rfl
@[simp] theorem inD_tup : inD (.dat d) (.dat (.tuple a)) G = if min (PyData.depthAll a) d.depth ≤ 60 then some (a.any fun y => PyData.eqv y d) else none := by cases d <;> rfl
theorem inD_view (h : view G v = some (.list a)) : inD (.dat d) v G = if min (PyData.depthAll a) d.depth ≤ 60 then some (a.any fun y => PyData.eqv y d) else none := by
  unfold inD
  rw [h]
  cases d <;> rfl
@[simp] theorem gIn_eq : gIn u v G = (inD u v G).map fun b => (.dat (.bool b), G) := prf rfl
@[simp] theorem gNotIn_eq : gNotIn u v G = (inD u v G).map fun b => (.dat (.bool (!b)), G) := prf rfl
@[simp] theorem gIs_eq : gIs u v G = (isD u v).map fun b => (.dat (.bool b), G) := prf rfl
@[simp] theorem gIsNot_eq : gIsNot u v G = (isD u v).map fun b => (.dat (.bool (!b)), G) := prf rfl
@[simp] theorem isD_none : isD (.dat .none) (.dat .none) = some true := prf rfl
@[simp] theorem isD_bool {p : Bool} : isD (.dat (.bool p)) (.dat .none) = some false := prf rfl
@[simp] theorem isD_int : isD (.dat (.int i)) (.dat .none) = some false := prf rfl
@[simp] theorem isD_str : isD (.dat (.str x)) (.dat .none) = some false := prf rfl
@[simp] theorem isD_tup : isD (.dat (.tuple a)) (.dat .none) = some false := prf rfl
@[simp] theorem isD_bb {p q : Bool} : isD (.dat (.bool p)) (.dat (.bool q)) = some (decide (p = q)) := prf rfl
@[simp] theorem tru_none : tru (.dat .none) G = some false := prf rfl
@[simp] theorem tru_bool {p : Bool} : tru (.dat (.bool p)) G = some p := prf rfl
@[simp] theorem tru_int : tru (.dat (.int i)) G = some (i != 0) := prf rfl
@[simp] theorem tru_str : tru (.dat (.str y)) G = if y.length ≤ 100000 then some ((y.length : Int) != 0) else none := prf rfl
@[simp] theorem tru_tup : tru (.dat (.tuple a)) G = some (!a.isEmpty) := prf rfl
@[simp] theorem tru_ref : tru (.ref l) G = match G[l]? with
    | some (.lst xs) => some (!xs.isEmpty)
    | none => none := prf rfl
@[simp] theorem truB_bool {p : Bool} : truB (.dat (.bool p)) G = some p := prf rfl
@[simp] theorem gNotT_eq : gNotT u G = (tru u G).map fun b => (.dat (.bool (!b)), G) := prf rfl
@[simp] theorem gIx_tup : gIx (.dat (.tuple a)) (.dat (.int i)) G = match atI a i with
    | some d => some (.dat d, G)
    | none => none := prf rfl
@[simp] theorem gIx_fro : gIx (.fro a) (.dat (.int i)) G = match atI a i with
    | some d => some (.dat d, G)
    | none => none := prf rfl
@[simp] theorem gIx_mix : gIx (.mix xs) (.dat (.int i)) G = match atI xs i with
    | some d => some (d, G)
    | none => none := prf rfl
@[simp] theorem gIx_ref : gIx (.ref l) (.dat (.int i)) G = match G[l]? with
    | some (.lst xs) => (match atI xs i with
      | some d => some (d, G)
      | none => none)
    | none => none := prf rfl
@[simp] theorem gIx_str : gIx (.dat (.str x)) (.dat (.int i)) G = if x.length ≤ 100000 then (match atI x.cps.toList i with
    | some c => some (.dat (.str ⟨#[c]⟩), G)
    | none => none) else none := prf rfl
theorem atI_nat {α : Type} (xs : List α) (n : Nat) : atI xs (n : Int) = xs[n]? := by
  unfold atI ixN
  by_cases h : n < xs.length
  · rw [if_pos (by omega), if_pos (by omega)]
    simp
  · rw [if_pos (by omega), if_neg (by omega), List.getElem?_eq_none (by omega)]
    rfl
@[simp] theorem atI_0 {α : Type} (xs : List α) : atI xs 0 = xs[0]? := atI_nat xs 0
@[simp] theorem atI_1 {α : Type} (xs : List α) : atI xs 1 = xs[1]? := atI_nat xs 1
@[simp] theorem atI_2 {α : Type} (xs : List α) : atI xs 2 = xs[2]? := atI_nat xs 2
@[simp] theorem atI_3 {α : Type} (xs : List α) : atI xs 3 = xs[3]? := atI_nat xs 3
theorem atI_int {α : Type} {xs : List α} {i : Int} (h : 0 ≤ i) : atI xs i = xs[i.toNat]? := by
  obtain ⟨n, rfl⟩ := Int.eq_ofNat_of_zero_le h
  rw [atI_nat]; rfl
theorem ixN_nat {n k : Nat} (h : k < n) : ixN n (k : Int) = some k := by
  unfold ixN
  rw [if_pos (by omega), if_pos (by omega)]; rfl
theorem ixN_int {n : Nat} {i : Int} (h0 : 0 ≤ i) (h : i < n) : ixN n i = some i.toNat := by
  unfold ixN
  rw [if_pos h0, if_pos h]
@[simp] theorem gSl_tup {lo hi : Option Int} : gSl (.dat (.tuple a)) lo hi G = some (.dat (.tuple (cutL a lo hi)), G) := prf rfl
@[simp] theorem gSl_ref {lo hi : Option Int} : gSl (.ref l) lo hi G = match G[l]? with
    | some (.lst xs) => some (.ref G.length, G ++ [.lst (cutL xs lo hi)])
    | none => none := prf rfl
theorem cutL_to {α : Type} (xs : List α) (n : Nat) : cutL xs none (some (n : Int)) = xs.take n := by
  unfold cutL
  rw [HT.sIx_none, HT.sIx_nat]
  simp
theorem cutL_from {α : Type} (xs : List α) (n : Nat) : cutL xs (some (n : Int)) none = xs.drop n := by
  unfold cutL
  rw [HT.sIx_none, HT.sIx_nat]
  by_cases h : n ≤ xs.length
  · rw [Nat.min_eq_left h, List.take_of_length_le (by simp)]
  · rw [Nat.min_eq_right (by omega)]
    simp
    omega
@[simp] theorem gLen_one : gLen [u] G = (lenD u G).map fun n => (.dat (.int n), G) := prf rfl
@[simp] theorem lenD_str : lenD (.dat (.str y)) G = if y.length ≤ 100000 then some (y.length : Int) else none := prf rfl
@[simp] theorem lenD_tup : lenD (.dat (.tuple a)) G = some (a.length : Int) := prf rfl
@[simp] theorem lenD_ref : lenD (.ref l) G = match G[l]? with
    | some (.lst xs) => some (xs.length : Int)
    | none => none := prf rfl
@[simp] theorem lenD_fro : lenD (.fro a) G = some (a.length : Int) := prf rfl
@[simp] theorem lenD_mix : lenD (.mix xs) G = some (xs.length : Int) := prf rfl
@[simp] theorem gInt_int : gInt [.dat (.int i)] G = some (.dat (.int i), G) := prf rfl
@[simp] theorem gInt_bool {p : Bool} : gInt [.dat (.bool p)] G = some (.dat (.int (if p then 1 else 0)), G) := prf rfl
@[simp] theorem gMax2_int : gMax2 [.dat (.int i), .dat (.int j)] G = some (.dat (.int (if j > i then j else i)), G) := prf rfl
@[simp] theorem gMin2_int : gMin2 [.dat (.int i), .dat (.int j)] G = some (.dat (.int (if j < i then j else i)), G) := prf rfl
@[simp] theorem gList_tup : gList [.dat (.tuple a)] G = some (.ref G.length, G ++ [.lst (a.map .dat)]) := prf rfl
@[simp] theorem gList_ref : gList [.ref l] G = match G[l]? with
    | some (.lst xs) => some (.ref G.length, G ++ [.lst xs])
    | none => none := prf rfl
@[simp] theorem gTuple_ref : gTuple [.ref l] G = match G[l]? with
    | some (.lst xs) => some (mkTup xs, G)
    | none => none := prf rfl
@[simp] theorem gTuple_tup : gTuple [.dat (.tuple a)] G = some (.dat (.tuple a), G) := prf rfl
@[simp] theorem gSum_ref : gSum [.ref l] G = match G[l]? with
    | some (.lst xs) => (match ints? xs with
      | some ns => some (.dat (.int ns.sum), G)
      | none => none)
    | none => none := prf rfl
theorem dats_map : dats (a.map .dat) = some a := by
  induction a with
  | nil => rfl
  | cons d r ih => rw [List.map_cons]; unfold dats; rw [ih]; rfl
@[simp] theorem dats_map' : dats (a.map D.dat) = some a := dats_map
@[simp] theorem dats_nil : dats [] = some [] := prf rfl
@[simp] theorem dats_cons : dats (.dat d :: xs) = (dats xs).map (d :: ·) := prf rfl
theorem dats_app {as bs : List PyData} (h1 : dats xs = some as) (h2 : dats ys = some bs) : dats (xs ++ ys) = some (as ++ bs) := by
  induction xs generalizing as with
  | nil => cases h1; exact h2
  | cons z r ih =>
    cases z with
    | dat d =>
      obtain ⟨c, hc, rfl⟩ := Option.map_eq_some_iff.mp (show (dats r).map (d :: ·) = some as from h1)
      show (dats (r ++ ys)).map (d :: ·) = _
      rw [ih hc]; rfl
    | _ => cases h1
theorem mkTup_dats (h : dats xs = some a) : mkTup xs = .dat (.tuple a) := by unfold mkTup; rw [h]
@[simp] theorem mkTup_map : mkTup (a.map .dat) = .dat (.tuple a) := mkTup_dats dats_map
@[simp] theorem mkTup_nil : mkTup [] = .dat (.tuple []) := prf rfl
@[simp] theorem mkTup_1 : mkTup [.dat d] = .dat (.tuple [d]) := prf rfl
@[simp] theorem mkTup_2 : mkTup [.dat d, .dat e] = .dat (.tuple [d, e]) := prf rfl
@[simp] theorem mkTup_3 {f : PyData} : mkTup [.dat d, .dat e, .dat f] = .dat (.tuple [d, e, f]) := prf rfl
@[simp] theorem gTupD_eq : gTupD ds G = if ds.length ≤ 100000 then some (mkTup ds, G) else none := prf rfl
@[simp] theorem gLstD_eq : gLstD ds G = if ds.length ≤ 100000 then some (.ref G.length, G ++ [.lst ds]) else none := prf rfl
@[simp] theorem gIsa_int : gIsa [.dat d, .ty "int"] G = some (.dat (.bool d.isInt), G) := prf rfl
@[simp] theorem gIsa_bool : gIsa [.dat d, .ty "bool"] G = some (.dat (.bool d.isBool), G) := prf rfl
@[simp] theorem gIsa_str : gIsa [.dat d, .ty "str"] G = some (.dat (.bool d.isStr), G) := prf rfl
@[simp] theorem gIsa_tup : gIsa [.dat d, .ty "tuple"] G = some (.dat (.bool d.isTuple), G) := prf rfl
@[simp] theorem gRepr_dat : gRepr [.dat d] G = if reprOk d then some (.dat (.str d.shown), G) else none := prf rfl
@[simp] theorem isLst_ref : isLst (.ref l) G = match G[l]? with
    | some (.lst _) => true
    | none => false := prf rfl
@[simp] theorem gAppend_ref : gAppend (.ref l) [u] G = match G[l]? with
    | some (.lst xs) => if xs.length < 100000 then some (.dat .none, G.set l (.lst (xs ++ [u]))) else none
    | none => none := prf rfl
@[simp] theorem gExtend_ref : gExtend (.ref l) [.ref m] G = match G[l]?, G[m]? with
    | some (.lst xs), some (.lst ys) => if xs.length + ys.length ≤ 100000 then some (.dat .none, G.set l (.lst (xs ++ ys))) else none
    | _, _ => none := prf rfl
@[simp] theorem gPop_last : gPop (.ref l) [] G = match G[l]? with
    | some (.lst xs) => (match xs[xs.length - 1]? with
      | some d => some (d, G.set l (.lst xs.dropLast))
      | none => none)
    | none => none := prf rfl
@[simp] theorem gPop_at : gPop (.ref l) [.dat (.int i)] G = match G[l]? with
    | some (.lst xs) => (match ixN xs.length i with
      | some k => (match xs[k]? with
        | some d => some (d, G.set l (.lst (xs.eraseIdx k)))
        | none => none)
      | none => none)
    | none => none := prf rfl
@[simp] theorem aList_nil {env : Env'} : aList [] [] env G = some (env, G) := prf rfl
@[simp] theorem aList_cons {f : GS} {as : List GS} {env : Env'} : aList (f :: as) (u :: ds) env G = match f u env G with
    | some (env', G') => aList as ds env' G'
    | none => none := prf rfl
@[simp] theorem gSetL_ref : gSetL (.ref l) (.dat (.int i)) u G = match G[l]? with
    | some (.lst xs) => (match ixN xs.length i with
      | some j => some (G.set l (.lst (xs.set j u)))
      | none => none)
    | none => none := prf rfl
theorem mulOk_r (h : j.natAbs < 2 ^ 64) : mulOk i j = true := by
  unfold mulOk
  rw [decide_eq_true h]
  simp
theorem mulOk_l (h : i.natAbs < 2 ^ 64) : mulOk i j = true := by
  unfold mulOk
  rw [decide_eq_true h]
  simp
end
/-! ### calls of own defs -/
section
variable {sem : FS} {G G1 : Hh} {ds : List D} {d w : D} {c : Addr} {ls : List Nat}
theorem rel_ok (h1 : (refs ds).Nodup) (h2 : ∀ l ∈ refs ds, l < G.length) (h3 : argsOk ds = true) (h4 : (pick G (refs ds)).all moClean = true) (hs : sem (renum 0 ds) (pick G (refs ds)) = .ok d G1)
    (h5 : (refs ds).length ≤ G1.length) (h6 : (G1.take (refs ds).length).all moClean = true) (h7 : clean d = true) : relCall sem ds G = .ok d (writeBack G (refs ds) G1) := by
  unfold relCall
  rw [if_pos ⟨h1, h2, h3, h4⟩, hs]
  unfold relOut
  simp [h5, h6, h7]
/-- nothing is handed over but values -/
theorem rel_ok0 (h1 : refs ds = []) (h2 : renum 0 ds = ds) (h3 : argsOk ds = true) (hs : sem ds [] = .ok d G1) (h7 : clean d = true) : relCall sem ds G = .ok d G := by
  rw [rel_ok (d := d) (G1 := G1) (by rw [h1]; exact List.nodup_nil) (by rw [h1]; simp) h3 (by rw [h1]; rfl) (by rw [h1, h2]; exact hs) (by rw [h1]; simp) (by rw [h1]; simp) h7, h1]
  cases G1 <;> rfl
theorem rel_ex0 (h1 : refs ds = []) (h2 : renum 0 ds = ds) (h3 : argsOk ds = true) (hs : sem ds [] = .ex c w G1) (h7 : clean w = true) : relCall sem ds G = .ex c w G := by
  unfold relCall
  rw [if_pos ⟨by rw [h1]; exact List.nodup_nil, by rw [h1]; simp, h3, by rw [h1]; rfl⟩, h1, h2]
  have : pick G [] = [] := rfl
  rw [this, hs]
  unfold relOut
  simp [h7]
  cases G1 <;> rfl
end
section
variable {sem : FS} {G G1 : Hh} {ds ds' : List D} {d w : D} {c : Addr} {l m n : Nat} {mo mo' m2 m2' mn : MO}
theorem getD_of (h : G[l]? = some mo) : G.getD l (.lst []) = mo := by rw [List.getD_eq_getElem?_getD, h]; rfl
theorem lt_of {α : Type} {G : List α} {l : Nat} {mo : α} (h : G[l]? = some mo) : l < G.length := (List.getElem?_eq_some_iff.mp h).1
/-- one object is handed over -/
theorem rel_1 (h1 : refs ds = [l]) (hr : renum 0 ds = ds') (h3 : argsOk ds = true) (hl : G[l]? = some mo) (hc : moClean mo = true) (hs : sem ds' [mo] = .ok d (mo' :: G1)) (hc' : moClean mo' = true) (hd : clean d = true) : relCall sem ds G = .ok d (G.set l mo') := by
  have hp : pick G [l] = [mo] := by simp [pick, hl]
  rw [rel_ok (d := d) (G1 := mo' :: G1) (by rw [h1]; simp) (by rw [h1]; intro x hx; simp at hx; subst hx; exact lt_of hl) h3 (by rw [h1, hp]; simp [hc]) (by rw [h1, hr, hp]; exact hs) (by rw [h1]; simp) (by rw [h1]; simp [hc']) hd, h1]
  cases G1 <;> rfl
/-- .. and one is made -/
theorem rel_1n (h1 : refs ds = [l]) (hr : renum 0 ds = ds') (h3 : argsOk ds = true) (hl : G[l]? = some mo) (hc : moClean mo = true) (hs : sem ds' [mo] = .ok (.ref n) (mo' :: G1)) (hc' : moClean mo' = true) (hn : (mo' :: G1)[n]? = some mn) (h0 : 1 ≤ n) (hm : moClean mn = true) :
    relCall sem ds G = .ok (.ref G.length) (G.set l mo' ++ [mn]) := by
  have hp : pick G [l] = [mo] := by simp [pick, hl]
  unfold relCall
  rw [if_pos ⟨by rw [h1]; simp, by rw [h1]; intro x hx; simp at hx; subst hx; exact lt_of hl, h3, by rw [h1, hp]; simp [hc]⟩, h1, hr, hp, hs]
  unfold relOut
  dsimp only
  rw [if_pos ⟨by simp, by simp [hc']⟩, if_neg (by simp [clean])]
  simp only [hn]
  rw [if_pos ⟨h0, hm⟩]
  cases G1 <;> rfl
theorem rel_0n (h1 : refs ds = []) (hr : renum 0 ds = ds) (h3 : argsOk ds = true) (hs : sem ds [] = .ok (.ref n) G1) (hn : G1[n]? = some mn) (hm : moClean mn = true) : relCall sem ds G = .ok (.ref G.length) (G ++ [mn]) := by
  unfold relCall
  rw [if_pos ⟨by rw [h1]; exact List.nodup_nil, by rw [h1]; simp, h3, by rw [h1]; rfl⟩, h1, hr]
  have : pick G [] = [] := rfl
  rw [this, hs]
  unfold relOut
  dsimp only
  rw [if_pos ⟨by simp, by simp⟩, if_neg (by simp [clean])]
  simp only [hn]
  rw [if_pos ⟨by simp, hm⟩]
  cases G1 <;> rfl
/-- two objects are handed over -/
theorem rel_2 (h1 : refs ds = [l, m]) (hr : renum 0 ds = ds') (h3 : argsOk ds = true) (hlm : l ≠ m) (hl : G[l]? = some mo) (hm : G[m]? = some m2) (hc : moClean mo = true) (hc2 : moClean m2 = true) (hs : sem ds' [mo, m2] = .ok d (mo' :: m2' :: G1)) (hc' : moClean mo' = true) (hc2' : moClean m2' = true) (hd : clean d = true) :
    relCall sem ds G = .ok d ((G.set l mo').set m m2') := by
  have hp : pick G [l, m] = [mo, m2] := by simp [pick, hl, hm]
  rw [rel_ok (d := d) (G1 := mo' :: m2' :: G1) (by rw [h1]; simp [hlm]) (by rw [h1]; intro x hx; simp at hx; rcases hx with rfl | rfl; exact lt_of hl; exact lt_of hm) h3 (by rw [h1, hp]; simp [hc, hc2]) (by rw [h1, hr, hp]; exact hs) (by rw [h1]; simp) (by rw [h1]; simp [hc', hc2']) hd, h1]
  cases G1 <;> rfl
theorem rel_2n (h1 : refs ds = [l, m]) (hr : renum 0 ds = ds') (h3 : argsOk ds = true) (hlm : l ≠ m) (hl : G[l]? = some mo) (hm : G[m]? = some m2) (hc : moClean mo = true) (hc2 : moClean m2 = true) (hs : sem ds' [mo, m2] = .ok (.ref n) (mo' :: m2' :: G1)) (hc' : moClean mo' = true) (hc2' : moClean m2' = true)
    (hn : (mo' :: m2' :: G1)[n]? = some mn) (h0 : 2 ≤ n) (hcn : moClean mn = true) : relCall sem ds G = .ok (.ref G.length) ((G.set l mo').set m m2' ++ [mn]) := by
  have hp : pick G [l, m] = [mo, m2] := by simp [pick, hl, hm]
  unfold relCall
  rw [if_pos ⟨by rw [h1]; simp [hlm], by rw [h1]; intro x hx; simp at hx; rcases hx with rfl | rfl; exact lt_of hl; exact lt_of hm, h3, by rw [h1, hp]; simp [hc, hc2]⟩, h1, hr, hp, hs]
  unfold relOut
  dsimp only
  rw [if_pos ⟨by simp, by simp [hc', hc2']⟩, if_neg (by simp [clean])]
  simp only [hn]
  rw [if_pos ⟨h0, hcn⟩]
  cases G1 <;> rfl
end
theorem cleans_dat {a : List PyData} : cleans (a.map .dat) = true := by
  induction a with
  | nil => rfl
  | cons d r ih => rw [List.map_cons]; unfold cleans; rw [ih]; rfl
end DL

set_option Elab.async false
set_option linter.all false
set_option maxRecDepth 100000
set_option maxHeartbeats 1000000
namespace DL
open PySem PySem.Spec PyProof.Rows L2
open Classical
/-! ### what all the laws share: pool, take, one, mixed -/
noncomputable def gPool : FS := fnD 5 (sSeq (sAsg (eC (.dat (.int 0))) (aName 2))
    (sSeq (sIf (tTest' truB (eBin gLt (eVar 1) (eArgs gLen (aCons (eVar 0) aNil)))) (sAsg (eBin gIx (eVar 0) (eVar 1)) (aName 2)) (sIf (tTest' truB (eBin gNe (eVar 0) (eArgs gLstD aNil))) (sAsg (eBin gIx (eVar 0) (eC (.dat (.int 0)))) (aName 2)) sNil))
    (sSeq (sAsg (eArgs gMax2 (aCons (eArgs gInt (aCons (eVar 2) aNil)) (aCons (eArgs gInt (aCons (eBin gSub (eUn gNeg (eC (.dat (.int 1)))) (eVar 2)) aNil)) aNil))) (aName 3))
    (sSeq (sAsg (eBin gMod (eArgs gInt (aCons (eBin gMul (eBin gAdd (eBin gAdd (eBin gAdd (eBin gMod (eArgs gInt (aCons (eVar 3) aNil)) (eC (.dat (.int 2147483629)))) (eBin gMul (eBin gMul (eC (.dat (.int 7919))) (eVar 1)) (eVar 1))) (eBin gMul (eC (.dat (.int 31))) (eVar 1))) (eC (.dat (.int 17)))) (eC (.dat (.int 48271)))) aNil)) (eC (.dat (.int 2147483647)))) (aName 4))
    (sRet (eArgs gLstD (aCons (eBin gMul (eVar 3) (eArgs gInt (aCons (eAnd tru (eBin gGe (eVar 3) (eBin gPow (eC (.dat (.int 10))) (eC (.dat (.int 18))))) (eBin gLt (eVar 1) (eArgs gLen (aCons (eVar 0) aNil)))) aNil))) (aCons (eVar 4) aNil))))))))
noncomputable def gTake : FS := fnD 3 (sSeq (sIf (tTest' truB (eBin gGt (eBin gIx (eVar 0) (eC (.dat (.int 0)))) (eC (.dat (.int 0))))) (sSeq (sAsg (eBin gMod (eArgs gInt (aCons (eBin gIx (eVar 0) (eC (.dat (.int 0)))) aNil)) (eVar 1)) (aName 2))
    (sSeq (sAsg (eBin gDiv (eBin gIx (eVar 0) (eC (.dat (.int 0)))) (eVar 1)) (aSub (eVar 0) (eC (.dat (.int 0))) gSetL))
    (sRet (eVar 2)))) sNil)
    (sSeq (sAsg (eBin gMod (eArgs gInt (aCons (eBin gAdd (eBin gMul (eBin gIx (eVar 0) (eC (.dat (.int 1)))) (eC (.dat (.int 39373)))) (eC (.dat (.int 7)))) aNil)) (eC (.dat (.int 2147483647)))) (aSub (eVar 0) (eC (.dat (.int 1))) gSetL))
    (sRet (eBin gMod (eArgs gInt (aCons (eBin gDiv (eBin gMod (eArgs gInt (aCons (eBin gMul (eBin gIx (eVar 0) (eC (.dat (.int 1)))) (eBin gIx (eVar 0) (eC (.dat (.int 1))))) aNil)) (eC (.dat (.int 2147483629)))) (eC (.dat (.int 32)))) aNil)) (eVar 1)))))
noncomputable def gOne : FS := fnD 2 (sRet (eBin gIx (eVar 1) (eCallA 2 (relCall gTake) (aCons (eVar 0) (aCons (eArgs gLen (aCons (eVar 1) aNil)) aNil)))))
noncomputable def gMixed : FS := fnD 5 (sSeq (sPar 2 3 (aCons (eArgs gList (aCons (eVar 1) aNil)) (aCons (eArgs gLstD aNil) aNil)))
    (sSeq (sFor (srcRange1 (aCons (eArgs gLen (aCons (eVar 1) aNil)) aNil)) (aName 4) (sDrop (eMet isLst gAppend (eVar 3) (aCons (eMet isLst gPop (eVar 2) (aCons (eCallA 2 (relCall gTake) (aCons (eVar 0) (aCons (eArgs gLen (aCons (eVar 2) aNil)) aNil))) aNil)) aNil))))
    (sRet (eVar 3))))
/-- the source that is drawn from -/
def Src (m : MO) : Prop := ∃ a b : Int, 0 ≤ a ∧ 0 ≤ b ∧ m = .lst [.dat (.int a), .dat (.int b)]
theorem Src.clean {m : MO} (h : Src m) : moClean m = true := by
  obtain ⟨a, b, _, _, rfl⟩ := h
  rfl
theorem take_ok {m : MO} {top : Int} (h : Src m) (ht : 0 < top) (ht2 : top ≤ 1000000) : ∃ r m', 0 ≤ r ∧ r < top ∧ Src m' ∧ gTake [.ref 0, .dat (.int top)] [m] = .ok (.dat (.int r)) [m'] := by
  obtain ⟨a, b, ha, hb, rfl⟩ := h
  have l1 : top.natAbs.log2 < 9000 := by
    have : top.natAbs < 2 ^ 9000 := Nat.lt_of_lt_of_le (m := 2 ^ 20) (by omega) (Nat.pow_le_pow_right (n := 2) (by decide) (by decide))
    by_cases z : top.natAbs = 0
    · rw [z]; decide
    · exact (Nat.log2_lt z).mpr this
  by_cases h : 0 < a
  · refine ⟨a % top, .lst [.dat (.int (a / top)), .dat (.int b)], Int.emod_nonneg _ (by omega), Int.emod_lt_of_pos _ ht, ⟨_, _, Int.ediv_nonneg ha (by omega), hb, rfl⟩, ?_⟩
    simp [gTake, h, ht, l1, ixN_int]
  · have l2 : ∀ x : Int, mulOk x 39373 = true := fun x => mulOk_r (by decide)
    have h1 : 0 ≤ (b * 39373 + 7) % 2147483647 := Int.emod_nonneg _ (by decide)
    have h2 : (b * 39373 + 7) % 2147483647 < 2147483647 := Int.emod_lt_of_pos _ (by decide)
    have l3 : mulOk ((b * 39373 + 7) % 2147483647) ((b * 39373 + 7) % 2147483647) = true := mulOk_r (by omega)
    have l4 : Nat.log2 32 < 9000 := by decide
    refine ⟨((b * 39373 + 7) % 2147483647 * ((b * 39373 + 7) % 2147483647)) % 2147483629 / 32 % top, .lst [.dat (.int a), .dat (.int ((b * 39373 + 7) % 2147483647))], Int.emod_nonneg _ (by omega), Int.emod_lt_of_pos _ ht, ⟨_, _, ha, h1, rfl⟩, ?_⟩
    simp [gTake, h, ht, l2, l3, l4, ixN_int]
theorem pool_ok (ns : List Int) : ∃ n G1 mn, gPool [.fro (ns.map PyData.int), .dat (.int 0)] [] = .ok (.ref n) G1 ∧ G1[n]? = some mn ∧ Src mn := by
  have l1 : ∀ x y : Int, y.natAbs < 2 ^ 64 → mulOk x y = true := fun x y h => mulOk_r h
  cases ns with
  | nil =>
    have e : gPool [.fro ([].map PyData.int), .dat (.int 0)] [] = .ok (.ref 1) [MO.lst [], MO.lst [D.dat (PyData.int 0), D.dat (PyData.int 820607)]] := by
      simp [gPool, l1, gNe_view, PyData.eqv, PyData.eqvAll, PyData.depth, PyData.depthAll]
    exact ⟨_, _, _, e, rfl, _, _, by decide, by decide, rfl⟩
  | cons x r =>
    have h0 : 0 ≤ if x < -1 - x then -1 - x else x := by split <;> omega
    by_cases hc : 1000000000000000000 ≤ if x < -1 - x then -1 - x else x
    · have e : gPool [.fro ((x :: r).map PyData.int), .dat (.int 0)] [] = .ok (.ref 0) [MO.lst [D.dat (PyData.int (if x < -1 - x then -1 - x else x)), D.dat (PyData.int (((if x < -1 - x then -1 - x else x) % 2147483629 + 17) * 48271 % 2147483647))]] := by
        simp [gPool, l1, gNe_view, PyData.eqv, PyData.eqvAll, PyData.depth, PyData.depthAll, hc]
      exact ⟨_, _, _, e, rfl, _, _, h0, Int.emod_nonneg _ (by decide), rfl⟩
    · have e : gPool [.fro ((x :: r).map PyData.int), .dat (.int 0)] [] = .ok (.ref 0) [MO.lst [D.dat (PyData.int 0), D.dat (PyData.int (((if x < -1 - x then -1 - x else x) % 2147483629 + 17) * 48271 % 2147483647))]] := by
        simp [gPool, l1, gNe_view, PyData.eqv, PyData.eqvAll, PyData.depth, PyData.depthAll, hc]
      exact ⟨_, _, _, e, rfl, _, _, by decide, Int.emod_nonneg _ (by decide), rfl⟩
/-- the pool as it is called -/
theorem pool_rel (ns : List Int) (G : Hh) : ∃ mn, Src mn ∧ relCall gPool [.fro (ns.map PyData.int), .dat (.int 0)] G = .ok (.ref G.length) (G ++ [mn]) := by
  obtain ⟨n, G1, mn, e, h1, h2⟩ := pool_ok ns
  exact ⟨mn, h2, rel_0n rfl rfl rfl e h1 h2.clean⟩
/-- take as it is called, the source at l -/
theorem take_rel {G : Hh} {l : Nat} {m : MO} {top : Int} (hl : G[l]? = some m) (h : Src m) (ht : 0 < top) (ht2 : top ≤ 1000000) : ∃ r m', 0 ≤ r ∧ r < top ∧ Src m' ∧ relCall gTake [.ref l, .dat (.int top)] G = .ok (.dat (.int r)) (G.set l m') := by
  obtain ⟨r, m', h1, h2, h3, e⟩ := take_ok h ht ht2
  exact ⟨r, m', h1, h2, h3, rel_1 rfl rfl rfl hl h.clean e h3.clean rfl⟩
/-- one of a list | of a tuple -/
theorem one_ok {m : MO} {xs : List D} (h : Src m) (hx : xs ≠ []) (hx2 : xs.length ≤ 1000000) : ∃ x m', x ∈ xs ∧ Src m' ∧ gOne [.ref 0, .ref 1] [m, .lst xs] = .ok x [m', .lst xs] := by
  obtain ⟨r, m', h1, h2, h3, e⟩ := take_rel (G := [m, .lst xs]) (l := 0) (top := xs.length) rfl h (by have := List.length_pos_iff.mpr hx; omega) (by omega)
  have hr : r.toNat < xs.length := by omega
  refine ⟨xs[r.toNat], m', List.getElem_mem hr, h3, ?_⟩
  simp [gOne, e, atI_int h1, List.getElem?_eq_getElem hr]
theorem one_rel {G : Hh} {l k : Nat} {m : MO} {xs : List D} (hl : G[l]? = some m) (hk : G[k]? = some (.lst xs)) (hlk : l ≠ k) (h : Src m) (hx : xs ≠ []) (hx2 : xs.length ≤ 1000000) (hc : cleans xs = true) :
    ∃ x m', x ∈ xs ∧ Src m' ∧ relCall gOne [.ref l, .ref k] G = .ok x (G.set l m') := by
  obtain ⟨x, m', h1, h2, e⟩ := one_ok h hx hx2
  have hcx : ∀ {xs : List D} {x : D}, cleans xs = true → x ∈ xs → clean x = true := by
    intro xs
    induction xs with
    | nil => intro x _ hx; cases hx
    | cons y ys ih =>
      intro x hc hx
      simp only [cleans, Bool.and_eq_true] at hc
      rcases List.mem_cons.mp hx with rfl | hx
      · exact hc.1
      · exact ih hc.2 hx
  have e2 := rel_2 (G := G) (ds := [.ref l, .ref k]) rfl rfl rfl hlk hl hk h.clean hc e h2.clean hc (hcx hc h1)
  refine ⟨x, m', h1, h2, ?_⟩
  rw [e2]
  congr 1
  have : (G.set l m')[k]? = some (.lst xs) := by rw [List.getElem?_set_ne hlk]; exact hk
  exact List.ext_getElem? fun i => by
    by_cases hi : k = i
    · subst hi
      rw [List.getElem?_set_self (by simpa using lt_of hk), this]
    · rw [List.getElem?_set_ne hi]

theorem forL_nil {a : GS} {f : SS} {env : Env'} {G : Hh} {chk : Hh → Prop} (h : chk G) : forL a f chk [] env G = .nx env G := by
  unfold forL
  rw [if_pos h]
theorem forL_nx {a : GS} {f : SS} {chk : Hh → Prop} {d : D} {ds : List D} {env env1 e : Env'} {G G1 g : Hh} (h : chk G) (ha : a d env G = some (env1, G1)) (hf : f env1 G1 = .nx e g) : forL a f chk (d :: ds) env G = forL a f chk ds e g := by
  rw [forL, if_pos h, ha]
  dsimp only
  rw [hf]
theorem forL_rt {a : GS} {f : SS} {chk : Hh → Prop} {d w : D} {ds : List D} {env env1 : Env'} {G G1 g : Hh} (h : chk G) (ha : a d env G = some (env1, G1)) (hf : f env1 G1 = .rt w g) : forL a f chk (d :: ds) env G = .rt w g := by
  rw [forL, if_pos h, ha]
  dsimp only
  rw [hf]
theorem forL_ex {a : GS} {f : SS} {chk : Hh → Prop} {d w : D} {c : Addr} {ds : List D} {env env1 e : Env'} {G G1 g : Hh} (h : chk G) (ha : a d env G = some (env1, G1)) (hf : f env1 G1 = .ex c w e g) : forL a f chk (d :: ds) env G = .ex c w e g := by
  rw [forL, if_pos h, ha]
  dsimp only
  rw [hf]
theorem cons_eraseIdx {α : Type} : ∀ {l : List α} {i : Nat} (h : i < l.length), (l[i] :: l.eraseIdx i).Perm l
  | x :: l, 0, _ => List.Perm.refl _
  | x :: l, i + 1, h => (List.Perm.swap x _ _).trans ((cons_eraseIdx (l := l) (i := i) (by simpa using h)).cons x)
theorem mixed_loop {xs : List D} (hx : xs.length ≤ 1000) : ∀ (n : Nat) (m : MO) (left found ds : List D) (s : Sl), Src m → left.length = n → ds.length = n → (found ++ left).Perm xs →
    ∃ m' ys s', Src m' ∧ ys.Perm xs ∧ forL (aName 4) (sDrop (eMet isLst gAppend (eVar 3) (aCons (eMet isLst gPop (eVar 2) (aCons (eCallA 2 (relCall gTake) (aCons (eVar 0) (aCons (eArgs gLen (aCons (eVar 2) aNil)) aNil))) aNil)) aNil))) yesH ds
      [.d (.ref 0), .d (.ref 1), .d (.ref 2), .d (.ref 3), s] [m, .lst xs, .lst left, .lst found] = .nx [.d (.ref 0), .d (.ref 1), .d (.ref 2), .d (.ref 3), s'] [m', .lst xs, .lst [], .lst ys] := by
  intro n
  induction n with
  | zero =>
    intro m left found ds s hm hl hd hp
    obtain rfl := List.eq_nil_of_length_eq_zero hl
    obtain rfl := List.eq_nil_of_length_eq_zero hd
    exact ⟨m, found, s, hm, by simpa using hp, forL_nil trivial⟩
  | succ n ih =>
    intro m left found ds s hm hl hd hp
    obtain ⟨d, ds, rfl⟩ : ∃ d r, ds = d :: r := by
      cases ds with
      | nil => simp at hd
      | cons d r => exact ⟨d, r, rfl⟩
    have hlen : found.length + left.length = xs.length := by simpa using hp.length_eq
    obtain ⟨r, m', h1, h2, h3, e⟩ := take_rel (G := [m, .lst xs, .lst left, .lst found]) (l := 0) (top := left.length) rfl hm (by omega) (by omega)
    have hr : r.toNat < left.length := by omega
    have hp2 : ((found ++ [left[r.toNat]]) ++ left.eraseIdx r.toNat).Perm xs := by
      refine List.Perm.trans ?_ hp
      rw [List.append_assoc]
      exact List.Perm.append_left found (by simpa using cons_eraseIdx hr)
    obtain ⟨m2, ys, s2, q1, q2, q3⟩ := ih m' (left.eraseIdx r.toNat) (found ++ [left[r.toNat]]) ds (.d d) h3 (by rw [List.length_eraseIdx_of_lt hr]; omega) (by simpa using hd) hp2
    refine ⟨m2, ys, s2, q1, q2, ?_⟩
    rw [forL_nx (env1 := [.d (.ref 0), .d (.ref 1), .d (.ref 2), .d (.ref 3), .d d]) (G1 := [m, .lst xs, .lst left, .lst found]) (e := [.d (.ref 0), .d (.ref 1), .d (.ref 2), .d (.ref 3), .d d]) (g := [m', .lst xs, .lst (left.eraseIdx r.toNat), .lst (found ++ [left[r.toNat]])]) trivial rfl ?_]
    · exact q3
    · have l1 : found.length < 100000 := by omega
      simp [e, ixN_int h1 h2, List.getElem?_eq_getElem hr, l1]
theorem mixed_ok {m : MO} {xs : List D} (h : Src m) (hx : xs.length ≤ 1000) : ∃ m' ys, Src m' ∧ ys.Perm xs ∧ gMixed [.ref 0, .ref 1] [m, .lst xs] = .ok (.ref 3) [m', .lst xs, .lst [], .lst ys] := by
  obtain ⟨m', ys, s', h1, h2, e⟩ := mixed_loop hx xs.length m xs [] (rngD 0 xs.length) .no h rfl (by simp [rngD]) (by simp)
  refine ⟨m', ys, h1, h2, ?_⟩
  have l1 : okR (xs.length : Int) := by unfold okR; omega
  have e2 : sFor (srcRange1 (aCons (eArgs gLen (aCons (eVar 1) aNil)) aNil)) (aName 4) (sDrop (eMet isLst gAppend (eVar 3) (aCons (eMet isLst gPop (eVar 2) (aCons (eCallA 2 (relCall gTake) (aCons (eVar 0) (aCons (eArgs gLen (aCons (eVar 2) aNil)) aNil))) aNil)) aNil)))
      [.d (.ref 0), .d (.ref 1), .d (.ref 2), .d (.ref 3), .no] [m, .lst xs, .lst xs, .lst []] = .nx [.d (.ref 0), .d (.ref 1), .d (.ref 2), .d (.ref 3), s'] [m', .lst xs, .lst [], .lst ys] := by
    rw [sFor_ok (xs := rngD 0 xs.length) (chk := yesH) (G1 := [m, .lst xs, .lst xs, .lst []]) (by simp [l1])]
    exact e
  simp [gMixed, e2]
theorem cleans_perm {xs ys : List D} (h : ys.Perm xs) : cleans ys = cleans xs := by
  have : ∀ zs : List D, cleans zs = zs.all clean := by
    intro zs
    induction zs with
    | nil => rfl
    | cons z r ih => simp only [cleans, List.all_cons, ih]
  rw [this, this]
  exact h.all_eq
theorem mixed_rel {G : Hh} {l k : Nat} {m : MO} {xs : List D} (hl : G[l]? = some m) (hk : G[k]? = some (.lst xs)) (hlk : l ≠ k) (h : Src m) (hx : xs.length ≤ 1000) (hc : cleans xs = true) :
    ∃ m' ys, Src m' ∧ ys.Perm xs ∧ relCall gMixed [.ref l, .ref k] G = .ok (.ref G.length) (G.set l m' ++ [.lst ys]) := by
  obtain ⟨m', ys, h1, h2, e⟩ := mixed_ok h hx
  refine ⟨m', ys, h1, h2, ?_⟩
  have e2 := rel_2n (G := G) (ds := [.ref l, .ref k]) (n := 3) rfl rfl rfl hlk hl hk h.clean hc e h1.clean hc (mn := .lst ys) rfl (by decide) (by rw [moClean, cleans_perm h2]; exact hc)
  rw [e2]
  have e3 : (G.set l m').set k (.lst xs) = G.set l m' := ?_
  · rw [e3]
  have : (G.set l m')[k]? = some (.lst xs) := by rw [List.getElem?_set_ne hlk]; exact hk
  exact List.ext_getElem? fun i => by
    by_cases hi : k = i
    · subst hi
      rw [List.getElem?_set_self (by simpa using lt_of hk), this]
    · rw [List.getElem?_set_ne hi]
end DL

set_option Elab.async false
set_option linter.all false
set_option maxRecDepth 100000
set_option maxHeartbeats 1000000
namespace DL
open PySem PySem.Spec PyProof.Rows L2
open Classical
/-! ### comprehensions that touch nothing else -/
section
variable {α : Type} {a : GS} {t : TSm} {f : ES} {l : Nat} {chk : Hh → Prop} {env : Env'}
theorem lcL_map (dv : α → D) (e : α → Env') (tb : α → Bool) (fv : α → D) (Ok : Hh → Prop) (hset : ∀ g zs, Ok g → Ok (g.set l (.lst zs))) (hc : ∀ g, Ok g → chk g) : ∀ (cs : List α) (acc : List D) (G : Hh),
    (∀ x ∈ cs, ∀ g, Ok g → a (dv x) env g = some (e x, g) ∧ t (e x) g = .ok (tb x) g ∧ (tb x = true → f (e x) g = .ok (fv x) g)) → Ok G → G[l]? = some (.lst acc) → acc.length + cs.length ≤ 100000 →
    lcL a t f l chk env (cs.map dv) G = .ok (.ref l) (G.set l (.lst (acc ++ (cs.filter tb).map fv)))
  | [], acc, G, _, h, hl, _ => by
    rw [List.map_nil, lcL, if_pos (hc _ h)]
    congr 1
    simp
    exact (List.ext_getElem? fun i => by
      by_cases hi : l = i
      · subst hi
        rw [List.getElem?_set_self (lt_of hl), hl]
      · rw [List.getElem?_set_ne hi]).symm
  | x :: xs, acc, G, ha, h, hl, hn => by
    obtain ⟨h1, h2, h3⟩ := ha x List.mem_cons_self G h
    rw [List.map_cons, lcL, if_pos (hc _ h), h1]
    dsimp only
    rw [h2]
    have ih := lcL_map dv e tb fv Ok hset hc xs
    cases hb : tb x with
    | true =>
      dsimp only
      rw [h3 hb]
      dsimp only
      rw [hl]
      dsimp only
      have : acc.length < 100000 := by simp at hn; omega
      rw [if_pos this, ih (acc ++ [fv x]) _ (fun y hy g hg => ha y (List.mem_cons_of_mem _ hy) g hg) (hset _ _ h) (by rw [List.getElem?_set_self (lt_of hl)]) (by simp at hn ⊢; omega)]
      simp [hb, List.set_set]
    | false =>
      dsimp only
      rw [ih acc G (fun y hy g hg => ha y (List.mem_cons_of_mem _ hy) g hg) h hl (by simp at hn ⊢; omega)]
      simp [hb]
/-- .. of a source that no list is -/
theorem eLc_dat {src : IS} {vs : List Nat} {G G1 : Hh} (dv : α → D) (e : α → Env') (tb : α → Bool) (fv : α → PyData) (cs : List α) (h : src env G = .ok (cs.map dv) yesH G1)
    (hx : ∀ x ∈ cs, ∀ g, a (dv x) (wipeE (cutX env) vs) g = some (e x, g) ∧ t (e x) g = .ok (tb x) g ∧ (tb x = true → f (e x) g = .ok (.dat (fv x)) g)) (hn : cs.length ≤ 100000) :
    eLc src a t f vs env G = .ok (.ref G1.length) (G1 ++ [.lst (((cs.filter tb).map fv).map .dat)]) := by
  rw [eLc_ok h, lcL_map (chk := yesH) dv e tb (fun x => .dat (fv x)) (fun _ => True) (fun _ _ _ => trivial) (fun _ _ => trivial) cs [] _ (fun x hm g _ => hx x hm g) trivial (by simp) (by simpa using hn)]
  simp
theorem set_same {G : Hh} {l : Nat} {mo : MO} (h : G[l]? = some mo) : G.set l mo = G := List.ext_getElem? fun i => by
  by_cases hi : l = i
  · subst hi
    rw [List.getElem?_set_self (lt_of h), h]
  · rw [List.getElem?_set_ne hi]
theorem lcIn_map {β : Type} (dv : β → D) (e : β → Env') (fv : β → D) (Ok : Hh → Prop) (hset : ∀ g zs, Ok g → Ok (g.set l (.lst zs))) (hc : ∀ g, Ok g → chk g) : ∀ (cs : List β) (acc : List D) (G : Hh),
    (∀ x ∈ cs, ∀ g, Ok g → a (dv x) env g = some (e x, g) ∧ t (e x) g = .ok true g ∧ f (e x) g = .ok (fv x) g) → Ok G → G[l]? = some (.lst acc) → acc.length + cs.length ≤ 100000 →
    lcIn a t f l chk env (cs.map dv) G = some (G.set l (.lst (acc ++ cs.map fv)))
  | [], acc, G, _, h, hl, _ => by
    rw [List.map_nil, lcIn, if_pos (hc _ h)]
    simp [set_same hl]
  | x :: xs, acc, G, ha, h, hl, hn => by
    obtain ⟨h1, h2, h3⟩ := ha x List.mem_cons_self G h
    rw [List.map_cons, lcIn, if_pos (hc _ h), h1]
    dsimp only
    rw [h2]
    dsimp only
    rw [h3]
    dsimp only
    rw [hl]
    dsimp only
    have ih := lcIn_map dv e fv Ok hset hc xs
    have : acc.length < 100000 := by simp at hn; omega
    rw [if_pos this, ih (acc ++ [fv x]) _ (fun y hy g hg => ha y (List.mem_cons_of_mem _ hy) g hg) (hset _ _ h) (by rw [List.getElem?_set_self (lt_of hl)]) (by simp at hn ⊢; omega)]
    simp [List.set_set]
theorem lc2L_map {β : Type} {src1 : IS} {a1 : GS} {t1 : TSm} {vs1 : List Nat} (dv : α → D) (e : α → Env') (cs1 : α → List β) (dv1 : α → β → D) (e1 : α → β → Env') (fv : α → β → D) (Ok : Hh → Prop) (hset : ∀ g zs, Ok g → Ok (g.set l (.lst zs))) (hc : ∀ g, Ok g → chk g) : ∀ (cs : List α) (acc : List D) (G : Hh),
    (∀ x ∈ cs, ∀ g, Ok g → a (dv x) env g = some (e x, g) ∧ t (e x) g = .ok true g ∧ src1 (e x) g = .ok ((cs1 x).map (dv1 x)) yesH g ∧
      ∀ y ∈ cs1 x, a1 (dv1 x y) (wipeE (e x) vs1) g = some (e1 x y, g) ∧ t1 (e1 x y) g = .ok true g ∧ f (e1 x y) g = .ok (fv x y) g) → Ok G → G[l]? = some (.lst acc) → acc.length + (cs.flatMap fun x => (cs1 x).map (fv x)).length ≤ 100000 →
    lc2L a t src1 a1 t1 f vs1 l chk env (cs.map dv) G = .ok (.ref l) (G.set l (.lst (acc ++ cs.flatMap fun x => (cs1 x).map (fv x))))
  | [], acc, G, _, h, hl, _ => by
    rw [List.map_nil, lc2L, if_pos (hc _ h)]
    simp [set_same hl]
  | x :: xs, acc, G, ha, h, hl, hn => by
    obtain ⟨h1, h2, h3, h4⟩ := ha x List.mem_cons_self G h
    rw [List.map_cons, lc2L, if_pos (hc _ h), h1]
    dsimp only
    rw [h2]
    dsimp only
    rw [h3]
    dsimp only
    rw [List.flatMap_cons, List.length_append] at hn
    rw [lcIn_map (chk := yesH) (dv1 x) (e1 x) (fv x) Ok hset (fun _ _ => trivial) (cs1 x) acc G (fun y hy g hg => (ha x List.mem_cons_self g hg).2.2.2 y hy) h hl (by simp at hn ⊢; omega)]
    dsimp only
    have ih := lc2L_map (src1 := src1) (a1 := a1) (t1 := t1) (vs1 := vs1) dv e cs1 dv1 e1 fv Ok hset hc xs
    rw [ih (acc ++ (cs1 x).map (fv x)) _ (fun y hy g hg => ha y (List.mem_cons_of_mem _ hy) g hg) (hset _ _ h) (by rw [List.getElem?_set_self (lt_of hl)]) (by simp at hn ⊢; omega)]
    rw [List.flatMap_cons, List.set_set, List.append_assoc]
theorem agL_map {G : Hh} (dv : α → D) (e : α → Env') (p : α → Bool) (hc : chk G) : ∀ (cs : List α) (n : Nat), (∀ x ∈ cs, a (dv x) env G = some (e x, G) ∧ f (e x) G = .ok (.dat (.bool (p x))) G) → n + cs.length ≤ 100000 →
    agL a f chk env n (cs.map dv) G = .ok (.dat (.bool (cs.all p))) G
  | [], n, _, hn => by
    rw [List.map_nil, agL, if_pos hc]
    rfl
  | x :: xs, n, ha, hn => by
    obtain ⟨h1, h2⟩ := ha x List.mem_cons_self
    rw [List.map_cons, agL, if_pos ⟨hc, by simp at hn; omega⟩, h1]
    dsimp only
    rw [h2]
    cases hb : p x with
    | true =>
      dsimp only
      rw [agL_map dv e p hc xs (n + 1) (fun y hy => ha y (List.mem_cons_of_mem _ hy)) (by simp at hn ⊢; omega)]
      simp [hb]
    | false => simp [hb]
theorem eAllG_dat {src : IS} {vs : List Nat} {G G1 : Hh} (dv : α → D) (e : α → Env') (p : α → Bool) (cs : List α) (h : src env G = .ok (cs.map dv) chk G1) (hc : chk G1)
    (hx : ∀ x ∈ cs, a (dv x) (wipeE (cutX env) vs) G1 = some (e x, G1) ∧ f (e x) G1 = .ok (.dat (.bool (p x))) G1) (hn : cs.length ≤ 100000) : eAllG src a f vs env G = .ok (.dat (.bool (cs.all p))) G1 := by
  rw [eAllG_ok h, agL_map dv e p hc cs 0 hx (by omega)]
theorem tgL_map {G : Hh} (dv : α → D) (e : α → Env') (fv : α → D) (hc : chk G) : ∀ (cs : List α) (acc : List D), (∀ x ∈ cs, a (dv x) env G = some (e x, G) ∧ f (e x) G = .ok (fv x) G) → acc.length + cs.length ≤ 100000 →
    tgL a f chk env (cs.map dv) acc G = .ok (mkTup (acc ++ cs.map fv)) G
  | [], acc, _, hn => by
    rw [List.map_nil, tgL, if_pos ⟨hc, by simpa using hn⟩]
    simp
  | x :: xs, acc, ha, hn => by
    obtain ⟨h1, h2⟩ := ha x List.mem_cons_self
    rw [List.map_cons, tgL, if_pos ⟨hc, by simp at hn; omega⟩, h1]
    dsimp only
    rw [h2]
    dsimp only
    rw [tgL_map dv e fv hc xs (acc ++ [fv x]) (fun y hy => ha y (List.mem_cons_of_mem _ hy)) (by simp at hn ⊢; omega)]
    simp
theorem eTupG_dat {src : IS} {vs : List Nat} {G G1 : Hh} (dv : α → D) (e : α → Env') (fv : α → PyData) (cs : List α) (h : src env G = .ok (cs.map dv) chk G1) (hc : chk G1)
    (hx : ∀ x ∈ cs, a (dv x) (wipeE (cutX env) vs) G1 = some (e x, G1) ∧ f (e x) G1 = .ok (.dat (fv x)) G1) (hn : cs.length ≤ 100000) : eTupG src a f vs env G = .ok (.dat (.tuple (cs.map fv))) G1 := by
  rw [eTupG_ok h, tgL_map dv e (fun x => .dat (fv x)) hc cs [] hx (by simpa using hn), List.nil_append]
  have : cs.map (fun x => D.dat (fv x)) = (cs.map fv).map .dat := by simp
  rw [this, mkTup_map]
end
/-- what is equal is shown alike -/
theorem eqv_str {x : Str} : PyData.eqv (.str x) (.str x) = true := by
  unfold PyData.eqv
  exact beq_self_eq_true x
@[simp] theorem eqv_int {i j : Int} : PyData.eqv (.int i) (.int j) = (i == j) := by simp [PyData.eqv]
@[simp] theorem eqv_ss {x y : Str} : PyData.eqv (.str x) (.str y) = (x == y) := by simp [PyData.eqv]
@[simp] theorem depth_int {i : Int} : (PyData.int i).depth = 0 := by simp [PyData.depth]
@[simp] theorem depth_str {x : Str} : (PyData.str x).depth = 0 := by simp [PyData.depth]
@[simp] theorem depth_none : PyData.none.depth = 0 := by simp [PyData.depth]
@[simp] theorem depth_bool {b : Bool} : (PyData.bool b).depth = 0 := by simp [PyData.depth]
theorem depthAll_0 : ∀ {a : List PyData}, (∀ d ∈ a, d.depth = 0) → PyData.depthAll a = 0
  | [], _ => by simp [PyData.depthAll]
  | d :: r, h => by
    simp only [PyData.depthAll]
    rw [h d List.mem_cons_self, depthAll_0 fun x hx => h x (List.mem_cons_of_mem _ hx)]
    rfl
theorem eqv_nil : ∀ {a : List PyData}, PyData.eqv (.list a) (.list []) = a.isEmpty
  | [] => by simp [PyData.eqv, PyData.eqvAll]
  | _ :: _ => by simp [PyData.eqv, PyData.eqvAll]
theorem depth_lnil : (PyData.list []).depth = 1 := by simp [PyData.depth, PyData.depthAll]
/-- a list beside the empty one -/
theorem ne_nil {G : Hh} {l m : Nat} {xs : List D} {a : List PyData} (h1 : G[l]? = some (.lst xs)) (h2 : dats xs = some a) (h3 : G[m]? = some (.lst [])) : gNe (.ref l) (.ref m) G = some (.dat (.bool (!a.isEmpty)), G) := by
  rw [gNe_view (d := .list a) (e := .list []) (by simp [h1, h2]) (by simp [h3]), eqv_nil, depth_lnil]
  rw [if_pos (by omega)]
theorem eq_nil {G : Hh} {l m : Nat} {xs : List D} {a : List PyData} (h1 : G[l]? = some (.lst xs)) (h2 : dats xs = some a) (h3 : G[m]? = some (.lst [])) : gEq (.ref l) (.ref m) G = some (.dat (.bool a.isEmpty), G) := by
  rw [gEq_view (d := .list a) (e := .list []) (by simp [h1, h2]) (by simp [h3]), eqv_nil, depth_lnil]
  rw [if_pos (by omega)]
end DL

set_option Elab.async false
set_option linter.all false
set_option maxRecDepth 100000
set_option maxHeartbeats 2000000
namespace DL
open PySem PySem.Spec PyProof.Rows L2
open Classical

/-! ### a lambda without parameters, handed over ahead of one more value -/
section
variable {K : PySem.W.Frag} {T : TbT} {ρ : List Addr} {G : Hh} {H H2 : Hp}
theorem RG.tabs (rg : RG K T ρ G H) {P : Addr} {ps more : Array Value} (hP : H P = some (.tbl ps)) (keep : ∀ b o, b ≠ P → H b = some o → H2 b = some o) (hat : H2 P = some (.tbl (ps ++ more)))
    (back : ∀ b, H2 b = none → H b = none) (tab : ∀ p ∈ T, p.2.1 = P → TabO H2 P p.2.2) : RG K T ρ G H2 ∧ Ext ρ H ρ H2 := by
  have nt : ∀ b o, H b = some o → (∀ ps, o ≠ .tbl ps) → H2 b = some o := fun b o h t => keep b o (fun z => t ps (by rw [z, hP] at h; exact (Option.some.inj h).symm)) h
  have e : Ext ρ H ρ H2 := by
    refine ⟨⟨[], by simp, by simp⟩, fun b o h _ t => nt b o h t, fun b qs h => ?_, back⟩
    by_cases hb : b = P
    · subst hb
      rw [hP] at h
      cases h
      exact ⟨more, hat⟩
    · exact ⟨#[], by rw [keep b _ hb h]; simp⟩
  refine ⟨⟨rg.nd, rg.len, fun l a mo h1 h2 => ?_, fun p hp => ?_⟩, e⟩
  · have g := rg.ok l a mo h1 h2
    cases mo with
    | lst xs =>
      obtain ⟨vs, hv, r⟩ := g
      exact ⟨vs, nt a _ hv (fun _ z => nomatch z), e.reps rg r⟩
  · by_cases hb : p.2.1 = P
    · rw [hb]; exact tab p hp hb
    · have h0 := rg.tab p hp
      revert h0
      cases p.2.2 with
      | none =>
        rintro ⟨qs, h1, h2⟩
        exact ⟨qs, keep _ _ hb h1, h2⟩
      | some q =>
        rintro ⟨qs, h1, h2, h3⟩
        refine ⟨qs, keep _ _ hb h1, h2, fun pos cv hc => ?_⟩
        obtain ⟨cc, e1, e2⟩ := h3 pos cv hc
        exact ⟨cc, e1, nt _ _ e2 LamX.codeO_ne⟩
end
abbrev lamObj (X : Cx) (params : Arguments) (body : Expr) (scope : Scope) (pm : Value) (c' : Addr) (ctv : Value) : Obj :=
  PySem.W.kla_obj "<lambda>" (X.env.qual ++ "<lambda>") params body scope (cloFrom X.env.cells scope.names []) pm c' ctv
section
variable {X : Cx} {pins : List (Addr × Obj)} {σ : L2.St} {H : Hp} {s : Shared} {T : TbT} {ρ : List Addr} {G : Hh}
/-- the making of it -/
theorem clo_made {c P : Addr} {params : Arguments} {body : Expr} {scope : Scope} {pos : Pos} {E Q : Value → Shared → Prop} (I : Inv X pins σ H s) (rg : RG X.K T ρ G H) (TB : GxR.TabB X.base X.mg c P) (hcode : X.env.code = .ref c)
    (hT : TIn T c P (some (X.env.qual ++ "<lambda>"))) (hdef : defaultsOf params X.env = ([], [])) (hfree : ∀ y ∈ scope.names, y.2 = .free → ∃ c, X.env.cells.lookup y.1 = some c)
    (h : ∀ (f c' : Addr) (pm ctv : Value) (H1 : Hp) (t : Shared), Inv X pins σ H1 t → Ext ρ H ρ H1 → RG X.K T ρ G H1 → s.heap.objs.size ≤ f →
      t.heap.get? f = some (lamObj X params body scope pm c' ctv) → H1 f = none → H1 c' = some (LamX.CodeO c' (X.env.qual ++ "<lambda>")) → Q (.ref f) t) :
    wpAny (model X.prog X.w) X.A (eval (.Lambda params body scope pos) X.env) Q E s := by
  obtain ⟨ps, tP, tr, am⟩ : LamX.TabS H P (X.env.qual ++ "<lambda>") := rg.tab _ hT.1
  have bA : s.heap.BuiltinsAt X.mg P := TB.bm.keeps I.bk
  have tO : s.heap.get? P = some { cls := .none, data := .fields ps } := I.hok P _ tP
  refine PySem.W.kla_eval hdef ?_
  match hc : codeAmong pos ps.toList with
  | some cv =>
    obtain ⟨c', rfl, isC⟩ := am pos cv hc
    refine PySem.W.kla_makeFunctionHit (mg := X.mg) (c := c) (P := P) (ps := ps) (closure_ok hfree) I.ok.glob (I.mod.glob.keeps I.bk) hcode (TB.code.keeps I.bk) tO tr hc bA fun ctv hh tk grows lesser => ?_
    exact h hh.objs.size c' ((X.mg "__name__").getD .none) ctv H _ (I.kept fun b o e => Heap.get?_push_of_some _ (grows b o e)) Ext.refl rg lesser (Heap.get?_push_size _ rfl) (I.hok.fresh lesser) isC
  | none =>
    refine PySem.W.kla_makeFunction (mg := X.mg) (c := c) (P := P) (ps := ps) (closure_ok hfree) I.ok.glob (I.mod.glob.keeps I.bk) hcode (TB.code.keeps I.bk) tO tr hc TB.gP bA fun c' ctv hh tk grows above under rec fin => ?_
    obtain ⟨_, oc, vs, t, e, hoc, hd, hv⟩ := rec
    cases e
    have free : H c' = none := I.hok.fresh above
    have lesser : s.heap.objs.size ≤ hh.objs.size := Nat.le_trans above (Nat.le_of_lt under)
    have nPc : P ≠ c' := ne_of_none tP free
    have J := LamX.inv_table (t' := tk) (more := #[rawInt pos.line, rawInt pos.col, .ref c']) (h' := hh.push (lamObj X params body scope ((X.mg "__name__").getD .none) c' ctv)) I tP
      (fun b o nb e => Heap.get?_push_of_some _ (grows b o nb e)) (Heap.get?_push_of_some _ fin) above ⟨oc, vs, t, Heap.get?_push_of_some _ hoc, hd, hv⟩
    have kp : ∀ b o, b ≠ P → H b = some o → upd (upd H P (.tbl (ps ++ #[rawInt pos.line, rawInt pos.col, .ref c']))) c' (LamX.CodeO c' (X.env.qual ++ "<lambda>")) b = some o := fun b o nb e => by
      rw [upd_ne (ne_of_none e free), upd_ne nb]; exact e
    have at' : upd (upd H P (.tbl (ps ++ #[rawInt pos.line, rawInt pos.col, .ref c']))) c' (LamX.CodeO c' (X.env.qual ++ "<lambda>")) P = some (.tbl (ps ++ #[rawInt pos.line, rawInt pos.col, .ref c'])) := by
      rw [upd_ne nPc, upd_same]
    have eL : (ps ++ #[rawInt pos.line, rawInt pos.col, Value.ref c']).toList = ps.toList ++ [rawInt pos.line, rawInt pos.col, .ref c'] := by simp
    have new : LamX.TabS (upd (upd H P (.tbl (ps ++ #[rawInt pos.line, rawInt pos.col, .ref c']))) c' (LamX.CodeO c' (X.env.qual ++ "<lambda>"))) P (X.env.qual ++ "<lambda>") := by
      refine ⟨_, at', by rw [eL]; exact PySem.TriplesOk_snoc _ _ _ _ tr, fun p' cv hcv => ?_⟩
      rw [eL] at hcv
      rcases LamX.among_app _ tr hcv with z | z
      · obtain ⟨c0, e1, e2⟩ := am p' cv z
        exact ⟨c0, e1, kp _ _ (fun z => LamX.codeO_ne ps (by rw [z, tP] at e2; exact (Option.some.inj e2).symm)) e2⟩
      · exact ⟨c', z, upd_same⟩
    obtain ⟨rg2, ex2⟩ := rg.tabs tP kp at' (fun b e => by
      by_cases h1 : b = c'
      · rw [h1]; exact free
      · rw [upd_ne h1] at e
        by_cases h2 : b = P
        · rw [h2, upd_same] at e; cases e
        · rw [upd_ne h2] at e; exact e) fun p hp e => by rw [hT.2 p hp e]; exact new
    refine h hh.objs.size c' ((X.mg "__name__").getD .none) ctv _ _ J ex2 rg2 lesser (Heap.get?_push_size _ rfl) ?_ upd_same
    rw [upd_ne (Nat.ne_of_gt under), upd_ne (Nat.ne_of_gt (Nat.lt_of_lt_of_le (Heap.lt_size tO) lesser))]
    exact I.hok.fresh lesser
end

/-! ### the call of it, in the def that got it -/
noncomputable def eAct (i : Nat) (C0 : List Addr → Hp → V → Prop) (th : Hh → RE) : ES := fun env G => if env[i]? = some (.clo C0) then th G else .bad
/-- what the slot that holds it says: the function at f, its code at c', what it has captured -/
def cloP (K : PySem.W.Frag) (f c' : Addr) (q : Str) (env0 : Env') (σ : L2.St) : List Addr → Hp → V → Prop := fun ρ H v => v = .ref f ∧ H c' = some (LamX.CodeO c' q) ∧ EnvR K [] H ρ env0 σ
section
variable {X : Cx} {pins : List (Addr × Obj)} {σ : L2.St} {H : Hp} {s : Shared} {T : TbT}
theorem de_act {Ng : List Str} {qg : Str} {sg : Scope} {g f c' : Addr} {cdg pm ctv : Value} {params : Arguments} {body : Expr} {scope : Scope} {k i : Nat} {a : Str} {pn : List (Addr × Obj)} {xe : Value → Shared → Prop} {W : WX} {Eg : XK} {fb : ES} {env0 : Env'} {p1 p2 : Pos}
    (I : Inv X pins σ H s) (L : LamX.LamS X.env.scope scope) (hf : s.heap.get? f = some (lamObj X params body scope pm c' ctv)) (hfn : H f = none) (hfr : f ∉ frs X.stack)
    (hbind : bindArgs (PySem.W.kla_fn "<lambda>" (X.env.qual ++ "<lambda>") params body scope (cloFrom X.env.cells scope.names []) pm (.ref c') ctv) ⟨[], []⟩ = pure [])
    (tk : Takes ((cxOf (L2.CX X.prog X.w) X.prog X.w X.K X.mg X.base Ng qg sg g cdg X.A X.stack s H Eg).tr pn xe) W)
    (hr : Room (k + 1) (X.A.deeper (envOfC qg sg s.heap.objs.size g cdg))) (hgd : X.A.guards = some [])
    (hbody : ∀ (A : Around) (outer : List Env) (s : Shared) (H : Hp) (E : XK), Room k (A.deeper (LamX.lamEnv X scope s.heap.objs.size f c')) → A.guards = some [] → DE (LamX.lamCx X A outer s H E scope f c') T (WE' E) body fb)
    (hN : Ng[i]? = some a) (hv : Vis sg a) (hdb : (a == ("__debug__" : Str)) = false := by decide) (hcd : (a == ("__classdict__" : Str)) = false := by decide) :
    DE ((cxOf (L2.CX X.prog X.w) X.prog X.w X.K X.mg X.base Ng qg sg g cdg X.A X.stack s H Eg).tr pn xe) T W (.Call (.Name a p1) [] [] p2) (eAct i (cloP X.K f c' (X.env.qual ++ "<lambda>") env0 σ) (fb env0)) := by
  refine ⟨fun pz sz σz Hz Q Iz ⟨ρ, env, G, sr, q⟩ => ?_⟩
  unfold eAct at q
  by_cases hs : env[i]? = some (.clo (cloP X.K f c' (X.env.qual ++ "<lambda>") env0 σ))
  case neg => rw [if_neg hs] at q; exact q.elim
  rw [if_pos hs] at q
  obtain ⟨ov, h1, v, rfl, h2⟩ := sr.ev.ok i _ hs
  obtain ⟨rfl, hco, ev0⟩ := h2 ρ Hz Ext.refl
  refine wpAny_Call_Name_kw (thn ((pe_var (pos := p1) (i := i) hN hv hdb hcd).run pz sz σz Hz (fun v H1 => v = .ref f ∧ H1 = Hz) Iz ⟨.ref f, h1, rfl, rfl⟩) fun u sy ⟨v, H1, Iy, ru, eu⟩ => ?_)
  obtain ⟨rfl, rfl⟩ := eu
  obtain rfl : u = Value.ref f := ru
  have of1 : sy.heap.get? f = some (lamObj X params body scope pm c' ctv) := Iy.base.keep f _ hf hfn hfr (fun z => nomatch (show f ∈ ([] : List Addr) from z))
  refine PySem.W.callWith_F0 ⟨_, _, _, _, of1⟩ ?_
  have un : Un (frs X.stack) [] H H1 s.heap sy.heap := Iy.base
  obtain ⟨⟨oc, vs, t, hoc, hdc, hvc⟩, _, _⟩ := Iy.hok c' _ hco
  have rc : codeAny (model X.prog X.w) (X.A.deeper (envOfC qg sg s.heap.objs.size g cdg)) (.call (.ref f) ⟨[], []⟩) (CR (L2.CX X.prog X.w) (envOfC qg sg s.heap.objs.size g cdg :: X.stack) X.prog X.w H1 sy Q (WE W σz)) sy := by
    refine PySem.W.kla_callFunE hr.depth of1 rfl L.co L.gen rfl ⟨c', oc, vs, t, rfl, hoc, hdc, hvc⟩ ?_
    rw [hbind]
    refine wpAny_pure (wpAny_newFunctionEnv (fun y hy => (L.own y hy).2) (fun y hy => absurd hy (by simp)) (fun hn nsn sb => ⟨Iy.nolimit.fresh _ sb, ?_⟩) L.kind)
    show codeAny _ _ (.expr body (LamX.lamEnv X scope sy.heap.objs.size f c')) _ _
    have kp : ∀ b o, sy.heap.get? b = some o → hn.get? b = some o := fun b o e => sb.extBut b o (Nat.ne_of_lt (Heap.lt_size e)) (Heap.get?_push_of_some _ e)
    have J := LamX.lam_start2 (A := X.A.deeper (envOfC qg sg s.heap.objs.size g cdg)) (outer := envOfC qg sg s.heap.objs.size g cdg :: X.stack) (E := WE W σz) (f := f) (c' := c') (tk := sy.toks + ([] : List (Str × Value)).length) I L Iy.env0 hr.hd un nsn kp
    refine PySem.W.kla_codeExpr (wpAny_mono ((hbody _ _ sy H1 (WE W σz) (hr.deeper _) hgd).run [] _ _ H1 Q J ⟨ρ, env0, G, ⟨sr.rg, ev0⟩, ?_⟩) (fun v s' hq => ?_) fun e s' hq => hq)
    · revert q
      cases fb env0 G with
      | ok d G2 => exact fun q => q
      | ex c w G2 => exact fun q => q
      | bad => exact fun q => q
    · obtain ⟨w', H', J', rv, q'⟩ := hq
      exact ⟨w', H', J'.os, J'.bare, J'.base, J'.hok, rv, q'⟩
  refine wpAny_call (codeAny_mono rc fun r s' hq => ?_)
  cases r with
  | error e => exact passAt tk σz pz H1 sy e s' Iy hq
  | ok fl =>
    cases fl with
    | ret u => exact Iy.after hq
    | next => exact False.elim hq
    | brk => exact False.elim hq
    | cont => exact False.elim hq
end

/-! ### the def that gets it -/
/-- what such a def does, whatever the slot of the lambda says of it -/
noncomputable def allC (F : (List Addr → Hp → V → Prop) → RE) : RE := if h : ∃ r, ∀ C, F C = r then h.choose else .bad
theorem allC_eq {F : (List Addr → Hp → V → Prop) → RE} {r : RE} (h : ∀ C, F C = r) : allC F = r := by
  have hx : ∃ r, ∀ C, F C = r := ⟨r, h⟩
  unfold allC
  rw [dif_pos hx]
  exact (hx.choose_spec (fun _ _ _ => True)).symm.trans (h _)
theorem of_allC {F : (List Addr → Hp → V → Prop) → RE} (h : allC F ≠ .bad) (C) : allC F = F C := by
  unfold allC at h ⊢
  split
  · rename_i hx
    exact (hx.choose_spec C).symm
  · rename_i hx
    rw [dif_neg hx] at h
    exact absurd rfl h
def fnOut (body : SS) (env : Env') : Hh → RE := fun G => match body env G with
  | .nx _ G' => .ok (.dat .none) G'
  | .rt d G' => .ok d G'
  | .ex c w _ G' => .ex c w G'
  | _ => .bad
/-- (call, thing): N names in all -/
noncomputable def fnH (N : Nat) (body : (List Addr → Hp → V → Prop) → (Hh → RE) → SS) (th : Hh → RE) (d : D) : Hh → RE := fun G => allC fun C => fnOut (body C th) (.clo C :: .d d :: List.replicate (N - 2) .no) G
/-- the lambda, its one fellow: f2 -/
def eThunk (sem : (Hh → RE) → D → Hh → RE) (fb : ES) (f2 : AS) : ES := fun env G => match f2 env G with
  | .ok [d] G1 => sem (fb (cutX env)) d G1
  | .ex c w G1 => .ex c w G1
  | _ => .bad
section
variable (P : Program) (w : World) (K : PySem.W.Frag) (mg : Str → Option Value) (base : Heap) (T : TbT)
/-- x(call, thing) does with what it is given what body says -/
def HasH (x : Str) (st : Stmt) (a : Str) (N : List Str) (k : Nat) (body : (List Addr → Hp → V → Prop) → (Hh → RE) → SS) : Prop :=
  ∃ (g : Addr) (fd : FuncData) (t : Str), Fun K x x st g fd ∧ mg x = some (.ref g) ∧ FnScope N [a, t] (defScope st) ∧ N[0]? = some a ∧ Vis (defScope st) a ∧ (a == ("__debug__" : Str)) = false ∧ (a == ("__classdict__" : Str)) = false ∧ Binds K fd [a, t] [] ∧
    ∀ (C : List Addr → Hp → V → Prop) (th : Hh → RE) (cdv : Value) (A : Around) (outer : List Env) (s : Shared) (H : Hp) (E : XK), Room k (A.deeper (envOfC x (defScope st) s.heap.objs.size g cdv)) → (A.deeper (envOfC x (defScope st) s.heap.objs.size g cdv)).guards = some [] → PySem.W.codeIn K cdv x = true →
      (∀ {W : WX} {pn : List (Addr × Obj)} {xe : Value → Shared → Prop} {p1 p2 : Pos}, Takes ((cxOf (L2.CX P w) P w K mg base N x (defScope st) g cdv A outer s H E).tr pn xe) W →
        DE ((cxOf (L2.CX P w) P w K mg base N x (defScope st) g cdv A outer s H E).tr pn xe) T W (.Call (.Name a p1) [] [] p2) (eAct 0 C th)) →
      DSs (cxOf (L2.CX P w) P w K mg base N x (defScope st) g cdv A outer s H E) T (WE' E) (defBody st) (body C th)
end
section
variable {X : Cx} {T : TbT} {W : WX} {x a : Str} {st : Stmt} {N : List Str} {k : Nat} {body : (List Addr → Hp → V → Prop) → (Hh → RE) → SS} {params : Arguments} {lb e2 : Expr} {scope : Scope} {fb : ES} {f2 : AS} {p lpos pos : Pos} {c Pt : Addr}
theorem de_thunk (h : HasH X.prog X.w X.K X.mg X.base T x st a N (k + 1) body) (tk : Takes X W) (hr : Room (k + 2) X.A) (hgd : X.A.guards = some []) (hg : Gl X x) (TB : GxR.TabB X.base X.mg c Pt) (hcode : X.env.code = .ref c)
    (hT : TIn T c Pt (some (X.env.qual ++ "<lambda>"))) (L : LamX.LamS X.env.scope scope) (hdef : defaultsOf params X.env = ([], []))
    (hbind : ∀ (q : Str) (cl : List (Str × Addr)) (pm cv ctv : Value), bindArgs (PySem.W.kla_fn "<lambda>" q params lb scope cl pm cv ctv) ⟨[], []⟩ = pure [])
    (hbody : ∀ (f c' : Addr) (A : Around) (outer : List Env) (s : Shared) (H : Hp) (E : XK), Room k (A.deeper (LamX.lamEnv X scope s.heap.objs.size f c')) → A.guards = some [] → DE (LamX.lamCx X A outer s H E scope f c') T (WE' E) lb fb)
    (h2 : DA X T W [e2] f2) (hdb : (x == ("__debug__" : Str)) = false := by decide)
    (he : starEach (.Lambda params lb scope lpos :: [e2]) X.env = (false, eval (.Lambda params lb scope lpos) X.env) :: starEach [e2] X.env := by rfl) (hpl : (backTo pos (starEach [e2] X.env)).any (·.1) = false := by rfl) {n : Nat} (hn : N.length = n := by rfl) :
    DE X T W (.Call (.Name x p) [.Lambda params lb scope lpos, e2] [] pos) (eThunk (fnH n body) fb f2) := by
  subst hn
  obtain ⟨g, fd, t, F, hm, S, hN0, hva, hd1, hd2, hbn, hG⟩ := h
  refine ⟨fun pins s σ H Q I ⟨ρ, env, G, sr, q⟩ => ?_⟩
  refine wpAny_Call_Name_kw (ld_glob I hg hm ?_ hdb)
  refine PySem.W.callWith_K (h₀ := X.base) I.ok.mod.kin F.kp ?_ he hpl
  rw [he]
  show wpAny _ _ (spliced ((false, eval (.Lambda params lb scope lpos) X.env) :: backTo pos (starEach [e2] X.env))) _ _ s
  refine Calls.spliced_cons (clo_made I sr.rg TB hcode hT hdef (L.has I.ok) fun f c' pm ctv H1 s1 I1 x1 rg1 hsz hf hfn hco => ?_)
  have fl : f ≠ X.env.locals := fun z => by
    have := I.lt
    rw [← z] at this
    exact Nat.lt_irrefl _ (Nat.lt_of_lt_of_le this hsz)
  have ff : f ∉ X.fs := I.nofs hsz
  have I1' : Inv X ((f, lamObj X params lb scope pm c' ctv) :: pins) σ H1 s1 := I1.pins_of fun y hy => by
    rcases List.mem_cons.mp hy with e | e
    · subst e
      exact ⟨hf, hfn, fl, ff, fun v z => nomatch z⟩
    · exact I1.pin y (List.mem_append_right _ e)
  have sr1 : SR X T ρ env G σ H1 := ⟨rg1, x1.envr sr.rg sr.ev⟩
  have q1 := q
  refine wpAny_mono (h2.run pos _ s1 σ H1 (fun vs H2 => ∃ ρ2 G2 d v, vs = [v] ∧ Ext ρ H1 ρ2 H2 ∧ RG X.K T ρ2 G2 H2 ∧ Rep X.K H2 ρ2 d v ∧ PostE X T W σ ρ2 H2 (fnH N.length body (fb (cutX env)) d G2) Q) I1' ⟨ρ, env, G, sr1, ?_⟩) (fun us s2 ⟨vs, H2, I2, rv, ρ2, G2, d, v, ev, x2, rg2, rd, q2⟩ => ?_) fun _ _ z => z
  · unfold eThunk at q
    revert q
    cases f2 env G with
    | ok ds G1 =>
      intro q
      match ds, q with
      | [], q => exact q.elim
      | [d], q =>
        intro vs ρ2 H2 e2 rg2 rs
        obtain ⟨v, r, rfl, rd, rn⟩ := rs
        have rn : r = [] := rn
        subst rn
        exact ⟨ρ2, G1, d, v, rfl, e2, rg2, rd, PostE.ext (x1.trans e2) q⟩
      | _ :: _ :: _, q => exact q.elim
    | ex c w G1 => exact fun q => PostX.ext x1 q
    | bad => exact fun q => q
  subst ev
  refine ⟨I2.kIn, ?_⟩
  obtain ⟨hf2, hfn2, _, _, _⟩ := I2.pin (f, lamObj X params lb scope pm c' ctv) (List.mem_append_right _ List.mem_cons_self)
  have hfr2 : f ∉ frs X.stack := fun z => by
    rcases List.mem_cons.mp (I2.stkSub _ z) with e | e
    · exact fl e
    · exact ff e
  have hco2 : H2 c' = some (LamX.CodeO c' (X.env.qual ++ "<lambda>")) := x2.keep c' _ hco (rg1.notin hco codeO_lst) LamX.codeO_ne
  have ev2 : EnvR X.K [] H2 ρ2 (cutX env) σ := (x2.envr rg1 sr1.ev).cut
  obtain ⟨oc, od, kV, doc, pm2, an, cdv, ct, osl, efd, lk, hcd⟩ := F.ex
  have ne : fnH N.length body (fb (cutX env)) d G2 ≠ .bad := fun z => by
    rw [z] at q2; exact q2.elim
  have q3 := q2
  unfold fnH at ne q3
  rw [of_allC ne (cloP X.K f c' (X.env.qual ++ "<lambda>") (cutX env) σ)] at q3
  obtain ⟨u2, rfl, ru⟩ : ∃ u2, us = [u2] ∧ RelV v u2 := by
    cases rv with
    | cons r rn => cases rn; exact ⟨_, rfl, r⟩
  have rc : codeAny (model X.prog X.w) X.A (.call (.ref g) ⟨[.ref f, u2], []⟩) (CR (L2.CX X.prog X.w) X.stack X.prog X.w H2 s2 Q (WE W σ)) s2 := by
    have e0 := I2.env0
    have KX : X.K.In s2.heap := e0.mod.kin.keeps fun b o e => (e0.bs b o e).1
    have lm : s2.heap.NoLimit := e0.mod.nolimit.keeps fun b o e => (e0.bs b o e).1
    have hbt := hbn s2 [.ref f, u2] I2.kIn rfl
    rw [List.append_nil] at hbt
    subst efd
    have hkind : ∀ y ∈ [a, t].zip [Value.ref f, u2], (defScope st).names.lookup y.1 = some .local ∨ ((defScope st).names.lookup y.1 = some .cell ∧ ((cellsFrom (s2.heap.objs.size + 1) (defScope st).names []).lookup y.1).isSome = true) := fun ⟨n, v⟩ hy => by
      rcases S.par n (List.of_mem_zip hy).1 with q | q
      · exact .inl q
      · exact .inr ⟨q, PySem.W.cellsFrom_some _ _ _ (.inl q)⟩
    refine codeAny_call_function hr.depth (KX _ _ lk) rfl S.co S.gen rfl (PySem.W.codeRec_of KX hcd) (hbt _ _ _ _ ?_)
    refine wpAny_newFunctionEnv_cells S.kind hkind fun env' he' s3 xx => ?_
    subst he'
    refine ⟨lm.keeps xx.toInCall.keep, codeAny_func ?_⟩
    have ht := hG (cloP X.K f c' (X.env.qual ++ "<lambda>") (cutX env) σ) (fb (cutX env)) cdv X.A X.stack s2 H2 (WE W σ) (hr.deeper _) hgd hcd fun {W'} {pn} {xe} {p1} {p2} tk' =>
      de_act (i := 0) I2 L hf2 hfn2 hfr2 (hbind _ _ _ _ _) tk' (hr.deeper _) hgd (fun A outer s H E r gd => hbody f c' A outer s H E r gd) hN0 hva hd1 hd2
    have J : Inv (cxOf (L2.CX X.prog X.w) X.prog X.w X.K X.mg X.base N x (defScope st) g cdv X.A X.stack s2 H2 (WE W σ)) [] (L2.start N [V.ref f, v]) H2 s3 := inv_start S hr.hd e0 rfl (.cons rfl (.cons ru .nil)) xx
    have hl : 2 ≤ N.length := by
      have := congrArg List.length S.pre
      rw [List.length_take] at this
      simp at this
      omega
    have er : EnvR X.K [] H2 ρ2 (.clo (cloP X.K f c' (X.env.qual ++ "<lambda>") (cutX env) σ) :: .d d :: List.replicate (N.length - 2) .no) (L2.start N [V.ref f, v]) := by
      unfold L2.start
      refine ⟨by simp, fun i z hi => ?_⟩
      match i, hi with
      | 0, hi =>
        cases hi
        exact ⟨_, rfl, V.ref f, rfl, fun ρ3 H3 e3 => ⟨rfl, e3.keep c' _ hco2 (rg2.notin hco2 codeO_lst) LamX.codeO_ne, e3.envr rg2 ev2⟩⟩
      | 1, hi =>
        cases hi
        exact ⟨_, rfl, v, rfl, rd⟩
      | i + 2, hi =>
        have hi : (List.replicate (N.length - 2) Sl.no)[i]? = some z := hi
        rw [List.getElem?_replicate] at hi
        split at hi
        · rename_i hlt
          cases hi
          refine ⟨none, ?_, trivial⟩
          show (List.replicate (N.length - 2) none)[i]? = some none
          rw [List.getElem?_replicate, if_pos hlt]
        · cases hi
    have hq : tS (cxOf (L2.CX X.prog X.w) X.prog X.w X.K X.mg X.base N x (defScope st) g cdv X.A X.stack s2 H2 (WE W σ)) T (WE' (WE W σ)) (body (cloP X.K f c' (X.env.qual ++ "<lambda>") (cutX env) σ) (fb (cutX env))) { nx := fun _ H' => Q .non H', rt := Q } (L2.start N [V.ref f, v]) H2 := by
      refine ⟨ρ2, _, G2, ⟨rg2, er⟩, ?_⟩
      unfold fnOut at q3
      split at q3
      · rename_i env' G' e
        rw [e]
        exact fun σ' ρ' H' e1 sr1 => q3 .non ρ' H' e1 sr1.rg rfl
      · rename_i d G' e
        rw [e]
        exact q3
      · rename_i c w env' G' e
        rw [e]
        exact fun σ' ρ' H' dd vw e1 sr1 => q3 ρ' H' dd vw e1 sr1.rg
      · exact q3.elim
    refine wpAny_mono (ht.run [] s3 (L2.start N [V.ref f, v]) H2 _ J hq) (fun fl s' hs => ?_) fun e s' hs => hs
    have fin : ∀ {σ' : L2.St} {H' : Hp} {v : V} {u : Value}, Inv (cxOf (L2.CX X.prog X.w) X.prog X.w X.K X.mg X.base N x (defScope st) g cdv X.A X.stack s2 H2 (WE W σ)) [] σ' H' s' → RelV v u → Q v H' → CE X.stack X.prog X.w H2 s2 Q u s' :=
      fun {σ' H' v u} J rv q => ⟨v, H', J.os, J.bare, J.base, J.hok, rv, q⟩
    cases fl with
    | ret u =>
      obtain ⟨v, σ', H', J, rv, q⟩ := hs
      exact fin J rv q
    | next =>
      obtain ⟨σ', H', J, q⟩ := hs
      exact fin (v := V.non) (u := Value.none) J rfl q
    | brk =>
      obtain ⟨_, _, _, q⟩ := hs
      exact False.elim q
    | cont =>
      obtain ⟨_, _, _, q⟩ := hs
      exact False.elim q
  refine wpAny_call (codeAny_mono rc fun r s' hq => ?_)
  cases r with
  | error e => exact passAt tk σ _ H2 s2 e s' I2 hq
  | ok fl =>
    cases fl with
    | ret u =>
      obtain ⟨v', H', I3, r3, q3⟩ := I2.after hq
      exact ⟨v', H', I3.pins_of fun y hy => I3.pin y (List.mem_append_right _ (List.mem_cons_of_mem _ hy)), r3, q3⟩
    | next => exact False.elim hq
    | brk => exact False.elim hq
    | cont => exact False.elim hq
end
section
variable {P : Program} {w : World} {K : PySem.W.Frag} {mg : Str → Option Value} {base : Heap} {T : TbT} {x a t : Str} {st : Stmt} {N : List Str} {j k : Nat} {body : (List Addr → Hp → V → Prop) → (Hh → RE) → SS}
theorem HasH.mono (h : HasH P w K mg base T x st a N j body) (hjk : j ≤ k) : HasH P w K mg base T x st a N k body := by
  obtain ⟨g, fd, t, F, hm, S, h0, hv, d1, d2, hb, hG⟩ := h
  exact ⟨g, fd, t, F, hm, S, h0, hv, d1, d2, hb, fun C th cdv A outer s H E hr => hG C th cdv A outer s H E (hr.mono hjk)⟩
theorem HasH.of (F : HasF K mg x st) (S : FnScope N [a, t] (defScope st)) (hb : BindsH x st [a, t]) (h0 : N[0]? = some a) (hv : Vis (defScope st) a)
    (hbody : ∀ (C : List Addr → Hp → V → Prop) (th : Hh → RE) (g : Addr) (cdv : Value) (A : Around) (outer : List Env) (s : Shared) (H : Hp) (E : XK), Room k (A.deeper (envOfC x (defScope st) s.heap.objs.size g cdv)) → (A.deeper (envOfC x (defScope st) s.heap.objs.size g cdv)).guards = some [] →
      (∀ {W : WX} {pn : List (Addr × Obj)} {xe : Value → Shared → Prop} {p1 p2 : Pos}, Takes ((cxOf (L2.CX P w) P w K mg base N x (defScope st) g cdv A outer s H E).tr pn xe) W →
        DE ((cxOf (L2.CX P w) P w K mg base N x (defScope st) g cdv A outer s H E).tr pn xe) T W (.Call (.Name a p1) [] [] p2) (eAct 0 C th)) →
      DSs (cxOf (L2.CX P w) P w K mg base N x (defScope st) g cdv A outer s H E) T (WE' E) (defBody st) (body C th))
    (d1 : (a == ("__debug__" : Str)) = false := by decide) (d2 : (a == ("__classdict__" : Str)) = false := by decide) : HasH P w K mg base T x st a N k body := by
  obtain ⟨g, fd, hF, hm⟩ := F
  exact ⟨g, fd, t, hF, hm, S, h0, hv, d1, d2, hF.binds hb, fun C th cdv A outer s H E hr hg _ => hbody C th g cdv A outer s H E hr hg⟩
/-- what leaves a lambda's body is taken -/
theorem takes_lam {X : Cx} {A : Around} {outer : List Env} {s : Shared} {H : Hp} {E : XK} {scope : Scope} {f c' : Addr} : Takes (LamX.lamCx X A outer s H E scope f c') (WE' E) := takes_of rfl rfl rfl rfl
end
end DL

set_option Elab.async false
set_option linter.all false
set_option maxRecDepth 100000
set_option maxHeartbeats 2000000
namespace DL
open PySem PySem.Spec PyProof.Rows L2
open Classical

/-! ### xs[::-1] -/
def gRev (x : D) (G : Hh) : Option (D × Hh) := match x with
  | .ref l => (match G[l]? with
    | some (.lst xs) => some (.ref G.length, G ++ [.lst xs.reverse])
    | none => none)
  | _ => none
section
variable {X : Cx} {T : TbT} {W : WX} {a : Expr} {f : ES} {p1 p2 p3 pos : Pos} {k : Nat}
theorem de_rev (ha : DE X T W a f) : DE X T W (.Subscript a (.Slice none none (some (.UnaryOp .USub (.Constant (.int 1) k p1) p2)) p3) pos) (eUn gRev f) :=
  PE_imp (pe_revL ha) fun σ H Q ⟨ρ, env, G, sr, q⟩ => by
    refine ⟨ρ, env, G, sr, ?_⟩
    unfold eUn eThen at q
    cases e : f env G with
    | ex c w G1 => rw [e] at q; exact q
    | bad => rw [e] at q; exact q
    | ok x G1 =>
      rw [e] at q
      intro v ρ1 H1 e1 rg1 r1
      dsimp only at q
      unfold gRev at q
      cases x with
      | ref l =>
        dsimp only at q
        split at q
        · rename_i xs hx
          obtain ⟨b, hb, rfl⟩ := r1
          obtain ⟨vs, hv, rv⟩ := rg1.ok l b _ hb hx
          exact ⟨b, vs, rfl, SqL.of hv, fun p hp => new_lst rg1 hp rv.reverse fun v2 ρ2 H2 e2 rg2 r2 => q v2 ρ2 H2 (e1.trans e2) rg2 r2⟩
        · exact q.elim
      | _ => exact q.elim
end

/-! ### a def that has not been reached -/
def badF : FS := fun _ _ => .bad
theorem Has.bad {P : Program} {w : World} {K : PySem.W.Frag} {mg : Str → Option Value} {base : Heap} {T : TbT} {x : Str} {st : Stmt} {ps : List Str} {k : Nat} (F : HasF K mg x st) (hb : BindsH x st ps) : Has P w K mg base T x ps k badF := by
  obtain ⟨a, fd, hF, hm⟩ := F
  exact ⟨a, fd, hm, hF.kp, hF.binds hb, ⟨fun A outer s H args us vs Q E ρ G ds hr hgd e0 hbt r hl rg rs hsp => hsp.elim⟩⟩
theorem HasC.f {K : PySem.W.Frag} {T : TbT} {mg : Str → Option Value} {tg : Option Str} {x : Str} {st : Stmt} (F : HasC K mg T tg x st) : HasF K mg x st := by
  obtain ⟨a, oc, od, kV, doc, pm, an, c, Pt, ct, osl, l, hc, hk, hm, hT⟩ := F
  exact ⟨a, _, fun_mk l hc hk, hm⟩

/-! ### a written dict from texts to defs -/
/-- x is a dict of the top that holds these -/
def KDx (K : PySem.W.Frag) (w : World) (mg : Str → Option Value) (x : Str) (kvs : List (Str × Addr)) : Prop :=
  ∃ a es n, mg x = some (.ref a) ∧ KDict K w a es n ∧ ∀ z, PySem.W.nsIn K a z = some ((kvs.lookup z).map Value.ref)
def eKget (kvs : List (Str × Addr)) (f : ES) : ES := fun env G => match f env G with
  | .ok (.dat (.str z)) G1 => (match kvs.lookup z with
    | some a => .ok (.obj a) G1
    | none => .ok (.dat .none) G1)
  | .ok _ _ => .bad
  | .ex c w G1 => .ex c w G1
  | .bad => .bad
section
variable {X : Cx} {T : TbT} {W : WX} {x : Str} {e : Expr} {f : ES} {p apos cpos : Pos} {kvs : List (Str × Addr)}
theorem de_kget (h : KDx X.K X.w X.mg x kvs) (hg : Gl X x) (he : DE X T W e f) (m : M1 X (.Name x p) "get" apos e cpos) (hdb : (x == ("__debug__" : Str)) = false := by decide) :
    DE X T W (.Call (.Attribute (.Name x p) "get" apos) [e] [] cpos) (eKget kvs f) := by
  obtain ⟨a, es, n, hm, D, hn⟩ := h
  refine ⟨fun pins s σ H Q I ⟨ρ, env, G, sr, q⟩ => ?_⟩
  refine wpAny_Call_method m.base m.few m.line PySem.F.plainAttrs_dict PySem.F.slot_dict_get PySem.F.type_dict_get (ld_glob I hg hm ?_ hdb)
  refine ⟨kd_type D I, fun b e => ?_, ?_⟩
  · cases e
    exact ⟨_, I.kIn _ _ D.at_, rfl⟩
  rw [m.trees]
  refine Calls.callWith_builtin rfl (Calls.evalArgs_plain (Calls.spliced_cons (thn (he.run pins s σ H (fun y H2 => ∃ ρ2 G2 z, y = .str z ∧ RG X.K T ρ2 G2 H2 ∧ ∀ d v, Rep X.K H2 ρ2 d v → (match kvs.lookup z with
    | some a => d = .obj a
    | none => d = .dat .none) → Q v H2) I ⟨ρ, env, G, sr, ?_⟩) fun u s2 ⟨y, H2, I2, ry, ρ2, G2, z, ey, rg2, q2⟩ => Calls.spliced_nil ?_)))
  · unfold eKget at q
    revert q
    cases f env G with
    | ex c w G1 => exact fun q => q
    | bad => exact fun q => q
    | ok d G1 =>
      cases d with
      | dat d =>
        cases d with
        | str z =>
          intro q v ρ1 H1 e1 rg1 r1
          refine ⟨ρ1, G1, z, r1, rg1, fun d v rd hd => ?_⟩
          dsimp only at q
          cases hl : kvs.lookup z with
          | some a =>
            rw [hl] at q hd
            subst hd
            exact q v ρ1 H1 e1 rg1 rd
          | none =>
            rw [hl] at q hd
            subst hd
            exact q v ρ1 H1 e1 rg1 rd
        | _ => exact fun q => q.elim
      | _ => exact fun q => q.elim
  · subst ey
    obtain ⟨t, rfl⟩ := (show ∃ t, u = Value.str z t from ry)
    refine call_meetsIn PySem.F.slot_dict_get (kd_type D I2) PySem.F.entry_dict_get (PySem.F.args_dict_get_2 _ _) (meets_dict_get (strKind X.prog X.w) a (strKind_is X.prog X.w z t) D.low) ⟨_, PySem.W.mapOf_K (prog := X.prog) (w := X.w) I2.kIn D.at_ D.lit, ?_⟩
    rw [PySem.W.find_K D.at_ (hn z)]
    cases hl : kvs.lookup z with
    | some b =>
      rw [hl] at q2
      exact ⟨.ref b, H2, I2.tok _, rfl, q2 (.obj b) (.ref b) rfl rfl⟩
    | none =>
      rw [hl] at q2
      exact ⟨.non, H2, I2.tok _, rfl, q2 (.dat .none) .non rfl rfl⟩
end

/-! ### the call of a def that a name holds -/
noncomputable def eCallV (i n : Nat) (tab : List (Addr × FS)) (fs : AS) : ES := fun env G => match env[i]? with
  | some (.d (.obj a)) => (match tab.lookup a with
    | some sem => (match fs env G with
      | .ok ds G1 => if ds.length = n then sem ds G1 else .bad
      | .ex c w G1 => .ex c w G1
      | .bad => .bad)
    | none => .bad)
  | _ => .bad
/-- the def at a -/
def HasAt (P : Program) (w : World) (K : PySem.W.Frag) (mg : Str → Option Value) (base : Heap) (T : TbT) (a : Addr) (ps : List Str) (k : Nat) (sem : FS) : Prop := ∃ fd : FuncData, PySem.W.keepIn K (.ref a) = true ∧ Binds K fd ps [] ∧ FnD P w K mg base T k a fd ps sem
theorem Has.at {P : Program} {w : World} {K : PySem.W.Frag} {mg : Str → Option Value} {base : Heap} {T : TbT} {x : Str} {ps : List Str} {k : Nat} {sem : FS} {a : Addr} (h : Has P w K mg base T x ps k sem) (hm : mg x = some (.ref a)) {k2 : Nat} (hk : k ≤ k2) : HasAt P w K mg base T a ps k2 (relCall sem) := by
  obtain ⟨b, fd, h1, h2, h3, h4⟩ := h
  have e : b = a := by
    have := h1.symm.trans hm
    cases this; rfl
  subst e
  exact ⟨fd, h2, h3, h4.rel.mono hk⟩
section
variable {X : Cx} {T : TbT} {W : WX} {x : Str} {p pos : Pos} {e : Expr} {es : List Expr} {fs : AS} {i k : Nat} {ps : List Str} {tab : List (Addr × FS)}
theorem mem_lookupA {a : Addr} {f : FS} : ∀ {l : List (Addr × FS)}, l.lookup a = some f → (a, f) ∈ l
  | [], h => by simp at h
  | (b, g) :: l, h => by
    by_cases e : a = b
    · subst e
      simp [List.lookup] at h
      subst h
      exact List.mem_cons_self
    · have e' : (a == b) = false := by simpa using e
      simp only [List.lookup, e'] at h
      exact List.mem_cons_of_mem _ (mem_lookupA h)
theorem de_callV (ht : ∀ y ∈ tab, HasAt X.prog X.w X.K X.mg X.base T y.1 ps k y.2) (tk : Takes X W) (hr : Room k X.A) (hgd : X.A.guards = some []) (hN : X.N[i]? = some x) (hv : Vis X.env.scope x)
    (ha : DA X T W (e :: es) fs) (hdb : (x == ("__debug__" : Str)) = false := by decide) (hcd : (x == ("__classdict__" : Str)) = false := by decide)
    (he : starEach (e :: es) X.env = (false, eval e X.env) :: starEach es X.env := by rfl) (hpl : (backTo pos (starEach es X.env)).any (·.1) = false := by rfl) {n : Nat} (hn : ps.length = n := by rfl) :
    DE X T W (.Call (.Name x p) (e :: es) [] pos) (eCallV i n tab fs) := by
  subst hn
  refine ⟨fun pins s σ H Q I ⟨ρ, env, G, sr, q⟩ => ?_⟩
  unfold eCallV at q
  split at q
  case h_2 => exact q.elim
  rename_i a hs
  split at q
  case h_2 => exact q.elim
  rename_i sem hl
  obtain ⟨fd, hk, hb, F⟩ := ht _ (mem_lookupA hl)
  obtain ⟨ov, h1, v, rfl, rv⟩ := sr.ev.ok i _ hs
  obtain rfl : v = V.ref a := rv
  refine wpAny_Call_Name_kw (thn ((pe_var (pos := p) (i := i) hN hv hdb hcd).run pins s σ H (fun v H1 => v = .ref a ∧ H1 = H) I ⟨.ref a, h1, rfl, rfl⟩) fun u s1 ⟨v, H1, I1, ru, eu⟩ => ?_)
  obtain ⟨rfl, rfl⟩ := eu
  obtain rfl : u = Value.ref a := ru
  refine PySem.W.callWith_K (h₀ := X.base) I1.ok.mod.kin hk (thn (ha.run pos pins s1 σ H1 (fun vs H2 => ∃ ρ2 G2 ds, ds.length = ps.length ∧ RG X.K T ρ2 G2 H2 ∧ Reps X.K H2 ρ2 ds vs ∧ PostE X T W σ ρ2 H2 (sem ds G2) Q) I1 ⟨ρ, env, G, sr, ?_⟩) fun us s2 ⟨vs, H2, I2, r, ρ2, G2, ds, hlen, rg, rs, q2⟩ => ⟨I2.kIn, ?_⟩) he hpl
  · revert q
    cases fs env G with
    | ok ds G1 =>
      intro q
      dsimp only at q
      split at q
      · rename_i hlen
        exact fun vs ρ2 H2 e2 rg2 rs => ⟨ρ2, G1, ds, hlen, rg2, rs, PostE.ext e2 q⟩
      · exact q.elim
    | ex c w G1 => exact fun q => q
    | bad => exact fun q => q
  · exact run_fnD F tk hr hgd hb I2 r hlen rg rs q2
end
end DL

set_option Elab.async false
set_option linter.all false
set_option maxRecDepth 100000
set_option maxHeartbeats 2000000
namespace DL
open PySem PySem.Spec PyProof.Rows L2
open Classical

/-! ### the head's word about a dict of the top -/
theorem nsIn_no {K : PySem.W.Frag} {P : Params} {a : Addr} {ks : List Str} {z : Str} (h : He.dicW K a = some (He.keysIn P ks)) (hz : z ∉ ks) : PySem.W.nsIn K a z = some none := by
  unfold He.dicW at h
  split at h
  case h_2 => cases h
  rename_i c es n sl hl
  split at h
  case h_2 => cases h
  have h := Option.some.inj h
  have key : ∀ (l : List DictEntry) (ks : List Str), l.map He.keyOf = He.keysIn P ks → z ∉ ks → (∀ e ∈ l, e.key.isStr z = false ∧ e.refKey = false) := by
    intro l
    induction l with
    | nil => intro ks _ _ e he; cases he
    | cons e l ih =>
      intro ks hk hz
      cases ks with
      | nil => cases hk
      | cons k ks =>
        have hk : He.keyOf e :: l.map He.keyOf = some (k, PyData.keyHash P k) :: He.keysIn P ks := hk
        injection hk with h1 h2
        intro e' he'
        rcases List.mem_cons.mp he' with rfl | he'
        · unfold He.keyOf at h1
          split at h1
          · rename_i x t q
            obtain ⟨rfl, _⟩ := Prod.mk.inj (Option.some.inj h1)
            have hne : x ≠ z := fun e => hz (by rw [e]; exact List.mem_cons_self)
            refine ⟨?_, ?_⟩
            · rw [q]
              show (x == z) = false
              simpa using hne
            · unfold DictEntry.refKey
              rw [q]
          · cases h1
        · exact ih ks h2 (fun m => hz (List.mem_cons_of_mem _ m)) e' he'
  have hall := key es.toList ks h hz
  unfold PySem.W.nsIn
  rw [hl]
  dsimp only
  have e1 : es.toList.find? (·.key.isStr z) = none := List.find?_eq_none.mpr fun e he => by
    rw [(hall e he).1]; simp
  have e2 : es.toList.any (·.refKey) = false := List.any_eq_false.mpr fun e he => by
    rw [(hall e he).2]; simp
  rw [e1, e2]
  rfl
theorem lookup_none {kvs : List (Str × Addr)} {z : Str} (h : kvs.lookup z = none) : z ∉ kvs.map (·.1) := fun hm => by
  obtain ⟨p, hp, rfl⟩ := List.mem_map.mp hm
  have := List.lookup_eq_none_iff.mp h p hp
  simp at this
theorem lookup_mem {kvs : List (Str × Addr)} {z : Str} {a : Addr} (h : kvs.lookup z = some a) : (z, a) ∈ kvs := by
  induction kvs with
  | nil => simp at h
  | cons p kvs ih =>
    obtain ⟨k, b⟩ := p
    by_cases e : z = k
    · subst e
      simp [List.lookup] at h
      subst h
      exact List.mem_cons_self
    · have e' : (z == k) = false := by simpa using e
      simp only [List.lookup, e'] at h
      exact List.mem_cons_of_mem _ (ih h)
def kvB (K : PySem.W.Frag) (x : Str) (kvs : List (Str × Addr)) : Bool := kvs.all fun p => He.eqO (PySem.W.nsIn K (He.ga K x) p.1) (some (some (.ref p.2)))
theorem kdx_of {fa : List He.Fa} {fn : List He.DefD} {ts : List He.Tab} {tf : List He.Defn} {ex : PySem.W.Frag → Bool} {w : World} {h0 h : Heap} {K : PySem.W.Frag} {mg : Str → Option Value} (c : He.SaysX fa fn ts tf ex w h0 K) (X : K.In h) (G : h.Ns mainGlobals mg) {x : Str} {ks : List Str} {kvs : List (Str × Addr)} (i : Nat)
    (ht : ts[i]? = some ((fun K => He.ga K x), ks)) (hg : He.Fa.glo x ∈ fa) (hk : ks = kvs.map (·.1)) (hv : kvB K x kvs = true) : KDx K w mg x kvs := by
  have e : ts.map (fun t => He.dicW K (t.1 K)) = ts.map fun t => some (He.keysIn w.params t.2) := congrArg (fun z : He.AlT => z.2) c.t
  have e2 : (ts.map fun t => He.dicW K (t.1 K))[i]? = (ts.map fun t => some (He.keysIn w.params t.2))[i]? := by rw [e]
  rw [List.getElem?_map, List.getElem?_map, ht] at e2
  have e3 : He.dicW K (He.ga K x) = some (He.keysIn w.params ks) := Option.some.inj e2
  obtain ⟨es, n, D⟩ := He.dicW_ok e3
  refine ⟨He.ga K x, es, n, He.glo_ok X G (c.t.d.facts hg), D, fun z => ?_⟩
  cases hl : kvs.lookup z with
  | some b => exact He.eqO_ok (List.all_eq_true.mp hv _ (lookup_mem hl))
  | none => exact nsIn_no e3 (by rw [hk]; exact lookup_none hl)
end DL

set_option Elab.async false
set_option linter.all false
set_option maxRecDepth 100000
set_option maxHeartbeats 2000000
namespace DL
open PySem PySem.Spec PyProof.Rows L2
open Classical

/-! ### several except clauses, each with a name -/
/-- an exception in the air over X, noted and on the ground again: g is the state without it -/
structure Air (X : Cx) (pins : List (Addr × Obj)) (a : Addr) (B : Heap) (g : Shared) (σ : L2.St) (H : Hp) (cls : Value) (d : Option Addr) (s : Shared) : Prop where
  inv : Inv X pins σ H g
  grd : ∀ b o, g.heap.get? b = some o → b ∉ frs X.stack → B.get? b = some o
  upw : g.heap.UpToSlots s.heap
  fly : HandSPX.FlyingZ B (X.env :: X.outer) a (Zc cls d) s.heap
  hid : H a = none
  osy : s.os = g.os
  gen : AllBare s.gens
theorem Air.at {X : Cx} {pins : List (Addr × Obj)} {a : Addr} {B : Heap} {g : Shared} {σ : L2.St} {H : Hp} {cls : Value} {d : Option Addr} {s : Shared} (x : Air X pins a B g σ H cls d s) : Inv X pins σ H s := x.inv.landed x.grd x.fly.1 x.upw x.osy x.gen
/-- what the clauses hs make of it -/
def HB (X : Cx) (hs : List ExceptHandler) (wl : Ends → WX) : Prop := ∀ (pins : List (Addr × Obj)) (a : Addr) (B : Heap) (g : Shared) (σ : L2.St) (H : Hp) (cls : Value) (d : Option Addr) (s : Shared) (D : Ends), Air X pins a B g σ H cls d s → wl D cls d σ H →
  wpAny (model X.prog X.w) X.A (handleBy (.ref a) X.env hs) (SP X pins D) X.xe s
section
variable {X : Cx}
theorem hb_nil {Wo : WX} (hst : X.stack = X.env :: X.outer) (hfm : X.env.frame = some X.env.locals) (tk : Takes X Wo) : HB X [] (fun _ => Wo) := by
  intro pins a B g σ H cls d s D air hw
  refine wpAny_handleBy_nil ?_
  obtain ⟨_, _, _, oe, vs, T, oT, ts', he, hz, hd, h1, _⟩ := id air.fly
  unfold PySem.passOn
  refine wpAny_bind (wpAny_field he hd h1 ?_)
  rw [if_neg (show ¬ ((Value.ref T == Value.none) = true) from by simp)]
  have last : wpAny (model X.prog X.w) X.A (setFlight (.ref a) X.env.frame) (fun _ s4 => wpAny (model X.prog X.w) X.A (throw (.ref a) : Sem Flow) (SP X pins D) X.xe s4) X.xe s := by
    rw [hfm]
    refine HandSPX.setFlight_upZ (s := s) air.fly fun h4 held up4 => wpAny_throw (tk _ _ ?_)
    exact ⟨a, B, g, pins, σ, H, cls, d, rfl, air.inv, air.grd, air.upw.trans up4, .inr (.inr (by rw [hst]; exact held)), air.hid, air.osy, air.gen, hw⟩
  first
    | exact wpAny_bind (wpAny_pure (wpAny_bind last))
    | exact wpAny_bind last
theorem hb_cons {x n : Str} {C : Value} {i : Nat} {suite : List Stmt} {b₀ : Stmt} {np ps : Pos} {ts : Addr → Value → Option Addr → TS} {rest : List ExceptHandler} {wr : Ends → WX} (hst : X.stack = X.env :: X.outer) (hfm : X.env.frame = some X.env.locals) (hN : X.N.Nodup) (hi : X.N[i]? = some n)
    (hln : X.env.kindOf n = some .local) (hc : Names X x C) (hr : HB X rest wr)
    (hsu : ∀ (a : Addr) (oe : Obj) (cls : Value) (d : Option Addr) (pn : List (Addr × Obj)), Zc cls d oe → (∃ vs, oe.data = .fields vs) → PSs (X.suite a ((a, oe) :: pn)) (b₀ :: suite) (ts a cls d)) :
    HB X (.ExceptHandler (some (.Name x np)) (some n) (b₀ :: suite) ps :: rest) (fun D cls d σ H => ∃ b, PySem.W.exmOne X.K cls C = some b ∧
      (b = true → ∀ a, H a = none → ts a cls d { nx := fun σ2 H2 => D.nx (σ2.set i none) H2, rt := D.rt, bk := fun σ2 H2 => D.bk (σ2.set i none) H2, ct := fun σ2 H2 => D.ct (σ2.set i none) H2 } (σ.set i (some (.ref a))) H) ∧ (b = false → wr D cls d σ H)) := by
  intro pins a B g σ H cls d s D air ⟨b, hb1, hyes, hno⟩
  have ok := air.inv.ok
  have J3 := air.at
  obtain ⟨oe3, vs3, he3, hz3, hd3⟩ := air.fly.there
  have frameFree : ∀ {hp : Heap} {o : Obj} {vs : Array Value}, hp.FunFrames B (X.env :: X.outer) → hp.get? a = some o → o.data = .fields vs → a ∉ frs (X.env :: X.outer) := fun {hp o vs} ff e dd hm => by
    obtain ⟨_, o2, e2, hnf⟩ := ff.mem hm
    rw [e] at e2
    cases e2
    exact hnf _ dd
  have off := frameFree air.fly.2.2.1 he3 hd3
  have nLoc : a ≠ X.env.locals := fun z => off (List.mem_filterMap.mpr ⟨X.env, List.mem_cons_self, by rw [hfm, z]⟩)
  have nFs : a ∉ X.fs := fun hm => by
    obtain ⟨e, he, q⟩ := List.mem_filterMap.mp hm
    exact off (List.mem_filterMap.mpr ⟨e, List.mem_cons_of_mem _ he, q⟩)
  have S3 := J3.suite he3 hd3 air.hid nLoc nFs
  refine wpAny_handleBy_cons (codeAny_handlers_test ?_) (by intro q; cases q)
  have kindAt : PySem.W.Looks (model X.prog X.w) s.heap (typeOf (.ref a)) cls := fun A Q E t k q => wpAny_typeOf_ref (k _ _ he3) (by rw [hz3.1]; exact q)
  have match1 := PySem.W.exm_one (M := model X.prog X.w) J3.kIn kindAt hb1
  have named : ∀ {Q : Value → Shared → Prop} {E : Value → Shared → Prop}, Q C s → wpAny (model X.prog X.w) (X.A.mark (some (.ref a))) (eval (.Name x np) X.env) Q E s := fun {Q E} q => by
    obtain ⟨hg, hdb, hm | ⟨hm, hv, hnn⟩⟩ := hc
    · exact ld_glob (X := X.suite a ((a, oe3) :: (X.pn ++ pins))) S3 hg hm q hdb
    · exact ld_blt (X := X.suite a ((a, oe3) :: (X.pn ++ pins))) S3 hg hm hv q hnn hdb
  refine named (match1.here ?_)
  cases b with
  | false => exact hr pins a B g σ H cls d s D air (hno rfl)
  | true =>
    refine codeAny_handlers_suite_as ?_
    refine HandSPX.lands_againZ air.fly fun h4 fl4 up4 => ?_
    have J4 : Inv X pins σ H { s with heap := h4 } := air.inv.landed air.grd fl4.1 (air.upw.trans up4) air.osy air.gen
    obtain ⟨oe4, vs4, he4, hz4, hd4⟩ := fl4.there
    have S4 := J4.suite he4 hd4 air.hid nLoc nFs
    refine store_ok (X := X.suite a ((a, oe4) :: (X.pn ++ pins))) (v := .ref a) S4 hN hi (.inl hln) rfl (fun s5 S5 => ?_) (.inr hln)
    refine wpAny_mono ((hsu a oe4 cls d (X.pn ++ pins) hz4 ⟨_, hd4⟩).run [] s5 _ H _ S5 (hyes rfl a air.hid)) (fun f s6 hsp => ?_) (fun _ _ z => False.elim z)
    have away : ∀ {σ6 : L2.St} {H6 : Hp} {Q : Shared → Prop}, Inv (X.suite a ((a, oe4) :: (X.pn ++ pins))) [] σ6 H6 s6 → (∀ s7, Inv X pins (σ6.set i none) H6 s7 → Q s7) →
        wpAny (model X.prog X.w) X.A (do bindName X.env n .none; unbindBehindTheSuite X.env n ps) (fun _ s7 => Q s7) X.xe s6 := fun {σ6 H6 Q} S6 hq => gone_ok (S6.unsuite ok) hN hi hln hq
    cases f with
    | ret u =>
      obtain ⟨v6, σ6, H6, S6, r6, q6⟩ := hsp
      exact away S6 fun s7 J7 => ⟨_, _, _, J7, r6, q6⟩
    | next =>
      obtain ⟨σ6, H6, S6, q6⟩ := hsp
      exact away S6 fun s7 J7 => ⟨_, _, J7, q6⟩
    | brk =>
      obtain ⟨σ6, H6, S6, q6⟩ := hsp
      exact away S6 fun s7 J7 => ⟨_, _, J7, q6⟩
    | cont =>
      obtain ⟨σ6, H6, S6, q6⟩ := hsp
      exact away S6 fun s7 J7 => ⟨_, _, J7, q6⟩
theorem ps_tryL {body : List Stmt} {h₀ : ExceptHandler} {hs : List ExceptHandler} {wl : Ends → WX} {tb : WX → TS} {pos : Pos} (hst : X.stack = X.env :: X.outer) (hfm : X.env.frame = some X.env.locals)
    (hb : ∀ (W : WX) (pn : List (Addr × Obj)) (xe : Value → Shared → Prop), Takes (X.tr pn xe) W → PassesOwn (model X.prog X.w) X.A X.env xe → PSs (X.tr pn xe) body (tb W)) (hl : HB X (h₀ :: hs) wl) :
    PS X (.Try body (h₀ :: hs) [] [] pos) (fun D σ H => tb (wl D) D σ H) := by
  refine ⟨fun pins s σ H D I h => ?_⟩
  have ok := I.ok
  have hfr : X.A.frames = some (X.env :: X.outer) := by rw [ok.frames, hst]
  refine wpAny_Try_except ?_
  refine wpAny_mono ((hb (wl D) (X.pn ++ pins) (fun e s₁ => wpAny (model X.prog X.w) X.A (noteFrame e X.env) (fun _ s₂ => wpAny (model X.prog X.w) X.A (setFlight e none) (fun _ s₃ =>
    wpAny (model X.prog X.w) X.A (handleBy e X.env (h₀ :: hs)) (SP X pins D) X.xe s₃) X.xe s₂) X.xe s₁) (fun u t xx => ?_) PassesOwn.looking).run [] s σ H D (I.toTry _) h) (fun f s1 hsp => ?_) (fun e s1 he => he)
  · obtain ⟨a, B, g, pz, σ2, H2, cls, d, rfl, J', nb, up, sky, na, os, ag, hw⟩ := xx
    have J : Inv X pins σ2 H2 g := J'.ofTry ok
    have sky2 : Sky B (X.env :: X.outer) a (Zc cls d) X.env.locals t.heap := by rw [← hst]; exact sky
    refine Sky.land Zc.steady hfr hfm sky2 fun h3 fl3 up3 => ?_
    exact hl pins a B g σ2 H2 cls d _ D ⟨J, nb, up.trans up3, fl3, na, os, ag⟩ hw
  · cases f with
    | ret u =>
      obtain ⟨v, σ2, H2, J', r, q⟩ := hsp
      exact ⟨v, σ2, H2, J'.ofTry ok, r, q⟩
    | next =>
      obtain ⟨σ2, H2, J', q⟩ := hsp
      exact wpAny_execs_nil ⟨σ2, H2, J'.ofTry ok, q⟩
    | brk =>
      obtain ⟨σ2, H2, J', q⟩ := hsp
      exact ⟨σ2, H2, J'.ofTry ok, q⟩
    | cont =>
      obtain ⟨σ2, H2, J', q⟩ := hsp
      exact ⟨σ2, H2, J'.ofTry ok, q⟩
end
end DL

set_option Elab.async false
set_option linter.all false
set_option maxRecDepth 100000
set_option maxHeartbeats 2000000
namespace DL
open PySem PySem.Spec PyProof.Rows L2
open Classical

/-- no clause: it goes on -/
def hE : Addr → D → SS := fun c w env G => .ex c w env G
/-- a clause, then others -/
def hC (m : Addr → Option Bool) (suite rest : Addr → D → SS) : Addr → D → SS := fun c w env G => match m c with
  | some true => suite c w env G
  | some false => rest c w env G
  | none => .bad
def HBd (X : Cx) (T : TbT) (W : WX) (hs : List ExceptHandler) (h : Addr → D → SS) : Prop := ∃ wl, HB X hs wl ∧ ∀ (E : Ends) (c : Addr) (w : D) (env : Env') (G : Hh) (σ : L2.St) (ρ : List Addr) (H : Hp) (dd : Addr) (vw : V),
  RG X.K T ρ G H → EnvR X.K [] H ρ (cutX env) σ → Xd X.K c H dd vw → Rep X.K H ρ w vw → PostS X T W ρ H (h c w (cutX env) G) E → wl E (.ref c) (some dd) σ H
section
variable {X : Cx} {T : TbT} {W : WX} {x n : Str} {C : Value} {i : Nat} {body suite : List Stmt} {b₀ : Stmt} {np pos pos' : Pos} {fb fs : SS} {m : Addr → Option Bool} {h₀ : ExceptHandler} {hs : List ExceptHandler} {hr : Addr → D → SS}
theorem hbd_nil (hst : X.stack = X.env :: X.outer) (hf : X.env.frame = some X.env.locals) (tk : Takes X W) : HBd X T W [] hE :=
  ⟨fun _ => W, hb_nil hst hf tk, fun E c w env G σ ρ H dd vw rg ev hd r q => q σ ρ H dd vw Ext.refl ⟨rg, ev.cut'⟩ hd r⟩
theorem hbd_cons (hst : X.stack = X.env :: X.outer) (hf : X.env.frame = some X.env.locals) (hN : X.N.Nodup) (hi : X.N[i]? = some n) (hln : X.env.kindOf n = some .local) (hc : Names X x C) (hm : ∀ c b, m c = some b → PySem.W.exmOne X.K (.ref c) C = some b)
    (hsu : ∀ (a : Addr) (oe : Obj) (pn : List (Addr × Obj)), DSs (X.suite a ((a, oe) :: pn)) T (fun _ _ _ _ => False) (b₀ :: suite) fs) (rest : HBd X T W hs hr) :
    HBd X T W (.ExceptHandler (some (.Name x np)) (some n) (b₀ :: suite) pos' :: hs) (hC m (sSuite i fs) hr) := by
  obtain ⟨wr, h1, h2⟩ := rest
  refine ⟨_, hb_cons (ts := tSuite X.K T i fs) hst hf hN hi hln hc h1 fun a oe cls d pn hz hff => suite_ok (hsu a oe pn) hz hff, fun E c w env G σ ρ H dd vw rg ev hd r q => ?_⟩
  unfold hC at q
  cases hmc : m c with
  | none => rw [hmc] at q; exact q.elim
  | some b =>
    rw [hmc] at q
    refine ⟨b, hm c b hmc, fun hb a ha => ?_, fun hb => ?_⟩
    · subst hb
      refine ⟨ρ, env, G, c, w, dd, vw, rfl, rfl, hd, r, rg, ev.set i (s := .no) trivial, ?_, suite_post q⟩
      have hle : i < σ.length := by
        rw [← ev.len]
        unfold sSuite at q
        dsimp only at q
        split at q
        · rename_i hlt
          simpa using hlt
        · exact q.elim
      exact List.getElem?_set_self hle
    · subst hb
      exact h2 E c w env G σ ρ H dd vw rg ev hd r q
theorem ds_tryL {h : Addr → D → SS} (hst : X.stack = X.env :: X.outer) (hf : X.env.frame = some X.env.locals)
    (hb : ∀ (W' : WX) (pn : List (Addr × Obj)) (xe : Value → Shared → Prop), Takes (X.tr pn xe) W' → PassesOwn (model X.prog X.w) X.A X.env xe → DSs (X.tr pn xe) T W' body fb) (hh : HBd X T W (h₀ :: hs) h) :
    DS X T W (.Try body (h₀ :: hs) [] [] pos) (sTry fb h) := by
  obtain ⟨wl, h1, h2⟩ := hh
  refine ⟨fun pins s σ H E I ⟨ρ, env, G, sr, q⟩ => ?_⟩
  refine (ps_tryL (tb := tTry X.K T fb) hst hf (fun W' pn xe t o => tTry_ok (hb W' pn xe t o)) h1).run pins s σ H E I ?_
  refine ⟨ρ, env, G, sr.rg, sr.ev.cut, ?_⟩
  unfold sTry at q
  revert q
  cases fb (cutX env) G with
  | nx env1 G1 => exact fun q σ' ρ' H' e rg ev => q σ' ρ' H' e ⟨rg, ev.cut'⟩
  | bk env1 G1 => exact fun q σ' ρ' H' e rg ev => q σ' ρ' H' e ⟨rg, ev.cut'⟩
  | ct env1 G1 => exact fun q σ' ρ' H' e rg ev => q σ' ρ' H' e ⟨rg, ev.cut'⟩
  | rt d G1 => exact fun q => q
  | bad => exact fun q => q
  | ex c w env1 G1 =>
    intro q σ' ρ' H' dd vw e1 rg ev hd r
    dsimp only [RS.cut] at q
    exact h2 E c w env1 G1 σ' ρ' H' dd vw rg ev hd r (PostS.ext e1 q)
end
@[simp] theorem e_hE (c : Addr) (w : D) env G : hE c w env G = .ex c w env G := prf rfl
@[simp] theorem e_hC (m : Addr → Option Bool) (suite rest : Addr → D → SS) (c : Addr) (w : D) env G : hC m suite rest c w env G = match m c with
  | some true => suite c w env G
  | some false => rest c w env G
  | none => .bad := prf rfl
@[simp] theorem e_eKget (kvs : List (Str × Addr)) (f : ES) env G : eKget kvs f env G = match f env G with
  | .ok (.dat (.str z)) G1 => (match kvs.lookup z with
    | some a => .ok (.obj a) G1
    | none => .ok (.dat .none) G1)
  | .ok _ _ => .bad
  | .ex c w G1 => .ex c w G1
  | .bad => .bad := prf rfl
@[simp] theorem gRev_ref {l : Nat} {G : Hh} : gRev (.ref l) G = match G[l]? with
  | some (.lst xs) => some (.ref G.length, G ++ [.lst xs.reverse])
  | none => none := prf rfl
theorem rel_0m {sem : FS} {ds : List D} {G G1 : Hh} {x : PyData} {n : Nat} {mn : MO} (h1 : refs ds = []) (hr : renum 0 ds = ds) (h3 : argsOk ds = true) (hs : sem ds [] = .ok (.mix [.dat x, .ref n]) G1) (hn : G1[n]? = some mn) (hm : moClean mn = true) :
    relCall sem ds G = .ok (.mix [.dat x, .ref G.length]) (G ++ [mn]) := by
  unfold relCall
  rw [h1, hr]
  rw [if_pos ⟨List.nodup_nil, (fun l hl => by cases hl), h3, rfl⟩]
  show relOut G [] (sem ds []) = _
  rw [hs]
  unfold relOut
  dsimp only
  rw [if_pos ⟨Nat.zero_le _, by simp⟩]
  rw [if_neg (by simp [clean, cleans])]
  rw [hn]
  dsimp only
  rw [if_pos ⟨Nat.zero_le _, hm⟩]
  cases G1 <;> rfl
theorem memNil {P : Program} {w : World} {K : PySem.W.Frag} {mg : Str → Option Value} {base : Heap} {T : TbT} {ps : List Str} {k : Nat} : ∀ y ∈ ([] : List (Addr × FS)), HasAt P w K mg base T y.1 ps k y.2 := fun y hy => by cases hy
theorem memCons {P : Program} {w : World} {K : PySem.W.Frag} {mg : Str → Option Value} {base : Heap} {T : TbT} {ps : List Str} {k : Nat} {a : Addr} {f : FS} {l : List (Addr × FS)} (h1 : HasAt P w K mg base T a ps k f) (h2 : ∀ y ∈ l, HasAt P w K mg base T y.1 ps k y.2) : ∀ y ∈ (a, f) :: l, HasAt P w K mg base T y.1 ps k y.2 := fun y hy => by
  rcases List.mem_cons.mp hy with rfl | hy
  · exact h1
  · exact h2 y hy
/-- x += e, of numbers -/
def gAddI (x y : D) (G : Hh) : Option (D × Hh) := match x, y with
  | .dat (.int i), .dat (.int j) => some (.dat (.int (i + j)), G)
  | _, _ => none
@[simp] theorem gAddI_int {i j : Int} {G : Hh} : gAddI (.dat (.int i)) (.dat (.int j)) G = some (.dat (.int (i + j)), G) := prf rfl
theorem in_gAddI {X : Cx} {T : TbT} : OpR X (inplaceOp .Add) (r2 X T gAddI) := fun pins s σ H v u vv uu Q I rv ru ⟨ρ, G, x, y, rg, rx, ry, p⟩ => by
  unfold gAddI at p
  split at p
  · rename_i i j
    exact iop_add pins s σ H v u vv uu Q I rv ru ⟨i, j, rx, ry, post_val (d := .dat (.int (i + j))) rg rfl p⟩
  · exact p.elim
end DL

set_option Elab.async false
set_option linter.all false
set_option maxRecDepth 100000
set_option maxHeartbeats 1000000
namespace DL
open PySem PySem.Spec PyProof.Rows L2
open Classical
/-! ### comprehensions over a list, and such as make objects on their way -/
section
variable {α : Type} {a : GS} {t : TSm} {f : ES} {l : Nat} {chk : Hh → Prop} {env : Env'}
theorem lcL_grow (dv : α → D) (e : α → Env') (tb : α → Bool) (fv : α → D) (Ok : Hh → Prop) (hset : ∀ g zs, Ok g → Ok (g.set l (.lst zs))) (hc : ∀ g, Ok g → chk g) : ∀ (cs : List α) (acc : List D) (G : Hh),
    (∀ x ∈ cs, ∀ g, Ok g → l < g.length → a (dv x) env g = some (e x, g) ∧ ∃ g', t (e x) g = .ok (tb x) g' ∧ Ok g' ∧ g'[l]? = g[l]? ∧ (tb x = true → f (e x) g' = .ok (fv x) g')) → Ok G → G[l]? = some (.lst acc) → acc.length + cs.length ≤ 100000 →
    ∃ G', lcL a t f l chk env (cs.map dv) G = .ok (.ref l) G' ∧ G'[l]? = some (.lst (acc ++ (cs.filter tb).map fv)) ∧ Ok G'
  | [], acc, G, _, h, hl, _ => by
    refine ⟨G, ?_, by simpa using hl, h⟩
    rw [List.map_nil, lcL, if_pos (hc _ h)]
  | x :: xs, acc, G, ha, h, hl, hn => by
    obtain ⟨h1, g', h2, h3, h4, h5⟩ := ha x List.mem_cons_self G h (lt_of hl)
    rw [List.map_cons, lcL, if_pos (hc _ h), h1]
    dsimp only
    rw [h2]
    have ih := lcL_grow dv e tb fv Ok hset hc xs
    have hl' : g'[l]? = some (.lst acc) := h4.trans hl
    cases hb : tb x with
    | true =>
      dsimp only
      rw [h5 hb]
      dsimp only
      rw [hl']
      dsimp only
      have : acc.length < 100000 := by simp at hn; omega
      rw [if_pos this]
      obtain ⟨G', p1, p2, p3⟩ := ih (acc ++ [fv x]) _ (fun y hy g hg hl => ha y (List.mem_cons_of_mem _ hy) g hg hl) (hset _ _ h3) (by rw [List.getElem?_set_self (lt_of hl')]) (by simp at hn ⊢; omega)
      exact ⟨G', p1, by simpa [hb] using p2, p3⟩
    | false =>
      dsimp only
      obtain ⟨G', p1, p2, p3⟩ := ih acc g' (fun y hy g hg hl => ha y (List.mem_cons_of_mem _ hy) g hg hl) h3 hl' (by simp at hn ⊢; omega)
      exact ⟨G', p1, by simpa [hb] using p2, p3⟩
theorem eLc_grow {src : IS} {vs : List Nat} {G G1 : Hh} (dv : α → D) (e : α → Env') (tb : α → Bool) (fv : α → PyData) (Ok : Hh → Prop) (hset : ∀ g zs, Ok g → Ok (g.set G1.length (.lst zs))) (hc : ∀ g, Ok g → chk g) (cs : List α) (h : src env G = .ok (cs.map dv) chk G1) (h0 : Ok (G1 ++ [.lst []]))
    (hx : ∀ x ∈ cs, ∀ g, Ok g → G1.length < g.length → a (dv x) (wipeE (cutX env) vs) g = some (e x, g) ∧ ∃ g', t (e x) g = .ok (tb x) g' ∧ Ok g' ∧ g'[G1.length]? = g[G1.length]? ∧ (tb x = true → f (e x) g' = .ok (.dat (fv x)) g')) (hn : cs.length ≤ 100000) :
    ∃ G', eLc src a t f vs env G = .ok (.ref G1.length) G' ∧ G'[G1.length]? = some (.lst (((cs.filter tb).map fv).map .dat)) ∧ Ok G' := by
  rw [eLc_ok h]
  obtain ⟨G', p1, p2, p3⟩ := lcL_grow dv e tb (fun x => .dat (fv x)) Ok hset hc cs [] _ hx h0 (by simp) (by simpa using hn)
  exact ⟨G', p1, by simpa [Function.comp_def] using p2, p3⟩
/-- .. over a list -/
theorem eLc_lst {src : IS} {vs : List Nat} {G G1 : Hh} {m : Nat} {ys : List D} (dv : α → D) (e : α → Env') (tb : α → Bool) (fv : α → PyData) (cs : List α) (h : src env G = .ok (cs.map dv) (fun g => g[m]? = some (.lst ys)) G1) (hm : G1[m]? = some (.lst ys))
    (hx : ∀ x ∈ cs, ∀ g, g[m]? = some (.lst ys) → a (dv x) (wipeE (cutX env) vs) g = some (e x, g) ∧ t (e x) g = .ok (tb x) g ∧ (tb x = true → f (e x) g = .ok (.dat (fv x)) g)) (hn : cs.length ≤ 100000) :
    eLc src a t f vs env G = .ok (.ref G1.length) (G1 ++ [.lst (((cs.filter tb).map fv).map .dat)]) := by
  have hlt := lt_of hm
  rw [eLc_ok h, lcL_map dv e tb (fun x => .dat (fv x)) (fun g => g[m]? = some (.lst ys)) (fun g zs hg => by rw [List.getElem?_set_ne (by omega)]; exact hg) (fun g hg => hg) cs [] _ (fun x hx' g hg => hx x hx' g hg) (by rw [List.getElem?_append_left hlt]; exact hm) (by simp) (by simpa using hn)]
  simp
end
end DL

set_option Elab.async false
set_option linter.all false
set_option maxRecDepth 100000
set_option maxHeartbeats 1000000
namespace DL
open PySem PySem.Spec PyProof.Rows L2

/-! ### the head's look, with the dict of the statics -/
abbrev asY (g : Addr → Option Obj) (n : Nat) : List Addr := cStatics :: He.asD g n
def obsY (n : Nat) (fa : List He.Fa) (fn : List He.DefD) (ts : List He.Tab) (tf : List He.Defn) (ex : PySem.W.Frag → Bool) (g : Addr → Option Obj) : He.AlX :=
  (fun K : PySem.W.Frag => (He.obsT fa fn ts K, ex K && He.tabsB g tf K)) (He.frT g (asY g n))
theorem saysY_of {as : List Addr} {fa : List He.Fa} {fn : List He.DefD} {ts : List He.Tab} {tf : List He.Defn} {ex : PySem.W.Frag → Bool} {w : World} {h : Heap}
    (e : (He.obsT fa fn ts (He.frT h.get? as), ex (He.frT h.get? as) && He.tabsB h.get? tf (He.frT h.get? as)) = He.valX fn ts w) : He.SaysX fa fn ts tf ex w h (He.frT h.get? as) := by
  obtain ⟨K, hK⟩ : ∃ K, K = He.frT h.get? as := ⟨_, rfl⟩
  rw [← hK] at e ⊢
  obtain ⟨l1, l2⟩ := He.ba (congrArg (fun z : He.AlX => z.2) e : (ex K && He.tabsB h.get? tf K) = true)
  have tb : ∀ p ∈ tf, PySem.W.codeHdIn K (He.cT K p).1 (He.cT K p).2 = true ∧ ∃ o, h.get? (He.cT K p).2 = some o ∧ He.emptyTab o = true := by
    intro p hp
    obtain ⟨c1, c2⟩ := He.ba (List.all_eq_true.mp l2 p hp)
    cases hq : h.get? (He.cT K p).2 with
    | some o => rw [hq] at c2; exact ⟨c1, o, rfl, c2⟩
    | none => rw [hq] at c2; exact absurd c2 Bool.false_ne_true
  refine ⟨congrArg (fun z : He.AlX => z.1) e, l1, fun p hp => (tb p hp).1, fun p hp => ?_, fun p hp => ?_⟩
  · obtain ⟨_, o, e1, e2⟩ := tb p hp
    rw [hK] at e1 ⊢
    exact He.frT_none e1 e2
  · obtain ⟨_, o, e1, e2⟩ := tb p hp
    rw [e1, He.emptyTab_eq e2]
def hookY (n : Nat) (fa : List He.Fa) (fn : List He.DefD) (ts : List He.Tab) (tf : List He.Defn) (ex : PySem.W.Frag → Bool) : PySem.W.Hook where
  α := He.AlX
  obs := fun st => obsY n fa fn ts tf ex st.heap.get?
  val := He.valX fn ts
  says := fun w h => ∃ K : PySem.W.Frag, K.In h ∧ He.SaysX fa fn ts tf ex w h K
  of := fun _ _ e => ⟨_, He.frT_in, saysY_of e⟩
  keeps := fun _ _ _ ⟨K, kin, c⟩ kp => ⟨K, kin.keeps kp, { t := c.t, more := c.more, hd := c.hd, out := c.out, empty := fun p hp => kp _ _ (c.empty p hp) }⟩
theorem obsY_eq {n : Nat} {fa : List He.Fa} {fn : List He.DefD} {ts : List He.Tab} {tf : List He.Defn} {ex : PySem.W.Frag → Bool} {g : Addr → Option Obj} {st : Shared} (h : ∀ a, g a = st.heap.get? a) : obsY n fa fn ts tf ex g = (hookY n fa fn ts tf ex).obs st := by
  obtain rfl : g = st.heap.get? := funext h
  rfl
end DL

set_option Elab.async false
set_option linter.all false
set_option maxRecDepth 100000
set_option maxHeartbeats 4000000
namespace K01
open PySem PySem.Spec PyProof.Rows L2 DL
abbrev top0 (j : Nat) : Stmt := PySem.Challenge.pw_lawsleft_k01_counts_and_their_order.main.body.getD j (.Pass ⟨0, 0, 0, 0⟩)
/-- where the classes of the errors stand -/
structure ErrC where
  (Refused BadGround BadCount : Addr)
/-- what the top has written -/
structure Tx (P : Program) (w : World) (K : PySem.W.Frag) (mg : Str → Option Value) (base : Heap) (q : ErrC) : Prop where
  b_all : mg "all" = none
  b_bool : mg "bool" = none
  b_enumerate : mg "enumerate" = none
  b_int : mg "int" = none
  b_isinstance : mg "isinstance" = none
  b_len : mg "len" = none
  b_list : mg "list" = none
  b_max : mg "max" = none
  b_range : mg "range" = none
  b_repr : mg "repr" = none
  b_str : mg "str" = none
  b_sum : mg "sum" = none
  b_tuple : mg "tuple" = none
  b_zip : mg "zip" = none
  c_BadCount : GC P w K mg base "BadCount" q.BadCount
  c_BadGround : GC P w K mg base "BadGround" q.BadGround
  exc_BadCount_BadGround : ∀ c ∈ [q.BadCount, q.BadGround], ExcC K c
  exm_Refused_BadCount_BadGround : ∀ p ∈ ([(q.BadCount, true), (q.BadGround, true)] : List (Addr × Bool)), PySem.W.exmOne K (.ref p.1) (.ref q.Refused) = some p.2
  k_CELLS : GI mg "CELLS" 0
  k_EXITS : GI mg "EXITS" 2
  k_GREATEST_NUMBERS : GT K mg "GREATEST_NUMBERS" (.tuple [(.int 8), (.int 99)])
  k_LETTERS : GSt mg "LETTERS" "abcdefghijklmnopqrstuvwxyz"
  k_LETTERS_AND_FIGURES : GSt mg "LETTERS_AND_FIGURES" "abcdefghijklmnopqrstuvwxyz0123456789"
  k_LONGEST_NAME : GI mg "LONGEST_NAME" 12
  k_MOST_ENTRIES : GT K mg "MOST_ENTRIES" (.tuple [(.int 4), (.int 3), (.int 4)])
  k_MOST_STATES : GI mg "MOST_STATES" 64
  k_RESERVED : GT K mg "RESERVED" (.tuple [(.str "cells"), (.str "deeds"), (.str "exits"), (.str "if"), (.str "else"), (.str "while"), (.str "catch"), (.str "exit"), (.str "and"), (.str "or"), (.str "not"), (.str "law")])
  kit_BadCount_BadCount_BadGround : ∀ p ∈ ([(q.BadCount, true), (q.BadGround, false)] : List (Addr × Bool)), PySem.W.kitOne K (.ref p.1) (.ref q.BadCount) = some p.2
  m_Refused : mg "Refused" = some (.ref q.Refused)
  what_BadCount_BadGround : ∀ c ∈ [q.BadCount, q.BadGround], XfC K c ∧ PySem.W.findIn K (.ref c) "what" = some none
section
variable {P : Program} {w : World} {K : PySem.W.Frag} {mg : Str → Option Value} {base : Heap} {T : TbT} {q : ErrC}
/-! ### _law_pool -/
abbrev s__law_pool : Stmt := top0 28
theorem sc__law_pool : FnScope ["script", "k", "cell", "big", "mixed"] ["script", "k"] (defScope s__law_pool) := ⟨rfl, rfl, rfl, by decide +kernel, rfl, by decide +kernel, by decide +kernel⟩
theorem bd__law_pool : BindsH "_law_pool" s__law_pool ["script", "k"] := fun _ _ _ _ _ _ us hl => match us, hl with | [_, _], _ => rfl
noncomputable def b__law_pool (q : ErrC) : SS :=
    (sSeq (sAsg (eC (.dat (.int 0))) (aName 2))
    (sSeq (sIf (tTest' truB (eBin gLt (eVar 1) (eArgs gLen (aCons (eVar 0) aNil)))) (sAsg (eBin gIx (eVar 0) (eVar 1)) (aName 2)) (sIf (tTest' truB (eBin gNe (eVar 0) (eArgs gLstD aNil))) (sAsg (eBin gIx (eVar 0) (eC (.dat (.int 0)))) (aName 2)) sNil))
    (sSeq (sAsg (eArgs gMax2 (aCons (eArgs gInt (aCons (eVar 2) aNil)) (aCons (eArgs gInt (aCons (eBin gSub (eUn gNeg (eC (.dat (.int 1)))) (eVar 2)) aNil)) aNil))) (aName 3))
    (sSeq (sAsg (eBin gMod (eArgs gInt (aCons (eBin gMul (eBin gAdd (eBin gAdd (eBin gAdd (eBin gMod (eArgs gInt (aCons (eVar 3) aNil)) (eC (.dat (.int 2147483629)))) (eBin gMul (eBin gMul (eC (.dat (.int 7919))) (eVar 1)) (eVar 1))) (eBin gMul (eC (.dat (.int 31))) (eVar 1))) (eC (.dat (.int 17)))) (eC (.dat (.int 48271)))) aNil)) (eC (.dat (.int 2147483647)))) (aName 4))
    (sRet (eArgs gLstD (aCons (eBin gMul (eVar 3) (eArgs gInt (aCons (eAnd tru (eBin gGe (eVar 3) (eBin gPow (eC (.dat (.int 10))) (eC (.dat (.int 18))))) (eBin gLt (eVar 1) (eArgs gLen (aCons (eVar 0) aNil)))) aNil))) (aCons (eVar 4) aNil))))))))
noncomputable def f__law_pool (q : ErrC) : FS := fnD 5 (b__law_pool q)
theorem h__law_pool (t : Tx P w K mg base q) (F : HasF K mg "_law_pool" s__law_pool)  : Has P w K mg base T "_law_pool" ["script", "k"] 1 (f__law_pool q) :=
  Has.of F sc__law_pool bd__law_pool fun _ _ _ _ _ _ _ hr hgd => by exact
    (dss_cons (by exact (ds_asg (by exact de_int) (by exact (dg_name (by exact sc__law_pool.nd) (by exact rfl) (by first | exact Or.inl rfl | exact Or.inr rfl))))) (by exact (dss_cons (by exact (ds_if (by exact (dt_cmp (by exact (op_gLt (by have hz := un_of hr; exact hz))) (by exact (de_var 1)) (by exact (de_callB (by exact (call_gLen)) (by exact rfl) (by exact t.b_len) (by exact bt_len) (by exact (da_cons (by exact (de_var 0)) (by exact da_nil))))) (by exact rfl))) (by exact (dss_one (by exact (ds_asg (by exact (de_ix ix_gIx (by exact (de_var 0)) (by exact (de_var 1)) (fun _ _ => rfl))) (by exact (dg_name (by exact sc__law_pool.nd) (by exact rfl) (by first | exact Or.inl rfl | exact Or.inr rfl))))))) (by exact (dss_one (by exact (ds_if (by exact (dt_cmp (by exact (op_gNe (by have hz := un_of hr; exact hz))) (by exact (de_var 0)) (by exact (de_lst (by exact da_nil))) (by exact rfl))) (by exact (dss_one (by exact (ds_asg (by exact (de_ix ix_gIx (by exact (de_var 0)) (by exact de_int) (fun _ _ => rfl))) (by exact (dg_name (by exact sc__law_pool.nd) (by exact rfl) (by first | exact Or.inl rfl | exact Or.inr rfl))))))) (by exact dss_nil))))))) (by exact (dss_cons (by exact (ds_asg (by exact (de_callB (by exact (call_gMax2 (by exact rfl))) (by exact rfl) (by exact t.b_max) (by exact bt_max) (by exact (da_cons (by exact (de_callTy (by exact (call_gInt)) (by exact rfl) (by exact t.b_int) (by exact bt_int) (by exact (da_cons (by exact (de_var 2)) (by exact da_nil))))) (by exact (da_cons (by exact (de_callTy (by exact (call_gInt)) (by exact rfl) (by exact t.b_int) (by exact bt_int) (by exact (da_cons (by exact (de_op op_gSub (by exact (de_un un_gNeg (by exact de_int))) (by exact (de_var 2)))) (by exact da_nil))))) (by exact da_nil))))))) (by exact (dg_name (by exact sc__law_pool.nd) (by exact rfl) (by first | exact Or.inl rfl | exact Or.inr rfl))))) (by exact (dss_cons (by exact (ds_asg (by exact (de_op op_gMod (by exact (de_callTy (by exact (call_gInt)) (by exact rfl) (by exact t.b_int) (by exact bt_int) (by exact (da_cons (by exact (de_op op_gMul (by exact (de_op op_gAdd (by exact (de_op op_gAdd (by exact (de_op op_gAdd (by exact (de_op op_gMod (by exact (de_callTy (by exact (call_gInt)) (by exact rfl) (by exact t.b_int) (by exact bt_int) (by exact (da_cons (by exact (de_var 3)) (by exact da_nil))))) (by exact de_int))) (by exact (de_op op_gMul (by exact (de_op op_gMul (by exact de_int) (by exact (de_var 1)))) (by exact (de_var 1)))))) (by exact (de_op op_gMul (by exact de_int) (by exact (de_var 1)))))) (by exact de_int))) (by exact de_int))) (by exact da_nil))))) (by exact de_int))) (by exact (dg_name (by exact sc__law_pool.nd) (by exact rfl) (by first | exact Or.inl rfl | exact Or.inr rfl))))) (by exact (dss_one (by exact (ds_ret (by exact (de_lst (by exact (da_cons (by exact (de_op op_gMul (by exact (de_var 3)) (by exact (de_callTy (by exact (call_gInt)) (by exact rfl) (by exact t.b_int) (by exact bt_int) (by exact (da_cons (by exact (de_and (by exact (de_cmp (by exact (op_gGe (by have hz := un_of hr; exact hz))) (by exact (de_var 3)) (by exact (de_op op_gPow (by exact de_int) (by exact de_int))) (by exact rfl))) (by exact (de_one (by exact (de_cmp (by exact (op_gLt (by have hz := un_of hr; exact hz))) (by exact (de_var 1)) (by exact (de_callB (by exact (call_gLen)) (by exact rfl) (by exact t.b_len) (by exact bt_len) (by exact (da_cons (by exact (de_var 0)) (by exact da_nil))))) (by exact rfl))))))) (by exact da_nil))))))) (by exact (da_cons (by exact (de_var 4)) (by exact da_nil))))))))))))))))))
/-! ### _law_take -/
abbrev s__law_take : Stmt := top0 29
theorem sc__law_take : FnScope ["source", "top", "drawn"] ["source", "top"] (defScope s__law_take) := ⟨rfl, rfl, rfl, by decide +kernel, rfl, by decide +kernel, by decide +kernel⟩
theorem bd__law_take : BindsH "_law_take" s__law_take ["source", "top"] := fun _ _ _ _ _ _ us hl => match us, hl with | [_, _], _ => rfl
noncomputable def b__law_take (q : ErrC) : SS :=
    (sSeq (sIf (tTest' truB (eBin gGt (eBin gIx (eVar 0) (eC (.dat (.int 0)))) (eC (.dat (.int 0))))) (sSeq (sAsg (eBin gMod (eArgs gInt (aCons (eBin gIx (eVar 0) (eC (.dat (.int 0)))) aNil)) (eVar 1)) (aName 2))
    (sSeq (sAsg (eBin gDiv (eBin gIx (eVar 0) (eC (.dat (.int 0)))) (eVar 1)) (aSub (eVar 0) (eC (.dat (.int 0))) gSetL))
    (sRet (eVar 2)))) sNil)
    (sSeq (sAsg (eBin gMod (eArgs gInt (aCons (eBin gAdd (eBin gMul (eBin gIx (eVar 0) (eC (.dat (.int 1)))) (eC (.dat (.int 39373)))) (eC (.dat (.int 7)))) aNil)) (eC (.dat (.int 2147483647)))) (aSub (eVar 0) (eC (.dat (.int 1))) gSetL))
    (sRet (eBin gMod (eArgs gInt (aCons (eBin gDiv (eBin gMod (eArgs gInt (aCons (eBin gMul (eBin gIx (eVar 0) (eC (.dat (.int 1)))) (eBin gIx (eVar 0) (eC (.dat (.int 1))))) aNil)) (eC (.dat (.int 2147483629)))) (eC (.dat (.int 32)))) aNil)) (eVar 1)))))
noncomputable def f__law_take (q : ErrC) : FS := fnD 3 (b__law_take q)
theorem h__law_take (t : Tx P w K mg base q) (F : HasF K mg "_law_take" s__law_take)  : Has P w K mg base T "_law_take" ["source", "top"] 1 (f__law_take q) :=
  Has.of F sc__law_take bd__law_take fun _ _ _ _ _ _ _ hr hgd => by exact
    (dss_cons (by exact (ds_if (by exact (dt_cmp (by exact (op_gGt (by have hz := un_of hr; exact hz))) (by exact (de_ix ix_gIx (by exact (de_var 0)) (by exact de_int) (fun _ _ => rfl))) (by exact de_int) (by exact rfl))) (by exact (dss_cons (by exact (ds_asg (by exact (de_op op_gMod (by exact (de_callTy (by exact (call_gInt)) (by exact rfl) (by exact t.b_int) (by exact bt_int) (by exact (da_cons (by exact (de_ix ix_gIx (by exact (de_var 0)) (by exact de_int) (fun _ _ => rfl))) (by exact da_nil))))) (by exact (de_var 1)))) (by exact (dg_name (by exact sc__law_take.nd) (by exact rfl) (by first | exact Or.inl rfl | exact Or.inr rfl))))) (by exact (dss_cons (by exact (ds_asg (by exact (de_op op_gDiv (by exact (de_ix ix_gIx (by exact (de_var 0)) (by exact de_int) (fun _ _ => rfl))) (by exact (de_var 1)))) (by exact (dg_sub (W := noW) (by exact (de_var 0)) (by exact de_int))))) (by exact (dss_one (by exact (ds_ret (by exact (de_var 2)))))))))) (by exact dss_nil))) (by exact (dss_cons (by exact (ds_asg (by exact (de_op op_gMod (by exact (de_callTy (by exact (call_gInt)) (by exact rfl) (by exact t.b_int) (by exact bt_int) (by exact (da_cons (by exact (de_op op_gAdd (by exact (de_op op_gMul (by exact (de_ix ix_gIx (by exact (de_var 0)) (by exact de_int) (fun _ _ => rfl))) (by exact de_int))) (by exact de_int))) (by exact da_nil))))) (by exact de_int))) (by exact (dg_sub (W := noW) (by exact (de_var 0)) (by exact de_int))))) (by exact (dss_one (by exact (ds_ret (by exact (de_op op_gMod (by exact (de_callTy (by exact (call_gInt)) (by exact rfl) (by exact t.b_int) (by exact bt_int) (by exact (da_cons (by exact (de_op op_gDiv (by exact (de_op op_gMod (by exact (de_callTy (by exact (call_gInt)) (by exact rfl) (by exact t.b_int) (by exact bt_int) (by exact (da_cons (by exact (de_op op_gMul (by exact (de_ix ix_gIx (by exact (de_var 0)) (by exact de_int) (fun _ _ => rfl))) (by exact (de_ix ix_gIx (by exact (de_var 0)) (by exact de_int) (fun _ _ => rfl))))) (by exact da_nil))))) (by exact de_int))) (by exact de_int))) (by exact da_nil))))) (by exact (de_var 1)))))))))))
/-! ### _law_mixed -/
abbrev s__law_mixed : Stmt := top0 31
theorem sc__law_mixed : FnScope ["source", "things", "left", "found", "turn"] ["source", "things"] (defScope s__law_mixed) := ⟨rfl, rfl, rfl, by decide +kernel, rfl, by decide +kernel, by decide +kernel⟩
theorem bd__law_mixed : BindsH "_law_mixed" s__law_mixed ["source", "things"] := fun _ _ _ _ _ _ us hl => match us, hl with | [_, _], _ => rfl
noncomputable def b__law_mixed (q : ErrC) : SS :=
    (sSeq (sPar 2 3 (aCons (eArgs gList (aCons (eVar 1) aNil)) (aCons (eArgs gLstD aNil) aNil)))
    (sSeq (sFor (srcRange1 (aCons (eArgs gLen (aCons (eVar 1) aNil)) aNil)) (aName 4) (sDrop (eMet isLst gAppend (eVar 3) (aCons (eMet isLst gPop (eVar 2) (aCons (eCallA 2 (relCall (f__law_take q)) (aCons (eVar 0) (aCons (eArgs gLen (aCons (eVar 2) aNil)) aNil))) aNil)) aNil))))
    (sRet (eVar 3))))
noncomputable def f__law_mixed (q : ErrC) : FS := fnD 5 (b__law_mixed q)
theorem h__law_mixed (t : Tx P w K mg base q) (F : HasF K mg "_law_mixed" s__law_mixed) (h__law_take : Has P w K mg base T "_law_take" ["source", "top"] 1 (f__law_take q)) : Has P w K mg base T "_law_mixed" ["source", "things"] 2 (f__law_mixed q) :=
  Has.of F sc__law_mixed bd__law_mixed fun _ _ _ _ _ _ _ hr hgd => by exact
    (dss_cons (by exact (ds_par (i := 2) (j := 3) (by exact rfl) (by exact sc__law_mixed.nd) (by exact rfl) (by exact rfl) (by decide) (by exact rfl) (by exact rfl) (by exact (da_cons (by exact (de_callTy (by exact (call_gList)) (by exact rfl) (by exact t.b_list) (by exact bt_list) (by exact (da_cons (by exact (de_var 1)) (by exact da_nil))))) (by exact (da_cons (by exact (de_lst (by exact da_nil))) (by exact da_nil))))) (by exact rfl))) (by exact (dss_cons (by exact (ds_for (by exact owns_fn) (by exact rfl) (by exact (di_range1 (by exact rfl) (by exact t.b_range) (by exact (da_cons (by exact (de_callB (by exact (call_gLen)) (by exact rfl) (by exact t.b_len) (by exact bt_len) (by exact (da_cons (by exact (de_var 1)) (by exact da_nil))))) (by exact da_nil))))) (by exact (dg_name (by exact sc__law_mixed.nd) (by exact rfl) (by first | exact Or.inl rfl | exact Or.inr rfl))) (by exact (dss_one (by exact (ds_expr (by exact (de_met lst_ty PySem.F.plainAttrs_list PySem.F.slot_list_append PySem.F.type_list_append mt_gAppend (by exact (de_var 3)) (by exact (da_cons (by exact (de_met lst_ty PySem.F.plainAttrs_list PySem.F.slot_list_pop PySem.F.type_list_pop mt_gPop (by exact (de_var 2)) (by exact (da_cons (by exact (de_call (ps := ["source", "top"]) h__law_take.rel (by exact takes_fn) (by exact (hr.mono (by decide))) (by exact hgd) (by exact rfl) (by exact (da_cons (by exact (de_var 0)) (by exact (da_cons (by exact (de_callB (by exact (call_gLen)) (by exact rfl) (by exact t.b_len) (by exact bt_len) (by exact (da_cons (by exact (de_var 2)) (by exact da_nil))))) (by exact da_nil))))))) (by exact da_nil))))) (by exact da_nil))))))))))) (by exact (dss_one (by exact (ds_ret (by exact (de_var 3)))))))))
/-! ### _law_one -/
abbrev s__law_one : Stmt := top0 30
theorem sc__law_one : FnScope ["source", "things"] ["source", "things"] (defScope s__law_one) := ⟨rfl, rfl, rfl, by decide +kernel, rfl, by decide +kernel, by decide +kernel⟩
theorem bd__law_one : BindsH "_law_one" s__law_one ["source", "things"] := fun _ _ _ _ _ _ us hl => match us, hl with | [_, _], _ => rfl
noncomputable def b__law_one (q : ErrC) : SS :=
    (sRet (eBin gIx (eVar 1) (eCallA 2 (relCall (f__law_take q)) (aCons (eVar 0) (aCons (eArgs gLen (aCons (eVar 1) aNil)) aNil)))))
noncomputable def f__law_one (q : ErrC) : FS := fnD 2 (b__law_one q)
theorem h__law_one (t : Tx P w K mg base q) (F : HasF K mg "_law_one" s__law_one) (h__law_take : Has P w K mg base T "_law_take" ["source", "top"] 1 (f__law_take q)) : Has P w K mg base T "_law_one" ["source", "things"] 2 (f__law_one q) :=
  Has.of F sc__law_one bd__law_one fun _ _ _ _ _ _ _ hr hgd => by exact
    (dss_one (by exact (ds_ret (by exact (de_ix ix_gIx (by exact (de_var 1)) (by exact (de_call (ps := ["source", "top"]) h__law_take.rel (by exact takes_fn) (by exact (hr.mono (by decide))) (by exact hgd) (by exact rfl) (by exact (da_cons (by exact (de_var 0)) (by exact (da_cons (by exact (de_callB (by exact (call_gLen)) (by exact rfl) (by exact t.b_len) (by exact bt_len) (by exact (da_cons (by exact (de_var 1)) (by exact da_nil))))) (by exact da_nil))))))) (fun _ _ => rfl))))))
/-! ### _law_drawn_ground -/
abbrev s__law_drawn_ground : Stmt := top0 32
theorem sc__law_drawn_ground : FnScope ["source", "names", "some", "name"] ["source"] (defScope s__law_drawn_ground) := ⟨rfl, rfl, rfl, by decide +kernel, rfl, by decide +kernel, by decide +kernel⟩
theorem bd__law_drawn_ground : BindsH "_law_drawn_ground" s__law_drawn_ground ["source"] := fun _ _ _ _ _ _ us hl => match us, hl with | [_], _ => rfl
noncomputable def b__law_drawn_ground (q : ErrC) : SS :=
    (sSeq (sAsg (eSl (eCallA 2 (relCall (f__law_mixed q)) (aCons (eVar 0) (aCons (eArgs gLstD (aCons (eC (.dat (.str "send"))) (aCons (eC (.dat (.str "log"))) (aCons (eC (.dat (.str "a1"))) (aCons (eC (.dat (.str "flush"))) (aCons (eC (.dat (.str "b"))) aNil)))))) aNil))) oNone (oSome (eCallA 2 (relCall (f__law_take q)) (aCons (eVar 0) (aCons (eC (.dat (.int 4))) aNil))))) (aName 1))
    (sSeq (sAsg (eArgs gLstD (aCons (eC (.dat (.int 1))) (aCons (eC (.dat (.int 99))) (aCons (eC (.dat (.int 2))) (aCons (eC (.dat (.int 5))) (aCons (eBin gAdd (eC (.dat (.int 1))) (eCallA 2 (relCall (f__law_take q)) (aCons (eVar 0) (aCons (eC (.dat (.int 99))) aNil)))) aNil)))))) (aName 2))
    (sRet (eArgs gTupD (aCons (eArgs gTupD (aCons (eArgs gTupD (aCons (eC (.dat (.str "c"))) (aCons (eC (.dat (.int 2))) aNil))) aNil)) (aCons (eArgs gTuple (aCons (eLc (srcSeq (eVar 1)) (aName 3) tNo (eArgs gTupD (aCons (eVar 3) (aCons (eCallA 2 (relCall (f__law_one q)) (aCons (eVar 0) (aCons (eVar 2) aNil))) aNil))) [3]) aNil)) (aCons (eArgs gTupD (aCons (eC (.dat (.str "done"))) aNil)) aNil)))))))
noncomputable def f__law_drawn_ground (q : ErrC) : FS := fnD 4 (b__law_drawn_ground q)
theorem h__law_drawn_ground (t : Tx P w K mg base q) (F : HasF K mg "_law_drawn_ground" s__law_drawn_ground) (h__law_one : Has P w K mg base T "_law_one" ["source", "things"] 2 (f__law_one q)) (h__law_take : Has P w K mg base T "_law_take" ["source", "top"] 1 (f__law_take q)) (h__law_mixed : Has P w K mg base T "_law_mixed" ["source", "things"] 2 (f__law_mixed q)) : Has P w K mg base T "_law_drawn_ground" ["source"] 3 (f__law_drawn_ground q) :=
  Has.of F sc__law_drawn_ground bd__law_drawn_ground fun _ _ _ _ _ _ _ hr hgd => by exact
    (dss_cons (by exact (ds_asg (by exact (de_slice (by exact (de_call (ps := ["source", "things"]) h__law_mixed.rel (by exact takes_fn) (by exact (hr.mono (by decide))) (by exact hgd) (by exact rfl) (by exact (da_cons (by exact (de_var 0)) (by exact (da_cons (by exact (de_lst (by exact (da_cons (by exact de_str) (by exact (da_cons (by exact de_str) (by exact (da_cons (by exact de_str) (by exact (da_cons (by exact de_str) (by exact (da_cons (by exact de_str) (by exact da_nil))))))))))))) (by exact da_nil))))))) (by exact do_none) (by exact (do_some (by exact (de_call (ps := ["source", "top"]) h__law_take.rel (by exact takes_fn) (by exact (hr.mono (by decide))) (by exact hgd) (by exact rfl) (by exact (da_cons (by exact (de_var 0)) (by exact (da_cons (by exact de_int) (by exact da_nil))))))))))) (by exact (dg_name (by exact sc__law_drawn_ground.nd) (by exact rfl) (by first | exact Or.inl rfl | exact Or.inr rfl))))) (by exact (dss_cons (by exact (ds_asg (by exact (de_lst (by exact (da_cons (by exact de_int) (by exact (da_cons (by exact de_int) (by exact (da_cons (by exact de_int) (by exact (da_cons (by exact de_int) (by exact (da_cons (by exact (de_op op_gAdd (by exact de_int) (by exact (de_call (ps := ["source", "top"]) h__law_take.rel (by exact takes_fn) (by exact (hr.mono (by decide))) (by exact hgd) (by exact rfl) (by exact (da_cons (by exact (de_var 0)) (by exact (da_cons (by exact de_int) (by exact da_nil))))))))) (by exact da_nil))))))))))))) (by exact (dg_name (by exact sc__law_drawn_ground.nd) (by exact rfl) (by first | exact Or.inl rfl | exact Or.inr rfl))))) (by exact (dss_one (by exact (ds_ret (by exact (de_tup (by exact (da_cons (by exact (de_tup (by exact (da_cons (by exact (de_tup (by exact (da_cons (by exact de_str) (by exact (da_cons (by exact de_int) (by exact da_nil))))))) (by exact da_nil))))) (by exact (da_cons (by exact (de_callTy (by exact (call_gTuple)) (by exact rfl) (by exact t.b_tuple) (by exact bt_tuple) (by exact (da_cons (by exact (de_lc (own := [("name", 3)]) (by exact rfl) (by exact sc__law_drawn_ground.nd) (by exact (di_seq (by exact (de_var 1)))) (by exact (blkOk_by (N := ["source", "names", "some", "name"]) (sc := defScope s__law_drawn_ground) (by decide +kernel))) (by exact (fun _ _ _ _ _ => (by exact (dg0_name (by exact sc__law_drawn_ground.nd) (by exact rfl) (by first | exact Or.inl rfl | exact Or.inr rfl) (by decide))))) (by exact (fun _ _ _ _ _ => (by exact (dts_nil)))) (by exact (fun _ _ _ _ _ => (by exact (de_tup (by exact (da_cons (by exact (de_var 3)) (by exact (da_cons (by exact (de_call (ps := ["source", "things"]) h__law_one.rel (by exact takes_false) (by exact (hr.mono (by decide))) (by exact hgd) (by exact rfl) (by exact (da_cons (by exact (de_var 0)) (by exact (da_cons (by exact (de_var 2)) (by exact da_nil))))))) (by exact da_nil))))))))))) (by exact da_nil))))) (by exact (da_cons (by exact (de_tup (by exact (da_cons (by exact de_str) (by exact da_nil))))) (by exact da_nil))))))))))))))))
/-! ### _law_is_refused -/
abbrev s__law_is_refused : Stmt := top0 37
theorem sc__law_is_refused : FnScope ["call", "thing", "fault"] ["call", "thing"] (defScope s__law_is_refused) := ⟨rfl, rfl, rfl, by decide +kernel, rfl, by decide +kernel, by decide +kernel⟩
theorem bd__law_is_refused : BindsH "_law_is_refused" s__law_is_refused ["call", "thing"] := fun _ _ _ _ _ _ us hl => match us, hl with | [_, _], _ => rfl
noncomputable def b__law_is_refused (q : ErrC) (C : List Addr → Hp → V → Prop) (th : Hh → RE) : SS :=
    (sSeq (sTry (sDrop (eAct 0 C th)) (hOne (pick1 [(q.BadCount, true), (q.BadGround, true)]) (sSuite 2 (sRet (eAnd tru (eIsE 2 (pick1 [(q.BadCount, true), (q.BadGround, false)])) (eBin gEq (eArgs gRepr (aCons (eWhat 2 fun c => decide (c ∈ [q.BadCount, q.BadGround])) aNil)) (eArgs gRepr (aCons (eVar 1) aNil))))))))
    (sRet (eC (.dat (.bool false)))))
theorem h__law_is_refused (t : Tx P w K mg base q) (F : HasF K mg "_law_is_refused" s__law_is_refused)  : HasH P w K mg base T "_law_is_refused" s__law_is_refused "call" ["call", "thing", "fault"] 0 (b__law_is_refused q) :=
  HasH.of F sc__law_is_refused bd__law_is_refused rfl (Or.inl rfl) fun C th _ _ _ _ _ _ _ hr hgd act => by exact
    (dss_cons (by exact (ds_try_as (i := 2) (by exact rfl) (by exact rfl) (by exact sc__law_is_refused.nd) (by exact rfl) (by exact rfl) (by exact ⟨rfl, by decide, .inl t.m_Refused⟩) (by exact takes_fn) (by exact (catch_of (by exact t.exm_Refused_BadCount_BadGround))) (by exact (fun _ _ _ tk ow => (by exact (dss_one (by exact (ds_expr (by exact (act (by exact tk))))))))) (by exact (fun _ _ _ => (by exact (dss_one (by exact (ds_ret (by exact (de_and (by exact (de_isE 2 (by exact (kind_of (by exact (fun p hp => (by exact (t.exc_BadCount_BadGround (by exact p.1) (by exact (List.mem_map_of_mem (f := Prod.fst) (by exact hp))))))) (by exact t.kit_BadCount_BadCount_BadGround))) (by exact (isE_own (by exact rfl) (by exact t.c_BadCount.1))) isE_own' (by exact rfl) (by exact t.b_isinstance))) (by exact (de_one (by exact (de_cmp (by exact (op_gEq (by have hz := un_of hr; exact hz))) (by exact (de_callB (by exact (call_gRepr (by exact hgd) (by have hz := un_of hr; exact hz))) (by exact rfl) (by exact t.b_repr) (by exact bt_repr) (by exact (da_cons (by exact (de_what 2 (by exact (what_of (by exact t.what_BadCount_BadGround))))) (by exact da_nil))))) (by exact (de_callB (by exact (call_gRepr (by exact hgd) (by have hz := un_of hr; exact hz))) (by exact rfl) (by exact t.b_repr) (by exact bt_repr) (by exact (da_cons (by exact (de_var 1)) (by exact da_nil))))) (by exact rfl))))))))))))))) (by exact (dss_one (by exact (ds_ret (by exact de_bl))))))
/-! ### is_triple_of_tuples -/
abbrev s_is_triple_of_tuples : Stmt := top0 17
theorem sc_is_triple_of_tuples : FnScope ["thing", "part"] ["thing"] (defScope s_is_triple_of_tuples) := ⟨rfl, rfl, rfl, by decide +kernel, rfl, by decide +kernel, by decide +kernel⟩
theorem bd_is_triple_of_tuples : BindsH "is_triple_of_tuples" s_is_triple_of_tuples ["thing"] := fun _ _ _ _ _ _ us hl => match us, hl with | [_], _ => rfl
noncomputable def b_is_triple_of_tuples (q : ErrC) : SS :=
    (sRet (eAnd tru (eArgs gIsa (aCons (eVar 0) (aCons (eC (.ty "tuple")) aNil))) (eAnd tru (eBin gEq (eArgs gLen (aCons (eVar 0) aNil)) (eC (.dat (.int 3)))) (eAllG (srcSeq (eVar 0)) (aName 1) (eArgs gIsa (aCons (eVar 1) (aCons (eC (.ty "tuple")) aNil))) [1]))))
noncomputable def f_is_triple_of_tuples (q : ErrC) : FS := fnD 2 (b_is_triple_of_tuples q)
theorem h_is_triple_of_tuples (t : Tx P w K mg base q) (F : HasC K mg T (none) "is_triple_of_tuples" s_is_triple_of_tuples) (tb : TBs base mg T)  : Has P w K mg base T "is_triple_of_tuples" ["thing"] 10 (f_is_triple_of_tuples q) :=
  Has.ofC F tb sc_is_triple_of_tuples bd_is_triple_of_tuples fun _ _ _ _ _ _ _ _ htb hcT hr hgd => by exact
    (dss_one (by exact (ds_ret (by exact (de_and (by exact (de_callB (by exact (call_gIsa)) (by exact rfl) (by exact t.b_isinstance) (by exact bt_isinstance) (by exact (da_cons (by exact (de_var 0)) (by exact (da_cons (by exact (de_ty (by exact rfl) (by exact t.b_tuple) (by exact bt_tuple))) (by exact da_nil))))))) (by exact (de_and (by exact (de_cmp (by exact (op_gEq (by have hz := un_of hr; exact hz))) (by exact (de_callB (by exact (call_gLen)) (by exact rfl) (by exact t.b_len) (by exact bt_len) (by exact (da_cons (by exact (de_var 0)) (by exact da_nil))))) (by exact de_int) (by exact rfl))) (by exact (de_one (by exact (de_allG (own := [("part", 1)]) (k := 0) (by exact rfl) (by exact sc_is_triple_of_tuples.nd) (by exact (hr.mono (by decide))) (by exact hgd) (by exact (di_seq (by exact (de_var 0)))) (by exact ⟨blkOk_by (N := ["thing", "part"]) (sc := defScope s_is_triple_of_tuples) (by decide +kernel), rfl, by decide +kernel, rfl⟩) (by exact htb) (by exact rfl) (by exact hcT) (by exact (fun _ _ _ _ _ _ _ => (by exact (dg0_name (by exact sc_is_triple_of_tuples.nd) (by exact rfl) (by first | exact Or.inl rfl | exact Or.inr rfl) (by decide))))) (by exact (fun _ _ _ _ _ _ _ hr hgd => (by exact (de_callB (by exact (call_gIsa)) (by exact rfl) (by exact t.b_isinstance) (by exact bt_isinstance) (by exact (da_cons (by exact (de_var 1)) (by exact (da_cons (by exact (de_ty (by exact rfl) (by exact t.b_tuple) (by exact bt_tuple))) (by exact da_nil))))))))) (by exact rfl) (by exact t.b_all))))))))))))
/-! ### is_name -/
abbrev s_is_name : Stmt := top0 15
theorem sc_is_name : FnScope ["thing", "sign"] ["thing"] (defScope s_is_name) := ⟨rfl, rfl, rfl, by decide +kernel, rfl, by decide +kernel, by decide +kernel⟩
theorem bd_is_name : BindsH "is_name" s_is_name ["thing"] := fun _ _ _ _ _ _ us hl => match us, hl with | [_], _ => rfl
noncomputable def b_is_name (q : ErrC) : SS :=
    (sSeq (sIf (sOr (sNot (tTest' tru (eArgs gIsa (aCons (eVar 0) (aCons (eC (.ty "str")) aNil))))) (sOr (sNot (tTest' truB (eChain gLe gLe (eC (.dat (.int 1))) (eArgs gLen (aCons (eVar 0) aNil)) (eC (.dat (.int 12)))))) (tTest' truB (eBin gIn (eVar 0) (eC (.dat (.tuple [(.str "cells"), (.str "deeds"), (.str "exits"), (.str "if"), (.str "else"), (.str "while"), (.str "catch"), (.str "exit"), (.str "and"), (.str "or"), (.str "not"), (.str "law")]))))))) (sRet (eC (.dat (.bool false)))) sNil)
    (sRet (eAnd tru (eBin gIn (eBin gIx (eVar 0) (eC (.dat (.int 0)))) (eC (.dat (.str "abcdefghijklmnopqrstuvwxyz")))) (eAllG (srcSeq (eVar 0)) (aName 1) (eBin gIn (eVar 1) (eC (.dat (.str "abcdefghijklmnopqrstuvwxyz0123456789")))) [1]))))
noncomputable def f_is_name (q : ErrC) : FS := fnD 2 (b_is_name q)
theorem h_is_name (t : Tx P w K mg base q) (F : HasC K mg T (none) "is_name" s_is_name) (tb : TBs base mg T)  : Has P w K mg base T "is_name" ["thing"] 10 (f_is_name q) :=
  Has.ofC F tb sc_is_name bd_is_name fun _ _ _ _ _ _ _ _ htb hcT hr hgd => by exact
    (dss_cons (by exact (ds_if (by exact (DW.dt (by exact (dw_or (by exact (dt_not (by exact (dt_truth (by exact (de_callB (by exact (call_gIsa)) (by exact rfl) (by exact t.b_isinstance) (by exact bt_isinstance) (by exact (da_cons (by exact (de_var 0)) (by exact (da_cons (by exact (de_ty (by exact rfl) (by exact t.b_str) (by exact bt_str))) (by exact da_nil))))))))))) (by exact (dw_or (by exact (dt_not (by exact (dt_chain (by exact (op_gLe (by have hz := un_of hr; exact hz))) (by exact (op_gLe (by have hz := un_of hr; exact hz))) (by exact de_int) (by exact (de_callB (by exact (call_gLen)) (by exact rfl) (by exact t.b_len) (by exact bt_len) (by exact (da_cons (by exact (de_var 0)) (by exact da_nil))))) (by exact (de_kI (by exact t.k_LONGEST_NAME) (by exact rfl))))))) (by exact (dw_or1 (by exact (dt_cmp (by exact (op_gIn (by have hz := un_of hr; exact hz))) (by exact (de_var 0)) (by exact (de_kT (by exact t.k_RESERVED) (by exact rfl))) (by exact rfl))))))))))) (by exact (dss_one (by exact (ds_ret (by exact de_bl))))) (by exact dss_nil))) (by exact (dss_one (by exact (ds_ret (by exact (de_and (by exact (de_cmp (by exact (op_gIn (by have hz := un_of hr; exact hz))) (by exact (de_ix ix_gIx (by exact (de_var 0)) (by exact de_int) (fun _ _ => rfl))) (by exact (de_kS (by exact t.k_LETTERS) (by exact rfl))) (by exact rfl))) (by exact (de_one (by exact (de_allG (own := [("sign", 1)]) (k := 0) (by exact rfl) (by exact sc_is_name.nd) (by exact (hr.mono (by decide))) (by exact hgd) (by exact (di_seq (by exact (de_var 0)))) (by exact ⟨blkOk_by (N := ["thing", "sign"]) (sc := defScope s_is_name) (by decide +kernel), rfl, by decide +kernel, rfl⟩) (by exact htb) (by exact rfl) (by exact hcT) (by exact (fun _ _ _ _ _ _ _ => (by exact (dg0_name (by exact sc_is_name.nd) (by exact rfl) (by first | exact Or.inl rfl | exact Or.inr rfl) (by decide))))) (by exact (fun _ _ _ _ _ _ _ hr hgd => (by exact (de_cmp (by exact (op_gIn (by have hz := un_of hr; exact hz))) (by exact (de_var 1)) (by exact (de_kS (by exact t.k_LETTERS_AND_FIGURES) (by exact rfl))) (by exact rfl))))) (by exact rfl) (by exact t.b_all))))))))))))
/-! ### is_number -/
abbrev s_is_number : Stmt := top0 14
theorem sc_is_number : FnScope ["thing"] ["thing"] (defScope s_is_number) := ⟨rfl, rfl, rfl, by decide +kernel, rfl, by decide +kernel, by decide +kernel⟩
theorem bd_is_number : BindsH "is_number" s_is_number ["thing"] := fun _ _ _ _ _ _ us hl => match us, hl with | [_], _ => rfl
noncomputable def b_is_number (q : ErrC) : SS :=
    (sRet (eAnd tru (eArgs gIsa (aCons (eVar 0) (aCons (eC (.ty "int")) aNil))) (eUn gNotT (eArgs gIsa (aCons (eVar 0) (aCons (eC (.ty "bool")) aNil))))))
noncomputable def f_is_number (q : ErrC) : FS := fnD 1 (b_is_number q)
theorem h_is_number (t : Tx P w K mg base q) (F : HasF K mg "is_number" s_is_number)  : Has P w K mg base T "is_number" ["thing"] 1 (f_is_number q) :=
  Has.of F sc_is_number bd_is_number fun _ _ _ _ _ _ _ hr hgd => by exact
    (dss_one (by exact (ds_ret (by exact (de_and (by exact (de_callB (by exact (call_gIsa)) (by exact rfl) (by exact t.b_isinstance) (by exact bt_isinstance) (by exact (da_cons (by exact (de_var 0)) (by exact (da_cons (by exact (de_ty (by exact rfl) (by exact t.b_int) (by exact bt_int))) (by exact da_nil))))))) (by exact (de_one (by exact (de_not (by exact (de_callB (by exact (call_gIsa)) (by exact rfl) (by exact t.b_isinstance) (by exact bt_isinstance) (by exact (da_cons (by exact (de_var 0)) (by exact (da_cons (by exact (de_ty (by exact rfl) (by exact t.b_bool) (by exact bt_bool))) (by exact da_nil))))))))))))))))
/-! ### entry_name -/
abbrev s_entry_name : Stmt := top0 18
theorem sc_entry_name : FnScope ["part", "entry", "name", "number"] ["part", "entry"] (defScope s_entry_name) := ⟨rfl, rfl, rfl, by decide +kernel, rfl, by decide +kernel, by decide +kernel⟩
theorem bd_entry_name : BindsH "entry_name" s_entry_name ["part", "entry"] := fun _ _ _ _ _ _ us hl => match us, hl with | [_, _], _ => rfl
noncomputable def b_entry_name (q : ErrC) : SS :=
    (sSeq (sIf (tTest' truB (eBin gEq (eVar 0) (eC (.dat (.int 2))))) (sRet (eIf (tTest' tru (eCallA 1 (relCall (f_is_name q)) (aCons (eVar 1) aNil))) (eVar 1) (eC (.dat .none)))) sNil)
    (sSeq (sIf (sOr (sNot (tTest' tru (eArgs gIsa (aCons (eVar 1) (aCons (eC (.ty "tuple")) aNil))))) (tTest' truB (eBin gNe (eArgs gLen (aCons (eVar 1) aNil)) (eC (.dat (.int 2)))))) (sRet (eC (.dat .none))) sNil)
    (sSeq (sAsg (eVar 1) (aTup [(aName 2), (aName 3)]))
    (sSeq (sIf (sOr (sNot (tTest' tru (eCallA 1 (relCall (f_is_name q)) (aCons (eVar 2) aNil)))) (sOr (sNot (tTest' tru (eCallA 1 (relCall (f_is_number q)) (aCons (eVar 3) aNil)))) (sNot (tTest' truB (eChain gLe gLe (eC (.dat (.int 1))) (eVar 3) (eBin gIx (eC (.dat (.tuple [(.int 8), (.int 99)]))) (eVar 0))))))) (sRet (eC (.dat .none))) sNil)
    (sRet (eVar 2))))))
noncomputable def f_entry_name (q : ErrC) : FS := fnD 4 (b_entry_name q)
theorem h_entry_name (t : Tx P w K mg base q) (F : HasF K mg "entry_name" s_entry_name) (h_is_number : Has P w K mg base T "is_number" ["thing"] 1 (f_is_number q)) (h_is_name : Has P w K mg base T "is_name" ["thing"] 10 (f_is_name q)) : Has P w K mg base T "entry_name" ["part", "entry"] 11 (f_entry_name q) :=
  Has.of F sc_entry_name bd_entry_name fun _ _ _ _ _ _ _ hr hgd => by exact
    (dss_cons (by exact (ds_if (by exact (dt_cmp (by exact (op_gEq (by have hz := un_of hr; exact hz))) (by exact (de_var 0)) (by exact (de_kI (by exact t.k_EXITS) (by exact rfl))) (by exact rfl))) (by exact (dss_one (by exact (ds_ret (by exact (de_if (by exact (dt_truth (by exact (de_call (ps := ["thing"]) h_is_name.rel (by exact takes_fn) (by exact (hr.mono (by decide))) (by exact hgd) (by exact rfl) (by exact (da_cons (by exact (de_var 1)) (by exact da_nil))))))) (by exact (de_var 1)) (by exact de_non))))))) (by exact dss_nil))) (by exact (dss_cons (by exact (ds_if (by exact (DW.dt (by exact (dw_or (by exact (dt_not (by exact (dt_truth (by exact (de_callB (by exact (call_gIsa)) (by exact rfl) (by exact t.b_isinstance) (by exact bt_isinstance) (by exact (da_cons (by exact (de_var 1)) (by exact (da_cons (by exact (de_ty (by exact rfl) (by exact t.b_tuple) (by exact bt_tuple))) (by exact da_nil))))))))))) (by exact (dw_or1 (by exact (dt_cmp (by exact (op_gNe (by have hz := un_of hr; exact hz))) (by exact (de_callB (by exact (call_gLen)) (by exact rfl) (by exact t.b_len) (by exact bt_len) (by exact (da_cons (by exact (de_var 1)) (by exact da_nil))))) (by exact de_int) (by exact rfl))))))))) (by exact (dss_one (by exact (ds_ret (by exact de_non))))) (by exact dss_nil))) (by exact (dss_cons (by exact (ds_asg (by exact (de_var 1)) (by exact (dg_tup (by exact rfl) (by exact (dgs_cons (by exact (dg_name (by exact sc_entry_name.nd) (by exact rfl) (by first | exact Or.inl rfl | exact Or.inr rfl))) (by exact (dgs_cons (by exact (dg_name (by exact sc_entry_name.nd) (by exact rfl) (by first | exact Or.inl rfl | exact Or.inr rfl))) (by exact dgs_nil))))))))) (by exact (dss_cons (by exact (ds_if (by exact (DW.dt (by exact (dw_or (by exact (dt_not (by exact (dt_truth (by exact (de_call (ps := ["thing"]) h_is_name.rel (by exact takes_fn) (by exact (hr.mono (by decide))) (by exact hgd) (by exact rfl) (by exact (da_cons (by exact (de_var 2)) (by exact da_nil))))))))) (by exact (dw_or (by exact (dt_not (by exact (dt_truth (by exact (de_call (ps := ["thing"]) h_is_number.rel (by exact takes_fn) (by exact (hr.mono (by decide))) (by exact hgd) (by exact rfl) (by exact (da_cons (by exact (de_var 3)) (by exact da_nil))))))))) (by exact (dw_or1 (by exact (dt_not (by exact (dt_chain (by exact (op_gLe (by have hz := un_of hr; exact hz))) (by exact (op_gLe (by have hz := un_of hr; exact hz))) (by exact de_int) (by exact (de_var 3)) (by exact (de_ix ix_gIx (by exact (de_kT (by exact t.k_GREATEST_NUMBERS) (by exact rfl))) (by exact (de_var 0)) (fun _ _ => rfl))))))))))))))) (by exact (dss_one (by exact (ds_ret (by exact de_non))))) (by exact dss_nil))) (by exact (dss_one (by exact (ds_ret (by exact (de_var 2)))))))))))))
/-! ### states_of_cells -/
abbrev s_states_of_cells : Stmt := top0 19
theorem sc_states_of_cells : FnScope ["cells", "many", "_", "size"] ["cells"] (defScope s_states_of_cells) := ⟨rfl, rfl, rfl, by decide +kernel, rfl, by decide +kernel, by decide +kernel⟩
theorem bd_states_of_cells : BindsH "states_of_cells" s_states_of_cells ["cells"] := fun _ _ _ _ _ _ us hl => match us, hl with | [_], _ => rfl
noncomputable def b_states_of_cells (q : ErrC) : SS :=
    (sSeq (sAsg (eC (.dat (.int 1))) (aName 1))
    (sSeq (sFor (srcSeq (eVar 0)) (aTup [(aName 2), (aName 3)]) (sAsg (eBin gMul (eVar 1) (eVar 3)) (aName 1)))
    (sRet (eVar 1))))
noncomputable def f_states_of_cells (q : ErrC) : FS := fnD 4 (b_states_of_cells q)
theorem h_states_of_cells (t : Tx P w K mg base q) (F : HasF K mg "states_of_cells" s_states_of_cells)  : Has P w K mg base T "states_of_cells" ["cells"] 1 (f_states_of_cells q) :=
  Has.of F sc_states_of_cells bd_states_of_cells fun _ _ _ _ _ _ _ hr hgd => by exact
    (dss_cons (by exact (ds_asg (by exact de_int) (by exact (dg_name (by exact sc_states_of_cells.nd) (by exact rfl) (by first | exact Or.inl rfl | exact Or.inr rfl))))) (by exact (dss_cons (by exact (ds_for (by exact owns_fn) (by exact rfl) (by exact (di_seq (by exact (de_var 0)))) (by exact (dg_tup (by exact rfl) (by exact (dgs_cons (by exact (dg_name (by exact sc_states_of_cells.nd) (by exact rfl) (by first | exact Or.inl rfl | exact Or.inr rfl))) (by exact (dgs_cons (by exact (dg_name (by exact sc_states_of_cells.nd) (by exact rfl) (by first | exact Or.inl rfl | exact Or.inr rfl))) (by exact dgs_nil))))))) (by exact (dss_one (by exact (ds_asg (by exact (de_op op_gMul (by exact (de_var 1)) (by exact (de_var 3)))) (by exact (dg_name (by exact sc_states_of_cells.nd) (by exact rfl) (by first | exact Or.inl rfl | exact Or.inr rfl))))))))) (by exact (dss_one (by exact (ds_ret (by exact (de_var 1)))))))))
/-! ### made_ground -/
abbrev s_made_ground : Stmt := top0 16
theorem sc_made_ground : FnScope ["thing", "ahead", "part", "entries", "index", "entry", "name"] ["thing"] (defScope s_made_ground) := ⟨rfl, rfl, rfl, by decide +kernel, rfl, by decide +kernel, by decide +kernel⟩
theorem bd_made_ground : BindsH "made_ground" s_made_ground ["thing"] := fun _ _ _ _ _ _ us hl => match us, hl with | [_], _ => rfl
noncomputable def b_made_ground (q : ErrC) : SS :=
    (sSeq (sIf (sNot (tTest' tru (eCallA 1 (relCall (f_is_triple_of_tuples q)) (aCons (eVar 0) aNil)))) (sRaise q.BadGround (eUn gNeg (eC (.dat (.int 1))))) sNil)
    (sSeq (sAsg (eArgs gLstD aNil) (aName 1))
    (sSeq (sFor (srcEnum (aCons (eVar 0) aNil)) (aTup [(aName 2), (aName 3)]) (sSeq (sIf (sOr (tTest' truB (eBin gGt (eArgs gLen (aCons (eVar 3) aNil)) (eBin gIx (eC (.dat (.tuple [(.int 4), (.int 3), (.int 4)]))) (eVar 2)))) (sAnd (tTest' truB (eBin gEq (eVar 2) (eC (.dat (.int 2))))) (sNot (tTest' tru (eVar 3))))) (sRaise q.BadGround (eArgs gTupD (aCons (eVar 2) (aCons (eUn gNeg (eC (.dat (.int 1)))) aNil)))) sNil)
    (sSeq (sFor (srcEnum (aCons (eVar 3) aNil)) (aTup [(aName 4), (aName 5)]) (sSeq (sAsg (eCallA 2 (relCall (f_entry_name q)) (aCons (eVar 2) (aCons (eVar 5) aNil))) (aName 6))
    (sSeq (sIf (sOr (tTest' truB (eBin gIs (eVar 6) (eC (.dat .none)))) (tTest' truB (eBin gIn (eVar 6) (eVar 1)))) (sRaise q.BadGround (eArgs gTupD (aCons (eVar 2) (aCons (eVar 4) aNil)))) sNil)
    (sDrop (eMet isLst gAppend (eVar 1) (aCons (eVar 6) aNil))))))
    (sIf (sAnd (tTest' truB (eBin gEq (eVar 2) (eC (.dat (.int 0))))) (tTest' truB (eBin gGt (eCallA 1 (relCall (f_states_of_cells q)) (aCons (eVar 3) aNil)) (eC (.dat (.int 64)))))) (sRaise q.BadGround (eArgs gTupD (aCons (eC (.dat (.int 0))) (aCons (eUn gNeg (eC (.dat (.int 1)))) aNil)))) sNil))))
    (sRet (eVar 0)))))
noncomputable def f_made_ground (q : ErrC) : FS := fnD 7 (b_made_ground q)
theorem h_made_ground (t : Tx P w K mg base q) (F : HasF K mg "made_ground" s_made_ground) (h_states_of_cells : Has P w K mg base T "states_of_cells" ["cells"] 1 (f_states_of_cells q)) (h_entry_name : Has P w K mg base T "entry_name" ["part", "entry"] 11 (f_entry_name q)) (h_is_triple_of_tuples : Has P w K mg base T "is_triple_of_tuples" ["thing"] 10 (f_is_triple_of_tuples q)) : Has P w K mg base T "made_ground" ["thing"] 12 (f_made_ground q) :=
  Has.of F sc_made_ground bd_made_ground fun _ _ _ _ _ _ _ hr hgd => by exact
    (dss_cons (by exact (ds_if (by exact (dt_not (by exact (dt_truth (by exact (de_call (ps := ["thing"]) h_is_triple_of_tuples.rel (by exact takes_fn) (by exact (hr.mono (by decide))) (by exact hgd) (by exact rfl) (by exact (da_cons (by exact (de_var 0)) (by exact da_nil))))))))) (by exact (dss_one (by exact (ds_raise' (by exact t.c_BadGround) (by exact rfl) (by exact takes_fn) (by exact (hr.mono (by decide))) (by exact rfl) (by exact (de_un un_gNeg (by exact de_int))))))) (by exact dss_nil))) (by exact (dss_cons (by exact (ds_asg (by exact (de_lst (by exact da_nil))) (by exact (dg_name (by exact sc_made_ground.nd) (by exact rfl) (by first | exact Or.inl rfl | exact Or.inr rfl))))) (by exact (dss_cons (by exact (ds_for (by exact owns_fn) (by exact rfl) (by exact (di_enum (by exact rfl) (by exact t.b_enumerate) (by exact (da_cons (by exact (de_var 0)) (by exact da_nil))))) (by exact (dg_tup (by exact rfl) (by exact (dgs_cons (by exact (dg_name (by exact sc_made_ground.nd) (by exact rfl) (by first | exact Or.inl rfl | exact Or.inr rfl))) (by exact (dgs_cons (by exact (dg_name (by exact sc_made_ground.nd) (by exact rfl) (by first | exact Or.inl rfl | exact Or.inr rfl))) (by exact dgs_nil))))))) (by exact (dss_cons (by exact (ds_if (by exact (DW.dt (by exact (dw_or (by exact (dt_cmp (by exact (op_gGt (by have hz := un_of hr; exact hz))) (by exact (de_callB (by exact (call_gLen)) (by exact rfl) (by exact t.b_len) (by exact bt_len) (by exact (da_cons (by exact (de_var 3)) (by exact da_nil))))) (by exact (de_ix ix_gIx (by exact (de_kT (by exact t.k_MOST_ENTRIES) (by exact rfl))) (by exact (de_var 2)) (fun _ _ => rfl))) (by exact rfl))) (by exact (dw_or1 (by exact (DW.dt (by exact (dw_and (by exact (dt_cmp (by exact (op_gEq (by have hz := un_of hr; exact hz))) (by exact (de_var 2)) (by exact (de_kI (by exact t.k_EXITS) (by exact rfl))) (by exact rfl))) (by exact (dw_and1 (by exact (dt_not (by exact (dt_truth (by exact (de_var 3)))))))))))))))))) (by exact (dss_one (by exact (ds_raise' (by exact t.c_BadGround) (by exact rfl) (by exact takes_fn) (by exact (hr.mono (by decide))) (by exact rfl) (by exact (de_tup (by exact (da_cons (by exact (de_var 2)) (by exact (da_cons (by exact (de_un un_gNeg (by exact de_int))) (by exact da_nil))))))))))) (by exact dss_nil))) (by exact (dss_cons (by exact (ds_for (by exact owns_fn) (by exact rfl) (by exact (di_enum (by exact rfl) (by exact t.b_enumerate) (by exact (da_cons (by exact (de_var 3)) (by exact da_nil))))) (by exact (dg_tup (by exact rfl) (by exact (dgs_cons (by exact (dg_name (by exact sc_made_ground.nd) (by exact rfl) (by first | exact Or.inl rfl | exact Or.inr rfl))) (by exact (dgs_cons (by exact (dg_name (by exact sc_made_ground.nd) (by exact rfl) (by first | exact Or.inl rfl | exact Or.inr rfl))) (by exact dgs_nil))))))) (by exact (dss_cons (by exact (ds_asg (by exact (de_call (ps := ["part", "entry"]) h_entry_name.rel (by exact takes_fn) (by exact (hr.mono (by decide))) (by exact hgd) (by exact rfl) (by exact (da_cons (by exact (de_var 2)) (by exact (da_cons (by exact (de_var 5)) (by exact da_nil))))))) (by exact (dg_name (by exact sc_made_ground.nd) (by exact rfl) (by first | exact Or.inl rfl | exact Or.inr rfl))))) (by exact (dss_cons (by exact (ds_if (by exact (DW.dt (by exact (dw_or (by exact (dt_cmp (by exact (op_gIs)) (by exact (de_var 6)) (by exact de_non) (by exact rfl))) (by exact (dw_or1 (by exact (dt_cmp (by exact (op_gIn (by have hz := un_of hr; exact hz))) (by exact (de_var 6)) (by exact (de_var 1)) (by exact rfl))))))))) (by exact (dss_one (by exact (ds_raise' (by exact t.c_BadGround) (by exact rfl) (by exact takes_fn) (by exact (hr.mono (by decide))) (by exact rfl) (by exact (de_tup (by exact (da_cons (by exact (de_var 2)) (by exact (da_cons (by exact (de_var 4)) (by exact da_nil))))))))))) (by exact dss_nil))) (by exact (dss_one (by exact (ds_expr (by exact (de_met lst_ty PySem.F.plainAttrs_list PySem.F.slot_list_append PySem.F.type_list_append mt_gAppend (by exact (de_var 1)) (by exact (da_cons (by exact (de_var 6)) (by exact da_nil))))))))))))))) (by exact (dss_one (by exact (ds_if (by exact (DW.dt (by exact (dw_and (by exact (dt_cmp (by exact (op_gEq (by have hz := un_of hr; exact hz))) (by exact (de_var 2)) (by exact (de_kI (by exact t.k_CELLS) (by exact rfl))) (by exact rfl))) (by exact (dw_and1 (by exact (dt_cmp (by exact (op_gGt (by have hz := un_of hr; exact hz))) (by exact (de_call (ps := ["cells"]) h_states_of_cells.rel (by exact takes_fn) (by exact (hr.mono (by decide))) (by exact hgd) (by exact rfl) (by exact (da_cons (by exact (de_var 3)) (by exact da_nil))))) (by exact (de_kI (by exact t.k_MOST_STATES) (by exact rfl))) (by exact rfl))))))))) (by exact (dss_one (by exact (ds_raise' (by exact t.c_BadGround) (by exact rfl) (by exact takes_fn) (by exact (hr.mono (by decide))) (by exact rfl) (by exact (de_tup (by exact (da_cons (by exact (de_kI (by exact t.k_CELLS) (by exact rfl))) (by exact (da_cons (by exact (de_un un_gNeg (by exact de_int))) (by exact da_nil))))))))))) (by exact dss_nil))))))))))) (by exact (dss_one (by exact (ds_ret (by exact (de_var 0)))))))))))
/-! ### price_of -/
abbrev s_price_of : Stmt := top0 26
theorem sc_price_of : FnScope ["kinds", "v", "part", "_", "cost"] ["kinds", "v"] (defScope s_price_of) := ⟨rfl, rfl, rfl, by decide +kernel, rfl, by decide +kernel, by decide +kernel⟩
theorem bd_price_of : BindsH "price_of" s_price_of ["kinds", "v"] := fun _ _ _ _ _ _ us hl => match us, hl with | [_, _], _ => rfl
noncomputable def b_price_of (q : ErrC) : SS :=
    (sRet (eArgs gSum (aCons (eLc (srcZip (aCons (eVar 1) (aCons (eVar 0) aNil))) (aTup [(aName 2), (aTup [(aName 3), (aName 4)])]) tNo (eBin gMul (eVar 2) (eVar 4)) [2, 3, 4]) aNil)))
noncomputable def f_price_of (q : ErrC) : FS := fnD 5 (b_price_of q)
theorem h_price_of (t : Tx P w K mg base q) (F : HasF K mg "price_of" s_price_of)  : Has P w K mg base T "price_of" ["kinds", "v"] 1 (f_price_of q) :=
  Has.of F sc_price_of bd_price_of fun _ _ _ _ _ _ _ hr hgd => by exact
    (dss_one (by exact (ds_ret (by exact (de_callB (by exact (call_gSum (by exact rfl))) (by exact rfl) (by exact t.b_sum) (by exact bt_sum) (by exact (da_cons (by exact (de_lc (own := [("part", 2), ("_", 3), ("cost", 4)]) (by exact rfl) (by exact sc_price_of.nd) (by exact (di_zip (by exact rfl) (by exact t.b_zip) (by exact (da_cons (by exact (de_var 1)) (by exact (da_cons (by exact (de_var 0)) (by exact da_nil))))))) (by exact (blkOk_by (N := ["kinds", "v", "part", "_", "cost"]) (sc := defScope s_price_of) (by decide +kernel))) (by exact (fun _ _ _ _ _ => (by exact (dg0_tup (by exact rfl) (by exact (dgs0_cons (by exact (dg0_name (by exact sc_price_of.nd) (by exact rfl) (by first | exact Or.inl rfl | exact Or.inr rfl) (by decide))) (by exact (dgs0_cons (by exact (dg0_tup (by exact rfl) (by exact (dgs0_cons (by exact (dg0_name (by exact sc_price_of.nd) (by exact rfl) (by first | exact Or.inl rfl | exact Or.inr rfl) (by decide))) (by exact (dgs0_cons (by exact (dg0_name (by exact sc_price_of.nd) (by exact rfl) (by first | exact Or.inl rfl | exact Or.inr rfl) (by decide))) (by exact dgs0_nil))))))) (by exact dgs0_nil))))))))) (by exact (fun _ _ _ _ _ => (by exact (dts_nil)))) (by exact (fun _ _ _ _ _ => (by exact (de_op op_gMul (by exact (de_var 2)) (by exact (de_var 4)))))))) (by exact da_nil))))))))
/-! ### is_count_of -/
abbrev s_is_count_of : Stmt := top0 23
theorem sc_is_count_of : FnScope ["kinds", "thing", "part"] ["kinds", "thing"] (defScope s_is_count_of) := ⟨rfl, rfl, rfl, by decide +kernel, rfl, by decide +kernel, by decide +kernel⟩
theorem bd_is_count_of : BindsH "is_count_of" s_is_count_of ["kinds", "thing"] := fun _ _ _ _ _ _ us hl => match us, hl with | [_, _], _ => rfl
noncomputable def b_is_count_of (q : ErrC) : SS :=
    (sSeq (sIf (sOr (sNot (tTest' tru (eArgs gIsa (aCons (eVar 1) (aCons (eC (.ty "tuple")) aNil))))) (tTest' truB (eBin gNe (eArgs gLen (aCons (eVar 1) aNil)) (eArgs gLen (aCons (eVar 0) aNil))))) (sRet (eC (.dat (.bool false)))) sNil)
    (sRet (eAllG (srcSeq (eVar 1)) (aName 2) (eAnd tru (eCallA 1 (relCall (f_is_number q)) (aCons (eVar 2) aNil)) (eBin gGe (eVar 2) (eC (.dat (.int 0))))) [2])))
noncomputable def f_is_count_of (q : ErrC) : FS := fnD 3 (b_is_count_of q)
theorem h_is_count_of (t : Tx P w K mg base q) (F : HasC K mg T (none) "is_count_of" s_is_count_of) (tb : TBs base mg T) (h_is_number : Has P w K mg base T "is_number" ["thing"] 1 (f_is_number q)) : Has P w K mg base T "is_count_of" ["kinds", "thing"] 11 (f_is_count_of q) :=
  Has.ofC F tb sc_is_count_of bd_is_count_of fun _ _ _ _ _ _ _ _ htb hcT hr hgd => by exact
    (dss_cons (by exact (ds_if (by exact (DW.dt (by exact (dw_or (by exact (dt_not (by exact (dt_truth (by exact (de_callB (by exact (call_gIsa)) (by exact rfl) (by exact t.b_isinstance) (by exact bt_isinstance) (by exact (da_cons (by exact (de_var 1)) (by exact (da_cons (by exact (de_ty (by exact rfl) (by exact t.b_tuple) (by exact bt_tuple))) (by exact da_nil))))))))))) (by exact (dw_or1 (by exact (dt_cmp (by exact (op_gNe (by have hz := un_of hr; exact hz))) (by exact (de_callB (by exact (call_gLen)) (by exact rfl) (by exact t.b_len) (by exact bt_len) (by exact (da_cons (by exact (de_var 1)) (by exact da_nil))))) (by exact (de_callB (by exact (call_gLen)) (by exact rfl) (by exact t.b_len) (by exact bt_len) (by exact (da_cons (by exact (de_var 0)) (by exact da_nil))))) (by exact rfl))))))))) (by exact (dss_one (by exact (ds_ret (by exact de_bl))))) (by exact dss_nil))) (by exact (dss_one (by exact (ds_ret (by exact (de_allG (own := [("part", 2)]) (k := 1) (by exact rfl) (by exact sc_is_count_of.nd) (by exact (hr.mono (by decide))) (by exact hgd) (by exact (di_seq (by exact (de_var 1)))) (by exact ⟨blkOk_by (N := ["kinds", "thing", "part"]) (sc := defScope s_is_count_of) (by decide +kernel), rfl, by decide +kernel, rfl⟩) (by exact htb) (by exact rfl) (by exact hcT) (by exact (fun _ _ _ _ _ _ _ => (by exact (dg0_name (by exact sc_is_count_of.nd) (by exact rfl) (by first | exact Or.inl rfl | exact Or.inr rfl) (by decide))))) (by exact (fun _ _ _ _ _ _ _ hr hgd => (by exact (de_and (by exact (de_call (ps := ["thing"]) h_is_number.rel (by exact takes_false) (by exact (hr.mono (by decide))) (by exact hgd) (by exact rfl) (by exact (da_cons (by exact (de_var 2)) (by exact da_nil))))) (by exact (de_one (by exact (de_cmp (by exact (op_gGe (by have hz := un_of hr; exact hz))) (by exact (de_var 2)) (by exact de_int) (by exact rfl))))))))) (by exact rfl) (by exact t.b_all))))))))
/-! ### price -/
abbrev s_price : Stmt := top0 24
theorem sc_price : FnScope ["ground", "v"] ["ground", "v"] (defScope s_price) := ⟨rfl, rfl, rfl, by decide +kernel, rfl, by decide +kernel, by decide +kernel⟩
theorem bd_price : BindsH "price" s_price ["ground", "v"] := fun _ _ _ _ _ _ us hl => match us, hl with | [_, _], _ => rfl
noncomputable def b_price (q : ErrC) : SS :=
    (sSeq (sDrop (eCallA 1 (relCall (f_made_ground q)) (aCons (eVar 0) aNil)))
    (sSeq (sIf (sNot (tTest' tru (eCallA 2 (relCall (f_is_count_of q)) (aCons (eBin gIx (eVar 0) (eC (.dat (.int 1)))) (aCons (eVar 1) aNil))))) (sRaise q.BadCount (eVar 1)) sNil)
    (sRet (eCallA 2 (relCall (f_price_of q)) (aCons (eBin gIx (eVar 0) (eC (.dat (.int 1)))) (aCons (eVar 1) aNil))))))
noncomputable def f_price (q : ErrC) : FS := fnD 2 (b_price q)
theorem h_price (t : Tx P w K mg base q) (F : HasF K mg "price" s_price) (h_price_of : Has P w K mg base T "price_of" ["kinds", "v"] 1 (f_price_of q)) (h_is_count_of : Has P w K mg base T "is_count_of" ["kinds", "thing"] 11 (f_is_count_of q)) (h_made_ground : Has P w K mg base T "made_ground" ["thing"] 12 (f_made_ground q)) : Has P w K mg base T "price" ["ground", "v"] 13 (f_price q) :=
  Has.of F sc_price bd_price fun _ _ _ _ _ _ _ hr hgd => by exact
    (dss_cons (by exact (ds_expr (by exact (de_call (ps := ["thing"]) h_made_ground.rel (by exact takes_fn) (by exact (hr.mono (by decide))) (by exact hgd) (by exact rfl) (by exact (da_cons (by exact (de_var 0)) (by exact da_nil))))))) (by exact (dss_cons (by exact (ds_if (by exact (dt_not (by exact (dt_truth (by exact (de_call (ps := ["kinds", "thing"]) h_is_count_of.rel (by exact takes_fn) (by exact (hr.mono (by decide))) (by exact hgd) (by exact rfl) (by exact (da_cons (by exact (de_ix ix_gIx (by exact (de_var 0)) (by exact de_int) (fun _ _ => rfl))) (by exact (da_cons (by exact (de_var 1)) (by exact da_nil))))))))))) (by exact (dss_one (by exact (ds_raise' (by exact t.c_BadCount) (by exact rfl) (by exact takes_fn) (by exact (hr.mono (by decide))) (by exact rfl) (by exact (de_var 1)))))) (by exact dss_nil))) (by exact (dss_one (by exact (ds_ret (by exact (de_call (ps := ["kinds", "v"]) h_price_of.rel (by exact takes_fn) (by exact (hr.mono (by decide))) (by exact hgd) (by exact rfl) (by exact (da_cons (by exact (de_ix ix_gIx (by exact (de_var 0)) (by exact de_int) (fun _ _ => rfl))) (by exact (da_cons (by exact (de_var 1)) (by exact da_nil))))))))))))))
/-! ### key -/
abbrev s_key : Stmt := top0 25
theorem sc_key : FnScope ["ground", "v"] ["ground", "v"] (defScope s_key) := ⟨rfl, rfl, rfl, by decide +kernel, rfl, by decide +kernel, by decide +kernel⟩
theorem bd_key : BindsH "key" s_key ["ground", "v"] := fun _ _ _ _ _ _ us hl => match us, hl with | [_, _], _ => rfl
noncomputable def b_key (q : ErrC) : SS :=
    (sRet (eArgs gTupD (aCons (eCallA 2 (relCall (f_price q)) (aCons (eVar 0) (aCons (eVar 1) aNil))) (aCons (eVar 1) aNil))))
noncomputable def f_key (q : ErrC) : FS := fnD 2 (b_key q)
theorem h_key (t : Tx P w K mg base q) (F : HasF K mg "key" s_key) (h_price : Has P w K mg base T "price" ["ground", "v"] 13 (f_price q)) : Has P w K mg base T "key" ["ground", "v"] 14 (f_key q) :=
  Has.of F sc_key bd_key fun _ _ _ _ _ _ _ hr hgd => by exact
    (dss_one (by exact (ds_ret (by exact (de_tup (by exact (da_cons (by exact (de_call (ps := ["ground", "v"]) h_price.rel (by exact takes_fn) (by exact (hr.mono (by decide))) (by exact hgd) (by exact rfl) (by exact (da_cons (by exact (de_var 0)) (by exact (da_cons (by exact (de_var 1)) (by exact da_nil))))))) (by exact (da_cons (by exact (de_var 1)) (by exact da_nil))))))))))
/-! ### _law_odd_right -/
abbrev s__law_odd_right : Stmt := top0 38
theorem sc__law_odd_right : FnScope ["source", "ground", "v", "some", "k", "odd"] ["source", "ground", "v"] (defScope s__law_odd_right) := ⟨rfl, rfl, rfl, by decide +kernel, rfl, by decide +kernel, by decide +kernel⟩
theorem bd__law_odd_right : BindsH "_law_odd_right" s__law_odd_right ["source", "ground", "v"] := fun _ _ _ _ _ _ us hl => match us, hl with | [_, _, _], _ => rfl
noncomputable def b__law_odd_right (q : ErrC) : SS :=
    (sSeq (sAsg (eArgs gLstD (aCons (eBin gAdd (eVar 2) (eArgs gTupD (aCons (eC (.dat (.int 0))) aNil))) (aCons (eC (.dat .none)) (aCons (eC (.dat (.str "count"))) (aCons (eC (.dat (.int 7))) (aCons (eArgs gTupD (aCons (eVar 2) aNil)) aNil)))))) (aName 3))
    (sSeq (sIf (tTest' truB (eBin gNe (eVar 2) (eArgs gTupD aNil))) (sSeq (sAsg (eCallA 2 (relCall (f__law_take q)) (aCons (eVar 0) (aCons (eArgs gLen (aCons (eVar 2) aNil)) aNil))) (aName 4))
    (sAsg (eBin gAdd (eVar 3) (eArgs gLstD (aCons (eSl (eVar 2) (oSome (eC (.dat (.int 1)))) oNone) (aCons (eBin gAdd (eBin gAdd (eSl (eVar 2) oNone (oSome (eVar 4))) (eArgs gTupD (aCons (eBin gSub (eC (.dat (.int 0))) (eC (.dat (.int 1)))) aNil))) (eSl (eVar 2) (oSome (eBin gAdd (eVar 4) (eC (.dat (.int 1))))) oNone)) (aCons (eBin gAdd (eBin gAdd (eSl (eVar 2) oNone (oSome (eVar 4))) (eArgs gTupD (aCons (eC (.dat (.str "0"))) aNil))) (eSl (eVar 2) (oSome (eBin gAdd (eVar 4) (eC (.dat (.int 1))))) oNone)) (aCons (eBin gAdd (eBin gAdd (eSl (eVar 2) oNone (oSome (eVar 4))) (eArgs gTupD (aCons (eC (.dat .none)) aNil))) (eSl (eVar 2) (oSome (eBin gAdd (eVar 4) (eC (.dat (.int 1))))) oNone)) aNil)))))) (aName 3))) sNil)
    (sSeq (sAsg (eCallA 2 (relCall (f__law_one q)) (aCons (eVar 0) (aCons (eVar 3) aNil))) (aName 5))
    (sSeq (sIf (sNot (tTest' tru (eThunk (fnH 3 (b__law_is_refused q)) (eCallA 2 (relCall (f_price q)) (aCons (eVar 1) (aCons (eVar 5) aNil))) (aCons (eVar 5) aNil)))) (sRet (eC (.dat (.bool false)))) sNil)
    (sRet (eThunk (fnH 3 (b__law_is_refused q)) (eCallA 2 (relCall (f_key q)) (aCons (eVar 1) (aCons (eVar 5) aNil))) (aCons (eVar 5) aNil)))))))
noncomputable def f__law_odd_right (q : ErrC) : FS := fnD 6 (b__law_odd_right q)
theorem h__law_odd_right (t : Tx P w K mg base q) (F : HasC K mg T (some (("_law_odd_right" : Str) ++ ".<locals>." ++ "<lambda>")) "_law_odd_right" s__law_odd_right) (tb : TBs base mg T) (h__law_is_refused : HasH P w K mg base T "_law_is_refused" s__law_is_refused "call" ["call", "thing", "fault"] 0 (b__law_is_refused q)) (h_key : Has P w K mg base T "key" ["ground", "v"] 14 (f_key q)) (h_price : Has P w K mg base T "price" ["ground", "v"] 13 (f_price q)) (h__law_one : Has P w K mg base T "_law_one" ["source", "things"] 2 (f__law_one q)) (h__law_take : Has P w K mg base T "_law_take" ["source", "top"] 1 (f__law_take q)) : Has P w K mg base T "_law_odd_right" ["source", "ground", "v"] 17 (f__law_odd_right q) :=
  Has.ofC F tb sc__law_odd_right bd__law_odd_right fun _ _ _ _ _ _ _ _ htb hcT hr hgd => by exact
    (dss_cons (by exact (ds_asg (by exact (de_lst (by exact (da_cons (by exact (de_op op_gAdd (by exact (de_var 2)) (by exact (de_tup (by exact (da_cons (by exact de_int) (by exact da_nil))))))) (by exact (da_cons (by exact de_non) (by exact (da_cons (by exact de_str) (by exact (da_cons (by exact de_int) (by exact (da_cons (by exact (de_tup (by exact (da_cons (by exact (de_var 2)) (by exact da_nil))))) (by exact da_nil))))))))))))) (by exact (dg_name (by exact sc__law_odd_right.nd) (by exact rfl) (by first | exact Or.inl rfl | exact Or.inr rfl))))) (by exact (dss_cons (by exact (ds_if (by exact (dt_cmp (by exact (op_gNe (by have hz := un_of hr; exact hz))) (by exact (de_var 2)) (by exact (de_tup (by exact da_nil))) (by exact rfl))) (by exact (dss_cons (by exact (ds_asg (by exact (de_call (ps := ["source", "top"]) h__law_take.rel (by exact takes_fn) (by exact (hr.mono (by decide))) (by exact hgd) (by exact rfl) (by exact (da_cons (by exact (de_var 0)) (by exact (da_cons (by exact (de_callB (by exact (call_gLen)) (by exact rfl) (by exact t.b_len) (by exact bt_len) (by exact (da_cons (by exact (de_var 2)) (by exact da_nil))))) (by exact da_nil))))))) (by exact (dg_name (by exact sc__law_odd_right.nd) (by exact rfl) (by first | exact Or.inl rfl | exact Or.inr rfl))))) (by exact (dss_one (by exact (ds_asg (by exact (de_op op_gAdd (by exact (de_var 3)) (by exact (de_lst (by exact (da_cons (by exact (de_slice (by exact (de_var 2)) (by exact (do_some (by exact de_int))) (by exact do_none))) (by exact (da_cons (by exact (de_op op_gAdd (by exact (de_op op_gAdd (by exact (de_slice (by exact (de_var 2)) (by exact do_none) (by exact (do_some (by exact (de_var 4)))))) (by exact (de_tup (by exact (da_cons (by exact (de_op op_gSub (by exact de_int) (by exact de_int))) (by exact da_nil))))))) (by exact (de_slice (by exact (de_var 2)) (by exact (do_some (by exact (de_op op_gAdd (by exact (de_var 4)) (by exact de_int))))) (by exact do_none))))) (by exact (da_cons (by exact (de_op op_gAdd (by exact (de_op op_gAdd (by exact (de_slice (by exact (de_var 2)) (by exact do_none) (by exact (do_some (by exact (de_var 4)))))) (by exact (de_tup (by exact (da_cons (by exact de_str) (by exact da_nil))))))) (by exact (de_slice (by exact (de_var 2)) (by exact (do_some (by exact (de_op op_gAdd (by exact (de_var 4)) (by exact de_int))))) (by exact do_none))))) (by exact (da_cons (by exact (de_op op_gAdd (by exact (de_op op_gAdd (by exact (de_slice (by exact (de_var 2)) (by exact do_none) (by exact (do_some (by exact (de_var 4)))))) (by exact (de_tup (by exact (da_cons (by exact de_non) (by exact da_nil))))))) (by exact (de_slice (by exact (de_var 2)) (by exact (do_some (by exact (de_op op_gAdd (by exact (de_var 4)) (by exact de_int))))) (by exact do_none))))) (by exact da_nil))))))))))))) (by exact (dg_name (by exact sc__law_odd_right.nd) (by exact rfl) (by first | exact Or.inl rfl | exact Or.inr rfl))))))))) (by exact dss_nil))) (by exact (dss_cons (by exact (ds_asg (by exact (de_call (ps := ["source", "things"]) h__law_one.rel (by exact takes_fn) (by exact (hr.mono (by decide))) (by exact hgd) (by exact rfl) (by exact (da_cons (by exact (de_var 0)) (by exact (da_cons (by exact (de_var 3)) (by exact da_nil))))))) (by exact (dg_name (by exact sc__law_odd_right.nd) (by exact rfl) (by first | exact Or.inl rfl | exact Or.inr rfl))))) (by exact (dss_cons (by exact (ds_if (by exact (dt_not (by exact (dt_truth (by exact (de_thunk (k := 13) (by exact (HasH.mono (k := 14) h__law_is_refused (by decide))) (by exact takes_fn) (by exact (hr.mono (by decide))) (by exact hgd) (by exact rfl) (by exact htb) (by exact rfl) (by exact hcT) (by exact (LamX.lamS_by (sc := defScope s__law_odd_right) (by decide +kernel))) (by exact rfl) (by exact (fun _ _ _ _ _ => (by exact (rfl)))) (by exact (fun _ _ _ _ _ _ _ hr hgd => (by exact (de_call (ps := ["ground", "v"]) h_price.rel (by exact takes_lam) (by exact (hr.mono (by decide))) (by exact hgd) (by exact rfl) (by exact (da_cons (by exact (de_var 1)) (by exact (da_cons (by exact (de_var 5)) (by exact da_nil))))))))) (by exact (da_cons (by exact (de_var 5)) (by exact da_nil))))))))) (by exact (dss_one (by exact (ds_ret (by exact de_bl))))) (by exact dss_nil))) (by exact (dss_one (by exact (ds_ret (by exact (de_thunk (k := 14) (by exact (HasH.mono (k := 15) h__law_is_refused (by decide))) (by exact takes_fn) (by exact (hr.mono (by decide))) (by exact hgd) (by exact rfl) (by exact htb) (by exact rfl) (by exact hcT) (by exact (LamX.lamS_by (sc := defScope s__law_odd_right) (by decide +kernel))) (by exact rfl) (by exact (fun _ _ _ _ _ => (by exact (rfl)))) (by exact (fun _ _ _ _ _ _ _ hr hgd => (by exact (de_call (ps := ["ground", "v"]) h_key.rel (by exact takes_lam) (by exact (hr.mono (by decide))) (by exact hgd) (by exact rfl) (by exact (da_cons (by exact (de_var 1)) (by exact (da_cons (by exact (de_var 5)) (by exact da_nil))))))))) (by exact (da_cons (by exact (de_var 5)) (by exact da_nil))))))))))))))))
/-! ### _law_drawn_count -/
abbrev s__law_drawn_count : Stmt := top0 33
theorem sc__law_drawn_count : FnScope ["source", "kinds", "parts", "k"] ["source", "kinds"] (defScope s__law_drawn_count) := ⟨rfl, rfl, rfl, by decide +kernel, rfl, by decide +kernel, by decide +kernel⟩
theorem bd__law_drawn_count : BindsH "_law_drawn_count" s__law_drawn_count ["source", "kinds"] := fun _ _ _ _ _ _ us hl => match us, hl with | [_, _], _ => rfl
noncomputable def b__law_drawn_count (q : ErrC) : SS :=
    (sSeq (sAsg (eArgs gLstD aNil) (aName 2))
    (sSeq (sFor (srcRange1 (aCons (eVar 1) aNil)) (aName 3) (sDrop (eMet isLst gAppend (eVar 2) (aCons (eCallA 2 (relCall (f__law_one q)) (aCons (eVar 0) (aCons (eArgs gLstD (aCons (eC (.dat (.int 0))) (aCons (eC (.dat (.int 1))) (aCons (eCallA 2 (relCall (f__law_take q)) (aCons (eVar 0) (aCons (eC (.dat (.int 9))) aNil))) (aCons (eBin gAdd (eBin gPow (eC (.dat (.int 10))) (eC (.dat (.int 60)))) (eCallA 2 (relCall (f__law_take q)) (aCons (eVar 0) (aCons (eC (.dat (.int 3))) aNil)))) aNil))))) aNil))) aNil))))
    (sRet (eArgs gTuple (aCons (eVar 2) aNil)))))
noncomputable def f__law_drawn_count (q : ErrC) : FS := fnD 4 (b__law_drawn_count q)
theorem h__law_drawn_count (t : Tx P w K mg base q) (F : HasF K mg "_law_drawn_count" s__law_drawn_count) (h__law_take : Has P w K mg base T "_law_take" ["source", "top"] 1 (f__law_take q)) (h__law_one : Has P w K mg base T "_law_one" ["source", "things"] 2 (f__law_one q)) : Has P w K mg base T "_law_drawn_count" ["source", "kinds"] 3 (f__law_drawn_count q) :=
  Has.of F sc__law_drawn_count bd__law_drawn_count fun _ _ _ _ _ _ _ hr hgd => by exact
    (dss_cons (by exact (ds_asg (by exact (de_lst (by exact da_nil))) (by exact (dg_name (by exact sc__law_drawn_count.nd) (by exact rfl) (by first | exact Or.inl rfl | exact Or.inr rfl))))) (by exact (dss_cons (by exact (ds_for (by exact owns_fn) (by exact rfl) (by exact (di_range1 (by exact rfl) (by exact t.b_range) (by exact (da_cons (by exact (de_var 1)) (by exact da_nil))))) (by exact (dg_name (by exact sc__law_drawn_count.nd) (by exact rfl) (by first | exact Or.inl rfl | exact Or.inr rfl))) (by exact (dss_one (by exact (ds_expr (by exact (de_met lst_ty PySem.F.plainAttrs_list PySem.F.slot_list_append PySem.F.type_list_append mt_gAppend (by exact (de_var 2)) (by exact (da_cons (by exact (de_call (ps := ["source", "things"]) h__law_one.rel (by exact takes_fn) (by exact (hr.mono (by decide))) (by exact hgd) (by exact rfl) (by exact (da_cons (by exact (de_var 0)) (by exact (da_cons (by exact (de_lst (by exact (da_cons (by exact de_int) (by exact (da_cons (by exact de_int) (by exact (da_cons (by exact (de_call (ps := ["source", "top"]) h__law_take.rel (by exact takes_fn) (by exact (hr.mono (by decide))) (by exact hgd) (by exact rfl) (by exact (da_cons (by exact (de_var 0)) (by exact (da_cons (by exact de_int) (by exact da_nil))))))) (by exact (da_cons (by exact (de_op op_gAdd (by exact (de_op op_gPow (by exact de_int) (by exact de_int))) (by exact (de_call (ps := ["source", "top"]) h__law_take.rel (by exact takes_fn) (by exact (hr.mono (by decide))) (by exact hgd) (by exact rfl) (by exact (da_cons (by exact (de_var 0)) (by exact (da_cons (by exact de_int) (by exact da_nil))))))))) (by exact da_nil))))))))))) (by exact da_nil))))))) (by exact da_nil))))))))))) (by exact (dss_one (by exact (ds_ret (by exact (de_callTy (by exact (call_gTuple)) (by exact rfl) (by exact t.b_tuple) (by exact bt_tuple) (by exact (da_cons (by exact (de_var 2)) (by exact da_nil))))))))))))
/-! ### below -/
abbrev s_below : Stmt := top0 22
theorem sc_below : FnScope ["v", "w", "m", "n"] ["v", "w"] (defScope s_below) := ⟨rfl, rfl, rfl, by decide +kernel, rfl, by decide +kernel, by decide +kernel⟩
theorem bd_below : BindsH "below" s_below ["v", "w"] := fun _ _ _ _ _ _ us hl => match us, hl with | [_, _], _ => rfl
noncomputable def b_below (q : ErrC) : SS :=
    (sSeq (sFor (srcZip (aCons (eVar 0) (aCons (eVar 1) aNil))) (aTup [(aName 2), (aName 3)]) (sIf (tTest' truB (eBin gGt (eVar 2) (eVar 3))) (sRet (eC (.dat (.bool false)))) sNil))
    (sRet (eC (.dat (.bool true)))))
noncomputable def f_below (q : ErrC) : FS := fnD 4 (b_below q)
theorem h_below (t : Tx P w K mg base q) (F : HasF K mg "below" s_below)  : Has P w K mg base T "below" ["v", "w"] 1 (f_below q) :=
  Has.of F sc_below bd_below fun _ _ _ _ _ _ _ hr hgd => by exact
    (dss_cons (by exact (ds_for (by exact owns_fn) (by exact rfl) (by exact (di_zip (by exact rfl) (by exact t.b_zip) (by exact (da_cons (by exact (de_var 0)) (by exact (da_cons (by exact (de_var 1)) (by exact da_nil))))))) (by exact (dg_tup (by exact rfl) (by exact (dgs_cons (by exact (dg_name (by exact sc_below.nd) (by exact rfl) (by first | exact Or.inl rfl | exact Or.inr rfl))) (by exact (dgs_cons (by exact (dg_name (by exact sc_below.nd) (by exact rfl) (by first | exact Or.inl rfl | exact Or.inr rfl))) (by exact dgs_nil))))))) (by exact (dss_one (by exact (ds_if (by exact (dt_cmp (by exact (op_gGt (by have hz := un_of hr; exact hz))) (by exact (de_var 2)) (by exact (de_var 3)) (by exact rfl))) (by exact (dss_one (by exact (ds_ret (by exact de_bl))))) (by exact dss_nil))))))) (by exact (dss_one (by exact (ds_ret (by exact de_bl))))))
/-! ### plus -/
abbrev s_plus : Stmt := top0 21
theorem sc_plus : FnScope ["v", "w", "m", "n"] ["v", "w"] (defScope s_plus) := ⟨rfl, rfl, rfl, by decide +kernel, rfl, by decide +kernel, by decide +kernel⟩
theorem bd_plus : BindsH "plus" s_plus ["v", "w"] := fun _ _ _ _ _ _ us hl => match us, hl with | [_, _], _ => rfl
noncomputable def b_plus (q : ErrC) : SS :=
    (sRet (eTupG (srcZip (aCons (eVar 0) (aCons (eVar 1) aNil))) (aTup [(aName 2), (aName 3)]) (eBin gAdd (eVar 2) (eVar 3)) [2, 3]))
noncomputable def f_plus (q : ErrC) : FS := fnD 4 (b_plus q)
theorem h_plus (t : Tx P w K mg base q) (F : HasC K mg T (none) "plus" s_plus) (tb : TBs base mg T)  : Has P w K mg base T "plus" ["v", "w"] 10 (f_plus q) :=
  Has.ofC F tb sc_plus bd_plus fun _ _ _ _ _ _ _ _ htb hcT hr hgd => by exact
    (dss_one (by exact (ds_ret (by exact (de_tupG (own := [("m", 2), ("n", 3)]) (k := 0) (by exact rfl) (by exact sc_plus.nd) (by exact (hr.mono (by decide))) (by exact hgd) (by exact (di_zip (by exact rfl) (by exact t.b_zip) (by exact (da_cons (by exact (de_var 0)) (by exact (da_cons (by exact (de_var 1)) (by exact da_nil))))))) (by exact ⟨blkOk_by (N := ["v", "w", "m", "n"]) (sc := defScope s_plus) (by decide +kernel), rfl, by decide +kernel, rfl⟩) (by exact htb) (by exact rfl) (by exact hcT) (by exact (fun _ _ _ _ _ _ _ => (by exact (dg0_tup (by exact rfl) (by exact (dgs0_cons (by exact (dg0_name (by exact sc_plus.nd) (by exact rfl) (by first | exact Or.inl rfl | exact Or.inr rfl) (by decide))) (by exact (dgs0_cons (by exact (dg0_name (by exact sc_plus.nd) (by exact rfl) (by first | exact Or.inl rfl | exact Or.inr rfl) (by decide))) (by exact dgs0_nil))))))))) (by exact (fun _ _ _ _ _ _ _ hr hgd => (by exact (de_op op_gAdd (by exact (de_var 2)) (by exact (de_var 3)))))) (by exact rfl) (by exact t.b_tuple))))))
/-! ### _law_two_right -/
abbrev s__law_two_right : Stmt := top0 36
theorem sc__law_two_right : FnScope ["ground", "v", "w", "u", "both", "k", "is_below", "one", "two"] ["ground", "v", "w", "u"] (defScope s__law_two_right) := ⟨rfl, rfl, rfl, by decide +kernel, rfl, by decide +kernel, by decide +kernel⟩
theorem bd__law_two_right : BindsH "_law_two_right" s__law_two_right ["ground", "v", "w", "u"] := fun _ _ _ _ _ _ us hl => match us, hl with | [_, _, _, _], _ => rfl
noncomputable def b__law_two_right (q : ErrC) : SS :=
    (sSeq (sAsg (eArgs gTuple (aCons (eLc (srcRange1 (aCons (eArgs gLen (aCons (eVar 1) aNil)) aNil)) (aName 5) tNo (eBin gAdd (eBin gIx (eVar 1) (eVar 5)) (eBin gIx (eVar 2) (eVar 5))) [5]) aNil)) (aName 4))
    (sSeq (sIf (sOr (tTest' truB (eBin gNe (eArgs gRepr (aCons (eCallA 2 (relCall (f_plus q)) (aCons (eVar 1) (aCons (eVar 2) aNil))) aNil)) (eArgs gRepr (aCons (eVar 4) aNil)))) (tTest' truB (eBin gNe (eArgs gRepr (aCons (eCallA 2 (relCall (f_plus q)) (aCons (eVar 2) (aCons (eVar 1) aNil))) aNil)) (eArgs gRepr (aCons (eVar 4) aNil))))) (sRet (eC (.dat (.bool false)))) sNil)
    (sSeq (sAsg (eBin gEq (eLc (srcRange1 (aCons (eArgs gLen (aCons (eVar 1) aNil)) aNil)) (aName 5) (tTest' truB (eBin gGt (eBin gIx (eVar 1) (eVar 5)) (eBin gIx (eVar 2) (eVar 5)))) (eVar 5) [5]) (eArgs gLstD aNil)) (aName 6))
    (sSeq (sIf (sOr (tTest' truB (eBin gNe (eArgs gRepr (aCons (eCallA 2 (relCall (f_below q)) (aCons (eVar 1) (aCons (eVar 2) aNil))) aNil)) (eArgs gRepr (aCons (eVar 6) aNil)))) (tTest' truB (eBin gIsNot (eCallA 2 (relCall (f_below q)) (aCons (eVar 1) (aCons (eVar 4) aNil))) (eC (.dat (.bool true)))))) (sRet (eC (.dat (.bool false)))) sNil)
    (sSeq (sPar 7 8 (aCons (eCallA 2 (relCall (f_key q)) (aCons (eVar 0) (aCons (eVar 1) aNil))) (aCons (eCallA 2 (relCall (f_key q)) (aCons (eVar 0) (aCons (eVar 2) aNil))) aNil)))
    (sSeq (sIf (sOr (sAnd (tTest' tru (eVar 6)) (tTest' truB (eBin gGt (eVar 7) (eVar 8)))) (tTest' truB (eBin gNe (eBin gEq (eVar 7) (eVar 8)) (eBin gEq (eVar 1) (eVar 2))))) (sRet (eC (.dat (.bool false)))) sNil)
    (sRet (eBin gEq (eBin gLt (eVar 7) (eVar 8)) (eBin gLt (eCallA 2 (relCall (f_key q)) (aCons (eVar 0) (aCons (eCallA 2 (relCall (f_plus q)) (aCons (eVar 1) (aCons (eVar 3) aNil))) aNil))) (eCallA 2 (relCall (f_key q)) (aCons (eVar 0) (aCons (eCallA 2 (relCall (f_plus q)) (aCons (eVar 2) (aCons (eVar 3) aNil))) aNil))))))))))))
noncomputable def f__law_two_right (q : ErrC) : FS := fnD 9 (b__law_two_right q)
theorem h__law_two_right (t : Tx P w K mg base q) (F : HasF K mg "_law_two_right" s__law_two_right) (h_plus : Has P w K mg base T "plus" ["v", "w"] 10 (f_plus q)) (h_key : Has P w K mg base T "key" ["ground", "v"] 14 (f_key q)) (h_below : Has P w K mg base T "below" ["v", "w"] 1 (f_below q)) : Has P w K mg base T "_law_two_right" ["ground", "v", "w", "u"] 15 (f__law_two_right q) :=
  Has.of F sc__law_two_right bd__law_two_right fun _ _ _ _ _ _ _ hr hgd => by exact
    (dss_cons (by exact (ds_asg (by exact (de_callTy (by exact (call_gTuple)) (by exact rfl) (by exact t.b_tuple) (by exact bt_tuple) (by exact (da_cons (by exact (de_lc (own := [("k", 5)]) (by exact rfl) (by exact sc__law_two_right.nd) (by exact (di_range1 (by exact rfl) (by exact t.b_range) (by exact (da_cons (by exact (de_callB (by exact (call_gLen)) (by exact rfl) (by exact t.b_len) (by exact bt_len) (by exact (da_cons (by exact (de_var 1)) (by exact da_nil))))) (by exact da_nil))))) (by exact (blkOk_by (N := ["ground", "v", "w", "u", "both", "k", "is_below", "one", "two"]) (sc := defScope s__law_two_right) (by decide +kernel))) (by exact (fun _ _ _ _ _ => (by exact (dg0_name (by exact sc__law_two_right.nd) (by exact rfl) (by first | exact Or.inl rfl | exact Or.inr rfl) (by decide))))) (by exact (fun _ _ _ _ _ => (by exact (dts_nil)))) (by exact (fun _ _ _ _ _ => (by exact (de_op op_gAdd (by exact (de_ix ix_gIx (by exact (de_var 1)) (by exact (de_var 5)) (fun _ _ => rfl))) (by exact (de_ix ix_gIx (by exact (de_var 2)) (by exact (de_var 5)) (fun _ _ => rfl))))))))) (by exact da_nil))))) (by exact (dg_name (by exact sc__law_two_right.nd) (by exact rfl) (by first | exact Or.inl rfl | exact Or.inr rfl))))) (by exact (dss_cons (by exact (ds_if (by exact (DW.dt (by exact (dw_or (by exact (dt_cmp (by exact (op_gNe (by have hz := un_of hr; exact hz))) (by exact (de_callB (by exact (call_gRepr (by exact hgd) (by have hz := un_of hr; exact hz))) (by exact rfl) (by exact t.b_repr) (by exact bt_repr) (by exact (da_cons (by exact (de_call (ps := ["v", "w"]) h_plus.rel (by exact takes_fn) (by exact (hr.mono (by decide))) (by exact hgd) (by exact rfl) (by exact (da_cons (by exact (de_var 1)) (by exact (da_cons (by exact (de_var 2)) (by exact da_nil))))))) (by exact da_nil))))) (by exact (de_callB (by exact (call_gRepr (by exact hgd) (by have hz := un_of hr; exact hz))) (by exact rfl) (by exact t.b_repr) (by exact bt_repr) (by exact (da_cons (by exact (de_var 4)) (by exact da_nil))))) (by exact rfl))) (by exact (dw_or1 (by exact (dt_cmp (by exact (op_gNe (by have hz := un_of hr; exact hz))) (by exact (de_callB (by exact (call_gRepr (by exact hgd) (by have hz := un_of hr; exact hz))) (by exact rfl) (by exact t.b_repr) (by exact bt_repr) (by exact (da_cons (by exact (de_call (ps := ["v", "w"]) h_plus.rel (by exact takes_fn) (by exact (hr.mono (by decide))) (by exact hgd) (by exact rfl) (by exact (da_cons (by exact (de_var 2)) (by exact (da_cons (by exact (de_var 1)) (by exact da_nil))))))) (by exact da_nil))))) (by exact (de_callB (by exact (call_gRepr (by exact hgd) (by have hz := un_of hr; exact hz))) (by exact rfl) (by exact t.b_repr) (by exact bt_repr) (by exact (da_cons (by exact (de_var 4)) (by exact da_nil))))) (by exact rfl))))))))) (by exact (dss_one (by exact (ds_ret (by exact de_bl))))) (by exact dss_nil))) (by exact (dss_cons (by exact (ds_asg (by exact (de_cmp (by exact (op_gEq (by have hz := un_of hr; exact hz))) (by exact (de_lc (own := [("k", 5)]) (by exact rfl) (by exact sc__law_two_right.nd) (by exact (di_range1 (by exact rfl) (by exact t.b_range) (by exact (da_cons (by exact (de_callB (by exact (call_gLen)) (by exact rfl) (by exact t.b_len) (by exact bt_len) (by exact (da_cons (by exact (de_var 1)) (by exact da_nil))))) (by exact da_nil))))) (by exact (blkOk_by (N := ["ground", "v", "w", "u", "both", "k", "is_below", "one", "two"]) (sc := defScope s__law_two_right) (by decide +kernel))) (by exact (fun _ _ _ _ _ => (by exact (dg0_name (by exact sc__law_two_right.nd) (by exact rfl) (by first | exact Or.inl rfl | exact Or.inr rfl) (by decide))))) (by exact (fun _ _ _ _ _ => (by exact (dts_one (by exact rfl) (by exact (dt_cmp (by exact (op_gGt (by have hz := un_of hr; exact hz))) (by exact (de_ix ix_gIx (by exact (de_var 1)) (by exact (de_var 5)) (fun _ _ => rfl))) (by exact (de_ix ix_gIx (by exact (de_var 2)) (by exact (de_var 5)) (fun _ _ => rfl))) (by exact rfl))))))) (by exact (fun _ _ _ _ _ => (by exact (de_var 5)))))) (by exact (de_lst (by exact da_nil))) (by exact rfl))) (by exact (dg_name (by exact sc__law_two_right.nd) (by exact rfl) (by first | exact Or.inl rfl | exact Or.inr rfl))))) (by exact (dss_cons (by exact (ds_if (by exact (DW.dt (by exact (dw_or (by exact (dt_cmp (by exact (op_gNe (by have hz := un_of hr; exact hz))) (by exact (de_callB (by exact (call_gRepr (by exact hgd) (by have hz := un_of hr; exact hz))) (by exact rfl) (by exact t.b_repr) (by exact bt_repr) (by exact (da_cons (by exact (de_call (ps := ["v", "w"]) h_below.rel (by exact takes_fn) (by exact (hr.mono (by decide))) (by exact hgd) (by exact rfl) (by exact (da_cons (by exact (de_var 1)) (by exact (da_cons (by exact (de_var 2)) (by exact da_nil))))))) (by exact da_nil))))) (by exact (de_callB (by exact (call_gRepr (by exact hgd) (by have hz := un_of hr; exact hz))) (by exact rfl) (by exact t.b_repr) (by exact bt_repr) (by exact (da_cons (by exact (de_var 6)) (by exact da_nil))))) (by exact rfl))) (by exact (dw_or1 (by exact (dt_cmp (by exact (op_gIsNot)) (by exact (de_call (ps := ["v", "w"]) h_below.rel (by exact takes_fn) (by exact (hr.mono (by decide))) (by exact hgd) (by exact rfl) (by exact (da_cons (by exact (de_var 1)) (by exact (da_cons (by exact (de_var 4)) (by exact da_nil))))))) (by exact de_bl) (by exact rfl))))))))) (by exact (dss_one (by exact (ds_ret (by exact de_bl))))) (by exact dss_nil))) (by exact (dss_cons (by exact (ds_par (i := 7) (j := 8) (by exact rfl) (by exact sc__law_two_right.nd) (by exact rfl) (by exact rfl) (by decide) (by exact rfl) (by exact rfl) (by exact (da_cons (by exact (de_call (ps := ["ground", "v"]) h_key.rel (by exact takes_fn) (by exact (hr.mono (by decide))) (by exact hgd) (by exact rfl) (by exact (da_cons (by exact (de_var 0)) (by exact (da_cons (by exact (de_var 1)) (by exact da_nil))))))) (by exact (da_cons (by exact (de_call (ps := ["ground", "v"]) h_key.rel (by exact takes_fn) (by exact (hr.mono (by decide))) (by exact hgd) (by exact rfl) (by exact (da_cons (by exact (de_var 0)) (by exact (da_cons (by exact (de_var 2)) (by exact da_nil))))))) (by exact da_nil))))) (by exact rfl))) (by exact (dss_cons (by exact (ds_if (by exact (DW.dt (by exact (dw_or (by exact (DW.dt (by exact (dw_and (by exact (dt_truth (by exact (de_var 6)))) (by exact (dw_and1 (by exact (dt_cmp (by exact (op_gGt (by have hz := un_of hr; exact hz))) (by exact (de_var 7)) (by exact (de_var 8)) (by exact rfl))))))))) (by exact (dw_or1 (by exact (dt_cmp (by exact (op_gNe (by have hz := un_of hr; exact hz))) (by exact (de_cmp (by exact (op_gEq (by have hz := un_of hr; exact hz))) (by exact (de_var 7)) (by exact (de_var 8)) (by exact rfl))) (by exact (de_cmp (by exact (op_gEq (by have hz := un_of hr; exact hz))) (by exact (de_var 1)) (by exact (de_var 2)) (by exact rfl))) (by exact rfl))))))))) (by exact (dss_one (by exact (ds_ret (by exact de_bl))))) (by exact dss_nil))) (by exact (dss_one (by exact (ds_ret (by exact (de_cmp (by exact (op_gEq (by have hz := un_of hr; exact hz))) (by exact (de_cmp (by exact (op_gLt (by have hz := un_of hr; exact hz))) (by exact (de_var 7)) (by exact (de_var 8)) (by exact rfl))) (by exact (de_cmp (by exact (op_gLt (by have hz := un_of hr; exact hz))) (by exact (de_call (ps := ["ground", "v"]) h_key.rel (by exact takes_fn) (by exact (hr.mono (by decide))) (by exact hgd) (by exact rfl) (by exact (da_cons (by exact (de_var 0)) (by exact (da_cons (by exact (de_call (ps := ["v", "w"]) h_plus.rel (by exact takes_fn) (by exact (hr.mono (by decide))) (by exact hgd) (by exact rfl) (by exact (da_cons (by exact (de_var 1)) (by exact (da_cons (by exact (de_var 3)) (by exact da_nil))))))) (by exact da_nil))))))) (by exact (de_call (ps := ["ground", "v"]) h_key.rel (by exact takes_fn) (by exact (hr.mono (by decide))) (by exact hgd) (by exact rfl) (by exact (da_cons (by exact (de_var 0)) (by exact (da_cons (by exact (de_call (ps := ["v", "w"]) h_plus.rel (by exact takes_fn) (by exact (hr.mono (by decide))) (by exact hgd) (by exact rfl) (by exact (da_cons (by exact (de_var 2)) (by exact (da_cons (by exact (de_var 3)) (by exact da_nil))))))) (by exact da_nil))))))) (by exact rfl))) (by exact rfl))))))))))))))))))
/-! ### nought -/
abbrev s_nought : Stmt := top0 20
theorem sc_nought : FnScope ["ground", "_"] ["ground"] (defScope s_nought) := ⟨rfl, rfl, rfl, by decide +kernel, rfl, by decide +kernel, by decide +kernel⟩
theorem bd_nought : BindsH "nought" s_nought ["ground"] := fun _ _ _ _ _ _ us hl => match us, hl with | [_], _ => rfl
noncomputable def b_nought (q : ErrC) : SS :=
    (sSeq (sDrop (eCallA 1 (relCall (f_made_ground q)) (aCons (eVar 0) aNil)))
    (sRet (eTupG (srcSeq (eBin gIx (eVar 0) (eC (.dat (.int 1))))) (aName 1) (eC (.dat (.int 0))) [1])))
noncomputable def f_nought (q : ErrC) : FS := fnD 2 (b_nought q)
theorem h_nought (t : Tx P w K mg base q) (F : HasC K mg T (none) "nought" s_nought) (tb : TBs base mg T) (h_made_ground : Has P w K mg base T "made_ground" ["thing"] 12 (f_made_ground q)) : Has P w K mg base T "nought" ["ground"] 13 (f_nought q) :=
  Has.ofC F tb sc_nought bd_nought fun _ _ _ _ _ _ _ _ htb hcT hr hgd => by exact
    (dss_cons (by exact (ds_expr (by exact (de_call (ps := ["thing"]) h_made_ground.rel (by exact takes_fn) (by exact (hr.mono (by decide))) (by exact hgd) (by exact rfl) (by exact (da_cons (by exact (de_var 0)) (by exact da_nil))))))) (by exact (dss_one (by exact (ds_ret (by exact (de_tupG (own := [("_", 1)]) (k := 0) (by exact rfl) (by exact sc_nought.nd) (by exact (hr.mono (by decide))) (by exact hgd) (by exact (di_seq (by exact (de_ix ix_gIx (by exact (de_var 0)) (by exact de_int) (fun _ _ => rfl))))) (by exact ⟨blkOk_by (N := ["ground", "_"]) (sc := defScope s_nought) (by decide +kernel), rfl, by decide +kernel, rfl⟩) (by exact htb) (by exact rfl) (by exact hcT) (by exact (fun _ _ _ _ _ _ _ => (by exact (dg0_name (by exact sc_nought.nd) (by exact rfl) (by first | exact Or.inl rfl | exact Or.inr rfl) (by decide))))) (by exact (fun _ _ _ _ _ _ _ hr hgd => (by exact (de_int)))) (by exact rfl) (by exact t.b_tuple))))))))
/-! ### _law_due_price -/
abbrev s__law_due_price : Stmt := top0 34
theorem sc__law_due_price : FnScope ["ground", "v", "total", "k"] ["ground", "v"] (defScope s__law_due_price) := ⟨rfl, rfl, rfl, by decide +kernel, rfl, by decide +kernel, by decide +kernel⟩
theorem bd__law_due_price : BindsH "_law_due_price" s__law_due_price ["ground", "v"] := fun _ _ _ _ _ _ us hl => match us, hl with | [_, _], _ => rfl
noncomputable def b__law_due_price (q : ErrC) : SS :=
    (sSeq (sAsg (eC (.dat (.int 0))) (aName 2))
    (sSeq (sFor (srcRange1 (aCons (eArgs gLen (aCons (eVar 1) aNil)) aNil)) (aName 3) (sAsg (eBin gAdd (eVar 2) (eBin gMul (eBin gIx (eVar 1) (eVar 3)) (eBin gIx (eBin gIx (eBin gIx (eVar 0) (eC (.dat (.int 1)))) (eVar 3)) (eC (.dat (.int 1)))))) (aName 2)))
    (sRet (eVar 2))))
noncomputable def f__law_due_price (q : ErrC) : FS := fnD 4 (b__law_due_price q)
theorem h__law_due_price (t : Tx P w K mg base q) (F : HasF K mg "_law_due_price" s__law_due_price)  : Has P w K mg base T "_law_due_price" ["ground", "v"] 1 (f__law_due_price q) :=
  Has.of F sc__law_due_price bd__law_due_price fun _ _ _ _ _ _ _ hr hgd => by exact
    (dss_cons (by exact (ds_asg (by exact de_int) (by exact (dg_name (by exact sc__law_due_price.nd) (by exact rfl) (by first | exact Or.inl rfl | exact Or.inr rfl))))) (by exact (dss_cons (by exact (ds_for (by exact owns_fn) (by exact rfl) (by exact (di_range1 (by exact rfl) (by exact t.b_range) (by exact (da_cons (by exact (de_callB (by exact (call_gLen)) (by exact rfl) (by exact t.b_len) (by exact bt_len) (by exact (da_cons (by exact (de_var 1)) (by exact da_nil))))) (by exact da_nil))))) (by exact (dg_name (by exact sc__law_due_price.nd) (by exact rfl) (by first | exact Or.inl rfl | exact Or.inr rfl))) (by exact (dss_one (by exact (ds_asg (by exact (de_op op_gAdd (by exact (de_var 2)) (by exact (de_op op_gMul (by exact (de_ix ix_gIx (by exact (de_var 1)) (by exact (de_var 3)) (fun _ _ => rfl))) (by exact (de_ix ix_gIx (by exact (de_ix ix_gIx (by exact (de_ix ix_gIx (by exact (de_var 0)) (by exact de_int) (fun _ _ => rfl))) (by exact (de_var 3)) (fun _ _ => rfl))) (by exact de_int) (fun _ _ => rfl))))))) (by exact (dg_name (by exact sc__law_due_price.nd) (by exact rfl) (by first | exact Or.inl rfl | exact Or.inr rfl))))))))) (by exact (dss_one (by exact (ds_ret (by exact (de_var 2)))))))))
/-! ### _law_one_right -/
abbrev s__law_one_right : Stmt := top0 35
theorem sc__law_one_right : FnScope ["ground", "v", "due"] ["ground", "v"] (defScope s__law_one_right) := ⟨rfl, rfl, rfl, by decide +kernel, rfl, by decide +kernel, by decide +kernel⟩
theorem bd__law_one_right : BindsH "_law_one_right" s__law_one_right ["ground", "v"] := fun _ _ _ _ _ _ us hl => match us, hl with | [_, _], _ => rfl
noncomputable def b__law_one_right (q : ErrC) : SS :=
    (sSeq (sAsg (eCallA 2 (relCall (f__law_due_price q)) (aCons (eVar 0) (aCons (eVar 1) aNil))) (aName 2))
    (sSeq (sIf (sOr (tTest' truB (eBin gNe (eArgs gRepr (aCons (eCallA 2 (relCall (f_price q)) (aCons (eVar 0) (aCons (eVar 1) aNil))) aNil)) (eArgs gRepr (aCons (eVar 2) aNil)))) (tTest' truB (eBin gNe (eArgs gRepr (aCons (eCallA 2 (relCall (f_key q)) (aCons (eVar 0) (aCons (eVar 1) aNil))) aNil)) (eArgs gRepr (aCons (eArgs gTupD (aCons (eVar 2) (aCons (eVar 1) aNil))) aNil))))) (sRet (eC (.dat (.bool false)))) sNil)
    (sSeq (sIf (sOr (tTest' truB (eBin gNe (eArgs gRepr (aCons (eCallA 2 (relCall (f_plus q)) (aCons (eVar 1) (aCons (eCallA 1 (relCall (f_nought q)) (aCons (eVar 0) aNil)) aNil))) aNil)) (eArgs gRepr (aCons (eVar 1) aNil)))) (tTest' truB (eBin gIsNot (eCallA 2 (relCall (f_below q)) (aCons (eVar 1) (aCons (eVar 1) aNil))) (eC (.dat (.bool true)))))) (sRet (eC (.dat (.bool false)))) sNil)
    (sRet (eAnd tru (eBin gIs (eCallA 2 (relCall (f_below q)) (aCons (eCallA 1 (relCall (f_nought q)) (aCons (eVar 0) aNil)) (aCons (eVar 1) aNil))) (eC (.dat (.bool true)))) (eBin gEq (eArgs gRepr (aCons (eCallA 1 (relCall (f_nought q)) (aCons (eVar 0) aNil)) aNil)) (eArgs gRepr (aCons (eBin gMul (eArgs gTupD (aCons (eC (.dat (.int 0))) aNil)) (eArgs gLen (aCons (eBin gIx (eVar 0) (eC (.dat (.int 1)))) aNil))) aNil))))))))
noncomputable def f__law_one_right (q : ErrC) : FS := fnD 3 (b__law_one_right q)
theorem h__law_one_right (t : Tx P w K mg base q) (F : HasF K mg "_law_one_right" s__law_one_right) (h_nought : Has P w K mg base T "nought" ["ground"] 13 (f_nought q)) (h_below : Has P w K mg base T "below" ["v", "w"] 1 (f_below q)) (h_plus : Has P w K mg base T "plus" ["v", "w"] 10 (f_plus q)) (h_key : Has P w K mg base T "key" ["ground", "v"] 14 (f_key q)) (h_price : Has P w K mg base T "price" ["ground", "v"] 13 (f_price q)) (h__law_due_price : Has P w K mg base T "_law_due_price" ["ground", "v"] 1 (f__law_due_price q)) : Has P w K mg base T "_law_one_right" ["ground", "v"] 15 (f__law_one_right q) :=
  Has.of F sc__law_one_right bd__law_one_right fun _ _ _ _ _ _ _ hr hgd => by exact
    (dss_cons (by exact (ds_asg (by exact (de_call (ps := ["ground", "v"]) h__law_due_price.rel (by exact takes_fn) (by exact (hr.mono (by decide))) (by exact hgd) (by exact rfl) (by exact (da_cons (by exact (de_var 0)) (by exact (da_cons (by exact (de_var 1)) (by exact da_nil))))))) (by exact (dg_name (by exact sc__law_one_right.nd) (by exact rfl) (by first | exact Or.inl rfl | exact Or.inr rfl))))) (by exact (dss_cons (by exact (ds_if (by exact (DW.dt (by exact (dw_or (by exact (dt_cmp (by exact (op_gNe (by have hz := un_of hr; exact hz))) (by exact (de_callB (by exact (call_gRepr (by exact hgd) (by have hz := un_of hr; exact hz))) (by exact rfl) (by exact t.b_repr) (by exact bt_repr) (by exact (da_cons (by exact (de_call (ps := ["ground", "v"]) h_price.rel (by exact takes_fn) (by exact (hr.mono (by decide))) (by exact hgd) (by exact rfl) (by exact (da_cons (by exact (de_var 0)) (by exact (da_cons (by exact (de_var 1)) (by exact da_nil))))))) (by exact da_nil))))) (by exact (de_callB (by exact (call_gRepr (by exact hgd) (by have hz := un_of hr; exact hz))) (by exact rfl) (by exact t.b_repr) (by exact bt_repr) (by exact (da_cons (by exact (de_var 2)) (by exact da_nil))))) (by exact rfl))) (by exact (dw_or1 (by exact (dt_cmp (by exact (op_gNe (by have hz := un_of hr; exact hz))) (by exact (de_callB (by exact (call_gRepr (by exact hgd) (by have hz := un_of hr; exact hz))) (by exact rfl) (by exact t.b_repr) (by exact bt_repr) (by exact (da_cons (by exact (de_call (ps := ["ground", "v"]) h_key.rel (by exact takes_fn) (by exact (hr.mono (by decide))) (by exact hgd) (by exact rfl) (by exact (da_cons (by exact (de_var 0)) (by exact (da_cons (by exact (de_var 1)) (by exact da_nil))))))) (by exact da_nil))))) (by exact (de_callB (by exact (call_gRepr (by exact hgd) (by have hz := un_of hr; exact hz))) (by exact rfl) (by exact t.b_repr) (by exact bt_repr) (by exact (da_cons (by exact (de_tup (by exact (da_cons (by exact (de_var 2)) (by exact (da_cons (by exact (de_var 1)) (by exact da_nil))))))) (by exact da_nil))))) (by exact rfl))))))))) (by exact (dss_one (by exact (ds_ret (by exact de_bl))))) (by exact dss_nil))) (by exact (dss_cons (by exact (ds_if (by exact (DW.dt (by exact (dw_or (by exact (dt_cmp (by exact (op_gNe (by have hz := un_of hr; exact hz))) (by exact (de_callB (by exact (call_gRepr (by exact hgd) (by have hz := un_of hr; exact hz))) (by exact rfl) (by exact t.b_repr) (by exact bt_repr) (by exact (da_cons (by exact (de_call (ps := ["v", "w"]) h_plus.rel (by exact takes_fn) (by exact (hr.mono (by decide))) (by exact hgd) (by exact rfl) (by exact (da_cons (by exact (de_var 1)) (by exact (da_cons (by exact (de_call (ps := ["ground"]) h_nought.rel (by exact takes_fn) (by exact (hr.mono (by decide))) (by exact hgd) (by exact rfl) (by exact (da_cons (by exact (de_var 0)) (by exact da_nil))))) (by exact da_nil))))))) (by exact da_nil))))) (by exact (de_callB (by exact (call_gRepr (by exact hgd) (by have hz := un_of hr; exact hz))) (by exact rfl) (by exact t.b_repr) (by exact bt_repr) (by exact (da_cons (by exact (de_var 1)) (by exact da_nil))))) (by exact rfl))) (by exact (dw_or1 (by exact (dt_cmp (by exact (op_gIsNot)) (by exact (de_call (ps := ["v", "w"]) h_below.rel (by exact takes_fn) (by exact (hr.mono (by decide))) (by exact hgd) (by exact rfl) (by exact (da_cons (by exact (de_var 1)) (by exact (da_cons (by exact (de_var 1)) (by exact da_nil))))))) (by exact de_bl) (by exact rfl))))))))) (by exact (dss_one (by exact (ds_ret (by exact de_bl))))) (by exact dss_nil))) (by exact (dss_one (by exact (ds_ret (by exact (de_and (by exact (de_cmp (by exact (op_gIs)) (by exact (de_call (ps := ["v", "w"]) h_below.rel (by exact takes_fn) (by exact (hr.mono (by decide))) (by exact hgd) (by exact rfl) (by exact (da_cons (by exact (de_call (ps := ["ground"]) h_nought.rel (by exact takes_fn) (by exact (hr.mono (by decide))) (by exact hgd) (by exact rfl) (by exact (da_cons (by exact (de_var 0)) (by exact da_nil))))) (by exact (da_cons (by exact (de_var 1)) (by exact da_nil))))))) (by exact de_bl) (by exact rfl))) (by exact (de_one (by exact (de_cmp (by exact (op_gEq (by have hz := un_of hr; exact hz))) (by exact (de_callB (by exact (call_gRepr (by exact hgd) (by have hz := un_of hr; exact hz))) (by exact rfl) (by exact t.b_repr) (by exact bt_repr) (by exact (da_cons (by exact (de_call (ps := ["ground"]) h_nought.rel (by exact takes_fn) (by exact (hr.mono (by decide))) (by exact hgd) (by exact rfl) (by exact (da_cons (by exact (de_var 0)) (by exact da_nil))))) (by exact da_nil))))) (by exact (de_callB (by exact (call_gRepr (by exact hgd) (by have hz := un_of hr; exact hz))) (by exact rfl) (by exact t.b_repr) (by exact bt_repr) (by exact (da_cons (by exact (de_op op_gMul (by exact (de_tup (by exact (da_cons (by exact de_int) (by exact da_nil))))) (by exact (de_callB (by exact (call_gLen)) (by exact rfl) (by exact t.b_len) (by exact bt_len) (by exact (da_cons (by exact (de_ix ix_gIx (by exact (de_var 0)) (by exact de_int) (fun _ _ => rfl))) (by exact da_nil))))))) (by exact da_nil))))) (by exact rfl))))))))))))))))
/-! ### law -/
abbrev s_law : Stmt := top0 39
theorem sc_law : FnScope ["script", "bare", "source", "ground", "counts", "turn", "k", "v"] ["script"] (defScope s_law) := ⟨rfl, rfl, rfl, by decide +kernel, rfl, by decide +kernel, by decide +kernel⟩
theorem bd_law : BindsH "law" s_law ["script"] := fun _ _ _ _ _ _ us hl => match us, hl with | [_], _ => rfl
noncomputable def b_law (q : ErrC) : SS :=
    (sSeq (sAsg (eArgs gTupD (aCons (eArgs gTupD aNil) (aCons (eArgs gTupD aNil) (aCons (eArgs gTupD (aCons (eC (.dat (.str "done"))) aNil)) aNil)))) (aName 1))
    (sSeq (sIf (sOr (tTest' truB (eBin gNe (eCallA 1 (relCall (f_nought q)) (aCons (eVar 1) aNil)) (eArgs gTupD aNil))) (sOr (tTest' truB (eBin gNe (eCallA 2 (relCall (f_key q)) (aCons (eVar 1) (aCons (eArgs gTupD aNil) aNil))) (eArgs gTupD (aCons (eC (.dat (.int 0))) (aCons (eArgs gTupD aNil) aNil))))) (sOr (tTest' truB (eBin gNe (eCallA 2 (relCall (f_plus q)) (aCons (eArgs gTupD aNil) (aCons (eArgs gTupD aNil) aNil))) (eArgs gTupD aNil))) (tTest' truB (eBin gIsNot (eCallA 2 (relCall (f_below q)) (aCons (eArgs gTupD aNil) (aCons (eArgs gTupD aNil) aNil))) (eC (.dat (.bool true)))))))) (sRet (eC (.dat (.bool false)))) sNil)
    (sSeq (sAsg (eCallA 2 (relCall (f__law_pool q)) (aCons (eVar 0) (aCons (eC (.dat (.int 0))) aNil))) (aName 2))
    (sSeq (sAsg (eCallA 1 (relCall (f__law_drawn_ground q)) (aCons (eVar 2) aNil)) (aName 3))
    (sSeq (sAsg (eLc (srcRange1 (aCons (eC (.dat (.int 3))) aNil)) (aName 5) tNo (eCallA 2 (relCall (f__law_drawn_count q)) (aCons (eVar 2) (aCons (eArgs gLen (aCons (eBin gIx (eVar 3) (eC (.dat (.int 1)))) aNil)) aNil))) [5]) (aName 4))
    (sSeq (sIf (sAnd (tTest' truB (eBin gNe (eBin gIx (eVar 4) (eC (.dat (.int 0)))) (eArgs gTupD aNil))) (tTest' truB (eBin gEq (eCallA 2 (relCall (f__law_take q)) (aCons (eVar 2) (aCons (eC (.dat (.int 2))) aNil))) (eC (.dat (.int 0)))))) (sSeq (sAsg (eCallA 2 (relCall (f__law_take q)) (aCons (eVar 2) (aCons (eArgs gLen (aCons (eBin gIx (eVar 4) (eC (.dat (.int 0)))) aNil)) aNil))) (aName 6))
    (sAsg (eBin gAdd (eBin gAdd (eSl (eBin gIx (eVar 4) (eC (.dat (.int 0)))) oNone (oSome (eVar 6))) (eArgs gTupD (aCons (eBin gAdd (eBin gIx (eBin gIx (eVar 4) (eC (.dat (.int 0)))) (eVar 6)) (eC (.dat (.int 1)))) aNil))) (eSl (eBin gIx (eVar 4) (eC (.dat (.int 0)))) (oSome (eBin gAdd (eVar 6) (eC (.dat (.int 1))))) oNone)) (aSub (eVar 4) (eC (.dat (.int 1))) gSetL))) sNil)
    (sSeq (sIf (tTest' truB (eBin gNe (eLc (srcSeq (eVar 4)) (aName 7) (sNot (tTest' tru (eCallA 2 (relCall (f__law_one_right q)) (aCons (eVar 3) (aCons (eVar 7) aNil))))) (eVar 7) [7]) (eArgs gLstD aNil))) (sRet (eC (.dat (.bool false)))) sNil)
    (sSeq (sIf (sNot (tTest' tru (eCallA 4 (relCall (f__law_two_right q)) (aCons (eVar 3) (aCons (eBin gIx (eVar 4) (eC (.dat (.int 0)))) (aCons (eBin gIx (eVar 4) (eC (.dat (.int 1)))) (aCons (eBin gIx (eVar 4) (eC (.dat (.int 2)))) aNil))))))) (sRet (eC (.dat (.bool false)))) sNil)
    (sSeq (sIf (sNot (tTest' tru (eCallA 4 (relCall (f__law_two_right q)) (aCons (eVar 3) (aCons (eBin gIx (eVar 4) (eC (.dat (.int 1)))) (aCons (eBin gIx (eVar 4) (eC (.dat (.int 2)))) (aCons (eBin gIx (eVar 4) (eC (.dat (.int 0)))) aNil))))))) (sRet (eC (.dat (.bool false)))) sNil)
    (sRet (eCallA 3 (relCall (f__law_odd_right q)) (aCons (eVar 2) (aCons (eVar 3) (aCons (eBin gIx (eVar 4) (eC (.dat (.int 0)))) aNil))))))))))))))
noncomputable def f_law (q : ErrC) : FS := fnD 8 (b_law q)
theorem h_law (t : Tx P w K mg base q) (F : HasF K mg "law" s_law) (h__law_odd_right : Has P w K mg base T "_law_odd_right" ["source", "ground", "v"] 17 (f__law_odd_right q)) (h__law_two_right : Has P w K mg base T "_law_two_right" ["ground", "v", "w", "u"] 15 (f__law_two_right q)) (h__law_one_right : Has P w K mg base T "_law_one_right" ["ground", "v"] 15 (f__law_one_right q)) (h__law_take : Has P w K mg base T "_law_take" ["source", "top"] 1 (f__law_take q)) (h__law_drawn_count : Has P w K mg base T "_law_drawn_count" ["source", "kinds"] 3 (f__law_drawn_count q)) (h__law_drawn_ground : Has P w K mg base T "_law_drawn_ground" ["source"] 3 (f__law_drawn_ground q)) (h__law_pool : Has P w K mg base T "_law_pool" ["script", "k"] 1 (f__law_pool q)) (h_below : Has P w K mg base T "below" ["v", "w"] 1 (f_below q)) (h_plus : Has P w K mg base T "plus" ["v", "w"] 10 (f_plus q)) (h_key : Has P w K mg base T "key" ["ground", "v"] 14 (f_key q)) (h_nought : Has P w K mg base T "nought" ["ground"] 13 (f_nought q)) : Has P w K mg base T "law" ["script"] 18 (f_law q) :=
  Has.of F sc_law bd_law fun _ _ _ _ _ _ _ hr hgd => by exact
    (dss_cons (by exact (ds_asg (by exact (de_tup (by exact (da_cons (by exact (de_tup (by exact da_nil))) (by exact (da_cons (by exact (de_tup (by exact da_nil))) (by exact (da_cons (by exact (de_tup (by exact (da_cons (by exact de_str) (by exact da_nil))))) (by exact da_nil))))))))) (by exact (dg_name (by exact sc_law.nd) (by exact rfl) (by first | exact Or.inl rfl | exact Or.inr rfl))))) (by exact (dss_cons (by exact (ds_if (by exact (DW.dt (by exact (dw_or (by exact (dt_cmp (by exact (op_gNe (by have hz := un_of hr; exact hz))) (by exact (de_call (ps := ["ground"]) h_nought.rel (by exact takes_fn) (by exact (hr.mono (by decide))) (by exact hgd) (by exact rfl) (by exact (da_cons (by exact (de_var 1)) (by exact da_nil))))) (by exact (de_tup (by exact da_nil))) (by exact rfl))) (by exact (dw_or (by exact (dt_cmp (by exact (op_gNe (by have hz := un_of hr; exact hz))) (by exact (de_call (ps := ["ground", "v"]) h_key.rel (by exact takes_fn) (by exact (hr.mono (by decide))) (by exact hgd) (by exact rfl) (by exact (da_cons (by exact (de_var 1)) (by exact (da_cons (by exact (de_tup (by exact da_nil))) (by exact da_nil))))))) (by exact (de_tup (by exact (da_cons (by exact de_int) (by exact (da_cons (by exact (de_tup (by exact da_nil))) (by exact da_nil))))))) (by exact rfl))) (by exact (dw_or (by exact (dt_cmp (by exact (op_gNe (by have hz := un_of hr; exact hz))) (by exact (de_call (ps := ["v", "w"]) h_plus.rel (by exact takes_fn) (by exact (hr.mono (by decide))) (by exact hgd) (by exact rfl) (by exact (da_cons (by exact (de_tup (by exact da_nil))) (by exact (da_cons (by exact (de_tup (by exact da_nil))) (by exact da_nil))))))) (by exact (de_tup (by exact da_nil))) (by exact rfl))) (by exact (dw_or1 (by exact (dt_cmp (by exact (op_gIsNot)) (by exact (de_call (ps := ["v", "w"]) h_below.rel (by exact takes_fn) (by exact (hr.mono (by decide))) (by exact hgd) (by exact rfl) (by exact (da_cons (by exact (de_tup (by exact da_nil))) (by exact (da_cons (by exact (de_tup (by exact da_nil))) (by exact da_nil))))))) (by exact de_bl) (by exact rfl))))))))))))) (by exact (dss_one (by exact (ds_ret (by exact de_bl))))) (by exact dss_nil))) (by exact (dss_cons (by exact (ds_asg (by exact (de_call (ps := ["script", "k"]) h__law_pool.rel (by exact takes_fn) (by exact (hr.mono (by decide))) (by exact hgd) (by exact rfl) (by exact (da_cons (by exact (de_var 0)) (by exact (da_cons (by exact de_int) (by exact da_nil))))))) (by exact (dg_name (by exact sc_law.nd) (by exact rfl) (by first | exact Or.inl rfl | exact Or.inr rfl))))) (by exact (dss_cons (by exact (ds_asg (by exact (de_call (ps := ["source"]) h__law_drawn_ground.rel (by exact takes_fn) (by exact (hr.mono (by decide))) (by exact hgd) (by exact rfl) (by exact (da_cons (by exact (de_var 2)) (by exact da_nil))))) (by exact (dg_name (by exact sc_law.nd) (by exact rfl) (by first | exact Or.inl rfl | exact Or.inr rfl))))) (by exact (dss_cons (by exact (ds_setLc (i := 4) (own := [("turn", 5)]) (by exact rfl) (by exact sc_law.nd) (by exact rfl) (by exact rfl) (by exact (sw_true (by exact rfl) (by exact rfl) (by exact rfl) (by decide +kernel))) (by exact (di_range1 (by exact rfl) (by exact t.b_range) (by exact (da_cons (by exact de_int) (by exact da_nil))))) (by exact (blkOk_by (N := ["script", "bare", "source", "ground", "counts", "turn", "k", "v"]) (sc := defScope s_law) (by decide +kernel))) (by exact (fun _ _ _ _ _ => (by exact (dg0_name (by exact sc_law.nd) (by exact rfl) (by first | exact Or.inl rfl | exact Or.inr rfl) (by decide))))) (by exact (fun _ _ _ _ _ => (by exact (dts_nil)))) (by exact (fun _ _ _ _ _ => (by exact (de_call (ps := ["source", "kinds"]) h__law_drawn_count.rel (by exact takes_false) (by exact (hr.mono (by decide))) (by exact hgd) (by exact rfl) (by exact (da_cons (by exact (de_var 2)) (by exact (da_cons (by exact (de_callB (by exact (call_gLen)) (by exact rfl) (by exact t.b_len) (by exact bt_len) (by exact (da_cons (by exact (de_ix ix_gIx (by exact (de_var 3)) (by exact de_int) (fun _ _ => rfl))) (by exact da_nil))))) (by exact da_nil))))))))))) (by exact (dss_cons (by exact (ds_if (by exact (DW.dt (by exact (dw_and (by exact (dt_cmp (by exact (op_gNe (by have hz := un_of hr; exact hz))) (by exact (de_ix ix_gIx (by exact (de_var 4)) (by exact de_int) (fun _ _ => rfl))) (by exact (de_tup (by exact da_nil))) (by exact rfl))) (by exact (dw_and1 (by exact (dt_cmp (by exact (op_gEq (by have hz := un_of hr; exact hz))) (by exact (de_call (ps := ["source", "top"]) h__law_take.rel (by exact takes_fn) (by exact (hr.mono (by decide))) (by exact hgd) (by exact rfl) (by exact (da_cons (by exact (de_var 2)) (by exact (da_cons (by exact de_int) (by exact da_nil))))))) (by exact de_int) (by exact rfl))))))))) (by exact (dss_cons (by exact (ds_asg (by exact (de_call (ps := ["source", "top"]) h__law_take.rel (by exact takes_fn) (by exact (hr.mono (by decide))) (by exact hgd) (by exact rfl) (by exact (da_cons (by exact (de_var 2)) (by exact (da_cons (by exact (de_callB (by exact (call_gLen)) (by exact rfl) (by exact t.b_len) (by exact bt_len) (by exact (da_cons (by exact (de_ix ix_gIx (by exact (de_var 4)) (by exact de_int) (fun _ _ => rfl))) (by exact da_nil))))) (by exact da_nil))))))) (by exact (dg_name (by exact sc_law.nd) (by exact rfl) (by first | exact Or.inl rfl | exact Or.inr rfl))))) (by exact (dss_one (by exact (ds_asg (by exact (de_op op_gAdd (by exact (de_op op_gAdd (by exact (de_slice (by exact (de_ix ix_gIx (by exact (de_var 4)) (by exact de_int) (fun _ _ => rfl))) (by exact do_none) (by exact (do_some (by exact (de_var 6)))))) (by exact (de_tup (by exact (da_cons (by exact (de_op op_gAdd (by exact (de_ix ix_gIx (by exact (de_ix ix_gIx (by exact (de_var 4)) (by exact de_int) (fun _ _ => rfl))) (by exact (de_var 6)) (fun _ _ => rfl))) (by exact de_int))) (by exact da_nil))))))) (by exact (de_slice (by exact (de_ix ix_gIx (by exact (de_var 4)) (by exact de_int) (fun _ _ => rfl))) (by exact (do_some (by exact (de_op op_gAdd (by exact (de_var 6)) (by exact de_int))))) (by exact do_none))))) (by exact (dg_sub (W := noW) (by exact (de_var 4)) (by exact de_int))))))))) (by exact dss_nil))) (by exact (dss_cons (by exact (ds_if (by exact (dt_cmp (by exact (op_gNe (by have hz := un_of hr; exact hz))) (by exact (de_lc (own := [("v", 7)]) (by exact rfl) (by exact sc_law.nd) (by exact (di_seq (by exact (de_var 4)))) (by exact (blkOk_by (N := ["script", "bare", "source", "ground", "counts", "turn", "k", "v"]) (sc := defScope s_law) (by decide +kernel))) (by exact (fun _ _ _ _ _ => (by exact (dg0_name (by exact sc_law.nd) (by exact rfl) (by first | exact Or.inl rfl | exact Or.inr rfl) (by decide))))) (by exact (fun _ _ _ _ _ => (by exact (dts_one (by exact rfl) (by exact (dt_not (by exact (dt_truth (by exact (de_call (ps := ["ground", "v"]) h__law_one_right.rel (by exact takes_false) (by exact (hr.mono (by decide))) (by exact hgd) (by exact rfl) (by exact (da_cons (by exact (de_var 3)) (by exact (da_cons (by exact (de_var 7)) (by exact da_nil))))))))))))))) (by exact (fun _ _ _ _ _ => (by exact (de_var 7)))))) (by exact (de_lst (by exact da_nil))) (by exact rfl))) (by exact (dss_one (by exact (ds_ret (by exact de_bl))))) (by exact dss_nil))) (by exact (dss_cons (by exact (ds_if (by exact (dt_not (by exact (dt_truth (by exact (de_call (ps := ["ground", "v", "w", "u"]) h__law_two_right.rel (by exact takes_fn) (by exact (hr.mono (by decide))) (by exact hgd) (by exact rfl) (by exact (da_cons (by exact (de_var 3)) (by exact (da_cons (by exact (de_ix ix_gIx (by exact (de_var 4)) (by exact de_int) (fun _ _ => rfl))) (by exact (da_cons (by exact (de_ix ix_gIx (by exact (de_var 4)) (by exact de_int) (fun _ _ => rfl))) (by exact (da_cons (by exact (de_ix ix_gIx (by exact (de_var 4)) (by exact de_int) (fun _ _ => rfl))) (by exact da_nil))))))))))))))) (by exact (dss_one (by exact (ds_ret (by exact de_bl))))) (by exact dss_nil))) (by exact (dss_cons (by exact (ds_if (by exact (dt_not (by exact (dt_truth (by exact (de_call (ps := ["ground", "v", "w", "u"]) h__law_two_right.rel (by exact takes_fn) (by exact (hr.mono (by decide))) (by exact hgd) (by exact rfl) (by exact (da_cons (by exact (de_var 3)) (by exact (da_cons (by exact (de_ix ix_gIx (by exact (de_var 4)) (by exact de_int) (fun _ _ => rfl))) (by exact (da_cons (by exact (de_ix ix_gIx (by exact (de_var 4)) (by exact de_int) (fun _ _ => rfl))) (by exact (da_cons (by exact (de_ix ix_gIx (by exact (de_var 4)) (by exact de_int) (fun _ _ => rfl))) (by exact da_nil))))))))))))))) (by exact (dss_one (by exact (ds_ret (by exact de_bl))))) (by exact dss_nil))) (by exact (dss_one (by exact (ds_ret (by exact (de_call (ps := ["source", "ground", "v"]) h__law_odd_right.rel (by exact takes_fn) (by exact (hr.mono (by decide))) (by exact hgd) (by exact rfl) (by exact (da_cons (by exact (de_var 2)) (by exact (da_cons (by exact (de_var 3)) (by exact (da_cons (by exact (de_ix ix_gIx (by exact (de_var 4)) (by exact de_int) (fun _ _ => rfl))) (by exact da_nil))))))))))))))))))))))))))))))
end
-- done: _law_pool _law_take _law_mixed _law_one _law_drawn_ground _law_is_refused is_triple_of_tuples* is_name* is_number entry_name states_of_cells made_ground price_of is_count_of* price key _law_odd_right* _law_drawn_count below plus* _law_two_right nought* _law_due_price _law_one_right law
end K01

set_option Elab.async false
set_option linter.all false
set_option maxRecDepth 100000
set_option maxHeartbeats 1000000
namespace K01
open PySem PySem.Spec PyProof.Rows L2 DL
open Classical
theorem pool_eq (q : ErrC) : f__law_pool q = gPool := rfl
theorem take_eq (q : ErrC) : f__law_take q = gTake := rfl
theorem one_eq (q : ErrC) : f__law_one q = gOne := rfl
theorem mixed_eq (q : ErrC) : f__law_mixed q = gMixed := rfl
/-! ### names -/
abbrev LET : Str := "abcdefghijklmnopqrstuvwxyz"
abbrev LAF : Str := "abcdefghijklmnopqrstuvwxyz0123456789"
def RES : List PyData := [(.str "cells"), (.str "deeds"), (.str "exits"), (.str "if"), (.str "else"), (.str "while"), (.str "catch"), (.str "exit"), (.str "and"), (.str "or"), (.str "not"), (.str "law")]
def sgn (c : Nat) : Str := ⟨#[c]⟩
def rB (s : Str) : Bool := RES.any fun y => PyData.eqv y (.str s)
def lB (c : Nat) : Bool := inS (sgn c) LET
def aB (cs : List Nat) : Bool := cs.all fun c => inS (sgn c) LAF
def nmL (s : Str) : List Nat → Bool
  | [] => false
  | c :: r => decide (s.length ≤ 12) && (!(rB s) && (lB c && aB (c :: r)))
def nmB : PyData → Bool
  | .str s => nmL s s.cps.toList
  | _ => false
theorem len_cps (s : Str) : s.length = s.cps.toList.length := by unfold Str.length; simp
def Sh (d : PyData) : Prop := ∀ s, d = .str s → s.length ≤ 100000
theorem hRES : PyData.depthAll RES = 0 := by decide +kernel
theorem is_name_ok (q : ErrC) (d : PyData) (hd : Sh d) : ∃ G, f_is_name q [.dat d] [] = .ok (.dat (.bool (nmB d))) G := by
  cases d with
  | str s =>
    have h1 := hd s rfl
    have hl := len_cps s
    simp only [nmB]
    cases hc : s.cps.toList with
    | nil =>
      rw [hc] at hl
      have h0 : s.length = 0 := hl
      exact ⟨[], by simp [f_is_name, b_is_name, PyData.isStr, h1, h0, nmL]⟩
    | cons c r =>
      rw [hc] at hl
      have h0 : (1 : Int) ≤ s.length := by rw [hl]; simp; omega
      by_cases h12 : s.length ≤ 12
      · refine ⟨[], ?_⟩
        have h13 : (s.length : Int) ≤ 12 := by omega
        have e2 : eAllG (srcSeq (eVar 0)) (aName 1) (eBin gIn (eVar 1) (eC (.dat (.str "abcdefghijklmnopqrstuvwxyz0123456789")))) [1] [.d (.dat (.str s)), .no] [] = .ok (.dat (.bool (aB (c :: r)))) [] :=
          by
            refine eAllG_dat (chk := yesH) (fun c => .dat (.str (sgn c))) (fun c => [.d (.dat (.str s)), .d (.dat (.str (sgn c)))]) (fun c => inS (sgn c) LAF) (c :: r) ?_ trivial (fun x _ => ⟨rfl, ?_⟩) ?_
            · simp [hc, sgn]
            · simp
            · simp at hl ⊢; omega
        have hR : ([(.str "cells"), (.str "deeds"), (.str "exits"), (.str "if"), (.str "else"), (.str "while"), (.str "catch"), (.str "exit"), (.str "and"), (.str "or"), (.str "not"), (.str "law")] : List PyData) = RES := rfl
        have e3 : inD (.dat (.str s)) (.dat (.tuple RES)) [] = some (rB s) := by
          rw [inD_tup, if_pos (by rw [hRES]; simp)]
          rfl
        have e4 : inD (.dat (.str (sgn c))) (.dat (.str LET)) [] = some (lB c) := rfl
        have e5 : ({ cps := #[c] } : Str) = sgn c := rfl
        unfold f_is_name b_is_name
        rw [hR]
        cases h1b : rB s <;> cases h2b : lB c <;> simp [PyData.isStr, h1, h0, h13, h12, e2, e3, e4, hc, e5, nmL, h1b, h2b, -inD_str, -inD_tup]
      · have h13 : ¬ (s.length : Int) ≤ 12 := by omega
        exact ⟨[], by simp [f_is_name, b_is_name, PyData.isStr, h1, h0, h13, h12, nmL]⟩
  | _ => exact ⟨[], by simp [f_is_name, b_is_name, PyData.isStr, nmB]⟩
/-! ### entries -/
def isNum : PyData → Bool
  | .int _ => true
  | _ => false
def numIn (hi : Int) : PyData → Bool
  | .int i => decide (1 ≤ i) && decide (i ≤ hi)
  | _ => false
/-- a call with values alone, wherever it stands -/
theorem call0 {sem : FS} {ds : List D} {d : D} {G : Hh} (h : ∃ G1, sem ds [] = .ok d G1) (h1 : refs ds = [] := by rfl) (h2 : renum 0 ds = ds := by rfl) (h3 : argsOk ds = true := by rfl) (h4 : clean d = true := by rfl) : relCall sem ds G = .ok d G := by
  obtain ⟨G1, e⟩ := h
  exact rel_ok0 h1 h2 h3 e h4
theorem is_number_ok (q : ErrC) (d : PyData) : ∃ G, f_is_number q [.dat d] [] = .ok (.dat (.bool (isNum d))) G := by
  cases d <;> exact ⟨[], by simp [f_is_number, b_is_number, PyData.isInt, PyData.isBool, isNum]⟩
def most (p : Nat) : Int := if p = 0 then 8 else 99
/-- the name of an entry, or None -/
def entryN (p : Nat) (e : PyData) : PyData := if p = 2 then (if nmB e then e else .none) else match e with
  | .tuple [n, k] => if nmB n && numIn (most p) k then n else .none
  | _ => .none
/-- short texts all over -/
def ShE (e : PyData) : Prop := Sh e ∧ ∀ es, e = .tuple es → ∀ x ∈ es, Sh x
theorem entry_name_ok (q : ErrC) (p : Nat) (hp : p ≤ 2) (e : PyData) (he : ShE e) : ∃ G, f_entry_name q [.dat (.int p), .dat e] [] = .ok (.dat (entryN p e)) G := by
  by_cases h2 : p = 2
  · subst h2
    have e1 := fun G => call0 (G := G) (is_name_ok q e he.1)
    cases hb : nmB e <;> exact ⟨[], by simp [f_entry_name, b_entry_name, e1, hb, entryN]⟩
  · have hp2 : ((p : Int) == 2) = false := by simp; omega
    have hnot : ∀ d : PyData, ¬ (d.isTuple = true) → (∀ es, d ≠ .tuple es) := fun d h es z => h (by subst z; rfl)
    cases e with
    | tuple es =>
      by_cases hl : es.length = 2
      · obtain ⟨n, k, rfl⟩ : ∃ n k, es = [n, k] := by
          match es, hl with
          | [n, k], _ => exact ⟨n, k, rfl⟩
        have hn := he.2 _ rfl n (by simp)
        have e1 := fun G => call0 (G := G) (is_name_ok q n hn)
        have e2 := fun G => call0 (G := G) (is_number_ok q k)
        have e3 : atI [PyData.int 8, PyData.int 99] (p : Int) = some (.int (most p)) := by
          rw [DL.atI_nat]
          have : p = 0 ∨ p = 1 := by omega
          rcases this with rfl | rfl <;> rfl
        refine ⟨[], ?_⟩
        cases hb : nmB n with
        | false => simp [f_entry_name, b_entry_name, hp2, PyData.isTuple, e1, hb, entryN, h2]
        | true =>
          cases k with
          | int i => by_cases hi : 1 ≤ i <;> by_cases hj : i ≤ most p <;> simp [f_entry_name, b_entry_name, hp2, PyData.isTuple, e1, e2, e3, hb, entryN, h2, numIn, isNum, hi, hj]
          | _ => simp [f_entry_name, b_entry_name, hp2, PyData.isTuple, e1, e2, e3, hb, entryN, h2, numIn, isNum]
      · have hl2 : ((es.length : Int) == 2) = false := by simp; omega
        have en : entryN p (.tuple es) = .none := by
          unfold entryN
          rw [if_neg h2]
          split
          · rename_i n k z
            cases z
            exact absurd rfl hl
          · rfl
        exact ⟨[], by simp [f_entry_name, b_entry_name, hp2, PyData.isTuple, hl2, en]⟩
    | _ => exact ⟨[], by simp [f_entry_name, b_entry_name, hp2, PyData.isTuple, entryN, h2]⟩
/-! ### made_ground -/
def trip : PyData → Option (List PyData × List PyData × List PyData)
  | .tuple [.tuple a, .tuple b, .tuple c] => some (a, b, c)
  | _ => none
theorem trip_some {d : PyData} {r} (h : trip d = some r) : d = .tuple [.tuple r.1, .tuple r.2.1, .tuple r.2.2] := by
  unfold trip at h
  split at h
  · cases h; rfl
  · cases h
theorem trip_none3 {x y z : PyData} (h : trip (.tuple [x, y, z]) = none) : (x.isTuple && (y.isTuple && z.isTuple)) = false := by
  cases x <;> cases y <;> cases z <;> first | rfl | (simp [trip] at h)
theorem is_triple_ok (q : ErrC) (d : PyData) : ∃ G, f_is_triple_of_tuples q [.dat d] [] = .ok (.dat (.bool (trip d).isSome)) G := by
  cases d with
  | tuple es =>
    by_cases hl : es.length = 3
    · obtain ⟨x, y, z, rfl⟩ : ∃ x y z, es = [x, y, z] := by
        match es, hl with
        | [x, y, z], _ => exact ⟨x, y, z, rfl⟩
      have e2 : eAllG (srcSeq (eVar 0)) (aName 1) (eArgs gIsa (aCons (eVar 1) (aCons (eC (.ty "tuple")) aNil))) [1] [.d (.dat (.tuple [x, y, z])), .no] [] = .ok (.dat (.bool ([x, y, z].all PyData.isTuple))) [] := by
        refine eAllG_dat (chk := yesH) .dat (fun c => [.d (.dat (.tuple [x, y, z])), .d (.dat c)]) PyData.isTuple [x, y, z] ?_ trivial (fun x _ => ⟨rfl, ?_⟩) (by simp)
        · simp
        · simp
      have e3 : ([x, y, z].all PyData.isTuple) = (trip (.tuple [x, y, z])).isSome := by
        cases x <;> cases y <;> cases z <;> rfl
      rw [e3] at e2
      exact ⟨[], by simp [f_is_triple_of_tuples, b_is_triple_of_tuples, e2, PyData.isTuple]⟩
    · have hl2 : ((es.length : Int) == 3) = false := by simp; omega
      have en : trip (.tuple es) = none := by
        cases h : trip (.tuple es) with
        | none => rfl
        | some r =>
          have := trip_some h
          cases this
          exact absurd rfl hl
      exact ⟨[], by simp [f_is_triple_of_tuples, b_is_triple_of_tuples, hl2, en, PyData.isTuple]⟩
  | _ => exact ⟨[], by simp [f_is_triple_of_tuples, b_is_triple_of_tuples, PyData.isTuple, trip]⟩
def isNo : PyData → Bool
  | .none => true
  | _ => false
def badN (n : PyData) (ah : List PyData) : Bool := isNo n || ah.any fun y => PyData.eqv y n
def entsW (p : Nat) : Nat → List PyData → List PyData → PyData ⊕ List PyData
  | _, [], ah => .inr ah
  | i, e :: es, ah => if badN (entryN p e) ah then .inl (.tuple [.int p, .int i]) else entsW p (i + 1) es (ah ++ [entryN p e])
def sizeE : PyData → Int
  | .tuple [_, .int k] => k
  | _ => 1
def sizes (m : Int) (es : List PyData) : Int := es.foldl (fun m e => m * sizeE e) m
def mostE (p : Nat) : Nat := if p = 1 then 3 else 4
def partW (p : Nat) (es ah : List PyData) : PyData ⊕ List PyData := if decide (mostE p < es.length) || (decide (p = 2) && es.isEmpty) then .inl (.tuple [.int p, .int (-1)]) else match entsW p 0 es ah with
  | .inl w => .inl w
  | .inr ah' => if decide (p = 0) && decide (64 < sizes 1 es) then .inl (.tuple [.int 0, .int (-1)]) else .inr ah'
def faultT (a b c : List PyData) : Option PyData := match partW 0 a [] with
  | .inl w => some w
  | .inr ah => match partW 1 b ah with
    | .inl w => some w
    | .inr ah => match partW 2 c ah with
      | .inl w => some w
      | .inr _ => none
def fault (d : PyData) : Option PyData := match trip d with
  | none => some (.int (-1))
  | some (a, b, c) => faultT a b c
theorem entryN_cases (p : Nat) (e : PyData) : entryN p e = .none ∨ ∃ s, entryN p e = .str s ∧ (p ≠ 2 → ∃ k, e = .tuple [.str s, .int k] ∧ 1 ≤ k ∧ k ≤ most p) := by
  have hs : ∀ {n : PyData}, nmB n = true → ∃ s, n = .str s := fun {n} h => by
    cases n with
    | str s => exact ⟨s, rfl⟩
    | _ => cases h
  unfold entryN
  split
  · rename_i h2
    split
    · rename_i h
      obtain ⟨s, rfl⟩ := hs h
      exact .inr ⟨s, rfl, fun z => absurd h2 z⟩
    · exact .inl rfl
  · split
    · rename_i n k
      split
      · rename_i h
        rw [Bool.and_eq_true] at h
        obtain ⟨s, rfl⟩ := hs h.1
        cases k with
        | int k =>
          have := h.2
          simp only [numIn, Bool.and_eq_true, decide_eq_true_eq] at this
          exact .inr ⟨s, rfl, fun _ => ⟨k, rfl, this.1, this.2⟩⟩
        | _ => cases h.2
      · exact .inl rfl
    · exact .inl rfl
/-- all that has been met are texts -/
def Strs (ah : List PyData) : Prop := ∀ d ∈ ah, ∃ s, d = .str s
theorem Strs.depth {ah : List PyData} (h : Strs ah) : PyData.depthAll ah = 0 := depthAll_0 fun d hd => by
  obtain ⟨s, rfl⟩ := h d hd
  simp
theorem Strs.snoc {ah : List PyData} {s : Str} (h : Strs ah) : Strs (ah ++ [.str s]) := fun d hd => by
  rcases List.mem_append.mp hd with h1 | h1
  · exact h d h1
  · simp at h1; exact ⟨s, h1⟩
theorem in_ahead {ah : List PyData} {s : Str} {G : Hh} {l : Nat} (h : G[l]? = some (.lst (ah.map .dat))) (hs : Strs ah) : inD (.dat (.str s)) (.ref l) G = some (ah.any fun y => PyData.eqv y (.str s)) := by
  rw [inD_view (a := ah) (by simp [h]), if_pos (by rw [hs.depth]; simp)]
noncomputable def mgIn (q : ErrC) : SS := (sSeq (sAsg (eCallA 2 (relCall (f_entry_name q)) (aCons (eVar 2) (aCons (eVar 5) aNil))) (aName 6))
    (sSeq (sIf (sOr (tTest' truB (eBin gIs (eVar 6) (eC (.dat .none)))) (tTest' truB (eBin gIn (eVar 6) (eVar 1)))) (sRaise q.BadGround (eArgs gTupD (aCons (eVar 2) (aCons (eVar 4) aNil)))) sNil)
    (sDrop (eMet isLst gAppend (eVar 1) (aCons (eVar 6) aNil)))))
theorem mg_in (q : ErrC) (p : Nat) (hp : p ≤ 2) (th en : D) : ∀ (es ah : List PyData) (i : Nat) (s4 s5 s6 : Sl), (∀ e ∈ es, ShE e) → Strs ah → ah.length + es.length ≤ 1000 →
    ∃ s4' s5' s6' env G, forL (aTup [aName 4, aName 5]) (mgIn q) yesH (enumF i (es.map .dat)) [.d th, .d (.ref 0), .d (.dat (.int p)), .d en, s4, s5, s6] [.lst (ah.map .dat)] =
      (match entsW p i es ah with
      | .inl w => .ex q.BadGround (.dat w) env G
      | .inr ah' => .nx [.d th, .d (.ref 0), .d (.dat (.int p)), .d en, s4', s5', s6'] [.lst (ah'.map .dat)]) ∧ ∀ ah', entsW p i es ah = .inr ah' → Strs ah' ∧ ah'.length = ah.length + es.length
  | [], ah, i, s4, s5, s6, _, hs, _ => ⟨s4, s5, s6, [], [], by
      rw [List.map_nil, enumF, forL_nil trivial]
      rfl, fun ah' h => by
      have : ah = ah' := by simpa [entsW] using h
      subst this
      exact ⟨hs, rfl⟩⟩
  | e :: es, ah, i, s4, s5, s6, he, hs, hn => by
    have e1 := fun G => call0 (G := G) (entry_name_ok q p hp e (he e List.mem_cons_self))
    have ha : aTup [aName 4, aName 5] (mkTup [.dat (.int i), .dat e]) [.d th, .d (.ref 0), .d (.dat (.int p)), .d en, s4, s5, s6] [.lst (ah.map .dat)] = some ([.d th, .d (.ref 0), .d (.dat (.int p)), .d en, .d (.dat (.int i)), .d (.dat e), s6], [.lst (ah.map .dat)]) := by simp
    rw [List.map_cons, enumF, entsW]
    by_cases hb : badN (entryN p e) ah = true
    · rw [if_pos hb]
      refine ⟨s4, s5, s6, [.d th, .d (.ref 0), .d (.dat (.int p)), .d en, .d (.dat (.int i)), .d (.dat e), .d (.dat (entryN p e))], [.lst (ah.map .dat)], ?_, fun ah' h => by cases h⟩
      refine forL_ex trivial ha ?_
      rcases entryN_cases p e with z | ⟨s, z, _⟩
      · rw [z] at e1 ⊢
        simp [mgIn, e1]
      · rw [z] at e1 hb ⊢
        have hb2 : (ah.any fun y => PyData.eqv y (.str s)) = true := by simpa [badN, isNo] using hb
        have e2 := in_ahead (G := [.lst (ah.map .dat)]) (l := 0) (s := s) rfl hs
        rw [hb2] at e2
        simp [mgIn, e1, e2]
    · rw [if_neg hb]
      rcases entryN_cases p e with z | ⟨s, z, _⟩
      · rw [z] at hb
        exact absurd rfl hb
      · rw [z] at e1 hb ⊢
        have hb2 : (ah.any fun y => PyData.eqv y (.str s)) = false := by simpa [badN, isNo] using hb
        have e2 := in_ahead (G := [.lst (ah.map .dat)]) (l := 0) (s := s) rfl hs
        rw [hb2] at e2
        obtain ⟨t4, t5, t6, env, G, h1, h2⟩ := mg_in q p hp th en es (ah ++ [.str s]) (i + 1) (.d (.dat (.int i))) (.d (.dat e)) (.d (.dat (.str s))) (fun x hx => he x (List.mem_cons_of_mem _ hx)) hs.snoc (by simp at hn ⊢; omega)
        refine ⟨t4, t5, t6, env, G, ?_, fun ah' h => ?_⟩
        · rw [← h1]
          refine forL_nx trivial ha ?_
          have hl : ah.length < 100000 := by simp at hn; omega
          simp [mgIn, e1, e2, hl]
        · obtain ⟨q1, q2⟩ := h2 ah' h
          exact ⟨q1, by simp at q2 ⊢; omega⟩
end K01

set_option Elab.async false
set_option linter.all false
set_option maxRecDepth 100000
set_option maxHeartbeats 1000000
namespace K01
open PySem PySem.Spec PyProof.Rows L2 DL
open Classical
/-- an entry of a cell as it should be -/
def CellE (e : PyData) : Prop := ∃ s k, e = .tuple [.str s, .int k] ∧ 1 ≤ k ∧ k ≤ 8
theorem soc_loop : ∀ (es : List PyData) (m : Int) (c s2 s3 : Sl), (∀ e ∈ es, CellE e) → ∃ s2' s3', forL (aTup [aName 2, aName 3]) (sAsg (eBin gMul (eVar 1) (eVar 3)) (aName 1)) yesH (es.map .dat) [c, .d (.dat (.int m)), s2, s3] [] = .nx [c, .d (.dat (.int (sizes m es))), s2', s3'] []
  | [], m, c, s2, s3, _ => ⟨s2, s3, forL_nil trivial⟩
  | e :: es, m, c, s2, s3, h => by
    obtain ⟨s, k, rfl, h1, h2⟩ := h e List.mem_cons_self
    obtain ⟨t2, t3, ih⟩ := soc_loop es (m * k) c (.d (.dat (.str s))) (.d (.dat (.int k))) fun x hx => h x (List.mem_cons_of_mem _ hx)
    refine ⟨t2, t3, ?_⟩
    have hm : mulOk m k = true := mulOk_r (by omega)
    rw [List.map_cons, forL_nx (env1 := [c, .d (.dat (.int m)), .d (.dat (.str s)), .d (.dat (.int k))]) (G1 := []) (e := [c, .d (.dat (.int (m * k))), .d (.dat (.str s)), .d (.dat (.int k))]) (g := []) trivial (by simp) (by simp [hm])]
    exact ih
theorem soc_ok (q : ErrC) (es : List PyData) (h : ∀ e ∈ es, CellE e) : ∃ G, f_states_of_cells q [.dat (.tuple es)] [] = .ok (.dat (.int (sizes 1 es))) G := by
  obtain ⟨s2, s3, e⟩ := soc_loop es 1 (.d (.dat (.tuple es))) .no .no h
  have e2 : sFor (srcSeq (eVar 0)) (aTup [aName 2, aName 3]) (sAsg (eBin gMul (eVar 1) (eVar 3)) (aName 1)) [.d (.dat (.tuple es)), .d (.dat (.int 1)), .no, .no] [] = .nx [.d (.dat (.tuple es)), .d (.dat (.int (sizes 1 es))), s2, s3] [] := by
    rw [sFor_ok (xs := es.map .dat) (chk := yesH) (G1 := []) (by simp)]
    exact e
  exact ⟨[], by simp [f_states_of_cells, b_states_of_cells, e2]⟩
theorem entsW_cells : ∀ (es ah ah' : List PyData) (i : Nat), entsW 0 i es ah = .inr ah' → ∀ e ∈ es, CellE e
  | [], _, _, _, _ => fun e he => by cases he
  | e :: es, ah, ah', i, h => by
    rw [entsW] at h
    split at h
    · cases h
    · rename_i hb
      intro x hx
      rcases List.mem_cons.mp hx with rfl | hx
      · rcases entryN_cases 0 x with z | ⟨s, z, hk⟩
        · rw [z] at hb
          exact absurd rfl hb
        · obtain ⟨k, rfl, h1, h2⟩ := hk (by decide)
          exact ⟨s, k, rfl, h1, h2⟩
      · exact entsW_cells es _ _ _ h x hx
noncomputable def mgOut (q : ErrC) : SS := (sSeq (sIf (sOr (tTest' truB (eBin gGt (eArgs gLen (aCons (eVar 3) aNil)) (eBin gIx (eC (.dat (.tuple [(.int 4), (.int 3), (.int 4)]))) (eVar 2)))) (sAnd (tTest' truB (eBin gEq (eVar 2) (eC (.dat (.int 2))))) (sNot (tTest' tru (eVar 3))))) (sRaise q.BadGround (eArgs gTupD (aCons (eVar 2) (aCons (eUn gNeg (eC (.dat (.int 1)))) aNil)))) sNil)
    (sSeq (sFor (srcEnum (aCons (eVar 3) aNil)) (aTup [aName 4, aName 5]) (mgIn q))
    (sIf (sAnd (tTest' truB (eBin gEq (eVar 2) (eC (.dat (.int 0))))) (tTest' truB (eBin gGt (eCallA 1 (relCall (f_states_of_cells q)) (aCons (eVar 3) aNil)) (eC (.dat (.int 64)))))) (sRaise q.BadGround (eArgs gTupD (aCons (eC (.dat (.int 0))) (aCons (eUn gNeg (eC (.dat (.int 1)))) aNil)))) sNil)))
theorem mostE_at {p : Nat} (hp : p ≤ 2) : atI [PyData.int 4, PyData.int 3, PyData.int 4] (p : Int) = some (.int (mostE p)) := by
  rw [DL.atI_nat]
  have : p = 0 ∨ p = 1 ∨ p = 2 := by omega
  rcases this with rfl | rfl | rfl <;> rfl
theorem mg_out (q : ErrC) (p : Nat) (hp : p ≤ 2) (th : D) (es ah : List PyData) (s4 s5 s6 : Sl) (he : ∀ e ∈ es, ShE e) (hs : Strs ah) (hn : ah.length ≤ 100) (hes : es.length ≤ 100000) :
    ∃ s4' s5' s6' env G, mgOut q [.d th, .d (.ref 0), .d (.dat (.int p)), .d (.dat (.tuple es)), s4, s5, s6] [.lst (ah.map .dat)] = (match partW p es ah with
      | .inl w => .ex q.BadGround (.dat w) env G
      | .inr ah' => .nx [.d th, .d (.ref 0), .d (.dat (.int p)), .d (.dat (.tuple es)), s4', s5', s6'] [.lst (ah'.map .dat)]) ∧ ∀ ah', partW p es ah = .inr ah' → Strs ah' ∧ ah'.length ≤ ah.length + 4 := by
  have eb := mostE_at hp
  by_cases hb : (decide (mostE p < es.length) || (decide (p = 2) && es.isEmpty)) = true
  · refine ⟨s4, s5, s6, [.d th, .d (.ref 0), .d (.dat (.int p)), .d (.dat (.tuple es)), s4, s5, s6], [.lst (ah.map .dat)], ?_, fun ah' h => ?_⟩
    · unfold partW
      rw [if_pos hb]
      rw [Bool.or_eq_true, Bool.and_eq_true, decide_eq_true_eq, decide_eq_true_eq] at hb
      by_cases h1 : mostE p < es.length
      · have h1' : (mostE p : Int) < es.length := by omega
        simp [mgOut, eb, h1']
      · have h1' : ¬ (mostE p : Int) < es.length := by omega
        obtain ⟨rfl, h3⟩ := hb.resolve_left h1
        have : ((2 : Nat) : Int) = 2 := rfl
        obtain rfl : es = [] := List.isEmpty_iff.mp h3
        simp [mgOut, eb, h1']
    · unfold partW at h
      rw [if_pos hb] at h
      cases h
  · have hl : es.length ≤ mostE p := by
      by_cases h1 : mostE p < es.length
      · exact absurd (by simp [h1]) hb
      · omega
    have hm : mostE p ≤ 4 := by unfold mostE; split <;> omega
    obtain ⟨t4, t5, t6, env, G, h1, h2⟩ := mg_in q p hp th (.dat (.tuple es)) es ah 0 s4 s5 s6 he hs (by omega)
    have e2 := (sFor_ok (src := srcEnum (aCons (eVar 3) aNil)) (a := aTup [aName 4, aName 5]) (f := mgIn q) (env := [.d th, .d (.ref 0), .d (.dat (.int p)), .d (.dat (.tuple es)), s4, s5, s6]) (G := [.lst (ah.map .dat)]) (xs := enumF 0 (es.map .dat)) (chk := yesH) (G1 := [.lst (ah.map .dat)]) (by simp)).trans h1
    have h1' : ¬ (mostE p : Int) < es.length := by omega
    have hc : (decide ((p : Int) = 2) && es.isEmpty) = false := by
      have := (not_or.mp (fun z => hb (by rw [Bool.or_eq_true]; exact z))).2
      have e3 : decide ((p : Int) = 2) = decide (p = 2) := by
        by_cases h : p = 2
        · subst h; rfl
        · have : ¬ (p : Int) = 2 := by omega
          simp [h, this]
      rw [e3]
      simpa using this
    have hf : ∀ z, (sIf (sOr (tTest' truB (eBin gGt (eArgs gLen (aCons (eVar 3) aNil)) (eBin gIx (eC (.dat (.tuple [(.int 4), (.int 3), (.int 4)]))) (eVar 2)))) (sAnd (tTest' truB (eBin gEq (eVar 2) (eC (.dat (.int 2))))) (sNot (tTest' tru (eVar 3))))) (sRaise q.BadGround (eArgs gTupD (aCons (eVar 2) (aCons (eUn gNeg (eC (.dat (.int 1)))) aNil)))) sNil) [.d th, .d (.ref 0), .d (.dat (.int p)), .d (.dat (.tuple es)), s4, s5, s6] z = .nx [.d th, .d (.ref 0), .d (.dat (.int p)), .d (.dat (.tuple es)), s4, s5, s6] z := by
      intro z
      by_cases hp2 : (p : Int) = 2
      · have he : es.isEmpty = false := by simpa [hp2] using hc
        have h4 : ¬ (4 : Int) < es.length := by
          have : mostE p = 4 := by rw [show p = 2 by omega]; rfl
          omega
        simp [hp2, he]
        rw [if_neg h4]
        rfl
      · have : ((p : Int) == 2) = false := by simpa using hp2
        simp [eb, h1', this]
    unfold partW
    rw [if_neg hb]
    cases hw : entsW p 0 es ah with
    | inl w =>
      rw [hw] at e2
      refine ⟨s4, s5, s6, env, G, ?_, fun ah' h => by cases h⟩
      unfold mgOut
      simp only [e_sSeq, hf, e2]
    | inr ah' =>
      rw [hw] at e2
      obtain ⟨q1, q2⟩ := h2 ah' hw
      by_cases hp0 : p = 0
      · subst hp0
        have es1 := fun G => call0 (G := G) (soc_ok q es (entsW_cells es ah ah' 0 hw))
        by_cases h64 : 64 < sizes 1 es
        · refine ⟨s4, s5, s6, [.d th, .d (.ref 0), .d (.dat (.int 0)), .d (.dat (.tuple es)), t4, t5, t6], [.lst (ah'.map .dat)], ?_, fun ah2 h => ?_⟩
          · unfold mgOut
            simp only [e_sSeq, hf, e2]
            simp [es1, h64]
          · simp [h64] at h
        · refine ⟨t4, t5, t6, [], [], ?_, fun ah2 h => ?_⟩
          · unfold mgOut
            simp only [e_sSeq, hf, e2]
            simp [es1, h64]
          · have : ah' = ah2 := by simpa [h64] using h
            subst this
            exact ⟨q1, by omega⟩
      · have hp' : ((p : Int) == 0) = false := by simp; omega
        refine ⟨t4, t5, t6, [], [], ?_, fun ah2 h => ?_⟩
        · unfold mgOut
          simp only [e_sSeq, hf, e2]
          simp [hp', hp0]
        · have : ah' = ah2 := by simpa [hp0] using h
          subst this
          exact ⟨q1, by omega⟩
/-- what is looked at: texts not too long, tuples not too long -/
structure Thing (d : PyData) : Prop where
  sh : ∀ a b c, trip d = some (a, b, c) → (∀ e ∈ a ++ b ++ c, ShE e) ∧ a.length ≤ 100000 ∧ b.length ≤ 100000 ∧ c.length ≤ 100000
theorem made_ground_ok (q : ErrC) (d : PyData) (hd : Thing d) : ∃ G, f_made_ground q [.dat d] [] = (match fault d with
    | some w => .ex q.BadGround (.dat w) G
    | none => .ok (.dat d) G) := by
  have e1 := fun G => call0 (G := G) (is_triple_ok q d)
  unfold fault
  cases ht : trip d with
  | none => 
    rw [ht] at e1
    exact ⟨[], by simp [f_made_ground, b_made_ground, e1]⟩
  | some r =>
    obtain ⟨a, b, c⟩ := r
    rw [ht] at e1
    obtain ⟨hsh, ha, hb, hc⟩ := hd.sh a b c ht
    have := trip_some ht
    subst this
    have hout : f_made_ground q = fnD 7 (sSeq (sIf (sNot (tTest' tru (eCallA 1 (relCall (f_is_triple_of_tuples q)) (aCons (eVar 0) aNil)))) (sRaise q.BadGround (eUn gNeg (eC (.dat (.int 1))))) sNil)
      (sSeq (sAsg (eArgs gLstD aNil) (aName 1)) (sSeq (sFor (srcEnum (aCons (eVar 0) aNil)) (aTup [aName 2, aName 3]) (mgOut q)) (sRet (eVar 0))))) := rfl
    rw [hout]
    dsimp only
    obtain ⟨x4, x5, x6, env0, G0, p0, r0⟩ := mg_out q 0 (by decide) (.dat (.tuple [.tuple a, .tuple b, .tuple c])) a [] .no .no .no (fun e he => hsh e (by simp [he])) (fun d hd => by cases hd) (by simp) ha
    have hsrc : srcEnum (aCons (eVar 0) aNil) [.d (.dat (.tuple [.tuple a, .tuple b, .tuple c])), .d (.ref 0), .no, .no, .no, .no, .no] [.lst []] = .ok (enumF 0 ([.tuple a, .tuple b, .tuple c].map .dat)) yesH [.lst []] := by simp
    have key : ∃ env G, sFor (srcEnum (aCons (eVar 0) aNil)) (aTup [aName 2, aName 3]) (mgOut q) [.d (.dat (.tuple [.tuple a, .tuple b, .tuple c])), .d (.ref 0), .no, .no, .no, .no, .no] [.lst []] = (match faultT a b c with
        | some w => .ex q.BadGround (.dat w) env G
        | none => .nx (.d (.dat (.tuple [.tuple a, .tuple b, .tuple c])) :: env) G) := by
      rw [sFor_ok hsrc]
      unfold faultT
      have hat : ∀ (p : Nat) (e : PyData) (u1 u2 u3 u4 u5 u6 : Sl) (G : Hh), aTup [aName 2, aName 3] (mkTup [.dat (.int p), .dat e]) [.d (.dat (.tuple [.tuple a, .tuple b, .tuple c])), u1, u2, u3, u4, u5, u6] G = some ([.d (.dat (.tuple [.tuple a, .tuple b, .tuple c])), u1, .d (.dat (.int p)), .d (.dat e), u4, u5, u6], G) := by
        intro p e u1 u2 u3 u4 u5 u6 G
        simp
      cases h0 : partW 0 a [] with
      | inl w =>
        rw [h0] at p0
        refine ⟨env0, G0, ?_⟩
        exact forL_ex (chk := yesH) trivial (hat 0 _ _ _ _ _ _ _ _) p0
      | inr ah0 =>
        rw [h0] at p0
        obtain ⟨s0, l0⟩ := r0 ah0 h0
        obtain ⟨y4, y5, y6, env1, G1, p1, r1⟩ := mg_out q 1 (by decide) (.dat (.tuple [.tuple a, .tuple b, .tuple c])) b ah0 x4 x5 x6 (fun e he => hsh e (by simp [he])) s0 (by simp at l0; omega) hb
        dsimp only
        cases h1 : partW 1 b ah0 with
        | inl w =>
          rw [h1] at p1
          refine ⟨env1, G1, ?_⟩
          refine (forL_nx (chk := yesH) trivial (hat 0 _ _ _ _ _ _ _ _) p0).trans ?_
          exact forL_ex (chk := yesH) trivial (hat 1 _ _ _ _ _ _ _ _) p1
        | inr ah1 =>
          rw [h1] at p1
          obtain ⟨s1, l1⟩ := r1 ah1 h1
          obtain ⟨z4, z5, z6, env2, G2, p2, r2⟩ := mg_out q 2 (by decide) (.dat (.tuple [.tuple a, .tuple b, .tuple c])) c ah1 y4 y5 y6 (fun e he => hsh e (by simp [he])) s1 (by simp at l0; omega) hc
          dsimp only
          cases h2 : partW 2 c ah1 with
          | inl w =>
            rw [h2] at p2
            refine ⟨env2, G2, ?_⟩
            refine (forL_nx (chk := yesH) trivial (hat 0 _ _ _ _ _ _ _ _) p0).trans ?_
            refine (forL_nx (chk := yesH) trivial (hat 1 _ _ _ _ _ _ _ _) p1).trans ?_
            exact forL_ex (chk := yesH) trivial (hat 2 _ _ _ _ _ _ _ _) p2
          | inr ah2 =>
            rw [h2] at p2
            refine ⟨[.d (.ref 0), .d (.dat (.int 2)), .d (.dat (.tuple c)), z4, z5, z6], [.lst (ah2.map .dat)], ?_⟩
            refine (forL_nx (chk := yesH) trivial (hat 0 _ _ _ _ _ _ _ _) p0).trans ?_
            refine (forL_nx (chk := yesH) trivial (hat 1 _ _ _ _ _ _ _ _) p1).trans ?_
            refine (forL_nx (chk := yesH) trivial (hat 2 _ _ _ _ _ _ _ _) p2).trans ?_
            exact forL_nil (chk := yesH) trivial
    obtain ⟨env, G, key⟩ := key
    refine ⟨G, ?_⟩
    generalize sFor (srcEnum (aCons (eVar 0) aNil)) (aTup [aName 2, aName 3]) (mgOut q) = S at key ⊢
    cases hf : faultT a b c <;> rw [hf] at key <;> simp [e1, key]
end K01

set_option Elab.async false
set_option linter.all false
set_option maxRecDepth 100000
set_option maxHeartbeats 1000000
namespace K01
open PySem PySem.Spec PyProof.Rows L2 DL
open Classical
/-! ### what can be shown -/
def okS (dp : Nat) (d : PyData) : Prop := d.showable = true ∧ d.leavesShort 2000 = true ∧ d.depth ≤ dp
theorem okS.mono {a b : Nat} {d : PyData} (h : okS a d) (hab : a ≤ b) : okS b d := ⟨h.1, h.2.1, Nat.le_trans h.2.2 hab⟩
theorem showAll : ∀ {xs : List PyData}, (∀ x ∈ xs, x.showable = true) → PyData.showableAll xs = true
  | [], _ => by simp [PyData.showableAll]
  | x :: xs, h => by
    simp only [PyData.showableAll, Bool.and_eq_true]
    exact ⟨h x List.mem_cons_self, showAll fun y hy => h y (List.mem_cons_of_mem _ hy)⟩
theorem leavAll : ∀ {xs : List PyData}, (∀ x ∈ xs, x.leavesShort 2000 = true) → PyData.leavesShortAll 2000 xs = true
  | [], _ => by simp [PyData.leavesShortAll]
  | x :: xs, h => by
    simp only [PyData.leavesShortAll, Bool.and_eq_true]
    exact ⟨h x List.mem_cons_self, leavAll fun y hy => h y (List.mem_cons_of_mem _ hy)⟩
theorem deepAll {n : Nat} : ∀ {xs : List PyData}, (∀ x ∈ xs, x.depth ≤ n) → PyData.depthAll xs ≤ n
  | [], _ => by simp [PyData.depthAll]
  | x :: xs, h => by
    simp only [PyData.depthAll]
    have h1 := h x List.mem_cons_self
    have h2 := deepAll (xs := xs) fun y hy => h y (List.mem_cons_of_mem _ hy)
    omega
theorem okS_tup {dp : Nat} {xs : List PyData} (h : ∀ x ∈ xs, okS dp x) : okS (dp + 1) (.tuple xs) := by
  refine ⟨?_, ?_, ?_⟩
  · simp only [PyData.showable]
    exact showAll fun x hx => (h x hx).1
  · simp only [PyData.leavesShort]
    exact leavAll fun x hx => (h x hx).2.1
  · simp only [PyData.depth]
    have := deepAll (n := dp) fun x hx => (h x hx).2.2
    omega
theorem reprOk_of {d : PyData} (h : okS 60 d) (hw : d.weight ≤ 5000) : reprOk d = true := by
  unfold reprOk
  rw [h.1, h.2.1, decide_eq_true hw, decide_eq_true h.2.2]
  rfl
def wA (es : List PyData) : Nat := PyData.weightAll es
theorem wA_cons (e : PyData) (es : List PyData) : wA (e :: es) = e.weight + 1 + wA es := by unfold wA; simp only [PyData.weightAll]
theorem wA_nil : wA [] = 0 := by unfold wA; simp only [PyData.weightAll]
theorem w_tup (es : List PyData) : (PyData.tuple es).weight = wA es := by unfold wA; simp only [PyData.weight]
theorem wA_le {k : Nat} : ∀ {es : List PyData}, (∀ e ∈ es, e.weight ≤ k) → wA es ≤ es.length * (k + 1)
  | [], _ => by rw [wA_nil]; omega
  | e :: es, h => by
    rw [wA_cons, List.length_cons, Nat.add_mul]
    have h1 := h e List.mem_cons_self
    have h2 := wA_le (es := es) fun x hx => h x (List.mem_cons_of_mem _ hx)
    omega
theorem hbool : ∀ b : Bool, reprOk (.bool b) = true := by decide +kernel
theorem ne_repr {f h : ES} {env : Env'} {G G1 G2 : Hh} {d : PyData} (h1 : f env G = .ok (.dat d) G1) (h2 : h env G1 = .ok (.dat d) G2) (hr : reprOk d = true) : eBin gNe (eArgs gRepr (aCons f aNil)) (eArgs gRepr (aCons h aNil)) env G = .ok (.dat (.bool false)) G2 := by
  simp [h1, h2, hr]
theorem eq_repr {f h : ES} {env : Env'} {G G1 G2 : Hh} {d : PyData} (h1 : f env G = .ok (.dat d) G1) (h2 : h env G1 = .ok (.dat d) G2) (hr : reprOk d = true) : eBin gEq (eArgs gRepr (aCons f aNil)) (eArgs gRepr (aCons h aNil)) env G = .ok (.dat (.bool true)) G2 := by
  simp [h1, h2, hr]
/-- whole numbers that are not too long -/
def Big (i : Int) : Prop := i.natAbs < 10 ^ 80
theorem int_okS {i : Int} (h : Big i) : okS 0 (.int i) ∧ (PyData.int i).weight ≤ 300 := by
  have hl : i.natAbs.log2 < 299 := by
    by_cases h0 : i.natAbs = 0
    · rw [h0]; decide
    · refine (Nat.log2_lt h0).mpr (Nat.lt_trans h ?_)
      decide +kernel
  refine ⟨⟨?_, ?_, by simp⟩, ?_⟩
  · simp only [PyData.showable, decide_eq_true_eq]
    omega
  · simp only [PyData.leavesShort, decide_eq_true_eq]
    have e := int_text_length_le10 (k := 80) (by decide) h
    show (Str.ofString (toString i)).length ≤ 2000
    rw [PySem.ofString_length]
    omega
  · simp only [PyData.weight]
    split <;> omega
theorem int_shown {i : Int} (h : Big i) : reprOk (.int i) = true := reprOk_of ((int_okS h).1.mono (by decide)) (by have := (int_okS h).2; omega)
abbrev V (v : List Int) : PyData := .tuple (v.map .int)
theorem V_okS {v : List Int} (h : ∀ x ∈ v, Big x) : okS 1 (V v) ∧ (V v).weight ≤ v.length * 301 := by
  refine ⟨okS_tup fun x hx => ?_, ?_⟩
  · obtain ⟨i, hi, rfl⟩ := List.mem_map.mp hx
    exact (int_okS (h i hi)).1
  · rw [w_tup]
    have := wA_le (es := v.map PyData.int) (k := 300) fun x hx => by
      obtain ⟨i, hi, rfl⟩ := List.mem_map.mp hx
      exact (int_okS (h i hi)).2
    rwa [List.length_map] at this
theorem V_shown {v : List Int} (h : ∀ x ∈ v, Big x) (hn : v.length ≤ 4) : reprOk (V v) = true := by
  obtain ⟨h1, h2⟩ := V_okS h
  exact reprOk_of (h1.mono (by decide)) (by omega)
theorem key_shown {p : Int} {v : List Int} (hp : Big p) (h : ∀ x ∈ v, Big x) (hn : v.length ≤ 4) : reprOk (.tuple [.int p, V v]) = true := by
  obtain ⟨h1, h2⟩ := V_okS h
  obtain ⟨h3, h4⟩ := int_okS hp
  refine reprOk_of ((okS_tup (dp := 1) fun x hx => ?_).mono (by decide)) ?_
  · simp at hx
    rcases hx with rfl | rfl
    · exact h3.mono (by decide)
    · exact h1
  · rw [w_tup, wA_cons, wA_cons, wA_nil]
    omega
/-! ### the order of keys -/
def lexV : List Int → List Int → Bool
  | x :: xs, y :: ys => if x = y then lexV xs ys else decide (x < y)
  | _, _ => false
theorem lex_V : ∀ {v w : List Int} (l : List (Int ⊕ List Nat)), v.length = w.length → PyProof.Rows.lexLt itemOrd l l = false → PyProof.Rows.lexLt itemOrd (PySem.W.keyToksAll (v.map .int) ++ l) (PySem.W.keyToksAll (w.map .int) ++ l) = lexV v w
  | [], [], l, _, hl => by
    simp only [List.map_nil, PySem.W.keyToksAll, List.cons_append, List.nil_append, lexV]
    rw [lex_self (O := itemOrd)]
    exact hl
  | [], _ :: _, _, h, _ => by cases h
  | _ :: _, [], _, h, _ => by cases h
  | x :: v, y :: w, l, h, hl => by
    simp only [List.map_cons, PySem.W.keyToksAll, PySem.W.keyToks, List.cons_append, List.nil_append, lexV]
    rw [lex_self (O := itemOrd)]
    by_cases e : x = y
    · subst e
      rw [if_pos rfl, lex_self (O := itemOrd)]
      exact lex_V l (by simpa using h) hl
    · rw [if_neg e, lex_diff (O := itemOrd) (fun z => e (Sum.inl.inj z))]
      rfl
def keyLt (p : Int) (v : List Int) (p' : Int) (w : List Int) : Bool := if p = p' then lexV v w else decide (p < p')
theorem dataLt_key {p p' : Int} {v w : List Int} (h : v.length = w.length) : PySem.W.dataLt (.tuple [.int p, V v]) (.tuple [.int p', V w]) = keyLt p v p' w := by
  unfold PySem.W.dataLt keyLt
  simp only [PySem.W.keyToks, PySem.W.keyToksAll, List.cons_append, List.nil_append]
  rw [lex_self (O := itemOrd)]
  by_cases e : p = p'
  · subst e
    rw [if_pos rfl, lex_self (O := itemOrd), lex_self (O := itemOrd)]
    exact lex_V _ h (by rfl)
  · rw [if_neg e, lex_diff (O := itemOrd) (fun z => e (Sum.inl.inj z))]
    rfl
theorem alike_V : ∀ {v w : List Int}, v.length = w.length → PySem.W.alikeAll (v.map .int) (w.map .int) = true
  | [], [], _ => by simp [PySem.W.alikeAll]
  | [], _ :: _, h => by cases h
  | _ :: _, [], h => by cases h
  | x :: v, y :: w, h => by
    simp only [List.map_cons, PySem.W.alikeAll, PySem.W.alike, Bool.true_and]
    exact alike_V (by simpa using h)
theorem alike_key {p p' : Int} {v w : List Int} (h : v.length = w.length) : PySem.W.alike (.tuple [.int p, V v]) (.tuple [.int p', V w]) = true := by
  simp only [PySem.W.alike, PySem.W.alikeAll, Bool.true_and, Bool.and_true]
  exact alike_V h
theorem depth_V (v : List Int) : (V v).depth = 1 := by
  have := depthAll_0 (a := v.map PyData.int) fun d hd => by
    obtain ⟨i, _, rfl⟩ := List.mem_map.mp hd
    simp
  simp only [PyData.depth, this]
theorem depth_key (p : Int) (v : List Int) : (PyData.tuple [.int p, V v]).depth = 2 := by
  have := depth_V v
  simp only [PyData.depth, PyData.depthAll] at this ⊢
  omega
theorem gLt_key {p p' : Int} {v w : List Int} {G : Hh} (h : v.length = w.length) : gLt (.dat (.tuple [.int p, V v])) (.dat (.tuple [.int p', V w])) G = some (.dat (.bool (keyLt p v p' w)), G) := by
  unfold gLt gOrd
  dsimp only
  rw [if_pos ⟨alike_key h, by rw [depth_key]; omega⟩, dataLt_key h]
theorem gGt_key {p p' : Int} {v w : List Int} {G : Hh} (h : v.length = w.length) : gGt (.dat (.tuple [.int p, V v])) (.dat (.tuple [.int p', V w])) G = some (.dat (.bool (keyLt p' w p v)), G) := by
  unfold gGt gOrd
  dsimp only
  rw [if_pos ⟨alike_key h, by rw [depth_key]; omega⟩, dataLt_key h.symm]
theorem eqv_V : ∀ {v w : List Int}, PyData.eqvAll (v.map .int) (w.map .int) = decide (v = w)
  | [], [] => by simp [PyData.eqvAll]
  | [], _ :: _ => by simp [PyData.eqvAll]
  | _ :: _, [] => by simp [PyData.eqvAll]
  | x :: v, y :: w => by
    simp only [List.map_cons, PyData.eqvAll, eqv_V (v := v) (w := w), eqv_int, List.cons.injEq]
    by_cases e : x = y <;> simp [e]
theorem eqv_VV {v w : List Int} : PyData.eqv (V v) (V w) = decide (v = w) := by
  simp only [PyData.eqv]
  exact eqv_V
theorem eqv_key {p p' : Int} {v w : List Int} : PyData.eqv (.tuple [.int p, V v]) (.tuple [.int p', V w]) = (decide (p = p') && decide (v = w)) := by
  simp only [PyData.eqv, PyData.eqvAll, eqv_V, Bool.and_true]
  by_cases e : p = p' <;> simp [e]
end K01

set_option Elab.async false
set_option linter.all false
set_option maxRecDepth 100000
set_option maxHeartbeats 1000000
namespace K01
open PySem PySem.Spec PyProof.Rows L2 DL
open Classical
/-! ### the functions over counts -/
abbrev KS := List (Str × Int)
abbrev kE (k : Str × Int) : PyData := .tuple [.str k.1, .int k.2]
abbrev KT' (ks : KS) : PyData := .tuple (ks.map kE)
structure Gd (g : PyData) (ks : KS) : Prop where
  form : ∃ cs es, g = .tuple [.tuple cs, KT' ks, .tuple es]
  thing : Thing g
  ok : fault g = none
  price : ∀ k ∈ ks, 1 ≤ k.2 ∧ k.2 ≤ 99
  few : ks.length ≤ 3
theorem made_rel (q : ErrC) {g : PyData} {ks : KS} (h : Gd g ks) (G : Hh) : relCall (f_made_ground q) [.dat g] G = .ok (.dat g) G := by
  obtain ⟨G1, e⟩ := made_ground_ok q g h.thing
  rw [h.ok] at e
  exact call0 ⟨G1, e⟩
theorem nought_ok (q : ErrC) {g : PyData} {ks : KS} (h : Gd g ks) : ∃ G, f_nought q [.dat g] [] = .ok (.dat (V (ks.map fun _ => 0))) G := by
  have e1 := made_rel q h
  obtain ⟨cs, es, e⟩ := h.form
  subst e
  have e2 : eTupG (srcSeq (eBin gIx (eVar 0) (eC (.dat (.int 1))))) (aName 1) (eC (.dat (.int 0))) [1] [.d (.dat (.tuple [.tuple cs, KT' ks, .tuple es])), .no] [] = .ok (.dat (.tuple (ks.map fun _ => .int 0))) [] := by
    refine eTupG_dat (chk := yesH) (fun k : Str × Int => .dat (kE k)) (fun k => [.d (.dat (.tuple [.tuple cs, KT' ks, .tuple es])), .d (.dat (kE k))]) (fun _ => .int 0) ks ?_ trivial (fun x _ => ⟨rfl, ?_⟩) (by have := h.few; omega)
    · simp
    · simp
  refine ⟨[], ?_⟩
  have e3 : (ks.map fun _ => (0 : Int)).map PyData.int = ks.map fun _ => PyData.int 0 := by simp
  unfold V
  rw [e3]
  simp [f_nought, b_nought, e1, e2]
def addV (v w : List Int) : List Int := List.zipWith (· + ·) v w
theorem zip_V (v w : List Int) : zipF ((v.map PyData.int).map .dat) ((w.map PyData.int).map .dat) = (v.zip w).map fun p => D.dat (.tuple [.int p.1, .int p.2]) := by
  unfold zipF
  induction v generalizing w with
  | nil => rfl
  | cons x v ih =>
    cases w with
    | nil => rfl
    | cons y w =>
      simp only [List.map_cons, List.zipWith_cons_cons, List.zip_cons_cons, ih w]
      rfl
theorem zip_len {v w : List Int} (h : v.length ≤ 1000) : (v.zip w).length ≤ 100000 := by
  rw [List.length_zip]
  omega
theorem plus_ok (q : ErrC) (v w : List Int) (h : v.length ≤ 1000) : ∃ G, f_plus q [.dat (V v), .dat (V w)] [] = .ok (.dat (V (addV v w))) G := by
  have e2 : eTupG (srcZip (aCons (eVar 0) (aCons (eVar 1) aNil))) (aTup [(aName 2), (aName 3)]) (eBin gAdd (eVar 2) (eVar 3)) [2, 3] [.d (.dat (V v)), .d (.dat (V w)), .no, .no] [] = .ok (.dat (.tuple ((v.zip w).map fun p => .int (p.1 + p.2)))) [] := by
    refine eTupG_dat (chk := yesH) (fun p : Int × Int => .dat (.tuple [.int p.1, .int p.2])) (fun p => [.d (.dat (V v)), .d (.dat (V w)), .d (.dat (.int p.1)), .d (.dat (.int p.2))]) (fun p => .int (p.1 + p.2)) (v.zip w) ?_ trivial (fun x _ => ⟨by simp; rfl, ?_⟩) (zip_len h)
    · have := zip_V v w
      simp at this
      simp [this]
    · simp
  have e3 : (addV v w).map PyData.int = (v.zip w).map fun p => PyData.int (p.1 + p.2) := by
    unfold addV
    clear e2 h
    induction v generalizing w with
    | nil => rfl
    | cons x v ih =>
      cases w with
      | nil => rfl
      | cons y w =>
        simp only [List.zipWith_cons_cons, List.map_cons, List.zip_cons_cons, ih]
  refine ⟨[], ?_⟩
  rw [show V (addV v w) = .tuple ((v.zip w).map fun p => PyData.int (p.1 + p.2)) from congrArg PyData.tuple e3]
  simp [f_plus, b_plus, e2]
def belV (v w : List Int) : Bool := (v.zip w).all fun p => !decide (p.2 < p.1)
theorem below_loop (v w : D) : ∀ (ps : List (Int × Int)) (s2 s3 : Sl), ∃ s2' s3' G, forL (aTup [(aName 2), (aName 3)]) (sIf (tTest' truB (eBin gGt (eVar 2) (eVar 3))) (sRet (eC (.dat (.bool false)))) sNil) yesH (ps.map fun p => D.dat (.tuple [.int p.1, .int p.2])) [.d v, .d w, s2, s3] [] =
    (if (ps.all fun p => !decide (p.2 < p.1)) = true then .nx [.d v, .d w, s2', s3'] [] else .rt (.dat (.bool false)) G)
  | [], s2, s3 => ⟨s2, s3, [], forL_nil trivial⟩
  | p :: ps, s2, s3 => by
    have ha : aTup [aName 2, aName 3] (.dat (.tuple [.int p.1, .int p.2])) [.d v, .d w, s2, s3] [] = some ([.d v, .d w, .d (.dat (.int p.1)), .d (.dat (.int p.2))], []) := by simp
    rw [List.map_cons, List.all_cons]
    by_cases hp : p.2 < p.1
    · refine ⟨s2, s3, [], ?_⟩
      rw [forL_rt (env1 := [.d v, .d w, .d (.dat (.int p.1)), .d (.dat (.int p.2))]) (G1 := []) (w := .dat (.bool false)) (g := []) trivial ha (by simp [hp])]
      simp [hp]
    · obtain ⟨t2, t3, G, ih⟩ := below_loop v w ps (.d (.dat (.int p.1))) (.d (.dat (.int p.2)))
      refine ⟨t2, t3, G, ?_⟩
      rw [forL_nx (env1 := [.d v, .d w, .d (.dat (.int p.1)), .d (.dat (.int p.2))]) (G1 := []) (e := [.d v, .d w, .d (.dat (.int p.1)), .d (.dat (.int p.2))]) (g := []) trivial ha (by simp [hp]), ih]
      simp [hp]
theorem below_ok (q : ErrC) (v w : List Int) (h : v.length ≤ 1000) : ∃ G, f_below q [.dat (V v), .dat (V w)] [] = .ok (.dat (.bool (belV v w))) G := by
  obtain ⟨s2, s3, G, e⟩ := below_loop (.dat (V v)) (.dat (V w)) (v.zip w) .no .no
  have e2 : sFor (srcZip (aCons (eVar 0) (aCons (eVar 1) aNil))) (aTup [(aName 2), (aName 3)]) (sIf (tTest' truB (eBin gGt (eVar 2) (eVar 3))) (sRet (eC (.dat (.bool false)))) sNil) [.d (.dat (V v)), .d (.dat (V w)), .no, .no] [] =
      (if ((v.zip w).all fun p => !decide (p.2 < p.1)) = true then .nx [.d (.dat (V v)), .d (.dat (V w)), s2, s3] [] else .rt (.dat (.bool false)) G) := by
    rw [sFor_ok (xs := (v.zip w).map fun p => D.dat (.tuple [.int p.1, .int p.2])) (chk := yesH) (G1 := [])]
    · exact e
    · have := zip_V v w
      simp at this
      simp [this]
  unfold belV
  by_cases hb : ((v.zip w).all fun p => !decide (p.2 < p.1)) = true
  · rw [if_pos hb] at e2
    exact ⟨[], by rw [hb]; simp [f_below, b_below, e2]⟩
  · rw [if_neg hb] at e2
    exact ⟨G, by rw [Bool.eq_false_iff.mpr hb]; simp [f_below, b_below, e2]⟩
/-- a count of n kinds -/
def natB : PyData → Bool
  | .int i => decide (0 ≤ i)
  | _ => false
def cntB (n : Nat) : PyData → Bool
  | .tuple a => decide (a.length = n) && a.all natB
  | _ => false
theorem count_ok (q : ErrC) (ks : KS) (d : PyData) (hd : ∀ a, d = .tuple a → a.length ≤ 1000) : ∃ G, f_is_count_of q [.dat (KT' ks), .dat d] [] = .ok (.dat (.bool (cntB ks.length d))) G := by
  cases d with
  | tuple a =>
    have hl := hd a rfl
    by_cases hn : a.length = ks.length
    · have e2 : eAllG (srcSeq (eVar 1)) (aName 2) (eAnd tru (eCallA 1 (relCall (f_is_number q)) (aCons (eVar 2) aNil)) (eBin gGe (eVar 2) (eC (.dat (.int 0))))) [2] [.d (.dat (KT' ks)), .d (.dat (.tuple a)), .no] [] = .ok (.dat (.bool (a.all natB))) [] := by
        refine eAllG_dat (chk := yesH) .dat (fun c => [.d (.dat (KT' ks)), .d (.dat (.tuple a)), .d (.dat c)]) natB a ?_ trivial (fun x _ => ⟨rfl, ?_⟩) (by omega)
        · simp
        · have e1 := fun G => call0 (G := G) (is_number_ok q x)
          cases x with
          | int i => simp [e1, isNum, natB]
          | _ => simp [e1, isNum, natB]
      have hz : ((a.length : Int) == (ks.length : Int)) = true := by simp [hn]
      refine ⟨[], ?_⟩
      unfold KT' at e2 ⊢
      simp [f_is_count_of, b_is_count_of, PyData.isTuple, hn, e2, cntB]
    · have hz : ((a.length : Int) == (ks.length : Int)) = false := by simp; omega
      exact ⟨[], by simp [f_is_count_of, b_is_count_of, PyData.isTuple, hz, cntB, hn]⟩
  | _ => exact ⟨[], by simp [f_is_count_of, b_is_count_of, PyData.isTuple, cntB]⟩
theorem cnt_V {v : List Int} {n : Nat} (hn : v.length = n) (h : ∀ x ∈ v, 0 ≤ x) : cntB n (V v) = true := by
  simp only [cntB, List.length_map, hn, decide_true, Bool.true_and, List.all_map]
  exact List.all_eq_true.mpr fun x hx => by simpa [natB] using h x hx
end K01

set_option Elab.async false
set_option linter.all false
set_option maxRecDepth 100000
set_option maxHeartbeats 1000000
namespace K01
open PySem PySem.Spec PyProof.Rows L2 DL
open Classical
/-! ### prices and keys -/
def prV (ks : KS) (v : List Int) : Int := ((v.zip ks).map fun p => p.1 * p.2.2).sum
theorem zip_VK (v : List Int) (ks : KS) : zipF ((v.map PyData.int).map .dat) ((ks.map kE).map .dat) = (v.zip ks).map fun p => D.dat (.tuple [.int p.1, kE p.2]) := by
  unfold zipF
  induction v generalizing ks with
  | nil => rfl
  | cons x v ih =>
    cases ks with
    | nil => rfl
    | cons k ks =>
      simp only [List.map_cons, List.zipWith_cons_cons, List.zip_cons_cons, ih ks]
      rfl
theorem ints_map (l : List Int) : ints? (l.map fun i => D.dat (.int i)) = some l := by
  induction l with
  | nil => rfl
  | cons x l ih => simp [ints?, ih]
theorem price_of_ok (q : ErrC) (ks : KS) (v : List Int) (hk : ∀ k ∈ ks, 1 ≤ k.2 ∧ k.2 ≤ 99) (hv : v.length ≤ 1000) : ∃ G, f_price_of q [.dat (KT' ks), .dat (V v)] [] = .ok (.dat (.int (prV ks v))) G := by
  have e2 : eLc (srcZip (aCons (eVar 1) (aCons (eVar 0) aNil))) (aTup [(aName 2), (aTup [(aName 3), (aName 4)])]) tNo (eBin gMul (eVar 2) (eVar 4)) [2, 3, 4] [.d (.dat (KT' ks)), .d (.dat (V v)), .no, .no, .no] [] = .ok (.ref 0) [.lst (((v.zip ks).map fun p => PyData.int (p.1 * p.2.2)).map .dat)] := by
    refine (eLc_dat (G1 := []) (fun p : Int × Str × Int => .dat (.tuple [.int p.1, kE p.2])) (fun p => [.d (.dat (KT' ks)), .d (.dat (V v)), .d (.dat (.int p.1)), .d (.dat (.str p.2.1)), .d (.dat (.int p.2.2))]) (fun _ => true) (fun p => .int (p.1 * p.2.2)) (v.zip ks) ?_ (fun x hx g => ⟨?_, ?_, fun _ => ?_⟩) ?_).trans ?_
    · have := zip_VK v ks
      simp at this
      simp [this]
    · simp; rfl
    · rfl
    · have := hk x.2 (List.of_mem_zip hx).2
      have hm : mulOk x.1 x.2.2 = true := mulOk_r (by omega)
      simp [hm]
    · rw [List.length_zip]; omega
    · rw [List.filter_eq_self.mpr (fun _ _ => rfl)]; rfl
  have e3 : ints? (((v.zip ks).map fun p => PyData.int (p.1 * p.2.2)).map .dat) = some ((v.zip ks).map fun p => p.1 * p.2.2) := by
    rw [List.map_map]
    have := ints_map ((v.zip ks).map fun p => p.1 * p.2.2)
    rw [List.map_map] at this
    exact this
  refine ⟨[.lst (((v.zip ks).map fun p => PyData.int (p.1 * p.2.2)).map .dat)], ?_⟩
  generalize (((v.zip ks).map fun p => PyData.int (p.1 * p.2.2)).map D.dat) = Y at e2 e3 ⊢
  unfold prV
  unfold KT' V at e2 ⊢
  simp [f_price_of, b_price_of, e2, e3]
theorem price_ok (q : ErrC) {g : PyData} {ks : KS} (h : Gd g ks) (v : List Int) (hn : v.length = ks.length) (h0 : ∀ x ∈ v, 0 ≤ x) : ∃ G, f_price q [.dat g, .dat (V v)] [] = .ok (.dat (.int (prV ks v))) G := by
  have hf := h.few
  have e1 := made_rel q h
  have e2 := fun G => call0 (G := G) (count_ok q ks (V v) (fun a e => by cases e; simp; omega))
  rw [cnt_V hn h0] at e2
  have e3 := fun G => call0 (G := G) (price_of_ok q ks v h.price (by omega))
  obtain ⟨cs, es, e⟩ := h.form
  subst e
  refine ⟨[], ?_⟩
  simp [f_price, b_price, e1, e2, e3]
theorem price_bad (q : ErrC) {g : PyData} {ks : KS} (h : Gd g ks) (d : PyData) (hd : ∀ a, d = .tuple a → a.length ≤ 1000) (hb : cntB ks.length d = false) : ∃ G, f_price q [.dat g, .dat d] [] = .ex q.BadCount (.dat d) G := by
  have e1 := made_rel q h
  have e2 := fun G => call0 (G := G) (count_ok q ks d hd)
  rw [hb] at e2
  obtain ⟨cs, es, e⟩ := h.form
  subst e
  exact ⟨[], by simp [f_price, b_price, e1, e2]⟩
theorem key_ok (q : ErrC) {g : PyData} {ks : KS} (h : Gd g ks) (v : List Int) (hn : v.length = ks.length) (h0 : ∀ x ∈ v, 0 ≤ x) : ∃ G, f_key q [.dat g, .dat (V v)] [] = .ok (.dat (.tuple [.int (prV ks v), V v])) G := by
  have e1 := fun G => call0 (G := G) (price_ok q h v hn h0)
  exact ⟨[], by simp [f_key, b_key, e1]⟩
theorem key_bad (q : ErrC) {g : PyData} {ks : KS} (h : Gd g ks) (d : PyData) (hd : ∀ a, d = .tuple a → a.length ≤ 1000) (hb : cntB ks.length d = false) : ∃ G, f_key q [.dat g, .dat d] [] = .ex q.BadCount (.dat d) G := by
  obtain ⟨G1, e0⟩ := price_bad q h d hd hb
  have e1 := fun G => rel_ex0 (G := G) rfl rfl rfl e0 rfl
  exact ⟨[], by simp [f_key, b_key, e1]⟩
theorem rngD_succ (k : Int) (n : Nat) : rngD k (n + 1) = .dat (.int k) :: rngD (k + 1) n := by
  unfold rngD
  rw [List.range_succ_eq_map, List.map_cons, List.map_map]
  congr 1
  · simp
  · apply List.map_congr_left
    intro i _
    simp
    omega
/-- the law's own price, step by step -/
theorem due_loop (cs es : List PyData) (ks : KS) (v : List Int) (hk : ∀ k ∈ ks, 1 ≤ k.2 ∧ k.2 ≤ 99) (hn : v.length = ks.length) : ∀ (n : Nat) (i : Nat) (t : Int) (s3 : Sl), i + n = v.length → ∃ s3',
    forL (aName 3) (sAsg (eBin gAdd (eVar 2) (eBin gMul (eBin gIx (eVar 1) (eVar 3)) (eBin gIx (eBin gIx (eBin gIx (eVar 0) (eC (.dat (.int 1)))) (eVar 3)) (eC (.dat (.int 1)))))) (aName 2)) yesH (rngD i n) [.d (.dat (.tuple [.tuple cs, KT' ks, .tuple es])), .d (.dat (V v)), .d (.dat (.int t)), s3] [] =
      .nx [.d (.dat (.tuple [.tuple cs, KT' ks, .tuple es])), .d (.dat (V v)), .d (.dat (.int (t + (((v.zip ks).drop i).map fun p => p.1 * p.2.2).sum))), s3'] []
  | 0, i, t, s3, hi => ⟨s3, by
      have : (v.zip ks).drop i = [] := List.drop_eq_nil_of_le (by rw [List.length_zip]; omega)
      rw [show rngD (i : Int) 0 = [] from rfl, forL_nil trivial, this]
      simp⟩
  | n + 1, i, t, s3, hi => by
    have hiv : i < v.length := by omega
    have hik : i < ks.length := by omega
    have hzl : i < (v.zip ks).length := by rw [List.length_zip]; omega
    have hd : (v.zip ks).drop i = (v[i], ks[i]) :: (v.zip ks).drop (i + 1) := by
      rw [List.drop_eq_getElem_cons hzl]
      simp
    obtain ⟨t3, ih⟩ := due_loop cs es ks v hk hn n (i + 1) (t + v[i] * (ks[i]).2) (.d (.dat (.int i))) (by omega)
    refine ⟨t3, ?_⟩
    have hp := hk ks[i] (List.getElem_mem hik)
    have hm : mulOk v[i] (ks[i]).2 = true := mulOk_r (by omega)
    have r : rngD (i : Int) (n + 1) = .dat (.int i) :: rngD ((i + 1 : Nat) : Int) n := rngD_succ i n
    have a1 : atI (v.map PyData.int) (i : Int) = some (.int v[i]) := by rw [DL.atI_nat]; simp [hiv]
    have a2 : atI (ks.map kE) (i : Int) = some (kE ks[i]) := by rw [DL.atI_nat]; simp [hik]
    rw [r, forL_nx (env1 := [.d (.dat (.tuple [.tuple cs, KT' ks, .tuple es])), .d (.dat (V v)), .d (.dat (.int t)), .d (.dat (.int i))]) (G1 := []) (e := [.d (.dat (.tuple [.tuple cs, KT' ks, .tuple es])), .d (.dat (V v)), .d (.dat (.int (t + v[i] * (ks[i]).2))), .d (.dat (.int i))]) (g := []) trivial rfl ?_, ih, hd]
    · simp [Int.add_assoc]
    · unfold kE at a2
      simp [a1, a2, hm]
theorem due_ok (q : ErrC) {g : PyData} {ks : KS} (h : Gd g ks) (v : List Int) (hn : v.length = ks.length) : ∃ G, f__law_due_price q [.dat g, .dat (V v)] [] = .ok (.dat (.int (prV ks v))) G := by
  have hf := h.few
  obtain ⟨cs, es, e⟩ := h.form
  subst e
  obtain ⟨s3, e1⟩ := due_loop cs es ks v h.price hn v.length 0 0 .no (by omega)
  have hok : okR (v.length : Int) := by unfold okR; omega
  have e2 : sFor (srcRange1 (aCons (eArgs gLen (aCons (eVar 1) aNil)) aNil)) (aName 3) (sAsg (eBin gAdd (eVar 2) (eBin gMul (eBin gIx (eVar 1) (eVar 3)) (eBin gIx (eBin gIx (eBin gIx (eVar 0) (eC (.dat (.int 1)))) (eVar 3)) (eC (.dat (.int 1)))))) (aName 2)) [.d (.dat (.tuple [.tuple cs, KT' ks, .tuple es])), .d (.dat (V v)), .d (.dat (.int 0)), .no] [] =
      .nx [.d (.dat (.tuple [.tuple cs, KT' ks, .tuple es])), .d (.dat (V v)), .d (.dat (.int (prV ks v))), s3] [] := by
    rw [sFor_ok (xs := rngD 0 v.length) (chk := yesH) (G1 := [])]
    · refine (show _ = _ from e1).trans ?_
      unfold prV
      simp
    · simp [hok]
  exact ⟨[], by simp [f__law_due_price, b__law_due_price, e2]⟩
end K01

set_option Elab.async false
set_option linter.all false
set_option maxRecDepth 100000
set_option maxHeartbeats 1000000
namespace K01
open PySem PySem.Spec PyProof.Rows L2 DL
open Classical
/-! ### what the law asks of one count, of two -/
abbrev BB : Int := 10 ^ 62
structure Cnt (ks : KS) (v : List Int) : Prop where
  len : v.length = ks.length
  nat : ∀ x ∈ v, 0 ≤ x
  top : ∀ x ∈ v, x ≤ BB
theorem Cnt.big {ks : KS} {v : List Int} (h : Cnt ks v) : ∀ x ∈ v, Big x := fun x hx => by
  have h1 := h.nat x hx
  have h2 := h.top x hx
  unfold Big
  unfold BB at h2
  have h3 : (10 : Int) ^ 62 < 10 ^ 80 := by decide +kernel
  omega
theorem BB_pos : (0 : Int) ≤ BB := by decide +kernel
theorem Cnt.in2 {ks : KS} {v : List Int} (h : Cnt ks v) : ∀ x ∈ v, 0 ≤ x ∧ x ≤ 2 * BB := fun x hx => by
  have h1 := h.nat x hx
  have h2 := h.top x hx
  have h3 := BB_pos
  omega
theorem prV_cons (k : Str × Int) (ks : KS) (x : Int) (v : List Int) : prV (k :: ks) (x :: v) = x * k.2 + prV ks v := by
  unfold prV
  simp
theorem prV_nil (v : List Int) : prV [] v = 0 := by unfold prV; simp
theorem prV_nil2 (ks : KS) : prV ks [] = 0 := by unfold prV; simp
theorem prV_bound {M : Int} (hM : 0 ≤ M) : ∀ (ks : KS) (v : List Int), (∀ k ∈ ks, 1 ≤ k.2 ∧ k.2 ≤ 99) → (∀ x ∈ v, 0 ≤ x ∧ x ≤ M) → 0 ≤ prV ks v ∧ prV ks v ≤ ks.length * (99 * M)
  | [], v, _, _ => by rw [prV_nil]; simp
  | k :: ks, [], _, _ => by
    rw [prV_nil2]
    refine ⟨by omega, ?_⟩
    exact Int.mul_nonneg (by omega) (by omega)
  | k :: ks, x :: v, hk, hv => by
    obtain ⟨h1, h2⟩ := prV_bound hM ks v (fun y hy => hk y (List.mem_cons_of_mem _ hy)) fun y hy => hv y (List.mem_cons_of_mem _ hy)
    obtain ⟨k1, k2⟩ := hk k List.mem_cons_self
    obtain ⟨x1, x2⟩ := hv x List.mem_cons_self
    rw [prV_cons]
    have a1 : 0 ≤ x * k.2 := Int.mul_nonneg x1 (by omega)
    have a2 : x * k.2 ≤ M * 99 := Int.mul_le_mul x2 k2 (by omega) hM
    refine ⟨by omega, ?_⟩
    rw [List.length_cons]
    have e : ((ks.length + 1 : Nat) : Int) * (99 * M) = ks.length * (99 * M) + 99 * M := by
      rw [Int.natCast_add, Int.add_mul]
      simp
    omega
theorem pr_big {g : PyData} {ks : KS} (h : Gd g ks) {v : List Int} (hv : ∀ x ∈ v, 0 ≤ x ∧ x ≤ 2 * BB) : Big (prV ks v) := by
  obtain ⟨h1, h2⟩ := prV_bound (M := 2 * BB) (by decide +kernel) ks v h.price hv
  have h3 : (ks.length : Int) * (99 * (2 * BB)) ≤ 3 * (99 * (2 * BB)) := Int.mul_le_mul_of_nonneg_right (by have := h.few; omega) (by decide +kernel)
  have h4 : (3 : Int) * (99 * (2 * BB)) < 10 ^ 80 := by decide +kernel
  unfold Big
  omega
theorem addV_nought : ∀ {ks : KS} {v : List Int}, v.length = ks.length → addV v (ks.map fun _ => 0) = v
  | [], [], _ => rfl
  | [], _ :: _, h => by cases h
  | _ :: _, [], h => by cases h
  | k :: ks, x :: v, h => by
    have := addV_nought (ks := ks) (v := v) (by simpa using h)
    unfold addV at this ⊢
    simp [this]
theorem belV_self : ∀ v : List Int, belV v v = true
  | [] => rfl
  | x :: v => by
    have := belV_self v
    unfold belV at this ⊢
    simp only [List.zip_cons_cons, List.all_cons, this]
    simp
theorem belV_nought : ∀ {ks : KS} {v : List Int}, (∀ x ∈ v, 0 ≤ x) → belV (ks.map fun _ => 0) v = true
  | [], _, _ => by simp [belV]
  | _ :: _, [], _ => by simp [belV]
  | k :: ks, x :: v, h => by
    have := belV_nought (ks := ks) (v := v) fun y hy => h y (List.mem_cons_of_mem _ hy)
    have hx := h x List.mem_cons_self
    unfold belV at this ⊢
    simp only [List.map_cons, List.zip_cons_cons, List.all_cons, this]
    simp [hx]
theorem repL_nought (n : Nat) : repL [PyData.int 0] (n : Int) = List.replicate n (.int 0) := by
  unfold repL
  rw [Int.toNat_natCast]
  induction n with
  | zero => rfl
  | succ n ih => rw [List.replicate_succ, List.flatten_cons, ih]; rfl
theorem V_nought (ks : KS) : V (ks.map fun _ => 0) = .tuple (List.replicate ks.length (.int 0)) := by
  unfold V
  rw [List.map_map]
  congr 1
  induction ks with
  | nil => rfl
  | cons k ks ih => rw [List.map_cons, List.length_cons, List.replicate_succ, ih]; rfl
theorem one_ok' (q : ErrC) {g : PyData} {ks : KS} (h : Gd g ks) {v : List Int} (hv : Cnt ks v) : ∃ G, f__law_one_right q [.dat g, .dat (V v)] [] = .ok (.dat (.bool true)) G := by
  have hf := h.few
  have hl := hv.len
  have e1 := fun G => call0 (G := G) (due_ok q h v hl)
  have e2 := fun G => call0 (G := G) (price_ok q h v hl hv.nat)
  have e3 := fun G => call0 (G := G) (key_ok q h v hl hv.nat)
  have e4 := fun G => call0 (G := G) (nought_ok q h)
  have e5 := fun G => call0 (G := G) (plus_ok q v (ks.map fun _ => 0) (by omega))
  rw [addV_nought hl] at e5
  have e6 := fun G => call0 (G := G) (below_ok q v v (by omega))
  rw [belV_self] at e6
  have e7 := fun G => call0 (G := G) (below_ok q (ks.map fun _ => 0) v (by rw [List.length_map]; omega))
  rw [belV_nought hv.nat] at e7
  have r1 := int_shown (pr_big h hv.in2)
  have r2 := key_shown (pr_big h hv.in2) hv.big (by omega)
  have r3 := V_shown hv.big (by omega)
  have r4 := V_shown (v := ks.map fun _ => (0 : Int)) (fun x hx => by
    obtain ⟨_, _, rfl⟩ := List.mem_map.mp hx
    unfold Big
    decide +kernel) (by rw [List.length_map]; omega)
  have e8 : ∀ G, gMul (.dat (.tuple [.int 0])) (.dat (.int ks.length)) G = some (.dat (V (ks.map fun _ => 0)), G) := fun G => by
    rw [gMul_tup, if_pos (by simp; omega), repL_nought, V_nought]
  obtain ⟨cs, es, e⟩ := h.form
  generalize V (ks.map fun _ => (0 : Int)) = Z at *
  generalize V v = vd at *
  have e9 : ∀ G, gIx (.dat g) (.dat (.int 1)) G = some (.dat (KT' ks), G) := fun G => by subst e; simp
  have e10 : ∀ G, gLen [.dat (KT' ks)] G = some (.dat (.int ks.length), G) := fun G => by simp
  generalize KT' ks = kd at *
  exact ⟨[], by simp [f__law_one_right, b__law_one_right, e1, e2, e3, e4, e5, e6, e7, e8, e9, e10, r1, r2, r3, r4, -gMul_tup, -gIx_tup, -gLen_one]⟩
end K01

set_option Elab.async false
set_option linter.all false
set_option maxRecDepth 100000
set_option maxHeartbeats 1000000
namespace K01
open PySem PySem.Spec PyProof.Rows L2 DL
open Classical
/-! ### two counts and a third one -/
theorem addV_comm : ∀ v w : List Int, addV v w = addV w v
  | [], [] => rfl
  | [], _ :: _ => rfl
  | _ :: _, [] => rfl
  | x :: v, y :: w => by
    have := addV_comm v w
    unfold addV at this ⊢
    simp only [List.zipWith_cons_cons, this, Int.add_comm]
theorem addV_len (v w : List Int) : (addV v w).length = min v.length w.length := by unfold addV; simp
theorem addV_mem {P : Int → Prop} (hP : ∀ x y, P x → P y → P (x + y)) : ∀ {v w : List Int}, (∀ x ∈ v, P x) → (∀ x ∈ w, P x) → ∀ x ∈ addV v w, P x
  | [], _, _, _ => fun x hx => by simp [addV] at hx
  | _ :: _, [], _, _ => fun x hx => by simp [addV] at hx
  | x :: v, y :: w, h1, h2 => fun z hz => by
    have hz : z ∈ (x + y) :: addV v w := hz
    rcases List.mem_cons.mp hz with rfl | hz
    · exact hP _ _ (h1 x List.mem_cons_self) (h2 y List.mem_cons_self)
    · exact addV_mem hP (fun a ha => h1 a (List.mem_cons_of_mem _ ha)) (fun a ha => h2 a (List.mem_cons_of_mem _ ha)) z hz
theorem addV_bnd {v w : List Int} {ks : KS} (h1 : Cnt ks v) (h2 : Cnt ks w) : ∀ x ∈ addV v w, 0 ≤ x ∧ x ≤ 2 * BB := fun x hx => by
  have key : ∀ {v w : List Int}, (∀ x ∈ v, 0 ≤ x ∧ x ≤ BB) → (∀ x ∈ w, 0 ≤ x ∧ x ≤ BB) → ∀ x ∈ addV v w, 0 ≤ x ∧ x ≤ 2 * BB := by
    intro v
    induction v with
    | nil => intro w _ _ x hx; simp [addV] at hx
    | cons a v ih =>
      intro w h1 h2 z hz
      cases w with
      | nil => simp [addV] at hz
      | cons b w =>
        have hz : z ∈ (a + b) :: addV v w := hz
        rcases List.mem_cons.mp hz with rfl | hz
        · have x1 := h1 a List.mem_cons_self
          have x2 := h2 b List.mem_cons_self
          omega
        · exact ih (fun a ha => h1 a (List.mem_cons_of_mem _ ha)) (fun a ha => h2 a (List.mem_cons_of_mem _ ha)) z hz
  exact key (fun x hx => ⟨h1.nat x hx, h1.top x hx⟩) (fun x hx => ⟨h2.nat x hx, h2.top x hx⟩) x hx
theorem belV_add : ∀ {v w : List Int}, (∀ x ∈ w, 0 ≤ x) → belV v (addV v w) = true
  | [], _, _ => by simp [belV]
  | _ :: _, [], _ => by simp [belV, addV]
  | x :: v, y :: w, h => by
    have := belV_add (v := v) (w := w) fun a ha => h a (List.mem_cons_of_mem _ ha)
    have hy := h y List.mem_cons_self
    unfold belV addV at this ⊢
    simp only [List.zipWith_cons_cons, List.zip_cons_cons, List.all_cons, this, Bool.and_true]
    simp
    omega
theorem belV_cons {x y : Int} {v w : List Int} : belV (x :: v) (y :: w) = (!decide (y < x) && belV v w) := rfl
theorem pr_add : ∀ {ks : KS} {v u : List Int}, v.length = ks.length → u.length = ks.length → prV ks (addV v u) = prV ks v + prV ks u
  | [], v, u, _, _ => by rw [prV_nil, prV_nil, prV_nil]; rfl
  | k :: ks, [], _, h, _ => by cases h
  | k :: ks, _ :: _, [], _, h => by cases h
  | k :: ks, x :: v, y :: u, h1, h2 => by
    have := pr_add (ks := ks) (v := v) (u := u) (by simpa using h1) (by simpa using h2)
    show prV (k :: ks) ((x + y) :: addV v u) = _
    rw [prV_cons, prV_cons, prV_cons, this, Int.add_mul]
    omega
theorem lex_add : ∀ {v w u : List Int}, v.length = w.length → u.length = v.length → lexV (addV v u) (addV w u) = lexV v w
  | [], [], _, _, _ => by simp [addV, lexV]
  | [], _ :: _, _, h, _ => by cases h
  | _ :: _, [], _, h, _ => by cases h
  | _ :: _, _ :: _, [], _, h => by cases h
  | x :: v, y :: w, z :: u, h1, h2 => by
    have := lex_add (v := v) (w := w) (u := u) (by simpa using h1) (by simpa using h2)
    show lexV ((x + z) :: addV v u) ((y + z) :: addV w u) = _
    simp only [lexV, this]
    by_cases e : x = y
    · subst e; simp
    · rw [if_neg e, if_neg (by omega)]
      by_cases h : x < y
      · rw [decide_eq_true h, decide_eq_true (by omega)]
      · rw [decide_eq_false h, decide_eq_false (by omega)]
theorem lex_irr : ∀ v : List Int, lexV v v = false
  | [] => rfl
  | x :: v => by simp [lexV, lex_irr v]
theorem bel_pr : ∀ {ks : KS} {v w : List Int}, (∀ k ∈ ks, 1 ≤ k.2) → v.length = ks.length → w.length = ks.length → belV v w = true → prV ks v ≤ prV ks w ∧ (prV ks v = prV ks w → v = w)
  | [], [], [], _, _, _, _ => by simp [prV_nil]
  | [], _ :: _, _, _, h, _, _ => by cases h
  | [], [], _ :: _, _, _, h, _ => by cases h
  | _ :: _, [], _, _, h, _, _ => by cases h
  | _ :: _, _ :: _, [], _, _, h, _ => by cases h
  | k :: ks, x :: v, y :: w, hk, h1, h2, hb => by
    rw [belV_cons, Bool.and_eq_true] at hb
    obtain ⟨i1, i2⟩ := bel_pr (ks := ks) (v := v) (w := w) (fun a ha => hk a (List.mem_cons_of_mem _ ha)) (by simpa using h1) (by simpa using h2) hb.2
    have hxy : x ≤ y := by
      have := hb.1
      simp at this
      exact this
    have k1 := hk k List.mem_cons_self
    rw [prV_cons, prV_cons]
    have m := Int.mul_le_mul_of_nonneg_right hxy (show 0 ≤ k.2 by omega)
    refine ⟨by omega, fun e => ?_⟩
    have e1 : x * k.2 = y * k.2 := by omega
    have e2 : x = y := Int.eq_of_mul_eq_mul_right (by omega) e1
    rw [e2, i2 (by omega)]
theorem key_bel {ks : KS} {v w : List Int} (hk : ∀ k ∈ ks, 1 ≤ k.2) (h1 : v.length = ks.length) (h2 : w.length = ks.length) (hb : belV v w = true) : keyLt (prV ks w) w (prV ks v) v = false := by
  obtain ⟨i1, i2⟩ := bel_pr hk h1 h2 hb
  unfold keyLt
  split
  · rename_i e
    have := i2 e.symm
    subst this
    exact lex_irr _
  · exact decide_eq_false (by omega)
theorem key_add {ks : KS} {v w u : List Int} (h1 : v.length = ks.length) (h2 : w.length = ks.length) (h3 : u.length = ks.length) :
    keyLt (prV ks (addV v u)) (addV v u) (prV ks (addV w u)) (addV w u) = keyLt (prV ks v) v (prV ks w) w := by
  unfold keyLt
  rw [pr_add h1 h3, pr_add h2 h3, lex_add (by omega) (by omega)]
  by_cases e : prV ks v = prV ks w
  · rw [if_pos e, if_pos (by omega)]
  · rw [if_neg e, if_neg (by omega)]
    by_cases h : prV ks v < prV ks w
    · rw [decide_eq_true h, decide_eq_true (by omega)]
    · rw [decide_eq_false h, decide_eq_false (by omega)]
theorem rng_add : ∀ {v w : List Int}, v.length = w.length → (List.range v.length).map (fun i => PyData.int (v.getD i 0 + w.getD i 0)) = (addV v w).map .int
  | [], [], _ => rfl
  | [], _ :: _, h => by cases h
  | _ :: _, [], h => by cases h
  | x :: v, y :: w, h => by
    have := rng_add (v := v) (w := w) (by simpa using h)
    show _ = PyData.int (x + y) :: (addV v w).map .int
    rw [List.length_cons, List.range_succ_eq_map, List.map_cons, List.map_map, ← this]
    rfl
theorem rng_bel : ∀ {v w : List Int} (f : Nat → Nat), v.length = w.length → ((List.range v.length).filter (fun i => decide (w.getD i 0 < v.getD i 0))).isEmpty = belV v w := fun {v w} _ h => by
  unfold belV
  rw [Bool.eq_iff_iff, List.isEmpty_iff, List.filter_eq_nil_iff, List.all_eq_true]
  constructor
  · intro hh p hp
    obtain ⟨i, hi, e⟩ := List.getElem_of_mem hp
    rw [List.length_zip] at hi
    have := hh i (List.mem_range.mpr (by omega))
    rw [List.getElem_zip] at e
    subst e
    rw [List.getD_eq_getElem?_getD, List.getD_eq_getElem?_getD, List.getElem?_eq_getElem (by omega), List.getElem?_eq_getElem (by omega)] at this
    simpa using this
  · intro hh i hi
    have hi := List.mem_range.mp hi
    have := hh (v[i], w[i]) (by
      refine List.mem_of_getElem? (i := i) ?_
      rw [List.getElem?_zip_eq_some]
      exact ⟨List.getElem?_eq_getElem hi, List.getElem?_eq_getElem (by omega)⟩)
    rw [List.getD_eq_getElem?_getD, List.getD_eq_getElem?_getD, List.getElem?_eq_getElem (by omega), List.getElem?_eq_getElem (by omega)]
    simpa using this
end K01

set_option Elab.async false
set_option linter.all false
set_option maxRecDepth 100000
set_option maxHeartbeats 1000000
namespace K01
open PySem PySem.Spec PyProof.Rows L2 DL
open Classical
theorem rng0 (n : Nat) : rngD 0 n = (List.range n).map fun i => D.dat (.int ((i : Nat) : Int)) := by
  unfold rngD
  simp
theorem both_lc {v w : List Int} (hl : v.length = w.length) (hn : v.length ≤ 1000) (g u : D) (s4 s5 s6 s7 s8 : Sl) (G : Hh) :
    eLc (srcRange1 (aCons (eArgs gLen (aCons (eVar 1) aNil)) aNil)) (aName 5) tNo (eBin gAdd (eBin gIx (eVar 1) (eVar 5)) (eBin gIx (eVar 2) (eVar 5))) [5] [.d g, .d (.dat (V v)), .d (.dat (V w)), .d u, s4, s5, s6, s7, s8] G =
      .ok (.ref G.length) (G ++ [.lst (((addV v w).map PyData.int).map .dat)]) := by
  have hok : okR (v.length : Int) := by unfold okR; omega
  refine (eLc_dat (G1 := G) (fun i : Nat => .dat (.int (i : Nat))) (fun i => [.d g, .d (.dat (V v)), .d (.dat (V w)), .d u, s4.cut, .d (.dat (.int (i : Nat))), s6.cut, s7.cut, s8.cut]) (fun _ => true) (fun i => .int (v.getD i 0 + w.getD i 0)) (List.range v.length) ?_ (fun i hi g => ⟨rfl, rfl, fun _ => ?_⟩) ?_).trans ?_
  · rw [← rng0]
    simp [hok]
  · have hi := List.mem_range.mp hi
    have a1 : atI (v.map PyData.int) (i : Int) = some (.int (v.getD i 0)) := by rw [DL.atI_nat]; simp [hi]
    have a2 : atI (w.map PyData.int) (i : Int) = some (.int (w.getD i 0)) := by rw [DL.atI_nat]; simp [show i < w.length by omega]
    rw [List.getD_eq_getElem?_getD] at a1 a2
    simp [a1, a2]
  · rw [List.length_range]; omega
  · rw [List.filter_eq_self.mpr (fun _ _ => rfl), rng_add hl]
theorem bel_lc0 {v w : List Int} (hl : v.length = w.length) (hn : v.length ≤ 1000) (g u : D) (s4 s5 s6 s7 s8 : Sl) (G : Hh) : eLc (srcRange1 (aCons (eArgs gLen (aCons (eVar 1) aNil)) aNil)) (aName 5) (tTest' truB (eBin gGt (eBin gIx (eVar 1) (eVar 5)) (eBin gIx (eVar 2) (eVar 5)))) (eVar 5) [5] [.d g, .d (.dat (V v)), .d (.dat (V w)), .d u, s4, s5, s6, s7, s8] G =
      .ok (.ref G.length) (G ++ [.lst ((((List.range v.length).filter (fun i => decide (w.getD i 0 < v.getD i 0))).map fun i => PyData.int ((i : Nat) : Int)).map .dat)]) := by
  have hok : okR (v.length : Int) := by unfold okR; omega
  refine eLc_dat (G1 := G) (fun i : Nat => .dat (.int (i : Nat))) (fun i => [.d g, .d (.dat (V v)), .d (.dat (V w)), .d u, s4.cut, .d (.dat (.int (i : Nat))), s6.cut, s7.cut, s8.cut]) (fun i => decide (w.getD i 0 < v.getD i 0)) (fun i => .int (i : Nat)) (List.range v.length) ?_ (fun i hi g => ⟨rfl, ?_, fun _ => ?_⟩) ?_
  · rw [← rng0]
    simp [hok]
  · have hi := List.mem_range.mp hi
    have a1 : atI (v.map PyData.int) (i : Int) = some (.int (v.getD i 0)) := by rw [DL.atI_nat]; simp [hi]
    have a2 : atI (w.map PyData.int) (i : Int) = some (.int (w.getD i 0)) := by rw [DL.atI_nat]; simp [show i < w.length by omega]
    rw [List.getD_eq_getElem?_getD] at a1 a2
    simp [a1, a2]
  · simp
  · rw [List.length_range]; omega
theorem eqn_tail {G : Hh} (a : List PyData) (X : ES) (env : Env') (h : X env G = .ok (.ref G.length) (G ++ [.lst (a.map .dat)])) : eBin gEq X (eArgs gLstD aNil) env G = .ok (.dat (.bool a.isEmpty)) (G ++ [.lst (a.map .dat)] ++ [.lst []]) := by
  have e3 : gEq (.ref G.length) (.ref (G.length + 1)) (G ++ [.lst (a.map .dat)] ++ [.lst []]) = some (.dat (.bool a.isEmpty), G ++ [.lst (a.map .dat)] ++ [.lst []]) := by
    refine eq_nil (xs := a.map .dat) ?_ dats_map ?_
    · rw [List.getElem?_append_left (by rw [List.length_append]; exact Nat.lt_succ_self _), List.getElem?_append_right (Nat.le_refl _), Nat.sub_self]
      rfl
    · rw [List.getElem?_append_right (by rw [List.length_append]; exact Nat.le_refl _), List.length_append]
      rw [show G.length + 1 - (G.length + [MO.lst (a.map .dat)].length) = 0 from Nat.sub_self _]
      rfl
  generalize MO.lst (a.map D.dat) = M at *
  have e4 : gLstD [] (G ++ [M]) = some (.ref (G.length + 1), G ++ [M] ++ [.lst []]) := by
    rw [gLstD_eq, if_pos (show ([] : List D).length ≤ 100000 from Nat.zero_le _), List.length_append]
    rfl
  rw [e_eBin]
  unfold eThen
  rw [h]
  dsimp only
  rw [e_eArgs, e_aNil]
  dsimp only
  rw [e4]
  dsimp only [RE.of]
  rw [e3]
theorem bel_lc {v w : List Int} (hl : v.length = w.length) (hn : v.length ≤ 1000) (g u : D) (s4 s5 s6 s7 s8 : Sl) (G : Hh) : ∃ Y G2,
    eBin gEq (eLc (srcRange1 (aCons (eArgs gLen (aCons (eVar 1) aNil)) aNil)) (aName 5) (tTest' truB (eBin gGt (eBin gIx (eVar 1) (eVar 5)) (eBin gIx (eVar 2) (eVar 5)))) (eVar 5) [5]) (eArgs gLstD aNil) [.d g, .d (.dat (V v)), .d (.dat (V w)), .d u, s4, s5, s6, s7, s8] G =
      .ok (.dat (.bool (belV v w))) (G ++ [.lst Y] ++ G2) := by
  have hok : okR (v.length : Int) := by unfold okR; omega
  have e1 := bel_lc0 hl hn g u s4 s5 s6 s7 s8 G
  have e2 := rng_bel id hl
  generalize hA : (List.range v.length).filter (fun i => decide (w.getD i 0 < v.getD i 0)) = A at e1 e2
  have e4 : (A.map fun i => PyData.int ((i : Nat) : Int)).isEmpty = belV v w := by rw [← e2]; cases A <;> rfl
  have e3 := eqn_tail (G := G) (A.map fun i => PyData.int ((i : Nat) : Int))
  rw [e4] at e3
  generalize belV v w = B at *
  generalize (eLc (srcRange1 (aCons (eArgs gLen (aCons (eVar 1) aNil)) aNil)) (aName 5) (tTest' truB (eBin gGt (eBin gIx (eVar 1) (eVar 5)) (eBin gIx (eVar 2) (eVar 5)))) (eVar 5) [5]) = X at *
  exact ⟨_, [.lst []], e3 X _ e1⟩
theorem eqv_bb {a b : Bool} : PyData.eqv (.bool a) (.bool b) = (a == b) := by simp [PyData.eqv]
theorem gEq_bb {a b : Bool} {G : Hh} : gEq (.dat (.bool a)) (.dat (.bool b)) G = some (.dat (.bool (a == b)), G) := by rw [gEq_dat, eqv_bb, if_pos (by simp)]
theorem gNe_bb {a b : Bool} {G : Hh} : gNe (.dat (.bool a)) (.dat (.bool b)) G = some (.dat (.bool (!(a == b))), G) := by rw [gNe_dat, eqv_bb, if_pos (by simp)]
theorem gNe_ss {a b : Str} {G : Hh} : gNe (.dat (.str a)) (.dat (.str b)) G = some (.dat (.bool (!(a == b))), G) := by rw [gNe_dat, eqv_ss, if_pos (by simp)]
theorem gEq_VV {v w : List Int} {G : Hh} : gEq (.dat (V v)) (.dat (V w)) G = some (.dat (.bool (decide (v = w))), G) := by rw [gEq_dat, eqv_VV, if_pos (by rw [depth_V]; omega)]
theorem gEq_key {p p' : Int} {v w : List Int} {G : Hh} : gEq (.dat (.tuple [.int p, V v])) (.dat (.tuple [.int p', V w])) G = some (.dat (.bool (decide (p = p') && decide (v = w))), G) := by rw [gEq_dat, eqv_key, if_pos (by rw [depth_key]; omega)]
theorem two_ok (q : ErrC) {g : PyData} {ks : KS} (h : Gd g ks) {v w u : List Int} (hv : Cnt ks v) (hw : Cnt ks w) (hu : Cnt ks u) : ∃ G, f__law_two_right q [.dat g, .dat (V v), .dat (V w), .dat (V u)] [] = .ok (.dat (.bool true)) G := by
  have hf := h.few
  have l1 := hv.len
  have l2 := hw.len
  have l3 := hu.len
  have hvw : v.length = w.length := by omega
  have b1 := both_lc hvw (by omega) (.dat g) (.dat (V u)) .no .no .no .no .no []
  obtain ⟨Y, G2, b2⟩ := bel_lc hvw (by omega) (.dat g) (.dat (V u)) (.d (.dat (V (addV v w)))) .no .no .no .no [.lst (((addV v w).map PyData.int).map .dat)]
  have e1 := fun G => call0 (G := G) (plus_ok q v w (by omega))
  have e2 := fun G => call0 (G := G) (plus_ok q w v (by omega))
  rw [addV_comm w v] at e2
  have e3 := fun G => call0 (G := G) (below_ok q v w (by omega))
  have e4 := fun G => call0 (G := G) (below_ok q v (addV v w) (by omega))
  rw [belV_add hw.nat] at e4
  have e5 := fun G => call0 (G := G) (key_ok q h v l1 hv.nat)
  have e6 := fun G => call0 (G := G) (key_ok q h w l2 hw.nat)
  have e7 := fun G => call0 (G := G) (plus_ok q v u (by omega))
  have e8 := fun G => call0 (G := G) (plus_ok q w u (by omega))
  have e9 := fun G => call0 (G := G) (key_ok q h (addV v u) (by rw [addV_len]; omega) fun x hx => (addV_bnd hv hu x hx).1)
  have e10 := fun G => call0 (G := G) (key_ok q h (addV w u) (by rw [addV_len]; omega) fun x hx => (addV_bnd hw hu x hx).1)
  have r1 := V_shown (v := addV v w) (fun x hx => by
    have := addV_bnd hv hw x hx
    have h4 : 2 * BB < 10 ^ 80 := by decide +kernel
    unfold Big
    omega) (by rw [addV_len]; omega)
  have r2 := hbool (belV v w)
  have m1 := key_bel (ks := ks) (v := v) (w := w) (fun k hk => (h.price k hk).1) l1 l2
  have m2 := key_add (ks := ks) (v := v) (w := w) (u := u) l1 l2 l3
  have m3 : (decide (prV ks v = prV ks w) && decide (v = w)) = decide (v = w) := by
    by_cases e : v = w
    · subst e; simp
    · simp [e]
  have k1 := fun G => gGt_key (p := prV ks v) (p' := prV ks w) (G := G) hvw
  have k2 := fun G => gLt_key (p := prV ks v) (p' := prV ks w) (G := G) hvw
  have k3 := fun G => gLt_key (p := prV ks (addV v u)) (p' := prV ks (addV w u)) (v := addV v u) (w := addV w u) (G := G) (by rw [addV_len, addV_len]; omega)
  rw [m2] at k3
  have k4 := fun G => gEq_key (p := prV ks v) (p' := prV ks w) (v := v) (w := w) (G := G)
  have k5 := fun G => gEq_VV (v := v) (w := w) (G := G)
  have k6 : ∀ G, gTuple [.ref 0] (.lst (((addV v w).map PyData.int).map .dat) :: G) = some (.dat (V (addV v w)), .lst (((addV v w).map PyData.int).map .dat) :: G) := fun G => by
    simp [gTuple_ref, -List.map_map]
  simp only [m3] at k4
  unfold f__law_two_right b__law_two_right
  generalize eLc (srcRange1 (aCons (eArgs gLen (aCons (eVar 1) aNil)) aNil)) (aName 5) tNo (eBin gAdd (eBin gIx (eVar 1) (eVar 5)) (eBin gIx (eVar 2) (eVar 5))) [5] = X1 at b1 ⊢
  generalize eBin gEq (eLc (srcRange1 (aCons (eArgs gLen (aCons (eVar 1) aNil)) aNil)) (aName 5) (tTest' truB (eBin gGt (eBin gIx (eVar 1) (eVar 5)) (eBin gIx (eVar 2) (eVar 5)))) (eVar 5) [5]) (eArgs gLstD aNil) = X2 at b2 ⊢
  generalize (MO.lst (((addV v w).map PyData.int).map .dat)) = M1 at *
  generalize V (addV v w) = Vvw at *
  generalize hk1 : PyData.tuple [.int (prV ks v), V v] = Kv at *
  generalize hk2 : PyData.tuple [.int (prV ks w), V w] = Kw at *
  generalize hk3 : PyData.tuple [.int (prV ks (addV v u)), V (addV v u)] = Kvu at *
  generalize hk4 : PyData.tuple [.int (prV ks (addV w u)), V (addV w u)] = Kwu at *
  generalize V (addV v u) = Vvu at *
  generalize V (addV w u) = Vwu at *
  generalize V v = Vv at *
  generalize V w = Vw at *
  generalize V u = Vu at *
  generalize keyLt (prV ks v) v (prV ks w) w = B1 at *
  generalize keyLt (prV ks w) w (prV ks v) v = B2 at *
  generalize decide (v = w) = B3 at *
  generalize belV v w = B4 at *
  refine ⟨[M1, .lst Y] ++ G2, ?_⟩
  have b1' : X1 [.d (.dat g), .d (.dat Vv), .d (.dat Vw), .d (.dat Vu), .no, .no, .no, .no, .no] [] = .ok (.ref 0) [M1] := b1
  have b2' : X2 [.d (.dat g), .d (.dat Vv), .d (.dat Vw), .d (.dat Vu), .d (.dat Vvw), .no, .no, .no, .no] [M1] = .ok (.dat (.bool B4)) ([M1, .lst Y] ++ G2) := by
    rw [b2]; simp
  generalize [M1, .lst Y] ++ G2 = G3 at *
  cases B4 <;> (try rw [m1 rfl] at k1) <;> simp [b1', b2', e1, e2, e3, e4, e5, e6, e7, e8, e9, e10, k1, k2, k3, k4, k5, k6, r1, r2, gEq_bb, gNe_bb, gNe_ss, -gEq_dat, -gNe_dat, -gTuple_ref, hbool]
end K01

set_option Elab.async false
set_option linter.all false
set_option maxRecDepth 100000
set_option maxHeartbeats 1000000
namespace K01
open PySem PySem.Spec PyProof.Rows L2 DL
open Classical
/-! ### what is no count is refused -/
theorem refused_ok (q : ErrC) (w : PyData) (hw : reprOk w = true) (th : Hh → RE) (G : Hh) (h : th G = .ex q.BadCount (.dat w) G) : fnH 3 (b__law_is_refused q) th (.dat w) G = .ok (.dat (.bool true)) G := by
  unfold fnH
  refine allC_eq fun C => ?_
  have p1 : pick1 [(q.BadCount, true), (q.BadGround, true)] q.BadCount = some true := by simp [pick1, List.lookup]
  have p2 : pick1 [(q.BadCount, true), (q.BadGround, false)] q.BadCount = some true := by simp [pick1, List.lookup]
  have e1 : eAct 0 C th [.clo C, .d (.dat w), .no] G = .ex q.BadCount (.dat w) G := by
    unfold eAct
    rw [if_pos (show ([Sl.clo C, Sl.d (.dat w), Sl.no] : Env')[0]? = some (.clo C) from rfl), h]
  simp [fnOut, b__law_is_refused, Sl.cut, e1, p1, p2, hw, eqv_ss, e_sTry, RS.cut]
structure OddP (n : Nat) (d : PyData) : Prop where
  no : cntB n d = false
  shown : reprOk d = true
  short : ∀ a, d = .tuple a → a.length ≤ 1000
theorem odd_tup {xs : List PyData} (hl : xs.length ≤ 5) (h : ∀ x ∈ xs, okS 1 x ∧ x.weight ≤ 950) : reprOk (.tuple xs) = true := by
  refine reprOk_of ((okS_tup (dp := 1) fun x hx => (h x hx).1).mono (by decide)) ?_
  rw [w_tup]
  have := wA_le (es := xs) (k := 950) fun x hx => (h x hx).2
  have h3 : xs.length * 951 ≤ 5 * 951 := Nat.mul_le_mul_right 951 hl
  omega
theorem ints_part {v : List Int} (h : ∀ x ∈ v, Big x) : ∀ x ∈ v.map PyData.int, okS 1 x ∧ x.weight ≤ 950 := fun x hx => by
  obtain ⟨i, hi, rfl⟩ := List.mem_map.mp hx
  obtain ⟨h1, h2⟩ := int_okS (h i hi)
  exact ⟨h1.mono (by decide), by omega⟩
theorem small_part : ∀ x ∈ ([.int 0, .int (-1), .str "0", .none] : List PyData), okS 1 x ∧ x.weight ≤ 950 := by
  intro x hx
  simp at hx
  rcases hx with rfl | rfl | rfl | rfl <;> exact ⟨⟨by decide +kernel, by decide +kernel, by decide +kernel⟩, by decide +kernel⟩
theorem odd_mid {ks : KS} {v : List Int} (hv : Cnt ks v) (hf : ks.length ≤ 3) (r : Nat) {x : PyData} (hx : x ∈ ([.int (-1), .str "0", .none] : List PyData)) : OddP ks.length (.tuple ((v.map PyData.int).take r ++ [x] ++ (v.map PyData.int).drop (r + 1))) := by
  have hl := hv.len
  have hx0 : natB x = false := by
    simp at hx
    rcases hx with rfl | rfl | rfl <;> rfl
  have hlen : ((v.map PyData.int).take r ++ [x] ++ (v.map PyData.int).drop (r + 1)).length ≤ 5 := by
    simp
    omega
  refine ⟨?_, odd_tup hlen fun y hy => ?_, fun a e => ?_⟩
  · simp only [cntB, Bool.and_eq_false_iff]
    right
    rw [List.all_append, List.all_append]
    simp [hx0]
  · rcases List.mem_append.mp hy with hy | hy
    · rcases List.mem_append.mp hy with hy | hy
      · exact ints_part hv.big y (List.mem_of_mem_take hy)
      · simp at hy
        subst hy
        exact small_part y (by
          simp at hx ⊢
          rcases hx with rfl | rfl | rfl <;> simp)
    · exact ints_part hv.big y (List.mem_of_mem_drop hy)
  · cases e
    omega
def some1 (v : List Int) : List PyData := [.tuple (v.map PyData.int ++ [.int 0]), .none, .str "count", .int 7, .tuple [V v]]
def some2 (v : List Int) (r : Nat) : List PyData := [.tuple ((v.map PyData.int).drop 1), .tuple ((v.map PyData.int).take r ++ [.int (-1)] ++ (v.map PyData.int).drop (r + 1)), .tuple ((v.map PyData.int).take r ++ [.str "0"] ++ (v.map PyData.int).drop (r + 1)), .tuple ((v.map PyData.int).take r ++ [.none] ++ (v.map PyData.int).drop (r + 1))]
theorem some1_odd {ks : KS} {v : List Int} (hv : Cnt ks v) (hf : ks.length ≤ 3) : ∀ d ∈ some1 v, OddP ks.length d := by
  have hl := hv.len
  intro d hd
  simp only [some1, List.mem_cons, List.not_mem_nil, or_false] at hd
  rcases hd with rfl | rfl | rfl | rfl | rfl
  · refine ⟨?_, odd_tup (by simp; omega) fun y hy => ?_, fun a e => by cases e; simp; omega⟩
    · simp only [cntB, Bool.and_eq_false_iff]
      left
      simp
      omega
    · rcases List.mem_append.mp hy with hy | hy
      · exact ints_part hv.big y hy
      · simp at hy
        subst hy
        exact small_part _ (by simp)
  · exact ⟨rfl, by decide +kernel, fun a e => by cases e⟩
  · exact ⟨rfl, by decide +kernel, fun a e => by cases e⟩
  · exact ⟨rfl, by decide +kernel, fun a e => by cases e⟩
  · refine ⟨?_, ?_, fun a e => by cases e; simp⟩
    · simp only [cntB, Bool.and_eq_false_iff]
      right
      rfl
    · obtain ⟨h1, h2⟩ := V_okS hv.big
      exact odd_tup (by simp) fun y hy => by
        simp at hy
        subst hy
        exact ⟨h1, by omega⟩
theorem some2_odd {ks : KS} {v : List Int} (hv : Cnt ks v) (hf : ks.length ≤ 3) (hne : v ≠ []) (r : Nat) : ∀ d ∈ some2 v r, OddP ks.length d := by
  have hl := hv.len
  intro d hd
  simp only [some2, List.mem_cons, List.not_mem_nil, or_false] at hd
  rcases hd with rfl | rfl | rfl | rfl
  · have hp := List.length_pos_iff.mpr hne
    refine ⟨?_, odd_tup (by simp; omega) fun y hy => ints_part hv.big y (List.mem_of_mem_drop hy), fun a e => by cases e; simp; omega⟩
    simp only [cntB, Bool.and_eq_false_iff]
    left
    simp
    omega
  · exact odd_mid hv hf r (by simp)
  · exact odd_mid hv hf r (by simp)
  · exact odd_mid hv hf r (by simp)
end K01

set_option Elab.async false
set_option linter.all false
set_option maxRecDepth 100000
set_option maxHeartbeats 1000000
namespace K01
open PySem PySem.Spec PyProof.Rows L2 DL
open Classical
theorem price_ex (q : ErrC) {g : PyData} {ks : KS} (h : Gd g ks) {d : PyData} (hd : OddP ks.length d) (G : Hh) : relCall (f_price q) [.dat g, .dat d] G = .ex q.BadCount (.dat d) G := by
  obtain ⟨G1, e⟩ := price_bad q h d hd.short hd.no
  exact rel_ex0 rfl rfl rfl e rfl
theorem key_ex (q : ErrC) {g : PyData} {ks : KS} (h : Gd g ks) {d : PyData} (hd : OddP ks.length d) (G : Hh) : relCall (f_key q) [.dat g, .dat d] G = .ex q.BadCount (.dat d) G := by
  obtain ⟨G1, e⟩ := key_bad q h d hd.short hd.no
  exact rel_ex0 rfl rfl rfl e rfl
theorem thunk_ok (q : ErrC) (sem : FS) {g d : PyData} (hs : ∀ G, relCall sem [.dat g, .dat d] G = .ex q.BadCount (.dat d) G) (hw : reprOk d = true) (a0 a2 a3 s4 : Sl) (G : Hh) :
    eThunk (fnH 3 (b__law_is_refused q)) (eCallA 2 (relCall sem) (aCons (eVar 1) (aCons (eVar 5) aNil))) (aCons (eVar 5) aNil) [a0, .d (.dat g), a2, a3, s4, .d (.dat d)] G = .ok (.dat (.bool true)) G := by
  unfold eThunk
  have e1 : aCons (eVar 5) aNil [a0, .d (.dat g), a2, a3, s4, .d (.dat d)] G = .ok [.dat d] G := by simp
  rw [e1]
  dsimp only
  refine refused_ok q d hw _ G ?_
  simp [hs, Sl.cut]
noncomputable def oC (q : ErrC) : SS := (sSeq (sAsg (eCallA 2 (relCall (f__law_one q)) (aCons (eVar 0) (aCons (eVar 3) aNil))) (aName 5))
    (sSeq (sIf (sNot (tTest' tru (eThunk (fnH 3 (b__law_is_refused q)) (eCallA 2 (relCall (f_price q)) (aCons (eVar 1) (aCons (eVar 5) aNil))) (aCons (eVar 5) aNil)))) (sRet (eC (.dat (.bool false)))) sNil)
    (sRet (eThunk (fnH 3 (b__law_is_refused q)) (eCallA 2 (relCall (f_key q)) (aCons (eVar 1) (aCons (eVar 5) aNil))) (aCons (eVar 5) aNil)))))
theorem oC_ok (q : ErrC) {g : PyData} {ks : KS} (h : Gd g ks) {m : MO} (hm : Src m) {G : Hh} {l : Nat} {ds : List PyData} (h0 : G[0]? = some m) (hl : G[l]? = some (.lst (ds.map .dat))) (hl0 : 0 ≠ l) (hne : ds ≠ []) (hlen : ds.length ≤ 1000) (ho : ∀ d ∈ ds, OddP ks.length d) (a2 s4 s5 : Sl) :
    ∃ m', Src m' ∧ oC q [.d (.ref 0), .d (.dat g), a2, .d (.ref l), s4, s5] G = .rt (.dat (.bool true)) (G.set 0 m') := by
  obtain ⟨x, m', hx, hm', e⟩ := one_rel h0 hl hl0 hm (by simpa using hne) (by rw [List.length_map]; omega) cleans_dat
  obtain ⟨d, hd, rfl⟩ := List.mem_map.mp hx
  have hod := ho d hd
  have t1 := fun G => thunk_ok q (f_price q) (g := g) (price_ex q h hod) hod.shown (.d (.ref 0)) a2 (.d (.ref l)) s4 G
  have t2 := fun G => thunk_ok q (f_key q) (g := g) (key_ex q h hod) hod.shown (.d (.ref 0)) a2 (.d (.ref l)) s4 G
  refine ⟨m', hm', ?_⟩
  unfold oC
  rw [one_eq]
  generalize eThunk (fnH 3 (b__law_is_refused q)) (eCallA 2 (relCall (f_price q)) (aCons (eVar 1) (aCons (eVar 5) aNil))) (aCons (eVar 5) aNil) = X1 at *
  generalize eThunk (fnH 3 (b__law_is_refused q)) (eCallA 2 (relCall (f_key q)) (aCons (eVar 1) (aCons (eVar 5) aNil))) (aCons (eVar 5) aNil) = X2 at *
  simp [e, t1, t2]
noncomputable def oB (q : ErrC) : SS := (sIf (tTest' truB (eBin gNe (eVar 2) (eArgs gTupD aNil))) (sSeq (sAsg (eCallA 2 (relCall (f__law_take q)) (aCons (eVar 0) (aCons (eArgs gLen (aCons (eVar 2) aNil)) aNil))) (aName 4))
    (sAsg (eBin gAdd (eVar 3) (eArgs gLstD (aCons (eSl (eVar 2) (oSome (eC (.dat (.int 1)))) oNone) (aCons (eBin gAdd (eBin gAdd (eSl (eVar 2) oNone (oSome (eVar 4))) (eArgs gTupD (aCons (eBin gSub (eC (.dat (.int 0))) (eC (.dat (.int 1)))) aNil))) (eSl (eVar 2) (oSome (eBin gAdd (eVar 4) (eC (.dat (.int 1))))) oNone)) (aCons (eBin gAdd (eBin gAdd (eSl (eVar 2) oNone (oSome (eVar 4))) (eArgs gTupD (aCons (eC (.dat (.str "0"))) aNil))) (eSl (eVar 2) (oSome (eBin gAdd (eVar 4) (eC (.dat (.int 1))))) oNone)) (aCons (eBin gAdd (eBin gAdd (eSl (eVar 2) oNone (oSome (eVar 4))) (eArgs gTupD (aCons (eC (.dat .none)) aNil))) (eSl (eVar 2) (oSome (eBin gAdd (eVar 4) (eC (.dat (.int 1))))) oNone)) aNil)))))) (aName 3))) sNil)
theorem eqv_tnil {a : List PyData} : PyData.eqv (.tuple a) (.tuple []) = a.isEmpty := by
  cases a <;> simp [PyData.eqv, PyData.eqvAll]
theorem depth_tnil : (PyData.tuple []).depth = 1 := by simp [PyData.depth, PyData.depthAll]
theorem gNe_nil {v : List Int} {G : Hh} : gNe (.dat (V v)) (.dat (.tuple [])) G = some (.dat (.bool (!v.isEmpty)), G) := by
  rw [gNe_dat, eqv_tnil, depth_tnil, if_pos (by omega)]
  cases v <;> rfl
theorem cut_from {xs : List PyData} (r : Nat) : cutL xs (some ((r : Int) + 1)) none = xs.drop (r + 1) := by
  have := cutL_from xs (r + 1)
  rwa [Int.natCast_add] at this
theorem oB_ok (q : ErrC) {ks : KS} {v : List Int} (hv : Cnt ks v) (hf : ks.length ≤ 3) (g : D) {m : MO} (hm : Src m) : ∃ (l : Nat) (ds : List PyData) (G : Hh) (m' : MO) (s4 : Sl), Src m' ∧ G[0]? = some m' ∧ G[l]? = some (.lst (ds.map .dat)) ∧ 0 ≠ l ∧ ds ≠ [] ∧ ds.length ≤ 1000 ∧ (∀ d ∈ ds, OddP ks.length d) ∧
    oB q [.d (.ref 0), .d g, .d (.dat (V v)), .d (.ref 1), .no, .no] [m, .lst ((some1 v).map .dat)] = .nx [.d (.ref 0), .d g, .d (.dat (V v)), .d (.ref l), s4, .no] G := by
  have hl := hv.len
  by_cases hne : v = []
  · subst hne
    refine ⟨1, some1 [], [m, .lst ((some1 []).map .dat)], m, .no, hm, rfl, rfl, by decide, by simp [some1], by simp [some1], some1_odd hv hf, ?_⟩
    have e1 := fun G => gNe_nil (v := []) (G := G)
    unfold oB
    generalize (MO.lst ((some1 []).map .dat)) = M
    generalize V ([] : List Int) = Z at *
    simp [e1, -gNe_dat]
  · have hp := List.length_pos_iff.mpr hne
    obtain ⟨r, m', h1, h2, hm', e⟩ := take_rel (G := [m, .lst ((some1 v).map .dat)]) (l := 0) (top := v.length) rfl hm (by omega) (by omega)
    obtain ⟨k, rfl⟩ : ∃ k : Nat, r = (k : Int) := ⟨r.toNat, by omega⟩
    refine ⟨3, some1 v ++ some2 v k, [m', .lst ((some1 v).map .dat), .lst ((some2 v k).map .dat), .lst ((some1 v ++ some2 v k).map .dat)], m', .d (.dat (.int k)), hm', rfl, rfl, by decide, by simp [some1], by simp [some1, some2], fun d hd => ?_, ?_⟩
    · rcases List.mem_append.mp hd with hd | hd
      · exact some1_odd hv hf d hd
      · exact some2_odd hv hf hne k d hd
    · have e1 := fun G => gNe_nil (v := v) (G := G)
      have e0 : v.isEmpty = false := by cases v with
        | nil => exact absurd rfl hne
        | cons _ _ => rfl
      rw [e0] at e1
      have c1 : cutL (v.map PyData.int) (some 1) none = (v.map PyData.int).drop 1 := cutL_from _ 1
      have c2 := cutL_to (v.map PyData.int) k
      have c3 := cut_from (xs := v.map PyData.int) k
      have n1 : ((v.map PyData.int).take k).length + 1 ≤ 100000 := by simp; omega
      have n2 : ((v.map PyData.int).take k).length + 1 + ((v.map PyData.int).drop (k + 1)).length ≤ 100000 := by simp; omega
      have eL : gLen [.dat (V v)] = fun G => some (.dat (.int v.length), G) := by funext G; simp
      have hS : (some2 v k).map D.dat = [.dat (.tuple ((v.map PyData.int).drop 1)), .dat (.tuple ((v.map PyData.int).take k ++ [.int (-1)] ++ (v.map PyData.int).drop (k + 1))), .dat (.tuple ((v.map PyData.int).take k ++ [.str "0"] ++ (v.map PyData.int).drop (k + 1))), .dat (.tuple ((v.map PyData.int).take k ++ [.none] ++ (v.map PyData.int).drop (k + 1)))] := rfl
      have hA : (some1 v ++ some2 v k).map D.dat = (some1 v).map .dat ++ (some2 v k).map .dat := by simp
      have hn : ((some1 v).map D.dat).length = 5 := rfl
      rw [hA, hS]
      unfold oB
      rw [take_eq]
      generalize ((some1 v).map D.dat) = S1 at *
      unfold V at e1 eL ⊢
      generalize v.map PyData.int = vd at *
      generalize hT : vd.take k = T1 at *
      generalize hT2 : vd.drop (k + 1) = T2 at *
      simp [e, e1, eL, c1, c2, c3, n1, n2, hn, -gNe_dat, -gLen_one]
end K01

set_option Elab.async false
set_option linter.all false
set_option maxRecDepth 100000
set_option maxHeartbeats 1000000
namespace K01
open PySem PySem.Spec PyProof.Rows L2 DL
open Classical
theorem odd_ok (q : ErrC) {g : PyData} {ks : KS} (h : Gd g ks) {v : List Int} (hv : Cnt ks v) {m : MO} (hm : Src m) : ∃ m' G1, Src m' ∧ f__law_odd_right q [.ref 0, .dat g, .dat (V v)] [m] = .ok (.dat (.bool true)) (m' :: G1) := by
  have hf := h.few
  have hl := hv.len
  obtain ⟨l, ds, G, m1, s4, hm1, h0, hl1, hl0, hne, hlen, ho, eB⟩ := oB_ok q hv hf (.dat g) hm
  obtain ⟨m2, hm2, eC'⟩ := oC_ok q h hm1 h0 hl1 hl0 hne hlen ho (.d (.dat (V v))) s4 .no
  have e0 : f__law_odd_right q = fnD 6 (sSeq (sAsg (eArgs gLstD (aCons (eBin gAdd (eVar 2) (eArgs gTupD (aCons (eC (.dat (.int 0))) aNil))) (aCons (eC (.dat .none)) (aCons (eC (.dat (.str "count"))) (aCons (eC (.dat (.int 7))) (aCons (eArgs gTupD (aCons (eVar 2) aNil)) aNil)))))) (aName 3)) (sSeq (oB q) (oC q))) := rfl
  have n1 : (v.map PyData.int).length + 1 ≤ 100000 := by simp; omega
  have hS : (some1 v).map D.dat = [.dat (.tuple (v.map PyData.int ++ [.int 0])), .dat .none, .dat (.str "count"), .dat (.int 7), .dat (.tuple [V v])] := rfl
  have e1 : sAsg (eArgs gLstD (aCons (eBin gAdd (eVar 2) (eArgs gTupD (aCons (eC (.dat (.int 0))) aNil))) (aCons (eC (.dat .none)) (aCons (eC (.dat (.str "count"))) (aCons (eC (.dat (.int 7))) (aCons (eArgs gTupD (aCons (eVar 2) aNil)) aNil)))))) (aName 3) [.d (.ref 0), .d (.dat g), .d (.dat (V v)), .no, .no, .no] [m] = .nx [.d (.ref 0), .d (.dat g), .d (.dat (V v)), .d (.ref 1), .no, .no] [m, .lst ((some1 v).map .dat)] := by
    rw [hS]
    unfold V
    generalize v.map PyData.int = vd at *
    simp [n1]
  obtain ⟨G1, eG⟩ : ∃ G1, G.set 0 m2 = m2 :: G1 := by
    cases G with
    | nil => cases h0
    | cons a G => exact ⟨G, rfl⟩
  rw [eG] at eC'
  refine ⟨m2, G1, hm2, ?_⟩
  rw [e0]
  have e2 : ([D.ref 0, .dat g, .dat (V v)].map Sl.d ++ List.replicate (6 - 3) Sl.no) = [.d (.ref 0), .d (.dat g), .d (.dat (V v)), .no, .no, .no] := rfl
  simp only [e_fnD, List.length_cons, List.length_nil, e2, e_sSeq, e1, eB, eC', Nat.zero_add, Nat.reduceAdd]
/-! ### the drawn ground -/
theorem ents_ok : ∀ (ks : KS) (i : Nat) (A : List Str), (∀ k ∈ ks, nmB (.str k.1) = true ∧ 1 ≤ k.2 ∧ k.2 ≤ 99) → (A ++ ks.map (·.1)).Nodup → entsW 1 i (ks.map kE) (A.map .str) = .inr ((A ++ ks.map (·.1)).map .str)
  | [], i, A, _, _ => by simp [entsW]
  | k :: ks, i, A, h, hn => by
    obtain ⟨h1, h2, h3⟩ := h k List.mem_cons_self
    have hE : entryN 1 (kE k) = .str k.1 := by
      have : numIn (most 1) (.int k.2) = true := by
        have : most 1 = 99 := rfl
        simp [numIn, this, h2, h3]
      simp [entryN, kE, h1, this]
    have hb : badN (.str k.1) (A.map .str) = false := by
      simp only [badN, isNo, Bool.false_or, List.any_map]
      rw [List.any_eq_false]
      intro s hs
      simp only [Function.comp, eqv_ss, beq_iff_eq]
      intro e
      subst e
      rw [List.nodup_append] at hn
      exact hn.2.2 _ hs _ (by simp) rfl
    rw [List.map_cons, entsW, hE, hb]
    have ih := ents_ok ks (i + 1) (A ++ [k.1]) (fun x hx => h x (List.mem_cons_of_mem _ hx)) (by simpa using hn)
    simp only [List.map_append, List.map_cons, List.map_nil] at ih ⊢
    rw [if_neg (by simp), ih]
    simp
theorem nm5 : ∀ s ∈ (["send", "log", "a1", "flush", "b", "c", "done"] : List Str), nmB (.str s) = true ∧ s.length ≤ 100 := by decide +kernel
abbrev NM5 : List Str := ["send", "log", "a1", "flush", "b"]
theorem nm5n : (["c", "done", "send", "log", "a1", "flush", "b"] : List Str).Nodup := by decide +kernel
abbrev grD (ks : KS) : PyData := .tuple [.tuple [.tuple [.str "c", .int 2]], KT' ks, .tuple [.str "done"]]
theorem sh_of {s : Str} (h : s.length ≤ 100) : Sh (.str s) := fun t e => by cases e; omega
theorem shE_k {k : Str × Int} (h : k.1.length ≤ 100) : ShE (kE k) := by
  refine ⟨(fun t e => by cases e), fun es e x hx => ?_⟩
  cases e
  simp at hx
  rcases hx with rfl | rfl
  · exact sh_of h
  · exact fun t e => by cases e
theorem gd_drawn {ks : KS} (hn : (ks.map (·.1)).Nodup) (hm : ∀ k ∈ ks, k.1 ∈ NM5) (hp : ∀ k ∈ ks, 1 ≤ k.2 ∧ k.2 ≤ 99) (hl : ks.length ≤ 3) : Gd (grD ks) ks := by
  have h5 : ∀ k ∈ ks, nmB (.str k.1) = true ∧ k.1.length ≤ 100 := fun k hk => nm5 _ (by
    have := hm k hk
    simp only [NM5, List.mem_cons, List.not_mem_nil, or_false] at this ⊢
    rcases this with e | e | e | e | e <;> simp [e])
  have hc : ("c" : Str) ∉ ks.map (·.1) := fun h => by
    obtain ⟨k, hk, e⟩ := List.mem_map.mp h
    have h1 := hm k hk
    rw [e] at h1
    have h2 := nm5n
    simp only [List.nodup_cons] at h2
    exact h2.1 (List.mem_cons_of_mem _ h1)
  have hd : ("done" : Str) ∉ ks.map (·.1) := fun h => by
    obtain ⟨k, hk, e⟩ := List.mem_map.mp h
    have h1 := hm k hk
    rw [e] at h1
    have h2 := nm5n
    simp only [List.nodup_cons] at h2
    exact h2.2.1 h1
  have hcd : ("done" : Str) ≠ "c" := by decide +kernel
  refine ⟨⟨_, _, rfl⟩, ⟨fun a b c e => ?_⟩, ?_, hp, hl⟩
  · have e : (([.tuple [.str "c", .int 2]] : List PyData), ks.map kE, [PyData.str "done"]) = (a, b, c) := Option.some.inj e
    cases e
    refine ⟨fun e he => ?_, by simp, by simp; omega, by simp⟩
    rcases List.mem_append.mp he with he | he
    · rcases List.mem_append.mp he with he | he
      · simp at he
        subst he
        exact shE_k (k := ("c", 2)) (nm5 _ (by simp)).2
      · obtain ⟨k, hk, rfl⟩ := List.mem_map.mp he
        exact shE_k (h5 k hk).2
    · simp at he
      subst he
      exact ⟨sh_of (nm5 _ (by simp)).2, fun es e => by cases e⟩
  · have p0 : partW 0 [.tuple [.str "c", .int 2]] [] = .inr [.str "c"] := by
      have hb := (nm5 "c" (by simp)).1
      have hE : entryN 0 (.tuple [.str "c", .int 2]) = .str "c" := by
        have : numIn (most 0) (.int 2) = true := by decide
        simp [entryN, hb, this]
      have hw : entsW 0 0 [.tuple [.str "c", .int 2]] [] = .inr [.str "c"] := by
        simp [entsW, hE, badN, isNo]
      unfold partW
      rw [hw]
      simp [mostE, sizes, sizeE]
    have p1 : partW 1 (ks.map kE) [.str "c"] = .inr (((["c"] : List Str) ++ ks.map (·.1)).map .str) := by
      have hw := ents_ok ks 0 ["c"] (fun k hk => ⟨(h5 k hk).1, hp k hk⟩) (by
        rw [List.nodup_append]
        exact ⟨by simp, hn, fun a ha b hb e => by simp at ha; subst ha; subst e; exact hc hb⟩)
      have hw : entsW 1 0 (ks.map kE) [.str "c"] = .inr (((["c"] : List Str) ++ ks.map (·.1)).map .str) := hw
      unfold partW
      rw [hw]
      have : ¬ 3 < ks.length := by omega
      simp [mostE, this]
    have p2 : ∃ ah, partW 2 [.str "done"] (((["c"] : List Str) ++ ks.map (·.1)).map .str) = .inr ah := by
      have hb := (nm5 "done" (by simp)).1
      have hE : entryN 2 (.str "done") = .str "done" := by simp [entryN, hb]
      have hb2 : badN (.str "done") (((["c"] : List Str) ++ ks.map (·.1)).map .str) = false := by
        simp only [badN, isNo, Bool.false_or, List.any_map]
        rw [List.any_eq_false]
        intro s hs
        simp only [Function.comp, eqv_ss, beq_iff_eq]
        intro e
        subst e
        rcases List.mem_append.mp hs with h1 | h1
        · simp at h1
          exact hcd h1
        · exact hd h1
      unfold partW
      simp only [entsW, hE, hb2]
      simp [mostE]
    obtain ⟨ah, p2⟩ := p2
    show faultT _ _ _ = none
    unfold faultT
    rw [p0]
    dsimp only
    rw [p1]
    dsimp only
    rw [p2]
theorem gd_bare : Gd (.tuple [.tuple [], .tuple [], .tuple [.str "done"]]) [] := by
  refine ⟨⟨[], [.str "done"], rfl⟩, ⟨fun a b c e => ?_⟩, ?_, (fun k hk => by cases hk), by simp⟩
  · have e : (([] : List PyData), ([] : List PyData), [PyData.str "done"]) = (a, b, c) := Option.some.inj e
    cases e
    refine ⟨fun e he => ?_, by simp, by simp, by simp⟩
    simp at he
    subst he
    exact ⟨sh_of (nm5 _ (by simp)).2, fun es e => by cases e⟩
  · have hb := (nm5 "done" (by simp)).1
    have hE : entryN 2 (.str "done") = .str "done" := by simp [entryN, hb]
    show faultT [] [] [.str "done"] = none
    simp [faultT, partW, entsW, hE, badN, isNo, mostE, sizes]
end K01

set_option Elab.async false
set_option linter.all false
set_option maxRecDepth 100000
set_option maxHeartbeats 1000000
namespace K01
open PySem PySem.Spec PyProof.Rows L2 DL
open Classical
noncomputable def dgF (q : ErrC) : ES := (eArgs gTupD (aCons (eVar 3) (aCons (eCallA 2 (relCall (f__law_one q)) (aCons (eVar 0) (aCons (eVar 2) aNil))) aNil)))
def PRS (r : Int) : List PyData := [.int 1, .int 99, .int 2, .int 5, .int (1 + r)]
theorem dg_at (a b c d e f : MO) : ([a, b, c, d, e, f] : Hh)[3]? = some d := rfl
def unS : D → Str
  | .dat (.str s) => s
  | _ => ""
theorem unS_map (zs : List Str) : (zs.map fun s => D.dat (.str s)).map unS = zs := by
  induction zs with
  | nil => rfl
  | cons z zs ih => rw [List.map_cons, List.map_cons, ih]; rfl
theorem dg_loop (q : ErrC) (A B : MO) (NM : List D) (p : Int) (hp : 0 ≤ p ∧ p < 99) : ∀ (rest : List Str) (m : MO) (acc : KS), Src m → acc.length + rest.length ≤ 10 → ∃ m' ks, Src m' ∧ ks.map (·.1) = rest ∧ (∀ k ∈ ks, 1 ≤ k.2 ∧ k.2 ≤ 99) ∧
    lcL (aName 3) tNo (dgF q) 5 (fun g => g[3]? = some (.lst NM)) [.d (.ref 0), .d (.ref 3), .d (.ref 4), .no] (rest.map fun s => .dat (.str s)) [m, A, B, .lst NM, .lst ((PRS p).map .dat), .lst ((acc.map kE).map .dat)] = .ok (.ref 5) [m', A, B, .lst NM, .lst ((PRS p).map .dat), .lst (((acc ++ ks).map kE).map .dat)]
  | [], m, acc, hm, _ => ⟨m, [], hm, rfl, (fun k hk => by cases hk), by
      rw [List.map_nil, lcL, if_pos (dg_at _ _ _ _ _ _), List.append_nil]⟩
  | s :: rest, m, acc, hm, hn => by
    obtain ⟨x, m1, hx, hm1, e⟩ := one_rel (G := [m, A, B, .lst NM, .lst ((PRS p).map .dat), .lst ((acc.map kE).map .dat)]) (l := 0) (k := 4) rfl rfl (by decide) hm (by simp [PRS]) (by simp [PRS]) cleans_dat
    obtain ⟨d, hd, rfl⟩ := List.mem_map.mp hx
    obtain ⟨c, rfl, hc⟩ : ∃ c, d = .int c ∧ 1 ≤ c ∧ c ≤ 99 := by
      simp only [PRS, List.mem_cons, List.not_mem_nil, or_false] at hd
      rcases hd with rfl | rfl | rfl | rfl | rfl
      · exact ⟨1, rfl, by decide⟩
      · exact ⟨99, rfl, by decide⟩
      · exact ⟨2, rfl, by decide⟩
      · exact ⟨5, rfl, by decide⟩
      · exact ⟨1 + p, rfl, by omega⟩
    obtain ⟨m2, ks, hm2, h1, h2, ih⟩ := dg_loop q A B NM p hp rest m1 (acc ++ [(s, c)]) hm1 (by simp at hn ⊢; omega)
    refine ⟨m2, (s, c) :: ks, hm2, by rw [List.map_cons, h1], fun k hk => ?_, ?_⟩
    · rcases List.mem_cons.mp hk with rfl | hk
      · exact hc
      · exact h2 k hk
    · have hl : ((acc.map kE).map D.dat).length < 100000 := by simp at hn ⊢; omega
      have ha : ((acc ++ [(s, c)]).map kE).map D.dat = (acc.map kE).map D.dat ++ [.dat (.tuple [.str s, .int c])] := by simp
      have hb : (acc ++ (s, c) :: ks) = (acc ++ [(s, c)]) ++ ks := by simp
      rw [ha] at ih
      rw [hb]
      have ef : dgF q [.d (.ref 0), .d (.ref 3), .d (.ref 4), .d (.dat (.str s))] [m, A, B, .lst NM, .lst ((PRS p).map .dat), .lst ((acc.map kE).map .dat)] = .ok (.dat (.tuple [.str s, .int c])) [m1, A, B, .lst NM, .lst ((PRS p).map .dat), .lst ((acc.map kE).map .dat)] := by
        unfold dgF
        rw [one_eq]
        generalize ((acc.map kE).map D.dat) = Y at *
        simp [e]
      generalize ((acc.map kE).map D.dat) = Y at *
      generalize (((acc ++ [(s, c)]) ++ ks).map kE).map D.dat = Z at *
      rw [List.map_cons, lcL, if_pos (dg_at _ _ _ _ _ _)]
      simp only [e_aName, List.set_cons_succ, List.set_cons_zero, e_tNo, ef]
      simp only [List.getElem?_cons_succ, List.getElem?_cons_zero, if_pos hl, List.set_cons_succ, List.set_cons_zero]
      exact ih
theorem ground_ok (q : ErrC) {m : MO} (hm : Src m) : ∃ m' G1 ks, Src m' ∧ Gd (grD ks) ks ∧ f__law_drawn_ground q [.ref 0] [m] = .ok (.dat (grD ks)) (m' :: G1) := by
  obtain ⟨m1, ys, hm1, hperm, e1⟩ := mixed_rel (G := [m, .lst (NM5.map fun s => D.dat (.str s))]) (l := 0) (k := 1) rfl rfl (by decide) hm (by simp) (by rfl)
  obtain ⟨zs, hz, rfl⟩ : ∃ zs : List Str, zs.Perm NM5 ∧ ys = zs.map fun s => D.dat (.str s) := by
    have : ∀ {ys : List D}, (∀ y ∈ ys, ∃ s : Str, y = D.dat (.str s)) → ∃ zs : List Str, ys = zs.map fun s => D.dat (.str s) := by
      intro ys
      induction ys with
      | nil => intro _; exact ⟨[], rfl⟩
      | cons y ys ih =>
        intro h
        obtain ⟨s, rfl⟩ := h y List.mem_cons_self
        obtain ⟨zs, rfl⟩ := ih fun z hz => h z (List.mem_cons_of_mem _ hz)
        exact ⟨s :: zs, rfl⟩
    obtain ⟨zs, rfl⟩ := this (ys := ys) fun y hy => by
      have := hperm.mem_iff.mp hy
      obtain ⟨s, _, rfl⟩ := List.mem_map.mp this
      exact ⟨s, rfl⟩
    refine ⟨zs, ?_, rfl⟩
    have h2 := hperm.map unS
    rwa [unS_map, unS_map] at h2
  have e1' : relCall gMixed [.ref 0, .ref 1] [m, .lst (NM5.map fun s => D.dat (.str s))] = .ok (.ref 2) [m1, .lst (NM5.map fun s => D.dat (.str s)), .lst (zs.map fun s => D.dat (.str s))] := e1
  obtain ⟨r, m2, r1, r2, hm2, e2⟩ := take_rel (G := [m1, .lst (NM5.map fun s => D.dat (.str s)), .lst (zs.map fun s => D.dat (.str s))]) (l := 0) (top := 4) rfl hm1 (by decide) (by decide)
  obtain ⟨n, rfl⟩ : ∃ n : Nat, r = (n : Int) := ⟨r.toNat, by omega⟩
  obtain ⟨p, m3, p1, p2, hm3, e3⟩ := take_rel (G := [m2, .lst (NM5.map fun s => D.dat (.str s)), .lst (zs.map fun s => D.dat (.str s)), .lst ((zs.take n).map fun s => D.dat (.str s))]) (l := 0) (top := 99) rfl hm2 (by decide) (by decide)
  have hlen : (zs.take n).length ≤ 3 := by rw [List.length_take]; omega
  obtain ⟨m4, ks, hm4, h1, h2, e4⟩ := dg_loop q (.lst (NM5.map fun s => D.dat (.str s))) (.lst (zs.map fun s => D.dat (.str s))) ((zs.take n).map fun s => D.dat (.str s)) p ⟨p1, p2⟩ (zs.take n) m3 [] hm3 (by simp; omega)
  have hnd : (ks.map (·.1)).Nodup := by
    rw [h1]
    have h5 : NM5.Nodup := by
      have := nm5n
      simp only [List.nodup_cons] at this ⊢
      exact this.2.2
    exact (hz.nodup_iff.mpr h5).sublist (List.take_sublist _ _)
  have hmem : ∀ k ∈ ks, k.1 ∈ NM5 := fun k hk => by
    have : k.1 ∈ ks.map (·.1) := List.mem_map.mpr ⟨k, hk, rfl⟩
    rw [h1] at this
    exact hz.mem_iff.mp (List.mem_of_mem_take this)
  have hkl : ks.length ≤ 3 := by
    have := congrArg List.length h1
    rw [List.length_map] at this
    omega
  have e5 : eLc (srcSeq (eVar 1)) (aName 3) tNo (dgF q) [3] [.d (.ref 0), .d (.ref 3), .d (.ref 4), .no] [m3, .lst (NM5.map fun s => D.dat (.str s)), .lst (zs.map fun s => D.dat (.str s)), .lst ((zs.take n).map fun s => D.dat (.str s)), .lst ((PRS p).map .dat)] =
      .ok (.ref 5) [m4, .lst (NM5.map fun s => D.dat (.str s)), .lst (zs.map fun s => D.dat (.str s)), .lst ((zs.take n).map fun s => D.dat (.str s)), .lst ((PRS p).map .dat), .lst ((ks.map kE).map .dat)] := by
    rw [eLc_ok (xs := (zs.take n).map fun s => D.dat (.str s)) (chk := fun g => g[3]? = some (.lst ((zs.take n).map fun s => D.dat (.str s)))) (G1 := [m3, .lst (NM5.map fun s => D.dat (.str s)), .lst (zs.map fun s => D.dat (.str s)), .lst ((zs.take n).map fun s => D.dat (.str s)), .lst ((PRS p).map .dat)])]
    · exact e4
    · simp
  refine ⟨m4, [.lst (NM5.map fun s => D.dat (.str s)), .lst (zs.map fun s => D.dat (.str s)), .lst ((zs.take n).map fun s => D.dat (.str s)), .lst ((PRS p).map .dat), .lst ((ks.map kE).map .dat)], ks, hm4, gd_drawn hnd hmem h2 hkl, ?_⟩
  have e0 : f__law_drawn_ground q = fnD 4 (sSeq (sAsg (eSl (eCallA 2 (relCall (f__law_mixed q)) (aCons (eVar 0) (aCons (eArgs gLstD (aCons (eC (.dat (.str "send"))) (aCons (eC (.dat (.str "log"))) (aCons (eC (.dat (.str "a1"))) (aCons (eC (.dat (.str "flush"))) (aCons (eC (.dat (.str "b"))) aNil)))))) aNil))) oNone (oSome (eCallA 2 (relCall (f__law_take q)) (aCons (eVar 0) (aCons (eC (.dat (.int 4))) aNil))))) (aName 1))
    (sSeq (sAsg (eArgs gLstD (aCons (eC (.dat (.int 1))) (aCons (eC (.dat (.int 99))) (aCons (eC (.dat (.int 2))) (aCons (eC (.dat (.int 5))) (aCons (eBin gAdd (eC (.dat (.int 1))) (eCallA 2 (relCall (f__law_take q)) (aCons (eVar 0) (aCons (eC (.dat (.int 99))) aNil)))) aNil)))))) (aName 2))
    (sRet (eArgs gTupD (aCons (eArgs gTupD (aCons (eArgs gTupD (aCons (eC (.dat (.str "c"))) (aCons (eC (.dat (.int 2))) aNil))) aNil)) (aCons (eArgs gTuple (aCons (eLc (srcSeq (eVar 1)) (aName 3) tNo (dgF q) [3]) aNil)) (aCons (eArgs gTupD (aCons (eC (.dat (.str "done"))) aNil)) aNil))))))) := rfl
  rw [e0, mixed_eq, take_eq]
  have c1 : cutL (zs.map fun s => D.dat (.str s)) none (some (n : Int)) = (zs.take n).map fun s => D.dat (.str s) := by rw [cutL_to, List.map_take]
  have hP : (PRS p).map D.dat = [.dat (.int 1), .dat (.int 99), .dat (.int 2), .dat (.int 5), .dat (.int (1 + p))] := rfl
  have hN : (NM5.map fun s => D.dat (.str s)) = [.dat (.str "send"), .dat (.str "log"), .dat (.str "a1"), .dat (.str "flush"), .dat (.str "b")] := rfl
  rw [hP] at e5 ⊢
  rw [hN] at e1' e2 e3 e5 ⊢
  generalize ((zs.take n).map fun s => D.dat (.str s)) = Z1 at *
  generalize (zs.map fun s => D.dat (.str s)) = Z2 at *
  have d1 : mkTup ((ks.map kE).map D.dat) = .dat (KT' ks) := mkTup_map
  generalize ((ks.map kE).map D.dat) = K1 at *
  generalize eLc (srcSeq (eVar 1)) (aName 3) tNo (dgF q) [3] = X at *
  unfold grD KT'
  unfold KT' at d1
  generalize ks.map kE = kd at *
  simp [e1', e2, e3, e5, c1, d1]
end K01

set_option Elab.async false
set_option linter.all false
set_option maxRecDepth 100000
set_option maxHeartbeats 1000000
namespace K01
open PySem PySem.Spec PyProof.Rows L2 DL
open Classical
/-! ### drawn counts -/
def P60 : Int := 10 ^ 60
theorem P60_in : 0 ≤ P60 ∧ P60 + 5 ≤ BB := by decide +kernel
theorem gPow_60 {G : Hh} : gPow (.dat (.int 10)) (.dat (.int 60)) G = some (.dat (.int P60), G) := by
  unfold gPow P60
  dsimp only
  rw [if_pos (by decide)]
  rfl
noncomputable def dcF (q : ErrC) : SS := (sDrop (eMet isLst gAppend (eVar 2) (aCons (eCallA 2 (relCall (f__law_one q)) (aCons (eVar 0) (aCons (eArgs gLstD (aCons (eC (.dat (.int 0))) (aCons (eC (.dat (.int 1))) (aCons (eCallA 2 (relCall (f__law_take q)) (aCons (eVar 0) (aCons (eC (.dat (.int 9))) aNil))) (aCons (eBin gAdd (eBin gPow (eC (.dat (.int 10))) (eC (.dat (.int 60)))) (eCallA 2 (relCall (f__law_take q)) (aCons (eVar 0) (aCons (eC (.dat (.int 3))) aNil)))) aNil))))) aNil))) aNil)))
/-- a drawn part -/
def Prt (x : Int) : Prop := 0 ≤ x ∧ x ≤ P60 + 2
theorem dc_loop (q : ErrC) (K : Sl) : ∀ (ds : List D) (m : MO) (acc : List Int) (tail : Hh) (s3 : Sl), Src m → acc.length + ds.length ≤ 10 → ∃ m' vs tail' s3', Src m' ∧ vs.length = ds.length ∧ (∀ x ∈ vs, Prt x) ∧
    forL (aName 3) (dcF q) yesH ds [.d (.ref 0), K, .d (.ref 1), s3] (m :: .lst ((acc.map PyData.int).map .dat) :: tail) = .nx [.d (.ref 0), K, .d (.ref 1), s3'] (m' :: .lst (((acc ++ vs).map PyData.int).map .dat) :: tail')
  | [], m, acc, tail, s3, hm, _ => ⟨m, [], tail, s3, hm, rfl, (fun x hx => by cases hx), by rw [forL_nil trivial, List.append_nil]⟩
  | d :: ds, m, acc, tail, s3, hm, hn => by
    obtain ⟨r9, m1, a1, a2, hm1, e1⟩ := take_rel (G := m :: .lst ((acc.map PyData.int).map .dat) :: tail) (l := 0) (top := 9) rfl hm (by decide) (by decide)
    obtain ⟨r3, m2, b1, b2, hm2, e2⟩ := take_rel (G := m1 :: .lst ((acc.map PyData.int).map .dat) :: tail) (l := 0) (top := 3) rfl hm1 (by decide) (by decide)
    obtain ⟨x, m3, hx, hm3, e3⟩ := one_rel (G := m2 :: .lst ((acc.map PyData.int).map .dat) :: (tail ++ [.lst (([.int 0, .int 1, .int r9, .int (P60 + r3)] : List PyData).map .dat)])) (l := 0) (k := tail.length + 2) (xs := ([.int 0, .int 1, .int r9, .int (P60 + r3)] : List PyData).map .dat) rfl (by simp) (by omega) hm2 (by simp) (by simp) cleans_dat
    obtain ⟨y, hy, rfl⟩ := List.mem_map.mp hx
    have hP := P60_in
    obtain ⟨c, rfl, hc⟩ : ∃ c, y = .int c ∧ Prt c := by
      simp only [List.mem_cons, List.not_mem_nil, or_false] at hy
      unfold Prt
      rcases hy with rfl | rfl | rfl | rfl
      · exact ⟨0, rfl, by omega⟩
      · exact ⟨1, rfl, by omega, by
          have : 8 ≤ P60 := by decide +kernel
          omega⟩
      · exact ⟨r9, rfl, a1, by
          have : 8 ≤ P60 := by decide +kernel
          omega⟩
      · exact ⟨P60 + r3, rfl, by omega⟩
    obtain ⟨m4, vs, tail', t3, hm4, h1, h2, ih⟩ := dc_loop q K ds m3 (acc ++ [c]) (tail ++ [.lst (([.int 0, .int 1, .int r9, .int (P60 + r3)] : List PyData).map .dat)]) (.d d) hm3 (by simp at hn ⊢; omega)
    refine ⟨m4, c :: vs, tail', t3, hm4, by simp [h1], fun z hz => ?_, ?_⟩
    · rcases List.mem_cons.mp hz with rfl | hz
      · exact hc
      · exact h2 z hz
    · have hl : ((acc.map PyData.int).map D.dat).length < 100000 := by simp at hn ⊢; omega
      have ha : ((acc ++ [c]).map PyData.int).map D.dat = (acc.map PyData.int).map D.dat ++ [.dat (.int c)] := by simp
      have hb : (acc ++ c :: vs) = (acc ++ [c]) ++ vs := by simp
      rw [ha] at ih
      rw [hb]
      refine (forL_nx (env1 := [.d (.ref 0), K, .d (.ref 1), .d d]) (G1 := m :: .lst ((acc.map PyData.int).map .dat) :: tail) (e := [.d (.ref 0), K, .d (.ref 1), .d d]) (g := m3 :: .lst ((acc.map PyData.int).map D.dat ++ [.dat (.int c)]) :: (tail ++ [.lst (([.int 0, .int 1, .int r9, .int (P60 + r3)] : List PyData).map .dat)])) trivial rfl ?_).trans ih
      unfold dcF
      rw [one_eq, take_eq]
      have hq : ([.int 0, .int 1, .int r9, .int (P60 + r3)] : List PyData).map D.dat = [.dat (.int 0), .dat (.int 1), .dat (.int r9), .dat (.int (P60 + r3))] := rfl
      rw [hq] at e3 ⊢
      have w := @gPow_60
      generalize ((acc.map PyData.int).map D.dat) = Y at *
      simp [e1, e2, e3, hl, w]
theorem count_drawn (q : ErrC) {m : MO} (hm : Src m) (n : Nat) (hn : n ≤ 5) : ∃ m' v, Src m' ∧ v.length = n ∧ (∀ x ∈ v, Prt x) ∧ ∀ (G : Hh) (l : Nat), G[l]? = some m → relCall (f__law_drawn_count q) [.ref l, .dat (.int n)] G = .ok (.dat (V v)) (G.set l m') := by
  obtain ⟨m', v, tail, s3, hm', h1, h2, e⟩ := dc_loop q (.d (.dat (.int n))) (rngD 0 n) m [] [] .no hm (by unfold rngD; simp; omega)
  have hl : v.length = n := by rw [h1]; unfold rngD; simp
  refine ⟨m', v, hm', hl, h2, fun G l hG => ?_⟩
  have hok : okR (n : Int) := by unfold okR; omega
  have e2 : sFor (srcRange1 (aCons (eVar 1) aNil)) (aName 3) (dcF q) [.d (.ref 0), .d (.dat (.int n)), .d (.ref 1), .no] [m, .lst []] = .nx [.d (.ref 0), .d (.dat (.int n)), .d (.ref 1), s3] (m' :: .lst ((v.map PyData.int).map .dat) :: tail) := by
    rw [sFor_ok (xs := rngD 0 n) (chk := yesH) (G1 := [m, .lst []])]
    · exact e
    · simp [hok]
  have e0 : f__law_drawn_count q = fnD 4 (sSeq (sAsg (eArgs gLstD aNil) (aName 2)) (sSeq (sFor (srcRange1 (aCons (eVar 1) aNil)) (aName 3) (dcF q)) (sRet (eArgs gTuple (aCons (eVar 2) aNil))))) := rfl
  refine rel_1 (ds' := [.ref 0, .dat (.int n)]) (G1 := .lst ((v.map PyData.int).map .dat) :: tail) rfl rfl rfl hG hm.clean ?_ hm'.clean rfl
  rw [e0]
  have d1 : mkTup ((v.map PyData.int).map D.dat) = .dat (V v) := mkTup_map
  generalize ((v.map PyData.int).map D.dat) = Y at *
  generalize sFor (srcRange1 (aCons (eVar 1) aNil)) (aName 3) (dcF q) = X at *
  simp [e2, d1]
end K01

set_option Elab.async false
set_option linter.all false
set_option maxRecDepth 100000
set_option maxHeartbeats 1000000
namespace K01
open PySem PySem.Spec PyProof.Rows L2 DL
open Classical
/-! ### the law -/
theorem Prt.in {x : Int} (h : Prt x) : 0 ≤ x ∧ x + 3 ≤ BB := by
  have := P60_in
  unfold Prt at h
  omega
theorem cnt_of {ks : KS} {v : List Int} (h1 : v.length = ks.length) (h2 : ∀ x ∈ v, Prt x) : Cnt ks v := ⟨h1, fun x hx => (h2 x hx).in.1, fun x hx => by have := (h2 x hx).in; omega⟩
theorem ix_kinds {ks : KS} {G : Hh} : gIx (.dat (grD ks)) (.dat (.int 1)) G = some (.dat (KT' ks), G) := by
  unfold grD
  simp
theorem len_kinds {ks : KS} {G : Hh} : gLen [.dat (KT' ks)] G = some (.dat (.int ks.length), G) := by simp
noncomputable def cF (q : ErrC) : ES := (eCallA 2 (relCall (f__law_drawn_count q)) (aCons (eVar 2) (aCons (eArgs gLen (aCons (eBin gIx (eVar 3) (eC (.dat (.int 1)))) aNil)) aNil)))
theorem cs_loop (q : ErrC) {ks : KS} (hk : ks.length ≤ 3) (z0 z1 : Sl) : ∀ (ds : List D) (m : MO) (acc : List (List Int)), Src m → acc.length + ds.length ≤ 10 → ∃ m' vs, Src m' ∧ vs.length = ds.length ∧ (∀ v ∈ vs, v.length = ks.length ∧ ∀ x ∈ v, Prt x) ∧
    lcL (aName 5) tNo (cF q) 1 yesH [z0, z1, .d (.ref 0), .d (.dat (grD ks)), .no, .no, .no, .no] ds [m, .lst (acc.map fun v => .dat (V v))] = .ok (.ref 1) [m', .lst ((acc ++ vs).map fun v => .dat (V v))]
  | [], m, acc, hm, _ => ⟨m, [], hm, rfl, (fun x hx => by cases hx), by rw [lcL, if_pos (show yesH _ from trivial), List.append_nil]⟩
  | d :: ds, m, acc, hm, hn => by
    obtain ⟨m1, v, hm1, h1, h2, e⟩ := count_drawn q hm ks.length (by omega)
    obtain ⟨m2, vs, hm2, i1, i2, ih⟩ := cs_loop q hk z0 z1 ds m1 (acc ++ [v]) hm1 (by simp at hn ⊢; omega)
    have e' := e [m, .lst (acc.map fun v => .dat (V v))] 0 rfl
    refine ⟨m2, v :: vs, hm2, by simp [i1], fun w hw => ?_, ?_⟩
    · rcases List.mem_cons.mp hw with rfl | hw
      · exact ⟨h1, h2⟩
      · exact i2 w hw
    · have hl : (acc.map fun v => D.dat (V v)).length < 100000 := by simp at hn ⊢; omega
      have ha : (acc ++ [v]).map (fun v => D.dat (V v)) = (acc.map fun v => D.dat (V v)) ++ [.dat (V v)] := by simp
      have hb : (acc ++ v :: vs) = (acc ++ [v]) ++ vs := by simp
      rw [ha] at ih
      rw [hb]
      generalize (acc.map fun v => D.dat (V v)) = Y at *
      have w1 := @ix_kinds ks
      have w2 := @len_kinds ks
      have ef : cF q [z0, z1, .d (.ref 0), .d (.dat (grD ks)), .no, .d d, .no, .no] [m, .lst Y] = .ok (.dat (V v)) [m1, .lst Y] := by
        unfold cF
        generalize grD ks = g at *
        generalize KT' ks = kd at *
        generalize V v = vd at *
        simp [w1, w2, e', -gLen_one]
      rw [lcL, if_pos (show yesH _ from trivial)]
      simp only [e_aName, List.set_cons_succ, List.set_cons_zero, e_tNo, ef]
      simp only [List.getElem?_cons_succ, List.getElem?_cons_zero, if_pos hl, List.set_cons_succ, List.set_cons_zero]
      exact ih
noncomputable def adj (q : ErrC) : SS := (sIf (sAnd (tTest' truB (eBin gNe (eBin gIx (eVar 4) (eC (.dat (.int 0)))) (eArgs gTupD aNil))) (tTest' truB (eBin gEq (eCallA 2 (relCall (f__law_take q)) (aCons (eVar 2) (aCons (eC (.dat (.int 2))) aNil))) (eC (.dat (.int 0)))))) (sSeq (sAsg (eCallA 2 (relCall (f__law_take q)) (aCons (eVar 2) (aCons (eArgs gLen (aCons (eBin gIx (eVar 4) (eC (.dat (.int 0)))) aNil)) aNil))) (aName 6))
    (sAsg (eBin gAdd (eBin gAdd (eSl (eBin gIx (eVar 4) (eC (.dat (.int 0)))) oNone (oSome (eVar 6))) (eArgs gTupD (aCons (eBin gAdd (eBin gIx (eBin gIx (eVar 4) (eC (.dat (.int 0)))) (eVar 6)) (eC (.dat (.int 1)))) aNil))) (eSl (eBin gIx (eVar 4) (eC (.dat (.int 0)))) (oSome (eBin gAdd (eVar 6) (eC (.dat (.int 1))))) oNone)) (aSub (eVar 4) (eC (.dat (.int 1))) gSetL))) sNil)
theorem gEq_ii {i j : Int} {G : Hh} : gEq (.dat (.int i)) (.dat (.int j)) G = some (.dat (.bool (i == j)), G) := by rw [gEq_dat, eqv_int, if_pos (by simp)]
theorem adj_ok (q : ErrC) {ks : KS} (hk : ks.length ≤ 3) {c0 c1 c2 : List Int} (h0 : c0.length = ks.length ∧ ∀ x ∈ c0, Prt x) (h1 : Cnt ks c1) (z0 z1 z3 : Sl) {m : MO} (hm : Src m) : ∃ m' c1' s6, Src m' ∧ Cnt ks c1' ∧
    adj q [z0, z1, .d (.ref 0), z3, .d (.ref 1), .no, .no, .no] [m, .lst [.dat (V c0), .dat (V c1), .dat (V c2)]] = .nx [z0, z1, .d (.ref 0), z3, .d (.ref 1), .no, s6, .no] [m', .lst [.dat (V c0), .dat (V c1'), .dat (V c2)]] := by
  obtain ⟨hl, hp⟩ := h0
  have e1 := fun G => gNe_nil (v := c0) (G := G)
  by_cases hne : c0 = []
  · refine ⟨m, c1, .no, hm, h1, ?_⟩
    have e0 : c0.isEmpty = true := by rw [hne]; rfl
    rw [e0] at e1
    unfold adj
    generalize V c0 = v0 at *
    generalize V c1 = v1 at *
    generalize V c2 = v2 at *
    simp [e1, -gNe_dat]
  · have hpos := List.length_pos_iff.mpr hne
    have e0 : c0.isEmpty = false := by cases c0 with
      | nil => exact absurd rfl hne
      | cons _ _ => rfl
    rw [e0] at e1
    obtain ⟨r, m1, r1, r2, hm1, e2⟩ := take_rel (G := [m, .lst [.dat (V c0), .dat (V c1), .dat (V c2)]]) (l := 0) (top := 2) rfl hm (by decide) (by decide)
    by_cases hr : r = 0
    · obtain ⟨p, m2, p1, p2, hm2, e3⟩ := take_rel (G := [m1, .lst [.dat (V c0), .dat (V c1), .dat (V c2)]]) (l := 0) (top := c0.length) rfl hm1 (by omega) (by omega)
      obtain ⟨k, rfl⟩ : ∃ k : Nat, p = (k : Int) := ⟨p.toNat, by omega⟩
      have hkl : k < c0.length := by omega
      refine ⟨m2, c0.take k ++ [c0[k] + 1] ++ c0.drop (k + 1), .d (.dat (.int k)), hm2, ⟨by simp; omega, fun x hx => ?_, fun x hx => ?_⟩, ?_⟩
      · rcases List.mem_append.mp hx with hx | hx
        · rcases List.mem_append.mp hx with hx | hx
          · exact (hp x (List.mem_of_mem_take hx)).in.1
          · simp at hx
            have := (hp _ (List.getElem_mem hkl)).in
            omega
        · exact (hp x (List.mem_of_mem_drop hx)).in.1
      · rcases List.mem_append.mp hx with hx | hx
        · rcases List.mem_append.mp hx with hx | hx
          · have := (hp x (List.mem_of_mem_take hx)).in
            omega
          · simp at hx
            have := (hp _ (List.getElem_mem hkl)).in
            omega
        · have := (hp x (List.mem_of_mem_drop hx)).in
          omega
      · have hV : V (c0.take k ++ [c0[k] + 1] ++ c0.drop (k + 1)) = .tuple ((c0.map PyData.int).take k ++ [.int (c0[k] + 1)] ++ (c0.map PyData.int).drop (k + 1)) := by
          unfold V
          rw [List.map_append, List.map_append, List.map_take, List.map_drop]
          rfl
        rw [hV]
        have c2' := cutL_to (c0.map PyData.int) k
        have c3 := cut_from (xs := c0.map PyData.int) k
        have n1 : ((c0.map PyData.int).take k).length + 1 ≤ 100000 := by simp; omega
        have n2 : ((c0.map PyData.int).take k).length + 1 + ((c0.map PyData.int).drop (k + 1)).length ≤ 100000 := by simp; omega
        have a1 : atI (c0.map PyData.int) (k : Int) = some (.int c0[k]) := by rw [DL.atI_nat]; simp [hkl]
        have eL : gLen [.dat (V c0)] = fun G => some (.dat (.int c0.length), G) := by funext G; simp
        have iX : ixN 3 1 = some 1 := by decide +kernel
        unfold adj
        rw [take_eq]
        subst hr
        unfold V at e1 e2 e3 eL ⊢
        generalize c0.map PyData.int = vd at *
        generalize c1.map PyData.int = v1 at *
        generalize c2.map PyData.int = v2 at *
        generalize hT : vd.take k = T1 at *
        generalize hT2 : vd.drop (k + 1) = T2 at *
        simp [e1, e2, e3, eL, c2', c3, n1, n2, a1, iX, gEq_ii, -gEq_dat, -gNe_dat, -gLen_one]
    · refine ⟨m1, c1, .no, hm1, h1, ?_⟩
      have hr' : (r == 0) = false := by simpa using hr
      unfold adj
      rw [take_eq]
      generalize V c0 = v0 at *
      generalize V c1 = v1 at *
      generalize V c2 = v2 at *
      simp [e1, e2, hr', gEq_ii, -gEq_dat, -gNe_dat]
end K01

set_option Elab.async false
set_option linter.all false
set_option maxRecDepth 100000
set_option maxHeartbeats 1000000
namespace K01
open PySem PySem.Spec PyProof.Rows L2 DL
open Classical
abbrev BARE : PyData := .tuple [.tuple [], .tuple [], .tuple [.str "done"]]
noncomputable def bareF (q : ErrC) : SS := (sIf (sOr (tTest' truB (eBin gNe (eCallA 1 (relCall (f_nought q)) (aCons (eVar 1) aNil)) (eArgs gTupD aNil))) (sOr (tTest' truB (eBin gNe (eCallA 2 (relCall (f_key q)) (aCons (eVar 1) (aCons (eArgs gTupD aNil) aNil))) (eArgs gTupD (aCons (eC (.dat (.int 0))) (aCons (eArgs gTupD aNil) aNil))))) (sOr (tTest' truB (eBin gNe (eCallA 2 (relCall (f_plus q)) (aCons (eArgs gTupD aNil) (aCons (eArgs gTupD aNil) aNil))) (eArgs gTupD aNil))) (tTest' truB (eBin gIsNot (eCallA 2 (relCall (f_below q)) (aCons (eArgs gTupD aNil) (aCons (eArgs gTupD aNil) aNil))) (eC (.dat (.bool true)))))))) (sRet (eC (.dat (.bool false)))) sNil)
theorem gNe_key {p p' : Int} {v w : List Int} {G : Hh} : gNe (.dat (.tuple [.int p, V v])) (.dat (.tuple [.int p', V w])) G = some (.dat (.bool (!(decide (p = p') && decide (v = w)))), G) := by rw [gNe_dat, eqv_key, if_pos (by rw [depth_key]; omega)]
theorem bare_ok (q : ErrC) (z0 z2 z3 z4 z5 z6 z7 : Sl) (G : Hh) : bareF q [z0, .d (.dat BARE), z2, z3, z4, z5, z6, z7] G = .nx [z0, .d (.dat BARE), z2, z3, z4, z5, z6, z7] G := by
  have e1 : ∀ G, relCall (f_nought q) [.dat BARE] G = .ok (.dat (.tuple [])) G := fun G => call0 (G := G) (nought_ok q gd_bare)
  have e2 : ∀ G, relCall (f_key q) [.dat BARE, .dat (.tuple [])] G = .ok (.dat (.tuple [.int 0, .tuple []])) G := fun G => call0 (G := G) (by
    have := key_ok q gd_bare [] rfl (fun x hx => by cases hx)
    rwa [prV_nil] at this)
  have e3 : ∀ G, relCall (f_plus q) [.dat (.tuple []), .dat (.tuple [])] G = .ok (.dat (.tuple [])) G := fun G => call0 (G := G) (plus_ok q [] [] (by decide))
  have e4 : ∀ G, relCall (f_below q) [.dat (.tuple []), .dat (.tuple [])] G = .ok (.dat (.bool true)) G := fun G => call0 (G := G) (below_ok q [] [] (by decide))
  have g1 : ∀ G, gNe (.dat (.tuple [])) (.dat (.tuple [])) G = some (.dat (.bool false), G) := fun G => gNe_nil (v := []) (G := G)
  have g2 : ∀ G, gNe (.dat (.tuple [.int 0, .tuple []])) (.dat (.tuple [.int 0, .tuple []])) G = some (.dat (.bool false), G) := fun G => gNe_key (p := 0) (p' := 0) (v := []) (w := []) (G := G)
  unfold bareF
  generalize BARE = b at *
  simp [e1, e2, e3, e4, g1, g2, -gNe_dat]
/-- no count is found that is not right -/
theorem ones_ok (q : ErrC) {ks : KS} (h : Gd (grD ks) ks) {cs : List (List Int)} (hc : ∀ v ∈ cs, Cnt ks v) (hn : cs.length ≤ 10) (z0 z1 z2 z5 z6 : Sl) (m : MO) :
    ∃ G2, eBin gNe (eLc (srcSeq (eVar 4)) (aName 7) (sNot (tTest' tru (eCallA 2 (relCall (f__law_one_right q)) (aCons (eVar 3) (aCons (eVar 7) aNil))))) (eVar 7) [7]) (eArgs gLstD aNil) [z0, z1, z2, .d (.dat (grD ks)), .d (.ref 1), z5, z6, .no] [m, .lst (cs.map fun v => .dat (V v))] =
      .ok (.dat (.bool false)) (m :: .lst (cs.map fun v => .dat (V v)) :: G2) := by
  have e1 : eLc (srcSeq (eVar 4)) (aName 7) (sNot (tTest' tru (eCallA 2 (relCall (f__law_one_right q)) (aCons (eVar 3) (aCons (eVar 7) aNil))))) (eVar 7) [7] [z0, z1, z2, .d (.dat (grD ks)), .d (.ref 1), z5, z6, .no] [m, .lst (cs.map fun v => .dat (V v))] = .ok (.ref 2) [m, .lst (cs.map fun v => .dat (V v)), .lst []] := by
    rw [eLc_ok (xs := cs.map fun v => .dat (V v)) (chk := fun g => g[1]? = some (.lst (cs.map fun v => .dat (V v)))) (G1 := [m, .lst (cs.map fun v => .dat (V v))]) (by simp)]
    refine (lcL_map (l := 2) (fun v : List Int => D.dat (V v)) (fun v => [z0.cut, z1.cut, z2.cut, .d (.dat (grD ks)), .d (.ref 1), z5.cut, z6.cut, .d (.dat (V v))]) (fun _ => false) (fun v => .dat (V v)) (fun g => g[1]? = some (.lst (cs.map fun v => .dat (V v)))) (fun g zs hg => by
      rw [List.getElem?_set_ne (by decide)]; exact hg) (fun g hg => hg) cs [] _ (fun v hv g hg => ⟨rfl, ?_, fun z => nomatch z⟩) rfl rfl (by simp; omega)).trans ?_
    · have e := call0 (G := g) (one_ok' q h (hc v hv))
      generalize grD ks = gd at *
      generalize V v = vd at *
      simp [e]
    · rw [List.filter_eq_nil_iff.mpr (fun _ _ => by simp)]
      rfl
  refine ⟨[.lst [], .lst []], ?_⟩
  generalize eLc (srcSeq (eVar 4)) (aName 7) (sNot (tTest' tru (eCallA 2 (relCall (f__law_one_right q)) (aCons (eVar 3) (aCons (eVar 7) aNil))))) (eVar 7) [7] = X at *
  generalize MO.lst (cs.map fun v => D.dat (V v)) = M at *
  have e3 : gNe (.ref 2) (.ref 3) [m, M, .lst [], .lst []] = some (.dat (.bool false), [m, M, .lst [], .lst []]) := ne_nil (a := []) rfl rfl rfl
  simp [e1, e3]
theorem law_ok (q : ErrC) (ns : List Int) : ∃ G1, f_law q [.fro (ns.map PyData.int)] [] = .ok (.dat (.bool true)) G1 := by
  obtain ⟨mn, hmn, e1⟩ := pool_rel ns []
  obtain ⟨m1, G1, ks, hm1, hg, e2⟩ := ground_ok q hmn
  have e2' : relCall (f__law_drawn_ground q) [.ref 0] [mn] = .ok (.dat (grD ks)) [m1] := rel_1 (G := [mn]) (l := 0) (ds := [.ref 0]) (ds' := [.ref 0]) (G1 := G1) rfl rfl rfl rfl hmn.clean e2 hm1.clean rfl
  have hk := hg.few
  obtain ⟨m2, cs, hm2, hl, hcs, e3⟩ := cs_loop q hk (.d (.fro (ns.map PyData.int))) (.d (.dat BARE)) (rngD 0 3) m1 [] hm1 (by decide)
  obtain ⟨c0, c1, c2, rfl⟩ : ∃ a b c, cs = [a, b, c] := by
    have hl : cs.length = 3 := hl
    match cs, hl with
    | [a, b, c], _ => exact ⟨a, b, c, rfl⟩
  have hc0 := hcs c0 (by simp)
  have hc1 := hcs c1 (by simp)
  have hc2 := hcs c2 (by simp)
  have e3' : eLc (srcRange1 (aCons (eC (.dat (.int 3))) aNil)) (aName 5) tNo (cF q) [5] [.d (.fro (ns.map PyData.int)), .d (.dat BARE), .d (.ref 0), .d (.dat (grD ks)), .no, .no, .no, .no] [m1] = .ok (.ref 1) [m2, .lst [.dat (V c0), .dat (V c1), .dat (V c2)]] := by
    have hok : okR 3 := by decide
    rw [eLc_ok (xs := rngD 0 3) (chk := yesH) (G1 := [m1]) (by simp [hok])]
    exact e3
  obtain ⟨m3, c1', s6, hm3, hc1', e4⟩ := adj_ok q hk hc0 (cnt_of hc1.1 hc1.2) (c2 := c2) (.d (.fro (ns.map PyData.int))) (.d (.dat BARE)) (.d (.dat (grD ks))) hm2
  have k0 := cnt_of hc0.1 hc0.2
  have k2 := cnt_of hc2.1 hc2.2
  obtain ⟨G2, e5⟩ := ones_ok q hg (cs := [c0, c1', c2]) (fun v hv => by
    simp at hv
    rcases hv with rfl | rfl | rfl
    · exact k0
    · exact hc1'
    · exact k2) (by simp) (.d (.fro (ns.map PyData.int))) (.d (.dat BARE)) (.d (.ref 0)) .no s6 m3
  have e6 := fun G => call0 (G := G) (two_ok q hg k0 hc1' k2)
  have e7 := fun G => call0 (G := G) (two_ok q hg hc1' k2 k0)
  obtain ⟨m4, G3, hm4, e8⟩ := odd_ok q hg k0 hm3
  have e8' : relCall (f__law_odd_right q) [.ref 0, .dat (grD ks), .dat (V c0)] (m3 :: .lst [.dat (V c0), .dat (V c1'), .dat (V c2)] :: G2) = .ok (.dat (.bool true)) (m4 :: .lst [.dat (V c0), .dat (V c1'), .dat (V c2)] :: G2) :=
    rel_1 (G := m3 :: .lst [.dat (V c0), .dat (V c1'), .dat (V c2)] :: G2) (l := 0) (ds := [.ref 0, .dat (grD ks), .dat (V c0)]) (ds' := [.ref 0, .dat (grD ks), .dat (V c0)]) (G1 := G3) rfl rfl rfl rfl hm3.clean e8 hm4.clean rfl
  have e9 := bare_ok q (.d (.fro (ns.map PyData.int))) .no .no .no .no .no .no []
  have e5' : eBin gNe (eLc (srcSeq (eVar 4)) (aName 7) (sNot (tTest' tru (eCallA 2 (relCall (f__law_one_right q)) (aCons (eVar 3) (aCons (eVar 7) aNil))))) (eVar 7) [7]) (eArgs gLstD aNil) [.d (.fro (ns.map PyData.int)), .d (.dat BARE), .d (.ref 0), .d (.dat (grD ks)), .d (.ref 1), .no, s6, .no] [m3, .lst [.dat (V c0), .dat (V c1'), .dat (V c2)]] = .ok (.dat (.bool false)) (m3 :: .lst [.dat (V c0), .dat (V c1'), .dat (V c2)] :: G2) := e5
  have e0 : f_law q = fnD 8 (sSeq (sAsg (eArgs gTupD (aCons (eArgs gTupD aNil) (aCons (eArgs gTupD aNil) (aCons (eArgs gTupD (aCons (eC (.dat (.str "done"))) aNil)) aNil)))) (aName 1))
    (sSeq (bareF q)
    (sSeq (sAsg (eCallA 2 (relCall (f__law_pool q)) (aCons (eVar 0) (aCons (eC (.dat (.int 0))) aNil))) (aName 2))
    (sSeq (sAsg (eCallA 1 (relCall (f__law_drawn_ground q)) (aCons (eVar 2) aNil)) (aName 3))
    (sSeq (sAsg (eLc (srcRange1 (aCons (eC (.dat (.int 3))) aNil)) (aName 5) tNo (cF q) [5]) (aName 4))
    (sSeq (adj q)
    (sSeq (sIf (tTest' truB (eBin gNe (eLc (srcSeq (eVar 4)) (aName 7) (sNot (tTest' tru (eCallA 2 (relCall (f__law_one_right q)) (aCons (eVar 3) (aCons (eVar 7) aNil))))) (eVar 7) [7]) (eArgs gLstD aNil))) (sRet (eC (.dat (.bool false)))) sNil)
    (sSeq (sIf (sNot (tTest' tru (eCallA 4 (relCall (f__law_two_right q)) (aCons (eVar 3) (aCons (eBin gIx (eVar 4) (eC (.dat (.int 0)))) (aCons (eBin gIx (eVar 4) (eC (.dat (.int 1)))) (aCons (eBin gIx (eVar 4) (eC (.dat (.int 2)))) aNil))))))) (sRet (eC (.dat (.bool false)))) sNil)
    (sSeq (sIf (sNot (tTest' tru (eCallA 4 (relCall (f__law_two_right q)) (aCons (eVar 3) (aCons (eBin gIx (eVar 4) (eC (.dat (.int 1)))) (aCons (eBin gIx (eVar 4) (eC (.dat (.int 2)))) (aCons (eBin gIx (eVar 4) (eC (.dat (.int 0)))) aNil))))))) (sRet (eC (.dat (.bool false)))) sNil)
    (sRet (eCallA 3 (relCall (f__law_odd_right q)) (aCons (eVar 2) (aCons (eVar 3) (aCons (eBin gIx (eVar 4) (eC (.dat (.int 0)))) aNil)))))))))))))) := rfl
  rw [e0, pool_eq]
  have e1' : relCall gPool [.fro (ns.map PyData.int), .dat (.int 0)] [] = .ok (.ref 0) [mn] := e1
  have eb : gTupD [.dat (.tuple []), .dat (.tuple []), .dat (.tuple [.str "done"])] = fun G => some (.dat BARE, G) := by funext G; simp
  generalize eBin gNe (eLc (srcSeq (eVar 4)) (aName 7) (sNot (tTest' tru (eCallA 2 (relCall (f__law_one_right q)) (aCons (eVar 3) (aCons (eVar 7) aNil))))) (eVar 7) [7]) (eArgs gLstD aNil) = X1 at *
  generalize eLc (srcRange1 (aCons (eC (.dat (.int 3))) aNil)) (aName 5) tNo (cF q) [5] = X2 at *
  generalize grD ks = g at *
  generalize V c0 = v0 at *
  generalize V c1' = v1 at *
  generalize V c1 = w1 at *
  generalize V c2 = v2 at *
  generalize ns.map PyData.int = N at *
  have a1 : sAsg (eArgs gTupD (aCons (eArgs gTupD aNil) (aCons (eArgs gTupD aNil) (aCons (eArgs gTupD (aCons (eC (.dat (.str "done"))) aNil)) aNil)))) (aName 1) [.d (.fro N), .no, .no, .no, .no, .no, .no, .no] [] = .nx [.d (.fro N), .d (.dat BARE), .no, .no, .no, .no, .no, .no] [] := by simp
  generalize BARE = b at *
  refine ⟨m4 :: .lst [.dat v0, .dat v1, .dat v2] :: G2, ?_⟩
  simp only [e_fnD, List.map_cons, List.map_nil, List.length_cons, List.length_nil, Nat.zero_add, Nat.reduceSub, List.replicate, List.cons_append, List.nil_append]
  rw [e_sSeq, a1]
  dsimp only
  rw [e_sSeq, e9]
  simp [e1', e2', e3', e4, e5', e6, e7, e8']
end K01

set_option Elab.async false
set_option linter.all false
set_option maxRecDepth 100000
set_option maxHeartbeats 0
namespace K01
open PySem PySem.Spec PyProof.Rows L2 DL
/-! ### the head -/
abbrev iS : Stmt := clsBody (top0 1) 0
theorem scI : FnScope ["self", "what"] ["self", "what"] (defScope iS) := ⟨rfl, rfl, rfl, by decide +kernel, rfl, by decide +kernel, by decide +kernel⟩
theorem bdI : ∀ (kV doc pm : Value) (an : Option Addr) (cdv ct : Value) (us : List Value), us.length = 2 → bindArgs (PySem.W.fnOf "__init__" "Refused.__init__" (defArgs iS) (defBody iS) (defScope iS) .none kV doc pm an cdv ct) ⟨us, []⟩ = pure ((["self", "what"] : List Str).zip us) := fun _ _ _ _ _ _ us hl => match us, hl with | [_, _], _ => rfl
section
variable {P : Program} {w : World} {K : PySem.W.Frag} {mg : Str → Option Value} {base h h0 : Heap}
theorem hbI (hV : mg "ValueError" = none) (vV : PySem.W.findCls K (.type "ValueError") (.type "type") "__init__" = some (.val (.builtin "ValueError.__init__"))) : ∀ (f : Addr) (cdv : Value) (A : Around) (outer : List Env) (s : Shared) (H : Hp) (E : XK), PSs (cxOf (L2.CX P w) P w K mg base ["self", "what"] "Refused.__init__" (defScope iS) f cdv A outer s H E) (defBody iS) (tXI K) := fun _ _ _ _ _ _ _ => by
  refine pss_cons (ps_expr (pe_veinit rfl hV vV (pa_cons (pv 0) (pa_cons (pv 1) pa_nil)))) (pss_cons (ps_ost (pv 0) (pv 1)) (pss_one (ps_ost (pv 0) (pe_cn (pv 0)))))
def fa : List He.Fa := [.free "ValueError", .free "all", .free "bool", .free "enumerate", .free "int", .free "isinstance", .free "len", .free "list", .free "max", .free "range", .free "repr", .free "str", .free "sum", .free "tuple", .free "zip", .int "CELLS" 0, .int "EXITS" 2, .str "LETTERS" "abcdefghijklmnopqrstuvwxyz", .str "LETTERS_AND_FIGURES" "abcdefghijklmnopqrstuvwxyz0123456789", .int "LONGEST_NAME" 12, .int "MOST_STATES" 64, .glo "Refused", .glo "_law_pool", .glo "_law_take", .glo "_law_mixed", .glo "_law_one", .glo "_law_drawn_ground", .glo "_law_is_refused", .glo "is_triple_of_tuples", .glo "is_name", .glo "is_number", .glo "entry_name", .glo "states_of_cells", .glo "made_ground", .glo "price_of", .glo "is_count_of", .glo "price", .glo "key", .glo "_law_odd_right", .glo "_law_drawn_count", .glo "below", .glo "plus", .glo "_law_two_right", .glo "nought", .glo "_law_due_price", .glo "_law_one_right", .glo "law"]
def fn : List He.DefD := [dfi "Refused" "Refused.__init__" iS, dfd "_law_pool" s__law_pool, dfd "_law_take" s__law_take, dfd "_law_mixed" s__law_mixed, dfd "_law_one" s__law_one, dfd "_law_drawn_ground" s__law_drawn_ground, dfd "_law_is_refused" s__law_is_refused, dfd "is_triple_of_tuples" s_is_triple_of_tuples, dfd "is_name" s_is_name, dfd "is_number" s_is_number, dfd "entry_name" s_entry_name, dfd "states_of_cells" s_states_of_cells, dfd "made_ground" s_made_ground, dfd "price_of" s_price_of, dfd "is_count_of" s_is_count_of, dfd "price" s_price, dfd "key" s_key, dfd "_law_odd_right" s__law_odd_right, dfd "_law_drawn_count" s__law_drawn_count, dfd "below" s_below, dfd "plus" s_plus, dfd "_law_two_right" s__law_two_right, dfd "nought" s_nought, dfd "_law_due_price" s__law_due_price, dfd "_law_one_right" s__law_one_right, dfd "law" s_law]
def tf : List He.Defn := [("is_triple_of_tuples", none), ("is_name", none), ("is_count_of", none), ("_law_odd_right", none), ("plus", none), ("nought", none)]
def tl : List TgD := [(("is_triple_of_tuples", none), none), (("is_name", none), none), (("is_count_of", none), none), (("_law_odd_right", none), some (("_law_odd_right" : Str) ++ ".<locals>." ++ "<lambda>")), (("plus", none), none), (("nought", none), none)]
def ex (K : PySem.W.Frag) : Bool := ([veB K,
  errB K "Refused" "BadCount",
  clnB K "BadCount",
  errB K "Refused" "BadGround",
  clnB K "BadGround",
  excB K "BadCount",
  excB K "BadGround",
  decide (PySem.W.exmOne K (.ref (He.ga K "BadCount")) (.ref (He.ga K "Refused")) = some true),
  decide (PySem.W.exmOne K (.ref (He.ga K "BadGround")) (.ref (He.ga K "Refused")) = some true),
  kTupB K "GREATEST_NUMBERS" [(.int 8), (.int 99)],
  kTupB K "MOST_ENTRIES" [(.int 4), (.int 3), (.int 4)],
  kTupB K "RESERVED" [(.str "cells"), (.str "deeds"), (.str "exits"), (.str "if"), (.str "else"), (.str "while"), (.str "catch"), (.str "exit"), (.str "and"), (.str "or"), (.str "not"), (.str "law")],
  decide (PySem.W.kitOne K (.ref (He.ga K "BadCount")) (.ref (He.ga K "BadCount")) = some true),
  decide (PySem.W.kitOne K (.ref (He.ga K "BadGround")) (.ref (He.ga K "BadCount")) = some false),
  uniB K tl] : List Bool).all id
def qq (K : PySem.W.Frag) : ErrC := ⟨He.ga K "Refused", He.ga K "BadGround", He.ga K "BadCount"⟩
def ts : List He.Tab := []
theorem tx (c : He.SaysX fa fn ts tf ex w h0 K) (X : K.In h) (G : h.Ns mainGlobals mg) : Tx P w K mg base (qq K) where
  b_all := He.free_ok X G (c.t.d.fact 1 rfl)
  b_bool := He.free_ok X G (c.t.d.fact 2 rfl)
  b_enumerate := He.free_ok X G (c.t.d.fact 3 rfl)
  b_int := He.free_ok X G (c.t.d.fact 4 rfl)
  b_isinstance := He.free_ok X G (c.t.d.fact 5 rfl)
  b_len := He.free_ok X G (c.t.d.fact 6 rfl)
  b_list := He.free_ok X G (c.t.d.fact 7 rfl)
  b_max := He.free_ok X G (c.t.d.fact 8 rfl)
  b_range := He.free_ok X G (c.t.d.fact 9 rfl)
  b_repr := He.free_ok X G (c.t.d.fact 10 rfl)
  b_str := He.free_ok X G (c.t.d.fact 11 rfl)
  b_sum := He.free_ok X G (c.t.d.fact 12 rfl)
  b_tuple := He.free_ok X G (c.t.d.fact 13 rfl)
  b_zip := He.free_ok X G (c.t.d.fact 14 rfl)
  c_BadCount := gc_of c X G (r := "Refused") (q := "Refused.__init__") (st := iS) (List.mem_of_getElem? (i := 0) rfl) (all_at c.more 1 rfl) (all_at c.more 2 rfl) scI bdI (hbI (He.free_ok X G (c.t.d.fact 0 rfl)) (veB_ok (all_at c.more 0 rfl)))
  c_BadGround := gc_of c X G (r := "Refused") (q := "Refused.__init__") (st := iS) (List.mem_of_getElem? (i := 0) rfl) (all_at c.more 3 rfl) (all_at c.more 4 rfl) scI bdI (hbI (He.free_ok X G (c.t.d.fact 0 rfl)) (veB_ok (all_at c.more 0 rfl)))
  exc_BadCount_BadGround := fun p hp => by
      simp only [List.mem_cons, List.not_mem_nil, or_false] at hp
      rcases hp with rfl | rfl
      · exact (excB_ok (all_at c.more 5 rfl)).1
      · exact (excB_ok (all_at c.more 6 rfl)).1
  exm_Refused_BadCount_BadGround := fun p hp => by
      simp only [List.mem_cons, List.not_mem_nil, or_false] at hp
      rcases hp with rfl | rfl
      · exact of_decide_eq_true (all_at c.more 7 rfl)
      · exact of_decide_eq_true (all_at c.more 8 rfl)
  k_CELLS := He.int_ok X G (c.t.d.fact 15 rfl)
  k_EXITS := He.int_ok X G (c.t.d.fact 16 rfl)
  k_GREATEST_NUMBERS := kTupB_ok X G (all_at c.more 9 rfl)
  k_LETTERS := He.str_ok X G (c.t.d.fact 17 rfl)
  k_LETTERS_AND_FIGURES := He.str_ok X G (c.t.d.fact 18 rfl)
  k_LONGEST_NAME := He.int_ok X G (c.t.d.fact 19 rfl)
  k_MOST_ENTRIES := kTupB_ok X G (all_at c.more 10 rfl)
  k_MOST_STATES := He.int_ok X G (c.t.d.fact 20 rfl)
  k_RESERVED := kTupB_ok X G (all_at c.more 11 rfl)
  kit_BadCount_BadCount_BadGround := fun p hp => by
      simp only [List.mem_cons, List.not_mem_nil, or_false] at hp
      rcases hp with rfl | rfl
      · exact of_decide_eq_true (all_at c.more 12 rfl)
      · exact of_decide_eq_true (all_at c.more 13 rfl)
  m_Refused := He.glo_ok X G (c.t.d.fact 21 rfl)
  what_BadCount_BadGround := fun p hp => by
      simp only [List.mem_cons, List.not_mem_nil, or_false] at hp
      rcases hp with rfl | rfl
      · exact (excB_ok (all_at c.more 5 rfl)).2
      · exact (excB_ok (all_at c.more 6 rfl)).2
theorem hlaw (c : He.SaysX fa fn ts tf ex w h0 K) (X : K.In base) (G : base.Ns mainGlobals mg) (tb : TBs base mg (tl.map (tgT K))) : Has P w K mg base (tl.map (tgT K)) "law" ["script"] 18 (f_law (qq K)) := by
  have t : Tx P w K mg base (qq K) := tx c X G
  have r__law_pool := h__law_pool (T := tl.map (tgT K)) t (hasF_of c X G (List.mem_of_getElem? (i := 1) rfl) (List.mem_of_getElem? (i := 22) rfl)) 
  have r__law_take := h__law_take (T := tl.map (tgT K)) t (hasF_of c X G (List.mem_of_getElem? (i := 2) rfl) (List.mem_of_getElem? (i := 23) rfl)) 
  have r__law_mixed := h__law_mixed (T := tl.map (tgT K)) t (hasF_of c X G (List.mem_of_getElem? (i := 3) rfl) (List.mem_of_getElem? (i := 24) rfl)) r__law_take
  have r__law_one := h__law_one (T := tl.map (tgT K)) t (hasF_of c X G (List.mem_of_getElem? (i := 4) rfl) (List.mem_of_getElem? (i := 25) rfl)) r__law_take
  have r__law_drawn_ground := h__law_drawn_ground (T := tl.map (tgT K)) t (hasF_of c X G (List.mem_of_getElem? (i := 5) rfl) (List.mem_of_getElem? (i := 26) rfl)) r__law_one r__law_take r__law_mixed
  have r__law_is_refused := h__law_is_refused (T := tl.map (tgT K)) t (hasF_of c X G (List.mem_of_getElem? (i := 6) rfl) (List.mem_of_getElem? (i := 27) rfl)) 
  have r_is_triple_of_tuples := h_is_triple_of_tuples (T := tl.map (tgT K)) t (hasC_of (tl := tl) c X G (List.mem_of_getElem? (i := 7) rfl) (List.mem_of_getElem? (i := 28) rfl) (List.mem_of_getElem? (i := 0) rfl) (uni_ok (tl := tl) (all_at c.more 14 rfl) (List.mem_of_getElem? (i := 0) rfl))) tb 
  have r_is_name := h_is_name (T := tl.map (tgT K)) t (hasC_of (tl := tl) c X G (List.mem_of_getElem? (i := 8) rfl) (List.mem_of_getElem? (i := 29) rfl) (List.mem_of_getElem? (i := 1) rfl) (uni_ok (tl := tl) (all_at c.more 14 rfl) (List.mem_of_getElem? (i := 1) rfl))) tb 
  have r_is_number := h_is_number (T := tl.map (tgT K)) t (hasF_of c X G (List.mem_of_getElem? (i := 9) rfl) (List.mem_of_getElem? (i := 30) rfl)) 
  have r_entry_name := h_entry_name (T := tl.map (tgT K)) t (hasF_of c X G (List.mem_of_getElem? (i := 10) rfl) (List.mem_of_getElem? (i := 31) rfl)) r_is_number r_is_name
  have r_states_of_cells := h_states_of_cells (T := tl.map (tgT K)) t (hasF_of c X G (List.mem_of_getElem? (i := 11) rfl) (List.mem_of_getElem? (i := 32) rfl)) 
  have r_made_ground := h_made_ground (T := tl.map (tgT K)) t (hasF_of c X G (List.mem_of_getElem? (i := 12) rfl) (List.mem_of_getElem? (i := 33) rfl)) r_states_of_cells r_entry_name r_is_triple_of_tuples
  have r_price_of := h_price_of (T := tl.map (tgT K)) t (hasF_of c X G (List.mem_of_getElem? (i := 13) rfl) (List.mem_of_getElem? (i := 34) rfl)) 
  have r_is_count_of := h_is_count_of (T := tl.map (tgT K)) t (hasC_of (tl := tl) c X G (List.mem_of_getElem? (i := 14) rfl) (List.mem_of_getElem? (i := 35) rfl) (List.mem_of_getElem? (i := 2) rfl) (uni_ok (tl := tl) (all_at c.more 14 rfl) (List.mem_of_getElem? (i := 2) rfl))) tb r_is_number
  have r_price := h_price (T := tl.map (tgT K)) t (hasF_of c X G (List.mem_of_getElem? (i := 15) rfl) (List.mem_of_getElem? (i := 36) rfl)) r_price_of r_is_count_of r_made_ground
  have r_key := h_key (T := tl.map (tgT K)) t (hasF_of c X G (List.mem_of_getElem? (i := 16) rfl) (List.mem_of_getElem? (i := 37) rfl)) r_price
  have r__law_odd_right := h__law_odd_right (T := tl.map (tgT K)) t (hasC_of (tl := tl) c X G (List.mem_of_getElem? (i := 17) rfl) (List.mem_of_getElem? (i := 38) rfl) (List.mem_of_getElem? (i := 3) rfl) (uni_ok (tl := tl) (all_at c.more 14 rfl) (List.mem_of_getElem? (i := 3) rfl))) tb r__law_is_refused r_key r_price r__law_one r__law_take
  have r__law_drawn_count := h__law_drawn_count (T := tl.map (tgT K)) t (hasF_of c X G (List.mem_of_getElem? (i := 18) rfl) (List.mem_of_getElem? (i := 39) rfl)) r__law_take r__law_one
  have r_below := h_below (T := tl.map (tgT K)) t (hasF_of c X G (List.mem_of_getElem? (i := 19) rfl) (List.mem_of_getElem? (i := 40) rfl)) 
  have r_plus := h_plus (T := tl.map (tgT K)) t (hasC_of (tl := tl) c X G (List.mem_of_getElem? (i := 20) rfl) (List.mem_of_getElem? (i := 41) rfl) (List.mem_of_getElem? (i := 4) rfl) (uni_ok (tl := tl) (all_at c.more 14 rfl) (List.mem_of_getElem? (i := 4) rfl))) tb 
  have r__law_two_right := h__law_two_right (T := tl.map (tgT K)) t (hasF_of c X G (List.mem_of_getElem? (i := 21) rfl) (List.mem_of_getElem? (i := 42) rfl)) r_plus r_key r_below
  have r_nought := h_nought (T := tl.map (tgT K)) t (hasC_of (tl := tl) c X G (List.mem_of_getElem? (i := 22) rfl) (List.mem_of_getElem? (i := 43) rfl) (List.mem_of_getElem? (i := 5) rfl) (uni_ok (tl := tl) (all_at c.more 14 rfl) (List.mem_of_getElem? (i := 5) rfl))) tb r_made_ground
  have r__law_due_price := h__law_due_price (T := tl.map (tgT K)) t (hasF_of c X G (List.mem_of_getElem? (i := 23) rfl) (List.mem_of_getElem? (i := 44) rfl)) 
  have r__law_one_right := h__law_one_right (T := tl.map (tgT K)) t (hasF_of c X G (List.mem_of_getElem? (i := 24) rfl) (List.mem_of_getElem? (i := 45) rfl)) r_nought r_below r_plus r_key r_price r__law_due_price
  have r_law := h_law (T := tl.map (tgT K)) t (hasF_of c X G (List.mem_of_getElem? (i := 25) rfl) (List.mem_of_getElem? (i := 46) rfl)) r__law_odd_right r__law_two_right r__law_one_right r__law_take r__law_drawn_count r__law_drawn_ground r__law_pool r_below r_plus r_key r_nought
  exact r_law
end
abbrev R : PySem.W.OpenRow := PySem.W.OpenLaw.row PySem.Challenge.rw_lawsleft_k01_counts_and_their_order
def loose : List Str := (["Refused", "BadGround", "BadCount", "LETTERS", "LETTERS_AND_FIGURES", "RESERVED", "LONGEST_NAME", "CELLS", "EXITS", "MOST_ENTRIES", "GREATEST_NUMBERS", "MOST_STATES", "is_number", "is_name", "made_ground", "is_triple_of_tuples", "entry_name", "states_of_cells", "nought", "plus", "below", "is_count_of", "price", "key", "price_of", "_law_pool", "_law_take", "_law_one", "_law_mixed", "_law_drawn_ground"] : List Str) ++ (["_law_drawn_count", "_law_due_price", "_law_one_right", "_law_two_right", "_law_is_refused", "_law_odd_right"] : List Str)
abbrev hk : PySem.W.Hook := DL.hookY 6 fa fn ts tf ex
def ob (s : PySem.W.SharedT) : He.AlX := DL.obsY 6 fa fn ts tf ex (HandSHeadRun.getT s)
theorem ob_eq (s : PySem.W.SharedT) : ob s = hk.obs s.abs := DL.obsY_eq (HandSHeadRun.getT_eq s)
theorem run (w : World) : HandSHeadRun.RunEq R (PySem.W.view R.prog [39]) hk ob 20000 loose w := by
  intro os
  kernel_rfl
end K01
open PySem PySem.W PySem.Calls PyProof.Rows
theorem K01.holds (sem_ok : ∀ (q : K01.ErrC) (ns : List Int), ns.length ≤ 63 → (∀ z ∈ ns, Builtin.Int.intBits z ≤ 1048576) → ∃ G1, K01.f_law q [.fro (ns.map PyData.int)] [] = .ok (.dat (.bool true)) G1) : PySem.Challenge.rw_lawsleft_k01_counts_and_their_order.Holds := by
  w_on; o_law
  refine HandSHeadRun.head_any (r := OpenLaw.row PySem.Challenge.rw_lawsleft_k01_counts_and_their_order) (q := view (OpenLaw.row PySem.Challenge.rw_lawsleft_k01_counts_and_their_order).prog [39]) (H := K01.hk) (ob := K01.ob) (M := 20000) (loose := K01.loose) (d := HandSHeadRun.topDef (OpenLaw.row PySem.Challenge.rw_lawsleft_k01_counts_and_their_order).prog 39) (kwd := []) K01.ob_eq
    (by kernel_rfl) (fun s => by kernel_rfl) K01.run (by kernel_rfl) (by kernel_rfl) (by kernel_rfl) (by rfl) (by first | assumption | decide +kernel) (by decide +kernel) ⟨rfl, rfl, rfl, rfl, rfl, by decide +kernel⟩ ?hw ?hc
  case hw => w_witness2
  case hc =>
    refine DL.walk_K (l := PySem.Challenge.rw_lawsleft_k01_counts_and_their_order) (n := 63) (k := 18) (x := "script") rfl (by decide) (by kernel_rfl) ⟨rfl, by decide, by decide⟩ ?F
    intro w mg fa h Y G hmg0
    obtain ⟨K, KX, c⟩ := Y
    have hmg : mg ("law" : PySem.Str) = some (.ref fa) := by
      have e : (HandSHeadRun.topDef (OpenLaw.row PySem.Challenge.rw_lawsleft_k01_counts_and_their_order).prog 39).name = ("law" : PySem.Str) := by kernel_rfl
      rw [← e]
      exact hmg0
    exact ⟨K, KX, DL.lawD_of c KX G hmg (fun ns h1 h2 => sem_ok _ ns h1 h2) fun base B N tb => K01.hlaw c B N tb⟩

set_option Elab.async false
set_option maxRecDepth 100000 in
set_option maxHeartbeats 0 in
theorem PySem.Challenge.cw_lawsleft_k01_counts_and_their_order_holds : PySem.Challenge.rw_lawsleft_k01_counts_and_their_order.Holds := by
  exact K01.holds fun q ns _ _ => K01.law_ok q ns
