import PyProof.Rows.All
import Wide.All
import OpenK.AllK
import Wide.FinOn
import KE.KStateDown
import Lean
import KE.KTypeName
import HandS.Exc
import HandS.ExcInit
import HandS.ForMost
import HandS.ForExc
import HandS.TupAny
import HandS.TupMul
import HandS.TupLe
import HandS.Wide
import HandS.Style
import HandS.IsInst
import HandS.Conv
import HandS.AnyAll
import HandS.CallSlots
import HandS.Flow
import HandS.Zip
import KE.DataEq
import KE.DataCmp
import KE.DataIsa
import PyProof.ReprRoads
import HandS.Lambda
import KE.GoesMore
import KE.GoesEnum
import HandS.ExcField
import HandS.TryOnly
import HandS.WordsExc
import KE.KExcIs
import HandS.ExcIs
import HandS.Comp
import HandS.GenList
import PyProof.TupleOfGen
import HandS.EndTab
import HandS.Head0
import HandS.Head1
import HandS.Head2
import HandS.HeadHook1
import HandS.HeadHook2
import HandS.HeadHook3
import HandS.HeadHook4
import KE.KNestM
import HandS.More
import HandS.Dict
import PySem.Challenge.RW_lawsleft_k00_grounds_made_and_refused
set_option Elab.async false
set_option linter.all false
set_option maxRecDepth 100000
set_option maxHeartbeats 1000000
namespace DL
open PySem PySem.Spec PyProof.Rows L2
/-- the name of a class as its object keeps it -/
def clsNm (K : PySem.W.Frag) (c : Addr) : Option Str := match K.lookup c with
  | some (o : Obj) => (match o.slots[2]? with
    | some (some (Value.str nm _)) => some nm
    | _ => none)
  | none => none
section
open PySem.W PySem.Calls Builtin Builtin.Getset_descriptor
variable {prog : Program} {w : World} {A : Around} {E : Value → Shared → Prop} {s : Shared} {K : Frag} {C : Addr} {R : Result → Shared → Prop} {nm : Str}
theorem clsNm_at (k : K.In s.heap) (e : clsNm K C = some nm) : ∃ o tk, s.heap.get? C = some o ∧ o.slots[2]? = some (some (.str nm tk)) := by
  unfold clsNm at e
  split at e
  · rename_i o ho
    split at e
    · rename_i n tk hs
      cases e
      exact ⟨o, tk, k _ _ ho, hs⟩
    · cases e
  · cases e
theorem clsName_run {tp : Value} (k : K.In s.heap) (ht : typeIn K (.ref C) = some (.type "type")) (e : clsNm K C = some nm) (h : ∀ tk, R (.ok (.ret (.str nm tk))) s) :
    codeAny (model prog w) A (.call (.builtin "getset_descriptor.__get__") ⟨[.builtin "type.__name__", .ref C, tp], []⟩) R s := by
  obtain ⟨o, tk, ho, hs⟩ := clsNm_at k e
  obtain ⟨hp, g, dr, t, os⟩ := s
  have isT : Looks (model prog w) hp (typeOf (.ref C)) (.type "type") := looks_typeIn k ht
  have isS : Looks (model prog w) hp (isSubtype (.type "type") (.type "type")) true := .of_pure (by rw [isSubtype_type]; kernel_rfl)
  refine codeAny_call_builtin KF.slot_gs.plain KF.entry_gs (KF.slot_gs.check _ _ _ _ _ _ _ _ ktyn_type (KF.args_gs _ _ _) ?_)
  unfold Builtin.«getset_descriptor.__get__» descrGet
  rw [dga_obj]
  refine wpAny_bind (wpAny_pure ?_)
  unfold descrGetter descrCheckInstance descrNameAndClass isInstance
  simp only [ktyn_owner]
  repeat lk
  refine ⟨Code.quiet_builtin _ (by decide +kernel), codeAny_builtin ktyn_entry ?_⟩
  unfold Builtin.«type.__name__» keptObject slotAt
  dsimp only
  refine wpAny_bind (wpAny_bind (wpAny_loadPart ho ?_))
  refine wpAny_pure ?_
  rw [hs]
  exact wpAny_pure (h tk)
theorem clsName_attr {expr : Bool} {Q : Value → Shared → Prop} (k : K.In s.heap) (hr : readsIn K C (.type "type") = true) (ht : typeIn K (.ref C) = some (.type "type")) (e : clsNm K C = some nm)
    (hf : findCls K (.ref C) (.type "type") "__name__" = some (.get (.builtin "getset_descriptor.__get__") (.builtin "type.__name__") (.ref C) (.type "type")))
    (h : ∀ tk, Q (.str nm tk) { s with toks := s.toks + 1 }) : wpAny (model prog w) A (getAttr (.ref C) "__name__" expr) Q E s := by
  refine cls_read k hr hf ?_
  show wpAny _ _ (do ret (← holding [Value.builtin "type.__name__"] (call (.builtin "getset_descriptor.__get__") [.builtin "type.__name__", .ref C, .type "type"]))) _ _ _
  refine wpAny_bind (wpAny_holding (wpAny_call (clsName_run (s := { s with toks := s.toks + 1 }) k ht e fun tk => ?_)))
  exact wpAny_pure (handed_on rfl (h tk))

/-- an instance of an error's class tells its class -/
theorem errCls_attr {x : Addr} {ox : Obj} {od : Option Obj} {expr : Bool} {Q : Value → Shared → Prop} (k : K.In s.heap) (I : InstAt s.heap x ox C od) (hga : findIn K (.ref C) "__getattribute__" = some (some (.builtin "BaseException.__getattribute__"))) (hgt : findIn K (.ref C) "__getattr__" = some none)
    (hsub : subIn K (.ref C) (.type "BaseException") = some true) (hf : findObj K C od "__class__" = some (.bind (.builtin "getset_descriptor.__get__") (.builtin "object.__class__"))) (hm : mroIn K C (.type "object") = some true)
    (h : Q (.ref C) { s with toks := s.toks + 1 }) : wpAny (model prog w) A (getAttr (.ref x) "__class__" expr) Q E s := by
  obtain ⟨hp, g, d, t, os⟩ := s
  have isC := I.type (M := model prog w)
  have l1 := looks_findIn (M := model prog w) k hga
  have l2 := looks_findIn (M := model prog w) k hgt
  have l3 := looks_find (M := model prog w) k I hf
  have isE : Looks (model prog w) hp (isInstance (.ref x) (.type "BaseException")) true := isC.andThen (looks_subIn k hsub)
  have n0 : (expr && onTheHeap (Value.builtin "BaseException.__getattribute__")) = false := by cases expr <;> rfl
  have n2 : (Value.builtin "BaseException.__getattribute__" == Value.builtin "object.__getattribute__") = false := by decide +kernel
  have n1 : (onTheHeap (Value.ref C) && Value.builtin "BaseException.__getattribute__" == Value.builtin "object.__getattribute__") = false := by rw [n2]; rfl
  unfold getAttr getAttrBy
  refine wpAny_bind (wpAny_mkText (wpAny_holding (wpAny_bind (isC.at (wpAny_bind (l1.at ?_))))))
  show wpAny _ _ (if (onTheHeap (Value.ref C) && Value.builtin "BaseException.__getattribute__" == Value.builtin "object.__getattribute__") = true then _ else _) _ _ _
  rw [n1, if_neg Bool.false_ne_true]; unfold getAttrByItsOwn hookBefore
  refine wpAny_bind ?_; rw [if_pos (show onTheHeap (Value.ref C) = true from rfl)]
  refine l2.at (wpAny_bind (wpAny_attempt (wpAny_holding ?_)))
  unfold callGetattribute; rw [n0, if_neg Bool.false_ne_true]
  unfold boundAndCalled; rw [PySem.F.excAttr_ValueError.ga.bind (.ref x)]
  refine wpAny_bind (wpAny_pure ?_)
  show wpAny _ _ (call (.builtin "BaseException.__getattribute__") [.ref x, .str "__class__" t]) _ _ _
  refine wpAny_call (codeAny_call_builtin PySem.F.excAttr_ValueError.ga.plain PySem.F.entry_bexc_ga ?_)
  refine @check_slot (model prog w) _ _ ⟨hp, g, d, t + 1, os⟩ "BaseException.__getattribute__" "BaseException" "__getattribute__" (.ref x) [.str "__class__" t] [] _ (by decide +kernel) (by decide +kernel) isE (PySem.F.args_bexc_ga (.ref x) (.str "__class__" t)) ?_
  unfold Builtin.«object.__getattribute__»
  refine wpAny_bind (wpAny_of_eq (a := ((Value.ref x : Value), [Value.str "__class__" t])) (by first | rfl | (simp only [slotArgs]; rfl)) (wpAny_bind (wpAny_pure (wpAny_bind (isC.at (wpAny_bind (l3.at ?_)))))))
  show wpAny _ _ (holding [Value.builtin "object.__class__"] (call (.builtin "getset_descriptor.__get__") [.builtin "object.__class__", .ref x, .ref C]) >>= ret) _ _ _
  refine wpAny_bind (wpAny_holding (wpAny_call (class_get (s := ⟨hp, g, d, t + 1, os⟩) (ox := ox) (od := od) k I hm (wpAny_pure ?_))))
  show wpAny _ _ (handedOut (.ref C)) _ _ _
  rw [handedOut_of (show handedIn (.ref C) = true from rfl)]
  first | exact wpAny_pure h | exact wpAny_pure (wpAny_pure h)
end
/-- what must be known of an error's class for its name to be told by its instances -/
structure NmC (K : PySem.W.Frag) (C : Addr) (nm : Str) : Prop where
  ga : PySem.W.findIn K (.ref C) "__getattribute__" = some (some (.builtin "BaseException.__getattribute__"))
  gg : PySem.W.findIn K (.ref C) "__getattr__" = some none
  ex : PySem.W.subIn K (.ref C) (.type "BaseException") = some true
  hd : PySem.W.hasDictIn K C = true
  cl : PySem.W.findIn K (.ref C) "__class__" = some (some (.builtin "object.__class__"))
  cg : PySem.W.specialIn K (.builtin "object.__class__") "__get__" = some (some (.builtin "getset_descriptor.__get__"))
  ct : PySem.W.takesIn K (.builtin "object.__class__") = some true
  mo : PySem.W.mroIn K C (.type "object") = some true
  rd : PySem.W.readsIn K C (.type "type") = true
  ty : PySem.W.typeIn K (.ref C) = some (.type "type")
  nm : clsNm K C = some nm
  ff : PySem.W.findCls K (.ref C) (.type "type") "__name__" = some (.get (.builtin "getset_descriptor.__get__") (.builtin "type.__name__") (.ref C) (.type "type"))
/-- e.__class__.__name__, e an error that is being made -/
def tCn (K : PySem.W.Frag) (te : TE) : TE := fun σ H Q => te σ H fun x H1 => ∃ (a C dx : Addr) (fs : List (Str × V)) (nm : Str), x = .ref a ∧ NmC K C nm ∧ H1 a = some (exo a C (some dx)) ∧ H1 dx = some (exd dx fs) ∧ Q (.str nm) H1
theorem pe_cn {X : Cx} {e : Expr} {te : TE} {p1 p2 : Pos} (he : PE X e te) (h1 : attributeBase e "__class__" X.env (eval e X.env) = eval e X.env := by rfl)
    (h2 : attributeBase (.Attribute e "__class__" p1) "__name__" X.env (eval (.Attribute e "__class__" p1) X.env) = eval (.Attribute e "__class__" p1) X.env := by rfl) :
    PE X (.Attribute (.Attribute e "__class__" p1) "__name__" p2) (tCn X.K te) := by
  refine ⟨fun pins s σ H Q I h => ?_⟩
  refine attr_of h2 (attr_of h1 (thn (he.run pins s σ H _ I h) fun u s1 ⟨x, H1, I1, rx, a, C, dx, fs, nm, ex, N, ea, ed, q⟩ => ?_))
  subst ex
  obtain rfl : u = Value.ref a := rx
  obtain ⟨t1, ho⟩ := exo_at I1.hok ea
  obtain ⟨mA, hns, rel⟩ := exd_at I1.hok ed
  obtain ⟨oD, _, _, hoD, _, _⟩ := hns
  have J : PySem.W.InstAt s1.heap a { cls := .ref C, dict := some dx, data := .fields #[.ref t1, .none, .none, .none, .bool false, .none] } C (some oD) := ⟨ho, rfl, rfl, hoD⟩
  have isC : (PySem.W.clsIn X.K C).isSome = true := by
    obtain ⟨cd, hc, _⟩ := PySem.W.any_some N.hd
    rw [hc]; rfl
  refine errCls_attr I1.kIn J N.ga N.gg N.ex (PySem.W.findObj_data isC N.cl N.cg N.ct) N.mo ?_
  have I2 := I1.tok (s1.toks + 1)
  exact clsName_attr I2.kIn N.rd N.ty N.nm N.ff fun tk => ⟨.str nm, H1, I2.tok _, ⟨tk, rfl⟩, q⟩
end DL

set_option Elab.async false
set_option linter.all false
set_option maxRecDepth 100000
set_option maxHeartbeats 1000000
/-! DL: programs over data. The state of a def is a list of slots and a list of mutable objects; a statement is a function of it. -/
namespace DL
open PySem PySem.Spec PyProof.Rows L2

abbrev PD := PyData
/-- tables of code objects: the code, its table, and how all that lies in it is called, if that is told -/
abbrev TbT : Type := List (Addr × Addr × Option Str)
def TabO (H : Hp) (P : Addr) : Option Str → Prop
  | none => GxR.TabG H P
  | some q => LamX.TabS H P q
theorem codeO_lst {c : Addr} {q : Str} (xs : List V) : LamX.CodeO c q ≠ .lst xs := fun z => by
  unfold LamX.CodeO at z
  cases z
/-- what is written but to lists leaves the tables -/
theorem TabO.stay {H H2 : Hp} {P : Addr} (e : ∀ b o, H b = some o → (∀ xs, o ≠ .lst xs) → H2 b = some o) : ∀ {t : Option Str}, TabO H P t → TabO H2 P t
  | none, ⟨ps, a, b⟩ => ⟨ps, e _ _ a (fun _ z => nomatch z), b⟩
  | some q, ⟨ps, a, b, k⟩ => ⟨ps, e _ _ a (fun _ z => nomatch z), b, fun pos cv hc => by
    obtain ⟨c, e1, e2⟩ := k pos cv hc
    exact ⟨c, e1, e _ _ e2 codeO_lst⟩⟩
/-- a value: data, a mutable object by its number, a thing of the written part, a tuple with such in it -/
inductive D where
  | dat (d : PyData) | ref (l : Nat) | obj (a : Addr) | mix (xs : List D) | fro (xs : List PyData) | ty (n : String)
/-- a mutable object -/
inductive MO where
  | lst (xs : List D)

/-- a list that nobody writes -/
def FrL (K : PySem.W.Frag) (H : Hp) (a : Addr) (vs : List V) : Prop :=
  (∃ o, H a = some (.frz o (.lst vs))) ∨
    ∃ (o : Obj) (its : Array Value) (n : Nat), K.lookup a = some o ∧ o.cls = .type "list" ∧ o.dict = none ∧ o.data = .seq its n ∧ its.size ≤ sizeLine ∧ Vals vs its.toList
theorem FrL.sq {K : PySem.W.Frag} {H : Hp} {a : Addr} {vs : List V} (h : FrL K H a vs) : SqL K H a vs := by
  rcases h with h | h
  · exact .inl (.inr h)
  · exact .inr h
section
variable (K : PySem.W.Frag) (H : Hp)
mutual
def RepP : PyData → V → Prop
  | .none, v => v = .non
  | .bool b, v => v = .bl b
  | .int i, v => v = .int i
  | .str x, v => v = .str x
  | .tuple ds, v => ∃ a vs, v = .ref a ∧ SqT K H a vs ∧ RepPs ds vs
  | .list _, _ => False
  | .dict _, _ => False
def RepPs : List PyData → List V → Prop
  | [], vs => vs = []
  | d :: ds, vs => ∃ v r, vs = v :: r ∧ RepP d v ∧ RepPs ds r
end
variable (ρ : List Addr)
mutual
def Rep : D → V → Prop
  | .dat d, v => RepP K H d v
  | .ref l, v => ∃ a, ρ[l]? = some a ∧ v = .ref a
  | .obj a, v => v = .ref a
  | .mix ds, v => ∃ a vs, v = .ref a ∧ SqT K H a vs ∧ Reps ds vs
  | .fro ds, v => ∃ a vs, v = .ref a ∧ FrL K H a vs ∧ RepPs K H ds vs
  | .ty n, v => v = .ty n
def Reps : List D → List V → Prop
  | [], vs => vs = []
  | d :: ds, vs => ∃ v r, vs = v :: r ∧ Rep d v ∧ Reps ds r
end
end

/-- tuples stay -/
def KT (K : PySem.W.Frag) (H H' : Hp) : Prop := (∀ a vs, SqT K H a vs → SqT K H' a vs) ∧ ∀ a vs, FrL K H a vs → FrL K H' a vs
section
variable {K : PySem.W.Frag} {H H' : Hp} {ρ ρ' : List Addr}
mutual
theorem RepP.mono (kt : KT K H H') : ∀ (d : PyData) (v : V), RepP K H d v → RepP K H' d v
  | .none, _, h => h
  | .bool _, _, h => h
  | .int _, _, h => h
  | .str _, _, h => h
  | .tuple ds, v, h => by
    obtain ⟨a, vs, e, s, r⟩ := h
    exact ⟨a, vs, e, kt.1 a vs s, RepPs.mono kt ds vs r⟩
  | .list _, _, h => h.elim
  | .dict _, _, h => h.elim
theorem RepPs.mono (kt : KT K H H') : ∀ (ds : List PyData) (vs : List V), RepPs K H ds vs → RepPs K H' ds vs
  | [], _, h => h
  | d :: ds, vs, h => by
    obtain ⟨v, r, e, h1, h2⟩ := h
    exact ⟨v, r, e, RepP.mono kt d v h1, RepPs.mono kt ds r h2⟩
end
mutual
theorem Rep.mono (kt : KT K H H') (kr : ∀ (l : Nat) (a : Addr), ρ[l]? = some a → ρ'[l]? = some a) : ∀ (d : D) (v : V), Rep K H ρ d v → Rep K H' ρ' d v
  | .dat d, v, h => RepP.mono kt d v h
  | .ref l, v, h => by
    obtain ⟨a, e, h⟩ := h
    exact ⟨a, kr l a e, h⟩
  | .obj _, _, h => h
  | .mix ds, v, h => by
    obtain ⟨a, vs, e, s, r⟩ := h
    exact ⟨a, vs, e, kt.1 a vs s, Reps.mono kt kr ds vs r⟩
  | .fro ds, v, h => by
    obtain ⟨a, vs, e, s, r⟩ := h
    exact ⟨a, vs, e, kt.2 a vs s, RepPs.mono kt ds vs r⟩
  | .ty _, _, h => h
theorem Reps.mono (kt : KT K H H') (kr : ∀ (l : Nat) (a : Addr), ρ[l]? = some a → ρ'[l]? = some a) : ∀ (ds : List D) (vs : List V), Reps K H ρ ds vs → Reps K H' ρ' ds vs
  | [], _, h => h
  | d :: ds, vs, h => by
    obtain ⟨v, r, e, h1, h2⟩ := h
    exact ⟨v, r, e, Rep.mono kt kr d v h1, Reps.mono kt kr ds r h2⟩
end
/-- all items are data -/
def dats : List D → Option (List PyData)
  | [] => some []
  | .dat d :: r => (dats r).map (d :: ·)
  | _ :: _ => none
def mkTup (xs : List D) : D := match dats xs with
  | some ds => .dat (.tuple ds)
  | none => .mix xs
theorem reps_dats : ∀ {xs : List D} {ds : List PyData} {vs : List V}, dats xs = some ds → Reps K H ρ xs vs → RepPs K H ds vs
  | [], ds, vs, e, h => by
    simp only [dats, Option.some.injEq] at e
    subst e
    exact h
  | .dat d :: r, ds, vs, e, h => by
    obtain ⟨v, t, rfl, h1, h2⟩ := h
    simp only [dats, Option.map_eq_some_iff] at e
    obtain ⟨ds', e1, rfl⟩ := e
    exact ⟨v, t, rfl, h1, reps_dats e1 h2⟩
  | .ref _ :: r, ds, vs, e, h => by simp [dats] at e
  | .obj _ :: r, ds, vs, e, h => by simp [dats] at e
  | .mix _ :: r, ds, vs, e, h => by simp [dats] at e
  | .fro _ :: r, ds, vs, e, h => by simp [dats] at e
  | .ty _ :: r, ds, vs, e, h => by simp [dats] at e
theorem rep_mkTup {xs : List D} {a : Addr} {vs : List V} (s : SqT K H a vs) (r : Reps K H ρ xs vs) : Rep K H ρ (mkTup xs) (.ref a) := by
  unfold mkTup
  cases e : dats xs with
  | some ds => exact ⟨a, vs, rfl, s, reps_dats e r⟩
  | none => exact ⟨a, vs, rfl, s, r⟩
theorem RepPs.length : ∀ {ds : List PyData} {vs : List V}, RepPs K H ds vs → vs.length = ds.length
  | [], _, h => by
    have h : _ = [] := h
    rw [h]; rfl
  | d :: ds, _, h => by
    obtain ⟨v, r, rfl, _, h2⟩ := h
    simp [h2.length]
theorem Reps.length : ∀ {ds : List D} {vs : List V}, Reps K H ρ ds vs → vs.length = ds.length
  | [], _, h => by
    have h : _ = [] := h
    rw [h]; rfl
  | d :: ds, _, h => by
    obtain ⟨v, r, rfl, _, h2⟩ := h
    simp [h2.length]
theorem RepPs.get : ∀ {ds : List PyData} {vs : List V} {i : Nat} {d : PyData}, RepPs K H ds vs → ds[i]? = some d → ∃ v, vs[i]? = some v ∧ RepP K H d v
  | [], _, _, _, _, e => by simp at e
  | d :: ds, _, 0, d', h, e => by
    obtain ⟨v, r, rfl, h1, _⟩ := h
    simp only [List.getElem?_cons_zero, Option.some.injEq] at e
    subst e
    exact ⟨v, rfl, h1⟩
  | d :: ds, _, i + 1, d', h, e => by
    obtain ⟨v, r, rfl, _, h2⟩ := h
    exact h2.get (i := i) (by simpa using e)
theorem Reps.get : ∀ {ds : List D} {vs : List V} {i : Nat} {d : D}, Reps K H ρ ds vs → ds[i]? = some d → ∃ v, vs[i]? = some v ∧ Rep K H ρ d v
  | [], _, _, _, _, e => by simp at e
  | d :: ds, _, 0, d', h, e => by
    obtain ⟨v, r, rfl, h1, _⟩ := h
    simp only [List.getElem?_cons_zero, Option.some.injEq] at e
    subst e
    exact ⟨v, rfl, h1⟩
  | d :: ds, _, i + 1, d', h, e => by
    obtain ⟨v, r, rfl, _, h2⟩ := h
    exact h2.get (i := i) (by simpa using e)
theorem RepPs.append : ∀ {ds es : List PyData} {vs ws : List V}, RepPs K H ds vs → RepPs K H es ws → RepPs K H (ds ++ es) (vs ++ ws)
  | [], _, _, _, h, g => by
    have h : _ = [] := h
    subst h; exact g
  | d :: ds, _, _, _, h, g => by
    obtain ⟨v, r, rfl, h1, h2⟩ := h
    exact ⟨v, _, rfl, h1, h2.append g⟩
theorem Reps.append : ∀ {ds es : List D} {vs ws : List V}, Reps K H ρ ds vs → Reps K H ρ es ws → Reps K H ρ (ds ++ es) (vs ++ ws)
  | [], _, _, _, h, g => by
    have h : _ = [] := h
    subst h; exact g
  | d :: ds, _, _, _, h, g => by
    obtain ⟨v, r, rfl, h1, h2⟩ := h
    exact ⟨v, _, rfl, h1, h2.append g⟩
theorem RepPs.reps : ∀ {ds : List PyData} {vs : List V}, RepPs K H ds vs → Reps K H ρ (ds.map .dat) vs
  | [], _, h => h
  | d :: ds, _, h => by
    obtain ⟨v, r, rfl, h1, h2⟩ := h
    exact ⟨v, r, rfl, h1, h2.reps⟩
theorem RepPs.take : ∀ {ds : List PyData} {vs : List V} (n : Nat), RepPs K H ds vs → RepPs K H (ds.take n) (vs.take n)
  | _, _, 0, _ => by simp [RepPs]
  | [], _, n + 1, h => by
    have h : _ = [] := h
    subst h; simp [RepPs]
  | d :: ds, _, n + 1, h => by
    obtain ⟨v, r, rfl, h1, h2⟩ := h
    exact ⟨v, _, rfl, h1, h2.take n⟩
theorem RepPs.drop : ∀ {ds : List PyData} {vs : List V} (n : Nat), RepPs K H ds vs → RepPs K H (ds.drop n) (vs.drop n)
  | _, _, 0, h => h
  | [], _, n + 1, h => by
    have h : _ = [] := h
    subst h; simp [RepPs]
  | d :: ds, _, n + 1, h => by
    obtain ⟨v, r, rfl, h1, h2⟩ := h
    exact h2.drop n
theorem Reps.take : ∀ {ds : List D} {vs : List V} (n : Nat), Reps K H ρ ds vs → Reps K H ρ (ds.take n) (vs.take n)
  | _, _, 0, _ => by simp [Reps]
  | [], _, n + 1, h => by
    have h : _ = [] := h
    subst h; simp [Reps]
  | d :: ds, _, n + 1, h => by
    obtain ⟨v, r, rfl, h1, h2⟩ := h
    exact ⟨v, _, rfl, h1, h2.take n⟩
theorem Reps.drop : ∀ {ds : List D} {vs : List V} (n : Nat), Reps K H ρ ds vs → Reps K H ρ (ds.drop n) (vs.drop n)
  | _, _, 0, h => h
  | [], _, n + 1, h => by
    have h : _ = [] := h
    subst h; simp [Reps]
  | d :: ds, _, n + 1, h => by
    obtain ⟨v, r, rfl, h1, h2⟩ := h
    exact h2.drop n
theorem Reps.set : ∀ {ds : List D} {vs : List V} {d : D} {v : V} (n : Nat), Reps K H ρ ds vs → Rep K H ρ d v → Reps K H ρ (ds.set n d) (vs.set n v)
  | [], _, _, _, _, h, _ => by
    have h : _ = [] := h
    subst h; simp [Reps]
  | _ :: ds, _, _, _, 0, h, g => by
    obtain ⟨v, r, rfl, h1, h2⟩ := h
    exact ⟨_, r, rfl, g, h2⟩
  | _ :: ds, _, _, _, n + 1, h, g => by
    obtain ⟨v, r, rfl, h1, h2⟩ := h
    exact ⟨v, _, rfl, h1, h2.set n g⟩
theorem Reps.eraseIdx : ∀ {ds : List D} {vs : List V} (n : Nat), Reps K H ρ ds vs → Reps K H ρ (ds.eraseIdx n) (vs.eraseIdx n)
  | [], _, _, h => by
    have h : _ = [] := h
    subst h; simp [Reps]
  | _ :: ds, _, 0, h => by
    obtain ⟨v, r, rfl, h1, h2⟩ := h
    exact h2
  | _ :: ds, _, n + 1, h => by
    obtain ⟨v, r, rfl, h1, h2⟩ := h
    exact ⟨v, _, rfl, h1, h2.eraseIdx n⟩
theorem Reps.reverse : ∀ {ds : List D} {vs : List V}, Reps K H ρ ds vs → Reps K H ρ ds.reverse vs.reverse
  | [], _, h => by
    have h : _ = [] := h
    subst h; simp [Reps]
  | _ :: ds, _, h => by
    obtain ⟨v, r, rfl, h1, h2⟩ := h
    rw [List.reverse_cons, List.reverse_cons]
    exact h2.reverse.append ⟨v, [], rfl, h1, rfl⟩
/-- a value is told by its data alone: two values of one datum that is no tuple are one -/
theorem Reps.dropLast {ds : List D} {vs : List V} (h : Reps K H ρ ds vs) : Reps K H ρ ds.dropLast vs.dropLast := by
  rw [List.dropLast_eq_take, List.dropLast_eq_take, h.length]
  exact h.take _
end

structure Ext (ρ : List Addr) (H : Hp) (ρ' : List Addr) (H' : Hp) : Prop where
  pre : ∃ more, ρ' = ρ ++ more ∧ ∀ b ∈ more, H b = none
  keep : ∀ b o, H b = some o → b ∉ ρ → (∀ ps, o ≠ .tbl ps) → H' b = some o
  tbl : ∀ b ps, H b = some (.tbl ps) → ∃ more, H' b = some (.tbl (ps ++ more))
  back : ∀ b, H' b = none → H b = none
/-! ### states -/
inductive Sl where
  | no | d (x : D) | exc (c : Addr) (w : D) | clo (C : List Addr → Hp → V → Prop)
/-- the dict of an error of the class at c: its class's name, and what it was made from -/
def Xd (K : PySem.W.Frag) (c : Addr) (H : Hp) (dd : Addr) (vw : V) : Prop := ∃ nm : Str, clsNm K c = some nm ∧ H dd = some (.xd [("name", .str nm), ("what", vw)])
abbrev Env' := List Sl
abbrev Hh := List MO

section
variable (K : PySem.W.Frag) (pn : List (Addr × Obj)) (H : Hp) (ρ : List Addr)
def SlRep : Sl → Option V → Prop
  | .no, _ => True
  | .d x, ov => ∃ v, ov = some v ∧ Rep K H ρ x v
  | .exc c w, ov => ∃ a oe dd vw, ov = some (.ref a) ∧ (a, oe) ∈ pn ∧ Zc (.ref c) (some dd) oe ∧ (∃ vs, oe.data = .fields vs) ∧ Xd K c H dd vw ∧ Rep K H ρ w vw
  | .clo C, ov => ∃ v, ov = some v ∧ ∀ ρ2 H2, Ext ρ H ρ2 H2 → C ρ2 H2 v
def MoOk (a : Addr) : MO → Prop
  | .lst ds => ∃ vs, H a = some (.lst vs) ∧ Reps K H ρ ds vs
structure EnvR (env : Env') (σ : L2.St) : Prop where
  len : env.length = σ.length
  ok : ∀ (i : Nat) (s : Sl), env[i]? = some s → ∃ ov : Option V, σ[i]? = some ov ∧ SlRep K pn H ρ s ov
end
structure RG (K : PySem.W.Frag) (T : TbT) (ρ : List Addr) (G : Hh) (H : Hp) : Prop where
  nd : ρ.Nodup
  len : G.length = ρ.length
  ok : ∀ (l : Nat) (a : Addr) (mo : MO), ρ[l]? = some a → G[l]? = some mo → MoOk K H ρ a mo
  tab : ∀ p ∈ T, TabO H p.2.1 p.2.2
theorem Ext.refl {ρ : List Addr} {H : Hp} : Ext ρ H ρ H := ⟨⟨[], by simp, by simp⟩, fun _ _ h _ _ => h, fun _ ps h => ⟨#[], by simpa using h⟩, fun _ h => h⟩
theorem Ext.trans {ρ ρ1 ρ2 : List Addr} {H H1 H2 : Hp} (a : Ext ρ H ρ1 H1) (b : Ext ρ1 H1 ρ2 H2) : Ext ρ H ρ2 H2 where
  pre := by
    obtain ⟨m1, rfl, f1⟩ := a.pre
    obtain ⟨m2, rfl, f2⟩ := b.pre
    refine ⟨m1 ++ m2, by simp, fun x hx => ?_⟩
    rcases List.mem_append.mp hx with h | h
    · exact f1 x h
    · exact a.back x (f2 x h)
  keep := fun x o h n t => by
    have h1 := a.keep x o h n t
    refine b.keep x o h1 (fun hx => ?_) t
    obtain ⟨m1, rfl, f1⟩ := a.pre
    rcases List.mem_append.mp hx with z | z
    · exact n z
    · rw [f1 x z] at h; cases h
  tbl := fun x ps h => by
    obtain ⟨m1, h1⟩ := a.tbl x ps h
    obtain ⟨m2, h2⟩ := b.tbl x _ h1
    exact ⟨m1 ++ m2, by rw [h2, Array.append_assoc]⟩
  back := fun x h => a.back x (b.back x h)
section
variable {K : PySem.W.Frag} {T : TbT} {pn : List (Addr × Obj)} {ρ ρ' : List Addr} {H H' : Hp} {G : Hh}
theorem RG.notin (rg : RG K T ρ G H) {a : Addr} {o : HO} (h : H a = some o) (h1 : ∀ vs, o ≠ .lst vs) : a ∉ ρ := fun hm => by
  obtain ⟨l, hl, e⟩ := List.getElem_of_mem hm
  have e' : ρ[l]? = some a := by rw [List.getElem?_eq_getElem hl, e]
  have hl' : l < G.length := by rw [rg.len]; exact hl
  have g := rg.ok l a G[l] e' (List.getElem?_eq_getElem hl')
  cases q : G[l] with
  | lst ds =>
    rw [q] at g
    obtain ⟨vs, hv, _⟩ := g
    rw [h] at hv
    exact h1 vs (Option.some.inj hv)
theorem Ext.kt (rg : RG K T ρ G H) (e : Ext ρ H ρ' H') : KT K H H' := by
  refine ⟨fun a vs h => ?_, fun a vs h => ?_⟩
  · rcases h with (h | ⟨o, h⟩) | h
    · exact .inl (.inl (e.keep a _ h (rg.notin h (fun _ z => nomatch z)) (fun _ z => nomatch z)))
    · exact .inl (.inr ⟨o, e.keep a _ h (rg.notin h (fun _ z => nomatch z)) (fun _ z => nomatch z)⟩)
    · exact .inr h
  · rcases h with ⟨o, h⟩ | h
    · exact .inl ⟨o, e.keep a _ h (rg.notin h (fun _ z => nomatch z)) (fun _ z => nomatch z)⟩
    · exact .inr h
theorem Ext.kr (e : Ext ρ H ρ' H') : ∀ (l : Nat) (a : Addr), ρ[l]? = some a → ρ'[l]? = some a := fun l a h => by
  obtain ⟨m, rfl, _⟩ := e.pre
  have hl := (List.getElem?_eq_some_iff.mp h).1
  rw [List.getElem?_append_left hl]; exact h
theorem Ext.rep (rg : RG K T ρ G H) (e : Ext ρ H ρ' H') {d : D} {v : V} (h : Rep K H ρ d v) : Rep K H' ρ' d v := Rep.mono (e.kt rg) e.kr d v h
theorem Ext.reps (rg : RG K T ρ G H) (e : Ext ρ H ρ' H') {ds : List D} {vs : List V} (h : Reps K H ρ ds vs) : Reps K H' ρ' ds vs := Reps.mono (e.kt rg) e.kr ds vs h
theorem Ext.slrep (rg : RG K T ρ G H) (e : Ext ρ H ρ' H') {s : Sl} {ov : Option V} (h : SlRep K pn H ρ s ov) : SlRep K pn H' ρ' s ov := by
  cases s with
  | no => trivial
  | d x =>
    obtain ⟨v, e1, r⟩ := h
    exact ⟨v, e1, e.rep rg r⟩
  | exc c w =>
    obtain ⟨a, oe, dd, vw, e1, hm, z, f, ⟨nm, hn, hd⟩, r⟩ := h
    exact ⟨a, oe, dd, vw, e1, hm, z, f, ⟨nm, hn, e.keep dd _ hd (rg.notin hd (fun _ z => nomatch z)) (fun _ z => nomatch z)⟩, e.rep rg r⟩
  | clo C =>
    obtain ⟨v, e1, r⟩ := h
    exact ⟨v, e1, fun ρ2 H2 e2 => r ρ2 H2 (e.trans e2)⟩
theorem Ext.envr (rg : RG K T ρ G H) (e : Ext ρ H ρ' H') {env : Env'} {σ : L2.St} (h : EnvR K pn H ρ env σ) : EnvR K pn H' ρ' env σ :=
  ⟨h.len, fun i s hi => let ⟨ov, a, b⟩ := h.ok i s hi; ⟨ov, a, e.slrep rg b⟩⟩
/-- a new untracked-so-far object that is no mutable one of ours -/
theorem ext_new {p : Addr} {o : HO} (hp : H p = none) : Ext ρ H ρ (upd H p o) :=
  ⟨⟨[], by simp, by simp⟩, fun b u h _ _ => by rw [upd_ne (ne_of_none h hp)]; exact h, fun b ps h => ⟨#[], by rw [upd_ne (ne_of_none h hp)]; simpa using h⟩, fun b h => by
    by_cases hb : b = p
    · rw [hb]; exact hp
    · rw [upd_ne hb] at h; exact h⟩
theorem sqL_none_upd {p a : Addr} {o : HO} {vs : List V} (hp : a ≠ p) (h : SqL K H a vs) : SqL K (upd H p o) a vs := by
  rcases h with (h | ⟨ob, h⟩) | h
  · exact .inl (.inl (by rw [upd_ne hp]; exact h))
  · exact .inl (.inr ⟨ob, by rw [upd_ne hp]; exact h⟩)
  · exact .inr h
end
end DL

set_option Elab.async false
set_option linter.all false
set_option maxRecDepth 100000
set_option maxHeartbeats 1000000
namespace DL
open PySem PySem.Spec PyProof.Rows L2

/-! ### expressions -/
inductive RE where
  | ok (d : D) (G : Hh) | ex (c : Addr) (w : D) (G : Hh) | bad
abbrev ES := Env' → Hh → RE
inductive RA where
  | ok (ds : List D) (G : Hh) | ex (c : Addr) (w : D) (G : Hh) | bad
abbrev AS := Env' → Hh → RA
inductive RT where
  | ok (b : Bool) (G : Hh) | ex (c : Addr) (w : D) (G : Hh) | bad
abbrev TSm := Env' → Hh → RT

structure SR (X : Cx) (T : TbT) (ρ : List Addr) (env : Env') (G : Hh) (σ : L2.St) (H : Hp) : Prop where
  rg : RG X.K T ρ G H
  ev : EnvR X.K X.pn H ρ env σ
/-- what an exception must lead to -/
def PostX (X : Cx) (T : TbT) (W : WX) (σ : L2.St) (ρ : List Addr) (H : Hp) (c : Addr) (w : D) (G' : Hh) : Prop :=
  ∀ ρ' H' dd vw, Ext ρ H ρ' H' → RG X.K T ρ' G' H' → Xd X.K c H' dd vw → Rep X.K H' ρ' w vw → W (.ref c) (some dd) σ H'
def PostE (X : Cx) (T : TbT) (W : WX) (σ : L2.St) (ρ : List Addr) (H : Hp) (r : RE) (Q : VK) : Prop :=
  match r with
  | .ok d G' => ∀ v ρ' H', Ext ρ H ρ' H' → RG X.K T ρ' G' H' → Rep X.K H' ρ' d v → Q v H'
  | .ex c w G' => PostX X T W σ ρ H c w G'
  | .bad => False
def PostA (X : Cx) (T : TbT) (W : WX) (σ : L2.St) (ρ : List Addr) (H : Hp) (r : RA) (Q : List V → Hp → Prop) : Prop :=
  match r with
  | .ok ds G' => ∀ vs ρ' H', Ext ρ H ρ' H' → RG X.K T ρ' G' H' → Reps X.K H' ρ' ds vs → Q vs H'
  | .ex c w G' => PostX X T W σ ρ H c w G'
  | .bad => False
def PostT (X : Cx) (T : TbT) (W : WX) (σ : L2.St) (ρ : List Addr) (H : Hp) (r : RT) (Q : Bool → Hp → Prop) : Prop :=
  match r with
  | .ok b G' => ∀ ρ' H', Ext ρ H ρ' H' → RG X.K T ρ' G' H' → Q b H'
  | .ex c w G' => PostX X T W σ ρ H c w G'
  | .bad => False
/-- an operation that raises nothing -/
def PostO (X : Cx) (T : TbT) (ρ : List Addr) (H : Hp) (r : Option (D × Hh)) (Q : VK) : Prop :=
  match r with
  | some (d, G') => ∀ v ρ' H', Ext ρ H ρ' H' → RG X.K T ρ' G' H' → Rep X.K H' ρ' d v → Q v H'
  | none => False
section
variable {X : Cx} {T : TbT} {W : WX} {σ : L2.St} {ρ ρ1 : List Addr} {H H1 : Hp}
theorem PostX.ext {c : Addr} {w : D} {G : Hh} (e : Ext ρ H ρ1 H1) (h : PostX X T W σ ρ H c w G) : PostX X T W σ ρ1 H1 c w G := fun ρ' H' dd vw e1 => h ρ' H' dd vw (e.trans e1)
theorem PostE.ext {r : RE} {Q : VK} (e : Ext ρ H ρ1 H1) (h : PostE X T W σ ρ H r Q) : PostE X T W σ ρ1 H1 r Q := by
  cases r with
  | ok d G => exact fun v ρ' H' e1 => h v ρ' H' (e.trans e1)
  | ex c w G => exact PostX.ext e h
  | bad => exact h
theorem PostA.ext {r : RA} {Q : List V → Hp → Prop} (e : Ext ρ H ρ1 H1) (h : PostA X T W σ ρ H r Q) : PostA X T W σ ρ1 H1 r Q := by
  cases r with
  | ok d G => exact fun v ρ' H' e1 => h v ρ' H' (e.trans e1)
  | ex c w G => exact PostX.ext e h
  | bad => exact h
theorem PostT.ext {r : RT} {Q : Bool → Hp → Prop} (e : Ext ρ H ρ1 H1) (h : PostT X T W σ ρ H r Q) : PostT X T W σ ρ1 H1 r Q := by
  cases r with
  | ok d G => exact fun ρ' H' e1 => h ρ' H' (e.trans e1)
  | ex c w G => exact PostX.ext e h
  | bad => exact h
theorem PostO.ext {r : Option (D × Hh)} {Q : VK} (e : Ext ρ H ρ1 H1) (h : PostO X T ρ H r Q) : PostO X T ρ1 H1 r Q := by
  rcases r with _ | ⟨d, G⟩
  · exact h
  · exact fun v ρ' H' e1 => h v ρ' H' (e.trans e1)
end
section
variable (X : Cx) (T : TbT) (W : WX)
def tE (f : ES) : TE := fun σ H Q => ∃ ρ env G, SR X T ρ env G σ H ∧ PostE X T W σ ρ H (f env G) Q
def tA (f : AS) : TA := fun σ H Q => ∃ ρ env G, SR X T ρ env G σ H ∧ PostA X T W σ ρ H (f env G) Q
def tT (f : TSm) : TT := fun σ H Q => ∃ ρ env G, SR X T ρ env G σ H ∧ PostT X T W σ ρ H (f env G) Q
abbrev DE (e : Expr) (f : ES) : Prop := PE X e (tE X T W f)
abbrev DA (es : List Expr) (f : AS) : Prop := PA X es (tA X T W f)
abbrev DT (e : Expr) (f : TSm) : Prop := PT X e (tT X T W f)
end
theorem PE_imp {X : Cx} {e : Expr} {t t' : TE} (h : PE X e t) (i : ∀ σ H Q, t' σ H Q → t σ H Q) : PE X e t' := ⟨fun pins s σ H Q I q => h.run pins s σ H Q I (i σ H Q q)⟩
theorem PA_imp {X : Cx} {e : List Expr} {t t' : TA} (h : PA X e t) (i : ∀ σ H Q, t' σ H Q → t σ H Q) : PA X e t' := ⟨fun pos pins s σ H Q I q => h.run pos pins s σ H Q I (i σ H Q q)⟩
theorem PT_imp {X : Cx} {e : Expr} {t t' : TT} (h : PT X e t) (i : ∀ σ H Q, t' σ H Q → t σ H Q) : PT X e t' := ⟨fun pins s σ H Q I q => h.run pins s σ H Q I (i σ H Q q)⟩
theorem PW_imp {X : Cx} {e : Expr} {t t' : TT} (h : PW X e t) (i : ∀ σ H Q, t' σ H Q → t σ H Q) : PW X e t' := ⟨fun wh pins s σ H Q I q => h.run wh pins s σ H Q I (i σ H Q q)⟩

/-! ### combinators -/
def eVar (i : Nat) : ES := fun env G => match env[i]? with
  | some (.d x) => .ok x G
  | _ => .bad
def eC (d : D) : ES := fun _ G => .ok d G
/-- then -/
def eThen (f : ES) (k : D → Env' → Hh → RE) : ES := fun env G => match f env G with
  | .ok d G1 => k d env G1
  | .ex c w G1 => .ex c w G1
  | .bad => .bad
def RE.of : Option (D × Hh) → RE
  | some (d, G) => .ok d G
  | none => .bad
def eUn (g : D → Hh → Option (D × Hh)) (f : ES) : ES := eThen f fun d _ G => RE.of (g d G)
def eBin (g : D → D → Hh → Option (D × Hh)) (f h : ES) : ES := eThen f fun x => eThen h fun y _ G => RE.of (g x y G)
def aNil : AS := fun _ G => .ok [] G
def aCons (f : ES) (g : AS) : AS := fun env G => match f env G with
  | .ok d G1 => (match g env G1 with
    | .ok ds G2 => .ok (d :: ds) G2
    | .ex c w G2 => .ex c w G2
    | .bad => .bad)
  | .ex c w G1 => .ex c w G1
  | .bad => .bad
def eArgs (g : List D → Hh → Option (D × Hh)) (f : AS) : ES := fun env G => match f env G with
  | .ok ds G1 => RE.of (g ds G1)
  | .ex c w G1 => .ex c w G1
  | .bad => .bad
def tTest' (g : D → Hh → Option Bool) (f : ES) : TSm := fun env G => match f env G with
  | .ok d G1 => (match g d G1 with
    | some b => .ok b G1
    | none => .bad)
  | .ex c w G1 => .ex c w G1
  | .bad => .bad
def sAnd (f g : TSm) : TSm := fun env G => match f env G with
  | .ok b G1 => if b then g env G1 else .ok false G1
  | r => r
def sOr (f g : TSm) : TSm := fun env G => match f env G with
  | .ok b G1 => if b then .ok true G1 else g env G1
  | r => r
def sNot (f : TSm) : TSm := fun env G => match f env G with
  | .ok b G1 => .ok (!b) G1
  | r => r
def eIf (c : TSm) (f g : ES) : ES := fun env G => match c env G with
  | .ok b G1 => if b then f env G1 else g env G1
  | .ex c w G1 => .ex c w G1
  | .bad => .bad
/-- a and b, a or b, as values -/
def eAnd (tr : D → Hh → Option Bool) (f g : ES) : ES := eThen f fun x env G => match tr x G with
  | some true => g env G
  | some false => .ok x G
  | none => .bad
def eOr (tr : D → Hh → Option Bool) (f g : ES) : ES := eThen f fun x env G => match tr x G with
  | some true => .ok x G
  | some false => g env G
  | none => .bad

section
variable {X : Cx} {T : TbT} {W : WX}
theorem de_var (i : Nat) {x : Str} {pos : Pos} (hN : X.N[i]? = some x := by rfl) (hv : Vis X.env.scope x := by first | exact Or.inl rfl | exact Or.inr (Or.inl rfl) | exact Or.inr (Or.inr rfl)) (hd : (x == ("__debug__" : Str)) = false := by decide)
    (hcd : (x == ("__classdict__" : Str)) = false := by decide) : DE X T W (.Name x pos) (eVar i) :=
  PE_imp (pe_var hN hv hd hcd) fun σ H Q ⟨ρ, env, G, sr, p⟩ => by
    unfold eVar at p
    split at p
    · rename_i x hx
      obtain ⟨ov, ho, v, rfl, r⟩ := sr.ev.ok i _ hx
      exact ⟨v, ho, p v ρ H Ext.refl sr.rg r⟩
    · exact p.elim
theorem de_c {e : Expr} {v : V} {d : D} (h : PE X e (tC v)) (hr : ∀ H ρ, Rep X.K H ρ d v) : DE X T W e (eC d) :=
  PE_imp h fun σ H Q ⟨ρ, env, G, sr, p⟩ => p v ρ H Ext.refl sr.rg (hr H ρ)
theorem de_int {i : Int} {j pos} : DE X T W (.Constant (.int i) j pos) (eC (.dat (.int i))) := de_c pe_int fun _ _ => rfl
theorem de_bl {b : Bool} {j pos} : DE X T W (.Constant (.bool b) j pos) (eC (.dat (.bool b))) := de_c pe_bl fun _ _ => rfl
theorem de_non {j pos} : DE X T W (.Constant .none j pos) (eC (.dat .none)) := de_c pe_non fun _ _ => rfl
theorem de_str {x : Str} {j pos} : DE X T W (.Constant (.str x) j pos) (eC (.dat (.str x))) := de_c pe_str fun _ _ => rfl
/-- a module's constant -/
theorem de_glob {x : Str} {v : V} {u : Value} {d : D} {pos : Pos} (hg : Gl X x) (hm : X.mg x = some u) (r : RelV v u) (hr : ∀ H ρ, Rep X.K H ρ d v) (hd : (x == ("__debug__" : Str)) = false := by decide) : DE X T W (.Name x pos) (eC d) := de_c (pe_glob hg hm r hd) hr

/-- a value, then what is made of it -/
def tK (X : Cx) (T : TbT) (W : WX) (k : D → Env' → Hh → RE) (σ : L2.St) (Q : VK) : VK := fun v H1 =>
  ∃ ρ env G d, SR X T ρ env G σ H1 ∧ Rep X.K H1 ρ d v ∧ PostE X T W σ ρ H1 (k d env G) Q
theorem tE_then {f : ES} {k : D → Env' → Hh → RE} {σ : L2.St} {H : Hp} {Q : VK} (h : tE X T W (eThen f k) σ H Q) : tE X T W f σ H (tK X T W k σ Q) := by
  obtain ⟨ρ, env, G, sr, p⟩ := h
  refine ⟨ρ, env, G, sr, ?_⟩
  unfold eThen at p
  cases e : f env G with
  | ok d G1 =>
    rw [e] at p
    exact fun v ρ1 H1 e1 rg1 r1 => ⟨ρ1, env, G1, d, ⟨rg1, e1.envr sr.rg sr.ev⟩, r1, PostE.ext e1 p⟩
  | ex c w G1 => rw [e] at p; exact p
  | bad => rw [e] at p; exact p
theorem tE_bin {g : D → D → Hh → Option (D × Hh)} {f h : ES} {σ : L2.St} {H : Hp} {Q : VK} (q : tE X T W (eBin g f h) σ H Q) :
    tE X T W f σ H fun v H1 => tE X T W h σ H1 fun u H2 => ∃ ρ G x y, RG X.K T ρ G H2 ∧ Rep X.K H2 ρ x v ∧ Rep X.K H2 ρ y u ∧ PostO X T ρ H2 (g x y G) Q := by
  obtain ⟨ρ, env, G, sr, p⟩ := q
  refine ⟨ρ, env, G, sr, ?_⟩
  unfold eBin eThen at p
  cases e : f env G with
  | ok x G1 =>
    rw [e] at p
    intro v ρ1 H1 e1 rg1 r1
    refine ⟨ρ1, env, G1, ⟨rg1, e1.envr sr.rg sr.ev⟩, ?_⟩
    dsimp only at p
    cases e2 : h env G1 with
    | ok y G2 =>
      rw [e2] at p
      intro u ρ2 H2 e2' rg2 r2
      refine ⟨ρ2, G2, x, y, rg2, e2'.rep rg1 r1, r2, ?_⟩
      dsimp only at p
      cases e3 : g x y G2 with
      | none => rw [e3] at p; exact p
      | some z =>
        obtain ⟨d, G3⟩ := z
        rw [e3] at p
        exact fun w ρ3 H3 e4 => p w ρ3 H3 ((e1.trans e2').trans e4)
    | ex c w G2 => rw [e2] at p; exact PostX.ext e1 p
    | bad => rw [e2] at p; exact p
  | ex c w G1 => rw [e] at p; exact p
  | bad => rw [e] at p; exact p
/-- a two-place operation over data -/
def r2 (X : Cx) (T : TbT) (g : D → D → Hh → Option (D × Hh)) : R2 := fun v u H Q => ∃ ρ G x y, RG X.K T ρ G H ∧ Rep X.K H ρ x v ∧ Rep X.K H ρ y u ∧ PostO X T ρ H (g x y G) Q
def r1 (X : Cx) (T : TbT) (g : D → Hh → Option (D × Hh)) : V → Hp → VK → Prop := fun v H Q => ∃ ρ G x, RG X.K T ρ G H ∧ Rep X.K H ρ x v ∧ PostO X T ρ H (g x G) Q
def rA (X : Cx) (T : TbT) (g : List D → Hh → Option (D × Hh)) : List V → Hp → VK → Prop := fun vs H Q => ∃ ρ G ds, RG X.K T ρ G H ∧ Reps X.K H ρ ds vs ∧ PostO X T ρ H (g ds G) Q
variable {a b c : Expr} {fa fb : ES} {pos : Pos} {g : D → D → Hh → Option (D × Hh)}
theorem de_op {op : Operator} (ho : OpR X (binaryOp op) (r2 X T g)) (ha : DE X T W a fa) (hb : DE X T W b fb) : DE X T W (.BinOp a op b pos) (eBin g fa fb) :=
  PE_imp (pe_op ho ha hb) fun _ _ _ h => tE_bin h
theorem de_cmp {op : CmpOp} (ho : OpR X (compareOp op) (r2 X T g)) (ha : DE X T W a fa) (hb : DE X T W b fb) (hm : behindInMarks op b = false) : DE X T W (.Compare a [op] [b] pos) (eBin g fa fb) :=
  PE_imp (pe_cmpR ho ha hb hm) fun _ _ _ h => tE_bin h
theorem de_ix (ho : IxR X (r2 X T g)) (ha : DE X T W a fa) (hb : DE X T W b fb) (hs : PlainIx b) : DE X T W (.Subscript a b pos) (eBin g fa fb) :=
  PE_imp (pe_ix ho ha hb hs) fun _ _ _ h => tE_bin h
theorem tE_un {g : D → Hh → Option (D × Hh)} {f : ES} {σ : L2.St} {H : Hp} {Q : VK} (q : tE X T W (eUn g f) σ H Q) : tE X T W f σ H fun v H1 => r1 X T g v H1 Q := by
  obtain ⟨ρ, env, G, sr, p⟩ := q
  refine ⟨ρ, env, G, sr, ?_⟩
  unfold eUn eThen at p
  cases e : f env G with
  | ok x G1 =>
    rw [e] at p
    intro v ρ1 H1 e1 rg1 r1
    refine ⟨ρ1, G1, x, rg1, r1, ?_⟩
    dsimp only at p
    cases e3 : g x G1 with
    | none => rw [e3] at p; exact p
    | some z =>
      obtain ⟨d, G3⟩ := z
      rw [e3] at p
      exact fun w ρ3 H3 e4 => p w ρ3 H3 (e1.trans e4)
  | ex c w G1 => rw [e] at p; exact p
  | bad => rw [e] at p; exact p
theorem de_un {op : UnaryOp} {g : D → Hh → Option (D × Hh)} (ho : UnR X (unaryOp op) (r1 X T g)) (ha : DE X T W a fa) : DE X T W (.UnaryOp op a pos) (eUn g fa) :=
  PE_imp (pe_un ho ha) fun _ _ _ h => tE_un h

/-! ### arguments -/
theorem da_nil : DA X T W [] aNil := PA_imp pa_nil fun _ H _ ⟨ρ, _, _, sr, p⟩ => p [] ρ H Ext.refl sr.rg rfl
theorem tA_cons {f : ES} {g : AS} {σ : L2.St} {H : Hp} {Q : List V → Hp → Prop} (q : tA X T W (aCons f g) σ H Q) : tCons (tE X T W f) (tA X T W g) σ H Q := by
  obtain ⟨ρ, env, G, sr, p⟩ := q
  refine ⟨ρ, env, G, sr, ?_⟩
  unfold aCons at p
  cases e : f env G with
  | ok x G1 =>
    rw [e] at p
    intro v ρ1 H1 e1 rg1 r1
    refine ⟨ρ1, env, G1, ⟨rg1, e1.envr sr.rg sr.ev⟩, ?_⟩
    dsimp only at p
    cases e2 : g env G1 with
    | ok ds G2 =>
      rw [e2] at p
      exact fun vs ρ2 H2 e2' rg2 r2 => p (v :: vs) ρ2 H2 (e1.trans e2') rg2 ⟨v, vs, rfl, e2'.rep rg1 r1, r2⟩
    | ex c w G2 => rw [e2] at p; exact PostX.ext e1 p
    | bad => rw [e2] at p; exact p
  | ex c w G1 => rw [e] at p; exact p
  | bad => rw [e] at p; exact p
theorem da_cons {e : Expr} {es : List Expr} {f : ES} {g : AS} (ha : DE X T W e f) (hr : DA X T W es g) (hs : starEach (e :: es) X.env = (false, eval e X.env) :: starEach es X.env := by rfl) : DA X T W (e :: es) (aCons f g) :=
  PA_imp (pa_cons ha hr hs) fun _ _ _ h => tA_cons h
theorem tA_args {g : List D → Hh → Option (D × Hh)} {f : AS} {σ : L2.St} {H : Hp} {Q : VK} (q : tE X T W (eArgs g f) σ H Q) : tA X T W f σ H fun vs H1 => rA X T g vs H1 Q := by
  obtain ⟨ρ, env, G, sr, p⟩ := q
  refine ⟨ρ, env, G, sr, ?_⟩
  unfold eArgs at p
  cases e : f env G with
  | ok ds G1 =>
    rw [e] at p
    intro vs ρ1 H1 e1 rg1 r1
    refine ⟨ρ1, G1, ds, rg1, r1, ?_⟩
    dsimp only at p
    cases e3 : g ds G1 with
    | none => rw [e3] at p; exact p
    | some z =>
      obtain ⟨d, G3⟩ := z
      rw [e3] at p
      exact fun w ρ3 H3 e4 => p w ρ3 H3 (e1.trans e4)
  | ex c w G1 => rw [e] at p; exact p
  | bad => rw [e] at p; exact p
variable {es : List Expr} {fs : AS} {ga : List D → Hh → Option (D × Hh)} {x : Str} {p : Pos} {id : String}
theorem de_callB (hc : CallR X (.builtin id) (rA X T ga)) (hg : Gl X x) (hm : X.mg x = none) (hv : bootBuiltins x = some (.builtin id)) (ha : DA X T W (a :: es) fs) (hn : x ≠ "__name__" := by decide) (hdb : (x == ("__debug__" : Str)) = false := by decide)
    (he : starEach (a :: es) X.env = (false, eval a X.env) :: starEach es X.env := by rfl) (hpl : (backTo pos (starEach es X.env)).any (·.1) = false := by rfl) :
    DE X T W (.Call (.Name x p) (a :: es) [] pos) (eArgs ga fs) :=
  PE_imp (pe_callB hc hg hm hv ha hn hdb he hpl) fun _ _ _ h => tA_args h
theorem de_callTy {TT : String} (hc : CallR X (.type TT) (rA X T ga)) (hg : Gl X x) (hm : X.mg x = none) (hv : bootBuiltins x = some (.type TT)) (ha : DA X T W (a :: es) fs) (hn : x ≠ "__name__" := by decide) (hdb : (x == ("__debug__" : Str)) = false := by decide)
    (he : starEach (a :: es) X.env = (false, eval a X.env) :: starEach es X.env := by rfl) (hpl : (backTo pos (starEach es X.env)).any (·.1) = false := by rfl) :
    DE X T W (.Call (.Name x p) (a :: es) [] pos) (eArgs ga fs) :=
  PE_imp (pe_callTy hc hg hm hv ha hn hdb he hpl) fun _ _ _ h => tA_args h

/-! ### displays -/
def gTupD : List D → Hh → Option (D × Hh) := fun ds G => if ds.length ≤ 100000 then some (mkTup ds, G) else none
def gLstD : List D → Hh → Option (D × Hh) := fun ds G => if ds.length ≤ 100000 then some (.ref G.length, G ++ [.lst ds]) else none
theorem line_of {n : Nat} (h : n ≤ 100000) : n ≤ sizeLine := Nat.le_trans h (by decide)
theorem RG.new (rg : RG X.K T ρ G H) {p : Addr} {vs : List V} {ds : List D} (hp : H p = none) (r : Reps X.K H ρ ds vs) :
    RG X.K T (ρ ++ [p]) (G ++ [.lst ds]) (upd H p (.lst vs)) ∧ Ext ρ H (ρ ++ [p]) (upd H p (.lst vs)) := by
  have e : Ext ρ H (ρ ++ [p]) (upd H p (.lst vs)) := by
    have e0 : Ext ρ H ρ (upd H p (.lst vs)) := ext_new hp
    exact ⟨⟨[p], rfl, fun b hb => by simp at hb; subst hb; exact hp⟩, e0.keep, e0.tbl, e0.back⟩
  have np : p ∉ ρ := fun hm => by
    obtain ⟨l, hl, e'⟩ := List.getElem_of_mem hm
    have e'' : ρ[l]? = some p := by rw [List.getElem?_eq_getElem hl, e']
    have hl' : l < G.length := by rw [rg.len]; exact hl
    have g := rg.ok l p G[l] e'' (List.getElem?_eq_getElem hl')
    cases q : G[l] with
    | lst ds =>
      rw [q] at g
      obtain ⟨vs, hv, _⟩ := g
      rw [hp] at hv; cases hv
  refine ⟨⟨?_, by simp [rg.len], fun l a mo h1 h2 => ?_, fun q hq => ?_⟩, e⟩
  · rw [List.nodup_append]
    exact ⟨rg.nd, by simp, fun a ha b hb => by simp at hb; subst hb; rintro rfl; exact np ha⟩
  · by_cases hl : l < ρ.length
    · rw [List.getElem?_append_left hl] at h1
      rw [List.getElem?_append_left (by rw [rg.len]; exact hl)] at h2
      have g := rg.ok l a mo h1 h2
      cases mo with
      | lst es =>
        obtain ⟨ws, hw, rw'⟩ := g
        exact ⟨ws, by rw [upd_ne (ne_of_none hw hp)]; exact hw, e.reps rg rw'⟩
    · have e1 : l = ρ.length := by
        have := (List.getElem?_eq_some_iff.mp h1).1
        simp at this; omega
      subst e1
      rw [List.getElem?_append_right (Nat.le_refl _), Nat.sub_self] at h1
      rw [List.getElem?_append_right (by rw [rg.len]; exact Nat.le_refl _), rg.len, Nat.sub_self] at h2
      simp at h1 h2
      subst h1; subst h2
      exact ⟨vs, upd_same, e.reps rg r⟩
  · exact (rg.tab q hq).stay fun b o h _ => by rw [upd_ne (ne_of_none h hp)]; exact h
theorem RG.ext_same (rg : RG X.K T ρ G H) {p : Addr} {o : HO} (hp : H p = none) : RG X.K T ρ G (upd H p o) :=
  ⟨rg.nd, rg.len, fun l a mo h1 h2 => by
    have g := rg.ok l a mo h1 h2
    cases mo with
    | lst es =>
      obtain ⟨ws, hw, rw'⟩ := g
      exact ⟨ws, by rw [upd_ne (ne_of_none hw hp)]; exact hw, (ext_new hp).reps rg rw'⟩, fun q hq => by
    exact (rg.tab q hq).stay fun b o h _ => by rw [upd_ne (ne_of_none h hp)]; exact h⟩
theorem new_tup (rg : RG X.K T ρ G H) {p : Addr} {vs : List V} {ds : List D} {Q : VK} (hp : H p = none) (r : Reps X.K H ρ ds vs)
    (q : ∀ v ρ' H', Ext ρ H ρ' H' → RG X.K T ρ' G H' → Rep X.K H' ρ' (mkTup ds) v → Q v H') : Q (.ref p) (upd H p (.tup vs)) :=
  q (.ref p) ρ _ (ext_new hp) (rg.ext_same hp) (rep_mkTup (SqT.of upd_same) ((ext_new hp).reps rg r))
theorem new_lst (rg : RG X.K T ρ G H) {p : Addr} {vs : List V} {ds : List D} {Q : VK} (hp : H p = none) (r : Reps X.K H ρ ds vs)
    (q : ∀ v ρ' H', Ext ρ H ρ' H' → RG X.K T ρ' (G ++ [.lst ds]) H' → Rep X.K H' ρ' (.ref G.length) v → Q v H') : Q (.ref p) (upd H p (.lst vs)) := by
  obtain ⟨g, e⟩ := rg.new hp r
  exact q (.ref p) _ _ e g ⟨p, by rw [rg.len]; simp, rfl⟩
theorem de_tup {k : Nat} (h : DA X T W es fs) : DE X T W (.Tuple es k pos) (eArgs gTupD fs) :=
  PE_imp (pe_tup h) fun σ H Q q => by
    obtain ⟨ρ, env, G, sr, q⟩ := tA_args q
    refine ⟨ρ, env, G, sr, ?_⟩
    cases e : fs env G with
    | ok ds G1 =>
      rw [e] at q
      intro vs ρ1 H1 e1 rg1 rr
      obtain ⟨ρ2, G2, ds2, rg2, rr2, p⟩ := q vs ρ1 H1 e1 rg1 rr
      unfold gTupD at p
      split at p
      · rename_i hl
        exact ⟨line_of (by rw [rr2.length]; exact hl), fun pp hp => new_tup rg2 hp rr2 p⟩
      · exact p.elim
    | ex c w G1 => rw [e] at q; exact q
    | bad => rw [e] at q; exact q
theorem de_lst (h : DA X T W es fs) : DE X T W (.List es pos) (eArgs gLstD fs) :=
  PE_imp (pe_lst h) fun σ H Q q => by
    obtain ⟨ρ, env, G, sr, q⟩ := tA_args q
    refine ⟨ρ, env, G, sr, ?_⟩
    cases e : fs env G with
    | ok ds G1 =>
      rw [e] at q
      intro vs ρ1 H1 e1 rg1 rr
      obtain ⟨ρ2, G2, ds2, rg2, rr2, p⟩ := q vs ρ1 H1 e1 rg1 rr
      unfold gLstD at p
      split at p
      · rename_i hl
        exact ⟨line_of (by rw [rr2.length]; exact hl), fun pp hp => new_lst rg2 hp rr2 p⟩
      · exact p.elim
    | ex c w G1 => rw [e] at q; exact q
    | bad => rw [e] at q; exact q
end
end DL

set_option Elab.async false
set_option linter.all false
set_option maxRecDepth 100000
set_option maxHeartbeats 1000000
namespace DL
open PySem PySem.Spec PyProof.Rows L2
open PySem.SeqAt (eq_plain ne_plain in_tuple_data notIn_tuple_data in_list_data notIn_list_data)
open PySem.W (alike alikeAll dataLt lt_data gt_data le_data ge_data)

/-! ### data, read off the heap -/
section
variable {X : Cx} {T : TbT} {W : WX} {σ : L2.St} {ρ : List Addr} {H : Hp} {G : Hh} {pins : List (Addr × Obj)} {s : Shared}
mutual
theorem RepP.reads (I : Inv X pins σ H s) : ∀ (d : PyData) (v : V) (u : Value), RepP X.K H d v → RelV v u → Reads s.heap u d [] ∧ d.plain = true
  | .none, v, u, h, r => by
    have h : v = .non := h
    subst h; cases r; exact ⟨.none, rfl⟩
  | .bool b, v, u, h, r => by
    have h : v = .bl b := h
    subst h; cases r; exact ⟨.bool b, rfl⟩
  | .int i, v, u, h, r => by
    have h : v = .int i := h
    subst h; obtain ⟨t, rfl⟩ := r; exact ⟨.int i t, rfl⟩
  | .str x, v, u, h, r => by
    have h : v = .str x := h
    subst h; obtain ⟨t, rfl⟩ := r; exact ⟨.str x t, rfl⟩
  | .tuple ds, v, u, h, r => by
    obtain ⟨a, vs, rfl, hs, hr⟩ := h
    cases r
    obtain ⟨its, rv, ⟨o, ho, hc, n, hd⟩, _⟩ := I.tuple hs
    obtain ⟨h1, h2⟩ := RepPs.reads I ds vs its hr rv
    exact ⟨.tuple ho hc hd h1, by simpa [PyData.plain] using h2⟩
  | .list _, _, _, h, _ => h.elim
  | .dict _, _, _, h, _ => h.elim
theorem RepPs.reads (I : Inv X pins σ H s) : ∀ (ds : List PyData) (vs : List V) (us : List Value), RepPs X.K H ds vs → Vals vs us → ReadsAll s.heap us ds [] ∧ PyData.plainAll ds = true
  | [], vs, us, h, r => by
    have h : vs = [] := h
    subst h; cases r; exact ⟨.nil, rfl⟩
  | d :: ds, vs, us, h, r => by
    obtain ⟨v, t, rfl, h1, h2⟩ := h
    cases r with
    | cons r1 r2 =>
      obtain ⟨a1, b1⟩ := RepP.reads I d v _ h1 r1
      obtain ⟨a2, b2⟩ := RepPs.reads I ds t _ h2 r2
      exact ⟨.cons a1 a2, by simp [PyData.plainAll, b1, b2]⟩
end
/-- a value as data: lists by what they hold -/
def view (G : Hh) : D → Option PyData
  | .dat d => some d
  | .ref l => (match G[l]? with
    | some (.lst xs) => (dats xs).map .list
    | none => none)
  | .fro xs => some (.list xs)
  | _ => none
theorem view_reads (I : Inv X pins σ H s) (rg : RG X.K T ρ G H) : ∀ {d : D} {e : PyData} {v : V} {u : Value}, Rep X.K H ρ d v → RelV v u → view G d = some e → ∃ as, Reads s.heap u e as ∧ e.plain = true
  | .dat d, e, v, u, h, r, w => by
    have w : some d = some e := w
    cases w
    exact ⟨[], RepP.reads I d v u h r⟩
  | .ref l, e, v, u, h, r, w => by
    obtain ⟨a, ha, rfl⟩ := h
    cases r
    simp only [view] at w
    split at w
    · rename_i xs hx
      obtain ⟨vs, hv, hr⟩ := rg.ok l a _ ha hx
      simp only [Option.map_eq_some_iff] at w
      obtain ⟨ds, hd, rfl⟩ := w
      obtain ⟨its, rv, ⟨o, n, ho, hc, _, hdd⟩, _⟩ := I.list (SqL.of hv)
      obtain ⟨h1, h2⟩ := RepPs.reads I ds vs its (reps_dats hd hr) rv
      exact ⟨_, .list ho hc hdd h1, by simpa [PyData.plain] using h2⟩
    · cases w
  | .fro xs, e, v, u, h, r, w => by
    obtain ⟨a, vs, rfl, hf, hr⟩ := h
    cases r
    have w : some (PyData.list xs) = some e := w
    cases w
    obtain ⟨its, rv, ⟨o, n, ho, hc, _, hdd⟩, _⟩ := I.list hf.sq
    obtain ⟨h1, h2⟩ := RepPs.reads I xs vs its hr rv
    exact ⟨_, .list ho hc hdd h1, by simpa [PyData.plain] using h2⟩
  | .obj _, _, _, _, _, _, w => by cases w
  | .mix _, _, _, _, _, _, w => by cases w
  | .ty _, _, _, _, _, _, w => by cases w
theorem ref_lst (rg : RG X.K T ρ G H) {l : Nat} {v : V} {xs : List D} (h : Rep X.K H ρ (.ref l) v) (e : G[l]? = some (.lst xs)) : ∃ a vs, v = .ref a ∧ ρ[l]? = some a ∧ H a = some (.lst vs) ∧ Reps X.K H ρ xs vs := by
  obtain ⟨a, ha, rfl⟩ := h
  obtain ⟨vs, hv, hr⟩ := rg.ok l a _ ha e
  exact ⟨a, vs, rfl, ha, hv, hr⟩
/-- an operation hands back a value and changes nothing -/
theorem post_val {d : D} {v : V} {Q : VK} (rg : RG X.K T ρ G H) (r : Rep X.K H ρ d v) (p : PostO X T ρ H (some (d, G)) Q) : Q v H := p v ρ H Ext.refl rg r
theorem post_int {i : Int} {Q : VK} (rg : RG X.K T ρ G H) (p : PostO X T ρ H (some (.dat (.int i), G)) Q) : Q (.int i) H := p _ ρ H Ext.refl rg rfl
theorem post_bl {b : Bool} {Q : VK} (rg : RG X.K T ρ G H) (p : PostO X T ρ H (some (.dat (.bool b), G)) Q) : Q (.bl b) H := p _ ρ H Ext.refl rg rfl
end

def lim : Nat := 100000
/-! ### arithmetic -/
def mulOk (i j : Int) : Bool := decide (i.natAbs < 2 ^ 64) || (decide (j.natAbs < 2 ^ 64) || decide (i.natAbs.log2 + j.natAbs.log2 < 1000000))
def gAdd (x y : D) (G : Hh) : Option (D × Hh) := match x, y with
  | .dat (.int i), .dat (.int j) => some (.dat (.int (i + j)), G)
  | .dat (.str x), .dat (.str y) => if x.length + y.length ≤ 100000 then some (.dat (.str (x ++ y)), G) else none
  | .dat (.tuple a), .dat (.tuple b) => if a.length + b.length ≤ 100000 then some (.dat (.tuple (a ++ b)), G) else none
  | .ref l, .ref m => (match G[l]?, G[m]? with
    | some (.lst a), some (.lst b) => if a.length + b.length ≤ 100000 then some (.ref G.length, G ++ [.lst (a ++ b)]) else none
    | _, _ => none)
  | _, _ => none
def gSub (x y : D) (G : Hh) : Option (D × Hh) := match x, y with
  | .dat (.int i), .dat (.int j) => some (.dat (.int (i - j)), G)
  | _, _ => none
theorem tuple_mulS (l : Addr) (items : Array Value) (n : Nat) (dd : Option Addr) (sl : Array (Option Value)) (x : Int) (u : Tok) (c0 : (decide (x < -(2 ^ 63)) || decide (x ≥ 2 ^ 63)) = false) (c1 : (items.isEmpty || x == 1) = true) :
    Meets (Builtin.«tuple.__mul__» ⟨[.ref l, .int x u], []⟩) (fun _ R s => s.heap.get? l = some { cls := .type "tuple", dict := dd, data := .seq items n, slots := sl } ∧
      R (.ok (.ret (Value.ref l))) s) :=
  .of_wp fun prog w A R s h => by
    obtain ⟨hp, g, d, tk, os⟩ := s
    obtain ⟨hl, h⟩ := h
    have f1 := AutoSeq1.idx_int
    wp_walk using wpAny_loadPart' hl
    repeat (first
      | (refine wpAny_ite_false (decide_eq_false (by rw [c0]; exact Bool.false_ne_true)) ?_; wp_walk using wpAny_loadPart' hl)
      | (refine wpAny_ite_true (decide_eq_true c1) ?_; wp_walk using wpAny_loadPart' hl))
    exact ⟨_, rfl, h⟩
theorem tuple_mul0 (l : Addr) (items : Array Value) (n : Nat) (dd : Option Addr) (sl : Array (Option Value)) (x : Int) (u : Tok) (c0 : (decide (x < -(2 ^ 63)) || decide (x ≥ 2 ^ 63)) = false) (c1 : (items.isEmpty || x == 1) = false) (c2 : (decide (x ≤ 0) || items.isEmpty) = true) :
    Meets (Builtin.«tuple.__mul__» ⟨[.ref l, .int x u], []⟩) (fun _ R s => s.heap.get? l = some { cls := .type "tuple", dict := dd, data := .seq items n, slots := sl } ∧
      R (.ok (.ret (Value.ref s.heap.objs.size))) { s with heap := s.heap.push { cls := Value.type "tuple", data := Data.seq #[] }, toks := s.toks }) :=
  .of_wp fun prog w A R s h => by
    obtain ⟨hp, g, d, tk, os⟩ := s
    obtain ⟨hl, h⟩ := h
    have f1 := AutoSeq1.idx_int
    wp_walk using wpAny_loadPart' hl
    repeat (first
      | (refine wpAny_ite_false (decide_eq_false (by rw [c0]; exact Bool.false_ne_true)) ?_; wp_walk using wpAny_loadPart' hl)
      | (refine wpAny_ite_false (decide_eq_false (by rw [c1]; exact Bool.false_ne_true)) ?_; wp_walk using wpAny_loadPart' hl)
      | (refine wpAny_ite_true (decide_eq_true c2) ?_; wp_walk using wpAny_loadPart' hl))
    exact ⟨_, rfl, h⟩

def rRepU (K : PySem.W.Frag) : R2 := fun x y H Q => ∃ l k xs, x = .ref l ∧ y = .int k ∧ SqT K H l xs ∧ 0 ≤ k ∧ k ≤ 1000 ∧ xs.length ≤ 1000 ∧ (xs = [] ∨ k = 1 → Q (.ref l) H) ∧ (xs ≠ [] → k = 0 → ∀ p, H p = none → Q (.ref p) (upd H p (.tup []))) ∧
  (xs ≠ [] → 2 ≤ k → ∀ p, H p = none → Q (.ref p) (upd H p (.tup (List.replicate k.toNat xs).flatten)))
theorem op_repU {X : Cx} : OpR X (binaryOp .Mult) (rRepU X.K) := by
  intro pins s σ H x y v u Q I rx ry h
  obtain ⟨l, k, xs, rfl, rfl, hT, h0, h2, hz, q1, q2, q3⟩ := h
  by_cases hk : xs ≠ [] ∧ 2 ≤ k
  · exact op_repT pins s σ H _ _ v u Q I rx ry ⟨l, k, xs, rfl, rfl, hT, hk.1, hk.2, h2, hz, q3 hk.1 hk.2⟩
  cases rx
  obtain ⟨t, rfl⟩ := ry
  obtain ⟨its, r, ⟨⟨cls, dd, data, sl⟩, ho, hc, n, hd⟩, hs⟩ := I.tuple hT
  simp only at hc hd
  subst hc hd
  have hle : its.length = xs.length := r.length.symm
  have c0 : (decide (k < -(2 ^ 63)) || decide (k ≥ 2 ^ 63)) = false := by
    rw [decide_eq_false (by omega), decide_eq_false (by omega)] <;> rfl
  by_cases h1 : xs = [] ∨ k = 1
  · have c1 : (its.toArray.isEmpty || k == 1) = true := by
      rcases h1 with rfl | rfl
      · obtain rfl : its = [] := List.eq_nil_of_length_eq_zero hle
        rfl
      · simp
    refine wpAny_binaryOp_repeat_ref (T := "tuple") (U := "int") (by decide) ⟨_, ho, rfl⟩ (fun s' => typeIs_int s' k t) noFill_tuple_mul F.fills_int_mul F.slot_int_rmul repeat_tuple F.slot_int_index.lookup
      (call_meets F.slot_int_rmul (typeIs_int s k t) F.entry_int_rmul (F.args_int_rmul_2 _ _) (int_rmul_tuple k t l its.toArray n dd sl)
        ⟨ho, rfl, ⟨_, ho, rfl⟩, call_meets F.slot_tuple_mul ⟨_, ho, rfl⟩ F.entry_tuple_mul (F.args_tuple_mul_2 _ _) (tuple_mulS l its.toArray n dd sl k t c0 c1) ⟨ho, ?_⟩⟩)
    exact ⟨.ref l, H, I, rfl, q1 h1⟩
  · have hx : xs ≠ [] := fun z => h1 (.inl z)
    have hk0 : k = 0 := by
      have a1 : ¬ 2 ≤ k := fun z => hk ⟨hx, z⟩
      have a2 : k ≠ 1 := fun z => h1 (.inr z)
      omega
    subst hk0
    have hn : its ≠ [] := fun e => hx (by
      rw [e] at hle
      exact List.eq_nil_of_length_eq_zero hle.symm)
    have hi : its.toArray.isEmpty = false := by
      cases its with
      | nil => exact absurd rfl hn
      | cons a b => rfl
    have c1 : (its.toArray.isEmpty || (0 : Int) == 1) = false := by rw [hi]; rfl
    have c2 : (decide ((0 : Int) ≤ 0) || its.toArray.isEmpty) = true := rfl
    refine wpAny_binaryOp_repeat_ref (T := "tuple") (U := "int") (by decide) ⟨_, ho, rfl⟩ (fun s' => typeIs_int s' 0 t) noFill_tuple_mul F.fills_int_mul F.slot_int_rmul repeat_tuple F.slot_int_index.lookup
      (call_meets F.slot_int_rmul (typeIs_int s 0 t) F.entry_int_rmul (F.args_int_rmul_2 _ _) (int_rmul_tuple 0 t l its.toArray n dd sl)
        ⟨ho, rfl, ⟨_, ho, rfl⟩, call_meets F.slot_tuple_mul ⟨_, ho, rfl⟩ F.entry_tuple_mul (F.args_tuple_mul_2 _ _) (tuple_mul0 l its.toArray n dd sl 0 t c0 c1 c2) ⟨ho, ?_⟩⟩)
    refine ⟨.ref s.heap.objs.size, _, I.laid (t' := s.toks) (o := .tup []) (fun b ob q => Heap.get?_push_of_some _ q) (Nat.le_refl _) ?_, rfl, q2 hx rfl _ (I.hok.fresh (Nat.le_refl _))⟩
    exact ⟨by decide, [], .nil, IsTup.new _ _⟩
def repL (a : List PyData) (j : Int) : List PyData := (List.replicate j.toNat a).flatten
def gMul (x y : D) (G : Hh) : Option (D × Hh) := match x, y with
  | .dat (.int i), .dat (.int j) => if mulOk i j then some (.dat (.int (i * j)), G) else none
  | .dat (.tuple a), .dat (.int j) => if 0 ≤ j ∧ j ≤ 1000 ∧ a.length ≤ 1000 then some (.dat (.tuple (repL a j)), G) else none
  | _, _ => none
def gDiv (x y : D) (G : Hh) : Option (D × Hh) := match x, y with
  | .dat (.int i), .dat (.int j) => if 0 < j ∧ j.natAbs.log2 < 9000 then some (.dat (.int (i / j)), G) else none
  | _, _ => none
def gMod (x y : D) (G : Hh) : Option (D × Hh) := match x, y with
  | .dat (.int i), .dat (.int j) => if 0 < j then some (.dat (.int (i % j)), G) else none
  | _, _ => none
def gPow (x y : D) (G : Hh) : Option (D × Hh) := match x, y with
  | .dat (.int i), .dat (.int j) => if 0 ≤ j ∧ j ≤ 1000000 ∧ i.natAbs < 2 ^ 64 then some (.dat (.int (i ^ j.toNat)), G) else none
  | _, _ => none
def gNeg (x : D) (G : Hh) : Option (D × Hh) := match x with
  | .dat (.int i) => some (.dat (.int (-i)), G)
  | _ => none
section
variable {X : Cx} {T : TbT} {W : WX}
theorem op_gSub : OpR X (binaryOp .Sub) (r2 X T gSub) := fun pins s σ H v u vv uu Q I rv ru ⟨ρ, G, x, y, rg, rx, ry, p⟩ => by
  unfold gSub at p
  split at p
  · rename_i i j
    exact op_sub pins s σ H v u vv uu Q I rv ru ⟨i, j, rx, ry, post_int rg p⟩
  · exact p.elim
theorem mulOk_ok {i j : Int} (h : mulOk i j = true) : CMul i j ∨ CMulW i j := by
  unfold mulOk at h
  simp only [Bool.or_eq_true, decide_eq_true_eq] at h
  rcases h with h | h | h
  · exact .inl (.inl (by omega))
  · exact .inl (.inr (by omega))
  · exact .inr h
theorem tup_new (rg : RG X.K T ρ G H) {p : Addr} {vs : List V} {ds : List PyData} {Q : VK} (hp : H p = none) (r : RepPs X.K H ds vs)
    (q : PostO X T ρ H (some (.dat (.tuple ds), G)) Q) : Q (.ref p) (upd H p (.tup vs)) :=
  q (.ref p) ρ _ (ext_new hp) (rg.ext_same hp) ⟨p, vs, rfl, SqT.of upd_same, RepPs.mono ((ext_new hp).kt rg) ds vs r⟩
theorem RepPs.rep {K : PySem.W.Frag} {H : Hp} {ds : List PyData} {vs : List V} (h : RepPs K H ds vs) : ∀ n : Nat, RepPs K H (List.replicate n ds).flatten (List.replicate n vs).flatten
  | 0 => rfl
  | n + 1 => by
    rw [List.replicate_succ, List.replicate_succ, List.flatten_cons, List.flatten_cons]
    exact h.append (RepPs.rep h n)
theorem op_gMul : OpR X (binaryOp .Mult) (r2 X T gMul) := fun pins s σ H v u vv uu Q I rv ru ⟨ρ, G, x, y, rg, rx, ry, p⟩ => by
  unfold gMul at p
  split at p
  · rename_i i j
    split at p
    · rename_i hm
      rcases mulOk_ok hm with h | h
      · exact op_mul pins s σ H v u vv uu Q I rv ru ⟨i, j, rx, ry, h, post_int rg p⟩
      · exact op_mulW pins s σ H v u vv uu Q I rv ru ⟨i, j, rx, ry, h, post_int rg p⟩
    · exact p.elim
  · rename_i a j
    split at p
    · rename_i hm
      obtain ⟨pa, va, rfl, sa, ra⟩ := id rx
      refine op_repU pins s σ H _ _ vv uu Q I rv ru ⟨pa, j, va, rfl, ry, sa, hm.1, hm.2.1, by rw [ra.length]; exact hm.2.2, fun e => ?_, fun _ e q hq => ?_, fun _ _ q hq => ?_⟩
      · have e2 : repL a j = a := by
          rcases e with e | e
          · subst e
            have : a = [] := List.eq_nil_of_length_eq_zero (by rw [← ra.length]; rfl)
            subst this
            unfold repL
            simp
          · subst e
            unfold repL
            simp
        rw [e2] at p
        exact p _ ρ H Ext.refl rg rx
      · subst e
        exact tup_new (ds := repL a 0) rg hq rfl p
      · exact tup_new rg hq (ra.rep j.toNat) p
    · exact p.elim
  · exact p.elim
theorem op_gDiv : OpR X (binaryOp .FloorDiv) (r2 X T gDiv) := fun pins s σ H v u vv uu Q I rv ru ⟨ρ, G, x, y, rg, rx, ry, p⟩ => by
  unfold gDiv at p
  split at p
  · rename_i i j
    split at p
    · rename_i hm
      exact op_fdivW pins s σ H v u vv uu Q I rv ru ⟨i, j, rx, ry, hm, post_int rg p⟩
    · exact p.elim
  · exact p.elim
theorem op_gMod : OpR X (binaryOp .Mod) (r2 X T gMod) := fun pins s σ H v u vv uu Q I rv ru ⟨ρ, G, x, y, rg, rx, ry, p⟩ => by
  unfold gMod at p
  split at p
  · rename_i i j
    split at p
    · rename_i hm
      exact op_mod pins s σ H v u vv uu Q I rv ru ⟨i, j, rx, ry, hm, post_int rg p⟩
    · exact p.elim
  · exact p.elim
theorem op_gPow : OpR X (binaryOp .Pow) (r2 X T gPow) := fun pins s σ H v u vv uu Q I rv ru ⟨ρ, G, x, y, rg, rx, ry, p⟩ => by
  unfold gPow at p
  split at p
  · rename_i i j
    split at p
    · rename_i hm
      exact op_pow pins s σ H v u vv uu Q I rv ru ⟨i, j, rx, ry, hm, post_int rg p⟩
    · exact p.elim
  · exact p.elim
theorem un_gNeg : UnR X (unaryOp .USub) (r1 X T gNeg) := fun pins s σ H v vv Q I rv ⟨ρ, G, x, rg, rx, p⟩ => by
  unfold gNeg at p
  split at p
  · rename_i i
    exact un_neg pins s σ H v vv Q I rv ⟨i, rx, post_int rg p⟩
  · exact p.elim
theorem op_gAdd : OpR X (binaryOp .Add) (r2 X T gAdd) := fun pins s σ H v u vv uu Q I rv ru ⟨ρ, G, x, y, rg, rx, ry, p⟩ => by
  unfold gAdd at p
  split at p
  · rename_i i j
    exact op_add pins s σ H v u vv uu Q I rv ru ⟨i, j, rx, ry, post_int rg p⟩
  · rename_i i j
    split at p
    · rename_i hl
      exact op_add_str pins s σ H v u vv uu Q I rv ru ⟨i, j, rx, ry, line_of hl, p _ ρ H Ext.refl rg rfl⟩
    · exact p.elim
  · rename_i a b
    split at p
    · rename_i hl
      obtain ⟨pa, va, rfl, sa, ra⟩ := id rx
      obtain ⟨pb, vb, rfl, sb, rb⟩ := id ry
      refine op_catA pins s σ H _ _ vv uu Q I rv ru ⟨pa, pb, va, vb, rfl, rfl, sa, sb, line_of (by rw [ra.length, rb.length]; exact hl), fun e => ?_, fun e e2 => ?_, fun e e2 q hq => ?_⟩
      · subst e
        have : a = [] := List.eq_nil_of_length_eq_zero (by rw [← ra.length]; rfl)
        subst this
        exact p _ ρ H Ext.refl rg ry
      · subst e2
        have : b = [] := List.eq_nil_of_length_eq_zero (by rw [← rb.length]; rfl)
        subst this
        rw [List.append_nil] at p
        exact p _ ρ H Ext.refl rg rx
      · exact tup_new rg hq (ra.append rb) p
    · exact p.elim
  · rename_i l m
    split at p
    · rename_i a b ha hb
      split at p
      · rename_i hl
        obtain ⟨pa, va, rfl, _, sa, ra⟩ := ref_lst rg rx ha
        obtain ⟨pb, vb, rfl, _, sb, rb⟩ := ref_lst rg ry hb
        exact op_cat pins s σ H _ _ vv uu Q I rv ru ⟨pa, pb, va, vb, rfl, rfl, sa, sb, line_of (by rw [ra.length, rb.length]; exact hl), fun q hq => new_lst rg hq (ra.append rb) p⟩
      · exact p.elim
    · exact p.elim
  · exact p.elim

/-! ### comparisons -/
def gEq (x y : D) (G : Hh) : Option (D × Hh) := match view G x, view G y with
  | some d, some e => if min d.depth e.depth ≤ 60 then some (.dat (.bool (PyData.eqv d e)), G) else none
  | _, _ => none
def gNe (x y : D) (G : Hh) : Option (D × Hh) := match view G x, view G y with
  | some d, some e => if min d.depth e.depth ≤ 60 then some (.dat (.bool (!PyData.eqv d e)), G) else none
  | _, _ => none
theorem op_gEq (hu : X.A.units + 100 < cLine) : OpR X (compareOp .Eq) (r2 X T gEq) := fun pins s σ H v u vv uu Q I rv ru ⟨ρ, G, x, y, rg, rx, ry, p⟩ => by
  unfold gEq at p
  split at p
  · rename_i d e hd he
    split at p
    · rename_i hm
      obtain ⟨as, r1, p1⟩ := view_reads I rg rx rv hd
      obtain ⟨bs, r2, p2⟩ := view_reads I rg ry ru he
      exact eq_plain r1 r2 p1 p2 (by omega) ⟨.bl _, H, I, rfl, post_bl rg p⟩
    · exact p.elim
  · exact p.elim
theorem op_gNe (hu : X.A.units + 100 < cLine) : OpR X (compareOp .NotEq) (r2 X T gNe) := fun pins s σ H v u vv uu Q I rv ru ⟨ρ, G, x, y, rg, rx, ry, p⟩ => by
  unfold gNe at p
  split at p
  · rename_i d e hd he
    split at p
    · rename_i hm
      obtain ⟨as, r1, p1⟩ := view_reads I rg rx rv hd
      obtain ⟨bs, r2, p2⟩ := view_reads I rg ry ru he
      exact ne_plain r1 r2 p1 p2 (by omega) ⟨.bl _, H, I, rfl, post_bl rg p⟩
    · exact p.elim
  · exact p.elim
/-- an order of ints, of tuples that are alike -/
def gOrd (fi : Int → Int → Bool) (ft : PyData → PyData → Bool) (x y : D) (G : Hh) : Option (D × Hh) := match x, y with
  | .dat (.int i), .dat (.int j) => some (.dat (.bool (fi i j)), G)
  | .dat (.tuple a), .dat (.tuple b) => if alike (.tuple a) (.tuple b) = true ∧ min (PyData.tuple a).depth (PyData.tuple b).depth ≤ 60 then some (.dat (.bool (ft (.tuple a) (.tuple b))), G) else none
  | _, _ => none
def gLt := gOrd (fun i j => decide (i < j)) fun a b => dataLt a b
def gGt := gOrd (fun i j => decide (j < i)) fun a b => dataLt b a
def gLe := gOrd (fun i j => decide (i ≤ j)) fun a b => !dataLt b a
def gGe := gOrd (fun i j => decide (j ≤ i)) fun a b => !dataLt a b
theorem op_gOrd {op : CmpOp} {fi : Int → Int → Bool} {ft : PyData → PyData → Bool} (hi : OpR X (compareOp op) (rI0 fun i j => .bl (fi i j)))
    (ht : ∀ {da db : PyData} {s : Shared} {a b : Value} {as bs : List Addr} {E : Value → Shared → Prop} {Q : Value → Shared → Prop}, Reads s.heap a da as → Reads s.heap b db bs → alike da db = true → da ≠ .none → X.A.units + min da.depth db.depth < cLine → Q (.bool (ft da db)) s → wpAny (model X.prog X.w) X.A (compareOp op a b) Q E s)
    (hu : X.A.units + 100 < cLine) : OpR X (compareOp op) (r2 X T (gOrd fi ft)) := fun pins s σ H v u vv uu Q I rv ru ⟨ρ, G, x, y, rg, rx, ry, p⟩ => by
  unfold gOrd at p
  split at p
  · rename_i i j
    exact hi pins s σ H v u vv uu Q I rv ru ⟨i, j, rx, ry, post_bl rg p⟩
  · rename_i a b
    split at p
    · rename_i hm
      exact ht (RepP.reads I _ _ _ rx rv).1 (RepP.reads I _ _ _ ry ru).1 hm.1 (fun z => nomatch z) (by omega) ⟨.bl _, H, I, rfl, post_bl rg p⟩
    · exact p.elim
  · exact p.elim
theorem op_gLt (hu : X.A.units + 100 < cLine) : OpR X (compareOp .Lt) (r2 X T gLt) := op_gOrd op_lt (fun h1 h2 h3 h4 h5 h6 => lt_data h1 h2 h3 h4 h5 h6) hu
theorem op_gGt (hu : X.A.units + 100 < cLine) : OpR X (compareOp .Gt) (r2 X T gGt) := op_gOrd op_gt (fun h1 h2 h3 h4 h5 h6 => gt_data h1 h2 h3 h4 h5 h6) hu
theorem op_gLe (hu : X.A.units + 100 < cLine) : OpR X (compareOp .LtE) (r2 X T gLe) := op_gOrd op_le (fun h1 h2 h3 h4 h5 h6 => le_data h1 h2 h3 h4 h5 h6) hu
theorem op_gGe (hu : X.A.units + 100 < cLine) : OpR X (compareOp .GtE) (r2 X T gGe) := op_gOrd op_ge (fun h1 h2 h3 h4 h5 h6 => ge_data h1 h2 h3 h4 h5 h6) hu

/-- x in a tuple or list, a text in a text -/
def inD (x : D) (c : D) (G : Hh) : Option Bool := match view G x, view G c with
  | some (.str i), some (.str j) => some (!(Builtin.Str.occurrences j i 0 j.length 1).isEmpty)
  | some d, some (.tuple es) => if min (PyData.depthAll es) d.depth ≤ 60 then some (es.any fun y => PyData.eqv y d) else none
  | some d, some (.list es) => if min (PyData.depthAll es) d.depth ≤ 60 then some (es.any fun y => PyData.eqv y d) else none
  | _, _ => none
def gIn (x y : D) (G : Hh) : Option (D × Hh) := (inD x y G).map fun b => (.dat (.bool b), G)
def gNotIn (x y : D) (G : Hh) : Option (D × Hh) := (inD x y G).map fun b => (.dat (.bool (!b)), G)
theorem plain_tuple {es : List PyData} (h : (PyData.tuple es).plain = true) : PyData.plainAll es = true := by simpa [PyData.plain] using h
theorem plain_list {es : List PyData} (h : (PyData.list es).plain = true) : PyData.plainAll es = true := by simpa [PyData.plain] using h
theorem reads_str {h : Heap} {u : Value} {x : Str} {as : List Addr} (r : Reads h u (.str x) as) : ∃ t, u = .str x t := by
  cases r; exact ⟨_, rfl⟩
theorem relV_str {v : V} {x : Str} {t : Tok} (r : RelV v (.str x t)) : v = .str x := by
  have q : RelV (.str x) (.str x t) := ⟨t, rfl⟩
  exact r.inj q
theorem op_gIn (hu : X.A.units + 100 < cLine) : OpR X (compareOp .In) (r2 X T gIn) := fun pins s σ H v u vv uu Q I rv ru ⟨ρ, G, x, y, rg, rx, ry, p⟩ => by
  unfold gIn inD at p
  split at p
  · rename_i i j hi hj
    obtain ⟨_, r1, _⟩ := view_reads I rg rx rv hi
    obtain ⟨_, r2, _⟩ := view_reads I rg ry ru hj
    obtain ⟨t, rfl⟩ := reads_str r1
    obtain ⟨t', rfl⟩ := reads_str r2
    exact op_in_str pins s σ H v u _ _ Q I rv ru ⟨i, j, relV_str rv, relV_str ru, post_bl rg p⟩
  · rename_i d es hd he
    split at p
    · rename_i hm
      obtain ⟨as, r1, p1⟩ := view_reads I rg rx rv hd
      obtain ⟨bs, r2, p2⟩ := view_reads I rg ry ru he
      exact in_tuple_data r2 r1 (plain_tuple p2) p1 (by omega) ⟨.bl _, H, I, rfl, post_bl rg p⟩
    · exact p.elim
  · rename_i d es hd he
    split at p
    · rename_i hm
      obtain ⟨as, r1, p1⟩ := view_reads I rg rx rv hd
      obtain ⟨bs, r2, p2⟩ := view_reads I rg ry ru he
      exact in_list_data r2 r1 (plain_list p2) p1 (by omega) ⟨.bl _, H, I, rfl, post_bl rg p⟩
    · exact p.elim
  · exact p.elim
theorem op_gNotIn (hu : X.A.units + 100 < cLine) : OpR X (compareOp .NotIn) (r2 X T gNotIn) := fun pins s σ H v u vv uu Q I rv ru ⟨ρ, G, x, y, rg, rx, ry, p⟩ => by
  unfold gNotIn inD at p
  split at p
  · rename_i i j hi hj
    obtain ⟨_, r1, _⟩ := view_reads I rg rx rv hi
    obtain ⟨_, r2, _⟩ := view_reads I rg ry ru hj
    obtain ⟨t, rfl⟩ := reads_str r1
    obtain ⟨t', rfl⟩ := reads_str r2
    exact op_notin_str pins s σ H v u _ _ Q I rv ru ⟨i, j, relV_str rv, relV_str ru, post_bl rg p⟩
  · rename_i d es hd he
    split at p
    · rename_i hm
      obtain ⟨as, r1, p1⟩ := view_reads I rg rx rv hd
      obtain ⟨bs, r2, p2⟩ := view_reads I rg ry ru he
      exact notIn_tuple_data r2 r1 (plain_tuple p2) p1 (by omega) ⟨.bl _, H, I, rfl, post_bl rg p⟩
    · exact p.elim
  · rename_i d es hd he
    split at p
    · rename_i hm
      obtain ⟨as, r1, p1⟩ := view_reads I rg rx rv hd
      obtain ⟨bs, r2, p2⟩ := view_reads I rg ry ru he
      exact notIn_list_data r2 r1 (plain_list p2) p1 (by omega) ⟨.bl _, H, I, rfl, post_bl rg p⟩
    · exact p.elim
  · exact p.elim
/-- is None, is True, is False -/
def isD : D → D → Option Bool
  | .dat (.bool a), .dat (.bool b) => some (decide (a = b))
  | .dat .none, .dat .none => some true
  | .dat (.bool _), .dat .none => some false
  | .dat (.int _), .dat .none => some false
  | .dat (.str _), .dat .none => some false
  | .dat (.tuple _), .dat .none => some false
  | .ref _, .dat .none => some false
  | .obj _, .dat .none => some false
  | .mix _, .dat .none => some false
  | .fro _, .dat .none => some false
  | _, _ => none
def gIs (x y : D) (G : Hh) : Option (D × Hh) := (isD x y).map fun b => (.dat (.bool b), G)
def gIsNot (x y : D) (G : Hh) : Option (D × Hh) := (isD x y).map fun b => (.dat (.bool (!b)), G)
theorem op_gIs : OpR X (compareOp .Is) (r2 X T gIs) := fun pins s σ H v u vv uu Q I rv ru ⟨ρ, G, x, y, rg, rx, ry, p⟩ => by
  unfold gIs isD at p
  split at p
  · rename_i a b
    exact op_isBl pins s σ H v u vv uu Q I rv ru ⟨a, b, rx, ry, post_bl rg p⟩
  all_goals first
    | exact p.elim
    | (refine op_isN pins s σ H v u vv uu Q I rv ru ⟨ry, ?_⟩
       have q := post_bl rg p
       first
         | (have e : v = .non := rx
            subst e
            exact q)
         | (have e : v = .bl _ := rx
            subst e
            exact q)
         | (have e : v = .int _ := rx
            subst e
            exact q)
         | (have e : v = .str _ := rx
            subst e
            exact q)
         | (obtain ⟨_, _, rfl, _⟩ := rx
            exact q)
         | (obtain ⟨_, _, rfl⟩ := rx
            exact q)
         | (have e : v = .ref _ := rx
            subst e
            exact q))
theorem op_gIsNot : OpR X (compareOp .IsNot) (r2 X T gIsNot) := fun pins s σ H v u vv uu Q I rv ru ⟨ρ, G, x, y, rg, rx, ry, p⟩ => by
  unfold gIsNot isD at p
  split at p
  · rename_i a b
    exact op_notBl pins s σ H v u vv uu Q I rv ru ⟨a, b, rx, ry, post_bl rg p⟩
  all_goals first
    | exact p.elim
    | (refine op_notN pins s σ H v u vv uu Q I rv ru ⟨ry, ?_⟩
       have q := post_bl rg p
       first
         | (have e : v = .non := rx
            subst e
            exact q)
         | (have e : v = .bl _ := rx
            subst e
            exact q)
         | (have e : v = .int _ := rx
            subst e
            exact q)
         | (have e : v = .str _ := rx
            subst e
            exact q)
         | (obtain ⟨_, _, rfl, _⟩ := rx
            exact q)
         | (obtain ⟨_, _, rfl⟩ := rx
            exact q)
         | (have e : v = .ref _ := rx
            subst e
            exact q))
end
end DL

set_option Elab.async false
set_option linter.all false
set_option maxRecDepth 100000
set_option maxHeartbeats 1000000
namespace DL
open PySem PySem.Spec PyProof.Rows L2
open PySem.SeqAt (eq_plain ne_plain in_tuple_data notIn_tuple_data in_list_data notIn_list_data)
open PySem.W (alike alikeAll dataLt lt_data gt_data le_data ge_data)

/-! ### truth -/
def tru (x : D) (G : Hh) : Option Bool := match x with
  | .dat .none => some false
  | .dat (.bool b) => some b
  | .dat (.int i) => some (i != 0)
  | .dat (.str y) => if y.length ≤ 100000 then some ((y.length : Int) != 0) else none
  | .dat (.tuple ds) => some (!ds.isEmpty)
  | .ref l => (match G[l]? with
    | some (.lst xs) => some (!xs.isEmpty)
    | none => none)
  | .fro xs => some (!xs.isEmpty)
  | .mix xs => some (!xs.isEmpty)
  | _ => none
def truB (x : D) (_ : Hh) : Option Bool := match x with
  | .dat (.bool b) => some b
  | _ => none
theorem isEmpty_len {α β : Type} {a : List α} {b : List β} (h : a.length = b.length) : a.isEmpty = b.isEmpty := by
  cases a <;> cases b <;> simp at h ⊢
section
variable {X : Cx} {T : TbT} {W : WX} {σ : L2.St} {ρ : List Addr} {H : Hp} {G : Hh}
theorem tru_V {x : D} {v : V} {k : Bool} (rg : RG X.K T ρ G H) (r : Rep X.K H ρ x v) (h : tru x G = some k) : TruV X.K v H k := by
  unfold tru at h
  split at h
  · have e : v = .non := r
    subst e; cases h; rfl
  · have e : v = .bl _ := r
    subst e; cases h; rfl
  · have e : v = .int _ := r
    subst e; cases h; rfl
  · split at h
    · rename_i hl
      have e : v = .str _ := r
      subst e; cases h; exact ⟨line_of hl, rfl⟩
    · cases h
  · obtain ⟨a, vs, rfl, s, rs⟩ := r
    cases h
    exact .inr (.inl ⟨vs, s, by rw [isEmpty_len rs.length]⟩)
  · split at h
    · rename_i xs hx
      obtain ⟨a, vs, rfl, _, s, rs⟩ := ref_lst rg r hx
      cases h
      exact .inl ⟨vs, SqL.of s, by rw [isEmpty_len rs.length]⟩
    · cases h
  · obtain ⟨a, vs, rfl, s, rs⟩ := r
    cases h
    exact .inl ⟨vs, s.sq, by rw [isEmpty_len rs.length]⟩
  · obtain ⟨a, vs, rfl, s, rs⟩ := r
    cases h
    exact .inr (.inl ⟨vs, s, by rw [isEmpty_len rs.length]⟩)
  · cases h
theorem tT_test {g : D → Hh → Option Bool} {f : ES} {H : Hp} {Q : Bool → Hp → Prop} (q : tT X T W (tTest' g f) σ H Q) :
    tE X T W f σ H fun v H1 => ∃ ρ G x k, RG X.K T ρ G H1 ∧ Rep X.K H1 ρ x v ∧ g x G = some k ∧ Q k H1 := by
  obtain ⟨ρ, env, G, sr, p⟩ := q
  refine ⟨ρ, env, G, sr, ?_⟩
  unfold tTest' at p
  cases e : f env G with
  | ok x G1 =>
    rw [e] at p
    intro v ρ1 H1 e1 rg1 r1
    dsimp only at p
    cases e3 : g x G1 with
    | none => rw [e3] at p; exact p.elim
    | some k =>
      rw [e3] at p
      exact ⟨ρ1, G1, x, k, rg1, r1, e3, p ρ1 H1 e1 rg1⟩
  | ex c w G1 => rw [e] at p; exact p
  | bad => rw [e] at p; exact p
variable {a b c : Expr} {f fa fb fc : ES} {t u : TSm} {pos : Pos} {rest : List Expr}
theorem dt_truth (ha : DE X T W a f) (he : ∀ whole, isTrue a X.env whole = (do let v ← whole; standAt a.pos; holding [v] (truthy v)) := by intro _; rfl) : DT X T W a (tTest' tru f) :=
  PT_imp (pt_truth ha he) fun σ H Q q => by
    obtain ⟨ρ, env, G, sr, p⟩ := tT_test q
    refine ⟨ρ, env, G, sr, ?_⟩
    cases e : f env G with
    | ok x G1 =>
      rw [e] at p
      intro v ρ1 H1 e1 rg1 r1
      obtain ⟨ρ2, G2, y, k, rg2, r2, h, q⟩ := p v ρ1 H1 e1 rg1 r1
      exact ⟨k, tru_V rg2 r2 h, q⟩
    | ex c w G1 => rw [e] at p; exact p
    | bad => rw [e] at p; exact p
theorem tB_of {H : Hp} {Q : Bool → Hp → Prop} (q : tT X T W (tTest' truB f) σ H Q) : tE X T W f σ H fun v H1 => ∃ k, v = .bl k ∧ Q k H1 := by
  obtain ⟨ρ, env, G, sr, p⟩ := tT_test q
  refine ⟨ρ, env, G, sr, ?_⟩
  cases e : f env G with
  | ok x G1 =>
    rw [e] at p
    intro v ρ1 H1 e1 rg1 r1
    obtain ⟨ρ2, G2, y, k, rg2, r2, h, q⟩ := p v ρ1 H1 e1 rg1 r1
    unfold truB at h
    split at h
    · cases h
      exact ⟨_, r2, q⟩
    · cases h
  | ex c w G1 => rw [e] at p; exact p
  | bad => rw [e] at p; exact p
theorem dt_cmp {op : CmpOp} {g : D → D → Hh → Option (D × Hh)} (ho : OpR X (compareOp op) (r2 X T g)) (ha : DE X T W a fa) (hb : DE X T W b fb) (hm : behindInMarks op b = false) : DT X T W (.Compare a [op] [b] pos) (tTest' truB (eBin g fa fb)) :=
  PT_imp (pt_cmpR ho ha hb hm) fun σ H Q q => tE_bin (tB_of q)
/-- a op b op' c -/
def eChain (g g' : D → D → Hh → Option (D × Hh)) (fa fb fc : ES) : ES := eThen fa fun x => eThen fb fun y env G => match g x y G with
  | some (.dat (.bool true), G2) => eThen fc (fun z _ G3 => RE.of (g' y z G3)) env G2
  | some (.dat (.bool false), G2) => .ok (.dat (.bool false)) G2
  | _ => .bad
theorem tE_chain {g g' : D → D → Hh → Option (D × Hh)} {H : Hp} {Q : VK} (q : tE X T W (eChain g g' fa fb fc) σ H Q) :
    tChain (r2 X T g) (r2 X T g') (tE X T W fa) (tE X T W fb) (tE X T W fc) σ H Q := by
  obtain ⟨ρ, env, G, sr, p⟩ := q
  refine ⟨ρ, env, G, sr, ?_⟩
  unfold eChain eThen at p
  cases e : fa env G with
  | ok x G1 =>
    rw [e] at p
    intro v ρ1 H1 e1 rg1 r1
    refine ⟨ρ1, env, G1, ⟨rg1, e1.envr sr.rg sr.ev⟩, ?_⟩
    dsimp only at p
    cases e2 : fb env G1 with
    | ok y G2 =>
      rw [e2] at p
      intro u ρ2 H2 e2' rg2 r2
      dsimp only at p
      refine ⟨ρ2, G2, x, y, rg2, e2'.rep rg1 r1, r2, ?_⟩
      split at p
      · rename_i G3 hg
        rw [hg]
        intro w ρ3 H3 e3 rg3 r3
        refine ⟨true, r3, ?_⟩
        rw [if_pos rfl]
        have e12 := (e1.trans e2').trans e3
        have sr3 : SR X T ρ3 env G3 σ H3 := ⟨rg3, e12.envr sr.rg sr.ev⟩
        refine ⟨ρ3, env, G3, sr3, ?_⟩
        cases e4 : fc env G3 with
        | ok z G4 =>
          rw [e4] at p
          intro w4 ρ4 H4 e5 rg4 r4
          refine ⟨ρ4, G4, y, z, rg4, e5.rep rg3 (e3.rep rg2 r2), r4, ?_⟩
          dsimp only at p
          cases e6 : g' y z G4 with
          | none => rw [e6] at p; exact p
          | some zz =>
            obtain ⟨d, G5⟩ := zz
            rw [e6] at p
            exact fun w ρ5 H5 e7 => p w ρ5 H5 ((e12.trans e5).trans e7)
        | ex c w G4 => rw [e4] at p; exact PostX.ext e12 p
        | bad => rw [e4] at p; exact p
      · rename_i G3 hg
        rw [hg]
        intro w ρ3 H3 e3 rg3 r3
        refine ⟨false, r3, ?_⟩
        rw [if_neg Bool.false_ne_true]
        exact p _ ρ3 H3 ((e1.trans e2').trans e3) rg3 rfl
      · exact p.elim
    | ex c w G2 => rw [e2] at p; exact PostX.ext e1 p
    | bad => rw [e2] at p; exact p
  | ex c w G1 => rw [e] at p; exact p
  | bad => rw [e] at p; exact p
theorem de_chain {op op' : CmpOp} {g g' : D → D → Hh → Option (D × Hh)} (ho : OpR X (compareOp op) (r2 X T g)) (ho' : OpR X (compareOp op') (r2 X T g')) (ha : DE X T W a fa) (hb : DE X T W b fb) (hc : DE X T W c fc)
    (hm : lastMarks [op, op'] [b, c] = false := by with_unfolding_all rfl) : DE X T W (.Compare a [op, op'] [b, c] pos) (eChain g g' fa fb fc) :=
  PE_imp (pe_chain ho ho' ha hb hc hm) fun _ _ _ q => tE_chain q
theorem dt_chain {op op' : CmpOp} {g g' : D → D → Hh → Option (D × Hh)} (ho : OpR X (compareOp op) (r2 X T g)) (ho' : OpR X (compareOp op') (r2 X T g')) (ha : DE X T W a fa) (hb : DE X T W b fb) (hc : DE X T W c fc)
    (hm : lastMarks [op, op'] [b, c] = false := by with_unfolding_all rfl) : DT X T W (.Compare a [op, op'] [b, c] pos) (tTest' truB (eChain g g' fa fb fc)) :=
  PT_imp (pt_chain ho ho' ha hb hc hm) fun _ _ _ q => tE_chain (tB_of q)
/-! ### and, or, not -/
abbrev DW (X : Cx) (T : TbT) (W : WX) (e : Expr) (f : TSm) : Prop := PW X e (tT X T W f)
theorem tT_and {H : Hp} {Q : Bool → Hp → Prop} (q : tT X T W (sAnd t u) σ H Q) : L2.tAnd (tT X T W t) (tT X T W u) σ H Q := by
  obtain ⟨ρ, env, G, sr, p⟩ := q
  refine ⟨ρ, env, G, sr, ?_⟩
  unfold sAnd at p
  cases e : t env G with
  | ok k G1 =>
    rw [e] at p
    intro ρ1 H1 e1 rg1
    cases k with
    | true => exact ⟨ρ1, env, G1, ⟨rg1, e1.envr sr.rg sr.ev⟩, PostT.ext e1 p⟩
    | false => exact p ρ1 H1 e1 rg1
  | ex c w G1 => rw [e] at p; exact p
  | bad => rw [e] at p; exact p
theorem tT_or {H : Hp} {Q : Bool → Hp → Prop} (q : tT X T W (sOr t u) σ H Q) : L2.tOr (tT X T W t) (tT X T W u) σ H Q := by
  obtain ⟨ρ, env, G, sr, p⟩ := q
  refine ⟨ρ, env, G, sr, ?_⟩
  unfold sOr at p
  cases e : t env G with
  | ok k G1 =>
    rw [e] at p
    intro ρ1 H1 e1 rg1
    cases k with
    | false => exact ⟨ρ1, env, G1, ⟨rg1, e1.envr sr.rg sr.ev⟩, PostT.ext e1 p⟩
    | true => exact p ρ1 H1 e1 rg1
  | ex c w G1 => rw [e] at p; exact p
  | bad => rw [e] at p; exact p
theorem tT_not {H : Hp} {Q : Bool → Hp → Prop} (q : tT X T W (sNot t) σ H Q) : L2.tNot (tT X T W t) σ H Q := by
  obtain ⟨ρ, env, G, sr, p⟩ := q
  refine ⟨ρ, env, G, sr, ?_⟩
  unfold sNot at p
  cases e : t env G with
  | ok k G1 => rw [e] at p; exact p
  | ex c w G1 => rw [e] at p; exact p
  | bad => rw [e] at p; exact p
theorem dw_and1 (ha : DT X T W a t) : DW X T W (.BoolOp .And [a] pos) t := pw_and1 ha
theorem dw_or1 (ha : DT X T W a t) : DW X T W (.BoolOp .Or [a] pos) t := pw_or1 ha
theorem dw_and (ha : DT X T W a t) (hb : DW X T W (.BoolOp .And (b :: rest) pos) u) : DW X T W (.BoolOp .And (a :: b :: rest) pos) (sAnd t u) := PW_imp (pw_and ha hb) fun _ _ _ q => tT_and q
theorem dw_or (ha : DT X T W a t) (hb : DW X T W (.BoolOp .Or (b :: rest) pos) u) : DW X T W (.BoolOp .Or (a :: b :: rest) pos) (sOr t u) := PW_imp (pw_or ha hb) fun _ _ _ q => tT_or q
theorem dt_not (ha : DT X T W a t) : DT X T W (.UnaryOp .Not a pos) (sNot t) := PT_imp (pt_not ha) fun _ _ _ q => tT_not q
theorem DW.dt {e : Expr} (h : DW X T W e t) : DT X T W e t := h.pt
theorem de_one {op : BoolOp} (h : DE X T W a f) : DE X T W (.BoolOp op [a] pos) f := pe_one h
theorem de_and (ha : DE X T W a fa) (hb : DE X T W (.BoolOp .And (b :: rest) pos) fb) : DE X T W (.BoolOp .And (a :: b :: rest) pos) (eAnd tru fa fb) :=
  PE_imp (pe_andT ha hb) fun σ H Q ⟨ρ, env, G, sr, p⟩ => by
    refine ⟨ρ, env, G, sr, ?_⟩
    unfold eAnd eThen at p
    cases e : fa env G with
    | ok x G1 =>
      rw [e] at p
      intro v ρ1 H1 e1 rg1 r1
      dsimp only at p
      cases e2 : tru x G1 with
      | none => rw [e2] at p; exact p.elim
      | some k =>
        rw [e2] at p
        refine ⟨k, tru_V rg1 r1 e2, ?_⟩
        cases k with
        | true => exact ⟨ρ1, env, G1, ⟨rg1, e1.envr sr.rg sr.ev⟩, PostE.ext e1 p⟩
        | false => exact p v ρ1 H1 e1 rg1 r1
    | ex c w G1 => rw [e] at p; exact p
    | bad => rw [e] at p; exact p
theorem de_or (ha : DE X T W a fa) (hb : DE X T W (.BoolOp .Or (b :: rest) pos) fb) : DE X T W (.BoolOp .Or (a :: b :: rest) pos) (eOr tru fa fb) :=
  PE_imp (pe_orT ha hb) fun σ H Q ⟨ρ, env, G, sr, p⟩ => by
    refine ⟨ρ, env, G, sr, ?_⟩
    unfold eOr eThen at p
    cases e : fa env G with
    | ok x G1 =>
      rw [e] at p
      intro v ρ1 H1 e1 rg1 r1
      dsimp only at p
      cases e2 : tru x G1 with
      | none => rw [e2] at p; exact p.elim
      | some k =>
        rw [e2] at p
        refine ⟨k, tru_V rg1 r1 e2, ?_⟩
        cases k with
        | false => exact ⟨ρ1, env, G1, ⟨rg1, e1.envr sr.rg sr.ev⟩, PostE.ext e1 p⟩
        | true => exact p v ρ1 H1 e1 rg1 r1
    | ex c w G1 => rw [e] at p; exact p
    | bad => rw [e] at p; exact p
def gNotT (x : D) (G : Hh) : Option (D × Hh) := (tru x G).map fun b => (.dat (.bool (!b)), G)
theorem de_not (ha : DE X T W a fa) : DE X T W (.UnaryOp .Not a pos) (eUn gNotT fa) :=
  PE_imp (pe_notT ha) fun σ H Q q => by
    obtain ⟨ρ, env, G, sr, p⟩ := tE_un q
    refine ⟨ρ, env, G, sr, ?_⟩
    cases e : fa env G with
    | ok x G1 =>
      rw [e] at p
      intro v ρ1 H1 e1 rg1 r1
      obtain ⟨ρ2, G2, y, rg2, r2, h⟩ := p v ρ1 H1 e1 rg1 r1
      unfold gNotT at h
      cases e2 : tru y G2 with
      | none => rw [e2] at h; exact h.elim
      | some k =>
        rw [e2] at h
        exact ⟨k, tru_V rg2 r2 e2, post_bl rg2 h⟩
    | ex c w G1 => rw [e] at p; exact p
    | bad => rw [e] at p; exact p
theorem de_if (hc : DT X T W c t) (ha : DE X T W a fa) (hb : DE X T W b fb) : DE X T W (.IfExp c a b pos) (eIf t fa fb) :=
  PE_imp (pe_ifExp hc ha hb) fun σ H Q ⟨ρ, env, G, sr, p⟩ => by
    refine ⟨ρ, env, G, sr, ?_⟩
    unfold eIf at p
    cases e : t env G with
    | ok k G1 =>
      rw [e] at p
      intro ρ1 H1 e1 rg1
      cases k with
      | true => exact ⟨ρ1, env, G1, ⟨rg1, e1.envr sr.rg sr.ev⟩, PostE.ext e1 p⟩
      | false => exact ⟨ρ1, env, G1, ⟨rg1, e1.envr sr.rg sr.ev⟩, PostE.ext e1 p⟩
    | ex c w G1 => rw [e] at p; exact p
    | bad => rw [e] at p; exact p

/-! ### items -/
def gIx (x y : D) (G : Hh) : Option (D × Hh) := match x, y with
  | .dat (.tuple ds), .dat (.int i) => (match atI ds i with
    | some d => some (.dat d, G)
    | none => none)
  | .ref l, .dat (.int i) => (match G[l]? with
    | some (.lst xs) => (match atI xs i with
      | some d => some (d, G)
      | none => none)
    | none => none)
  | .fro ds, .dat (.int i) => (match atI ds i with
    | some d => some (.dat d, G)
    | none => none)
  | .mix ds, .dat (.int i) => (match atI ds i with
    | some d => some (d, G)
    | none => none)
  | .dat (.str z), .dat (.int i) => if z.length ≤ 100000 then (match atI z.cps.toList i with
    | some c => some (.dat (.str ⟨#[c]⟩), G)
    | none => none) else none
  | _, _ => none
theorem RepPs.atI {ds : List PyData} {vs : List V} {i : Int} {d : PyData} (r : RepPs X.K H ds vs) (h : atI ds i = some d) : ∃ v, L2.atI vs i = some v ∧ RepP X.K H d v := by
  unfold L2.atI at h ⊢
  rw [r.length]
  cases e : ixN ds.length i with
  | none => rw [e] at h; cases h
  | some j =>
    rw [e] at h
    exact r.get h
theorem Reps.atI {ds : List D} {vs : List V} {i : Int} {d : D} (r : Reps X.K H ρ ds vs) (h : atI ds i = some d) : ∃ v, L2.atI vs i = some v ∧ Rep X.K H ρ d v := by
  unfold L2.atI at h ⊢
  rw [r.length]
  cases e : ixN ds.length i with
  | none => rw [e] at h; cases h
  | some j =>
    rw [e] at h
    exact r.get h
theorem ix_gIx : IxR X (r2 X T gIx) := fun va sl pins s σ H v u vv uu Q I rv ru ⟨ρ, G, x, y, rg, rx, ry, p⟩ hs => by
  unfold gIx at p
  split at p
  · rename_i ds i
    split at p
    · rename_i d hd
      obtain ⟨a, vs, rfl, sq, rs⟩ := rx
      obtain ⟨w, hw, rw'⟩ := rs.atI hd
      exact ix_tup va sl pins s σ H _ u vv uu Q I rv ru ⟨a, vs, i, w, rfl, ry, sq, hw, post_val (d := .dat d) rg rw' p⟩ hs
    · exact p.elim
  · rename_i l i
    split at p
    · rename_i xs hx
      split at p
      · rename_i d hd
        obtain ⟨a, vs, rfl, _, sq, rs⟩ := ref_lst rg rx hx
        obtain ⟨w, hw, rw'⟩ := rs.atI hd
        exact ix_list va sl pins s σ H _ u vv uu Q I rv ru ⟨a, vs, i, w, rfl, ry, SqL.of sq, hw, post_val rg rw' p⟩ hs
      · exact p.elim
    · exact p.elim
  · rename_i ds i
    split at p
    · rename_i d hd
      obtain ⟨a, vs, rfl, sq, rs⟩ := rx
      obtain ⟨w, hw, rw'⟩ := rs.atI hd
      exact ix_list va sl pins s σ H _ u vv uu Q I rv ru ⟨a, vs, i, w, rfl, ry, sq.sq, hw, post_val (d := .dat d) rg rw' p⟩ hs
    · exact p.elim
  · rename_i ds i
    split at p
    · rename_i d hd
      obtain ⟨a, vs, rfl, sq, rs⟩ := rx
      obtain ⟨w, hw, rw'⟩ := rs.atI hd
      exact ix_tup va sl pins s σ H _ u vv uu Q I rv ru ⟨a, vs, i, w, rfl, ry, sq, hw, post_val rg rw' p⟩ hs
    · exact p.elim
  · rename_i z i
    split at p
    · rename_i hl
      split at p
      · rename_i c hc
        exact ix_str va sl pins s σ H _ u vv uu Q I rv ru ⟨z, i, c, rx, ry, line_of hl, hc, post_val (d := .dat (.str ⟨#[c]⟩)) rg rfl p⟩ hs
      · exact p.elim
    · exact p.elim
  · exact p.elim

/-! ### slices -/
inductive RO where
  | ok (o : Option Int) (G : Hh) | ex (c : Addr) (w : D) (G : Hh) | bad
abbrev OS := Env' → Hh → RO
def oNone : OS := fun _ G => .ok none G
def oSome (f : ES) : OS := fun env G => match f env G with
  | .ok (.dat (.int i)) G1 => .ok (some i) G1
  | .ok _ _ => .bad
  | .ex c w G1 => .ex c w G1
  | .bad => .bad
def PostOp (X : Cx) (T : TbT) (W : WX) (σ : L2.St) (ρ : List Addr) (H : Hp) (r : RO) (Q : Option Int → Hp → Prop) : Prop :=
  match r with
  | .ok o G' => ∀ ρ' H', Ext ρ H ρ' H' → RG X.K T ρ' G' H' → Q o H'
  | .ex c w G' => PostX X T W σ ρ H c w G'
  | .bad => False
def tO (X : Cx) (T : TbT) (W : WX) (f : OS) : TO := fun σ H Q => ∃ ρ env G, SR X T ρ env G σ H ∧ PostOp X T W σ ρ H (f env G) Q
abbrev DO (X : Cx) (T : TbT) (W : WX) (e : Option Expr) (f : OS) : Prop := PO X e (tO X T W f)
theorem PO_imp {X : Cx} {e : Option Expr} {t t' : TO} (h : PO X e t) (i : ∀ σ H Q, t' σ H Q → t σ H Q) : PO X e t' := ⟨fun pins s σ H Q I q => h.run pins s σ H Q I (i σ H Q q)⟩
theorem do_none : DO X T W none oNone := PO_imp po_none fun σ H Q ⟨ρ, env, G, sr, p⟩ => p ρ H Ext.refl sr.rg
theorem do_some {e : Expr} (h : DE X T W e f) : DO X T W (some e) (oSome f) := PO_imp (po_some h) fun σ H Q ⟨ρ, env, G, sr, p⟩ => by
  refine ⟨ρ, env, G, sr, ?_⟩
  unfold oSome at p
  cases e2 : f env G with
  | ok x G1 =>
    rw [e2] at p
    intro v ρ1 H1 e1 rg1 r1
    split at p
    · rename_i i _ h
      injection h with h1 h2
      subst h1; subst h2
      exact ⟨_, r1, p ρ1 H1 e1 rg1⟩
    · exact p.elim
    · rename_i h; cases h
    · rename_i h; cases h
  | ex c w G1 => rw [e2] at p; exact p
  | bad => rw [e2] at p; exact p
def cutL {α : Type} (xs : List α) (lo hi : Option Int) : List α := (xs.drop (HT.sIx xs.length 0 lo)).take (HT.sIx xs.length xs.length hi - HT.sIx xs.length 0 lo)
def gSl (x : D) (lo hi : Option Int) (G : Hh) : Option (D × Hh) := match x with
  | .dat (.tuple ds) => some (.dat (.tuple (cutL ds lo hi)), G)
  | .ref l => (match G[l]? with
    | some (.lst xs) => some (.ref G.length, G ++ [.lst (cutL xs lo hi)])
    | none => none)
  | .fro xs => some (.ref G.length, G ++ [.lst ((cutL xs lo hi).map .dat)])
  | .dat (.str z) => if z.length ≤ 100000 then some (.dat (.str (cutS z lo hi)), G) else none
  | _ => none
def eSl (f : ES) (o o' : OS) : ES := eThen f fun x env G => match o env G with
  | .ok lo G1 => (match o' env G1 with
    | .ok hi G2 => RE.of (gSl x lo hi G2)
    | .ex c w G2 => .ex c w G2
    | .bad => .bad)
  | .ex c w G1 => .ex c w G1
  | .bad => .bad
def rSl (X : Cx) (T : TbT) : V → Option Int → Option Int → Hp → VK → Prop := fun v lo hi H Q => ∃ ρ G x, RG X.K T ρ G H ∧ Rep X.K H ρ x v ∧ PostO X T ρ H (gSl x lo hi G) Q
theorem cut_all {α : Type} {xs : List α} {lo hi : Option Int} (h : HT.sIx xs.length 0 lo = 0 ∧ HT.sIx xs.length xs.length hi = xs.length) : cutL xs lo hi = xs := by
  unfold cutL
  rw [h.1, h.2]; simp
theorem sl_gSl : SlR X (rSl X T) := fun pins s σ H v vv vl vu lo hi sl Q I rv hs pl pu ⟨ρ, G, x, rg, rx, p⟩ => by
  unfold gSl at p
  split at p
  · rename_i ds
    obtain ⟨a, vs, rfl, sq, rs⟩ := id rx
    refine sl_tupA pins s σ H _ vv vl vu lo hi sl Q I rv hs pl pu ⟨a, vs, rfl, sq, fun h => ?_, fun h q hq => ?_⟩
    · rw [rs.length] at h
      rw [cut_all h] at p
      exact post_val rg rx p
    · refine tup_new rg hq ?_ p
      unfold cutV cutL
      rw [rs.length]
      exact (rs.drop _).take _
  · rename_i l
    split at p
    · rename_i xs hx
      obtain ⟨a, vs, rfl, _, sq, rs⟩ := ref_lst rg rx hx
      refine sl_list pins s σ H _ vv vl vu lo hi sl Q I rv hs pl pu ⟨a, vs, rfl, SqL.of sq, fun q hq => new_lst rg hq ?_ p⟩
      unfold cutV cutL
      rw [rs.length]
      exact (rs.drop _).take _
    · exact p.elim
  · rename_i xs
    obtain ⟨a, vs, rfl, sq, rs⟩ := rx
    refine sl_list pins s σ H _ vv vl vu lo hi sl Q I rv hs pl pu ⟨a, vs, rfl, sq.sq, fun q hq => new_lst rg hq ?_ p⟩
    unfold cutV cutL
    rw [rs.length]
    exact ((rs.drop _).take _).reps
  · rename_i z
    split at p
    · rename_i hl
      exact sl_str pins s σ H _ vv vl vu lo hi sl Q I rv hs pl pu ⟨z, rx, line_of hl, post_val (d := .dat (.str (cutS z lo hi))) rg rfl p⟩
    · exact p.elim
  · exact p.elim
theorem de_slice {o o' : OS} {lo hi : Option Expr} {p2 : Pos} (he : DE X T W a f) (hl : DO X T W lo o) (hu : DO X T W hi o') : DE X T W (.Subscript a (.Slice lo hi none p2) pos) (eSl f o o') :=
  PE_imp (pe_slice sl_gSl he hl hu) fun σ H Q ⟨ρ, env, G, sr, p⟩ => by
    refine ⟨ρ, env, G, sr, ?_⟩
    unfold eSl eThen at p
    cases e : f env G with
    | ok x G1 =>
      rw [e] at p
      intro v ρ1 H1 e1 rg1 r1
      refine ⟨ρ1, env, G1, ⟨rg1, e1.envr sr.rg sr.ev⟩, ?_⟩
      dsimp only at p
      cases e2 : o env G1 with
      | ok l G2 =>
        rw [e2] at p
        intro ρ2 H2 e2' rg2
        refine ⟨ρ2, env, G2, ⟨rg2, (e1.trans e2').envr sr.rg sr.ev⟩, ?_⟩
        dsimp only at p
        cases e3 : o' env G2 with
        | ok h G3 =>
          rw [e3] at p
          intro ρ3 H3 e3' rg3
          refine ⟨ρ3, G3, x, rg3, e3'.rep rg2 (e2'.rep rg1 r1), ?_⟩
          dsimp only at p
          cases e4 : gSl x l h G3 with
          | none => rw [e4] at p; exact p
          | some z =>
            obtain ⟨d, G4⟩ := z
            rw [e4] at p
            exact fun w ρ4 H4 e5 => p w ρ4 H4 (((e1.trans e2').trans e3').trans e5)
        | ex c w G3 => rw [e3] at p; exact PostX.ext (e1.trans e2') p
        | bad => rw [e3] at p; exact p
      | ex c w G2 => rw [e2] at p; exact PostX.ext e1 p
      | bad => rw [e2] at p; exact p
    | ex c w G1 => rw [e] at p; exact p
    | bad => rw [e] at p; exact p
end
end DL

set_option Elab.async false
set_option linter.all false
set_option maxRecDepth 100000
set_option maxHeartbeats 1000000
namespace DL
open PySem PySem.Spec PyProof.Rows L2

/-! ### built-in functions -/
def ints? : List D → Option (List Int)
  | [] => some []
  | .dat (.int i) :: r => (ints? r).map (i :: ·)
  | _ :: _ => none
def lenD (x : D) (G : Hh) : Option Int := match x with
  | .dat (.str y) => if y.length ≤ 100000 then some y.length else none
  | .dat (.tuple ds) => some ds.length
  | .ref l => (match G[l]? with
    | some (.lst xs) => some xs.length
    | none => none)
  | .fro xs => some xs.length
  | .mix xs => some xs.length
  | _ => none
def gLen (ds : List D) (G : Hh) : Option (D × Hh) := match ds with
  | [x] => (lenD x G).map fun n => (.dat (.int n), G)
  | _ => none
def gInt (ds : List D) (G : Hh) : Option (D × Hh) := match ds with
  | [.dat (.int i)] => some (.dat (.int i), G)
  | [.dat (.bool b)] => some (.dat (.int (if b then 1 else 0)), G)
  | _ => none
def gMax2 (ds : List D) (G : Hh) : Option (D × Hh) := match ds with
  | [.dat (.int i), .dat (.int j)] => some (.dat (.int (if j > i then j else i)), G)
  | _ => none
def gMin2 (ds : List D) (G : Hh) : Option (D × Hh) := match ds with
  | [.dat (.int i), .dat (.int j)] => some (.dat (.int (if j < i then j else i)), G)
  | _ => none
def gList (ds : List D) (G : Hh) : Option (D × Hh) := match ds with
  | [.dat (.tuple xs)] => some (.ref G.length, G ++ [.lst (xs.map .dat)])
  | [.ref l] => (match G[l]? with
    | some (.lst xs) => some (.ref G.length, G ++ [.lst xs])
    | none => none)
  | [.fro xs] => some (.ref G.length, G ++ [.lst (xs.map .dat)])
  | [.mix xs] => some (.ref G.length, G ++ [.lst xs])
  | _ => none
def gTuple (ds : List D) (G : Hh) : Option (D × Hh) := match ds with
  | [.dat (.tuple xs)] => some (.dat (.tuple xs), G)
  | [.ref l] => (match G[l]? with
    | some (.lst xs) => some (mkTup xs, G)
    | none => none)
  | [.fro xs] => some (.dat (.tuple xs), G)
  | _ => none
def gSum (ds : List D) (G : Hh) : Option (D × Hh) := match ds with
  | [.ref l] => (match G[l]? with
    | some (.lst xs) => (match ints? xs with
      | some ns => some (.dat (.int ns.sum), G)
      | none => none)
    | none => none)
  | _ => none
/-- isinstance(x, T), T a built-in type -/
def isaD (n : String) (d : PyData) : Option Bool :=
  if n = "int" then some d.isInt else if n = "bool" then some d.isBool else if n = "str" then some d.isStr else if n = "tuple" then some d.isTuple else if n = "list" then some d.isList else none
def gIsa (ds : List D) (G : Hh) : Option (D × Hh) := match ds with
  | [x, .ty n] => (match view G x with
    | some d => (isaD n d).map fun b => (.dat (.bool b), G)
    | none => none)
  | _ => none
def reprOk (d : PyData) : Bool := d.showable && (d.leavesShort 2000 && (decide (d.weight ≤ 5000) && decide (d.depth ≤ 60)))
def gRepr (ds : List D) (G : Hh) : Option (D × Hh) := match ds with
  | [x] => (match view G x with
    | some d => if reprOk d then some (.dat (.str d.shown), G) else none
    | none => none)
  | _ => none
section
variable {X : Cx} {T : TbT} {W : WX} {σ : L2.St} {ρ : List Addr} {H : Hp} {G : Hh}
theorem reps_one {d : D} {vs : List V} (h : Reps X.K H ρ [d] vs) : ∃ v, vs = [v] ∧ Rep X.K H ρ d v := by
  obtain ⟨v, r, rfl, h1, h2⟩ := h
  have h2 : r = [] := h2
  subst h2
  exact ⟨v, rfl, h1⟩
theorem reps_two {d e : D} {vs : List V} (h : Reps X.K H ρ [d, e] vs) : ∃ v u, vs = [v, u] ∧ Rep X.K H ρ d v ∧ Rep X.K H ρ e u := by
  obtain ⟨v, r, rfl, h1, h2⟩ := h
  obtain ⟨u, rfl, h3⟩ := reps_one h2
  exact ⟨v, u, rfl, h1, h3⟩
theorem reps_ints : ∀ {xs : List D} {ns : List Int} {vs : List V}, ints? xs = some ns → Reps X.K H ρ xs vs → vs = ns.map V.int
  | [], ns, vs, e, h => by
    simp only [ints?, Option.some.injEq] at e
    subst e
    exact h
  | .dat (.int i) :: r, ns, vs, e, h => by
    obtain ⟨v, t, rfl, h1, h2⟩ := h
    simp only [ints?, Option.map_eq_some_iff] at e
    obtain ⟨ns', e1, rfl⟩ := e
    have h1 : v = .int i := h1
    rw [h1, List.map_cons, reps_ints e1 h2]
  | .dat .none :: r, ns, vs, e, h => by simp [ints?] at e
  | .dat (.bool _) :: r, ns, vs, e, h => by simp [ints?] at e
  | .dat (.str _) :: r, ns, vs, e, h => by simp [ints?] at e
  | .dat (.list _) :: r, ns, vs, e, h => by simp [ints?] at e
  | .dat (.tuple _) :: r, ns, vs, e, h => by simp [ints?] at e
  | .dat (.dict _) :: r, ns, vs, e, h => by simp [ints?] at e
  | .ref _ :: r, ns, vs, e, h => by simp [ints?] at e
  | .obj _ :: r, ns, vs, e, h => by simp [ints?] at e
  | .mix _ :: r, ns, vs, e, h => by simp [ints?] at e
  | .fro _ :: r, ns, vs, e, h => by simp [ints?] at e
  | .ty _ :: r, ns, vs, e, h => by simp [ints?] at e
theorem call_gLen : CallR X (.builtin "len") (rA X T gLen) := fun pins s σ H vs us Q I r ⟨ρ, G, ds, rg, rs, p⟩ => by
  unfold gLen at p
  split at p
  · rename_i x
    obtain ⟨v, rfl, rv⟩ := reps_one rs
    unfold lenD at p
    split at p
    · split at p
      · rename_i y hl
        have e : v = .str y := rv
        subst e
        exact call_len pins s σ H _ us Q I r ⟨.str y, y.length, rfl, ⟨line_of hl, rfl⟩, post_int rg p⟩
      · exact p.elim
    · rename_i es
      obtain ⟨a, ws, rfl, sq, rr⟩ := rv
      exact call_len pins s σ H _ us Q I r ⟨.ref a, ws.length, rfl, .inr ⟨ws, sq, rfl⟩, by rw [rr.length]; exact post_int rg p⟩
    · rename_i l
      split at p
      · rename_i xs hx
        obtain ⟨a, ws, rfl, _, sq, rr⟩ := ref_lst rg rv hx
        exact call_len pins s σ H _ us Q I r ⟨.ref a, ws.length, rfl, .inl ⟨ws, SqL.of sq, rfl⟩, by rw [rr.length]; exact post_int rg p⟩
      · exact p.elim
    · rename_i xs
      obtain ⟨a, ws, rfl, sq, rr⟩ := rv
      exact call_len pins s σ H _ us Q I r ⟨.ref a, ws.length, rfl, .inl ⟨ws, sq.sq, rfl⟩, by rw [rr.length]; exact post_int rg p⟩
    · rename_i xs
      obtain ⟨a, ws, rfl, sq, rr⟩ := rv
      exact call_len pins s σ H _ us Q I r ⟨.ref a, ws.length, rfl, .inr ⟨ws, sq, rfl⟩, by rw [rr.length]; exact post_int rg p⟩
    · exact p.elim
  · exact p.elim
theorem call_gInt : CallR X (.type "int") (rA X T gInt) := fun pins s σ H vs us Q I r ⟨ρ, G, ds, rg, rs, p⟩ => by
  unfold gInt at p
  split at p
  · rename_i i
    obtain ⟨v, rfl, rv⟩ := reps_one rs
    have e : v = .int i := rv
    subst e
    exact call_int1 pins s σ H _ us Q I r (.inl ⟨i, rfl, post_int rg p⟩)
  · rename_i b
    obtain ⟨v, rfl, rv⟩ := reps_one rs
    have e : v = .bl b := rv
    subst e
    exact call_int1 pins s σ H _ us Q I r (.inr ⟨b, rfl, post_int rg p⟩)
  · exact p.elim
theorem call_gMax2 (hc : X.calm = true) : CallR X (.builtin "max") (rA X T gMax2) := fun pins s σ H vs us Q I r ⟨ρ, G, ds, rg, rs, p⟩ => by
  unfold gMax2 at p
  split at p
  · rename_i i j
    obtain ⟨v, u, rfl, rv, ru⟩ := reps_two rs
    have e : v = .int i := rv
    have e2 : u = .int j := ru
    subst e; subst e2
    exact call_max2 hc pins s σ H _ us Q I r ⟨i, j, rfl, post_int rg p⟩
  · exact p.elim
theorem call_gMin2 (hc : X.calm = true) : CallR X (.builtin "min") (rA X T gMin2) := fun pins s σ H vs us Q I r ⟨ρ, G, ds, rg, rs, p⟩ => by
  unfold gMin2 at p
  split at p
  · rename_i i j
    obtain ⟨v, u, rfl, rv, ru⟩ := reps_two rs
    have e : v = .int i := rv
    have e2 : u = .int j := ru
    subst e; subst e2
    exact call_min2 hc pins s σ H _ us Q I r ⟨i, j, rfl, post_int rg p⟩
  · exact p.elim
theorem call_gList : CallR X (.type "list") (rA X T gList) := fun pins s σ H vs us Q I r ⟨ρ, G, ds, rg, rs, p⟩ => by
  unfold gList at p
  split at p
  · rename_i xs
    obtain ⟨v, rfl, a, ws, rfl, sq, rr⟩ := reps_one rs
    exact call_list_of pins s σ H _ us Q I r ⟨a, ws, rfl, .inr sq, fun l hl => new_lst rg hl rr.reps p⟩
  · rename_i l
    split at p
    · rename_i xs hx
      obtain ⟨v, rfl, rv⟩ := reps_one rs
      obtain ⟨a, ws, rfl, _, sq, rr⟩ := ref_lst rg rv hx
      exact call_list_of pins s σ H _ us Q I r ⟨a, ws, rfl, .inl (SqL.of sq), fun l hl => new_lst rg hl rr p⟩
    · exact p.elim
  · rename_i xs
    obtain ⟨v, rfl, a, ws, rfl, sq, rr⟩ := reps_one rs
    exact call_list_of pins s σ H _ us Q I r ⟨a, ws, rfl, .inl sq.sq, fun l hl => new_lst rg hl rr.reps p⟩
  · rename_i xs
    obtain ⟨v, rfl, a, ws, rfl, sq, rr⟩ := reps_one rs
    exact call_list_of pins s σ H _ us Q I r ⟨a, ws, rfl, .inr sq, fun l hl => new_lst rg hl rr p⟩
  · exact p.elim
theorem call_gTuple : CallR X (.type "tuple") (rA X T gTuple) := fun pins s σ H vs us Q I r ⟨ρ, G, ds, rg, rs, p⟩ => by
  unfold gTuple at p
  split at p
  · rename_i xs
    obtain ⟨v, rfl, rv⟩ := reps_one rs
    obtain ⟨a, ws, rfl, sq, rr⟩ := id rv
    exact call_tuple_of pins s σ H _ us Q I r ⟨a, ws, rfl, .inr ⟨sq, post_val rg rv p⟩⟩
  · rename_i l
    split at p
    · rename_i xs hx
      obtain ⟨v, rfl, rv⟩ := reps_one rs
      obtain ⟨a, ws, rfl, _, sq, rr⟩ := ref_lst rg rv hx
      exact call_tuple_of pins s σ H _ us Q I r ⟨a, ws, rfl, .inl ⟨SqL.of sq, fun l hl => new_tup rg hl rr p⟩⟩
    · exact p.elim
  · rename_i xs
    obtain ⟨v, rfl, a, ws, rfl, sq, rr⟩ := reps_one rs
    exact call_tuple_of pins s σ H _ us Q I r ⟨a, ws, rfl, .inl ⟨sq.sq, fun l hl => tup_new rg hl rr p⟩⟩
  · exact p.elim
theorem call_gSum (hc : X.calm = true) : CallR X (.builtin "sum") (rA X T gSum) := fun pins s σ H vs us Q I r ⟨ρ, G, ds, rg, rs, p⟩ => by
  unfold gSum at p
  split at p
  · rename_i l
    split at p
    · rename_i xs hx
      split at p
      · rename_i ns hn
        obtain ⟨v, rfl, rv⟩ := reps_one rs
        obtain ⟨a, ws, rfl, _, sq, rr⟩ := ref_lst rg rv hx
        rw [reps_ints hn rr] at sq
        exact cr_sum hc pins s σ H _ us Q I r ⟨a, ns, rfl, SqL.of sq, post_int rg p⟩
      · exact p.elim
    · exact p.elim
  · exact p.elim
theorem call_gIsa : CallR X (.builtin "isinstance") (rA X T gIsa) := fun pins s σ H vs us Q I r ⟨ρ, G, ds, rg, rs, p⟩ => by
  unfold gIsa at p
  split at p
  · rename_i x n
    split at p
    · rename_i d hd
      obtain ⟨v, u, rfl, rv, ru⟩ := reps_two rs
      have e2 : u = .ty n := ru
      subst e2
      obtain ⟨v', u', rfl, rv', ru'⟩ := vals2 r
      cases ru'
      obtain ⟨as, rd, _⟩ := view_reads I rg rv rv' hd
      have fin : ∀ {b : Bool}, isaD n d = some b → ∀ tk, s.toks ≤ tk → EP X pins σ Q (.bool b) { s with toks := tk } := fun {b} hb tk _ => by
        rw [hb] at p
        exact ⟨.bl b, H, I.tok tk, rfl, post_bl rg p⟩
      unfold isaD at fin p
      by_cases h1 : n = "int"
      · subst h1; exact PySem.W.isinstance_int_data rd (fin (by simp))
      · by_cases h2 : n = "bool"
        · subst h2; exact PySem.W.isinstance_bool_data rd (fin (by simp))
        · by_cases h3 : n = "str"
          · subst h3; exact PySem.W.isinstance_str_data rd (fin (by simp))
          · by_cases h4 : n = "tuple"
            · subst h4; exact PySem.W.isinstance_tuple_data rd (fin (by simp))
            · by_cases h5 : n = "list"
              · subst h5; exact PySem.W.isinstance_list_data rd (fin (by simp))
              · simp [h1, h2, h3, h4, h5] at p
                exact p.elim
    · exact p.elim
  · exact p.elim
mutual
theorem noDict_plain : ∀ d : PyData, d.plain = true → d.hasDict = false
  | .none, _ => rfl
  | .bool _, _ => rfl
  | .int _, _ => rfl
  | .str _, _ => rfl
  | .list xs, h => by simp only [PyData.hasDict]; exact noDict_plainAll xs (by simpa [PyData.plain] using h)
  | .tuple xs, h => by simp only [PyData.hasDict]; exact noDict_plainAll xs (by simpa [PyData.plain] using h)
  | .dict _, h => by simp [PyData.plain] at h
theorem noDict_plainAll : ∀ xs : List PyData, PyData.plainAll xs = true → PyData.hasDictAll xs = false
  | [], _ => rfl
  | x :: xs, h => by
    simp only [PyData.plainAll, Bool.and_eq_true] at h
    simp only [PyData.hasDictAll, noDict_plain x h.1, noDict_plainAll xs h.2]; rfl
end
theorem call_gRepr (hg : X.A.guards = some []) (hu : X.A.units + 100 < cLine) : CallR X (.builtin "repr") (rA X T gRepr) := fun pins s σ H vs us Q I r ⟨ρ, G, ds, rg, rs, p⟩ => by
  unfold gRepr at p
  split at p
  · rename_i x
    split at p
    · rename_i d hd
      split at p
      · rename_i hk
        unfold reprOk at hk
        simp only [Bool.and_eq_true, decide_eq_true_eq] at hk
        obtain ⟨k1, k2, k3, k4⟩ := hk
        have hsz : d.shown.length ≤ sizeLine := by
          have := PyData.shown_le 2000 (by decide) d k2
          rw [sizeLine_eq]
          have : (2000 + 2) * d.weight ≤ 2002 * 5000 := Nat.mul_le_mul_left _ k3
          omega
        obtain ⟨v, rfl, rv⟩ := reps_one rs
        obtain ⟨v', rfl, rv'⟩ := vals1 r
        obtain ⟨as, rd, pl⟩ := view_reads I rg rv rv' hd
        have fin : ∀ (h' : Heap) (u : Tok) (tk : Nat), (∀ b o, s.heap.get? b = some o → h'.get? b = some o) → EP X pins σ Q (.str d.shown u) { s with heap := h', toks := tk } := fun h' u tk hk => ⟨.str d.shown, H, I.kept hk, ⟨u, rfl⟩, p _ ρ H Ext.refl rg rfl⟩
        have fin0 : EP X pins σ Q (.str d.shown s.toks) { s with toks := s.toks + 1 } := fin s.heap _ _ fun _ _ e => e
        have hnd := PyData.noDict_hsm (as := as) (noDict_plain d pl)
        cases rd with
        | none => exact PySem.P.repr_of_none (by have q := fin0; simp only [PyData.shown] at q; exact q)
        | bool b => exact PySem.P.repr_of_bool (by have q := fin0; simp only [PyData.shown] at q; exact q)
        | int i t =>
          refine PySem.P.repr_of_int ?_ (by have q := fin0; simp only [PyData.shown] at q; exact q)
          simpa [PyData.showable] using k1
        | str x t => exact PySem.P.repr_of_str (by have q := fin0; simp only [PyData.shown] at q; exact q) (by simpa only [PyData.shown] using hsz)
        | list h1 h2 h3 h4 => exact PySem.repr_of_reads' (.list h1 h2 h3 h4) k1 hnd hg (by omega) (fun _ _ e => e) fin hsz
        | tuple h1 h2 h3 h4 => exact PySem.repr_of_reads' (.tuple h1 h2 h3 h4) k1 hnd hg (by omega) (fun _ _ e => e) fin hsz
        | dict => simp [PyData.plain] at pl
      · exact p.elim
    · exact p.elim
  · exact p.elim

/-! ### methods of lists -/
theorem RG.write (rg : RG X.K T ρ G H) {l : Nat} {a : Addr} {xs ys : List D} {vs ws : List V} (hl : ρ[l]? = some a) (hG : G[l]? = some (.lst xs)) (hH : H a = some (.lst vs)) (r : Reps X.K H ρ ys ws) :
    RG X.K T ρ (G.set l (.lst ys)) (upd H a (.lst ws)) ∧ Ext ρ H ρ (upd H a (.lst ws)) := by
  have am : a ∈ ρ := List.mem_of_getElem? hl
  have e : Ext ρ H ρ (upd H a (.lst ws)) := ⟨⟨[], by simp, by simp⟩, fun b o h nb _ => by rw [upd_ne (fun z : b = a => nb (by rw [z]; exact am))]; exact h, fun b ps h => ⟨#[], by
    rw [upd_ne (fun z => by rw [z, hH] at h; cases h)]; simpa using h⟩, fun b h => by
    by_cases hb : b = a
    · rw [hb, upd_same] at h; cases h
    · rw [upd_ne hb] at h; exact h⟩
  refine ⟨⟨rg.nd, by simpa using rg.len, fun m b mo h1 h2 => ?_, fun q hq => ?_⟩, e⟩
  · by_cases hm : l = m
    · subst hm
      rw [hl] at h1; cases h1
      rw [List.getElem?_set_self (List.getElem?_eq_some_iff.mp hG).1] at h2
      cases h2
      exact ⟨ws, upd_same, e.reps rg r⟩
    · rw [List.getElem?_set_ne hm] at h2
      have g := rg.ok m b mo h1 h2
      have nb : b ≠ a := fun z => by
        subst z
        obtain ⟨p1, q1⟩ := List.getElem?_eq_some_iff.mp hl
        obtain ⟨p2, q2⟩ := List.getElem?_eq_some_iff.mp h1
        exact hm ((List.getElem_inj rg.nd).mp (q1.trans q2.symm))
      cases mo with
      | lst es =>
        obtain ⟨us, hu, ru⟩ := g
        exact ⟨us, by rw [upd_ne nb]; exact hu, e.reps rg ru⟩
  · exact (rg.tab q hq).stay fun b o h nl => by rw [upd_ne (fun z => nl _ (by rw [z, hH] at h; exact (Option.some.inj h).symm))]; exact h
def isLst (x : D) (G : Hh) : Bool := match x with
  | .ref l => (match G[l]? with
    | some (.lst _) => true
    | none => false)
  | .fro _ => true
  | _ => false
def eMet (ok : D → Hh → Bool) (g : D → List D → Hh → Option (D × Hh)) (f : ES) (fs : AS) : ES := eThen f fun x env G => if ok x G then (match fs env G with
    | .ok ds G1 => RE.of (g x ds G1)
    | .ex c w G1 => .ex c w G1
    | .bad => .bad) else .bad
def rMet (X : Cx) (T : TbT) (g : D → List D → Hh → Option (D × Hh)) : V → List V → Hp → VK → Prop := fun v vs H Q => ∃ ρ G x ds, RG X.K T ρ G H ∧ Rep X.K H ρ x v ∧ Reps X.K H ρ ds vs ∧ PostO X T ρ H (g x ds G) Q
variable {o e : Expr} {es : List Expr} {f : ES} {fs : AS} {name : Str} {apos cpos : Pos} {id TT : String} {g : D → List D → Hh → Option (D × Hh)} {okT : D → Hh → Bool}
theorem tE_met {H : Hp} {Q : VK} (hT : ∀ {ρ G H x v}, RG X.K T ρ G H → Rep X.K H ρ x v → okT x G = true → tyV X.K TT v H) (q : tE X T W (eMet okT g f fs) σ H Q) : tBM X.K TT (rMet X T g) (tE X T W f) (tA X T W fs) σ H Q := by
  obtain ⟨ρ, env, G, sr, p⟩ := q
  refine ⟨ρ, env, G, sr, ?_⟩
  unfold eMet eThen at p
  cases e : f env G with
  | ok x G1 =>
    rw [e] at p
    intro v ρ1 H1 e1 rg1 r1
    dsimp only at p
    cases ho : okT x G1 with
    | false => rw [ho] at p; exact p.elim
    | true =>
      rw [ho, if_pos rfl] at p
      refine ⟨hT rg1 r1 ho, ρ1, env, G1, ⟨rg1, e1.envr sr.rg sr.ev⟩, ?_⟩
      cases e2 : fs env G1 with
      | ok ds G2 =>
        rw [e2] at p
        intro vs ρ2 H2 e2' rg2 r2
        refine ⟨ρ2, G2, x, ds, rg2, e2'.rep rg1 r1, r2, ?_⟩
        dsimp only at p
        cases e3 : g x ds G2 with
        | none => rw [e3] at p; exact p
        | some z =>
          obtain ⟨d, G3⟩ := z
          rw [e3] at p
          exact fun w ρ3 H3 e4 => p w ρ3 H3 ((e1.trans e2').trans e4)
      | ex c w G2 => rw [e2] at p; exact PostX.ext e1 p
      | bad => rw [e2] at p; exact p
  | ex c w G1 => rw [e] at p; exact p
  | bad => rw [e] at p; exact p
theorem lst_ty {x : D} {v : V} (rg : RG X.K T ρ G H) (r : Rep X.K H ρ x v) (h : isLst x G = true) : tyV X.K "list" v H := by
  unfold isLst at h
  split at h
  · split at h
    · rename_i xs hx
      obtain ⟨a, vs, rfl, _, sq, _⟩ := ref_lst rg r hx
      exact .inl ⟨rfl, vs, SqL.of sq⟩
    · cases h
  · obtain ⟨a, vs, rfl, sq, _⟩ := r
    exact .inl ⟨rfl, vs, sq.sq⟩
  · cases h
theorem de_met (hT : ∀ {ρ G H x v}, RG X.K T ρ G H → Rep X.K H ρ x v → okT x G = true → tyV X.K TT v H) (pa : PlainAttrs TT) (slot : Slot TT name id) (hty : typeOf (.builtin id) = pure (.type "method_descriptor")) (hm : MtR X id (rMet X T g)) (ho : DE X T W o f) (ha : DA X T W (e :: es) fs)
    (hbase : attributeBase o name X.env (eval o X.env) = eval o X.env := by rfl)
    (hfew : ((backTo cpos (starEach (e :: es) X.env)).all (fun x => !x.1) && (backToKw cpos (keywordEach [] X.env)).all (fun x => x.1.isSome)
      && decide ((e :: es).length + ([] : List Keyword).length + (if ([] : List Keyword).isEmpty then 0 else 1) < 30)) = true := by rfl)
    (hline : (apos.endLine == cpos.line) = true := by rfl) (hs : starEach (e :: es) X.env = (false, eval e X.env) :: starEach es X.env := by rfl) (hplain : (backTo cpos (starEach es X.env)).any (·.1) = false := by rfl) :
    DE X T W (.Call (.Attribute o name apos) (e :: es) [] cpos) (eMet okT g f fs) :=
  PE_imp (pe_bm pa slot hty hm ho ha hbase hfew hline hs hplain) fun _ _ _ q => tE_met hT q
def eMet0 (ok : D → Hh → Bool) (g : D → List D → Hh → Option (D × Hh)) (f : ES) : ES := eThen f fun x env G => if ok x G then RE.of (g x [] G) else .bad
theorem de_met0 (hT : ∀ {ρ G H x v}, RG X.K T ρ G H → Rep X.K H ρ x v → okT x G = true → tyV X.K TT v H) (pa : PlainAttrs TT) (slot : Slot TT name id) (hty : typeOf (.builtin id) = pure (.type "method_descriptor")) (hm : MtR X id (rMet X T g)) (ho : DE X T W o f)
    (hbase : attributeBase o name X.env (eval o X.env) = eval o X.env := by rfl) (hline : (apos.endLine == cpos.line) = true := by rfl) :
    DE X T W (.Call (.Attribute o name apos) [] [] cpos) (eMet0 okT g f) :=
  PE_imp (pe_bm0 pa slot hty hm ho hbase hline) fun σ H Q ⟨ρ, env, G, sr, p⟩ => by
    refine ⟨ρ, env, G, sr, ?_⟩
    unfold eMet0 eThen at p
    cases e : f env G with
    | ok x G1 =>
      rw [e] at p
      intro v ρ1 H1 e1 rg1 r1
      dsimp only at p
      cases ho : okT x G1 with
      | false => rw [ho] at p; exact p.elim
      | true =>
        rw [ho, if_pos rfl] at p
        refine ⟨hT rg1 r1 ho, ρ1, G1, x, [], rg1, r1, rfl, ?_⟩
        cases e3 : g x [] G1 with
        | none => rw [e3] at p; exact p
        | some z =>
          obtain ⟨d, G3⟩ := z
          rw [e3] at p
          exact fun w ρ3 H3 e4 => p w ρ3 H3 (e1.trans e4)
    | ex c w G1 => rw [e] at p; exact p
    | bad => rw [e] at p; exact p

def gAppend (x : D) (ds : List D) (G : Hh) : Option (D × Hh) := match x, ds with
  | .ref l, [d] => (match G[l]? with
    | some (.lst xs) => if xs.length < 100000 then some (.dat .none, G.set l (.lst (xs ++ [d]))) else none
    | none => none)
  | _, _ => none
theorem post_write {d : D} {v : V} {Q : VK} {l : Nat} {a : Addr} {xs ys : List D} {vs ws : List V} (rg : RG X.K T ρ G H) (hl : ρ[l]? = some a) (hG : G[l]? = some (.lst xs)) (hH : H a = some (.lst vs)) (r : Reps X.K H ρ ys ws)
    (rv : Rep X.K H ρ d v) (p : PostO X T ρ H (some (d, G.set l (.lst ys))) Q) : Q v (upd H a (.lst ws)) := by
  obtain ⟨g, e⟩ := rg.write hl hG hH r
  exact p v ρ _ e g (e.rep rg rv)
theorem mt_gAppend : MtR X "list.append" (rMet X T gAppend) := fun pins s σ H v vs vv us Q I rv rs ⟨ρ, G, x, ds, rg, rx, rr, p⟩ => by
  unfold gAppend at p
  split at p
  · rename_i l d
    split at p
    · rename_i xs hx
      split at p
      · rename_i hl
        obtain ⟨a, ws, rfl, ha, sq, rw'⟩ := ref_lst rg rx hx
        obtain ⟨u, rfl, ru⟩ := reps_one rr
        refine mt_append pins s σ H _ _ vv us Q I rv rs ⟨a, ws, u, rfl, rfl, sq, by rw [rw'.length]; exact Nat.lt_of_lt_of_le hl (by decide), ?_⟩
        exact post_write (d := .dat .none) rg ha hx sq (rw'.append (show Reps X.K H ρ [d] [u] from ⟨u, [], rfl, ru, rfl⟩)) rfl p
      · exact p.elim
    · exact p.elim
  · exact p.elim
def gExtend (x : D) (ds : List D) (G : Hh) : Option (D × Hh) := match x, ds with
  | .ref l, [.ref m] => (match G[l]?, G[m]? with
    | some (.lst xs), some (.lst ys) => if xs.length + ys.length ≤ 100000 then some (.dat .none, G.set l (.lst (xs ++ ys))) else none
    | _, _ => none)
  | _, _ => none
theorem mt_gExtend : MtR X "list.extend" (rMet X T gExtend) := fun pins s σ H v vs vv us Q I rv rs ⟨ρ, G, x, ds, rg, rx, rr, p⟩ => by
  unfold gExtend at p
  split at p
  · rename_i l m
    split at p
    · rename_i xs ys hx hy
      split at p
      · rename_i hl
        obtain ⟨a, ws, rfl, ha, sq, rw'⟩ := ref_lst rg rx hx
        obtain ⟨u, rfl, ru⟩ := reps_one rr
        obtain ⟨b, zs, rfl, hb, sq2, rz⟩ := ref_lst rg ru hy
        refine mt_extend pins s σ H _ _ vv us Q I rv rs ⟨a, b, ws, zs, rfl, rfl, sq, sq2, line_of (by rw [rw'.length, rz.length]; exact hl), ?_⟩
        exact post_write (d := .dat .none) rg ha hx sq (rw'.append rz) rfl p
      · exact p.elim
    · exact p.elim
  · exact p.elim
def gPop (x : D) (ds : List D) (G : Hh) : Option (D × Hh) := match x, ds with
  | .ref l, [] => (match G[l]? with
    | some (.lst xs) => (match xs[xs.length - 1]? with
      | some d => some (d, G.set l (.lst xs.dropLast))
      | none => none)
    | none => none)
  | .ref l, [.dat (.int i)] => (match G[l]? with
    | some (.lst xs) => (match ixN xs.length i with
      | some k => (match xs[k]? with
        | some d => some (d, G.set l (.lst (xs.eraseIdx k)))
        | none => none)
      | none => none)
    | none => none)
  | _, _ => none
theorem mt_gPop : MtR X "list.pop" (rMet X T gPop) := fun pins s σ H v vs vv us Q I rv rs ⟨ρ, G, x, ds, rg, rx, rr, p⟩ => by
  unfold gPop at p
  split at p
  · rename_i l
    split at p
    · rename_i xs hx
      split at p
      · rename_i d hd
        obtain ⟨a, ws, rfl, ha, sq, rw'⟩ := ref_lst rg rx hx
        have e : vs = [] := rr
        subst e
        obtain ⟨u, hu, ru⟩ := rw'.get hd
        refine mt_pop pins s σ H _ _ vv us Q I rv rs ⟨a, ws, u, rfl, rfl, sq, by rw [rw'.length]; exact hu, ?_⟩
        exact post_write rg ha hx sq rw'.dropLast ru p
      · exact p.elim
    · exact p.elim
  · rename_i l i
    split at p
    · rename_i xs hx
      split at p
      · rename_i k hk
        split at p
        · rename_i d hd
          obtain ⟨a, ws, rfl, ha, sq, rw'⟩ := ref_lst rg rx hx
          obtain ⟨w, rfl, hw⟩ := reps_one rr
          have e : w = .int i := hw
          subst e
          obtain ⟨u, hu, ru⟩ := rw'.get hd
          obtain ⟨q1, q2, q3, q4⟩ := ixN_seq hk
          have hz := (I.list (SqL.of sq)).choose_spec.2.2
          have hz2 : xs.length ≤ 16777216 := by rw [← rw'.length, ← sizeLine_eq]; exact hz
          refine mt_popAt pins s σ H _ _ vv us Q I rv rs ⟨a, ws, i, k, u, rfl, rfl, sq, by omega, by omega, by rw [rw'.length]; exact q1, hu, ?_⟩
          exact post_write rg ha hx sq (rw'.eraseIdx k) ru p
        · exact p.elim
      · exact p.elim
    · exact p.elim
  · exact p.elim
end
end DL

set_option Elab.async false
set_option linter.all false
set_option maxRecDepth 100000
set_option maxHeartbeats 1000000
namespace DL
open PySem PySem.Spec PyProof.Rows L2

/-! ### statements -/
inductive RS where
  | nx (env : Env') (G : Hh) | rt (d : D) (G : Hh) | bk (env : Env') (G : Hh) | ct (env : Env') (G : Hh) | ex (c : Addr) (w : D) (env : Env') (G : Hh) | bad
abbrev SS := Env' → Hh → RS
abbrev GS := D → Env' → Hh → Option (Env' × Hh)
def PostS (X : Cx) (T : TbT) (W : WX) (ρ : List Addr) (H : Hp) (r : RS) (E : Ends) : Prop :=
  match r with
  | .nx env' G' => ∀ σ' ρ' H', Ext ρ H ρ' H' → SR X T ρ' env' G' σ' H' → E.nx σ' H'
  | .rt d G' => ∀ v ρ' H', Ext ρ H ρ' H' → RG X.K T ρ' G' H' → Rep X.K H' ρ' d v → E.rt v H'
  | .bk env' G' => ∀ σ' ρ' H', Ext ρ H ρ' H' → SR X T ρ' env' G' σ' H' → E.bk σ' H'
  | .ct env' G' => ∀ σ' ρ' H', Ext ρ H ρ' H' → SR X T ρ' env' G' σ' H' → E.ct σ' H'
  | .ex c w env' G' => ∀ σ' ρ' H' dd vw, Ext ρ H ρ' H' → SR X T ρ' env' G' σ' H' → Xd X.K c H' dd vw → Rep X.K H' ρ' w vw → W (.ref c) (some dd) σ' H'
  | .bad => False
def PostG (X : Cx) (T : TbT) (ρ : List Addr) (H : Hp) (r : Option (Env' × Hh)) (Q : L2.St → Hp → Prop) : Prop :=
  match r with
  | some (env', G') => ∀ σ' ρ' H', Ext ρ H ρ' H' → SR X T ρ' env' G' σ' H' → Q σ' H'
  | none => False
section
variable {X : Cx} {T : TbT} {W : WX} {σ : L2.St} {ρ ρ1 : List Addr} {H H1 : Hp} {env : Env'} {G : Hh}
theorem PostG.ext {r : Option (Env' × Hh)} {Q : L2.St → Hp → Prop} (e : Ext ρ H ρ1 H1) (h : PostG X T ρ H r Q) : PostG X T ρ1 H1 r Q := by
  rcases r with _ | ⟨env, G⟩
  · exact h
  · exact fun σ' ρ' H' e1 => h σ' ρ' H' (e.trans e1)
theorem PostS.ext {r : RS} {E : Ends} (e : Ext ρ H ρ1 H1) (h : PostS X T W ρ H r E) : PostS X T W ρ1 H1 r E := by
  cases r with
  | nx env G => exact fun σ' ρ' H' e1 => h σ' ρ' H' (e.trans e1)
  | bk env G => exact fun σ' ρ' H' e1 => h σ' ρ' H' (e.trans e1)
  | ct env G => exact fun σ' ρ' H' e1 => h σ' ρ' H' (e.trans e1)
  | rt d G => exact fun v ρ' H' e1 => h v ρ' H' (e.trans e1)
  | ex c w env G => exact fun σ' ρ' H' dd vw e1 => h σ' ρ' H' dd vw (e.trans e1)
  | bad => exact h
/-- an expression's exception is the statement's -/
theorem PostS.exE {c : Addr} {w : D} {G' : Hh} {E : Ends} (sr : SR X T ρ env G σ H) (h : PostS X T W ρ H (.ex c w env G') E) : PostX X T W σ ρ H c w G' :=
  fun ρ' H' dd vw e rg hd r => h σ ρ' H' dd vw e ⟨rg, e.envr sr.rg sr.ev⟩ hd r
theorem PostS.nx_here {E : Ends} (sr : SR X T ρ env G σ H) (h : PostS X T W ρ H (.nx env G) E) : E.nx σ H := h σ ρ H Ext.refl sr
theorem SR.ext {ρ' : List Addr} {H' : Hp} {G' : Hh} (sr : SR X T ρ env G σ H) (e : Ext ρ H ρ' H') (rg : RG X.K T ρ' G' H') : SR X T ρ' env G' σ H' := ⟨rg, e.envr sr.rg sr.ev⟩
theorem SlRep.d {K : PySem.W.Frag} {pn : List (Addr × Obj)} {x : D} {v : V} (r : Rep K H ρ x v) : SlRep K pn H ρ (.d x) (some v) := ⟨v, rfl, r⟩
theorem EnvR.set {K : PySem.W.Frag} {pn : List (Addr × Obj)} {s : Sl} {ov : Option V} (h : EnvR K pn H ρ env σ) (i : Nat) (r : SlRep K pn H ρ s ov) : EnvR K pn H ρ (env.set i s) (σ.set i ov) := by
  refine ⟨by simp [h.len], fun j t hj => ?_⟩
  by_cases e : i = j
  · subst e
    by_cases hl : i < env.length
    · rw [List.getElem?_set_self hl] at hj
      cases hj
      exact ⟨ov, List.getElem?_set_self (by rw [← h.len]; exact hl), r⟩
    · rw [List.getElem?_eq_none (by simpa using hl)] at hj; cases hj
  · rw [List.getElem?_set_ne e] at hj
    obtain ⟨ov', h1, h2⟩ := h.ok j t hj
    exact ⟨ov', by rw [List.getElem?_set_ne e]; exact h1, h2⟩
end
section
variable (X : Cx) (T : TbT) (W : WX)
def tS (f : SS) : TS := fun E σ H => ∃ ρ env G, SR X T ρ env G σ H ∧ PostS X T W ρ H (f env G) E
def tG (a : GS) : TG := fun v σ H Q => ∃ ρ env G d, SR X T ρ env G σ H ∧ Rep X.K H ρ d v ∧ PostG X T ρ H (a d env G) Q
abbrev DS (s : Stmt) (f : SS) : Prop := PS X s (tS X T W f)
abbrev DSs (s : List Stmt) (f : SS) : Prop := PSs X s (tS X T W f)
abbrev DG (e : Expr) (a : GS) : Prop := PG X e (tG X T a)
end
theorem PS_imp {X : Cx} {e : Stmt} {t t' : TS} (h : PS X e t) (i : ∀ E σ H, t' E σ H → t E σ H) : PS X e t' := ⟨fun pins s σ H E I q => h.run pins s σ H E I (i E σ H q)⟩
theorem PSs_imp {X : Cx} {e : List Stmt} {t t' : TS} (h : PSs X e t) (i : ∀ E σ H, t' E σ H → t E σ H) : PSs X e t' := ⟨fun pins s σ H E I q => h.run pins s σ H E I (i E σ H q)⟩
theorem PG_imp {X : Cx} {e : Expr} {t t' : TG} (h : PG X e t) (i : ∀ v σ H Q, t' v σ H Q → t v σ H Q) : PG X e t' := ⟨fun pins s σ H v u Q I r q => h.run pins s σ H v u Q I r (i v σ H Q q)⟩

def sNil : SS := fun env G => .nx env G
def sSeq (f g : SS) : SS := fun env G => match f env G with
  | .nx e G1 => g e G1
  | r => r
def sAsg (f : ES) (a : GS) : SS := fun env G => match f env G with
  | .ok d G1 => (match a d env G1 with
    | some (env', G') => .nx env' G'
    | none => .bad)
  | .ex c w G1 => .ex c w env G1
  | .bad => .bad
def aName (i : Nat) : GS := fun d env G => some (env.set i (.d d), G)
def sDrop (f : ES) : SS := fun env G => match f env G with
  | .ok _ G1 => .nx env G1
  | .ex c w G1 => .ex c w env G1
  | .bad => .bad
def sRet (f : ES) : SS := fun env G => match f env G with
  | .ok d G1 => .rt d G1
  | .ex c w G1 => .ex c w env G1
  | .bad => .bad
def sRetN : SS := fun _ G => .rt (.dat .none) G
def sBreak : SS := fun env G => .bk env G
def sCont : SS := fun env G => .ct env G
def sIf (t : TSm) (f g : SS) : SS := fun env G => match t env G with
  | .ok b G1 => if b then f env G1 else g env G1
  | .ex c w G1 => .ex c w env G1
  | .bad => .bad
def sAug (i : Nat) (g : D → D → Hh → Option (D × Hh)) (f : ES) : SS := fun env G => match env[i]? with
  | some (.d x) => (match f env G with
    | .ok y G1 => (match g x y G1 with
      | some (z, G2) => .nx (env.set i (.d z)) G2
      | none => .bad)
    | .ex c w G1 => .ex c w env G1
    | .bad => .bad)
  | _ => .bad
def sPar (i j : Nat) (f : AS) : SS := fun env G => match f env G with
  | .ok [x, y] G1 => .nx ((env.set i (.d x)).set j (.d y)) G1
  | .ok _ _ => .bad
  | .ex c w G1 => .ex c w env G1
  | .bad => .bad
def sPar3 (i j l : Nat) (f : AS) : SS := fun env G => match f env G with
  | .ok [x, y, z] G1 => .nx (((env.set i (.d x)).set j (.d y)).set l (.d z)) G1
  | .ok _ _ => .bad
  | .ex c w G1 => .ex c w env G1
  | .bad => .bad
/-- targets, one after another -/
def aList : List GS → List D → Env' → Hh → Option (Env' × Hh)
  | [], [], env, G => some (env, G)
  | a :: as, d :: ds, env, G => (match a d env G with
    | some (env', G') => aList as ds env' G'
    | none => none)
  | _, _, _, _ => none
def aTup (as : List GS) : GS := fun d env G => match d with
  | .dat (.tuple ds) => if ds.length = as.length then aList as (ds.map .dat) env G else none
  | .mix ds => if ds.length = as.length then aList as ds env G else none
  | _ => none
/-- o[i] = v -/
def gSetL (o i v : D) (G : Hh) : Option Hh := match o, i with
  | .ref l, .dat (.int k) => (match G[l]? with
    | some (.lst xs) => (match ixN xs.length k with
      | some j => some (G.set l (.lst (xs.set j v)))
      | none => none)
    | none => none)
  | _, _ => none
def aSub (fo fi : ES) (g : D → D → D → Hh → Option Hh) : GS := fun v env G => match fo env G with
  | .ok o G1 => (match fi env G1 with
    | .ok i G2 => (match g o i v G2 with
      | some G3 => some (env, G3)
      | none => none)
    | _ => none)
  | _ => none

section
variable {X : Cx} {T : TbT} {W : WX} {st : Stmt} {rest : List Stmt} {f g : SS} {fe fa fb : ES} {e a b : Expr} {pos : Pos}
theorem dss_nil : DSs X T W [] sNil := PSs_imp pss_nil fun E σ H ⟨ρ, env, G, sr, p⟩ => PostS.nx_here sr p
theorem dss_cons (h1 : DS X T W st f) (h2 : DSs X T W rest g) : DSs X T W (st :: rest) (sSeq f g) :=
  PSs_imp (pss_cons h1 h2) fun E σ H ⟨ρ, env, G, sr, p⟩ => by
    refine ⟨ρ, env, G, sr, ?_⟩
    unfold sSeq at p
    cases e : f env G with
    | nx env1 G1 =>
      rw [e] at p
      exact fun σ1 ρ1 H1 e1 sr1 => ⟨ρ1, env1, G1, sr1, PostS.ext e1 p⟩
    | rt d G1 => rw [e] at p; exact p
    | bk env1 G1 => rw [e] at p; exact p
    | ct env1 G1 => rw [e] at p; exact p
    | ex c w env1 G1 => rw [e] at p; exact p
    | bad => rw [e] at p; exact p
theorem dss_one (h1 : DS X T W st f) : DSs X T W [st] f := pss_one h1
theorem ds_pass : DS X T W (.Pass pos) sNil := PS_imp ps_pass fun E σ H ⟨ρ, env, G, sr, p⟩ => PostS.nx_here sr p
theorem ds_break : DS X T W (.Break pos) sBreak := PS_imp ps_break fun E σ H ⟨ρ, env, G, sr, p⟩ => p σ ρ H Ext.refl sr
theorem ds_continue : DS X T W (.Continue pos) sCont := PS_imp ps_continue fun E σ H ⟨ρ, env, G, sr, p⟩ => p σ ρ H Ext.refl sr
theorem ds_doc {x : Str} {j : Nat} {pos' : Pos} : DS X T W (.Expr (.Constant (.str x) j pos) pos') sNil := PS_imp ps_doc fun E σ H ⟨ρ, env, G, sr, p⟩ => PostS.nx_here sr p
theorem ds_expr (he : DE X T W e fe) (hs : swapsWith e none pos.line X.env = pure false := by rfl) : DS X T W (.Expr e pos) (sDrop fe) :=
  PS_imp (ps_expr he hs) fun E σ H ⟨ρ, env, G, sr, p⟩ => by
    refine ⟨ρ, env, G, sr, ?_⟩
    unfold sDrop at p
    cases q : fe env G with
    | ok d G1 => rw [q] at p; exact fun v ρ1 H1 e1 rg1 r1 => p σ ρ1 H1 e1 (sr.ext e1 rg1)
    | ex c w G1 => rw [q] at p; exact PostS.exE sr p
    | bad => rw [q] at p; exact p
theorem ds_ret (he : DE X T W e fe) : DS X T W (.Return (some e) pos) (sRet fe) :=
  PS_imp (ps_ret he) fun E σ H ⟨ρ, env, G, sr, p⟩ => by
    refine ⟨ρ, env, G, sr, ?_⟩
    unfold sRet at p
    cases q : fe env G with
    | ok d G1 => rw [q] at p; exact p
    | ex c w G1 => rw [q] at p; exact PostS.exE sr p
    | bad => rw [q] at p; exact p
theorem ds_retN : DS X T W (.Return none pos) sRetN := PS_imp ps_retN fun E σ H ⟨ρ, env, G, sr, p⟩ => p .non ρ H Ext.refl sr.rg rfl
theorem ds_if {c : Expr} {as bs : List Stmt} {t : TSm} (hc : DT X T W c t) (ha : DSs X T W as f) (hb : DSs X T W bs g) : DS X T W (.If c as bs pos) (sIf t f g) :=
  PS_imp (ps_if hc ha hb) fun E σ H ⟨ρ, env, G, sr, p⟩ => by
    refine ⟨ρ, env, G, sr, ?_⟩
    unfold sIf at p
    cases q : t env G with
    | ok k G1 =>
      rw [q] at p
      intro ρ1 H1 e1 rg1
      cases k with
      | true => exact ⟨ρ1, env, G1, sr.ext e1 rg1, PostS.ext e1 p⟩
      | false => exact ⟨ρ1, env, G1, sr.ext e1 rg1, PostS.ext e1 p⟩
    | ex c w G1 => rw [q] at p; exact PostS.exE sr p
    | bad => rw [q] at p; exact p

/-! ### targets and stores -/
theorem dg_name {i : Nat} {x : Str} (hN : X.N.Nodup) (hi : X.N[i]? = some x) (hx : Loc X.env.scope x) (hf : X.fn x = true ∨ X.env.scope.names.lookup x = some .local := by first | exact .inl rfl | exact .inr rfl | assumption) : DG X T (.Name x pos) (aName i) :=
  PG_imp (pg_name hN hi hx hf) fun v σ H Q ⟨ρ, env, G, d, sr, r, p⟩ => p _ ρ H Ext.refl ⟨sr.rg, sr.ev.set i ⟨v, rfl, r⟩⟩
theorem ds_asg {tg : Expr} {ga : GS} (he : DE X T W e fe) (hg : DG X T tg ga) (hs : swapsWithSole [tg] e pos.line X.env = pure false := by rfl) (hw : swappedStores [tg] e X.env = pure none := by rfl)
    (h1 : (assignEach [tg] X.env).map (·.2) = [assign tg X.env] := by rfl) : DS X T W (.Assign [tg] e pos) (sAsg fe ga) :=
  PS_imp (ps_asg he hg hs hw h1) fun E σ H ⟨ρ, env, G, sr, p⟩ => by
    refine ⟨ρ, env, G, sr, ?_⟩
    unfold sAsg at p
    cases q : fe env G with
    | ok d G1 =>
      rw [q] at p
      intro v ρ1 H1 e1 rg1 r1
      refine ⟨ρ1, env, G1, d, sr.ext e1 rg1, r1, ?_⟩
      dsimp only at p
      cases q2 : ga d env G1 with
      | none => rw [q2] at p; exact p.elim
      | some z =>
        obtain ⟨env2, G2⟩ := z
        rw [q2] at p
        exact fun σ2 ρ2 H2 e2 => p σ2 ρ2 H2 (e1.trans e2)
    | ex c w G1 => rw [q] at p; exact PostS.exE sr p
    | bad => rw [q] at p; exact p
def tGs (X : Cx) (T : TbT) (as : List GS) : TGs := fun vs σ H Q => ∃ ρ env G ds, SR X T ρ env G σ H ∧ Reps X.K H ρ ds vs ∧ PostG X T ρ H (aList as ds env G) Q
theorem PGs_imp {X : Cx} {e : List Expr} {t t' : TGs} (h : PGs X e t) (i : ∀ v σ H Q, t' v σ H Q → t v σ H Q) : PGs X e t' := ⟨fun pins s σ H v u Q I r q => h.run pins s σ H v u Q I r (i v σ H Q q)⟩
theorem dgs_nil : PGs X [] (tGs X T []) := PGs_imp pgs_nil fun vs σ H Q ⟨ρ, env, G, ds, sr, r, p⟩ => by
  cases ds with
  | nil => exact ⟨r, p σ ρ H Ext.refl sr⟩
  | cons d ds => exact p.elim
theorem dgs_cons {ga : GS} {gs : List GS} {es : List Expr} (h1 : DG X T e ga) (h2 : PGs X es (tGs X T gs)) (hs : (assignEach (e :: es) X.env).map (·.2) = assign e X.env :: (assignEach es X.env).map (·.2) := by rfl) : PGs X (e :: es) (tGs X T (ga :: gs)) :=
  PGs_imp (pgs_cons h1 h2 hs) fun vs σ H Q ⟨ρ, env, G, ds, sr, r, p⟩ => by
    cases ds with
    | nil => exact p.elim
    | cons d ds =>
      obtain ⟨v, t, rfl, r1, r2⟩ := r
      refine ⟨v, t, rfl, ρ, env, G, d, sr, r1, ?_⟩
      unfold aList at p
      cases q : ga d env G with
      | none => rw [q] at p; exact p
      | some z =>
        obtain ⟨env1, G1⟩ := z
        rw [q] at p
        exact fun σ1 ρ1 H1 e1 sr1 => ⟨ρ1, env1, G1, ds, sr1, e1.reps sr.rg r2, PostG.ext e1 p⟩
theorem dg_tup {gs : List GS} {es : List Expr} {k : Nat} (hc : X.calm = true) (h : PGs X es (tGs X T gs))
    (hn : (assignEach es X.env).length = gs.length := by rfl) (hst : (assignEach es X.env).findIdx? (·.1) = none := by rfl) : DG X T (.Tuple es k pos) (aTup gs) :=
  PG_imp (pg_tup hc h hn hst) fun v σ H Q ⟨ρ, env, G, d, sr, r, p⟩ => by
    unfold aTup at p
    split at p
    · rename_i ds
      split at p
      · rename_i hl
        obtain ⟨a, vs, rfl, sq, rs⟩ := r
        exact ⟨a, vs, rfl, sq, by rw [rs.length]; exact hl, ρ, env, G, _, sr, rs.reps, p⟩
      · exact p.elim
    · rename_i ds
      split at p
      · rename_i hl
        obtain ⟨a, vs, rfl, sq, rs⟩ := r
        exact ⟨a, vs, rfl, sq, by rw [rs.length]; exact hl, ρ, env, G, _, sr, rs, p⟩
      · exact p.elim
    · exact p.elim
theorem dg_sub {o i : Expr} {fo fi : ES} (ho : DE X T W o fo) (hi : DE X T W i fi)
    (ha : ∀ v, assign (.Subscript o i pos) X.env v = (do
      let ov ← holding [v] (eval o X.env)
      let iv ← holding [v, ov] (eval i X.env)
      standAt pos
      holding [v, ov, iv] (setItem ov iv v)
      release [v, ov, iv] []) := by intro _; rfl) : DG X T (.Subscript o i pos) (aSub fo fi gSetL) :=
  PG_imp (pg_sub ho hi set_list ha) fun v σ H Q ⟨ρ, env, G, d, sr, r, p⟩ => by
    refine ⟨ρ, env, G, sr, ?_⟩
    unfold aSub at p
    cases q : fo env G with
    | ok x G1 =>
      rw [q] at p
      intro ov ρ1 H1 e1 rg1 r1
      refine ⟨ρ1, env, G1, sr.ext e1 rg1, ?_⟩
      dsimp only at p
      cases q2 : fi env G1 with
      | ok y G2 =>
        rw [q2] at p
        intro iv ρ2 H2 e2 rg2 r2
        dsimp only at p
        unfold gSetL at p
        split at p
        · rename_i G3 h3
          split at h3
          · rename_i l k
            split at h3
            · rename_i xs hx
              split at h3
              · rename_i j hj
                cases h3
                obtain ⟨a, ws, rfl, hl, sq, rr⟩ := ref_lst rg2 (e2.rep rg1 r1) hx
                obtain ⟨g, e⟩ := rg2.write hl hx sq (rr.set j ((e1.trans e2).rep sr.rg r))
                refine ⟨a, ws, k, j, rfl, r2, sq, by rw [rr.length]; exact hj, ?_⟩
                exact p σ ρ2 _ ((e1.trans e2).trans e) ((sr.ext (e1.trans e2) rg2).ext e g)
              · cases h3
            · cases h3
          · cases h3
        · exact p.elim
      | ex c w G2 => rw [q2] at p; exact p.elim
      | bad => rw [q2] at p; exact p.elim
    | ex c w G1 => rw [q] at p; exact p.elim
    | bad => rw [q] at p; exact p.elim
theorem ds_aug {i : Nat} {x : Str} {op : Operator} {ga : D → D → Hh → Option (D × Hh)} {pos' : Pos} (hN : X.N.Nodup) (hi : X.N[i]? = some x) (hx : Loc X.env.scope x) (he : DE X T W e fe) (ho : OpR X (inplaceOp op) (r2 X T ga)) (hf : X.fn x = true ∨ X.env.scope.names.lookup x = some .local := by first | exact .inl rfl | exact .inr rfl | assumption) :
    DS X T W (.AugAssign (.Name x pos') op e pos) (sAug i ga fe) :=
  PS_imp (ps_aug hN hi hx he ho hf) fun E σ H ⟨ρ, env, G, sr, p⟩ => by
    unfold sAug at p
    split at p
    · rename_i x hx
      obtain ⟨ov, ho, v, rfl, r⟩ := sr.ev.ok i _ hx
      refine ⟨v, ho, ρ, env, G, sr, ?_⟩
      cases q : fe env G with
      | ok y G1 =>
        rw [q] at p
        intro u ρ1 H1 e1 rg1 r1
        dsimp only at p
        refine ⟨ρ1, G1, x, y, rg1, e1.rep sr.rg r, r1, ?_⟩
        split at p
        · rename_i z G2 hg
          rw [hg]
          intro w ρ2 H2 e2 rg2 r2
          have s2 := (sr.ext (e1.trans e2) rg2)
          exact p _ ρ2 H2 (e1.trans e2) ⟨rg2, s2.ev.set i ⟨w, rfl, r2⟩⟩
        · exact p.elim
      | ex c w G1 => rw [q] at p; exact PostS.exE sr p
      | bad => rw [q] at p; exact p
    · exact p.elim
theorem ds_par {i j : Nat} {x y : Str} {fs : AS} {px py pt : Pos} {kt k2 : Nat} {pt2 : Pos} (hc : X.calm = true) (hN : X.N.Nodup) (hi : X.N[i]? = some x) (hj : X.N[j]? = some y) (hij : i ≠ j)
    (hx : X.env.scope.names.lookup x = some .local) (hy : X.env.scope.names.lookup y = some .local) (ha : DA X T W [a, b] fs)
    (hw : swappedStores [.Tuple [.Name x px, .Name y py] kt pt] (.Tuple [a, b] k2 pt2) X.env = pure (some [x, y]))
    (hs : swapsWithSole [.Tuple [.Name x px, .Name y py] kt pt] (.Tuple [a, b] k2 pt2) pos.line X.env = pure false := by rfl) :
    DS X T W (.Assign [.Tuple [.Name x px, .Name y py] kt pt] (.Tuple [a, b] k2 pt2) pos) (sPar i j fs) :=
  PS_imp (ps_par hc hN hi hj hij hx hy ha hw hs) fun E σ H ⟨ρ, env, G, sr, p⟩ => by
    refine ⟨ρ, env, G, sr, ?_⟩
    unfold sPar at p
    cases q : fs env G with
    | ok ds G1 =>
      rw [q] at p
      intro vs ρ1 H1 e1 rg1 rs
      split at p
      · rename_i x y G2 h
        injection h with h1 h2
        subst h1; subst h2
        obtain ⟨v, u, rfl, r1, r2⟩ := reps_two rs
        have s1 := sr.ext e1 rg1
        exact ⟨v, u, rfl, p _ ρ1 H1 e1 ⟨rg1, (s1.ev.set i (SlRep.d r1)).set j (SlRep.d r2)⟩⟩
      · exact p.elim
      · rename_i h; cases h
      · rename_i h; cases h
    | ex c w G1 => rw [q] at p; exact PostS.exE sr p
    | bad => rw [q] at p; exact p
theorem ds_par3 {i j l : Nat} {x y z : Str} {c : Expr} {fs : AS} {px py pz pt : Pos} {kt k2 : Nat} {pt2 : Pos} (hc : X.calm = true) (hN : X.N.Nodup) (hi : X.N[i]? = some x) (hj : X.N[j]? = some y) (hl : X.N[l]? = some z) (hij : i ≠ j) (hil : i ≠ l) (hjl : j ≠ l)
    (hx : X.env.scope.names.lookup x = some .local) (hy : X.env.scope.names.lookup y = some .local) (hz : X.env.scope.names.lookup z = some .local) (ha : DA X T W [a, b, c] fs)
    (hw : swappedStores [.Tuple [.Name x px, .Name y py, .Name z pz] kt pt] (.Tuple [a, b, c] k2 pt2) X.env = pure (some [x, y, z]))
    (hs : swapsWithSole [.Tuple [.Name x px, .Name y py, .Name z pz] kt pt] (.Tuple [a, b, c] k2 pt2) pos.line X.env = pure false := by rfl) :
    DS X T W (.Assign [.Tuple [.Name x px, .Name y py, .Name z pz] kt pt] (.Tuple [a, b, c] k2 pt2) pos) (sPar3 i j l fs) :=
  PS_imp (ps_par3 hc hN hi hj hl hij hil hjl hx hy hz ha hw hs) fun E σ H ⟨ρ, env, G, sr, p⟩ => by
    refine ⟨ρ, env, G, sr, ?_⟩
    unfold sPar3 at p
    cases q : fs env G with
    | ok ds G1 =>
      rw [q] at p
      intro vs ρ1 H1 e1 rg1 rs
      split at p
      · rename_i x y z G2 h
        injection h with h1 h2
        subst h1; subst h2
        obtain ⟨v, t, rfl, r1, rs⟩ := rs
        obtain ⟨u, w, rfl, r2, r3⟩ := reps_two rs
        have s1 := sr.ext e1 rg1
        exact ⟨v, u, w, rfl, p _ ρ1 H1 e1 ⟨rg1, ((s1.ev.set i (SlRep.d r1)).set j (SlRep.d r2)).set l (SlRep.d r3)⟩⟩
      · exact p.elim
      · rename_i h; cases h
      · rename_i h; cases h
    | ex c w G1 => rw [q] at p; exact PostS.exE sr p
    | bad => rw [q] at p; exact p
end
end DL

set_option Elab.async false
set_option linter.all false
set_option maxRecDepth 100000
set_option maxHeartbeats 1000000
/-! enumerate of a tuple (the list's is HandS.Iter's) -/
namespace PySem
open Sem (wp)
open AutoSeq1 (wpAny_loadPart')
theorem meets_enumerate_newB1 {v : Value} {o : Obj} {H : Heap → Prop} (B : Begins v o H) :
    Meets (Builtin.«enumerate.__new__» ⟨[.type "enumerate", v], []⟩) (fun _ R s => H s.heap ∧
      R (.ok (.ret (.ref (s.heap.push o).objs.size))) { s with heap := (s.heap.push o).push { cls := .type "enumerate", data := .fields #[.none, .bool false, .ref s.heap.objs.size, rawInt 0, .none, .none] } }) :=
  .of_wp fun prog w A R s h => by
    obtain ⟨hp, g, d, tk, os⟩ := s; obtain ⟨h1, h⟩ := h
    have hsub := sub_enumerate
    have q1 : ∀ {A' : Around} {E : Value → Shared → Prop} {Q : Value → Shared → Prop}, Q (.ref hp.objs.size) ⟨hp.push o, g, d, tk, os⟩ → wpAny (model prog w) A' (pyIter v) Q E ⟨hp, g, d, tk, os⟩ :=
      fun q => B.iter prog w _ _ ⟨hp, g, d, tk, os⟩ _ h1 q
    wp_walk using q1
    refine wpAny_stack_any fun st => wpAny_pure ?_
    split
    · rename_i c _ _ _ _ _
      cases (c == Value.type "enumerate")
      · wp_walk using q1
        exact ⟨_, rfl, h⟩
      · wp_walk using q1
        exact ⟨_, rfl, h⟩
    · wp_walk using q1
      exact ⟨_, rfl, h⟩
section
variable {prog : Program} {w : World} {A : Around} {E : Value → Shared → Prop} {s : Shared}
theorem enum_begins1 {v : Value} {o : Obj} {H : Heap → Prop} {Q : Value → Shared → Prop} (B : Begins v o H) (h1 : H s.heap)
    (h : ∀ h', IsEnum h' (s.heap.objs.size + 1) s.heap.objs.size 0 .none → h'.get? s.heap.objs.size = some o → h'.objs.size = s.heap.objs.size + 2 →
      (∀ b o, s.heap.get? b = some o → h'.get? b = some o) → Q (.ref (s.heap.objs.size + 1)) { s with heap := h' }) :
    wpAny (model prog w) A (call (.type "enumerate") [v]) Q E s := by
  refine callType_new F.called_enumerate (by decide) (F.typeCall_enumerate_1 _) (F.newCall_enumerate_1 _) (fun obj => F.args_object_init_2 obj _) F.entry_enumerate_new
    (meets_enumerate_newB1 B) ⟨h1, ?_⟩
  have hz : (s.heap.push o).objs.size = s.heap.objs.size + 1 := Heap.size_push ..
  show _ ∧ _
  rw [hz]
  have he : IsEnum ((s.heap.push o).push { cls := .type "enumerate", data := .fields #[.none, .bool false, .ref s.heap.objs.size, rawInt 0, .none, .none] }) (s.heap.objs.size + 1) s.heap.objs.size 0 .none := by
    have := Heap.get?_push_size (s.heap.push o) (o := { cls := .type "enumerate", data := .fields #[.none, .bool false, .ref s.heap.objs.size, rawInt 0, .none, .none] }) rfl
    rw [hz] at this; exact this
  refine ⟨⟨_, he, rfl⟩, h _ he (Heap.get?_push_of_some _ (Heap.get?_push_size _ B.free)) (by rw [Heap.size_push, hz]) fun b o x => Heap.get?_push_of_some _ (Heap.get?_push_of_some _ x)⟩
end
end PySem
namespace DL
open PySem PySem.Spec PyProof.Rows L2
def IteT (K : PySem.W.Frag) (a : Addr) : It :=
  ⟨fun i H => ∃ (xs : List V) (x : V), SqT K H a xs ∧ xs[i]? = some x, fun i H v H' => ∃ T x, v = .ref T ∧ H T = none ∧ H' = upd H T (.tup [.int (i : Nat), x]) ∧ ∀ xs, SqT K H a xs → xs[i]? = some x, fun i H => ∃ xs : List V, SqT K H a xs ∧ xs.length ≤ i⟩
theorem turn_enumT {P : Program} {w : World} {K : PySem.W.Frag} {elts : List Expr} {kk : Nat} {tpos : Pos} (a e it : Addr) :
    Turn P w K (.Tuple elts kk tpos) (IteT K a) [e, it] e (fun i h => (∃ old, IsEnum h e it ((i : Nat) : Int) old) ∧ h.IsTupleIter it a i ∧ e ≠ it) where
  mem := by simp
  obj := fun i h st b hb => by
    obtain ⟨⟨old, he⟩, ⟨o, ho, hc, hd⟩, _⟩ := st
    have e' : b = e ∨ b = it := by simpa using hb
    rcases e' with z | z
    · rw [z]; exact ⟨_, he, fun v q => nomatch q⟩
    · rw [z]; exact ⟨o, ho, fun v q => by rw [hd] at q; cases q⟩
  keep := fun i h h' st k => let ⟨⟨old, he⟩, hi, hne⟩ := st; ⟨⟨old, k e (by simp) _ he⟩, hi.at fun o q => k it (by simp) o q, hne⟩
  item := by
    intro X hP hw hK hc i pins s σ H E I hf st hg
    subst hP hw hK
    obtain ⟨⟨old, he⟩, hit, hne⟩ := st
    obtain ⟨xs, x, hq, hx⟩ := hg
    obtain ⟨its, rv, p, hz⟩ := I.tuple hq
    obtain ⟨u, hu, ru⟩ := rv.get hx
    have hel : e < s.heap.objs.size := Heap.lt_size he
    have hil : it < s.heap.objs.size := by obtain ⟨_, q, _⟩ := hit; exact Heap.lt_size q
    have ht : s.heap.IsTuple a its.toArray := p
    have hae : a ≠ it := fun z => by
      obtain ⟨o1, h1, c1, _⟩ := ht
      obtain ⟨o2, h2, c2, _⟩ := hit
      rw [z, h2] at h1; cases h1; rw [c1] at c2; simp at c2
    have hae2 : a ≠ e := fun z => by
      obtain ⟨o1, h1, c1, _⟩ := ht
      rw [z, he] at h1; cases h1; simp at c1
    have D := Draws.tuple (prog := X.prog) (w := X.w) (A := X.A.in1) (I.ok.hd hc) it a hae its.toArray
    have hlt : i < its.toArray.size := by
      have := (List.getElem?_eq_some_iff.mp hu).1
      simpa using this
    refine wpAny_pyNext_enum_itemD D he ⟨hit, ht⟩ hlt hne (by simp [hne, Ne.symm hae2]) fun y h' tk hy ho st' hT hsz hk => ?_
    have ey : y = u := by
      have q : its.toArray[i]? = some u := by simpa using hu
      exact Option.some.inj (hy.symm.trans q)
    subst ey
    refine ⟨_, rfl, wpAny_letOwnedTupleGo_enum (s := { s with heap := h', toks := tk + 1 }) ho fun h'' he' sb => ?_⟩
    have hT2 : h''.get? s.heap.objs.size = some { cls := .type "tuple", data := .seq #[.int i tk, y] } := (sb.2 _ (Nat.ne_of_gt hel)).trans hT
    have new : ObjOk X.prog X.w (upd H s.heap.objs.size (.tup [.int (i : Nat), x])) h'' s.heap.objs.size (.tup [.int (i : Nat), x]) :=
      ⟨by show 2 ≤ sizeLine; decide, [.int i tk, y], .cons ⟨_, rfl⟩ (.cons ru .nil), ⟨_, hT2, rfl, _, rfl⟩⟩
    have I1 : Inv X pins σ (upd H s.heap.objs.size (.tup [.int (i : Nat), x])) { s with heap := h'', toks := tk + 1 } :=
      I.turnedNew (ch := [e, it]) (fun b ob hb q => (sb.2 b (fun z => hb (by simp [z]))).trans (hk b ob (fun z => hb (by simp [z])) (fun z => hb (by simp [z])) q)) hf (Nat.le_refl _) new
    refine ⟨.ref s.heap.objs.size, _, I1, rfl, ⟨_, x, rfl, I.hok.fresh (Nat.le_refl _), rfl, fun ys hy => by rw [I.tuple_inj hy hq]; exact hx⟩, ⟨⟨y, ?_⟩, st'.1.at fun o q => (sb.2 it (Ne.symm hne)).trans q, hne⟩, fun b hb => ?_⟩
    · have e1 : ((i + 1 : Nat) : Int) = (i : Int) + 1 := by omega
      rw [e1]; exact he'
    · have hb' : b < s.heap.objs.size := by
        have e' : b = e ∨ b = it := by simpa using hb
        rcases e' with z | z
        · rw [z]; exact hel
        · rw [z]; exact hil
      rw [upd_ne (Nat.ne_of_lt hb')]
      exact (hf b hb).1
  done := by
    intro X hP hw hK hc i pins s σ H E I hf st hg
    subst hP hw hK
    obtain ⟨⟨old, he⟩, hit, hne⟩ := st
    obtain ⟨xs, hq, hx⟩ := hg
    obtain ⟨its, rv, p, hz⟩ := I.tuple hq
    obtain ⟨f0, f1, f2, f3, f4, f5⟩ := hf it (by simp)
    have hl := rv.length
    have ht : s.heap.IsTuple a its.toArray := p
    have D : Draws X.prog X.w X.A.in1 it [it, a] i (fun _ _ => True) (fun j h => j = i ∧ h.IsTupleIter it a i ∧ h.IsTuple a its.toArray) :=
      ⟨fun _ _ st => let ⟨o, ho, _⟩ := st.2.1; ⟨o, ho⟩, fun _ _ _ st hk => ⟨st.1, st.2.1.at fun o e => hk it (by simp) o e, st.2.2.at fun o e => hk a (by simp) o e⟩,
        fun j s Q E hj st _ => absurd st.1 (Nat.ne_of_lt hj), fun s Q E st hE => wpAny_nextOf_tuple_end (I.ok.hd hc) st.2.1 st.2.2 (by simp; omega) hE⟩
    exact wpAny_pyNext_enum_endD D he ⟨rfl, hit, ht⟩ fun h' eb => ⟨rfl, I.turned (t' := s.toks) (fun b o hb q => eb b o hb q) f0 f1 f3 f4 f5⟩
  self := fun A i s Q E st h => let ⟨⟨_, he⟩, _⟩ := st; wpAny_pyIter_enum he h
end DL

set_option Elab.async false
set_option linter.all false
set_option maxRecDepth 100000
set_option maxHeartbeats 1000000
namespace DL
open PySem PySem.Spec PyProof.Rows L2
open Classical

/-! ### what is walked -/
inductive RI where
  | ok (xs : List D) (chk : Hh → Prop) (G : Hh) | ex (c : Addr) (w : D) (G : Hh) | bad
abbrev IS := Env' → Hh → RI
def yesH : Hh → Prop := fun _ => True
def ItOk (X : Cx) (T : TbT) (ρ0 : List Addr) (H0 : Hp) (xs : List D) (chk : Hh → Prop) (J : It) : Prop :=
  ∀ ρ G H (i : Nat), Ext ρ0 H0 ρ H → RG X.K T ρ G H → chk G →
    (∀ d, xs[i]? = some d → J.go i H ∧ ∀ x H', J.yld i H x H' → Ext ρ H ρ H' ∧ RG X.K T ρ G H' ∧ Rep X.K H' ρ d x) ∧ (xs.length ≤ i → J.stop i H)
def PostI (X : Cx) (T : TbT) (W : WX) (σ : L2.St) (ρ : List Addr) (H : Hp) (r : RI) (R : It → Hp → Prop) : Prop :=
  match r with
  | .ok xs chk G' => ∀ ρ' H' J, Ext ρ H ρ' H' → RG X.K T ρ' G' H' → ItOk X T ρ' H' xs chk J → R J H'
  | .ex c w G' => PostX X T W σ ρ H c w G'
  | .bad => False
def tI (X : Cx) (T : TbT) (W : WX) (f : IS) : TI := fun σ H R => ∃ ρ env G, SR X T ρ env G σ H ∧ PostI X T W σ ρ H (f env G) R
abbrev DI (X : Cx) (T : TbT) (W : WX) (tg iter : Expr) (f : IS) : Prop := PI X tg iter (tI X T W f)
theorem PI_imp {X : Cx} {tg e : Expr} {t t' : TI} (h : PI X tg e t) (i : ∀ σ H R, t' σ H R → t σ H R) : PI X tg e t' := ⟨fun pins s σ H R I q => h.run pins s σ H R I (i σ H R q)⟩
theorem PI_or {X : Cx} {tg e : Expr} {t t' : TI} (h : PI X tg e t) (h' : PI X tg e t') : PI X tg e (fun σ H R => t σ H R ∨ t' σ H R) := ⟨fun pins s σ H R I q => q.elim (h.run pins s σ H R I) (h'.run pins s σ H R I)⟩

/-! ### for -/
noncomputable def forL (a : GS) (f : SS) (chk : Hh → Prop) : List D → SS
  | [], env, G => if chk G then .nx env G else .bad
  | d :: ds, env, G => if chk G then (match a d env G with
    | some (env1, G1) => (match f env1 G1 with
      | .nx e g => forL a f chk ds e g
      | .ct e g => forL a f chk ds e g
      | .bk e g => .nx e g
      | .rt d g => .rt d g
      | .ex c w e g => .ex c w e g
      | .bad => .bad)
    | none => .bad) else .bad
noncomputable def sFor (src : IS) (a : GS) (f : SS) : SS := fun env G => match src env G with
  | .ok xs chk G1 => forL a f chk xs env G1
  | .ex c w G1 => .ex c w env G1
  | .bad => .bad
section
variable {X : Cx} {T : TbT} {W : WX} {σ : L2.St} {ρ ρ1 : List Addr} {H H1 : Hp} {env : Env'} {G : Hh} {f : SS} {fe : ES} {e : Expr} {pos : Pos} {a : GS} {src : IS} {tg iter : Expr} {body : List Stmt}
theorem ds_for (hp : PassesOwn (model X.prog X.w) X.A X.env X.xe) (hc : X.calm = true) (hi : DI X T W tg iter src) (hg : DG X T tg a) (hb : DSs X T W body f)
    (hs : ∀ x, foldedSetIterable iter X.env x = pure x := by intro _; rfl) : DS X T W (.For tg iter body [] pos) (sFor src a f) :=
  PS_imp (ps_for hp hc hi hg hb hs) fun E σ H ⟨ρ, env, G, sr, p⟩ => by
    refine ⟨ρ, env, G, sr, ?_⟩
    unfold sFor at p
    cases q : src env G with
    | ok xs chk G1 =>
      rw [q] at p
      intro ρ1 H1 J e1 rg1 it
      dsimp only at p
      refine ⟨fun i m σ' H' => ∃ ρ' env' G', Ext ρ1 H1 ρ' H' ∧ SR X T ρ' env' G' σ' H' ∧ i + m = xs.length ∧ PostS X T W ρ' H' (forL a f chk (xs.drop i) env' G') E,
        ⟨xs.length, ρ1, env, G1, Ext.refl, sr.ext e1 rg1, by omega, PostS.ext e1 p⟩, fun i m σ' H' hW => ?_⟩
      obtain ⟨ρ', env', G', e', sr', hm, p'⟩ := hW
      cases hd : xs.drop i with
      | nil =>
        rw [hd] at p'
        unfold forL at p'
        split at p'
        · rename_i hck
          have hl : xs.length ≤ i := by
            have := congrArg List.length hd
            simp at this; omega
          exact .inl ⟨(it ρ' G' H' i e' sr'.rg hck).2 hl, PostS.nx_here sr' p'⟩
        · exact p'.elim
      | cons d ds =>
        rw [hd] at p'
        have hi : xs[i]? = some d := by
          rw [← List.head?_drop, hd]; rfl
        have hds : xs.drop (i + 1) = ds := by
          rw [← List.drop_drop, hd]; rfl
        have hlt : i < xs.length := (List.getElem?_eq_some_iff.mp hi).1
        unfold forL at p'
        split at p'
        · rename_i hck
          obtain ⟨hgo, hy⟩ := (it ρ' G' H' i e' sr'.rg hck).1 d hi
          refine .inr ⟨hgo, fun σ2 H2 => ∃ ρ2 env2 G2, Ext ρ1 H1 ρ2 H2 ∧ SR X T ρ2 env2 G2 σ2 H2 ∧ PostS X T W ρ2 H2 (forL a f chk ds env2 G2) E, fun σ2 H2 hN => ?_, fun x H2 hyl => ?_⟩
          · obtain ⟨ρ2, env2, G2, e2, sr2, p2⟩ := hN
            exact ⟨m - 1, by omega, ρ2, env2, G2, e2, sr2, by omega, by rw [hds]; exact p2⟩
          · obtain ⟨e2, rg2, r2⟩ := hy x H2 hyl
            refine ⟨ρ', env', G', d, sr'.ext e2 rg2, r2, ?_⟩
            cases q3 : a d env' G' with
            | none => rw [q3] at p'; exact p'.elim
            | some z =>
              obtain ⟨env3, G3⟩ := z
              rw [q3] at p'
              intro σ3 ρ3 H3 e3 sr3
              refine ⟨ρ3, env3, G3, sr3, ?_⟩
              have e13 : Ext ρ' H' ρ3 H3 := e2.trans e3
              dsimp only at p'
              cases q4 : f env3 G3 with
              | nx e4 g4 =>
                rw [q4] at p'
                exact fun σ4 ρ4 H4 x4 sr4 => ⟨ρ4, e4, g4, e'.trans (e13.trans x4), sr4, PostS.ext (e13.trans x4) p'⟩
              | ct e4 g4 =>
                rw [q4] at p'
                exact fun σ4 ρ4 H4 x4 sr4 => ⟨ρ4, e4, g4, e'.trans (e13.trans x4), sr4, PostS.ext (e13.trans x4) p'⟩
              | bk e4 g4 =>
                rw [q4] at p'
                exact fun σ4 ρ4 H4 x4 sr4 => p' σ4 ρ4 H4 (e13.trans x4) sr4
              | rt d4 g4 =>
                rw [q4] at p'
                exact fun v4 ρ4 H4 x4 => p' v4 ρ4 H4 (e13.trans x4)
              | ex c4 w4 e4 g4 =>
                rw [q4] at p'
                exact fun σ4 ρ4 H4 dd vw x4 => p' σ4 ρ4 H4 dd vw (e13.trans x4)
              | bad => rw [q4] at p'; exact p'
        · exact p'.elim
    | ex c w G1 => rw [q] at p; exact PostS.exE sr p
    | bad => rw [q] at p; exact p

/-! ### while -/
def whileN (t : TSm) (f : SS) : Nat → SS
  | 0, _, _ => .bad
  | n + 1, env, G => match t env G with
    | .ok false G1 => .nx env G1
    | .ok true G1 => (match f env G1 with
      | .nx e g => whileN t f n e g
      | .ct e g => whileN t f n e g
      | .bk e g => .nx e g
      | .rt d g => .rt d g
      | .ex c w e g => .ex c w e g
      | .bad => .bad)
    | .ex c w G1 => .ex c w env G1
    | .bad => .bad
noncomputable def sWhile (t : TSm) (f : SS) : SS := fun env G => if h : ∃ n, whileN t f n env G ≠ .bad then whileN t f h.choose env G else .bad
theorem whileN_mono {t : TSm} {f : SS} : ∀ {n m : Nat} {env : Env'} {G : Hh}, n ≤ m → whileN t f n env G ≠ .bad → whileN t f m env G = whileN t f n env G
  | 0, _, _, _, _, h => absurd rfl h
  | n + 1, 0, _, _, h, _ => absurd h (by omega)
  | n + 1, m + 1, env, G, h, hb => by
    unfold whileN at hb ⊢
    split
    · rfl
    · rename_i G1 e
      rw [e] at hb
      dsimp only at hb
      split
      · rename_i e2 g2 q; rw [q] at hb; exact whileN_mono (by omega) hb
      · rename_i e2 g2 q; rw [q] at hb; exact whileN_mono (by omega) hb
      · rfl
      · rfl
      · rfl
      · rfl
    · rfl
    · rfl
theorem sWhile_eq {t : TSm} {f : SS} {n : Nat} {r : RS} (h : whileN t f n env G = r) (hr : r ≠ .bad) : sWhile t f env G = r := by
  have hx : ∃ n, whileN t f n env G ≠ .bad := ⟨n, by rw [h]; exact hr⟩
  unfold sWhile
  rw [dif_pos hx]
  have h1 := hx.choose_spec
  rcases Nat.le_total n hx.choose with hl | hl
  · rw [whileN_mono hl (by rw [h]; exact hr), h]
  · rw [← h, whileN_mono hl h1]
theorem ds_while {c : Expr} {t : TSm} (hp : PassesOwn (model X.prog X.w) X.A X.env X.xe) (hc : DT X T W c t) (hb : DSs X T W body f) : DS X T W (.While c body [] pos) (sWhile t f) :=
  PS_imp (ps_while hp hc hb) fun E σ H ⟨ρ, env, G, sr, p⟩ => by
    unfold sWhile at p
    split at p
    · rename_i hx
      generalize hx.choose = n at p
      refine ⟨fun m σ' H' => ∃ ρ' env' G', SR X T ρ' env' G' σ' H' ∧ PostS X T W ρ' H' (whileN t f m env' G') E, ⟨n, ρ, env, G, sr, p⟩, fun m σ' H' ⟨ρ', env', G', sr', p'⟩ => ?_⟩
      refine ⟨ρ', env', G', sr', ?_⟩
      cases m with
      | zero => exact p'.elim
      | succ m =>
        unfold whileN at p'
        cases q : t env' G' with
        | ok k G1 =>
          rw [q] at p'
          intro ρ1 H1 e1 rg1
          cases k with
          | false =>
            rw [if_neg Bool.false_ne_true]
            exact p' σ' ρ1 H1 e1 (sr'.ext e1 rg1)
          | true =>
            rw [if_pos rfl]
            refine ⟨fun σ2 H2 => ∃ ρ2 env2 G2, SR X T ρ2 env2 G2 σ2 H2 ∧ PostS X T W ρ2 H2 (whileN t f m env2 G2) E, fun σ2 H2 hN => ⟨m, Nat.lt_succ_self m, hN⟩, ρ1, env', G1, sr'.ext e1 rg1, ?_⟩
            dsimp only at p'
            cases q4 : f env' G1 with
            | nx e4 g4 =>
              rw [q4] at p'
              exact fun σ4 ρ4 H4 x4 sr4 => ⟨ρ4, e4, g4, sr4, PostS.ext (e1.trans x4) p'⟩
            | ct e4 g4 =>
              rw [q4] at p'
              exact fun σ4 ρ4 H4 x4 sr4 => ⟨ρ4, e4, g4, sr4, PostS.ext (e1.trans x4) p'⟩
            | bk e4 g4 =>
              rw [q4] at p'
              exact fun σ4 ρ4 H4 x4 sr4 => p' σ4 ρ4 H4 (e1.trans x4) sr4
            | rt d4 g4 =>
              rw [q4] at p'
              exact fun v4 ρ4 H4 x4 => p' v4 ρ4 H4 (e1.trans x4)
            | ex c4 w4 e4 g4 =>
              rw [q4] at p'
              exact fun σ4 ρ4 H4 dd vw x4 => p' σ4 ρ4 H4 dd vw (e1.trans x4)
            | bad => rw [q4] at p'; exact p'
        | ex c w G1 => rw [q] at p'; exact PostS.exE sr' p'
        | bad => rw [q] at p'; exact p'
    · exact p.elim

/-! ### sources -/
/-- a tuple, a list, a text -/
def srcSeq (f : ES) : IS := fun env G => match f env G with
  | .ok (.dat (.tuple ds)) G1 => .ok (ds.map .dat) yesH G1
  | .ok (.mix ds) G1 => .ok ds yesH G1
  | .ok (.fro ds) G1 => .ok (ds.map .dat) yesH G1
  | .ok (.ref l) G1 => (match G1[l]? with
    | some (.lst xs) => .ok xs (fun g => g[l]? = some (.lst xs)) G1
    | none => .bad)
  | .ok (.dat (.str z)) G1 => .ok (z.cps.toList.map fun c => .dat (.str ⟨#[c]⟩)) yesH G1
  | .ok _ _ => .bad
  | .ex c w G1 => .ex c w G1
  | .bad => .bad
theorem sqT_inj_go {K : PySem.W.Frag} {H : Hp} {i : Nat} {x : V} {a : Addr} {vs : List V} (s : SqT K H a vs) (hx : vs[i]? = some x) : (Itt K a).go i H := ⟨vs, x, s, hx⟩
theorem it_tup {a : Addr} {vs : List V} {xs : List D} (rg : RG X.K T ρ G H) (s : SqT X.K H a vs) (r : Reps X.K H ρ xs vs) : ItOk X T ρ H xs yesH (Itt X.K a) := fun ρ' G' H' i e rg' _ => by
  have s' := (e.kt rg).1 a vs s
  have r' := e.reps rg r
  refine ⟨fun d hd => ?_, fun hl => ⟨vs, s', by rw [r.length]; exact hl⟩⟩
  obtain ⟨v, hv, rv⟩ := r'.get hd
  refine ⟨⟨vs, v, s', hv⟩, fun x H2 ⟨e1, e2⟩ => ?_⟩
  subst e1
  have q := e2 vs s'
  rw [hv] at q
  cases q
  exact ⟨Ext.refl, rg', rv⟩
theorem it_fro {a : Addr} {vs : List V} {xs : List D} (rg : RG X.K T ρ G H) (s : FrL X.K H a vs) (r : Reps X.K H ρ xs vs) : ItOk X T ρ H xs yesH (Itl X.K a) := fun ρ' G' H' i e rg' _ => by
  have s' := ((e.kt rg).2 a vs s).sq
  have r' := e.reps rg r
  refine ⟨fun d hd => ?_, fun hl => ⟨vs, s', by rw [r.length]; exact hl⟩⟩
  obtain ⟨v, hv, rv⟩ := r'.get hd
  refine ⟨⟨vs, v, s', hv⟩, fun x H2 ⟨e1, e2⟩ => ?_⟩
  subst e1
  have q := e2 vs s'
  rw [hv] at q
  cases q
  exact ⟨Ext.refl, rg', rv⟩
theorem it_lst {a : Addr} {l : Nat} {xs : List D} (hl : ρ[l]? = some a) : ItOk X T ρ H xs (fun g => g[l]? = some (.lst xs)) (Itl X.K a) := fun ρ' G' H' i e rg' hck => by
  obtain ⟨vs, hv, rs⟩ := rg'.ok l a _ (e.kr l a hl) hck
  refine ⟨fun d hd => ?_, fun hl => ⟨vs, SqL.of hv, by rw [rs.length]; exact hl⟩⟩
  obtain ⟨v, hv2, rv⟩ := rs.get hd
  refine ⟨⟨vs, v, SqL.of hv, hv2⟩, fun x H2 ⟨e1, e2⟩ => ?_⟩
  subst e1
  have q := e2 vs (SqL.of hv)
  rw [hv2] at q
  cases q
  exact ⟨Ext.refl, rg', rv⟩
theorem it_str {z : Str} : ItOk X T ρ H (z.cps.toList.map fun c => .dat (.str ⟨#[c]⟩)) yesH (Its z) := fun ρ' G' H' i e rg' _ => by
  refine ⟨fun d hd => ?_, fun hl => ?_⟩
  · rw [List.getElem?_map, Option.map_eq_some_iff] at hd
    obtain ⟨c, hc, rfl⟩ := hd
    have hc' : z.cps[i]? = some c := by simpa using hc
    refine ⟨(Array.getElem?_eq_some_iff.mp hc').1, fun x H2 ⟨e1, c2, h2, e2⟩ => ?_⟩
    rw [hc'] at h2
    cases h2
    subst e1; subst e2
    exact ⟨Ext.refl, rg', rfl⟩
  · show z.cps.size ≤ i
    simpa using hl
theorem di_seq (he : DE X T W e fe) : DI X T W tg e (srcSeq fe) :=
  PI_imp (PI_or (pi_tup he) (PI_or (pi_list he) (pi_str he))) fun σ H R ⟨ρ, env, G, sr, p⟩ => by
    unfold srcSeq at p
    cases q : fe env G with
    | ok d G1 =>
      rw [q] at p
      split at p
      · rename_i ds G2 h
        injection h with h1 h2
        subst h1; subst h2
        refine .inl ⟨ρ, env, G, sr, ?_⟩
        rw [q]
        intro v ρ1 H1 e1 rg1 ⟨a, vs, ev, sq, rs⟩
        exact ⟨a, ev, ⟨vs, sq⟩, p ρ1 H1 _ e1 rg1 (it_tup rg1 sq rs.reps)⟩
      · rename_i ds G2 h
        injection h with h1 h2
        subst h1; subst h2
        refine .inl ⟨ρ, env, G, sr, ?_⟩
        rw [q]
        intro v ρ1 H1 e1 rg1 ⟨a, vs, ev, sq, rs⟩
        exact ⟨a, ev, ⟨vs, sq⟩, p ρ1 H1 _ e1 rg1 (it_tup rg1 sq rs)⟩
      · rename_i ds G2 h
        injection h with h1 h2
        subst h1; subst h2
        refine .inr (.inl ⟨ρ, env, G, sr, ?_⟩)
        rw [q]
        intro v ρ1 H1 e1 rg1 ⟨a, vs, ev, sq, rs⟩
        exact ⟨a, ev, ⟨vs, sq.sq⟩, p ρ1 H1 _ e1 rg1 (it_fro rg1 sq rs.reps)⟩
      · rename_i l G2 h
        injection h with h1 h2
        subst h1; subst h2
        split at p
        · rename_i xs hx
          refine .inr (.inl ⟨ρ, env, G, sr, ?_⟩)
          rw [q]
          intro v ρ1 H1 e1 rg1 r1
          obtain ⟨a, vs, rfl, hl, sq, rs⟩ := ref_lst rg1 r1 hx
          exact ⟨a, rfl, ⟨vs, SqL.of sq⟩, p ρ1 H1 _ e1 rg1 (it_lst hl)⟩
        · exact p.elim
      · rename_i z G2 h
        injection h with h1 h2
        subst h1; subst h2
        refine .inr (.inr ⟨ρ, env, G, sr, ?_⟩)
        rw [q]
        intro v ρ1 H1 e1 rg1 r1
        exact ⟨z, r1, p ρ1 H1 _ e1 rg1 it_str⟩
      · exact p.elim
      · rename_i h; cases h
      · rename_i h; cases h
    | ex c w G1 =>
      rw [q] at p
      refine .inl ⟨ρ, env, G, sr, ?_⟩
      rw [q]
      exact p
    | bad => rw [q] at p; exact p.elim
def rngD (lo : Int) (n : Nat) : List D := (List.range n).map fun i => .dat (.int (lo + (i : Nat)))
theorem it_rng {lo : Int} {n : Nat} : ItOk X T ρ H (rngD lo n) yesH (Itr lo n) := fun ρ' G' H' i e rg' _ => by
  refine ⟨fun d hd => ?_, fun hl => ?_⟩
  · unfold rngD at hd
    rw [List.getElem?_map, Option.map_eq_some_iff] at hd
    obtain ⟨j, hj, rfl⟩ := hd
    obtain ⟨hj1, hj2⟩ := List.getElem?_eq_some_iff.mp hj
    rw [List.getElem_range] at hj2
    subst hj2
    refine ⟨by show i < n; simpa using hj1, fun x H2 ⟨e1, e2⟩ => ?_⟩
    subst e1; subst e2
    exact ⟨Ext.refl, rg', rfl⟩
  · show n ≤ i
    simpa [rngD] using hl
def okR (i : Int) : Prop := -(2 ^ 62) ≤ i ∧ i < 2 ^ 62
instance (i : Int) : Decidable (okR i) := by unfold okR; infer_instance
def srcRange1 (f : AS) : IS := fun env G => match f env G with
  | .ok [.dat (.int n)] G1 => if okR n then .ok (rngD 0 n.toNat) yesH G1 else .bad
  | .ok _ _ => .bad
  | .ex c w G1 => .ex c w G1
  | .bad => .bad
def srcRange2 (f : AS) : IS := fun env G => match f env G with
  | .ok [.dat (.int i), .dat (.int j)] G1 => if okR i ∧ okR j then .ok (rngD i (j - i).toNat) yesH G1 else .bad
  | .ok _ _ => .bad
  | .ex c w G1 => .ex c w G1
  | .bad => .bad
theorem di_range1 {fa : AS} {p pos : Pos} {a : Expr} (hg : Gl X "range") (hm : X.mg "range" = none) (ha : DA X T W [a] fa) (hs : starEach [a] X.env = [(false, eval a X.env)] := by rfl) : DI X T W tg (.Call (.Name "range" p) [a] [] pos) (srcRange1 fa) :=
  PI_imp (pi_range1 hg hm ha hs) fun σ H R ⟨ρ, env, G, sr, p⟩ => by
    refine ⟨ρ, env, G, sr, ?_⟩
    unfold srcRange1 at p
    cases q : fa env G with
    | ok ds G1 =>
      rw [q] at p
      intro vs ρ1 H1 e1 rg1 rs
      split at p
      · rename_i n G2 h
        injection h with h1 h2
        subst h1; subst h2
        split at p
        · rename_i hn
          obtain ⟨v, rfl, rv⟩ := reps_one rs
          have ev : v = .int n := rv
          subst ev
          exact ⟨n, rfl, hn.1, hn.2, p ρ1 H1 _ e1 rg1 it_rng⟩
        · exact p.elim
      · exact p.elim
      · rename_i h; cases h
      · rename_i h; cases h
    | ex c w G1 => rw [q] at p; exact p
    | bad => rw [q] at p; exact p
theorem di_range2 {fa : AS} {p pos : Pos} {a b : Expr} (hg : Gl X "range") (hm : X.mg "range" = none) (ha : DA X T W [a, b] fa) (hs : starEach [a, b] X.env = [(false, eval a X.env), (false, eval b X.env)] := by rfl) (hs2 : starEach [b] X.env = [(false, eval b X.env)] := by rfl) :
    DI X T W tg (.Call (.Name "range" p) [a, b] [] pos) (srcRange2 fa) :=
  PI_imp (pi_range2 hg hm ha hs hs2) fun σ H R ⟨ρ, env, G, sr, p⟩ => by
    refine ⟨ρ, env, G, sr, ?_⟩
    unfold srcRange2 at p
    cases q : fa env G with
    | ok ds G1 =>
      rw [q] at p
      intro vs ρ1 H1 e1 rg1 rs
      split at p
      · rename_i i j G2 h
        injection h with h1 h2
        subst h1; subst h2
        split at p
        · rename_i hn
          obtain ⟨v, u, rfl, r1, r2⟩ := reps_two rs
          have ev : v = .int i := r1
          have eu : u = .int j := r2
          subst ev; subst eu
          exact ⟨i, j, rfl, ⟨hn.1.1, hn.1.2, hn.2.1, hn.2.2⟩, p ρ1 H1 _ e1 rg1 it_rng⟩
        · exact p.elim
      · exact p.elim
      · rename_i h; cases h
      · rename_i h; cases h
    | ex c w G1 => rw [q] at p; exact p
    | bad => rw [q] at p; exact p

/-! ### enumerate, zip -/
def enumF (k : Nat) : List D → List D
  | [] => []
  | d :: r => mkTup [.dat (.int (k : Nat)), d] :: enumF (k + 1) r
theorem enumF_get : ∀ {k : Nat} {ds : List D} {i : Nat} {e : D}, (enumF k ds)[i]? = some e → ∃ d, ds[i]? = some d ∧ e = mkTup [.dat (.int ((k + i : Nat) : Int)), d]
  | k, [], i, e, h => by simp [enumF] at h
  | k, d :: r, 0, e, h => by
    simp only [enumF, List.getElem?_cons_zero, Option.some.injEq] at h
    exact ⟨d, rfl, h.symm⟩
  | k, d :: r, i + 1, e, h => by
    simp only [enumF, List.getElem?_cons_succ] at h
    obtain ⟨d', h1, h2⟩ := enumF_get h
    refine ⟨d', by simpa using h1, ?_⟩
    rw [h2, show k + 1 + i = k + (i + 1) from by omega]
theorem enumF_length : ∀ (k : Nat) (ds : List D), (enumF k ds).length = ds.length
  | _, [] => rfl
  | k, d :: r => by simp [enumF, enumF_length]
def zipF (a b : List D) : List D := List.zipWith (fun x y => mkTup [x, y]) a b
theorem reps_pair {ρ : List Addr} {H : Hp} {x y : D} {v u : V} (h : Rep X.K H ρ x v) (h2 : Rep X.K H ρ y u) : Reps X.K H ρ [x, y] [v, u] := ⟨v, [u], rfl, h, u, [], rfl, h2, rfl⟩
theorem new_pair {ρ : List Addr} {H : Hp} {G : Hh} (rg : RG X.K T ρ G H) {p : Addr} {x y : D} {v u : V} (hp : H p = none) (h : Rep X.K H ρ x v) (h2 : Rep X.K H ρ y u) :
    Ext ρ H ρ (upd H p (.tup [v, u])) ∧ RG X.K T ρ G (upd H p (.tup [v, u])) ∧ Rep X.K (upd H p (.tup [v, u])) ρ (mkTup [x, y]) (.ref p) :=
  ⟨ext_new hp, rg.ext_same hp, rep_mkTup (SqT.of upd_same) ((ext_new hp).reps rg (reps_pair h h2))⟩
theorem it_enumT {a : Addr} {vs : List V} {xs : List D} (rg : RG X.K T ρ G H) (s : SqT X.K H a vs) (r : Reps X.K H ρ xs vs) : ItOk X T ρ H (enumF 0 xs) yesH (IteT X.K a) := fun ρ' G' H' i e rg' _ => by
  have s' := (e.kt rg).1 a vs s
  have r' := e.reps rg r
  refine ⟨fun d hd => ?_, fun hl => ⟨vs, s', by rw [r.length, ← enumF_length 0]; exact hl⟩⟩
  obtain ⟨d, hd', rfl⟩ := enumF_get hd
  obtain ⟨v, hv, rv⟩ := r'.get hd'
  refine ⟨⟨vs, v, s', hv⟩, fun x H2 ⟨p, y, e1, hp, e2, e3⟩ => ?_⟩
  subst e1; subst e2
  have q := e3 vs s'
  rw [hv] at q
  cases q
  rw [Nat.zero_add]
  exact new_pair rg' hp rfl rv
theorem it_enumL {a : Addr} {l : Nat} {xs : List D} (hl : ρ[l]? = some a) : ItOk X T ρ H (enumF 0 xs) (fun g => g[l]? = some (.lst xs)) (Ite X.K a) := fun ρ' G' H' i e rg' hck => by
  obtain ⟨vs, hv, rs⟩ := rg'.ok l a _ (e.kr l a hl) hck
  refine ⟨fun d hd => ?_, fun hl => ⟨vs, SqL.of hv, by rw [rs.length, ← enumF_length 0]; exact hl⟩⟩
  obtain ⟨d, hd', rfl⟩ := enumF_get hd
  obtain ⟨v, hv2, rv⟩ := rs.get hd'
  refine ⟨⟨vs, v, SqL.of hv, hv2⟩, fun x H2 ⟨p, y, e1, hp, e2, e3⟩ => ?_⟩
  subst e1; subst e2
  have q := e3 vs (SqL.of hv)
  rw [hv2] at q
  cases q
  rw [Nat.zero_add]
  exact new_pair rg' hp rfl rv
theorem it_zipT {a b : Addr} {vs ws : List V} {xs ys : List D} (rg : RG X.K T ρ G H) (s : SqT X.K H a vs) (r : Reps X.K H ρ xs vs) (s2 : SqT X.K H b ws) (r2 : Reps X.K H ρ ys ws) : ItOk X T ρ H (zipF xs ys) yesH (RZ.ItzT X.K a b) := fun ρ' G' H' i e rg' _ => by
  have s' := (e.kt rg).1 a vs s
  have s2' := (e.kt rg).1 b ws s2
  have r' := e.reps rg r
  have r2' := e.reps rg r2
  refine ⟨fun d hd => ?_, fun hl => ⟨vs, ws, s', s2', ?_⟩⟩
  · unfold zipF at hd
    rw [List.getElem?_zipWith_eq_some] at hd
    obtain ⟨d1, d2, h1, h2, rfl⟩ := hd
    obtain ⟨v, hv, rv⟩ := r'.get h1
    obtain ⟨u, hu, ru⟩ := r2'.get h2
    refine ⟨⟨vs, ws, v, u, s', s2', hv, hu⟩, fun x H2 ⟨p, y, z, e1, hp, e2, e3, e4⟩ => ?_⟩
    subst e1; subst e2
    have q := e3 vs s'
    rw [hv] at q
    cases q
    have q := e4 ws s2'
    rw [hu] at q
    cases q
    exact new_pair rg' hp rv ru
  · unfold zipF at hl
    rw [List.length_zipWith] at hl
    rw [r.length, r2.length]
    omega
theorem it_zipL {a b : Addr} {l m : Nat} {xs ys : List D} (hl : ρ[l]? = some a) (hm : ρ[m]? = some b) : ItOk X T ρ H (zipF xs ys) (fun g => g[l]? = some (.lst xs) ∧ g[m]? = some (.lst ys)) (Itz X.K a b) := fun ρ' G' H' i e rg' hck => by
  obtain ⟨vs, hv, rs⟩ := rg'.ok l a _ (e.kr l a hl) hck.1
  obtain ⟨ws, hw, rs2⟩ := rg'.ok m b _ (e.kr m b hm) hck.2
  refine ⟨fun d hd => ?_, fun hl => ⟨vs, ws, SqL.of hv, SqL.of hw, ?_⟩⟩
  · unfold zipF at hd
    rw [List.getElem?_zipWith_eq_some] at hd
    obtain ⟨d1, d2, h1, h2, rfl⟩ := hd
    obtain ⟨v, hv', rv⟩ := rs.get h1
    obtain ⟨u, hu, ru⟩ := rs2.get h2
    refine ⟨⟨vs, ws, v, u, SqL.of hv, SqL.of hw, hv', hu⟩, fun x H2 ⟨p, y, z, e1, hp, e2, e3, e4⟩ => ?_⟩
    subst e1; subst e2
    have q := e3 vs (SqL.of hv)
    rw [hv'] at q
    cases q
    have q := e4 ws (SqL.of hw)
    rw [hu] at q
    cases q
    exact new_pair rg' hp rv ru
  · unfold zipF at hl
    rw [List.length_zipWith] at hl
    rw [rs.length, rs2.length]
    omega
def iEnumT (K : PySem.W.Frag) (ta : TA) : TI := fun σ H R => ta σ H fun vs H1 => ∃ a xs, vs = [.ref a] ∧ SqT K H1 a xs ∧ R (IteT K a) H1
theorem pi_enumT {X : Cx} {e : Expr} {ta : TA} {p pos tpos : Pos} {elts : List Expr} {kk : Nat} (hg : Gl X "enumerate") (hm : X.mg "enumerate" = none) (ha : PA X [e] ta) (hs : starEach [e] X.env = [(false, eval e X.env)] := by rfl) :
    PI X (.Tuple elts kk tpos) (.Call (.Name "enumerate" p) [e] [] pos) (iEnumT X.K ta) := by
  refine ⟨fun pins s σ H R I h => ?_⟩
  refine Call_ (ld_blt I hg hm boot_enumerate (PyProof.Rows.callWith_type1 (thn (ha.run pos pins s σ H _ I h) fun us s1 ⟨vs, H1, I1, r1, q1⟩ => ?_) hs rfl))
  obtain ⟨a, xs, ex, hq, q⟩ := q1
  subst ex
  cases r1 with
  | cons r rr =>
    cases rr
    cases r
    obtain ⟨its, rv, p', hz⟩ := I1.tuple hq
    refine enum_begins1 (begins_tuple a its.toArray) p' fun h' he hit hsz hk => wpAny_pyIter_enum he ?_
    have I2 : Inv X pins σ H1 { s1 with heap := h' } := I1.kept (t' := s1.toks) hk
    refine ⟨s1.heap.objs.size + 1, [s1.heap.objs.size + 1, s1.heap.objs.size], _, _, H1, rfl, I2, turn_enumT a (s1.heap.objs.size + 1) s1.heap.objs.size, ⟨⟨.none, he⟩, ⟨_, hit, rfl, rfl⟩, Nat.succ_ne_self _⟩, fun b hb => ?_, q⟩
    have e' : b = s1.heap.objs.size + 1 ∨ b = s1.heap.objs.size := by simpa using hb
    have hle : s1.heap.objs.size ≤ b := by
      rcases e' with z | z
      · rw [z]; exact Nat.le_add_right _ _
      · rw [z]; exact Nat.le_refl _
    exact I1.fpOk hle (I1.hok.fresh hle)
def srcEnum (f : AS) : IS := fun env G => match f env G with
  | .ok [.dat (.tuple ds)] G1 => .ok (enumF 0 (ds.map .dat)) yesH G1
  | .ok [.ref l] G1 => (match G1[l]? with
    | some (.lst xs) => .ok (enumF 0 xs) (fun g => g[l]? = some (.lst xs)) G1
    | none => .bad)
  | .ok _ _ => .bad
  | .ex c w G1 => .ex c w G1
  | .bad => .bad
theorem di_enum {fa : AS} {p pos tpos : Pos} {elts : List Expr} {kk : Nat} (hg : Gl X "enumerate") (hm : X.mg "enumerate" = none) (ha : DA X T W [e] fa) (hs : starEach [e] X.env = [(false, eval e X.env)] := by rfl) :
    DI X T W (.Tuple elts kk tpos) (.Call (.Name "enumerate" p) [e] [] pos) (srcEnum fa) :=
  PI_imp (PI_or (pi_enumT hg hm ha hs) (pi_enum hg hm ha hs)) fun σ H R ⟨ρ, env, G, sr, p⟩ => by
    unfold srcEnum at p
    cases q : fa env G with
    | ok ds G1 =>
      rw [q] at p
      split at p
      · rename_i es G2 h
        injection h with h1 h2
        subst h1; subst h2
        refine .inl ⟨ρ, env, G, sr, ?_⟩
        rw [q]
        intro vs ρ1 H1 e1 rg1 rs
        obtain ⟨v, rfl, a, ws, rfl, sq, rr⟩ := reps_one rs
        exact ⟨a, ws, rfl, sq, p ρ1 H1 _ e1 rg1 (it_enumT rg1 sq rr.reps)⟩
      · rename_i l G2 h
        injection h with h1 h2
        subst h1; subst h2
        split at p
        · rename_i xs hx
          refine .inr ⟨ρ, env, G, sr, ?_⟩
          rw [q]
          intro vs ρ1 H1 e1 rg1 rs
          obtain ⟨v, rfl, rv⟩ := reps_one rs
          obtain ⟨a, ws, rfl, hl, sq, rr⟩ := ref_lst rg1 rv hx
          exact ⟨a, ws, rfl, SqL.of sq, p ρ1 H1 _ e1 rg1 (it_enumL hl)⟩
        · exact p.elim
      · exact p.elim
      · rename_i h; cases h
      · rename_i h; cases h
    | ex c w G1 =>
      rw [q] at p
      refine .inl ⟨ρ, env, G, sr, ?_⟩
      rw [q]
      exact p
    | bad => rw [q] at p; exact p.elim
def srcZip (f : AS) : IS := fun env G => match f env G with
  | .ok [.dat (.tuple ds), .dat (.tuple es)] G1 => .ok (zipF (ds.map .dat) (es.map .dat)) yesH G1
  | .ok [.ref l, .ref m] G1 => (match G1[l]?, G1[m]? with
    | some (.lst xs), some (.lst ys) => .ok (zipF xs ys) (fun g => g[l]? = some (.lst xs) ∧ g[m]? = some (.lst ys)) G1
    | _, _ => .bad)
  | .ok _ _ => .bad
  | .ex c w G1 => .ex c w G1
  | .bad => .bad
theorem di_zip {e2 : Expr} {fa : AS} {p pos tpos : Pos} {elts : List Expr} {kk : Nat} (hg : Gl X "zip") (hm : X.mg "zip" = none) (ha : DA X T W [e, e2] fa)
    (hs : starEach [e, e2] X.env = (false, eval e X.env) :: starEach [e2] X.env := by rfl) (hpl : (backTo pos (starEach [e2] X.env)).any (·.1) = false := by rfl) :
    DI X T W (.Tuple elts kk tpos) (.Call (.Name "zip" p) [e, e2] [] pos) (srcZip fa) :=
  PI_imp (RZ.pi_zipA hg hm ha hs hpl) fun σ H R ⟨ρ, env, G, sr, p⟩ => by
    refine ⟨ρ, env, G, sr, ?_⟩
    unfold srcZip at p
    cases q : fa env G with
    | ok ds G1 =>
      rw [q] at p
      intro vs ρ1 H1 e1 rg1 rs
      split at p
      · rename_i d1 d2 G2 h
        injection h with h1 h2
        subst h1; subst h2
        obtain ⟨v, u, rfl, ⟨a, ws, rfl, sq, rr⟩, ⟨b, zs, rfl, sq2, rr2⟩⟩ := reps_two rs
        exact ⟨a, b, ws, zs, rfl, .inr ⟨sq, sq2, p ρ1 H1 _ e1 rg1 (it_zipT rg1 sq rr.reps sq2 rr2.reps)⟩⟩
      · rename_i l m G2 h
        injection h with h1 h2
        subst h1; subst h2
        split at p
        · rename_i xs ys hx hy
          obtain ⟨v, u, rfl, rv, ru⟩ := reps_two rs
          obtain ⟨a, ws, rfl, hl, sq, rr⟩ := ref_lst rg1 rv hx
          obtain ⟨b, zs, rfl, hm, sq2, rr2⟩ := ref_lst rg1 ru hy
          exact ⟨a, b, ws, zs, rfl, .inl ⟨SqL.of sq, SqL.of sq2, p ρ1 H1 _ e1 rg1 (it_zipL hl hm)⟩⟩
        · exact p.elim
      · exact p.elim
      · rename_i h; cases h
      · rename_i h; cases h
    | ex c w G1 => rw [q] at p; exact p
    | bad => rw [q] at p; exact p
end
end DL

set_option Elab.async false
set_option linter.all false
set_option maxRecDepth 100000
set_option maxHeartbeats 1000000
namespace DL
open PySem PySem.Spec PyProof.Rows L2
open Classical

/-! ### defs -/
abbrev FS := List D → Hh → RE
def PostF (K : PySem.W.Frag) (T : TbT) (ρ : List Addr) (H : Hp) (r : RE) (Q : VK) (E : XK) : Prop :=
  match r with
  | .ok d G' => ∀ v ρ' H', Ext ρ H ρ' H' → RG K T ρ' G' H' → Rep K H' ρ' d v → Q v H'
  | .ex c w G' => ∀ ρ' H' dd vw, Ext ρ H ρ' H' → RG K T ρ' G' H' → Xd K c H' dd vw → Rep K H' ρ' w vw → E (.ref c) (some dd) H'
  | .bad => False
structure FnD (P : Program) (w : World) (K : PySem.W.Frag) (mg : Str → Option Value) (base : Heap) (T : TbT) (k : Nat) (f : Addr) (fd : FuncData) (ps : List Str) (sem : FS) : Prop where
  run : ∀ (A : Around) (outer : List Env) (s : Shared) (H : Hp) (args : Args) (us : List Value) (vs : List V) (Q : VK) (E : XK) (ρ : List Addr) (G : Hh) (ds : List D), Room k A → A.guards = some [] → Env0 P w K mg base A outer s H → BindsTo s fd args (ps.zip us) → Vals vs us →
    vs.length = ps.length → RG K T ρ G H → Reps K H ρ ds vs → PostF K T ρ H (sem ds G) Q E → codeAny (model P w) A (.call (.ref f) args) (CR (L2.CX P w) outer P w H s Q E) s
theorem FnD.mono {P : Program} {w : World} {K : PySem.W.Frag} {mg : Str → Option Value} {base : Heap} {T : TbT} {j k : Nat} {f : Addr} {fd : FuncData} {ps : List Str} {sem : FS} (F : FnD P w K mg base T j f fd ps sem) (h : j ≤ k) : FnD P w K mg base T k f fd ps sem :=
  ⟨fun A outer s H args us vs Q E ρ G ds hr => F.run A outer s H args us vs Q E ρ G ds (hr.mono h)⟩
def fnD (N : Nat) (body : SS) : FS := fun ds G => match body (ds.map .d ++ List.replicate (N - ds.length) .no) G with
  | .nx _ G' => .ok (.dat .none) G'
  | .rt d G' => .ok d G'
  | .ex c w _ G' => .ex c w G'
  | _ => .bad
section
variable {P : Program} {w : World} {K : PySem.W.Frag} {mg : Str → Option Value} {base : Heap} {T : TbT}
theorem envR_start {ρ : List Addr} {H : Hp} {pn : List (Addr × Obj)} {N : List Str} {ds : List D} {vs : List V} (h : Reps K H ρ ds vs) (hl : vs.length ≤ N.length) :
    EnvR K pn H ρ (ds.map .d ++ List.replicate (N.length - ds.length) .no) (L2.start N vs) := by
  have e := h.length
  refine ⟨by unfold L2.start; simp [e], fun i s hi => ?_⟩
  unfold L2.start
  by_cases hlt : i < ds.length
  · rw [List.getElem?_append_left (by simpa using hlt), List.getElem?_map, Option.map_eq_some_iff] at hi
    obtain ⟨d, hd, rfl⟩ := hi
    obtain ⟨v, hv, rv⟩ := h.get hd
    exact ⟨some v, by rw [List.getElem?_append_left (by simp [e]; exact hlt), List.getElem?_map, hv]; rfl, v, rfl, rv⟩
  · rw [List.getElem?_append_right (by simpa using hlt)] at hi
    have h2 := (List.getElem?_eq_some_iff.mp hi).1
    have h3 : s = .no := by
      have := List.mem_of_getElem? hi
      simp at this
      exact this.2
    subst h3
    simp at h2
    have hn : i - vs.length < N.length - vs.length := by omega
    exact ⟨none, by rw [List.getElem?_append_right (by simp [e]; omega), List.getElem?_replicate]; simp [e]; omega, trivial⟩
/-- the wish of a def's body -/
abbrev WE' (E : XK) : WX := fun cls d _ H => E cls d H
theorem FnD.of {x qual : Str} {st : Stmt} {f : Addr} {fd : FuncData} {N ps : List Str} {k : Nat} {body : SS} (F : Fun K x qual st f fd) (S : FnScope N ps (defScope st))
    (hbody : ∀ (cdv : Value) (A : Around) (outer : List Env) (s : Shared) (H : Hp) (E : XK), Room k (A.deeper (envOfC qual (defScope st) s.heap.objs.size f cdv)) → (A.deeper (envOfC qual (defScope st) s.heap.objs.size f cdv)).guards = some [] → PySem.W.codeIn K cdv qual = true →
      DSs (cxOf (L2.CX P w) P w K mg base N qual (defScope st) f cdv A outer s H E) T (WE' E) (defBody st) body) : FnD P w K mg base T (k + 1) f fd ps (fnD N.length body) := by
  obtain ⟨oc, od, kV, doc, pm, an, cdv, ct, osl, rfl, lk, hcd⟩ := F.ex
  refine ⟨fun A outer s H args us vs Q E ρ G ds hr hgd e0 hb r hl rg rs hsp => ?_⟩
  have KX : K.In s.heap := e0.mod.kin.keeps fun b o e => (e0.bs b o e).1
  have lm : s.heap.NoLimit := e0.mod.nolimit.keeps fun b o e => (e0.bs b o e).1
  have hkind : ∀ y ∈ ps.zip us, (defScope st).names.lookup y.1 = some .local ∨ ((defScope st).names.lookup y.1 = some .cell ∧ ((cellsFrom (s.heap.objs.size + 1) (defScope st).names []).lookup y.1).isSome = true) := fun ⟨n, v⟩ hy => by
    rcases S.par n (List.of_mem_zip hy).1 with q | q
    · exact .inl q
    · exact .inr ⟨q, PySem.W.cellsFrom_some _ _ _ (.inl q)⟩
  refine codeAny_call_function hr.depth (KX _ _ lk) rfl S.co S.gen rfl (PySem.W.codeRec_of KX hcd) (hb _ _ _ _ ?_)
  refine wpAny_newFunctionEnv_cells S.kind hkind fun env he s1 x => ?_
  subst he
  refine ⟨lm.keeps x.toInCall.keep, codeAny_func ?_⟩
  have ht := hbody cdv A outer s H E (hr.deeper _) hgd hcd
  have I : Inv (cxOf (L2.CX P w) P w K mg base N qual (defScope st) f cdv A outer s H E) [] (L2.start N vs) H s1 := inv_start S hr.hd e0 hl r x
  have hpl : vs.length ≤ N.length := by
    have := congrArg List.length S.pre
    rw [List.length_take] at this
    omega
  have hq : tS (cxOf (L2.CX P w) P w K mg base N qual (defScope st) f cdv A outer s H E) T (WE' E) body { nx := fun _ H' => Q .non H', rt := Q } (L2.start N vs) H := by
    refine ⟨ρ, _, G, ⟨rg, envR_start rs hpl⟩, ?_⟩
    unfold fnD at hsp
    split at hsp
    · rename_i env' G' e
      rw [e]
      exact fun σ' ρ' H' e1 sr1 => hsp .non ρ' H' e1 sr1.rg rfl
    · rename_i d G' e
      rw [e]
      exact hsp
    · rename_i c w env' G' e
      rw [e]
      exact fun σ' ρ' H' dd vw e1 sr1 => hsp ρ' H' dd vw e1 sr1.rg
    · exact hsp.elim
  refine wpAny_mono (ht.run [] s1 (L2.start N vs) H _ I hq) (fun fl s' hs => ?_) fun e s' hs => hs
  have fin : ∀ {σ' : L2.St} {H' : Hp} {v : V} {u : Value}, Inv (cxOf (L2.CX P w) P w K mg base N qual (defScope st) f cdv A outer s H E) [] σ' H' s' → RelV v u → Q v H' → CE outer P w H s Q u s' :=
    fun {σ' H' v u} J rv q => ⟨v, H', J.os, J.bare, J.base, J.hok, rv, q⟩
  cases fl with
  | ret u =>
    obtain ⟨v, σ', H', J, rv, q⟩ := hs
    exact fin J rv q
  | next =>
    obtain ⟨σ', H', J, q⟩ := hs
    exact fin (v := V.non) (u := Value.none) J rfl q
  | brk =>
    obtain ⟨_, _, _, q⟩ := hs
    exact False.elim q
  | cont =>
    obtain ⟨_, _, _, q⟩ := hs
    exact False.elim q
/-- what leaves the body is taken -/
theorem takes_fn {N : List Str} {qual : Str} {scope : Scope} {f : Addr} {cd : Value} {A : Around} {outer : List Env} {s : Shared} {H : Hp} {E : XK} :
    Takes (cxOf (L2.CX P w) P w K mg base N qual scope f cd A outer s H E) (WE' E) := takes_of rfl rfl rfl rfl
theorem owns_fn {N : List Str} {qual : Str} {scope : Scope} {f : Addr} {cd : Value} {A : Around} {outer : List Env} {s : Shared} {H : Hp} {E : XK} :
    PassesOwn (model (cxOf (L2.CX P w) P w K mg base N qual scope f cd A outer s H E).prog (cxOf (L2.CX P w) P w K mg base N qual scope f cd A outer s H E).w) (cxOf (L2.CX P w) P w K mg base N qual scope f cd A outer s H E).A (cxOf (L2.CX P w) P w K mg base N qual scope f cd A outer s H E).env (cxOf (L2.CX P w) P w K mg base N qual scope f cd A outer s H E).xe := by
  exact passes_of (X := cxOf (L2.CX P w) P w K mg base N qual scope f cd A outer s H E) (K := fun e s'' => L2.CX P w outer H s E e s'') (E₁ := fun e s'' => L2.CX P w outer H s E e s'') rfl
end

/-! ### calls -/
section
variable {X : Cx} {T : TbT} {W : WX} {k : Nat} {f : Addr} {fd : FuncData} {ps : List Str} {sem : FS} {x : Str} {p pos : Pos} {e : Expr} {es : List Expr} {fs : AS}
def eCallA (n : Nat) (sem : FS) (fs : AS) : ES := fun env G => match fs env G with
  | .ok ds G1 => if ds.length = n then sem ds G1 else .bad
  | .ex c w G1 => .ex c w G1
  | .bad => .bad
theorem run_fnD {pins : List (Addr × Obj)} {σ : L2.St} {H : Hp} {s : Shared} {Q : VK} {us : List Value} {vs : List V} {ρ : List Addr} {G : Hh} {ds : List D} (F : FnD X.prog X.w X.K X.mg X.base T k f fd ps sem) (tk : Takes X W) (hr : Room k X.A) (hgd : X.A.guards = some []) (hb : Binds X.K fd ps [])
    (I : Inv X pins σ H s) (r : Vals vs us) (hl : ds.length = ps.length) (rg : RG X.K T ρ G H) (rs : Reps X.K H ρ ds vs) (h : PostE X T W σ ρ H (sem ds G) Q) : wpAny (model X.prog X.w) X.A (call (.ref f) us) (EP X pins σ Q) X.xe s := by
  have hl' : us.length = ps.length := by rw [← r.length, rs.length]; exact hl
  have h2 : PostF X.K T ρ H (sem ds G) Q (WE W σ) := by
    revert h
    cases sem ds G with
    | ok d G' => exact fun h => h
    | ex c w G' => exact fun h => h
    | bad => exact fun h => h
  have hbt := hb s us I.kIn (by simpa using hl')
  rw [List.append_nil] at hbt
  refine wpAny_call (codeAny_mono (F.run X.A X.stack s H ⟨us, []⟩ us vs Q (WE W σ) ρ G ds hr hgd I.env0 hbt r (by rw [rs.length]; exact hl) rg rs h2) fun r s' hq => ?_)
  cases r with
  | error e => exact passAt tk σ pins H s e s' I hq
  | ok fl =>
    cases fl with
    | ret u => exact I.after hq
    | next => exact False.elim hq
    | brk => exact False.elim hq
    | cont => exact False.elim hq
theorem de_callA (F : FnD X.prog X.w X.K X.mg X.base T k f fd ps sem) (tk : Takes X W) (hr : Room k X.A) (hgd : X.A.guards = some []) (hg : Gl X x) (hm : X.mg x = some (.ref f)) (hk : PySem.W.keepIn X.K (.ref f) = true) (hb : Binds X.K fd ps [])
    (ha : DA X T W (e :: es) fs) (hdb : (x == ("__debug__" : Str)) = false := by decide) (he : starEach (e :: es) X.env = (false, eval e X.env) :: starEach es X.env := by rfl) (hpl : (backTo pos (starEach es X.env)).any (·.1) = false := by rfl) :
    DE X T W (.Call (.Name x p) (e :: es) [] pos) (eCallA ps.length sem fs) := by
  refine ⟨fun pins s σ H Q I ⟨ρ, env, G, sr, q⟩ => ?_⟩
  refine wpAny_Call_Name_kw (ld_glob I hg hm ?_ hdb)
  unfold eCallA at q
  refine PySem.W.callWith_K (h₀ := X.base) I.ok.mod.kin hk (thn (ha.run pos pins s σ H (fun vs H1 => ∃ ρ1 G1 ds, ds.length = ps.length ∧ RG X.K T ρ1 G1 H1 ∧ Reps X.K H1 ρ1 ds vs ∧ PostE X T W σ ρ1 H1 (sem ds G1) Q) I ⟨ρ, env, G, sr, ?_⟩) fun us s1 ⟨vs, H1, I1, r, ρ1, G1, ds, hl, rg, rs, q1⟩ => ⟨I1.kIn, ?_⟩) he hpl
  · cases q2 : fs env G with
    | ok ds G1 =>
      rw [q2] at q
      dsimp only at q
      split at q
      · rename_i hl
        exact fun vs ρ1 H1 e1 rg1 rs => ⟨ρ1, G1, ds, hl, rg1, rs, PostE.ext e1 q⟩
      · exact q.elim
    | ex c w G1 => rw [q2] at q; exact q
    | bad => rw [q2] at q; exact q
  · exact run_fnD F tk hr hgd hb I1 r hl rg rs q1
end

/-! ### a def over its own objects alone -/
mutual
def clean : D → Bool
  | .ref _ => false
  | .mix xs => cleans xs
  | _ => true
def cleans : List D → Bool
  | [] => true
  | d :: ds => clean d && cleans ds
end
section
variable {K : PySem.W.Frag} {H H' : Hp} {ρ ρ' : List Addr}
mutual
theorem Rep.clean (kt : KT K H H') : ∀ (d : D) (v : V), clean d = true → Rep K H ρ d v → Rep K H' ρ' d v
  | .dat d, v, _, h => RepP.mono kt d v h
  | .ref l, v, c, h => by cases c
  | .obj _, _, _, h => h
  | .mix ds, v, c, h => by
    obtain ⟨a, vs, e, s, r⟩ := h
    exact ⟨a, vs, e, kt.1 a vs s, Reps.clean kt ds vs (by simpa [DL.clean] using c) r⟩
  | .fro ds, v, _, h => by
    obtain ⟨a, vs, e, s, r⟩ := h
    exact ⟨a, vs, e, kt.2 a vs s, RepPs.mono kt ds vs r⟩
  | .ty _, _, _, h => h
theorem Reps.clean (kt : KT K H H') : ∀ (ds : List D) (vs : List V), cleans ds = true → Reps K H ρ ds vs → Reps K H' ρ' ds vs
  | [], _, _, h => h
  | d :: ds, vs, c, h => by
    obtain ⟨v, r, e, h1, h2⟩ := h
    simp only [cleans, Bool.and_eq_true] at c
    exact ⟨v, r, e, Rep.clean kt d v c.1 h1, Reps.clean kt ds r c.2 h2⟩
end
theorem KT.refl : KT K H H := ⟨fun _ _ h => h, fun _ _ h => h⟩
end
/-- the objects that are handed over, in order -/
def refs : List D → List Nat
  | [] => []
  | .ref l :: r => l :: refs r
  | _ :: r => refs r
def renum : Nat → List D → List D
  | _, [] => []
  | k, .ref _ :: r => .ref k :: renum (k + 1) r
  | k, d :: r => d :: renum k r
/-- what is handed over by value is clean -/
def argsOk : List D → Bool
  | [] => true
  | .ref _ :: r => argsOk r
  | d :: r => clean d && argsOk r
def moClean : MO → Bool
  | .lst xs => cleans xs
def writeBack (G : Hh) : List Nat → Hh → Hh
  | l :: ls, m :: ms => writeBack (G.set l m) ls ms
  | _, _ => G
def pick (G : Hh) (ls : List Nat) : Hh := ls.map fun l => G.getD l (.lst [])
/-- what the callee's outcome is for the caller -/
noncomputable def relOut (G : Hh) (ls : List Nat) : RE → RE
  | .ok d G1 => if ls.length ≤ G1.length ∧ (G1.take ls.length).all moClean = true then
      (if clean d = true then .ok d (writeBack G ls G1) else
        match d with
        | .ref m => (match G1[m]? with
          | some mo => if ls.length ≤ m ∧ moClean mo = true then .ok (.ref G.length) (writeBack G ls G1 ++ [mo]) else .bad
          | none => .bad)
        | .mix [.dat x, .ref m] => (match G1[m]? with
          | some mo => if ls.length ≤ m ∧ moClean mo = true then .ok (.mix [.dat x, .ref G.length]) (writeBack G ls G1 ++ [mo]) else .bad
          | none => .bad)
        | _ => .bad) else .bad
  | .ex c w G1 => if ls.length ≤ G1.length ∧ (G1.take ls.length).all moClean = true ∧ clean w = true then .ex c w (writeBack G ls G1) else .bad
  | .bad => .bad
noncomputable def relCall (sem : FS) : FS := fun ds G =>
  if (refs ds).Nodup ∧ (∀ l ∈ refs ds, l < G.length) ∧ argsOk ds = true ∧ (pick G (refs ds)).all moClean = true then relOut G (refs ds) (sem (renum 0 ds) (pick G (refs ds))) else .bad
section
variable {P : Program} {w : World} {K : PySem.W.Frag} {mg : Str → Option Value} {base : Heap} {T : TbT} {k : Nat} {f : Addr} {fd : FuncData} {ps : List Str} {sem : FS}
theorem writeBack_length : ∀ (ls : List Nat) (G M : Hh), (writeBack G ls M).length = G.length
  | [], G, M => by cases M <;> rfl
  | l :: ls, G, [] => rfl
  | l :: ls, G, m :: ms => by
    show (writeBack (G.set l m) ls ms).length = _
    rw [writeBack_length ls]; simp
theorem writeBack_other : ∀ {ls : List Nat} {G M : Hh} {j : Nat}, j ∉ ls → (writeBack G ls M)[j]? = G[j]?
  | [], G, M, j, _ => by cases M <;> rfl
  | l :: ls, G, [], j, _ => rfl
  | l :: ls, G, m :: ms, j, h => by
    show (writeBack (G.set l m) ls ms)[j]? = _
    rw [writeBack_other (fun z => h (List.mem_cons_of_mem _ z)), List.getElem?_set_ne (fun z => h (by rw [z]; exact List.mem_cons_self))]
theorem writeBack_at : ∀ {ls : List Nat} {G M : Hh} {i l : Nat}, ls.Nodup → ls.length ≤ M.length → (∀ l ∈ ls, l < G.length) → ls[i]? = some l → (writeBack G ls M)[l]? = M[i]?
  | [], _, _, _, _, _, _, _, e => by simp at e
  | l :: ls, G, [], i, j, _, h, _, _ => by simp at h
  | l :: ls, G, m :: ms, 0, j, nd, h, hG, e => by
    have e : l = j := by simpa using e
    subst e
    show (writeBack (G.set l m) ls ms)[l]? = some m
    rw [writeBack_other (List.nodup_cons.mp nd).1, List.getElem?_set_self (hG l List.mem_cons_self)]
  | l :: ls, G, m :: ms, i + 1, j, nd, h, hG, e => by
    show (writeBack (G.set l m) ls ms)[j]? = ms[i]?
    exact writeBack_at (List.nodup_cons.mp nd).2 (by simpa using h) (fun q hq => by simpa using hG q (List.mem_cons_of_mem _ hq)) (by simpa using e)
theorem refs_addr {ρ : List Addr} {H : Hp} : ∀ {ds : List D} {vs : List V}, Reps K H ρ ds vs → ∀ l ∈ refs ds, ∃ a, ρ[l]? = some a
  | [], _, _, l, hl => by simp [refs] at hl
  | .ref m :: ds, _, h, l, hl => by
    obtain ⟨v, r, rfl, ⟨a, ha, _⟩, h2⟩ := h
    rcases List.mem_cons.mp hl with e | hl
    · exact ⟨a, by rw [e]; exact ha⟩
    · exact refs_addr h2 l hl
  | .dat _ :: ds, _, h, l, hl => by obtain ⟨v, r, rfl, _, h2⟩ := h; exact refs_addr h2 l hl
  | .obj _ :: ds, _, h, l, hl => by obtain ⟨v, r, rfl, _, h2⟩ := h; exact refs_addr h2 l hl
  | .mix _ :: ds, _, h, l, hl => by obtain ⟨v, r, rfl, _, h2⟩ := h; exact refs_addr h2 l hl
  | .fro _ :: ds, _, h, l, hl => by obtain ⟨v, r, rfl, _, h2⟩ := h; exact refs_addr h2 l hl
  | .ty _ :: ds, _, h, l, hl => by obtain ⟨v, r, rfl, _, h2⟩ := h; exact refs_addr h2 l hl
/-- the addresses of some objects -/
def addrs (ρ : List Addr) (ls : List Nat) : List Addr := ls.map fun l => ρ.getD l 0
theorem addrs_get {ρ : List Addr} {ls : List Nat} {i l : Nat} (h : ls[i]? = some l) (hl : l < ρ.length) : (addrs ρ ls)[i]? = ρ[l]? := by
  unfold addrs
  rw [List.getElem?_map, h]
  simp [List.getD, List.getElem?_eq_getElem hl]
theorem reps_renum {ρ ρs : List Addr} {H : Hp} : ∀ {ds : List D} {vs : List V} {k : Nat}, Reps K H ρ ds vs → argsOk ds = true → (∀ i l, (refs ds)[i]? = some l → ρs[k + i]? = ρ[l]?) → Reps K H ρs (renum k ds) vs
  | [], _, _, h, _, _ => h
  | .ref m :: ds, _, k, h, c, hs => by
    obtain ⟨v, r, rfl, ⟨a, ha, hv⟩, h2⟩ := h
    have := hs 0 m rfl
    refine ⟨v, r, rfl, ⟨a, by rw [Nat.add_zero] at this; rw [this]; exact ha, hv⟩, reps_renum h2 (by simpa [argsOk] using c) fun i l hi => ?_⟩
    have q := hs (i + 1) l (by simpa [refs] using hi)
    rw [← q]; congr 1; omega
  | .dat _ :: ds, _, k, h, c, hs => by
    obtain ⟨v, r, rfl, h1, h2⟩ := h
    simp only [argsOk, Bool.and_eq_true] at c
    exact ⟨v, r, rfl, Rep.clean KT.refl _ _ c.1 h1, reps_renum h2 c.2 hs⟩
  | .obj _ :: ds, _, k, h, c, hs => by
    obtain ⟨v, r, rfl, h1, h2⟩ := h
    simp only [argsOk, Bool.and_eq_true] at c
    exact ⟨v, r, rfl, Rep.clean KT.refl _ _ c.1 h1, reps_renum h2 c.2 hs⟩
  | .mix _ :: ds, _, k, h, c, hs => by
    obtain ⟨v, r, rfl, h1, h2⟩ := h
    simp only [argsOk, Bool.and_eq_true] at c
    exact ⟨v, r, rfl, Rep.clean KT.refl _ _ c.1 h1, reps_renum h2 c.2 hs⟩
  | .fro _ :: ds, _, k, h, c, hs => by
    obtain ⟨v, r, rfl, h1, h2⟩ := h
    simp only [argsOk, Bool.and_eq_true] at c
    exact ⟨v, r, rfl, Rep.clean KT.refl _ _ c.1 h1, reps_renum h2 c.2 hs⟩
  | .ty _ :: ds, _, k, h, c, hs => by
    obtain ⟨v, r, rfl, h1, h2⟩ := h
    simp only [argsOk, Bool.and_eq_true] at c
    exact ⟨v, r, rfl, Rep.clean KT.refl _ _ c.1 h1, reps_renum h2 c.2 hs⟩
theorem renum_length : ∀ (k : Nat) (ds : List D), (renum k ds).length = ds.length
  | _, [] => rfl
  | k, .ref _ :: r => by simp [renum, renum_length]
  | k, .dat _ :: r => by simp [renum, renum_length]
  | k, .obj _ :: r => by simp [renum, renum_length]
  | k, .mix _ :: r => by simp [renum, renum_length]
  | k, .fro _ :: r => by simp [renum, renum_length]
  | k, .ty _ :: r => by simp [renum, renum_length]
/-- from the callee's objects back to the caller's -/
theorem rel_back {ρ ρs ρ' : List Addr} {G G1 : Hh} {H H' : Hp} {ls : List Nat} (rg : RG K T ρ G H) (hs : ρs = addrs ρ ls) (nd : ls.Nodup) (hlt : ∀ l ∈ ls, l < G.length) (hlen : ls.length ≤ G1.length) (hc : (G1.take ls.length).all moClean = true)
    (kt : KT K H H') (e : Ext ρs H ρ' H') (rg' : RG K T ρ' G1 H') : Ext ρ H ρ H' ∧ RG K T ρ (writeBack G ls G1) H' := by
  have sub : ∀ b, b ∈ ρs → b ∈ ρ := fun b hb => by
    rw [hs] at hb
    obtain ⟨l, hl, rfl⟩ := List.mem_map.mp hb
    have := hlt l hl
    rw [rg.len] at this
    rw [show ρ.getD l 0 = ρ[l] from by simp [List.getD, List.getElem?_eq_getElem this]]
    exact List.getElem_mem this
  have hat : ∀ {i l : Nat}, ls[i]? = some l → ρs[i]? = ρ[l]? := fun {i l} hi => by
    rw [hs]
    exact addrs_get hi (by rw [← rg.len]; exact hlt l (List.mem_of_getElem? hi))
  have E0 : Ext ρ H ρ H' := ⟨⟨[], by simp, by simp⟩, fun b o h nb t => e.keep b o h (fun z => nb (sub b z)) t, e.tbl, e.back⟩
  refine ⟨E0, rg.nd, by rw [writeBack_length]; exact rg.len, fun l a mo h1 h2 => ?_, rg'.tab⟩
  by_cases hl : l ∈ ls
  · obtain ⟨i, hi, ei⟩ := List.getElem_of_mem hl
    have hi' : ls[i]? = some l := by rw [List.getElem?_eq_getElem hi, ei]
    rw [writeBack_at nd hlen hlt hi'] at h2
    have ha : ρ'[i]? = some a := e.kr i a (by rw [hat hi']; exact h1)
    have g := rg'.ok i a mo ha h2
    cases mo with
    | lst xs =>
      obtain ⟨vs, hv, rs⟩ := g
      have hcl : moClean (.lst xs) = true := by
        refine List.all_eq_true.mp hc _ ?_
        refine List.mem_of_getElem? (i := i) ?_
        rw [List.getElem?_take_of_lt hi]; exact h2
      exact ⟨vs, hv, Reps.clean KT.refl xs vs hcl rs⟩
  · rw [writeBack_other hl] at h2
    have g := rg.ok l a mo h1 h2
    cases mo with
    | lst xs =>
      obtain ⟨vs, hv, rs⟩ := g
      refine ⟨vs, e.keep a _ hv (fun hm => ?_) (fun _ z => nomatch z), Reps.mono kt (fun _ _ q => q) xs vs rs⟩
      rw [hs] at hm
      obtain ⟨j, hj, ej⟩ := List.mem_map.mp hm
      have hjl := hlt j hj
      rw [rg.len] at hjl
      rw [show ρ.getD j 0 = ρ[j] from by simp [List.getD, List.getElem?_eq_getElem hjl]] at ej
      obtain ⟨p2, q2⟩ := List.getElem?_eq_some_iff.mp h1
      have : j = l := (List.getElem_inj rg.nd).mp (ej.trans q2.symm)
      exact hl (this ▸ hj)
/-- one object of the callee's own comes along -/
theorem rel_fresh {ρ ρs ρ' : List Addr} {G G1 : Hh} {H H' : Hp} {ls : List Nat} {m : Nat} {mo : MO} {a : Addr} (rg : RG K T ρ G H) (hs : ρs = addrs ρ ls) (e1 : Ext ρs H ρ' H') (rg1 : RG K T ρ' G1 H') (e2 : Ext ρ H ρ H') (rg2 : RG K T ρ (writeBack G ls G1) H')
    (ha : ρ'[m]? = some a) (hm : G1[m]? = some mo) (hm2 : ls.length ≤ m ∧ moClean mo = true) : Ext ρ H (ρ ++ [a]) H' ∧ RG K T (ρ ++ [a]) (writeBack G ls G1 ++ [mo]) H' := by
  have g := rg1.ok m a mo ha hm
  cases mo with
  | lst xs =>
    obtain ⟨ws, hw, rr⟩ := g
    obtain ⟨more, em, fm⟩ := e1.pre
    have hfresh : H a = none := by
      rw [em, hs, List.getElem?_append_right (by simp [addrs]; exact hm2.1)] at ha
      exact fm a (List.mem_of_getElem? ha)
    have na : a ∉ ρ := fun hmem => by
      obtain ⟨l, hl', el⟩ := List.getElem_of_mem hmem
      have hlG : l < G.length := by rw [rg.len]; exact hl'
      have g2 := rg.ok l a G[l] (by rw [List.getElem?_eq_getElem hl', el]) (List.getElem?_eq_getElem hlG)
      cases q : G[l] with
      | lst ys =>
        rw [q] at g2
        obtain ⟨zs, hz, _⟩ := g2
        rw [hfresh] at hz; cases hz
    have e3 : Ext ρ H (ρ ++ [a]) H' := ⟨⟨[a], rfl, fun b hb => by simp at hb; subst hb; exact hfresh⟩, e2.keep, e2.tbl, e2.back⟩
    refine ⟨e3, ?_, by simp [writeBack_length, rg.len], fun l b mo h1 h2 => ?_, rg2.tab⟩
    · rw [List.nodup_append]
      exact ⟨rg.nd, by simp, fun x hx y hy => by simp at hy; subst hy; rintro rfl; exact na hx⟩
    · by_cases hll : l < ρ.length
      · rw [List.getElem?_append_left hll] at h1
        rw [List.getElem?_append_left (by rw [writeBack_length, rg.len]; exact hll)] at h2
        have g3 := rg2.ok l b mo h1 h2
        cases mo with
        | lst ys =>
          obtain ⟨zs, hz, rz⟩ := g3
          exact ⟨zs, hz, Reps.mono KT.refl (fun i c hc => by rw [List.getElem?_append_left (List.getElem?_eq_some_iff.mp hc).1]; exact hc) ys zs rz⟩
      · have e5 : l = ρ.length := by
          have := (List.getElem?_eq_some_iff.mp h1).1
          simp at this; omega
        subst e5
        rw [List.getElem?_append_right (Nat.le_refl _), Nat.sub_self] at h1
        rw [List.getElem?_append_right (by rw [writeBack_length, rg.len]; exact Nat.le_refl _), writeBack_length, rg.len, Nat.sub_self] at h2
        simp at h1 h2
        subst h1; subst h2
        exact ⟨ws, hw, Reps.clean KT.refl xs ws hm2.2 rr⟩
theorem FnD.rel (F : FnD P w K mg base T k f fd ps sem) : FnD P w K mg base T k f fd ps (relCall sem) := by
  refine ⟨fun A outer s H args us vs Q E ρ G ds hr hgd e0 hb r hl rg rs hsp => ?_⟩
  unfold relCall at hsp
  split at hsp
  · rename_i hc
    obtain ⟨nd, hlt, hao, hcl⟩ := hc
    have hget : ∀ {i l : Nat}, (refs ds)[i]? = some l → (addrs ρ (refs ds))[i]? = ρ[l]? := fun {i l} hi => addrs_get hi (by rw [← rg.len]; exact hlt l (List.mem_of_getElem? hi))
    have ndS : (addrs ρ (refs ds)).Nodup := by
      unfold addrs
      rw [List.nodup_iff_pairwise_ne, List.pairwise_map]
      refine List.Pairwise.imp_of_mem ?_ (List.nodup_iff_pairwise_ne.mp nd)
      intro a b ha hb hab z
      have h1 := hlt a ha
      have h2 := hlt b hb
      rw [rg.len] at h1 h2
      rw [show ρ.getD a 0 = ρ[a] from by simp [List.getD, List.getElem?_eq_getElem h1], show ρ.getD b 0 = ρ[b] from by simp [List.getD, List.getElem?_eq_getElem h2]] at z
      exact hab ((List.getElem_inj rg.nd).mp z)
    have rgS : RG K T (addrs ρ (refs ds)) (pick G (refs ds)) H := by
      refine ⟨ndS, by simp [addrs, pick], fun i a mo h1 h2 => ?_, rg.tab⟩
      unfold pick at h2
      rw [List.getElem?_map, Option.map_eq_some_iff] at h2
      obtain ⟨l, hl', rfl⟩ := h2
      rw [hget hl'] at h1
      have hlG := hlt l (List.mem_of_getElem? hl')
      have hG : G[l]? = some (G.getD l (.lst [])) := by simp [List.getD, List.getElem?_eq_getElem hlG]
      have g := rg.ok l a _ h1 hG
      have hcm : moClean (G.getD l (.lst [])) = true := List.all_eq_true.mp hcl _ (List.mem_map.mpr ⟨l, List.mem_of_getElem? hl', rfl⟩)
      cases q : G.getD l (.lst []) with
      | lst xs =>
        rw [q] at g hcm
        obtain ⟨ws, hw, rr⟩ := g
        exact ⟨ws, hw, Reps.clean KT.refl xs ws hcm rr⟩
    refine F.run A outer s H args us vs Q E _ _ (renum 0 ds) hr hgd e0 hb r hl rgS (reps_renum rs hao fun i l hi => by rw [Nat.zero_add]; exact hget hi) ?_
    unfold relOut at hsp
    split at hsp
    · rename_i d G1 e
      rw [e]
      split at hsp
      · rename_i hh
        intro v ρ' H' e1 rg1 r1
        have kt := e1.kt rgS
        obtain ⟨e2, rg2⟩ := rel_back rg rfl nd hlt hh.1 hh.2 kt e1 rg1
        split at hsp
        · rename_i hcd
          exact hsp v ρ H' e2 rg2 (Rep.clean KT.refl d v hcd r1)
        · rename_i hcd
          split at hsp
          · rename_i m
            split at hsp
            · rename_i mo hm
              split at hsp
              · rename_i hm2
                obtain ⟨a, ha, rfl⟩ := r1
                obtain ⟨e3, rg3⟩ := rel_fresh rg rfl e1 rg1 e2 rg2 ha hm hm2
                exact hsp (.ref a) (ρ ++ [a]) H' e3 rg3 ⟨a, by rw [rg.len]; simp, rfl⟩
              · exact hsp.elim
            · exact hsp.elim
          · rename_i x m
            split at hsp
            · rename_i mo hm
              split at hsp
              · rename_i hm2
                obtain ⟨b, vs, rfl, sq, v1, r, rfl, rx, v2, r2, rfl, ⟨a, ha, rfl⟩, rn⟩ := r1
                have rn : r2 = [] := rn
                subst rn
                obtain ⟨e3, rg3⟩ := rel_fresh rg rfl e1 rg1 e2 rg2 ha hm hm2
                exact hsp (.ref b) (ρ ++ [a]) H' e3 rg3 ⟨b, _, rfl, sq, v1, _, rfl, rx, .ref a, [], rfl, ⟨a, by rw [rg.len]; simp, rfl⟩, rfl⟩
              · exact hsp.elim
            · exact hsp.elim
          · exact hsp.elim
      · exact hsp.elim
    · rename_i c w G1 e
      rw [e]
      split at hsp
      · rename_i hh
        intro ρ' H' dd vw e1 rg1 hd r1
        have kt := e1.kt rgS
        obtain ⟨e2, rg2⟩ := rel_back rg rfl nd hlt hh.1 hh.2.1 kt e1 rg1
        exact hsp ρ H' dd vw e2 rg2 hd (Rep.clean KT.refl w vw hh.2.2 r1)
      · exact hsp.elim
    · exact hsp.elim
  · exact hsp.elim
end
end DL

set_option Elab.async false
set_option linter.all false
set_option maxRecDepth 100000
set_option maxHeartbeats 1000000
namespace DL
open PySem PySem.Spec PyProof.Rows L2
open Classical

/-! ### exceptions that are made -/
/-- __init__(self, what) of the errors -/
def spXI (C : Addr) (nm : Str) : Sp := fun vs H Q _ => ∃ (a : Addr) (y : V), vs = [.ref a, y] ∧ H a = some (exo a C none) ∧ ∀ dx, H dx = none → dx ≠ a → Q .non (upd (upd (upd H dx (exd dx [("what", y)])) a (exo a C (some dx))) dx (exd dx [("name", .str nm), ("what", y)]))
/-- how an error is made: its class at C, its __init__ at fI -/
structure Mk (P : Program) (w : World) (K : PySem.W.Frag) (mg : Str → Option Value) (base : Heap) (C fI : Addr) (fd : FuncData) : Prop where
  o : OexC K C
  iC : PySem.W.findIn K (.ref C) "__init__" = some (some (.ref fI))
  tI : PySem.W.typeIn K (.ref fI) = some (.type "function")
  nm : ∃ nm : Str, clsNm K C = some nm ∧ FnOk P w K mg base (L2.CX P w) 1 fI fd ["self", "what"] (spXI C nm)
  bd : Binds K fd ["self", "what"] []
def sRaise (C : Addr) (f : ES) : SS := fun env G => match f env G with
  | .ok w G1 => .ex C w env G1
  | .ex c w G1 => .ex c w env G1
  | .bad => .bad
theorem passes_no {P : Program} {w : World} {X : Cx} : Passes (L2.CX P w) X (fun _ _ _ => False) := fun _ _ _ _ _ _ _ ⟨_, _, _, _, _, _, _, _, _, _, _, _, z⟩ => z.elim
section
variable {X : Cx} {T : TbT} {W : WX} {C fI : Addr} {fd : FuncData} {x : Str} {p pos pos' : Pos} {e : Expr} {fe : ES}
theorem ds_raise (M : Mk X.prog X.w X.K X.mg X.base C fI fd) (hc : X.calm = true) (tk : Takes X W) (hr : Room 2 X.A) (hg : Gl X x) (hm : X.mg x = some (.ref C)) (he : DE X T W e fe)
    (hdb : (x == ("__debug__" : Str)) = false := by decide) (hs : starEach (e :: []) X.env = (false, eval e X.env) :: starEach [] X.env := by rfl) (hpl : (backTo pos (starEach [] X.env)).any (·.1) = false := by rfl) :
    DS X T W (.Raise (some (.Call (.Name x p) [e] [] pos)) none pos') (sRaise C fe) := by
  obtain ⟨nm, hnm, fn⟩ := M.nm
  exact PS_imp (ps_raise hc tk (pmk_oex (dvs := []) (ds := []) M.o M.iC M.tI fn hr M.bd .nil passes_no hg hm (da_cons he da_nil hs) hdb hs hpl)) fun E σ H ⟨ρ, env, G, sr, q⟩ => by
    refine ⟨ρ, env, G, sr, ?_⟩
    unfold sRaise at q
    unfold aCons
    cases h : fe env G with
    | ok w G1 =>
      rw [h] at q
      dsimp only [aNil]
      intro vs ρ1 H1 e1 rg1 rs
      obtain ⟨v, t, rfl, rv, rn⟩ := rs
      have rn : t = [] := rn
      subst rn
      refine ⟨by simp, fun a ha => ⟨a, v, rfl, upd_same, fun dx hd hda => ⟨rfl, dx, _, by rw [upd_ne (Ne.symm hda), upd_same], upd_same, ?_, ?_⟩⟩⟩
      · rw [upd_ne hda] at hd
        exact hd
      · rw [upd_ne hda] at hd
        have eq : ∀ (fs : List (Str × V)) (o1 o2 o3 o4 : HO), upd (del (upd (upd (upd (upd H1 a o1) dx o2) a o3) dx o4) a) dx (.xd fs) = upd H1 dx (.xd fs) := fun fs o1 o2 o3 o4 => by
          funext b
          by_cases h1 : b = dx
          · rw [h1, upd_same, upd_same]
          · rw [upd_ne h1, upd_ne h1]
            by_cases h2 : b = a
            · rw [h2, del_same]; exact ha.symm
            · rw [del_ne h2, upd_ne h1, upd_ne h2, upd_ne h1, upd_ne h2]
        rw [eq]
        exact q σ ρ1 _ dx v (e1.trans (ext_new hd)) ⟨rg1.ext_same hd, (ext_new hd).envr rg1 (e1.envr sr.rg sr.ev)⟩ ⟨nm, hnm, upd_same⟩ ((ext_new hd).rep rg1 rv)
    | ex c w G1 => rw [h] at q; exact PostS.exE sr q
    | bad => rw [h] at q; exact q
end
/-- the errors' own __init__: ValueError.__init__(self, what); self.what = what; self.name = self.__class__.__name__ -/
def tXI (K : PySem.W.Frag) : TS := tSeq (tDrop (tVeI K (tCons (tVar 0) (tCons (tVar 1) tNil)))) (tSeq (tOst K "what" (tVar 0) (tVar 1)) (tOst K "name" (tVar 0) (tCn K (tVar 0))))
section
variable {P : Program} {w : World} {K : PySem.W.Frag} {mg : Str → Option Value} {base : Heap} {C f : Addr} {fd : FuncData} {st : Stmt} {x qual : Str}
theorem init_ok (F : Fun K x qual st f fd) (S : FnScope ["self", "what"] ["self", "what"] (defScope st)) (o : OexC K C) (no : PySem.W.findIn K (.ref C) "what" = some none) (no2 : PySem.W.findIn K (.ref C) "name" = some none) {nm : Str} (N : NmC K C nm)
    (hb : ∀ (cdv : Value) (A : Around) (outer : List Env) (s : Shared) (H : Hp) (E : XK), PSs (cxOf (L2.CX P w) P w K mg base ["self", "what"] qual (defScope st) f cdv A outer s H E) (defBody st) (tXI K)) :
    FnOk P w K mg base (L2.CX P w) 1 f fd ["self", "what"] (spXI C nm) := by
  refine F.okX S (fun vs H Q E h => ?_) (fun cdv A outer s H vs Q E hr h => ⟨tXI K, hb cdv A outer s H E, ?_⟩)
  · obtain ⟨a, y, rfl, _⟩ := h
    rfl
  · obtain ⟨a, y, rfl, ha, q⟩ := h
    refine ⟨_, rfl, _, rfl, a, C, [y], rfl, by simp, o, ha, ?_⟩
    refine ⟨_, rfl, _, rfl, a, C, rfl, o, no, .inl ⟨ha, fun dx hd hne => ?_⟩⟩
    refine ⟨_, rfl, a, C, dx, _, nm, rfl, N, upd_same, by rw [upd_ne hne, upd_same], ?_⟩
    exact ⟨_, rfl, a, C, rfl, o, no2, .inr ⟨dx, _, upd_same, by rw [upd_ne hne, upd_same], by simp, q dx hd hne⟩⟩
end

/-! ### exceptions that are caught -/
def Sl.cut : Sl → Sl
  | .exc _ _ => .no
  | s => s
abbrev cutX (env : Env') : Env' := env.map Sl.cut
section
variable {K : PySem.W.Frag} {pn pn' : List (Addr × Obj)} {H : Hp} {ρ : List Addr} {env : Env'} {σ : L2.St}
theorem EnvR.cut (h : EnvR K pn H ρ env σ) : EnvR K pn' H ρ (cutX env) σ := by
  refine ⟨by simp [h.len], fun i s hi => ?_⟩
  rw [List.getElem?_map, Option.map_eq_some_iff] at hi
  obtain ⟨t, ht, rfl⟩ := hi
  obtain ⟨ov, h1, h2⟩ := h.ok i t ht
  refine ⟨ov, h1, ?_⟩
  cases t with
  | no => trivial
  | d x => exact h2
  | exc c w => trivial
  | clo C => exact h2
end
/-- the suite of an except clause, slot i being its name's -/
def sSuite (i : Nat) (fs : SS) (c : Addr) (w : D) : SS := fun env G => if i < env.length then match fs ((cutX env).set i (.exc c w)) G with
  | .nx env2 G2 => .nx ((cutX env2).set i .no) G2
  | .bk env2 G2 => .bk ((cutX env2).set i .no) G2
  | .ct env2 G2 => .ct ((cutX env2).set i .no) G2
  | .rt d G2 => .rt d G2
  | _ => .bad
  else .bad
/-- .. without a name -/
def sSuite0 (fs : SS) : SS := fun env G => match fs (cutX env) G with
  | .nx env2 G2 => .nx (cutX env2) G2
  | .bk env2 G2 => .bk (cutX env2) G2
  | .ct env2 G2 => .ct (cutX env2) G2
  | .rt d G2 => .rt d G2
  | _ => .bad
/-- what the body of a try leaves -/
def RS.cut : RS → RS
  | .nx env G => .nx (cutX env) G
  | .bk env G => .bk (cutX env) G
  | .ct env G => .ct (cutX env) G
  | .ex c w env G => .ex c w (cutX env) G
  | r => r
def sTry (fb : SS) (h : Addr → D → SS) : SS := fun env G => match (fb (cutX env) G).cut with
  | .ex c w env1 G1 => h c w env1 G1
  | r => r
/-- one clause: m tells which errors it catches -/
def hOne (m : Addr → Option Bool) (suite : Addr → D → SS) : Addr → D → SS := fun c w env G => match m c with
  | some true => suite c w env G
  | some false => .ex c w env G
  | none => .bad
/-- PostS without pins -/
def Post0 (K : PySem.W.Frag) (T : TbT) (W : WX) (ρ : List Addr) (H : Hp) (r : RS) (E : Ends) : Prop :=
  match r with
  | .nx env' G' => ∀ σ' ρ' H', Ext ρ H ρ' H' → RG K T ρ' G' H' → EnvR K [] H' ρ' env' σ' → E.nx σ' H'
  | .rt d G' => ∀ v ρ' H', Ext ρ H ρ' H' → RG K T ρ' G' H' → Rep K H' ρ' d v → E.rt v H'
  | .bk env' G' => ∀ σ' ρ' H', Ext ρ H ρ' H' → RG K T ρ' G' H' → EnvR K [] H' ρ' env' σ' → E.bk σ' H'
  | .ct env' G' => ∀ σ' ρ' H', Ext ρ H ρ' H' → RG K T ρ' G' H' → EnvR K [] H' ρ' env' σ' → E.ct σ' H'
  | .ex c w env' G' => ∀ σ' ρ' H' dd vw, Ext ρ H ρ' H' → RG K T ρ' G' H' → EnvR K [] H' ρ' env' σ' → Xd K c H' dd vw → Rep K H' ρ' w vw → W (.ref c) (some dd) σ' H'
  | .bad => False
theorem cut_cut {env : Env'} : cutX (cutX env) = cutX env := by
  unfold cutX
  rw [List.map_map]
  congr 1
  funext s
  cases s <;> rfl
theorem EnvR.cut' {K : PySem.W.Frag} {pn pn' : List (Addr × Obj)} {H : Hp} {ρ : List Addr} {env : Env'} {σ : L2.St} (h : EnvR K pn H ρ (cutX env) σ) : EnvR K pn' H ρ (cutX env) σ := by
  have := h.cut (pn' := pn')
  rwa [cut_cut] at this
section
variable {X : Cx} {T : TbT} {W : WX} {ρ : List Addr} {H : Hp} {r : RS} {E : Ends}
theorem post_of0 (q : Post0 X.K T W ρ H r.cut E) : PostS X T W ρ H r E := by
  cases r with
  | nx env1 G1 => exact fun σ' ρ' H' e sr => q σ' ρ' H' e sr.rg sr.ev.cut
  | bk env1 G1 => exact fun σ' ρ' H' e sr => q σ' ρ' H' e sr.rg sr.ev.cut
  | ct env1 G1 => exact fun σ' ρ' H' e sr => q σ' ρ' H' e sr.rg sr.ev.cut
  | rt d G1 => exact q
  | ex c w env1 G1 => exact fun σ' ρ' H' dd vw e sr => q σ' ρ' H' dd vw e sr.rg sr.ev.cut
  | bad => exact q
theorem Post0.ext {ρ1 : List Addr} {H1 : Hp} (e : Ext ρ H ρ1 H1) (h : Post0 X.K T W ρ H r E) : Post0 X.K T W ρ1 H1 r E := by
  cases r with
  | nx env G => exact fun σ' ρ' H' e1 => h σ' ρ' H' (e.trans e1)
  | bk env G => exact fun σ' ρ' H' e1 => h σ' ρ' H' (e.trans e1)
  | ct env G => exact fun σ' ρ' H' e1 => h σ' ρ' H' (e.trans e1)
  | rt d G => exact fun v ρ' H' e1 => h v ρ' H' (e.trans e1)
  | ex c w env G => exact fun σ' ρ' H' dd vw e1 => h σ' ρ' H' dd vw (e.trans e1)
  | bad => exact h
end
section
variable {X : Cx} {T : TbT} {W : WX} {x n : Str} {C : Value} {i : Nat} {body suite : List Stmt} {b₀ : Stmt} {np pos pos' : Pos} {fb fs : SS} {m : Addr → Option Bool}
theorem takes_false {X : Cx} : Takes X (fun _ _ _ _ => False) := takes0
/-- the body's reading, whatever the pins -/
def tTry (K : PySem.W.Frag) (T : TbT) (fb : SS) (W : WX) : TS := fun E σ H => ∃ ρ env G, RG K T ρ G H ∧ EnvR K [] H ρ (cutX env) σ ∧ Post0 K T W ρ H (fb (cutX env) G).cut E
theorem tTry_ok {pn : List (Addr × Obj)} {xe : Value → Shared → Prop} (hb : DSs (X.tr pn xe) T W body fb) : PSs (X.tr pn xe) body (tTry X.K T fb W) :=
  PSs_imp hb fun E σ H ⟨ρ, env, G, rg, ev, q⟩ => ⟨ρ, cutX env, G, ⟨rg, ev.cut'⟩, post_of0 q⟩
/-- the suite's reading -/
def tSuite (K : PySem.W.Frag) (T : TbT) (i : Nat) (fs : SS) : Addr → Value → Option Addr → TS := fun a cls d E σ H => ∃ ρ env G c w dd vw, cls = .ref c ∧ d = some dd ∧ Xd K c H dd vw ∧ Rep K H ρ w vw ∧ RG K T ρ G H ∧ EnvR K [] H ρ ((cutX env).set i .no) σ ∧
  σ[i]? = some (some (.ref a)) ∧ Post0 K T (fun _ _ _ _ => False) ρ H (fs ((cutX env).set i (.exc c w)) G).cut E
def tSuite0 (K : PySem.W.Frag) (T : TbT) (fs : SS) : Addr → Value → Option Addr → TS := fun a cls d E σ H => ∃ ρ env G, RG K T ρ G H ∧ EnvR K [] H ρ (cutX env) σ ∧
  Post0 K T (fun _ _ _ _ => False) ρ H (fs (cutX env) G).cut E
theorem suite_ok {a : Addr} {oe : Obj} {pn : List (Addr × Obj)} {cls : Value} {d : Option Addr} (hsu : DSs (X.suite a ((a, oe) :: pn)) T (fun _ _ _ _ => False) suite fs) (hz : Zc cls d oe) (hf : ∃ vs, oe.data = .fields vs) : PSs (X.suite a ((a, oe) :: pn)) suite (tSuite X.K T i fs a cls d) :=
  PSs_imp hsu fun E σ H ⟨ρ, env, G, c, w, dd, vw, ec, ed, hd, rw', rg, ev, ha, q⟩ => by
    subst ec; subst ed
    refine ⟨ρ, (cutX env).set i (.exc c w), G, ⟨rg, ⟨by have := ev.len; simpa using this, fun j s hj => ?_⟩⟩, post_of0 q⟩
    by_cases e : i = j
    · subst e
      have hl : i < (cutX env).length := by
        have := (List.getElem?_eq_some_iff.mp hj).1
        simpa using this
      rw [List.getElem?_set_self hl] at hj
      cases hj
      exact ⟨some (.ref a), ha, a, oe, dd, vw, rfl, List.mem_cons_self, hz, hf, hd, rw'⟩
    · rw [List.getElem?_set_ne e] at hj
      have h2 := ev.cut (pn' := (a, oe) :: pn)
      obtain ⟨ov, h3, h4⟩ := h2.ok j s (by
        rw [List.getElem?_map, List.getElem?_set_ne e, hj]
        show some (Sl.cut s) = some s
        rw [List.getElem?_map, Option.map_eq_some_iff] at hj
        obtain ⟨t, _, rfl⟩ := hj
        cases t <;> rfl)
      exact ⟨ov, h3, h4⟩
theorem suite_ok0 {a : Addr} {oe : Obj} {pn : List (Addr × Obj)} {cls : Value} {d : Option Addr} (hsu : DSs (X.suite a ((a, oe) :: pn)) T (fun _ _ _ _ => False) suite fs) : PSs (X.suite a ((a, oe) :: pn)) suite (tSuite0 X.K T fs a cls d) :=
  PSs_imp hsu fun E σ H ⟨ρ, env, G, rg, ev, q⟩ => ⟨ρ, cutX env, G, ⟨rg, ev.cut'⟩, post_of0 q⟩
/-- behind a suite -/
theorem suite0_post {ρ : List Addr} {H : Hp} {env : Env'} {G : Hh} {E : Ends} {c : Addr} {w : D} (q : PostS X T W ρ H (sSuite0 fs (cutX env) G) E) : Post0 X.K T (fun _ _ _ _ => False) ρ H (fs (cutX env) G).cut E := by
  unfold sSuite0 at q
  rw [cut_cut] at q
  revert q
  cases fs (cutX env) G with
  | nx env1 G1 => exact fun q σ' ρ' H' e rg ev => q σ' ρ' H' e ⟨rg, ev.cut'⟩
  | bk env1 G1 => exact fun q σ' ρ' H' e rg ev => q σ' ρ' H' e ⟨rg, ev.cut'⟩
  | ct env1 G1 => exact fun q σ' ρ' H' e rg ev => q σ' ρ' H' e ⟨rg, ev.cut'⟩
  | rt d G1 => exact fun q => q
  | ex c w env1 G1 => exact fun q => q.elim
  | bad => exact fun q => q
theorem suite_post {ρ : List Addr} {H : Hp} {env : Env'} {G : Hh} {E : Ends} {c : Addr} {w : D} (q : PostS X T W ρ H (sSuite i fs c w (cutX env) G) E) :
    Post0 X.K T (fun _ _ _ _ => False) ρ H (fs ((cutX env).set i (.exc c w)) G).cut { nx := fun σ' H' => E.nx (σ'.set i none) H', rt := E.rt, bk := fun σ' H' => E.bk (σ'.set i none) H', ct := fun σ' H' => E.ct (σ'.set i none) H' } := by
  unfold sSuite at q
  rw [cut_cut] at q
  split at q
  case isFalse => exact q.elim
  revert q
  cases fs ((cutX env).set i (.exc c w)) G with
  | nx env1 G1 => exact fun q σ' ρ' H' e rg ev => q _ ρ' H' e ⟨rg, ev.cut'.set i (s := .no) trivial⟩
  | bk env1 G1 => exact fun q σ' ρ' H' e rg ev => q _ ρ' H' e ⟨rg, ev.cut'.set i (s := .no) trivial⟩
  | ct env1 G1 => exact fun q σ' ρ' H' e rg ev => q _ ρ' H' e ⟨rg, ev.cut'.set i (s := .no) trivial⟩
  | rt d G1 => exact fun q => q
  | ex c w env1 G1 => exact fun q => q.elim
  | bad => exact fun q => q
theorem ds_try_only (hs : X.stack = X.env :: X.outer) (hf : X.env.frame = some X.env.locals) (hc : Names X x C) (tk : Takes X W) (hm : ∀ c b, m c = some b → PySem.W.exmOne X.K (.ref c) C = some b)
    (hb : ∀ (W' : WX) (pn : List (Addr × Obj)) (xe : Value → Shared → Prop), Takes (X.tr pn xe) W' → PassesOwn (model X.prog X.w) X.A X.env xe → DSs (X.tr pn xe) T W' body fb)
    (hsu : ∀ (a : Addr) (oe : Obj) (pn : List (Addr × Obj)), DSs (X.suite a ((a, oe) :: pn)) T (fun _ _ _ _ => False) (b₀ :: suite) fs) :
    DS X T W (.Try body [.ExceptHandler (some (.Name x np)) none (b₀ :: suite) pos'] [] [] pos) (sTry fb (hOne m fun _ _ => sSuite0 fs)) :=
  PS_imp (ps_try_only (tb := tTry X.K T fb) (ts := tSuite0 X.K T fs) (Wout := W) hs hf hc tk (fun W' pn xe t o => tTry_ok (hb W' pn xe t o)) (fun a oe cls d pn _ _ => suite_ok0 (hsu a oe pn))) fun E σ H ⟨ρ, env, G, sr, q⟩ => by
    refine ⟨ρ, env, G, sr.rg, sr.ev.cut, ?_⟩
    unfold sTry at q
    revert q
    cases fb (cutX env) G with
    | nx env1 G1 => exact fun q σ' ρ' H' e rg ev => q σ' ρ' H' e ⟨rg, ev.cut'⟩
    | bk env1 G1 => exact fun q σ' ρ' H' e rg ev => q σ' ρ' H' e ⟨rg, ev.cut'⟩
    | ct env1 G1 => exact fun q σ' ρ' H' e rg ev => q σ' ρ' H' e ⟨rg, ev.cut'⟩
    | rt d G1 => exact fun q => q
    | bad => exact fun q => q
    | ex c w env1 G1 =>
      intro q σ' ρ' H' dd vw e1 rg ev hd r
      dsimp only [RS.cut] at q
      unfold hOne at q
      cases hmc : m c with
      | none => rw [hmc] at q; exact q.elim
      | some b =>
        rw [hmc] at q
        refine ⟨b, hm c b hmc, fun hb a ha => ?_, fun hb => ?_⟩
        · subst hb
          exact ⟨ρ', env1, G1, rg, ev, Post0.ext e1 (suite0_post (c := c) (w := w) q)⟩
        · subst hb
          exact q σ' ρ' H' dd vw e1 ⟨rg, ev.cut'⟩ hd r
theorem ds_try_as (hs : X.stack = X.env :: X.outer) (hf : X.env.frame = some X.env.locals) (hN : X.N.Nodup) (hi : X.N[i]? = some n) (hln : X.env.kindOf n = some .local) (hc : Names X x C) (tk : Takes X W) (hm : ∀ c b, m c = some b → PySem.W.exmOne X.K (.ref c) C = some b)
    (hb : ∀ (W' : WX) (pn : List (Addr × Obj)) (xe : Value → Shared → Prop), Takes (X.tr pn xe) W' → PassesOwn (model X.prog X.w) X.A X.env xe → DSs (X.tr pn xe) T W' body fb)
    (hsu : ∀ (a : Addr) (oe : Obj) (pn : List (Addr × Obj)), DSs (X.suite a ((a, oe) :: pn)) T (fun _ _ _ _ => False) (b₀ :: suite) fs) :
    DS X T W (.Try body [.ExceptHandler (some (.Name x np)) (some n) (b₀ :: suite) pos'] [] [] pos) (sTry fb (hOne m (sSuite i fs))) := by
  refine ⟨fun pins s σ H E I ⟨ρ, env, G, sr, q⟩ => ?_⟩
  refine (ps_try_as (tb := tTry X.K T fb) (ts := tSuite X.K T i fs) (Wout := W) hs hf hN hi hln hc tk (fun W' pn xe t o => tTry_ok (hb W' pn xe t o)) (fun a oe cls d pn hz hf => suite_ok (hsu a oe pn) hz hf)).run pins s σ H E I ?_
  refine ⟨ρ, env, G, sr.rg, sr.ev.cut, ?_⟩
  unfold sTry at q
  revert q
  cases fb (cutX env) G with
  | nx env1 G1 => exact fun q σ' ρ' H' e rg ev => q σ' ρ' H' e ⟨rg, ev.cut'⟩
  | bk env1 G1 => exact fun q σ' ρ' H' e rg ev => q σ' ρ' H' e ⟨rg, ev.cut'⟩
  | ct env1 G1 => exact fun q σ' ρ' H' e rg ev => q σ' ρ' H' e ⟨rg, ev.cut'⟩
  | rt d G1 => exact fun q => q
  | bad => exact fun q => q
  | ex c w env1 G1 =>
    intro q σ' ρ' H' dd vw e1 rg ev hd r
    dsimp only [RS.cut] at q
    unfold hOne at q
    cases hmc : m c with
    | none => rw [hmc] at q; exact q.elim
    | some b =>
      rw [hmc] at q
      refine ⟨b, hm c b hmc, fun hb a ha => ?_, fun hb => ?_⟩
      · subst hb
        refine ⟨ρ', env1, G1, c, w, dd, vw, rfl, rfl, hd, r, rg, ev.set i (s := .no) trivial, ?_, Post0.ext e1 (suite_post q)⟩
        have hle : i < σ'.length := by
          rw [← ev.len]
          unfold sSuite at q
          dsimp only at q
          split at q
          · assumption
          · exact q.elim
        exact List.getElem?_set_self hle
      · subst hb
        exact q σ' ρ' H' dd vw e1 ⟨rg, ev.cut'⟩ hd r
end
end DL

set_option Elab.async false
set_option linter.all false
set_option maxRecDepth 100000
set_option maxHeartbeats 1000000
namespace DL
open PySem PySem.Spec PyProof.Rows L2
open Classical

/-! ### what a caught error tells -/
def eWhat (i : Nat) (m : Addr → Bool) : ES := fun env G => match env[i]? with
  | some (.exc c w) => if m c = true then .ok w G else .bad
  | _ => .bad
def eIsE (i : Nat) (m : Addr → Option Bool) : ES := fun env G => match env[i]? with
  | some (.exc c _) => (match m c with
    | some b => .ok (.dat (.bool b)) G
    | none => .bad)
  | _ => .bad
/-- the dict of a caught error -/
theorem xd_at {X : Cx} {pins : List (Addr × Obj)} {σ : L2.St} {H : Hp} {s : Shared} {a c dd : Addr} {oe : Obj} {vw : V} (I : Inv X pins σ H s) (hm : (a, oe) ∈ X.pn) (hz : Zc (.ref c) (some dd) oe) (hf : ∃ vs, oe.data = .fields vs) (hd : Xd X.K c H dd vw) :
    ∃ (od : Obj) (u : Value), PySem.W.InstAt s.heap a oe c (some od) ∧ PySem.W.lookIn "what" od = some (some u) ∧ RelV vw u := by
  obtain ⟨nm, _, hd⟩ := hd
  have ob : ObjOk X.prog X.w H s.heap dd (.xd [("name", .str nm), ("what", vw)]) := I.hok dd _ hd
  obtain ⟨mA, ns, rel⟩ := ob
  obtain ⟨od, e1, e2⟩ := lookIn_ns ns
  obtain ⟨u, hu, ru⟩ := RelO.some_of (v := vw) (o := mA "what") (rel "what")
  obtain ⟨vs, hv⟩ := hf
  have p := (I.pin (a, oe) (List.mem_append_left _ hm)).1
  exact ⟨od, u, ⟨p, hz.1, by unfold PySem.W.notCls; rw [hv] <;> rfl, by rw [hz.2]; exact e1⟩, by rw [e2, hu], ru⟩
section
variable {X : Cx} {T : TbT} {W : WX}
theorem de_what (i : Nat) {m : Addr → Bool} {x : Str} {p pos : Pos} (hm : ∀ c, m c = true → XfC X.K c ∧ PySem.W.findIn X.K (.ref c) "what" = some none) (hN : X.N[i]? = some x := by rfl) (hv : Vis X.env.scope x := by first | exact Or.inl rfl | exact Or.inr (Or.inl rfl) | exact Or.inr (Or.inr rfl)) (hd : (x == ("__debug__" : Str)) = false := by decide)
    (hcd : (x == ("__classdict__" : Str)) = false := by decide) (hb : attributeBase (.Name x p) "what" X.env (eval (.Name x p) X.env) = eval (.Name x p) X.env := by rfl) : DE X T W (.Attribute (.Name x p) "what" pos) (eWhat i m) := by
  refine ⟨fun pins s σ H Q I ⟨ρ, env, G, sr, q⟩ => ?_⟩
  unfold eWhat at q
  split at q
  · rename_i c w hi
    obtain ⟨ov, ho, a, oe, dd, vw, rfl, hpn, hz, hf, hx, rw'⟩ := sr.ev.ok i _ hi
    split at q
    · rename_i hmc
      obtain ⟨xf, no⟩ := hm c hmc
      have T1 := pe_var (X := X) (pos := p) hN hv hd hcd
      refine attr_of hb (thn (T1.run pins s σ H (fun v H1 => v = .ref a ∧ H1 = H) I ⟨_, ho, rfl, rfl⟩) fun u s1 hh => ?_)
      obtain ⟨v, H1, I1, rv, ev, eH⟩ := hh
      subst ev; subst eH
      obtain rfl : u = Value.ref a := rv
      obtain ⟨od, u, J, hl, ru⟩ := xd_at I1 hpn hz hf hx
      exact HandSPX.exc_get I1.kIn J xf.ga xf.gg xf.exC (PySem.W.findObj_own xf.hdC no rfl hl) (handed_of ru) ⟨vw, H1, I1.tok _, ru, q vw ρ H1 Ext.refl sr.rg rw'⟩
    · exact q.elim
  · exact q.elim
def rIsX (X : Cx) : List V → Hp → VK → Prop := fun xs H Q => ∃ (a c dd : Addr) (oe : Obj) (vw v : V) (cv : Value) (b : Bool), xs = [.ref a, v] ∧ (a, oe) ∈ X.pn ∧ Zc (.ref c) (some dd) oe ∧ (∃ vs, oe.data = .fields vs) ∧ Xd X.K c H dd vw ∧ ExcC X.K c ∧ (∀ u, RelV v u → u = cv) ∧
  PySem.W.kitOne X.K (.ref c) cv = some b ∧ Q (.bl b) H
theorem call_isX : CallR X (.builtin "isinstance") (rIsX X) := by
  intro pins s σ H xs us Q I r h
  obtain ⟨a, c, dd, oe, vw, v, cv, b, rfl, hpn, hz, hf, hd, C, hcv, e, q⟩ := h
  cases r with
  | cons rx rr =>
    cases rr with
    | cons rt rr =>
      cases rr
      cases rx
      have ec := hcv _ rt
      subst ec
      obtain ⟨od, u, J, _, _⟩ := xd_at I hpn hz hf hd
      obtain ⟨cd, hc, _⟩ := PySem.W.any_some C.hd
      exact PySem.W.kia_one (PySem.W.kitx_exc (by rw [hc]; rfl) C.hg C.hk C.hs C.ha C.hn C.ht C.hm) I.kIn J e (fun z => nomatch z) fun tk => ⟨.bl b, H, I.kept (t' := tk) fun _ _ z => z, rfl, q⟩
/-- isinstance(fault, C): C's value cv, of kind v -/
theorem de_isE (i : Nat) {m : Addr → Option Bool} {x y : Str} {p p1 p2 pos : Pos} {v : V} {cv : Value} (hm : ∀ c b, m c = some b → ExcC X.K c ∧ PySem.W.kitOne X.K (.ref c) cv = some b) (hy : PE X (.Name y p2) (tC v)) (hcv : ∀ u, RelV v u → u = cv)
    (hg : Gl X "isinstance") (hmi : X.mg "isinstance" = none) (hN : X.N[i]? = some x := by rfl) (hv : Vis X.env.scope x := by first | exact Or.inl rfl | exact Or.inr (Or.inl rfl) | exact Or.inr (Or.inr rfl)) (hd : (x == ("__debug__" : Str)) = false := by decide)
    (hcd : (x == ("__classdict__" : Str)) = false := by decide)
    (h1 : starEach [.Name x p1, .Name y p2] X.env = (false, eval (.Name x p1) X.env) :: starEach [.Name y p2] X.env := by rfl) (h2 : starEach [.Name y p2] X.env = (false, eval (.Name y p2) X.env) :: starEach [] X.env := by rfl)
    (hpl : (backTo pos (starEach [.Name y p2] X.env)).any (·.1) = false := by rfl) :
    DE X T W (.Call (.Name "isinstance" p) [.Name x p1, .Name y p2] [] pos) (eIsE i m) := by
  have T1 := pe_var (X := X) (pos := p1) hN hv hd hcd
  refine PE_imp (pe_callB call_isX hg hmi (by decide +kernel) (pa_cons T1 (pa_cons hy pa_nil h2) h1) (by decide) (by decide) h1 hpl) fun σ H Q ⟨ρ, env, G, sr, q⟩ => ?_
  unfold eIsE at q
  split at q
  · rename_i c w hi
    obtain ⟨ov, ho, a, oe, dd, vw, rfl, hpn, hz, hf, hx, rw'⟩ := sr.ev.ok i _ hi
    cases hmc : m c with
    | none => rw [hmc] at q; exact q.elim
    | some b =>
      rw [hmc] at q
      obtain ⟨C, hk⟩ := hm c b hmc
      exact ⟨_, ho, a, c, dd, oe, vw, v, cv, b, rfl, hpn, hz, hf, hx, C, hcv, hk, q (.bl b) ρ H Ext.refl sr.rg rfl⟩
  · exact q.elim
/-- the class is one of the program, or a built-in one -/
theorem isE_own {y : Str} {p : Pos} {C : Addr} (hg : Gl X y) (hm : X.mg y = some (.ref C)) (hd : (y == ("__debug__" : Str)) = false := by decide) : PE X (.Name y p) (tC (.ref C)) := pe_glob hg hm rfl hd
theorem isE_own' {C : Addr} : ∀ u, RelV (.ref C) u → u = .ref C := fun u h => h
end
end DL

set_option Elab.async false
set_option linter.all false
set_option maxRecDepth 100000
set_option maxHeartbeats 1000000
namespace DL
open PySem PySem.Spec PyProof.Rows L2
open Classical

/-! ### blocks: what is read in a comprehension -/
abbrev noW : WX := fun _ _ _ _ => False
section
variable (K : PySem.W.Frag) (T : TbT)
def tE0 (f : ES) : TE := fun σ H Q => ∃ ρ env G, RG K T ρ G H ∧ EnvR K [] H ρ env σ ∧ (match f env G with
  | .ok d G' => ∀ v ρ' H', Ext ρ H ρ' H' → RG K T ρ' G' H' → Rep K H' ρ' d v → Q v H'
  | _ => False)
def tT0 (f : TSm) : TT := fun σ H Q => ∃ ρ env G, RG K T ρ G H ∧ EnvR K [] H ρ env σ ∧ (match f env G with
  | .ok b G' => ∀ ρ' H', Ext ρ H ρ' H' → RG K T ρ' G' H' → Q b H'
  | _ => False)
/-- a target that touches the slots vs alone -/
def tG0 (vs : List Nat) (a : GS) : TG := fun v σ H Q => ∃ ρ env G d, RG K T ρ G H ∧ EnvR K [] H ρ env σ ∧ Rep K H ρ d v ∧ (match a d env G with
  | some (env', G') => ∀ σ' ρ' H', Ext ρ H ρ' H' → RG K T ρ' G' H' → EnvR K [] H' ρ' env' σ' → wipe σ' vs = wipe σ vs → Q σ' H'
  | none => False)
def tGs0 (vs : List Nat) (as : List GS) : TGs := fun us σ H Q => ∃ ρ env G ds, RG K T ρ G H ∧ EnvR K [] H ρ env σ ∧ Reps K H ρ ds us ∧ (match aList as ds env G with
  | some (env', G') => ∀ σ' ρ' H', Ext ρ H ρ' H' → RG K T ρ' G' H' → EnvR K [] H' ρ' env' σ' → wipe σ' vs = wipe σ vs → Q σ' H'
  | none => False)
end
theorem wipe_set {σ : L2.St} {i : Nat} {ov : Option V} : ∀ {vs : List Nat}, i ∈ vs → wipe (σ.set i ov) vs = wipe σ vs
  | [], h => by cases h
  | v :: vs, h => by
    show (wipe (σ.set i ov) vs).set v none = (wipe σ vs).set v none
    by_cases hm : i ∈ vs
    · rw [wipe_set hm]
    · have e : i = v := by
        rcases List.mem_cons.mp h with e | e
        · exact e
        · exact absurd e hm
      subst e
      have go : ∀ (ws : List Nat), i ∉ ws → wipe (σ.set i ov) ws = (wipe σ ws).set i ov := by
        intro ws
        induction ws with
        | nil => intro _; rfl
        | cons w ws ih =>
          intro hw
          show (wipe (σ.set i ov) ws).set w none = ((wipe σ ws).set w none).set i ov
          rw [ih (fun z => hw (List.mem_cons_of_mem _ z)), List.set_comm _ _ (fun z => hw (by rw [z]; exact List.mem_cons_self))]
      rw [go vs hm, List.set_set]
theorem wipe_out' {σ : L2.St} {i : Nat} {ov : Option V} : ∀ {vs : List Nat}, i ∉ vs → wipe (σ.set i ov) vs = (wipe σ vs).set i ov
  | [], _ => rfl
  | w :: ws, hw => by
    show (wipe (σ.set i ov) ws).set w none = ((wipe σ ws).set w none).set i ov
    rw [wipe_out' (fun z => hw (List.mem_cons_of_mem _ z)), List.set_comm _ _ (fun z => hw (by rw [z]; exact List.mem_cons_self))]
theorem wipe_wipe {σ : L2.St} : ∀ {vs : List Nat}, wipe (wipe σ vs) vs = wipe σ vs
  | [] => rfl
  | v :: vs => by
    show (wipe ((wipe σ vs).set v none) vs).set v none = (wipe σ vs).set v none
    by_cases h : v ∈ vs
    · rw [wipe_set h, wipe_wipe]
    · rw [wipe_out' h, wipe_wipe, List.set_set]
/-- the slots of a block's own names forgotten -/
def wipeE (env : Env') : List Nat → Env'
  | [] => env
  | v :: vs => (wipeE env vs).set v .no
theorem EnvR.wipe {K : PySem.W.Frag} {pn : List (Addr × Obj)} {H : Hp} {ρ : List Addr} {env : Env'} {σ : L2.St} (h : EnvR K pn H ρ env σ) : ∀ vs : List Nat, EnvR K pn H ρ (wipeE env vs) (L2.wipe σ vs)
  | [] => h
  | v :: vs => (EnvR.wipe h vs).set v (s := .no) trivial
section
variable {X : Cx} {T : TbT} {e c : Expr} {f : ES} {t : TSm} {vs : List Nat} {a : GS}
theorem pe_blk (hp : X.pn = []) (h : DE X T noW e f) : PE X e (tE0 X.K T f) := PE_imp h fun σ H Q ⟨ρ, env, G, rg, ev, q⟩ => ⟨ρ, env, G, ⟨rg, by rw [hp]; exact ev⟩, by
  revert q
  cases f env G with
  | ok d G' => exact fun q => q
  | ex c w G' => exact fun q => q.elim
  | bad => exact fun q => q⟩
theorem pt_blk (hp : X.pn = []) (h : DT X T noW c t) : PT X c (tT0 X.K T t) := PT_imp h fun σ H Q ⟨ρ, env, G, rg, ev, q⟩ => ⟨ρ, env, G, ⟨rg, by rw [hp]; exact ev⟩, by
  revert q
  cases t env G with
  | ok d G' => exact fun q => q
  | ex c w G' => exact fun q => q.elim
  | bad => exact fun q => q⟩
abbrev DG0 (X : Cx) (T : TbT) (vs : List Nat) (e : Expr) (a : GS) : Prop := PG X e (tG0 X.K T vs a)
theorem dg0_name {i : Nat} {x : Str} {pos : Pos} (hN : X.N.Nodup) (hi : X.N[i]? = some x) (hx : Loc X.env.scope x) (hm : i ∈ vs) (hf : X.fn x = true ∨ X.env.scope.names.lookup x = some .local := by first | exact .inl rfl | exact .inr rfl | assumption) : DG0 X T vs (.Name x pos) (aName i) :=
  PG_imp (pg_name hN hi hx hf) fun v σ H Q ⟨ρ, env, G, d, rg, ev, r, q⟩ => q _ ρ H Ext.refl rg (ev.set i ⟨v, rfl, r⟩) (wipe_set hm)
theorem dgs0_nil : PGs X [] (tGs0 X.K T vs []) := PGs_imp pgs_nil fun us σ H Q ⟨ρ, env, G, ds, rg, ev, r, q⟩ => by
  cases ds with
  | nil => exact ⟨r, q σ ρ H Ext.refl rg ev rfl⟩
  | cons d ds => exact q.elim
theorem dgs0_cons {gs : List GS} {es : List Expr} (h1 : DG0 X T vs e a) (h2 : PGs X es (tGs0 X.K T vs gs)) (hs : (assignEach (e :: es) X.env).map (·.2) = assign e X.env :: (assignEach es X.env).map (·.2) := by rfl) : PGs X (e :: es) (tGs0 X.K T vs (a :: gs)) :=
  PGs_imp (pgs_cons h1 h2 hs) fun us σ H Q ⟨ρ, env, G, ds, rg, ev, r, q⟩ => by
    cases ds with
    | nil => exact q.elim
    | cons d ds =>
      obtain ⟨v, ts, rfl, r1, r2⟩ := r
      refine ⟨v, ts, rfl, ρ, env, G, d, rg, ev, r1, ?_⟩
      unfold aList at q
      cases h : a d env G with
      | none => rw [h] at q; exact q
      | some z =>
        obtain ⟨env1, G1⟩ := z
        rw [h] at q
        exact fun σ1 ρ1 H1 e1 rg1 ev1 w1 => ⟨ρ1, env1, G1, ds, rg1, ev1, e1.reps rg r2, by
          dsimp only at q
          revert q
          cases aList gs ds env1 G1 with
          | none => exact fun q => q
          | some z => exact fun q σ' ρ' H' e2 rg2 ev2 w2 => q σ' ρ' H' (e1.trans e2) rg2 ev2 (w2.trans w1)⟩
theorem dg0_tup {gs : List GS} {es : List Expr} {k : Nat} {pos : Pos} (hc : X.calm = true) (h : PGs X es (tGs0 X.K T vs gs))
    (hn : (assignEach es X.env).length = gs.length := by rfl) (hst : (assignEach es X.env).findIdx? (·.1) = none := by rfl) : DG0 X T vs (.Tuple es k pos) (aTup gs) :=
  PG_imp (pg_tup hc h hn hst) fun v σ H Q ⟨ρ, env, G, d, rg, ev, r, q⟩ => by
    unfold aTup at q
    split at q
    · rename_i env' G' hh
      split at hh
      · split at hh
        · rename_i ds hl
          obtain ⟨b, us, rfl, sq, rs⟩ := r
          exact ⟨b, us, rfl, sq, by rw [rs.length]; exact hl, ρ, env, G, _, rg, ev, rs.reps, by rw [hh]; exact q⟩
        · cases hh
      · split at hh
        · rename_i ds hl
          obtain ⟨b, us, rfl, sq, rs⟩ := r
          exact ⟨b, us, rfl, sq, by rw [rs.length]; exact hl, ρ, env, G, _, rg, ev, rs, by rw [hh]; exact q⟩
        · cases hh
      · cases hh
    · exact q.elim
/-- the tests of a clause -/
def tNo : TSm := fun _ G => .ok true G
theorem dts_nil : PTs X [] (tT0 X.K T tNo) := ⟨fun pins s σ H Q I ⟨ρ, env, G, rg, ev, q⟩ => pts_nil.run pins s σ H Q I (q ρ H Ext.refl rg)⟩
theorem dts_one (hp : X.pn = []) (h : DT X T noW c t) : PTs X [c] (tT0 X.K T t) := pts_one (pt_blk hp h)
end

/-! ### [e for x in xs if t] -/
noncomputable def lcL (a : GS) (t : TSm) (f : ES) (l : Nat) (chk : Hh → Prop) (env : Env') : List D → Hh → RE
  | [], G => if chk G then .ok (.ref l) G else .bad
  | x :: xs, G => if chk G then (match a x env G with
    | some (env2, G2) => (match t env2 G2 with
      | .ok true G3 => (match f env2 G3 with
        | .ok y G4 => (match G4[l]? with
          | some (.lst acc) => if acc.length < 100000 then lcL a t f l chk env xs (G4.set l (.lst (acc ++ [y]))) else .bad
          | _ => .bad)
        | _ => .bad)
      | .ok false G3 => lcL a t f l chk env xs G3
      | _ => .bad)
    | none => .bad) else .bad
noncomputable def eLc (src : IS) (a : GS) (t : TSm) (f : ES) (vs : List Nat) : ES := fun env G => match src env G with
  | .ok xs chk G1 => lcL a t f G1.length chk (wipeE (cutX env) vs) xs (G1 ++ [.lst []])
  | .ex c w G1 => .ex c w G1
  | .bad => .bad
section
variable {X : Cx} {T : TbT} {W : WX} {src : IS} {a : GS} {t : TSm} {f : ES} {vs : List Nat}
theorem tE_lc {σ : L2.St} {H : Hp} {Q : VK} (q : tE X T W (eLc src a t f vs) σ H Q) : tLc (tI X T W src) (tG0 X.K T vs a) (tT0 X.K T t) (tE0 X.K T f) vs σ H Q := by
  obtain ⟨ρ, env, G, sr, p⟩ := q
  refine ⟨ρ, env, G, sr, ?_⟩
  unfold eLc at p
  cases q : src env G with
  | ok xs chk G1 =>
    rw [q] at p
    intro ρ1 H1 J e1 rg1 it D hD
    dsimp only at p
    obtain ⟨rg2, e2⟩ := rg1.new (ds := []) (vs := []) hD rfl
    refine ⟨fun i m H' => ∃ ρ' G', Ext (ρ1 ++ [D]) (upd H1 D (.lst [])) ρ' H' ∧ RG X.K T ρ' G' H' ∧ i + m = xs.length ∧ PostE X T W σ ρ' H' (lcL a t f G1.length chk (wipeE (cutX env) vs) (xs.drop i) G') Q,
      ⟨xs.length, _, _, Ext.refl, rg2, by omega, PostE.ext (e1.trans e2) p⟩, fun i m H' hW => ?_⟩
    obtain ⟨ρ', G', e', rg', hm, p'⟩ := hW
    have eD : ρ'[G1.length]? = some D := e'.kr _ _ (by rw [rg1.len]; simp)
    have ew : EnvR X.K [] H' ρ' (wipeE (cutX env) vs) (wipe σ vs) := ((e1.trans e2).trans e').envr sr.rg sr.ev |>.cut.wipe vs
    cases hd : xs.drop i with
    | nil =>
      rw [hd] at p'
      unfold lcL at p'
      split at p'
      · rename_i hck
        have hl : xs.length ≤ i := by
          have := congrArg List.length hd
          simp at this; omega
        exact .inl ⟨(it ρ' G' H' i (e2.trans e') rg' hck).2 hl, p' _ ρ' H' Ext.refl rg' ⟨D, eD, rfl⟩⟩
      · exact p'.elim
    | cons d ds =>
      rw [hd] at p'
      have hi : xs[i]? = some d := by
        rw [← List.head?_drop, hd]; rfl
      have hds : xs.drop (i + 1) = ds := by
        rw [← List.drop_drop, hd]; rfl
      have hlt : i < xs.length := (List.getElem?_eq_some_iff.mp hi).1
      unfold lcL at p'
      split at p'
      · rename_i hck
        obtain ⟨hgo, hy⟩ := (it ρ' G' H' i (e2.trans e') rg' hck).1 d hi
        refine .inr ⟨hgo, fun H2 => ∃ ρ2 G2, Ext (ρ1 ++ [D]) (upd H1 D (.lst [])) ρ2 H2 ∧ RG X.K T ρ2 G2 H2 ∧ PostE X T W σ ρ2 H2 (lcL a t f G1.length chk (wipeE (cutX env) vs) ds G2) Q, fun H2 hN => ?_, fun x H2 hyl => ?_⟩
        · obtain ⟨ρ2, G2, x2, rg2, p2⟩ := hN
          exact ⟨m - 1, by omega, ρ2, G2, x2, rg2, by omega, by rw [hds]; exact p2⟩
        · obtain ⟨x2, rg2, r2⟩ := hy x H2 hyl
          refine ⟨ρ', wipeE (cutX env) vs, G', d, rg2, x2.envr rg' ew, r2, ?_⟩
          cases q3 : a d (wipeE (cutX env) vs) G' with
          | none => rw [q3] at p'; exact p'.elim
          | some z =>
            obtain ⟨env3, G3⟩ := z
            rw [q3] at p'
            intro σ3 ρ3 H3 x3 rg3 ev3 w3
            refine ⟨by rw [w3]; exact wipe_wipe, ρ3, env3, G3, rg3, ev3, ?_⟩
            dsimp only at p'
            cases q4 : t env3 G3 with
            | ok b G4 =>
              rw [q4] at p'
              intro ρ4 H4 x4 rg4
              have xx4 := x2.trans (x3.trans x4)
              cases b with
              | false =>
                rw [if_neg Bool.false_ne_true]
                exact ⟨ρ4, G4, e'.trans xx4, rg4, PostE.ext xx4 p'⟩
              | true =>
                rw [if_pos rfl]
                refine ⟨ρ4, env3, G4, rg4, x4.envr rg3 ev3, ?_⟩
                dsimp only at p'
                cases q5 : f env3 G4 with
                | ok y G5 =>
                  rw [q5] at p'
                  intro v5 ρ5 H5 x5 rg5 r5
                  dsimp only at p'
                  have xx5 := xx4.trans x5
                  split at p'
                  · rename_i acc hacc
                    split at p'
                    · rename_i hl
                      have eD5 : ρ5[G1.length]? = some D := xx5.kr _ _ eD
                      obtain ⟨us, hu, ru⟩ := rg5.ok _ _ _ eD5 hacc
                      obtain ⟨rg6, x6⟩ := rg5.write eD5 hacc hu (ru.append (es := [y]) (ws := [v5]) ⟨v5, [], rfl, r5, rfl⟩)
                      refine ⟨us, hu, Nat.lt_of_lt_of_le (by rw [ru.length]; exact hl) (by decide : 100000 ≤ sizeLine), ρ5, _, e'.trans (xx5.trans x6), rg6, PostE.ext (xx5.trans x6) p'⟩
                    · exact p'.elim
                  · exact p'.elim
                | ex c w G5 => rw [q5] at p'; exact p'
                | bad => rw [q5] at p'; exact p'
            | ex c w G4 => rw [q4] at p'; exact p'.elim
            | bad => rw [q4] at p'; exact p'
      · exact p'.elim
  | ex c w G1 => rw [q] at p; exact p
  | bad => rw [q] at p; exact p
variable {scope : Scope} {own : List (Str × Nat)} {elt tg iter : Expr} {ifs : List Expr} {pos : Pos}
theorem de_lc (hc : X.calm = true) (hN : X.N.Nodup) (hi : DI X T W tg iter src) (ok : BlkOk X.N X.env.scope scope own)
    (hg : ∀ (s : Shared) (H : Hp) (C : Addr) (cl : List (Str × Addr)) (fp : List Addr), DG0 (X.blk s H scope (compEnvC scope cl C X.env) fp) T (own.map (·.2)) tg a)
    (ht : ∀ (s : Shared) (H : Hp) (C : Addr) (cl : List (Str × Addr)) (fp : List Addr), PTs (X.blk s H scope (compEnvC scope cl C X.env) fp) ifs (tT0 X.K T t))
    (he : ∀ (s : Shared) (H : Hp) (C : Addr) (cl : List (Str × Addr)) (fp : List Addr), DE (X.blk s H scope (compEnvC scope cl C X.env) fp) T noW elt f) (hs : ∀ x, foldedSetIterable iter X.env x = pure x := by intro _; rfl) :
    DE X T W (.ListComp elt [⟨tg, iter, ifs, 0⟩] scope pos) (eLc src a t f (own.map (·.2))) :=
  PE_imp (pe_lc hc hN hi ok hg ht (fun s H C cl fp => pe_blk rfl (he s H C cl fp)) hs) fun _ _ _ q => tE_lc q
theorem ds_setLc {i : Nat} {y : Str} {py spos : Pos} (hc : X.calm = true) (hN : X.N.Nodup) (hy : X.N[i]? = some y) (hyl : X.env.scope.names.lookup y = some .local)
    (hsw : swapsWith (.ListComp elt [⟨tg, iter, ifs, 0⟩] scope pos) (some (.Name y py)) spos.line X.env = pure true) (hi : DI X T W tg iter src) (ok : BlkOk X.N X.env.scope scope own)
    (hg : ∀ (s : Shared) (H : Hp) (C : Addr) (cl : List (Str × Addr)) (fp : List Addr), DG0 (X.blk s H scope (compEnvC scope cl C X.env) fp) T (own.map (·.2)) tg a)
    (ht : ∀ (s : Shared) (H : Hp) (C : Addr) (cl : List (Str × Addr)) (fp : List Addr), PTs (X.blk s H scope (compEnvC scope cl C X.env) fp) ifs (tT0 X.K T t))
    (he : ∀ (s : Shared) (H : Hp) (C : Addr) (cl : List (Str × Addr)) (fp : List Addr), DE (X.blk s H scope (compEnvC scope cl C X.env) fp) T noW elt f) (hs : ∀ x, foldedSetIterable iter X.env x = pure x := by intro _; rfl) :
    DS X T W (.Assign [.Name y py] (.ListComp elt [⟨tg, iter, ifs, 0⟩] scope pos) spos) (sAsg (eLc src a t f (own.map (·.2))) (aName i)) :=
  PS_imp (ps_setLc hc hN hy hyl hsw hi ok hg ht (fun s H C cl fp => pe_blk rfl (he s H C cl fp)) hs) fun E σ H ⟨ρ, env, G, sr, q⟩ => by
    refine tE_lc (a := a) (f := f) ⟨ρ, env, G, sr, ?_⟩
    unfold sAsg at q
    cases h : eLc src a t f (own.map (·.2)) env G with
    | ok d G1 =>
      rw [h] at q
      dsimp only [aName] at q
      exact fun v ρ' H' e rg r => q _ ρ' H' e ⟨rg, (e.envr sr.rg sr.ev).set i ⟨v, rfl, r⟩⟩
    | ex c w G1 => rw [h] at q; exact PostS.exE sr q
    | bad => rw [h] at q; exact q
end
end DL

set_option Elab.async false
set_option linter.all false
set_option maxRecDepth 100000
set_option maxHeartbeats 1000000
namespace DL
open PySem PySem.Spec PyProof.Rows L2 GenW
open Classical

/-! ### generator expressions: the block's context -/
abbrev genE (scope : Scope) (C : Addr) (code : Value) (env : Env) : Env := genEnv scope (cloFrom env.cells scope.names []) C code builtinsNs env
/-- the context of the element, woken in A; pn: the generator's own object -/
abbrev gcx (X : Cx) (A : Around) (s : Shared) (H : Hp) (scope : Scope) (ge : Env) (fp : List Addr) (pn : List (Addr × Obj)) : Cx :=
  { X with A := A, s_0 := s, H_0 := H, env := ge, outer := X.stack, stack := ge :: X.stack, ex := fp, fn := fun x => scope.names.lookup x == some .cell, pn := pn, xe := fun _ _ => False }
/-- the names of a generator expression: none of its own is captured -/
structure GenOk (N : List Str) (sc scope : Scope) (own : List (Str × Nat)) : Prop where
  blk : BlkOk N sc scope own
  co : scope.isCoroutine = false
  cell : ∀ y ∈ scope.names, y.2 ≠ .cell
  dot : scope.names.lookup (".0" : Str) = some NameKind.local
section
variable {X : Cx} {pins : List (Addr × Obj)} {σ : L2.St} {H : Hp} {s : Shared}
theorem gen_start {scope : Scope} {own : List (Str × Nat)} {fp : List Addr} {code : Value} {A : Around} {pn pl : List (Addr × Obj)} {s2 : Shared} {m0 : Str → Option Value} (I : Inv X pins σ H s) (ok : GenOk X.N X.env.scope scope own) (hN : X.N.Nodup)
    (hfp : ∀ b ∈ fp, FpOk X pins H b ∧ b < s.heap.objs.size) (hh : A.handled = none) (hfr : A.frames = some (genE scope s.heap.objs.size code X.env :: X.stack)) (kp : ∀ b o, s.heap.get? b = some o → s2.heap.get? b = some o)
    (hns : s2.heap.Ns s.heap.objs.size m0) (hos : s2.os = s.os) (hba : AllBare s2.gens) (hpin : ∀ p ∈ pn ++ pl, s2.heap.get? p.1 = some p.2 ∧ H p.1 = none ∧ p.1 ≠ s.heap.objs.size ∧ p.1 ∉ frs X.stack ∧ ∀ v, p.2.data ≠ .cell v) :
    Inv (gcx X A s H scope (genE scope s.heap.objs.size code X.env) fp pn) pl (wipe σ (own.map (·.2))) H s2 := by
  have hfree : ∀ y ∈ scope.names, y.2 = .free → ∃ c, X.env.cells.lookup y.1 = some c := fun y hy e => by
    rcases ok.blk.free y hy e with k | k
    · exact I.ok.has _ (.inl k)
    · exact I.ok.has _ (.inr k)
  have cm : ∀ {y c}, (y, c) ∈ cloFrom X.env.cells scope.names [] → X.env.cells.lookup y = some c ∧ c < s.heap.objs.size := fun {y c} hm => by
    rcases cloFrom_mem hm with hm | ⟨h1, h2⟩
    · cases hm
    · obtain ⟨c', hc⟩ := hfree _ h1 rfl
      rw [hc] at h2
      have e : c = c' := h2
      subst e
      obtain ⟨w, z⟩ := I.cell _ _ hc
      exact ⟨hc, z.lt⟩
  have mem : ∀ {y c}, (cloFrom X.env.cells scope.names []).lookup y = some c → X.env.cells.lookup y = some c ∧ c < s.heap.objs.size := fun e => cm (PySem.mem_of_lookup e)
  have look : ∀ {y}, scope.names.lookup y = some .free → ∃ c, (cloFrom X.env.cells scope.names []).lookup y = some c ∧ X.env.cells.lookup y = some c := fun {y} hl => by
    obtain ⟨c', e'⟩ := mem_lookup (cloFrom_has (cells := X.env.cells) (acc := []) (PySem.mem_of_lookup hl))
    exact ⟨c', e', (mem e').1⟩
  have okB : (gcx X A s H scope (genE scope s.heap.objs.size code X.env) fp pn).Ok := by
    refine ⟨I.ok.mod, ok.blk.kind, I.ok.glob, rfl, Nat.le_refl _, fun y z c e1 e2 => I.ok.inj y z c (mem e1).1 (mem e2).1, fun y hy => ?_, fun y c z e => ?_, fun _ => hh, hfr, .inr ⟨rfl, rfl⟩, fun b hb => ⟨?_, fun y c e z => ?_⟩, I.bs, Nat.le_trans I.ok.bsz I.sz, fun b o e hb => ?_, fun b hb z => ?_, I.stack, I.stkFree⟩
    · rcases hy with hy | hy
      · exact absurd rfl (ok.cell _ (PySem.mem_of_lookup hy))
      · obtain ⟨c, h1, _⟩ := look hy
        exact ⟨c, h1⟩
    · have z : scope.names.lookup y = some .cell := by
        have z : (scope.names.lookup y == some NameKind.cell) = true := z
        simpa using z
      exact absurd rfl (ok.cell _ (PySem.mem_of_lookup z))
    · exact Nat.ne_of_lt (hfp b hb).2
    · exact (hfp b hb).1.2.2.2.2.1 y c (mem e).1 z
    · rcases (hfp b hb).1.2.2.2.1 with z | z
      · exact I.ok.noex b o e z
      · exact absurd (Nat.lt_of_lt_of_le (Heap.lt_size e) (Nat.le_trans I.ok.bsz z)) (Nat.lt_irrefl _)
    · rcases List.mem_cons.mp (I.stkSub b z) with z | z
      · exact (hfp b hb).1.2.1 z
      · exact (hfp b hb).1.2.2.1 z
  refine ⟨okB, hos, hba, Un.kept kp, ⟨m0, hns, fun i y av e1 e2 e3 => ?_⟩, fun y c e => ?_, I.hok.fresh (Nat.le_refl _), fun y c e => I.freeC y c (mem e).1, hpin, I.hok.kept kp, by rw [wipe_length]; exact I.len⟩
  · obtain ⟨e2, hne⟩ := wipe_some e2
    have no : ∀ k, scope.names.lookup y = some k → k = .local ∨ k = .cell → False := fun k e hh => by
      rcases ok.blk.own _ (PySem.mem_of_lookup e) hh with e' | e'
      · obtain ⟨p, hp, hpy⟩ := List.mem_map.mp e'
        have e3 := ok.blk.ix p hp
        have : p.1 = y := hpy
        rw [this] at e3
        exact hne (List.mem_map.mpr ⟨p, hp, nodup_ix hN e3 e1⟩)
      · exact e' (List.mem_of_getElem? e1)
    have hf : scope.names.lookup y = some .free := by
      have e3 : Vis scope y := e3
      rcases e3 with e3 | e3 | e3
      · exact (no _ e3 (.inl rfl)).elim
      · exact (no _ e3 (.inr rfl)).elim
      · exact e3
    obtain ⟨m, hn, hl⟩ := I.loc
    have hvis : Vis X.env.scope y := (ok.blk.free _ (PySem.mem_of_lookup hf) rfl).elim (fun k => .inr (.inl k)) (fun k => .inr (.inr k))
    obtain ⟨w, r, q⟩ := hl i y av e1 e2 hvis
    refine ⟨w, r, .inr ⟨.inr hf, ?_⟩⟩
    obtain ⟨c, h1, h2⟩ := look hf
    rcases q with ⟨k, _⟩ | ⟨_, c', e', z⟩
    · have k : X.env.scope.names.lookup y = some .local := k
      rcases ok.blk.free _ (PySem.mem_of_lookup hf) rfl with k' | k' <;> rw [show X.env.scope.names.lookup y = _ from k'] at k <;> cases k
    · rw [h2] at e'; cases e'
      exact ⟨c, h1, z.keeps kp⟩
  · obtain ⟨w, z⟩ := I.cell y c (mem e).1
    exact ⟨w, z.keeps kp⟩
end
end DL

set_option Elab.async false
set_option linter.all false
set_option maxRecDepth 100000
set_option maxHeartbeats 1000000
namespace DL
open PySem PySem.Spec PyProof.Rows L2 GenW
open Classical

/-! ### the consumer: it keeps what is handed out in a list (cs = some S), or it does not -/
structure SleptC (cs : Option Addr) (v : Value) (s s' : Shared) : Prop where
  os : s'.os = s.os
  bare : AllBare s'.gens
  keep : ∀ b o, cs ≠ some b → s.heap.get? b = some o → s'.heap.get? b = some o
  own : ∀ S, cs = some S → ∀ acc c, s.heap.get? S = some (lstObj acc c) → ∃ c', s'.heap.get? S = some (lstObj (acc.push v) c')
/-- ys stand in the consumer's list -/
def Holds (cs : Option Addr) (ys : List V) (pl : List (Addr × Obj)) : Prop := (∀ p ∈ pl, cs = some p.1) ∧ ∀ S, cs = some S → ∃ acc c, (S, lstObj acc c) ∈ pl ∧ Vals ys acc.toList
/-- running -/
def GJ (X : Cx) (cs : Option Addr) (ip : List (Addr × Obj)) (ys : List V) (σ : L2.St) (H : Hp) (s : Shared) : Prop := ∃ pl, Holds cs ys pl ∧ Inv X (pl ++ ip) σ H s
def ApartC (X : Cx) (cs : Option Addr) : Prop := ∀ S, cs = some S → X.s_0.heap.objs.size ≤ S ∧ S ≠ X.env.locals ∧ (∀ x c, X.env.cells.lookup x = some c → c ≠ S) ∧ (∀ p ∈ X.pn, p.1 ≠ S)
section
variable {X : Cx} {cs : Option Addr} {ip : List (Addr × Obj)} {ys : List V} {x : V} {v : Value} {σ : L2.St} {H : Hp} {s s' : Shared}
/-- the consumer's list is none of what is tracked -/
theorem GJ.apart (h : GJ X cs ip ys σ H s) {S : Addr} (hS : cs = some S) : H S = none ∧ S ≠ X.env.locals ∧ S ∉ X.fs ∧ ∃ acc c, s.heap.get? S = some (lstObj acc c) ∧ Vals ys acc.toList := by
  obtain ⟨pl, ⟨_, h2⟩, I⟩ := h
  obtain ⟨acc, c, hm, r⟩ := h2 S hS
  obtain ⟨a1, a2, a3, a4, _⟩ := I.pin (S, lstObj acc c) (List.mem_append_right _ (List.mem_append_left _ hm))
  exact ⟨a2, a3, a4, acc, c, a1, r⟩
/-- woken again -/
theorem GJ.woken (hip : ∀ p ∈ ip, cs ≠ some p.1) (hA : ApartC X cs) (h : GJ X cs ip ys σ H s) (rv : RelV x v) (z : SleptC cs v s s') : GJ X cs ip (ys ++ [x]) σ H s' := by
  have hap := fun S (hS : cs = some S) => h.apart hS
  obtain ⟨pl, ⟨hp1, hp2⟩, I⟩ := h
  have I0 : Inv X ip σ H s := I.pins_of fun p hp => I.pin p (List.mem_append_right _ (List.mem_append_right _ hp))
  have nt : ∀ b u, H b = some u → cs ≠ some b := fun b u q e => by
    rw [(hap b e).1] at q; cases q
  obtain ⟨z1, z2, z3, z4⟩ := z
  have hch : ∀ b ∉ cs.toList, cs ≠ some b := fun b hb e => hb (by rw [e]; simp)
  have J : Inv X ip σ H s' := by
    refine I0.call' (ch := cs.toList) z1 ⟨fun b o q _ _ hc => z3 b o (hch b hc) q, fun b o q _ _ hc => ⟨o.slots, z3 b o (hch b hc) q⟩, fun b o q n _ => n, fun b o q hc => ⟨o, z3 b o (hch b hc) q⟩, fun _ _ q => q, fun _ _ _ q => q, fun b ps q => ⟨#[], by rw [q]; simp⟩⟩ (fun b u q => ?_) z2 fun b hb => ?_
    · refine (I0.hok b u q).stay (fun c w hc y => z3 c _ ?_ y) (fun _ y => y) fun _ _ y => y
      rcases hc with y | y
      · rw [y]; exact nt b u q
      · exact nt c _ y
    · have e : cs = some b := by
        cases cs with
        | none => simp at hb
        | some S => simp at hb; rw [hb]
      obtain ⟨a1, a2, a3, a4⟩ := hA b e
      refine ⟨.inr a1, a2, a3, fun p hp => ?_⟩
      rcases List.mem_append.mp hp with hp | hp
      · exact a4 p hp
      · exact fun y => hip p hp (by rw [y]; exact e)
  cases hcs : cs with
  | none => exact ⟨[], ⟨by simp, fun S hS => by cases hS⟩, J⟩
  | some S =>
    obtain ⟨acc, c, hm, r⟩ := hp2 S hcs
    obtain ⟨a0, a1, a2, _⟩ := hap S hcs
    have eS : s.heap.get? S = some (lstObj acc c) := (I.pin (S, lstObj acc c) (List.mem_append_right _ (List.mem_append_left _ hm))).1
    obtain ⟨c', eS'⟩ := z4 S hcs acc c eS
    refine ⟨[(S, lstObj (acc.push v) c')], ⟨fun p hp => by rw [List.mem_singleton.mp hp], fun S' hS' => ?_⟩, J.pins_of fun p hp => ?_⟩
    · cases hS'
      refine ⟨acc.push v, c', List.mem_singleton.mpr rfl, ?_⟩
      rw [Array.toList_push]
      exact r.append (.cons rv .nil)
    · rcases List.mem_append.mp hp with hp | hp
      · rw [List.mem_singleton.mp hp]
        exact ⟨eS', a0, a1, a2, fun v q => by cases q⟩
      · exact J.pin p (List.mem_append_right _ hp)
end

/-! ### what a generator promises -/
/-- ys are out, x is handed out: the consumer stops here (Stp), or goes on (Go) -/
def YG (P : Program) (w : World) (outer : List Env) (ex : List Addr) (H1 : Hp) (sc : Shared) (cs : Option Addr) (a : Addr) (g : Nat) (Stp : V → Hp → Prop) (Go : V → Prop) : Protocol := fun n _ v s1 kap =>
  ∃ (ys : List V) (x : V) (H' : Hp), n + 1 + ys.length = sizeLine ∧ RelV x v ∧ s1.os = sc.os ∧ AllBare s1.gens ∧ s1.heap.NoLimit ∧ s1.heap.IsGen a g ∧ Un (frs outer) ex H1 H' sc.heap s1.heap ∧ HOk P w H' s1.heap ∧
    (∀ S, cs = some S → H' S = none ∧ ∃ acc c, s1.heap.get? S = some (lstObj acc c) ∧ Vals ys acc.toList) ∧ (Stp x H' ∨ (Go x ∧ ∀ s', SleptC cs v s1 s' → kap (.send .none) s'))
def RG' (P : Program) (w : World) (outer : List Env) (ex : List Addr) (H1 : Hp) (sc : Shared) (cs : Option Addr) (Fn : List V → Hp → Prop) : GenEnd := fun _ _ r s1 =>
  ((r = .ok (.ret .none) ∨ r = .ok .next) ∧ ∃ (ys : List V) (H' : Hp), s1.os = sc.os ∧ AllBare s1.gens ∧ Un (frs outer) ex H1 H' sc.heap s1.heap ∧ HOk P w H' s1.heap ∧ ys.length ≤ sizeLine ∧ (∀ S, cs = some S → H' S = none ∧ ∃ acc c, s1.heap.get? S = some (lstObj acc c) ∧ Vals ys acc.toList) ∧ Fn ys H') ∨ ∃ e, r = .error e ∧ False
/-- a generator that has not begun -/
def GMk (X : Cx) (pins : List (Addr × Obj)) (σ : L2.St) (k : Nat) (Stp : V → Hp → Prop) (Go : V → Prop) (Fn : List V → Hp → Prop) (u : Value) (s' : Shared) : Prop :=
  ∃ (a : Addr) (g : Nat) (c : Code) (sc : Shared) (H1 : Hp) (ex : List Addr), u = .ref a ∧ Inv X pins σ H1 sc ∧ ExOk X pins ex ∧ sc.heap.objs.size ≤ a ∧ a < s'.heap.objs.size ∧ s'.heap.IsGen a g ∧ s'.gens[g]? = some (.fresh c) ∧ s'.os = sc.os ∧ AllBare s'.gens ∧ s'.heap.NoLimit ∧ (∀ b o, sc.heap.get? b = some o → s'.heap.get? b = some o) ∧
    ∀ (A : Around) (cs : Option Addr) (s2 : Shared), Room k A → A.guards = some [] → A.frames = some X.stack → (∀ S, cs = some S → s'.heap.objs.size ≤ S ∧ ∃ c, s2.heap.get? S = some (lstObj #[] c)) → (∀ b o, s'.heap.get? b = some o → s2.heap.get? b = some o) → s2.os = sc.os → AllBare s2.gens →
      Seg (model X.prog X.w) A (RG' X.prog X.w X.stack ex H1 sc cs Fn) (YG X.prog X.w X.stack ex H1 sc cs a g Stp Go) sizeLine s2 c ((model X.prog X.w).den c) [] s2
end DL

set_option Elab.async false
set_option linter.all false
set_option maxRecDepth 100000
set_option maxHeartbeats 2000000
namespace DL
open PySem PySem.Spec PyProof.Rows L2 GenW
open Classical

/-- what is asked of a generator expression: P the def's table -/
def tGen (P : Addr) (wi : TI) (g : TG) (te : TE) (vs : List Nat) (Stp : V → Hp → Prop) (Go : V → Prop) (Fn : List V → Hp → Prop) : L2.St → Hp → Prop := fun σ H => wi σ H fun J H1 =>
  ∃ ps : Array Value, H1 P = some (.tbl ps) ∧ TriplesOk ps.toList ∧ ∀ more, TriplesOk (ps ++ more).toList → ∃ W : Nat → Nat → List V → Hp → Prop, (∃ m, W 0 m [] (upd H1 P (.tbl (ps ++ more)))) ∧ ∀ i m ys H, W i m ys H →
    (J.stop i H ∧ Fn ys H) ∨ (J.go i H ∧ ∃ Nx : V → Hp → Prop, (∀ y H', Nx y H' → ∃ m', m' < m ∧ W (i + 1) m' (ys ++ [y]) H') ∧ ∀ x H', J.yld i H x H' → g x (wipe σ vs) H' fun σ2 H2 => wipe σ2 vs = wipe σ vs ∧ te σ2 H2 fun y H4 => ys.length < 100000 ∧ (Stp y H4 ∨ (Go y ∧ Nx y H4)))
section
variable {X : Cx} {pins : List (Addr × Obj)} {σ : L2.St} {H : Hp} {s : Shared} {elt tg iter : Expr} {scope : Scope} {own : List (Str × Nat)} {gpos : Pos} {wi : TI} {g : TG} {te : TE} {k j : Nat} {c P : Addr} {Stp : V → Hp → Prop} {Go : V → Prop} {Fn : List V → Hp → Prop}
/-- the loop, woken -/
theorem gen_loop {H3 : Hp} {s3 : Shared} {fp : List Addr} {it a : Addr} {gn : Nat} {go : Obj} {code : Value} {A : Around} {cs : Option Addr} {tn : Nat → Heap → Prop} {J : It} {W : Nat → Nat → List V → Hp → Prop} {vs : List Nat}
    (hc : X.calm = true) (hco : scope.isCoroutine = false) (hsz : ∀ b ∈ fp, b ≠ a ∧ cs ≠ some b) (hgo : ∀ h : Heap, h.get? a = some go → h.IsGen a gn) (hap : ApartC (gcx X (A.deeper (genE scope s3.heap.objs.size code X.env)) s3 H3 scope (genE scope s3.heap.objs.size code X.env) fp [(a, go)]) cs)
    (T : Turn X.prog X.w X.K tg J fp it tn)
    (pg : PG (gcx X (A.deeper (genE scope s3.heap.objs.size code X.env)) s3 H3 scope (genE scope s3.heap.objs.size code X.env) fp [(a, go)]) tg g)
    (pe : PE (gcx X (A.deeper (genE scope s3.heap.objs.size code X.env)) s3 H3 scope (genE scope s3.heap.objs.size code X.env) fp [(a, go)]) elt te)
    (turn : ∀ i m ys H, W i m ys H → (J.stop i H ∧ Fn ys H) ∨ (J.go i H ∧ ∃ Nx : V → Hp → Prop, (∀ y H', Nx y H' → ∃ m', m' < m ∧ W (i + 1) m' (ys ++ [y]) H') ∧ ∀ x H', J.yld i H x H' → g x (wipe σ vs) H' fun σ2 H2 => wipe σ2 vs = wipe σ vs ∧ te σ2 H2 fun y H4 => ys.length < 100000 ∧ (Stp y H4 ∨ (Go y ∧ Nx y H4)))) :
    ∀ (m i : Nat) (ys : List V) (n : Nat) (s0 s5 : Shared) (H5 : Hp), n + ys.length = sizeLine → W i m ys H5 →
      GJ (gcx X (A.deeper (genE scope s3.heap.objs.size code X.env)) s3 H3 scope (genE scope s3.heap.objs.size code X.env) fp [(a, go)]) cs [] ys (wipe σ vs) H5 s5 → tn i s5.heap → (∀ b ∈ fp, H5 b = none) →
      Seg (model X.prog X.w) A (RG' X.prog X.w X.stack fp H3 s3 cs Fn) (YG X.prog X.w X.stack fp H3 s3 cs a gn Stp Go) n s0 (.compLoop (.GeneratorExp elt [⟨tg, iter, [], 0⟩] scope gpos) 0 (.ref it) .none (genE scope s3.heap.objs.size code X.env))
        ((model X.prog X.w).den (.compLoop (.GeneratorExp elt [⟨tg, iter, [], 0⟩] scope gpos) 0 (.ref it) .none (genE scope s3.heap.objs.size code X.env))) [] s5 := by
  generalize hge : genE scope s3.heap.objs.size code X.env = ge at hap pg pe ⊢
  have hY : ge.scope = scope := by subst hge; rfl
  generalize hX : gcx X (A.deeper ge) s3 H3 scope ge fp [(a, go)] = X' at hap pg pe ⊢
  have xP : X'.prog = X.prog := by subst hX; rfl
  have xw : X'.w = X.w := by subst hX; rfl
  have xK : X'.K = X.K := by subst hX; rfl
  have xc : X'.calm = true := by subst hX; exact hc
  have xpn : X'.pn = [(a, go)] := by subst hX; rfl
  have xfs : X'.fs = frs X.stack := by subst hX; rfl
  have xex : X'.ex = fp := by subst hX; rfl
  have xH : X'.H_0 = H3 := by subst hX; rfl
  have xs : X'.s_0 = s3 := by subst hX; rfl
  have xA : X'.A = A.deeper ge := by subst hX; rfl
  have xe : ∀ {e s}, X'.xe e s → False := by subst hX; exact fun z => z
  have xenv : X'.env = ge := by subst hX; rfl
  have fpk : ∀ {pl : List (Addr × Obj)} {σ' : L2.St} {H' : Hp} {s' : Shared} {ys : List V}, Holds cs ys pl → Inv X' pl σ' H' s' → (∀ b ∈ fp, H' b = none) → ∀ b ∈ fp, FpOk X' pl H' b := fun {pl σ' H' s' ys} hl I hn b hb => by
    have hb' : b ∈ X'.ex := by rw [xex]; exact hb
    refine ⟨hn b hb, (I.ok.exf b hb').1, I.ok.exfs b hb', .inl hb', (I.ok.exf b hb').2, fun p hp => ?_⟩
    rcases List.mem_append.mp hp with hp | hp
    · rw [xpn] at hp
      rw [List.mem_singleton.mp hp]
      exact Ne.symm (hsz b hb).1
    · exact fun e => (hsz b hb).2 (by rw [← e]; exact hl.1 p hp)
  have shape : ∀ {ip : List (Addr × Obj)} {ys : List V} {σ' : L2.St} {H' : Hp} {s' : Shared}, GJ X' cs ip ys σ' H' s' → s'.os = s3.os ∧ AllBare s'.gens ∧ s'.heap.NoLimit ∧ s'.heap.IsGen a gn ∧ Un (frs X.stack) fp H3 H' s3.heap s'.heap ∧ HOk X.prog X.w H' s'.heap ∧
      ∀ S, cs = some S → H' S = none ∧ ∃ acc c, s'.heap.get? S = some (lstObj acc c) ∧ Vals ys acc.toList := fun {ip ys σ' H' s'} h => by
    have ap := fun S (hS : cs = some S) => h.apart hS
    obtain ⟨pl, _, I⟩ := h
    refine ⟨by rw [← xs]; exact I.os, I.bare, I.nolimit, hgo _ (I.pin (a, go) (List.mem_append_left _ (by rw [xpn]; exact List.mem_singleton.mpr rfl))).1, by rw [← xfs, ← xex, ← xH, ← xs]; exact I.base, by rw [← xP, ← xw]; exact I.hok, fun S hS => ?_⟩
    obtain ⟨q1, _, _, q4⟩ := ap S hS
    exact ⟨q1, q4⟩
  intro m
  induction m using Nat.strongRecOn with
  | ind m ih =>
    intro i ys n s0 s5 H5 hn w5 hG st5 n5
    show Seg _ A _ _ _ s0 _ ((compTurn (.GeneratorExp elt [⟨tg, iter, [], 0⟩] scope gpos) 0 (.ref it) .none ge).onRaise (leaving ge)) [] s5
    rw [compTurn_gen, Sem.onRaise_eq_wrap]
    refine seg_bind_wrap (wpAny_standAt ?_)
    obtain ⟨pl, hl, I5⟩ := id hG
    rw [List.append_nil] at I5
    have hA : A.over (.compLoop (.GeneratorExp elt [⟨tg, iter, [], 0⟩] scope gpos) 0 (.ref it) .none ge) [] = X'.A := by rw [xA]; rfl
    rcases turn i m ys H5 w5 with ⟨stop, qq⟩ | ⟨hgo5, Nx, hNx, step⟩
    · have td := T.done X' xP xw xK xc i pl s5 _ H5 (fun _ _ => False) I5 (fpk hl I5 n5) st5 stop
      refine seg_bind_wrap ?_
      rw [hA]
      refine wpAny_mono td (fun r s6 ⟨hr, I6⟩ => ?_) fun _ _ z => z.elim
      subst hr
      have hG6 : GJ X' cs [] ys (wipe σ vs) H5 s6 := ⟨pl, hl, by rw [List.append_nil]; exact I6⟩
      obtain ⟨q1, q2, _, _, q5, q6, q7⟩ := shape hG6
      exact seg_end (.ok .next) (.inl ⟨.inr rfl, ys, H5, q1, q2, q5, q6, by omega, q7, qq⟩)
    · have ti := T.item X' xP xw xK xc i pl s5 _ H5 (fun _ _ => False) I5 (fpk hl I5 n5) st5 hgo5
      refine seg_bind_wrap ?_
      rw [hA]
      refine wpAny_mono ti (fun r s6 ⟨u, hr, h6⟩ => ?_) fun _ _ z => z.elim
      subst hr
      refine seg_bind_wrap ?_
      rw [hA]
      refine wpAny_mono h6 (fun _ s7 ⟨x, H7, I7, r7, y7, st7, n7⟩ => ?_) fun _ _ z => z.elim
      have I7' := I7.pinned (fpk hl I7 n7) (T.obj _ _ st7)
      refine seg_bind_wrap ?_
      rw [hA]
      have r1 := pg.run (pl ++ pinsAt fp s7.heap) s7 _ H7 x u _ I7' r7 (step x H7 y7)
      rw [xP, xw, xenv] at r1
      refine wpAny_mono r1 (fun _ s8 ⟨σ8, H8, I8, hw8, q8⟩ => ?_) fun _ _ z => (xe z).elim
      refine seg_bind_wrap ?_
      simp only [List.forIn_nil]
      refine wpAny_pure ?_
      simp only [if_true]
      have hy : ∀ v, yieldOut ge v = yieldValue v := fun v => by simp only [yieldOut, hY, hco, Bool.false_eq_true, if_false]
      simp only [hy]
      rw [Sem.bind_eq_wrap', Sem.bind_eq_wrap', Sem.wrap_wrap, Sem.wrap_wrap]
      refine seg_wrap ?_
      rw [hA]
      have r2 := pe.run (pl ++ pinsAt fp s7.heap) s8 σ8 H8 _ I8 q8
      rw [xP, xw, xenv] at r2
      refine wpAny_mono r2 (fun v s9 ⟨y, H9, I9, r9, hlen, q9⟩ => ?_) fun _ _ z => (xe z).elim
      obtain ⟨n', hn'⟩ : ∃ n', n = n' + 1 := ⟨n - 1, by rw [sizeLine_eq] at hn; omega⟩
      subst hn'
      have hG9 : GJ X' cs (pinsAt fp s7.heap) ys σ8 H9 s9 := ⟨pl, hl, I9⟩
      obtain ⟨z1, z2, z3, z4, z5, z6, z7⟩ := shape hG9
      refine seg_at (seg_yield rfl rfl rfl ⟨ys, y, H9, hn, r9, z1, z2, z3, z4, z5, z6, z7, ?_⟩)
      rcases q9 with q9 | ⟨q9, nx⟩
      · exact .inl q9
      · refine .inr ⟨q9, fun s10 hsl => ?_⟩
        obtain ⟨m', hm', w'⟩ := hNx y H9 nx
        have hG10 := hG9.woken (fun p hp => (hsz p.1 (of_pinsAt hp).1).2) hap r9 hsl
        obtain ⟨pl', hl', I10⟩ := hG10
        have pin' : ∀ b ∈ fp, ∀ o, s7.heap.get? b = some o → s10.heap.get? b = some o ∧ H9 b = none := fun b hb o e =>
          let z := I10.pin (b, o) (List.mem_append_right _ (List.mem_append_right _ (mem_pinsAt hb e)))
          ⟨z.1, z.2.1⟩
        have hwl : (wipe σ vs).length = σ8.length := by rw [← hw8, wipe_length]
        refine seg_again rfl (ih m' hm' (i + 1) (ys ++ [y]) n' s10 s10 H9 (by rw [List.length_append]; simp; omega) w' ⟨pl', hl', ?_⟩ (T.keep _ _ _ st7 fun b hb o e => (pin' b hb o e).1) fun b hb => ?_)
        · rw [List.append_nil]
          refine (I10.pins_of fun p hp => I10.pin p (List.mem_append_right _ (List.mem_append_left _ hp))).weak hwl fun j v e => ?_
          rw [← hw8] at e
          exact (wipe_some e).1
        · obtain ⟨o, e, _⟩ := T.obj _ _ st7 b hb
          exact (pin' b hb o e).2
end
end DL

set_option Elab.async false
set_option linter.all false
set_option maxRecDepth 100000
set_option maxHeartbeats 2000000
namespace DL
open PySem PySem.Spec PyProof.Rows L2 GenW
open Classical

section
variable {X : Cx} {pins : List (Addr × Obj)} {σ : L2.St} {H : Hp} {s : Shared} {elt tg iter : Expr} {scope : Scope} {own : List (Str × Nat)} {gpos : Pos} {wi : TI} {g : TG} {te : TE} {k j : Nat} {c P : Addr} {Stp : V → Hp → Prop} {Go : V → Prop} {Fn : List V → Hp → Prop}
theorem gen_core (hc : X.calm = true) (hN : X.N.Nodup) (hr : Room j X.A) (I : Inv X pins σ H s) (hi : PI X tg iter wi) (ok : GenOk X.N X.env.scope scope own) (TB : GxR.TabB X.base X.mg c P) (hcode : X.env.code = .ref c)
    (hg : ∀ (A : Around) (s : Shared) (H : Hp) (C : Addr) (code : Value) (fp : List Addr) (pn : List (Addr × Obj)), PG (gcx X (A.deeper (genE scope C code X.env)) s H scope (genE scope C code X.env) fp pn) tg g)
    (he : ∀ (A : Around) (s : Shared) (H : Hp) (C : Addr) (code : Value) (fp : List Addr) (pn : List (Addr × Obj)), Room k (A.deeper (genE scope C code X.env)) → A.guards = some [] → PE (gcx X (A.deeper (genE scope C code X.env)) s H scope (genE scope C code X.env) fp pn) elt te)
    (hs : ∀ v, genFold iter X.env v = pure v) (h : tGen P wi g te (own.map (·.2)) Stp Go Fn σ H) :
    wpAny (model X.prog X.w) X.A (eval (.GeneratorExp elt [⟨tg, iter, [], 0⟩] scope gpos) X.env) (GMk X pins σ (k + 1) Stp Go Fn) X.xe s := by
  have hfree : ∀ y ∈ scope.names, y.2 = .free → ∃ c, X.env.cells.lookup y.1 = some c := fun y hy e => by
    rcases ok.blk.free y hy e with k | k
    · exact I.ok.has _ (.inl k)
    · exact I.ok.has _ (.inr k)
  refine wpAny_GeneratorExp_make ok.co (closure_ok hfree) ok.cell ok.dot ok.blk.kind (by have := hr.dp; omega) (thn (hi.run pins s σ H _ I h) fun xv s1 hx => thn hx fun itv s2 h2 => ?_) hs
  obtain ⟨it, fp, tn, J, H2, rfl, I2, T, st2, f2, ps, hP, ht, q⟩ := h2
  refine ⟨I2.nolimit, ?_⟩
  have hPs : s2.heap.get? P = some { cls := .none, data := .fields ps } := I2.hok P _ hP
  have cd : PySem.W.CodeHd s2.heap c P := TB.code.keeps fun b u e => I2.bk b u e
  have sz : ∀ b ∈ fp, b < s2.heap.objs.size := fun b hb => by
    obtain ⟨o, e, _⟩ := T.obj _ _ st2 b hb
    exact Heap.lt_size e
  have nP : ∀ b ∈ fp, b ≠ P := fun b hb e => by
    have := (f2 b hb).1
    rw [e, hP] at this; cases this
  have cont : ∀ (code : Value) (s3 : Shared) (more : Array Value), Inv X pins σ (upd H2 P (.tbl (ps ++ more))) s3 → TriplesOk (ps ++ more).toList → (∀ b o, b ≠ P → s2.heap.get? b = some o → s3.heap.get? b = some o) → s2.heap.objs.size ≤ s3.heap.objs.size →
      wpAny (model X.prog X.w) X.A (builtinsFor X.env.globals X.env.builtins) (fun bi s₄ => ∀ h', h'.Ns s₄.heap.objs.size (fun y => if y = ".0" then some (.ref it) else none) → Heap.SameBut s₄.heap.objs.size (s₄.heap.push { cls := .type "frame", data := .dict #[] }) h' →
        GMk X pins σ (k + 1) Stp Go Fn (.ref h'.objs.size) { s₄ with
            gens := s₄.gens.push (.fresh (.compStart (.GeneratorExp elt [⟨tg, iter, [], 0⟩] scope gpos) 0 (.ref it) .none (genEnv scope (cloFrom X.env.cells scope.names []) s₄.heap.objs.size code bi X.env))),
            toks := s₄.toks + 1 + 1 + 1,
            heap := h'.push { cls := .type "generator", data := .fields #[.int s₄.gens.size 0, .str "<genexpr>" (s₄.toks + 1), .str (X.env.qual ++ "<genexpr>") (s₄.toks + 1 + 1)] } }) X.xe s3 := by
    intro code s3 more I3 ht3 kp3 sz3
    obtain ⟨bm, ob, e1, e2, e3, e4, e5, e6, e7, e8⟩ := TB.bm
    refine wpAny_builtinsFor (m := X.mg) (by rw [I3.ok.glob]; exact I3.mod.glob.keeps I3.bk) e1 e2 (I3.bk _ _ e5) e6 e7 e8 ?_
    intro h' hn' hs'
    generalize hH3 : upd H2 P (.tbl (ps ++ more)) = H3 at I3
    have szh : h'.objs.size = s3.heap.objs.size + 1 := by rw [hs'.1, Heap.size_push]
    have le3 : s3.heap.objs.size ≤ h'.objs.size := by rw [szh]; exact Nat.le_succ _
    have keep' : ∀ b o, s3.heap.get? b = some o → h'.get? b = some o := fun b o e => hs'.extBut b o (Nat.ne_of_lt (Heap.lt_size e)) (Heap.get?_push_of_some _ e)
    have f3 : ∀ b ∈ fp, FpOk X pins H3 b ∧ b < s3.heap.objs.size := fun b hb => by
      refine ⟨⟨?_, (f2 b hb).2⟩, Nat.lt_of_lt_of_le (sz b hb) sz3⟩
      rw [← hH3, upd_ne (nP b hb)]
      exact (f2 b hb).1
    generalize hgo : ({ cls := .type "generator", data := .fields #[.int s3.gens.size 0, .str "<genexpr>" (s3.toks + 1), .str (X.env.qual ++ "<genexpr>") (s3.toks + 1 + 1)] } : Obj) = go
    have hgen : ∀ h : Heap, h.get? h'.objs.size = some go → h.IsGen h'.objs.size s3.gens.size := fun h e => by
      subst hgo
      exact ⟨_, _, _, e, rfl, rfl, rfl⟩
    have hpushed : (h'.push go).get? h'.objs.size = some go := by
      subst hgo
      exact Heap.get?_push_size _ rfl
    have hgd : ∀ v, go.data ≠ .cell v := fun v z => by
      subst hgo
      cases z
    have keep5 : ∀ b o, s3.heap.get? b = some o → (h'.push go).get? b = some o := fun b o e => Heap.get?_push_of_some _ (keep' b o e)
    refine ⟨h'.objs.size, s3.gens.size, _, s3, H3, fp, rfl, I3, fun b hb => ⟨(f3 b hb).1.2.2.2.1, (f3 b hb).1.2.1, (f3 b hb).1.2.2.2.2.1, (f3 b hb).1.2.2.2.2.2⟩, by omega, ?_, hgen _ hpushed, Array.getElem?_push_size .., rfl, AllBare.push I3.bare rfl, I3.nolimit.keeps keep5, keep5, ?_⟩
    · show _ < (h'.push go).objs.size
      rw [Heap.size_push]; exact Nat.lt_succ_self _
    intro A cs s5 hrw hgu hfr hcs hk5 hos hba
    have hcs' : ∀ S, cs = some S → h'.objs.size < S ∧ ∃ c, s5.heap.get? S = some (lstObj #[] c) := fun S hS => by
      obtain ⟨z1, z2⟩ := hcs S hS
      have z1 : (h'.push go).objs.size ≤ S := z1
      rw [Heap.size_push] at z1
      exact ⟨z1, z2⟩
    have kp : ∀ b o, s3.heap.get? b = some o → s5.heap.get? b = some o := fun b o e => hk5 b o (keep5 b o e)
    have hroom : Room k (A.deeper (genE scope s3.heap.objs.size code X.env)) := hrw.deeper _
    have young : ∀ b, s3.heap.objs.size ≤ b → H3 b = none ∧ b ∉ frs X.stack := fun b hb => by
      refine ⟨I3.hok.fresh hb, fun hm => ?_⟩
      rcases List.mem_cons.mp (I3.stkSub b hm) with z | z
      · rw [z] at hb
        exact absurd (Nat.lt_of_lt_of_le I3.lt hb) (Nat.lt_irrefl _)
      · exact I3.nofs hb z
    have hea : s5.heap.get? h'.objs.size = some go := hk5 _ _ hpushed
    have hgs : GJ (gcx X (A.deeper (genE scope s3.heap.objs.size code X.env)) s3 H3 scope (genE scope s3.heap.objs.size code X.env) fp [(h'.objs.size, go)]) cs [] [] (wipe σ (own.map (·.2))) H3 s5 := by
      have pin1 : s5.heap.get? h'.objs.size = some go ∧ H3 h'.objs.size = none ∧ h'.objs.size ≠ s3.heap.objs.size ∧ h'.objs.size ∉ frs X.stack ∧ ∀ v, go.data ≠ .cell v := by
        obtain ⟨y1, y2⟩ := young h'.objs.size (by omega)
        exact ⟨hea, y1, by omega, y2, hgd⟩
      cases hcs0 : cs with
      | none =>
        refine ⟨[], ⟨by simp, fun S hS => by cases hS⟩, ?_⟩
        refine gen_start (s := s3) (pn := [(h'.objs.size, go)]) I3 ok hN f3 hrw.hd (Around.frames_deeper hfr) kp (hn'.at' fun o e => hk5 _ o (Heap.get?_push_of_some _ e)) hos hba fun p hp => ?_
        rw [List.append_nil, List.append_nil] at hp
        rw [List.mem_singleton.mp hp]
        exact pin1
      | some S =>
        obtain ⟨hS1, cS, hS2⟩ := hcs' S hcs0
        refine ⟨[(S, lstObj #[] cS)], ⟨fun p hp => by rw [List.mem_singleton.mp hp], fun S' hS' => by cases hS'; exact ⟨#[], cS, List.mem_singleton.mpr rfl, .nil⟩⟩, ?_⟩
        refine gen_start (s := s3) (pn := [(h'.objs.size, go)]) I3 ok hN f3 hrw.hd (Around.frames_deeper hfr) kp (hn'.at' fun o e => hk5 _ o (Heap.get?_push_of_some _ e)) hos hba fun p hp => ?_
        rw [List.append_nil] at hp
        rcases List.mem_append.mp hp with hp | hp
        · rw [List.mem_singleton.mp hp]
          exact pin1
        · rw [List.mem_singleton.mp hp]
          obtain ⟨y1, y2⟩ := young S (Nat.le_of_lt (Nat.lt_of_le_of_lt le3 hS1))
          exact ⟨hS2, y1, Nat.ne_of_gt (Nat.lt_of_le_of_lt le3 hS1), y2, fun v z => by cases z⟩
    have hap : ApartC (gcx X (A.deeper (genE scope s3.heap.objs.size code X.env)) s3 H3 scope (genE scope s3.heap.objs.size code X.env) fp [(h'.objs.size, go)]) cs := fun S hS => by
      obtain ⟨hS1, _⟩ := hcs' S hS
      refine ⟨Nat.le_of_lt (Nat.lt_of_le_of_lt le3 hS1), Nat.ne_of_gt (Nat.lt_of_le_of_lt le3 hS1), fun x c e z => ?_, fun p hp => ?_⟩
      · have e : (cloFrom X.env.cells scope.names []).lookup x = some c := e
        rcases cloFrom_mem (PySem.mem_of_lookup e) with hm | ⟨h1, h2⟩
        · cases hm
        · obtain ⟨c', hc'⟩ := hfree _ h1 rfl
          rw [hc'] at h2
          have h2 : c = c' := h2
          subst h2
          obtain ⟨w, z'⟩ := I3.cell _ _ hc'
          have h9 := z'.lt
          rw [z] at h9
          exact absurd (Nat.lt_trans (Nat.lt_of_le_of_lt le3 hS1) h9) (Nat.lt_irrefl _)
      · rw [List.mem_singleton.mp hp]
        exact Nat.ne_of_lt hS1
    obtain ⟨W, ⟨m0, w0⟩, turn⟩ := q more ht3
    rw [hH3] at w0
    have st5 : tn 0 s5.heap := T.keep _ _ _ st2 fun b hb o e => kp b o (kp3 b o (nP b hb) e)
    have loop := gen_loop (iter := iter) (gpos := gpos) (A := A) (cs := cs) (gn := s3.gens.size) (go := go) hc ok.co (fun b hb => ⟨Nat.ne_of_lt (Nat.lt_of_lt_of_le (f3 b hb).2 le3), fun z => absurd (Nat.lt_trans (Nat.lt_of_lt_of_le (f3 b hb).2 le3) (hcs' b z).1) (Nat.lt_irrefl _)⟩) hgen hap T
      (hg A s3 H3 s3.heap.objs.size code fp [(h'.objs.size, go)]) (he A s3 H3 s3.heap.objs.size code fp [(h'.objs.size, go)] hroom hgu) turn m0 0 [] sizeLine s5 s5 H3 (Nat.add_zero _) w0 hgs st5 fun b hb => (f3 b hb).1.1
    show Seg _ A _ _ _ s5 _ ((compStart (.GeneratorExp elt [⟨tg, iter, [], 0⟩] scope gpos) 0 (.ref it) .none (genE scope s3.heap.objs.size code X.env)).onRaise (leaving (genE scope s3.heap.objs.size code X.env))) [] s5
    unfold compStart
    rw [Sem.onRaise_eq_wrap]
    show Seg _ A _ _ _ s5 _ ((ask >>= _).wrap _ _ _ _) [] s5
    refine seg_bind_wrap (wpAny_askSetting ?_)
    split
    · exact seg_again rfl loop
    · refine seg_bind_wrap (wpAny_rule ?_)
      show Seg _ A _ _ _ s5 _ ((standAt iter.pos >>= _).wrap _ _ _ _) [] s5
      exact seg_bind_wrap (wpAny_standAt (seg_bind_wrap (T.self _ 0 s5 _ _ st5 (seg_again rfl loop))))
  cases hf : codeAmong gpos ps.toList with
  | none =>
    refine wpAny_genexprCodeX hcode (cd.code hPs ht) (cd.tab hPs) hf fun c' h' tk hx hge hlt hco' _ htab' _ => ?_
    obtain ⟨o1, vs, fI, tf, fl, tg', inF, tx, tt, op, _, _, _, _, _, _, _, _, _, htr, _⟩ := hco'
    have J := GxR.inv_tab (t' := tk) (g' := s2.gens) (d' := s2.drawn) I2 hP (fun b o hb e => hx b o hb e) htab'.2 I2.bare
    exact cont _ { s2 with heap := h', toks := tk } _ J htr (fun b o hb e => hx b o hb e) (Nat.le_trans hge (Nat.le_of_lt hlt))
  | some cv =>
    refine wpAny_genexprCode_hit hcode (cd.code hPs ht) hf ?_
    have J : Inv X pins σ (upd H2 P (.tbl (ps ++ #[]))) s2 := by
      have e : upd H2 P (.tbl (ps ++ #[])) = H2 := by
        funext b
        by_cases hb : b = P
        · rw [hb, upd_same, hP]; simp
        · rw [upd_ne hb]
      rw [e]; exact I2
    exact cont cv s2 #[] J (by simpa using ht) (fun b o _ e => e) (Nat.le_refl _)
end
end DL

set_option Elab.async false
set_option linter.all false
set_option maxRecDepth 100000
set_option maxHeartbeats 2000000
namespace DL
open PySem PySem.Spec PyProof.Rows L2 GenW
open Classical

/-! ### who walks a generator: tuple(g), all(g) -/
abbrev StpT : V → Hp → Prop := fun _ _ => False
abbrev GoT : V → Prop := fun _ => True
theorem slept_push {S : Addr} {v : Value} {s : Shared} {acc : Array Value} {c : Nat} {G : Array GenState} (hS : s.heap.get? S = some (lstObj acc c)) (hG : AllBare G) : SleptC (some S) v s { s with gens := G, heap := s.heap.update S (Obj.mapSeq (·.push v)) } := by
  obtain ⟨z1, z2, z3, z4⟩ := Slept.push (v := v) hS hG
  exact ⟨z1, z2, fun b o hb e => z3 b o (fun z => hb (by rw [z])) e, fun S' hS' acc' c' e => by cases hS'; exact z4 acc' c' e⟩
theorem slept_none {v : Value} {s : Shared} {G : Array GenState} (hG : AllBare G) : SleptC none v s { s with gens := G } :=
  ⟨rfl, hG, fun _ _ _ e => e, fun S hS => by cases hS⟩
section
variable {P : Program} {w : World} {outer : List Env} {ex : List Addr} {H1 : Hp} {sc : Shared} {a : Addr} {g : Nat} {Stp : V → Hp → Prop} {Go : V → Prop} {Fn : List V → Hp → Prop} {A : Around} {R : Result → Shared → Prop} {cs : Option Addr}
/-- ready to be asked for the next one, at most m more -/
def Rdy (P : Program) (w : World) (outer : List Env) (ex : List Addr) (H1 : Hp) (sc : Shared) (cs : Option Addr) (a : Addr) (g : Nat) (Stp : V → Hp → Prop) (Go : V → Prop) (Fn : List V → Hp → Prop) (B : Around) (m : Nat) (s : Shared) : Prop :=
  s.heap.IsGen a g ∧ s.heap.NoLimit ∧ ∃ gs, s.gens[g]? = some gs ∧ gs.Goes (model P w) B.in1 (RG' P w outer ex H1 sc cs Fn) (YG P w outer ex H1 sc cs a g Stp Go) m (.send .none) (s.setGen g .running)
/-- the consumer's list and the heap, ys being out -/
def Out (P : Program) (w : World) (outer : List Env) (ex : List Addr) (H1 : Hp) (sc : Shared) (cs : Option Addr) (ys : List V) (H' : Hp) (s1 : Shared) : Prop :=
  s1.os = sc.os ∧ AllBare s1.gens ∧ Un (frs outer) ex H1 H' sc.heap s1.heap ∧ HOk P w H' s1.heap ∧ ∀ S, cs = some S → H' S = none ∧ ∃ acc c, s1.heap.get? S = some (lstObj acc c) ∧ Vals ys acc.toList
theorem nextC {B : Around} {Q : Option Value → Shared → Prop} {E : Value → Shared → Prop} {m : Nat} {s : Shared} (hh : B.handled = none) (hd : B.depth < recursionLimit) (hca : cs ≠ some a) (hcc : cs ≠ some cStatics) (r : Rdy P w outer ex H1 sc cs a g Stp Go Fn B m s)
    (hY : ∀ v x H' ys s1, RelV x v → ys.length < sizeLine → Out P w outer ex H1 sc cs ys H' s1 → (Stp x H' ∨ (Go x ∧ ∃ m', m = m' + 1 ∧ ∀ s3, s3.gens = s1.gens → SleptC cs v s1 s3 → Rdy P w outer ex H1 sc cs a g Stp Go Fn B m' s3)) → Q (some v) s1)
    (hP : ∀ ys H' s1, ys.length ≤ sizeLine → Out P w outer ex H1 sc cs ys H' s1 → Fn ys H' → Q none s1) : wpAny (model P w) B (pyNext (.ref a)) Q E s := by
  obtain ⟨hg, hl, gs, hgs, hgo⟩ := r
  have hgl : g < s.gens.size := (Array.getElem?_eq_some_iff.mp hgs).1
  refine wpAny_gsz (n := g + 1) hgl (next_genG (F := fun n s₀ s1 => ∃ (ys : List V) (H' : Hp), s1.os = sc.os ∧ AllBare s1.gens ∧ Un (frs outer) ex H1 H' sc.heap s1.heap ∧ HOk P w H' s1.heap ∧ ys.length ≤ sizeLine ∧ (∀ S, cs = some S → H' S = none ∧ ∃ acc c, s1.heap.get? S = some (lstObj acc c) ∧ Vals ys acc.toList) ∧ Fn ys H')
    (Er := fun _ _ => False) hh hl hd hg hgs hgo (fun v s1 gs' hb hv => ?_) (fun s1 hp h' hk => ?_) fun e s1 he => he.elim)
  · intro hsz
    obtain ⟨ys, x, H', hn, rv, z1, z2, z3, z4, z5, z6, z7, z8⟩ := hv
    have hsz1 : g < s1.gens.size := by
      have q : (s1.setGen g gs').gens.size = s1.gens.size := setGen_size _ _ _
      have hsz' : g + 1 ≤ (s1.setGen g gs').gens.size := hsz
      omega
    have bare1 := allBare_setGen (g := g) (s := s1) z2 hb
    refine hY v x H' ys _ rv (by omega) ⟨z1, bare1, z5, z6, z7⟩ ?_
    rcases z8 with z8 | ⟨z8, kap⟩
    · exact .inl z8
    · refine .inr ⟨z8, ?_⟩
      cases m with
      | zero =>
        exfalso
        cases hcs : cs with
        | none => subst hcs; exact kap _ (slept_none z2)
        | some S =>
          subst hcs
          obtain ⟨_, acc, c, eS, _⟩ := z7 S rfl
          exact kap _ (slept_push eS z2)
      | succ m' =>
        refine ⟨m', rfl, fun s3 hg3 hsl => ?_⟩
        obtain ⟨y1, y2, y3, y4⟩ := hsl
        refine ⟨?_, ?_, gs', ?_, ?_⟩
        · obtain ⟨o, nm, qn, ho, r⟩ := z4
          exact ⟨o, nm, qn, y3 a o hca ho, r⟩
        · obtain ⟨mc, hns, hnn⟩ := z3
          exact ⟨mc, hns.at' fun o e => y3 _ o hcc e, hnn⟩
        · rw [hg3]; exact setGen_at hsz1
        · exact kap _ ⟨y1, allBare_setGen y2 rfl, y3, y4⟩
  · intro _
    obtain ⟨ys, H', z1, z2, z3, z4, z5, z6, z7⟩ := hp
    refine hP ys H' _ z5 ⟨z1, allBare_setGen z2 rfl, z3.trans (Un.kept hk), z4.kept hk, fun S hS => ?_⟩ z7
    obtain ⟨q1, acc, c, q2, q3⟩ := z6 S hS
    exact ⟨q1, acc, c, hk _ _ q2, q3⟩
/-- the generator's items are put behind the list at S -/
theorem drainT {S : Addr} {res : Value} (hh : A.handled = none) (hd : A.depth < recursionLimit) (hSa : S ≠ a) (hSc : S ≠ cStatics)
    (hend : ∀ s' H' ys, ys.length ≤ sizeLine → Out P w outer ex H1 sc (some S) ys H' s' → Fn ys H' → R (.ok (.ret res)) s') :
    ∀ (m : Nat) (s : Shared), Rdy P w outer ex H1 sc (some S) a g StpT GoT Fn A.in1 m s → codeAny (model P w) A (.builtin "list.extend.loop" ⟨[.ref S, .ref a, res], []⟩) R s := by
  intro m
  induction m using Nat.strongRecOn with
  | ind m ih =>
    intro s r
    refine codeAny_builtin F.entry_extend_loop ?_
    rw [Around.under_plainId F.plain_extend_loop _]
    show wpAny _ A.in1 (pyNext (.ref a) >>= fun x => _) _ _ s
    refine wpAny_bind (nextC (B := A.in1) hh hd (fun z => hSa (Option.some.inj z)) (fun z => hSc (Option.some.inj z)) r (fun v x H' ys s1 rv hlt ho hgo => ?_) fun ys H' s1 hle ho hf => wpAny_pure (hend s1 H' ys hle ho hf))
    rcases hgo with z | ⟨_, m', rfl, hk⟩
    · exact z.elim
    · obtain ⟨z1, z2, z3, z4, z5⟩ := ho
      obtain ⟨_, acc, c, eS, ra⟩ := z5 S rfl
      have hlen : acc.size < sizeLine := by
        have e1 := ra.length
        have e2 : acc.toList.length = acc.size := by simp
        omega
      show wpAny _ A.in1 (updateSeq S (fun l => l.push v) >>= fun _ => _) _ _ _
      refine wpAny_bind (wpAny_updateSeq eS rfl (wpAny_pure ⟨plainId_quiet F.plain_extend_loop _, ih m' (Nat.lt_succ_self _) _ (hk _ rfl ?_)⟩) (Nat.le_of_lt hlen) (by show (acc.push v).size ≤ sizeLine + 1; rw [Array.size_push]; omega))
      exact slept_push eS z2
/-- all(g): Q for the answer -/
theorem drainAll (hh : A.handled = none) (hd : A.depth < recursionLimit)
    (hbool : ∀ x v, RelV x v → (∃ H', Stp x H') → v = .bool false) (hbool2 : ∀ x v, RelV x v → Go x → v = .bool true)
    (hstp : ∀ s' x H' ys, Out P w outer ex H1 sc none ys H' s' → Stp x H' → R (.ok (.ret (.bool false))) s') (hend : ∀ s' H' ys, Out P w outer ex H1 sc none ys H' s' → Fn ys H' → R (.ok (.ret (.bool true))) s') :
    ∀ (m : Nat) (s : Shared), Rdy P w outer ex H1 sc none a g Stp Go Fn A.in1 m s → codeAny (model P w) A (.builtin "all.loop" ⟨[.ref a], []⟩) R s := by
  intro m
  induction m using Nat.strongRecOn with
  | ind m ih =>
    intro s r
    refine codeAny_builtin F.entry_all_loop ?_
    rw [Around.under_plainId F.plain_all_loop _]
    show wpAny _ A.in1 (pyNext (.ref a) >>= fun x => _) _ _ s
    refine wpAny_bind (nextC (B := A.in1) hh hd (fun z => by cases z) (fun z => by cases z) r (fun v x H' ys s1 rv hlt ho hgo => ?_) fun ys H' s1 hle ho hf => wpAny_bind (wpAny_rule (wpAny_pure (hend s1 H' ys ho hf))))
    rcases hgo with z | ⟨z, m', rfl, hk⟩
    · have e := hbool x v rv ⟨H', z⟩
      subst e
      refine wpAny_bind (wpAny_holding (wpAny_truthy_bool ?_))
      refine wpAny_bind (wpAny_letGo ?_)
      simp only [Bool.false_eq_true, if_false]
      first
        | exact wpAny_pure (hstp s1 x H' ys ho z)
        | exact wpAny_bind (wpAny_rule (wpAny_pure (hstp s1 x H' ys ho z)))
    · have e := hbool2 x v rv z
      subst e
      refine wpAny_bind (wpAny_holding (wpAny_truthy_bool ?_))
      refine wpAny_bind (wpAny_letGo ?_)
      simp only [if_true]
      refine wpAny_pure ⟨plainId_quiet F.plain_all_loop _, ih m' (Nat.lt_succ_self _) s1 (hk s1 rfl ?_)⟩
      exact slept_none (s := s1) ho.2.1
end
end DL

set_option Elab.async false
set_option linter.all false
set_option maxRecDepth 100000
set_option maxHeartbeats 2000000
namespace DL
open PySem PySem.Spec PyProof.Rows L2 GenW
open Classical

section
variable {X : Cx} {pins : List (Addr × Obj)} {σ : L2.St} {k : Nat} {Stp : V → Hp → Prop} {Go : V → Prop} {Fn : List V → Hp → Prop} {A : Around} {E : Value → Shared → Prop} {s : Shared} {u : Value}
/-- the items of a generator, collected -/
theorem collectG {Q : List Value → Shared → Prop} (hh : A.handled = none) (hdep : A.depth + 3 * k + 10 < recursionLimit) (hun : A.units + 16 * k + 300 < cLine) (hgu : A.guards = some []) (hfr : A.frames = some X.stack) (m : GMk X pins σ k StpT GoT Fn u s)
    (hQ : ∀ s' H' ys us, s.heap.objs.size ≤ s'.heap.objs.size → Inv X pins σ H' s' → Vals ys us → ys.length ≤ sizeLine → Fn ys H' → Q us s') : wpAny (model X.prog X.w) A (collect u) Q E s := by
  obtain ⟨a, g, c, sc, H1, ex, rfl, I, hex, ha1, ha2, hg, hgs, hos, hba, hl, hkp, wake⟩ := m
  have hSa : s.heap.objs.size ≠ a := Nat.ne_of_gt ha2
  have hcl : cStatics < s.heap.objs.size := let ⟨_, hn, _⟩ := hl; hn.lt
  have hSc : s.heap.objs.size ≠ cStatics := Nat.ne_of_gt hcl
  unfold collect
  refine wpAny_bind (wpAny_runValue (codeAny_builtin F.entry_proto_collect ?_))
  rw [Around.under_plainId F.plain_proto_collect _]
  show wpAny _ A.in1 (newList [] >>= fun l => again _) _ _ s
  refine wpAny_bind (wpAny_newObj_type (wpAny_pure ⟨plainId_quiet F.plain_list_iadd _, codeAny_builtin F.entry_list_iadd ?_⟩))
  rw [Around.under_plainId F.plain_list_iadd _]
  show wpAny _ A.in1 (Builtin.List.listExtendWith (.ref s.heap.objs.size) (.ref a) (.ref s.heap.objs.size)) _ _ _
  unfold Builtin.List.listExtendWith
  have k1 : ∀ b o, s.heap.get? b = some o → (s.heap.push { cls := .type "list", data := .seq ([] : List Value).toArray }).get? b = some o := fun b o e => Heap.get?_push_of_some _ e
  have hS1 : (s.heap.push { cls := .type "list", data := .seq ([] : List Value).toArray }).get? s.heap.objs.size = some { cls := .type "list", data := .seq ([] : List Value).toArray } := Heap.get?_push_size _ rfl
  have gty : ∀ {h : Heap}, (∀ b o, s.heap.get? b = some o → h.get? b = some o) → h.IsGen a g := fun {h} q => hg.keeps q
  refine wpAny_bind (wpAny_typeOf (Heap.IsGen.typeIs (s := { s with heap := _ }) (gty k1)) ?_)
  simp only [show Builtin.List.listSameRef (.ref s.heap.objs.size) (.ref a) = false from by simp [Builtin.List.listSameRef, hSa], show (Value.type "generator" == Value.type "list") = false from by decide, show (Value.type "generator" == Value.type "tuple") = false from by decide,
    Bool.or_false, Bool.false_eq_true, if_false]
  refine wpAny_bind (wpAny_pyIter_gen (s := { s with heap := _ }) (gty k1) (wpAny_bind (wpAny_holding ?_)))
  unfold Builtin.List.listLengthHint
  refine wpAny_bind (wpAny_specialOf (Heap.IsGen.typeIs (s := { s with heap := _ }) (gty k1)) F.gen_no_len ?_)
  show wpAny _ A.in1 (specialOf (Value.ref a) (Str.ofString "__length_hint__") >>= fun _ => _) _ _ _
  refine wpAny_bind (wpAny_specialOf (Heap.IsGen.typeIs (s := { s with heap := _ }) (gty k1)) F.gen_no_hint (wpAny_pure ?_))
  show wpAny _ A.in1 (rule "list.extend.makes-room" >>= fun _ => Builtin.List.listTouch (.ref s.heap.objs.size) >>= fun _ => again _) _ _ _
  refine wpAny_bind (wpAny_rule (wpAny_bind ?_))
  show wpAny _ A.in1 (updateSeq s.heap.objs.size (fun l => l.push .none) >>= fun _ => updateSeq s.heap.objs.size (fun l => l.pop)) _ _ _
  refine wpAny_bind (wpAny_updateSeq hS1 rfl ?_)
  have hS2 := Heap.get?_update_self (Obj.mapSeq (·.push Value.none)) hS1 rfl
  refine wpAny_updateSeq hS2 rfl ?_
  have hS3 := Heap.get?_update_self (Obj.mapSeq (·.pop)) hS2 rfl
  have up : ∀ (h : Heap) (f : Obj → Obj), (∀ b o, s.heap.get? b = some o → h.get? b = some o) → ∀ b o, s.heap.get? b = some o → (h.update s.heap.objs.size f).get? b = some o := fun h f q b o e =>
    (Heap.get?_update_other _ _ (Nat.ne_of_gt (Heap.lt_size e))).trans (q b o e)
  have k3 := up _ (Obj.mapSeq (·.pop)) (up _ (Obj.mapSeq (·.push Value.none)) k1)
  refine wpAny_pure ⟨plainId_quiet F.plain_extend_loop _, drainT (P := X.prog) (w := X.w) (outer := X.stack) (ex := ex) (H1 := H1) (sc := sc) (Fn := Fn) (g := g) (A := A) (S := s.heap.objs.size) (a := a) hh (by omega) hSa hSc (fun s' H' ys hle ho hf => ?_) sizeLine _ ⟨gty k3, hl.keeps k3, _, hgs, rfl, ?_⟩⟩
  · obtain ⟨z1, z2, z3, z4, z5⟩ := ho
    obtain ⟨hSn, acc, cc, eS, ra⟩ := z5 _ rfl
    show wpAny _ A (load s.heap.objs.size >>= fun _ => _) _ _ s'
    refine wpAny_bind (wpAny_load eS ?_)
    refine wpAny_pure (hQ s' H' ys acc.toList ?_ (I.call' (ch := ex) z1 z3 z4 z2 hex) ra hle hf)
    exact Nat.le_of_lt (Heap.lt_size eS)
  · refine wake _ (some s.heap.objs.size) _ ⟨hh, ?_, ?_⟩ hgu hfr (fun S hS => by cases hS; exact ⟨Nat.le_refl _, _, hS3⟩) k3 hos (allBare_setGen (s := { s with heap := _ }) hba rfl)
    · show A.depth + 3 * k + 5 < _
      omega
    · show A.units + 1 + 1 + 16 * k + 200 < _
      omega
/-- tuple(g) -/
theorem call_tupleG {Q : Value → Shared → Prop} (hr : Room (k + 8) A) (hgu : A.guards = some []) (hfr : A.frames = some X.stack) (m : GMk X pins σ k StpT GoT Fn u s)
    (hQ : ∀ s' H' ys acc, Inv X pins σ H' s' → Vals ys acc.toList → ys.length ≤ sizeLine → Fn ys H' → Q (.ref s'.heap.objs.size) { s' with heap := s'.heap.push { cls := .type "tuple", data := .seq acc } }) :
    wpAny (model X.prog X.w) A (call (.type "tuple") [u]) Q E s := by
  obtain ⟨a, hu, hTI⟩ : ∃ a, u = .ref a ∧ s.TypeIs (.ref a) "generator" := by
    obtain ⟨a, g, c, sc, H1, ex, hu, _, _, _, _, hg, _⟩ := m
    exact ⟨a, hu, hg.typeIs⟩
  subst hu
  refine callType_codes (Q₁ := fun obj s₁ => s₁.TypeIs obj "tuple" ∧ Q obj s₁) F.called_tuple (F.typeCall_tuple_1 _) F.entry_object_init (codeAny_of_tree ?_) fun obj s₁ h₁ =>
    ⟨h₁.1, F.args_object_init_2 obj _, object_init_meets F.called_tuple.init.lookup F.called_tuple.made (by decide) X.prog X.w A.in1 _ s₁ ⟨h₁.1, rfl, h₁.2⟩⟩
  show wpAny _ A.in1.in1 (checkBuiltinCall "tuple.__new__" ⟨[.type "tuple", .ref a], []⟩ >>= fun _ => again (.builtin "tuple.__new__" ⟨[.type "tuple", .ref a], []⟩)) _ _ s
  refine wpAny_bind (wpAny_of_eq (F.newCall_tuple_1 _) (wpAny_pure ⟨plainId_quiet F.plain_tuple_new _, codeAny_builtin F.entry_tuple_new ?_⟩))
  rw [Around.under_plainId F.plain_tuple_new _]
  have hsub := sub_tuple_self
  have hinit := init_tuple_lookup
  have hmh := madeHere_tuple
  have hd := hr.dp
  have hu := hr.un
  wp_walk using wpAny_typeOf hTI, collectG (k := k) (X := X) (pins := pins) (σ := σ) (Fn := Fn) (show A.in1.in1.handled = none from hr.hd) (show A.depth + 3 * k + 10 < _ by omega) (show A.units + 1 + 1 + 16 * k + 300 < _ by omega) hgu hfr m
  intro s' H' ys us hsz I' rv hle hf
  show wpAny _ _ (Builtin.Tuple.tupleExact us.toArray >>= fun v => _) _ _ _
  unfold Builtin.Tuple.tupleExact
  have hlu : us.length ≤ sizeLine := by rw [← rv.length]; exact hle
  refine wpAny_bind (wpAny_newObj_type (wpAny_pure ?_) (by show us.toArray.size ≤ sizeLine; simpa using hlu))
  have e := hQ s' H' ys us.toArray I' (by simpa using rv) hle hf
  exact ⟨⟨_, Heap.get?_push_size _ rfl, rfl⟩, e⟩
/-- all(g) -/
theorem call_allG {Q : Value → Shared → Prop} {W1 : Prop} (hr : Room (k + 8) A) (hgu : A.guards = some []) (hfr : A.frames = some X.stack) (m : GMk X pins σ k Stp Go Fn u s)
    (hbool : ∀ x v, RelV x v → (∃ H', Stp x H') → v = .bool false) (hbool2 : ∀ x v, RelV x v → Go x → v = .bool true)
    (hs : ∀ s' H' x, Inv X pins σ H' s' → Stp x H' → Q (.bool false) s') (hf : ∀ s' H' ys, Inv X pins σ H' s' → Fn ys H' → Q (.bool true) s') :
    wpAny (model X.prog X.w) A (call (.builtin "all") [u]) Q E s := by
  obtain ⟨a, g, c, sc, H1, ex, rfl, I, hex, ha1, ha2, hg, hgs, hos, hba, hl, hkp, wake⟩ := m
  have hd := hr.dp
  have hu := hr.un
  refine call_function_tree F.kind_all F.plain_all F.entry_all (F.args_all1 _) ?_
  unfold Builtin.«all»
  refine wpAny_bind (m := oneArg "all" _) (wpAny_pure (wpAny_bind (wpAny_pyIter_gen hg ?_)))
  refine wpAny_pure ⟨plainId_quiet F.plain_all_loop _, drainAll (P := X.prog) (w := X.w) (outer := X.stack) (ex := ex) (H1 := H1) (sc := sc) (Stp := Stp) (Go := Go) (Fn := Fn) (g := g) (a := a) hr.hd (by omega) hbool hbool2
    (fun s' x H' ys ho hx => hs s' H' x (I.call' (ch := ex) ho.1 ho.2.2.1 ho.2.2.2.1 ho.2.1 hex) hx) (fun s' H' ys ho hx => hf s' H' ys (I.call' (ch := ex) ho.1 ho.2.2.1 ho.2.2.2.1 ho.2.1 hex) hx) sizeLine s ⟨hg, hl, _, hgs, rfl, ?_⟩⟩
  refine wake _ none _ ⟨hr.hd, ?_, ?_⟩ hgu hfr (fun S hS => by cases hS) (fun _ _ e => e) hos (allBare_setGen (s := s) hba rfl)
  · show A.depth + 3 * k + 5 < _
    omega
  · show A.units + 1 + 1 + 16 * k + 200 < _
    omega
end

/-! ### the expressions -/
section
variable {X : Cx} {T : TbT} {W : WX} {elt tg iter : Expr} {scope : Scope} {own : List (Str × Nat)} {gpos p pos : Pos} {wi : TI} {g : TG} {te : TE} {k j : Nat} {c P : Addr}
theorem pe_tupG (hc : X.calm = true) (hN : X.N.Nodup) (hr : Room (k + 9) X.A) (hgu : X.A.guards = some []) (hi : PI X tg iter wi) (ok : GenOk X.N X.env.scope scope own) (TB : GxR.TabB X.base X.mg c P) (hcode : X.env.code = .ref c)
    (hg : ∀ (A : Around) (s : Shared) (H : Hp) (C : Addr) (code : Value) (fp : List Addr) (pn : List (Addr × Obj)), PG (gcx X (A.deeper (genE scope C code X.env)) s H scope (genE scope C code X.env) fp pn) tg g)
    (he : ∀ (A : Around) (s : Shared) (H : Hp) (C : Addr) (code : Value) (fp : List Addr) (pn : List (Addr × Obj)), Room k (A.deeper (genE scope C code X.env)) → A.guards = some [] → PE (gcx X (A.deeper (genE scope C code X.env)) s H scope (genE scope C code X.env) fp pn) elt te)
    (hgl : Gl X "tuple") (hm : X.mg "tuple" = none) (hs : ∀ v, genFold iter X.env v = pure v := by intro _; rfl)
    (hst : starEach [.GeneratorExp elt [⟨tg, iter, [], 0⟩] scope gpos] X.env = (false, eval (.GeneratorExp elt [⟨tg, iter, [], 0⟩] scope gpos) X.env) :: starEach [] X.env := by rfl) :
    PE X (.Call (.Name "tuple" p) [.GeneratorExp elt [⟨tg, iter, [], 0⟩] scope gpos] [] pos) (fun σ H Q => tGen P wi g te (own.map (·.2)) StpT GoT (fun ys H' => ∀ a, H' a = none → Q (.ref a) (upd H' a (.tup ys))) σ H) := by
  refine ⟨fun pins s σ H Q I h => ?_⟩
  refine wpAny_Call_Name_kw (ld_blt I hgl hm boot_tuple ?_ (by decide) (by decide))
  refine PyProof.Rows.callWith_type1 ?_ hst rfl
  rw [hst]
  show wpAny _ _ (spliced ((false, eval (.GeneratorExp elt [⟨tg, iter, [], 0⟩] scope gpos) X.env) :: backTo pos (starEach [] X.env))) _ _ s
  refine Calls.spliced_cons (wpAny_mono (gen_core hc hN hr I hi ok TB hcode hg he hs h) (fun u s1 m => ?_) fun _ _ z => z)
  refine Calls.spliced_nil ?_
  refine call_tupleG (hr.mono (by omega)) hgu I.ok.frames m fun s' H' ys acc I' rv hle hf => ?_
  have hn : H' s'.heap.objs.size = none := I'.hok.fresh (Nat.le_refl _)
  refine ⟨.ref s'.heap.objs.size, _, I'.laid (t' := s'.toks) (a := s'.heap.objs.size) (o := .tup ys) (fun b o e => Heap.get?_push_of_some _ e) (Nat.le_refl _) ⟨hle, acc.toList, rv, ?_⟩, rfl, hf _ hn⟩
  exact ⟨_, Heap.get?_push_size _ rfl, rfl, 0, by simp⟩
theorem pe_allG (hc : X.calm = true) (hN : X.N.Nodup) (hr : Room (k + 9) X.A) (hgu : X.A.guards = some []) (hi : PI X tg iter wi) (ok : GenOk X.N X.env.scope scope own) (TB : GxR.TabB X.base X.mg c P) (hcode : X.env.code = .ref c)
    (hg : ∀ (A : Around) (s : Shared) (H : Hp) (C : Addr) (code : Value) (fp : List Addr) (pn : List (Addr × Obj)), PG (gcx X (A.deeper (genE scope C code X.env)) s H scope (genE scope C code X.env) fp pn) tg g)
    (he : ∀ (A : Around) (s : Shared) (H : Hp) (C : Addr) (code : Value) (fp : List Addr) (pn : List (Addr × Obj)), Room k (A.deeper (genE scope C code X.env)) → A.guards = some [] → PE (gcx X (A.deeper (genE scope C code X.env)) s H scope (genE scope C code X.env) fp pn) elt te)
    (hgl : Gl X "all") (hm : X.mg "all" = none) (hs : ∀ v, genFold iter X.env v = pure v := by intro _; rfl)
    (hst : starEach [.GeneratorExp elt [⟨tg, iter, [], 0⟩] scope gpos] X.env = (false, eval (.GeneratorExp elt [⟨tg, iter, [], 0⟩] scope gpos) X.env) :: starEach [] X.env := by rfl) :
    PE X (.Call (.Name "all" p) [.GeneratorExp elt [⟨tg, iter, [], 0⟩] scope gpos] [] pos) (fun σ H Q => tGen P wi g te (own.map (·.2)) (fun x H' => x = .bl false ∧ Q (.bl false) H') (fun x => x = .bl true) (fun _ H' => Q (.bl true) H') σ H) := by
  refine ⟨fun pins s σ H Q I h => ?_⟩
  refine wpAny_Call_Name_kw (ld_blt I hgl hm (by decide +kernel : bootBuiltins "all" = some (.builtin "all")) ?_ (by decide) (by decide))
  refine PyProof.Rows.callWith_builtin1 ?_ hst rfl
  rw [hst]
  show wpAny _ _ (spliced ((false, eval (.GeneratorExp elt [⟨tg, iter, [], 0⟩] scope gpos) X.env) :: backTo pos (starEach [] X.env))) _ _ s
  refine Calls.spliced_cons (wpAny_mono (gen_core hc hN hr I hi ok TB hcode hg he hs h) (fun u s1 m => ?_) fun _ _ z => z)
  refine Calls.spliced_nil ?_
  refine call_allG (W1 := True) (hr.mono (by omega)) hgu I.ok.frames m (fun x v r ⟨H', e, _⟩ => by subst e; exact r) (fun x v r e => by subst e; exact r) (fun s' H' x I' hx => ⟨.bl false, H', I', rfl, hx.2⟩) fun s' H' ys I' hx => ⟨.bl true, H', I', rfl, hx⟩
end
end DL

set_option Elab.async false
set_option linter.all false
set_option maxRecDepth 100000
set_option maxHeartbeats 1000000
namespace DL
open PySem PySem.Spec PyProof.Rows L2
open Classical

theorem EnvR.pnil {K : PySem.W.Frag} {pn : List (Addr × Obj)} {H : Hp} {ρ : List Addr} {env : Env'} {σ : L2.St} (h : EnvR K [] H ρ env σ) : EnvR K pn H ρ env σ :=
  ⟨h.len, fun i s hi => by
    obtain ⟨ov, h1, h2⟩ := h.ok i s hi
    refine ⟨ov, h1, ?_⟩
    cases s with
    | no => trivial
    | d x => exact h2
    | exc c w =>
      obtain ⟨a, oe, dd, vw, _, hm, _⟩ := h2
      cases hm
    | clo C => exact h2⟩
theorem pe_blk' {X : Cx} {T : TbT} {e : Expr} {f : ES} (h : DE X T noW e f) : PE X e (tE0 X.K T f) := PE_imp h fun σ H Q ⟨ρ, env, G, rg, ev, q⟩ => ⟨ρ, env, G, ⟨rg, ev.pnil⟩, by
  revert q
  cases f env G with
  | ok d G' => exact fun q => q
  | ex c w G' => exact fun q => q.elim
  | bad => exact fun q => q⟩
/-- the code at c, its table at P, where all is called so; no other code has this table -/
def TIn (T : TbT) (c P : Addr) (t : Option Str) : Prop := (c, P, t) ∈ T ∧ ∀ p ∈ T, p.2.1 = P → p.2.2 = t
/-- a def's table grows -/
theorem RG.grow {K : PySem.W.Frag} {T : TbT} {ρ : List Addr} {G : Hh} {H : Hp} {P : Addr} {ps more : Array Value} (rg : RG K T ρ G H) (hP : H P = some (.tbl ps)) (hu : ∀ p ∈ T, p.2.1 = P → p.2.2 = none) (ht : TriplesOk (ps ++ more).toList) :
    RG K T ρ G (upd H P (.tbl (ps ++ more))) ∧ Ext ρ H ρ (upd H P (.tbl (ps ++ more))) := by
  have e : Ext ρ H ρ (upd H P (.tbl (ps ++ more))) := by
    refine ⟨⟨[], by simp, by simp⟩, fun b o h _ t => ?_, fun b qs h => ?_, fun b h => ?_⟩
    · rw [upd_ne (fun z => t ps (by rw [z, hP] at h; exact (Option.some.inj h).symm))]; exact h
    · by_cases hb : b = P
      · subst hb
        rw [hP] at h
        cases h
        exact ⟨more, upd_same⟩
      · exact ⟨#[], by rw [upd_ne hb]; simpa using h⟩
    · by_cases hb : b = P
      · subst hb
        rw [upd_same] at h; cases h
      · rw [upd_ne hb] at h; exact h
  refine ⟨⟨rg.nd, rg.len, fun l a mo h1 h2 => ?_, fun p hp => ?_⟩, e⟩
  · have g := rg.ok l a mo h1 h2
    cases mo with
    | lst xs =>
      obtain ⟨vs, hv, r⟩ := g
      refine ⟨vs, ?_, e.reps rg r⟩
      rw [upd_ne (fun z => by rw [z, hP] at hv; cases hv)]
      exact hv
  · by_cases hb : p.2.1 = P
    · rw [hu p hp hb, hb]
      exact ⟨_, upd_same, ht⟩
    · have h0 := rg.tab p hp
      revert h0
      cases p.2.2 with
      | none =>
        rintro ⟨qs, h1, h2⟩
        exact ⟨qs, by rw [upd_ne hb]; exact h1, h2⟩
      | some q =>
        rintro ⟨qs, h1, h2, h3⟩
        refine ⟨qs, by rw [upd_ne hb]; exact h1, h2, fun pos cv hc => ?_⟩
        obtain ⟨cc, e1, e2⟩ := h3 pos cv hc
        refine ⟨cc, e1, ?_⟩
        rw [upd_ne (fun z => LamX.codeO_ne ps (by rw [z, hP] at e2; exact (Option.some.inj e2).symm))]
        exact e2

/-! ### tuple(e for x in xs), all(e for x in xs) -/
noncomputable def tgL (a : GS) (f : ES) (chk : Hh → Prop) (env : Env') : List D → List D → Hh → RE
  | [], acc, G => if chk G ∧ acc.length ≤ 100000 then .ok (mkTup acc) G else .bad
  | x :: xs, acc, G => if chk G ∧ acc.length < 100000 then (match a x env G with
    | some (env2, G2) => (match f env2 G2 with
      | .ok y G3 => tgL a f chk env xs (acc ++ [y]) G3
      | _ => .bad)
    | none => .bad) else .bad
noncomputable def eTupG (src : IS) (a : GS) (f : ES) (vs : List Nat) : ES := fun env G => match src env G with
  | .ok xs chk G1 => tgL a f chk (wipeE (cutX env) vs) xs [] G1
  | .ex c w G1 => .ex c w G1
  | .bad => .bad
noncomputable def agL (a : GS) (f : ES) (chk : Hh → Prop) (env : Env') : Nat → List D → Hh → RE
  | n, [], G => if chk G then .ok (.dat (.bool true)) G else .bad
  | n, x :: xs, G => if chk G ∧ n < 100000 then (match a x env G with
    | some (env2, G2) => (match f env2 G2 with
      | .ok (.dat (.bool true)) G3 => agL a f chk env (n + 1) xs G3
      | .ok (.dat (.bool false)) G3 => .ok (.dat (.bool false)) G3
      | _ => .bad)
    | none => .bad) else .bad
noncomputable def eAllG (src : IS) (a : GS) (f : ES) (vs : List Nat) : ES := fun env G => match src env G with
  | .ok xs chk G1 => agL a f chk (wipeE (cutX env) vs) 0 xs G1
  | .ex c w G1 => .ex c w G1
  | .bad => .bad
section
variable {X : Cx} {T : TbT} {W : WX} {src : IS} {a : GS} {f : ES} {vs : List Nat} {c P : Addr}
theorem tE_tg {σ : L2.St} {H : Hp} {Q : VK} (hP : TIn T c P none) (q : tE X T W (eTupG src a f vs) σ H Q) :
    tGen P (tI X T W src) (tG0 X.K T vs a) (tE0 X.K T f) vs StpT GoT (fun ys H' => ∀ p, H' p = none → Q (.ref p) (upd H' p (.tup ys))) σ H := by
  obtain ⟨ρ, env, G, sr, p⟩ := q
  refine ⟨ρ, env, G, sr, ?_⟩
  unfold eTupG at p
  cases q : src env G with
  | ok xs chk G1 =>
    rw [q] at p
    intro ρ1 H1 J e1 rg1 it
    dsimp only at p
    obtain ⟨ps, hps, hts⟩ := rg1.tab (c, P, none) hP.1
    refine ⟨ps, hps, hts, fun more hm => ?_⟩
    obtain ⟨rg2, e2⟩ := rg1.grow hps hP.2 hm
    refine ⟨fun i m ys H' => ∃ ρ' G' acc, Ext ρ1 (upd H1 P (.tbl (ps ++ more))) ρ' H' ∧ RG X.K T ρ' G' H' ∧ i + m = xs.length ∧ Reps X.K H' ρ' acc ys ∧ PostE X T W σ ρ' H' (tgL a f chk (wipeE (cutX env) vs) (xs.drop i) acc G') Q,
      ⟨xs.length, ρ1, G1, [], Ext.refl, rg2, by omega, rfl, PostE.ext (e1.trans e2) p⟩, fun i m ys H' hW => ?_⟩
    obtain ⟨ρ', G', acc, e', rg', hm', ra, p'⟩ := hW
    have ew : EnvR X.K [] H' ρ' (wipeE (cutX env) vs) (wipe σ vs) := ((e1.trans e2).trans e').envr sr.rg sr.ev |>.cut.wipe vs
    cases hd : xs.drop i with
    | nil =>
      rw [hd] at p'
      unfold tgL at p'
      split at p'
      · rename_i hck
        have hl : xs.length ≤ i := by
          have := congrArg List.length hd
          simp at this; omega
        exact .inl ⟨(it ρ' G' H' i (e2.trans e') rg' hck.1).2 hl, fun pp hp => new_tup rg' hp ra p'⟩
      · exact p'.elim
    | cons d ds =>
      rw [hd] at p'
      have hi : xs[i]? = some d := by
        rw [← List.head?_drop, hd]; rfl
      have hds : xs.drop (i + 1) = ds := by
        rw [← List.drop_drop, hd]; rfl
      have hlt : i < xs.length := (List.getElem?_eq_some_iff.mp hi).1
      unfold tgL at p'
      split at p'
      · rename_i hck
        obtain ⟨hgo, hy⟩ := (it ρ' G' H' i (e2.trans e') rg' hck.1).1 d hi
        refine .inr ⟨hgo, fun y H2 => ∃ ρ2 G2 yd, Ext ρ1 (upd H1 P (.tbl (ps ++ more))) ρ2 H2 ∧ RG X.K T ρ2 G2 H2 ∧ Reps X.K H2 ρ2 (acc ++ [yd]) (ys ++ [y]) ∧ PostE X T W σ ρ2 H2 (tgL a f chk (wipeE (cutX env) vs) ds (acc ++ [yd]) G2) Q, fun y H2 hN => ?_, fun x H2 hyl => ?_⟩
        · obtain ⟨ρ2, G2, yd, x2, rg2, r2, p2⟩ := hN
          exact ⟨m - 1, by omega, ρ2, G2, acc ++ [yd], x2, rg2, by omega, r2, by rw [hds]; exact p2⟩
        · obtain ⟨x2, rg2, r2⟩ := hy x H2 hyl
          refine ⟨ρ', wipeE (cutX env) vs, G', d, rg2, x2.envr rg' ew, r2, ?_⟩
          cases q3 : a d (wipeE (cutX env) vs) G' with
          | none => rw [q3] at p'; exact p'.elim
          | some z =>
            obtain ⟨env3, G3⟩ := z
            rw [q3] at p'
            intro σ3 ρ3 H3 x3 rg3 ev3 w3
            refine ⟨by rw [w3]; exact wipe_wipe, ρ3, env3, G3, rg3, ev3, ?_⟩
            dsimp only at p'
            cases q5 : f env3 G3 with
            | ok y G5 =>
              rw [q5] at p'
              intro v5 ρ5 H5 x5 rg5 r5
              have xx5 := x2.trans (x3.trans x5)
              refine ⟨by rw [ra.length]; exact hck.2, .inr ⟨trivial, ρ5, G5, y, e'.trans xx5, rg5, (xx5.reps rg' ra).append ⟨v5, [], rfl, r5, rfl⟩, PostE.ext xx5 p'⟩⟩
            | ex c w G5 => rw [q5] at p'; exact p'
            | bad => rw [q5] at p'; exact p'
      · exact p'.elim
  | ex c w G1 => rw [q] at p; exact p
  | bad => rw [q] at p; exact p
theorem tE_ag {σ : L2.St} {H : Hp} {Q : VK} (hP : TIn T c P none) (q : tE X T W (eAllG src a f vs) σ H Q) :
    tGen P (tI X T W src) (tG0 X.K T vs a) (tE0 X.K T f) vs (fun x H' => x = .bl false ∧ Q (.bl false) H') (fun x => x = .bl true) (fun _ H' => Q (.bl true) H') σ H := by
  obtain ⟨ρ, env, G, sr, p⟩ := q
  refine ⟨ρ, env, G, sr, ?_⟩
  unfold eAllG at p
  cases q : src env G with
  | ok xs chk G1 =>
    rw [q] at p
    intro ρ1 H1 J e1 rg1 it
    dsimp only at p
    obtain ⟨ps, hps, hts⟩ := rg1.tab (c, P, none) hP.1
    refine ⟨ps, hps, hts, fun more hm => ?_⟩
    obtain ⟨rg2, e2⟩ := rg1.grow hps hP.2 hm
    refine ⟨fun i m ys H' => ∃ ρ' G', Ext ρ1 (upd H1 P (.tbl (ps ++ more))) ρ' H' ∧ RG X.K T ρ' G' H' ∧ i + m = xs.length ∧ PostE X T W σ ρ' H' (agL a f chk (wipeE (cutX env) vs) ys.length (xs.drop i) G') Q,
      ⟨xs.length, ρ1, G1, Ext.refl, rg2, by omega, PostE.ext (e1.trans e2) p⟩, fun i m ys H' hW => ?_⟩
    obtain ⟨ρ', G', e', rg', hm', p'⟩ := hW
    have ew : EnvR X.K [] H' ρ' (wipeE (cutX env) vs) (wipe σ vs) := ((e1.trans e2).trans e').envr sr.rg sr.ev |>.cut.wipe vs
    cases hd : xs.drop i with
    | nil =>
      rw [hd] at p'
      unfold agL at p'
      split at p'
      · rename_i hck
        have hl : xs.length ≤ i := by
          have := congrArg List.length hd
          simp at this; omega
        exact .inl ⟨(it ρ' G' H' i (e2.trans e') rg' hck).2 hl, p' _ ρ' H' Ext.refl rg' rfl⟩
      · exact p'.elim
    | cons d ds =>
      rw [hd] at p'
      have hi : xs[i]? = some d := by
        rw [← List.head?_drop, hd]; rfl
      have hds : xs.drop (i + 1) = ds := by
        rw [← List.drop_drop, hd]; rfl
      have hlt : i < xs.length := (List.getElem?_eq_some_iff.mp hi).1
      unfold agL at p'
      split at p'
      · rename_i hck
        obtain ⟨hgo, hy⟩ := (it ρ' G' H' i (e2.trans e') rg' hck.1).1 d hi
        refine .inr ⟨hgo, fun y H2 => ∃ ρ2 G2, Ext ρ1 (upd H1 P (.tbl (ps ++ more))) ρ2 H2 ∧ RG X.K T ρ2 G2 H2 ∧ PostE X T W σ ρ2 H2 (agL a f chk (wipeE (cutX env) vs) (ys.length + 1) ds G2) Q, fun y H2 hN => ?_, fun x H2 hyl => ?_⟩
        · obtain ⟨ρ2, G2, x2, rg2, p2⟩ := hN
          exact ⟨m - 1, by omega, ρ2, G2, x2, rg2, by omega, by rw [hds, List.length_append]; exact p2⟩
        · obtain ⟨x2, rg2, r2⟩ := hy x H2 hyl
          refine ⟨ρ', wipeE (cutX env) vs, G', d, rg2, x2.envr rg' ew, r2, ?_⟩
          cases q3 : a d (wipeE (cutX env) vs) G' with
          | none => rw [q3] at p'; exact p'.elim
          | some z =>
            obtain ⟨env3, G3⟩ := z
            rw [q3] at p'
            intro σ3 ρ3 H3 x3 rg3 ev3 w3
            refine ⟨by rw [w3]; exact wipe_wipe, ρ3, env3, G3, rg3, ev3, ?_⟩
            dsimp only at p'
            cases q5 : f env3 G3 with
            | ok y G5 =>
              rw [q5] at p'
              intro v5 ρ5 H5 x5 rg5 r5
              have xx5 := x2.trans (x3.trans x5)
              split at p'
              · rename_i G6 h6
                cases h6
                have r5 : v5 = .bl true := r5
                exact ⟨hck.2, .inr ⟨r5, ρ5, G5, e'.trans xx5, rg5, PostE.ext xx5 p'⟩⟩
              · rename_i G6 h6
                cases h6
                have r5 : v5 = .bl false := r5
                exact ⟨hck.2, .inl ⟨r5, p' _ ρ5 H5 xx5 rg5 rfl⟩⟩
              · exact p'.elim
            | ex c w G5 => rw [q5] at p'; exact p'
            | bad => rw [q5] at p'; exact p'
      · exact p'.elim
  | ex c w G1 => rw [q] at p; exact p
  | bad => rw [q] at p; exact p
variable {scope : Scope} {own : List (Str × Nat)} {elt tg iter : Expr} {gpos p pos : Pos} {k : Nat}
theorem de_tupG (hc : X.calm = true) (hN : X.N.Nodup) (hr : Room (k + 9) X.A) (hgu : X.A.guards = some []) (hi : DI X T W tg iter src) (ok : GenOk X.N X.env.scope scope own) (TB : GxR.TabB X.base X.mg c P) (hcode : X.env.code = .ref c) (hP : TIn T c P none)
    (hg : ∀ (A : Around) (s : Shared) (H : Hp) (C : Addr) (code : Value) (fp : List Addr) (pn : List (Addr × Obj)), DG0 (gcx X (A.deeper (genE scope C code X.env)) s H scope (genE scope C code X.env) fp pn) T (own.map (·.2)) tg a)
    (he : ∀ (A : Around) (s : Shared) (H : Hp) (C : Addr) (code : Value) (fp : List Addr) (pn : List (Addr × Obj)), Room k (A.deeper (genE scope C code X.env)) → (A.deeper (genE scope C code X.env)).guards = some [] → DE (gcx X (A.deeper (genE scope C code X.env)) s H scope (genE scope C code X.env) fp pn) T noW elt f)
    (hgl : Gl X "tuple") (hm : X.mg "tuple" = none) (hs : ∀ v, genFold iter X.env v = pure v := by intro _; rfl)
    (hst : starEach [.GeneratorExp elt [⟨tg, iter, [], 0⟩] scope gpos] X.env = (false, eval (.GeneratorExp elt [⟨tg, iter, [], 0⟩] scope gpos) X.env) :: starEach [] X.env := by rfl) :
    DE X T W (.Call (.Name "tuple" p) [.GeneratorExp elt [⟨tg, iter, [], 0⟩] scope gpos] [] pos) (eTupG src a f (own.map (·.2))) :=
  PE_imp (pe_tupG hc hN hr hgu hi ok TB hcode hg (fun A s H C code fp pn r1 r2 => pe_blk' (he A s H C code fp pn r1 r2)) hgl hm hs hst) fun _ _ _ q => tE_tg hP q
theorem de_allG (hc : X.calm = true) (hN : X.N.Nodup) (hr : Room (k + 9) X.A) (hgu : X.A.guards = some []) (hi : DI X T W tg iter src) (ok : GenOk X.N X.env.scope scope own) (TB : GxR.TabB X.base X.mg c P) (hcode : X.env.code = .ref c) (hP : TIn T c P none)
    (hg : ∀ (A : Around) (s : Shared) (H : Hp) (C : Addr) (code : Value) (fp : List Addr) (pn : List (Addr × Obj)), DG0 (gcx X (A.deeper (genE scope C code X.env)) s H scope (genE scope C code X.env) fp pn) T (own.map (·.2)) tg a)
    (he : ∀ (A : Around) (s : Shared) (H : Hp) (C : Addr) (code : Value) (fp : List Addr) (pn : List (Addr × Obj)), Room k (A.deeper (genE scope C code X.env)) → (A.deeper (genE scope C code X.env)).guards = some [] → DE (gcx X (A.deeper (genE scope C code X.env)) s H scope (genE scope C code X.env) fp pn) T noW elt f)
    (hgl : Gl X "all") (hm : X.mg "all" = none) (hs : ∀ v, genFold iter X.env v = pure v := by intro _; rfl)
    (hst : starEach [.GeneratorExp elt [⟨tg, iter, [], 0⟩] scope gpos] X.env = (false, eval (.GeneratorExp elt [⟨tg, iter, [], 0⟩] scope gpos) X.env) :: starEach [] X.env := by rfl) :
    DE X T W (.Call (.Name "all" p) [.GeneratorExp elt [⟨tg, iter, [], 0⟩] scope gpos] [] pos) (eAllG src a f (own.map (·.2))) :=
  PE_imp (pe_allG hc hN hr hgu hi ok TB hcode hg (fun A s H C code fp pn r1 r2 => pe_blk' (he A s H C code fp pn r1 r2)) hgl hm hs hst) fun _ _ _ q => tE_ag hP q
end
end DL

set_option Elab.async false
set_option linter.all false
set_option maxRecDepth 100000
set_option maxHeartbeats 1000000
namespace DL
open PySem PySem.Spec PyProof.Rows L2
open Classical

/-! ### [e for x in xs if .. for y in ys if ..] -/
def ItK (K : PySem.W.Frag) (T : TbT) (ρ0 : List Addr) (H0 : Hp) (xs : List D) (chk : Hh → Prop) (J : It) : Prop :=
  ∀ ρ G H (i : Nat), Ext ρ0 H0 ρ H → RG K T ρ G H → chk G →
    (∀ d, xs[i]? = some d → J.go i H ∧ ∀ x H', J.yld i H x H' → Ext ρ H ρ H' ∧ RG K T ρ G H' ∧ Rep K H' ρ d x) ∧ (xs.length ≤ i → J.stop i H)
def tI0 (K : PySem.W.Frag) (T : TbT) (src : IS) : TI := fun σ H R => ∃ ρ env G, RG K T ρ G H ∧ EnvR K [] H ρ env σ ∧ (match src env G with
  | .ok xs chk G' => ∀ ρ' H' J, Ext ρ H ρ' H' → RG K T ρ' G' H' → ItK K T ρ' H' xs chk J → R J H'
  | _ => False)
theorem pi_blk {X : Cx} {T : TbT} {tg iter : Expr} {src : IS} (h : DI X T noW tg iter src) : PI X tg iter (tI0 X.K T src) := PI_imp h fun σ H R ⟨ρ, env, G, rg, ev, q⟩ => ⟨ρ, env, G, ⟨rg, ev.pnil⟩, by
  revert q
  cases src env G with
  | ok xs chk G' => exact fun q => q
  | ex c w G' => exact fun q => q.elim
  | bad => exact fun q => q⟩
/-- the second clause's loop -/
noncomputable def lcIn (a : GS) (t : TSm) (f : ES) (l : Nat) (chk : Hh → Prop) (env : Env') : List D → Hh → Option Hh
  | [], G => if chk G then some G else none
  | x :: xs, G => if chk G then (match a x env G with
    | some (env2, G2) => (match t env2 G2 with
      | .ok true G3 => (match f env2 G3 with
        | .ok y G4 => (match G4[l]? with
          | some (.lst acc) => if acc.length < 100000 then lcIn a t f l chk env xs (G4.set l (.lst (acc ++ [y]))) else none
          | _ => none)
        | _ => none)
      | .ok false G3 => lcIn a t f l chk env xs G3
      | _ => none)
    | none => none) else none
noncomputable def lc2L (a : GS) (t : TSm) (src1 : IS) (a1 : GS) (t1 : TSm) (f : ES) (vs1 : List Nat) (l : Nat) (chk : Hh → Prop) (env : Env') : List D → Hh → RE
  | [], G => if chk G then .ok (.ref l) G else .bad
  | x :: xs, G => if chk G then (match a x env G with
    | some (env2, G2) => (match t env2 G2 with
      | .ok true G3 => (match src1 env2 G3 with
        | .ok ys chk1 G4 => (match lcIn a1 t1 f l chk1 (wipeE env2 vs1) ys G4 with
          | some G5 => lc2L a t src1 a1 t1 f vs1 l chk env xs G5
          | none => .bad)
        | _ => .bad)
      | .ok false G3 => lc2L a t src1 a1 t1 f vs1 l chk env xs G3
      | _ => .bad)
    | none => .bad) else .bad
noncomputable def eLc2 (src : IS) (a : GS) (t : TSm) (src1 : IS) (a1 : GS) (t1 : TSm) (f : ES) (vs vs1 : List Nat) : ES := fun env G => match src env G with
  | .ok xs chk G1 => lc2L a t src1 a1 t1 f vs1 G1.length chk (wipeE (cutX env) vs) xs (G1 ++ [.lst []])
  | .ex c w G1 => .ex c w G1
  | .bad => .bad
section
variable {X : Cx} {T : TbT} {W : WX} {src src1 : IS} {a a1 : GS} {t t1 : TSm} {f : ES} {vs vs1 : List Nat}
/-- the second clause's loop, read -/
theorem lc_in {l : Nat} {D : Addr} {chk : Hh → Prop} {xs : List DL.D} {J1 : It} {Nx : Hp → Prop} {ρ ρ4 : List Addr} {H4 : Hp} {G4 : Hh} {env2 : Env'} {σ2 : L2.St} (rg4 : RG X.K T ρ4 G4 H4) (ev4 : EnvR X.K [] H4 ρ4 env2 σ2) (eD : ρ4[l]? = some D) (it : ItK X.K T ρ4 H4 xs chk J1)
    (hN : ∀ G5 ρ5 H5, lcIn a1 t1 f l chk (wipeE env2 vs1) xs G4 = some G5 → Ext ρ4 H4 ρ5 H5 → RG X.K T ρ5 G5 H5 → Nx H5) (hd : lcIn a1 t1 f l chk (wipeE env2 vs1) xs G4 ≠ none) :
    ∃ W1 : Nat → Nat → Hp → Prop, (∃ m, W1 0 m H4) ∧ ∀ j k H, W1 j k H →
      (J1.stop j H ∧ Nx H) ∨ (J1.go j H ∧ ∃ Nx1 : Hp → Prop, (∀ H', Nx1 H' → ∃ k', k' < k ∧ W1 (j + 1) k' H') ∧ ∀ x H', J1.yld j H x H' → tG0 X.K T vs1 a1 x (wipe σ2 vs1) H' fun σ3 H5 => wipe σ3 vs1 = wipe σ2 vs1 ∧ tT0 X.K T t1 σ3 H5 fun b H6 =>
        if b = true then tE0 X.K T f σ3 H6 fun y H7 => ∃ acc, H7 D = some (.lst acc) ∧ acc.length < sizeLine ∧ Nx1 (upd H7 D (.lst (acc ++ [y]))) else Nx1 H6) := by
  refine ⟨fun i m H' => ∃ ρ' G', Ext ρ4 H4 ρ' H' ∧ RG X.K T ρ' G' H' ∧ i + m = xs.length ∧ lcIn a1 t1 f l chk (wipeE env2 vs1) (xs.drop i) G' = lcIn a1 t1 f l chk (wipeE env2 vs1) xs G4, ⟨xs.length, ρ4, G4, Ext.refl, rg4, by omega, rfl⟩, fun i m H' hW => ?_⟩
  obtain ⟨ρ', G', e', rg', hm, eq⟩ := hW
  have eD' : ρ'[l]? = some D := e'.kr _ _ eD
  have ew : EnvR X.K [] H' ρ' (wipeE env2 vs1) (wipe σ2 vs1) := (e'.envr rg4 ev4).wipe vs1
  cases hdr : xs.drop i with
  | nil =>
    rw [hdr] at eq
    unfold lcIn at eq
    have hl : xs.length ≤ i := by
      have := congrArg List.length hdr
      simp at this; omega
    by_cases hck : chk G'
    · rw [if_pos hck] at eq
      exact .inl ⟨(it ρ' G' H' i e' rg' hck).2 hl, hN G' ρ' H' (by unfold lcIn; exact eq.symm) e' rg'⟩
    · rw [if_neg hck] at eq
      exact absurd (by unfold lcIn; exact eq.symm) hd
  | cons d ds =>
    rw [hdr] at eq
    have hi : xs[i]? = some d := by
      rw [← List.head?_drop, hdr]; rfl
    have hds : xs.drop (i + 1) = ds := by
      rw [← List.drop_drop, hdr]; rfl
    have hlt : i < xs.length := (List.getElem?_eq_some_iff.mp hi).1
    have hne : lcIn a1 t1 f l chk (wipeE env2 vs1) (d :: ds) G' ≠ none := by rw [eq]; exact hd
    generalize hR : lcIn a1 t1 f l chk (wipeE env2 vs1) xs G4 = R at eq hN hd ⊢
    unfold lcIn at eq hne
    by_cases hck : chk G'
    case neg => rw [if_neg hck] at hne; exact absurd rfl hne
    rw [if_pos hck] at eq hne
    obtain ⟨hgo, hy⟩ := (it ρ' G' H' i e' rg' hck).1 d hi
    refine .inr ⟨hgo, fun H2 => ∃ ρ2 G2, Ext ρ4 H4 ρ2 H2 ∧ RG X.K T ρ2 G2 H2 ∧ lcIn a1 t1 f l chk (wipeE env2 vs1) ds G2 = R, fun H2 hN2 => ?_, fun x H2 hyl => ?_⟩
    · obtain ⟨ρ2, G2, x2, rg2, p2⟩ := hN2
      exact ⟨m - 1, by omega, ρ2, G2, x2, rg2, by omega, by rw [hds]; exact p2⟩
    · obtain ⟨x2, rg2, r2⟩ := hy x H2 hyl
      refine ⟨ρ', wipeE env2 vs1, G', d, rg2, x2.envr rg' ew, r2, ?_⟩
      cases q3 : a1 d (wipeE env2 vs1) G' with
      | none => rw [q3] at hne; exact absurd rfl hne
      | some z =>
        obtain ⟨env3, G3⟩ := z
        rw [q3] at eq hne
        intro σ3 ρ3 H3 x3 rg3 ev3 w3
        refine ⟨by rw [w3]; exact wipe_wipe, ρ3, env3, G3, rg3, ev3, ?_⟩
        dsimp only at eq hne
        cases q4 : t1 env3 G3 with
        | ok b G5 =>
          rw [q4] at eq hne
          intro ρ5 H5 x5 rg5
          have xx5 := x2.trans (x3.trans x5)
          cases b with
          | false =>
            rw [if_neg Bool.false_ne_true]
            exact ⟨ρ5, G5, e'.trans xx5, rg5, eq⟩
          | true =>
            rw [if_pos rfl]
            refine ⟨ρ5, env3, G5, rg5, x5.envr rg3 ev3, ?_⟩
            dsimp only at eq hne
            cases q5 : f env3 G5 with
            | ok y G6 =>
              rw [q5] at eq hne
              intro v6 ρ6 H6 x6 rg6 r6
              dsimp only at eq hne
              have xx6 := xx5.trans x6
              cases q6 : G6[l]? with
              | none => rw [q6] at hne; exact absurd rfl hne
              | some mo =>
                rw [q6] at eq hne
                cases mo with
                | lst acc =>
                  dsimp only at eq hne
                  by_cases hl : acc.length < 100000
                  · rw [if_pos hl] at eq
                    have eD6 : ρ6[l]? = some D := xx6.kr _ _ eD'
                    obtain ⟨us, hu, ru⟩ := rg6.ok _ _ _ eD6 q6
                    obtain ⟨rg7, x7⟩ := rg6.write eD6 q6 hu (ru.append (es := [y]) (ws := [v6]) ⟨v6, [], rfl, r6, rfl⟩)
                    exact ⟨us, hu, Nat.lt_of_lt_of_le (by rw [ru.length]; exact hl) (by decide : 100000 ≤ sizeLine), ρ6, _, e'.trans (xx6.trans x7), rg7, eq⟩
                  · rw [if_neg hl] at hne; exact absurd rfl hne
            | ex c w G6 => rw [q5] at hne; exact absurd rfl hne
            | bad => rw [q5] at hne; exact absurd rfl hne
        | ex c w G5 => rw [q4] at hne; exact absurd rfl hne
        | bad => rw [q4] at hne; exact absurd rfl hne
theorem tE_lc2 {σ : L2.St} {H : Hp} {Q : VK} (q : tE X T W (eLc2 src a t src1 a1 t1 f vs vs1) σ H Q) : tLc2 (tI X T W src) (tG0 X.K T vs a) (tT0 X.K T t) (tI0 X.K T src1) (tG0 X.K T vs1 a1) (tT0 X.K T t1) (tE0 X.K T f) vs vs1 σ H Q := by
  obtain ⟨ρ, env, G, sr, p⟩ := q
  refine ⟨ρ, env, G, sr, ?_⟩
  unfold eLc2 at p
  cases q : src env G with
  | ok xs chk G1 =>
    rw [q] at p
    intro ρ1 H1 J e1 rg1 it D hD
    dsimp only at p
    obtain ⟨rg2, e2⟩ := rg1.new (ds := []) (vs := []) hD rfl
    refine ⟨fun i m H' => ∃ ρ' G', Ext (ρ1 ++ [D]) (upd H1 D (.lst [])) ρ' H' ∧ RG X.K T ρ' G' H' ∧ i + m = xs.length ∧ PostE X T W σ ρ' H' (lc2L a t src1 a1 t1 f vs1 G1.length chk (wipeE (cutX env) vs) (xs.drop i) G') Q,
      ⟨xs.length, _, _, Ext.refl, rg2, by omega, PostE.ext (e1.trans e2) p⟩, fun i m H' hW => ?_⟩
    obtain ⟨ρ', G', e', rg', hm, p'⟩ := hW
    have eD : ρ'[G1.length]? = some D := e'.kr _ _ (by rw [rg1.len]; simp)
    have ew : EnvR X.K [] H' ρ' (wipeE (cutX env) vs) (wipe σ vs) := ((e1.trans e2).trans e').envr sr.rg sr.ev |>.cut.wipe vs
    cases hd : xs.drop i with
    | nil =>
      rw [hd] at p'
      unfold lc2L at p'
      split at p'
      · rename_i hck
        have hl : xs.length ≤ i := by
          have := congrArg List.length hd
          simp at this; omega
        exact .inl ⟨(it ρ' G' H' i (e2.trans e') rg' hck).2 hl, p' _ ρ' H' Ext.refl rg' ⟨D, eD, rfl⟩⟩
      · exact p'.elim
    | cons d ds =>
      rw [hd] at p'
      have hi : xs[i]? = some d := by
        rw [← List.head?_drop, hd]; rfl
      have hds : xs.drop (i + 1) = ds := by
        rw [← List.drop_drop, hd]; rfl
      have hlt : i < xs.length := (List.getElem?_eq_some_iff.mp hi).1
      unfold lc2L at p'
      split at p'
      · rename_i hck
        obtain ⟨hgo, hy⟩ := (it ρ' G' H' i (e2.trans e') rg' hck).1 d hi
        refine .inr ⟨hgo, fun H2 => ∃ ρ2 G2, Ext (ρ1 ++ [D]) (upd H1 D (.lst [])) ρ2 H2 ∧ RG X.K T ρ2 G2 H2 ∧ PostE X T W σ ρ2 H2 (lc2L a t src1 a1 t1 f vs1 G1.length chk (wipeE (cutX env) vs) ds G2) Q, fun H2 hN => ?_, fun x H2 hyl => ?_⟩
        · obtain ⟨ρ2, G2, x2, rg2, p2⟩ := hN
          exact ⟨m - 1, by omega, ρ2, G2, x2, rg2, by omega, by rw [hds]; exact p2⟩
        · obtain ⟨x2, rg2, r2⟩ := hy x H2 hyl
          refine ⟨ρ', wipeE (cutX env) vs, G', d, rg2, x2.envr rg' ew, r2, ?_⟩
          cases q3 : a d (wipeE (cutX env) vs) G' with
          | none => rw [q3] at p'; exact p'.elim
          | some z =>
            obtain ⟨env3, G3⟩ := z
            rw [q3] at p'
            intro σ3 ρ3 H3 x3 rg3 ev3 w3
            refine ⟨by rw [w3]; exact wipe_wipe, ρ3, env3, G3, rg3, ev3, ?_⟩
            dsimp only at p'
            cases q4 : t env3 G3 with
            | ok b G4 =>
              rw [q4] at p'
              intro ρ4 H4 x4 rg4
              have xx4 := x2.trans (x3.trans x4)
              cases b with
              | false =>
                rw [if_neg Bool.false_ne_true]
                exact ⟨ρ4, G4, e'.trans xx4, rg4, PostE.ext xx4 p'⟩
              | true =>
                rw [if_pos rfl]
                refine ⟨ρ4, env3, G4, rg4, x4.envr rg3 ev3, ?_⟩
                dsimp only at p'
                cases q5 : src1 env3 G4 with
                | ok ys chk1 G5 =>
                  rw [q5] at p'
                  intro ρ5 H5 J1 x5 rg5 it5
                  dsimp only at p'
                  have xx5 := xx4.trans x5
                  have ev5 := (x4.trans x5).envr rg3 ev3
                  cases q6 : lcIn a1 t1 f G1.length chk1 (wipeE env3 vs1) ys G5 with
                  | none => rw [q6] at p'; exact p'.elim
                  | some G6 =>
                    rw [q6] at p'
                    refine lc_in (ρ := ρ5) rg5 ev5 (xx5.kr _ _ eD) it5 (fun G7 ρ7 H7 e7 x7 rg7 => ?_) (by rw [q6]; simp)
                    rw [q6] at e7
                    cases e7
                    exact ⟨ρ7, _, e'.trans (xx5.trans x7), rg7, PostE.ext (xx5.trans x7) p'⟩
                | ex c w G5 => rw [q5] at p'; exact p'.elim
                | bad => rw [q5] at p'; exact p'
            | ex c w G4 => rw [q4] at p'; exact p'.elim
            | bad => rw [q4] at p'; exact p'
      · exact p'.elim
  | ex c w G1 => rw [q] at p; exact p
  | bad => rw [q] at p; exact p
variable {scope : Scope} {own : List (Str × Nat)} {elt tg iter tg1 iter1 : Expr} {ifs ifs1 : List Expr} {pos : Pos}
theorem de_lc2 (hc : X.calm = true) (hN : X.N.Nodup) (hi : DI X T W tg iter src) (ok : BlkOk X.N X.env.scope scope own) (hv : ∀ i ∈ vs1, i ∈ own.map (·.2))
    (hg : ∀ (s : Shared) (H : Hp) (C : Addr) (cl : List (Str × Addr)) (fp : List Addr), DG0 (X.blk s H scope (compEnvC scope cl C X.env) fp) T (own.map (·.2)) tg a)
    (ht : ∀ (s : Shared) (H : Hp) (C : Addr) (cl : List (Str × Addr)) (fp : List Addr), PTs (X.blk s H scope (compEnvC scope cl C X.env) fp) ifs (tT0 X.K T t))
    (hi1 : ∀ (s : Shared) (H : Hp) (C : Addr) (cl : List (Str × Addr)) (fp : List Addr), DI (X.blk s H scope (compEnvC scope cl C X.env) fp) T noW tg1 iter1 src1)
    (hg1 : ∀ (s : Shared) (H : Hp) (C : Addr) (cl : List (Str × Addr)) (fp : List Addr), DG0 (X.blk s H scope (compEnvC scope cl C X.env) fp) T vs1 tg1 a1)
    (ht1 : ∀ (s : Shared) (H : Hp) (C : Addr) (cl : List (Str × Addr)) (fp : List Addr), PTs (X.blk s H scope (compEnvC scope cl C X.env) fp) ifs1 (tT0 X.K T t1))
    (he : ∀ (s : Shared) (H : Hp) (C : Addr) (cl : List (Str × Addr)) (fp : List Addr), DE (X.blk s H scope (compEnvC scope cl C X.env) fp) T noW elt f)
    (hs : ∀ x, foldedSetIterable iter X.env x = pure x := by intro _; rfl) (hs1 : ∀ env x, foldedSetIterable iter1 env x = pure x := by intro _ _; rfl) :
    DE X T W (.ListComp elt [⟨tg, iter, ifs, 0⟩, ⟨tg1, iter1, ifs1, 0⟩] scope pos) (eLc2 src a t src1 a1 t1 f (own.map (·.2)) vs1) :=
  PE_imp (pe_lc2 hc hN hi ok hv hg ht (fun s H C cl fp => pi_blk (hi1 s H C cl fp)) hg1 ht1 (fun s H C cl fp => pe_blk' (he s H C cl fp)) hs hs1) fun _ _ _ q => tE_lc2 q
theorem ds_setLc2 {i : Nat} {y : Str} {py spos : Pos} (hc : X.calm = true) (hN : X.N.Nodup) (hy : X.N[i]? = some y) (hyl : X.env.scope.names.lookup y = some .local)
    (hsw : swapsWith (.ListComp elt [⟨tg, iter, ifs, 0⟩, ⟨tg1, iter1, ifs1, 0⟩] scope pos) (some (.Name y py)) spos.line X.env = pure true) (hi : DI X T W tg iter src) (ok : BlkOk X.N X.env.scope scope own) (hv : ∀ i ∈ vs1, i ∈ own.map (·.2))
    (hg : ∀ (s : Shared) (H : Hp) (C : Addr) (cl : List (Str × Addr)) (fp : List Addr), DG0 (X.blk s H scope (compEnvC scope cl C X.env) fp) T (own.map (·.2)) tg a)
    (ht : ∀ (s : Shared) (H : Hp) (C : Addr) (cl : List (Str × Addr)) (fp : List Addr), PTs (X.blk s H scope (compEnvC scope cl C X.env) fp) ifs (tT0 X.K T t))
    (hi1 : ∀ (s : Shared) (H : Hp) (C : Addr) (cl : List (Str × Addr)) (fp : List Addr), DI (X.blk s H scope (compEnvC scope cl C X.env) fp) T noW tg1 iter1 src1)
    (hg1 : ∀ (s : Shared) (H : Hp) (C : Addr) (cl : List (Str × Addr)) (fp : List Addr), DG0 (X.blk s H scope (compEnvC scope cl C X.env) fp) T vs1 tg1 a1)
    (ht1 : ∀ (s : Shared) (H : Hp) (C : Addr) (cl : List (Str × Addr)) (fp : List Addr), PTs (X.blk s H scope (compEnvC scope cl C X.env) fp) ifs1 (tT0 X.K T t1))
    (he : ∀ (s : Shared) (H : Hp) (C : Addr) (cl : List (Str × Addr)) (fp : List Addr), DE (X.blk s H scope (compEnvC scope cl C X.env) fp) T noW elt f)
    (hs : ∀ x, foldedSetIterable iter X.env x = pure x := by intro _; rfl) (hs1 : ∀ env x, foldedSetIterable iter1 env x = pure x := by intro _ _; rfl) :
    DS X T W (.Assign [.Name y py] (.ListComp elt [⟨tg, iter, ifs, 0⟩, ⟨tg1, iter1, ifs1, 0⟩] scope pos) spos) (sAsg (eLc2 src a t src1 a1 t1 f (own.map (·.2)) vs1) (aName i)) :=
  PS_imp (ps_setLc2 hc hN hy hyl hsw hi ok hv hg ht (fun s H C cl fp => pi_blk (hi1 s H C cl fp)) hg1 ht1 (fun s H C cl fp => pe_blk' (he s H C cl fp)) hs hs1) fun E σ H ⟨ρ, env, G, sr, q⟩ => by
    refine tE_lc2 (src := src) (a := a) (t := t) (src1 := src1) (a1 := a1) (t1 := t1) (f := f) ⟨ρ, env, G, sr, ?_⟩
    unfold sAsg at q
    cases h : eLc2 src a t src1 a1 t1 f (own.map (·.2)) vs1 env G with
    | ok d G1 =>
      rw [h] at q
      dsimp only [aName] at q
      exact fun v ρ' H' e rg r => q _ ρ' H' e ⟨rg, (e.envr sr.rg sr.ev).set i ⟨v, rfl, r⟩⟩
    | ex c w G1 => rw [h] at q; exact PostS.exE sr q
    | bad => rw [h] at q; exact q
end
end DL

set_option Elab.async false
set_option linter.all false
set_option maxRecDepth 100000
set_option maxHeartbeats 1000000
namespace DL
open PySem PySem.Spec PyProof.Rows L2
open Classical

/-! ### the end: a law is called -/
/-- what is tracked at the law's call: the script, if nobody has written it down, and the tables -/
noncomputable def H0 (K : PySem.W.Frag) (T : TbT) (a : Addr) (o : Obj) (xs : List V) : Hp := fun b =>
  if b = a then (if K.lookup a = none then some (.frz o (.lst xs)) else none) else if b ∈ T.map (·.2.1) then some (.tbl #[]) else none
section
variable {P : Program} {w : World} {K : PySem.W.Frag} {mg mb : Str → Option Value} {k : Nat} {fa a : Addr} {T : TbT} {x : Str} {sem : FS} {s1 : Shared} {us : List Value} {ns : List Int}
/-- what a def's table asks -/
abbrev TBs (base : Heap) (mg : Str → Option Value) (T : TbT) : Prop := ∀ p ∈ T, GxR.TabB base mg p.1 p.2.1
theorem tab_nil {H : Hp} {P : Addr} (h : H P = some (.tbl #[])) : ∀ {t : Option Str}, TabO H P t
  | none => ⟨#[], h, trivial⟩
  | some _ => LamX.TabS.nil h
theorem reps_scr {H : Hp} : ∀ {ns : List Int}, RepPs K H (ns.map PyData.int) (ns.map V.int)
  | [] => rfl
  | n :: ns => ⟨_, _, rfl, rfl, reps_scr⟩
theorem law_callD (kin : K.In s1.heap) (gns : s1.heap.Ns mainGlobals mg) (bns : s1.heap.Ns builtinsNs mb) (bbs : ∀ x : Str, x ≠ "__name__" → mb x = bootBuiltins x) (lim : s1.heap.NoLimit) (nogens : s1.gens = #[])
    (tabs : ∀ p ∈ T, s1.heap.get? p.2.1 = some { cls := .none, data := .fields #[] }) (tabsK : ∀ p ∈ T, K.lookup p.2.1 = none) (heads : ∀ p ∈ T, PySem.W.CodeHd s1.heap p.1 p.2.1)
    (bmain : ∃ (bm : Addr) (ob : Obj), mg "__builtins__" = some (.ref bm) ∧ bm ≠ builtinsNs ∧ s1.heap.get? bm = some ob ∧ ob.cls = .type "module" ∧ ob.dict = some builtinsNs ∧ ob.data = .plain)
    (hobj : s1.heap.get? a = some { cls := .type "list", data := .seq us.toArray }) (inz : IntsAre us ns) (short : ns.length ≤ sizeLine) (room : Room k callerA)
    (F : ∀ base : Heap, K.In base → base.Ns mainGlobals mg → TBs base mg T → ∃ fd : FuncData, (∀ (s : Shared) (u : Value), K.In s.heap → BindsTo s fd ⟨[u], []⟩ [(x, u)]) ∧ FnD P w K mg base T k fa fd [x] sem)
    (hsem : ∃ G', sem [.fro (ns.map PyData.int)] [] = .ok (.dat (.bool true)) G') :
    codeAny (model P w) callerA (.call (.ref fa) ⟨[.ref a], []⟩) (fun r s' => r = .ok (.ret (.bool true)) ∧ OldK s1.heap s'.heap ∧ s'.os = s1.os ∧ AllBare s'.gens) s1 := by
  have rv := vals_ints inz
  have hlen : us.length = ns.length := inz.length
  obtain ⟨H, hH⟩ : ∃ H : Hp, H = H0 K T a { cls := .type "list", data := .seq us.toArray } (ns.map V.int) := ⟨_, rfl⟩
  -- the tables are none of the script
  have tab_at : ∀ b, b ∈ T.map (·.2.1) → s1.heap.get? b = some { cls := .none, data := .fields #[] } ∧ K.lookup b = none ∧ b ≠ a := fun b hb => by
    obtain ⟨p, hp, rfl⟩ := List.mem_map.mp hb
    refine ⟨tabs p hp, tabsK p hp, fun z => ?_⟩
    have e := tabs p hp
    rw [z, hobj] at e
    have e2 : Data.seq us.toArray _ = Data.fields #[] := congrArg Obj.data (Option.some.inj e)
    cases e2
  have at_tab : ∀ b, b ∈ T.map (·.2.1) → H b = some (.tbl #[]) := fun b hb => by
    rw [hH]; unfold H0
    rw [if_neg (tab_at b hb).2.2, if_pos hb]
  have cases_ : ∀ b u, H b = some u → (b = a ∧ K.lookup a = none ∧ u = .frz { cls := .type "list", data := .seq us.toArray } (.lst (ns.map V.int))) ∨ (b ∈ T.map (·.2.1) ∧ u = .tbl #[]) := fun b u e => by
    rw [hH] at e; unfold H0 at e
    by_cases hb : b = a
    · rw [if_pos hb] at e
      by_cases hk : K.lookup a = none
      · rw [if_pos hk] at e
        exact .inl ⟨hb, hk, (Option.some.inj e).symm⟩
      · rw [if_neg hk] at e; cases e
    · rw [if_neg hb] at e
      by_cases hm : b ∈ T.map (·.2.1)
      · rw [if_pos hm] at e
        exact .inr ⟨hm, (Option.some.inj e).symm⟩
      · rw [if_neg hm] at e; cases e
  have hok : HOk P w H s1.heap := fun b u e => by
    rcases cases_ b u e with ⟨rfl, _, rfl⟩ | ⟨hm, rfl⟩
    · exact ⟨hobj, by rw [List.length_map]; exact short, us, _, rv, hobj⟩
    · exact (tab_at b hm).1
  -- nothing else is hidden
  have free_of : ∀ {b : Addr} {o : Obj}, s1.heap.get? b = some o → (∀ z n, o.data ≠ .seq z n) → o.data ≠ .fields #[] → H b = none := fun {b o} e h1 h2 => by
    cases q : H b with
    | none => rfl
    | some u =>
      exfalso
      rcases cases_ b u q with ⟨rfl, _, _⟩ | ⟨hm, _⟩
      · rw [hobj] at e
        cases e
        exact h1 _ _ rfl
      · rw [(tab_at b hm).1] at e
        cases e
        exact h2 rfl
  have dict_of : ∀ {b : Addr} {o : Obj} {es : Array DictEntry} {ep : Nat}, s1.heap.get? b = some o → o.data = .dict es ep → (hidT s1.heap H).get? b = some o := fun {b o es ep} e d =>
    hidT_get e (free_of e (fun _ _ z => by rw [d] at z; cases z) fun z => by rw [d] at z; cases z)
  have ns_of : ∀ {b : Addr} {m : Str → Option Value}, s1.heap.Ns b m → (hidT s1.heap H).Ns b m := fun ⟨o, es, ep, e, d, r⟩ => ⟨o, es, ep, dict_of e d, d, r⟩
  have kin0 : K.In (hidT s1.heap H) := fun b o e => hidT_get (kin b o e) (by
    cases q : H b with
    | none => rfl
    | some u =>
      exfalso
      rcases cases_ b u q with ⟨rfl, hk, _⟩ | ⟨hm, _⟩
      · rw [hk] at e; cases e
      · rw [(tab_at b hm).2.1] at e; cases e)
  obtain ⟨mc, lim1, lim2⟩ := lim
  have mod0 : L2.Mod K mg (hidT s1.heap H) := ⟨kin0, ns_of gns, ⟨mb, ns_of bns, bbs⟩, ⟨mc, ns_of lim1, lim2⟩⟩
  have tbs : TBs (hidT s1.heap H) mg T := fun p hp => by
    refine ⟨?_, ?_, fun z => ?_⟩
    · obtain ⟨o, vs, file, tf, flags, tg, inF, text, tt, q1, q2, q3, q4, q⟩ := heads p hp
      refine ⟨o, vs, file, tf, flags, tg, inF, text, tt, hidT_get q1 (free_of q1 (fun _ _ z => by rw [q3] at z; cases z) fun z => ?_), q2, q3, q4, q⟩
      rw [q3] at z
      cases z
      simp at q4
    · obtain ⟨bm, ob, b1, b2, b3, b4, b5, b6⟩ := bmain
      refine ⟨bm, ob, b1, b2, fun z => ?_, fun z => ?_, hidT_get b3 (free_of b3 (fun _ _ z => by rw [b6] at z; cases z) fun z => by rw [b6] at z; cases z), b4, b5, b6⟩
      · obtain ⟨o, es, ep, e, d, _⟩ := gns
        rw [z, e] at b3
        cases b3
        rw [d] at b6
        cases b6
      · rw [z, tabs p hp] at b3
        cases b3
        cases b6
    · obtain ⟨o, es, ep, e, d, _⟩ := gns
      rw [z, tabs p hp] at e
      cases e
      cases d
  have env0 : Env0 P w K mg (hidT s1.heap H) callerA [] s1 H := ⟨rfl, mod0, fun b o e => of_hidT e, Nat.le_of_eq (hidT_size _ _), trivial, fun b hb => absurd (show b ∈ ([] : List Addr) from hb) (by simp), hok, .of_eq nogens⟩
  have frl : FrL K H a (ns.map V.int) := by
    cases hk : K.lookup a with
    | some o =>
      have e := kin a o hk
      rw [hobj] at e
      cases e
      exact .inr ⟨_, us.toArray, _, hk, rfl, rfl, rfl, by rw [List.size_toArray, hlen]; exact short, by simpa using rv⟩
    | none => exact .inl ⟨_, by rw [hH]; unfold H0; rw [if_pos rfl, if_pos hk]⟩
  have rg : RG K T [] [] H := ⟨List.nodup_nil, rfl, fun l b mo h1 _ => by simp at h1, fun p hp => tab_nil (at_tab p.2.1 (List.mem_map.mpr ⟨p, hp, rfl⟩))⟩
  obtain ⟨G', hs⟩ := hsem
  obtain ⟨fd, bind, F1⟩ := F _ kin0 (ns_of gns) tbs
  refine codeAny_mono (F1.run callerA [] s1 H ⟨[.ref a], []⟩ [.ref a] [.ref a] (fun v _ => v = .bl true) (fun _ _ _ => False) [] [] [.fro (ns.map PyData.int)] room rfl env0 (bind s1 (.ref a) kin) (.cons rfl .nil) rfl rg ⟨.ref a, [], rfl, ⟨a, _, rfl, frl, reps_scr⟩, rfl⟩ ?_) fun r s' h => ?_
  · rw [hs]
    exact fun v ρ' H' _ _ r => r
  cases r with
  | error e =>
    obtain ⟨_, _, _, _, _, _, _, _, _, _, _, _, z⟩ := h
    exact z.elim
  | ok fl =>
    cases fl with
    | next => exact False.elim h
    | brk => exact False.elim h
    | cont => exact False.elim h
    | ret u =>
      obtain ⟨v, H', os, bare, un, hok', r', q⟩ := h
      have q : v = .bl true := q
      subst q
      obtain rfl : u = Value.bool true := r'
      have grown : ∀ b, b ∈ T.map (·.2.1) → ∃ more : Array Value, s'.heap.get? b = some { cls := .none, data := .fields more } := fun b hb => by
        obtain ⟨more, z⟩ := un.tbls b #[] (at_tab b hb)
        exact ⟨_, hok' b _ z⟩
      have kept : ∀ b o, b ∉ T.map (·.2.1) → s1.heap.get? b = some o → s'.heap.get? b = some o := fun b o nb e => by
        cases q : H b with
        | none => exact un.keep b o e q (fun z => by simp [frs] at z) (by simp)
        | some u =>
          rcases cases_ b u q with ⟨rfl, _, rfl⟩ | ⟨hm, _⟩
          · have z := hok' _ _ (un.frzs _ _ _ q)
            rw [hobj] at e
            cases e
            exact z.1
          · exact absurd hm nb
      refine ⟨rfl, ⟨fun b o e => ?_, fun b o e => ?_⟩, os, bare⟩
      · by_cases hb : b ∈ T.map (·.2.1)
        · obtain ⟨more, hm⟩ := grown b hb
          obtain ⟨p, hp, ep⟩ := List.mem_map.mp hb
          subst ep
          have e2 := tabs p hp
          rw [e2] at e
          cases e
          exact .inr (.inl ⟨((heads p hp).tab e2).isCodeTable, rfl, #[], more, rfl, by rw [Array.empty_append]; exact hm⟩)
        · exact .inl (kept b o hb e)
      · by_cases hb : b ∈ T.map (·.2.1)
        · obtain ⟨more, hm⟩ := grown b hb
          exact ⟨_, hm⟩
        · exact ⟨o, kept b o hb e⟩
end
/-- what is known of the law at the head's heap -/
def LawD (l : PySem.W.OpenLaw) (w : World) (K : PySem.W.Frag) (k n : Nat) (x : Str) (mg : Str → Option Value) (fa : Addr) (h : Heap) : Prop :=
  ∃ (T : TbT) (sem : FS), (∀ p ∈ T, h.get? p.2.1 = some { cls := .none, data := .fields #[] }) ∧ (∀ p ∈ T, K.lookup p.2.1 = none) ∧ (∀ p ∈ T, PySem.W.CodeHd h p.1 p.2.1) ∧
    (∀ ns : List Int, ns.length ≤ n → (∀ z ∈ ns, Builtin.Int.intBits z ≤ 1048576) → ∃ G', sem [.fro (ns.map PyData.int)] [] = .ok (.dat (.bool true)) G') ∧
    ∀ base : Heap, K.In base → base.Ns mainGlobals mg → TBs base mg T → ∃ fd : FuncData, (∀ (s : Shared) (u : Value), K.In s.heap → BindsTo s fd ⟨[u], []⟩ [(x, u)]) ∧ FnD l.prog w K mg base T k fa fd [x] sem
end DL

set_option Elab.async false
set_option linter.all false
set_option maxRecDepth 100000
set_option maxHeartbeats 1000000
namespace DL
open PySem PySem.Spec PyProof.Rows L2
open Classical

/-! ### the defs of a text, by their names -/
section
variable (P : Program) (w : World) (K : PySem.W.Frag) (mg : Str → Option Value) (base : Heap) (T : TbT)
/-- the def x of the text stands behind the top -/
def HasF (x : Str) (st : Stmt) : Prop := ∃ (a : Addr) (fd : FuncData), Fun K x x st a fd ∧ mg x = some (.ref a)
/-- .. and its code at c, its table at Pt -/
def HasC (tg : Option Str) (x : Str) (st : Stmt) : Prop := ∃ (a : Addr) (oc : Value) (od : Option Addr) (kV doc pm : Value) (an : Option Addr) (c Pt : Addr) (ct : Value) (osl : Array (Option Value)),
  K.lookup a = some ⟨oc, od, .func (PySem.W.fnOf x x (defArgs st) (defBody st) (defScope st) .none kV doc pm an (.ref c) ct), osl⟩ ∧ PySem.W.codeIn K (.ref c) x = true ∧ PySem.W.keepIn K (.ref a) = true ∧ mg x = some (.ref a) ∧ TIn T c Pt tg
/-- x, called, does what sem says -/
def Has (x : Str) (ps : List Str) (k : Nat) (sem : FS) : Prop := ∃ (a : Addr) (fd : FuncData), mg x = some (.ref a) ∧ PySem.W.keepIn K (.ref a) = true ∧ Binds K fd ps [] ∧ FnD P w K mg base T k a fd ps sem
end
abbrev BindsH (x : Str) (st : Stmt) (ps : List Str) : Prop := ∀ (kV doc pm : Value) (an : Option Addr) (cdv ct : Value) (us : List Value), us.length = ps.length → bindArgs (PySem.W.fnOf x x (defArgs st) (defBody st) (defScope st) .none kV doc pm an cdv ct) ⟨us, []⟩ = pure (ps.zip us)
section
variable {P : Program} {w : World} {K : PySem.W.Frag} {mg : Str → Option Value} {base : Heap} {T : TbT} {x : Str} {st : Stmt} {N ps : List Str} {k : Nat} {body : SS} {sem : FS} {tg : Option Str}
theorem Has.rel (h : Has P w K mg base T x ps k sem) : Has P w K mg base T x ps k (relCall sem) := by
  obtain ⟨a, fd, h1, h2, h3, h4⟩ := h
  exact ⟨a, fd, h1, h2, h3, h4.rel⟩
theorem Has.of (F : HasF K mg x st) (S : FnScope N ps (defScope st)) (hb : BindsH x st ps)
    (hbody : ∀ (a : Addr) (cdv : Value) (A : Around) (outer : List Env) (s : Shared) (H : Hp) (E : XK), Room k (A.deeper (envOfC x (defScope st) s.heap.objs.size a cdv)) → (A.deeper (envOfC x (defScope st) s.heap.objs.size a cdv)).guards = some [] →
      DSs (cxOf (L2.CX P w) P w K mg base N x (defScope st) a cdv A outer s H E) T (WE' E) (defBody st) body) : Has P w K mg base T x ps (k + 1) (fnD N.length body) := by
  obtain ⟨a, fd, hF, hm⟩ := F
  exact ⟨a, fd, hm, hF.kp, hF.binds hb, FnD.of hF S fun cdv A outer s H E r g _ => hbody a cdv A outer s H E r g⟩
/-- a def that holds generator expressions: its code at c, its table at Pt -/
theorem Has.ofC (F : HasC K mg T tg x st) (tb : TBs base mg T) (S : FnScope N ps (defScope st)) (hb : BindsH x st ps)
    (hbody : ∀ (a c Pt : Addr) (A : Around) (outer : List Env) (s : Shared) (H : Hp) (E : XK), GxR.TabB base mg c Pt → TIn T c Pt tg → Room k (A.deeper (envOfC x (defScope st) s.heap.objs.size a (.ref c))) → (A.deeper (envOfC x (defScope st) s.heap.objs.size a (.ref c))).guards = some [] →
      DSs (cxOf (L2.CX P w) P w K mg base N x (defScope st) a (.ref c) A outer s H E) T (WE' E) (defBody st) body) : Has P w K mg base T x ps (k + 1) (fnD N.length body) := by
  obtain ⟨a, oc, od, kV, doc, pm, an, c, Pt, ct, osl, l, hc, hk, hm, hT⟩ := F
  have hF : Fun K x x st a _ := fun_mk l hc hk
  refine ⟨a, _, hm, hk, hF.binds hb, ?_⟩
  refine ⟨fun A outer s H args us vs Q E ρ G ds hr hgd e0 hbt r hl rg rs hsp => ?_⟩
  have KX : K.In s.heap := e0.mod.kin.keeps fun b o e => (e0.bs b o e).1
  have lm : s.heap.NoLimit := e0.mod.nolimit.keeps fun b o e => (e0.bs b o e).1
  have hkind : ∀ y ∈ ps.zip us, (defScope st).names.lookup y.1 = some .local ∨ ((defScope st).names.lookup y.1 = some .cell ∧ ((cellsFrom (s.heap.objs.size + 1) (defScope st).names []).lookup y.1).isSome = true) := fun ⟨n, v⟩ hy => by
    rcases S.par n (List.of_mem_zip hy).1 with q | q
    · exact .inl q
    · exact .inr ⟨q, PySem.W.cellsFrom_some _ _ _ (.inl q)⟩
  refine codeAny_call_function hr.depth (KX _ _ l) rfl S.co S.gen rfl (PySem.W.codeRec_of KX hc) (hbt _ _ _ _ ?_)
  refine wpAny_newFunctionEnv_cells S.kind hkind fun env he s1 xx => ?_
  subst he
  refine ⟨lm.keeps xx.toInCall.keep, codeAny_func ?_⟩
  have ht := hbody a c Pt A outer s H E (tb _ hT.1) hT (hr.deeper _) hgd
  have I : Inv (cxOf (L2.CX P w) P w K mg base N x (defScope st) a (.ref c) A outer s H E) [] (L2.start N vs) H s1 := inv_start S hr.hd e0 hl r xx
  have hpl : vs.length ≤ N.length := by
    have := congrArg List.length S.pre
    rw [List.length_take] at this
    omega
  have hq : tS (cxOf (L2.CX P w) P w K mg base N x (defScope st) a (.ref c) A outer s H E) T (WE' E) body { nx := fun _ H' => Q .non H', rt := Q } (L2.start N vs) H := by
    refine ⟨ρ, _, G, ⟨rg, envR_start rs hpl⟩, ?_⟩
    unfold fnD at hsp
    split at hsp
    · rename_i env' G' e
      rw [e]
      exact fun σ' ρ' H' e1 sr1 => hsp .non ρ' H' e1 sr1.rg rfl
    · rename_i d G' e
      rw [e]
      exact hsp
    · rename_i c w env' G' e
      rw [e]
      exact fun σ' ρ' H' dd vw e1 sr1 => hsp ρ' H' dd vw e1 sr1.rg
    · exact hsp.elim
  refine wpAny_mono (ht.run [] s1 (L2.start N vs) H _ I hq) (fun fl s' hs => ?_) fun e s' hs => hs
  have fin : ∀ {σ' : L2.St} {H' : Hp} {v : V} {u : Value}, Inv (cxOf (L2.CX P w) P w K mg base N x (defScope st) a (.ref c) A outer s H E) [] σ' H' s' → RelV v u → Q v H' → CE outer P w H s Q u s' :=
    fun {σ' H' v u} J rv q => ⟨v, H', J.os, J.bare, J.base, J.hok, rv, q⟩
  cases fl with
  | ret u =>
    obtain ⟨v, σ', H', J, rv, q⟩ := hs
    exact fin J rv q
  | next =>
    obtain ⟨σ', H', J, q⟩ := hs
    exact fin (v := V.non) (u := Value.none) J rfl q
  | brk =>
    obtain ⟨_, _, _, q⟩ := hs
    exact False.elim q
  | cont =>
    obtain ⟨_, _, _, q⟩ := hs
    exact False.elim q
end
theorem un_of {k : Nat} {A : Around} (h : Room k A) : A.units + 100 < cLine := by
  have := h.un
  omega
section
variable {X : Cx} {T : TbT} {W : WX} {k : Nat} {ps : List Str} {sem : FS} {x : Str} {p pos : Pos} {e : Expr} {es : List Expr} {fs : AS}
theorem de_call (h : Has X.prog X.w X.K X.mg X.base T x ps k sem) (tk : Takes X W) (hr : Room k X.A) (hgd : X.A.guards = some []) (hg : Gl X x) (ha : DA X T W (e :: es) fs) (hdb : (x == ("__debug__" : Str)) = false := by decide)
    (he : starEach (e :: es) X.env = (false, eval e X.env) :: starEach es X.env := by rfl) (hpl : (backTo pos (starEach es X.env)).any (·.1) = false := by rfl) :
    DE X T W (.Call (.Name x p) (e :: es) [] pos) (eCallA ps.length sem fs) := by
  obtain ⟨a, fd, hm, hk, hb, F⟩ := h
  exact de_callA F tk hr hgd hg hm hk hb ha hdb he hpl
/-- a built-in type by its name -/
theorem de_ty {n : String} {pos : Pos} (hg : Gl X x) (hm : X.mg x = none) (hv : bootBuiltins x = some (.type n)) (hn : x ≠ "__name__" := by decide) (hd : (x == ("__debug__" : Str)) = false := by decide) : DE X T W (.Name x pos) (eC (.ty n)) :=
  de_c (pe_bltn hg hm hv (v := .ty n) rfl hn hd) fun _ _ => rfl
/-- a module's number, text -/
theorem de_gi {i : Int} {t : Tok} {pos : Pos} (hg : Gl X x) (hm : X.mg x = some (.int i t)) (hd : (x == ("__debug__" : Str)) = false := by decide) : DE X T W (.Name x pos) (eC (.dat (.int i))) := de_glob hg hm (v := .int i) ⟨t, rfl⟩ (fun _ _ => rfl) hd
theorem de_gs {y : Str} {t : Tok} {pos : Pos} (hg : Gl X x) (hm : X.mg x = some (.str y t)) (hd : (x == ("__debug__" : Str)) = false := by decide) : DE X T W (.Name x pos) (eC (.dat (.str y))) := de_glob hg hm (v := .str y) ⟨t, rfl⟩ (fun _ _ => rfl) hd
/-- a module's tuple -/
def TupK (K : PySem.W.Frag) (v : Value) (d : PyData) : Prop := ∃ a, v = .ref a ∧ ∀ H, RepP K H d (.ref a)
theorem de_gt {v : Value} {d : PyData} {pos : Pos} (hg : Gl X x) (hm : X.mg x = some v) (ht : TupK X.K v d) (hd : (x == ("__debug__" : Str)) = false := by decide) : DE X T W (.Name x pos) (eC (.dat d)) := by
  obtain ⟨a, rfl, h⟩ := ht
  exact de_glob hg hm (v := .ref a) rfl (fun H _ => h H) hd
end
/-- a tuple of the written part -/
theorem tupK_of {K : PySem.W.Frag} {a : Addr} {o : Obj} {its : Array Value} {n : Nat} {ds : List PyData} {vs : List V} (l : K.lookup a = some o) (hc : o.cls = .type "tuple") (hs : o.data = .seq its n) (hz : its.size ≤ sizeLine) (rv : Vals vs its.toList)
    (h : ∀ H, RepPs K H ds vs) : TupK K (.ref a) (.tuple ds) := ⟨a, rfl, fun H => ⟨a, vs, rfl, .inr ⟨o, its, n, l, hc, hs, hz, rv⟩, h H⟩⟩
end DL

set_option Elab.async false
set_option linter.all false
set_option maxRecDepth 100000
set_option maxHeartbeats 1000000
namespace DL
open PySem PySem.Spec PyProof.Rows L2
open Classical

theorem bt_len : bootBuiltins "len" = some (.builtin "len") := by decide +kernel
theorem bt_isinstance : bootBuiltins "isinstance" = some (.builtin "isinstance") := by decide +kernel
theorem bt_repr : bootBuiltins "repr" = some (.builtin "repr") := by decide +kernel
theorem bt_max : bootBuiltins "max" = some (.builtin "max") := by decide +kernel
theorem bt_min : bootBuiltins "min" = some (.builtin "min") := by decide +kernel
theorem bt_sum : bootBuiltins "sum" = some (.builtin "sum") := by decide +kernel
theorem bt_int : bootBuiltins "int" = some (.type "int") := by decide +kernel
theorem bt_bool : bootBuiltins "bool" = some (.type "bool") := by decide +kernel
theorem bt_str : bootBuiltins "str" = some (.type "str") := by decide +kernel
theorem bt_list : bootBuiltins "list" = some (.type "list") := by decide +kernel
theorem bt_tuple : bootBuiltins "tuple" = some (.type "tuple") := by decide +kernel
theorem bt_ValueError : bootBuiltins "ValueError" = some (.type "ValueError") := by decide +kernel

/-- a module's number, text, tuple -/
def GI (mg : Str → Option Value) (x : Str) (i : Int) : Prop := ∃ t, mg x = some (.int i t)
def GSt (mg : Str → Option Value) (x : Str) (y : Str) : Prop := ∃ t, mg x = some (.str y t)
def GT (K : PySem.W.Frag) (mg : Str → Option Value) (x : Str) (d : PyData) : Prop := ∃ v, mg x = some v ∧ TupK K v d
/-- a class by its name -/
def GC (P : Program) (w : World) (K : PySem.W.Frag) (mg : Str → Option Value) (base : Heap) (x : Str) (C : Addr) : Prop := mg x = some (.ref C) ∧ ∃ fI fd, Mk P w K mg base C fI fd
section
variable {X : Cx} {T : TbT} {W : WX} {x : Str} {p pos pos' : Pos} {e : Expr} {fe : ES} {C : Addr}
theorem de_kI {i : Int} (hm : GI X.mg x i) (hg : Gl X x) (hd : (x == ("__debug__" : Str)) = false := by decide) : DE X T W (.Name x pos) (eC (.dat (.int i))) := by
  obtain ⟨t, h⟩ := hm
  exact de_gi hg h hd
theorem de_kS {y : Str} (hm : GSt X.mg x y) (hg : Gl X x) (hd : (x == ("__debug__" : Str)) = false := by decide) : DE X T W (.Name x pos) (eC (.dat (.str y))) := by
  obtain ⟨t, h⟩ := hm
  exact de_gs hg h hd
theorem de_kT {d : PyData} (hm : GT X.K X.mg x d) (hg : Gl X x) (hd : (x == ("__debug__" : Str)) = false := by decide) : DE X T W (.Name x pos) (eC (.dat d)) := by
  obtain ⟨v, h1, h2⟩ := hm
  exact de_gt hg h1 h2 hd
theorem ds_raise' (h : GC X.prog X.w X.K X.mg X.base x C) (hc : X.calm = true) (tk : Takes X W) (hr : Room 2 X.A) (hg : Gl X x) (he : DE X T W e fe)
    (hdb : (x == ("__debug__" : Str)) = false := by decide) (hs : starEach (e :: []) X.env = (false, eval e X.env) :: starEach [] X.env := by rfl) (hpl : (backTo pos (starEach [] X.env)).any (·.1) = false := by rfl) :
    DS X T W (.Raise (some (.Call (.Name x p) [e] [] pos)) none pos') (sRaise C fe) := by
  obtain ⟨hm, fI, fd, M⟩ := h
  exact ds_raise M hc tk hr hg hm he hdb hs hpl
end
/-- which of the known errors a clause catches; which are of a class -/
abbrev pick1 (l : List (Addr × Bool)) (c : Addr) : Option Bool := l.lookup c
theorem mem_of_lookup1 {c : Addr} {b : Bool} : ∀ {l : List (Addr × Bool)}, l.lookup c = some b → (c, b) ∈ l
  | [], h => by simp at h
  | (a, v) :: l, h => by
    by_cases e : c = a
    · subst e
      simp [List.lookup] at h
      subst h
      exact List.mem_cons_self
    · have e' : (c == a) = false := by simpa using e
      simp only [List.lookup, e'] at h
      exact List.mem_cons_of_mem _ (mem_of_lookup1 h)
theorem catch_of {K : PySem.W.Frag} {C : Value} {l : List (Addr × Bool)} (h : ∀ p ∈ l, PySem.W.exmOne K (.ref p.1) C = some p.2) : ∀ c b, pick1 l c = some b → PySem.W.exmOne K (.ref c) C = some b := fun c b e => h _ (mem_of_lookup1 e)
theorem kind_of {K : PySem.W.Frag} {C : Value} {l : List (Addr × Bool)} (h0 : ∀ p ∈ l, ExcC K p.1) (h : ∀ p ∈ l, PySem.W.kitOne K (.ref p.1) C = some p.2) : ∀ c b, pick1 l c = some b → ExcC K c ∧ PySem.W.kitOne K (.ref c) C = some b := fun c b e => ⟨h0 _ (mem_of_lookup1 e), h _ (mem_of_lookup1 e)⟩
theorem what_of {K : PySem.W.Frag} {l : List Addr} (h : ∀ c ∈ l, XfC K c ∧ PySem.W.findIn K (.ref c) "what" = some none) : ∀ c, decide (c ∈ l) = true → XfC K c ∧ PySem.W.findIn K (.ref c) "what" = some none := fun c e => h c (of_decide_eq_true e)
end DL

set_option Elab.async false
set_option linter.all false
set_option maxRecDepth 100000
set_option maxHeartbeats 1000000
namespace DL
open PySem PySem.Spec PyProof.Rows L2
open Classical

/-! ### the head: what the top has written, by one look -/
def dvOf : PyData → He.Dv
  | .bool b => .bl b
  | .int i => .int i
  | .str x => .str x
  | _ => .non
def flatD : PyData → Bool
  | .none => true
  | .bool _ => true
  | .int _ => true
  | .str _ => true
  | _ => false
theorem repPs_flat {K : PySem.W.Frag} {H : Hp} : ∀ {ds : List PyData}, ds.all flatD = true → RepPs K H ds ((ds.map dvOf).map (He.Dv.v K))
  | [], _ => rfl
  | d :: ds, h => by
    simp only [List.all_cons, Bool.and_eq_true] at h
    refine ⟨_, _, rfl, ?_, repPs_flat h.2⟩
    cases d with
    | none => rfl
    | bool b => rfl
    | int i => rfl
    | str x => rfl
    | tuple _ => exact absurd h.1 Bool.false_ne_true
    | list _ => exact absurd h.1 Bool.false_ne_true
    | dict _ => exact absurd h.1 Bool.false_ne_true
def kTupB (K : PySem.W.Frag) (x : Str) (ds : List PyData) : Bool := He.eqO (PySem.W.nsIn K mainGlobals x) (some (some (.ref (He.ga K x)))) && (ds.all flatD && He.tupB K x (ds.map dvOf))
section
variable {P : Program} {w : World} {K : PySem.W.Frag} {mg : Str → Option Value} {h base : Heap}
theorem kTupB_ok (X : K.In h) (G : h.Ns mainGlobals mg) {x : Str} {ds : List PyData} (c : kTupB K x ds = true) : GT K mg x (.tuple ds) := by
  obtain ⟨c1, c⟩ := He.ba c
  obtain ⟨c2, c3⟩ := He.ba c
  exact ⟨_, PySem.W.mg_of X G (He.eqO_ok c1), _, rfl, fun H => ⟨_, _, rfl, He.tupB_ok c3 H, repPs_flat c2⟩⟩
/-- an error's class -/
def oexB (K : PySem.W.Frag) (C : Addr) : Bool := match K.lookup C with
  | some ⟨.type c, _, .cls cd, sl⟩ => decide (c = "type") && (cd.hasDict && (!cd.hasDel && ((match cd.mro with
    | .ref C' :: bm => decide (C' = C) && PySem.HandSPX.refsVE bm
    | _ => false) && (match sl.toList with
    | [_, _, _, _, some (.builtin n), _] => decide (n = "ValueError.__new__")
    | _ => false))))
  | _ => false
theorem oexB_ok {C : Addr} (c : oexB K C = true) : ∃ nm q N bs bm sn sub ab col dd k0 k1 k2 k3 k5, K.lookup C = some (excClassObj nm q C N bs bm true sn sub ab col dd k0 k1 k2 k3 k5 "ValueError.__new__") ∧ PySem.HandSPX.refsVE bm = true := by
  unfold oexB at c
  split at c
  · rename_i cn dd cd sl hk
    obtain ⟨nm, bs, mro, ns, qn, hd, sn, sb, ab, col, del⟩ := cd
    obtain ⟨c1, c⟩ := He.ba c
    obtain ⟨c2, c⟩ := He.ba c
    obtain ⟨c3, c⟩ := He.ba c
    obtain ⟨c4, c5⟩ := He.ba c
    dsimp only at c2 c3 c4
    obtain rfl : cn = "type" := of_decide_eq_true c1
    subst c2
    obtain rfl : del = false := by simpa using c3
    cases mro with
    | nil => cases c4
    | cons m bm =>
      cases m with
      | ref C' =>
        obtain ⟨c6, c7⟩ := He.ba c4
        have e6 : C' = C := of_decide_eq_true c6
        rw [e6] at hk
        split at c5
        · rename_i k0 k1 k2 k3 n k5 hs
          obtain rfl : n = "ValueError.__new__" := of_decide_eq_true c5
          obtain rfl : sl = #[k0, k1, k2, k3, some (.builtin "ValueError.__new__"), k5] := by rw [← hs]
          exact ⟨_, _, _, _, _, _, _, _, _, _, _, _, _, _, _, hk, c7⟩
        · cases c5
      | _ => cases c4
  · cases c
def initAt (x : Str) : Str × Option Str := (x, some "__init__")
/-- the error's class x tells its name -/
def cnB (K : PySem.W.Frag) (C : Addr) : Bool := match PySem.W.findCls K (.ref C) (.type "type") "__name__" with
  | some (.get (.builtin g) (.builtin a) (.ref C') (.type t)) => decide (g = "getset_descriptor.__get__") && (decide (a = "type.__name__") && (decide (C' = C) && decide (t = "type")))
  | _ => false
theorem cnB_ok {K : PySem.W.Frag} {C : Addr} (c : cnB K C = true) : PySem.W.findCls K (.ref C) (.type "type") "__name__" = some (.get (.builtin "getset_descriptor.__get__") (.builtin "type.__name__") (.ref C) (.type "type")) := by
  unfold cnB at c
  split at c
  · rename_i g a C' t e
    obtain ⟨c1, c⟩ := He.ba c
    obtain ⟨c2, c⟩ := He.ba c
    obtain ⟨c3, c4⟩ := He.ba c
    rw [e, of_decide_eq_true c1, of_decide_eq_true c2, of_decide_eq_true c3, of_decide_eq_true c4]
  · cases c
def clnB (K : PySem.W.Frag) (x : Str) : Bool := He.eqO (PySem.W.findIn K (.ref (He.ga K x)) "__getattribute__") (some (some (.builtin "BaseException.__getattribute__"))) && (He.eqO (PySem.W.findIn K (.ref (He.ga K x)) "__getattr__") (some none) &&
  (decide (PySem.W.subIn K (.ref (He.ga K x)) (.type "BaseException") = some true) && (PySem.W.hasDictIn K (He.ga K x) && (He.eqO (PySem.W.findIn K (.ref (He.ga K x)) "__class__") (some (some (.builtin "object.__class__"))) &&
  (He.eqO (PySem.W.specialIn K (.builtin "object.__class__") "__get__") (some (some (.builtin "getset_descriptor.__get__"))) && (decide (PySem.W.takesIn K (.builtin "object.__class__") = some true) && (decide (PySem.W.mroIn K (He.ga K x) (.type "object") = some true) &&
  (PySem.W.readsIn K (He.ga K x) (.type "type") && (decide (PySem.W.typeIn K (.ref (He.ga K x)) = some (.type "type")) && (decide (clsNm K (He.ga K x) = some x) && (cnB K (He.ga K x) && He.eqO (PySem.W.findIn K (.ref (He.ga K x)) "name") (some none))))))))))))
theorem clnB_ok {K : PySem.W.Frag} {x : Str} (c : clnB K x = true) : NmC K (He.ga K x) x ∧ PySem.W.findIn K (.ref (He.ga K x)) "name" = some none := by
  obtain ⟨c1, c⟩ := He.ba c
  obtain ⟨c2, c⟩ := He.ba c
  obtain ⟨c3, c⟩ := He.ba c
  obtain ⟨c4, c⟩ := He.ba c
  obtain ⟨c5, c⟩ := He.ba c
  obtain ⟨c6, c⟩ := He.ba c
  obtain ⟨c7, c⟩ := He.ba c
  obtain ⟨c8, c⟩ := He.ba c
  obtain ⟨c9, c⟩ := He.ba c
  obtain ⟨c10, c⟩ := He.ba c
  obtain ⟨c11, c⟩ := He.ba c
  obtain ⟨c12, c13⟩ := He.ba c
  exact ⟨⟨He.eqO_ok c1, He.eqO_ok c2, of_decide_eq_true c3, c4, He.eqO_ok c5, He.eqO_ok c6, of_decide_eq_true c7, of_decide_eq_true c8, c9, of_decide_eq_true c10, of_decide_eq_true c11, cnB_ok c12⟩, He.eqO_ok c13⟩
/-- the error's class x, made by the __init__ of r -/
def errB (K : PySem.W.Frag) (r x : Str) : Bool := He.eqO (PySem.W.nsIn K mainGlobals x) (some (some (.ref (He.ga K x)))) && (oexB K (He.ga K x) && (He.eqO (PySem.W.findIn K (.ref (He.ga K x)) "__setattr__") (some (some (.builtin "object.__setattr__"))) &&
  (decide (PySem.W.subIn K (.ref (He.ga K x)) (.type "BaseException") = some true) && (decide (PySem.W.typeIn K (.ref (He.ga K x)) = some (.type "type")) && (PySem.W.keepIn K (.ref (He.ga K x)) &&
  (He.eqO (PySem.W.findIn K (.ref (He.ga K x)) "__init__") (some (some (.ref (He.fAd K (initAt r))))) && (decide (PySem.W.typeIn K (.ref (He.fAd K (initAt r))) = some (.type "function")) && He.eqO (PySem.W.findIn K (.ref (He.ga K x)) "what") (some none))))))))
/-- what asks an error's kind and its fields -/
def excB (K : PySem.W.Frag) (x : Str) : Bool := He.eqO (PySem.W.findIn K (.ref (He.ga K x)) "__getattribute__") (some (some (.builtin "BaseException.__getattribute__"))) && (He.eqO (PySem.W.findIn K (.ref (He.ga K x)) "__getattr__") (some none) &&
  (decide (PySem.W.subIn K (.ref (He.ga K x)) (.type "BaseException") = some true) && (PySem.W.hasDictIn K (He.ga K x) && (He.eqO (PySem.W.findIn K (.ref (He.ga K x)) "__class__") (some (some (.builtin "object.__class__"))) &&
  (He.eqO (PySem.W.specialIn K (.builtin "object.__class__") "__get__") (some (some (.builtin "getset_descriptor.__get__"))) && (decide (PySem.W.takesIn K (.builtin "object.__class__") = some true) && (decide (PySem.W.mroIn K (He.ga K x) (.type "object") = some true) && He.eqO (PySem.W.findIn K (.ref (He.ga K x)) "what") (some none))))))))
theorem excB_ok {x : Str} (c : excB K x = true) : ExcC K (He.ga K x) ∧ XfC K (He.ga K x) ∧ PySem.W.findIn K (.ref (He.ga K x)) "what" = some none := by
  obtain ⟨c1, c⟩ := He.ba c
  obtain ⟨c2, c⟩ := He.ba c
  obtain ⟨c3, c⟩ := He.ba c
  obtain ⟨c4, c⟩ := He.ba c
  obtain ⟨c5, c⟩ := He.ba c
  obtain ⟨c6, c⟩ := He.ba c
  obtain ⟨c7, c⟩ := He.ba c
  obtain ⟨c8, c9⟩ := He.ba c
  exact ⟨⟨He.eqO_ok c1, He.eqO_ok c2, of_decide_eq_true c3, c4, He.eqO_ok c5, He.eqO_ok c6, of_decide_eq_true c7, of_decide_eq_true c8⟩, ⟨He.eqO_ok c1, He.eqO_ok c2, of_decide_eq_true c3, c4⟩, He.eqO_ok c9⟩
theorem fun_of {x qual : Str} {st : Stmt} {f : Addr} {fd : FuncData} (F : FunD K x qual (defArgs st) (defBody st) (defScope st) [] [] f fd) : Fun K x qual st f fd := by
  obtain ⟨oc, od, dV, kV, doc, pm, an, cdv, ct, osl, rfl, lk, hcd, hD, _⟩ := F.ex
  rcases hD with ⟨_, rfl⟩ | ⟨z, _⟩
  · exact ⟨⟨oc, od, kV, doc, pm, an, cdv, ct, osl, rfl, lk, hcd⟩, F.kp⟩
  · exact absurd rfl z
def veB (K : PySem.W.Frag) : Bool := match PySem.W.findCls K (.type "ValueError") (.type "type") "__init__" with
  | some (.val (.builtin n)) => decide (n = "ValueError.__init__")
  | _ => false
theorem veB_ok (c : veB K = true) : PySem.W.findCls K (.type "ValueError") (.type "type") "__init__" = some (.val (.builtin "ValueError.__init__")) := by
  unfold veB at c
  split at c
  · rename_i n e
    rw [e, of_decide_eq_true c]
  · cases c
/-- a def's datum -/
def dfd (x : Str) (st : Stmt) : He.DefD := ⟨(x, none), x, x, defArgs st, defBody st, defScope st, [], []⟩
def dfi (r q : Str) (st : Stmt) : He.DefD := ⟨initAt r, "__init__", q, defArgs st, defBody st, defScope st, [], []⟩
/-- the tables of a text, and how the code in them is called where that is told -/
abbrev TgD : Type := He.Defn × Option Str
def tgT (K : PySem.W.Frag) (y : TgD) : Addr × Addr × Option Str := ((He.cT K y.1).1, (He.cT K y.1).2, y.2)
theorem inj_nodup {α : Type} {f : α → Nat} : ∀ {l : List α}, (l.map f).Nodup → ∀ {y z : α}, y ∈ l → z ∈ l → f y = f z → y = z
  | [], _, _, _, hy, _, _ => by cases hy
  | b :: l, h, y, z, hy, hz, e => by
    rw [List.map_cons, List.nodup_cons] at h
    rcases List.mem_cons.mp hy with e1 | h1 <;> rcases List.mem_cons.mp hz with e2 | h2
    · rw [e1, e2]
    · exact absurd (List.mem_map.mpr ⟨z, h2, by rw [← e, e1]⟩) h.1
    · exact absurd (List.mem_map.mpr ⟨y, h1, by rw [e, e2]⟩) h.1
    · exact inj_nodup h.2 h1 h2 e
/-- no two tables are one -/
def uniB (K : PySem.W.Frag) (tl : List TgD) : Bool := decide ((tl.map fun y => ((He.cT K y.1).2 : Nat)).Nodup)
theorem uni_ok {K : PySem.W.Frag} {tl : List TgD} (h : uniB K tl = true) {y : TgD} (hy : y ∈ tl) : ∀ p ∈ tl.map (tgT K), p.2.1 = (He.cT K y.1).2 → p.2.2 = y.2 := fun p hp e => by
  obtain ⟨z, hz, rfl⟩ := List.mem_map.mp hp
  have h2 : (tl.map fun y : TgD => ((He.cT K y.1).2 : Nat)).Nodup := of_decide_eq_true h
  have e2 : z = y := inj_nodup (f := fun y : TgD => (He.cT K y.1).2) h2 hz hy e
  rw [e2]; rfl
theorem uni_no {K : PySem.W.Frag} {tl : List TgD} (h : tl.all (fun y => decide (y.2 = none)) = true) {y : TgD} (hy : y ∈ tl) : ∀ p ∈ tl.map (tgT K), p.2.1 = (He.cT K y.1).2 → p.2.2 = y.2 := fun p hp _ => by
  obtain ⟨z, hz, rfl⟩ := List.mem_map.mp hp
  have h1 := of_decide_eq_true (List.all_eq_true.mp h z hz)
  have h2 := of_decide_eq_true (List.all_eq_true.mp h y hy)
  rw [h2]; exact h1
section
variable {fa : List He.Fa} {tl : List TgD} {tg : Option Str} {fn : List He.DefD} {ts : List He.Tab} {tf : List He.Defn} {ex : PySem.W.Frag → Bool} {h0 : Heap}
theorem hasF_of (c : He.SaysX fa fn ts tf ex w h0 K) (X : K.In h) (G : h.Ns mainGlobals mg) {x : Str} {st : Stmt} (hd : dfd x st ∈ fn) (hg : He.Fa.glo x ∈ fa) : HasF K mg x st := by
  obtain ⟨fd, F⟩ := c.t.d.defs hd
  exact ⟨_, fd, fun_of F, He.glo_ok X G (c.t.d.facts hg)⟩
theorem hasC_of (c : He.SaysX fa fn ts (tl.map (·.1)) ex w h0 K) (X : K.In h) (G : h.Ns mainGlobals mg) {x : Str} {st : Stmt} (hd : dfd x st ∈ fn) (hg : He.Fa.glo x ∈ fa) (ht : (((x, none), tg) : TgD) ∈ tl) (hu : ∀ p ∈ tl.map (tgT K), p.2.1 = (He.cT K (x, none)).2 → p.2.2 = tg) : HasC K mg (tl.map (tgT K)) tg x st := by
  obtain ⟨fd, F⟩ := c.t.d.defs hd
  obtain ⟨oc, od, dV, kV, doc, pm, an, cdv, ct, osl, rfl, lk, hcd, hD, _⟩ := F.ex
  rcases hD with ⟨_, rfl⟩ | ⟨z, _⟩
  · obtain ⟨cc, rfl⟩ := He.codeIn_ref hcd
    have e : He.codeOf K (x, none) = cc := He.codeOf_eq lk rfl
    have hm : tgT K ((x, none), tg) ∈ tl.map (tgT K) := List.mem_map_of_mem ht
    unfold tgT at hm
    unfold He.cT at hm hu
    rw [e] at hm hu
    exact ⟨_, oc, od, kV, doc, pm, an, cc, _, ct, osl, lk, hcd, F.kp, He.glo_ok X G (c.t.d.facts hg), hm, hu⟩
  · exact absurd rfl z
theorem gc_of (c : He.SaysX fa fn ts tf ex w h0 K) (X : K.In h) (G : h.Ns mainGlobals mg) {r x q : Str} {st : Stmt} (hd : dfi r q st ∈ fn) (e : errB K r x = true) (en : clnB K x = true) (S : FnScope ["self", "what"] ["self", "what"] (defScope st))
    (bd : ∀ (kV doc pm : Value) (an : Option Addr) (cdv ct : Value) (us : List Value), us.length = 2 → bindArgs (PySem.W.fnOf "__init__" q (defArgs st) (defBody st) (defScope st) .none kV doc pm an cdv ct) ⟨us, []⟩ = pure ((["self", "what"] : List Str).zip us))
    (hb : ∀ (f : Addr) (cdv : Value) (A : Around) (outer : List Env) (s : Shared) (H : Hp) (E : XK), PSs (cxOf (L2.CX P w) P w K mg base ["self", "what"] q (defScope st) f cdv A outer s H E) (defBody st) (tXI K)) : GC P w K mg base x (He.ga K x) := by
  obtain ⟨fd, F⟩ := c.t.d.defs hd
  obtain ⟨c1, e⟩ := He.ba e
  obtain ⟨c2, e⟩ := He.ba e
  obtain ⟨c3, e⟩ := He.ba e
  obtain ⟨c4, e⟩ := He.ba e
  obtain ⟨c5, e⟩ := He.ba e
  obtain ⟨c6, e⟩ := He.ba e
  obtain ⟨c7, e⟩ := He.ba e
  obtain ⟨c8, c9⟩ := He.ba e
  have o : OexC K (He.ga K x) := ⟨oexB_ok c2, He.eqO_ok c3, of_decide_eq_true c4, of_decide_eq_true c5, c6⟩
  have F2 : Fun K "__init__" q st (He.fAd K (initAt r)) fd := fun_of F
  exact ⟨PySem.W.mg_of X G (He.eqO_ok c1), _, fd, ⟨o, He.eqO_ok c7, of_decide_eq_true c8, ⟨x, (clnB_ok en).1.nm, init_ok F2 S o (He.eqO_ok c9) (clnB_ok en).2 (clnB_ok en).1 (hb _)⟩, F2.binds bd⟩⟩
theorem lawD_of (c : He.SaysX fa fn ts (tl.map (·.1)) ex w h K) (X : K.In h) (G : h.Ns mainGlobals mg) {l : PySem.W.OpenLaw} {k n : Nat} {x : Str} {fa' : Addr} {sem : FS} (hm : mg "law" = some (.ref fa'))
    (hsem : ∀ ns : List Int, ns.length ≤ n → (∀ z ∈ ns, Builtin.Int.intBits z ≤ 1048576) → ∃ G', sem [.fro (ns.map PyData.int)] [] = .ok (.dat (.bool true)) G')
    (hlaw : ∀ base : Heap, K.In base → base.Ns mainGlobals mg → TBs base mg (tl.map (tgT K)) → Has l.prog w K mg base (tl.map (tgT K)) "law" [x] k sem) : LawD l w K k n x mg fa' h := by
  refine ⟨tl.map (tgT K), sem, fun p hp => ?_, fun p hp => ?_, fun p hp => ?_, hsem, fun base B N tb => ?_⟩
  · obtain ⟨y, hy, rfl⟩ := List.mem_map.mp hp
    exact c.empty y.1 (List.mem_map_of_mem hy)
  · obtain ⟨y, hy, rfl⟩ := List.mem_map.mp hp
    exact c.out y.1 (List.mem_map_of_mem hy)
  · obtain ⟨y, hy, rfl⟩ := List.mem_map.mp hp
    exact PySem.W.codeHd_of_K X (c.hd y.1 (List.mem_map_of_mem hy))
  · obtain ⟨a, fd2, h1, h2, h3, h4⟩ := hlaw base B N tb
    have e : a = fa' := by
      have := h1.symm.trans hm
      cases this; rfl
    subst e
    exact ⟨fd2, fun s u hk => h3 s [u] hk rfl, h4⟩
end
end
/-- a method's def -/
def clsBody (s : Stmt) (j : Nat) : Stmt := match s with
  | .ClassDef _ _ _ body _ _ _ _ _ _ _ => body.getD j (.Pass ⟨0, 0, 0, 0⟩)
  | s => s
theorem all_at {l : List Bool} (h : l.all id = true) (i : Nat) {b : Bool} (e : l[i]? = some b) : b = true := List.all_eq_true.mp h b (List.mem_of_getElem? e)
theorem walk_K {l : PySem.W.OpenLaw} {n k : Nat} {q : Program} {loose : List Str} {XP : (Str → Option Value) → Heap → Prop} {YP : World → Heap → Prop} {d : DefRec} {x : Str}
    (hn : l.most = some n) (hn2 : n ≤ sizeLine) (hdf : d.params.defaults = []) (hr : Room k callerA)
    (F : ∀ (w : World) (mg : Str → Option Value) (fa : Addr) (h : Heap), YP w h → h.Ns mainGlobals mg → mg d.name = some (.ref fa) → ∃ K : PySem.W.Frag, K.In h ∧ LawD l w K k n x mg fa h) :
    PySem.W.WalkO q loose XP YP l.row.toRowW d [] (fun f vs => PySem.call f vs) :=
  Att.attach_callB hn hdf fun w _ s1 mg mb fa _ _ _ _ a us ns G Y _ _ _ hmg hobj inz hlen bits nog => by
    obtain ⟨K, kin, T, sem, h1, h2, h3, h5, h6⟩ := F w mg fa _ Y G.T.g hmg
    exact law_callD kin G.T.g G.T.b G.T.builtins G.T.nolimit nog h1 h2 h3 G.T.bmain hobj inz (Nat.le_trans hlen hn2) hr h6 (h5 ns hlen bits)
end DL

set_option Elab.async false
set_option linter.all false
set_option maxRecDepth 100000
set_option maxHeartbeats 1000000
namespace DL
open PySem PySem.Spec PyProof.Rows L2
open Classical
/-! ### the functions over data, step by step -/
/-- a proof that simp does not take for a reduction -/
theorem prf {α : Type} {a b : α} (h : a = b) : a = b := h
@[simp] theorem e_eVar (i : Nat) env G : eVar i env G = match env[i]? with
  | some (.d x) => .ok x G
  | _ => .bad := prf rfl
@[simp] theorem e_eC (d : D) z0 G : eC d z0 G = .ok d G
 := prf rfl
@[simp] theorem e_eThen (f : ES) (k : D → Env' → Hh → RE) env G : eThen f k env G = match f env G with
  | .ok d G1 => k d env G1
  | .ex c w G1 => .ex c w G1
  | .bad => .bad := prf rfl
@[simp] theorem e_eUn (g : D → Hh → Option (D × Hh)) (f : ES) env G : eUn g f env G = (eThen f fun d _ G => RE.of (g d G)
) env G
 := prf rfl
@[simp] theorem e_eBin (g : D → D → Hh → Option (D × Hh)) (f h : ES) env G : eBin g f h env G = (eThen f fun x => eThen h fun y _ G => RE.of (g x y G)
) env G
 := prf rfl
@[simp] theorem e_aNil  z0 G : aNil  z0 G = .ok [] G
 := prf rfl
@[simp] theorem e_aCons (f : ES) (g : AS) env G : aCons f g env G = match f env G with
  | .ok d G1 => (match g env G1 with
    | .ok ds G2 => .ok (d :: ds) G2
    | .ex c w G2 => .ex c w G2
    | .bad => .bad)
  | .ex c w G1 => .ex c w G1
  | .bad => .bad := prf rfl
@[simp] theorem e_eArgs (g : List D → Hh → Option (D × Hh)) (f : AS) env G : eArgs g f env G = match f env G with
  | .ok ds G1 => RE.of (g ds G1)
  | .ex c w G1 => .ex c w G1
  | .bad => .bad := prf rfl
@[simp] theorem e_tTest' (g : D → Hh → Option Bool) (f : ES) env G : tTest' g f env G = match f env G with
  | .ok d G1 => (match g d G1 with
    | some b => .ok b G1
    | none => .bad)
  | .ex c w G1 => .ex c w G1
  | .bad => .bad := prf rfl
@[simp] theorem e_sAnd (f g : TSm) env G : sAnd f g env G = match f env G with
  | .ok b G1 => if b then g env G1 else .ok false G1
  | r => r := prf rfl
@[simp] theorem e_sOr (f g : TSm) env G : sOr f g env G = match f env G with
  | .ok b G1 => if b then .ok true G1 else g env G1
  | r => r := prf rfl
@[simp] theorem e_sNot (f : TSm) env G : sNot f env G = match f env G with
  | .ok b G1 => .ok (!b) G1
  | r => r := prf rfl
@[simp] theorem e_eIf (c : TSm) (f g : ES) env G : eIf c f g env G = match c env G with
  | .ok b G1 => if b then f env G1 else g env G1
  | .ex c w G1 => .ex c w G1
  | .bad => .bad := prf rfl
@[simp] theorem e_eAnd (tr : D → Hh → Option Bool) (f g : ES) env G : eAnd tr f g env G = (eThen f fun x env G => match tr x G with
  | some true => g env G
  | some false => .ok x G
  | none => .bad) env G
 := prf rfl
@[simp] theorem e_eOr (tr : D → Hh → Option Bool) (f g : ES) env G : eOr tr f g env G = (eThen f fun x env G => match tr x G with
  | some true => .ok x G
  | some false => g env G
  | none => .bad) env G
 := prf rfl
@[simp] theorem e_eChain (g g' : D → D → Hh → Option (D × Hh)) (fa fb fc : ES) env G : eChain g g' fa fb fc env G = (eThen fa fun x => eThen fb fun y env G => match g x y G with
  | some (.dat (.bool true), G2) => eThen fc (fun z _ G3 => RE.of (g' y z G3)) env G2
  | some (.dat (.bool false), G2) => .ok (.dat (.bool false)) G2
  | _ => .bad) env G
 := prf rfl
@[simp] theorem e_oNone  z0 G : oNone  z0 G = .ok none G
 := prf rfl
@[simp] theorem e_oSome (f : ES) env G : oSome f env G = match f env G with
  | .ok (.dat (.int i)) G1 => .ok (some i) G1
  | .ok _ _ => .bad
  | .ex c w G1 => .ex c w G1
  | .bad => .bad := prf rfl
@[simp] theorem e_eSl (f : ES) (o o' : OS) env G : eSl f o o' env G = (eThen f fun x env G => match o env G with
  | .ok lo G1 => (match o' env G1 with
    | .ok hi G2 => RE.of (gSl x lo hi G2)
    | .ex c w G2 => .ex c w G2
    | .bad => .bad)
  | .ex c w G1 => .ex c w G1
  | .bad => .bad) env G
 := prf rfl
@[simp] theorem e_eMet (ok : D → Hh → Bool) (g : D → List D → Hh → Option (D × Hh)) (f : ES) (fs : AS) env G : eMet ok g f fs env G = (eThen f fun x env G => if ok x G then (match fs env G with
    | .ok ds G1 => RE.of (g x ds G1)
    | .ex c w G1 => .ex c w G1
    | .bad => .bad) else .bad) env G
 := prf rfl
@[simp] theorem e_eMet0 (ok : D → Hh → Bool) (g : D → List D → Hh → Option (D × Hh)) (f : ES) env G : eMet0 ok g f env G = (eThen f fun x env G => if ok x G then RE.of (g x [] G) else .bad
) env G
 := prf rfl
@[simp] theorem e_sNil  env G : sNil  env G = .nx env G
 := prf rfl
@[simp] theorem e_sSeq (f g : SS) env G : sSeq f g env G = match f env G with
  | .nx e G1 => g e G1
  | r => r := prf rfl
@[simp] theorem e_sAsg (f : ES) (a : GS) env G : sAsg f a env G = match f env G with
  | .ok d G1 => (match a d env G1 with
    | some (env', G') => .nx env' G'
    | none => .bad)
  | .ex c w G1 => .ex c w env G1
  | .bad => .bad := prf rfl
@[simp] theorem e_aName (i : Nat) d env G : aName i d env G = some (env.set i (.d d), G)
 := prf rfl
@[simp] theorem e_sDrop (f : ES) env G : sDrop f env G = match f env G with
  | .ok _ G1 => .nx env G1
  | .ex c w G1 => .ex c w env G1
  | .bad => .bad := prf rfl
@[simp] theorem e_sRet (f : ES) env G : sRet f env G = match f env G with
  | .ok d G1 => .rt d G1
  | .ex c w G1 => .ex c w env G1
  | .bad => .bad := prf rfl
@[simp] theorem e_sRetN  z0 G : sRetN  z0 G = .rt (.dat .none) G
 := prf rfl
@[simp] theorem e_sBreak  env G : sBreak  env G = .bk env G
 := prf rfl
@[simp] theorem e_sCont  env G : sCont  env G = .ct env G
 := prf rfl
@[simp] theorem e_sIf (t : TSm) (f g : SS) env G : sIf t f g env G = match t env G with
  | .ok b G1 => if b then f env G1 else g env G1
  | .ex c w G1 => .ex c w env G1
  | .bad => .bad := prf rfl
@[simp] theorem e_sAug (i : Nat) (g : D → D → Hh → Option (D × Hh)) (f : ES) env G : sAug i g f env G = match env[i]? with
  | some (.d x) => (match f env G with
    | .ok y G1 => (match g x y G1 with
      | some (z, G2) => .nx (env.set i (.d z)) G2
      | none => .bad)
    | .ex c w G1 => .ex c w env G1
    | .bad => .bad)
  | _ => .bad := prf rfl
@[simp] theorem e_sPar (i j : Nat) (f : AS) env G : sPar i j f env G = match f env G with
  | .ok [x, y] G1 => .nx ((env.set i (.d x)).set j (.d y)) G1
  | .ok _ _ => .bad
  | .ex c w G1 => .ex c w env G1
  | .bad => .bad := prf rfl
@[simp] theorem e_sPar3 (i j l : Nat) (f : AS) env G : sPar3 i j l f env G = match f env G with
  | .ok [x, y, z] G1 => .nx (((env.set i (.d x)).set j (.d y)).set l (.d z)) G1
  | .ok _ _ => .bad
  | .ex c w G1 => .ex c w env G1
  | .bad => .bad := prf rfl
@[simp] theorem e_aTup (as : List GS) d env G : aTup as d env G = match d with
  | .dat (.tuple ds) => if ds.length = as.length then aList as (ds.map .dat) env G else none
  | .mix ds => if ds.length = as.length then aList as ds env G else none
  | _ => none := prf rfl
@[simp] theorem e_aSub (fo fi : ES) (g : D → D → D → Hh → Option Hh) v env G : aSub fo fi g v env G = match fo env G with
  | .ok o G1 => (match fi env G1 with
    | .ok i G2 => (match g o i v G2 with
      | some G3 => some (env, G3)
      | none => none)
    | _ => none)
  | _ => none := prf rfl
theorem e_sFor (src : IS) (a : GS) (f : SS) env G : sFor src a f env G = match src env G with
  | .ok xs chk G1 => forL a f chk xs env G1
  | .ex c w G1 => .ex c w env G1
  | .bad => .bad := prf rfl
@[simp] theorem e_srcSeq (f : ES) env G : srcSeq f env G = match f env G with
  | .ok (.dat (.tuple ds)) G1 => .ok (ds.map .dat) yesH G1
  | .ok (.mix ds) G1 => .ok ds yesH G1
  | .ok (.fro ds) G1 => .ok (ds.map .dat) yesH G1
  | .ok (.ref l) G1 => (match G1[l]? with
    | some (.lst xs) => .ok xs (fun g => g[l]? = some (.lst xs)) G1
    | none => .bad)
  | .ok (.dat (.str z)) G1 => .ok (z.cps.toList.map fun c => .dat (.str ⟨#[c]⟩)) yesH G1
  | .ok _ _ => .bad
  | .ex c w G1 => .ex c w G1
  | .bad => .bad := prf rfl
@[simp] theorem e_srcRange1 (f : AS) env G : srcRange1 f env G = match f env G with
  | .ok [.dat (.int n)] G1 => if okR n then .ok (rngD 0 n.toNat) yesH G1 else .bad
  | .ok _ _ => .bad
  | .ex c w G1 => .ex c w G1
  | .bad => .bad := prf rfl
@[simp] theorem e_srcRange2 (f : AS) env G : srcRange2 f env G = match f env G with
  | .ok [.dat (.int i), .dat (.int j)] G1 => if okR i ∧ okR j then .ok (rngD i (j - i).toNat) yesH G1 else .bad
  | .ok _ _ => .bad
  | .ex c w G1 => .ex c w G1
  | .bad => .bad := prf rfl
@[simp] theorem e_srcEnum (f : AS) env G : srcEnum f env G = match f env G with
  | .ok [.dat (.tuple ds)] G1 => .ok (enumF 0 (ds.map .dat)) yesH G1
  | .ok [.ref l] G1 => (match G1[l]? with
    | some (.lst xs) => .ok (enumF 0 xs) (fun g => g[l]? = some (.lst xs)) G1
    | none => .bad)
  | .ok _ _ => .bad
  | .ex c w G1 => .ex c w G1
  | .bad => .bad := prf rfl
@[simp] theorem e_srcZip (f : AS) env G : srcZip f env G = match f env G with
  | .ok [.dat (.tuple ds), .dat (.tuple es)] G1 => .ok (zipF (ds.map .dat) (es.map .dat)) yesH G1
  | .ok [.ref l, .ref m] G1 => (match G1[l]?, G1[m]? with
    | some (.lst xs), some (.lst ys) => .ok (zipF xs ys) (fun g => g[l]? = some (.lst xs) ∧ g[m]? = some (.lst ys)) G1
    | _, _ => .bad)
  | .ok _ _ => .bad
  | .ex c w G1 => .ex c w G1
  | .bad => .bad := prf rfl
@[simp] theorem e_fnD (N : Nat) (body : SS) ds G : fnD N body ds G = match body (ds.map .d ++ List.replicate (N - ds.length) .no) G with
  | .nx _ G' => .ok (.dat .none) G'
  | .rt d G' => .ok d G'
  | .ex c w _ G' => .ex c w G'
  | _ => .bad := prf rfl
@[simp] theorem e_eCallA (n : Nat) (sem : FS) (fs : AS) env G : eCallA n sem fs env G = match fs env G with
  | .ok ds G1 => if ds.length = n then sem ds G1 else .bad
  | .ex c w G1 => .ex c w G1
  | .bad => .bad := prf rfl
@[simp] theorem e_sRaise (C : Addr) (f : ES) env G : sRaise C f env G = match f env G with
  | .ok w G1 => .ex C w env G1
  | .ex c w G1 => .ex c w env G1
  | .bad => .bad := prf rfl
@[simp] theorem e_sSuite (i : Nat) (fs : SS) (c : Addr) (w : D) env G : sSuite i fs c w env G = if i < env.length then match fs ((cutX env).set i (.exc c w)) G with
  | .nx env2 G2 => .nx ((cutX env2).set i .no) G2
  | .bk env2 G2 => .bk ((cutX env2).set i .no) G2
  | .ct env2 G2 => .ct ((cutX env2).set i .no) G2
  | .rt d G2 => .rt d G2
  | _ => .bad
  else .bad := prf rfl
@[simp] theorem e_sSuite0 (fs : SS) env G : sSuite0 fs env G = match fs (cutX env) G with
  | .nx env2 G2 => .nx (cutX env2) G2
  | .bk env2 G2 => .bk (cutX env2) G2
  | .ct env2 G2 => .ct (cutX env2) G2
  | .rt d G2 => .rt d G2
  | _ => .bad := prf rfl
theorem e_sTry (fb : SS) (h : Addr → D → SS) env G : sTry fb h env G = match (fb (cutX env) G).cut with
  | .ex c w env1 G1 => h c w env1 G1
  | r => r := prf rfl
@[simp] theorem e_hOne (m : Addr → Option Bool) (suite : Addr → D → SS) c w env G : hOne m suite c w env G = match m c with
  | some true => suite c w env G
  | some false => .ex c w env G
  | none => .bad := prf rfl
@[simp] theorem e_eWhat (i : Nat) (m : Addr → Bool) env G : eWhat i m env G = match env[i]? with
  | some (.exc c w) => if m c = true then .ok w G else .bad
  | _ => .bad := prf rfl
@[simp] theorem e_eIsE (i : Nat) (m : Addr → Option Bool) env G : eIsE i m env G = match env[i]? with
  | some (.exc c _) => (match m c with
    | some b => .ok (.dat (.bool b)) G
    | none => .bad)
  | _ => .bad := prf rfl
@[simp] theorem e_tNo  z0 G : tNo  z0 G = .ok true G
 := prf rfl
theorem e_eLc (src : IS) (a : GS) (t : TSm) (f : ES) (vs : List Nat) env G : eLc src a t f vs env G = match src env G with
  | .ok xs chk G1 => lcL a t f G1.length chk (wipeE (cutX env) vs) xs (G1 ++ [.lst []])
  | .ex c w G1 => .ex c w G1
  | .bad => .bad := prf rfl
theorem e_eTupG (src : IS) (a : GS) (f : ES) (vs : List Nat) env G : eTupG src a f vs env G = match src env G with
  | .ok xs chk G1 => tgL a f chk (wipeE (cutX env) vs) xs [] G1
  | .ex c w G1 => .ex c w G1
  | .bad => .bad := prf rfl
theorem e_eAllG (src : IS) (a : GS) (f : ES) (vs : List Nat) env G : eAllG src a f vs env G = match src env G with
  | .ok xs chk G1 => agL a f chk (wipeE (cutX env) vs) 0 xs G1
  | .ex c w G1 => .ex c w G1
  | .bad => .bad := prf rfl
theorem e_eLc2 (src : IS) (a : GS) (t : TSm) (src1 : IS) (a1 : GS) (t1 : TSm) (f : ES) (vs vs1 : List Nat) env G : eLc2 src a t src1 a1 t1 f vs vs1 env G = match src env G with
  | .ok xs chk G1 => lc2L a t src1 a1 t1 f vs1 G1.length chk (wipeE (cutX env) vs) xs (G1 ++ [.lst []])
  | .ex c w G1 => .ex c w G1
  | .bad => .bad := prf rfl
theorem sFor_ok {src : IS} {a : GS} {f : SS} {env : Env'} {G G1 : Hh} {xs : List D} {chk : Hh → Prop} (h : src env G = .ok xs chk G1) : sFor src a f env G = forL a f chk xs env G1 := by
  unfold sFor
  rw [h]
theorem eLc_ok {src : IS} {a : GS} {t : TSm} {f : ES} {vs : List Nat} {env : Env'} {G G1 : Hh} {xs : List D} {chk : Hh → Prop} (h : src env G = .ok xs chk G1) : eLc src a t f vs env G = lcL a t f G1.length chk (wipeE (cutX env) vs) xs (G1 ++ [.lst []]) := by
  unfold eLc
  rw [h]
theorem eLc2_ok {src src1 : IS} {a a1 : GS} {t t1 : TSm} {f : ES} {vs vs1 : List Nat} {env : Env'} {G G1 : Hh} {xs : List D} {chk : Hh → Prop} (h : src env G = .ok xs chk G1) :
    eLc2 src a t src1 a1 t1 f vs vs1 env G = lc2L a t src1 a1 t1 f vs1 G1.length chk (wipeE (cutX env) vs) xs (G1 ++ [.lst []]) := by
  unfold eLc2
  rw [h]
theorem eTupG_ok {src : IS} {a : GS} {f : ES} {vs : List Nat} {env : Env'} {G G1 : Hh} {xs : List D} {chk : Hh → Prop} (h : src env G = .ok xs chk G1) : eTupG src a f vs env G = tgL a f chk (wipeE (cutX env) vs) xs [] G1 := by
  unfold eTupG
  rw [h]
theorem eAllG_ok {src : IS} {a : GS} {f : ES} {vs : List Nat} {env : Env'} {G G1 : Hh} {xs : List D} {chk : Hh → Prop} (h : src env G = .ok xs chk G1) : eAllG src a f vs env G = agL a f chk (wipeE (cutX env) vs) 0 xs G1 := by
  unfold eAllG
  rw [h]
end DL

set_option Elab.async false
set_option linter.all false
set_option maxRecDepth 100000
set_option maxHeartbeats 1000000
namespace DL
open PySem PySem.Spec PyProof.Rows L2
open Classical
section
variable {G : Hh} {i j : Int} {x y : Str} {a b : List PyData} {d e : PyData} {l m : Nat} {xs ys ds es : List D} {ps : List PyData} {u v : D}
@[simp] theorem of_some : RE.of (some (u, G)) = .ok u G := prf rfl
@[simp] theorem of_none : RE.of none = .bad := prf rfl
@[simp] theorem gAdd_int : gAdd (.dat (.int i)) (.dat (.int j)) G = some (.dat (.int (i + j)), G) := prf rfl
@[simp] theorem gAdd_str : gAdd (.dat (.str x)) (.dat (.str y)) G = if x.length + y.length ≤ 100000 then some (.dat (.str (x ++ y)), G) else none := prf rfl
@[simp] theorem gAdd_tup : gAdd (.dat (.tuple a)) (.dat (.tuple b)) G = if a.length + b.length ≤ 100000 then some (.dat (.tuple (a ++ b)), G) else none := prf rfl
@[simp] theorem gAdd_ref : gAdd (.ref l) (.ref m) G = match G[l]?, G[m]? with
    | some (.lst a), some (.lst b) => if a.length + b.length ≤ 100000 then some (.ref G.length, G ++ [.lst (a ++ b)]) else none
    | _, _ => none := prf rfl
@[simp] theorem gSub_int : gSub (.dat (.int i)) (.dat (.int j)) G = some (.dat (.int (i - j)), G) := prf rfl
@[simp] theorem gMul_int : gMul (.dat (.int i)) (.dat (.int j)) G = if mulOk i j then some (.dat (.int (i * j)), G) else none := prf rfl
@[simp] theorem gMul_tup : gMul (.dat (.tuple a)) (.dat (.int j)) G = if 0 ≤ j ∧ j ≤ 1000 ∧ a.length ≤ 1000 then some (.dat (.tuple (repL a j)), G) else none := prf rfl
@[simp] theorem gDiv_int : gDiv (.dat (.int i)) (.dat (.int j)) G = if 0 < j ∧ j.natAbs.log2 < 9000 then some (.dat (.int (i / j)), G) else none := prf rfl
@[simp] theorem gMod_int : gMod (.dat (.int i)) (.dat (.int j)) G = if 0 < j then some (.dat (.int (i % j)), G) else none := prf rfl
@[simp] theorem gPow_int : gPow (.dat (.int i)) (.dat (.int j)) G = if 0 ≤ j ∧ j ≤ 1000000 ∧ i.natAbs < 2 ^ 64 then some (.dat (.int (i ^ j.toNat)), G) else none := prf rfl
@[simp] theorem gNeg_int : gNeg (.dat (.int i)) G = some (.dat (.int (-i)), G) := prf rfl
@[simp] theorem gEq_dat : gEq (.dat d) (.dat e) G = if min d.depth e.depth ≤ 60 then some (.dat (.bool (PyData.eqv d e)), G) else none := prf rfl
@[simp] theorem gNe_dat : gNe (.dat d) (.dat e) G = if min d.depth e.depth ≤ 60 then some (.dat (.bool (!PyData.eqv d e)), G) else none := prf rfl
theorem gEq_view (h1 : view G u = some d) (h2 : view G v = some e) : gEq u v G = if min d.depth e.depth ≤ 60 then some (.dat (.bool (PyData.eqv d e)), G) else none := by unfold gEq; rw [h1, h2]
theorem gNe_view (h1 : view G u = some d) (h2 : view G v = some e) : gNe u v G = if min d.depth e.depth ≤ 60 then some (.dat (.bool (!PyData.eqv d e)), G) else none := by unfold gNe; rw [h1, h2]
@[simp] theorem view_dat : view G (.dat d) = some d := prf rfl
@[simp] theorem view_ref : view G (.ref l) = match G[l]? with
    | some (.lst xs) => (dats xs).map .list
    | none => none := prf rfl
@[simp] theorem view_fro : view G (.fro a) = some (.list a) := prf rfl
@[simp] theorem gLt_int : gLt (.dat (.int i)) (.dat (.int j)) G = some (.dat (.bool (decide (i < j))), G) := prf rfl
@[simp] theorem gGt_int : gGt (.dat (.int i)) (.dat (.int j)) G = some (.dat (.bool (decide (j < i))), G) := prf rfl
@[simp] theorem gLe_int : gLe (.dat (.int i)) (.dat (.int j)) G = some (.dat (.bool (decide (i ≤ j))), G) := prf rfl
@[simp] theorem gGe_int : gGe (.dat (.int i)) (.dat (.int j)) G = some (.dat (.bool (decide (j ≤ i))), G) := prf rfl
/-- one text within another -/
def inS (c s : Str) : Bool := !(Builtin.Str.occurrences s c 0 s.length 1).isEmpty
@[simp] theorem inD_str : inD (.dat (.str x)) (.dat (.str y)) G = some (inS x y) := prf rfl
@[simp] theorem inD_tup : inD (.dat d) (.dat (.tuple a)) G = if min (PyData.depthAll a) d.depth ≤ 60 then some (a.any fun y => PyData.eqv y d) else none := by cases d <;> rfl
theorem inD_view (h : view G v = some (.list a)) : inD (.dat d) v G = if min (PyData.depthAll a) d.depth ≤ 60 then some (a.any fun y => PyData.eqv y d) else none := by
  unfold inD
  rw [h]
  cases d <;> rfl
@[simp] theorem gIn_eq : gIn u v G = (inD u v G).map fun b => (.dat (.bool b), G) := prf rfl
@[simp] theorem gNotIn_eq : gNotIn u v G = (inD u v G).map fun b => (.dat (.bool (!b)), G) := prf rfl
@[simp] theorem gIs_eq : gIs u v G = (isD u v).map fun b => (.dat (.bool b), G) := prf rfl
@[simp] theorem gIsNot_eq : gIsNot u v G = (isD u v).map fun b => (.dat (.bool (!b)), G) := prf rfl
@[simp] theorem isD_none : isD (.dat .none) (.dat .none) = some true := prf rfl
@[simp] theorem isD_bool {p : Bool} : isD (.dat (.bool p)) (.dat .none) = some false := prf rfl
@[simp] theorem isD_int : isD (.dat (.int i)) (.dat .none) = some false := prf rfl
@[simp] theorem isD_str : isD (.dat (.str x)) (.dat .none) = some false := prf rfl
@[simp] theorem isD_tup : isD (.dat (.tuple a)) (.dat .none) = some false := prf rfl
@[simp] theorem isD_bb {p q : Bool} : isD (.dat (.bool p)) (.dat (.bool q)) = some (decide (p = q)) := prf rfl
@[simp] theorem tru_none : tru (.dat .none) G = some false := prf rfl
@[simp] theorem tru_bool {p : Bool} : tru (.dat (.bool p)) G = some p := prf rfl
@[simp] theorem tru_int : tru (.dat (.int i)) G = some (i != 0) := prf rfl
@[simp] theorem tru_str : tru (.dat (.str y)) G = if y.length ≤ 100000 then some ((y.length : Int) != 0) else none := prf rfl
@[simp] theorem tru_tup : tru (.dat (.tuple a)) G = some (!a.isEmpty) := prf rfl
@[simp] theorem tru_ref : tru (.ref l) G = match G[l]? with
    | some (.lst xs) => some (!xs.isEmpty)
    | none => none := prf rfl
@[simp] theorem truB_bool {p : Bool} : truB (.dat (.bool p)) G = some p := prf rfl
@[simp] theorem gNotT_eq : gNotT u G = (tru u G).map fun b => (.dat (.bool (!b)), G) := prf rfl
@[simp] theorem gIx_tup : gIx (.dat (.tuple a)) (.dat (.int i)) G = match atI a i with
    | some d => some (.dat d, G)
    | none => none := prf rfl
@[simp] theorem gIx_fro : gIx (.fro a) (.dat (.int i)) G = match atI a i with
    | some d => some (.dat d, G)
    | none => none := prf rfl
@[simp] theorem gIx_mix : gIx (.mix xs) (.dat (.int i)) G = match atI xs i with
    | some d => some (d, G)
    | none => none := prf rfl
@[simp] theorem gIx_ref : gIx (.ref l) (.dat (.int i)) G = match G[l]? with
    | some (.lst xs) => (match atI xs i with
      | some d => some (d, G)
      | none => none)
    | none => none := prf rfl
@[simp] theorem gIx_str : gIx (.dat (.str x)) (.dat (.int i)) G = if x.length ≤ 100000 then (match atI x.cps.toList i with
    | some c => some (.dat (.str ⟨#[c]⟩), G)
    | none => none) else none := prf rfl
theorem atI_nat {α : Type} (xs : List α) (n : Nat) : atI xs (n : Int) = xs[n]? := by
  unfold atI ixN
  by_cases h : n < xs.length
  · rw [if_pos (by omega), if_pos (by omega)]
    simp
  · rw [if_pos (by omega), if_neg (by omega), List.getElem?_eq_none (by omega)]
    rfl
@[simp] theorem atI_0 {α : Type} (xs : List α) : atI xs 0 = xs[0]? := atI_nat xs 0
@[simp] theorem atI_1 {α : Type} (xs : List α) : atI xs 1 = xs[1]? := atI_nat xs 1
@[simp] theorem atI_2 {α : Type} (xs : List α) : atI xs 2 = xs[2]? := atI_nat xs 2
@[simp] theorem atI_3 {α : Type} (xs : List α) : atI xs 3 = xs[3]? := atI_nat xs 3
theorem atI_int {α : Type} {xs : List α} {i : Int} (h : 0 ≤ i) : atI xs i = xs[i.toNat]? := by
  obtain ⟨n, rfl⟩ := Int.eq_ofNat_of_zero_le h
  rw [atI_nat]; rfl
theorem ixN_nat {n k : Nat} (h : k < n) : ixN n (k : Int) = some k := by
  unfold ixN
  rw [if_pos (by omega), if_pos (by omega)]; rfl
theorem ixN_int {n : Nat} {i : Int} (h0 : 0 ≤ i) (h : i < n) : ixN n i = some i.toNat := by
  unfold ixN
  rw [if_pos h0, if_pos h]
@[simp] theorem gSl_tup {lo hi : Option Int} : gSl (.dat (.tuple a)) lo hi G = some (.dat (.tuple (cutL a lo hi)), G) := prf rfl
@[simp] theorem gSl_ref {lo hi : Option Int} : gSl (.ref l) lo hi G = match G[l]? with
    | some (.lst xs) => some (.ref G.length, G ++ [.lst (cutL xs lo hi)])
    | none => none := prf rfl
theorem cutL_to {α : Type} (xs : List α) (n : Nat) : cutL xs none (some (n : Int)) = xs.take n := by
  unfold cutL
  rw [HT.sIx_none, HT.sIx_nat]
  simp
theorem cutL_from {α : Type} (xs : List α) (n : Nat) : cutL xs (some (n : Int)) none = xs.drop n := by
  unfold cutL
  rw [HT.sIx_none, HT.sIx_nat]
  by_cases h : n ≤ xs.length
  · rw [Nat.min_eq_left h, List.take_of_length_le (by simp)]
  · rw [Nat.min_eq_right (by omega)]
    simp
    omega
@[simp] theorem gLen_one : gLen [u] G = (lenD u G).map fun n => (.dat (.int n), G) := prf rfl
@[simp] theorem lenD_str : lenD (.dat (.str y)) G = if y.length ≤ 100000 then some (y.length : Int) else none := prf rfl
@[simp] theorem lenD_tup : lenD (.dat (.tuple a)) G = some (a.length : Int) := prf rfl
@[simp] theorem lenD_ref : lenD (.ref l) G = match G[l]? with
    | some (.lst xs) => some (xs.length : Int)
    | none => none := prf rfl
@[simp] theorem lenD_fro : lenD (.fro a) G = some (a.length : Int) := prf rfl
@[simp] theorem lenD_mix : lenD (.mix xs) G = some (xs.length : Int) := prf rfl
@[simp] theorem gInt_int : gInt [.dat (.int i)] G = some (.dat (.int i), G) := prf rfl
@[simp] theorem gInt_bool {p : Bool} : gInt [.dat (.bool p)] G = some (.dat (.int (if p then 1 else 0)), G) := prf rfl
@[simp] theorem gMax2_int : gMax2 [.dat (.int i), .dat (.int j)] G = some (.dat (.int (if j > i then j else i)), G) := prf rfl
@[simp] theorem gMin2_int : gMin2 [.dat (.int i), .dat (.int j)] G = some (.dat (.int (if j < i then j else i)), G) := prf rfl
@[simp] theorem gList_tup : gList [.dat (.tuple a)] G = some (.ref G.length, G ++ [.lst (a.map .dat)]) := prf rfl
@[simp] theorem gList_ref : gList [.ref l] G = match G[l]? with
    | some (.lst xs) => some (.ref G.length, G ++ [.lst xs])
    | none => none := prf rfl
@[simp] theorem gTuple_ref : gTuple [.ref l] G = match G[l]? with
    | some (.lst xs) => some (mkTup xs, G)
    | none => none := prf rfl
@[simp] theorem gTuple_tup : gTuple [.dat (.tuple a)] G = some (.dat (.tuple a), G) := prf rfl
@[simp] theorem gSum_ref : gSum [.ref l] G = match G[l]? with
    | some (.lst xs) => (match ints? xs with
      | some ns => some (.dat (.int ns.sum), G)
      | none => none)
    | none => none := prf rfl
theorem dats_map : dats (a.map .dat) = some a := by
  induction a with
  | nil => rfl
  | cons d r ih => rw [List.map_cons]; unfold dats; rw [ih]; rfl
@[simp] theorem dats_map' : dats (a.map D.dat) = some a := dats_map
@[simp] theorem dats_nil : dats [] = some [] := prf rfl
@[simp] theorem dats_cons : dats (.dat d :: xs) = (dats xs).map (d :: ·) := prf rfl
theorem dats_app {as bs : List PyData} (h1 : dats xs = some as) (h2 : dats ys = some bs) : dats (xs ++ ys) = some (as ++ bs) := by
  induction xs generalizing as with
  | nil => cases h1; exact h2
  | cons z r ih =>
    cases z with
    | dat d =>
      obtain ⟨c, hc, rfl⟩ := Option.map_eq_some_iff.mp (show (dats r).map (d :: ·) = some as from h1)
      show (dats (r ++ ys)).map (d :: ·) = _
      rw [ih hc]; rfl
    | _ => cases h1
theorem mkTup_dats (h : dats xs = some a) : mkTup xs = .dat (.tuple a) := by unfold mkTup; rw [h]
@[simp] theorem mkTup_map : mkTup (a.map .dat) = .dat (.tuple a) := mkTup_dats dats_map
@[simp] theorem mkTup_nil : mkTup [] = .dat (.tuple []) := prf rfl
@[simp] theorem mkTup_1 : mkTup [.dat d] = .dat (.tuple [d]) := prf rfl
@[simp] theorem mkTup_2 : mkTup [.dat d, .dat e] = .dat (.tuple [d, e]) := prf rfl
@[simp] theorem mkTup_3 {f : PyData} : mkTup [.dat d, .dat e, .dat f] = .dat (.tuple [d, e, f]) := prf rfl
@[simp] theorem gTupD_eq : gTupD ds G = if ds.length ≤ 100000 then some (mkTup ds, G) else none := prf rfl
@[simp] theorem gLstD_eq : gLstD ds G = if ds.length ≤ 100000 then some (.ref G.length, G ++ [.lst ds]) else none := prf rfl
@[simp] theorem gIsa_int : gIsa [.dat d, .ty "int"] G = some (.dat (.bool d.isInt), G) := prf rfl
@[simp] theorem gIsa_bool : gIsa [.dat d, .ty "bool"] G = some (.dat (.bool d.isBool), G) := prf rfl
@[simp] theorem gIsa_str : gIsa [.dat d, .ty "str"] G = some (.dat (.bool d.isStr), G) := prf rfl
@[simp] theorem gIsa_tup : gIsa [.dat d, .ty "tuple"] G = some (.dat (.bool d.isTuple), G) := prf rfl
@[simp] theorem gRepr_dat : gRepr [.dat d] G = if reprOk d then some (.dat (.str d.shown), G) else none := prf rfl
@[simp] theorem isLst_ref : isLst (.ref l) G = match G[l]? with
    | some (.lst _) => true
    | none => false := prf rfl
@[simp] theorem gAppend_ref : gAppend (.ref l) [u] G = match G[l]? with
    | some (.lst xs) => if xs.length < 100000 then some (.dat .none, G.set l (.lst (xs ++ [u]))) else none
    | none => none := prf rfl
@[simp] theorem gExtend_ref : gExtend (.ref l) [.ref m] G = match G[l]?, G[m]? with
    | some (.lst xs), some (.lst ys) => if xs.length + ys.length ≤ 100000 then some (.dat .none, G.set l (.lst (xs ++ ys))) else none
    | _, _ => none := prf rfl
@[simp] theorem gPop_last : gPop (.ref l) [] G = match G[l]? with
    | some (.lst xs) => (match xs[xs.length - 1]? with
      | some d => some (d, G.set l (.lst xs.dropLast))
      | none => none)
    | none => none := prf rfl
@[simp] theorem gPop_at : gPop (.ref l) [.dat (.int i)] G = match G[l]? with
    | some (.lst xs) => (match ixN xs.length i with
      | some k => (match xs[k]? with
        | some d => some (d, G.set l (.lst (xs.eraseIdx k)))
        | none => none)
      | none => none)
    | none => none := prf rfl
@[simp] theorem aList_nil {env : Env'} : aList [] [] env G = some (env, G) := prf rfl
@[simp] theorem aList_cons {f : GS} {as : List GS} {env : Env'} : aList (f :: as) (u :: ds) env G = match f u env G with
    | some (env', G') => aList as ds env' G'
    | none => none := prf rfl
@[simp] theorem gSetL_ref : gSetL (.ref l) (.dat (.int i)) u G = match G[l]? with
    | some (.lst xs) => (match ixN xs.length i with
      | some j => some (G.set l (.lst (xs.set j u)))
      | none => none)
    | none => none := prf rfl
theorem mulOk_r (h : j.natAbs < 2 ^ 64) : mulOk i j = true := by
  unfold mulOk
  rw [decide_eq_true h]
  simp
theorem mulOk_l (h : i.natAbs < 2 ^ 64) : mulOk i j = true := by
  unfold mulOk
  rw [decide_eq_true h]
  simp
end
/-! ### calls of own defs -/
section
variable {sem : FS} {G G1 : Hh} {ds : List D} {d w : D} {c : Addr} {ls : List Nat}
theorem rel_ok (h1 : (refs ds).Nodup) (h2 : ∀ l ∈ refs ds, l < G.length) (h3 : argsOk ds = true) (h4 : (pick G (refs ds)).all moClean = true) (hs : sem (renum 0 ds) (pick G (refs ds)) = .ok d G1)
    (h5 : (refs ds).length ≤ G1.length) (h6 : (G1.take (refs ds).length).all moClean = true) (h7 : clean d = true) : relCall sem ds G = .ok d (writeBack G (refs ds) G1) := by
  unfold relCall
  rw [if_pos ⟨h1, h2, h3, h4⟩, hs]
  unfold relOut
  simp [h5, h6, h7]
/-- nothing is handed over but values -/
theorem rel_ok0 (h1 : refs ds = []) (h2 : renum 0 ds = ds) (h3 : argsOk ds = true) (hs : sem ds [] = .ok d G1) (h7 : clean d = true) : relCall sem ds G = .ok d G := by
  rw [rel_ok (d := d) (G1 := G1) (by rw [h1]; exact List.nodup_nil) (by rw [h1]; simp) h3 (by rw [h1]; rfl) (by rw [h1, h2]; exact hs) (by rw [h1]; simp) (by rw [h1]; simp) h7, h1]
  cases G1 <;> rfl
theorem rel_ex0 (h1 : refs ds = []) (h2 : renum 0 ds = ds) (h3 : argsOk ds = true) (hs : sem ds [] = .ex c w G1) (h7 : clean w = true) : relCall sem ds G = .ex c w G := by
  unfold relCall
  rw [if_pos ⟨by rw [h1]; exact List.nodup_nil, by rw [h1]; simp, h3, by rw [h1]; rfl⟩, h1, h2]
  have : pick G [] = [] := rfl
  rw [this, hs]
  unfold relOut
  simp [h7]
  cases G1 <;> rfl
end
section
variable {sem : FS} {G G1 : Hh} {ds ds' : List D} {d w : D} {c : Addr} {l m n : Nat} {mo mo' m2 m2' mn : MO}
theorem getD_of (h : G[l]? = some mo) : G.getD l (.lst []) = mo := by rw [List.getD_eq_getElem?_getD, h]; rfl
theorem lt_of {α : Type} {G : List α} {l : Nat} {mo : α} (h : G[l]? = some mo) : l < G.length := (List.getElem?_eq_some_iff.mp h).1
/-- one object is handed over -/
theorem rel_1 (h1 : refs ds = [l]) (hr : renum 0 ds = ds') (h3 : argsOk ds = true) (hl : G[l]? = some mo) (hc : moClean mo = true) (hs : sem ds' [mo] = .ok d (mo' :: G1)) (hc' : moClean mo' = true) (hd : clean d = true) : relCall sem ds G = .ok d (G.set l mo') := by
  have hp : pick G [l] = [mo] := by simp [pick, hl]
  rw [rel_ok (d := d) (G1 := mo' :: G1) (by rw [h1]; simp) (by rw [h1]; intro x hx; simp at hx; subst hx; exact lt_of hl) h3 (by rw [h1, hp]; simp [hc]) (by rw [h1, hr, hp]; exact hs) (by rw [h1]; simp) (by rw [h1]; simp [hc']) hd, h1]
  cases G1 <;> rfl
/-- .. and one is made -/
theorem rel_1n (h1 : refs ds = [l]) (hr : renum 0 ds = ds') (h3 : argsOk ds = true) (hl : G[l]? = some mo) (hc : moClean mo = true) (hs : sem ds' [mo] = .ok (.ref n) (mo' :: G1)) (hc' : moClean mo' = true) (hn : (mo' :: G1)[n]? = some mn) (h0 : 1 ≤ n) (hm : moClean mn = true) :
    relCall sem ds G = .ok (.ref G.length) (G.set l mo' ++ [mn]) := by
  have hp : pick G [l] = [mo] := by simp [pick, hl]
  unfold relCall
  rw [if_pos ⟨by rw [h1]; simp, by rw [h1]; intro x hx; simp at hx; subst hx; exact lt_of hl, h3, by rw [h1, hp]; simp [hc]⟩, h1, hr, hp, hs]
  unfold relOut
  dsimp only
  rw [if_pos ⟨by simp, by simp [hc']⟩, if_neg (by simp [clean])]
  simp only [hn]
  rw [if_pos ⟨h0, hm⟩]
  cases G1 <;> rfl
theorem rel_0n (h1 : refs ds = []) (hr : renum 0 ds = ds) (h3 : argsOk ds = true) (hs : sem ds [] = .ok (.ref n) G1) (hn : G1[n]? = some mn) (hm : moClean mn = true) : relCall sem ds G = .ok (.ref G.length) (G ++ [mn]) := by
  unfold relCall
  rw [if_pos ⟨by rw [h1]; exact List.nodup_nil, by rw [h1]; simp, h3, by rw [h1]; rfl⟩, h1, hr]
  have : pick G [] = [] := rfl
  rw [this, hs]
  unfold relOut
  dsimp only
  rw [if_pos ⟨by simp, by simp⟩, if_neg (by simp [clean])]
  simp only [hn]
  rw [if_pos ⟨by simp, hm⟩]
  cases G1 <;> rfl
/-- two objects are handed over -/
theorem rel_2 (h1 : refs ds = [l, m]) (hr : renum 0 ds = ds') (h3 : argsOk ds = true) (hlm : l ≠ m) (hl : G[l]? = some mo) (hm : G[m]? = some m2) (hc : moClean mo = true) (hc2 : moClean m2 = true) (hs : sem ds' [mo, m2] = .ok d (mo' :: m2' :: G1)) (hc' : moClean mo' = true) (hc2' : moClean m2' = true) (hd : clean d = true) :
    relCall sem ds G = .ok d ((G.set l mo').set m m2') := by
  have hp : pick G [l, m] = [mo, m2] := by simp [pick, hl, hm]
  rw [rel_ok (d := d) (G1 := mo' :: m2' :: G1) (by rw [h1]; simp [hlm]) (by rw [h1]; intro x hx; simp at hx; rcases hx with rfl | rfl; exact lt_of hl; exact lt_of hm) h3 (by rw [h1, hp]; simp [hc, hc2]) (by rw [h1, hr, hp]; exact hs) (by rw [h1]; simp) (by rw [h1]; simp [hc', hc2']) hd, h1]
  cases G1 <;> rfl
theorem rel_2n (h1 : refs ds = [l, m]) (hr : renum 0 ds = ds') (h3 : argsOk ds = true) (hlm : l ≠ m) (hl : G[l]? = some mo) (hm : G[m]? = some m2) (hc : moClean mo = true) (hc2 : moClean m2 = true) (hs : sem ds' [mo, m2] = .ok (.ref n) (mo' :: m2' :: G1)) (hc' : moClean mo' = true) (hc2' : moClean m2' = true)
    (hn : (mo' :: m2' :: G1)[n]? = some mn) (h0 : 2 ≤ n) (hcn : moClean mn = true) : relCall sem ds G = .ok (.ref G.length) ((G.set l mo').set m m2' ++ [mn]) := by
  have hp : pick G [l, m] = [mo, m2] := by simp [pick, hl, hm]
  unfold relCall
  rw [if_pos ⟨by rw [h1]; simp [hlm], by rw [h1]; intro x hx; simp at hx; rcases hx with rfl | rfl; exact lt_of hl; exact lt_of hm, h3, by rw [h1, hp]; simp [hc, hc2]⟩, h1, hr, hp, hs]
  unfold relOut
  dsimp only
  rw [if_pos ⟨by simp, by simp [hc', hc2']⟩, if_neg (by simp [clean])]
  simp only [hn]
  rw [if_pos ⟨h0, hcn⟩]
  cases G1 <;> rfl
end
theorem cleans_dat {a : List PyData} : cleans (a.map .dat) = true := by
  induction a with
  | nil => rfl
  | cons d r ih => rw [List.map_cons]; unfold cleans; rw [ih]; rfl
end DL

set_option Elab.async false
set_option linter.all false
set_option maxRecDepth 100000
set_option maxHeartbeats 1000000
namespace DL
open PySem PySem.Spec PyProof.Rows L2
open Classical
/-! ### what all the laws share: pool, take, one, mixed -/
noncomputable def gPool : FS := fnD 5 (sSeq (sAsg (eC (.dat (.int 0))) (aName 2))
    (sSeq (sIf (tTest' truB (eBin gLt (eVar 1) (eArgs gLen (aCons (eVar 0) aNil)))) (sAsg (eBin gIx (eVar 0) (eVar 1)) (aName 2)) (sIf (tTest' truB (eBin gNe (eVar 0) (eArgs gLstD aNil))) (sAsg (eBin gIx (eVar 0) (eC (.dat (.int 0)))) (aName 2)) sNil))
    (sSeq (sAsg (eArgs gMax2 (aCons (eArgs gInt (aCons (eVar 2) aNil)) (aCons (eArgs gInt (aCons (eBin gSub (eUn gNeg (eC (.dat (.int 1)))) (eVar 2)) aNil)) aNil))) (aName 3))
    (sSeq (sAsg (eBin gMod (eArgs gInt (aCons (eBin gMul (eBin gAdd (eBin gAdd (eBin gAdd (eBin gMod (eArgs gInt (aCons (eVar 3) aNil)) (eC (.dat (.int 2147483629)))) (eBin gMul (eBin gMul (eC (.dat (.int 7919))) (eVar 1)) (eVar 1))) (eBin gMul (eC (.dat (.int 31))) (eVar 1))) (eC (.dat (.int 17)))) (eC (.dat (.int 48271)))) aNil)) (eC (.dat (.int 2147483647)))) (aName 4))
    (sRet (eArgs gLstD (aCons (eBin gMul (eVar 3) (eArgs gInt (aCons (eAnd tru (eBin gGe (eVar 3) (eBin gPow (eC (.dat (.int 10))) (eC (.dat (.int 18))))) (eBin gLt (eVar 1) (eArgs gLen (aCons (eVar 0) aNil)))) aNil))) (aCons (eVar 4) aNil))))))))
noncomputable def gTake : FS := fnD 3 (sSeq (sIf (tTest' truB (eBin gGt (eBin gIx (eVar 0) (eC (.dat (.int 0)))) (eC (.dat (.int 0))))) (sSeq (sAsg (eBin gMod (eArgs gInt (aCons (eBin gIx (eVar 0) (eC (.dat (.int 0)))) aNil)) (eVar 1)) (aName 2))
    (sSeq (sAsg (eBin gDiv (eBin gIx (eVar 0) (eC (.dat (.int 0)))) (eVar 1)) (aSub (eVar 0) (eC (.dat (.int 0))) gSetL))
    (sRet (eVar 2)))) sNil)
    (sSeq (sAsg (eBin gMod (eArgs gInt (aCons (eBin gAdd (eBin gMul (eBin gIx (eVar 0) (eC (.dat (.int 1)))) (eC (.dat (.int 39373)))) (eC (.dat (.int 7)))) aNil)) (eC (.dat (.int 2147483647)))) (aSub (eVar 0) (eC (.dat (.int 1))) gSetL))
    (sRet (eBin gMod (eArgs gInt (aCons (eBin gDiv (eBin gMod (eArgs gInt (aCons (eBin gMul (eBin gIx (eVar 0) (eC (.dat (.int 1)))) (eBin gIx (eVar 0) (eC (.dat (.int 1))))) aNil)) (eC (.dat (.int 2147483629)))) (eC (.dat (.int 32)))) aNil)) (eVar 1)))))
noncomputable def gOne : FS := fnD 2 (sRet (eBin gIx (eVar 1) (eCallA 2 (relCall gTake) (aCons (eVar 0) (aCons (eArgs gLen (aCons (eVar 1) aNil)) aNil)))))
noncomputable def gMixed : FS := fnD 5 (sSeq (sPar 2 3 (aCons (eArgs gList (aCons (eVar 1) aNil)) (aCons (eArgs gLstD aNil) aNil)))
    (sSeq (sFor (srcRange1 (aCons (eArgs gLen (aCons (eVar 1) aNil)) aNil)) (aName 4) (sDrop (eMet isLst gAppend (eVar 3) (aCons (eMet isLst gPop (eVar 2) (aCons (eCallA 2 (relCall gTake) (aCons (eVar 0) (aCons (eArgs gLen (aCons (eVar 2) aNil)) aNil))) aNil)) aNil))))
    (sRet (eVar 3))))
/-- the source that is drawn from -/
def Src (m : MO) : Prop := ∃ a b : Int, 0 ≤ a ∧ 0 ≤ b ∧ m = .lst [.dat (.int a), .dat (.int b)]
theorem Src.clean {m : MO} (h : Src m) : moClean m = true := by
  obtain ⟨a, b, _, _, rfl⟩ := h
  rfl
theorem take_ok {m : MO} {top : Int} (h : Src m) (ht : 0 < top) (ht2 : top ≤ 1000000) : ∃ r m', 0 ≤ r ∧ r < top ∧ Src m' ∧ gTake [.ref 0, .dat (.int top)] [m] = .ok (.dat (.int r)) [m'] := by
  obtain ⟨a, b, ha, hb, rfl⟩ := h
  have l1 : top.natAbs.log2 < 9000 := by
    have : top.natAbs < 2 ^ 9000 := Nat.lt_of_lt_of_le (m := 2 ^ 20) (by omega) (Nat.pow_le_pow_right (n := 2) (by decide) (by decide))
    by_cases z : top.natAbs = 0
    · rw [z]; decide
    · exact (Nat.log2_lt z).mpr this
  by_cases h : 0 < a
  · refine ⟨a % top, .lst [.dat (.int (a / top)), .dat (.int b)], Int.emod_nonneg _ (by omega), Int.emod_lt_of_pos _ ht, ⟨_, _, Int.ediv_nonneg ha (by omega), hb, rfl⟩, ?_⟩
    simp [gTake, h, ht, l1, ixN_int]
  · have l2 : ∀ x : Int, mulOk x 39373 = true := fun x => mulOk_r (by decide)
    have h1 : 0 ≤ (b * 39373 + 7) % 2147483647 := Int.emod_nonneg _ (by decide)
    have h2 : (b * 39373 + 7) % 2147483647 < 2147483647 := Int.emod_lt_of_pos _ (by decide)
    have l3 : mulOk ((b * 39373 + 7) % 2147483647) ((b * 39373 + 7) % 2147483647) = true := mulOk_r (by omega)
    have l4 : Nat.log2 32 < 9000 := by decide
    refine ⟨((b * 39373 + 7) % 2147483647 * ((b * 39373 + 7) % 2147483647)) % 2147483629 / 32 % top, .lst [.dat (.int a), .dat (.int ((b * 39373 + 7) % 2147483647))], Int.emod_nonneg _ (by omega), Int.emod_lt_of_pos _ ht, ⟨_, _, ha, h1, rfl⟩, ?_⟩
    simp [gTake, h, ht, l2, l3, l4, ixN_int]
theorem pool_ok (ns : List Int) : ∃ n G1 mn, gPool [.fro (ns.map PyData.int), .dat (.int 0)] [] = .ok (.ref n) G1 ∧ G1[n]? = some mn ∧ Src mn := by
  have l1 : ∀ x y : Int, y.natAbs < 2 ^ 64 → mulOk x y = true := fun x y h => mulOk_r h
  cases ns with
  | nil =>
    have e : gPool [.fro ([].map PyData.int), .dat (.int 0)] [] = .ok (.ref 1) [MO.lst [], MO.lst [D.dat (PyData.int 0), D.dat (PyData.int 820607)]] := by
      simp [gPool, l1, gNe_view, PyData.eqv, PyData.eqvAll, PyData.depth, PyData.depthAll]
    exact ⟨_, _, _, e, rfl, _, _, by decide, by decide, rfl⟩
  | cons x r =>
    have h0 : 0 ≤ if x < -1 - x then -1 - x else x := by split <;> omega
    by_cases hc : 1000000000000000000 ≤ if x < -1 - x then -1 - x else x
    · have e : gPool [.fro ((x :: r).map PyData.int), .dat (.int 0)] [] = .ok (.ref 0) [MO.lst [D.dat (PyData.int (if x < -1 - x then -1 - x else x)), D.dat (PyData.int (((if x < -1 - x then -1 - x else x) % 2147483629 + 17) * 48271 % 2147483647))]] := by
        simp [gPool, l1, gNe_view, PyData.eqv, PyData.eqvAll, PyData.depth, PyData.depthAll, hc]
      exact ⟨_, _, _, e, rfl, _, _, h0, Int.emod_nonneg _ (by decide), rfl⟩
    · have e : gPool [.fro ((x :: r).map PyData.int), .dat (.int 0)] [] = .ok (.ref 0) [MO.lst [D.dat (PyData.int 0), D.dat (PyData.int (((if x < -1 - x then -1 - x else x) % 2147483629 + 17) * 48271 % 2147483647))]] := by
        simp [gPool, l1, gNe_view, PyData.eqv, PyData.eqvAll, PyData.depth, PyData.depthAll, hc]
      exact ⟨_, _, _, e, rfl, _, _, by decide, Int.emod_nonneg _ (by decide), rfl⟩
/-- the pool as it is called -/
theorem pool_rel (ns : List Int) (G : Hh) : ∃ mn, Src mn ∧ relCall gPool [.fro (ns.map PyData.int), .dat (.int 0)] G = .ok (.ref G.length) (G ++ [mn]) := by
  obtain ⟨n, G1, mn, e, h1, h2⟩ := pool_ok ns
  exact ⟨mn, h2, rel_0n rfl rfl rfl e h1 h2.clean⟩
/-- take as it is called, the source at l -/
theorem take_rel {G : Hh} {l : Nat} {m : MO} {top : Int} (hl : G[l]? = some m) (h : Src m) (ht : 0 < top) (ht2 : top ≤ 1000000) : ∃ r m', 0 ≤ r ∧ r < top ∧ Src m' ∧ relCall gTake [.ref l, .dat (.int top)] G = .ok (.dat (.int r)) (G.set l m') := by
  obtain ⟨r, m', h1, h2, h3, e⟩ := take_ok h ht ht2
  exact ⟨r, m', h1, h2, h3, rel_1 rfl rfl rfl hl h.clean e h3.clean rfl⟩
/-- one of a list | of a tuple -/
theorem one_ok {m : MO} {xs : List D} (h : Src m) (hx : xs ≠ []) (hx2 : xs.length ≤ 1000000) : ∃ x m', x ∈ xs ∧ Src m' ∧ gOne [.ref 0, .ref 1] [m, .lst xs] = .ok x [m', .lst xs] := by
  obtain ⟨r, m', h1, h2, h3, e⟩ := take_rel (G := [m, .lst xs]) (l := 0) (top := xs.length) rfl h (by have := List.length_pos_iff.mpr hx; omega) (by omega)
  have hr : r.toNat < xs.length := by omega
  refine ⟨xs[r.toNat], m', List.getElem_mem hr, h3, ?_⟩
  simp [gOne, e, atI_int h1, List.getElem?_eq_getElem hr]
theorem one_rel {G : Hh} {l k : Nat} {m : MO} {xs : List D} (hl : G[l]? = some m) (hk : G[k]? = some (.lst xs)) (hlk : l ≠ k) (h : Src m) (hx : xs ≠ []) (hx2 : xs.length ≤ 1000000) (hc : cleans xs = true) :
    ∃ x m', x ∈ xs ∧ Src m' ∧ relCall gOne [.ref l, .ref k] G = .ok x (G.set l m') := by
  obtain ⟨x, m', h1, h2, e⟩ := one_ok h hx hx2
  have hcx : ∀ {xs : List D} {x : D}, cleans xs = true → x ∈ xs → clean x = true := by
    intro xs
    induction xs with
    | nil => intro x _ hx; cases hx
    | cons y ys ih =>
      intro x hc hx
      simp only [cleans, Bool.and_eq_true] at hc
      rcases List.mem_cons.mp hx with rfl | hx
      · exact hc.1
      · exact ih hc.2 hx
  have e2 := rel_2 (G := G) (ds := [.ref l, .ref k]) rfl rfl rfl hlk hl hk h.clean hc e h2.clean hc (hcx hc h1)
  refine ⟨x, m', h1, h2, ?_⟩
  rw [e2]
  congr 1
  have : (G.set l m')[k]? = some (.lst xs) := by rw [List.getElem?_set_ne hlk]; exact hk
  exact List.ext_getElem? fun i => by
    by_cases hi : k = i
    · subst hi
      rw [List.getElem?_set_self (by simpa using lt_of hk), this]
    · rw [List.getElem?_set_ne hi]

theorem forL_nil {a : GS} {f : SS} {env : Env'} {G : Hh} {chk : Hh → Prop} (h : chk G) : forL a f chk [] env G = .nx env G := by
  unfold forL
  rw [if_pos h]
theorem forL_nx {a : GS} {f : SS} {chk : Hh → Prop} {d : D} {ds : List D} {env env1 e : Env'} {G G1 g : Hh} (h : chk G) (ha : a d env G = some (env1, G1)) (hf : f env1 G1 = .nx e g) : forL a f chk (d :: ds) env G = forL a f chk ds e g := by
  rw [forL, if_pos h, ha]
  dsimp only
  rw [hf]
theorem forL_rt {a : GS} {f : SS} {chk : Hh → Prop} {d w : D} {ds : List D} {env env1 : Env'} {G G1 g : Hh} (h : chk G) (ha : a d env G = some (env1, G1)) (hf : f env1 G1 = .rt w g) : forL a f chk (d :: ds) env G = .rt w g := by
  rw [forL, if_pos h, ha]
  dsimp only
  rw [hf]
theorem forL_ex {a : GS} {f : SS} {chk : Hh → Prop} {d w : D} {c : Addr} {ds : List D} {env env1 e : Env'} {G G1 g : Hh} (h : chk G) (ha : a d env G = some (env1, G1)) (hf : f env1 G1 = .ex c w e g) : forL a f chk (d :: ds) env G = .ex c w e g := by
  rw [forL, if_pos h, ha]
  dsimp only
  rw [hf]
theorem cons_eraseIdx {α : Type} : ∀ {l : List α} {i : Nat} (h : i < l.length), (l[i] :: l.eraseIdx i).Perm l
  | x :: l, 0, _ => List.Perm.refl _
  | x :: l, i + 1, h => (List.Perm.swap x _ _).trans ((cons_eraseIdx (l := l) (i := i) (by simpa using h)).cons x)
theorem mixed_loop {xs : List D} (hx : xs.length ≤ 1000) : ∀ (n : Nat) (m : MO) (left found ds : List D) (s : Sl), Src m → left.length = n → ds.length = n → (found ++ left).Perm xs →
    ∃ m' ys s', Src m' ∧ ys.Perm xs ∧ forL (aName 4) (sDrop (eMet isLst gAppend (eVar 3) (aCons (eMet isLst gPop (eVar 2) (aCons (eCallA 2 (relCall gTake) (aCons (eVar 0) (aCons (eArgs gLen (aCons (eVar 2) aNil)) aNil))) aNil)) aNil))) yesH ds
      [.d (.ref 0), .d (.ref 1), .d (.ref 2), .d (.ref 3), s] [m, .lst xs, .lst left, .lst found] = .nx [.d (.ref 0), .d (.ref 1), .d (.ref 2), .d (.ref 3), s'] [m', .lst xs, .lst [], .lst ys] := by
  intro n
  induction n with
  | zero =>
    intro m left found ds s hm hl hd hp
    obtain rfl := List.eq_nil_of_length_eq_zero hl
    obtain rfl := List.eq_nil_of_length_eq_zero hd
    exact ⟨m, found, s, hm, by simpa using hp, forL_nil trivial⟩
  | succ n ih =>
    intro m left found ds s hm hl hd hp
    obtain ⟨d, ds, rfl⟩ : ∃ d r, ds = d :: r := by
      cases ds with
      | nil => simp at hd
      | cons d r => exact ⟨d, r, rfl⟩
    have hlen : found.length + left.length = xs.length := by simpa using hp.length_eq
    obtain ⟨r, m', h1, h2, h3, e⟩ := take_rel (G := [m, .lst xs, .lst left, .lst found]) (l := 0) (top := left.length) rfl hm (by omega) (by omega)
    have hr : r.toNat < left.length := by omega
    have hp2 : ((found ++ [left[r.toNat]]) ++ left.eraseIdx r.toNat).Perm xs := by
      refine List.Perm.trans ?_ hp
      rw [List.append_assoc]
      exact List.Perm.append_left found (by simpa using cons_eraseIdx hr)
    obtain ⟨m2, ys, s2, q1, q2, q3⟩ := ih m' (left.eraseIdx r.toNat) (found ++ [left[r.toNat]]) ds (.d d) h3 (by rw [List.length_eraseIdx_of_lt hr]; omega) (by simpa using hd) hp2
    refine ⟨m2, ys, s2, q1, q2, ?_⟩
    rw [forL_nx (env1 := [.d (.ref 0), .d (.ref 1), .d (.ref 2), .d (.ref 3), .d d]) (G1 := [m, .lst xs, .lst left, .lst found]) (e := [.d (.ref 0), .d (.ref 1), .d (.ref 2), .d (.ref 3), .d d]) (g := [m', .lst xs, .lst (left.eraseIdx r.toNat), .lst (found ++ [left[r.toNat]])]) trivial rfl ?_]
    · exact q3
    · have l1 : found.length < 100000 := by omega
      simp [e, ixN_int h1 h2, List.getElem?_eq_getElem hr, l1]
theorem mixed_ok {m : MO} {xs : List D} (h : Src m) (hx : xs.length ≤ 1000) : ∃ m' ys, Src m' ∧ ys.Perm xs ∧ gMixed [.ref 0, .ref 1] [m, .lst xs] = .ok (.ref 3) [m', .lst xs, .lst [], .lst ys] := by
  obtain ⟨m', ys, s', h1, h2, e⟩ := mixed_loop hx xs.length m xs [] (rngD 0 xs.length) .no h rfl (by simp [rngD]) (by simp)
  refine ⟨m', ys, h1, h2, ?_⟩
  have l1 : okR (xs.length : Int) := by unfold okR; omega
  have e2 : sFor (srcRange1 (aCons (eArgs gLen (aCons (eVar 1) aNil)) aNil)) (aName 4) (sDrop (eMet isLst gAppend (eVar 3) (aCons (eMet isLst gPop (eVar 2) (aCons (eCallA 2 (relCall gTake) (aCons (eVar 0) (aCons (eArgs gLen (aCons (eVar 2) aNil)) aNil))) aNil)) aNil)))
      [.d (.ref 0), .d (.ref 1), .d (.ref 2), .d (.ref 3), .no] [m, .lst xs, .lst xs, .lst []] = .nx [.d (.ref 0), .d (.ref 1), .d (.ref 2), .d (.ref 3), s'] [m', .lst xs, .lst [], .lst ys] := by
    rw [sFor_ok (xs := rngD 0 xs.length) (chk := yesH) (G1 := [m, .lst xs, .lst xs, .lst []]) (by simp [l1])]
    exact e
  simp [gMixed, e2]
theorem cleans_perm {xs ys : List D} (h : ys.Perm xs) : cleans ys = cleans xs := by
  have : ∀ zs : List D, cleans zs = zs.all clean := by
    intro zs
    induction zs with
    | nil => rfl
    | cons z r ih => simp only [cleans, List.all_cons, ih]
  rw [this, this]
  exact h.all_eq
theorem mixed_rel {G : Hh} {l k : Nat} {m : MO} {xs : List D} (hl : G[l]? = some m) (hk : G[k]? = some (.lst xs)) (hlk : l ≠ k) (h : Src m) (hx : xs.length ≤ 1000) (hc : cleans xs = true) :
    ∃ m' ys, Src m' ∧ ys.Perm xs ∧ relCall gMixed [.ref l, .ref k] G = .ok (.ref G.length) (G.set l m' ++ [.lst ys]) := by
  obtain ⟨m', ys, h1, h2, e⟩ := mixed_ok h hx
  refine ⟨m', ys, h1, h2, ?_⟩
  have e2 := rel_2n (G := G) (ds := [.ref l, .ref k]) (n := 3) rfl rfl rfl hlk hl hk h.clean hc e h1.clean hc (mn := .lst ys) rfl (by decide) (by rw [moClean, cleans_perm h2]; exact hc)
  rw [e2]
  have e3 : (G.set l m').set k (.lst xs) = G.set l m' := ?_
  · rw [e3]
  have : (G.set l m')[k]? = some (.lst xs) := by rw [List.getElem?_set_ne hlk]; exact hk
  exact List.ext_getElem? fun i => by
    by_cases hi : k = i
    · subst hi
      rw [List.getElem?_set_self (by simpa using lt_of hk), this]
    · rw [List.getElem?_set_ne hi]
end DL

set_option Elab.async false
set_option linter.all false
set_option maxRecDepth 100000
set_option maxHeartbeats 1000000
namespace DL
open PySem PySem.Spec PyProof.Rows L2
open Classical
/-! ### comprehensions that touch nothing else -/
section
variable {α : Type} {a : GS} {t : TSm} {f : ES} {l : Nat} {chk : Hh → Prop} {env : Env'}
theorem lcL_map (dv : α → D) (e : α → Env') (tb : α → Bool) (fv : α → D) (Ok : Hh → Prop) (hset : ∀ g zs, Ok g → Ok (g.set l (.lst zs))) (hc : ∀ g, Ok g → chk g) : ∀ (cs : List α) (acc : List D) (G : Hh),
    (∀ x ∈ cs, ∀ g, Ok g → a (dv x) env g = some (e x, g) ∧ t (e x) g = .ok (tb x) g ∧ (tb x = true → f (e x) g = .ok (fv x) g)) → Ok G → G[l]? = some (.lst acc) → acc.length + cs.length ≤ 100000 →
    lcL a t f l chk env (cs.map dv) G = .ok (.ref l) (G.set l (.lst (acc ++ (cs.filter tb).map fv)))
  | [], acc, G, _, h, hl, _ => by
    rw [List.map_nil, lcL, if_pos (hc _ h)]
    congr 1
    simp
    exact (List.ext_getElem? fun i => by
      by_cases hi : l = i
      · subst hi
        rw [List.getElem?_set_self (lt_of hl), hl]
      · rw [List.getElem?_set_ne hi]).symm
  | x :: xs, acc, G, ha, h, hl, hn => by
    obtain ⟨h1, h2, h3⟩ := ha x List.mem_cons_self G h
    rw [List.map_cons, lcL, if_pos (hc _ h), h1]
    dsimp only
    rw [h2]
    have ih := lcL_map dv e tb fv Ok hset hc xs
    cases hb : tb x with
    | true =>
      dsimp only
      rw [h3 hb]
      dsimp only
      rw [hl]
      dsimp only
      have : acc.length < 100000 := by simp at hn; omega
      rw [if_pos this, ih (acc ++ [fv x]) _ (fun y hy g hg => ha y (List.mem_cons_of_mem _ hy) g hg) (hset _ _ h) (by rw [List.getElem?_set_self (lt_of hl)]) (by simp at hn ⊢; omega)]
      simp [hb, List.set_set]
    | false =>
      dsimp only
      rw [ih acc G (fun y hy g hg => ha y (List.mem_cons_of_mem _ hy) g hg) h hl (by simp at hn ⊢; omega)]
      simp [hb]
/-- .. of a source that no list is -/
theorem eLc_dat {src : IS} {vs : List Nat} {G G1 : Hh} (dv : α → D) (e : α → Env') (tb : α → Bool) (fv : α → PyData) (cs : List α) (h : src env G = .ok (cs.map dv) yesH G1)
    (hx : ∀ x ∈ cs, ∀ g, a (dv x) (wipeE (cutX env) vs) g = some (e x, g) ∧ t (e x) g = .ok (tb x) g ∧ (tb x = true → f (e x) g = .ok (.dat (fv x)) g)) (hn : cs.length ≤ 100000) :
    eLc src a t f vs env G = .ok (.ref G1.length) (G1 ++ [.lst (((cs.filter tb).map fv).map .dat)]) := by
  rw [eLc_ok h, lcL_map (chk := yesH) dv e tb (fun x => .dat (fv x)) (fun _ => True) (fun _ _ _ => trivial) (fun _ _ => trivial) cs [] _ (fun x hm g _ => hx x hm g) trivial (by simp) (by simpa using hn)]
  simp
theorem set_same {G : Hh} {l : Nat} {mo : MO} (h : G[l]? = some mo) : G.set l mo = G := List.ext_getElem? fun i => by
  by_cases hi : l = i
  · subst hi
    rw [List.getElem?_set_self (lt_of h), h]
  · rw [List.getElem?_set_ne hi]
theorem lcIn_map {β : Type} (dv : β → D) (e : β → Env') (fv : β → D) (Ok : Hh → Prop) (hset : ∀ g zs, Ok g → Ok (g.set l (.lst zs))) (hc : ∀ g, Ok g → chk g) : ∀ (cs : List β) (acc : List D) (G : Hh),
    (∀ x ∈ cs, ∀ g, Ok g → a (dv x) env g = some (e x, g) ∧ t (e x) g = .ok true g ∧ f (e x) g = .ok (fv x) g) → Ok G → G[l]? = some (.lst acc) → acc.length + cs.length ≤ 100000 →
    lcIn a t f l chk env (cs.map dv) G = some (G.set l (.lst (acc ++ cs.map fv)))
  | [], acc, G, _, h, hl, _ => by
    rw [List.map_nil, lcIn, if_pos (hc _ h)]
    simp [set_same hl]
  | x :: xs, acc, G, ha, h, hl, hn => by
    obtain ⟨h1, h2, h3⟩ := ha x List.mem_cons_self G h
    rw [List.map_cons, lcIn, if_pos (hc _ h), h1]
    dsimp only
    rw [h2]
    dsimp only
    rw [h3]
    dsimp only
    rw [hl]
    dsimp only
    have ih := lcIn_map dv e fv Ok hset hc xs
    have : acc.length < 100000 := by simp at hn; omega
    rw [if_pos this, ih (acc ++ [fv x]) _ (fun y hy g hg => ha y (List.mem_cons_of_mem _ hy) g hg) (hset _ _ h) (by rw [List.getElem?_set_self (lt_of hl)]) (by simp at hn ⊢; omega)]
    simp [List.set_set]
theorem lc2L_map {β : Type} {src1 : IS} {a1 : GS} {t1 : TSm} {vs1 : List Nat} (dv : α → D) (e : α → Env') (cs1 : α → List β) (dv1 : α → β → D) (e1 : α → β → Env') (fv : α → β → D) (Ok : Hh → Prop) (hset : ∀ g zs, Ok g → Ok (g.set l (.lst zs))) (hc : ∀ g, Ok g → chk g) : ∀ (cs : List α) (acc : List D) (G : Hh),
    (∀ x ∈ cs, ∀ g, Ok g → a (dv x) env g = some (e x, g) ∧ t (e x) g = .ok true g ∧ src1 (e x) g = .ok ((cs1 x).map (dv1 x)) yesH g ∧
      ∀ y ∈ cs1 x, a1 (dv1 x y) (wipeE (e x) vs1) g = some (e1 x y, g) ∧ t1 (e1 x y) g = .ok true g ∧ f (e1 x y) g = .ok (fv x y) g) → Ok G → G[l]? = some (.lst acc) → acc.length + (cs.flatMap fun x => (cs1 x).map (fv x)).length ≤ 100000 →
    lc2L a t src1 a1 t1 f vs1 l chk env (cs.map dv) G = .ok (.ref l) (G.set l (.lst (acc ++ cs.flatMap fun x => (cs1 x).map (fv x))))
  | [], acc, G, _, h, hl, _ => by
    rw [List.map_nil, lc2L, if_pos (hc _ h)]
    simp [set_same hl]
  | x :: xs, acc, G, ha, h, hl, hn => by
    obtain ⟨h1, h2, h3, h4⟩ := ha x List.mem_cons_self G h
    rw [List.map_cons, lc2L, if_pos (hc _ h), h1]
    dsimp only
    rw [h2]
    dsimp only
    rw [h3]
    dsimp only
    rw [List.flatMap_cons, List.length_append] at hn
    rw [lcIn_map (chk := yesH) (dv1 x) (e1 x) (fv x) Ok hset (fun _ _ => trivial) (cs1 x) acc G (fun y hy g hg => (ha x List.mem_cons_self g hg).2.2.2 y hy) h hl (by simp at hn ⊢; omega)]
    dsimp only
    have ih := lc2L_map (src1 := src1) (a1 := a1) (t1 := t1) (vs1 := vs1) dv e cs1 dv1 e1 fv Ok hset hc xs
    rw [ih (acc ++ (cs1 x).map (fv x)) _ (fun y hy g hg => ha y (List.mem_cons_of_mem _ hy) g hg) (hset _ _ h) (by rw [List.getElem?_set_self (lt_of hl)]) (by simp at hn ⊢; omega)]
    rw [List.flatMap_cons, List.set_set, List.append_assoc]
theorem agL_map {G : Hh} (dv : α → D) (e : α → Env') (p : α → Bool) (hc : chk G) : ∀ (cs : List α) (n : Nat), (∀ x ∈ cs, a (dv x) env G = some (e x, G) ∧ f (e x) G = .ok (.dat (.bool (p x))) G) → n + cs.length ≤ 100000 →
    agL a f chk env n (cs.map dv) G = .ok (.dat (.bool (cs.all p))) G
  | [], n, _, hn => by
    rw [List.map_nil, agL, if_pos hc]
    rfl
  | x :: xs, n, ha, hn => by
    obtain ⟨h1, h2⟩ := ha x List.mem_cons_self
    rw [List.map_cons, agL, if_pos ⟨hc, by simp at hn; omega⟩, h1]
    dsimp only
    rw [h2]
    cases hb : p x with
    | true =>
      dsimp only
      rw [agL_map dv e p hc xs (n + 1) (fun y hy => ha y (List.mem_cons_of_mem _ hy)) (by simp at hn ⊢; omega)]
      simp [hb]
    | false => simp [hb]
theorem eAllG_dat {src : IS} {vs : List Nat} {G G1 : Hh} (dv : α → D) (e : α → Env') (p : α → Bool) (cs : List α) (h : src env G = .ok (cs.map dv) chk G1) (hc : chk G1)
    (hx : ∀ x ∈ cs, a (dv x) (wipeE (cutX env) vs) G1 = some (e x, G1) ∧ f (e x) G1 = .ok (.dat (.bool (p x))) G1) (hn : cs.length ≤ 100000) : eAllG src a f vs env G = .ok (.dat (.bool (cs.all p))) G1 := by
  rw [eAllG_ok h, agL_map dv e p hc cs 0 hx (by omega)]
theorem tgL_map {G : Hh} (dv : α → D) (e : α → Env') (fv : α → D) (hc : chk G) : ∀ (cs : List α) (acc : List D), (∀ x ∈ cs, a (dv x) env G = some (e x, G) ∧ f (e x) G = .ok (fv x) G) → acc.length + cs.length ≤ 100000 →
    tgL a f chk env (cs.map dv) acc G = .ok (mkTup (acc ++ cs.map fv)) G
  | [], acc, _, hn => by
    rw [List.map_nil, tgL, if_pos ⟨hc, by simpa using hn⟩]
    simp
  | x :: xs, acc, ha, hn => by
    obtain ⟨h1, h2⟩ := ha x List.mem_cons_self
    rw [List.map_cons, tgL, if_pos ⟨hc, by simp at hn; omega⟩, h1]
    dsimp only
    rw [h2]
    dsimp only
    rw [tgL_map dv e fv hc xs (acc ++ [fv x]) (fun y hy => ha y (List.mem_cons_of_mem _ hy)) (by simp at hn ⊢; omega)]
    simp
theorem eTupG_dat {src : IS} {vs : List Nat} {G G1 : Hh} (dv : α → D) (e : α → Env') (fv : α → PyData) (cs : List α) (h : src env G = .ok (cs.map dv) chk G1) (hc : chk G1)
    (hx : ∀ x ∈ cs, a (dv x) (wipeE (cutX env) vs) G1 = some (e x, G1) ∧ f (e x) G1 = .ok (.dat (fv x)) G1) (hn : cs.length ≤ 100000) : eTupG src a f vs env G = .ok (.dat (.tuple (cs.map fv))) G1 := by
  rw [eTupG_ok h, tgL_map dv e (fun x => .dat (fv x)) hc cs [] hx (by simpa using hn), List.nil_append]
  have : cs.map (fun x => D.dat (fv x)) = (cs.map fv).map .dat := by simp
  rw [this, mkTup_map]
end
/-- what is equal is shown alike -/
theorem eqv_str {x : Str} : PyData.eqv (.str x) (.str x) = true := by
  unfold PyData.eqv
  exact beq_self_eq_true x
@[simp] theorem eqv_int {i j : Int} : PyData.eqv (.int i) (.int j) = (i == j) := by simp [PyData.eqv]
@[simp] theorem eqv_ss {x y : Str} : PyData.eqv (.str x) (.str y) = (x == y) := by simp [PyData.eqv]
@[simp] theorem depth_int {i : Int} : (PyData.int i).depth = 0 := by simp [PyData.depth]
@[simp] theorem depth_str {x : Str} : (PyData.str x).depth = 0 := by simp [PyData.depth]
@[simp] theorem depth_none : PyData.none.depth = 0 := by simp [PyData.depth]
@[simp] theorem depth_bool {b : Bool} : (PyData.bool b).depth = 0 := by simp [PyData.depth]
theorem depthAll_0 : ∀ {a : List PyData}, (∀ d ∈ a, d.depth = 0) → PyData.depthAll a = 0
  | [], _ => by simp [PyData.depthAll]
  | d :: r, h => by
    simp only [PyData.depthAll]
    rw [h d List.mem_cons_self, depthAll_0 fun x hx => h x (List.mem_cons_of_mem _ hx)]
    rfl
theorem eqv_nil : ∀ {a : List PyData}, PyData.eqv (.list a) (.list []) = a.isEmpty
  | [] => by simp [PyData.eqv, PyData.eqvAll]
  | _ :: _ => by simp [PyData.eqv, PyData.eqvAll]
theorem depth_lnil : (PyData.list []).depth = 1 := by simp [PyData.depth, PyData.depthAll]
/-- a list beside the empty one -/
theorem ne_nil {G : Hh} {l m : Nat} {xs : List D} {a : List PyData} (h1 : G[l]? = some (.lst xs)) (h2 : dats xs = some a) (h3 : G[m]? = some (.lst [])) : gNe (.ref l) (.ref m) G = some (.dat (.bool (!a.isEmpty)), G) := by
  rw [gNe_view (d := .list a) (e := .list []) (by simp [h1, h2]) (by simp [h3]), eqv_nil, depth_lnil]
  rw [if_pos (by omega)]
theorem eq_nil {G : Hh} {l m : Nat} {xs : List D} {a : List PyData} (h1 : G[l]? = some (.lst xs)) (h2 : dats xs = some a) (h3 : G[m]? = some (.lst [])) : gEq (.ref l) (.ref m) G = some (.dat (.bool a.isEmpty), G) := by
  rw [gEq_view (d := .list a) (e := .list []) (by simp [h1, h2]) (by simp [h3]), eqv_nil, depth_lnil]
  rw [if_pos (by omega)]
end DL

set_option Elab.async false
set_option linter.all false
set_option maxRecDepth 100000
set_option maxHeartbeats 2000000
namespace DL
open PySem PySem.Spec PyProof.Rows L2
open Classical

/-! ### a lambda without parameters, handed over ahead of one more value -/
section
variable {K : PySem.W.Frag} {T : TbT} {ρ : List Addr} {G : Hh} {H H2 : Hp}
theorem RG.tabs (rg : RG K T ρ G H) {P : Addr} {ps more : Array Value} (hP : H P = some (.tbl ps)) (keep : ∀ b o, b ≠ P → H b = some o → H2 b = some o) (hat : H2 P = some (.tbl (ps ++ more)))
    (back : ∀ b, H2 b = none → H b = none) (tab : ∀ p ∈ T, p.2.1 = P → TabO H2 P p.2.2) : RG K T ρ G H2 ∧ Ext ρ H ρ H2 := by
  have nt : ∀ b o, H b = some o → (∀ ps, o ≠ .tbl ps) → H2 b = some o := fun b o h t => keep b o (fun z => t ps (by rw [z, hP] at h; exact (Option.some.inj h).symm)) h
  have e : Ext ρ H ρ H2 := by
    refine ⟨⟨[], by simp, by simp⟩, fun b o h _ t => nt b o h t, fun b qs h => ?_, back⟩
    by_cases hb : b = P
    · subst hb
      rw [hP] at h
      cases h
      exact ⟨more, hat⟩
    · exact ⟨#[], by rw [keep b _ hb h]; simp⟩
  refine ⟨⟨rg.nd, rg.len, fun l a mo h1 h2 => ?_, fun p hp => ?_⟩, e⟩
  · have g := rg.ok l a mo h1 h2
    cases mo with
    | lst xs =>
      obtain ⟨vs, hv, r⟩ := g
      exact ⟨vs, nt a _ hv (fun _ z => nomatch z), e.reps rg r⟩
  · by_cases hb : p.2.1 = P
    · rw [hb]; exact tab p hp hb
    · have h0 := rg.tab p hp
      revert h0
      cases p.2.2 with
      | none =>
        rintro ⟨qs, h1, h2⟩
        exact ⟨qs, keep _ _ hb h1, h2⟩
      | some q =>
        rintro ⟨qs, h1, h2, h3⟩
        refine ⟨qs, keep _ _ hb h1, h2, fun pos cv hc => ?_⟩
        obtain ⟨cc, e1, e2⟩ := h3 pos cv hc
        exact ⟨cc, e1, nt _ _ e2 LamX.codeO_ne⟩
end
abbrev lamObj (X : Cx) (params : Arguments) (body : Expr) (scope : Scope) (pm : Value) (c' : Addr) (ctv : Value) : Obj :=
  PySem.W.kla_obj "<lambda>" (X.env.qual ++ "<lambda>") params body scope (cloFrom X.env.cells scope.names []) pm c' ctv
section
variable {X : Cx} {pins : List (Addr × Obj)} {σ : L2.St} {H : Hp} {s : Shared} {T : TbT} {ρ : List Addr} {G : Hh}
/-- the making of it -/
theorem clo_made {c P : Addr} {params : Arguments} {body : Expr} {scope : Scope} {pos : Pos} {E Q : Value → Shared → Prop} (I : Inv X pins σ H s) (rg : RG X.K T ρ G H) (TB : GxR.TabB X.base X.mg c P) (hcode : X.env.code = .ref c)
    (hT : TIn T c P (some (X.env.qual ++ "<lambda>"))) (hdef : defaultsOf params X.env = ([], [])) (hfree : ∀ y ∈ scope.names, y.2 = .free → ∃ c, X.env.cells.lookup y.1 = some c)
    (h : ∀ (f c' : Addr) (pm ctv : Value) (H1 : Hp) (t : Shared), Inv X pins σ H1 t → Ext ρ H ρ H1 → RG X.K T ρ G H1 → s.heap.objs.size ≤ f →
      t.heap.get? f = some (lamObj X params body scope pm c' ctv) → H1 f = none → H1 c' = some (LamX.CodeO c' (X.env.qual ++ "<lambda>")) → Q (.ref f) t) :
    wpAny (model X.prog X.w) X.A (eval (.Lambda params body scope pos) X.env) Q E s := by
  obtain ⟨ps, tP, tr, am⟩ : LamX.TabS H P (X.env.qual ++ "<lambda>") := rg.tab _ hT.1
  have bA : s.heap.BuiltinsAt X.mg P := TB.bm.keeps I.bk
  have tO : s.heap.get? P = some { cls := .none, data := .fields ps } := I.hok P _ tP
  refine PySem.W.kla_eval hdef ?_
  match hc : codeAmong pos ps.toList with
  | some cv =>
    obtain ⟨c', rfl, isC⟩ := am pos cv hc
    refine PySem.W.kla_makeFunctionHit (mg := X.mg) (c := c) (P := P) (ps := ps) (closure_ok hfree) I.ok.glob (I.mod.glob.keeps I.bk) hcode (TB.code.keeps I.bk) tO tr hc bA fun ctv hh tk grows lesser => ?_
    exact h hh.objs.size c' ((X.mg "__name__").getD .none) ctv H _ (I.kept fun b o e => Heap.get?_push_of_some _ (grows b o e)) Ext.refl rg lesser (Heap.get?_push_size _ rfl) (I.hok.fresh lesser) isC
  | none =>
    refine PySem.W.kla_makeFunction (mg := X.mg) (c := c) (P := P) (ps := ps) (closure_ok hfree) I.ok.glob (I.mod.glob.keeps I.bk) hcode (TB.code.keeps I.bk) tO tr hc TB.gP bA fun c' ctv hh tk grows above under rec fin => ?_
    obtain ⟨_, oc, vs, t, e, hoc, hd, hv⟩ := rec
    cases e
    have free : H c' = none := I.hok.fresh above
    have lesser : s.heap.objs.size ≤ hh.objs.size := Nat.le_trans above (Nat.le_of_lt under)
    have nPc : P ≠ c' := ne_of_none tP free
    have J := LamX.inv_table (t' := tk) (more := #[rawInt pos.line, rawInt pos.col, .ref c']) (h' := hh.push (lamObj X params body scope ((X.mg "__name__").getD .none) c' ctv)) I tP
      (fun b o nb e => Heap.get?_push_of_some _ (grows b o nb e)) (Heap.get?_push_of_some _ fin) above ⟨oc, vs, t, Heap.get?_push_of_some _ hoc, hd, hv⟩
    have kp : ∀ b o, b ≠ P → H b = some o → upd (upd H P (.tbl (ps ++ #[rawInt pos.line, rawInt pos.col, .ref c']))) c' (LamX.CodeO c' (X.env.qual ++ "<lambda>")) b = some o := fun b o nb e => by
      rw [upd_ne (ne_of_none e free), upd_ne nb]; exact e
    have at' : upd (upd H P (.tbl (ps ++ #[rawInt pos.line, rawInt pos.col, .ref c']))) c' (LamX.CodeO c' (X.env.qual ++ "<lambda>")) P = some (.tbl (ps ++ #[rawInt pos.line, rawInt pos.col, .ref c'])) := by
      rw [upd_ne nPc, upd_same]
    have eL : (ps ++ #[rawInt pos.line, rawInt pos.col, Value.ref c']).toList = ps.toList ++ [rawInt pos.line, rawInt pos.col, .ref c'] := by simp
    have new : LamX.TabS (upd (upd H P (.tbl (ps ++ #[rawInt pos.line, rawInt pos.col, .ref c']))) c' (LamX.CodeO c' (X.env.qual ++ "<lambda>"))) P (X.env.qual ++ "<lambda>") := by
      refine ⟨_, at', by rw [eL]; exact PySem.TriplesOk_snoc _ _ _ _ tr, fun p' cv hcv => ?_⟩
      rw [eL] at hcv
      rcases LamX.among_app _ tr hcv with z | z
      · obtain ⟨c0, e1, e2⟩ := am p' cv z
        exact ⟨c0, e1, kp _ _ (fun z => LamX.codeO_ne ps (by rw [z, tP] at e2; exact (Option.some.inj e2).symm)) e2⟩
      · exact ⟨c', z, upd_same⟩
    obtain ⟨rg2, ex2⟩ := rg.tabs tP kp at' (fun b e => by
      by_cases h1 : b = c'
      · rw [h1]; exact free
      · rw [upd_ne h1] at e
        by_cases h2 : b = P
        · rw [h2, upd_same] at e; cases e
        · rw [upd_ne h2] at e; exact e) fun p hp e => by rw [hT.2 p hp e]; exact new
    refine h hh.objs.size c' ((X.mg "__name__").getD .none) ctv _ _ J ex2 rg2 lesser (Heap.get?_push_size _ rfl) ?_ upd_same
    rw [upd_ne (Nat.ne_of_gt under), upd_ne (Nat.ne_of_gt (Nat.lt_of_lt_of_le (Heap.lt_size tO) lesser))]
    exact I.hok.fresh lesser
end

/-! ### the call of it, in the def that got it -/
noncomputable def eAct (i : Nat) (C0 : List Addr → Hp → V → Prop) (th : Hh → RE) : ES := fun env G => if env[i]? = some (.clo C0) then th G else .bad
/-- what the slot that holds it says: the function at f, its code at c', what it has captured -/
def cloP (K : PySem.W.Frag) (f c' : Addr) (q : Str) (env0 : Env') (σ : L2.St) : List Addr → Hp → V → Prop := fun ρ H v => v = .ref f ∧ H c' = some (LamX.CodeO c' q) ∧ EnvR K [] H ρ env0 σ
section
variable {X : Cx} {pins : List (Addr × Obj)} {σ : L2.St} {H : Hp} {s : Shared} {T : TbT}
theorem de_act {Ng : List Str} {qg : Str} {sg : Scope} {g f c' : Addr} {cdg pm ctv : Value} {params : Arguments} {body : Expr} {scope : Scope} {k i : Nat} {a : Str} {pn : List (Addr × Obj)} {xe : Value → Shared → Prop} {W : WX} {Eg : XK} {fb : ES} {env0 : Env'} {p1 p2 : Pos}
    (I : Inv X pins σ H s) (L : LamX.LamS X.env.scope scope) (hf : s.heap.get? f = some (lamObj X params body scope pm c' ctv)) (hfn : H f = none) (hfr : f ∉ frs X.stack)
    (hbind : bindArgs (PySem.W.kla_fn "<lambda>" (X.env.qual ++ "<lambda>") params body scope (cloFrom X.env.cells scope.names []) pm (.ref c') ctv) ⟨[], []⟩ = pure [])
    (tk : Takes ((cxOf (L2.CX X.prog X.w) X.prog X.w X.K X.mg X.base Ng qg sg g cdg X.A X.stack s H Eg).tr pn xe) W)
    (hr : Room (k + 1) (X.A.deeper (envOfC qg sg s.heap.objs.size g cdg))) (hgd : X.A.guards = some [])
    (hbody : ∀ (A : Around) (outer : List Env) (s : Shared) (H : Hp) (E : XK), Room k (A.deeper (LamX.lamEnv X scope s.heap.objs.size f c')) → A.guards = some [] → DE (LamX.lamCx X A outer s H E scope f c') T (WE' E) body fb)
    (hN : Ng[i]? = some a) (hv : Vis sg a) (hdb : (a == ("__debug__" : Str)) = false := by decide) (hcd : (a == ("__classdict__" : Str)) = false := by decide) :
    DE ((cxOf (L2.CX X.prog X.w) X.prog X.w X.K X.mg X.base Ng qg sg g cdg X.A X.stack s H Eg).tr pn xe) T W (.Call (.Name a p1) [] [] p2) (eAct i (cloP X.K f c' (X.env.qual ++ "<lambda>") env0 σ) (fb env0)) := by
  refine ⟨fun pz sz σz Hz Q Iz ⟨ρ, env, G, sr, q⟩ => ?_⟩
  unfold eAct at q
  by_cases hs : env[i]? = some (.clo (cloP X.K f c' (X.env.qual ++ "<lambda>") env0 σ))
  case neg => rw [if_neg hs] at q; exact q.elim
  rw [if_pos hs] at q
  obtain ⟨ov, h1, v, rfl, h2⟩ := sr.ev.ok i _ hs
  obtain ⟨rfl, hco, ev0⟩ := h2 ρ Hz Ext.refl
  refine wpAny_Call_Name_kw (thn ((pe_var (pos := p1) (i := i) hN hv hdb hcd).run pz sz σz Hz (fun v H1 => v = .ref f ∧ H1 = Hz) Iz ⟨.ref f, h1, rfl, rfl⟩) fun u sy ⟨v, H1, Iy, ru, eu⟩ => ?_)
  obtain ⟨rfl, rfl⟩ := eu
  obtain rfl : u = Value.ref f := ru
  have of1 : sy.heap.get? f = some (lamObj X params body scope pm c' ctv) := Iy.base.keep f _ hf hfn hfr (fun z => nomatch (show f ∈ ([] : List Addr) from z))
  refine PySem.W.callWith_F0 ⟨_, _, _, _, of1⟩ ?_
  have un : Un (frs X.stack) [] H H1 s.heap sy.heap := Iy.base
  obtain ⟨⟨oc, vs, t, hoc, hdc, hvc⟩, _, _⟩ := Iy.hok c' _ hco
  have rc : codeAny (model X.prog X.w) (X.A.deeper (envOfC qg sg s.heap.objs.size g cdg)) (.call (.ref f) ⟨[], []⟩) (CR (L2.CX X.prog X.w) (envOfC qg sg s.heap.objs.size g cdg :: X.stack) X.prog X.w H1 sy Q (WE W σz)) sy := by
    refine PySem.W.kla_callFunE hr.depth of1 rfl L.co L.gen rfl ⟨c', oc, vs, t, rfl, hoc, hdc, hvc⟩ ?_
    rw [hbind]
    refine wpAny_pure (wpAny_newFunctionEnv (fun y hy => (L.own y hy).2) (fun y hy => absurd hy (by simp)) (fun hn nsn sb => ⟨Iy.nolimit.fresh _ sb, ?_⟩) L.kind)
    show codeAny _ _ (.expr body (LamX.lamEnv X scope sy.heap.objs.size f c')) _ _
    have kp : ∀ b o, sy.heap.get? b = some o → hn.get? b = some o := fun b o e => sb.extBut b o (Nat.ne_of_lt (Heap.lt_size e)) (Heap.get?_push_of_some _ e)
    have J := LamX.lam_start2 (A := X.A.deeper (envOfC qg sg s.heap.objs.size g cdg)) (outer := envOfC qg sg s.heap.objs.size g cdg :: X.stack) (E := WE W σz) (f := f) (c' := c') (tk := sy.toks + ([] : List (Str × Value)).length) I L Iy.env0 hr.hd un nsn kp
    refine PySem.W.kla_codeExpr (wpAny_mono ((hbody _ _ sy H1 (WE W σz) (hr.deeper _) hgd).run [] _ _ H1 Q J ⟨ρ, env0, G, ⟨sr.rg, ev0⟩, ?_⟩) (fun v s' hq => ?_) fun e s' hq => hq)
    · revert q
      cases fb env0 G with
      | ok d G2 => exact fun q => q
      | ex c w G2 => exact fun q => q
      | bad => exact fun q => q
    · obtain ⟨w', H', J', rv, q'⟩ := hq
      exact ⟨w', H', J'.os, J'.bare, J'.base, J'.hok, rv, q'⟩
  refine wpAny_call (codeAny_mono rc fun r s' hq => ?_)
  cases r with
  | error e => exact passAt tk σz pz H1 sy e s' Iy hq
  | ok fl =>
    cases fl with
    | ret u => exact Iy.after hq
    | next => exact False.elim hq
    | brk => exact False.elim hq
    | cont => exact False.elim hq
end

/-! ### the def that gets it -/
/-- what such a def does, whatever the slot of the lambda says of it -/
noncomputable def allC (F : (List Addr → Hp → V → Prop) → RE) : RE := if h : ∃ r, ∀ C, F C = r then h.choose else .bad
theorem allC_eq {F : (List Addr → Hp → V → Prop) → RE} {r : RE} (h : ∀ C, F C = r) : allC F = r := by
  have hx : ∃ r, ∀ C, F C = r := ⟨r, h⟩
  unfold allC
  rw [dif_pos hx]
  exact (hx.choose_spec (fun _ _ _ => True)).symm.trans (h _)
theorem of_allC {F : (List Addr → Hp → V → Prop) → RE} (h : allC F ≠ .bad) (C) : allC F = F C := by
  unfold allC at h ⊢
  split
  · rename_i hx
    exact (hx.choose_spec C).symm
  · rename_i hx
    rw [dif_neg hx] at h
    exact absurd rfl h
def fnOut (body : SS) (env : Env') : Hh → RE := fun G => match body env G with
  | .nx _ G' => .ok (.dat .none) G'
  | .rt d G' => .ok d G'
  | .ex c w _ G' => .ex c w G'
  | _ => .bad
/-- (call, thing): N names in all -/
noncomputable def fnH (N : Nat) (body : (List Addr → Hp → V → Prop) → (Hh → RE) → SS) (th : Hh → RE) (d : D) : Hh → RE := fun G => allC fun C => fnOut (body C th) (.clo C :: .d d :: List.replicate (N - 2) .no) G
/-- the lambda, its one fellow: f2 -/
def eThunk (sem : (Hh → RE) → D → Hh → RE) (fb : ES) (f2 : AS) : ES := fun env G => match f2 env G with
  | .ok [d] G1 => sem (fb (cutX env)) d G1
  | .ex c w G1 => .ex c w G1
  | _ => .bad
section
variable (P : Program) (w : World) (K : PySem.W.Frag) (mg : Str → Option Value) (base : Heap) (T : TbT)
/-- x(call, thing) does with what it is given what body says -/
def HasH (x : Str) (st : Stmt) (a : Str) (N : List Str) (k : Nat) (body : (List Addr → Hp → V → Prop) → (Hh → RE) → SS) : Prop :=
  ∃ (g : Addr) (fd : FuncData) (t : Str), Fun K x x st g fd ∧ mg x = some (.ref g) ∧ FnScope N [a, t] (defScope st) ∧ N[0]? = some a ∧ Vis (defScope st) a ∧ (a == ("__debug__" : Str)) = false ∧ (a == ("__classdict__" : Str)) = false ∧ Binds K fd [a, t] [] ∧
    ∀ (C : List Addr → Hp → V → Prop) (th : Hh → RE) (cdv : Value) (A : Around) (outer : List Env) (s : Shared) (H : Hp) (E : XK), Room k (A.deeper (envOfC x (defScope st) s.heap.objs.size g cdv)) → (A.deeper (envOfC x (defScope st) s.heap.objs.size g cdv)).guards = some [] → PySem.W.codeIn K cdv x = true →
      (∀ {W : WX} {pn : List (Addr × Obj)} {xe : Value → Shared → Prop} {p1 p2 : Pos}, Takes ((cxOf (L2.CX P w) P w K mg base N x (defScope st) g cdv A outer s H E).tr pn xe) W →
        DE ((cxOf (L2.CX P w) P w K mg base N x (defScope st) g cdv A outer s H E).tr pn xe) T W (.Call (.Name a p1) [] [] p2) (eAct 0 C th)) →
      DSs (cxOf (L2.CX P w) P w K mg base N x (defScope st) g cdv A outer s H E) T (WE' E) (defBody st) (body C th)
end
section
variable {X : Cx} {T : TbT} {W : WX} {x a : Str} {st : Stmt} {N : List Str} {k : Nat} {body : (List Addr → Hp → V → Prop) → (Hh → RE) → SS} {params : Arguments} {lb e2 : Expr} {scope : Scope} {fb : ES} {f2 : AS} {p lpos pos : Pos} {c Pt : Addr}
theorem de_thunk (h : HasH X.prog X.w X.K X.mg X.base T x st a N (k + 1) body) (tk : Takes X W) (hr : Room (k + 2) X.A) (hgd : X.A.guards = some []) (hg : Gl X x) (TB : GxR.TabB X.base X.mg c Pt) (hcode : X.env.code = .ref c)
    (hT : TIn T c Pt (some (X.env.qual ++ "<lambda>"))) (L : LamX.LamS X.env.scope scope) (hdef : defaultsOf params X.env = ([], []))
    (hbind : ∀ (q : Str) (cl : List (Str × Addr)) (pm cv ctv : Value), bindArgs (PySem.W.kla_fn "<lambda>" q params lb scope cl pm cv ctv) ⟨[], []⟩ = pure [])
    (hbody : ∀ (f c' : Addr) (A : Around) (outer : List Env) (s : Shared) (H : Hp) (E : XK), Room k (A.deeper (LamX.lamEnv X scope s.heap.objs.size f c')) → A.guards = some [] → DE (LamX.lamCx X A outer s H E scope f c') T (WE' E) lb fb)
    (h2 : DA X T W [e2] f2) (hdb : (x == ("__debug__" : Str)) = false := by decide)
    (he : starEach (.Lambda params lb scope lpos :: [e2]) X.env = (false, eval (.Lambda params lb scope lpos) X.env) :: starEach [e2] X.env := by rfl) (hpl : (backTo pos (starEach [e2] X.env)).any (·.1) = false := by rfl) {n : Nat} (hn : N.length = n := by rfl) :
    DE X T W (.Call (.Name x p) [.Lambda params lb scope lpos, e2] [] pos) (eThunk (fnH n body) fb f2) := by
  subst hn
  obtain ⟨g, fd, t, F, hm, S, hN0, hva, hd1, hd2, hbn, hG⟩ := h
  refine ⟨fun pins s σ H Q I ⟨ρ, env, G, sr, q⟩ => ?_⟩
  refine wpAny_Call_Name_kw (ld_glob I hg hm ?_ hdb)
  refine PySem.W.callWith_K (h₀ := X.base) I.ok.mod.kin F.kp ?_ he hpl
  rw [he]
  show wpAny _ _ (spliced ((false, eval (.Lambda params lb scope lpos) X.env) :: backTo pos (starEach [e2] X.env))) _ _ s
  refine Calls.spliced_cons (clo_made I sr.rg TB hcode hT hdef (L.has I.ok) fun f c' pm ctv H1 s1 I1 x1 rg1 hsz hf hfn hco => ?_)
  have fl : f ≠ X.env.locals := fun z => by
    have := I.lt
    rw [← z] at this
    exact Nat.lt_irrefl _ (Nat.lt_of_lt_of_le this hsz)
  have ff : f ∉ X.fs := I.nofs hsz
  have I1' : Inv X ((f, lamObj X params lb scope pm c' ctv) :: pins) σ H1 s1 := I1.pins_of fun y hy => by
    rcases List.mem_cons.mp hy with e | e
    · subst e
      exact ⟨hf, hfn, fl, ff, fun v z => nomatch z⟩
    · exact I1.pin y (List.mem_append_right _ e)
  have sr1 : SR X T ρ env G σ H1 := ⟨rg1, x1.envr sr.rg sr.ev⟩
  have q1 := q
  refine wpAny_mono (h2.run pos _ s1 σ H1 (fun vs H2 => ∃ ρ2 G2 d v, vs = [v] ∧ Ext ρ H1 ρ2 H2 ∧ RG X.K T ρ2 G2 H2 ∧ Rep X.K H2 ρ2 d v ∧ PostE X T W σ ρ2 H2 (fnH N.length body (fb (cutX env)) d G2) Q) I1' ⟨ρ, env, G, sr1, ?_⟩) (fun us s2 ⟨vs, H2, I2, rv, ρ2, G2, d, v, ev, x2, rg2, rd, q2⟩ => ?_) fun _ _ z => z
  · unfold eThunk at q
    revert q
    cases f2 env G with
    | ok ds G1 =>
      intro q
      match ds, q with
      | [], q => exact q.elim
      | [d], q =>
        intro vs ρ2 H2 e2 rg2 rs
        obtain ⟨v, r, rfl, rd, rn⟩ := rs
        have rn : r = [] := rn
        subst rn
        exact ⟨ρ2, G1, d, v, rfl, e2, rg2, rd, PostE.ext (x1.trans e2) q⟩
      | _ :: _ :: _, q => exact q.elim
    | ex c w G1 => exact fun q => PostX.ext x1 q
    | bad => exact fun q => q
  subst ev
  refine ⟨I2.kIn, ?_⟩
  obtain ⟨hf2, hfn2, _, _, _⟩ := I2.pin (f, lamObj X params lb scope pm c' ctv) (List.mem_append_right _ List.mem_cons_self)
  have hfr2 : f ∉ frs X.stack := fun z => by
    rcases List.mem_cons.mp (I2.stkSub _ z) with e | e
    · exact fl e
    · exact ff e
  have hco2 : H2 c' = some (LamX.CodeO c' (X.env.qual ++ "<lambda>")) := x2.keep c' _ hco (rg1.notin hco codeO_lst) LamX.codeO_ne
  have ev2 : EnvR X.K [] H2 ρ2 (cutX env) σ := (x2.envr rg1 sr1.ev).cut
  obtain ⟨oc, od, kV, doc, pm2, an, cdv, ct, osl, efd, lk, hcd⟩ := F.ex
  have ne : fnH N.length body (fb (cutX env)) d G2 ≠ .bad := fun z => by
    rw [z] at q2; exact q2.elim
  have q3 := q2
  unfold fnH at ne q3
  rw [of_allC ne (cloP X.K f c' (X.env.qual ++ "<lambda>") (cutX env) σ)] at q3
  obtain ⟨u2, rfl, ru⟩ : ∃ u2, us = [u2] ∧ RelV v u2 := by
    cases rv with
    | cons r rn => cases rn; exact ⟨_, rfl, r⟩
  have rc : codeAny (model X.prog X.w) X.A (.call (.ref g) ⟨[.ref f, u2], []⟩) (CR (L2.CX X.prog X.w) X.stack X.prog X.w H2 s2 Q (WE W σ)) s2 := by
    have e0 := I2.env0
    have KX : X.K.In s2.heap := e0.mod.kin.keeps fun b o e => (e0.bs b o e).1
    have lm : s2.heap.NoLimit := e0.mod.nolimit.keeps fun b o e => (e0.bs b o e).1
    have hbt := hbn s2 [.ref f, u2] I2.kIn rfl
    rw [List.append_nil] at hbt
    subst efd
    have hkind : ∀ y ∈ [a, t].zip [Value.ref f, u2], (defScope st).names.lookup y.1 = some .local ∨ ((defScope st).names.lookup y.1 = some .cell ∧ ((cellsFrom (s2.heap.objs.size + 1) (defScope st).names []).lookup y.1).isSome = true) := fun ⟨n, v⟩ hy => by
      rcases S.par n (List.of_mem_zip hy).1 with q | q
      · exact .inl q
      · exact .inr ⟨q, PySem.W.cellsFrom_some _ _ _ (.inl q)⟩
    refine codeAny_call_function hr.depth (KX _ _ lk) rfl S.co S.gen rfl (PySem.W.codeRec_of KX hcd) (hbt _ _ _ _ ?_)
    refine wpAny_newFunctionEnv_cells S.kind hkind fun env' he' s3 xx => ?_
    subst he'
    refine ⟨lm.keeps xx.toInCall.keep, codeAny_func ?_⟩
    have ht := hG (cloP X.K f c' (X.env.qual ++ "<lambda>") (cutX env) σ) (fb (cutX env)) cdv X.A X.stack s2 H2 (WE W σ) (hr.deeper _) hgd hcd fun {W'} {pn} {xe} {p1} {p2} tk' =>
      de_act (i := 0) I2 L hf2 hfn2 hfr2 (hbind _ _ _ _ _) tk' (hr.deeper _) hgd (fun A outer s H E r gd => hbody f c' A outer s H E r gd) hN0 hva hd1 hd2
    have J : Inv (cxOf (L2.CX X.prog X.w) X.prog X.w X.K X.mg X.base N x (defScope st) g cdv X.A X.stack s2 H2 (WE W σ)) [] (L2.start N [V.ref f, v]) H2 s3 := inv_start S hr.hd e0 rfl (.cons rfl (.cons ru .nil)) xx
    have hl : 2 ≤ N.length := by
      have := congrArg List.length S.pre
      rw [List.length_take] at this
      simp at this
      omega
    have er : EnvR X.K [] H2 ρ2 (.clo (cloP X.K f c' (X.env.qual ++ "<lambda>") (cutX env) σ) :: .d d :: List.replicate (N.length - 2) .no) (L2.start N [V.ref f, v]) := by
      unfold L2.start
      refine ⟨by simp, fun i z hi => ?_⟩
      match i, hi with
      | 0, hi =>
        cases hi
        exact ⟨_, rfl, V.ref f, rfl, fun ρ3 H3 e3 => ⟨rfl, e3.keep c' _ hco2 (rg2.notin hco2 codeO_lst) LamX.codeO_ne, e3.envr rg2 ev2⟩⟩
      | 1, hi =>
        cases hi
        exact ⟨_, rfl, v, rfl, rd⟩
      | i + 2, hi =>
        have hi : (List.replicate (N.length - 2) Sl.no)[i]? = some z := hi
        rw [List.getElem?_replicate] at hi
        split at hi
        · rename_i hlt
          cases hi
          refine ⟨none, ?_, trivial⟩
          show (List.replicate (N.length - 2) none)[i]? = some none
          rw [List.getElem?_replicate, if_pos hlt]
        · cases hi
    have hq : tS (cxOf (L2.CX X.prog X.w) X.prog X.w X.K X.mg X.base N x (defScope st) g cdv X.A X.stack s2 H2 (WE W σ)) T (WE' (WE W σ)) (body (cloP X.K f c' (X.env.qual ++ "<lambda>") (cutX env) σ) (fb (cutX env))) { nx := fun _ H' => Q .non H', rt := Q } (L2.start N [V.ref f, v]) H2 := by
      refine ⟨ρ2, _, G2, ⟨rg2, er⟩, ?_⟩
      unfold fnOut at q3
      split at q3
      · rename_i env' G' e
        rw [e]
        exact fun σ' ρ' H' e1 sr1 => q3 .non ρ' H' e1 sr1.rg rfl
      · rename_i d G' e
        rw [e]
        exact q3
      · rename_i c w env' G' e
        rw [e]
        exact fun σ' ρ' H' dd vw e1 sr1 => q3 ρ' H' dd vw e1 sr1.rg
      · exact q3.elim
    refine wpAny_mono (ht.run [] s3 (L2.start N [V.ref f, v]) H2 _ J hq) (fun fl s' hs => ?_) fun e s' hs => hs
    have fin : ∀ {σ' : L2.St} {H' : Hp} {v : V} {u : Value}, Inv (cxOf (L2.CX X.prog X.w) X.prog X.w X.K X.mg X.base N x (defScope st) g cdv X.A X.stack s2 H2 (WE W σ)) [] σ' H' s' → RelV v u → Q v H' → CE X.stack X.prog X.w H2 s2 Q u s' :=
      fun {σ' H' v u} J rv q => ⟨v, H', J.os, J.bare, J.base, J.hok, rv, q⟩
    cases fl with
    | ret u =>
      obtain ⟨v, σ', H', J, rv, q⟩ := hs
      exact fin J rv q
    | next =>
      obtain ⟨σ', H', J, q⟩ := hs
      exact fin (v := V.non) (u := Value.none) J rfl q
    | brk =>
      obtain ⟨_, _, _, q⟩ := hs
      exact False.elim q
    | cont =>
      obtain ⟨_, _, _, q⟩ := hs
      exact False.elim q
  refine wpAny_call (codeAny_mono rc fun r s' hq => ?_)
  cases r with
  | error e => exact passAt tk σ _ H2 s2 e s' I2 hq
  | ok fl =>
    cases fl with
    | ret u =>
      obtain ⟨v', H', I3, r3, q3⟩ := I2.after hq
      exact ⟨v', H', I3.pins_of fun y hy => I3.pin y (List.mem_append_right _ (List.mem_cons_of_mem _ hy)), r3, q3⟩
    | next => exact False.elim hq
    | brk => exact False.elim hq
    | cont => exact False.elim hq
end
section
variable {P : Program} {w : World} {K : PySem.W.Frag} {mg : Str → Option Value} {base : Heap} {T : TbT} {x a t : Str} {st : Stmt} {N : List Str} {j k : Nat} {body : (List Addr → Hp → V → Prop) → (Hh → RE) → SS}
theorem HasH.mono (h : HasH P w K mg base T x st a N j body) (hjk : j ≤ k) : HasH P w K mg base T x st a N k body := by
  obtain ⟨g, fd, t, F, hm, S, h0, hv, d1, d2, hb, hG⟩ := h
  exact ⟨g, fd, t, F, hm, S, h0, hv, d1, d2, hb, fun C th cdv A outer s H E hr => hG C th cdv A outer s H E (hr.mono hjk)⟩
theorem HasH.of (F : HasF K mg x st) (S : FnScope N [a, t] (defScope st)) (hb : BindsH x st [a, t]) (h0 : N[0]? = some a) (hv : Vis (defScope st) a)
    (hbody : ∀ (C : List Addr → Hp → V → Prop) (th : Hh → RE) (g : Addr) (cdv : Value) (A : Around) (outer : List Env) (s : Shared) (H : Hp) (E : XK), Room k (A.deeper (envOfC x (defScope st) s.heap.objs.size g cdv)) → (A.deeper (envOfC x (defScope st) s.heap.objs.size g cdv)).guards = some [] →
      (∀ {W : WX} {pn : List (Addr × Obj)} {xe : Value → Shared → Prop} {p1 p2 : Pos}, Takes ((cxOf (L2.CX P w) P w K mg base N x (defScope st) g cdv A outer s H E).tr pn xe) W →
        DE ((cxOf (L2.CX P w) P w K mg base N x (defScope st) g cdv A outer s H E).tr pn xe) T W (.Call (.Name a p1) [] [] p2) (eAct 0 C th)) →
      DSs (cxOf (L2.CX P w) P w K mg base N x (defScope st) g cdv A outer s H E) T (WE' E) (defBody st) (body C th))
    (d1 : (a == ("__debug__" : Str)) = false := by decide) (d2 : (a == ("__classdict__" : Str)) = false := by decide) : HasH P w K mg base T x st a N k body := by
  obtain ⟨g, fd, hF, hm⟩ := F
  exact ⟨g, fd, t, hF, hm, S, h0, hv, d1, d2, hF.binds hb, fun C th cdv A outer s H E hr hg _ => hbody C th g cdv A outer s H E hr hg⟩
/-- what leaves a lambda's body is taken -/
theorem takes_lam {X : Cx} {A : Around} {outer : List Env} {s : Shared} {H : Hp} {E : XK} {scope : Scope} {f c' : Addr} : Takes (LamX.lamCx X A outer s H E scope f c') (WE' E) := takes_of rfl rfl rfl rfl
end
end DL

set_option Elab.async false
set_option linter.all false
set_option maxRecDepth 100000
set_option maxHeartbeats 2000000
namespace DL
open PySem PySem.Spec PyProof.Rows L2
open Classical

/-! ### xs[::-1] -/
def gRev (x : D) (G : Hh) : Option (D × Hh) := match x with
  | .ref l => (match G[l]? with
    | some (.lst xs) => some (.ref G.length, G ++ [.lst xs.reverse])
    | none => none)
  | _ => none
section
variable {X : Cx} {T : TbT} {W : WX} {a : Expr} {f : ES} {p1 p2 p3 pos : Pos} {k : Nat}
theorem de_rev (ha : DE X T W a f) : DE X T W (.Subscript a (.Slice none none (some (.UnaryOp .USub (.Constant (.int 1) k p1) p2)) p3) pos) (eUn gRev f) :=
  PE_imp (pe_revL ha) fun σ H Q ⟨ρ, env, G, sr, q⟩ => by
    refine ⟨ρ, env, G, sr, ?_⟩
    unfold eUn eThen at q
    cases e : f env G with
    | ex c w G1 => rw [e] at q; exact q
    | bad => rw [e] at q; exact q
    | ok x G1 =>
      rw [e] at q
      intro v ρ1 H1 e1 rg1 r1
      dsimp only at q
      unfold gRev at q
      cases x with
      | ref l =>
        dsimp only at q
        split at q
        · rename_i xs hx
          obtain ⟨b, hb, rfl⟩ := r1
          obtain ⟨vs, hv, rv⟩ := rg1.ok l b _ hb hx
          exact ⟨b, vs, rfl, SqL.of hv, fun p hp => new_lst rg1 hp rv.reverse fun v2 ρ2 H2 e2 rg2 r2 => q v2 ρ2 H2 (e1.trans e2) rg2 r2⟩
        · exact q.elim
      | _ => exact q.elim
end

/-! ### a def that has not been reached -/
def badF : FS := fun _ _ => .bad
theorem Has.bad {P : Program} {w : World} {K : PySem.W.Frag} {mg : Str → Option Value} {base : Heap} {T : TbT} {x : Str} {st : Stmt} {ps : List Str} {k : Nat} (F : HasF K mg x st) (hb : BindsH x st ps) : Has P w K mg base T x ps k badF := by
  obtain ⟨a, fd, hF, hm⟩ := F
  exact ⟨a, fd, hm, hF.kp, hF.binds hb, ⟨fun A outer s H args us vs Q E ρ G ds hr hgd e0 hbt r hl rg rs hsp => hsp.elim⟩⟩
theorem HasC.f {K : PySem.W.Frag} {T : TbT} {mg : Str → Option Value} {tg : Option Str} {x : Str} {st : Stmt} (F : HasC K mg T tg x st) : HasF K mg x st := by
  obtain ⟨a, oc, od, kV, doc, pm, an, c, Pt, ct, osl, l, hc, hk, hm, hT⟩ := F
  exact ⟨a, _, fun_mk l hc hk, hm⟩

/-! ### a written dict from texts to defs -/
/-- x is a dict of the top that holds these -/
def KDx (K : PySem.W.Frag) (w : World) (mg : Str → Option Value) (x : Str) (kvs : List (Str × Addr)) : Prop :=
  ∃ a es n, mg x = some (.ref a) ∧ KDict K w a es n ∧ ∀ z, PySem.W.nsIn K a z = some ((kvs.lookup z).map Value.ref)
def eKget (kvs : List (Str × Addr)) (f : ES) : ES := fun env G => match f env G with
  | .ok (.dat (.str z)) G1 => (match kvs.lookup z with
    | some a => .ok (.obj a) G1
    | none => .ok (.dat .none) G1)
  | .ok _ _ => .bad
  | .ex c w G1 => .ex c w G1
  | .bad => .bad
section
variable {X : Cx} {T : TbT} {W : WX} {x : Str} {e : Expr} {f : ES} {p apos cpos : Pos} {kvs : List (Str × Addr)}
theorem de_kget (h : KDx X.K X.w X.mg x kvs) (hg : Gl X x) (he : DE X T W e f) (m : M1 X (.Name x p) "get" apos e cpos) (hdb : (x == ("__debug__" : Str)) = false := by decide) :
    DE X T W (.Call (.Attribute (.Name x p) "get" apos) [e] [] cpos) (eKget kvs f) := by
  obtain ⟨a, es, n, hm, D, hn⟩ := h
  refine ⟨fun pins s σ H Q I ⟨ρ, env, G, sr, q⟩ => ?_⟩
  refine wpAny_Call_method m.base m.few m.line PySem.F.plainAttrs_dict PySem.F.slot_dict_get PySem.F.type_dict_get (ld_glob I hg hm ?_ hdb)
  refine ⟨kd_type D I, fun b e => ?_, ?_⟩
  · cases e
    exact ⟨_, I.kIn _ _ D.at_, rfl⟩
  rw [m.trees]
  refine Calls.callWith_builtin rfl (Calls.evalArgs_plain (Calls.spliced_cons (thn (he.run pins s σ H (fun y H2 => ∃ ρ2 G2 z, y = .str z ∧ RG X.K T ρ2 G2 H2 ∧ ∀ d v, Rep X.K H2 ρ2 d v → (match kvs.lookup z with
    | some a => d = .obj a
    | none => d = .dat .none) → Q v H2) I ⟨ρ, env, G, sr, ?_⟩) fun u s2 ⟨y, H2, I2, ry, ρ2, G2, z, ey, rg2, q2⟩ => Calls.spliced_nil ?_)))
  · unfold eKget at q
    revert q
    cases f env G with
    | ex c w G1 => exact fun q => q
    | bad => exact fun q => q
    | ok d G1 =>
      cases d with
      | dat d =>
        cases d with
        | str z =>
          intro q v ρ1 H1 e1 rg1 r1
          refine ⟨ρ1, G1, z, r1, rg1, fun d v rd hd => ?_⟩
          dsimp only at q
          cases hl : kvs.lookup z with
          | some a =>
            rw [hl] at q hd
            subst hd
            exact q v ρ1 H1 e1 rg1 rd
          | none =>
            rw [hl] at q hd
            subst hd
            exact q v ρ1 H1 e1 rg1 rd
        | _ => exact fun q => q.elim
      | _ => exact fun q => q.elim
  · subst ey
    obtain ⟨t, rfl⟩ := (show ∃ t, u = Value.str z t from ry)
    refine call_meetsIn PySem.F.slot_dict_get (kd_type D I2) PySem.F.entry_dict_get (PySem.F.args_dict_get_2 _ _) (meets_dict_get (strKind X.prog X.w) a (strKind_is X.prog X.w z t) D.low) ⟨_, PySem.W.mapOf_K (prog := X.prog) (w := X.w) I2.kIn D.at_ D.lit, ?_⟩
    rw [PySem.W.find_K D.at_ (hn z)]
    cases hl : kvs.lookup z with
    | some b =>
      rw [hl] at q2
      exact ⟨.ref b, H2, I2.tok _, rfl, q2 (.obj b) (.ref b) rfl rfl⟩
    | none =>
      rw [hl] at q2
      exact ⟨.non, H2, I2.tok _, rfl, q2 (.dat .none) .non rfl rfl⟩
end

/-! ### the call of a def that a name holds -/
noncomputable def eCallV (i n : Nat) (tab : List (Addr × FS)) (fs : AS) : ES := fun env G => match env[i]? with
  | some (.d (.obj a)) => (match tab.lookup a with
    | some sem => (match fs env G with
      | .ok ds G1 => if ds.length = n then sem ds G1 else .bad
      | .ex c w G1 => .ex c w G1
      | .bad => .bad)
    | none => .bad)
  | _ => .bad
/-- the def at a -/
def HasAt (P : Program) (w : World) (K : PySem.W.Frag) (mg : Str → Option Value) (base : Heap) (T : TbT) (a : Addr) (ps : List Str) (k : Nat) (sem : FS) : Prop := ∃ fd : FuncData, PySem.W.keepIn K (.ref a) = true ∧ Binds K fd ps [] ∧ FnD P w K mg base T k a fd ps sem
theorem Has.at {P : Program} {w : World} {K : PySem.W.Frag} {mg : Str → Option Value} {base : Heap} {T : TbT} {x : Str} {ps : List Str} {k : Nat} {sem : FS} {a : Addr} (h : Has P w K mg base T x ps k sem) (hm : mg x = some (.ref a)) {k2 : Nat} (hk : k ≤ k2) : HasAt P w K mg base T a ps k2 (relCall sem) := by
  obtain ⟨b, fd, h1, h2, h3, h4⟩ := h
  have e : b = a := by
    have := h1.symm.trans hm
    cases this; rfl
  subst e
  exact ⟨fd, h2, h3, h4.rel.mono hk⟩
section
variable {X : Cx} {T : TbT} {W : WX} {x : Str} {p pos : Pos} {e : Expr} {es : List Expr} {fs : AS} {i k : Nat} {ps : List Str} {tab : List (Addr × FS)}
theorem mem_lookupA {a : Addr} {f : FS} : ∀ {l : List (Addr × FS)}, l.lookup a = some f → (a, f) ∈ l
  | [], h => by simp at h
  | (b, g) :: l, h => by
    by_cases e : a = b
    · subst e
      simp [List.lookup] at h
      subst h
      exact List.mem_cons_self
    · have e' : (a == b) = false := by simpa using e
      simp only [List.lookup, e'] at h
      exact List.mem_cons_of_mem _ (mem_lookupA h)
theorem de_callV (ht : ∀ y ∈ tab, HasAt X.prog X.w X.K X.mg X.base T y.1 ps k y.2) (tk : Takes X W) (hr : Room k X.A) (hgd : X.A.guards = some []) (hN : X.N[i]? = some x) (hv : Vis X.env.scope x)
    (ha : DA X T W (e :: es) fs) (hdb : (x == ("__debug__" : Str)) = false := by decide) (hcd : (x == ("__classdict__" : Str)) = false := by decide)
    (he : starEach (e :: es) X.env = (false, eval e X.env) :: starEach es X.env := by rfl) (hpl : (backTo pos (starEach es X.env)).any (·.1) = false := by rfl) {n : Nat} (hn : ps.length = n := by rfl) :
    DE X T W (.Call (.Name x p) (e :: es) [] pos) (eCallV i n tab fs) := by
  subst hn
  refine ⟨fun pins s σ H Q I ⟨ρ, env, G, sr, q⟩ => ?_⟩
  unfold eCallV at q
  split at q
  case h_2 => exact q.elim
  rename_i a hs
  split at q
  case h_2 => exact q.elim
  rename_i sem hl
  obtain ⟨fd, hk, hb, F⟩ := ht _ (mem_lookupA hl)
  obtain ⟨ov, h1, v, rfl, rv⟩ := sr.ev.ok i _ hs
  obtain rfl : v = V.ref a := rv
  refine wpAny_Call_Name_kw (thn ((pe_var (pos := p) (i := i) hN hv hdb hcd).run pins s σ H (fun v H1 => v = .ref a ∧ H1 = H) I ⟨.ref a, h1, rfl, rfl⟩) fun u s1 ⟨v, H1, I1, ru, eu⟩ => ?_)
  obtain ⟨rfl, rfl⟩ := eu
  obtain rfl : u = Value.ref a := ru
  refine PySem.W.callWith_K (h₀ := X.base) I1.ok.mod.kin hk (thn (ha.run pos pins s1 σ H1 (fun vs H2 => ∃ ρ2 G2 ds, ds.length = ps.length ∧ RG X.K T ρ2 G2 H2 ∧ Reps X.K H2 ρ2 ds vs ∧ PostE X T W σ ρ2 H2 (sem ds G2) Q) I1 ⟨ρ, env, G, sr, ?_⟩) fun us s2 ⟨vs, H2, I2, r, ρ2, G2, ds, hlen, rg, rs, q2⟩ => ⟨I2.kIn, ?_⟩) he hpl
  · revert q
    cases fs env G with
    | ok ds G1 =>
      intro q
      dsimp only at q
      split at q
      · rename_i hlen
        exact fun vs ρ2 H2 e2 rg2 rs => ⟨ρ2, G1, ds, hlen, rg2, rs, PostE.ext e2 q⟩
      · exact q.elim
    | ex c w G1 => exact fun q => q
    | bad => exact fun q => q
  · exact run_fnD F tk hr hgd hb I2 r hlen rg rs q2
end
end DL

set_option Elab.async false
set_option linter.all false
set_option maxRecDepth 100000
set_option maxHeartbeats 2000000
namespace DL
open PySem PySem.Spec PyProof.Rows L2
open Classical

/-! ### the head's word about a dict of the top -/
theorem nsIn_no {K : PySem.W.Frag} {P : Params} {a : Addr} {ks : List Str} {z : Str} (h : He.dicW K a = some (He.keysIn P ks)) (hz : z ∉ ks) : PySem.W.nsIn K a z = some none := by
  unfold He.dicW at h
  split at h
  case h_2 => cases h
  rename_i c es n sl hl
  split at h
  case h_2 => cases h
  have h := Option.some.inj h
  have key : ∀ (l : List DictEntry) (ks : List Str), l.map He.keyOf = He.keysIn P ks → z ∉ ks → (∀ e ∈ l, e.key.isStr z = false ∧ e.refKey = false) := by
    intro l
    induction l with
    | nil => intro ks _ _ e he; cases he
    | cons e l ih =>
      intro ks hk hz
      cases ks with
      | nil => cases hk
      | cons k ks =>
        have hk : He.keyOf e :: l.map He.keyOf = some (k, PyData.keyHash P k) :: He.keysIn P ks := hk
        injection hk with h1 h2
        intro e' he'
        rcases List.mem_cons.mp he' with rfl | he'
        · unfold He.keyOf at h1
          split at h1
          · rename_i x t q
            obtain ⟨rfl, _⟩ := Prod.mk.inj (Option.some.inj h1)
            have hne : x ≠ z := fun e => hz (by rw [e]; exact List.mem_cons_self)
            refine ⟨?_, ?_⟩
            · rw [q]
              show (x == z) = false
              simpa using hne
            · unfold DictEntry.refKey
              rw [q]
          · cases h1
        · exact ih ks h2 (fun m => hz (List.mem_cons_of_mem _ m)) e' he'
  have hall := key es.toList ks h hz
  unfold PySem.W.nsIn
  rw [hl]
  dsimp only
  have e1 : es.toList.find? (·.key.isStr z) = none := List.find?_eq_none.mpr fun e he => by
    rw [(hall e he).1]; simp
  have e2 : es.toList.any (·.refKey) = false := List.any_eq_false.mpr fun e he => by
    rw [(hall e he).2]; simp
  rw [e1, e2]
  rfl
theorem lookup_none {kvs : List (Str × Addr)} {z : Str} (h : kvs.lookup z = none) : z ∉ kvs.map (·.1) := fun hm => by
  obtain ⟨p, hp, rfl⟩ := List.mem_map.mp hm
  have := List.lookup_eq_none_iff.mp h p hp
  simp at this
theorem lookup_mem {kvs : List (Str × Addr)} {z : Str} {a : Addr} (h : kvs.lookup z = some a) : (z, a) ∈ kvs := by
  induction kvs with
  | nil => simp at h
  | cons p kvs ih =>
    obtain ⟨k, b⟩ := p
    by_cases e : z = k
    · subst e
      simp [List.lookup] at h
      subst h
      exact List.mem_cons_self
    · have e' : (z == k) = false := by simpa using e
      simp only [List.lookup, e'] at h
      exact List.mem_cons_of_mem _ (ih h)
def kvB (K : PySem.W.Frag) (x : Str) (kvs : List (Str × Addr)) : Bool := kvs.all fun p => He.eqO (PySem.W.nsIn K (He.ga K x) p.1) (some (some (.ref p.2)))
theorem kdx_of {fa : List He.Fa} {fn : List He.DefD} {ts : List He.Tab} {tf : List He.Defn} {ex : PySem.W.Frag → Bool} {w : World} {h0 h : Heap} {K : PySem.W.Frag} {mg : Str → Option Value} (c : He.SaysX fa fn ts tf ex w h0 K) (X : K.In h) (G : h.Ns mainGlobals mg) {x : Str} {ks : List Str} {kvs : List (Str × Addr)} (i : Nat)
    (ht : ts[i]? = some ((fun K => He.ga K x), ks)) (hg : He.Fa.glo x ∈ fa) (hk : ks = kvs.map (·.1)) (hv : kvB K x kvs = true) : KDx K w mg x kvs := by
  have e : ts.map (fun t => He.dicW K (t.1 K)) = ts.map fun t => some (He.keysIn w.params t.2) := congrArg (fun z : He.AlT => z.2) c.t
  have e2 : (ts.map fun t => He.dicW K (t.1 K))[i]? = (ts.map fun t => some (He.keysIn w.params t.2))[i]? := by rw [e]
  rw [List.getElem?_map, List.getElem?_map, ht] at e2
  have e3 : He.dicW K (He.ga K x) = some (He.keysIn w.params ks) := Option.some.inj e2
  obtain ⟨es, n, D⟩ := He.dicW_ok e3
  refine ⟨He.ga K x, es, n, He.glo_ok X G (c.t.d.facts hg), D, fun z => ?_⟩
  cases hl : kvs.lookup z with
  | some b => exact He.eqO_ok (List.all_eq_true.mp hv _ (lookup_mem hl))
  | none => exact nsIn_no e3 (by rw [hk]; exact lookup_none hl)
end DL

set_option Elab.async false
set_option linter.all false
set_option maxRecDepth 100000
set_option maxHeartbeats 2000000
namespace DL
open PySem PySem.Spec PyProof.Rows L2
open Classical

/-! ### several except clauses, each with a name -/
/-- an exception in the air over X, noted and on the ground again: g is the state without it -/
structure Air (X : Cx) (pins : List (Addr × Obj)) (a : Addr) (B : Heap) (g : Shared) (σ : L2.St) (H : Hp) (cls : Value) (d : Option Addr) (s : Shared) : Prop where
  inv : Inv X pins σ H g
  grd : ∀ b o, g.heap.get? b = some o → b ∉ frs X.stack → B.get? b = some o
  upw : g.heap.UpToSlots s.heap
  fly : HandSPX.FlyingZ B (X.env :: X.outer) a (Zc cls d) s.heap
  hid : H a = none
  osy : s.os = g.os
  gen : AllBare s.gens
theorem Air.at {X : Cx} {pins : List (Addr × Obj)} {a : Addr} {B : Heap} {g : Shared} {σ : L2.St} {H : Hp} {cls : Value} {d : Option Addr} {s : Shared} (x : Air X pins a B g σ H cls d s) : Inv X pins σ H s := x.inv.landed x.grd x.fly.1 x.upw x.osy x.gen
/-- what the clauses hs make of it -/
def HB (X : Cx) (hs : List ExceptHandler) (wl : Ends → WX) : Prop := ∀ (pins : List (Addr × Obj)) (a : Addr) (B : Heap) (g : Shared) (σ : L2.St) (H : Hp) (cls : Value) (d : Option Addr) (s : Shared) (D : Ends), Air X pins a B g σ H cls d s → wl D cls d σ H →
  wpAny (model X.prog X.w) X.A (handleBy (.ref a) X.env hs) (SP X pins D) X.xe s
section
variable {X : Cx}
theorem hb_nil {Wo : WX} (hst : X.stack = X.env :: X.outer) (hfm : X.env.frame = some X.env.locals) (tk : Takes X Wo) : HB X [] (fun _ => Wo) := by
  intro pins a B g σ H cls d s D air hw
  refine wpAny_handleBy_nil ?_
  obtain ⟨_, _, _, oe, vs, T, oT, ts', he, hz, hd, h1, _⟩ := id air.fly
  unfold PySem.passOn
  refine wpAny_bind (wpAny_field he hd h1 ?_)
  rw [if_neg (show ¬ ((Value.ref T == Value.none) = true) from by simp)]
  have last : wpAny (model X.prog X.w) X.A (setFlight (.ref a) X.env.frame) (fun _ s4 => wpAny (model X.prog X.w) X.A (throw (.ref a) : Sem Flow) (SP X pins D) X.xe s4) X.xe s := by
    rw [hfm]
    refine HandSPX.setFlight_upZ (s := s) air.fly fun h4 held up4 => wpAny_throw (tk _ _ ?_)
    exact ⟨a, B, g, pins, σ, H, cls, d, rfl, air.inv, air.grd, air.upw.trans up4, .inr (.inr (by rw [hst]; exact held)), air.hid, air.osy, air.gen, hw⟩
  first
    | exact wpAny_bind (wpAny_pure (wpAny_bind last))
    | exact wpAny_bind last
theorem hb_cons {x n : Str} {C : Value} {i : Nat} {suite : List Stmt} {b₀ : Stmt} {np ps : Pos} {ts : Addr → Value → Option Addr → TS} {rest : List ExceptHandler} {wr : Ends → WX} (hst : X.stack = X.env :: X.outer) (hfm : X.env.frame = some X.env.locals) (hN : X.N.Nodup) (hi : X.N[i]? = some n)
    (hln : X.env.kindOf n = some .local) (hc : Names X x C) (hr : HB X rest wr)
    (hsu : ∀ (a : Addr) (oe : Obj) (cls : Value) (d : Option Addr) (pn : List (Addr × Obj)), Zc cls d oe → (∃ vs, oe.data = .fields vs) → PSs (X.suite a ((a, oe) :: pn)) (b₀ :: suite) (ts a cls d)) :
    HB X (.ExceptHandler (some (.Name x np)) (some n) (b₀ :: suite) ps :: rest) (fun D cls d σ H => ∃ b, PySem.W.exmOne X.K cls C = some b ∧
      (b = true → ∀ a, H a = none → ts a cls d { nx := fun σ2 H2 => D.nx (σ2.set i none) H2, rt := D.rt, bk := fun σ2 H2 => D.bk (σ2.set i none) H2, ct := fun σ2 H2 => D.ct (σ2.set i none) H2 } (σ.set i (some (.ref a))) H) ∧ (b = false → wr D cls d σ H)) := by
  intro pins a B g σ H cls d s D air ⟨b, hb1, hyes, hno⟩
  have ok := air.inv.ok
  have J3 := air.at
  obtain ⟨oe3, vs3, he3, hz3, hd3⟩ := air.fly.there
  have frameFree : ∀ {hp : Heap} {o : Obj} {vs : Array Value}, hp.FunFrames B (X.env :: X.outer) → hp.get? a = some o → o.data = .fields vs → a ∉ frs (X.env :: X.outer) := fun {hp o vs} ff e dd hm => by
    obtain ⟨_, o2, e2, hnf⟩ := ff.mem hm
    rw [e] at e2
    cases e2
    exact hnf _ dd
  have off := frameFree air.fly.2.2.1 he3 hd3
  have nLoc : a ≠ X.env.locals := fun z => off (List.mem_filterMap.mpr ⟨X.env, List.mem_cons_self, by rw [hfm, z]⟩)
  have nFs : a ∉ X.fs := fun hm => by
    obtain ⟨e, he, q⟩ := List.mem_filterMap.mp hm
    exact off (List.mem_filterMap.mpr ⟨e, List.mem_cons_of_mem _ he, q⟩)
  have S3 := J3.suite he3 hd3 air.hid nLoc nFs
  refine wpAny_handleBy_cons (codeAny_handlers_test ?_) (by intro q; cases q)
  have kindAt : PySem.W.Looks (model X.prog X.w) s.heap (typeOf (.ref a)) cls := fun A Q E t k q => wpAny_typeOf_ref (k _ _ he3) (by rw [hz3.1]; exact q)
  have match1 := PySem.W.exm_one (M := model X.prog X.w) J3.kIn kindAt hb1
  have named : ∀ {Q : Value → Shared → Prop} {E : Value → Shared → Prop}, Q C s → wpAny (model X.prog X.w) (X.A.mark (some (.ref a))) (eval (.Name x np) X.env) Q E s := fun {Q E} q => by
    obtain ⟨hg, hdb, hm | ⟨hm, hv, hnn⟩⟩ := hc
    · exact ld_glob (X := X.suite a ((a, oe3) :: (X.pn ++ pins))) S3 hg hm q hdb
    · exact ld_blt (X := X.suite a ((a, oe3) :: (X.pn ++ pins))) S3 hg hm hv q hnn hdb
  refine named (match1.here ?_)
  cases b with
  | false => exact hr pins a B g σ H cls d s D air (hno rfl)
  | true =>
    refine codeAny_handlers_suite_as ?_
    refine HandSPX.lands_againZ air.fly fun h4 fl4 up4 => ?_
    have J4 : Inv X pins σ H { s with heap := h4 } := air.inv.landed air.grd fl4.1 (air.upw.trans up4) air.osy air.gen
    obtain ⟨oe4, vs4, he4, hz4, hd4⟩ := fl4.there
    have S4 := J4.suite he4 hd4 air.hid nLoc nFs
    refine store_ok (X := X.suite a ((a, oe4) :: (X.pn ++ pins))) (v := .ref a) S4 hN hi (.inl hln) rfl (fun s5 S5 => ?_) (.inr hln)
    refine wpAny_mono ((hsu a oe4 cls d (X.pn ++ pins) hz4 ⟨_, hd4⟩).run [] s5 _ H _ S5 (hyes rfl a air.hid)) (fun f s6 hsp => ?_) (fun _ _ z => False.elim z)
    have away : ∀ {σ6 : L2.St} {H6 : Hp} {Q : Shared → Prop}, Inv (X.suite a ((a, oe4) :: (X.pn ++ pins))) [] σ6 H6 s6 → (∀ s7, Inv X pins (σ6.set i none) H6 s7 → Q s7) →
        wpAny (model X.prog X.w) X.A (do bindName X.env n .none; unbindBehindTheSuite X.env n ps) (fun _ s7 => Q s7) X.xe s6 := fun {σ6 H6 Q} S6 hq => gone_ok (S6.unsuite ok) hN hi hln hq
    cases f with
    | ret u =>
      obtain ⟨v6, σ6, H6, S6, r6, q6⟩ := hsp
      exact away S6 fun s7 J7 => ⟨_, _, _, J7, r6, q6⟩
    | next =>
      obtain ⟨σ6, H6, S6, q6⟩ := hsp
      exact away S6 fun s7 J7 => ⟨_, _, J7, q6⟩
    | brk =>
      obtain ⟨σ6, H6, S6, q6⟩ := hsp
      exact away S6 fun s7 J7 => ⟨_, _, J7, q6⟩
    | cont =>
      obtain ⟨σ6, H6, S6, q6⟩ := hsp
      exact away S6 fun s7 J7 => ⟨_, _, J7, q6⟩
theorem ps_tryL {body : List Stmt} {h₀ : ExceptHandler} {hs : List ExceptHandler} {wl : Ends → WX} {tb : WX → TS} {pos : Pos} (hst : X.stack = X.env :: X.outer) (hfm : X.env.frame = some X.env.locals)
    (hb : ∀ (W : WX) (pn : List (Addr × Obj)) (xe : Value → Shared → Prop), Takes (X.tr pn xe) W → PassesOwn (model X.prog X.w) X.A X.env xe → PSs (X.tr pn xe) body (tb W)) (hl : HB X (h₀ :: hs) wl) :
    PS X (.Try body (h₀ :: hs) [] [] pos) (fun D σ H => tb (wl D) D σ H) := by
  refine ⟨fun pins s σ H D I h => ?_⟩
  have ok := I.ok
  have hfr : X.A.frames = some (X.env :: X.outer) := by rw [ok.frames, hst]
  refine wpAny_Try_except ?_
  refine wpAny_mono ((hb (wl D) (X.pn ++ pins) (fun e s₁ => wpAny (model X.prog X.w) X.A (noteFrame e X.env) (fun _ s₂ => wpAny (model X.prog X.w) X.A (setFlight e none) (fun _ s₃ =>
    wpAny (model X.prog X.w) X.A (handleBy e X.env (h₀ :: hs)) (SP X pins D) X.xe s₃) X.xe s₂) X.xe s₁) (fun u t xx => ?_) PassesOwn.looking).run [] s σ H D (I.toTry _) h) (fun f s1 hsp => ?_) (fun e s1 he => he)
  · obtain ⟨a, B, g, pz, σ2, H2, cls, d, rfl, J', nb, up, sky, na, os, ag, hw⟩ := xx
    have J : Inv X pins σ2 H2 g := J'.ofTry ok
    have sky2 : Sky B (X.env :: X.outer) a (Zc cls d) X.env.locals t.heap := by rw [← hst]; exact sky
    refine Sky.land Zc.steady hfr hfm sky2 fun h3 fl3 up3 => ?_
    exact hl pins a B g σ2 H2 cls d _ D ⟨J, nb, up.trans up3, fl3, na, os, ag⟩ hw
  · cases f with
    | ret u =>
      obtain ⟨v, σ2, H2, J', r, q⟩ := hsp
      exact ⟨v, σ2, H2, J'.ofTry ok, r, q⟩
    | next =>
      obtain ⟨σ2, H2, J', q⟩ := hsp
      exact wpAny_execs_nil ⟨σ2, H2, J'.ofTry ok, q⟩
    | brk =>
      obtain ⟨σ2, H2, J', q⟩ := hsp
      exact ⟨σ2, H2, J'.ofTry ok, q⟩
    | cont =>
      obtain ⟨σ2, H2, J', q⟩ := hsp
      exact ⟨σ2, H2, J'.ofTry ok, q⟩
end
end DL

set_option Elab.async false
set_option linter.all false
set_option maxRecDepth 100000
set_option maxHeartbeats 2000000
namespace DL
open PySem PySem.Spec PyProof.Rows L2
open Classical

/-- no clause: it goes on -/
def hE : Addr → D → SS := fun c w env G => .ex c w env G
/-- a clause, then others -/
def hC (m : Addr → Option Bool) (suite rest : Addr → D → SS) : Addr → D → SS := fun c w env G => match m c with
  | some true => suite c w env G
  | some false => rest c w env G
  | none => .bad
def HBd (X : Cx) (T : TbT) (W : WX) (hs : List ExceptHandler) (h : Addr → D → SS) : Prop := ∃ wl, HB X hs wl ∧ ∀ (E : Ends) (c : Addr) (w : D) (env : Env') (G : Hh) (σ : L2.St) (ρ : List Addr) (H : Hp) (dd : Addr) (vw : V),
  RG X.K T ρ G H → EnvR X.K [] H ρ (cutX env) σ → Xd X.K c H dd vw → Rep X.K H ρ w vw → PostS X T W ρ H (h c w (cutX env) G) E → wl E (.ref c) (some dd) σ H
section
variable {X : Cx} {T : TbT} {W : WX} {x n : Str} {C : Value} {i : Nat} {body suite : List Stmt} {b₀ : Stmt} {np pos pos' : Pos} {fb fs : SS} {m : Addr → Option Bool} {h₀ : ExceptHandler} {hs : List ExceptHandler} {hr : Addr → D → SS}
theorem hbd_nil (hst : X.stack = X.env :: X.outer) (hf : X.env.frame = some X.env.locals) (tk : Takes X W) : HBd X T W [] hE :=
  ⟨fun _ => W, hb_nil hst hf tk, fun E c w env G σ ρ H dd vw rg ev hd r q => q σ ρ H dd vw Ext.refl ⟨rg, ev.cut'⟩ hd r⟩
theorem hbd_cons (hst : X.stack = X.env :: X.outer) (hf : X.env.frame = some X.env.locals) (hN : X.N.Nodup) (hi : X.N[i]? = some n) (hln : X.env.kindOf n = some .local) (hc : Names X x C) (hm : ∀ c b, m c = some b → PySem.W.exmOne X.K (.ref c) C = some b)
    (hsu : ∀ (a : Addr) (oe : Obj) (pn : List (Addr × Obj)), DSs (X.suite a ((a, oe) :: pn)) T (fun _ _ _ _ => False) (b₀ :: suite) fs) (rest : HBd X T W hs hr) :
    HBd X T W (.ExceptHandler (some (.Name x np)) (some n) (b₀ :: suite) pos' :: hs) (hC m (sSuite i fs) hr) := by
  obtain ⟨wr, h1, h2⟩ := rest
  refine ⟨_, hb_cons (ts := tSuite X.K T i fs) hst hf hN hi hln hc h1 fun a oe cls d pn hz hff => suite_ok (hsu a oe pn) hz hff, fun E c w env G σ ρ H dd vw rg ev hd r q => ?_⟩
  unfold hC at q
  cases hmc : m c with
  | none => rw [hmc] at q; exact q.elim
  | some b =>
    rw [hmc] at q
    refine ⟨b, hm c b hmc, fun hb a ha => ?_, fun hb => ?_⟩
    · subst hb
      refine ⟨ρ, env, G, c, w, dd, vw, rfl, rfl, hd, r, rg, ev.set i (s := .no) trivial, ?_, suite_post q⟩
      have hle : i < σ.length := by
        rw [← ev.len]
        unfold sSuite at q
        dsimp only at q
        split at q
        · rename_i hlt
          simpa using hlt
        · exact q.elim
      exact List.getElem?_set_self hle
    · subst hb
      exact h2 E c w env G σ ρ H dd vw rg ev hd r q
theorem ds_tryL {h : Addr → D → SS} (hst : X.stack = X.env :: X.outer) (hf : X.env.frame = some X.env.locals)
    (hb : ∀ (W' : WX) (pn : List (Addr × Obj)) (xe : Value → Shared → Prop), Takes (X.tr pn xe) W' → PassesOwn (model X.prog X.w) X.A X.env xe → DSs (X.tr pn xe) T W' body fb) (hh : HBd X T W (h₀ :: hs) h) :
    DS X T W (.Try body (h₀ :: hs) [] [] pos) (sTry fb h) := by
  obtain ⟨wl, h1, h2⟩ := hh
  refine ⟨fun pins s σ H E I ⟨ρ, env, G, sr, q⟩ => ?_⟩
  refine (ps_tryL (tb := tTry X.K T fb) hst hf (fun W' pn xe t o => tTry_ok (hb W' pn xe t o)) h1).run pins s σ H E I ?_
  refine ⟨ρ, env, G, sr.rg, sr.ev.cut, ?_⟩
  unfold sTry at q
  revert q
  cases fb (cutX env) G with
  | nx env1 G1 => exact fun q σ' ρ' H' e rg ev => q σ' ρ' H' e ⟨rg, ev.cut'⟩
  | bk env1 G1 => exact fun q σ' ρ' H' e rg ev => q σ' ρ' H' e ⟨rg, ev.cut'⟩
  | ct env1 G1 => exact fun q σ' ρ' H' e rg ev => q σ' ρ' H' e ⟨rg, ev.cut'⟩
  | rt d G1 => exact fun q => q
  | bad => exact fun q => q
  | ex c w env1 G1 =>
    intro q σ' ρ' H' dd vw e1 rg ev hd r
    dsimp only [RS.cut] at q
    exact h2 E c w env1 G1 σ' ρ' H' dd vw rg ev hd r (PostS.ext e1 q)
end
@[simp] theorem e_hE (c : Addr) (w : D) env G : hE c w env G = .ex c w env G := prf rfl
@[simp] theorem e_hC (m : Addr → Option Bool) (suite rest : Addr → D → SS) (c : Addr) (w : D) env G : hC m suite rest c w env G = match m c with
  | some true => suite c w env G
  | some false => rest c w env G
  | none => .bad := prf rfl
@[simp] theorem e_eKget (kvs : List (Str × Addr)) (f : ES) env G : eKget kvs f env G = match f env G with
  | .ok (.dat (.str z)) G1 => (match kvs.lookup z with
    | some a => .ok (.obj a) G1
    | none => .ok (.dat .none) G1)
  | .ok _ _ => .bad
  | .ex c w G1 => .ex c w G1
  | .bad => .bad := prf rfl
@[simp] theorem gRev_ref {l : Nat} {G : Hh} : gRev (.ref l) G = match G[l]? with
  | some (.lst xs) => some (.ref G.length, G ++ [.lst xs.reverse])
  | none => none := prf rfl
theorem rel_0m {sem : FS} {ds : List D} {G G1 : Hh} {x : PyData} {n : Nat} {mn : MO} (h1 : refs ds = []) (hr : renum 0 ds = ds) (h3 : argsOk ds = true) (hs : sem ds [] = .ok (.mix [.dat x, .ref n]) G1) (hn : G1[n]? = some mn) (hm : moClean mn = true) :
    relCall sem ds G = .ok (.mix [.dat x, .ref G.length]) (G ++ [mn]) := by
  unfold relCall
  rw [h1, hr]
  rw [if_pos ⟨List.nodup_nil, (fun l hl => by cases hl), h3, rfl⟩]
  show relOut G [] (sem ds []) = _
  rw [hs]
  unfold relOut
  dsimp only
  rw [if_pos ⟨Nat.zero_le _, by simp⟩]
  rw [if_neg (by simp [clean, cleans])]
  rw [hn]
  dsimp only
  rw [if_pos ⟨Nat.zero_le _, hm⟩]
  cases G1 <;> rfl
theorem memNil {P : Program} {w : World} {K : PySem.W.Frag} {mg : Str → Option Value} {base : Heap} {T : TbT} {ps : List Str} {k : Nat} : ∀ y ∈ ([] : List (Addr × FS)), HasAt P w K mg base T y.1 ps k y.2 := fun y hy => by cases hy
theorem memCons {P : Program} {w : World} {K : PySem.W.Frag} {mg : Str → Option Value} {base : Heap} {T : TbT} {ps : List Str} {k : Nat} {a : Addr} {f : FS} {l : List (Addr × FS)} (h1 : HasAt P w K mg base T a ps k f) (h2 : ∀ y ∈ l, HasAt P w K mg base T y.1 ps k y.2) : ∀ y ∈ (a, f) :: l, HasAt P w K mg base T y.1 ps k y.2 := fun y hy => by
  rcases List.mem_cons.mp hy with rfl | hy
  · exact h1
  · exact h2 y hy
/-- x += e, of numbers -/
def gAddI (x y : D) (G : Hh) : Option (D × Hh) := match x, y with
  | .dat (.int i), .dat (.int j) => some (.dat (.int (i + j)), G)
  | _, _ => none
@[simp] theorem gAddI_int {i j : Int} {G : Hh} : gAddI (.dat (.int i)) (.dat (.int j)) G = some (.dat (.int (i + j)), G) := prf rfl
theorem in_gAddI {X : Cx} {T : TbT} : OpR X (inplaceOp .Add) (r2 X T gAddI) := fun pins s σ H v u vv uu Q I rv ru ⟨ρ, G, x, y, rg, rx, ry, p⟩ => by
  unfold gAddI at p
  split at p
  · rename_i i j
    exact iop_add pins s σ H v u vv uu Q I rv ru ⟨i, j, rx, ry, post_val (d := .dat (.int (i + j))) rg rfl p⟩
  · exact p.elim
end DL

set_option Elab.async false
set_option linter.all false
set_option maxRecDepth 100000
set_option maxHeartbeats 1000000
namespace DL
open PySem PySem.Spec PyProof.Rows L2
open Classical
/-! ### comprehensions over a list, and such as make objects on their way -/
section
variable {α : Type} {a : GS} {t : TSm} {f : ES} {l : Nat} {chk : Hh → Prop} {env : Env'}
theorem lcL_grow (dv : α → D) (e : α → Env') (tb : α → Bool) (fv : α → D) (Ok : Hh → Prop) (hset : ∀ g zs, Ok g → Ok (g.set l (.lst zs))) (hc : ∀ g, Ok g → chk g) : ∀ (cs : List α) (acc : List D) (G : Hh),
    (∀ x ∈ cs, ∀ g, Ok g → l < g.length → a (dv x) env g = some (e x, g) ∧ ∃ g', t (e x) g = .ok (tb x) g' ∧ Ok g' ∧ g'[l]? = g[l]? ∧ (tb x = true → f (e x) g' = .ok (fv x) g')) → Ok G → G[l]? = some (.lst acc) → acc.length + cs.length ≤ 100000 →
    ∃ G', lcL a t f l chk env (cs.map dv) G = .ok (.ref l) G' ∧ G'[l]? = some (.lst (acc ++ (cs.filter tb).map fv)) ∧ Ok G'
  | [], acc, G, _, h, hl, _ => by
    refine ⟨G, ?_, by simpa using hl, h⟩
    rw [List.map_nil, lcL, if_pos (hc _ h)]
  | x :: xs, acc, G, ha, h, hl, hn => by
    obtain ⟨h1, g', h2, h3, h4, h5⟩ := ha x List.mem_cons_self G h (lt_of hl)
    rw [List.map_cons, lcL, if_pos (hc _ h), h1]
    dsimp only
    rw [h2]
    have ih := lcL_grow dv e tb fv Ok hset hc xs
    have hl' : g'[l]? = some (.lst acc) := h4.trans hl
    cases hb : tb x with
    | true =>
      dsimp only
      rw [h5 hb]
      dsimp only
      rw [hl']
      dsimp only
      have : acc.length < 100000 := by simp at hn; omega
      rw [if_pos this]
      obtain ⟨G', p1, p2, p3⟩ := ih (acc ++ [fv x]) _ (fun y hy g hg hl => ha y (List.mem_cons_of_mem _ hy) g hg hl) (hset _ _ h3) (by rw [List.getElem?_set_self (lt_of hl')]) (by simp at hn ⊢; omega)
      exact ⟨G', p1, by simpa [hb] using p2, p3⟩
    | false =>
      dsimp only
      obtain ⟨G', p1, p2, p3⟩ := ih acc g' (fun y hy g hg hl => ha y (List.mem_cons_of_mem _ hy) g hg hl) h3 hl' (by simp at hn ⊢; omega)
      exact ⟨G', p1, by simpa [hb] using p2, p3⟩
theorem eLc_grow {src : IS} {vs : List Nat} {G G1 : Hh} (dv : α → D) (e : α → Env') (tb : α → Bool) (fv : α → PyData) (Ok : Hh → Prop) (hset : ∀ g zs, Ok g → Ok (g.set G1.length (.lst zs))) (hc : ∀ g, Ok g → chk g) (cs : List α) (h : src env G = .ok (cs.map dv) chk G1) (h0 : Ok (G1 ++ [.lst []]))
    (hx : ∀ x ∈ cs, ∀ g, Ok g → G1.length < g.length → a (dv x) (wipeE (cutX env) vs) g = some (e x, g) ∧ ∃ g', t (e x) g = .ok (tb x) g' ∧ Ok g' ∧ g'[G1.length]? = g[G1.length]? ∧ (tb x = true → f (e x) g' = .ok (.dat (fv x)) g')) (hn : cs.length ≤ 100000) :
    ∃ G', eLc src a t f vs env G = .ok (.ref G1.length) G' ∧ G'[G1.length]? = some (.lst (((cs.filter tb).map fv).map .dat)) ∧ Ok G' := by
  rw [eLc_ok h]
  obtain ⟨G', p1, p2, p3⟩ := lcL_grow dv e tb (fun x => .dat (fv x)) Ok hset hc cs [] _ hx h0 (by simp) (by simpa using hn)
  exact ⟨G', p1, by simpa [Function.comp_def] using p2, p3⟩
/-- .. over a list -/
theorem eLc_lst {src : IS} {vs : List Nat} {G G1 : Hh} {m : Nat} {ys : List D} (dv : α → D) (e : α → Env') (tb : α → Bool) (fv : α → PyData) (cs : List α) (h : src env G = .ok (cs.map dv) (fun g => g[m]? = some (.lst ys)) G1) (hm : G1[m]? = some (.lst ys))
    (hx : ∀ x ∈ cs, ∀ g, g[m]? = some (.lst ys) → a (dv x) (wipeE (cutX env) vs) g = some (e x, g) ∧ t (e x) g = .ok (tb x) g ∧ (tb x = true → f (e x) g = .ok (.dat (fv x)) g)) (hn : cs.length ≤ 100000) :
    eLc src a t f vs env G = .ok (.ref G1.length) (G1 ++ [.lst (((cs.filter tb).map fv).map .dat)]) := by
  have hlt := lt_of hm
  rw [eLc_ok h, lcL_map dv e tb (fun x => .dat (fv x)) (fun g => g[m]? = some (.lst ys)) (fun g zs hg => by rw [List.getElem?_set_ne (by omega)]; exact hg) (fun g hg => hg) cs [] _ (fun x hx' g hg => hx x hx' g hg) (by rw [List.getElem?_append_left hlt]; exact hm) (by simp) (by simpa using hn)]
  simp
end
end DL

set_option Elab.async false
set_option linter.all false
set_option maxRecDepth 100000
set_option maxHeartbeats 1000000
namespace DL
open PySem PySem.Spec PyProof.Rows L2

/-! ### the head's look, with the dict of the statics -/
abbrev asY (g : Addr → Option Obj) (n : Nat) : List Addr := cStatics :: He.asD g n
def obsY (n : Nat) (fa : List He.Fa) (fn : List He.DefD) (ts : List He.Tab) (tf : List He.Defn) (ex : PySem.W.Frag → Bool) (g : Addr → Option Obj) : He.AlX :=
  (fun K : PySem.W.Frag => (He.obsT fa fn ts K, ex K && He.tabsB g tf K)) (He.frT g (asY g n))
theorem saysY_of {as : List Addr} {fa : List He.Fa} {fn : List He.DefD} {ts : List He.Tab} {tf : List He.Defn} {ex : PySem.W.Frag → Bool} {w : World} {h : Heap}
    (e : (He.obsT fa fn ts (He.frT h.get? as), ex (He.frT h.get? as) && He.tabsB h.get? tf (He.frT h.get? as)) = He.valX fn ts w) : He.SaysX fa fn ts tf ex w h (He.frT h.get? as) := by
  obtain ⟨K, hK⟩ : ∃ K, K = He.frT h.get? as := ⟨_, rfl⟩
  rw [← hK] at e ⊢
  obtain ⟨l1, l2⟩ := He.ba (congrArg (fun z : He.AlX => z.2) e : (ex K && He.tabsB h.get? tf K) = true)
  have tb : ∀ p ∈ tf, PySem.W.codeHdIn K (He.cT K p).1 (He.cT K p).2 = true ∧ ∃ o, h.get? (He.cT K p).2 = some o ∧ He.emptyTab o = true := by
    intro p hp
    obtain ⟨c1, c2⟩ := He.ba (List.all_eq_true.mp l2 p hp)
    cases hq : h.get? (He.cT K p).2 with
    | some o => rw [hq] at c2; exact ⟨c1, o, rfl, c2⟩
    | none => rw [hq] at c2; exact absurd c2 Bool.false_ne_true
  refine ⟨congrArg (fun z : He.AlX => z.1) e, l1, fun p hp => (tb p hp).1, fun p hp => ?_, fun p hp => ?_⟩
  · obtain ⟨_, o, e1, e2⟩ := tb p hp
    rw [hK] at e1 ⊢
    exact He.frT_none e1 e2
  · obtain ⟨_, o, e1, e2⟩ := tb p hp
    rw [e1, He.emptyTab_eq e2]
def hookY (n : Nat) (fa : List He.Fa) (fn : List He.DefD) (ts : List He.Tab) (tf : List He.Defn) (ex : PySem.W.Frag → Bool) : PySem.W.Hook where
  α := He.AlX
  obs := fun st => obsY n fa fn ts tf ex st.heap.get?
  val := He.valX fn ts
  says := fun w h => ∃ K : PySem.W.Frag, K.In h ∧ He.SaysX fa fn ts tf ex w h K
  of := fun _ _ e => ⟨_, He.frT_in, saysY_of e⟩
  keeps := fun _ _ _ ⟨K, kin, c⟩ kp => ⟨K, kin.keeps kp, { t := c.t, more := c.more, hd := c.hd, out := c.out, empty := fun p hp => kp _ _ (c.empty p hp) }⟩
theorem obsY_eq {n : Nat} {fa : List He.Fa} {fn : List He.DefD} {ts : List He.Tab} {tf : List He.Defn} {ex : PySem.W.Frag → Bool} {g : Addr → Option Obj} {st : Shared} (h : ∀ a, g a = st.heap.get? a) : obsY n fa fn ts tf ex g = (hookY n fa fn ts tf ex).obs st := by
  obtain rfl : g = st.heap.get? := funext h
  rfl
end DL

set_option Elab.async false
set_option linter.all false
set_option maxRecDepth 100000
set_option maxHeartbeats 4000000
namespace K00
open PySem PySem.Spec PyProof.Rows L2 DL
abbrev top0 (j : Nat) : Stmt := PySem.Challenge.pw_lawsleft_k00_grounds_made_and_refused.main.body.getD j (.Pass ⟨0, 0, 0, 0⟩)
/-- where the classes of the errors stand -/
structure ErrC where
  (Refused BadGround : Addr)
/-- what the top has written -/
structure Tx (P : Program) (w : World) (K : PySem.W.Frag) (mg : Str → Option Value) (base : Heap) (q : ErrC) : Prop where
  b_ValueError : mg "ValueError" = none
  b_all : mg "all" = none
  b_bool : mg "bool" = none
  b_enumerate : mg "enumerate" = none
  b_int : mg "int" = none
  b_isinstance : mg "isinstance" = none
  b_len : mg "len" = none
  b_list : mg "list" = none
  b_max : mg "max" = none
  b_min : mg "min" = none
  b_range : mg "range" = none
  b_repr : mg "repr" = none
  b_str : mg "str" = none
  b_tuple : mg "tuple" = none
  c_BadGround : GC P w K mg base "BadGround" q.BadGround
  exc_BadGround : ∀ c ∈ [q.BadGround], ExcC K c
  exm_BadGround_BadGround : ∀ p ∈ ([(q.BadGround, true)] : List (Addr × Bool)), PySem.W.exmOne K (.ref p.1) (.ref q.BadGround) = some p.2
  exm_Refused_BadGround : ∀ p ∈ ([(q.BadGround, true)] : List (Addr × Bool)), PySem.W.exmOne K (.ref p.1) (.ref q.Refused) = some p.2
  k_CELLS : GI mg "CELLS" 0
  k_EXITS : GI mg "EXITS" 2
  k_GREATEST_NUMBERS : GT K mg "GREATEST_NUMBERS" (.tuple [(.int 8), (.int 99)])
  k_LETTERS : GSt mg "LETTERS" "abcdefghijklmnopqrstuvwxyz"
  k_LETTERS_AND_FIGURES : GSt mg "LETTERS_AND_FIGURES" "abcdefghijklmnopqrstuvwxyz0123456789"
  k_LONGEST_NAME : GI mg "LONGEST_NAME" 12
  k_MOST_ENTRIES : GT K mg "MOST_ENTRIES" (.tuple [(.int 4), (.int 3), (.int 4)])
  k_MOST_STATES : GI mg "MOST_STATES" 64
  k_RESERVED : GT K mg "RESERVED" (.tuple [(.str "cells"), (.str "deeds"), (.str "exits"), (.str "if"), (.str "else"), (.str "while"), (.str "catch"), (.str "exit"), (.str "and"), (.str "or"), (.str "not"), (.str "law")])
  kit_BadGround_BadGround : ∀ p ∈ ([(q.BadGround, true)] : List (Addr × Bool)), PySem.W.kitOne K (.ref p.1) (.ref q.BadGround) = some p.2
  kit_ValueError_BadGround : ∀ p ∈ ([(q.BadGround, true)] : List (Addr × Bool)), PySem.W.kitOne K (.ref p.1) (.type "ValueError") = some p.2
  m_BadGround : mg "BadGround" = some (.ref q.BadGround)
  m_Refused : mg "Refused" = some (.ref q.Refused)
  what_BadGround : ∀ c ∈ [q.BadGround], XfC K c ∧ PySem.W.findIn K (.ref c) "what" = some none
section
variable {P : Program} {w : World} {K : PySem.W.Frag} {mg : Str → Option Value} {base : Heap} {T : TbT} {q : ErrC}
/-! ### _law_pool -/
abbrev s__law_pool : Stmt := top0 24
theorem sc__law_pool : FnScope ["script", "k", "cell", "big", "mixed"] ["script", "k"] (defScope s__law_pool) := ⟨rfl, rfl, rfl, by decide +kernel, rfl, by decide +kernel, by decide +kernel⟩
theorem bd__law_pool : BindsH "_law_pool" s__law_pool ["script", "k"] := fun _ _ _ _ _ _ us hl => match us, hl with | [_, _], _ => rfl
noncomputable def b__law_pool (q : ErrC) : SS :=
    (sSeq (sAsg (eC (.dat (.int 0))) (aName 2))
    (sSeq (sIf (tTest' truB (eBin gLt (eVar 1) (eArgs gLen (aCons (eVar 0) aNil)))) (sAsg (eBin gIx (eVar 0) (eVar 1)) (aName 2)) (sIf (tTest' truB (eBin gNe (eVar 0) (eArgs gLstD aNil))) (sAsg (eBin gIx (eVar 0) (eC (.dat (.int 0)))) (aName 2)) sNil))
    (sSeq (sAsg (eArgs gMax2 (aCons (eArgs gInt (aCons (eVar 2) aNil)) (aCons (eArgs gInt (aCons (eBin gSub (eUn gNeg (eC (.dat (.int 1)))) (eVar 2)) aNil)) aNil))) (aName 3))
    (sSeq (sAsg (eBin gMod (eArgs gInt (aCons (eBin gMul (eBin gAdd (eBin gAdd (eBin gAdd (eBin gMod (eArgs gInt (aCons (eVar 3) aNil)) (eC (.dat (.int 2147483629)))) (eBin gMul (eBin gMul (eC (.dat (.int 7919))) (eVar 1)) (eVar 1))) (eBin gMul (eC (.dat (.int 31))) (eVar 1))) (eC (.dat (.int 17)))) (eC (.dat (.int 48271)))) aNil)) (eC (.dat (.int 2147483647)))) (aName 4))
    (sRet (eArgs gLstD (aCons (eBin gMul (eVar 3) (eArgs gInt (aCons (eAnd tru (eBin gGe (eVar 3) (eBin gPow (eC (.dat (.int 10))) (eC (.dat (.int 18))))) (eBin gLt (eVar 1) (eArgs gLen (aCons (eVar 0) aNil)))) aNil))) (aCons (eVar 4) aNil))))))))
noncomputable def f__law_pool (q : ErrC) : FS := fnD 5 (b__law_pool q)
theorem h__law_pool (t : Tx P w K mg base q) (F : HasF K mg "_law_pool" s__law_pool)  : Has P w K mg base T "_law_pool" ["script", "k"] 1 (f__law_pool q) :=
  Has.of F sc__law_pool bd__law_pool fun _ _ _ _ _ _ _ hr hgd => by exact
    (dss_cons (by exact (ds_asg (by exact de_int) (by exact (dg_name (by exact sc__law_pool.nd) (by exact rfl) (by first | exact Or.inl rfl | exact Or.inr rfl))))) (by exact (dss_cons (by exact (ds_if (by exact (dt_cmp (by exact (op_gLt (by have hz := un_of hr; exact hz))) (by exact (de_var 1)) (by exact (de_callB (by exact (call_gLen)) (by exact rfl) (by exact t.b_len) (by exact bt_len) (by exact (da_cons (by exact (de_var 0)) (by exact da_nil))))) (by exact rfl))) (by exact (dss_one (by exact (ds_asg (by exact (de_ix ix_gIx (by exact (de_var 0)) (by exact (de_var 1)) (fun _ _ => rfl))) (by exact (dg_name (by exact sc__law_pool.nd) (by exact rfl) (by first | exact Or.inl rfl | exact Or.inr rfl))))))) (by exact (dss_one (by exact (ds_if (by exact (dt_cmp (by exact (op_gNe (by have hz := un_of hr; exact hz))) (by exact (de_var 0)) (by exact (de_lst (by exact da_nil))) (by exact rfl))) (by exact (dss_one (by exact (ds_asg (by exact (de_ix ix_gIx (by exact (de_var 0)) (by exact de_int) (fun _ _ => rfl))) (by exact (dg_name (by exact sc__law_pool.nd) (by exact rfl) (by first | exact Or.inl rfl | exact Or.inr rfl))))))) (by exact dss_nil))))))) (by exact (dss_cons (by exact (ds_asg (by exact (de_callB (by exact (call_gMax2 (by exact rfl))) (by exact rfl) (by exact t.b_max) (by exact bt_max) (by exact (da_cons (by exact (de_callTy (by exact (call_gInt)) (by exact rfl) (by exact t.b_int) (by exact bt_int) (by exact (da_cons (by exact (de_var 2)) (by exact da_nil))))) (by exact (da_cons (by exact (de_callTy (by exact (call_gInt)) (by exact rfl) (by exact t.b_int) (by exact bt_int) (by exact (da_cons (by exact (de_op op_gSub (by exact (de_un un_gNeg (by exact de_int))) (by exact (de_var 2)))) (by exact da_nil))))) (by exact da_nil))))))) (by exact (dg_name (by exact sc__law_pool.nd) (by exact rfl) (by first | exact Or.inl rfl | exact Or.inr rfl))))) (by exact (dss_cons (by exact (ds_asg (by exact (de_op op_gMod (by exact (de_callTy (by exact (call_gInt)) (by exact rfl) (by exact t.b_int) (by exact bt_int) (by exact (da_cons (by exact (de_op op_gMul (by exact (de_op op_gAdd (by exact (de_op op_gAdd (by exact (de_op op_gAdd (by exact (de_op op_gMod (by exact (de_callTy (by exact (call_gInt)) (by exact rfl) (by exact t.b_int) (by exact bt_int) (by exact (da_cons (by exact (de_var 3)) (by exact da_nil))))) (by exact de_int))) (by exact (de_op op_gMul (by exact (de_op op_gMul (by exact de_int) (by exact (de_var 1)))) (by exact (de_var 1)))))) (by exact (de_op op_gMul (by exact de_int) (by exact (de_var 1)))))) (by exact de_int))) (by exact de_int))) (by exact da_nil))))) (by exact de_int))) (by exact (dg_name (by exact sc__law_pool.nd) (by exact rfl) (by first | exact Or.inl rfl | exact Or.inr rfl))))) (by exact (dss_one (by exact (ds_ret (by exact (de_lst (by exact (da_cons (by exact (de_op op_gMul (by exact (de_var 3)) (by exact (de_callTy (by exact (call_gInt)) (by exact rfl) (by exact t.b_int) (by exact bt_int) (by exact (da_cons (by exact (de_and (by exact (de_cmp (by exact (op_gGe (by have hz := un_of hr; exact hz))) (by exact (de_var 3)) (by exact (de_op op_gPow (by exact de_int) (by exact de_int))) (by exact rfl))) (by exact (de_one (by exact (de_cmp (by exact (op_gLt (by have hz := un_of hr; exact hz))) (by exact (de_var 1)) (by exact (de_callB (by exact (call_gLen)) (by exact rfl) (by exact t.b_len) (by exact bt_len) (by exact (da_cons (by exact (de_var 0)) (by exact da_nil))))) (by exact rfl))))))) (by exact da_nil))))))) (by exact (da_cons (by exact (de_var 4)) (by exact da_nil))))))))))))))))))
/-! ### _law_take -/
abbrev s__law_take : Stmt := top0 25
theorem sc__law_take : FnScope ["source", "top", "drawn"] ["source", "top"] (defScope s__law_take) := ⟨rfl, rfl, rfl, by decide +kernel, rfl, by decide +kernel, by decide +kernel⟩
theorem bd__law_take : BindsH "_law_take" s__law_take ["source", "top"] := fun _ _ _ _ _ _ us hl => match us, hl with | [_, _], _ => rfl
noncomputable def b__law_take (q : ErrC) : SS :=
    (sSeq (sIf (tTest' truB (eBin gGt (eBin gIx (eVar 0) (eC (.dat (.int 0)))) (eC (.dat (.int 0))))) (sSeq (sAsg (eBin gMod (eArgs gInt (aCons (eBin gIx (eVar 0) (eC (.dat (.int 0)))) aNil)) (eVar 1)) (aName 2))
    (sSeq (sAsg (eBin gDiv (eBin gIx (eVar 0) (eC (.dat (.int 0)))) (eVar 1)) (aSub (eVar 0) (eC (.dat (.int 0))) gSetL))
    (sRet (eVar 2)))) sNil)
    (sSeq (sAsg (eBin gMod (eArgs gInt (aCons (eBin gAdd (eBin gMul (eBin gIx (eVar 0) (eC (.dat (.int 1)))) (eC (.dat (.int 39373)))) (eC (.dat (.int 7)))) aNil)) (eC (.dat (.int 2147483647)))) (aSub (eVar 0) (eC (.dat (.int 1))) gSetL))
    (sRet (eBin gMod (eArgs gInt (aCons (eBin gDiv (eBin gMod (eArgs gInt (aCons (eBin gMul (eBin gIx (eVar 0) (eC (.dat (.int 1)))) (eBin gIx (eVar 0) (eC (.dat (.int 1))))) aNil)) (eC (.dat (.int 2147483629)))) (eC (.dat (.int 32)))) aNil)) (eVar 1)))))
noncomputable def f__law_take (q : ErrC) : FS := fnD 3 (b__law_take q)
theorem h__law_take (t : Tx P w K mg base q) (F : HasF K mg "_law_take" s__law_take)  : Has P w K mg base T "_law_take" ["source", "top"] 1 (f__law_take q) :=
  Has.of F sc__law_take bd__law_take fun _ _ _ _ _ _ _ hr hgd => by exact
    (dss_cons (by exact (ds_if (by exact (dt_cmp (by exact (op_gGt (by have hz := un_of hr; exact hz))) (by exact (de_ix ix_gIx (by exact (de_var 0)) (by exact de_int) (fun _ _ => rfl))) (by exact de_int) (by exact rfl))) (by exact (dss_cons (by exact (ds_asg (by exact (de_op op_gMod (by exact (de_callTy (by exact (call_gInt)) (by exact rfl) (by exact t.b_int) (by exact bt_int) (by exact (da_cons (by exact (de_ix ix_gIx (by exact (de_var 0)) (by exact de_int) (fun _ _ => rfl))) (by exact da_nil))))) (by exact (de_var 1)))) (by exact (dg_name (by exact sc__law_take.nd) (by exact rfl) (by first | exact Or.inl rfl | exact Or.inr rfl))))) (by exact (dss_cons (by exact (ds_asg (by exact (de_op op_gDiv (by exact (de_ix ix_gIx (by exact (de_var 0)) (by exact de_int) (fun _ _ => rfl))) (by exact (de_var 1)))) (by exact (dg_sub (W := noW) (by exact (de_var 0)) (by exact de_int))))) (by exact (dss_one (by exact (ds_ret (by exact (de_var 2)))))))))) (by exact dss_nil))) (by exact (dss_cons (by exact (ds_asg (by exact (de_op op_gMod (by exact (de_callTy (by exact (call_gInt)) (by exact rfl) (by exact t.b_int) (by exact bt_int) (by exact (da_cons (by exact (de_op op_gAdd (by exact (de_op op_gMul (by exact (de_ix ix_gIx (by exact (de_var 0)) (by exact de_int) (fun _ _ => rfl))) (by exact de_int))) (by exact de_int))) (by exact da_nil))))) (by exact de_int))) (by exact (dg_sub (W := noW) (by exact (de_var 0)) (by exact de_int))))) (by exact (dss_one (by exact (ds_ret (by exact (de_op op_gMod (by exact (de_callTy (by exact (call_gInt)) (by exact rfl) (by exact t.b_int) (by exact bt_int) (by exact (da_cons (by exact (de_op op_gDiv (by exact (de_op op_gMod (by exact (de_callTy (by exact (call_gInt)) (by exact rfl) (by exact t.b_int) (by exact bt_int) (by exact (da_cons (by exact (de_op op_gMul (by exact (de_ix ix_gIx (by exact (de_var 0)) (by exact de_int) (fun _ _ => rfl))) (by exact (de_ix ix_gIx (by exact (de_var 0)) (by exact de_int) (fun _ _ => rfl))))) (by exact da_nil))))) (by exact de_int))) (by exact de_int))) (by exact da_nil))))) (by exact (de_var 1)))))))))))
/-! ### _law_mixed -/
abbrev s__law_mixed : Stmt := top0 27
theorem sc__law_mixed : FnScope ["source", "things", "left", "found", "turn"] ["source", "things"] (defScope s__law_mixed) := ⟨rfl, rfl, rfl, by decide +kernel, rfl, by decide +kernel, by decide +kernel⟩
theorem bd__law_mixed : BindsH "_law_mixed" s__law_mixed ["source", "things"] := fun _ _ _ _ _ _ us hl => match us, hl with | [_, _], _ => rfl
noncomputable def b__law_mixed (q : ErrC) : SS :=
    (sSeq (sPar 2 3 (aCons (eArgs gList (aCons (eVar 1) aNil)) (aCons (eArgs gLstD aNil) aNil)))
    (sSeq (sFor (srcRange1 (aCons (eArgs gLen (aCons (eVar 1) aNil)) aNil)) (aName 4) (sDrop (eMet isLst gAppend (eVar 3) (aCons (eMet isLst gPop (eVar 2) (aCons (eCallA 2 (relCall (f__law_take q)) (aCons (eVar 0) (aCons (eArgs gLen (aCons (eVar 2) aNil)) aNil))) aNil)) aNil))))
    (sRet (eVar 3))))
noncomputable def f__law_mixed (q : ErrC) : FS := fnD 5 (b__law_mixed q)
theorem h__law_mixed (t : Tx P w K mg base q) (F : HasF K mg "_law_mixed" s__law_mixed) (h__law_take : Has P w K mg base T "_law_take" ["source", "top"] 1 (f__law_take q)) : Has P w K mg base T "_law_mixed" ["source", "things"] 2 (f__law_mixed q) :=
  Has.of F sc__law_mixed bd__law_mixed fun _ _ _ _ _ _ _ hr hgd => by exact
    (dss_cons (by exact (ds_par (i := 2) (j := 3) (by exact rfl) (by exact sc__law_mixed.nd) (by exact rfl) (by exact rfl) (by decide) (by exact rfl) (by exact rfl) (by exact (da_cons (by exact (de_callTy (by exact (call_gList)) (by exact rfl) (by exact t.b_list) (by exact bt_list) (by exact (da_cons (by exact (de_var 1)) (by exact da_nil))))) (by exact (da_cons (by exact (de_lst (by exact da_nil))) (by exact da_nil))))) (by exact rfl))) (by exact (dss_cons (by exact (ds_for (by exact owns_fn) (by exact rfl) (by exact (di_range1 (by exact rfl) (by exact t.b_range) (by exact (da_cons (by exact (de_callB (by exact (call_gLen)) (by exact rfl) (by exact t.b_len) (by exact bt_len) (by exact (da_cons (by exact (de_var 1)) (by exact da_nil))))) (by exact da_nil))))) (by exact (dg_name (by exact sc__law_mixed.nd) (by exact rfl) (by first | exact Or.inl rfl | exact Or.inr rfl))) (by exact (dss_one (by exact (ds_expr (by exact (de_met lst_ty PySem.F.plainAttrs_list PySem.F.slot_list_append PySem.F.type_list_append mt_gAppend (by exact (de_var 3)) (by exact (da_cons (by exact (de_met lst_ty PySem.F.plainAttrs_list PySem.F.slot_list_pop PySem.F.type_list_pop mt_gPop (by exact (de_var 2)) (by exact (da_cons (by exact (de_call (ps := ["source", "top"]) h__law_take.rel (by exact takes_fn) (by exact (hr.mono (by decide))) (by exact hgd) (by exact rfl) (by exact (da_cons (by exact (de_var 0)) (by exact (da_cons (by exact (de_callB (by exact (call_gLen)) (by exact rfl) (by exact t.b_len) (by exact bt_len) (by exact (da_cons (by exact (de_var 2)) (by exact da_nil))))) (by exact da_nil))))))) (by exact da_nil))))) (by exact da_nil))))))))))) (by exact (dss_one (by exact (ds_ret (by exact (de_var 3)))))))))
/-! ### _law_names -/
abbrev s__law_names : Stmt := top0 34
theorem sc__law_names : FnScope ["source", "some"] ["source"] (defScope s__law_names) := ⟨rfl, rfl, rfl, by decide +kernel, rfl, by decide +kernel, by decide +kernel⟩
theorem bd__law_names : BindsH "_law_names" s__law_names ["source"] := fun _ _ _ _ _ _ us hl => match us, hl with | [_], _ => rfl
noncomputable def b__law_names (q : ErrC) : SS :=
    (sSeq (sAsg (eArgs gLstD (aCons (eC (.dat (.str "a"))) (aCons (eC (.dat (.str "z9"))) (aCons (eC (.dat (.str "send"))) (aCons (eC (.dat (.str "c"))) (aCons (eC (.dat (.str "abcdefghijkl"))) (aCons (eC (.dat (.str "abcdefghijkm"))) (aCons (eC (.dat (.str "law1"))) (aCons (eC (.dat (.str "ex"))) (aCons (eC (.dat (.str "iff"))) (aCons (eC (.dat (.str "b"))) (aCons (eC (.dat (.str "n0"))) (aCons (eC (.dat (.str "exits2"))) (aCons (eC (.dat (.str "q"))) (aCons (eC (.dat (.str "while9"))) aNil))))))))))))))) (aName 1))
    (sRet (eCallA 2 (relCall (f__law_mixed q)) (aCons (eVar 0) (aCons (eVar 1) aNil)))))
noncomputable def f__law_names (q : ErrC) : FS := fnD 2 (b__law_names q)
theorem h__law_names (t : Tx P w K mg base q) (F : HasF K mg "_law_names" s__law_names) (h__law_mixed : Has P w K mg base T "_law_mixed" ["source", "things"] 2 (f__law_mixed q)) : Has P w K mg base T "_law_names" ["source"] 3 (f__law_names q) :=
  Has.of F sc__law_names bd__law_names fun _ _ _ _ _ _ _ hr hgd => by exact
    (dss_cons (by exact (ds_asg (by exact (de_lst (by exact (da_cons (by exact de_str) (by exact (da_cons (by exact de_str) (by exact (da_cons (by exact de_str) (by exact (da_cons (by exact de_str) (by exact (da_cons (by exact de_str) (by exact (da_cons (by exact de_str) (by exact (da_cons (by exact de_str) (by exact (da_cons (by exact de_str) (by exact (da_cons (by exact de_str) (by exact (da_cons (by exact de_str) (by exact (da_cons (by exact de_str) (by exact (da_cons (by exact de_str) (by exact (da_cons (by exact de_str) (by exact (da_cons (by exact de_str) (by exact da_nil))))))))))))))))))))))))))))))) (by exact (dg_name (by exact sc__law_names.nd) (by exact rfl) (by first | exact Or.inl rfl | exact Or.inr rfl))))) (by exact (dss_one (by exact (ds_ret (by exact (de_call (ps := ["source", "things"]) h__law_mixed.rel (by exact takes_fn) (by exact (hr.mono (by decide))) (by exact hgd) (by exact rfl) (by exact (da_cons (by exact (de_var 0)) (by exact (da_cons (by exact (de_var 1)) (by exact da_nil))))))))))))
/-! ### _law_one -/
abbrev s__law_one : Stmt := top0 26
theorem sc__law_one : FnScope ["source", "things"] ["source", "things"] (defScope s__law_one) := ⟨rfl, rfl, rfl, by decide +kernel, rfl, by decide +kernel, by decide +kernel⟩
theorem bd__law_one : BindsH "_law_one" s__law_one ["source", "things"] := fun _ _ _ _ _ _ us hl => match us, hl with | [_, _], _ => rfl
noncomputable def b__law_one (q : ErrC) : SS :=
    (sRet (eBin gIx (eVar 1) (eCallA 2 (relCall (f__law_take q)) (aCons (eVar 0) (aCons (eArgs gLen (aCons (eVar 1) aNil)) aNil)))))
noncomputable def f__law_one (q : ErrC) : FS := fnD 2 (b__law_one q)
theorem h__law_one (t : Tx P w K mg base q) (F : HasF K mg "_law_one" s__law_one) (h__law_take : Has P w K mg base T "_law_take" ["source", "top"] 1 (f__law_take q)) : Has P w K mg base T "_law_one" ["source", "things"] 2 (f__law_one q) :=
  Has.of F sc__law_one bd__law_one fun _ _ _ _ _ _ _ hr hgd => by exact
    (dss_one (by exact (ds_ret (by exact (de_ix ix_gIx (by exact (de_var 1)) (by exact (de_call (ps := ["source", "top"]) h__law_take.rel (by exact takes_fn) (by exact (hr.mono (by decide))) (by exact hgd) (by exact rfl) (by exact (da_cons (by exact (de_var 0)) (by exact (da_cons (by exact (de_callB (by exact (call_gLen)) (by exact rfl) (by exact t.b_len) (by exact bt_len) (by exact (da_cons (by exact (de_var 1)) (by exact da_nil))))) (by exact da_nil))))))) (fun _ _ => rfl))))))
/-! ### _law_drawn -/
abbrev s__law_drawn : Stmt := top0 35
theorem sc__law_drawn : FnScope ["source", "names", "cells", "room", "at", "size", "kinds"] ["source"] (defScope s__law_drawn) := ⟨rfl, rfl, rfl, by decide +kernel, rfl, by decide +kernel, by decide +kernel⟩
theorem bd__law_drawn : BindsH "_law_drawn" s__law_drawn ["source"] := fun _ _ _ _ _ _ us hl => match us, hl with | [_], _ => rfl
noncomputable def b__law_drawn (q : ErrC) : SS :=
    (sSeq (sAsg (eArgs gTupD (aCons (eCallA 1 (relCall (f__law_names q)) (aCons (eVar 0) aNil)) (aCons (eArgs gLstD aNil) (aCons (eC (.dat (.int 64))) aNil)))) (aTup [(aName 1), (aName 2), (aName 3)]))
    (sSeq (sFor (srcRange1 (aCons (eCallA 2 (relCall (f__law_take q)) (aCons (eVar 0) (aCons (eC (.dat (.int 5))) aNil))) aNil)) (aName 4) (sSeq (sAsg (eCallA 2 (relCall (f__law_one q)) (aCons (eVar 0) (aCons (eArgs gLstD (aCons (eC (.dat (.int 1))) (aCons (eC (.dat (.int 2))) (aCons (eArgs gMin2 (aCons (eC (.dat (.int 8))) (aCons (eVar 3) aNil))) (aCons (eBin gAdd (eC (.dat (.int 1))) (eCallA 2 (relCall (f__law_take q)) (aCons (eVar 0) (aCons (eArgs gMin2 (aCons (eC (.dat (.int 8))) (aCons (eVar 3) aNil))) aNil)))) aNil))))) aNil))) (aName 5))
    (sSeq (sAsg (eArgs gMin2 (aCons (eVar 5) (aCons (eVar 3) aNil))) (aName 5))
    (sSeq (sDrop (eMet isLst gAppend (eVar 2) (aCons (eArgs gTupD (aCons (eMet0 isLst gPop (eVar 1)) (aCons (eVar 5) aNil))) aNil)))
    (sAsg (eBin gDiv (eVar 3) (eVar 5)) (aName 3))))))
    (sSeq (sAsg (eArgs gLstD aNil) (aName 6))
    (sSeq (sFor (srcRange1 (aCons (eCallA 2 (relCall (f__law_take q)) (aCons (eVar 0) (aCons (eC (.dat (.int 4))) aNil))) aNil)) (aName 4) (sDrop (eMet isLst gAppend (eVar 6) (aCons (eArgs gTupD (aCons (eMet0 isLst gPop (eVar 1)) (aCons (eCallA 2 (relCall (f__law_one q)) (aCons (eVar 0) (aCons (eArgs gLstD (aCons (eC (.dat (.int 1))) (aCons (eC (.dat (.int 99))) (aCons (eBin gAdd (eC (.dat (.int 1))) (eCallA 2 (relCall (f__law_take q)) (aCons (eVar 0) (aCons (eC (.dat (.int 99))) aNil)))) aNil)))) aNil))) aNil))) aNil))))
    (sRet (eArgs gTupD (aCons (eArgs gTuple (aCons (eVar 2) aNil)) (aCons (eArgs gTuple (aCons (eVar 6) aNil)) (aCons (eArgs gTuple (aCons (eLc (srcRange1 (aCons (eBin gAdd (eC (.dat (.int 1))) (eCallA 2 (relCall (f__law_take q)) (aCons (eVar 0) (aCons (eC (.dat (.int 4))) aNil)))) aNil)) (aName 4) tNo (eMet0 isLst gPop (eVar 1)) [4]) aNil)) aNil)))))))))
noncomputable def f__law_drawn (q : ErrC) : FS := fnD 7 (b__law_drawn q)
theorem h__law_drawn (t : Tx P w K mg base q) (F : HasF K mg "_law_drawn" s__law_drawn) (h__law_take : Has P w K mg base T "_law_take" ["source", "top"] 1 (f__law_take q)) (h__law_one : Has P w K mg base T "_law_one" ["source", "things"] 2 (f__law_one q)) (h__law_names : Has P w K mg base T "_law_names" ["source"] 3 (f__law_names q)) : Has P w K mg base T "_law_drawn" ["source"] 4 (f__law_drawn q) :=
  Has.of F sc__law_drawn bd__law_drawn fun _ _ _ _ _ _ _ hr hgd => by exact
    (dss_cons (by exact (ds_asg (by exact (de_tup (by exact (da_cons (by exact (de_call (ps := ["source"]) h__law_names.rel (by exact takes_fn) (by exact (hr.mono (by decide))) (by exact hgd) (by exact rfl) (by exact (da_cons (by exact (de_var 0)) (by exact da_nil))))) (by exact (da_cons (by exact (de_lst (by exact da_nil))) (by exact (da_cons (by exact de_int) (by exact da_nil))))))))) (by exact (dg_tup (by exact rfl) (by exact (dgs_cons (by exact (dg_name (by exact sc__law_drawn.nd) (by exact rfl) (by first | exact Or.inl rfl | exact Or.inr rfl))) (by exact (dgs_cons (by exact (dg_name (by exact sc__law_drawn.nd) (by exact rfl) (by first | exact Or.inl rfl | exact Or.inr rfl))) (by exact (dgs_cons (by exact (dg_name (by exact sc__law_drawn.nd) (by exact rfl) (by first | exact Or.inl rfl | exact Or.inr rfl))) (by exact dgs_nil))))))))))) (by exact (dss_cons (by exact (ds_for (by exact owns_fn) (by exact rfl) (by exact (di_range1 (by exact rfl) (by exact t.b_range) (by exact (da_cons (by exact (de_call (ps := ["source", "top"]) h__law_take.rel (by exact takes_fn) (by exact (hr.mono (by decide))) (by exact hgd) (by exact rfl) (by exact (da_cons (by exact (de_var 0)) (by exact (da_cons (by exact de_int) (by exact da_nil))))))) (by exact da_nil))))) (by exact (dg_name (by exact sc__law_drawn.nd) (by exact rfl) (by first | exact Or.inl rfl | exact Or.inr rfl))) (by exact (dss_cons (by exact (ds_asg (by exact (de_call (ps := ["source", "things"]) h__law_one.rel (by exact takes_fn) (by exact (hr.mono (by decide))) (by exact hgd) (by exact rfl) (by exact (da_cons (by exact (de_var 0)) (by exact (da_cons (by exact (de_lst (by exact (da_cons (by exact de_int) (by exact (da_cons (by exact de_int) (by exact (da_cons (by exact (de_callB (by exact (call_gMin2 (by exact rfl))) (by exact rfl) (by exact t.b_min) (by exact bt_min) (by exact (da_cons (by exact de_int) (by exact (da_cons (by exact (de_var 3)) (by exact da_nil))))))) (by exact (da_cons (by exact (de_op op_gAdd (by exact de_int) (by exact (de_call (ps := ["source", "top"]) h__law_take.rel (by exact takes_fn) (by exact (hr.mono (by decide))) (by exact hgd) (by exact rfl) (by exact (da_cons (by exact (de_var 0)) (by exact (da_cons (by exact (de_callB (by exact (call_gMin2 (by exact rfl))) (by exact rfl) (by exact t.b_min) (by exact bt_min) (by exact (da_cons (by exact de_int) (by exact (da_cons (by exact (de_var 3)) (by exact da_nil))))))) (by exact da_nil))))))))) (by exact da_nil))))))))))) (by exact da_nil))))))) (by exact (dg_name (by exact sc__law_drawn.nd) (by exact rfl) (by first | exact Or.inl rfl | exact Or.inr rfl))))) (by exact (dss_cons (by exact (ds_asg (by exact (de_callB (by exact (call_gMin2 (by exact rfl))) (by exact rfl) (by exact t.b_min) (by exact bt_min) (by exact (da_cons (by exact (de_var 5)) (by exact (da_cons (by exact (de_var 3)) (by exact da_nil))))))) (by exact (dg_name (by exact sc__law_drawn.nd) (by exact rfl) (by first | exact Or.inl rfl | exact Or.inr rfl))))) (by exact (dss_cons (by exact (ds_expr (by exact (de_met lst_ty PySem.F.plainAttrs_list PySem.F.slot_list_append PySem.F.type_list_append mt_gAppend (by exact (de_var 2)) (by exact (da_cons (by exact (de_tup (by exact (da_cons (by exact (de_met0 lst_ty PySem.F.plainAttrs_list PySem.F.slot_list_pop PySem.F.type_list_pop mt_gPop (by exact (de_var 1)))) (by exact (da_cons (by exact (de_var 5)) (by exact da_nil))))))) (by exact da_nil))))))) (by exact (dss_one (by exact (ds_asg (by exact (de_op op_gDiv (by exact (de_var 3)) (by exact (de_var 5)))) (by exact (dg_name (by exact sc__law_drawn.nd) (by exact rfl) (by first | exact Or.inl rfl | exact Or.inr rfl))))))))))))))) (by exact (dss_cons (by exact (ds_asg (by exact (de_lst (by exact da_nil))) (by exact (dg_name (by exact sc__law_drawn.nd) (by exact rfl) (by first | exact Or.inl rfl | exact Or.inr rfl))))) (by exact (dss_cons (by exact (ds_for (by exact owns_fn) (by exact rfl) (by exact (di_range1 (by exact rfl) (by exact t.b_range) (by exact (da_cons (by exact (de_call (ps := ["source", "top"]) h__law_take.rel (by exact takes_fn) (by exact (hr.mono (by decide))) (by exact hgd) (by exact rfl) (by exact (da_cons (by exact (de_var 0)) (by exact (da_cons (by exact de_int) (by exact da_nil))))))) (by exact da_nil))))) (by exact (dg_name (by exact sc__law_drawn.nd) (by exact rfl) (by first | exact Or.inl rfl | exact Or.inr rfl))) (by exact (dss_one (by exact (ds_expr (by exact (de_met lst_ty PySem.F.plainAttrs_list PySem.F.slot_list_append PySem.F.type_list_append mt_gAppend (by exact (de_var 6)) (by exact (da_cons (by exact (de_tup (by exact (da_cons (by exact (de_met0 lst_ty PySem.F.plainAttrs_list PySem.F.slot_list_pop PySem.F.type_list_pop mt_gPop (by exact (de_var 1)))) (by exact (da_cons (by exact (de_call (ps := ["source", "things"]) h__law_one.rel (by exact takes_fn) (by exact (hr.mono (by decide))) (by exact hgd) (by exact rfl) (by exact (da_cons (by exact (de_var 0)) (by exact (da_cons (by exact (de_lst (by exact (da_cons (by exact de_int) (by exact (da_cons (by exact de_int) (by exact (da_cons (by exact (de_op op_gAdd (by exact de_int) (by exact (de_call (ps := ["source", "top"]) h__law_take.rel (by exact takes_fn) (by exact (hr.mono (by decide))) (by exact hgd) (by exact rfl) (by exact (da_cons (by exact (de_var 0)) (by exact (da_cons (by exact de_int) (by exact da_nil))))))))) (by exact da_nil))))))))) (by exact da_nil))))))) (by exact da_nil))))))) (by exact da_nil))))))))))) (by exact (dss_one (by exact (ds_ret (by exact (de_tup (by exact (da_cons (by exact (de_callTy (by exact (call_gTuple)) (by exact rfl) (by exact t.b_tuple) (by exact bt_tuple) (by exact (da_cons (by exact (de_var 2)) (by exact da_nil))))) (by exact (da_cons (by exact (de_callTy (by exact (call_gTuple)) (by exact rfl) (by exact t.b_tuple) (by exact bt_tuple) (by exact (da_cons (by exact (de_var 6)) (by exact da_nil))))) (by exact (da_cons (by exact (de_callTy (by exact (call_gTuple)) (by exact rfl) (by exact t.b_tuple) (by exact bt_tuple) (by exact (da_cons (by exact (de_lc (own := [("at", 4)]) (by exact rfl) (by exact sc__law_drawn.nd) (by exact (di_range1 (by exact rfl) (by exact t.b_range) (by exact (da_cons (by exact (de_op op_gAdd (by exact de_int) (by exact (de_call (ps := ["source", "top"]) h__law_take.rel (by exact takes_fn) (by exact (hr.mono (by decide))) (by exact hgd) (by exact rfl) (by exact (da_cons (by exact (de_var 0)) (by exact (da_cons (by exact de_int) (by exact da_nil))))))))) (by exact da_nil))))) (by exact (blkOk_by (N := ["source", "names", "cells", "room", "at", "size", "kinds"]) (sc := defScope s__law_drawn) (by decide +kernel))) (by exact (fun _ _ _ _ _ => (by exact (dg0_name (by exact sc__law_drawn.nd) (by exact rfl) (by first | exact Or.inl rfl | exact Or.inr rfl) (by decide))))) (by exact (fun _ _ _ _ _ => (by exact (dts_nil)))) (by exact (fun _ _ _ _ _ => (by exact (de_met0 lst_ty PySem.F.plainAttrs_list PySem.F.slot_list_pop PySem.F.type_list_pop mt_gPop (by exact (de_var 1)))))))) (by exact da_nil))))) (by exact da_nil))))))))))))))))))))
/-! ### _law_states -/
abbrev s__law_states : Stmt := top0 28
theorem sc__law_states : FnScope ["ground", "found", "cell", "longer", "state", "value"] ["ground"] (defScope s__law_states) := ⟨rfl, rfl, rfl, by decide +kernel, rfl, by decide +kernel, by decide +kernel⟩
theorem bd__law_states : BindsH "_law_states" s__law_states ["ground"] := fun _ _ _ _ _ _ us hl => match us, hl with | [_], _ => rfl
noncomputable def b__law_states (q : ErrC) : SS :=
    (sSeq (sAsg (eArgs gLstD (aCons (eArgs gTupD aNil) aNil)) (aName 1))
    (sSeq (sFor (srcSeq (eBin gIx (eVar 0) (eC (.dat (.int 0))))) (aName 2) (sSeq (sAsg (eArgs gLstD aNil) (aName 3))
    (sSeq (sFor (srcSeq (eVar 1)) (aName 4) (sDrop (eMet isLst gExtend (eVar 3) (aCons (eLc (srcRange1 (aCons (eBin gIx (eVar 2) (eC (.dat (.int 1)))) aNil)) (aName 5) tNo (eBin gAdd (eVar 4) (eArgs gTupD (aCons (eVar 5) aNil))) [5]) aNil))))
    (sAsg (eVar 3) (aName 1)))))
    (sRet (eVar 1))))
noncomputable def f__law_states (q : ErrC) : FS := fnD 6 (b__law_states q)
theorem h__law_states (t : Tx P w K mg base q) (F : HasF K mg "_law_states" s__law_states)  : Has P w K mg base T "_law_states" ["ground"] 1 (f__law_states q) :=
  Has.of F sc__law_states bd__law_states fun _ _ _ _ _ _ _ hr hgd => by exact
    (dss_cons (by exact (ds_asg (by exact (de_lst (by exact (da_cons (by exact (de_tup (by exact da_nil))) (by exact da_nil))))) (by exact (dg_name (by exact sc__law_states.nd) (by exact rfl) (by first | exact Or.inl rfl | exact Or.inr rfl))))) (by exact (dss_cons (by exact (ds_for (by exact owns_fn) (by exact rfl) (by exact (di_seq (by exact (de_ix ix_gIx (by exact (de_var 0)) (by exact de_int) (fun _ _ => rfl))))) (by exact (dg_name (by exact sc__law_states.nd) (by exact rfl) (by first | exact Or.inl rfl | exact Or.inr rfl))) (by exact (dss_cons (by exact (ds_asg (by exact (de_lst (by exact da_nil))) (by exact (dg_name (by exact sc__law_states.nd) (by exact rfl) (by first | exact Or.inl rfl | exact Or.inr rfl))))) (by exact (dss_cons (by exact (ds_for (by exact owns_fn) (by exact rfl) (by exact (di_seq (by exact (de_var 1)))) (by exact (dg_name (by exact sc__law_states.nd) (by exact rfl) (by first | exact Or.inl rfl | exact Or.inr rfl))) (by exact (dss_one (by exact (ds_expr (by exact (de_met lst_ty PySem.F.plainAttrs_list PySem.F.slot_list_extend PySem.F.type_list_extend mt_gExtend (by exact (de_var 3)) (by exact (da_cons (by exact (de_lc (own := [("value", 5)]) (by exact rfl) (by exact sc__law_states.nd) (by exact (di_range1 (by exact rfl) (by exact t.b_range) (by exact (da_cons (by exact (de_ix ix_gIx (by exact (de_var 2)) (by exact de_int) (fun _ _ => rfl))) (by exact da_nil))))) (by exact (blkOk_by (N := ["ground", "found", "cell", "longer", "state", "value"]) (sc := defScope s__law_states) (by decide +kernel))) (by exact (fun _ _ _ _ _ => (by exact (dg0_name (by exact sc__law_states.nd) (by exact rfl) (by first | exact Or.inl rfl | exact Or.inr rfl) (by decide))))) (by exact (fun _ _ _ _ _ => (by exact (dts_nil)))) (by exact (fun _ _ _ _ _ => (by exact (de_op op_gAdd (by exact (de_var 4)) (by exact (de_tup (by exact (da_cons (by exact (de_var 5)) (by exact da_nil))))))))))) (by exact da_nil))))))))))) (by exact (dss_one (by exact (ds_asg (by exact (de_var 3)) (by exact (dg_name (by exact sc__law_states.nd) (by exact rfl) (by first | exact Or.inl rfl | exact Or.inr rfl))))))))))))) (by exact (dss_one (by exact (ds_ret (by exact (de_var 1)))))))))
/-! ### _law_is_number -/
abbrev s__law_is_number : Stmt := top0 31
theorem sc__law_is_number : FnScope ["thing", "low", "high"] ["thing", "low", "high"] (defScope s__law_is_number) := ⟨rfl, rfl, rfl, by decide +kernel, rfl, by decide +kernel, by decide +kernel⟩
theorem bd__law_is_number : BindsH "_law_is_number" s__law_is_number ["thing", "low", "high"] := fun _ _ _ _ _ _ us hl => match us, hl with | [_, _, _], _ => rfl
noncomputable def b__law_is_number (q : ErrC) : SS :=
    (sRet (eAnd tru (eArgs gIsa (aCons (eVar 0) (aCons (eC (.ty "int")) aNil))) (eAnd tru (eUn gNotT (eArgs gIsa (aCons (eVar 0) (aCons (eC (.ty "bool")) aNil)))) (eChain gLe gLe (eVar 1) (eVar 0) (eVar 2)))))
noncomputable def f__law_is_number (q : ErrC) : FS := fnD 3 (b__law_is_number q)
theorem h__law_is_number (t : Tx P w K mg base q) (F : HasF K mg "_law_is_number" s__law_is_number)  : Has P w K mg base T "_law_is_number" ["thing", "low", "high"] 1 (f__law_is_number q) :=
  Has.of F sc__law_is_number bd__law_is_number fun _ _ _ _ _ _ _ hr hgd => by exact
    (dss_one (by exact (ds_ret (by exact (de_and (by exact (de_callB (by exact (call_gIsa)) (by exact rfl) (by exact t.b_isinstance) (by exact bt_isinstance) (by exact (da_cons (by exact (de_var 0)) (by exact (da_cons (by exact (de_ty (by exact rfl) (by exact t.b_int) (by exact bt_int))) (by exact da_nil))))))) (by exact (de_and (by exact (de_not (by exact (de_callB (by exact (call_gIsa)) (by exact rfl) (by exact t.b_isinstance) (by exact bt_isinstance) (by exact (da_cons (by exact (de_var 0)) (by exact (da_cons (by exact (de_ty (by exact rfl) (by exact t.b_bool) (by exact bt_bool))) (by exact da_nil))))))))) (by exact (de_one (by exact (de_chain (by exact (op_gLe (by have hz := un_of hr; exact hz))) (by exact (op_gLe (by have hz := un_of hr; exact hz))) (by exact (de_var 1)) (by exact (de_var 0)) (by exact (de_var 2)))))))))))))
/-! ### _law_is_name -/
abbrev s__law_is_name : Stmt := top0 30
theorem sc__law_is_name : FnScope ["name", "letters", "sign", "words"] ["name"] (defScope s__law_is_name) := ⟨rfl, rfl, rfl, by decide +kernel, rfl, by decide +kernel, by decide +kernel⟩
theorem bd__law_is_name : BindsH "_law_is_name" s__law_is_name ["name"] := fun _ _ _ _ _ _ us hl => match us, hl with | [_], _ => rfl
noncomputable def b__law_is_name (q : ErrC) : SS :=
    (sSeq (sIf (sOr (sNot (tTest' tru (eArgs gIsa (aCons (eVar 0) (aCons (eC (.ty "str")) aNil))))) (sNot (tTest' truB (eChain gLe gLe (eC (.dat (.int 1))) (eArgs gLen (aCons (eVar 0) aNil)) (eC (.dat (.int 12))))))) (sRet (eC (.dat (.bool false)))) sNil)
    (sSeq (sAsg (eC (.dat (.str "abcdefghijklmnopqrstuvwxyz"))) (aName 1))
    (sSeq (sIf (sOr (tTest' truB (eBin gNotIn (eBin gIx (eVar 0) (eC (.dat (.int 0)))) (eVar 1))) (tTest' truB (eBin gNe (eLc (srcSeq (eVar 0)) (aName 2) (tTest' truB (eBin gNotIn (eVar 2) (eBin gAdd (eVar 1) (eC (.dat (.str "0123456789")))))) (eVar 2) [2]) (eArgs gLstD aNil)))) (sRet (eC (.dat (.bool false)))) sNil)
    (sSeq (sAsg (eArgs gLstD (aCons (eC (.dat (.str "cells"))) (aCons (eC (.dat (.str "deeds"))) (aCons (eC (.dat (.str "exits"))) (aCons (eC (.dat (.str "if"))) (aCons (eC (.dat (.str "else"))) (aCons (eC (.dat (.str "while"))) (aCons (eC (.dat (.str "catch"))) (aCons (eC (.dat (.str "exit"))) (aCons (eC (.dat (.str "and"))) (aCons (eC (.dat (.str "or"))) (aCons (eC (.dat (.str "not"))) (aCons (eC (.dat (.str "law"))) aNil))))))))))))) (aName 3))
    (sRet (eBin gNotIn (eVar 0) (eVar 3)))))))
noncomputable def f__law_is_name (q : ErrC) : FS := fnD 4 (b__law_is_name q)
theorem h__law_is_name (t : Tx P w K mg base q) (F : HasF K mg "_law_is_name" s__law_is_name)  : Has P w K mg base T "_law_is_name" ["name"] 1 (f__law_is_name q) :=
  Has.of F sc__law_is_name bd__law_is_name fun _ _ _ _ _ _ _ hr hgd => by exact
    (dss_cons (by exact (ds_if (by exact (DW.dt (by exact (dw_or (by exact (dt_not (by exact (dt_truth (by exact (de_callB (by exact (call_gIsa)) (by exact rfl) (by exact t.b_isinstance) (by exact bt_isinstance) (by exact (da_cons (by exact (de_var 0)) (by exact (da_cons (by exact (de_ty (by exact rfl) (by exact t.b_str) (by exact bt_str))) (by exact da_nil))))))))))) (by exact (dw_or1 (by exact (dt_not (by exact (dt_chain (by exact (op_gLe (by have hz := un_of hr; exact hz))) (by exact (op_gLe (by have hz := un_of hr; exact hz))) (by exact de_int) (by exact (de_callB (by exact (call_gLen)) (by exact rfl) (by exact t.b_len) (by exact bt_len) (by exact (da_cons (by exact (de_var 0)) (by exact da_nil))))) (by exact de_int))))))))))) (by exact (dss_one (by exact (ds_ret (by exact de_bl))))) (by exact dss_nil))) (by exact (dss_cons (by exact (ds_asg (by exact de_str) (by exact (dg_name (by exact sc__law_is_name.nd) (by exact rfl) (by first | exact Or.inl rfl | exact Or.inr rfl))))) (by exact (dss_cons (by exact (ds_if (by exact (DW.dt (by exact (dw_or (by exact (dt_cmp (by exact (op_gNotIn (by have hz := un_of hr; exact hz))) (by exact (de_ix ix_gIx (by exact (de_var 0)) (by exact de_int) (fun _ _ => rfl))) (by exact (de_var 1)) (by exact rfl))) (by exact (dw_or1 (by exact (dt_cmp (by exact (op_gNe (by have hz := un_of hr; exact hz))) (by exact (de_lc (own := [("sign", 2)]) (by exact rfl) (by exact sc__law_is_name.nd) (by exact (di_seq (by exact (de_var 0)))) (by exact (blkOk_by (N := ["name", "letters", "sign", "words"]) (sc := defScope s__law_is_name) (by decide +kernel))) (by exact (fun _ _ _ _ _ => (by exact (dg0_name (by exact sc__law_is_name.nd) (by exact rfl) (by first | exact Or.inl rfl | exact Or.inr rfl) (by decide))))) (by exact (fun _ _ _ _ _ => (by exact (dts_one (by exact rfl) (by exact (dt_cmp (by exact (op_gNotIn (by have hz := un_of hr; exact hz))) (by exact (de_var 2)) (by exact (de_op op_gAdd (by exact (de_var 1)) (by exact de_str))) (by exact rfl))))))) (by exact (fun _ _ _ _ _ => (by exact (de_var 2)))))) (by exact (de_lst (by exact da_nil))) (by exact rfl))))))))) (by exact (dss_one (by exact (ds_ret (by exact de_bl))))) (by exact dss_nil))) (by exact (dss_cons (by exact (ds_asg (by exact (de_lst (by exact (da_cons (by exact de_str) (by exact (da_cons (by exact de_str) (by exact (da_cons (by exact de_str) (by exact (da_cons (by exact de_str) (by exact (da_cons (by exact de_str) (by exact (da_cons (by exact de_str) (by exact (da_cons (by exact de_str) (by exact (da_cons (by exact de_str) (by exact (da_cons (by exact de_str) (by exact (da_cons (by exact de_str) (by exact (da_cons (by exact de_str) (by exact (da_cons (by exact de_str) (by exact da_nil))))))))))))))))))))))))))) (by exact (dg_name (by exact sc__law_is_name.nd) (by exact rfl) (by first | exact Or.inl rfl | exact Or.inr rfl))))) (by exact (dss_one (by exact (ds_ret (by exact (de_cmp (by exact (op_gNotIn (by have hz := un_of hr; exact hz))) (by exact (de_var 0)) (by exact (de_var 3)) (by exact rfl))))))))))))))
/-! ### _law_entry_name -/
abbrev s__law_entry_name : Stmt := top0 32
theorem sc__law_entry_name : FnScope ["part", "entry"] ["part", "entry"] (defScope s__law_entry_name) := ⟨rfl, rfl, rfl, by decide +kernel, rfl, by decide +kernel, by decide +kernel⟩
theorem bd__law_entry_name : BindsH "_law_entry_name" s__law_entry_name ["part", "entry"] := fun _ _ _ _ _ _ us hl => match us, hl with | [_, _], _ => rfl
noncomputable def b__law_entry_name (q : ErrC) : SS :=
    (sSeq (sIf (tTest' truB (eBin gEq (eVar 0) (eC (.dat (.int 2))))) (sRet (eIf (tTest' tru (eCallA 1 (relCall (f__law_is_name q)) (aCons (eVar 1) aNil))) (eVar 1) (eC (.dat .none)))) sNil)
    (sSeq (sIf (sOr (sNot (tTest' tru (eArgs gIsa (aCons (eVar 1) (aCons (eC (.ty "tuple")) aNil))))) (sOr (tTest' truB (eBin gNe (eArgs gLen (aCons (eVar 1) aNil)) (eC (.dat (.int 2))))) (sNot (tTest' tru (eCallA 1 (relCall (f__law_is_name q)) (aCons (eBin gIx (eVar 1) (eC (.dat (.int 0)))) aNil)))))) (sRet (eC (.dat .none))) sNil)
    (sRet (eIf (tTest' tru (eCallA 3 (relCall (f__law_is_number q)) (aCons (eBin gIx (eVar 1) (eC (.dat (.int 1)))) (aCons (eC (.dat (.int 1))) (aCons (eBin gIx (eArgs gLstD (aCons (eC (.dat (.int 8))) (aCons (eC (.dat (.int 99))) aNil))) (eVar 0)) aNil))))) (eBin gIx (eVar 1) (eC (.dat (.int 0)))) (eC (.dat .none))))))
noncomputable def f__law_entry_name (q : ErrC) : FS := fnD 2 (b__law_entry_name q)
theorem h__law_entry_name (t : Tx P w K mg base q) (F : HasF K mg "_law_entry_name" s__law_entry_name) (h__law_is_number : Has P w K mg base T "_law_is_number" ["thing", "low", "high"] 1 (f__law_is_number q)) (h__law_is_name : Has P w K mg base T "_law_is_name" ["name"] 1 (f__law_is_name q)) : Has P w K mg base T "_law_entry_name" ["part", "entry"] 2 (f__law_entry_name q) :=
  Has.of F sc__law_entry_name bd__law_entry_name fun _ _ _ _ _ _ _ hr hgd => by exact
    (dss_cons (by exact (ds_if (by exact (dt_cmp (by exact (op_gEq (by have hz := un_of hr; exact hz))) (by exact (de_var 0)) (by exact de_int) (by exact rfl))) (by exact (dss_one (by exact (ds_ret (by exact (de_if (by exact (dt_truth (by exact (de_call (ps := ["name"]) h__law_is_name.rel (by exact takes_fn) (by exact (hr.mono (by decide))) (by exact hgd) (by exact rfl) (by exact (da_cons (by exact (de_var 1)) (by exact da_nil))))))) (by exact (de_var 1)) (by exact de_non))))))) (by exact dss_nil))) (by exact (dss_cons (by exact (ds_if (by exact (DW.dt (by exact (dw_or (by exact (dt_not (by exact (dt_truth (by exact (de_callB (by exact (call_gIsa)) (by exact rfl) (by exact t.b_isinstance) (by exact bt_isinstance) (by exact (da_cons (by exact (de_var 1)) (by exact (da_cons (by exact (de_ty (by exact rfl) (by exact t.b_tuple) (by exact bt_tuple))) (by exact da_nil))))))))))) (by exact (dw_or (by exact (dt_cmp (by exact (op_gNe (by have hz := un_of hr; exact hz))) (by exact (de_callB (by exact (call_gLen)) (by exact rfl) (by exact t.b_len) (by exact bt_len) (by exact (da_cons (by exact (de_var 1)) (by exact da_nil))))) (by exact de_int) (by exact rfl))) (by exact (dw_or1 (by exact (dt_not (by exact (dt_truth (by exact (de_call (ps := ["name"]) h__law_is_name.rel (by exact takes_fn) (by exact (hr.mono (by decide))) (by exact hgd) (by exact rfl) (by exact (da_cons (by exact (de_ix ix_gIx (by exact (de_var 1)) (by exact de_int) (fun _ _ => rfl))) (by exact da_nil))))))))))))))))) (by exact (dss_one (by exact (ds_ret (by exact de_non))))) (by exact dss_nil))) (by exact (dss_one (by exact (ds_ret (by exact (de_if (by exact (dt_truth (by exact (de_call (ps := ["thing", "low", "high"]) h__law_is_number.rel (by exact takes_fn) (by exact (hr.mono (by decide))) (by exact hgd) (by exact rfl) (by exact (da_cons (by exact (de_ix ix_gIx (by exact (de_var 1)) (by exact de_int) (fun _ _ => rfl))) (by exact (da_cons (by exact de_int) (by exact (da_cons (by exact (de_ix ix_gIx (by exact (de_lst (by exact (da_cons (by exact de_int) (by exact (da_cons (by exact de_int) (by exact da_nil))))))) (by exact (de_var 0)) (fun _ _ => rfl))) (by exact da_nil))))))))))) (by exact (de_ix ix_gIx (by exact (de_var 1)) (by exact de_int) (fun _ _ => rfl))) (by exact de_non))))))))))
/-! ### _law_fault -/
abbrev s__law_fault : Stmt := top0 33
theorem sc__law_fault : FnScope ["thing", "part", "met", "many", "at", "name"] ["thing"] (defScope s__law_fault) := ⟨rfl, rfl, rfl, by decide +kernel, rfl, by decide +kernel, by decide +kernel⟩
theorem bd__law_fault : BindsH "_law_fault" s__law_fault ["thing"] := fun _ _ _ _ _ _ us hl => match us, hl with | [_], _ => rfl
noncomputable def b__law_fault (q : ErrC) : SS :=
    (sSeq (sIf (sOr (sNot (tTest' tru (eArgs gIsa (aCons (eVar 0) (aCons (eC (.ty "tuple")) aNil))))) (sOr (tTest' truB (eBin gNe (eArgs gLen (aCons (eVar 0) aNil)) (eC (.dat (.int 3))))) (tTest' truB (eBin gNe (eLc (srcSeq (eVar 0)) (aName 1) (sNot (tTest' tru (eArgs gIsa (aCons (eVar 1) (aCons (eC (.ty "tuple")) aNil))))) (eVar 1) [1]) (eArgs gLstD aNil))))) (sRet (eUn gNeg (eC (.dat (.int 1))))) sNil)
    (sSeq (sAsg (eArgs gLstD aNil) (aName 2))
    (sSeq (sFor (srcRange1 (aCons (eC (.dat (.int 3))) aNil)) (aName 1) (sSeq (sIf (sOr (tTest' truB (eBin gGt (eArgs gLen (aCons (eBin gIx (eVar 0) (eVar 1)) aNil)) (eBin gIx (eArgs gLstD (aCons (eC (.dat (.int 4))) (aCons (eC (.dat (.int 3))) (aCons (eC (.dat (.int 4))) aNil)))) (eVar 1)))) (sAnd (tTest' truB (eBin gEq (eVar 1) (eC (.dat (.int 2))))) (tTest' truB (eBin gEq (eBin gIx (eVar 0) (eVar 1)) (eArgs gTupD aNil))))) (sRet (eArgs gTupD (aCons (eVar 1) (aCons (eUn gNeg (eC (.dat (.int 1)))) aNil)))) sNil)
    (sSeq (sAsg (eC (.dat (.int 1))) (aName 3))
    (sSeq (sFor (srcRange1 (aCons (eArgs gLen (aCons (eBin gIx (eVar 0) (eVar 1)) aNil)) aNil)) (aName 4) (sSeq (sAsg (eCallA 2 (relCall (f__law_entry_name q)) (aCons (eVar 1) (aCons (eBin gIx (eBin gIx (eVar 0) (eVar 1)) (eVar 4)) aNil))) (aName 5))
    (sSeq (sIf (sOr (tTest' truB (eBin gIs (eVar 5) (eC (.dat .none)))) (tTest' truB (eBin gIn (eVar 5) (eVar 2)))) (sRet (eArgs gTupD (aCons (eVar 1) (aCons (eVar 4) aNil)))) sNil)
    (sSeq (sDrop (eMet isLst gAppend (eVar 2) (aCons (eVar 5) aNil)))
    (sAsg (eBin gMul (eVar 3) (eIf (tTest' truB (eBin gEq (eVar 1) (eC (.dat (.int 0))))) (eBin gIx (eBin gIx (eBin gIx (eVar 0) (eVar 1)) (eVar 4)) (eC (.dat (.int 1)))) (eC (.dat (.int 1))))) (aName 3))))))
    (sIf (tTest' truB (eBin gGt (eVar 3) (eC (.dat (.int 64))))) (sRet (eArgs gTupD (aCons (eVar 1) (aCons (eUn gNeg (eC (.dat (.int 1)))) aNil)))) sNil)))))
    (sRet (eC (.dat .none))))))
noncomputable def f__law_fault (q : ErrC) : FS := fnD 6 (b__law_fault q)
theorem h__law_fault (t : Tx P w K mg base q) (F : HasF K mg "_law_fault" s__law_fault) (h__law_entry_name : Has P w K mg base T "_law_entry_name" ["part", "entry"] 2 (f__law_entry_name q)) : Has P w K mg base T "_law_fault" ["thing"] 3 (f__law_fault q) :=
  Has.of F sc__law_fault bd__law_fault fun _ _ _ _ _ _ _ hr hgd => by exact
    (dss_cons (by exact (ds_if (by exact (DW.dt (by exact (dw_or (by exact (dt_not (by exact (dt_truth (by exact (de_callB (by exact (call_gIsa)) (by exact rfl) (by exact t.b_isinstance) (by exact bt_isinstance) (by exact (da_cons (by exact (de_var 0)) (by exact (da_cons (by exact (de_ty (by exact rfl) (by exact t.b_tuple) (by exact bt_tuple))) (by exact da_nil))))))))))) (by exact (dw_or (by exact (dt_cmp (by exact (op_gNe (by have hz := un_of hr; exact hz))) (by exact (de_callB (by exact (call_gLen)) (by exact rfl) (by exact t.b_len) (by exact bt_len) (by exact (da_cons (by exact (de_var 0)) (by exact da_nil))))) (by exact de_int) (by exact rfl))) (by exact (dw_or1 (by exact (dt_cmp (by exact (op_gNe (by have hz := un_of hr; exact hz))) (by exact (de_lc (own := [("part", 1)]) (by exact rfl) (by exact sc__law_fault.nd) (by exact (di_seq (by exact (de_var 0)))) (by exact (blkOk_by (N := ["thing", "part", "met", "many", "at", "name"]) (sc := defScope s__law_fault) (by decide +kernel))) (by exact (fun _ _ _ _ _ => (by exact (dg0_name (by exact sc__law_fault.nd) (by exact rfl) (by first | exact Or.inl rfl | exact Or.inr rfl) (by decide))))) (by exact (fun _ _ _ _ _ => (by exact (dts_one (by exact rfl) (by exact (dt_not (by exact (dt_truth (by exact (de_callB (by exact (call_gIsa)) (by exact rfl) (by exact t.b_isinstance) (by exact bt_isinstance) (by exact (da_cons (by exact (de_var 1)) (by exact (da_cons (by exact (de_ty (by exact rfl) (by exact t.b_tuple) (by exact bt_tuple))) (by exact da_nil))))))))))))))) (by exact (fun _ _ _ _ _ => (by exact (de_var 1)))))) (by exact (de_lst (by exact da_nil))) (by exact rfl))))))))))) (by exact (dss_one (by exact (ds_ret (by exact (de_un un_gNeg (by exact de_int))))))) (by exact dss_nil))) (by exact (dss_cons (by exact (ds_asg (by exact (de_lst (by exact da_nil))) (by exact (dg_name (by exact sc__law_fault.nd) (by exact rfl) (by first | exact Or.inl rfl | exact Or.inr rfl))))) (by exact (dss_cons (by exact (ds_for (by exact owns_fn) (by exact rfl) (by exact (di_range1 (by exact rfl) (by exact t.b_range) (by exact (da_cons (by exact de_int) (by exact da_nil))))) (by exact (dg_name (by exact sc__law_fault.nd) (by exact rfl) (by first | exact Or.inl rfl | exact Or.inr rfl))) (by exact (dss_cons (by exact (ds_if (by exact (DW.dt (by exact (dw_or (by exact (dt_cmp (by exact (op_gGt (by have hz := un_of hr; exact hz))) (by exact (de_callB (by exact (call_gLen)) (by exact rfl) (by exact t.b_len) (by exact bt_len) (by exact (da_cons (by exact (de_ix ix_gIx (by exact (de_var 0)) (by exact (de_var 1)) (fun _ _ => rfl))) (by exact da_nil))))) (by exact (de_ix ix_gIx (by exact (de_lst (by exact (da_cons (by exact de_int) (by exact (da_cons (by exact de_int) (by exact (da_cons (by exact de_int) (by exact da_nil))))))))) (by exact (de_var 1)) (fun _ _ => rfl))) (by exact rfl))) (by exact (dw_or1 (by exact (DW.dt (by exact (dw_and (by exact (dt_cmp (by exact (op_gEq (by have hz := un_of hr; exact hz))) (by exact (de_var 1)) (by exact de_int) (by exact rfl))) (by exact (dw_and1 (by exact (dt_cmp (by exact (op_gEq (by have hz := un_of hr; exact hz))) (by exact (de_ix ix_gIx (by exact (de_var 0)) (by exact (de_var 1)) (fun _ _ => rfl))) (by exact (de_tup (by exact da_nil))) (by exact rfl))))))))))))))) (by exact (dss_one (by exact (ds_ret (by exact (de_tup (by exact (da_cons (by exact (de_var 1)) (by exact (da_cons (by exact (de_un un_gNeg (by exact de_int))) (by exact da_nil))))))))))) (by exact dss_nil))) (by exact (dss_cons (by exact (ds_asg (by exact de_int) (by exact (dg_name (by exact sc__law_fault.nd) (by exact rfl) (by first | exact Or.inl rfl | exact Or.inr rfl))))) (by exact (dss_cons (by exact (ds_for (by exact owns_fn) (by exact rfl) (by exact (di_range1 (by exact rfl) (by exact t.b_range) (by exact (da_cons (by exact (de_callB (by exact (call_gLen)) (by exact rfl) (by exact t.b_len) (by exact bt_len) (by exact (da_cons (by exact (de_ix ix_gIx (by exact (de_var 0)) (by exact (de_var 1)) (fun _ _ => rfl))) (by exact da_nil))))) (by exact da_nil))))) (by exact (dg_name (by exact sc__law_fault.nd) (by exact rfl) (by first | exact Or.inl rfl | exact Or.inr rfl))) (by exact (dss_cons (by exact (ds_asg (by exact (de_call (ps := ["part", "entry"]) h__law_entry_name.rel (by exact takes_fn) (by exact (hr.mono (by decide))) (by exact hgd) (by exact rfl) (by exact (da_cons (by exact (de_var 1)) (by exact (da_cons (by exact (de_ix ix_gIx (by exact (de_ix ix_gIx (by exact (de_var 0)) (by exact (de_var 1)) (fun _ _ => rfl))) (by exact (de_var 4)) (fun _ _ => rfl))) (by exact da_nil))))))) (by exact (dg_name (by exact sc__law_fault.nd) (by exact rfl) (by first | exact Or.inl rfl | exact Or.inr rfl))))) (by exact (dss_cons (by exact (ds_if (by exact (DW.dt (by exact (dw_or (by exact (dt_cmp (by exact (op_gIs)) (by exact (de_var 5)) (by exact de_non) (by exact rfl))) (by exact (dw_or1 (by exact (dt_cmp (by exact (op_gIn (by have hz := un_of hr; exact hz))) (by exact (de_var 5)) (by exact (de_var 2)) (by exact rfl))))))))) (by exact (dss_one (by exact (ds_ret (by exact (de_tup (by exact (da_cons (by exact (de_var 1)) (by exact (da_cons (by exact (de_var 4)) (by exact da_nil))))))))))) (by exact dss_nil))) (by exact (dss_cons (by exact (ds_expr (by exact (de_met lst_ty PySem.F.plainAttrs_list PySem.F.slot_list_append PySem.F.type_list_append mt_gAppend (by exact (de_var 2)) (by exact (da_cons (by exact (de_var 5)) (by exact da_nil))))))) (by exact (dss_one (by exact (ds_asg (by exact (de_op op_gMul (by exact (de_var 3)) (by exact (de_if (by exact (dt_cmp (by exact (op_gEq (by have hz := un_of hr; exact hz))) (by exact (de_var 1)) (by exact de_int) (by exact rfl))) (by exact (de_ix ix_gIx (by exact (de_ix ix_gIx (by exact (de_ix ix_gIx (by exact (de_var 0)) (by exact (de_var 1)) (fun _ _ => rfl))) (by exact (de_var 4)) (fun _ _ => rfl))) (by exact de_int) (fun _ _ => rfl))) (by exact de_int))))) (by exact (dg_name (by exact sc__law_fault.nd) (by exact rfl) (by first | exact Or.inl rfl | exact Or.inr rfl))))))))))))))) (by exact (dss_one (by exact (ds_if (by exact (dt_cmp (by exact (op_gGt (by have hz := un_of hr; exact hz))) (by exact (de_var 3)) (by exact de_int) (by exact rfl))) (by exact (dss_one (by exact (ds_ret (by exact (de_tup (by exact (da_cons (by exact (de_var 1)) (by exact (da_cons (by exact (de_un un_gNeg (by exact de_int))) (by exact da_nil))))))))))) (by exact dss_nil))))))))))))) (by exact (dss_one (by exact (ds_ret (by exact de_non))))))))))
/-! ### is_triple_of_tuples -/
abbrev s_is_triple_of_tuples : Stmt := top0 16
theorem sc_is_triple_of_tuples : FnScope ["thing", "part"] ["thing"] (defScope s_is_triple_of_tuples) := ⟨rfl, rfl, rfl, by decide +kernel, rfl, by decide +kernel, by decide +kernel⟩
theorem bd_is_triple_of_tuples : BindsH "is_triple_of_tuples" s_is_triple_of_tuples ["thing"] := fun _ _ _ _ _ _ us hl => match us, hl with | [_], _ => rfl
noncomputable def b_is_triple_of_tuples (q : ErrC) : SS :=
    (sRet (eAnd tru (eArgs gIsa (aCons (eVar 0) (aCons (eC (.ty "tuple")) aNil))) (eAnd tru (eBin gEq (eArgs gLen (aCons (eVar 0) aNil)) (eC (.dat (.int 3)))) (eAllG (srcSeq (eVar 0)) (aName 1) (eArgs gIsa (aCons (eVar 1) (aCons (eC (.ty "tuple")) aNil))) [1]))))
noncomputable def f_is_triple_of_tuples (q : ErrC) : FS := fnD 2 (b_is_triple_of_tuples q)
theorem h_is_triple_of_tuples (t : Tx P w K mg base q) (F : HasC K mg T (none) "is_triple_of_tuples" s_is_triple_of_tuples) (tb : TBs base mg T)  : Has P w K mg base T "is_triple_of_tuples" ["thing"] 10 (f_is_triple_of_tuples q) :=
  Has.ofC F tb sc_is_triple_of_tuples bd_is_triple_of_tuples fun _ _ _ _ _ _ _ _ htb hcT hr hgd => by exact
    (dss_one (by exact (ds_ret (by exact (de_and (by exact (de_callB (by exact (call_gIsa)) (by exact rfl) (by exact t.b_isinstance) (by exact bt_isinstance) (by exact (da_cons (by exact (de_var 0)) (by exact (da_cons (by exact (de_ty (by exact rfl) (by exact t.b_tuple) (by exact bt_tuple))) (by exact da_nil))))))) (by exact (de_and (by exact (de_cmp (by exact (op_gEq (by have hz := un_of hr; exact hz))) (by exact (de_callB (by exact (call_gLen)) (by exact rfl) (by exact t.b_len) (by exact bt_len) (by exact (da_cons (by exact (de_var 0)) (by exact da_nil))))) (by exact de_int) (by exact rfl))) (by exact (de_one (by exact (de_allG (own := [("part", 1)]) (k := 0) (by exact rfl) (by exact sc_is_triple_of_tuples.nd) (by exact (hr.mono (by decide))) (by exact hgd) (by exact (di_seq (by exact (de_var 0)))) (by exact ⟨blkOk_by (N := ["thing", "part"]) (sc := defScope s_is_triple_of_tuples) (by decide +kernel), rfl, by decide +kernel, rfl⟩) (by exact htb) (by exact rfl) (by exact hcT) (by exact (fun _ _ _ _ _ _ _ => (by exact (dg0_name (by exact sc_is_triple_of_tuples.nd) (by exact rfl) (by first | exact Or.inl rfl | exact Or.inr rfl) (by decide))))) (by exact (fun _ _ _ _ _ _ _ hr hgd => (by exact (de_callB (by exact (call_gIsa)) (by exact rfl) (by exact t.b_isinstance) (by exact bt_isinstance) (by exact (da_cons (by exact (de_var 1)) (by exact (da_cons (by exact (de_ty (by exact rfl) (by exact t.b_tuple) (by exact bt_tuple))) (by exact da_nil))))))))) (by exact rfl) (by exact t.b_all))))))))))))
/-! ### is_name -/
abbrev s_is_name : Stmt := top0 14
theorem sc_is_name : FnScope ["thing", "sign"] ["thing"] (defScope s_is_name) := ⟨rfl, rfl, rfl, by decide +kernel, rfl, by decide +kernel, by decide +kernel⟩
theorem bd_is_name : BindsH "is_name" s_is_name ["thing"] := fun _ _ _ _ _ _ us hl => match us, hl with | [_], _ => rfl
noncomputable def b_is_name (q : ErrC) : SS :=
    (sSeq (sIf (sOr (sNot (tTest' tru (eArgs gIsa (aCons (eVar 0) (aCons (eC (.ty "str")) aNil))))) (sOr (sNot (tTest' truB (eChain gLe gLe (eC (.dat (.int 1))) (eArgs gLen (aCons (eVar 0) aNil)) (eC (.dat (.int 12)))))) (tTest' truB (eBin gIn (eVar 0) (eC (.dat (.tuple [(.str "cells"), (.str "deeds"), (.str "exits"), (.str "if"), (.str "else"), (.str "while"), (.str "catch"), (.str "exit"), (.str "and"), (.str "or"), (.str "not"), (.str "law")]))))))) (sRet (eC (.dat (.bool false)))) sNil)
    (sRet (eAnd tru (eBin gIn (eBin gIx (eVar 0) (eC (.dat (.int 0)))) (eC (.dat (.str "abcdefghijklmnopqrstuvwxyz")))) (eAllG (srcSeq (eVar 0)) (aName 1) (eBin gIn (eVar 1) (eC (.dat (.str "abcdefghijklmnopqrstuvwxyz0123456789")))) [1]))))
noncomputable def f_is_name (q : ErrC) : FS := fnD 2 (b_is_name q)
theorem h_is_name (t : Tx P w K mg base q) (F : HasC K mg T (none) "is_name" s_is_name) (tb : TBs base mg T)  : Has P w K mg base T "is_name" ["thing"] 10 (f_is_name q) :=
  Has.ofC F tb sc_is_name bd_is_name fun _ _ _ _ _ _ _ _ htb hcT hr hgd => by exact
    (dss_cons (by exact (ds_if (by exact (DW.dt (by exact (dw_or (by exact (dt_not (by exact (dt_truth (by exact (de_callB (by exact (call_gIsa)) (by exact rfl) (by exact t.b_isinstance) (by exact bt_isinstance) (by exact (da_cons (by exact (de_var 0)) (by exact (da_cons (by exact (de_ty (by exact rfl) (by exact t.b_str) (by exact bt_str))) (by exact da_nil))))))))))) (by exact (dw_or (by exact (dt_not (by exact (dt_chain (by exact (op_gLe (by have hz := un_of hr; exact hz))) (by exact (op_gLe (by have hz := un_of hr; exact hz))) (by exact de_int) (by exact (de_callB (by exact (call_gLen)) (by exact rfl) (by exact t.b_len) (by exact bt_len) (by exact (da_cons (by exact (de_var 0)) (by exact da_nil))))) (by exact (de_kI (by exact t.k_LONGEST_NAME) (by exact rfl))))))) (by exact (dw_or1 (by exact (dt_cmp (by exact (op_gIn (by have hz := un_of hr; exact hz))) (by exact (de_var 0)) (by exact (de_kT (by exact t.k_RESERVED) (by exact rfl))) (by exact rfl))))))))))) (by exact (dss_one (by exact (ds_ret (by exact de_bl))))) (by exact dss_nil))) (by exact (dss_one (by exact (ds_ret (by exact (de_and (by exact (de_cmp (by exact (op_gIn (by have hz := un_of hr; exact hz))) (by exact (de_ix ix_gIx (by exact (de_var 0)) (by exact de_int) (fun _ _ => rfl))) (by exact (de_kS (by exact t.k_LETTERS) (by exact rfl))) (by exact rfl))) (by exact (de_one (by exact (de_allG (own := [("sign", 1)]) (k := 0) (by exact rfl) (by exact sc_is_name.nd) (by exact (hr.mono (by decide))) (by exact hgd) (by exact (di_seq (by exact (de_var 0)))) (by exact ⟨blkOk_by (N := ["thing", "sign"]) (sc := defScope s_is_name) (by decide +kernel), rfl, by decide +kernel, rfl⟩) (by exact htb) (by exact rfl) (by exact hcT) (by exact (fun _ _ _ _ _ _ _ => (by exact (dg0_name (by exact sc_is_name.nd) (by exact rfl) (by first | exact Or.inl rfl | exact Or.inr rfl) (by decide))))) (by exact (fun _ _ _ _ _ _ _ hr hgd => (by exact (de_cmp (by exact (op_gIn (by have hz := un_of hr; exact hz))) (by exact (de_var 1)) (by exact (de_kS (by exact t.k_LETTERS_AND_FIGURES) (by exact rfl))) (by exact rfl))))) (by exact rfl) (by exact t.b_all))))))))))))
/-! ### is_number -/
abbrev s_is_number : Stmt := top0 13
theorem sc_is_number : FnScope ["thing"] ["thing"] (defScope s_is_number) := ⟨rfl, rfl, rfl, by decide +kernel, rfl, by decide +kernel, by decide +kernel⟩
theorem bd_is_number : BindsH "is_number" s_is_number ["thing"] := fun _ _ _ _ _ _ us hl => match us, hl with | [_], _ => rfl
noncomputable def b_is_number (q : ErrC) : SS :=
    (sRet (eAnd tru (eArgs gIsa (aCons (eVar 0) (aCons (eC (.ty "int")) aNil))) (eUn gNotT (eArgs gIsa (aCons (eVar 0) (aCons (eC (.ty "bool")) aNil))))))
noncomputable def f_is_number (q : ErrC) : FS := fnD 1 (b_is_number q)
theorem h_is_number (t : Tx P w K mg base q) (F : HasF K mg "is_number" s_is_number)  : Has P w K mg base T "is_number" ["thing"] 1 (f_is_number q) :=
  Has.of F sc_is_number bd_is_number fun _ _ _ _ _ _ _ hr hgd => by exact
    (dss_one (by exact (ds_ret (by exact (de_and (by exact (de_callB (by exact (call_gIsa)) (by exact rfl) (by exact t.b_isinstance) (by exact bt_isinstance) (by exact (da_cons (by exact (de_var 0)) (by exact (da_cons (by exact (de_ty (by exact rfl) (by exact t.b_int) (by exact bt_int))) (by exact da_nil))))))) (by exact (de_one (by exact (de_not (by exact (de_callB (by exact (call_gIsa)) (by exact rfl) (by exact t.b_isinstance) (by exact bt_isinstance) (by exact (da_cons (by exact (de_var 0)) (by exact (da_cons (by exact (de_ty (by exact rfl) (by exact t.b_bool) (by exact bt_bool))) (by exact da_nil))))))))))))))))
/-! ### entry_name -/
abbrev s_entry_name : Stmt := top0 17
theorem sc_entry_name : FnScope ["part", "entry", "name", "number"] ["part", "entry"] (defScope s_entry_name) := ⟨rfl, rfl, rfl, by decide +kernel, rfl, by decide +kernel, by decide +kernel⟩
theorem bd_entry_name : BindsH "entry_name" s_entry_name ["part", "entry"] := fun _ _ _ _ _ _ us hl => match us, hl with | [_, _], _ => rfl
noncomputable def b_entry_name (q : ErrC) : SS :=
    (sSeq (sIf (tTest' truB (eBin gEq (eVar 0) (eC (.dat (.int 2))))) (sRet (eIf (tTest' tru (eCallA 1 (relCall (f_is_name q)) (aCons (eVar 1) aNil))) (eVar 1) (eC (.dat .none)))) sNil)
    (sSeq (sIf (sOr (sNot (tTest' tru (eArgs gIsa (aCons (eVar 1) (aCons (eC (.ty "tuple")) aNil))))) (tTest' truB (eBin gNe (eArgs gLen (aCons (eVar 1) aNil)) (eC (.dat (.int 2)))))) (sRet (eC (.dat .none))) sNil)
    (sSeq (sAsg (eVar 1) (aTup [(aName 2), (aName 3)]))
    (sSeq (sIf (sOr (sNot (tTest' tru (eCallA 1 (relCall (f_is_name q)) (aCons (eVar 2) aNil)))) (sOr (sNot (tTest' tru (eCallA 1 (relCall (f_is_number q)) (aCons (eVar 3) aNil)))) (sNot (tTest' truB (eChain gLe gLe (eC (.dat (.int 1))) (eVar 3) (eBin gIx (eC (.dat (.tuple [(.int 8), (.int 99)]))) (eVar 0))))))) (sRet (eC (.dat .none))) sNil)
    (sRet (eVar 2))))))
noncomputable def f_entry_name (q : ErrC) : FS := fnD 4 (b_entry_name q)
theorem h_entry_name (t : Tx P w K mg base q) (F : HasF K mg "entry_name" s_entry_name) (h_is_number : Has P w K mg base T "is_number" ["thing"] 1 (f_is_number q)) (h_is_name : Has P w K mg base T "is_name" ["thing"] 10 (f_is_name q)) : Has P w K mg base T "entry_name" ["part", "entry"] 11 (f_entry_name q) :=
  Has.of F sc_entry_name bd_entry_name fun _ _ _ _ _ _ _ hr hgd => by exact
    (dss_cons (by exact (ds_if (by exact (dt_cmp (by exact (op_gEq (by have hz := un_of hr; exact hz))) (by exact (de_var 0)) (by exact (de_kI (by exact t.k_EXITS) (by exact rfl))) (by exact rfl))) (by exact (dss_one (by exact (ds_ret (by exact (de_if (by exact (dt_truth (by exact (de_call (ps := ["thing"]) h_is_name.rel (by exact takes_fn) (by exact (hr.mono (by decide))) (by exact hgd) (by exact rfl) (by exact (da_cons (by exact (de_var 1)) (by exact da_nil))))))) (by exact (de_var 1)) (by exact de_non))))))) (by exact dss_nil))) (by exact (dss_cons (by exact (ds_if (by exact (DW.dt (by exact (dw_or (by exact (dt_not (by exact (dt_truth (by exact (de_callB (by exact (call_gIsa)) (by exact rfl) (by exact t.b_isinstance) (by exact bt_isinstance) (by exact (da_cons (by exact (de_var 1)) (by exact (da_cons (by exact (de_ty (by exact rfl) (by exact t.b_tuple) (by exact bt_tuple))) (by exact da_nil))))))))))) (by exact (dw_or1 (by exact (dt_cmp (by exact (op_gNe (by have hz := un_of hr; exact hz))) (by exact (de_callB (by exact (call_gLen)) (by exact rfl) (by exact t.b_len) (by exact bt_len) (by exact (da_cons (by exact (de_var 1)) (by exact da_nil))))) (by exact de_int) (by exact rfl))))))))) (by exact (dss_one (by exact (ds_ret (by exact de_non))))) (by exact dss_nil))) (by exact (dss_cons (by exact (ds_asg (by exact (de_var 1)) (by exact (dg_tup (by exact rfl) (by exact (dgs_cons (by exact (dg_name (by exact sc_entry_name.nd) (by exact rfl) (by first | exact Or.inl rfl | exact Or.inr rfl))) (by exact (dgs_cons (by exact (dg_name (by exact sc_entry_name.nd) (by exact rfl) (by first | exact Or.inl rfl | exact Or.inr rfl))) (by exact dgs_nil))))))))) (by exact (dss_cons (by exact (ds_if (by exact (DW.dt (by exact (dw_or (by exact (dt_not (by exact (dt_truth (by exact (de_call (ps := ["thing"]) h_is_name.rel (by exact takes_fn) (by exact (hr.mono (by decide))) (by exact hgd) (by exact rfl) (by exact (da_cons (by exact (de_var 2)) (by exact da_nil))))))))) (by exact (dw_or (by exact (dt_not (by exact (dt_truth (by exact (de_call (ps := ["thing"]) h_is_number.rel (by exact takes_fn) (by exact (hr.mono (by decide))) (by exact hgd) (by exact rfl) (by exact (da_cons (by exact (de_var 3)) (by exact da_nil))))))))) (by exact (dw_or1 (by exact (dt_not (by exact (dt_chain (by exact (op_gLe (by have hz := un_of hr; exact hz))) (by exact (op_gLe (by have hz := un_of hr; exact hz))) (by exact de_int) (by exact (de_var 3)) (by exact (de_ix ix_gIx (by exact (de_kT (by exact t.k_GREATEST_NUMBERS) (by exact rfl))) (by exact (de_var 0)) (fun _ _ => rfl))))))))))))))) (by exact (dss_one (by exact (ds_ret (by exact de_non))))) (by exact dss_nil))) (by exact (dss_one (by exact (ds_ret (by exact (de_var 2)))))))))))))
/-! ### states_of_cells -/
abbrev s_states_of_cells : Stmt := top0 18
theorem sc_states_of_cells : FnScope ["cells", "many", "_", "size"] ["cells"] (defScope s_states_of_cells) := ⟨rfl, rfl, rfl, by decide +kernel, rfl, by decide +kernel, by decide +kernel⟩
theorem bd_states_of_cells : BindsH "states_of_cells" s_states_of_cells ["cells"] := fun _ _ _ _ _ _ us hl => match us, hl with | [_], _ => rfl
noncomputable def b_states_of_cells (q : ErrC) : SS :=
    (sSeq (sAsg (eC (.dat (.int 1))) (aName 1))
    (sSeq (sFor (srcSeq (eVar 0)) (aTup [(aName 2), (aName 3)]) (sAsg (eBin gMul (eVar 1) (eVar 3)) (aName 1)))
    (sRet (eVar 1))))
noncomputable def f_states_of_cells (q : ErrC) : FS := fnD 4 (b_states_of_cells q)
theorem h_states_of_cells (t : Tx P w K mg base q) (F : HasF K mg "states_of_cells" s_states_of_cells)  : Has P w K mg base T "states_of_cells" ["cells"] 1 (f_states_of_cells q) :=
  Has.of F sc_states_of_cells bd_states_of_cells fun _ _ _ _ _ _ _ hr hgd => by exact
    (dss_cons (by exact (ds_asg (by exact de_int) (by exact (dg_name (by exact sc_states_of_cells.nd) (by exact rfl) (by first | exact Or.inl rfl | exact Or.inr rfl))))) (by exact (dss_cons (by exact (ds_for (by exact owns_fn) (by exact rfl) (by exact (di_seq (by exact (de_var 0)))) (by exact (dg_tup (by exact rfl) (by exact (dgs_cons (by exact (dg_name (by exact sc_states_of_cells.nd) (by exact rfl) (by first | exact Or.inl rfl | exact Or.inr rfl))) (by exact (dgs_cons (by exact (dg_name (by exact sc_states_of_cells.nd) (by exact rfl) (by first | exact Or.inl rfl | exact Or.inr rfl))) (by exact dgs_nil))))))) (by exact (dss_one (by exact (ds_asg (by exact (de_op op_gMul (by exact (de_var 1)) (by exact (de_var 3)))) (by exact (dg_name (by exact sc_states_of_cells.nd) (by exact rfl) (by first | exact Or.inl rfl | exact Or.inr rfl))))))))) (by exact (dss_one (by exact (ds_ret (by exact (de_var 1)))))))))
/-! ### made_ground -/
abbrev s_made_ground : Stmt := top0 15
theorem sc_made_ground : FnScope ["thing", "ahead", "part", "entries", "index", "entry", "name"] ["thing"] (defScope s_made_ground) := ⟨rfl, rfl, rfl, by decide +kernel, rfl, by decide +kernel, by decide +kernel⟩
theorem bd_made_ground : BindsH "made_ground" s_made_ground ["thing"] := fun _ _ _ _ _ _ us hl => match us, hl with | [_], _ => rfl
noncomputable def b_made_ground (q : ErrC) : SS :=
    (sSeq (sIf (sNot (tTest' tru (eCallA 1 (relCall (f_is_triple_of_tuples q)) (aCons (eVar 0) aNil)))) (sRaise q.BadGround (eUn gNeg (eC (.dat (.int 1))))) sNil)
    (sSeq (sAsg (eArgs gLstD aNil) (aName 1))
    (sSeq (sFor (srcEnum (aCons (eVar 0) aNil)) (aTup [(aName 2), (aName 3)]) (sSeq (sIf (sOr (tTest' truB (eBin gGt (eArgs gLen (aCons (eVar 3) aNil)) (eBin gIx (eC (.dat (.tuple [(.int 4), (.int 3), (.int 4)]))) (eVar 2)))) (sAnd (tTest' truB (eBin gEq (eVar 2) (eC (.dat (.int 2))))) (sNot (tTest' tru (eVar 3))))) (sRaise q.BadGround (eArgs gTupD (aCons (eVar 2) (aCons (eUn gNeg (eC (.dat (.int 1)))) aNil)))) sNil)
    (sSeq (sFor (srcEnum (aCons (eVar 3) aNil)) (aTup [(aName 4), (aName 5)]) (sSeq (sAsg (eCallA 2 (relCall (f_entry_name q)) (aCons (eVar 2) (aCons (eVar 5) aNil))) (aName 6))
    (sSeq (sIf (sOr (tTest' truB (eBin gIs (eVar 6) (eC (.dat .none)))) (tTest' truB (eBin gIn (eVar 6) (eVar 1)))) (sRaise q.BadGround (eArgs gTupD (aCons (eVar 2) (aCons (eVar 4) aNil)))) sNil)
    (sDrop (eMet isLst gAppend (eVar 1) (aCons (eVar 6) aNil))))))
    (sIf (sAnd (tTest' truB (eBin gEq (eVar 2) (eC (.dat (.int 0))))) (tTest' truB (eBin gGt (eCallA 1 (relCall (f_states_of_cells q)) (aCons (eVar 3) aNil)) (eC (.dat (.int 64)))))) (sRaise q.BadGround (eArgs gTupD (aCons (eC (.dat (.int 0))) (aCons (eUn gNeg (eC (.dat (.int 1)))) aNil)))) sNil))))
    (sRet (eVar 0)))))
noncomputable def f_made_ground (q : ErrC) : FS := fnD 7 (b_made_ground q)
theorem h_made_ground (t : Tx P w K mg base q) (F : HasF K mg "made_ground" s_made_ground) (h_states_of_cells : Has P w K mg base T "states_of_cells" ["cells"] 1 (f_states_of_cells q)) (h_entry_name : Has P w K mg base T "entry_name" ["part", "entry"] 11 (f_entry_name q)) (h_is_triple_of_tuples : Has P w K mg base T "is_triple_of_tuples" ["thing"] 10 (f_is_triple_of_tuples q)) : Has P w K mg base T "made_ground" ["thing"] 12 (f_made_ground q) :=
  Has.of F sc_made_ground bd_made_ground fun _ _ _ _ _ _ _ hr hgd => by exact
    (dss_cons (by exact (ds_if (by exact (dt_not (by exact (dt_truth (by exact (de_call (ps := ["thing"]) h_is_triple_of_tuples.rel (by exact takes_fn) (by exact (hr.mono (by decide))) (by exact hgd) (by exact rfl) (by exact (da_cons (by exact (de_var 0)) (by exact da_nil))))))))) (by exact (dss_one (by exact (ds_raise' (by exact t.c_BadGround) (by exact rfl) (by exact takes_fn) (by exact (hr.mono (by decide))) (by exact rfl) (by exact (de_un un_gNeg (by exact de_int))))))) (by exact dss_nil))) (by exact (dss_cons (by exact (ds_asg (by exact (de_lst (by exact da_nil))) (by exact (dg_name (by exact sc_made_ground.nd) (by exact rfl) (by first | exact Or.inl rfl | exact Or.inr rfl))))) (by exact (dss_cons (by exact (ds_for (by exact owns_fn) (by exact rfl) (by exact (di_enum (by exact rfl) (by exact t.b_enumerate) (by exact (da_cons (by exact (de_var 0)) (by exact da_nil))))) (by exact (dg_tup (by exact rfl) (by exact (dgs_cons (by exact (dg_name (by exact sc_made_ground.nd) (by exact rfl) (by first | exact Or.inl rfl | exact Or.inr rfl))) (by exact (dgs_cons (by exact (dg_name (by exact sc_made_ground.nd) (by exact rfl) (by first | exact Or.inl rfl | exact Or.inr rfl))) (by exact dgs_nil))))))) (by exact (dss_cons (by exact (ds_if (by exact (DW.dt (by exact (dw_or (by exact (dt_cmp (by exact (op_gGt (by have hz := un_of hr; exact hz))) (by exact (de_callB (by exact (call_gLen)) (by exact rfl) (by exact t.b_len) (by exact bt_len) (by exact (da_cons (by exact (de_var 3)) (by exact da_nil))))) (by exact (de_ix ix_gIx (by exact (de_kT (by exact t.k_MOST_ENTRIES) (by exact rfl))) (by exact (de_var 2)) (fun _ _ => rfl))) (by exact rfl))) (by exact (dw_or1 (by exact (DW.dt (by exact (dw_and (by exact (dt_cmp (by exact (op_gEq (by have hz := un_of hr; exact hz))) (by exact (de_var 2)) (by exact (de_kI (by exact t.k_EXITS) (by exact rfl))) (by exact rfl))) (by exact (dw_and1 (by exact (dt_not (by exact (dt_truth (by exact (de_var 3)))))))))))))))))) (by exact (dss_one (by exact (ds_raise' (by exact t.c_BadGround) (by exact rfl) (by exact takes_fn) (by exact (hr.mono (by decide))) (by exact rfl) (by exact (de_tup (by exact (da_cons (by exact (de_var 2)) (by exact (da_cons (by exact (de_un un_gNeg (by exact de_int))) (by exact da_nil))))))))))) (by exact dss_nil))) (by exact (dss_cons (by exact (ds_for (by exact owns_fn) (by exact rfl) (by exact (di_enum (by exact rfl) (by exact t.b_enumerate) (by exact (da_cons (by exact (de_var 3)) (by exact da_nil))))) (by exact (dg_tup (by exact rfl) (by exact (dgs_cons (by exact (dg_name (by exact sc_made_ground.nd) (by exact rfl) (by first | exact Or.inl rfl | exact Or.inr rfl))) (by exact (dgs_cons (by exact (dg_name (by exact sc_made_ground.nd) (by exact rfl) (by first | exact Or.inl rfl | exact Or.inr rfl))) (by exact dgs_nil))))))) (by exact (dss_cons (by exact (ds_asg (by exact (de_call (ps := ["part", "entry"]) h_entry_name.rel (by exact takes_fn) (by exact (hr.mono (by decide))) (by exact hgd) (by exact rfl) (by exact (da_cons (by exact (de_var 2)) (by exact (da_cons (by exact (de_var 5)) (by exact da_nil))))))) (by exact (dg_name (by exact sc_made_ground.nd) (by exact rfl) (by first | exact Or.inl rfl | exact Or.inr rfl))))) (by exact (dss_cons (by exact (ds_if (by exact (DW.dt (by exact (dw_or (by exact (dt_cmp (by exact (op_gIs)) (by exact (de_var 6)) (by exact de_non) (by exact rfl))) (by exact (dw_or1 (by exact (dt_cmp (by exact (op_gIn (by have hz := un_of hr; exact hz))) (by exact (de_var 6)) (by exact (de_var 1)) (by exact rfl))))))))) (by exact (dss_one (by exact (ds_raise' (by exact t.c_BadGround) (by exact rfl) (by exact takes_fn) (by exact (hr.mono (by decide))) (by exact rfl) (by exact (de_tup (by exact (da_cons (by exact (de_var 2)) (by exact (da_cons (by exact (de_var 4)) (by exact da_nil))))))))))) (by exact dss_nil))) (by exact (dss_one (by exact (ds_expr (by exact (de_met lst_ty PySem.F.plainAttrs_list PySem.F.slot_list_append PySem.F.type_list_append mt_gAppend (by exact (de_var 1)) (by exact (da_cons (by exact (de_var 6)) (by exact da_nil))))))))))))))) (by exact (dss_one (by exact (ds_if (by exact (DW.dt (by exact (dw_and (by exact (dt_cmp (by exact (op_gEq (by have hz := un_of hr; exact hz))) (by exact (de_var 2)) (by exact (de_kI (by exact t.k_CELLS) (by exact rfl))) (by exact rfl))) (by exact (dw_and1 (by exact (dt_cmp (by exact (op_gGt (by have hz := un_of hr; exact hz))) (by exact (de_call (ps := ["cells"]) h_states_of_cells.rel (by exact takes_fn) (by exact (hr.mono (by decide))) (by exact hgd) (by exact rfl) (by exact (da_cons (by exact (de_var 3)) (by exact da_nil))))) (by exact (de_kI (by exact t.k_MOST_STATES) (by exact rfl))) (by exact rfl))))))))) (by exact (dss_one (by exact (ds_raise' (by exact t.c_BadGround) (by exact rfl) (by exact takes_fn) (by exact (hr.mono (by decide))) (by exact rfl) (by exact (de_tup (by exact (da_cons (by exact (de_kI (by exact t.k_CELLS) (by exact rfl))) (by exact (da_cons (by exact (de_un un_gNeg (by exact de_int))) (by exact da_nil))))))))))) (by exact dss_nil))))))))))) (by exact (dss_one (by exact (ds_ret (by exact (de_var 0)))))))))))
/-! ### _law_heard -/
abbrev s__law_heard : Stmt := top0 29
theorem sc__law_heard : FnScope ["thing", "error"] ["thing"] (defScope s__law_heard) := ⟨rfl, rfl, rfl, by decide +kernel, rfl, by decide +kernel, by decide +kernel⟩
theorem bd__law_heard : BindsH "_law_heard" s__law_heard ["thing"] := fun _ _ _ _ _ _ us hl => match us, hl with | [_], _ => rfl
noncomputable def b__law_heard (q : ErrC) : SS :=
    (sTry (sRet (eArgs gTupD (aCons (eC (.dat (.str "told"))) (aCons (eCallA 1 (relCall (f_made_ground q)) (aCons (eVar 0) aNil)) aNil)))) (hOne (pick1 [(q.BadGround, true)]) (sSuite 1 (sRet (eArgs gTupD (aCons (eC (.dat (.str "refused"))) (aCons (eWhat 1 fun c => decide (c ∈ [q.BadGround])) (aCons (eAnd tru (eIsE 1 (pick1 [(q.BadGround, true)])) (eIsE 1 (pick1 [(q.BadGround, true)]))) aNil))))))))
noncomputable def f__law_heard (q : ErrC) : FS := fnD 2 (b__law_heard q)
theorem h__law_heard (t : Tx P w K mg base q) (F : HasF K mg "_law_heard" s__law_heard) (h_made_ground : Has P w K mg base T "made_ground" ["thing"] 12 (f_made_ground q)) : Has P w K mg base T "_law_heard" ["thing"] 13 (f__law_heard q) :=
  Has.of F sc__law_heard bd__law_heard fun _ _ _ _ _ _ _ hr hgd => by exact
    (dss_one (by exact (ds_try_as (i := 1) (by exact rfl) (by exact rfl) (by exact sc__law_heard.nd) (by exact rfl) (by exact rfl) (by exact ⟨rfl, by decide, .inl t.m_Refused⟩) (by exact takes_fn) (by exact (catch_of (by exact t.exm_Refused_BadGround))) (by exact (fun _ _ _ tk ow => (by exact (dss_one (by exact (ds_ret (by exact (de_tup (by exact (da_cons (by exact de_str) (by exact (da_cons (by exact (de_call (ps := ["thing"]) h_made_ground.rel (by exact tk) (by exact (hr.mono (by decide))) (by exact hgd) (by exact rfl) (by exact (da_cons (by exact (de_var 0)) (by exact da_nil))))) (by exact da_nil))))))))))))) (by exact (fun _ _ _ => (by exact (dss_one (by exact (ds_ret (by exact (de_tup (by exact (da_cons (by exact de_str) (by exact (da_cons (by exact (de_what 1 (by exact (what_of (by exact t.what_BadGround))))) (by exact (da_cons (by exact (de_and (by exact (de_isE 1 (by exact (kind_of (by exact (fun p hp => (by exact (t.exc_BadGround (by exact p.1) (by exact (List.mem_map_of_mem (f := Prod.fst) (by exact hp))))))) (by exact t.kit_BadGround_BadGround))) (by exact (isE_own (by exact rfl) (by exact t.c_BadGround.1))) isE_own' (by exact rfl) (by exact t.b_isinstance))) (by exact (de_one (by exact (de_isE 1 (by exact (kind_of (by exact (fun p hp => (by exact (t.exc_BadGround (by exact p.1) (by exact (List.mem_map_of_mem (f := Prod.fst) (by exact hp))))))) (by exact t.kit_ValueError_BadGround))) (by exact (pe_bltn (by exact rfl) (by exact t.b_ValueError) (by exact bt_ValueError) (v := .ty "ValueError") (by exact rfl))) (by exact (fun _ h => (by exact (h)))) (by exact rfl) (by exact t.b_isinstance))))))) (by exact da_nil))))))))))))))))))
/-! ### is_ground -/
abbrev s_is_ground : Stmt := top0 19
theorem sc_is_ground : FnScope ["thing"] ["thing"] (defScope s_is_ground) := ⟨rfl, rfl, rfl, by decide +kernel, rfl, by decide +kernel, by decide +kernel⟩
theorem bd_is_ground : BindsH "is_ground" s_is_ground ["thing"] := fun _ _ _ _ _ _ us hl => match us, hl with | [_], _ => rfl
noncomputable def b_is_ground (q : ErrC) : SS :=
    (sSeq (sTry (sDrop (eCallA 1 (relCall (f_made_ground q)) (aCons (eVar 0) aNil))) (hOne (pick1 [(q.BadGround, true)]) fun _ _ => sSuite0 (sRet (eC (.dat (.bool false))))))
    (sRet (eC (.dat (.bool true)))))
noncomputable def f_is_ground (q : ErrC) : FS := fnD 1 (b_is_ground q)
theorem h_is_ground (t : Tx P w K mg base q) (F : HasF K mg "is_ground" s_is_ground) (h_made_ground : Has P w K mg base T "made_ground" ["thing"] 12 (f_made_ground q)) : Has P w K mg base T "is_ground" ["thing"] 13 (f_is_ground q) :=
  Has.of F sc_is_ground bd_is_ground fun _ _ _ _ _ _ _ hr hgd => by exact
    (dss_cons (by exact (ds_try_only (by exact rfl) (by exact rfl) (by exact ⟨rfl, by decide, .inl t.m_BadGround⟩) (by exact takes_fn) (by exact (catch_of (by exact t.exm_BadGround_BadGround))) (by exact (fun _ _ _ tk ow => (by exact (dss_one (by exact (ds_expr (by exact (de_call (ps := ["thing"]) h_made_ground.rel (by exact tk) (by exact (hr.mono (by decide))) (by exact hgd) (by exact rfl) (by exact (da_cons (by exact (de_var 0)) (by exact da_nil))))))))))) (by exact (fun _ _ _ => (by exact (dss_one (by exact (ds_ret (by exact de_bl))))))))) (by exact (dss_one (by exact (ds_ret (by exact de_bl))))))
/-! ### _law_thing_right -/
abbrev s__law_thing_right : Stmt := top0 38
theorem sc__law_thing_right : FnScope ["thing", "fault", "due"] ["thing"] (defScope s__law_thing_right) := ⟨rfl, rfl, rfl, by decide +kernel, rfl, by decide +kernel, by decide +kernel⟩
theorem bd__law_thing_right : BindsH "_law_thing_right" s__law_thing_right ["thing"] := fun _ _ _ _ _ _ us hl => match us, hl with | [_], _ => rfl
noncomputable def b__law_thing_right (q : ErrC) : SS :=
    (sSeq (sAsg (eCallA 1 (relCall (f__law_fault q)) (aCons (eVar 0) aNil)) (aName 1))
    (sSeq (sAsg (eIf (tTest' truB (eBin gIs (eVar 1) (eC (.dat .none)))) (eArgs gTupD (aCons (eC (.dat (.str "told"))) (aCons (eVar 0) aNil))) (eArgs gTupD (aCons (eC (.dat (.str "refused"))) (aCons (eVar 1) (aCons (eC (.dat (.bool true))) aNil))))) (aName 2))
    (sRet (eAnd tru (eBin gEq (eArgs gRepr (aCons (eCallA 1 (relCall (f__law_heard q)) (aCons (eVar 0) aNil)) aNil)) (eArgs gRepr (aCons (eVar 2) aNil))) (eBin gEq (eArgs gRepr (aCons (eCallA 1 (relCall (f_is_ground q)) (aCons (eVar 0) aNil)) aNil)) (eArgs gRepr (aCons (eBin gIs (eVar 1) (eC (.dat .none))) aNil)))))))
noncomputable def f__law_thing_right (q : ErrC) : FS := fnD 3 (b__law_thing_right q)
theorem h__law_thing_right (t : Tx P w K mg base q) (F : HasF K mg "_law_thing_right" s__law_thing_right) (h_is_ground : Has P w K mg base T "is_ground" ["thing"] 13 (f_is_ground q)) (h__law_heard : Has P w K mg base T "_law_heard" ["thing"] 13 (f__law_heard q)) (h__law_fault : Has P w K mg base T "_law_fault" ["thing"] 3 (f__law_fault q)) : Has P w K mg base T "_law_thing_right" ["thing"] 14 (f__law_thing_right q) :=
  Has.of F sc__law_thing_right bd__law_thing_right fun _ _ _ _ _ _ _ hr hgd => by exact
    (dss_cons (by exact (ds_asg (by exact (de_call (ps := ["thing"]) h__law_fault.rel (by exact takes_fn) (by exact (hr.mono (by decide))) (by exact hgd) (by exact rfl) (by exact (da_cons (by exact (de_var 0)) (by exact da_nil))))) (by exact (dg_name (by exact sc__law_thing_right.nd) (by exact rfl) (by first | exact Or.inl rfl | exact Or.inr rfl))))) (by exact (dss_cons (by exact (ds_asg (by exact (de_if (by exact (dt_cmp (by exact (op_gIs)) (by exact (de_var 1)) (by exact de_non) (by exact rfl))) (by exact (de_tup (by exact (da_cons (by exact de_str) (by exact (da_cons (by exact (de_var 0)) (by exact da_nil))))))) (by exact (de_tup (by exact (da_cons (by exact de_str) (by exact (da_cons (by exact (de_var 1)) (by exact (da_cons (by exact de_bl) (by exact da_nil))))))))))) (by exact (dg_name (by exact sc__law_thing_right.nd) (by exact rfl) (by first | exact Or.inl rfl | exact Or.inr rfl))))) (by exact (dss_one (by exact (ds_ret (by exact (de_and (by exact (de_cmp (by exact (op_gEq (by have hz := un_of hr; exact hz))) (by exact (de_callB (by exact (call_gRepr (by exact hgd) (by have hz := un_of hr; exact hz))) (by exact rfl) (by exact t.b_repr) (by exact bt_repr) (by exact (da_cons (by exact (de_call (ps := ["thing"]) h__law_heard.rel (by exact takes_fn) (by exact (hr.mono (by decide))) (by exact hgd) (by exact rfl) (by exact (da_cons (by exact (de_var 0)) (by exact da_nil))))) (by exact da_nil))))) (by exact (de_callB (by exact (call_gRepr (by exact hgd) (by have hz := un_of hr; exact hz))) (by exact rfl) (by exact t.b_repr) (by exact bt_repr) (by exact (da_cons (by exact (de_var 2)) (by exact da_nil))))) (by exact rfl))) (by exact (de_one (by exact (de_cmp (by exact (op_gEq (by have hz := un_of hr; exact hz))) (by exact (de_callB (by exact (call_gRepr (by exact hgd) (by have hz := un_of hr; exact hz))) (by exact rfl) (by exact t.b_repr) (by exact bt_repr) (by exact (da_cons (by exact (de_call (ps := ["thing"]) h_is_ground.rel (by exact takes_fn) (by exact (hr.mono (by decide))) (by exact hgd) (by exact rfl) (by exact (da_cons (by exact (de_var 0)) (by exact da_nil))))) (by exact da_nil))))) (by exact (de_callB (by exact (call_gRepr (by exact hgd) (by have hz := un_of hr; exact hz))) (by exact rfl) (by exact t.b_repr) (by exact bt_repr) (by exact (da_cons (by exact (de_cmp (by exact (op_gIs)) (by exact (de_var 1)) (by exact de_non) (by exact rfl))) (by exact da_nil))))) (by exact rfl))))))))))))))
/-! ### _law_odd_entry -/
abbrev s__law_odd_entry : Stmt := top0 36
theorem sc__law_odd_entry : FnScope ["source", "ground", "part", "some", "name", "number"] ["source", "ground", "part"] (defScope s__law_odd_entry) := ⟨rfl, rfl, rfl, by decide +kernel, rfl, by decide +kernel, by decide +kernel⟩
theorem bd__law_odd_entry : BindsH "_law_odd_entry" s__law_odd_entry ["source", "ground", "part"] := fun _ _ _ _ _ _ us hl => match us, hl with | [_, _, _], _ => rfl
noncomputable def b__law_odd_entry (q : ErrC) : SS :=
    (sSeq (sAsg (eBin gAdd (eLc (srcSeq (eBin gAdd (eBin gIx (eVar 1) (eC (.dat (.int 0)))) (eBin gIx (eVar 1) (eC (.dat (.int 1)))))) (aName 2) tNo (eBin gIx (eVar 2) (eC (.dat (.int 0)))) [2]) (eArgs gList (aCons (eBin gIx (eVar 1) (eC (.dat (.int 2)))) aNil))) (aName 3))
    (sSeq (sAsg (eCallA 2 (relCall (f__law_one q)) (aCons (eVar 0) (aCons (eBin gAdd (eArgs gLstD (aCons (eC (.dat (.str ""))) (aCons (eC (.dat (.str "A"))) (aCons (eC (.dat (.str "9a"))) (aCons (eC (.dat (.str "a b"))) (aCons (eC (.dat (.str "abcdefghijklm"))) (aCons (eC (.dat (.str "if"))) (aCons (eC (.dat (.str "law"))) (aCons (eC (.dat (.str "cells"))) (aCons (eC (.dat (.str "good"))) (aCons (eC (.dat .none)) (aCons (eC (.dat (.int 7))) aNil)))))))))))) (eVar 3)) aNil))) (aName 4))
    (sSeq (sIf (tTest' truB (eBin gEq (eVar 2) (eC (.dat (.int 2))))) (sRet (eCallA 2 (relCall (f__law_one q)) (aCons (eVar 0) (aCons (eArgs gLstD (aCons (eVar 4) (aCons (eVar 4) (aCons (eArgs gTupD (aCons (eC (.dat (.str "good"))) (aCons (eC (.dat (.int 1))) aNil))) aNil)))) aNil)))) sNil)
    (sSeq (sAsg (eCallA 2 (relCall (f__law_one q)) (aCons (eVar 0) (aCons (eArgs gLstD (aCons (eC (.dat (.int 0))) (aCons (eUn gNeg (eC (.dat (.int 1)))) (aCons (eC (.dat (.int 9))) (aCons (eC (.dat (.int 8))) (aCons (eC (.dat (.int 100))) (aCons (eC (.dat (.int 99))) (aCons (eBin gPow (eC (.dat (.int 10))) (eC (.dat (.int 30)))) (aCons (eC (.dat .none)) (aCons (eC (.dat (.str "1"))) (aCons (eC (.dat (.bool true))) (aCons (eC (.dat (.int 1))) aNil)))))))))))) aNil))) (aName 5))
    (sRet (eCallA 2 (relCall (f__law_one q)) (aCons (eVar 0) (aCons (eArgs gLstD (aCons (eArgs gTupD (aCons (eVar 4) (aCons (eC (.dat (.int 1))) aNil))) (aCons (eArgs gTupD (aCons (eC (.dat (.str "good"))) (aCons (eVar 5) aNil))) (aCons (eArgs gTupD (aCons (eC (.dat (.str "good"))) aNil)) (aCons (eArgs gTupD (aCons (eC (.dat (.str "good"))) (aCons (eC (.dat (.int 1))) (aCons (eC (.dat (.int 1))) aNil)))) (aCons (eC (.dat (.str "good"))) (aCons (eC (.dat .none)) (aCons (eArgs gTupD (aCons (eVar 4) (aCons (eVar 5) aNil))) aNil)))))))) aNil))))))))
noncomputable def f__law_odd_entry (q : ErrC) : FS := fnD 6 (b__law_odd_entry q)
theorem h__law_odd_entry (t : Tx P w K mg base q) (F : HasF K mg "_law_odd_entry" s__law_odd_entry) (h__law_one : Has P w K mg base T "_law_one" ["source", "things"] 2 (f__law_one q)) : Has P w K mg base T "_law_odd_entry" ["source", "ground", "part"] 3 (f__law_odd_entry q) :=
  Has.of F sc__law_odd_entry bd__law_odd_entry fun _ _ _ _ _ _ _ hr hgd => by exact
    (dss_cons (by exact (ds_asg (by exact (de_op op_gAdd (by exact (de_lc (own := [("part", 2)]) (by exact rfl) (by exact sc__law_odd_entry.nd) (by exact (di_seq (by exact (de_op op_gAdd (by exact (de_ix ix_gIx (by exact (de_var 1)) (by exact de_int) (fun _ _ => rfl))) (by exact (de_ix ix_gIx (by exact (de_var 1)) (by exact de_int) (fun _ _ => rfl))))))) (by exact (blkOk_by (N := ["source", "ground", "part", "some", "name", "number"]) (sc := defScope s__law_odd_entry) (by decide +kernel))) (by exact (fun _ _ _ _ _ => (by exact (dg0_name (by exact sc__law_odd_entry.nd) (by exact rfl) (by first | exact Or.inl rfl | exact Or.inr rfl) (by decide))))) (by exact (fun _ _ _ _ _ => (by exact (dts_nil)))) (by exact (fun _ _ _ _ _ => (by exact (de_ix ix_gIx (by exact (de_var 2)) (by exact de_int) (fun _ _ => rfl))))))) (by exact (de_callTy (by exact (call_gList)) (by exact rfl) (by exact t.b_list) (by exact bt_list) (by exact (da_cons (by exact (de_ix ix_gIx (by exact (de_var 1)) (by exact de_int) (fun _ _ => rfl))) (by exact da_nil))))))) (by exact (dg_name (by exact sc__law_odd_entry.nd) (by exact rfl) (by first | exact Or.inl rfl | exact Or.inr rfl))))) (by exact (dss_cons (by exact (ds_asg (by exact (de_call (ps := ["source", "things"]) h__law_one.rel (by exact takes_fn) (by exact (hr.mono (by decide))) (by exact hgd) (by exact rfl) (by exact (da_cons (by exact (de_var 0)) (by exact (da_cons (by exact (de_op op_gAdd (by exact (de_lst (by exact (da_cons (by exact de_str) (by exact (da_cons (by exact de_str) (by exact (da_cons (by exact de_str) (by exact (da_cons (by exact de_str) (by exact (da_cons (by exact de_str) (by exact (da_cons (by exact de_str) (by exact (da_cons (by exact de_str) (by exact (da_cons (by exact de_str) (by exact (da_cons (by exact de_str) (by exact (da_cons (by exact de_non) (by exact (da_cons (by exact de_int) (by exact da_nil))))))))))))))))))))))))) (by exact (de_var 3)))) (by exact da_nil))))))) (by exact (dg_name (by exact sc__law_odd_entry.nd) (by exact rfl) (by first | exact Or.inl rfl | exact Or.inr rfl))))) (by exact (dss_cons (by exact (ds_if (by exact (dt_cmp (by exact (op_gEq (by have hz := un_of hr; exact hz))) (by exact (de_var 2)) (by exact de_int) (by exact rfl))) (by exact (dss_one (by exact (ds_ret (by exact (de_call (ps := ["source", "things"]) h__law_one.rel (by exact takes_fn) (by exact (hr.mono (by decide))) (by exact hgd) (by exact rfl) (by exact (da_cons (by exact (de_var 0)) (by exact (da_cons (by exact (de_lst (by exact (da_cons (by exact (de_var 4)) (by exact (da_cons (by exact (de_var 4)) (by exact (da_cons (by exact (de_tup (by exact (da_cons (by exact de_str) (by exact (da_cons (by exact de_int) (by exact da_nil))))))) (by exact da_nil))))))))) (by exact da_nil))))))))))) (by exact dss_nil))) (by exact (dss_cons (by exact (ds_asg (by exact (de_call (ps := ["source", "things"]) h__law_one.rel (by exact takes_fn) (by exact (hr.mono (by decide))) (by exact hgd) (by exact rfl) (by exact (da_cons (by exact (de_var 0)) (by exact (da_cons (by exact (de_lst (by exact (da_cons (by exact de_int) (by exact (da_cons (by exact (de_un un_gNeg (by exact de_int))) (by exact (da_cons (by exact de_int) (by exact (da_cons (by exact de_int) (by exact (da_cons (by exact de_int) (by exact (da_cons (by exact de_int) (by exact (da_cons (by exact (de_op op_gPow (by exact de_int) (by exact de_int))) (by exact (da_cons (by exact de_non) (by exact (da_cons (by exact de_str) (by exact (da_cons (by exact de_bl) (by exact (da_cons (by exact de_int) (by exact da_nil))))))))))))))))))))))))) (by exact da_nil))))))) (by exact (dg_name (by exact sc__law_odd_entry.nd) (by exact rfl) (by first | exact Or.inl rfl | exact Or.inr rfl))))) (by exact (dss_one (by exact (ds_ret (by exact (de_call (ps := ["source", "things"]) h__law_one.rel (by exact takes_fn) (by exact (hr.mono (by decide))) (by exact hgd) (by exact rfl) (by exact (da_cons (by exact (de_var 0)) (by exact (da_cons (by exact (de_lst (by exact (da_cons (by exact (de_tup (by exact (da_cons (by exact (de_var 4)) (by exact (da_cons (by exact de_int) (by exact da_nil))))))) (by exact (da_cons (by exact (de_tup (by exact (da_cons (by exact de_str) (by exact (da_cons (by exact (de_var 5)) (by exact da_nil))))))) (by exact (da_cons (by exact (de_tup (by exact (da_cons (by exact de_str) (by exact da_nil))))) (by exact (da_cons (by exact (de_tup (by exact (da_cons (by exact de_str) (by exact (da_cons (by exact de_int) (by exact (da_cons (by exact de_int) (by exact da_nil))))))))) (by exact (da_cons (by exact de_str) (by exact (da_cons (by exact de_non) (by exact (da_cons (by exact (de_tup (by exact (da_cons (by exact (de_var 4)) (by exact (da_cons (by exact (de_var 5)) (by exact da_nil))))))) (by exact da_nil))))))))))))))))) (by exact da_nil))))))))))))))))))
/-! ### _law_spoilt -/
abbrev s__law_spoilt : Stmt := top0 37
theorem sc__law_spoilt : FnScope ["source", "ground", "thing", "part", "way", "row", "at"] ["source", "ground", "thing"] (defScope s__law_spoilt) := ⟨rfl, rfl, rfl, by decide +kernel, rfl, by decide +kernel, by decide +kernel⟩
theorem bd__law_spoilt : BindsH "_law_spoilt" s__law_spoilt ["source", "ground", "thing"] := fun _ _ _ _ _ _ us hl => match us, hl with | [_, _, _], _ => rfl
noncomputable def b__law_spoilt (q : ErrC) : SS :=
    (sSeq (sPar 3 4 (aCons (eCallA 2 (relCall (f__law_take q)) (aCons (eVar 0) (aCons (eC (.dat (.int 3))) aNil))) (aCons (eCallA 2 (relCall (f__law_take q)) (aCons (eVar 0) (aCons (eC (.dat (.int 8))) aNil))) aNil)))
    (sSeq (sAsg (eBin gIx (eVar 2) (eVar 3)) (aName 5))
    (sSeq (sIf (tTest' truB (eBin gEq (eVar 4) (eC (.dat (.int 0))))) (sAsg (eBin gAdd (eVar 5) (eArgs gTuple (aCons (eLc (srcRange1 (aCons (eC (.dat (.int 5))) aNil)) (aName 6) tNo (eCallA 2 (relCall (f__law_one q)) (aCons (eVar 0) (aCons (eArgs gLstD (aCons (eC (.dat (.str "m1"))) (aCons (eArgs gTupD (aCons (eC (.dat (.str "m1"))) (aCons (eC (.dat (.int 1))) aNil))) aNil))) aNil))) [6]) aNil))) (aName 5)) (sIf (tTest' truB (eBin gEq (eVar 4) (eC (.dat (.int 1))))) (sAsg (eArgs gTupD aNil) (aName 5)) (sIf (sAnd (tTest' truB (eBin gEq (eVar 4) (eC (.dat (.int 2))))) (tTest' truB (eBin gEq (eVar 3) (eC (.dat (.int 0)))))) (sAsg (eArgs gTupD (aCons (eArgs gTupD (aCons (eC (.dat (.str "m1"))) (aCons (eC (.dat (.int 8))) aNil))) (aCons (eArgs gTupD (aCons (eC (.dat (.str "m2"))) (aCons (eC (.dat (.int 8))) aNil))) (aCons (eArgs gTupD (aCons (eC (.dat (.str "m3"))) (aCons (eCallA 2 (relCall (f__law_one q)) (aCons (eVar 0) (aCons (eArgs gLstD (aCons (eC (.dat (.int 1))) (aCons (eC (.dat (.int 2))) aNil))) aNil))) aNil))) aNil)))) (aName 5)) (sIf (tTest' truB (eBin gEq (eVar 4) (eC (.dat (.int 3))))) (sAsg (eCallA 2 (relCall (f__law_one q)) (aCons (eVar 0) (aCons (eArgs gLstD (aCons (eC (.dat .none)) (aCons (eC (.dat (.str "a"))) (aCons (eC (.dat (.int 7))) (aCons (eVar 5) aNil))))) aNil))) (aName 5)) (sSeq (sAsg (eCallA 2 (relCall (f__law_take q)) (aCons (eVar 0) (aCons (eBin gAdd (eArgs gLen (aCons (eVar 5) aNil)) (eC (.dat (.int 1)))) aNil))) (aName 6))
    (sAsg (eBin gAdd (eBin gAdd (eSl (eVar 5) oNone (oSome (eVar 6))) (eArgs gTupD (aCons (eCallA 3 (relCall (f__law_odd_entry q)) (aCons (eVar 0) (aCons (eVar 1) (aCons (eVar 3) aNil)))) aNil))) (eSl (eVar 5) (oSome (eBin gAdd (eVar 6) (eArgs gInt (aCons (eBin gGt (eVar 4) (eC (.dat (.int 5)))) aNil)))) oNone)) (aName 5)))))))
    (sRet (eBin gAdd (eBin gAdd (eSl (eVar 2) oNone (oSome (eVar 3))) (eArgs gTupD (aCons (eVar 5) aNil))) (eSl (eVar 2) (oSome (eBin gAdd (eVar 3) (eC (.dat (.int 1))))) oNone))))))
noncomputable def f__law_spoilt (q : ErrC) : FS := fnD 7 (b__law_spoilt q)
theorem h__law_spoilt (t : Tx P w K mg base q) (F : HasF K mg "_law_spoilt" s__law_spoilt) (h__law_one : Has P w K mg base T "_law_one" ["source", "things"] 2 (f__law_one q)) (h__law_odd_entry : Has P w K mg base T "_law_odd_entry" ["source", "ground", "part"] 3 (f__law_odd_entry q)) (h__law_take : Has P w K mg base T "_law_take" ["source", "top"] 1 (f__law_take q)) : Has P w K mg base T "_law_spoilt" ["source", "ground", "thing"] 4 (f__law_spoilt q) :=
  Has.of F sc__law_spoilt bd__law_spoilt fun _ _ _ _ _ _ _ hr hgd => by exact
    (dss_cons (by exact (ds_par (i := 3) (j := 4) (by exact rfl) (by exact sc__law_spoilt.nd) (by exact rfl) (by exact rfl) (by decide) (by exact rfl) (by exact rfl) (by exact (da_cons (by exact (de_call (ps := ["source", "top"]) h__law_take.rel (by exact takes_fn) (by exact (hr.mono (by decide))) (by exact hgd) (by exact rfl) (by exact (da_cons (by exact (de_var 0)) (by exact (da_cons (by exact de_int) (by exact da_nil))))))) (by exact (da_cons (by exact (de_call (ps := ["source", "top"]) h__law_take.rel (by exact takes_fn) (by exact (hr.mono (by decide))) (by exact hgd) (by exact rfl) (by exact (da_cons (by exact (de_var 0)) (by exact (da_cons (by exact de_int) (by exact da_nil))))))) (by exact da_nil))))) (by exact rfl))) (by exact (dss_cons (by exact (ds_asg (by exact (de_ix ix_gIx (by exact (de_var 2)) (by exact (de_var 3)) (fun _ _ => rfl))) (by exact (dg_name (by exact sc__law_spoilt.nd) (by exact rfl) (by first | exact Or.inl rfl | exact Or.inr rfl))))) (by exact (dss_cons (by exact (ds_if (by exact (dt_cmp (by exact (op_gEq (by have hz := un_of hr; exact hz))) (by exact (de_var 4)) (by exact de_int) (by exact rfl))) (by exact (dss_one (by exact (ds_asg (by exact (de_op op_gAdd (by exact (de_var 5)) (by exact (de_callTy (by exact (call_gTuple)) (by exact rfl) (by exact t.b_tuple) (by exact bt_tuple) (by exact (da_cons (by exact (de_lc (own := [("at", 6)]) (by exact rfl) (by exact sc__law_spoilt.nd) (by exact (di_range1 (by exact rfl) (by exact t.b_range) (by exact (da_cons (by exact de_int) (by exact da_nil))))) (by exact (blkOk_by (N := ["source", "ground", "thing", "part", "way", "row", "at"]) (sc := defScope s__law_spoilt) (by decide +kernel))) (by exact (fun _ _ _ _ _ => (by exact (dg0_name (by exact sc__law_spoilt.nd) (by exact rfl) (by first | exact Or.inl rfl | exact Or.inr rfl) (by decide))))) (by exact (fun _ _ _ _ _ => (by exact (dts_nil)))) (by exact (fun _ _ _ _ _ => (by exact (de_call (ps := ["source", "things"]) h__law_one.rel (by exact takes_false) (by exact (hr.mono (by decide))) (by exact hgd) (by exact rfl) (by exact (da_cons (by exact (de_var 0)) (by exact (da_cons (by exact (de_lst (by exact (da_cons (by exact de_str) (by exact (da_cons (by exact (de_tup (by exact (da_cons (by exact de_str) (by exact (da_cons (by exact de_int) (by exact da_nil))))))) (by exact da_nil))))))) (by exact da_nil))))))))))) (by exact da_nil))))))) (by exact (dg_name (by exact sc__law_spoilt.nd) (by exact rfl) (by first | exact Or.inl rfl | exact Or.inr rfl))))))) (by exact (dss_one (by exact (ds_if (by exact (dt_cmp (by exact (op_gEq (by have hz := un_of hr; exact hz))) (by exact (de_var 4)) (by exact de_int) (by exact rfl))) (by exact (dss_one (by exact (ds_asg (by exact (de_tup (by exact da_nil))) (by exact (dg_name (by exact sc__law_spoilt.nd) (by exact rfl) (by first | exact Or.inl rfl | exact Or.inr rfl))))))) (by exact (dss_one (by exact (ds_if (by exact (DW.dt (by exact (dw_and (by exact (dt_cmp (by exact (op_gEq (by have hz := un_of hr; exact hz))) (by exact (de_var 4)) (by exact de_int) (by exact rfl))) (by exact (dw_and1 (by exact (dt_cmp (by exact (op_gEq (by have hz := un_of hr; exact hz))) (by exact (de_var 3)) (by exact de_int) (by exact rfl))))))))) (by exact (dss_one (by exact (ds_asg (by exact (de_tup (by exact (da_cons (by exact (de_tup (by exact (da_cons (by exact de_str) (by exact (da_cons (by exact de_int) (by exact da_nil))))))) (by exact (da_cons (by exact (de_tup (by exact (da_cons (by exact de_str) (by exact (da_cons (by exact de_int) (by exact da_nil))))))) (by exact (da_cons (by exact (de_tup (by exact (da_cons (by exact de_str) (by exact (da_cons (by exact (de_call (ps := ["source", "things"]) h__law_one.rel (by exact takes_fn) (by exact (hr.mono (by decide))) (by exact hgd) (by exact rfl) (by exact (da_cons (by exact (de_var 0)) (by exact (da_cons (by exact (de_lst (by exact (da_cons (by exact de_int) (by exact (da_cons (by exact de_int) (by exact da_nil))))))) (by exact da_nil))))))) (by exact da_nil))))))) (by exact da_nil))))))))) (by exact (dg_name (by exact sc__law_spoilt.nd) (by exact rfl) (by first | exact Or.inl rfl | exact Or.inr rfl))))))) (by exact (dss_one (by exact (ds_if (by exact (dt_cmp (by exact (op_gEq (by have hz := un_of hr; exact hz))) (by exact (de_var 4)) (by exact de_int) (by exact rfl))) (by exact (dss_one (by exact (ds_asg (by exact (de_call (ps := ["source", "things"]) h__law_one.rel (by exact takes_fn) (by exact (hr.mono (by decide))) (by exact hgd) (by exact rfl) (by exact (da_cons (by exact (de_var 0)) (by exact (da_cons (by exact (de_lst (by exact (da_cons (by exact de_non) (by exact (da_cons (by exact de_str) (by exact (da_cons (by exact de_int) (by exact (da_cons (by exact (de_var 5)) (by exact da_nil))))))))))) (by exact da_nil))))))) (by exact (dg_name (by exact sc__law_spoilt.nd) (by exact rfl) (by first | exact Or.inl rfl | exact Or.inr rfl))))))) (by exact (dss_cons (by exact (ds_asg (by exact (de_call (ps := ["source", "top"]) h__law_take.rel (by exact takes_fn) (by exact (hr.mono (by decide))) (by exact hgd) (by exact rfl) (by exact (da_cons (by exact (de_var 0)) (by exact (da_cons (by exact (de_op op_gAdd (by exact (de_callB (by exact (call_gLen)) (by exact rfl) (by exact t.b_len) (by exact bt_len) (by exact (da_cons (by exact (de_var 5)) (by exact da_nil))))) (by exact de_int))) (by exact da_nil))))))) (by exact (dg_name (by exact sc__law_spoilt.nd) (by exact rfl) (by first | exact Or.inl rfl | exact Or.inr rfl))))) (by exact (dss_one (by exact (ds_asg (by exact (de_op op_gAdd (by exact (de_op op_gAdd (by exact (de_slice (by exact (de_var 5)) (by exact do_none) (by exact (do_some (by exact (de_var 6)))))) (by exact (de_tup (by exact (da_cons (by exact (de_call (ps := ["source", "ground", "part"]) h__law_odd_entry.rel (by exact takes_fn) (by exact (hr.mono (by decide))) (by exact hgd) (by exact rfl) (by exact (da_cons (by exact (de_var 0)) (by exact (da_cons (by exact (de_var 1)) (by exact (da_cons (by exact (de_var 3)) (by exact da_nil))))))))) (by exact da_nil))))))) (by exact (de_slice (by exact (de_var 5)) (by exact (do_some (by exact (de_op op_gAdd (by exact (de_var 6)) (by exact (de_callTy (by exact (call_gInt)) (by exact rfl) (by exact t.b_int) (by exact bt_int) (by exact (da_cons (by exact (de_cmp (by exact (op_gGt (by have hz := un_of hr; exact hz))) (by exact (de_var 4)) (by exact de_int) (by exact rfl))) (by exact da_nil))))))))) (by exact do_none))))) (by exact (dg_name (by exact sc__law_spoilt.nd) (by exact rfl) (by first | exact Or.inl rfl | exact Or.inr rfl))))))))))))))))))))))) (by exact (dss_one (by exact (ds_ret (by exact (de_op op_gAdd (by exact (de_op op_gAdd (by exact (de_slice (by exact (de_var 2)) (by exact do_none) (by exact (do_some (by exact (de_var 3)))))) (by exact (de_tup (by exact (da_cons (by exact (de_var 5)) (by exact da_nil))))))) (by exact (de_slice (by exact (de_var 2)) (by exact (do_some (by exact (de_op op_gAdd (by exact (de_var 3)) (by exact de_int))))) (by exact do_none))))))))))))))
/-! ### states -/
abbrev s_states : Stmt := top0 20
theorem sc_states : FnScope ["ground", "found", "_", "size", "state", "value"] ["ground"] (defScope s_states) := ⟨rfl, rfl, rfl, by decide +kernel, rfl, by decide +kernel, by decide +kernel⟩
theorem bd_states : BindsH "states" s_states ["ground"] := fun _ _ _ _ _ _ us hl => match us, hl with | [_], _ => rfl
noncomputable def b_states (q : ErrC) : SS :=
    (sSeq (sDrop (eCallA 1 (relCall (f_made_ground q)) (aCons (eVar 0) aNil)))
    (sSeq (sAsg (eArgs gLstD (aCons (eArgs gTupD aNil) aNil)) (aName 1))
    (sSeq (sFor (srcSeq (eBin gIx (eVar 0) (eC (.dat (.int 0))))) (aTup [(aName 2), (aName 3)]) (sAsg (eLc2 (srcSeq (eVar 1)) (aName 4) tNo (srcRange1 (aCons (eVar 3) aNil)) (aName 5) tNo (eBin gAdd (eVar 4) (eArgs gTupD (aCons (eVar 5) aNil))) [4, 5] [5]) (aName 1)))
    (sRet (eArgs gTuple (aCons (eVar 1) aNil))))))
noncomputable def f_states (q : ErrC) : FS := fnD 6 (b_states q)
theorem h_states (t : Tx P w K mg base q) (F : HasF K mg "states" s_states) (h_made_ground : Has P w K mg base T "made_ground" ["thing"] 12 (f_made_ground q)) : Has P w K mg base T "states" ["ground"] 13 (f_states q) :=
  Has.of F sc_states bd_states fun _ _ _ _ _ _ _ hr hgd => by exact
    (dss_cons (by exact (ds_expr (by exact (de_call (ps := ["thing"]) h_made_ground.rel (by exact takes_fn) (by exact (hr.mono (by decide))) (by exact hgd) (by exact rfl) (by exact (da_cons (by exact (de_var 0)) (by exact da_nil))))))) (by exact (dss_cons (by exact (ds_asg (by exact (de_lst (by exact (da_cons (by exact (de_tup (by exact da_nil))) (by exact da_nil))))) (by exact (dg_name (by exact sc_states.nd) (by exact rfl) (by first | exact Or.inl rfl | exact Or.inr rfl))))) (by exact (dss_cons (by exact (ds_for (by exact owns_fn) (by exact rfl) (by exact (di_seq (by exact (de_ix ix_gIx (by exact (de_var 0)) (by exact de_int) (fun _ _ => rfl))))) (by exact (dg_tup (by exact rfl) (by exact (dgs_cons (by exact (dg_name (by exact sc_states.nd) (by exact rfl) (by first | exact Or.inl rfl | exact Or.inr rfl))) (by exact (dgs_cons (by exact (dg_name (by exact sc_states.nd) (by exact rfl) (by first | exact Or.inl rfl | exact Or.inr rfl))) (by exact dgs_nil))))))) (by exact (dss_one (by exact (ds_setLc2 (i := 1) (own := [("state", 4), ("value", 5)]) (by exact rfl) (by exact sc_states.nd) (by exact rfl) (by exact rfl) (by exact (sw_true (by exact rfl) (by exact rfl) (by exact rfl) (by decide +kernel))) (by exact (di_seq (by exact (de_var 1)))) (by exact (blkOk_by (N := ["ground", "found", "_", "size", "state", "value"]) (sc := defScope s_states) (by decide +kernel))) (vs1 := [5]) (by decide) (by exact (fun _ _ _ _ _ => (by exact (dg0_name (by exact sc_states.nd) (by exact rfl) (by first | exact Or.inl rfl | exact Or.inr rfl) (by decide))))) (by exact (fun _ _ _ _ _ => (by exact (dts_nil)))) (by exact (fun _ _ _ _ _ => (by exact (di_range1 (by exact rfl) (by exact t.b_range) (by exact (da_cons (by exact (de_var 3)) (by exact da_nil))))))) (by exact (fun _ _ _ _ _ => (by exact (dg0_name (by exact sc_states.nd) (by exact rfl) (by first | exact Or.inl rfl | exact Or.inr rfl) (by decide))))) (by exact (fun _ _ _ _ _ => (by exact (dts_nil)))) (by exact (fun _ _ _ _ _ => (by exact (de_op op_gAdd (by exact (de_var 4)) (by exact (de_tup (by exact (da_cons (by exact (de_var 5)) (by exact da_nil))))))))))))))) (by exact (dss_one (by exact (ds_ret (by exact (de_callTy (by exact (call_gTuple)) (by exact rfl) (by exact t.b_tuple) (by exact bt_tuple) (by exact (da_cons (by exact (de_var 1)) (by exact da_nil))))))))))))))
/-! ### many_states -/
abbrev s_many_states : Stmt := top0 21
theorem sc_many_states : FnScope ["ground"] ["ground"] (defScope s_many_states) := ⟨rfl, rfl, rfl, by decide +kernel, rfl, by decide +kernel, by decide +kernel⟩
theorem bd_many_states : BindsH "many_states" s_many_states ["ground"] := fun _ _ _ _ _ _ us hl => match us, hl with | [_], _ => rfl
noncomputable def b_many_states (q : ErrC) : SS :=
    (sSeq (sDrop (eCallA 1 (relCall (f_made_ground q)) (aCons (eVar 0) aNil)))
    (sRet (eCallA 1 (relCall (f_states_of_cells q)) (aCons (eBin gIx (eVar 0) (eC (.dat (.int 0)))) aNil))))
noncomputable def f_many_states (q : ErrC) : FS := fnD 1 (b_many_states q)
theorem h_many_states (t : Tx P w K mg base q) (F : HasF K mg "many_states" s_many_states) (h_states_of_cells : Has P w K mg base T "states_of_cells" ["cells"] 1 (f_states_of_cells q)) (h_made_ground : Has P w K mg base T "made_ground" ["thing"] 12 (f_made_ground q)) : Has P w K mg base T "many_states" ["ground"] 13 (f_many_states q) :=
  Has.of F sc_many_states bd_many_states fun _ _ _ _ _ _ _ hr hgd => by exact
    (dss_cons (by exact (ds_expr (by exact (de_call (ps := ["thing"]) h_made_ground.rel (by exact takes_fn) (by exact (hr.mono (by decide))) (by exact hgd) (by exact rfl) (by exact (da_cons (by exact (de_var 0)) (by exact da_nil))))))) (by exact (dss_one (by exact (ds_ret (by exact (de_call (ps := ["cells"]) h_states_of_cells.rel (by exact takes_fn) (by exact (hr.mono (by decide))) (by exact hgd) (by exact rfl) (by exact (da_cons (by exact (de_ix ix_gIx (by exact (de_var 0)) (by exact de_int) (fun _ _ => rfl))) (by exact da_nil))))))))))
/-! ### nought -/
abbrev s_nought : Stmt := top0 22
theorem sc_nought : FnScope ["ground", "_"] ["ground"] (defScope s_nought) := ⟨rfl, rfl, rfl, by decide +kernel, rfl, by decide +kernel, by decide +kernel⟩
theorem bd_nought : BindsH "nought" s_nought ["ground"] := fun _ _ _ _ _ _ us hl => match us, hl with | [_], _ => rfl
noncomputable def b_nought (q : ErrC) : SS :=
    (sSeq (sDrop (eCallA 1 (relCall (f_made_ground q)) (aCons (eVar 0) aNil)))
    (sRet (eTupG (srcSeq (eBin gIx (eVar 0) (eC (.dat (.int 1))))) (aName 1) (eC (.dat (.int 0))) [1])))
noncomputable def f_nought (q : ErrC) : FS := fnD 2 (b_nought q)
theorem h_nought (t : Tx P w K mg base q) (F : HasC K mg T (none) "nought" s_nought) (tb : TBs base mg T) (h_made_ground : Has P w K mg base T "made_ground" ["thing"] 12 (f_made_ground q)) : Has P w K mg base T "nought" ["ground"] 13 (f_nought q) :=
  Has.ofC F tb sc_nought bd_nought fun _ _ _ _ _ _ _ _ htb hcT hr hgd => by exact
    (dss_cons (by exact (ds_expr (by exact (de_call (ps := ["thing"]) h_made_ground.rel (by exact takes_fn) (by exact (hr.mono (by decide))) (by exact hgd) (by exact rfl) (by exact (da_cons (by exact (de_var 0)) (by exact da_nil))))))) (by exact (dss_one (by exact (ds_ret (by exact (de_tupG (own := [("_", 1)]) (k := 0) (by exact rfl) (by exact sc_nought.nd) (by exact (hr.mono (by decide))) (by exact hgd) (by exact (di_seq (by exact (de_ix ix_gIx (by exact (de_var 0)) (by exact de_int) (fun _ _ => rfl))))) (by exact ⟨blkOk_by (N := ["ground", "_"]) (sc := defScope s_nought) (by decide +kernel), rfl, by decide +kernel, rfl⟩) (by exact htb) (by exact rfl) (by exact hcT) (by exact (fun _ _ _ _ _ _ _ => (by exact (dg0_name (by exact sc_nought.nd) (by exact rfl) (by first | exact Or.inl rfl | exact Or.inr rfl) (by decide))))) (by exact (fun _ _ _ _ _ _ _ hr hgd => (by exact (de_int)))) (by exact rfl) (by exact t.b_tuple))))))))
/-! ### law -/
abbrev s_law : Stmt := top0 39
theorem sc_law : FnScope ["script", "source", "ground", "own", "turn", "bent", "part", "thing"] ["script"] (defScope s_law) := ⟨rfl, rfl, rfl, by decide +kernel, rfl, by decide +kernel, by decide +kernel⟩
theorem bd_law : BindsH "law" s_law ["script"] := fun _ _ _ _ _ _ us hl => match us, hl with | [_], _ => rfl
noncomputable def b_law (q : ErrC) : SS :=
    (sSeq (sAsg (eCallA 2 (relCall (f__law_pool q)) (aCons (eVar 0) (aCons (eC (.dat (.int 0))) aNil))) (aName 1))
    (sSeq (sAsg (eCallA 1 (relCall (f__law_drawn q)) (aCons (eVar 1) aNil)) (aName 2))
    (sSeq (sAsg (eCallA 1 (relCall (f__law_states q)) (aCons (eVar 2) aNil)) (aName 3))
    (sSeq (sIf (sOr (tTest' truB (eBin gIsNot (eCallA 1 (relCall (f__law_fault q)) (aCons (eVar 2) aNil)) (eC (.dat .none)))) (sOr (sNot (tTest' tru (eCallA 1 (relCall (f__law_thing_right q)) (aCons (eVar 2) aNil)))) (tTest' truB (eBin gNe (eArgs gRepr (aCons (eCallA 1 (relCall (f_states q)) (aCons (eVar 2) aNil)) aNil)) (eArgs gRepr (aCons (eArgs gTuple (aCons (eVar 3) aNil)) aNil)))))) (sRet (eC (.dat (.bool false)))) sNil)
    (sSeq (sIf (sOr (tTest' truB (eBin gNe (eArgs gRepr (aCons (eCallA 1 (relCall (f_many_states q)) (aCons (eVar 2) aNil)) aNil)) (eArgs gRepr (aCons (eArgs gLen (aCons (eVar 3) aNil)) aNil)))) (tTest' truB (eBin gNe (eArgs gRepr (aCons (eCallA 1 (relCall (f_nought q)) (aCons (eVar 2) aNil)) aNil)) (eArgs gRepr (aCons (eBin gMul (eArgs gTupD (aCons (eC (.dat (.int 0))) aNil)) (eArgs gLen (aCons (eBin gIx (eVar 2) (eC (.dat (.int 1)))) aNil))) aNil))))) (sRet (eC (.dat (.bool false)))) sNil)
    (sSeq (sFor (srcRange1 (aCons (eC (.dat (.int 6))) aNil)) (aName 4) (sSeq (sAsg (eCallA 3 (relCall (f__law_spoilt q)) (aCons (eVar 1) (aCons (eVar 2) (aCons (eVar 2) aNil)))) (aName 5))
    (sSeq (sIf (sNot (tTest' tru (eCallA 1 (relCall (f__law_thing_right q)) (aCons (eVar 5) aNil)))) (sRet (eC (.dat (.bool false)))) sNil)
    (sIf (sAnd (tTest' tru (eArgs gIsa (aCons (eVar 5) (aCons (eC (.ty "tuple")) aNil)))) (tTest' truB (eBin gEq (eLc (srcSeq (eVar 5)) (aName 6) (sNot (tTest' tru (eArgs gIsa (aCons (eVar 6) (aCons (eC (.ty "tuple")) aNil))))) (eVar 6) [6]) (eArgs gLstD aNil)))) (sIf (sNot (tTest' tru (eCallA 1 (relCall (f__law_thing_right q)) (aCons (eCallA 3 (relCall (f__law_spoilt q)) (aCons (eVar 1) (aCons (eVar 2) (aCons (eBin gAdd (eSl (eVar 2) oNone (oSome (eC (.dat (.int 1))))) (eSl (eVar 5) (oSome (eC (.dat (.int 1)))) oNone)) aNil)))) aNil)))) (sRet (eC (.dat (.bool false)))) sNil) sNil))))
    (sSeq (sFor (srcSeq (eArgs gLstD (aCons (eC (.dat .none)) (aCons (eArgs gTupD aNil) (aCons (eSl (eVar 2) oNone (oSome (eC (.dat (.int 2))))) (aCons (eBin gAdd (eVar 2) (eArgs gTupD (aCons (eArgs gTupD aNil) aNil))) (aCons (eC (.dat (.int 7))) (aCons (eC (.dat (.str "ground"))) (aCons (eArgs gTupD (aCons (eVar 2) aNil)) aNil))))))))) (aName 7) (sIf (sNot (tTest' tru (eCallA 1 (relCall (f__law_thing_right q)) (aCons (eVar 7) aNil)))) (sRet (eC (.dat (.bool false)))) sNil))
    (sRet (eCallA 1 (relCall (f__law_thing_right q)) (aCons (eVar 2) aNil))))))))))
noncomputable def f_law (q : ErrC) : FS := fnD 8 (b_law q)
theorem h_law (t : Tx P w K mg base q) (F : HasF K mg "law" s_law) (h__law_thing_right : Has P w K mg base T "_law_thing_right" ["thing"] 14 (f__law_thing_right q)) (h__law_spoilt : Has P w K mg base T "_law_spoilt" ["source", "ground", "thing"] 4 (f__law_spoilt q)) (h_nought : Has P w K mg base T "nought" ["ground"] 13 (f_nought q)) (h_many_states : Has P w K mg base T "many_states" ["ground"] 13 (f_many_states q)) (h_states : Has P w K mg base T "states" ["ground"] 13 (f_states q)) (h__law_fault : Has P w K mg base T "_law_fault" ["thing"] 3 (f__law_fault q)) (h__law_states : Has P w K mg base T "_law_states" ["ground"] 1 (f__law_states q)) (h__law_drawn : Has P w K mg base T "_law_drawn" ["source"] 4 (f__law_drawn q)) (h__law_pool : Has P w K mg base T "_law_pool" ["script", "k"] 1 (f__law_pool q)) : Has P w K mg base T "law" ["script"] 15 (f_law q) :=
  Has.of F sc_law bd_law fun _ _ _ _ _ _ _ hr hgd => by exact
    (dss_cons (by exact (ds_asg (by exact (de_call (ps := ["script", "k"]) h__law_pool.rel (by exact takes_fn) (by exact (hr.mono (by decide))) (by exact hgd) (by exact rfl) (by exact (da_cons (by exact (de_var 0)) (by exact (da_cons (by exact de_int) (by exact da_nil))))))) (by exact (dg_name (by exact sc_law.nd) (by exact rfl) (by first | exact Or.inl rfl | exact Or.inr rfl))))) (by exact (dss_cons (by exact (ds_asg (by exact (de_call (ps := ["source"]) h__law_drawn.rel (by exact takes_fn) (by exact (hr.mono (by decide))) (by exact hgd) (by exact rfl) (by exact (da_cons (by exact (de_var 1)) (by exact da_nil))))) (by exact (dg_name (by exact sc_law.nd) (by exact rfl) (by first | exact Or.inl rfl | exact Or.inr rfl))))) (by exact (dss_cons (by exact (ds_asg (by exact (de_call (ps := ["ground"]) h__law_states.rel (by exact takes_fn) (by exact (hr.mono (by decide))) (by exact hgd) (by exact rfl) (by exact (da_cons (by exact (de_var 2)) (by exact da_nil))))) (by exact (dg_name (by exact sc_law.nd) (by exact rfl) (by first | exact Or.inl rfl | exact Or.inr rfl))))) (by exact (dss_cons (by exact (ds_if (by exact (DW.dt (by exact (dw_or (by exact (dt_cmp (by exact (op_gIsNot)) (by exact (de_call (ps := ["thing"]) h__law_fault.rel (by exact takes_fn) (by exact (hr.mono (by decide))) (by exact hgd) (by exact rfl) (by exact (da_cons (by exact (de_var 2)) (by exact da_nil))))) (by exact de_non) (by exact rfl))) (by exact (dw_or (by exact (dt_not (by exact (dt_truth (by exact (de_call (ps := ["thing"]) h__law_thing_right.rel (by exact takes_fn) (by exact (hr.mono (by decide))) (by exact hgd) (by exact rfl) (by exact (da_cons (by exact (de_var 2)) (by exact da_nil))))))))) (by exact (dw_or1 (by exact (dt_cmp (by exact (op_gNe (by have hz := un_of hr; exact hz))) (by exact (de_callB (by exact (call_gRepr (by exact hgd) (by have hz := un_of hr; exact hz))) (by exact rfl) (by exact t.b_repr) (by exact bt_repr) (by exact (da_cons (by exact (de_call (ps := ["ground"]) h_states.rel (by exact takes_fn) (by exact (hr.mono (by decide))) (by exact hgd) (by exact rfl) (by exact (da_cons (by exact (de_var 2)) (by exact da_nil))))) (by exact da_nil))))) (by exact (de_callB (by exact (call_gRepr (by exact hgd) (by have hz := un_of hr; exact hz))) (by exact rfl) (by exact t.b_repr) (by exact bt_repr) (by exact (da_cons (by exact (de_callTy (by exact (call_gTuple)) (by exact rfl) (by exact t.b_tuple) (by exact bt_tuple) (by exact (da_cons (by exact (de_var 3)) (by exact da_nil))))) (by exact da_nil))))) (by exact rfl))))))))))) (by exact (dss_one (by exact (ds_ret (by exact de_bl))))) (by exact dss_nil))) (by exact (dss_cons (by exact (ds_if (by exact (DW.dt (by exact (dw_or (by exact (dt_cmp (by exact (op_gNe (by have hz := un_of hr; exact hz))) (by exact (de_callB (by exact (call_gRepr (by exact hgd) (by have hz := un_of hr; exact hz))) (by exact rfl) (by exact t.b_repr) (by exact bt_repr) (by exact (da_cons (by exact (de_call (ps := ["ground"]) h_many_states.rel (by exact takes_fn) (by exact (hr.mono (by decide))) (by exact hgd) (by exact rfl) (by exact (da_cons (by exact (de_var 2)) (by exact da_nil))))) (by exact da_nil))))) (by exact (de_callB (by exact (call_gRepr (by exact hgd) (by have hz := un_of hr; exact hz))) (by exact rfl) (by exact t.b_repr) (by exact bt_repr) (by exact (da_cons (by exact (de_callB (by exact (call_gLen)) (by exact rfl) (by exact t.b_len) (by exact bt_len) (by exact (da_cons (by exact (de_var 3)) (by exact da_nil))))) (by exact da_nil))))) (by exact rfl))) (by exact (dw_or1 (by exact (dt_cmp (by exact (op_gNe (by have hz := un_of hr; exact hz))) (by exact (de_callB (by exact (call_gRepr (by exact hgd) (by have hz := un_of hr; exact hz))) (by exact rfl) (by exact t.b_repr) (by exact bt_repr) (by exact (da_cons (by exact (de_call (ps := ["ground"]) h_nought.rel (by exact takes_fn) (by exact (hr.mono (by decide))) (by exact hgd) (by exact rfl) (by exact (da_cons (by exact (de_var 2)) (by exact da_nil))))) (by exact da_nil))))) (by exact (de_callB (by exact (call_gRepr (by exact hgd) (by have hz := un_of hr; exact hz))) (by exact rfl) (by exact t.b_repr) (by exact bt_repr) (by exact (da_cons (by exact (de_op op_gMul (by exact (de_tup (by exact (da_cons (by exact de_int) (by exact da_nil))))) (by exact (de_callB (by exact (call_gLen)) (by exact rfl) (by exact t.b_len) (by exact bt_len) (by exact (da_cons (by exact (de_ix ix_gIx (by exact (de_var 2)) (by exact de_int) (fun _ _ => rfl))) (by exact da_nil))))))) (by exact da_nil))))) (by exact rfl))))))))) (by exact (dss_one (by exact (ds_ret (by exact de_bl))))) (by exact dss_nil))) (by exact (dss_cons (by exact (ds_for (by exact owns_fn) (by exact rfl) (by exact (di_range1 (by exact rfl) (by exact t.b_range) (by exact (da_cons (by exact de_int) (by exact da_nil))))) (by exact (dg_name (by exact sc_law.nd) (by exact rfl) (by first | exact Or.inl rfl | exact Or.inr rfl))) (by exact (dss_cons (by exact (ds_asg (by exact (de_call (ps := ["source", "ground", "thing"]) h__law_spoilt.rel (by exact takes_fn) (by exact (hr.mono (by decide))) (by exact hgd) (by exact rfl) (by exact (da_cons (by exact (de_var 1)) (by exact (da_cons (by exact (de_var 2)) (by exact (da_cons (by exact (de_var 2)) (by exact da_nil))))))))) (by exact (dg_name (by exact sc_law.nd) (by exact rfl) (by first | exact Or.inl rfl | exact Or.inr rfl))))) (by exact (dss_cons (by exact (ds_if (by exact (dt_not (by exact (dt_truth (by exact (de_call (ps := ["thing"]) h__law_thing_right.rel (by exact takes_fn) (by exact (hr.mono (by decide))) (by exact hgd) (by exact rfl) (by exact (da_cons (by exact (de_var 5)) (by exact da_nil))))))))) (by exact (dss_one (by exact (ds_ret (by exact de_bl))))) (by exact dss_nil))) (by exact (dss_one (by exact (ds_if (by exact (DW.dt (by exact (dw_and (by exact (dt_truth (by exact (de_callB (by exact (call_gIsa)) (by exact rfl) (by exact t.b_isinstance) (by exact bt_isinstance) (by exact (da_cons (by exact (de_var 5)) (by exact (da_cons (by exact (de_ty (by exact rfl) (by exact t.b_tuple) (by exact bt_tuple))) (by exact da_nil))))))))) (by exact (dw_and1 (by exact (dt_cmp (by exact (op_gEq (by have hz := un_of hr; exact hz))) (by exact (de_lc (own := [("part", 6)]) (by exact rfl) (by exact sc_law.nd) (by exact (di_seq (by exact (de_var 5)))) (by exact (blkOk_by (N := ["script", "source", "ground", "own", "turn", "bent", "part", "thing"]) (sc := defScope s_law) (by decide +kernel))) (by exact (fun _ _ _ _ _ => (by exact (dg0_name (by exact sc_law.nd) (by exact rfl) (by first | exact Or.inl rfl | exact Or.inr rfl) (by decide))))) (by exact (fun _ _ _ _ _ => (by exact (dts_one (by exact rfl) (by exact (dt_not (by exact (dt_truth (by exact (de_callB (by exact (call_gIsa)) (by exact rfl) (by exact t.b_isinstance) (by exact bt_isinstance) (by exact (da_cons (by exact (de_var 6)) (by exact (da_cons (by exact (de_ty (by exact rfl) (by exact t.b_tuple) (by exact bt_tuple))) (by exact da_nil))))))))))))))) (by exact (fun _ _ _ _ _ => (by exact (de_var 6)))))) (by exact (de_lst (by exact da_nil))) (by exact rfl))))))))) (by exact (dss_one (by exact (ds_if (by exact (dt_not (by exact (dt_truth (by exact (de_call (ps := ["thing"]) h__law_thing_right.rel (by exact takes_fn) (by exact (hr.mono (by decide))) (by exact hgd) (by exact rfl) (by exact (da_cons (by exact (de_call (ps := ["source", "ground", "thing"]) h__law_spoilt.rel (by exact takes_fn) (by exact (hr.mono (by decide))) (by exact hgd) (by exact rfl) (by exact (da_cons (by exact (de_var 1)) (by exact (da_cons (by exact (de_var 2)) (by exact (da_cons (by exact (de_op op_gAdd (by exact (de_slice (by exact (de_var 2)) (by exact do_none) (by exact (do_some (by exact de_int))))) (by exact (de_slice (by exact (de_var 5)) (by exact (do_some (by exact de_int))) (by exact do_none))))) (by exact da_nil))))))))) (by exact da_nil))))))))) (by exact (dss_one (by exact (ds_ret (by exact de_bl))))) (by exact dss_nil))))) (by exact dss_nil))))))))))) (by exact (dss_cons (by exact (ds_for (by exact owns_fn) (by exact rfl) (by exact (di_seq (by exact (de_lst (by exact (da_cons (by exact de_non) (by exact (da_cons (by exact (de_tup (by exact da_nil))) (by exact (da_cons (by exact (de_slice (by exact (de_var 2)) (by exact do_none) (by exact (do_some (by exact de_int))))) (by exact (da_cons (by exact (de_op op_gAdd (by exact (de_var 2)) (by exact (de_tup (by exact (da_cons (by exact (de_tup (by exact da_nil))) (by exact da_nil))))))) (by exact (da_cons (by exact de_int) (by exact (da_cons (by exact de_str) (by exact (da_cons (by exact (de_tup (by exact (da_cons (by exact (de_var 2)) (by exact da_nil))))) (by exact da_nil))))))))))))))))))) (by exact (dg_name (by exact sc_law.nd) (by exact rfl) (by first | exact Or.inl rfl | exact Or.inr rfl))) (by exact (dss_one (by exact (ds_if (by exact (dt_not (by exact (dt_truth (by exact (de_call (ps := ["thing"]) h__law_thing_right.rel (by exact takes_fn) (by exact (hr.mono (by decide))) (by exact hgd) (by exact rfl) (by exact (da_cons (by exact (de_var 7)) (by exact da_nil))))))))) (by exact (dss_one (by exact (ds_ret (by exact de_bl))))) (by exact dss_nil))))))) (by exact (dss_one (by exact (ds_ret (by exact (de_call (ps := ["thing"]) h__law_thing_right.rel (by exact takes_fn) (by exact (hr.mono (by decide))) (by exact hgd) (by exact rfl) (by exact (da_cons (by exact (de_var 2)) (by exact da_nil))))))))))))))))))))))
end
-- done: _law_pool _law_take _law_mixed _law_names _law_one _law_drawn _law_states _law_is_number _law_is_name _law_entry_name _law_fault is_triple_of_tuples* is_name* is_number entry_name states_of_cells made_ground _law_heard is_ground _law_thing_right _law_odd_entry _law_spoilt states many_states nought* law
end K00

set_option Elab.async false
set_option linter.all false
set_option maxRecDepth 100000
set_option maxHeartbeats 1000000
namespace K00
open PySem PySem.Spec PyProof.Rows L2 DL
open Classical
theorem pool_eq (q : ErrC) : f__law_pool q = gPool := rfl
theorem take_eq (q : ErrC) : f__law_take q = gTake := rfl
theorem one_eq (q : ErrC) : f__law_one q = gOne := rfl
theorem mixed_eq (q : ErrC) : f__law_mixed q = gMixed := rfl
/-! ### names -/
abbrev LET : Str := "abcdefghijklmnopqrstuvwxyz"
abbrev LAF : Str := "abcdefghijklmnopqrstuvwxyz0123456789"
def RES : List PyData := [(.str "cells"), (.str "deeds"), (.str "exits"), (.str "if"), (.str "else"), (.str "while"), (.str "catch"), (.str "exit"), (.str "and"), (.str "or"), (.str "not"), (.str "law")]
def sgn (c : Nat) : Str := ⟨#[c]⟩
def rB (s : Str) : Bool := RES.any fun y => PyData.eqv y (.str s)
def lB (c : Nat) : Bool := inS (sgn c) LET
def aB (cs : List Nat) : Bool := cs.all fun c => inS (sgn c) LAF
def nmL (s : Str) : List Nat → Bool
  | [] => false
  | c :: r => decide (s.length ≤ 12) && (!(rB s) && (lB c && aB (c :: r)))
def nmB : PyData → Bool
  | .str s => nmL s s.cps.toList
  | _ => false
theorem len_cps (s : Str) : s.length = s.cps.toList.length := by unfold Str.length; simp
def Sh (d : PyData) : Prop := ∀ s, d = .str s → s.length ≤ 100000
theorem hRES : PyData.depthAll RES = 0 := by decide +kernel
theorem is_name_ok (q : ErrC) (d : PyData) (hd : Sh d) : ∃ G, f_is_name q [.dat d] [] = .ok (.dat (.bool (nmB d))) G := by
  cases d with
  | str s =>
    have h1 := hd s rfl
    have hl := len_cps s
    simp only [nmB]
    cases hc : s.cps.toList with
    | nil =>
      rw [hc] at hl
      have h0 : s.length = 0 := hl
      exact ⟨[], by simp [f_is_name, b_is_name, PyData.isStr, h1, h0, nmL]⟩
    | cons c r =>
      rw [hc] at hl
      have h0 : (1 : Int) ≤ s.length := by rw [hl]; simp; omega
      by_cases h12 : s.length ≤ 12
      · refine ⟨[], ?_⟩
        have h13 : (s.length : Int) ≤ 12 := by omega
        have e2 : eAllG (srcSeq (eVar 0)) (aName 1) (eBin gIn (eVar 1) (eC (.dat (.str "abcdefghijklmnopqrstuvwxyz0123456789")))) [1] [.d (.dat (.str s)), .no] [] = .ok (.dat (.bool (aB (c :: r)))) [] :=
          by
            refine eAllG_dat (chk := yesH) (fun c => .dat (.str (sgn c))) (fun c => [.d (.dat (.str s)), .d (.dat (.str (sgn c)))]) (fun c => inS (sgn c) LAF) (c :: r) ?_ trivial (fun x _ => ⟨rfl, ?_⟩) ?_
            · simp [hc, sgn]
            · simp
            · simp at hl ⊢; omega
        have hR : ([(.str "cells"), (.str "deeds"), (.str "exits"), (.str "if"), (.str "else"), (.str "while"), (.str "catch"), (.str "exit"), (.str "and"), (.str "or"), (.str "not"), (.str "law")] : List PyData) = RES := rfl
        have e3 : inD (.dat (.str s)) (.dat (.tuple RES)) [] = some (rB s) := by
          rw [inD_tup, if_pos (by rw [hRES]; simp)]
          rfl
        have e4 : inD (.dat (.str (sgn c))) (.dat (.str LET)) [] = some (lB c) := rfl
        have e5 : ({ cps := #[c] } : Str) = sgn c := rfl
        unfold f_is_name b_is_name
        rw [hR]
        cases h1b : rB s <;> cases h2b : lB c <;> simp [PyData.isStr, h1, h0, h13, h12, e2, e3, e4, hc, e5, nmL, h1b, h2b, -inD_str, -inD_tup]
      · have h13 : ¬ (s.length : Int) ≤ 12 := by omega
        exact ⟨[], by simp [f_is_name, b_is_name, PyData.isStr, h1, h0, h13, h12, nmL]⟩
  | _ => exact ⟨[], by simp [f_is_name, b_is_name, PyData.isStr, nmB]⟩
theorem LAF_eq : (LET ++ ("0123456789" : Str) : Str) = LAF := by decide +kernel
theorem filt_aB (cs : List Nat) : ((cs.filter fun c => !inS (sgn c) LAF).map fun c => PyData.str (sgn c)).isEmpty = aB cs := by
  unfold aB
  induction cs with
  | nil => rfl
  | cons c r ih =>
    simp only [List.filter_cons, List.all_cons]
    cases h : inS (sgn c) LAF <;> simp at ih ⊢
    exact ih
theorem law_is_name_ok (q : ErrC) (d : PyData) (hd : Sh d) : ∃ G, f__law_is_name q [.dat d] [] = .ok (.dat (.bool (nmB d))) G := by
  cases d with
  | str s =>
    have h1 := hd s rfl
    have hl := len_cps s
    simp only [nmB]
    cases hc : s.cps.toList with
    | nil =>
      rw [hc] at hl
      have h0 : s.length = 0 := hl
      exact ⟨[], by simp [f__law_is_name, b__law_is_name, PyData.isStr, h1, h0, nmL]⟩
    | cons c r =>
      rw [hc] at hl
      have h0 : (1 : Int) ≤ s.length := by rw [hl]; simp; omega
      by_cases h12 : s.length ≤ 12
      · have h13 : (s.length : Int) ≤ 12 := by omega
        have e4 : inD (.dat (.str (sgn c))) (.dat (.str LET)) [] = some (lB c) := rfl
        have e5 : ({ cps := #[c] } : Str) = sgn c := rfl
        have ll : LET.length + ("0123456789" : Str).length ≤ 100000 := by decide +kernel
        cases h2b : lB c with
        | false => exact ⟨[], by simp [f__law_is_name, b__law_is_name, PyData.isStr, h1, h0, h13, h12, e4, hc, e5, nmL, h2b, -inD_str, -inD_tup]⟩
        | true =>
          have e2 : eLc (srcSeq (eVar 0)) (aName 2) (tTest' truB (eBin gNotIn (eVar 2) (eBin gAdd (eVar 1) (eC (.dat (.str "0123456789")))))) (eVar 2) [2] [.d (.dat (.str s)), .d (.dat (.str LET)), .no, .no] [] = .ok (.ref 0) [.lst ((((c :: r).filter fun c => !inS (sgn c) LAF).map fun c => PyData.str (sgn c)).map .dat)] :=
            by
              refine eLc_dat (G1 := []) (fun c => .dat (.str (sgn c))) (fun c => [.d (.dat (.str s)), .d (.dat (.str LET)), .d (.dat (.str (sgn c))), .no]) (fun c => !inS (sgn c) LAF) (fun c => .str (sgn c)) (c :: r) ?_ (fun x _ g => ⟨rfl, ?_, fun _ => ?_⟩) ?_
              · simp [hc, sgn]
              · simp [ll, LAF_eq]
              · simp
              · simp at hl ⊢; omega
          have e3 := ne_nil (G := [.lst ((((c :: r).filter fun c => !inS (sgn c) LAF).map fun c => PyData.str (sgn c)).map .dat), .lst []]) (l := 0) (m := 1) rfl dats_map rfl
          rw [filt_aB] at e3
          generalize hX : eLc (srcSeq (eVar 0)) (aName 2) (tTest' truB (eBin gNotIn (eVar 2) (eBin gAdd (eVar 1) (eC (.dat (.str "0123456789")))))) (eVar 2) [2] = X at e2
          generalize (((c :: r).filter fun c => !inS (sgn c) LAF).map fun c => PyData.str (sgn c)).map D.dat = Y at e2 e3
          have eA := e2
          have hW : dats [.dat (.str "cells"), .dat (.str "deeds"), .dat (.str "exits"), .dat (.str "if"), .dat (.str "else"), .dat (.str "while"), .dat (.str "catch"), .dat (.str "exit"), .dat (.str "and"), .dat (.str "or"), .dat (.str "not"), .dat (.str "law")] = some RES := rfl
          cases hb : aB (c :: r) with
          | false => 
            rw [hb] at e3
            exact ⟨[.lst Y, .lst []], by simp [f__law_is_name, b__law_is_name, hX, PyData.isStr, h1, h0, h13, h12, e4, hc, e5, nmL, h2b, hb, e2, e3, -inD_str, -inD_tup]⟩
          | true =>
            rw [hb] at e3
            have e6 : inD (.dat (.str s)) (.ref 2) [.lst Y, .lst [], .lst [.dat (.str "cells"), .dat (.str "deeds"), .dat (.str "exits"), .dat (.str "if"), .dat (.str "else"), .dat (.str "while"), .dat (.str "catch"), .dat (.str "exit"), .dat (.str "and"), .dat (.str "or"), .dat (.str "not"), .dat (.str "law")]] = some (rB s) := by
              rw [inD_view (a := RES) (by rw [view_ref]; exact (congrArg (Option.map PyData.list) hW)), if_pos (by rw [hRES]; simp)]
              rfl
            exact ⟨_, by simp [f__law_is_name, b__law_is_name, hX, PyData.isStr, h1, h0, h13, h12, e4, hc, e5, nmL, h2b, hb, e2, e3, e6, -inD_str, -inD_tup]; rfl⟩
      · have h13 : ¬ (s.length : Int) ≤ 12 := by omega
        exact ⟨[], by simp [f__law_is_name, b__law_is_name, PyData.isStr, h1, h0, h13, h12, nmL]⟩
  | _ => exact ⟨[], by simp [f__law_is_name, b__law_is_name, PyData.isStr, nmB]⟩

end K00

set_option Elab.async false
set_option linter.all false
set_option maxRecDepth 100000
set_option maxHeartbeats 1000000
namespace K00
open PySem PySem.Spec PyProof.Rows L2 DL
open Classical
/-! ### entries -/
def isNum : PyData → Bool
  | .int _ => true
  | _ => false
def numIn (hi : Int) : PyData → Bool
  | .int i => decide (1 ≤ i) && decide (i ≤ hi)
  | _ => false
/-- a call with values alone, wherever it stands -/
theorem call0 {sem : FS} {ds : List D} {d : D} {G : Hh} (h : ∃ G1, sem ds [] = .ok d G1) (h1 : refs ds = [] := by rfl) (h2 : renum 0 ds = ds := by rfl) (h3 : argsOk ds = true := by rfl) (h4 : clean d = true := by rfl) : relCall sem ds G = .ok d G := by
  obtain ⟨G1, e⟩ := h
  exact rel_ok0 h1 h2 h3 e h4
theorem is_number_ok (q : ErrC) (d : PyData) : ∃ G, f_is_number q [.dat d] [] = .ok (.dat (.bool (isNum d))) G := by
  cases d <;> exact ⟨[], by simp [f_is_number, b_is_number, PyData.isInt, PyData.isBool, isNum]⟩
theorem law_is_number_ok (q : ErrC) (d : PyData) (lo hi : Int) : ∃ G, f__law_is_number q [.dat d, .dat (.int lo), .dat (.int hi)] [] = .ok (.dat (.bool (match d with
    | .int i => decide (lo ≤ i) && decide (i ≤ hi)
    | _ => false))) G := by
  cases d with
  | int i => 
    refine ⟨[], ?_⟩
    by_cases h : lo ≤ i <;> simp [f__law_is_number, b__law_is_number, PyData.isInt, PyData.isBool, h]
  | _ => exact ⟨[], by simp [f__law_is_number, b__law_is_number, PyData.isInt, PyData.isBool]⟩
def most (p : Nat) : Int := if p = 0 then 8 else 99
/-- the name of an entry, or None -/
def entryN (p : Nat) (e : PyData) : PyData := if p = 2 then (if nmB e then e else .none) else match e with
  | .tuple [n, k] => if nmB n && numIn (most p) k then n else .none
  | _ => .none
/-- short texts all over -/
def ShE (e : PyData) : Prop := Sh e ∧ ∀ es, e = .tuple es → ∀ x ∈ es, Sh x
theorem entry_name_ok (q : ErrC) (p : Nat) (hp : p ≤ 2) (e : PyData) (he : ShE e) : ∃ G, f_entry_name q [.dat (.int p), .dat e] [] = .ok (.dat (entryN p e)) G := by
  by_cases h2 : p = 2
  · subst h2
    have e1 := fun G => call0 (G := G) (is_name_ok q e he.1)
    cases hb : nmB e <;> exact ⟨[], by simp [f_entry_name, b_entry_name, e1, hb, entryN]⟩
  · have hp2 : ((p : Int) == 2) = false := by simp; omega
    have hnot : ∀ d : PyData, ¬ (d.isTuple = true) → (∀ es, d ≠ .tuple es) := fun d h es z => h (by subst z; rfl)
    cases e with
    | tuple es =>
      by_cases hl : es.length = 2
      · obtain ⟨n, k, rfl⟩ : ∃ n k, es = [n, k] := by
          match es, hl with
          | [n, k], _ => exact ⟨n, k, rfl⟩
        have hn := he.2 _ rfl n (by simp)
        have e1 := fun G => call0 (G := G) (is_name_ok q n hn)
        have e2 := fun G => call0 (G := G) (is_number_ok q k)
        have e3 : atI [PyData.int 8, PyData.int 99] (p : Int) = some (.int (most p)) := by
          rw [DL.atI_nat]
          have : p = 0 ∨ p = 1 := by omega
          rcases this with rfl | rfl <;> rfl
        refine ⟨[], ?_⟩
        cases hb : nmB n with
        | false => simp [f_entry_name, b_entry_name, hp2, PyData.isTuple, e1, hb, entryN, h2]
        | true =>
          cases k with
          | int i => by_cases hi : 1 ≤ i <;> by_cases hj : i ≤ most p <;> simp [f_entry_name, b_entry_name, hp2, PyData.isTuple, e1, e2, e3, hb, entryN, h2, numIn, isNum, hi, hj]
          | _ => simp [f_entry_name, b_entry_name, hp2, PyData.isTuple, e1, e2, e3, hb, entryN, h2, numIn, isNum]
      · have hl2 : ((es.length : Int) == 2) = false := by simp; omega
        have en : entryN p (.tuple es) = .none := by
          unfold entryN
          rw [if_neg h2]
          split
          · rename_i n k z
            cases z
            exact absurd rfl hl
          · rfl
        exact ⟨[], by simp [f_entry_name, b_entry_name, hp2, PyData.isTuple, hl2, en]⟩
    | _ => exact ⟨[], by simp [f_entry_name, b_entry_name, hp2, PyData.isTuple, entryN, h2]⟩
theorem law_entry_name_ok (q : ErrC) (p : Nat) (hp : p ≤ 2) (e : PyData) (he : ShE e) : ∃ G, f__law_entry_name q [.dat (.int p), .dat e] [] = .ok (.dat (entryN p e)) G := by
  by_cases h2 : p = 2
  · subst h2
    have e1 := fun G => call0 (G := G) (law_is_name_ok q e he.1)
    cases hb : nmB e <;> exact ⟨[], by simp [f__law_entry_name, b__law_entry_name, e1, hb, entryN]⟩
  · have hp2 : ((p : Int) == 2) = false := by simp; omega
    cases e with
    | tuple es =>
      by_cases hl : es.length = 2
      · obtain ⟨n, k, rfl⟩ : ∃ n k, es = [n, k] := by
          match es, hl with
          | [n, k], _ => exact ⟨n, k, rfl⟩
        have hn := he.2 _ rfl n (by simp)
        have e1 := fun G => call0 (G := G) (law_is_name_ok q n hn)
        have e2 := fun G => call0 (G := G) (law_is_number_ok q k 1 (most p))
        have e3 : atI [D.dat (PyData.int 8), D.dat (PyData.int 99)] (p : Int) = some (.dat (.int (most p))) := by
          rw [DL.atI_nat]
          have : p = 0 ∨ p = 1 := by omega
          rcases this with rfl | rfl <;> rfl
        cases hb : nmB n with
        | false => exact ⟨[], by simp [f__law_entry_name, b__law_entry_name, hp2, PyData.isTuple, e1, hb, entryN, h2]⟩
        | true =>
          cases k with
          | int i => 
            refine ⟨[.lst [.dat (.int 8), .dat (.int 99)]], ?_⟩
            by_cases hi : 1 ≤ i <;> by_cases hj : i ≤ most p <;> simp [f__law_entry_name, b__law_entry_name, hp2, PyData.isTuple, e1, e2, e3, hb, entryN, h2, numIn, isNum, hi, hj]
          | _ => exact ⟨[.lst [.dat (.int 8), .dat (.int 99)]], by simp [f__law_entry_name, b__law_entry_name, hp2, PyData.isTuple, e1, e2, e3, hb, entryN, h2, numIn, isNum]⟩
      · have hl2 : ((es.length : Int) == 2) = false := by simp; omega
        have en : entryN p (.tuple es) = .none := by
          unfold entryN
          rw [if_neg h2]
          split
          · rename_i n k z
            cases z
            exact absurd rfl hl
          · rfl
        exact ⟨[], by simp [f__law_entry_name, b__law_entry_name, hp2, PyData.isTuple, hl2, en]⟩
    | _ => exact ⟨[], by simp [f__law_entry_name, b__law_entry_name, hp2, PyData.isTuple, entryN, h2]⟩
end K00

set_option Elab.async false
set_option linter.all false
set_option maxRecDepth 100000
set_option maxHeartbeats 1000000
namespace K00
open PySem PySem.Spec PyProof.Rows L2 DL
open Classical
/-! ### made_ground -/
def trip : PyData → Option (List PyData × List PyData × List PyData)
  | .tuple [.tuple a, .tuple b, .tuple c] => some (a, b, c)
  | _ => none
theorem trip_some {d : PyData} {r} (h : trip d = some r) : d = .tuple [.tuple r.1, .tuple r.2.1, .tuple r.2.2] := by
  unfold trip at h
  split at h
  · cases h; rfl
  · cases h
theorem trip_none3 {x y z : PyData} (h : trip (.tuple [x, y, z]) = none) : (x.isTuple && (y.isTuple && z.isTuple)) = false := by
  cases x <;> cases y <;> cases z <;> first | rfl | (simp [trip] at h)
theorem is_triple_ok (q : ErrC) (d : PyData) : ∃ G, f_is_triple_of_tuples q [.dat d] [] = .ok (.dat (.bool (trip d).isSome)) G := by
  cases d with
  | tuple es =>
    by_cases hl : es.length = 3
    · obtain ⟨x, y, z, rfl⟩ : ∃ x y z, es = [x, y, z] := by
        match es, hl with
        | [x, y, z], _ => exact ⟨x, y, z, rfl⟩
      have e2 : eAllG (srcSeq (eVar 0)) (aName 1) (eArgs gIsa (aCons (eVar 1) (aCons (eC (.ty "tuple")) aNil))) [1] [.d (.dat (.tuple [x, y, z])), .no] [] = .ok (.dat (.bool ([x, y, z].all PyData.isTuple))) [] := by
        refine eAllG_dat (chk := yesH) .dat (fun c => [.d (.dat (.tuple [x, y, z])), .d (.dat c)]) PyData.isTuple [x, y, z] ?_ trivial (fun x _ => ⟨rfl, ?_⟩) (by simp)
        · simp
        · simp
      have e3 : ([x, y, z].all PyData.isTuple) = (trip (.tuple [x, y, z])).isSome := by
        cases x <;> cases y <;> cases z <;> rfl
      rw [e3] at e2
      exact ⟨[], by simp [f_is_triple_of_tuples, b_is_triple_of_tuples, e2, PyData.isTuple]⟩
    · have hl2 : ((es.length : Int) == 3) = false := by simp; omega
      have en : trip (.tuple es) = none := by
        cases h : trip (.tuple es) with
        | none => rfl
        | some r =>
          have := trip_some h
          cases this
          exact absurd rfl hl
      exact ⟨[], by simp [f_is_triple_of_tuples, b_is_triple_of_tuples, hl2, en, PyData.isTuple]⟩
  | _ => exact ⟨[], by simp [f_is_triple_of_tuples, b_is_triple_of_tuples, PyData.isTuple, trip]⟩
def isNo : PyData → Bool
  | .none => true
  | _ => false
def badN (n : PyData) (ah : List PyData) : Bool := isNo n || ah.any fun y => PyData.eqv y n
def entsW (p : Nat) : Nat → List PyData → List PyData → PyData ⊕ List PyData
  | _, [], ah => .inr ah
  | i, e :: es, ah => if badN (entryN p e) ah then .inl (.tuple [.int p, .int i]) else entsW p (i + 1) es (ah ++ [entryN p e])
def sizeE : PyData → Int
  | .tuple [_, .int k] => k
  | _ => 1
def sizes (m : Int) (es : List PyData) : Int := es.foldl (fun m e => m * sizeE e) m
def mostE (p : Nat) : Nat := if p = 1 then 3 else 4
def partW (p : Nat) (es ah : List PyData) : PyData ⊕ List PyData := if decide (mostE p < es.length) || (decide (p = 2) && es.isEmpty) then .inl (.tuple [.int p, .int (-1)]) else match entsW p 0 es ah with
  | .inl w => .inl w
  | .inr ah' => if decide (p = 0) && decide (64 < sizes 1 es) then .inl (.tuple [.int 0, .int (-1)]) else .inr ah'
def faultT (a b c : List PyData) : Option PyData := match partW 0 a [] with
  | .inl w => some w
  | .inr ah => match partW 1 b ah with
    | .inl w => some w
    | .inr ah => match partW 2 c ah with
      | .inl w => some w
      | .inr _ => none
def fault (d : PyData) : Option PyData := match trip d with
  | none => some (.int (-1))
  | some (a, b, c) => faultT a b c
theorem entryN_cases (p : Nat) (e : PyData) : entryN p e = .none ∨ ∃ s, entryN p e = .str s ∧ (p ≠ 2 → ∃ k, e = .tuple [.str s, .int k] ∧ 1 ≤ k ∧ k ≤ most p) := by
  have hs : ∀ {n : PyData}, nmB n = true → ∃ s, n = .str s := fun {n} h => by
    cases n with
    | str s => exact ⟨s, rfl⟩
    | _ => cases h
  unfold entryN
  split
  · rename_i h2
    split
    · rename_i h
      obtain ⟨s, rfl⟩ := hs h
      exact .inr ⟨s, rfl, fun z => absurd h2 z⟩
    · exact .inl rfl
  · split
    · rename_i n k
      split
      · rename_i h
        rw [Bool.and_eq_true] at h
        obtain ⟨s, rfl⟩ := hs h.1
        cases k with
        | int k =>
          have := h.2
          simp only [numIn, Bool.and_eq_true, decide_eq_true_eq] at this
          exact .inr ⟨s, rfl, fun _ => ⟨k, rfl, this.1, this.2⟩⟩
        | _ => cases h.2
      · exact .inl rfl
    · exact .inl rfl
/-- all that has been met are texts -/
def Strs (ah : List PyData) : Prop := ∀ d ∈ ah, ∃ s, d = .str s
theorem Strs.depth {ah : List PyData} (h : Strs ah) : PyData.depthAll ah = 0 := depthAll_0 fun d hd => by
  obtain ⟨s, rfl⟩ := h d hd
  simp
theorem Strs.snoc {ah : List PyData} {s : Str} (h : Strs ah) : Strs (ah ++ [.str s]) := fun d hd => by
  rcases List.mem_append.mp hd with h1 | h1
  · exact h d h1
  · simp at h1; exact ⟨s, h1⟩
theorem in_ahead {ah : List PyData} {s : Str} {G : Hh} {l : Nat} (h : G[l]? = some (.lst (ah.map .dat))) (hs : Strs ah) : inD (.dat (.str s)) (.ref l) G = some (ah.any fun y => PyData.eqv y (.str s)) := by
  rw [inD_view (a := ah) (by simp [h]), if_pos (by rw [hs.depth]; simp)]
noncomputable def mgIn (q : ErrC) : SS := (sSeq (sAsg (eCallA 2 (relCall (f_entry_name q)) (aCons (eVar 2) (aCons (eVar 5) aNil))) (aName 6))
    (sSeq (sIf (sOr (tTest' truB (eBin gIs (eVar 6) (eC (.dat .none)))) (tTest' truB (eBin gIn (eVar 6) (eVar 1)))) (sRaise q.BadGround (eArgs gTupD (aCons (eVar 2) (aCons (eVar 4) aNil)))) sNil)
    (sDrop (eMet isLst gAppend (eVar 1) (aCons (eVar 6) aNil)))))
theorem mg_in (q : ErrC) (p : Nat) (hp : p ≤ 2) (th en : D) : ∀ (es ah : List PyData) (i : Nat) (s4 s5 s6 : Sl), (∀ e ∈ es, ShE e) → Strs ah → ah.length + es.length ≤ 1000 →
    ∃ s4' s5' s6' env G, forL (aTup [aName 4, aName 5]) (mgIn q) yesH (enumF i (es.map .dat)) [.d th, .d (.ref 0), .d (.dat (.int p)), .d en, s4, s5, s6] [.lst (ah.map .dat)] =
      (match entsW p i es ah with
      | .inl w => .ex q.BadGround (.dat w) env G
      | .inr ah' => .nx [.d th, .d (.ref 0), .d (.dat (.int p)), .d en, s4', s5', s6'] [.lst (ah'.map .dat)]) ∧ ∀ ah', entsW p i es ah = .inr ah' → Strs ah' ∧ ah'.length = ah.length + es.length
  | [], ah, i, s4, s5, s6, _, hs, _ => ⟨s4, s5, s6, [], [], by
      rw [List.map_nil, enumF, forL_nil trivial]
      rfl, fun ah' h => by
      have : ah = ah' := by simpa [entsW] using h
      subst this
      exact ⟨hs, rfl⟩⟩
  | e :: es, ah, i, s4, s5, s6, he, hs, hn => by
    have e1 := fun G => call0 (G := G) (entry_name_ok q p hp e (he e List.mem_cons_self))
    have ha : aTup [aName 4, aName 5] (mkTup [.dat (.int i), .dat e]) [.d th, .d (.ref 0), .d (.dat (.int p)), .d en, s4, s5, s6] [.lst (ah.map .dat)] = some ([.d th, .d (.ref 0), .d (.dat (.int p)), .d en, .d (.dat (.int i)), .d (.dat e), s6], [.lst (ah.map .dat)]) := by simp
    rw [List.map_cons, enumF, entsW]
    by_cases hb : badN (entryN p e) ah = true
    · rw [if_pos hb]
      refine ⟨s4, s5, s6, [.d th, .d (.ref 0), .d (.dat (.int p)), .d en, .d (.dat (.int i)), .d (.dat e), .d (.dat (entryN p e))], [.lst (ah.map .dat)], ?_, fun ah' h => by cases h⟩
      refine forL_ex trivial ha ?_
      rcases entryN_cases p e with z | ⟨s, z, _⟩
      · rw [z] at e1 ⊢
        simp [mgIn, e1]
      · rw [z] at e1 hb ⊢
        have hb2 : (ah.any fun y => PyData.eqv y (.str s)) = true := by simpa [badN, isNo] using hb
        have e2 := in_ahead (G := [.lst (ah.map .dat)]) (l := 0) (s := s) rfl hs
        rw [hb2] at e2
        simp [mgIn, e1, e2]
    · rw [if_neg hb]
      rcases entryN_cases p e with z | ⟨s, z, _⟩
      · rw [z] at hb
        exact absurd rfl hb
      · rw [z] at e1 hb ⊢
        have hb2 : (ah.any fun y => PyData.eqv y (.str s)) = false := by simpa [badN, isNo] using hb
        have e2 := in_ahead (G := [.lst (ah.map .dat)]) (l := 0) (s := s) rfl hs
        rw [hb2] at e2
        obtain ⟨t4, t5, t6, env, G, h1, h2⟩ := mg_in q p hp th en es (ah ++ [.str s]) (i + 1) (.d (.dat (.int i))) (.d (.dat e)) (.d (.dat (.str s))) (fun x hx => he x (List.mem_cons_of_mem _ hx)) hs.snoc (by simp at hn ⊢; omega)
        refine ⟨t4, t5, t6, env, G, ?_, fun ah' h => ?_⟩
        · rw [← h1]
          refine forL_nx trivial ha ?_
          have hl : ah.length < 100000 := by simp at hn; omega
          simp [mgIn, e1, e2, hl]
        · obtain ⟨q1, q2⟩ := h2 ah' h
          exact ⟨q1, by simp at q2 ⊢; omega⟩
end K00

set_option Elab.async false
set_option linter.all false
set_option maxRecDepth 100000
set_option maxHeartbeats 1000000
namespace K00
open PySem PySem.Spec PyProof.Rows L2 DL
open Classical
/-- an entry of a cell as it should be -/
def CellE (e : PyData) : Prop := ∃ s k, e = .tuple [.str s, .int k] ∧ 1 ≤ k ∧ k ≤ 8
theorem soc_loop : ∀ (es : List PyData) (m : Int) (c s2 s3 : Sl), (∀ e ∈ es, CellE e) → ∃ s2' s3', forL (aTup [aName 2, aName 3]) (sAsg (eBin gMul (eVar 1) (eVar 3)) (aName 1)) yesH (es.map .dat) [c, .d (.dat (.int m)), s2, s3] [] = .nx [c, .d (.dat (.int (sizes m es))), s2', s3'] []
  | [], m, c, s2, s3, _ => ⟨s2, s3, forL_nil trivial⟩
  | e :: es, m, c, s2, s3, h => by
    obtain ⟨s, k, rfl, h1, h2⟩ := h e List.mem_cons_self
    obtain ⟨t2, t3, ih⟩ := soc_loop es (m * k) c (.d (.dat (.str s))) (.d (.dat (.int k))) fun x hx => h x (List.mem_cons_of_mem _ hx)
    refine ⟨t2, t3, ?_⟩
    have hm : mulOk m k = true := mulOk_r (by omega)
    rw [List.map_cons, forL_nx (env1 := [c, .d (.dat (.int m)), .d (.dat (.str s)), .d (.dat (.int k))]) (G1 := []) (e := [c, .d (.dat (.int (m * k))), .d (.dat (.str s)), .d (.dat (.int k))]) (g := []) trivial (by simp) (by simp [hm])]
    exact ih
theorem soc_ok (q : ErrC) (es : List PyData) (h : ∀ e ∈ es, CellE e) : ∃ G, f_states_of_cells q [.dat (.tuple es)] [] = .ok (.dat (.int (sizes 1 es))) G := by
  obtain ⟨s2, s3, e⟩ := soc_loop es 1 (.d (.dat (.tuple es))) .no .no h
  have e2 : sFor (srcSeq (eVar 0)) (aTup [aName 2, aName 3]) (sAsg (eBin gMul (eVar 1) (eVar 3)) (aName 1)) [.d (.dat (.tuple es)), .d (.dat (.int 1)), .no, .no] [] = .nx [.d (.dat (.tuple es)), .d (.dat (.int (sizes 1 es))), s2, s3] [] := by
    rw [sFor_ok (xs := es.map .dat) (chk := yesH) (G1 := []) (by simp)]
    exact e
  exact ⟨[], by simp [f_states_of_cells, b_states_of_cells, e2]⟩
theorem entsW_cells : ∀ (es ah ah' : List PyData) (i : Nat), entsW 0 i es ah = .inr ah' → ∀ e ∈ es, CellE e
  | [], _, _, _, _ => fun e he => by cases he
  | e :: es, ah, ah', i, h => by
    rw [entsW] at h
    split at h
    · cases h
    · rename_i hb
      intro x hx
      rcases List.mem_cons.mp hx with rfl | hx
      · rcases entryN_cases 0 x with z | ⟨s, z, hk⟩
        · rw [z] at hb
          exact absurd rfl hb
        · obtain ⟨k, rfl, h1, h2⟩ := hk (by decide)
          exact ⟨s, k, rfl, h1, h2⟩
      · exact entsW_cells es _ _ _ h x hx
noncomputable def mgOut (q : ErrC) : SS := (sSeq (sIf (sOr (tTest' truB (eBin gGt (eArgs gLen (aCons (eVar 3) aNil)) (eBin gIx (eC (.dat (.tuple [(.int 4), (.int 3), (.int 4)]))) (eVar 2)))) (sAnd (tTest' truB (eBin gEq (eVar 2) (eC (.dat (.int 2))))) (sNot (tTest' tru (eVar 3))))) (sRaise q.BadGround (eArgs gTupD (aCons (eVar 2) (aCons (eUn gNeg (eC (.dat (.int 1)))) aNil)))) sNil)
    (sSeq (sFor (srcEnum (aCons (eVar 3) aNil)) (aTup [aName 4, aName 5]) (mgIn q))
    (sIf (sAnd (tTest' truB (eBin gEq (eVar 2) (eC (.dat (.int 0))))) (tTest' truB (eBin gGt (eCallA 1 (relCall (f_states_of_cells q)) (aCons (eVar 3) aNil)) (eC (.dat (.int 64)))))) (sRaise q.BadGround (eArgs gTupD (aCons (eC (.dat (.int 0))) (aCons (eUn gNeg (eC (.dat (.int 1)))) aNil)))) sNil)))
theorem mostE_at {p : Nat} (hp : p ≤ 2) : atI [PyData.int 4, PyData.int 3, PyData.int 4] (p : Int) = some (.int (mostE p)) := by
  rw [DL.atI_nat]
  have : p = 0 ∨ p = 1 ∨ p = 2 := by omega
  rcases this with rfl | rfl | rfl <;> rfl
theorem mg_out (q : ErrC) (p : Nat) (hp : p ≤ 2) (th : D) (es ah : List PyData) (s4 s5 s6 : Sl) (he : ∀ e ∈ es, ShE e) (hs : Strs ah) (hn : ah.length ≤ 100) (hes : es.length ≤ 100000) :
    ∃ s4' s5' s6' env G, mgOut q [.d th, .d (.ref 0), .d (.dat (.int p)), .d (.dat (.tuple es)), s4, s5, s6] [.lst (ah.map .dat)] = (match partW p es ah with
      | .inl w => .ex q.BadGround (.dat w) env G
      | .inr ah' => .nx [.d th, .d (.ref 0), .d (.dat (.int p)), .d (.dat (.tuple es)), s4', s5', s6'] [.lst (ah'.map .dat)]) ∧ ∀ ah', partW p es ah = .inr ah' → Strs ah' ∧ ah'.length ≤ ah.length + 4 := by
  have eb := mostE_at hp
  by_cases hb : (decide (mostE p < es.length) || (decide (p = 2) && es.isEmpty)) = true
  · refine ⟨s4, s5, s6, [.d th, .d (.ref 0), .d (.dat (.int p)), .d (.dat (.tuple es)), s4, s5, s6], [.lst (ah.map .dat)], ?_, fun ah' h => ?_⟩
    · unfold partW
      rw [if_pos hb]
      rw [Bool.or_eq_true, Bool.and_eq_true, decide_eq_true_eq, decide_eq_true_eq] at hb
      by_cases h1 : mostE p < es.length
      · have h1' : (mostE p : Int) < es.length := by omega
        simp [mgOut, eb, h1']
      · have h1' : ¬ (mostE p : Int) < es.length := by omega
        obtain ⟨rfl, h3⟩ := hb.resolve_left h1
        have : ((2 : Nat) : Int) = 2 := rfl
        obtain rfl : es = [] := List.isEmpty_iff.mp h3
        simp [mgOut, eb, h1']
    · unfold partW at h
      rw [if_pos hb] at h
      cases h
  · have hl : es.length ≤ mostE p := by
      by_cases h1 : mostE p < es.length
      · exact absurd (by simp [h1]) hb
      · omega
    have hm : mostE p ≤ 4 := by unfold mostE; split <;> omega
    obtain ⟨t4, t5, t6, env, G, h1, h2⟩ := mg_in q p hp th (.dat (.tuple es)) es ah 0 s4 s5 s6 he hs (by omega)
    have e2 := (sFor_ok (src := srcEnum (aCons (eVar 3) aNil)) (a := aTup [aName 4, aName 5]) (f := mgIn q) (env := [.d th, .d (.ref 0), .d (.dat (.int p)), .d (.dat (.tuple es)), s4, s5, s6]) (G := [.lst (ah.map .dat)]) (xs := enumF 0 (es.map .dat)) (chk := yesH) (G1 := [.lst (ah.map .dat)]) (by simp)).trans h1
    have h1' : ¬ (mostE p : Int) < es.length := by omega
    have hc : (decide ((p : Int) = 2) && es.isEmpty) = false := by
      have := (not_or.mp (fun z => hb (by rw [Bool.or_eq_true]; exact z))).2
      have e3 : decide ((p : Int) = 2) = decide (p = 2) := by
        by_cases h : p = 2
        · subst h; rfl
        · have : ¬ (p : Int) = 2 := by omega
          simp [h, this]
      rw [e3]
      simpa using this
    have hf : ∀ z, (sIf (sOr (tTest' truB (eBin gGt (eArgs gLen (aCons (eVar 3) aNil)) (eBin gIx (eC (.dat (.tuple [(.int 4), (.int 3), (.int 4)]))) (eVar 2)))) (sAnd (tTest' truB (eBin gEq (eVar 2) (eC (.dat (.int 2))))) (sNot (tTest' tru (eVar 3))))) (sRaise q.BadGround (eArgs gTupD (aCons (eVar 2) (aCons (eUn gNeg (eC (.dat (.int 1)))) aNil)))) sNil) [.d th, .d (.ref 0), .d (.dat (.int p)), .d (.dat (.tuple es)), s4, s5, s6] z = .nx [.d th, .d (.ref 0), .d (.dat (.int p)), .d (.dat (.tuple es)), s4, s5, s6] z := by
      intro z
      by_cases hp2 : (p : Int) = 2
      · have he : es.isEmpty = false := by simpa [hp2] using hc
        have h4 : ¬ (4 : Int) < es.length := by
          have : mostE p = 4 := by rw [show p = 2 by omega]; rfl
          omega
        simp [hp2, he]
        rw [if_neg h4]
        rfl
      · have : ((p : Int) == 2) = false := by simpa using hp2
        simp [eb, h1', this]
    unfold partW
    rw [if_neg hb]
    cases hw : entsW p 0 es ah with
    | inl w =>
      rw [hw] at e2
      refine ⟨s4, s5, s6, env, G, ?_, fun ah' h => by cases h⟩
      unfold mgOut
      simp only [e_sSeq, hf, e2]
    | inr ah' =>
      rw [hw] at e2
      obtain ⟨q1, q2⟩ := h2 ah' hw
      by_cases hp0 : p = 0
      · subst hp0
        have es1 := fun G => call0 (G := G) (soc_ok q es (entsW_cells es ah ah' 0 hw))
        by_cases h64 : 64 < sizes 1 es
        · refine ⟨s4, s5, s6, [.d th, .d (.ref 0), .d (.dat (.int 0)), .d (.dat (.tuple es)), t4, t5, t6], [.lst (ah'.map .dat)], ?_, fun ah2 h => ?_⟩
          · unfold mgOut
            simp only [e_sSeq, hf, e2]
            simp [es1, h64]
          · simp [h64] at h
        · refine ⟨t4, t5, t6, [], [], ?_, fun ah2 h => ?_⟩
          · unfold mgOut
            simp only [e_sSeq, hf, e2]
            simp [es1, h64]
          · have : ah' = ah2 := by simpa [h64] using h
            subst this
            exact ⟨q1, by omega⟩
      · have hp' : ((p : Int) == 0) = false := by simp; omega
        refine ⟨t4, t5, t6, [], [], ?_, fun ah2 h => ?_⟩
        · unfold mgOut
          simp only [e_sSeq, hf, e2]
          simp [hp', hp0]
        · have : ah' = ah2 := by simpa [hp0] using h
          subst this
          exact ⟨q1, by omega⟩
/-- what is looked at: texts not too long, tuples not too long -/
structure Thing (d : PyData) : Prop where
  sh : ∀ a b c, trip d = some (a, b, c) → (∀ e ∈ a ++ b ++ c, ShE e) ∧ a.length ≤ 100000 ∧ b.length ≤ 100000 ∧ c.length ≤ 100000
theorem made_ground_ok (q : ErrC) (d : PyData) (hd : Thing d) : ∃ G, f_made_ground q [.dat d] [] = (match fault d with
    | some w => .ex q.BadGround (.dat w) G
    | none => .ok (.dat d) G) := by
  have e1 := fun G => call0 (G := G) (is_triple_ok q d)
  unfold fault
  cases ht : trip d with
  | none => 
    rw [ht] at e1
    exact ⟨[], by simp [f_made_ground, b_made_ground, e1]⟩
  | some r =>
    obtain ⟨a, b, c⟩ := r
    rw [ht] at e1
    obtain ⟨hsh, ha, hb, hc⟩ := hd.sh a b c ht
    have := trip_some ht
    subst this
    have hout : f_made_ground q = fnD 7 (sSeq (sIf (sNot (tTest' tru (eCallA 1 (relCall (f_is_triple_of_tuples q)) (aCons (eVar 0) aNil)))) (sRaise q.BadGround (eUn gNeg (eC (.dat (.int 1))))) sNil)
      (sSeq (sAsg (eArgs gLstD aNil) (aName 1)) (sSeq (sFor (srcEnum (aCons (eVar 0) aNil)) (aTup [aName 2, aName 3]) (mgOut q)) (sRet (eVar 0))))) := rfl
    rw [hout]
    dsimp only
    obtain ⟨x4, x5, x6, env0, G0, p0, r0⟩ := mg_out q 0 (by decide) (.dat (.tuple [.tuple a, .tuple b, .tuple c])) a [] .no .no .no (fun e he => hsh e (by simp [he])) (fun d hd => by cases hd) (by simp) ha
    have hsrc : srcEnum (aCons (eVar 0) aNil) [.d (.dat (.tuple [.tuple a, .tuple b, .tuple c])), .d (.ref 0), .no, .no, .no, .no, .no] [.lst []] = .ok (enumF 0 ([.tuple a, .tuple b, .tuple c].map .dat)) yesH [.lst []] := by simp
    have key : ∃ env G, sFor (srcEnum (aCons (eVar 0) aNil)) (aTup [aName 2, aName 3]) (mgOut q) [.d (.dat (.tuple [.tuple a, .tuple b, .tuple c])), .d (.ref 0), .no, .no, .no, .no, .no] [.lst []] = (match faultT a b c with
        | some w => .ex q.BadGround (.dat w) env G
        | none => .nx (.d (.dat (.tuple [.tuple a, .tuple b, .tuple c])) :: env) G) := by
      rw [sFor_ok hsrc]
      unfold faultT
      have hat : ∀ (p : Nat) (e : PyData) (u1 u2 u3 u4 u5 u6 : Sl) (G : Hh), aTup [aName 2, aName 3] (mkTup [.dat (.int p), .dat e]) [.d (.dat (.tuple [.tuple a, .tuple b, .tuple c])), u1, u2, u3, u4, u5, u6] G = some ([.d (.dat (.tuple [.tuple a, .tuple b, .tuple c])), u1, .d (.dat (.int p)), .d (.dat e), u4, u5, u6], G) := by
        intro p e u1 u2 u3 u4 u5 u6 G
        simp
      cases h0 : partW 0 a [] with
      | inl w =>
        rw [h0] at p0
        refine ⟨env0, G0, ?_⟩
        exact forL_ex (chk := yesH) trivial (hat 0 _ _ _ _ _ _ _ _) p0
      | inr ah0 =>
        rw [h0] at p0
        obtain ⟨s0, l0⟩ := r0 ah0 h0
        obtain ⟨y4, y5, y6, env1, G1, p1, r1⟩ := mg_out q 1 (by decide) (.dat (.tuple [.tuple a, .tuple b, .tuple c])) b ah0 x4 x5 x6 (fun e he => hsh e (by simp [he])) s0 (by simp at l0; omega) hb
        dsimp only
        cases h1 : partW 1 b ah0 with
        | inl w =>
          rw [h1] at p1
          refine ⟨env1, G1, ?_⟩
          refine (forL_nx (chk := yesH) trivial (hat 0 _ _ _ _ _ _ _ _) p0).trans ?_
          exact forL_ex (chk := yesH) trivial (hat 1 _ _ _ _ _ _ _ _) p1
        | inr ah1 =>
          rw [h1] at p1
          obtain ⟨s1, l1⟩ := r1 ah1 h1
          obtain ⟨z4, z5, z6, env2, G2, p2, r2⟩ := mg_out q 2 (by decide) (.dat (.tuple [.tuple a, .tuple b, .tuple c])) c ah1 y4 y5 y6 (fun e he => hsh e (by simp [he])) s1 (by simp at l0; omega) hc
          dsimp only
          cases h2 : partW 2 c ah1 with
          | inl w =>
            rw [h2] at p2
            refine ⟨env2, G2, ?_⟩
            refine (forL_nx (chk := yesH) trivial (hat 0 _ _ _ _ _ _ _ _) p0).trans ?_
            refine (forL_nx (chk := yesH) trivial (hat 1 _ _ _ _ _ _ _ _) p1).trans ?_
            exact forL_ex (chk := yesH) trivial (hat 2 _ _ _ _ _ _ _ _) p2
          | inr ah2 =>
            rw [h2] at p2
            refine ⟨[.d (.ref 0), .d (.dat (.int 2)), .d (.dat (.tuple c)), z4, z5, z6], [.lst (ah2.map .dat)], ?_⟩
            refine (forL_nx (chk := yesH) trivial (hat 0 _ _ _ _ _ _ _ _) p0).trans ?_
            refine (forL_nx (chk := yesH) trivial (hat 1 _ _ _ _ _ _ _ _) p1).trans ?_
            refine (forL_nx (chk := yesH) trivial (hat 2 _ _ _ _ _ _ _ _) p2).trans ?_
            exact forL_nil (chk := yesH) trivial
    obtain ⟨env, G, key⟩ := key
    refine ⟨G, ?_⟩
    generalize sFor (srcEnum (aCons (eVar 0) aNil)) (aTup [aName 2, aName 3]) (mgOut q) = S at key ⊢
    cases hf : faultT a b c <;> rw [hf] at key <;> simp [e1, key]
end K00

set_option Elab.async false
set_option linter.all false
set_option maxRecDepth 100000
set_option maxHeartbeats 1000000
namespace K00
open PySem PySem.Spec PyProof.Rows L2 DL
open Classical
/-! ### the law's own walk -/
theorem rngD_succ (k : Int) (n : Nat) : rngD k (n + 1) = .dat (.int k) :: rngD (k + 1) n := by
  unfold rngD
  rw [List.range_succ_eq_map, List.map_cons, List.map_map]
  congr 1
  · simp
  · apply List.map_congr_left
    intro i _
    simp
    omega
theorem sizes_snoc (m : Int) (es : List PyData) (e : PyData) : sizes m (es ++ [e]) = sizes m es * sizeE e := by
  unfold sizes
  rw [List.foldl_append]
  rfl
def manyE (p : Nat) (es : List PyData) : Int := if p = 0 then sizes 1 es else 1
noncomputable def lfIn (q : ErrC) : SS := (sSeq (sAsg (eCallA 2 (relCall (f__law_entry_name q)) (aCons (eVar 1) (aCons (eBin gIx (eBin gIx (eVar 0) (eVar 1)) (eVar 4)) aNil))) (aName 5))
    (sSeq (sIf (sOr (tTest' truB (eBin gIs (eVar 5) (eC (.dat .none)))) (tTest' truB (eBin gIn (eVar 5) (eVar 2)))) (sRet (eArgs gTupD (aCons (eVar 1) (aCons (eVar 4) aNil)))) sNil)
    (sSeq (sDrop (eMet isLst gAppend (eVar 2) (aCons (eVar 5) aNil)))
    (sAsg (eBin gMul (eVar 3) (eIf (tTest' truB (eBin gEq (eVar 1) (eC (.dat (.int 0))))) (eBin gIx (eBin gIx (eBin gIx (eVar 0) (eVar 1)) (eVar 4)) (eC (.dat (.int 1)))) (eC (.dat (.int 1))))) (aName 3)))))
theorem lf_in (q : ErrC) (p : Nat) (hp : p ≤ 2) (T es : List PyData) (hT : atI T (p : Int) = some (.tuple es)) (A B : MO) (tail : Hh) : ∀ (rest pre ah : List PyData) (s4 s5 : Sl), es = pre ++ rest → (∀ e ∈ es, ShE e) → Strs ah → ah.length + rest.length ≤ 1000 →
    ∃ s4' s5' G, forL (aName 4) (lfIn q) yesH (rngD pre.length rest.length) [.d (.dat (.tuple T)), .d (.dat (.int p)), .d (.ref 2), .d (.dat (.int (manyE p pre))), s4, s5] (A :: B :: .lst (ah.map .dat) :: tail) =
      (match entsW p pre.length rest ah with
      | .inl w => .rt (.dat w) G
      | .inr ah' => .nx [.d (.dat (.tuple T)), .d (.dat (.int p)), .d (.ref 2), .d (.dat (.int (manyE p es))), s4', s5'] (A :: B :: .lst (ah'.map .dat) :: tail)) ∧ ∀ ah', entsW p pre.length rest ah = .inr ah' → Strs ah' ∧ ah'.length = ah.length + rest.length
  | [], pre, ah, s4, s5, hE, _, hs, _ => ⟨s4, s5, [], by
      have : es = pre := by simpa using hE
      subst this
      rw [show rngD (es.length : Int) ([] : List PyData).length = [] from rfl, forL_nil trivial]
      rfl, fun ah' h => by
      have : ah = ah' := by simpa [entsW] using h
      subst this
      exact ⟨hs, rfl⟩⟩
  | e :: rest, pre, ah, s4, s5, hE, he, hs, hn => by
    have hmem : e ∈ es := by rw [hE]; simp
    have e1 := fun G => call0 (G := G) (law_entry_name_ok q p hp e (he e hmem))
    have eAt : atI es (pre.length : Int) = some e := by rw [DL.atI_nat, hE]; simp
    rw [List.length_cons, rngD_succ, entsW]
    by_cases hb : badN (entryN p e) ah = true
    · rw [if_pos hb]
      refine ⟨s4, s5, A :: B :: .lst (ah.map .dat) :: tail, ?_, fun ah' h => by cases h⟩
      refine forL_rt (env1 := [.d (.dat (.tuple T)), .d (.dat (.int p)), .d (.ref 2), .d (.dat (.int (manyE p pre))), .d (.dat (.int pre.length)), s5]) (G1 := A :: B :: .lst (ah.map .dat) :: tail) trivial rfl ?_
      rcases entryN_cases p e with z | ⟨s, z, _⟩
      · rw [z] at e1
        simp [lfIn, e1, hT, eAt]
      · rw [z] at e1 hb
        have hb2 : (ah.any fun y => PyData.eqv y (.str s)) = true := by simpa [badN, isNo] using hb
        have e2 := in_ahead (G := A :: B :: .lst (ah.map .dat) :: tail) (l := 2) (s := s) rfl hs
        rw [hb2] at e2
        simp [lfIn, e1, e2, hT, eAt]
    · rw [if_neg hb]
      rcases entryN_cases p e with z | ⟨s, z, hk⟩
      · rw [z] at hb
        exact absurd rfl hb
      · rw [z] at e1 hb ⊢
        have hb2 : (ah.any fun y => PyData.eqv y (.str s)) = false := by simpa [badN, isNo] using hb
        have e2 := in_ahead (G := A :: B :: .lst (ah.map .dat) :: tail) (l := 2) (s := s) rfl hs
        rw [hb2] at e2
        obtain ⟨t4, t5, G, h1, h2⟩ := lf_in q p hp T es hT A B tail rest (pre ++ [e]) (ah ++ [.str s]) (.d (.dat (.int pre.length))) (.d (.dat (.str s))) (by rw [hE]; simp) he hs.snoc (by simp at hn ⊢; omega)
        have hl2 : (pre ++ [e]).length = pre.length + 1 := by simp
        rw [hl2] at h1 h2
        refine ⟨t4, t5, G, ?_, fun ah' h => ?_⟩
        · rw [← h1]
          have hl : ah.length < 100000 := by simp at hn; omega
          refine forL_nx (env1 := [.d (.dat (.tuple T)), .d (.dat (.int p)), .d (.ref 2), .d (.dat (.int (manyE p pre))), .d (.dat (.int pre.length)), s5]) (G1 := A :: B :: .lst (ah.map .dat) :: tail) trivial rfl ?_
          by_cases hp0 : p = 0
          · subst hp0
            obtain ⟨k, rfl, k1, k2⟩ := hk (by decide)
            have k2' : k ≤ 8 := k2
            have hm : ∀ x, mulOk x k = true := fun x => mulOk_r (by omega)
            have hT0 : T[0]? = some (.tuple es) := by rw [← hT]; exact (DL.atI_nat T 0).symm
            have hM : manyE 0 (pre ++ [.tuple [.str s, .int k]]) = manyE 0 pre * k := by
              unfold manyE
              rw [if_pos rfl, if_pos rfl, sizes_snoc]
              rfl
            rw [hM]
            have e1' : ∀ G, relCall (f__law_entry_name q) [.dat (.int 0), .dat (.tuple [.str s, .int k])] G = .ok (.dat (.str s)) G := e1
            simp [lfIn, e1', e2, hT0, eAt, hl, hm]
          · have hp' : ((p : Int) == 0) = false := by simp; omega
            have hM : ∀ x, manyE p x = 1 := fun x => by unfold manyE; rw [if_neg hp0]
            have hm : mulOk 1 1 = true := by decide
            rw [hM, hM]
            simp [lfIn, e1, e2, hT, eAt, hl, hp', hm]
        · obtain ⟨q1, q2⟩ := h2 ah' h
          exact ⟨q1, by simp at q2 ⊢; omega⟩
noncomputable def lfOut (q : ErrC) : SS := (sSeq (sIf (sOr (tTest' truB (eBin gGt (eArgs gLen (aCons (eBin gIx (eVar 0) (eVar 1)) aNil)) (eBin gIx (eArgs gLstD (aCons (eC (.dat (.int 4))) (aCons (eC (.dat (.int 3))) (aCons (eC (.dat (.int 4))) aNil)))) (eVar 1)))) (sAnd (tTest' truB (eBin gEq (eVar 1) (eC (.dat (.int 2))))) (tTest' truB (eBin gEq (eBin gIx (eVar 0) (eVar 1)) (eArgs gTupD aNil))))) (sRet (eArgs gTupD (aCons (eVar 1) (aCons (eUn gNeg (eC (.dat (.int 1)))) aNil)))) sNil)
    (sSeq (sAsg (eC (.dat (.int 1))) (aName 3))
    (sSeq (sFor (srcRange1 (aCons (eArgs gLen (aCons (eBin gIx (eVar 0) (eVar 1)) aNil)) aNil)) (aName 4) (lfIn q))
    (sIf (tTest' truB (eBin gGt (eVar 3) (eC (.dat (.int 64))))) (sRet (eArgs gTupD (aCons (eVar 1) (aCons (eUn gNeg (eC (.dat (.int 1)))) aNil)))) sNil))))
def L434 : MO := .lst [.dat (.int 4), .dat (.int 3), .dat (.int 4)]
theorem mostE_atD {p : Nat} (hp : p ≤ 2) : atI [D.dat (PyData.int 4), D.dat (PyData.int 3), D.dat (PyData.int 4)] (p : Int) = some (.dat (.int (mostE p))) := by
  rw [DL.atI_nat]
  have : p = 0 ∨ p = 1 ∨ p = 2 := by omega
  rcases this with rfl | rfl | rfl <;> rfl
theorem eqv_tnil {a : List PyData} : PyData.eqv (.tuple a) (.tuple []) = a.isEmpty := by
  cases a <;> simp [PyData.eqv, PyData.eqvAll]
theorem depth_tnil : (PyData.tuple []).depth = 1 := by simp [PyData.depth, PyData.depthAll]
theorem lf_out (q : ErrC) (p : Nat) (hp : p ≤ 2) (T es : List PyData) (hT : atI T (p : Int) = some (.tuple es)) (A B : MO) (tail : Hh) (ah : List PyData) (s3 s4 s5 : Sl) (he : ∀ e ∈ es, ShE e) (hs : Strs ah) (hn : ah.length ≤ 100) :
    ∃ s3' s4' s5' G tail', lfOut q [.d (.dat (.tuple T)), .d (.dat (.int p)), .d (.ref 2), s3, s4, s5] (A :: B :: .lst (ah.map .dat) :: tail) = (match partW p es ah with
      | .inl w => .rt (.dat w) G
      | .inr ah' => .nx [.d (.dat (.tuple T)), .d (.dat (.int p)), .d (.ref 2), s3', s4', s5'] (A :: B :: .lst (ah'.map .dat) :: tail')) ∧ ∀ ah', partW p es ah = .inr ah' → Strs ah' ∧ ah'.length ≤ ah.length + 4 := by
  have eb := mostE_atD hp
  have hif : ∃ G, (sIf (sOr (tTest' truB (eBin gGt (eArgs gLen (aCons (eBin gIx (eVar 0) (eVar 1)) aNil)) (eBin gIx (eArgs gLstD (aCons (eC (.dat (.int 4))) (aCons (eC (.dat (.int 3))) (aCons (eC (.dat (.int 4))) aNil)))) (eVar 1)))) (sAnd (tTest' truB (eBin gEq (eVar 1) (eC (.dat (.int 2))))) (tTest' truB (eBin gEq (eBin gIx (eVar 0) (eVar 1)) (eArgs gTupD aNil))))) (sRet (eArgs gTupD (aCons (eVar 1) (aCons (eUn gNeg (eC (.dat (.int 1)))) aNil)))) sNil) [.d (.dat (.tuple T)), .d (.dat (.int p)), .d (.ref 2), s3, s4, s5] (A :: B :: .lst (ah.map .dat) :: tail)
      = if decide (mostE p < es.length) || (decide (p = 2) && es.isEmpty) then .rt (.dat (.tuple [.int p, .int (-1)])) G else .nx [.d (.dat (.tuple T)), .d (.dat (.int p)), .d (.ref 2), s3, s4, s5] (A :: B :: .lst (ah.map .dat) :: (tail ++ [L434])) := by
    refine ⟨A :: B :: .lst (ah.map .dat) :: (tail ++ [L434]), ?_⟩
    unfold L434
    by_cases h1 : mostE p < es.length
    · have h1' : (mostE p : Int) < es.length := by omega
      simp [hT, eb, h1, h1']
    · have h1' : ¬ (mostE p : Int) < es.length := by omega
      by_cases hp2 : p = 2
      · subst hp2
        have h4 : ¬ (4 : Int) < es.length := h1'
        have hT2 : T[2]? = some (.tuple es) := by rw [← hT]; exact (DL.atI_nat T 2).symm
        have h1'' : ¬ mostE 2 < es.length := h1
        cases he : es.isEmpty <;> simp [hT2, h1'', h4, eqv_tnil, depth_tnil, he, show min (PyData.tuple es).depth 1 ≤ 60 by omega]
      · have hp' : ((p : Int) == 2) = false := by simp; omega
        simp [hT, eb, h1, h1', hp2, hp']
  obtain ⟨G0, hif⟩ := hif
  unfold partW
  by_cases hb : (decide (mostE p < es.length) || (decide (p = 2) && es.isEmpty)) = true
  · rw [if_pos hb] at hif ⊢
    refine ⟨s3, s4, s5, G0, [], ?_, fun ah' h => by cases h⟩
    unfold lfOut
    rw [e_sSeq, hif]
  · rw [if_neg hb] at hif ⊢
    have hl : es.length ≤ mostE p := by
      by_cases h1 : mostE p < es.length
      · exact absurd (by simp [h1]) hb
      · omega
    have hm : mostE p ≤ 4 := by unfold mostE; split <;> omega
    obtain ⟨t4, t5, G, h1, h2⟩ := lf_in q p hp T es hT A B (tail ++ [L434]) es [] ah s4 s5 rfl he hs (by omega)
    have hM0 : manyE p [] = 1 := by unfold manyE; split <;> rfl
    rw [hM0] at h1
    have hok : okR (es.length : Int) := by unfold okR; omega
    have e2 := (sFor_ok (src := srcRange1 (aCons (eArgs gLen (aCons (eBin gIx (eVar 0) (eVar 1)) aNil)) aNil)) (a := aName 4) (f := lfIn q) (env := [.d (.dat (.tuple T)), .d (.dat (.int p)), .d (.ref 2), .d (.dat (.int 1)), s4, s5]) (G := A :: B :: .lst (ah.map .dat) :: (tail ++ [L434]))
      (xs := rngD 0 es.length) (chk := yesH) (G1 := A :: B :: .lst (ah.map .dat) :: (tail ++ [L434])) (by simp [hT, hok])).trans h1
    have ek : ∀ w : RS, (match w with
      | .nx e G1 => (RS.nx e G1)
      | r => r) = w := fun w => by cases w <;> rfl
    cases hw : entsW p 0 es ah with
    | inl w =>
      have hw' : entsW p ([] : List PyData).length es ah = .inl w := hw
      rw [hw'] at e2
      refine ⟨s3, s4, s5, G, [], ?_, fun ah' h => by cases h⟩
      unfold lfOut
      rw [e_sSeq, hif]
      simp [e2]
    | inr ah' =>
      have hw' : entsW p ([] : List PyData).length es ah = .inr ah' := hw
      rw [hw'] at e2
      obtain ⟨q1, q2⟩ := h2 ah' hw'
      by_cases h64 : (decide (p = 0) && decide (64 < sizes 1 es)) = true
      · rw [Bool.and_eq_true, decide_eq_true_eq, decide_eq_true_eq] at h64
        obtain ⟨hp0, h65⟩ := h64
        have hM : manyE p es = sizes 1 es := by unfold manyE; rw [if_pos hp0]
        have hpi : (p : Int) = 0 := by omega
        rw [hM] at e2
        refine ⟨s3, s4, s5, A :: B :: .lst (ah'.map .dat) :: (tail ++ [L434]), [], ?_, fun ah2 h => ?_⟩
        · unfold lfOut
          rw [e_sSeq, hif]
          simp only [e_sSeq, e_sAsg, e_eC, aName, List.set_cons_succ, List.set_cons_zero, e2]
          simp [h65, hp0]
        · simp [h65, hp0] at h
      · have h65 : ¬ 64 < manyE p es := by
          unfold manyE
          split
          · rename_i z
            subst z
            intro z2
            exact h64 (by simp [z2])
          · omega
        refine ⟨.d (.dat (.int (manyE p es))), t4, t5, [], tail ++ [L434], ?_, fun ah2 h => ?_⟩
        · unfold lfOut
          dsimp only
          rw [if_neg h64, e_sSeq, hif]
          simp [e2, h65]
        · dsimp only at h
          rw [if_neg h64] at h
          cases h
          exact ⟨q1, by omega⟩
end K00

set_option Elab.async false
set_option linter.all false
set_option maxRecDepth 100000
set_option maxHeartbeats 1000000
namespace K00
open PySem PySem.Spec PyProof.Rows L2 DL
open Classical
def told (d : PyData) : PyData := match fault d with
  | some w => w
  | none => .none
theorem filter3 (x y z : PyData) : (([x, y, z].filter fun x => !x.isTuple).isEmpty) = (trip (.tuple [x, y, z])).isSome := by
  cases x <;> cases y <;> cases z <;> rfl
noncomputable def lfHead : SS := (sIf (sOr (sNot (tTest' tru (eArgs gIsa (aCons (eVar 0) (aCons (eC (.ty "tuple")) aNil))))) (sOr (tTest' truB (eBin gNe (eArgs gLen (aCons (eVar 0) aNil)) (eC (.dat (.int 3))))) (tTest' truB (eBin gNe (eLc (srcSeq (eVar 0)) (aName 1) (sNot (tTest' tru (eArgs gIsa (aCons (eVar 1) (aCons (eC (.ty "tuple")) aNil))))) (eVar 1) [1]) (eArgs gLstD aNil))))) (sRet (eUn gNeg (eC (.dat (.int 1))))) sNil)
theorem lf_head (d : PyData) : ∃ G, lfHead [.d (.dat d), .no, .no, .no, .no, .no] [] = (match trip d with
    | none => .rt (.dat (.int (-1))) G
    | some _ => .nx [.d (.dat d), .no, .no, .no, .no, .no] [.lst [], .lst []]) := by
  cases d with
  | tuple es =>
    by_cases hl : es.length = 3
    · obtain ⟨x, y, z, rfl⟩ : ∃ x y z, es = [x, y, z] := by
        match es, hl with
        | [x, y, z], _ => exact ⟨x, y, z, rfl⟩
      have e2 : eLc (srcSeq (eVar 0)) (aName 1) (sNot (tTest' tru (eArgs gIsa (aCons (eVar 1) (aCons (eC (.ty "tuple")) aNil))))) (eVar 1) [1] [.d (.dat (.tuple [x, y, z])), .no, .no, .no, .no, .no] [] = .ok (.ref 0) [.lst ((([x, y, z].filter fun x => !x.isTuple).map id).map .dat)] := by
        refine eLc_dat (G1 := []) .dat (fun c => [.d (.dat (.tuple [x, y, z])), .d (.dat c), .no, .no, .no, .no]) (fun x => !x.isTuple) id [x, y, z] ?_ (fun x _ g => ⟨rfl, ?_, fun _ => ?_⟩) ?_
        · simp
        · simp
        · simp
        · simp
      have e3 := ne_nil (G := [.lst ((([x, y, z].filter fun x => !x.isTuple).map id).map .dat), .lst []]) (l := 0) (m := 1) rfl dats_map rfl
      rw [List.map_id] at e2 e3
      rw [filter3] at e3
      have e4 : (trip (.tuple [x, y, z])).isSome = true → ([x, y, z].filter fun x => !x.isTuple) = [] := fun h => by
        rw [← filter3] at h
        exact List.isEmpty_iff.mp h
      generalize ([x, y, z].filter fun x => !x.isTuple) = F at e2 e3 e4
      refine ⟨[.lst (F.map .dat), .lst []], ?_⟩
      unfold lfHead
      generalize eLc (srcSeq (eVar 0)) (aName 1) (sNot (tTest' tru (eArgs gIsa (aCons (eVar 1) (aCons (eC (.ty "tuple")) aNil))))) (eVar 1) [1] = X at e2
      cases ht : trip (.tuple [x, y, z]) with
      | none =>
        rw [ht] at e3
        simp [PyData.isTuple, e2, e3]
      | some r =>
        rw [ht] at e3 e4
        obtain rfl := e4 rfl
        simp at e2 e3
        simp [PyData.isTuple, e2, e3]
    · have hl2 : ((es.length : Int) == 3) = false := by simp; omega
      have en : trip (.tuple es) = none := by
        cases h : trip (.tuple es) with
        | none => rfl
        | some r =>
          have := trip_some h
          cases this
          exact absurd rfl hl
      exact ⟨[], by simp [lfHead, hl2, en, PyData.isTuple]⟩
  | _ => exact ⟨[], by simp [lfHead, PyData.isTuple, trip]⟩
theorem law_fault_ok (q : ErrC) (d : PyData) (hd : Thing d) : ∃ G, f__law_fault q [.dat d] [] = .ok (.dat (told d)) G := by
  have hf : f__law_fault q = fnD 6 (sSeq lfHead (sSeq (sAsg (eArgs gLstD aNil) (aName 2)) (sSeq (sFor (srcRange1 (aCons (eC (.dat (.int 3))) aNil)) (aName 1) (lfOut q)) (sRet (eC (.dat .none)))))) := rfl
  rw [hf]
  obtain ⟨G, e1⟩ := lf_head d
  unfold told fault
  cases ht : trip d with
  | none =>
    rw [ht] at e1
    exact ⟨G, by simp [e1]⟩
  | some r =>
    obtain ⟨a, b, c⟩ := r
    rw [ht] at e1
    obtain ⟨hsh, ha, hb, hc⟩ := hd.sh a b c ht
    have := trip_some ht
    subst this
    dsimp only
    have hok : okR 3 := by unfold okR; omega
    have hsrc : srcRange1 (aCons (eC (.dat (.int 3))) aNil) [.d (.dat (.tuple [.tuple a, .tuple b, .tuple c])), .no, .d (.ref 2), .no, .no, .no] [.lst [], .lst [], .lst []] = .ok [.dat (.int (0 : Nat)), .dat (.int (1 : Nat)), .dat (.int (2 : Nat))] yesH [.lst [], .lst [], .lst []] := by
      simp [hok]
      rfl
    obtain ⟨x3, x4, x5, G0, t0, p0, r0⟩ := lf_out q 0 (by decide) [.tuple a, .tuple b, .tuple c] a rfl (.lst []) (.lst []) [] [] .no .no .no (fun e he => hsh e (by simp [he])) (fun d hd => by cases hd) (by simp)
    have key : ∃ env G, sFor (srcRange1 (aCons (eC (.dat (.int 3))) aNil)) (aName 1) (lfOut q) [.d (.dat (.tuple [.tuple a, .tuple b, .tuple c])), .no, .d (.ref 2), .no, .no, .no] [.lst [], .lst [], .lst []] = (match faultT a b c with
        | some w => .rt (.dat w) G
        | none => .nx env G) := by
      rw [sFor_ok hsrc]
      unfold faultT
      cases h0 : partW 0 a [] with
      | inl w =>
        rw [h0] at p0
        refine ⟨[], G0, ?_⟩
        exact forL_rt (chk := yesH) trivial rfl p0
      | inr ah0 =>
        rw [h0] at p0
        obtain ⟨s0, l0⟩ := r0 ah0 h0
        obtain ⟨y3, y4, y5, G1, t1, p1, r1⟩ := lf_out q 1 (by decide) [.tuple a, .tuple b, .tuple c] b rfl (.lst []) (.lst []) t0 ah0 x3 x4 x5 (fun e he => hsh e (by simp [he])) s0 (by simp at l0; omega)
        dsimp only
        cases h1 : partW 1 b ah0 with
        | inl w =>
          rw [h1] at p1
          refine ⟨[], G1, ?_⟩
          refine (forL_nx (chk := yesH) trivial rfl p0).trans ?_
          exact forL_rt (chk := yesH) trivial rfl p1
        | inr ah1 =>
          rw [h1] at p1
          obtain ⟨s1, l1⟩ := r1 ah1 h1
          obtain ⟨z3, z4, z5, G2, t2, p2, r2⟩ := lf_out q 2 (by decide) [.tuple a, .tuple b, .tuple c] c rfl (.lst []) (.lst []) t1 ah1 y3 y4 y5 (fun e he => hsh e (by simp [he])) s1 (by simp at l0; omega)
          dsimp only
          cases h2 : partW 2 c ah1 with
          | inl w =>
            rw [h2] at p2
            refine ⟨[], G2, ?_⟩
            refine (forL_nx (chk := yesH) trivial rfl p0).trans ?_
            refine (forL_nx (chk := yesH) trivial rfl p1).trans ?_
            exact forL_rt (chk := yesH) trivial rfl p2
          | inr ah2 =>
            rw [h2] at p2
            refine ⟨[.d (.dat (.tuple [.tuple a, .tuple b, .tuple c])), .d (.dat (.int (2 : Nat))), .d (.ref 2), z3, z4, z5], (.lst [] :: .lst [] :: .lst (ah2.map .dat) :: t2), ?_⟩
            refine (forL_nx (chk := yesH) trivial rfl p0).trans ?_
            refine (forL_nx (chk := yesH) trivial rfl p1).trans ?_
            refine (forL_nx (chk := yesH) trivial rfl p2).trans ?_
            exact forL_nil (chk := yesH) trivial
    obtain ⟨env, G2, key⟩ := key
    refine ⟨G2, ?_⟩
    generalize sFor (srcRange1 (aCons (eC (.dat (.int 3))) aNil)) (aName 1) (lfOut q) = S at key ⊢
    cases hf : faultT a b c <;> rw [hf] at key <;> simp [e1, key]
end K00

set_option Elab.async false
set_option linter.all false
set_option maxRecDepth 100000
set_option maxHeartbeats 1000000
namespace K00
open PySem PySem.Spec PyProof.Rows L2 DL
open Classical
/-- what is heard of made_ground -/
def heard (d : PyData) : PyData := match fault d with
  | some w => .tuple [.str "refused", w, .bool true]
  | none => .tuple [.str "told", d]
theorem mg_rel (q : ErrC) (d : PyData) (hd : Thing d) (G : Hh) : relCall (f_made_ground q) [.dat d] G = (match fault d with
    | some w => .ex q.BadGround (.dat w) G
    | none => .ok (.dat d) G) := by
  obtain ⟨G1, e⟩ := made_ground_ok q d hd
  cases hf : fault d with
  | none =>
    rw [hf] at e
    exact rel_ok0 rfl rfl rfl e rfl
  | some w =>
    rw [hf] at e
    exact rel_ex0 rfl rfl rfl e rfl
theorem law_heard_ok (q : ErrC) (d : PyData) (hd : Thing d) : ∃ G, f__law_heard q [.dat d] [] = .ok (.dat (heard d)) G := by
  have e1 := mg_rel q d hd
  unfold heard
  cases hf : fault d with
  | none =>
    simp only [hf] at e1
    exact ⟨[], by simp [f__law_heard, b__law_heard, e_sTry, e1, Sl.cut, RS.cut]⟩
  | some w =>
    simp only [hf] at e1
    exact ⟨[], by simp [f__law_heard, b__law_heard, e_sTry, e1, Sl.cut, RS.cut, pick1]⟩
theorem is_ground_ok (q : ErrC) (d : PyData) (hd : Thing d) : ∃ G, f_is_ground q [.dat d] [] = .ok (.dat (.bool (fault d).isNone)) G := by
  have e1 := mg_rel q d hd
  cases hf : fault d with
  | none =>
    simp only [hf] at e1
    exact ⟨[], by simp [f_is_ground, b_is_ground, e_sTry, e1, Sl.cut, RS.cut]⟩
  | some w =>
    simp only [hf] at e1
    exact ⟨[], by simp [f_is_ground, b_is_ground, e_sTry, e1, Sl.cut, RS.cut, pick1]⟩
end K00

set_option Elab.async false
set_option linter.all false
set_option maxRecDepth 100000
set_option maxHeartbeats 1000000
namespace K00
open PySem PySem.Spec PyProof.Rows L2 DL
open Classical

theorem eq_repr {f h : ES} {env : Env'} {G G1 G2 : Hh} {d : PyData} (h1 : f env G = .ok (.dat d) G1) (h2 : h env G1 = .ok (.dat d) G2) (hr : reprOk d = true) : eBin gEq (eArgs gRepr (aCons f aNil)) (eArgs gRepr (aCons h aNil)) env G = .ok (.dat (.bool true)) G2 := by
  simp [h1, h2, hr]
theorem hbool : ∀ b : Bool, reprOk (.bool b) = true := by decide +kernel
/-- what can be shown -/
def Shown (d : PyData) : Prop := reprOk (heard d) = true
theorem notNo {w : PyData} {d : PyData} (h : fault d = some w) : isD (.dat w) (.dat .none) = some false := by
  have key : ∀ (p : Nat) (es ah : List PyData) (i : Nat) (w : PyData), entsW p i es ah = .inl w → isD (.dat w) (.dat .none) = some false := by
    intro p es
    induction es with
    | nil => intro ah i w h; cases h
    | cons e es ih =>
      intro ah i w h
      rw [entsW] at h
      split at h
      · cases h; rfl
      · exact ih _ _ _ h
  have key2 : ∀ (p : Nat) (es ah : List PyData) (w : PyData), partW p es ah = .inl w → isD (.dat w) (.dat .none) = some false := by
    intro p es ah w h
    unfold partW at h
    split at h
    · cases h; rfl
    · split at h
      · rename_i w2 h2
        cases h
        exact key _ _ _ _ _ h2
      · split at h
        · cases h; rfl
        · cases h
  unfold fault at h
  split at h
  · cases h; rfl
  · unfold faultT at h
    split at h
    · rename_i h1
      cases h
      exact key2 _ _ _ _ h1
    · split at h
      · rename_i h1
        cases h
        exact key2 _ _ _ _ h1
      · split at h
        · rename_i h1
          cases h
          exact key2 _ _ _ _ h1
        · cases h
theorem thing_right_ok (q : ErrC) (d : PyData) (hd : Thing d) (hs : Shown d) : ∃ G, f__law_thing_right q [.dat d] [] = .ok (.dat (.bool true)) G := by
  have e1 := fun G => call0 (G := G) (law_fault_ok q d hd)
  have e2 := fun G => call0 (G := G) (law_heard_ok q d hd)
  have e3 := fun G => call0 (G := G) (is_ground_ok q d hd)
  unfold Shown at hs
  have hA : eBin gEq (eArgs gRepr (aCons (eCallA 1 (relCall (f__law_heard q)) (aCons (eVar 0) aNil)) aNil)) (eArgs gRepr (aCons (eVar 2) aNil)) [.d (.dat d), .d (.dat (told d)), .d (.dat (heard d))] [] = .ok (.dat (.bool true)) [] :=
    eq_repr (G1 := []) (d := heard d) (by simp [e2]) (by simp) hs
  have hB : eBin gEq (eArgs gRepr (aCons (eCallA 1 (relCall (f_is_ground q)) (aCons (eVar 0) aNil)) aNil)) (eArgs gRepr (aCons (eBin gIs (eVar 1) (eC (.dat .none))) aNil)) [.d (.dat d), .d (.dat (told d)), .d (.dat (heard d))] [] = .ok (.dat (.bool true)) [] := by
    refine eq_repr (G1 := []) (d := .bool (fault d).isNone) (by simp [e3]) ?_ (hbool _)
    unfold told
    cases hf : fault d with
    | none => simp
    | some w => simp [notNo hf]
  have hC : (sAsg (eIf (tTest' truB (eBin gIs (eVar 1) (eC (.dat .none)))) (eArgs gTupD (aCons (eC (.dat (.str "told"))) (aCons (eVar 0) aNil))) (eArgs gTupD (aCons (eC (.dat (.str "refused"))) (aCons (eVar 1) (aCons (eC (.dat (.bool true))) aNil))))) (aName 2)) [.d (.dat d), .d (.dat (told d)), .no] [] = .nx [.d (.dat d), .d (.dat (told d)), .d (.dat (heard d))] [] := by
    unfold told heard
    cases hf : fault d with
    | none => simp
    | some w => simp [notNo hf]
  refine ⟨[], ?_⟩
  unfold f__law_thing_right b__law_thing_right
  generalize (eBin gEq (eArgs gRepr (aCons (eCallA 1 (relCall (f__law_heard q)) (aCons (eVar 0) aNil)) aNil)) (eArgs gRepr (aCons (eVar 2) aNil))) = A at hA ⊢
  generalize (eBin gEq (eArgs gRepr (aCons (eCallA 1 (relCall (f_is_ground q)) (aCons (eVar 0) aNil)) aNil)) (eArgs gRepr (aCons (eBin gIs (eVar 1) (eC (.dat .none))) aNil))) = B at hB ⊢
  generalize (sAsg (eIf (tTest' truB (eBin gIs (eVar 1) (eC (.dat .none)))) (eArgs gTupD (aCons (eC (.dat (.str "told"))) (aCons (eVar 0) aNil))) (eArgs gTupD (aCons (eC (.dat (.str "refused"))) (aCons (eVar 1) (aCons (eC (.dat (.bool true))) aNil))))) (aName 2)) = C at hC ⊢
  simp [e1, hA, hB, hC]
end K00

set_option Elab.async false
set_option linter.all false
set_option maxRecDepth 100000
set_option maxHeartbeats 1000000
namespace K00
open PySem PySem.Spec PyProof.Rows L2 DL
open Classical
/-! ### what the things are made of -/
def NAMES : List Str := ["a", "z9", "send", "c", "abcdefghijkl", "abcdefghijkm", "law1", "ex", "iff", "b", "n0", "exits2", "q", "while9"]
theorem NAMES_ok : ∀ s ∈ NAMES, nmB (.str s) = true := by decide +kernel
theorem NAMES_nodup : NAMES.Nodup := by decide +kernel
/-- small enough to be shown within a thing -/
def okB (w dp : Nat) (d : PyData) : Bool := d.showable && (d.leavesShort 2000 && (decide (d.weight ≤ w) && decide (d.depth ≤ dp)))
def shB : PyData → Bool
  | .str s => decide (s.length ≤ 100)
  | _ => true
def entB (w : Nat) (e : PyData) : Bool := okB w 1 e && (shB e && match e with
  | .tuple es => es.all shB
  | _ => true)
theorem names_ent : ∀ s ∈ NAMES, entB 20 (.str s) = true := by decide +kernel
theorem pair_ent : ∀ s ∈ NAMES, ∀ k ∈ List.range 100, entB 30 (.tuple [.str s, .int (k : Nat)]) = true := by decide +kernel
def ODDN : List PyData := [.str "", .str "A", .str "9a", .str "a b", .str "abcdefghijklm", .str "if", .str "law", .str "cells", .str "good", .none, .int 7] ++ NAMES.map .str
def NUMS : List PyData := [.int 0, .int (-1), .int 9, .int 8, .int 100, .int 99, .int (10 ^ 30), .none, .str "1", .bool true, .int 1]
theorem odd_ent : ∀ n ∈ ODDN, entB 150 n = true ∧ ∀ k ∈ NUMS, entB 150 (.tuple [n, k]) = true := by decide +kernel
end K00

set_option Elab.async false
set_option linter.all false
set_option maxRecDepth 100000
set_option maxHeartbeats 1000000
namespace K00
open PySem PySem.Spec PyProof.Rows L2 DL
open Classical
def okS (dp : Nat) (d : PyData) : Prop := d.showable = true ∧ d.leavesShort 2000 = true ∧ d.depth ≤ dp
theorem okS.mono {a b : Nat} {d : PyData} (h : okS a d) (hab : a ≤ b) : okS b d := ⟨h.1, h.2.1, Nat.le_trans h.2.2 hab⟩
theorem showAll : ∀ {xs : List PyData}, (∀ x ∈ xs, x.showable = true) → PyData.showableAll xs = true
  | [], _ => by simp [PyData.showableAll]
  | x :: xs, h => by
    simp only [PyData.showableAll, Bool.and_eq_true]
    exact ⟨h x List.mem_cons_self, showAll fun y hy => h y (List.mem_cons_of_mem _ hy)⟩
theorem leavAll : ∀ {xs : List PyData}, (∀ x ∈ xs, x.leavesShort 2000 = true) → PyData.leavesShortAll 2000 xs = true
  | [], _ => by simp [PyData.leavesShortAll]
  | x :: xs, h => by
    simp only [PyData.leavesShortAll, Bool.and_eq_true]
    exact ⟨h x List.mem_cons_self, leavAll fun y hy => h y (List.mem_cons_of_mem _ hy)⟩
theorem deepAll {n : Nat} : ∀ {xs : List PyData}, (∀ x ∈ xs, x.depth ≤ n) → PyData.depthAll xs ≤ n
  | [], _ => by simp [PyData.depthAll]
  | x :: xs, h => by
    simp only [PyData.depthAll]
    have h1 := h x List.mem_cons_self
    have h2 := deepAll (xs := xs) fun y hy => h y (List.mem_cons_of_mem _ hy)
    omega
theorem okS_tup {dp : Nat} {xs : List PyData} (h : ∀ x ∈ xs, okS dp x) : okS (dp + 1) (.tuple xs) := by
  refine ⟨?_, ?_, ?_⟩
  · simp only [PyData.showable]
    exact showAll fun x hx => (h x hx).1
  · simp only [PyData.leavesShort]
    exact leavAll fun x hx => (h x hx).2.1
  · simp only [PyData.depth]
    have := deepAll (n := dp) fun x hx => (h x hx).2.2
    omega
theorem reprOk_of {d : PyData} (h : okS 60 d) (hw : d.weight ≤ 5000) : reprOk d = true := by
  unfold reprOk
  rw [h.1, h.2.1, decide_eq_true hw, decide_eq_true h.2.2]
  rfl
theorem ent_ok {w : Nat} {e : PyData} (h : entB w e = true) : okS 1 e ∧ e.weight ≤ w ∧ ShE e := by
  unfold entB okB at h
  simp only [Bool.and_eq_true, decide_eq_true_eq] at h
  obtain ⟨⟨h1, h2, h3, h4⟩, h5, h6⟩ := h
  have hs : ∀ {x : PyData}, shB x = true → Sh x := fun {x} hx s e => by
    subst e
    have : s.length ≤ 100 := by simpa [shB] using hx
    omega
  refine ⟨⟨h1, h2, h4⟩, h3, hs h5, fun es e x hx => ?_⟩
  subst e
  exact hs (List.all_eq_true.mp h6 x hx)
def wA (es : List PyData) : Nat := PyData.weightAll es
theorem wA_cons (e : PyData) (es : List PyData) : wA (e :: es) = e.weight + 1 + wA es := by unfold wA; simp only [PyData.weightAll]
theorem wA_nil : wA [] = 0 := by unfold wA; simp only [PyData.weightAll]
theorem w_tup (es : List PyData) : (PyData.tuple es).weight = wA es := by unfold wA; simp only [PyData.weight]
theorem wA_app : ∀ (a b : List PyData), wA (a ++ b) = wA a + wA b
  | [], b => by simp [wA_nil]
  | e :: a, b => by rw [List.cons_append, wA_cons, wA_cons, wA_app a b]; omega
theorem wA_take_drop (es : List PyData) (i j : Nat) (h : i ≤ j) : wA (es.take i) + wA (es.drop j) ≤ wA es := by
  have h1 : wA es = wA (es.take i) + wA (es.drop i) := by rw [← wA_app, List.take_append_drop]
  have h2 : wA (es.drop i) = wA ((es.drop i).take (j - i)) + wA ((es.drop i).drop (j - i)) := by rw [← wA_app, List.take_append_drop]
  have h3 : (es.drop i).drop (j - i) = es.drop j := by rw [List.drop_drop]; congr 1; omega
  rw [h3] at h2
  omega
/-- a part of a thing: if it is a tuple, its entries are good -/
def RowOk (w n : Nat) (r : PyData) : Prop := ∀ es, r = .tuple es → (∀ e ∈ es, entB 150 e = true) ∧ es.length ≤ n ∧ wA es ≤ w
theorem faults (p : Nat) (hp : p ≤ 2) (es ah : List PyData) (w : PyData) (h : partW p es ah = .inl w) : w ∈ [PyData.tuple [.int 0, .int (-1)], .tuple [.int 1, .int (-1)], .tuple [.int 2, .int (-1)]] ++ (List.range 3).flatMap fun p => (List.range 4).map fun i => .tuple [.int (p : Nat), .int (i : Nat)] := by
  have key : ∀ (es ah : List PyData) (i : Nat), i + es.length ≤ 4 → ∀ w, entsW p i es ah = .inl w → ∃ k : Nat, k < 4 ∧ w = .tuple [.int p, .int k] := by
    intro es
    induction es with
    | nil => intro ah i _ w h; cases h
    | cons e es ih =>
      intro ah i hi w h
      rw [entsW] at h
      split at h
      · cases h
        exact ⟨i, by simp at hi; omega, rfl⟩
      · exact ih _ _ (by simp at hi ⊢; omega) _ h
  have hp3 : p = 0 ∨ p = 1 ∨ p = 2 := by omega
  unfold partW at h
  split at h
  · cases h
    rcases hp3 with rfl | rfl | rfl <;> simp
  · rename_i hb
    have hl : es.length ≤ 4 := by
      by_cases h1 : mostE p < es.length
      · exact absurd (by simp [h1]) hb
      · have : mostE p ≤ 4 := by unfold mostE; split <;> omega
        omega
    split at h
    · rename_i w2 h2
      cases h
      obtain ⟨k, hk, rfl⟩ := key es ah 0 (by omega) _ h2
      refine List.mem_append_right _ (List.mem_flatMap.mpr ⟨p, List.mem_range.mpr (by omega), List.mem_map.mpr ⟨k, List.mem_range.mpr hk, rfl⟩⟩)
    · split at h
      · cases h
        simp
      · cases h
theorem fault_in (d : PyData) (w : PyData) (h : fault d = some w) : w = .int (-1) ∨ w ∈ [PyData.tuple [.int 0, .int (-1)], .tuple [.int 1, .int (-1)], .tuple [.int 2, .int (-1)]] ++ (List.range 3).flatMap fun p => (List.range 4).map fun i => .tuple [.int (p : Nat), .int (i : Nat)] := by
  unfold fault at h
  split at h
  · cases h; exact .inl rfl
  · unfold faultT at h
    split at h
    · rename_i h1
      cases h
      exact .inr (faults 0 (by decide) _ _ _ h1)
    · split at h
      · rename_i h1
        cases h
        exact .inr (faults 1 (by decide) _ _ _ h1)
      · split at h
        · rename_i h1
          cases h
          exact .inr (faults 2 (by decide) _ _ _ h1)
        · cases h
theorem refused_ok : ∀ w ∈ PyData.int (-1) :: ([PyData.tuple [.int 0, .int (-1)], .tuple [.int 1, .int (-1)], .tuple [.int 2, .int (-1)]] ++ (List.range 3).flatMap fun p => (List.range 4).map fun i => .tuple [.int (p : Nat), .int (i : Nat)]), reprOk (.tuple [.str "refused", w, .bool true]) = true := by decide +kernel
theorem told_str : okS 0 (.str "told") ∧ (PyData.str "told").weight ≤ 10 := by
  refine ⟨⟨?_, ?_, ?_⟩, ?_⟩ <;> decide +kernel
theorem thing_of {r0 r1 r2 : PyData} {w n : Nat} (hn : n ≤ 100) (h0 : RowOk w n r0) (h1 : RowOk w n r1) (h2 : RowOk w n r2) : Thing (.tuple [r0, r1, r2]) := ⟨fun a b c h => by
  have e := trip_some h
  cases e
  obtain ⟨a1, a2, _⟩ := h0 a rfl
  obtain ⟨b1, b2, _⟩ := h1 b rfl
  obtain ⟨c1, c2, _⟩ := h2 c rfl
  refine ⟨fun e he => ?_, by omega, by omega, by omega⟩
  rcases List.mem_append.mp he with he | he
  · rcases List.mem_append.mp he with he | he
    · exact (ent_ok (a1 e he)).2.2
    · exact (ent_ok (b1 e he)).2.2
  · exact (ent_ok (c1 e he)).2.2⟩
theorem shown_fault {d w : PyData} (h : fault d = some w) : Shown d := by
  unfold Shown heard
  rw [h]
  rcases fault_in d w h with rfl | hw
  · exact refused_ok _ List.mem_cons_self
  · exact refused_ok _ (List.mem_cons_of_mem _ hw)
theorem shown_of {r0 r1 r2 : PyData} {w n : Nat} (hw : w ≤ 1000) (h0 : RowOk w n r0) (h1 : RowOk w n r1) (h2 : RowOk w n r2) : Shown (.tuple [r0, r1, r2]) := by
  cases hf : fault (.tuple [r0, r1, r2]) with
  | some v => exact shown_fault hf
  | none =>
    unfold Shown heard
    rw [hf]
    have ht : ∃ r, trip (.tuple [r0, r1, r2]) = some r := by
      cases ht : trip (.tuple [r0, r1, r2]) with
      | some r => exact ⟨r, rfl⟩
      | none =>
        unfold fault at hf
        rw [ht] at hf
        cases hf
    obtain ⟨⟨a, b, c⟩, ht⟩ := ht
    have e := trip_some ht
    cases e
    obtain ⟨a1, a2, a3⟩ := h0 a rfl
    obtain ⟨b1, b2, b3⟩ := h1 b rfl
    obtain ⟨c1, c2, c3⟩ := h2 c rfl
    have row : ∀ {es : List PyData}, (∀ e ∈ es, entB 150 e = true) → okS 2 (.tuple es) := fun {es} h => okS_tup fun x hx => (ent_ok (h x hx)).1
    have hd : okS 3 (.tuple [.tuple a, .tuple b, .tuple c]) := okS_tup fun x hx => by
      simp only [List.mem_cons, List.not_mem_nil, or_false] at hx
      rcases hx with rfl | rfl | rfl
      · exact row a1
      · exact row b1
      · exact row c1
    have ht : okS 4 (.tuple [.str "told", .tuple [.tuple a, .tuple b, .tuple c]]) := okS_tup fun x hx => by
      simp only [List.mem_cons, List.not_mem_nil, or_false] at hx
      rcases hx with rfl | rfl
      · exact told_str.1.mono (by decide)
      · exact hd
    refine reprOk_of (ht.mono (by decide)) ?_
    rw [w_tup, wA_cons, wA_cons, wA_nil, w_tup, wA_cons, wA_cons, wA_cons, wA_nil, w_tup, w_tup, w_tup]
    have := told_str.2
    dsimp only
    omega
/-- what is no triple of tuples -/
theorem thing_no {d : PyData} (h : trip d = none) : Thing d ∧ Shown d := by
  refine ⟨⟨fun a b c z => ?_⟩, shown_fault (w := .int (-1)) ?_⟩
  · rw [h] at z; cases z
  · unfold fault; rw [h]
theorem row_no {w n : Nat} {r : PyData} (h : ∀ es, r ≠ .tuple es) : RowOk w n r := fun es e => absurd e (h es)
theorem RowOk.mono {w n w' n' : Nat} {r : PyData} (h : RowOk w n r) (h1 : w ≤ w') (h2 : n ≤ n') : RowOk w' n' r := fun es e => let ⟨a, b, c⟩ := h es e; ⟨a, by omega, by omega⟩
end K00

set_option Elab.async false
set_option linter.all false
set_option maxRecDepth 100000
set_option maxHeartbeats 1000000
namespace K00
open PySem PySem.Spec PyProof.Rows L2 DL
open Classical
/-! ### the ground that is drawn -/
def sD (s : Str) : D := .dat (.str s)
def cE (c : Str × Int) : PyData := .tuple [.str c.1, .int c.2]
def cD (c : Str × Int) : D := .dat (cE c)
@[simp] theorem mkTup_ref {l : Nat} {r : List D} : mkTup (.ref l :: r) = .mix (.ref l :: r) := prf rfl
@[simp] theorem aTup_mix {as : List GS} {ds : List D} {env : Env'} {G : Hh} : aTup as (.mix ds) env G = if ds.length = as.length then aList as ds env G else none := prf rfl
theorem perm_names {ys : List D} (h : ys.Perm (NAMES.map sD)) : ∃ N : List Str, N.Perm NAMES ∧ ys = N.map sD := by
  let g : D → Str := fun d => match d with
    | .dat (.str s) => s
    | _ => ""
  refine ⟨ys.map g, ?_, ?_⟩
  · have := h.map g
    rw [List.map_map] at this
    have e : NAMES.map (g ∘ sD) = NAMES := by
      have : g ∘ sD = id := rfl
      rw [this, List.map_id]
    rw [e] at this
    exact this
  · rw [List.map_map]
    have : ∀ y ∈ ys, (sD ∘ g) y = y := fun y hy => by
      obtain ⟨s, _, rfl⟩ := List.mem_map.mp (h.mem_iff.mp hy)
      rfl
    rw [List.map_congr_left this]
    simp
theorem names_rel (q : ErrC) {G : Hh} {l : Nat} {m : MO} (hl : G[l]? = some m) (h : Src m) : ∃ (m' : MO) (N : List Str), Src m' ∧ N.Perm NAMES ∧ relCall (f__law_names q) [.ref l] G = .ok (.ref G.length) (G.set l m' ++ [.lst (N.map sD)]) := by
  obtain ⟨m', ys, h1, h2, e⟩ := mixed_rel (G := [m, .lst (NAMES.map sD)]) (l := 0) (k := 1) rfl rfl (by decide) h (by decide) (by decide)
  obtain ⟨N, hN, rfl⟩ := perm_names h2
  refine ⟨m', N, h1, hN, ?_⟩
  have e2 : f__law_names q [.ref 0] [m] = .ok (.ref 2) [m', .lst (NAMES.map sD), .lst (N.map sD)] := by
    have e3 : NAMES.map sD = [sD "a", sD "z9", sD "send", sD "c", sD "abcdefghijkl", sD "abcdefghijkm", sD "law1", sD "ex", sD "iff", sD "b", sD "n0", sD "exits2", sD "q", sD "while9"] := rfl
    rw [e3] at e ⊢
    unfold sD at e ⊢
    simp [f__law_names, b__law_names, mixed_eq, e]
  refine rel_1n rfl rfl rfl hl h.clean e2 h1.clean rfl (by decide) ?_
  have : ∀ N : List Str, cleans (N.map sD) = true := fun N => by
    induction N with
    | nil => rfl
    | cons s r ih => rw [List.map_cons]; unfold cleans; rw [ih]; rfl
  exact this N
/-- the heap while a ground is drawn -/
structure DrH (G : Hh) (N : List Str) (C : List (Str × Int)) : Prop where
  src : ∃ m, G[0]? = some m ∧ Src m
  nam : G[1]? = some (.lst (N.map sD))
  cel : G[2]? = some (.lst (C.map cD))
theorem get_app {α : Type} {G t : List α} {j : Nat} {x : α} (h : G[j]? = some x) : (G ++ t)[j]? = some x := by
  rw [List.getElem?_append_left (lt_of h)]; exact h
theorem get_set {α : Type} {G : List α} {i j : Nat} {x y : α} (h : G[j]? = some x) (hij : i ≠ j) : (G.set i y)[j]? = some x := by
  rw [List.getElem?_set_ne hij]; exact h
theorem get_self {α : Type} {G : List α} {i : Nat} {x y : α} (h : G[i]? = some x) : (G.set i y)[i]? = some y := List.getElem?_set_self (lt_of h)
noncomputable def drCell (q : ErrC) : SS := (sSeq (sAsg (eCallA 2 (relCall (f__law_one q)) (aCons (eVar 0) (aCons (eArgs gLstD (aCons (eC (.dat (.int 1))) (aCons (eC (.dat (.int 2))) (aCons (eArgs gMin2 (aCons (eC (.dat (.int 8))) (aCons (eVar 3) aNil))) (aCons (eBin gAdd (eC (.dat (.int 1))) (eCallA 2 (relCall (f__law_take q)) (aCons (eVar 0) (aCons (eArgs gMin2 (aCons (eC (.dat (.int 8))) (aCons (eVar 3) aNil))) aNil)))) aNil))))) aNil))) (aName 5))
    (sSeq (sAsg (eArgs gMin2 (aCons (eVar 5) (aCons (eVar 3) aNil))) (aName 5))
    (sSeq (sDrop (eMet isLst gAppend (eVar 2) (aCons (eArgs gTupD (aCons (eMet0 isLst gPop (eVar 1)) (aCons (eVar 5) aNil))) aNil)))
    (sAsg (eBin gDiv (eVar 3) (eVar 5)) (aName 3)))))
def prodC (C : List (Str × Int)) : Int := C.foldl (fun m c => m * c.2) 1
theorem prodC_snoc (C : List (Str × Int)) (c : Str × Int) : prodC (C ++ [c]) = prodC C * c.2 := by
  unfold prodC
  rw [List.foldl_append]
  rfl
theorem dr_cell (q : ErrC) {G : Hh} {N : List Str} {C : List (Str × Int)} {s : Str} {room : Int} (d : D) (s5 s6 : Sl) (h : DrH G (N ++ [s]) C) (h1 : 1 ≤ room) (hC : C.length < 100) :
    ∃ G' k s5', drCell q [.d (.ref 0), .d (.ref 1), .d (.ref 2), .d (.dat (.int room)), .d d, s5, s6] G = .nx [.d (.ref 0), .d (.ref 1), .d (.ref 2), .d (.dat (.int (room / k))), .d d, s5', s6] G' ∧ DrH G' N (C ++ [(s, k)]) ∧ 1 ≤ k ∧ k ≤ 8 ∧ k ≤ room := by
  obtain ⟨⟨m, hm, hsrc⟩, hN, hCl⟩ := h
  obtain ⟨mn, hmn⟩ : ∃ mn : Int, mn = (if room < 8 then room else 8) := ⟨_, rfl⟩
  have hmn1 : 1 ≤ mn ∧ mn ≤ 8 ∧ mn ≤ room := by rw [hmn]; split <;> omega
  obtain ⟨r, m1, r1, r2, hs1, e1⟩ := take_rel (top := mn) hm hsrc (by omega) (by omega)
  have hm1 : (G.set 0 m1 ++ [.lst [.dat (.int 1), .dat (.int 2), .dat (.int mn), .dat (.int (1 + r))]])[0]? = some m1 := get_app (get_self hm)
  have hk1 : (G.set 0 m1 ++ [.lst [.dat (.int 1), .dat (.int 2), .dat (.int mn), .dat (.int (1 + r))]])[G.length]? = some (.lst [.dat (.int 1), .dat (.int 2), .dat (.int mn), .dat (.int (1 + r))]) := by simp
  have hlen : 0 ≠ G.length := by have := lt_of hm; omega
  obtain ⟨x, m2, hx, hs2, e2⟩ := one_rel hm1 hk1 hlen hs1 (by simp) (by simp) rfl
  obtain ⟨y, rfl, hy⟩ : ∃ y : Int, x = .dat (.int y) ∧ (1 ≤ y ∧ y ≤ 8) := by
    simp only [List.mem_cons, List.not_mem_nil, or_false] at hx
    rcases hx with rfl | rfl | rfl | rfl
    · exact ⟨_, rfl, by omega⟩
    · exact ⟨_, rfl, by omega⟩
    · exact ⟨_, rfl, by omega⟩
    · exact ⟨_, rfl, by omega⟩
  obtain ⟨G3, hG3⟩ : ∃ G3 : Hh, G3 = (G.set 0 m1 ++ [MO.lst [.dat (.int 1), .dat (.int 2), .dat (.int mn), .dat (.int (1 + r))]]).set 0 m2 := ⟨_, rfl⟩
  rw [← hG3] at e2
  have f0 : G3[0]? = some m2 := by rw [hG3]; exact get_self hm1
  have f1 : G3[1]? = some (.lst ((N ++ [s]).map sD)) := by rw [hG3]; exact get_set (get_app (get_set hN (by decide))) (by decide)
  have f2 : G3[2]? = some (.lst (C.map cD)) := by rw [hG3]; exact get_set (get_app (get_set hCl (by decide))) (by decide)
  obtain ⟨k, hk⟩ : ∃ k : Int, k = (if room < y then room else y) := ⟨_, rfl⟩
  have hk1 : 1 ≤ k ∧ k ≤ 8 ∧ k ≤ room := by rw [hk]; split <;> omega
  have eX : eCallA 2 (relCall (f__law_one q)) (aCons (eVar 0) (aCons (eArgs gLstD (aCons (eC (.dat (.int 1))) (aCons (eC (.dat (.int 2))) (aCons (eArgs gMin2 (aCons (eC (.dat (.int 8))) (aCons (eVar 3) aNil))) (aCons (eBin gAdd (eC (.dat (.int 1))) (eCallA 2 (relCall (f__law_take q)) (aCons (eVar 0) (aCons (eArgs gMin2 (aCons (eC (.dat (.int 8))) (aCons (eVar 3) aNil))) aNil)))) aNil))))) aNil))
      [.d (.ref 0), .d (.ref 1), .d (.ref 2), .d (.dat (.int room)), .d d, s5, s6] G = .ok (.dat (.int y)) G3 := by
    rw [take_eq, one_eq]
    simp [← hmn, e1, e2]
  have l1 : k.natAbs.log2 < 9000 := by
    have : k.natAbs < 2 ^ 4 := by omega
    by_cases z : k.natAbs = 0
    · omega
    · have := (Nat.log2_lt z).mpr this
      omega
  have hC2 : (C.map cD).length < 100000 := by simp; omega
  refine ⟨(G3.set 1 (.lst (N.map sD))).set 2 (.lst ((C ++ [(s, k)]).map cD)), k, .d (.dat (.int k)), ?_, ⟨⟨m2, get_set (get_set f0 (by decide)) (by decide), hs2⟩, get_set (get_self f1) (by decide), get_self (get_set f2 (by decide))⟩, hk1⟩
  unfold drCell
  rw [e_sSeq, e_sAsg, eX]
  have hk0 : 0 < k := by omega
  have g1 : ∀ z, (G3.set 1 z)[2]? = some (.lst (C.map cD)) := fun z => get_set f2 (by decide)
  have g2 : (List.map sD (N ++ [s]))[N.length]? = some (sD s) := by simp
  have g3 : (List.map sD (N ++ [s])).dropLast = N.map sD := by simp
  have g4 : List.map cD (C ++ [(s, k)]) = C.map cD ++ [cD (s, k)] := by simp
  have g5 : cD (s, k) = .dat (.tuple [.str s, .int k]) := rfl
  have g6 : sD s = .dat (.str s) := rfl
  have g7 : (List.map sD (N ++ [s])).length = N.length + 1 := by simp
  generalize List.map sD (N ++ [s]) = NN at f1 g2 g3 g7
  have g8 : ∀ h, NN[N.length]'h = sD s := fun h => by
    rw [List.getElem?_eq_getElem h] at g2
    exact Option.some.inj g2
  have hC3 : C.length < 100000 := by omega
  simp [← hk, f1, f2, g1, g8, g3, g4, g5, g6, g7, hC3, hk0, l1]
theorem dr_cells (q : ErrC) : ∀ (ds : List D) (G : Hh) (N : List Str) (C : List (Str × Int)) (room : Int) (s4 s5 s6 : Sl), DrH G N C → ds.length ≤ N.length → C.length + ds.length < 100 → 1 ≤ room → 0 ≤ prodC C → prodC C * room ≤ 64 → (∀ c ∈ C, 1 ≤ c.2 ∧ c.2 ≤ 8) →
    ∃ G' N' C' room' s4' s5', forL (aName 4) (drCell q) yesH ds [.d (.ref 0), .d (.ref 1), .d (.ref 2), .d (.dat (.int room)), s4, s5, s6] G = .nx [.d (.ref 0), .d (.ref 1), .d (.ref 2), .d (.dat (.int room')), s4', s5', s6] G' ∧ DrH G' N' C' ∧
      (N' ++ C'.map (·.1)).Perm (N ++ C.map (·.1)) ∧ N'.length + ds.length = N.length ∧ C'.length = C.length + ds.length ∧ prodC C' ≤ 64 ∧ (∀ c ∈ C', 1 ≤ c.2 ∧ c.2 ≤ 8)
  | [], G, N, C, room, s4, s5, s6, h, _, _, h1, h0, hp, hc => ⟨G, N, C, room, s4, s5, forL_nil trivial, h, List.Perm.refl _, by simp, by simp, by
      have := Int.mul_le_mul_of_nonneg_left h1 h0
      omega, hc⟩
  | d :: ds, G, N, C, room, s4, s5, s6, h, hl, hn, h1, h0, hp, hc => by
    obtain ⟨N0, s, rfl⟩ : ∃ N0 s, N = N0 ++ [s] := by
      have : N ≠ [] := fun z => by subst z; simp at hl
      exact ⟨N.dropLast, N.getLast this, (List.dropLast_concat_getLast this).symm⟩
    obtain ⟨G1, k, s5', e, hD, k1, k2, k3⟩ := dr_cell q d s5 s6 h h1 (by simp at hn; omega)
    have hr : 1 ≤ room / k := by
      have : k * 1 ≤ room := by omega
      exact (Int.le_ediv_iff_mul_le (by omega)).mpr (by omega)
    have hk : k * (room / k) ≤ room := Int.mul_ediv_self_le (by omega)
    have hp2 : prodC (C ++ [(s, k)]) * (room / k) ≤ 64 := by
      rw [prodC_snoc, Int.mul_assoc]
      exact Int.le_trans (Int.mul_le_mul_of_nonneg_left hk h0) hp
    have h02 : 0 ≤ prodC (C ++ [(s, k)]) := by
      rw [prodC_snoc]
      exact Int.mul_nonneg h0 (by show 0 ≤ k; omega)
    obtain ⟨G2, N2, C2, room2, s42, s52, e2, hD2, p1, p2, p3, p4, p5⟩ := dr_cells q ds G1 N0 (C ++ [(s, k)]) (room / k) (.d d) s5' s6 hD (by simp at hl; omega) (by simp at hn ⊢; omega) hr h02 hp2 (fun c hcm => by
      rcases List.mem_append.mp hcm with z | z
      · exact hc c z
      · simp at z; subst z; exact ⟨k1, k2⟩)
    refine ⟨G2, N2, C2, room2, s42, s52, ?_, hD2, ?_, by simp at p2 ⊢; omega, by simp at p3 ⊢; omega, p4, p5⟩
    · rw [← e2]
      exact forL_nx trivial rfl e
    · refine p1.trans ?_
      rw [List.map_append, List.append_assoc]
      refine List.Perm.append_left N0 ?_
      exact List.perm_append_comm
end K00

set_option Elab.async false
set_option linter.all false
set_option maxRecDepth 100000
set_option maxHeartbeats 1000000
namespace K00
open PySem PySem.Spec PyProof.Rows L2 DL
open Classical
noncomputable def drKind (q : ErrC) : SS := (sDrop (eMet isLst gAppend (eVar 6) (aCons (eArgs gTupD (aCons (eMet0 isLst gPop (eVar 1)) (aCons (eCallA 2 (relCall (f__law_one q)) (aCons (eVar 0) (aCons (eArgs gLstD (aCons (eC (.dat (.int 1))) (aCons (eC (.dat (.int 99))) (aCons (eBin gAdd (eC (.dat (.int 1))) (eCallA 2 (relCall (f__law_take q)) (aCons (eVar 0) (aCons (eC (.dat (.int 99))) aNil)))) aNil)))) aNil))) aNil))) aNil)))
theorem dr_kind (q : ErrC) {G : Hh} {N : List Str} {C Ks : List (Str × Int)} {s : Str} {K : Nat} (u3 u4 u5 : Sl) (h : DrH G (N ++ [s]) C) (hK : G[K]? = some (.lst (Ks.map cD))) (hK3 : 3 ≤ K) (hKl : Ks.length < 100) :
    ∃ G' p, drKind q [.d (.ref 0), .d (.ref 1), .d (.ref 2), u3, u4, u5, .d (.ref K)] G = .nx [.d (.ref 0), .d (.ref 1), .d (.ref 2), u3, u4, u5, .d (.ref K)] G' ∧ DrH G' N C ∧ G'[K]? = some (.lst ((Ks ++ [(s, p)]).map cD)) ∧ 1 ≤ p ∧ p ≤ 99 := by
  obtain ⟨⟨m, hm, hsrc⟩, hN, hCl⟩ := h
  have hm' : (G.set 1 (.lst (N.map sD)))[0]? = some m := get_set hm (by decide)
  obtain ⟨r, m1, r1, r2, hs1, e1⟩ := take_rel (top := 99) hm' hsrc (by omega) (by omega)
  have hm1 : ((G.set 1 (.lst (N.map sD))).set 0 m1 ++ [MO.lst [.dat (.int 1), .dat (.int 99), .dat (.int (1 + r))]])[0]? = some m1 := get_app (get_self hm')
  have hk1 : ((G.set 1 (.lst (N.map sD))).set 0 m1 ++ [MO.lst [.dat (.int 1), .dat (.int 99), .dat (.int (1 + r))]])[G.length]? = some (.lst [.dat (.int 1), .dat (.int 99), .dat (.int (1 + r))]) := by simp
  have hlen : 0 ≠ G.length := by have := lt_of hm; omega
  obtain ⟨x, m2, hx, hs2, e2⟩ := one_rel hm1 hk1 hlen hs1 (by simp) (by simp) rfl
  obtain ⟨y, rfl, hy⟩ : ∃ y : Int, x = .dat (.int y) ∧ (1 ≤ y ∧ y ≤ 99) := by
    simp only [List.mem_cons, List.not_mem_nil, or_false] at hx
    rcases hx with rfl | rfl | rfl
    · exact ⟨_, rfl, by omega⟩
    · exact ⟨_, rfl, by omega⟩
    · exact ⟨_, rfl, by omega⟩
  obtain ⟨G3, hG3⟩ : ∃ G3 : Hh, G3 = ((G.set 1 (.lst (N.map sD))).set 0 m1 ++ [MO.lst [.dat (.int 1), .dat (.int 99), .dat (.int (1 + r))]]).set 0 m2 := ⟨_, rfl⟩
  rw [← hG3] at e2
  have f0 : G3[0]? = some m2 := by rw [hG3]; exact get_self hm1
  have f1 : G3[1]? = some (.lst (N.map sD)) := by rw [hG3]; exact get_set (get_app (get_set (get_self hN) (by decide))) (by decide)
  have f2 : G3[2]? = some (.lst (C.map cD)) := by rw [hG3]; exact get_set (get_app (get_set (get_set hCl (by decide)) (by decide))) (by decide)
  have fK : G3[K]? = some (.lst (Ks.map cD)) := by rw [hG3]; exact get_set (get_app (get_set (get_set hK (by omega)) (by omega))) (by omega)
  have hKx : (Ks.map cD).length < 100000 := by simp; omega
  refine ⟨G3.set K (.lst ((Ks ++ [(s, y)]).map cD)), y, ?_, ⟨⟨m2, get_set f0 (by omega), hs2⟩, get_set f1 (by omega), get_set f2 (by omega)⟩, get_self fK, hy⟩
  have g2 : (List.map sD (N ++ [s]))[N.length]? = some (sD s) := by simp
  have g3 : (List.map sD (N ++ [s])).dropLast = N.map sD := by simp
  have g4 : List.map cD (Ks ++ [(s, y)]) = Ks.map cD ++ [cD (s, y)] := by simp
  have g5 : cD (s, y) = .dat (.tuple [.str s, .int y]) := rfl
  have g6 : sD s = .dat (.str s) := rfl
  have g7 : (List.map sD (N ++ [s])).length = N.length + 1 := by simp
  generalize List.map sD (N ++ [s]) = NN at hN g2 g3 g7
  have g8 : ∀ h, NN[N.length]'h = sD s := fun h => by
    rw [List.getElem?_eq_getElem h] at g2
    exact Option.some.inj g2
  have hC3 : Ks.length < 100000 := by omega
  unfold drKind
  rw [take_eq, one_eq]
  simp [hN, hK, e1, e2, fK, g8, g3, g4, g5, g6, g7, hC3]
theorem dr_kinds (q : ErrC) (K : Nat) (hK3 : 3 ≤ K) (C : List (Str × Int)) (u3 u5 : Sl) : ∀ (ds : List D) (G : Hh) (N : List Str) (Ks : List (Str × Int)) (u4 : Sl), DrH G N C → G[K]? = some (.lst (Ks.map cD)) → ds.length ≤ N.length → Ks.length + ds.length < 100 → (∀ c ∈ Ks, 1 ≤ c.2 ∧ c.2 ≤ 99) →
    ∃ (G' : Hh) (N' : List Str) (Ks' : List (Str × Int)) (u4' : Sl), forL (aName 4) (drKind q) yesH ds [.d (.ref 0), .d (.ref 1), .d (.ref 2), u3, u4, u5, .d (.ref K)] G = .nx [.d (.ref 0), .d (.ref 1), .d (.ref 2), u3, u4', u5, .d (.ref K)] G' ∧ DrH G' N' C ∧ G'[K]? = some (.lst (Ks'.map cD)) ∧
      (N' ++ Ks'.map (·.1)).Perm (N ++ Ks.map (·.1)) ∧ N'.length + ds.length = N.length ∧ Ks'.length = Ks.length + ds.length ∧ (∀ c ∈ Ks', 1 ≤ c.2 ∧ c.2 ≤ 99)
  | [], G, N, Ks, u4, h, hK, _, _, hc => ⟨G, N, Ks, u4, forL_nil trivial, h, hK, List.Perm.refl _, by simp, by simp, hc⟩
  | d :: ds, G, N, Ks, u4, h, hK, hl, hn, hc => by
    obtain ⟨N0, s, rfl⟩ : ∃ N0 s, N = N0 ++ [s] := by
      have : N ≠ [] := fun z => by subst z; simp at hl
      exact ⟨N.dropLast, N.getLast this, (List.dropLast_concat_getLast this).symm⟩
    obtain ⟨G1, p, e, hD, hK1, k1, k2⟩ := dr_kind q u3 (.d d) u5 h hK hK3 (by simp at hn; omega)
    obtain ⟨G2, N2, K2, u42, e2, hD2, hK2, p1, p2, p3, p5⟩ := dr_kinds q K hK3 C u3 u5 ds G1 N0 (Ks ++ [(s, p)]) (.d d) hD hK1 (by simp at hl; omega) (by simp at hn ⊢; omega) (fun c hcm => by
      rcases List.mem_append.mp hcm with z | z
      · exact hc c z
      · simp at z; subst z; exact ⟨k1, k2⟩)
    refine ⟨G2, N2, K2, u42, ?_, hD2, hK2, ?_, by simp at p2 ⊢; omega, by simp at p3 ⊢; omega, p5⟩
    · rw [← e2]
      exact forL_nx trivial rfl e
    · refine p1.trans ?_
      rw [List.map_append, List.append_assoc]
      refine List.Perm.append_left N0 ?_
      exact List.perm_append_comm
/-- the exits: names popped one behind another -/
theorem dr_exits {C : List (Str × Int)} {K l : Nat} {Ks : List (Str × Int)} (hl3 : 3 ≤ l) (hKl : K ≠ l) (hK3 : 3 ≤ K) (u2 u3 u5 u6 : Sl) (u4 : Sl) : ∀ (ds : List D) (G : Hh) (N Es : List Str), DrH G N C → G[K]? = some (.lst (Ks.map cD)) → G[l]? = some (.lst (Es.map sD)) → ds.length ≤ N.length → Es.length + ds.length < 100 →
    ∃ (G' : Hh) (N' Es' : List Str), lcL (aName 4) tNo (eMet0 isLst gPop (eVar 1)) l yesH [.d (.ref 0), .d (.ref 1), u2, u3, u4, u5, u6] ds G = .ok (.ref l) G' ∧ DrH G' N' C ∧ G'[K]? = some (.lst (Ks.map cD)) ∧ G'[l]? = some (.lst (Es'.map sD)) ∧
      (N' ++ Es').Perm (N ++ Es) ∧ Es'.length = Es.length + ds.length
  | [], G, N, Es, h, hK, hE, _, _ => ⟨G, N, Es, by rw [lcL, if_pos (show yesH G from trivial)], h, hK, hE, List.Perm.refl _, by simp⟩
  | d :: ds, G, N, Es, h, hK, hE, hl, hn => by
    obtain ⟨N0, s, rfl⟩ : ∃ N0 s, N = N0 ++ [s] := by
      have : N ≠ [] := fun z => by subst z; simp at hl
      exact ⟨N.dropLast, N.getLast this, (List.dropLast_concat_getLast this).symm⟩
    obtain ⟨⟨m, hm, hsrc⟩, hN, hCl⟩ := h
    have hE1 : (G.set 1 (.lst (N0.map sD)))[l]? = some (.lst (Es.map sD)) := get_set hE (by omega)
    have hD : DrH ((G.set 1 (.lst (N0.map sD))).set l (.lst ((Es ++ [s]).map sD))) N0 C := ⟨⟨m, get_set (get_set hm (by decide)) (by omega), hsrc⟩, get_set (get_self hN) (by omega), get_set (get_set hCl (by decide)) (by omega)⟩
    obtain ⟨G2, N2, E2, e2, hD2, hK2, hE2, p1, p2⟩ := dr_exits hl3 hKl hK3 u2 u3 u5 u6 u4 ds _ N0 (Es ++ [s]) hD (get_set (get_set hK (by omega)) (by omega)) (get_self hE1) (by simp at hl; omega) (by simp at hn ⊢; omega)
    refine ⟨G2, N2, E2, ?_, hD2, hK2, hE2, ?_, by simp at p2 ⊢; omega⟩
    · have g2 : (List.map sD (N0 ++ [s]))[N0.length]? = some (sD s) := by simp
      have g3 : (List.map sD (N0 ++ [s])).dropLast = N0.map sD := by simp
      have g7 : (List.map sD (N0 ++ [s])).length = N0.length + 1 := by simp
      have ef : eMet0 isLst gPop (eVar 1) [.d (.ref 0), .d (.ref 1), u2, u3, .d d, u5, u6] G = .ok (sD s) (G.set 1 (.lst (N0.map sD))) := by
        generalize List.map sD (N0 ++ [s]) = NN at hN g2 g3 g7
        have g8 : ∀ h, NN[N0.length]'h = sD s := fun h => by
          rw [List.getElem?_eq_getElem h] at g2
          exact Option.some.inj g2
        simp [hN, g8, g3, g7]
      rw [lcL, if_pos (show yesH G from trivial)]
      have ea : aName 4 d [.d (.ref 0), .d (.ref 1), u2, u3, u4, u5, u6] G = some ([.d (.ref 0), .d (.ref 1), u2, u3, .d d, u5, u6], G) := rfl
      rw [ea]
      dsimp only
      have et : ∀ e g, tNo e g = .ok true g := fun _ _ => rfl
      rw [et]
      dsimp only
      rw [ef]
      dsimp only
      rw [hE1]
      dsimp only
      rw [if_pos (by simp; simp at hn; omega)]
      have g4 : List.map sD (Es ++ [s]) = Es.map sD ++ [sD s] := by simp
      rw [← g4]
      exact e2
    · refine p1.trans ?_
      rw [List.append_assoc]
      refine List.Perm.append_left N0 ?_
      exact List.perm_append_comm
@[simp] theorem mkTup_comp {α : Type} {f : α → PyData} {xs : List α} : mkTup (xs.map (D.dat ∘ f)) = .dat (.tuple (xs.map f)) := by
  rw [← List.map_map]
  exact mkTup_map
/-- a ground as it is drawn -/
structure Gr (C Ks : List (Str × Int)) (Es : List Str) : Prop where
  nod : (C.map (·.1) ++ (Ks.map (·.1) ++ Es)).Nodup
  sub : ∀ s ∈ C.map (·.1) ++ (Ks.map (·.1) ++ Es), s ∈ NAMES
  cl : C.length ≤ 4
  kl : Ks.length ≤ 3
  el : 1 ≤ Es.length ∧ Es.length ≤ 4
  cs : ∀ c ∈ C, 1 ≤ c.2 ∧ c.2 ≤ 8
  ks : ∀ c ∈ Ks, 1 ≤ c.2 ∧ c.2 ≤ 99
  pr : prodC C ≤ 64
def gd (C Ks : List (Str × Int)) (Es : List Str) : PyData := .tuple [.tuple (C.map cE), .tuple (Ks.map cE), .tuple (Es.map .str)]
theorem cD_map (C : List (Str × Int)) : C.map cD = (C.map cE).map .dat := by rw [List.map_map]; rfl
theorem sD_map (E : List Str) : E.map sD = (E.map PyData.str).map .dat := by rw [List.map_map]; rfl
theorem drawn_ok (q : ErrC) {m : MO} (h : Src m) : ∃ C Ks Es m' G1, Src m' ∧ Gr C Ks Es ∧ f__law_drawn q [.ref 0] [m] = .ok (.dat (gd C Ks Es)) (m' :: G1) := by
  have hf : f__law_drawn q = fnD 7 (sSeq (sAsg (eArgs gTupD (aCons (eCallA 1 (relCall (f__law_names q)) (aCons (eVar 0) aNil)) (aCons (eArgs gLstD aNil) (aCons (eC (.dat (.int 64))) aNil)))) (aTup [(aName 1), (aName 2), (aName 3)]))
    (sSeq (sFor (srcRange1 (aCons (eCallA 2 (relCall (f__law_take q)) (aCons (eVar 0) (aCons (eC (.dat (.int 5))) aNil))) aNil)) (aName 4) (drCell q))
    (sSeq (sAsg (eArgs gLstD aNil) (aName 6))
    (sSeq (sFor (srcRange1 (aCons (eCallA 2 (relCall (f__law_take q)) (aCons (eVar 0) (aCons (eC (.dat (.int 4))) aNil))) aNil)) (aName 4) (drKind q))
    (sRet (eArgs gTupD (aCons (eArgs gTuple (aCons (eVar 2) aNil)) (aCons (eArgs gTuple (aCons (eVar 6) aNil)) (aCons (eArgs gTuple (aCons (eLc (srcRange1 (aCons (eBin gAdd (eC (.dat (.int 1))) (eCallA 2 (relCall (f__law_take q)) (aCons (eVar 0) (aCons (eC (.dat (.int 4))) aNil)))) aNil)) (aName 4) tNo (eMet0 isLst gPop (eVar 1)) [4]) aNil)) aNil))))))))) := rfl
  rw [hf]
  obtain ⟨m1, N, hs1, hN, e1⟩ := names_rel q (G := [m]) (l := 0) rfl h
  have hNl : N.length = 14 := hN.length_eq
  -- the cells
  obtain ⟨r2, m2, a2, b2, hs2, e2⟩ := take_rel (G := [m1, .lst (N.map sD), .lst []]) (l := 0) (top := 5) rfl hs1 (by omega) (by omega)
  have hD0 : DrH [m2, .lst (N.map sD), .lst []] N [] := ⟨⟨m2, rfl, hs2⟩, rfl, rfl⟩
  have hrl : (rngD 0 r2.toNat).length = r2.toNat := by simp [rngD]
  obtain ⟨G3, N3, C, room, s4, s5, e3, hD3, p3, q3, c3, pr3, cs3⟩ := dr_cells q (rngD 0 r2.toNat) _ N [] 64 .no .no .no hD0 (by rw [hrl, hNl]; omega) (by rw [hrl]; simp; omega) (by omega) (by decide) (by decide) (fun c hc => by cases hc)
  have ok2 : okR r2 := by unfold okR; omega
  have E3 := (sFor_ok (src := srcRange1 (aCons (eCallA 2 (relCall (f__law_take q)) (aCons (eVar 0) (aCons (eC (.dat (.int 5))) aNil))) aNil)) (a := aName 4) (f := drCell q) (env := [.d (.ref 0), .d (.ref 1), .d (.ref 2), .d (.dat (.int 64)), .no, .no, .no]) (G := [m1, .lst (N.map sD), .lst []])
    (xs := rngD 0 r2.toNat) (chk := yesH) (G1 := [m2, .lst (N.map sD), .lst []]) (by rw [take_eq]; simp [e2, ok2])).trans e3
  -- the kinds
  obtain ⟨m3, hm3, hs3⟩ := hD3.src
  have hG3 : 3 ≤ G3.length := by have := lt_of hD3.cel; omega
  have hm3' : (G3 ++ [MO.lst []])[0]? = some m3 := get_app hm3
  obtain ⟨r4, m4, a4, b4, hs4, e4⟩ := take_rel (top := 4) hm3' hs3 (by omega) (by omega)
  have hD4 : DrH ((G3 ++ [MO.lst []]).set 0 m4) N3 C := ⟨⟨m4, get_self hm3', hs4⟩, get_set (get_app hD3.nam) (by decide), get_set (get_app hD3.cel) (by decide)⟩
  have hK4 : ((G3 ++ [MO.lst []]).set 0 m4)[G3.length]? = some (.lst (([] : List (Str × Int)).map cD)) := get_set (by simp) (by omega)
  have hrl4 : (rngD 0 r4.toNat).length = r4.toNat := by simp [rngD]
  obtain ⟨G5, N5, Ks, u4, e5, hD5, hK5, p5, q5, c5, ks5⟩ := dr_kinds q G3.length hG3 C (.d (.dat (.int room))) s5 (rngD 0 r4.toNat) _ N3 [] s4 hD4 hK4 (by rw [hrl4]; rw [hrl] at q3; omega) (by rw [hrl4]; simp; omega) (fun c hc => by cases hc)
  have ok4 : okR r4 := by unfold okR; omega
  have E5 := (sFor_ok (src := srcRange1 (aCons (eCallA 2 (relCall (f__law_take q)) (aCons (eVar 0) (aCons (eC (.dat (.int 4))) aNil))) aNil)) (a := aName 4) (f := drKind q) (env := [.d (.ref 0), .d (.ref 1), .d (.ref 2), .d (.dat (.int room)), s4, s5, .d (.ref G3.length)]) (G := G3 ++ [MO.lst []])
    (xs := rngD 0 r4.toNat) (chk := yesH) (G1 := (G3 ++ [MO.lst []]).set 0 m4) (by rw [take_eq]; simp [e4, ok4])).trans e5
  -- the exits
  obtain ⟨m5, hm5, hs5⟩ := hD5.src
  obtain ⟨r6, m6, a6, b6, hs6, e6⟩ := take_rel (top := 4) hm5 hs5 (by omega) (by omega)
  have hD6 : DrH (G5.set 0 m6 ++ [MO.lst []]) N5 C := ⟨⟨m6, get_app (get_self hm5), hs6⟩, get_app (get_set hD5.nam (by decide)), get_app (get_set hD5.cel (by decide))⟩
  have hK6 : (G5.set 0 m6 ++ [MO.lst []])[G3.length]? = some (.lst (Ks.map cD)) := get_app (get_set hK5 (by omega))
  have hE6 : (G5.set 0 m6 ++ [MO.lst []])[G5.length]? = some (.lst (([] : List Str).map sD)) := by simp
  have hKE : G3.length ≠ G5.length := by have := lt_of hK5; omega
  have hG5 : 3 ≤ G5.length := by have := lt_of hD5.cel; omega
  have hrl6 : (rngD 0 (1 + r6).toNat).length = (1 + r6).toNat := by simp [rngD]
  obtain ⟨G7, N7, Es, e7, hD7, hK7, hE7, p7, c7⟩ := dr_exits (Ks := Ks) hG5 hKE hG3 (.d (.ref 2)) (.d (.dat (.int room))) s5.cut (.d (.ref G3.length)) .no (rngD 0 (1 + r6).toNat) _ N5 [] hD6 hK6 hE6 (by rw [hrl6]; rw [hrl] at q3; rw [hrl4] at q5; omega) (by rw [hrl6]; simp; omega)
  have ok6 : okR (1 + r6) := by unfold okR; omega
  have E7 := (eLc_ok (src := srcRange1 (aCons (eBin gAdd (eC (.dat (.int 1))) (eCallA 2 (relCall (f__law_take q)) (aCons (eVar 0) (aCons (eC (.dat (.int 4))) aNil)))) aNil)) (a := aName 4) (t := tNo) (f := eMet0 isLst gPop (eVar 1)) (vs := [4]) (env := [.d (.ref 0), .d (.ref 1), .d (.ref 2), .d (.dat (.int room)), u4, s5, .d (.ref G3.length)]) (G := G5)
    (xs := rngD 0 (1 + r6).toNat) (chk := yesH) (G1 := G5.set 0 m6) (by rw [take_eq]; simp [e6, ok6]))
  have E8 : eLc (srcRange1 (aCons (eBin gAdd (eC (.dat (.int 1))) (eCallA 2 (relCall (f__law_take q)) (aCons (eVar 0) (aCons (eC (.dat (.int 4))) aNil)))) aNil)) (aName 4) tNo (eMet0 isLst gPop (eVar 1)) [4] [.d (.ref 0), .d (.ref 1), .d (.ref 2), .d (.dat (.int room)), u4, s5, .d (.ref G3.length)] G5 = .ok (.ref G5.length) G7 := by
    rw [E7]
    have hw : wipeE (cutX [.d (.ref 0), .d (.ref 1), .d (.ref 2), .d (.dat (.int room)), u4, s5, .d (.ref G3.length)]) [4] = [.d (.ref 0), .d (.ref 1), .d (.ref 2), .d (.dat (.int room)), .no, s5.cut, .d (.ref G3.length)] := rfl
    rw [hw, List.length_set]
    exact e7
  obtain ⟨m7, hm7, hs7⟩ := hD7.src
  obtain ⟨G8, rfl⟩ : ∃ G8, G7 = m7 :: G8 := by
    cases G7 with
    | nil => simp at hm7
    | cons x r => simp at hm7; subst hm7; exact ⟨r, rfl⟩
  refine ⟨C, Ks, Es, m7, G8, hs7, ?_, ?_⟩
  · have perm : (N7 ++ (C.map (·.1) ++ (Ks.map (·.1) ++ Es))).Perm NAMES := by
      have a1 : (N7 ++ Es).Perm N5 := by simpa using p7
      have a2 : (N5 ++ Ks.map (·.1)).Perm N3 := by simpa using p5
      have a3 : (N3 ++ C.map (·.1)).Perm N := by simpa using p3
      refine List.Perm.trans ?_ (a3.trans hN)
      refine List.Perm.trans ?_ (a2.append_right _)
      refine List.Perm.trans ?_ ((a1.append_right _).append_right _)
      have e : N7 ++ Es ++ Ks.map (·.1) ++ C.map (·.1) = N7 ++ (Es ++ Ks.map (·.1) ++ C.map (·.1)) := by simp
      rw [e]
      refine List.Perm.append_left N7 ?_
      exact (List.perm_append_comm).trans ((List.perm_append_comm (l₁ := Ks.map (·.1)) (l₂ := Es)).append_right _)
    have hn := perm.nodup_iff.mpr NAMES_nodup
    rw [hrl] at c3
    rw [hrl4] at c5
    rw [hrl6] at c7
    refine ⟨(List.nodup_append.mp hn).2.1, fun s hs => perm.mem_iff.mp (List.mem_append_right _ hs), by simp at c3; omega, by simp at c5; omega, by simp at c7; omega, cs3, ks5, pr3⟩
  · have hcell : (m7 :: G8)[2]? = some (.lst (C.map cD)) := hD7.cel
    have hc5 : G5[2]? = some (.lst (C.map cD)) := hD5.cel
    have hE7' : (m7 :: G8)[G5.length]? = some (.lst ((Es.map PyData.str).map .dat)) := by rw [← sD_map]; exact hE7
    rw [cD_map] at hc5 hK5
    have t1 : (C.map cE).length ≤ 100000 := by rw [hrl] at c3; simp at c3 ⊢; omega
    generalize eLc (srcRange1 (aCons (eBin gAdd (eC (.dat (.int 1))) (eCallA 2 (relCall (f__law_take q)) (aCons (eVar 0) (aCons (eC (.dat (.int 4))) aNil)))) aNil)) (aName 4) tNo (eMet0 isLst gPop (eVar 1)) [4] = X at E8 ⊢
    generalize (sFor (srcRange1 (aCons (eCallA 2 (relCall (f__law_take q)) (aCons (eVar 0) (aCons (eC (.dat (.int 4))) aNil))) aNil)) (aName 4) (drKind q)) = S5 at E5 ⊢
    generalize (sFor (srcRange1 (aCons (eCallA 2 (relCall (f__law_take q)) (aCons (eVar 0) (aCons (eC (.dat (.int 5))) aNil))) aNil)) (aName 4) (drCell q)) = S3 at E3 ⊢
    have e1' : relCall (f__law_names q) [.ref 0] [m] = .ok (.ref 1) [m1, .lst (N.map sD)] := e1
    simp only [e_fnD, e_sSeq, e_sAsg, List.map_cons, List.map_nil, List.length_cons, List.length_nil, List.cons_append, List.nil_append]
    simp [e1', E3, E5, E8, hc5, hK5, hE7', gd]
end K00

set_option Elab.async false
set_option linter.all false
set_option maxRecDepth 100000
set_option maxHeartbeats 1000000
namespace K00
open PySem PySem.Spec PyProof.Rows L2 DL
open Classical
/-! ### the drawn ground is right -/
theorem str_beq {a b : Str} : (a == b) = decide (a = b) := by
  by_cases h : a = b
  · subst h; simp
  · simp [h]
theorem entsW_good (p : Nat) : ∀ (ps : List (PyData × Str)) (A : List Str) (i : Nat), (∀ x ∈ ps, entryN p x.1 = .str x.2) → (A ++ ps.map (·.2)).Nodup → entsW p i (ps.map (·.1)) (A.map .str) = .inr ((A ++ ps.map (·.2)).map .str)
  | [], A, i, _, _ => by simp [entsW]
  | (e, s) :: ps, A, i, h, hn => by
    have he : entryN p e = .str s := h (e, s) List.mem_cons_self
    have hs : s ∉ A := fun z => by
      rw [List.map_cons] at hn
      exact (List.nodup_append.mp hn).2.2 s z s List.mem_cons_self rfl
    have hb : badN (.str s) (A.map .str) = false := by
      unfold badN isNo
      rw [Bool.false_or, List.any_map]
      rw [List.any_eq_false]
      intro x hx
      have : x ≠ s := fun z => hs (z ▸ hx)
      simp [str_beq, this]
    rw [List.map_cons, entsW, he, hb]
    have ih := entsW_good p ps (A ++ [s]) (i + 1) (fun x hx => h x (List.mem_cons_of_mem _ hx)) (by simpa using hn)
    rw [List.map_append] at ih
    simpa using ih
theorem sizes_cE (C : List (Str × Int)) : ∀ m, sizes m (C.map cE) = C.foldl (fun m c => m * c.2) m := by
  induction C with
  | nil => intro m; rfl
  | cons c r ih =>
    intro m
    have := ih (m * c.2)
    unfold sizes at this ⊢
    rw [List.map_cons, List.foldl_cons, List.foldl_cons]
    exact this
theorem fault_gd {C Ks : List (Str × Int)} {Es : List Str} (g : Gr C Ks Es) : fault (gd C Ks Es) = none := by
  have nm : ∀ {s : Str}, s ∈ C.map (·.1) ++ (Ks.map (·.1) ++ Es) → nmB (.str s) = true := fun h => NAMES_ok _ (g.sub _ h)
  have n1 := g.nod
  have w0 : partW 0 (C.map cE) [] = .inr ((C.map (·.1)).map .str) := by
    have e := entsW_good 0 (C.map fun c => (cE c, c.1)) [] 0 (fun x hx => by
      obtain ⟨c, hc, rfl⟩ := List.mem_map.mp hx
      have h1 := nm (s := c.1) (List.mem_append_left _ (List.mem_map_of_mem hc))
      obtain ⟨k1, k2⟩ := g.cs c hc
      simp [entryN, cE, h1, numIn, most, k1, k2]) (by
      have := (List.nodup_append.mp n1).1
      simpa [Function.comp_def] using this)
    have hl : C.length ≤ mostE 0 := g.cl
    have hp : ¬ 64 < sizes 1 (C.map cE) := by
      rw [sizes_cE]
      have := g.pr
      unfold prodC at this
      omega
    have e' : entsW 0 0 (C.map cE) [] = .inr ((C.map (·.1)).map .str) := by simpa [Function.comp_def] using e
    unfold partW
    rw [e']
    simp [hl, hp]
  have w1 : partW 1 (Ks.map cE) ((C.map (·.1)).map .str) = .inr ((C.map (·.1) ++ Ks.map (·.1)).map .str) := by
    have e := entsW_good 1 (Ks.map fun c => (cE c, c.1)) (C.map (·.1)) 0 (fun x hx => by
      obtain ⟨c, hc, rfl⟩ := List.mem_map.mp hx
      have h1 := nm (s := c.1) (List.mem_append_right _ (List.mem_append_left _ (List.mem_map_of_mem hc)))
      obtain ⟨k1, k2⟩ := g.ks c hc
      simp [entryN, cE, h1, numIn, most, k1, k2]) (by
      rw [← List.append_assoc] at n1
      have := (List.nodup_append.mp n1).1
      simpa [Function.comp_def] using this)
    have hl : Ks.length ≤ mostE 1 := g.kl
    have e' : entsW 1 0 (Ks.map cE) ((C.map (·.1)).map .str) = .inr ((C.map (·.1) ++ Ks.map (·.1)).map .str) := by simpa [Function.comp_def] using e
    unfold partW
    rw [e']
    simp [hl]
  have w2 : partW 2 (Es.map .str) ((C.map (·.1) ++ Ks.map (·.1)).map .str) = .inr ((C.map (·.1) ++ Ks.map (·.1) ++ Es).map .str) := by
    have e := entsW_good 2 (Es.map fun s => (.str s, s)) (C.map (·.1) ++ Ks.map (·.1)) 0 (fun x hx => by
      obtain ⟨c, hc, rfl⟩ := List.mem_map.mp hx
      have h1 := nm (s := c) (List.mem_append_right _ (List.mem_append_right _ hc))
      simp [entryN, h1]) (by
      rw [← List.append_assoc] at n1
      simpa [Function.comp_def] using n1)
    have hl : Es.length ≤ mostE 2 := g.el.2
    have hne : (Es.map PyData.str).isEmpty = false := by
      have := g.el.1
      cases Es with
      | nil => simp at this
      | cons _ _ => rfl
    have e' : entsW 2 0 (Es.map .str) ((C.map (·.1) ++ Ks.map (·.1)).map .str) = .inr ((C.map (·.1) ++ Ks.map (·.1) ++ Es).map .str) := by simpa [Function.comp_def] using e
    unfold partW
    rw [e', hne]
    simp [hl]
  have ht : trip (gd C Ks Es) = some (C.map cE, Ks.map cE, Es.map .str) := rfl
  unfold fault
  rw [ht]
  dsimp only
  unfold faultT
  rw [w0]
  dsimp only
  rw [w1]
  dsimp only
  rw [w2]
theorem entB_mono {a b : Nat} {e : PyData} (h : entB a e = true) (hab : a ≤ b) : entB b e = true := by
  unfold entB okB at h ⊢
  simp only [Bool.and_eq_true, decide_eq_true_eq] at h ⊢
  obtain ⟨⟨h1, h2, h3, h4⟩, h5⟩ := h
  exact ⟨⟨h1, h2, by omega, h4⟩, h5⟩
theorem cE_ent {c : Str × Int} (h : c.1 ∈ NAMES) (h1 : 1 ≤ c.2) (h2 : c.2 ≤ 99) : entB 30 (cE c) = true := by
  have := pair_ent c.1 h c.2.toNat (List.mem_range.mpr (by omega))
  have e : ((c.2.toNat : Nat) : Int) = c.2 := by omega
  rw [e] at this
  exact this
theorem wA_le {k : Nat} : ∀ {es : List PyData}, (∀ e ∈ es, e.weight ≤ k) → wA es ≤ es.length * (k + 1)
  | [], _ => by rw [wA_nil]; omega
  | e :: es, h => by
    rw [wA_cons, List.length_cons, Nat.add_mul]
    have h1 := h e List.mem_cons_self
    have h2 := wA_le (es := es) fun x hx => h x (List.mem_cons_of_mem _ hx)
    omega
theorem row_gd {C Ks : List (Str × Int)} {Es : List Str} (g : Gr C Ks Es) : RowOk 130 4 (.tuple (C.map cE)) ∧ RowOk 130 4 (.tuple (Ks.map cE)) ∧ RowOk 130 4 (.tuple (Es.map .str)) := by
  have row : ∀ {es : List PyData}, es.length ≤ 4 → (∀ e ∈ es, entB 30 e = true) → RowOk 130 4 (.tuple es) := fun {es} hl h es' e => by
    cases e
    refine ⟨fun x hx => entB_mono (h x hx) (by decide), hl, ?_⟩
    have := wA_le (es := es) fun x hx => (ent_ok (h x hx)).2.1
    have h2 : es.length * 31 ≤ 4 * 31 := Nat.mul_le_mul_right 31 hl
    omega
  refine ⟨row (by simpa using g.cl) fun e he => ?_, row (by have := g.kl; simp; omega) fun e he => ?_, row (by simpa using g.el.2) fun e he => ?_⟩
  · obtain ⟨c, hc, rfl⟩ := List.mem_map.mp he
    obtain ⟨k1, k2⟩ := g.cs c hc
    exact cE_ent (g.sub _ (List.mem_append_left _ (List.mem_map_of_mem hc))) k1 (by omega)
  · obtain ⟨c, hc, rfl⟩ := List.mem_map.mp he
    obtain ⟨k1, k2⟩ := g.ks c hc
    exact cE_ent (g.sub _ (List.mem_append_right _ (List.mem_append_left _ (List.mem_map_of_mem hc)))) k1 k2
  · obtain ⟨s, hs, rfl⟩ := List.mem_map.mp he
    exact entB_mono (names_ent s (g.sub _ (List.mem_append_right _ (List.mem_append_right _ hs)))) (by decide)
theorem gd_thing {C Ks : List (Str × Int)} {Es : List Str} (g : Gr C Ks Es) : Thing (gd C Ks Es) ∧ Shown (gd C Ks Es) := by
  obtain ⟨h0, h1, h2⟩ := row_gd g
  exact ⟨thing_of (by decide) h0 h1 h2, shown_of (by decide) h0 h1 h2⟩
end K00

set_option Elab.async false
set_option linter.all false
set_option maxRecDepth 100000
set_option maxHeartbeats 1000000
namespace K00
open PySem PySem.Spec PyProof.Rows L2 DL
open Classical
/-! ### states -/
def tD (st : List PyData) : D := .dat (.tuple st)
def stOne (k : Int) (st : List PyData) : List (List PyData) := (List.range k.toNat).map fun i => st ++ [.int (0 + (i : Nat))]
def stStep (L : List (List PyData)) (k : Int) : List (List PyData) := L.flatMap (stOne k)
theorem stOne_len (k : Int) (st : List PyData) : (stOne k st).length = k.toNat := by simp [stOne]
theorem stStep_len (k : Int) : ∀ L : List (List PyData), (stStep L k).length = L.length * k.toNat
  | [] => by simp [stStep]
  | st :: L => by
    have := stStep_len k L
    unfold stStep at this ⊢
    rw [List.flatMap_cons, List.length_append, this, stOne_len, List.length_cons, Nat.add_mul]
    omega
noncomputable def lsIn : SS := sDrop (eMet isLst gExtend (eVar 3) (aCons (eLc (srcRange1 (aCons (eBin gIx (eVar 2) (eC (.dat (.int 1)))) aNil)) (aName 5) tNo (eBin gAdd (eVar 4) (eArgs gTupD (aCons (eVar 5) aNil))) [5]) aNil))
theorem ls_in (g : D) (c : Str × Int) (l k : Nat) (hlk : l ≠ k) (hc : 0 ≤ c.2 ∧ c.2 ≤ 8) (L : List (List PyData)) : ∀ (rest acc : List (List PyData)) (G : Hh) (s4 s5 : Sl), G[l]? = some (.lst (L.map tD)) → G[k]? = some (.lst (acc.map tD)) → (∀ st ∈ rest, st.length ≤ 100) → acc.length + rest.length * 8 ≤ 10000 →
    ∃ G' s4' s5', forL (aName 4) lsIn (fun g => g[l]? = some (.lst (L.map tD))) (rest.map tD) [.d g, .d (.ref l), .d (cD c), .d (.ref k), s4, s5] G = .nx [.d g, .d (.ref l), .d (cD c), .d (.ref k), s4', s5'] G' ∧ G'[l]? = some (.lst (L.map tD)) ∧ G'[k]? = some (.lst ((acc ++ stStep rest c.2).map tD))
  | [], acc, G, s4, s5, hl, hk, _, _ => ⟨G, s4, s5, forL_nil hl, hl, by simpa [stStep] using hk⟩
  | st :: rest, acc, G, s4, s5, hl, hk, hs, hn => by
    have hst := hs st List.mem_cons_self
    have hok : okR c.2 := by unfold okR; omega
    have e1 : eLc (srcRange1 (aCons (eBin gIx (eVar 2) (eC (.dat (.int 1)))) aNil)) (aName 5) tNo (eBin gAdd (eVar 4) (eArgs gTupD (aCons (eVar 5) aNil))) [5] [.d g, .d (.ref l), .d (cD c), .d (.ref k), .d (tD st), s5] G = .ok (.ref G.length) (G ++ [.lst (((stOne c.2 st).map PyData.tuple).map .dat)]) := by
      have := eLc_dat (src := srcRange1 (aCons (eBin gIx (eVar 2) (eC (.dat (.int 1)))) aNil)) (a := aName 5) (t := tNo) (f := eBin gAdd (eVar 4) (eArgs gTupD (aCons (eVar 5) aNil))) (env := [.d g, .d (.ref l), .d (cD c), .d (.ref k), .d (tD st), s5]) (vs := [5]) (G := G) (G1 := G)
        (fun i : Nat => .dat (.int (0 + (i : Nat)))) (fun i => [.d g, .d (.ref l), .d (cD c), .d (.ref k), .d (tD st), .d (.dat (.int (0 + (i : Nat))))]) (fun _ => true) (fun i => .tuple (st ++ [.int (0 + (i : Nat))])) (List.range c.2.toNat) (by unfold cD cE; simp [hok, rngD]) (fun i _ g => ⟨rfl, rfl, fun _ => by
          unfold tD
          have : st.length + 1 ≤ 100000 := by omega
          simp [this]⟩) (by simp; omega)
      have hfil : (List.range c.2.toNat).filter (fun _ => true) = List.range c.2.toNat := List.filter_eq_self.mpr fun _ _ => rfl
      rw [this, hfil]
      congr 3
      simp [stOne, Function.comp_def]
    have hl2 : (G ++ [MO.lst (((stOne c.2 st).map PyData.tuple).map .dat)])[k]? = some (.lst (acc.map tD)) := get_app hk
    have e2 : lsIn [.d g, .d (.ref l), .d (cD c), .d (.ref k), .d (tD st), s5] G = .nx [.d g, .d (.ref l), .d (cD c), .d (.ref k), .d (tD st), s5] ((G ++ [MO.lst (((stOne c.2 st).map PyData.tuple).map .dat)]).set k (.lst ((acc ++ stOne c.2 st).map tD))) := by
      have h3 : (G ++ [MO.lst (((stOne c.2 st).map PyData.tuple).map .dat)])[G.length]? = some (MO.lst (((stOne c.2 st).map PyData.tuple).map .dat)) := by simp
      have h4 : ((stOne c.2 st).map PyData.tuple).map D.dat = (stOne c.2 st).map tD := by rw [List.map_map]; rfl
      rw [h4] at e1 h3 hl2 ⊢
      unfold lsIn
      generalize eLc (srcRange1 (aCons (eBin gIx (eVar 2) (eC (.dat (.int 1)))) aNil)) (aName 5) tNo (eBin gAdd (eVar 4) (eArgs gTupD (aCons (eVar 5) aNil))) [5] = X at e1 ⊢
      have hlen : (acc.map tD).length + ((stOne c.2 st).map tD).length ≤ 100000 := by
        rw [List.length_map, List.length_map, stOne_len]
        simp at hn
        omega
      rw [List.map_append]
      generalize (stOne c.2 st).map tD = Y at *
      generalize acc.map tD = Z at *
      simp [hk, e1, hl2, h3, hlen]
    have hlen : acc.length + (stOne c.2 st).length + rest.length * 8 ≤ 10000 := by
      rw [stOne_len]
      simp at hn
      omega
    obtain ⟨G2, t4, t5, e3, h1, h2⟩ := ls_in g c l k hlk hc L rest (acc ++ stOne c.2 st) ((G ++ [MO.lst (((stOne c.2 st).map PyData.tuple).map .dat)]).set k (.lst ((acc ++ stOne c.2 st).map tD))) (.d (tD st)) s5 (get_set (get_app hl) (fun z => hlk z.symm)) (get_self hl2) (fun x hx => hs x (List.mem_cons_of_mem _ hx)) (by simpa using hlen)
    refine ⟨G2, t4, t5, ?_, h1, ?_⟩
    · rw [← e3]
      exact forL_nx hl rfl e2
    · rw [h2]
      simp [stStep]
def stAll (L : List (List PyData)) (C : List (Str × Int)) : List (List PyData) := C.foldl (fun L c => stStep L c.2) L
noncomputable def lsOut : SS := (sSeq (sAsg (eArgs gLstD aNil) (aName 3))
    (sSeq (sFor (srcSeq (eVar 1)) (aName 4) lsIn)
    (sAsg (eVar 3) (aName 1))))
theorem stStep_short {n : Nat} {L : List (List PyData)} {k : Int} (h : ∀ st ∈ L, st.length ≤ n) : ∀ st ∈ stStep L k, st.length ≤ n + 1 := fun st hst => by
  unfold stStep at hst
  obtain ⟨x, hx, hy⟩ := List.mem_flatMap.mp hst
  unfold stOne at hy
  obtain ⟨i, _, rfl⟩ := List.mem_map.mp hy
  have := h x hx
  simp
  omega
theorem prodC_cons (c : Str × Int) (C : List (Str × Int)) : prodC (c :: C) = c.2 * prodC C := by
  have key : ∀ (C : List (Str × Int)) (m : Int), C.foldl (fun m c => m * c.2) m = m * prodC C := by
    intro C
    induction C with
    | nil => intro m; simp [prodC]
    | cons d r ih =>
      intro m
      unfold prodC
      rw [List.foldl_cons, List.foldl_cons, ih, ih (1 * d.2), Int.one_mul, Int.mul_assoc]
  unfold prodC
  rw [List.foldl_cons, Int.one_mul]
  exact key C c.2
theorem prodC_pos {C : List (Str × Int)} (h : ∀ c ∈ C, 1 ≤ c.2) : 1 ≤ prodC C := by
  induction C with
  | nil => decide
  | cons c r ih =>
    rw [prodC_cons]
    have h1 := h c List.mem_cons_self
    have h2 := ih fun x hx => h x (List.mem_cons_of_mem _ hx)
    have := Int.mul_le_mul h1 h2 (by omega) (by omega)
    omega
theorem ls_out (g : D) : ∀ (C : List (Str × Int)) (L : List (List PyData)) (G : Hh) (l n : Nat) (s2 s3 s4 s5 : Sl), G[l]? = some (.lst (L.map tD)) → (∀ c ∈ C, 1 ≤ c.2 ∧ c.2 ≤ 8) → (∀ st ∈ L, st.length ≤ n) → n + C.length ≤ 50 → (L.length : Int) * prodC C ≤ 64 →
    ∃ G' l' s2' s3' s4' s5', forL (aName 2) lsOut yesH (C.map cD) [.d g, .d (.ref l), s2, s3, s4, s5] G = .nx [.d g, .d (.ref l'), s2', s3', s4', s5'] G' ∧ G'[l']? = some (.lst ((stAll L C).map tD))
  | [], L, G, l, n, s2, s3, s4, s5, hl, _, _, _, _ => ⟨G, l, s2, s3, s4, s5, forL_nil trivial, hl⟩
  | c :: C, L, G, l, n, s2, s3, s4, s5, hl, hc, hs, hn, hp => by
    obtain ⟨c1, c8⟩ := hc c List.mem_cons_self
    have hpos := prodC_pos (C := C) fun x hx => (hc x (List.mem_cons_of_mem _ hx)).1
    rw [prodC_cons] at hp
    have hLk : (L.length : Int) * c.2 * prodC C ≤ 64 := by rw [Int.mul_assoc]; exact hp
    have hL : (L.length : Int) ≤ 64 := by
      have a1 : (L.length : Int) * 1 ≤ (L.length : Int) * (c.2 * prodC C) := Int.mul_le_mul_of_nonneg_left (by
        have := Int.mul_le_mul c1 hpos (by omega) (by omega)
        omega) (by omega)
      omega
    have hlk : l ≠ G.length := by have := lt_of hl; omega
    have hl1 : (G ++ [MO.lst []])[l]? = some (.lst (L.map tD)) := get_app hl
    obtain ⟨G2, t4, t5, e1, h1, h2⟩ := ls_in g c l G.length hlk ⟨by omega, c8⟩ L L [] (G ++ [MO.lst []]) s4 s5 hl1 (by simp) (fun st hst => by have := hs st hst; omega) (by simp; omega)
    have E1 := (sFor_ok (src := srcSeq (eVar 1)) (a := aName 4) (f := lsIn) (env := [.d g, .d (.ref l), .d (cD c), .d (.ref G.length), s4, s5]) (G := G ++ [MO.lst []]) (xs := L.map tD) (chk := fun g => g[l]? = some (.lst (L.map tD))) (G1 := G ++ [MO.lst []]) (by simp [hl1])).trans e1
    rw [List.nil_append] at h2
    obtain ⟨G3, l', u2, u3, u4, u5, e3, h3⟩ := ls_out g C (stStep L c.2) G2 G.length (n + 1) (.d (cD c)) (.d (.ref G.length)) t4 t5 h2 (fun x hx => hc x (List.mem_cons_of_mem _ hx)) (stStep_short hs) (by simp at hn; omega) (by
      rw [stStep_len]
      have : ((L.length * c.2.toNat : Nat) : Int) = (L.length : Int) * c.2 := by
        rw [Int.natCast_mul]
        congr 1
        omega
      rw [this]
      exact hLk)
    refine ⟨G3, l', u2, u3, u4, u5, ?_, h3⟩
    rw [← e3]
    refine forL_nx (env1 := [.d g, .d (.ref l), .d (cD c), s3, s4, s5]) (G1 := G) trivial rfl ?_
    unfold lsOut
    generalize (sFor (srcSeq (eVar 1)) (aName 4) lsIn) = S at E1 ⊢
    simp [E1]
theorem law_states_ok (q : ErrC) {C Ks : List (Str × Int)} {Es : List Str} (g : Gr C Ks Es) : ∃ G l, f__law_states q [.dat (gd C Ks Es)] [] = .ok (.ref l) G ∧ G[l]? = some (.lst ((stAll [[]] C).map tD)) := by
  obtain ⟨G', l', s2, s3, s4, s5, e, h⟩ := ls_out (.dat (gd C Ks Es)) C [[]] [.lst [tD []]] 0 0 .no .no .no .no rfl g.cs (fun st hst => by simp at hst; subst hst; simp) (by have := g.cl; omega) (by have := g.pr; simpa using this)
  have E := (sFor_ok (src := srcSeq (eBin gIx (eVar 0) (eC (.dat (.int 0))))) (a := aName 2) (f := lsOut) (env := [.d (.dat (gd C Ks Es)), .d (.ref 0), .no, .no, .no, .no]) (G := [.lst [tD []]]) (xs := C.map cD) (chk := yesH) (G1 := [.lst [tD []]]) (by rw [cD_map]; unfold gd; simp)).trans e
  have hf : f__law_states q = fnD 6 (sSeq (sAsg (eArgs gLstD (aCons (eArgs gTupD aNil) aNil)) (aName 1)) (sSeq (sFor (srcSeq (eBin gIx (eVar 0) (eC (.dat (.int 0))))) (aName 2) lsOut) (sRet (eVar 1)))) := rfl
  rw [hf]
  generalize (sFor (srcSeq (eBin gIx (eVar 0) (eC (.dat (.int 0))))) (aName 2) lsOut) = S at E ⊢
  refine ⟨G', l', ?_, h⟩
  have e0 : D.dat (PyData.tuple []) = tD [] := rfl
  simp [e0, E]
end K00

set_option Elab.async false
set_option linter.all false
set_option maxRecDepth 100000
set_option maxHeartbeats 1000000
namespace K00
open PySem PySem.Spec PyProof.Rows L2 DL
open Classical
noncomputable def stLc : ES := (eLc2 (srcSeq (eVar 1)) (aName 4) tNo (srcRange1 (aCons (eVar 3) aNil)) (aName 5) tNo (eBin gAdd (eVar 4) (eArgs gTupD (aCons (eVar 5) aNil))) [4, 5] [5])
theorem st_lc (g : D) (c : Str × Int) (l : Nat) (L : List (List PyData)) (G : Hh) (s4 s5 : Sl) (hl : G[l]? = some (.lst (L.map tD))) (hc : 1 ≤ c.2 ∧ c.2 ≤ 8) (hL : L.length ≤ 64) (hs : ∀ st ∈ L, st.length ≤ 100) :
    stLc [.d g, .d (.ref l), .d (.dat (.str c.1)), .d (.dat (.int c.2)), s4, s5] G = .ok (.ref G.length) (G ++ [.lst ((stStep L c.2).map tD)]) := by
  unfold stLc
  have hlk : G.length ≠ l := by have := lt_of hl; omega
  have hok : okR c.2 := by unfold okR; omega
  have hw : wipeE (cutX [.d g, .d (.ref l), .d (.dat (.str c.1)), .d (.dat (.int c.2)), s4, s5]) [4, 5] = [.d g, .d (.ref l), .d (.dat (.str c.1)), .d (.dat (.int c.2)), .no, .no] := rfl
  rw [eLc2_ok (xs := L.map tD) (chk := fun g => g[l]? = some (.lst (L.map tD))) (G1 := G) (by simp [hl]), hw]
  have hst : ∀ st : List PyData, (List.range c.2.toNat).map (fun i : Nat => tD (st ++ [.int (0 + (i : Nat))])) = (stOne c.2 st).map tD := fun st => by
    unfold stOne
    rw [List.map_map]
    rfl
  have hfm : (L.flatMap fun st => (List.range c.2.toNat).map (fun i : Nat => tD (st ++ [.int (0 + (i : Nat))]))) = (stStep L c.2).map tD := by
    unfold stStep
    rw [List.map_flatMap]
    simp only [hst]
  have key := lc2L_map (a := aName 4) (t := tNo) (f := eBin gAdd (eVar 4) (eArgs gTupD (aCons (eVar 5) aNil))) (l := G.length) (chk := fun g => g[l]? = some (.lst (L.map tD))) (env := [.d g, .d (.ref l), .d (.dat (.str c.1)), .d (.dat (.int c.2)), .no, .no])
    (src1 := srcRange1 (aCons (eVar 3) aNil)) (a1 := aName 5) (t1 := tNo) (vs1 := [5]) tD (fun st => [.d g, .d (.ref l), .d (.dat (.str c.1)), .d (.dat (.int c.2)), .d (tD st), .no]) (fun _ => List.range c.2.toNat) (fun _ i => .dat (.int (0 + (i : Nat))))
    (fun st i => [.d g, .d (.ref l), .d (.dat (.str c.1)), .d (.dat (.int c.2)), .d (tD st), .d (.dat (.int (0 + (i : Nat))))]) (fun st i => tD (st ++ [.int (0 + (i : Nat))])) (fun g => g[l]? = some (.lst (L.map tD))) (fun g zs h => get_set h hlk) (fun g h => h) L [] (G ++ [MO.lst []])
    (fun st hst g hg => ⟨rfl, rfl, by simp [hok, rngD], fun i hi => ⟨rfl, rfl, by
      have : st.length + 1 ≤ 100000 := by have := hs st hst; omega
      unfold tD
      simp [this]⟩⟩) (get_app hl) (by simp) (by
      rw [hfm, List.length_map, stStep_len]
      have : L.length * c.2.toNat ≤ 64 * 8 := Nat.mul_le_mul hL (by omega)
      simp
      omega)
  rw [key, hfm]
  simp
theorem st_loop (g : D) : ∀ (C : List (Str × Int)) (L : List (List PyData)) (G : Hh) (l n : Nat) (s2 s3 s4 s5 : Sl), G[l]? = some (.lst (L.map tD)) → (∀ c ∈ C, 1 ≤ c.2 ∧ c.2 ≤ 8) → (∀ st ∈ L, st.length ≤ n) → n + C.length ≤ 50 → (L.length : Int) * prodC C ≤ 64 →
    ∃ G' l' s2' s3' s4' s5', forL (aTup [aName 2, aName 3]) (sAsg stLc (aName 1)) yesH (C.map cD) [.d g, .d (.ref l), s2, s3, s4, s5] G = .nx [.d g, .d (.ref l'), s2', s3', s4', s5'] G' ∧ G'[l']? = some (.lst ((stAll L C).map tD))
  | [], L, G, l, n, s2, s3, s4, s5, hl, _, _, _, _ => ⟨G, l, s2, s3, s4, s5, forL_nil trivial, hl⟩
  | c :: C, L, G, l, n, s2, s3, s4, s5, hl, hc, hs, hn, hp => by
    obtain ⟨c1, c8⟩ := hc c List.mem_cons_self
    have hpos := prodC_pos (C := C) fun x hx => (hc x (List.mem_cons_of_mem _ hx)).1
    rw [prodC_cons] at hp
    have hLk : (L.length : Int) * c.2 * prodC C ≤ 64 := by rw [Int.mul_assoc]; exact hp
    have hL : (L.length : Int) ≤ 64 := by
      have a1 : (L.length : Int) * 1 ≤ (L.length : Int) * (c.2 * prodC C) := Int.mul_le_mul_of_nonneg_left (by
        have := Int.mul_le_mul c1 hpos (by omega) (by omega)
        omega) (by omega)
      omega
    have e1 := st_lc g c l L G s4 s5 hl ⟨c1, c8⟩ (by omega) (fun st hst => by have := hs st hst; omega)
    obtain ⟨G3, l', u2, u3, u4, u5, e3, h3⟩ := st_loop g C (stStep L c.2) (G ++ [.lst ((stStep L c.2).map tD)]) G.length (n + 1) (.d (.dat (.str c.1))) (.d (.dat (.int c.2))) s4 s5 (by simp) (fun x hx => hc x (List.mem_cons_of_mem _ hx)) (stStep_short hs) (by simp at hn; omega) (by
      rw [stStep_len]
      have : ((L.length * c.2.toNat : Nat) : Int) = (L.length : Int) * c.2 := by
        rw [Int.natCast_mul]
        congr 1
        omega
      rw [this]
      exact hLk)
    refine ⟨G3, l', u2, u3, u4, u5, ?_, h3⟩
    rw [← e3]
    refine forL_nx (env1 := [.d g, .d (.ref l), .d (.dat (.str c.1)), .d (.dat (.int c.2)), s4, s5]) (G1 := G) trivial ?_ ?_
    · unfold cD cE
      simp
    · rw [e_sAsg, e1]
      rfl
theorem states_ok (q : ErrC) {C Ks : List (Str × Int)} {Es : List Str} (g : Gr C Ks Es) : ∃ G, f_states q [.dat (gd C Ks Es)] [] = .ok (.dat (.tuple ((stAll [[]] C).map .tuple))) G := by
  have em : ∀ G, relCall (f_made_ground q) [.dat (gd C Ks Es)] G = .ok (.dat (gd C Ks Es)) G := fun G => by
    rw [mg_rel q _ (gd_thing g).1 G, fault_gd g]
  obtain ⟨G', l', s2, s3, s4, s5, e, h⟩ := st_loop (.dat (gd C Ks Es)) C [[]] [.lst [tD []]] 0 0 .no .no .no .no rfl g.cs (fun st hst => by simp at hst; subst hst; simp) (by have := g.cl; omega) (by have := g.pr; simpa using this)
  have E := (sFor_ok (src := srcSeq (eBin gIx (eVar 0) (eC (.dat (.int 0))))) (a := aTup [aName 2, aName 3]) (f := sAsg stLc (aName 1)) (env := [.d (.dat (gd C Ks Es)), .d (.ref 0), .no, .no, .no, .no]) (G := [.lst [tD []]]) (xs := C.map cD) (chk := yesH) (G1 := [.lst [tD []]]) (by rw [cD_map]; unfold gd; simp)).trans e
  have hf : f_states q = fnD 6 (sSeq (sDrop (eCallA 1 (relCall (f_made_ground q)) (aCons (eVar 0) aNil))) (sSeq (sAsg (eArgs gLstD (aCons (eArgs gTupD aNil) aNil)) (aName 1)) (sSeq (sFor (srcSeq (eBin gIx (eVar 0) (eC (.dat (.int 0))))) (aTup [aName 2, aName 3]) (sAsg stLc (aName 1))) (sRet (eArgs gTuple (aCons (eVar 1) aNil)))))) := rfl
  rw [hf]
  generalize (sFor (srcSeq (eBin gIx (eVar 0) (eC (.dat (.int 0))))) (aTup [aName 2, aName 3]) (sAsg stLc (aName 1))) = S at E ⊢
  have e0 : D.dat (PyData.tuple []) = tD [] := rfl
  have e1 : (stAll [[]] C).map tD = (stAll [[]] C).map (D.dat ∘ PyData.tuple) := rfl
  rw [e1] at h
  exact ⟨G', by simp [em, e0, E, h]⟩
theorem many_ok (q : ErrC) {C Ks : List (Str × Int)} {Es : List Str} (g : Gr C Ks Es) : ∃ G, f_many_states q [.dat (gd C Ks Es)] [] = .ok (.dat (.int (prodC C))) G := by
  have em : ∀ G, relCall (f_made_ground q) [.dat (gd C Ks Es)] G = .ok (.dat (gd C Ks Es)) G := fun G => by
    rw [mg_rel q _ (gd_thing g).1 G, fault_gd g]
  have es := fun G => call0 (G := G) (soc_ok q (C.map cE) fun e he => by
    obtain ⟨c, hc, rfl⟩ := List.mem_map.mp he
    exact ⟨c.1, c.2, rfl, g.cs c hc⟩)
  have hz : sizes 1 (C.map cE) = prodC C := sizes_cE C 1
  rw [hz] at es
  refine ⟨[], ?_⟩
  have hg : gd C Ks Es = .tuple [.tuple (C.map cE), .tuple (Ks.map cE), .tuple (Es.map .str)] := rfl
  rw [hg] at em ⊢
  simp [f_many_states, b_many_states, em, es]
theorem nought_ok (q : ErrC) {C Ks : List (Str × Int)} {Es : List Str} (g : Gr C Ks Es) : ∃ G, f_nought q [.dat (gd C Ks Es)] [] = .ok (.dat (.tuple (List.replicate Ks.length (.int 0)))) G := by
  have em : ∀ G, relCall (f_made_ground q) [.dat (gd C Ks Es)] G = .ok (.dat (gd C Ks Es)) G := fun G => by
    rw [mg_rel q _ (gd_thing g).1 G, fault_gd g]
  have hg : gd C Ks Es = .tuple [.tuple (C.map cE), .tuple (Ks.map cE), .tuple (Es.map .str)] := rfl
  have e2 : eTupG (srcSeq (eBin gIx (eVar 0) (eC (.dat (.int 1))))) (aName 1) (eC (.dat (.int 0))) [1] [.d (.dat (gd C Ks Es)), .no] [] = .ok (.dat (.tuple (Ks.map fun _ => .int 0))) [] := by
    refine eTupG_dat (chk := yesH) cD (fun c => [.d (.dat (gd C Ks Es)), .d (cD c)]) (fun _ => .int 0) Ks ?_ trivial (fun c _ => ⟨rfl, rfl⟩) (by have := g.kl; omega)
    rw [hg, cD_map]
    simp
  have e3 : (Ks.map fun _ => PyData.int 0) = List.replicate Ks.length (.int 0) := List.map_const' ..
  rw [e3] at e2
  exact ⟨[], by simp [f_nought, b_nought, em, e2]⟩
theorem stAll_len : ∀ (C : List (Str × Int)) (L : List (List PyData)), (∀ c ∈ C, 1 ≤ c.2) → ((stAll L C).length : Int) = L.length * prodC C
  | [], L, _ => by simp [stAll, prodC]
  | c :: C, L, h => by
    have ih := stAll_len C (stStep L c.2) fun x hx => h x (List.mem_cons_of_mem _ hx)
    have h1 := h c List.mem_cons_self
    show ((stAll (stStep L c.2) C).length : Int) = _
    rw [ih, prodC_cons, stStep_len, Int.natCast_mul, Int.mul_assoc]
    congr 2
    omega
end K00

set_option Elab.async false
set_option linter.all false
set_option maxRecDepth 100000
set_option maxHeartbeats 1000000
namespace K00
open PySem PySem.Spec PyProof.Rows L2 DL
open Classical
/-! ### things that are spoilt -/
/-- one of a list that is just made -/
theorem fresh_one {G : Hh} {m : MO} (hm : G[0]? = some m) (h : Src m) (xs : List PyData) (hx : xs ≠ []) (hl : xs.length ≤ 1000) :
    ∃ x m' G', x ∈ xs ∧ Src m' ∧ G'[0]? = some m' ∧ (∀ j, 1 ≤ j → j < G.length → G'[j]? = G[j]?) ∧ relCall gOne [.ref 0, .ref G.length] (G ++ [.lst (xs.map .dat)]) = .ok (.dat x) G' := by
  have hm1 : (G ++ [MO.lst (xs.map .dat)])[0]? = some m := get_app hm
  have hk1 : (G ++ [MO.lst (xs.map .dat)])[G.length]? = some (.lst (xs.map .dat)) := by simp
  have hlen : 0 ≠ G.length := by have := lt_of hm; omega
  obtain ⟨x, m', h1, h2, e⟩ := one_rel hm1 hk1 hlen h (by simpa using hx) (by simpa using (by omega : xs.length ≤ 1000000)) cleans_dat
  obtain ⟨y, hy, rfl⟩ := List.mem_map.mp h1
  refine ⟨y, m', _, hy, h2, get_self hm1, fun j j1 j2 => ?_, e⟩
  rw [List.getElem?_set_ne (by omega), List.getElem?_append_left j2]
def ODD11 : List PyData := [.str "", .str "A", .str "9a", .str "a b", .str "abcdefghijklm", .str "if", .str "law", .str "cells", .str "good", .none, .int 7]
theorem odd_more : ∀ e ∈ [PyData.tuple [.str "good", .int 1], .tuple [.str "good"], .tuple [.str "good", .int 1, .int 1], .str "good", .none, .str "m1", .tuple [.str "m1", .int 1], .tuple [.str "m1", .int 8], .tuple [.str "m2", .int 8], .tuple [.str "m3", .int 1], .tuple [.str "m3", .int 2]], entB 150 e = true := by decide +kernel
theorem odd_good : ∀ k ∈ NUMS, entB 150 (.tuple [.str "good", k]) = true := by decide +kernel
theorem odd_one : ∀ n ∈ ODDN, entB 150 (.tuple [n, .int 1]) = true := by decide +kernel
noncomputable def oeRest (q : ErrC) : SS := (sSeq (sIf (tTest' truB (eBin gEq (eVar 2) (eC (.dat (.int 2))))) (sRet (eCallA 2 (relCall (f__law_one q)) (aCons (eVar 0) (aCons (eArgs gLstD (aCons (eVar 4) (aCons (eVar 4) (aCons (eArgs gTupD (aCons (eC (.dat (.str "good"))) (aCons (eC (.dat (.int 1))) aNil))) aNil)))) aNil)))) sNil)
    (sSeq (sAsg (eCallA 2 (relCall (f__law_one q)) (aCons (eVar 0) (aCons (eArgs gLstD (aCons (eC (.dat (.int 0))) (aCons (eUn gNeg (eC (.dat (.int 1)))) (aCons (eC (.dat (.int 9))) (aCons (eC (.dat (.int 8))) (aCons (eC (.dat (.int 100))) (aCons (eC (.dat (.int 99))) (aCons (eBin gPow (eC (.dat (.int 10))) (eC (.dat (.int 30)))) (aCons (eC (.dat .none)) (aCons (eC (.dat (.str "1"))) (aCons (eC (.dat (.bool true))) (aCons (eC (.dat (.int 1))) aNil)))))))))))) aNil))) (aName 5))
    (sRet (eCallA 2 (relCall (f__law_one q)) (aCons (eVar 0) (aCons (eArgs gLstD (aCons (eArgs gTupD (aCons (eVar 4) (aCons (eC (.dat (.int 1))) aNil))) (aCons (eArgs gTupD (aCons (eC (.dat (.str "good"))) (aCons (eVar 5) aNil))) (aCons (eArgs gTupD (aCons (eC (.dat (.str "good"))) aNil)) (aCons (eArgs gTupD (aCons (eC (.dat (.str "good"))) (aCons (eC (.dat (.int 1))) (aCons (eC (.dat (.int 1))) aNil)))) (aCons (eC (.dat (.str "good"))) (aCons (eC (.dat .none)) (aCons (eArgs gTupD (aCons (eVar 4) (aCons (eVar 5) aNil))) aNil)))))))) aNil))))))
theorem oe_rest (q : ErrC) {p : Nat} (gd' : D) (s3 : Sl) {n : PyData} (hn : n ∈ ODDN) {m : MO} (h : Src m) (tail : Hh) :
    ∃ e m' G1, entB 150 e = true ∧ Src m' ∧ oeRest q [.d (.ref 0), .d gd', .d (.dat (.int p)), s3, .d (.dat n), .no] (m :: tail) = .rt (.dat e) (m' :: G1) := by
  have asCons : ∀ {G : Hh} {m1 : MO}, G[0]? = some m1 → ∃ r, G = m1 :: r := fun {G m1} hG => by
    cases G with
    | nil => simp at hG
    | cons x r => simp at hG; subst hG; exact ⟨r, rfl⟩
  by_cases hp2 : p = 2
  · subst hp2
    obtain ⟨x, m1, G1, hx, hs1, hm1, _, e⟩ := fresh_one (G := m :: tail) (m := m) rfl h [n, n, .tuple [.str "good", .int 1]] (by simp) (by simp)
    obtain ⟨r, rfl⟩ := asCons hm1
    simp only [List.length_cons, List.cons_append, List.map_cons, List.map_nil] at e
    refine ⟨x, m1, r, ?_, hs1, ?_⟩
    · simp only [List.mem_cons, List.not_mem_nil, or_false] at hx
      rcases hx with rfl | rfl | rfl
      · exact (odd_ent _ hn).1
      · exact (odd_ent _ hn).1
      · exact odd_more _ (by simp)
    · unfold oeRest
      rw [one_eq]
      simp [e]
  · have hp' : ((p : Int) == 2) = false := by simp; omega
    obtain ⟨k, m1, G1, hk, hs1, hm1, _, e⟩ := fresh_one (G := m :: tail) (m := m) rfl h NUMS (by decide) (by decide)
    obtain ⟨r, rfl⟩ := asCons hm1
    simp only [List.length_cons, List.cons_append] at e
    obtain ⟨x, m2, G2, hx, hs2, hm2, _, e2⟩ := fresh_one (G := m1 :: r) (m := m1) rfl hs1 [.tuple [n, .int 1], .tuple [.str "good", k], .tuple [.str "good"], .tuple [.str "good", .int 1, .int 1], .str "good", .none, .tuple [n, k]] (by simp) (by simp)
    obtain ⟨r2, rfl⟩ := asCons hm2
    simp only [List.length_cons, List.cons_append, List.map_cons, List.map_nil] at e2
    refine ⟨x, m2, r2, ?_, hs2, ?_⟩
    · simp only [List.mem_cons, List.not_mem_nil, or_false] at hx
      rcases hx with rfl | rfl | rfl | rfl | rfl | rfl | rfl
      · exact odd_one _ hn
      · exact odd_good _ hk
      · exact odd_more _ (by simp)
      · exact odd_more _ (by simp)
      · exact odd_more _ (by simp)
      · exact odd_more _ (by simp)
      · exact (odd_ent _ hn).2 _ hk
    · have hN : NUMS.map D.dat = [.dat (.int 0), .dat (.int (-1)), .dat (.int 9), .dat (.int 8), .dat (.int 100), .dat (.int 99), .dat (.int (10 ^ 30)), .dat .none, .dat (.str "1"), .dat (.bool true), .dat (.int 1)] := rfl
      rw [hN] at e
      have hpw : ((10 : Int) ^ 30) = 1000000000000000000000000000000 := by decide
      rw [hpw] at e
      unfold oeRest
      rw [one_eq]
      simp [e, e2, hp']
theorem odd_entry_ok (q : ErrC) {C Ks : List (Str × Int)} {Es : List Str} (g : Gr C Ks Es) {p : Nat} (hp : p ≤ 2) {m : MO} (h : Src m) :
    ∃ e m' G1, entB 150 e = true ∧ Src m' ∧ f__law_odd_entry q [.ref 0, .dat (gd C Ks Es), .dat (.int p)] [m] = .ok (.dat e) (m' :: G1) := by
  have hcl := g.cl
  have hkl := g.kl
  have hel := g.el
  have hg : gd C Ks Es = .tuple [.tuple (C.map cE), .tuple (Ks.map cE), .tuple (Es.map .str)] := rfl
  -- the names that are there
  have e1 : eLc (srcSeq (eBin gAdd (eBin gIx (eVar 1) (eC (.dat (.int 0)))) (eBin gIx (eVar 1) (eC (.dat (.int 1)))))) (aName 2) tNo (eBin gIx (eVar 2) (eC (.dat (.int 0)))) [2] [.d (.ref 0), .d (.dat (gd C Ks Es)), .d (.dat (.int p)), .no, .no, .no] [m] = .ok (.ref 1) [m, .lst (((C ++ Ks).map fun c => PyData.str c.1).map .dat)] := by
    have hfil : (C ++ Ks).filter (fun _ => true) = C ++ Ks := List.filter_eq_self.mpr fun _ _ => rfl
    have := eLc_dat (src := srcSeq (eBin gAdd (eBin gIx (eVar 1) (eC (.dat (.int 0)))) (eBin gIx (eVar 1) (eC (.dat (.int 1)))))) (a := aName 2) (t := tNo) (f := eBin gIx (eVar 2) (eC (.dat (.int 0)))) (vs := [2]) (env := [.d (.ref 0), .d (.dat (gd C Ks Es)), .d (.dat (.int p)), .no, .no, .no]) (G := [m]) (G1 := [m]) cD
      (fun c => [.d (.ref 0), .d (.dat (gd C Ks Es)), .d (cD c), .no, .no, .no]) (fun _ => true) (fun c => .str c.1) (C ++ Ks) (by
        rw [hg]
        have : (C.map cE).length + (Ks.map cE).length ≤ 100000 := by simp; omega
        have h2 : List.map D.dat (C.map cE) ++ List.map D.dat (Ks.map cE) = (C ++ Ks).map cD := by rw [← cD_map, ← cD_map, List.map_append]
        simp only [e_srcSeq, e_eBin, e_eThen, e_eVar, e_eC]
        simp only [List.getElem?_cons_succ, List.getElem?_cons_zero]
        simp only [gIx_tup, atI_0, atI_1, List.getElem?_cons_succ, List.getElem?_cons_zero, of_some, gAdd_tup, if_pos this, List.map_append, h2]) (fun c _ g => ⟨rfl, rfl, fun _ => by simp [cD, cE]⟩) (by simp; omega)
    rw [hfil] at this
    exact this
  obtain ⟨L1, hL1⟩ : ∃ L1 : List PyData, L1 = (C ++ Ks).map fun c => PyData.str c.1 := ⟨_, rfl⟩
  obtain ⟨L2, hL2⟩ : ∃ L2 : List PyData, L2 = Es.map .str := ⟨_, rfl⟩
  rw [← hL1] at e1
  have hL1l : L1.length ≤ 7 := by rw [hL1]; simp; omega
  have hL2l : L2.length ≤ 4 := by rw [hL2]; simpa using hel.2
  have hsub : ∀ n ∈ ODD11 ++ (L1 ++ L2), n ∈ ODDN := by
    have hn : ∀ s, s ∈ C.map (·.1) ++ (Ks.map (·.1) ++ Es) → PyData.str s ∈ ODDN := fun s hs => List.mem_append_right _ (List.mem_map_of_mem (g.sub s hs))
    intro n hn2
    rcases List.mem_append.mp hn2 with z | z
    · exact List.mem_append_left _ z
    · rcases List.mem_append.mp z with z | z
      · rw [hL1] at z
        obtain ⟨c, hc, rfl⟩ := List.mem_map.mp z
        refine hn _ ?_
        rcases List.mem_append.mp hc with w | w
        · exact List.mem_append_left _ (List.mem_map_of_mem w)
        · exact List.mem_append_right _ (List.mem_append_left _ (List.mem_map_of_mem w))
      · rw [hL2] at z
        obtain ⟨s, hs, rfl⟩ := List.mem_map.mp z
        exact hn _ (List.mem_append_right _ (List.mem_append_right _ hs))
  -- some
  have E1 : (sAsg (eBin gAdd (eLc (srcSeq (eBin gAdd (eBin gIx (eVar 1) (eC (.dat (.int 0)))) (eBin gIx (eVar 1) (eC (.dat (.int 1)))))) (aName 2) tNo (eBin gIx (eVar 2) (eC (.dat (.int 0)))) [2]) (eArgs gList (aCons (eBin gIx (eVar 1) (eC (.dat (.int 2)))) aNil))) (aName 3)) [.d (.ref 0), .d (.dat (gd C Ks Es)), .d (.dat (.int p)), .no, .no, .no] [m]
      = .nx [.d (.ref 0), .d (.dat (gd C Ks Es)), .d (.dat (.int p)), .d (.ref 3), .no, .no] [m, .lst (L1.map .dat), .lst (L2.map .dat), .lst ((L1 ++ L2).map .dat)] := by
    generalize eLc (srcSeq (eBin gAdd (eBin gIx (eVar 1) (eC (.dat (.int 0)))) (eBin gIx (eVar 1) (eC (.dat (.int 1)))))) (aName 2) tNo (eBin gIx (eVar 2) (eC (.dat (.int 0)))) [2] = X at e1 ⊢
    rw [hg, ← hL2] at e1 ⊢
    have : L1.length + L2.length ≤ 100000 := by omega
    simp [e1, this]
  -- the name
  obtain ⟨n, m1, G1, hn, hs1, hm1, keep1, e2⟩ := fresh_one (G := [m, .lst (L1.map .dat), .lst (L2.map .dat), .lst ((L1 ++ L2).map .dat), .lst (ODD11.map .dat)]) (m := m) rfl h (ODD11 ++ (L1 ++ L2)) (by simp [ODD11]) (by simp [ODD11]; omega)
  have hnO := hsub n hn
  obtain ⟨G1', rfl⟩ : ∃ r, G1 = m1 :: r := by
    cases G1 with
    | nil => simp at hm1
    | cons x r => simp at hm1; subst hm1; exact ⟨r, rfl⟩
  have E2 : (sAsg (eCallA 2 (relCall (f__law_one q)) (aCons (eVar 0) (aCons (eBin gAdd (eArgs gLstD (aCons (eC (.dat (.str ""))) (aCons (eC (.dat (.str "A"))) (aCons (eC (.dat (.str "9a"))) (aCons (eC (.dat (.str "a b"))) (aCons (eC (.dat (.str "abcdefghijklm"))) (aCons (eC (.dat (.str "if"))) (aCons (eC (.dat (.str "law"))) (aCons (eC (.dat (.str "cells"))) (aCons (eC (.dat (.str "good"))) (aCons (eC (.dat .none)) (aCons (eC (.dat (.int 7))) aNil)))))))))))) (eVar 3)) aNil))) (aName 4)) [.d (.ref 0), .d (.dat (gd C Ks Es)), .d (.dat (.int p)), .d (.ref 3), .no, .no] [m, .lst (L1.map .dat), .lst (L2.map .dat), .lst ((L1 ++ L2).map .dat)]
      = .nx [.d (.ref 0), .d (.dat (gd C Ks Es)), .d (.dat (.int p)), .d (.ref 3), .d (.dat n), .no] (m1 :: G1') := by
    have h5 : ODD11.map D.dat ++ (L1 ++ L2).map D.dat = (ODD11 ++ (L1 ++ L2)).map D.dat := by rw [← List.map_append]
    have h6 : ([.dat (.str ""), .dat (.str "A"), .dat (.str "9a"), .dat (.str "a b"), .dat (.str "abcdefghijklm"), .dat (.str "if"), .dat (.str "law"), .dat (.str "cells"), .dat (.str "good"), .dat .none, .dat (.int 7)] : List D) = ODD11.map .dat := rfl
    have h7 : (ODD11.map D.dat).length + ((L1 ++ L2).map D.dat).length ≤ 100000 := by simp [ODD11]; omega
    generalize (L1 ++ L2).map D.dat = Y at *
    rw [one_eq]
    simp only [e_sAsg, e_eCallA, e_aCons, e_eVar, List.getElem?_cons_zero, List.getElem?_cons_succ, e_aNil, e_eBin, e_eThen, e_eArgs, e_eC, gLstD_eq]
    rw [h6]
    rw [if_pos (by decide)]
    simp only [of_some, gAdd_ref, List.cons_append, List.nil_append, List.length_cons, List.length_nil, List.getElem?_cons_zero, List.getElem?_cons_succ, if_pos h7, h5]
    have e2' : relCall gOne [.ref 0, .ref 5] [m, .lst (L1.map .dat), .lst (L2.map .dat), .lst Y, .lst (ODD11.map .dat), .lst ((ODD11 ++ (L1 ++ L2)).map .dat)] = .ok (.dat n) (m1 :: G1') := e2
    generalize (ODD11 ++ (L1 ++ L2)).map D.dat = Z at *
    simp [e2', aName]
  obtain ⟨e, m2, G2, he, hs2, E3⟩ := oe_rest q (p := p) (.dat (gd C Ks Es)) (.d (.ref 3)) hnO hs1 G1'
  refine ⟨e, m2, G2, he, hs2, ?_⟩
  have hf : f__law_odd_entry q = fnD 6 (sSeq (sAsg (eBin gAdd (eLc (srcSeq (eBin gAdd (eBin gIx (eVar 1) (eC (.dat (.int 0)))) (eBin gIx (eVar 1) (eC (.dat (.int 1)))))) (aName 2) tNo (eBin gIx (eVar 2) (eC (.dat (.int 0)))) [2]) (eArgs gList (aCons (eBin gIx (eVar 1) (eC (.dat (.int 2)))) aNil))) (aName 3))
    (sSeq (sAsg (eCallA 2 (relCall (f__law_one q)) (aCons (eVar 0) (aCons (eBin gAdd (eArgs gLstD (aCons (eC (.dat (.str ""))) (aCons (eC (.dat (.str "A"))) (aCons (eC (.dat (.str "9a"))) (aCons (eC (.dat (.str "a b"))) (aCons (eC (.dat (.str "abcdefghijklm"))) (aCons (eC (.dat (.str "if"))) (aCons (eC (.dat (.str "law"))) (aCons (eC (.dat (.str "cells"))) (aCons (eC (.dat (.str "good"))) (aCons (eC (.dat .none)) (aCons (eC (.dat (.int 7))) aNil)))))))))))) (eVar 3)) aNil))) (aName 4)) (oeRest q))) := rfl
  rw [hf]
  generalize (sAsg (eBin gAdd (eLc (srcSeq (eBin gAdd (eBin gIx (eVar 1) (eC (.dat (.int 0)))) (eBin gIx (eVar 1) (eC (.dat (.int 1)))))) (aName 2) tNo (eBin gIx (eVar 2) (eC (.dat (.int 0)))) [2]) (eArgs gList (aCons (eBin gIx (eVar 1) (eC (.dat (.int 2)))) aNil))) (aName 3)) = S1 at E1 ⊢
  generalize (sAsg (eCallA 2 (relCall (f__law_one q)) (aCons (eVar 0) (aCons (eBin gAdd (eArgs gLstD (aCons (eC (.dat (.str ""))) (aCons (eC (.dat (.str "A"))) (aCons (eC (.dat (.str "9a"))) (aCons (eC (.dat (.str "a b"))) (aCons (eC (.dat (.str "abcdefghijklm"))) (aCons (eC (.dat (.str "if"))) (aCons (eC (.dat (.str "law"))) (aCons (eC (.dat (.str "cells"))) (aCons (eC (.dat (.str "good"))) (aCons (eC (.dat .none)) (aCons (eC (.dat (.int 7))) aNil)))))))))))) (eVar 3)) aNil))) (aName 4)) = S2 at E2 ⊢
  simp [E1, E2, E3, -List.map_append]
end K00

set_option Elab.async false
set_option linter.all false
set_option maxRecDepth 100000
set_option maxHeartbeats 1000000
namespace K00
open PySem PySem.Spec PyProof.Rows L2 DL
open Classical
theorem asCons {G : Hh} {m1 : MO} (hG : G[0]? = some m1) : ∃ r, G = m1 :: r := by
  cases G with
  | nil => simp at hG
  | cons x r => simp at hG; subst hG; exact ⟨r, rfl⟩
def M1 : List PyData := [.str "m1", .tuple [.str "m1", .int 1]]
theorem M1_ent : ∀ e ∈ M1, entB 20 e = true := by decide +kernel
noncomputable def spItem (q : ErrC) : ES := (eCallA 2 (relCall (f__law_one q)) (aCons (eVar 0) (aCons (eArgs gLstD (aCons (eC (.dat (.str "m1"))) (aCons (eArgs gTupD (aCons (eC (.dat (.str "m1"))) (aCons (eC (.dat (.int 1))) aNil))) aNil))) aNil)))
theorem sp_items (q : ErrC) {l : Nat} (hl1 : 1 ≤ l) (u1 u2 u3 u4 u5 : Sl) : ∀ (ds : List D) (G : Hh) (m : MO) (acc : List PyData), G[0]? = some m → Src m → G[l]? = some (.lst (acc.map .dat)) → acc.length + ds.length ≤ 100 →
    ∃ G' m' its, lcL (aName 6) tNo (spItem q) l yesH [.d (.ref 0), u1, u2, u3, u4, u5, .no] ds G = .ok (.ref l) G' ∧ G'[0]? = some m' ∧ Src m' ∧ G'[l]? = some (.lst ((acc ++ its).map .dat)) ∧ (∀ e ∈ its, e ∈ M1) ∧ its.length = ds.length
  | [], G, m, acc, hm, hs, hl, _ => ⟨G, m, [], by rw [lcL, if_pos (show yesH G from trivial)], hm, hs, by simpa using hl, by simp, rfl⟩
  | d :: ds, G, m, acc, hm, hs, hl, hn => by
    obtain ⟨x, m1, G1, hx, hs1, hm1, keep, e⟩ := fresh_one hm hs M1 (by decide) (by decide)
    have hl2 : G1[l]? = some (.lst (acc.map .dat)) := by rw [keep l hl1 (lt_of hl)]; exact hl
    have ef : spItem q [.d (.ref 0), u1, u2, u3, u4, u5, .d d] G = .ok (.dat x) G1 := by
      have hM : M1.map D.dat = [.dat (.str "m1"), .dat (.tuple [.str "m1", .int 1])] := rfl
      rw [hM] at e
      unfold spItem
      rw [one_eq]
      simp [e]
    obtain ⟨G2, m2, its, e2, q1, q2, q3, q4, q5⟩ := sp_items q hl1 u1 u2 u3 u4 u5 ds (G1.set l (.lst ((acc ++ [x]).map .dat))) m1 (acc ++ [x]) (get_set hm1 (by omega)) hs1 (get_self hl2) (by simp at hn ⊢; omega)
    refine ⟨G2, m2, x :: its, ?_, q1, q2, by simpa using q3, fun y hy => ?_, by simp [q5]⟩
    · rw [lcL, if_pos (show yesH G from trivial)]
      have ea : aName 6 d [.d (.ref 0), u1, u2, u3, u4, u5, .no] G = some ([.d (.ref 0), u1, u2, u3, u4, u5, .d d], G) := rfl
      rw [ea]
      dsimp only
      have et : ∀ e g, tNo e g = .ok true g := fun _ _ => rfl
      rw [et]
      dsimp only
      rw [ef]
      dsimp only
      rw [hl2]
      dsimp only
      rw [if_pos (by simp; simp at hn; omega)]
      have g4 : (acc ++ [x]).map D.dat = acc.map D.dat ++ [.dat x] := by simp
      rw [← g4]
      exact e2
    · rcases List.mem_cons.mp hy with rfl | hy
      · exact hx
      · exact q4 y hy
end K00

set_option Elab.async false
set_option linter.all false
set_option maxRecDepth 100000
set_option maxHeartbeats 1000000
namespace K00
open PySem PySem.Spec PyProof.Rows L2 DL
open Classical
noncomputable def spRow (q : ErrC) : SS := (sIf (tTest' truB (eBin gEq (eVar 4) (eC (.dat (.int 0))))) (sAsg (eBin gAdd (eVar 5) (eArgs gTuple (aCons (eLc (srcRange1 (aCons (eC (.dat (.int 5))) aNil)) (aName 6) tNo (spItem q) [6]) aNil))) (aName 5)) (sIf (tTest' truB (eBin gEq (eVar 4) (eC (.dat (.int 1))))) (sAsg (eArgs gTupD aNil) (aName 5)) (sIf (sAnd (tTest' truB (eBin gEq (eVar 4) (eC (.dat (.int 2))))) (tTest' truB (eBin gEq (eVar 3) (eC (.dat (.int 0)))))) (sAsg (eArgs gTupD (aCons (eArgs gTupD (aCons (eC (.dat (.str "m1"))) (aCons (eC (.dat (.int 8))) aNil))) (aCons (eArgs gTupD (aCons (eC (.dat (.str "m2"))) (aCons (eC (.dat (.int 8))) aNil))) (aCons (eArgs gTupD (aCons (eC (.dat (.str "m3"))) (aCons (eCallA 2 (relCall (f__law_one q)) (aCons (eVar 0) (aCons (eArgs gLstD (aCons (eC (.dat (.int 1))) (aCons (eC (.dat (.int 2))) aNil))) aNil))) aNil))) aNil)))) (aName 5)) (sIf (tTest' truB (eBin gEq (eVar 4) (eC (.dat (.int 3))))) (sAsg (eCallA 2 (relCall (f__law_one q)) (aCons (eVar 0) (aCons (eArgs gLstD (aCons (eC (.dat .none)) (aCons (eC (.dat (.str "a"))) (aCons (eC (.dat (.int 7))) (aCons (eVar 5) aNil))))) aNil))) (aName 5)) (sSeq (sAsg (eCallA 2 (relCall (f__law_take q)) (aCons (eVar 0) (aCons (eBin gAdd (eArgs gLen (aCons (eVar 5) aNil)) (eC (.dat (.int 1)))) aNil))) (aName 6))
    (sAsg (eBin gAdd (eBin gAdd (eSl (eVar 5) oNone (oSome (eVar 6))) (eArgs gTupD (aCons (eCallA 3 (relCall (f__law_odd_entry q)) (aCons (eVar 0) (aCons (eVar 1) (aCons (eVar 3) aNil)))) aNil))) (eSl (eVar 5) (oSome (eBin gAdd (eVar 6) (eArgs gInt (aCons (eBin gGt (eVar 4) (eC (.dat (.int 5)))) aNil)))) oNone)) (aName 5)))))))
theorem cutL_toI {α : Type} (xs : List α) {i : Int} (h : 0 ≤ i) : cutL xs none (some i) = xs.take i.toNat := by
  obtain ⟨n, rfl⟩ := Int.eq_ofNat_of_zero_le h
  exact cutL_to xs n
theorem cutL_fromI {α : Type} (xs : List α) {i : Int} (h : 0 ≤ i) : cutL xs (some i) none = xs.drop i.toNat := by
  obtain ⟨n, rfl⟩ := Int.eq_ofNat_of_zero_le h
  exact cutL_from xs n
theorem M238 : ∀ k ∈ [PyData.int 1, .int 2], ∀ e ∈ [PyData.tuple [.str "m1", .int 8], .tuple [.str "m2", .int 8], .tuple [.str "m3", k]], entB 20 e = true := by decide +kernel
theorem sp_row (q : ErrC) {C Ks : List (Str × Int)} {Es : List Str} (g : Gr C Ks Es) {p : Nat} (hp : p ≤ 2) {way : Int} (hw : 0 ≤ way ∧ way < 8) {T : List PyData} {w n : Nat} (hT : RowOk w n (.tuple T)) (hw2 : 60 ≤ w) (hn : n ≤ 50) (hn3 : 3 ≤ n) (th : D) {m : MO} (h : Src m) (tail : Hh) :
    ∃ row' m' r s6, RowOk (w + 151) (n + 5) row' ∧ Src m' ∧ spRow q [.d (.ref 0), .d (.dat (gd C Ks Es)), .d th, .d (.dat (.int p)), .d (.dat (.int way)), .d (.dat (.tuple T)), .no] (m :: tail) =
      .nx [.d (.ref 0), .d (.dat (gd C Ks Es)), .d th, .d (.dat (.int p)), .d (.dat (.int way)), .d (.dat row'), s6] (m' :: r) := by
  obtain ⟨t1, t2, t3⟩ := hT T rfl
  by_cases h0 : way = 0
  · subst h0
    obtain ⟨G', m', its, e1, q1, q2, q3, q4, q5⟩ := sp_items q (l := tail.length + 1) (by omega) (.d (.dat (gd C Ks Es))) (.d th) (.d (.dat (.int p))) (.d (.dat (.int 0))) (.d (.dat (.tuple T))) (rngD 0 5) (m :: (tail ++ [MO.lst []])) m [] rfl h (by simp) (by simp [rngD])
    have ok5 : okR 5 := by unfold okR; omega
    have e2 : eLc (srcRange1 (aCons (eC (.dat (.int 5))) aNil)) (aName 6) tNo (spItem q) [6] [.d (.ref 0), .d (.dat (gd C Ks Es)), .d th, .d (.dat (.int p)), .d (.dat (.int 0)), .d (.dat (.tuple T)), .no] (m :: tail) = .ok (.ref (tail.length + 1)) G' := by
      rw [eLc_ok (xs := rngD 0 5) (chk := yesH) (G1 := m :: tail) (by simp [ok5])]
      exact e1
    obtain ⟨r, rfl⟩ := asCons q1
    rw [List.nil_append] at q3
    have q5' : its.length = 5 := by rw [q5]; simp [rngD]
    have hl : T.length + its.length ≤ 100000 := by omega
    refine ⟨.tuple (T ++ its), m', r, .no, ?_, q2, ?_⟩
    · intro es e
      cases e
      refine ⟨fun x hx => ?_, by simp; omega, ?_⟩
      · rcases List.mem_append.mp hx with z | z
        · exact t1 x z
        · exact entB_mono (M1_ent x (q4 x z)) (by decide)
      · rw [wA_app]
        have := wA_le (es := its) (k := 20) fun x hx => (ent_ok (M1_ent x (q4 x hx))).2.1
        rw [q5'] at this
        omega
    · unfold spRow
      generalize eLc (srcRange1 (aCons (eC (.dat (.int 5))) aNil)) (aName 6) tNo (spItem q) [6] = X at e2 ⊢
      simp at q3
      simp [e2, q3, hl]
  · have h0' : (way == 0) = false := by simpa using h0
    by_cases h1 : way = 1
    · subst h1
      refine ⟨.tuple [], m, tail, .no, fun es e => ?_, h, ?_⟩
      · cases e
        exact ⟨fun x hx => by simp at hx, by simp, by rw [wA_nil]; omega⟩
      · unfold spRow
        simp
    · have h1' : (way == 1) = false := by simpa using h1
      by_cases h2 : way = 2 ∧ p = 0
      · obtain ⟨rfl, rfl⟩ := h2
        obtain ⟨x, m1, G1, hx, hs1, hm1, _, e⟩ := fresh_one (G := m :: tail) (m := m) rfl h [.int 1, .int 2] (by simp) (by simp)
        obtain ⟨r, rfl⟩ := asCons hm1
        simp only [List.length_cons, List.cons_append, List.map_cons, List.map_nil] at e
        refine ⟨.tuple [.tuple [.str "m1", .int 8], .tuple [.str "m2", .int 8], .tuple [.str "m3", x]], m1, r, .no, fun es e => ?_, hs1, ?_⟩
        · cases e
          refine ⟨fun y hy => entB_mono (M238 x hx y hy) (by decide), by simp, ?_⟩
          have := wA_le (k := 20) fun y hy => (ent_ok (M238 x hx y hy)).2.1
          simp at this
          omega
        · unfold spRow
          rw [one_eq]
          simp [e]
      · have h2c : ∀ (z : Hh), (sAnd (tTest' truB (eBin gEq (eVar 4) (eC (.dat (.int 2))))) (tTest' truB (eBin gEq (eVar 3) (eC (.dat (.int 0)))))) [.d (.ref 0), .d (.dat (gd C Ks Es)), .d th, .d (.dat (.int p)), .d (.dat (.int way)), .d (.dat (.tuple T)), .no] z = .ok false z := by
          intro z
          by_cases hw2 : way = 2
          · have hp0 : ¬ p = 0 := fun z => h2 ⟨hw2, z⟩
            have hp' : ((p : Int) == 0) = false := by simp; omega
            subst hw2
            simp [hp']
          · have : (way == 2) = false := by simpa using hw2
            simp [this]
        have i0 : ∀ z, (tTest' truB (eBin gEq (eVar 4) (eC (.dat (.int 0))))) [.d (.ref 0), .d (.dat (gd C Ks Es)), .d th, .d (.dat (.int p)), .d (.dat (.int way)), .d (.dat (.tuple T)), .no] z = .ok false z := fun z => by simp [h0']
        have i1 : ∀ z, (tTest' truB (eBin gEq (eVar 4) (eC (.dat (.int 1))))) [.d (.ref 0), .d (.dat (gd C Ks Es)), .d th, .d (.dat (.int p)), .d (.dat (.int way)), .d (.dat (.tuple T)), .no] z = .ok false z := fun z => by simp [h1']
        by_cases h3 : way = 3
        ·
          obtain ⟨x, m1, G1, hx, hs1, hm1, _, e⟩ := fresh_one (G := m :: tail) (m := m) rfl h [.none, .str "a", .int 7, .tuple T] (by simp) (by simp)
          obtain ⟨r, rfl⟩ := asCons hm1
          simp only [List.length_cons, List.cons_append, List.map_cons, List.map_nil] at e
          refine ⟨x, m1, r, .no, ?_, hs1, ?_⟩
          · simp only [List.mem_cons, List.not_mem_nil, or_false] at hx
            rcases hx with rfl | rfl | rfl | rfl
            · exact row_no fun es e => nomatch e
            · exact row_no fun es e => nomatch e
            · exact row_no fun es e => nomatch e
            · exact hT.mono (by omega) (by omega)
          · have i3 : ∀ z, (tTest' truB (eBin gEq (eVar 4) (eC (.dat (.int 3))))) [.d (.ref 0), .d (.dat (gd C Ks Es)), .d th, .d (.dat (.int p)), .d (.dat (.int way)), .d (.dat (.tuple T)), .no] z = .ok true z := fun z => by simp [h3]
            unfold spRow
            rw [e_sIf, i0]
            dsimp only
            rw [if_neg (by decide), e_sIf, i1]
            dsimp only
            rw [if_neg (by decide), e_sIf, h2c]
            dsimp only
            rw [if_neg (by decide), e_sIf, i3]
            dsimp only
            rw [if_pos rfl, one_eq]
            simp [e]
        · have h3' : (way == 3) = false := by simpa using h3
          obtain ⟨r, m1, r1, r2, hs1, e1⟩ := take_rel (G := m :: tail) (l := 0) (top := T.length + 1) rfl h (by omega) (by omega)
          obtain ⟨oe, m2, G1, he, hs2, e2⟩ := odd_entry_ok q g hp hs1
          have e2' := rel_1 (G := m1 :: tail) (l := 0) (ds := [.ref 0, .dat (gd C Ks Es), .dat (.int p)]) rfl rfl rfl rfl hs1.clean e2 hs2.clean rfl
          have hset1 : (m :: tail).set 0 m1 = m1 :: tail := rfl
          have hset2 : (m1 :: tail).set 0 m2 = m2 :: tail := rfl
          rw [hset1] at e1
          rw [hset2] at e2'
          obtain ⟨j, hj, hj2⟩ : ∃ j : Int, j = (if 5 < way then 1 else 0) ∧ 0 ≤ j := ⟨_, rfl, by split <;> omega⟩
          have c1 : cutL T none (some r) = T.take r.toNat := cutL_toI T r1
          have c2 : cutL T (some (r + j)) none = T.drop (r + j).toNat := cutL_fromI T (by omega)
          refine ⟨.tuple (T.take r.toNat ++ [oe] ++ T.drop (r + j).toNat), m2, tail, .d (.dat (.int r)), fun es e => ?_, hs2, ?_⟩
          · cases e
            refine ⟨fun x hx => ?_, ?_, ?_⟩
            · rcases List.mem_append.mp hx with z | z
              · rcases List.mem_append.mp z with z | z
                · exact t1 x (List.mem_of_mem_take z)
                · simp at z; subst z; exact he
              · exact t1 x (List.mem_of_mem_drop z)
            · simp
              omega
            · rw [wA_app, wA_app, wA_cons, wA_nil]
              have a1 := wA_take_drop T r.toNat (r + j).toNat (by omega)
              have a2 := (ent_ok he).2.1
              omega
          · have l1 : (T.take r.toNat).length + 1 ≤ 100000 := by simp; omega
            have l2 : (T.take r.toNat ++ [oe]).length + (T.drop (r + j).toNat).length ≤ 100000 := by simp; omega
            have hS : (sSeq (sAsg (eCallA 2 (relCall (f__law_take q)) (aCons (eVar 0) (aCons (eBin gAdd (eArgs gLen (aCons (eVar 5) aNil)) (eC (.dat (.int 1)))) aNil))) (aName 6))
    (sAsg (eBin gAdd (eBin gAdd (eSl (eVar 5) oNone (oSome (eVar 6))) (eArgs gTupD (aCons (eCallA 3 (relCall (f__law_odd_entry q)) (aCons (eVar 0) (aCons (eVar 1) (aCons (eVar 3) aNil)))) aNil))) (eSl (eVar 5) (oSome (eBin gAdd (eVar 6) (eArgs gInt (aCons (eBin gGt (eVar 4) (eC (.dat (.int 5)))) aNil)))) oNone)) (aName 5))) [.d (.ref 0), .d (.dat (gd C Ks Es)), .d th, .d (.dat (.int p)), .d (.dat (.int way)), .d (.dat (.tuple T)), .no] (m :: tail)
              = .nx [.d (.ref 0), .d (.dat (gd C Ks Es)), .d th, .d (.dat (.int p)), .d (.dat (.int way)), .d (.dat (.tuple (T.take r.toNat ++ [oe] ++ T.drop (r + j).toNat))), .d (.dat (.int r))] (m2 :: tail) := by
              rw [take_eq]
              generalize gd C Ks Es = GD at *
              generalize T.take r.toNat = A at *
              generalize T.drop (r + j).toNat = B at *
              have l2' : A.length + 1 + B.length ≤ 100000 := by simpa using l2
              simp [e1, e2', ← hj, c1, c2, l1, l2']
            have i3 : ∀ z, (tTest' truB (eBin gEq (eVar 4) (eC (.dat (.int 3))))) [.d (.ref 0), .d (.dat (gd C Ks Es)), .d th, .d (.dat (.int p)), .d (.dat (.int way)), .d (.dat (.tuple T)), .no] z = .ok false z := fun z => by simp [h3']
            unfold spRow
            rw [e_sIf, i0]
            dsimp only
            rw [if_neg (by decide), e_sIf, i1]
            dsimp only
            rw [if_neg (by decide), e_sIf, h2c]
            dsimp only
            rw [if_neg (by decide), e_sIf, i3]
            dsimp only
            rw [if_neg (by decide), hS]
end K00

set_option Elab.async false
set_option linter.all false
set_option maxRecDepth 100000
set_option maxHeartbeats 1000000
namespace K00
open PySem PySem.Spec PyProof.Rows L2 DL
open Classical
theorem cut3 {a b c : PyData} : cutL [a, b, c] none (some 0) = [] ∧ cutL [a, b, c] none (some 1) = [a] ∧ cutL [a, b, c] none (some 2) = [a, b] ∧ cutL [a, b, c] (some 1) none = [b, c] ∧ cutL [a, b, c] (some 2) none = [c] ∧ cutL [a, b, c] (some 3) none = [] :=
  ⟨cutL_to [a, b, c] 0, cutL_to [a, b, c] 1, cutL_to [a, b, c] 2, cutL_from [a, b, c] 1, cutL_from [a, b, c] 2, cutL_from [a, b, c] 3⟩
theorem spoilt_ok (q : ErrC) {C Ks : List (Str × Int)} {Es : List Str} (g : Gr C Ks Es) {T0 T1 T2 : List PyData} {w n : Nat} (h0 : RowOk w n (.tuple T0)) (h1 : RowOk w n (.tuple T1)) (h2 : RowOk w n (.tuple T2)) (hw2 : 60 ≤ w) (hn : n ≤ 50) (hn3 : 3 ≤ n) {m : MO} (h : Src m) :
    ∃ r0 r1 r2 m' G1, RowOk (w + 151) (n + 5) r0 ∧ RowOk (w + 151) (n + 5) r1 ∧ RowOk (w + 151) (n + 5) r2 ∧ Src m' ∧ f__law_spoilt q [.ref 0, .dat (gd C Ks Es), .dat (.tuple [.tuple T0, .tuple T1, .tuple T2])] [m] = .ok (.dat (.tuple [r0, r1, r2])) (m' :: G1) := by
  have hf : f__law_spoilt q = fnD 7 (sSeq (sPar 3 4 (aCons (eCallA 2 (relCall (f__law_take q)) (aCons (eVar 0) (aCons (eC (.dat (.int 3))) aNil))) (aCons (eCallA 2 (relCall (f__law_take q)) (aCons (eVar 0) (aCons (eC (.dat (.int 8))) aNil))) aNil)))
    (sSeq (sAsg (eBin gIx (eVar 2) (eVar 3)) (aName 5)) (sSeq (spRow q)
    (sRet (eBin gAdd (eBin gAdd (eSl (eVar 2) oNone (oSome (eVar 3))) (eArgs gTupD (aCons (eVar 5) aNil))) (eSl (eVar 2) (oSome (eBin gAdd (eVar 3) (eC (.dat (.int 1))))) oNone)))))) := rfl
  obtain ⟨r, m1, a1, a2, hs1, e1⟩ := take_rel (G := [m]) (l := 0) (top := 3) rfl h (by omega) (by omega)
  obtain ⟨way, m2, b1, b2, hs2, e2⟩ := take_rel (G := [m1]) (l := 0) (top := 8) rfl hs1 (by omega) (by omega)
  have e1' : relCall gTake [.ref 0, .dat (.int 3)] [m] = .ok (.dat (.int r)) [m1] := e1
  have e2' : relCall gTake [.ref 0, .dat (.int 8)] [m1] = .ok (.dat (.int way)) [m2] := e2
  rw [hf, take_eq]
  have hr : r = 0 ∨ r = 1 ∨ r = 2 := by omega
  have m0 := h0.mono (w' := w + 151) (n' := n + 5) (by omega) (by omega)
  have m1' := h1.mono (w' := w + 151) (n' := n + 5) (by omega) (by omega)
  have m2' := h2.mono (w' := w + 151) (n' := n + 5) (by omega) (by omega)
  obtain ⟨x1, x2, x3, x4, x5, x6⟩ := cut3 (a := .tuple T0) (b := .tuple T1) (c := .tuple T2)
  rcases hr with rfl | rfl | rfl
  · obtain ⟨row, m3, tl, s6, q1, q2, e3⟩ := sp_row q g (p := 0) (by decide) ⟨b1, b2⟩ h0 hw2 hn hn3 (.dat (.tuple [.tuple T0, .tuple T1, .tuple T2])) hs2 []
    refine ⟨row, .tuple T1, .tuple T2, m3, tl, q1, m1', m2', q2, ?_⟩
    have e3' : spRow q [.d (.ref 0), .d (.dat (gd C Ks Es)), .d (.dat (.tuple [.tuple T0, .tuple T1, .tuple T2])), .d (.dat (.int 0)), .d (.dat (.int way)), .d (.dat (.tuple T0)), .no] [m2] = .nx [.d (.ref 0), .d (.dat (gd C Ks Es)), .d (.dat (.tuple [.tuple T0, .tuple T1, .tuple T2])), .d (.dat (.int 0)), .d (.dat (.int way)), .d (.dat row), s6] (m3 :: tl) := e3
    generalize gd C Ks Es = GD at *
    simp [e1', e2', e3', x1, x4]
  · obtain ⟨row, m3, tl, s6, q1, q2, e3⟩ := sp_row q g (p := 1) (by decide) ⟨b1, b2⟩ h1 hw2 hn hn3 (.dat (.tuple [.tuple T0, .tuple T1, .tuple T2])) hs2 []
    refine ⟨.tuple T0, row, .tuple T2, m3, tl, m0, q1, m2', q2, ?_⟩
    have e3' : spRow q [.d (.ref 0), .d (.dat (gd C Ks Es)), .d (.dat (.tuple [.tuple T0, .tuple T1, .tuple T2])), .d (.dat (.int 1)), .d (.dat (.int way)), .d (.dat (.tuple T1)), .no] [m2] = .nx [.d (.ref 0), .d (.dat (gd C Ks Es)), .d (.dat (.tuple [.tuple T0, .tuple T1, .tuple T2])), .d (.dat (.int 1)), .d (.dat (.int way)), .d (.dat row), s6] (m3 :: tl) := e3
    generalize gd C Ks Es = GD at *
    simp [e1', e2', e3', x2, x5]
  · obtain ⟨row, m3, tl, s6, q1, q2, e3⟩ := sp_row q g (p := 2) (by decide) ⟨b1, b2⟩ h2 hw2 hn hn3 (.dat (.tuple [.tuple T0, .tuple T1, .tuple T2])) hs2 []
    refine ⟨.tuple T0, .tuple T1, row, m3, tl, m0, m1', q1, q2, ?_⟩
    have e3' : spRow q [.d (.ref 0), .d (.dat (gd C Ks Es)), .d (.dat (.tuple [.tuple T0, .tuple T1, .tuple T2])), .d (.dat (.int 2)), .d (.dat (.int way)), .d (.dat (.tuple T2)), .no] [m2] = .nx [.d (.ref 0), .d (.dat (gd C Ks Es)), .d (.dat (.tuple [.tuple T0, .tuple T1, .tuple T2])), .d (.dat (.int 2)), .d (.dat (.int way)), .d (.dat row), s6] (m3 :: tl) := e3
    generalize gd C Ks Es = GD at *
    simp [e1', e2', e3', x3, x6]
/-- as they are called -/
theorem spoilt_rel (q : ErrC) {C Ks : List (Str × Int)} {Es : List Str} (g : Gr C Ks Es) {T0 T1 T2 : List PyData} {w n : Nat} (h0 : RowOk w n (.tuple T0)) (h1 : RowOk w n (.tuple T1)) (h2 : RowOk w n (.tuple T2)) (hw2 : 60 ≤ w) (hn : n ≤ 50) (hn3 : 3 ≤ n) {m : MO} (h : Src m) {G : Hh} {l : Nat} (hl : G[l]? = some m) :
    ∃ r0 r1 r2 m', RowOk (w + 151) (n + 5) r0 ∧ RowOk (w + 151) (n + 5) r1 ∧ RowOk (w + 151) (n + 5) r2 ∧ Src m' ∧ relCall (f__law_spoilt q) [.ref l, .dat (gd C Ks Es), .dat (.tuple [.tuple T0, .tuple T1, .tuple T2])] G = .ok (.dat (.tuple [r0, r1, r2])) (G.set l m') := by
  obtain ⟨r0, r1, r2, m', G1, q0, q1, q2, q3, e⟩ := spoilt_ok q g h0 h1 h2 hw2 hn hn3 h
  exact ⟨r0, r1, r2, m', q0, q1, q2, q3, rel_1 rfl rfl rfl hl h.clean e q3.clean rfl⟩
end K00

set_option Elab.async false
set_option linter.all false
set_option maxRecDepth 100000
set_option maxHeartbeats 1000000
namespace K00
open PySem PySem.Spec PyProof.Rows L2 DL
open Classical
/-! ### the law -/
theorem ne_repr {f h : ES} {env : Env'} {G G1 G2 : Hh} {d : PyData} (h1 : f env G = .ok (.dat d) G1) (h2 : h env G1 = .ok (.dat d) G2) (hr : reprOk d = true) : eBin gNe (eArgs gRepr (aCons f aNil)) (eArgs gRepr (aCons h aNil)) env G = .ok (.dat (.bool false)) G2 := by
  simp [h1, h2, hr]
theorem right_rel (q : ErrC) {d : PyData} (h : Thing d ∧ Shown d) (G : Hh) : relCall (f__law_thing_right q) [.dat d] G = .ok (.dat (.bool true)) G := call0 (thing_right_ok q d h.1 h.2)
theorem small_ints : ∀ k ∈ List.range 65, okB 8 0 (.int (k : Nat)) = true := by decide +kernel
theorem digit_ok : ∀ k ∈ List.range 8, okB 3 0 (.int (k : Nat)) = true := by decide +kernel
theorem okB_S {w dp : Nat} {d : PyData} (h : okB w dp d = true) : okS dp d ∧ d.weight ≤ w := by
  unfold okB at h
  simp only [Bool.and_eq_true, decide_eq_true_eq] at h
  exact ⟨⟨h.1, h.2.1, h.2.2.2⟩, h.2.2.1⟩
/-- a state's values are digits -/
theorem st_digits : ∀ (C : List (Str × Int)) (L : List (List PyData)) (n : Nat), (∀ c ∈ C, 1 ≤ c.2 ∧ c.2 ≤ 8) → (∀ st ∈ L, st.length ≤ n ∧ ∀ d ∈ st, okB 3 0 d = true) → ∀ st ∈ stAll L C, st.length ≤ n + C.length ∧ ∀ d ∈ st, okB 3 0 d = true
  | [], L, n, _, h => fun st hst => h st hst
  | c :: C, L, n, hc, h => fun st hst => by
    have := st_digits C (stStep L c.2) (n + 1) (fun x hx => hc x (List.mem_cons_of_mem _ hx)) (fun s hs => by
      obtain ⟨x, hx, hy⟩ := List.mem_flatMap.mp hs
      obtain ⟨i, hi, rfl⟩ := List.mem_map.mp hy
      obtain ⟨h1, h2⟩ := h x hx
      refine ⟨by simp; omega, fun d hd => ?_⟩
      rcases List.mem_append.mp hd with z | z
      · exact h2 d z
      · simp at z
        subst z
        have := (hc c List.mem_cons_self)
        exact digit_ok i (List.mem_range.mpr (by have := List.mem_range.mp hi; omega))) st hst
    refine ⟨by simp; omega, this.2⟩
theorem states_shown {C : List (Str × Int)} (hc : ∀ c ∈ C, 1 ≤ c.2 ∧ c.2 ≤ 8) (hl : C.length ≤ 4) (hp : prodC C ≤ 64) : reprOk (.tuple ((stAll [[]] C).map .tuple)) = true ∧ (stAll [[]] C).length ≤ 64 := by
  have hlen := stAll_len C [[]] fun c h => (hc c h).1
  have hn : (stAll [[]] C).length ≤ 64 := by
    have : ((stAll [[]] C).length : Int) ≤ 64 := by rw [hlen]; simpa using hp
    omega
  have hd := st_digits C [[]] 0 hc (fun st h => by simp at h; subst h; simp)
  have one : ∀ st ∈ stAll [[]] C, okS 1 (.tuple st) ∧ (PyData.tuple st).weight ≤ 16 := fun st hst => by
    obtain ⟨h1, h2⟩ := hd st hst
    refine ⟨okS_tup fun d hd => (okB_S (h2 d hd)).1, ?_⟩
    rw [w_tup]
    have := wA_le (es := st) (k := 3) fun d hd => (okB_S (h2 d hd)).2
    have h3 : st.length * 4 ≤ 4 * 4 := Nat.mul_le_mul_right 4 (by omega)
    omega
  refine ⟨reprOk_of ((okS_tup (dp := 1) fun d hd => ?_).mono (by decide)) ?_, hn⟩
  · obtain ⟨st, hst, rfl⟩ := List.mem_map.mp hd
    exact (one st hst).1
  · rw [w_tup]
    have := wA_le (es := (stAll [[]] C).map .tuple) (k := 16) fun d hd => by
      obtain ⟨st, hst, rfl⟩ := List.mem_map.mp hd
      exact (one st hst).2
    rw [List.length_map] at this
    have h3 : (stAll [[]] C).length * 17 ≤ 64 * 17 := Nat.mul_le_mul_right 17 hn
    omega
theorem int_shown {k : Int} (h0 : 0 ≤ k) (h : k ≤ 64) : reprOk (.int k) = true := by
  have := okB_S (small_ints k.toNat (List.mem_range.mpr (by omega)))
  have e : ((k.toNat : Nat) : Int) = k := by omega
  rw [e] at this
  exact reprOk_of (this.1.mono (by decide)) (by omega)
theorem noughts_shown : ∀ n ∈ List.range 5, reprOk (.tuple (List.replicate n (.int 0))) = true := by decide +kernel
noncomputable def lwTurn (q : ErrC) : SS := (sSeq (sAsg (eCallA 3 (relCall (f__law_spoilt q)) (aCons (eVar 1) (aCons (eVar 2) (aCons (eVar 2) aNil)))) (aName 5))
    (sSeq (sIf (sNot (tTest' tru (eCallA 1 (relCall (f__law_thing_right q)) (aCons (eVar 5) aNil)))) (sRet (eC (.dat (.bool false)))) sNil)
    (sIf (sAnd (tTest' tru (eArgs gIsa (aCons (eVar 5) (aCons (eC (.ty "tuple")) aNil)))) (tTest' truB (eBin gEq (eLc (srcSeq (eVar 5)) (aName 6) (sNot (tTest' tru (eArgs gIsa (aCons (eVar 6) (aCons (eC (.ty "tuple")) aNil))))) (eVar 6) [6]) (eArgs gLstD aNil)))) (sIf (sNot (tTest' tru (eCallA 1 (relCall (f__law_thing_right q)) (aCons (eCallA 3 (relCall (f__law_spoilt q)) (aCons (eVar 1) (aCons (eVar 2) (aCons (eBin gAdd (eSl (eVar 2) oNone (oSome (eC (.dat (.int 1))))) (eSl (eVar 5) (oSome (eC (.dat (.int 1)))) oNone)) aNil)))) aNil)))) (sRet (eC (.dat (.bool false)))) sNil) sNil)))
theorem all_tup {a b c : PyData} (h : ([a, b, c].filter fun x => !x.isTuple).isEmpty = true) : ∃ A B Cc, a = .tuple A ∧ b = .tuple B ∧ c = .tuple Cc := by
  rw [filter3] at h
  obtain ⟨r, hr⟩ := Option.isSome_iff_exists.mp h
  have := trip_some hr
  cases this
  exact ⟨_, _, _, rfl, rfl, rfl⟩
theorem lw_turn (q : ErrC) {C Ks : List (Str × Int)} {Es : List Str} (g : Gr C Ks Es) (u0 u3 u4 u5 u6 u7 : Sl) {G : Hh} {m : MO} (hm : G[0]? = some m) (h : Src m) :
    ∃ G' m' v5, lwTurn q [u0, .d (.ref 0), .d (.dat (gd C Ks Es)), u3, u4, u5, u6, u7] G = .nx [u0, .d (.ref 0), .d (.dat (gd C Ks Es)), u3, u4, v5, u6, u7] G' ∧ G'[0]? = some m' ∧ Src m' := by
  obtain ⟨h0, h1, h2⟩ := row_gd g
  have hg : gd C Ks Es = .tuple [.tuple (C.map cE), .tuple (Ks.map cE), .tuple (Es.map .str)] := rfl
  obtain ⟨r0, r1, r2, m1, q0, q1, q2, hs1, e1⟩ := spoilt_rel q g h0 h1 h2 (by decide) (by decide) (by decide) h hm
  have hb := right_rel q (d := .tuple [r0, r1, r2]) ⟨thing_of (by decide) q0 q1 q2, shown_of (by decide) q0 q1 q2⟩
  have hm1 : (G.set 0 m1)[0]? = some m1 := get_self hm
  have e2 : eLc (srcSeq (eVar 5)) (aName 6) (sNot (tTest' tru (eArgs gIsa (aCons (eVar 6) (aCons (eC (.ty "tuple")) aNil))))) (eVar 6) [6] [u0, .d (.ref 0), .d (.dat (gd C Ks Es)), u3, u4, .d (.dat (.tuple [r0, r1, r2])), u6, u7] (G.set 0 m1) = .ok (.ref (G.set 0 m1).length) (G.set 0 m1 ++ [.lst ((([r0, r1, r2].filter fun x => !x.isTuple).map id).map .dat)]) := by
    refine eLc_dat .dat (fun c => [u0.cut, .d (.ref 0), .d (.dat (gd C Ks Es)), u3.cut, u4.cut, .d (.dat (.tuple [r0, r1, r2])), .d (.dat c), u7.cut]) (fun x => !x.isTuple) id [r0, r1, r2] ?_ (fun x _ g => ⟨rfl, ?_, fun _ => ?_⟩) (by simp)
    · simp
    · simp
    · simp
  rw [List.map_id] at e2
  obtain ⟨F, hF⟩ : ∃ F : List PyData, F = [r0, r1, r2].filter fun x => !x.isTuple := ⟨_, rfl⟩
  rw [← hF] at e2
  obtain ⟨G2, hG2⟩ : ∃ G2 : Hh, G2 = G.set 0 m1 ++ [MO.lst (F.map .dat)] ++ [MO.lst []] := ⟨_, rfl⟩
  have k1 : G2[(G.set 0 m1).length]? = some (.lst (F.map .dat)) := by rw [hG2]; simp
  have k2 : G2[(G.set 0 m1 ++ [MO.lst (F.map .dat)]).length]? = some (.lst []) := by rw [hG2]; exact List.getElem?_concat_length
  have e3 := eq_nil k1 dats_map k2
  have hm2 : G2[0]? = some m1 := by rw [hG2]; exact get_app (get_app hm1)
  have eA : (sAnd (tTest' tru (eArgs gIsa (aCons (eVar 5) (aCons (eC (.ty "tuple")) aNil)))) (tTest' truB (eBin gEq (eLc (srcSeq (eVar 5)) (aName 6) (sNot (tTest' tru (eArgs gIsa (aCons (eVar 6) (aCons (eC (.ty "tuple")) aNil))))) (eVar 6) [6]) (eArgs gLstD aNil)))) [u0, .d (.ref 0), .d (.dat (gd C Ks Es)), u3, u4, .d (.dat (.tuple [r0, r1, r2])), u6, u7] (G.set 0 m1) = .ok F.isEmpty G2 := by
    generalize eLc (srcSeq (eVar 5)) (aName 6) (sNot (tTest' tru (eArgs gIsa (aCons (eVar 6) (aCons (eC (.ty "tuple")) aNil))))) (eVar 6) [6] = X at e2 ⊢
    generalize G.set 0 m1 = G1 at *
    rw [hG2] at e3 ⊢
    have e3' : gEq (.ref G1.length) (.ref (G1.length + 1)) (G1 ++ [MO.lst (F.map .dat), MO.lst []]) = some (.dat (.bool F.isEmpty), G1 ++ [MO.lst (F.map .dat), MO.lst []]) := by
      have : G1 ++ [MO.lst (F.map .dat)] ++ [MO.lst []] = G1 ++ [MO.lst (F.map .dat), MO.lst []] := by simp
      rw [this] at e3
      simpa using e3
    simp [e2, e3', PyData.isTuple]
  by_cases hE : F.isEmpty = true
  · obtain ⟨A, B, Cc, rfl, rfl, rfl⟩ := all_tup (by rw [← hF]; exact hE)
    obtain ⟨s0, s1, s2, m3, p0, p1, p2, hs3, e4⟩ := spoilt_rel q g (h0.mono (by omega) (by omega)) q1 q2 (by omega) (by decide) (by decide) hs1 hm2
    have hb2 := right_rel q (d := .tuple [s0, s1, s2]) ⟨thing_of (by decide) p0 p1 p2, shown_of (by decide) p0 p1 p2⟩
    refine ⟨G2.set 0 m3, m3, .d (.dat (.tuple [.tuple A, .tuple B, .tuple Cc])), ?_, get_self hm2, hs3⟩
    have c1 : cutL [PyData.tuple (C.map cE), .tuple (Ks.map cE), .tuple (Es.map .str)] none (some 1) = [.tuple (C.map cE)] := cutL_to _ 1
    have c2 : cutL [PyData.tuple A, .tuple B, .tuple Cc] (some 1) none = [.tuple B, .tuple Cc] := cutL_from _ 1
    unfold lwTurn
    generalize (sAnd (tTest' tru (eArgs gIsa (aCons (eVar 5) (aCons (eC (.ty "tuple")) aNil)))) (tTest' truB (eBin gEq (eLc (srcSeq (eVar 5)) (aName 6) (sNot (tTest' tru (eArgs gIsa (aCons (eVar 6) (aCons (eC (.ty "tuple")) aNil))))) (eVar 6) [6]) (eArgs gLstD aNil)))) = Y at eA ⊢
    rw [hE] at eA
    rw [hg] at *
    generalize C.map cE = X0 at *
    generalize Ks.map cE = X1 at *
    generalize Es.map PyData.str = X2 at *
    simp [e1, hb, eA, c1, c2, e4, hb2]
  · have hE' : F.isEmpty = false := by simpa using hE
    refine ⟨G2, m1, .d (.dat (.tuple [r0, r1, r2])), ?_, hm2, hs1⟩
    unfold lwTurn
    generalize (sAnd (tTest' tru (eArgs gIsa (aCons (eVar 5) (aCons (eC (.ty "tuple")) aNil)))) (tTest' truB (eBin gEq (eLc (srcSeq (eVar 5)) (aName 6) (sNot (tTest' tru (eArgs gIsa (aCons (eVar 6) (aCons (eC (.ty "tuple")) aNil))))) (eVar 6) [6]) (eArgs gLstD aNil)))) = Y at eA ⊢
    rw [hE'] at eA
    rw [hg] at *
    generalize C.map cE = X0 at *
    generalize Ks.map cE = X1 at *
    generalize Es.map PyData.str = X2 at *
    simp [e1, hb, eA]
theorem lw_turns (q : ErrC) {C Ks : List (Str × Int)} {Es : List Str} (g : Gr C Ks Es) (u0 u3 u6 u7 : Sl) : ∀ (ds : List D) (G : Hh) (m : MO) (u4 u5 : Sl), G[0]? = some m → Src m →
    ∃ G' m' v4 v5, forL (aName 4) (lwTurn q) yesH ds [u0, .d (.ref 0), .d (.dat (gd C Ks Es)), u3, u4, u5, u6, u7] G = .nx [u0, .d (.ref 0), .d (.dat (gd C Ks Es)), u3, v4, v5, u6, u7] G' ∧ G'[0]? = some m' ∧ Src m'
  | [], G, m, u4, u5, hm, h => ⟨G, m, u4, u5, forL_nil trivial, hm, h⟩
  | d :: ds, G, m, u4, u5, hm, h => by
    obtain ⟨G1, m1, v5, e1, hm1, hs1⟩ := lw_turn q g u0 u3 (.d d) u5 u6 u7 hm h
    obtain ⟨G2, m2, w4, w5, e2, hm2, hs2⟩ := lw_turns q g u0 u3 u6 u7 ds G1 m1 (.d d) v5 hm1 hs1
    refine ⟨G2, m2, w4, w5, ?_, hm2, hs2⟩
    rw [← e2]
    exact forL_nx trivial rfl e1
noncomputable def lwOdd (q : ErrC) : SS := (sIf (sNot (tTest' tru (eCallA 1 (relCall (f__law_thing_right q)) (aCons (eVar 7) aNil)))) (sRet (eC (.dat (.bool false)))) sNil)
theorem lw_odds (q : ErrC) (u0 u1 u2 u3 u4 u5 u6 : Sl) (chk : Hh → Prop) (G : Hh) (hc : chk G) : ∀ (ds : List PyData) (u7 : Sl), (∀ d ∈ ds, Thing d ∧ Shown d) →
    ∃ v7, forL (aName 7) (lwOdd q) chk (ds.map .dat) [u0, u1, u2, u3, u4, u5, u6, u7] G = .nx [u0, u1, u2, u3, u4, u5, u6, v7] G
  | [], u7, _ => ⟨u7, forL_nil hc⟩
  | d :: ds, u7, h => by
    obtain ⟨v7, e⟩ := lw_odds q u0 u1 u2 u3 u4 u5 u6 chk G hc ds (.d (.dat d)) fun x hx => h x (List.mem_cons_of_mem _ hx)
    have hb := right_rel q (h d List.mem_cons_self)
    refine ⟨v7, ?_⟩
    rw [← e]
    refine forL_nx hc (env1 := [u0, u1, u2, u3, u4, u5, u6, .d (.dat d)]) (G1 := G) rfl ?_
    unfold lwOdd
    simp [hb]
end K00

set_option Elab.async false
set_option linter.all false
set_option maxRecDepth 100000
set_option maxHeartbeats 1000000
namespace K00
open PySem PySem.Spec PyProof.Rows L2 DL
open Classical
noncomputable def lwIf1 (q : ErrC) : SS := (sIf (sOr (tTest' truB (eBin gIsNot (eCallA 1 (relCall (f__law_fault q)) (aCons (eVar 2) aNil)) (eC (.dat .none)))) (sOr (sNot (tTest' tru (eCallA 1 (relCall (f__law_thing_right q)) (aCons (eVar 2) aNil)))) (tTest' truB (eBin gNe (eArgs gRepr (aCons (eCallA 1 (relCall (f_states q)) (aCons (eVar 2) aNil)) aNil)) (eArgs gRepr (aCons (eArgs gTuple (aCons (eVar 3) aNil)) aNil)))))) (sRet (eC (.dat (.bool false)))) sNil)
noncomputable def lwIf2 (q : ErrC) : SS := (sIf (sOr (tTest' truB (eBin gNe (eArgs gRepr (aCons (eCallA 1 (relCall (f_many_states q)) (aCons (eVar 2) aNil)) aNil)) (eArgs gRepr (aCons (eArgs gLen (aCons (eVar 3) aNil)) aNil)))) (tTest' truB (eBin gNe (eArgs gRepr (aCons (eCallA 1 (relCall (f_nought q)) (aCons (eVar 2) aNil)) aNil)) (eArgs gRepr (aCons (eBin gMul (eArgs gTupD (aCons (eC (.dat (.int 0))) aNil)) (eArgs gLen (aCons (eBin gIx (eVar 2) (eC (.dat (.int 1)))) aNil))) aNil))))) (sRet (eC (.dat (.bool false)))) sNil)
noncomputable def lwSeven : IS := (srcSeq (eArgs gLstD (aCons (eC (.dat .none)) (aCons (eArgs gTupD aNil) (aCons (eSl (eVar 2) oNone (oSome (eC (.dat (.int 2))))) (aCons (eBin gAdd (eVar 2) (eArgs gTupD (aCons (eArgs gTupD aNil) aNil))) (aCons (eC (.dat (.int 7))) (aCons (eC (.dat (.str "ground"))) (aCons (eArgs gTupD (aCons (eVar 2) aNil)) aNil)))))))))
theorem law_eq (q : ErrC) : f_law q = fnD 8 (sSeq (sAsg (eCallA 2 (relCall gPool) (aCons (eVar 0) (aCons (eC (.dat (.int 0))) aNil))) (aName 1))
    (sSeq (sAsg (eCallA 1 (relCall (f__law_drawn q)) (aCons (eVar 1) aNil)) (aName 2))
    (sSeq (sAsg (eCallA 1 (relCall (f__law_states q)) (aCons (eVar 2) aNil)) (aName 3))
    (sSeq (lwIf1 q) (sSeq (lwIf2 q)
    (sSeq (sFor (srcRange1 (aCons (eC (.dat (.int 6))) aNil)) (aName 4) (lwTurn q))
    (sSeq (sFor lwSeven (aName 7) (lwOdd q))
    (sRet (eCallA 1 (relCall (f__law_thing_right q)) (aCons (eVar 2) aNil)))))))))) := rfl
theorem law_ok (q : ErrC) (ns : List Int) : ∃ G', f_law q [.fro (ns.map PyData.int)] [] = .ok (.dat (.bool true)) G' := by
  rw [law_eq]
  obtain ⟨m0, hs0, e0⟩ := pool_rel ns []
  obtain ⟨C, Ks, Es, m1, G1, hs1, g, e1⟩ := drawn_ok q hs0
  have hg : gd C Ks Es = .tuple [.tuple (C.map cE), .tuple (Ks.map cE), .tuple (Es.map .str)] := rfl
  have e1' : relCall (f__law_drawn q) [.ref 0] [m0] = .ok (.dat (gd C Ks Es)) [m1] := rel_1 (l := 0) rfl rfl rfl rfl hs0.clean e1 hs1.clean rfl
  obtain ⟨Gs, ls, e2, hls⟩ := law_states_ok q g
  have hcl : moClean (.lst ((stAll [[]] C).map tD)) = true := by
    have : (stAll [[]] C).map tD = ((stAll [[]] C).map PyData.tuple).map .dat := by rw [List.map_map]; rfl
    rw [this]
    exact cleans_dat
  have e2' : relCall (f__law_states q) [.dat (gd C Ks Es)] [m1] = .ok (.ref 1) [m1, .lst ((stAll [[]] C).map tD)] := rel_0n rfl rfl rfl e2 hls hcl
  obtain ⟨ST, hST⟩ : ∃ ST : List PyData, ST = (stAll [[]] C).map PyData.tuple := ⟨_, rfl⟩
  have hSD : (stAll [[]] C).map tD = ST.map .dat := by rw [hST, List.map_map]; rfl
  rw [hSD] at e2'
  obtain ⟨hshown, hlen⟩ := states_shown g.cs g.cl g.pr
  have hlenI := stAll_len C [[]] fun c h => (g.cs c h).1
  have hSTl : (ST.length : Int) = prodC C := by rw [hST, List.length_map, hlenI]; simp
  rw [← hST] at hshown
  have hgood := gd_thing g
  have hfn := fault_gd g
  -- the first question
  have f1 := fun G => call0 (G := G) (law_fault_ok q _ hgood.1)
  have ht : told (gd C Ks Es) = .none := by unfold told; rw [hfn]
  rw [ht] at f1
  have f2 := right_rel q hgood
  have f3 := fun G => call0 (G := G) (states_ok q g)
  rw [← hST] at f3
  have hg1 : [m1, MO.lst (ST.map .dat)][1]? = some (.lst (ST.map .dat)) := rfl
  have n1 : eBin gNe (eArgs gRepr (aCons (eCallA 1 (relCall (f_states q)) (aCons (eVar 2) aNil)) aNil)) (eArgs gRepr (aCons (eArgs gTuple (aCons (eVar 3) aNil)) aNil)) [.d (.fro (ns.map PyData.int)), .d (.ref 0), .d (.dat (gd C Ks Es)), .d (.ref 1), .no, .no, .no, .no] [m1, .lst (ST.map .dat)] = .ok (.dat (.bool false)) [m1, .lst (ST.map .dat)] :=
    ne_repr (G1 := [m1, .lst (ST.map .dat)]) (d := .tuple ST) (by simp [f3]) (by simp) hshown
  have E1 : lwIf1 q [.d (.fro (ns.map PyData.int)), .d (.ref 0), .d (.dat (gd C Ks Es)), .d (.ref 1), .no, .no, .no, .no] [m1, .lst (ST.map .dat)] = .nx [.d (.fro (ns.map PyData.int)), .d (.ref 0), .d (.dat (gd C Ks Es)), .d (.ref 1), .no, .no, .no, .no] [m1, .lst (ST.map .dat)] := by
    unfold lwIf1
    generalize eBin gNe (eArgs gRepr (aCons (eCallA 1 (relCall (f_states q)) (aCons (eVar 2) aNil)) aNil)) (eArgs gRepr (aCons (eArgs gTuple (aCons (eVar 3) aNil)) aNil)) = X at n1 ⊢
    simp [f1, f2, n1]
  -- the second one
  have f4 := fun G => call0 (G := G) (many_ok q g)
  have f5 := fun G => call0 (G := G) (nought_ok q g)
  have hp1 := prodC_pos (C := C) fun c h => (g.cs c h).1
  have n2 : eBin gNe (eArgs gRepr (aCons (eCallA 1 (relCall (f_many_states q)) (aCons (eVar 2) aNil)) aNil)) (eArgs gRepr (aCons (eArgs gLen (aCons (eVar 3) aNil)) aNil)) [.d (.fro (ns.map PyData.int)), .d (.ref 0), .d (.dat (gd C Ks Es)), .d (.ref 1), .no, .no, .no, .no] [m1, .lst (ST.map .dat)] = .ok (.dat (.bool false)) [m1, .lst (ST.map .dat)] :=
    ne_repr (G1 := [m1, .lst (ST.map .dat)]) (d := .int (prodC C)) (by simp [f4]) (by simp [hSTl]) (int_shown (by omega) g.pr)
  have n3 : eBin gNe (eArgs gRepr (aCons (eCallA 1 (relCall (f_nought q)) (aCons (eVar 2) aNil)) aNil)) (eArgs gRepr (aCons (eBin gMul (eArgs gTupD (aCons (eC (.dat (.int 0))) aNil)) (eArgs gLen (aCons (eBin gIx (eVar 2) (eC (.dat (.int 1)))) aNil))) aNil)) [.d (.fro (ns.map PyData.int)), .d (.ref 0), .d (.dat (gd C Ks Es)), .d (.ref 1), .no, .no, .no, .no] [m1, .lst (ST.map .dat)] = .ok (.dat (.bool false)) [m1, .lst (ST.map .dat)] := by
    have hk := g.kl
    refine ne_repr (G1 := [m1, .lst (ST.map .dat)]) (d := .tuple (List.replicate Ks.length (.int 0))) (by simp [f5]) ?_ (noughts_shown _ (List.mem_range.mpr (by omega)))
    have hr : repL [PyData.int 0] (Ks.length : Int) = List.replicate Ks.length (.int 0) := by
      unfold repL
      rw [Int.toNat_natCast]
      generalize Ks.length = n
      induction n with
      | zero => rfl
      | succ n ih => rw [List.replicate_succ, List.flatten_cons, ih, List.replicate_succ]; rfl
    have hl : (Ks.length : Int) ≤ 1000 := by omega
    rw [hg]
    simp [hr, hl]
  have E2 : lwIf2 q [.d (.fro (ns.map PyData.int)), .d (.ref 0), .d (.dat (gd C Ks Es)), .d (.ref 1), .no, .no, .no, .no] [m1, .lst (ST.map .dat)] = .nx [.d (.fro (ns.map PyData.int)), .d (.ref 0), .d (.dat (gd C Ks Es)), .d (.ref 1), .no, .no, .no, .no] [m1, .lst (ST.map .dat)] := by
    unfold lwIf2
    generalize eBin gNe (eArgs gRepr (aCons (eCallA 1 (relCall (f_many_states q)) (aCons (eVar 2) aNil)) aNil)) (eArgs gRepr (aCons (eArgs gLen (aCons (eVar 3) aNil)) aNil)) = X at n2 ⊢
    generalize eBin gNe (eArgs gRepr (aCons (eCallA 1 (relCall (f_nought q)) (aCons (eVar 2) aNil)) aNil)) (eArgs gRepr (aCons (eBin gMul (eArgs gTupD (aCons (eC (.dat (.int 0))) aNil)) (eArgs gLen (aCons (eBin gIx (eVar 2) (eC (.dat (.int 1)))) aNil))) aNil)) = Y at n3 ⊢
    simp [n2, n3]
  -- the six turns
  obtain ⟨G6, m6, v4, v5, e6, hm6, hs6⟩ := lw_turns q g (.d (.fro (ns.map PyData.int))) (.d (.ref 1)) .no .no (rngD 0 6) [m1, .lst (ST.map .dat)] m1 .no .no rfl hs1
  have ok6 : okR 6 := by unfold okR; omega
  have E6 := (sFor_ok (src := srcRange1 (aCons (eC (.dat (.int 6))) aNil)) (a := aName 4) (f := lwTurn q) (env := [.d (.fro (ns.map PyData.int)), .d (.ref 0), .d (.dat (gd C Ks Es)), .d (.ref 1), .no, .no, .no, .no]) (G := [m1, .lst (ST.map .dat)]) (xs := rngD 0 6) (chk := yesH) (G1 := [m1, .lst (ST.map .dat)]) (by simp [ok6])).trans e6
  -- the odd things
  obtain ⟨L7, hL7⟩ : ∃ L7 : List PyData, L7 = [.none, .tuple [], .tuple [.tuple (C.map cE), .tuple (Ks.map cE)], .tuple [.tuple (C.map cE), .tuple (Ks.map cE), .tuple (Es.map .str), .tuple []], .int 7, .str "ground", .tuple [gd C Ks Es]] := ⟨_, rfl⟩
  have h7 : ∀ d ∈ L7, Thing d ∧ Shown d := fun d hd => by
    rw [hL7] at hd
    refine thing_no ?_
    simp only [List.mem_cons, List.not_mem_nil, or_false] at hd
    rcases hd with rfl | rfl | rfl | rfl | rfl | rfl | rfl <;> rfl
  have src7 : lwSeven [.d (.fro (ns.map PyData.int)), .d (.ref 0), .d (.dat (gd C Ks Es)), .d (.ref 1), v4, v5, .no, .no] G6 = .ok (L7.map .dat) (fun g => g[G6.length]? = some (.lst (L7.map .dat))) (G6 ++ [.lst (L7.map .dat)]) := by
    have c1 : cutL [PyData.tuple (C.map cE), .tuple (Ks.map cE), .tuple (Es.map .str)] none (some 2) = [.tuple (C.map cE), .tuple (Ks.map cE)] := cutL_to _ 2
    rw [hL7, hg]
    unfold lwSeven
    generalize C.map cE = X0 at *
    generalize Ks.map cE = X1 at *
    generalize Es.map PyData.str = X2 at *
    simp [c1]
  obtain ⟨v7, e7⟩ := lw_odds q (.d (.fro (ns.map PyData.int))) (.d (.ref 0)) (.d (.dat (gd C Ks Es))) (.d (.ref 1)) v4 v5 .no (fun g => g[G6.length]? = some (.lst (L7.map .dat))) (G6 ++ [.lst (L7.map .dat)]) (by simp) L7 .no h7
  have E7 := (sFor_ok (a := aName 7) (f := lwOdd q) src7).trans e7
  -- all in all
  have e0' : relCall gPool [.fro (ns.map PyData.int), .dat (.int 0)] [] = .ok (.ref 0) [m0] := e0
  refine ⟨G6 ++ [.lst (L7.map .dat)], ?_⟩
  generalize (sFor lwSeven (aName 7) (lwOdd q)) = S7 at E7 ⊢
  generalize (sFor (srcRange1 (aCons (eC (.dat (.int 6))) aNil)) (aName 4) (lwTurn q)) = S6 at E6 ⊢
  generalize lwIf1 q = S1 at E1 ⊢
  generalize lwIf2 q = S2 at E2 ⊢
  generalize gd C Ks Es = GD at *
  generalize ns.map PyData.int = NS at *
  simp [e0', e1', e2', E1, E2, E6, E7, f2]
end K00

set_option Elab.async false
set_option linter.all false
set_option maxRecDepth 100000
set_option maxHeartbeats 0
namespace K00
open PySem PySem.Spec PyProof.Rows L2 DL
/-! ### the head -/
abbrev iS : Stmt := clsBody (top0 1) 0
theorem scI : FnScope ["self", "what"] ["self", "what"] (defScope iS) := ⟨rfl, rfl, rfl, by decide +kernel, rfl, by decide +kernel, by decide +kernel⟩
theorem bdI : ∀ (kV doc pm : Value) (an : Option Addr) (cdv ct : Value) (us : List Value), us.length = 2 → bindArgs (PySem.W.fnOf "__init__" "Refused.__init__" (defArgs iS) (defBody iS) (defScope iS) .none kV doc pm an cdv ct) ⟨us, []⟩ = pure ((["self", "what"] : List Str).zip us) := fun _ _ _ _ _ _ us hl => match us, hl with | [_, _], _ => rfl
section
variable {P : Program} {w : World} {K : PySem.W.Frag} {mg : Str → Option Value} {base h h0 : Heap}
theorem hbI (hV : mg "ValueError" = none) (vV : PySem.W.findCls K (.type "ValueError") (.type "type") "__init__" = some (.val (.builtin "ValueError.__init__"))) : ∀ (f : Addr) (cdv : Value) (A : Around) (outer : List Env) (s : Shared) (H : Hp) (E : XK), PSs (cxOf (L2.CX P w) P w K mg base ["self", "what"] "Refused.__init__" (defScope iS) f cdv A outer s H E) (defBody iS) (tXI K) := fun _ _ _ _ _ _ _ => by
  refine pss_cons (ps_expr (pe_veinit rfl hV vV (pa_cons (pv 0) (pa_cons (pv 1) pa_nil)))) (pss_cons (ps_ost (pv 0) (pv 1)) (pss_one (ps_ost (pv 0) (pe_cn (pv 0)))))
def fa : List He.Fa := [.free "ValueError", .free "all", .free "bool", .free "enumerate", .free "int", .free "isinstance", .free "len", .free "list", .free "max", .free "min", .free "range", .free "repr", .free "str", .free "tuple", .int "CELLS" 0, .int "EXITS" 2, .str "LETTERS" "abcdefghijklmnopqrstuvwxyz", .str "LETTERS_AND_FIGURES" "abcdefghijklmnopqrstuvwxyz0123456789", .int "LONGEST_NAME" 12, .int "MOST_STATES" 64, .glo "BadGround", .glo "Refused", .glo "_law_pool", .glo "_law_take", .glo "_law_mixed", .glo "_law_names", .glo "_law_one", .glo "_law_drawn", .glo "_law_states", .glo "_law_is_number", .glo "_law_is_name", .glo "_law_entry_name", .glo "_law_fault", .glo "is_triple_of_tuples", .glo "is_name", .glo "is_number", .glo "entry_name", .glo "states_of_cells", .glo "made_ground", .glo "_law_heard", .glo "is_ground", .glo "_law_thing_right", .glo "_law_odd_entry", .glo "_law_spoilt", .glo "states", .glo "many_states", .glo "nought", .glo "law"]
def fn : List He.DefD := [dfi "Refused" "Refused.__init__" iS, dfd "_law_pool" s__law_pool, dfd "_law_take" s__law_take, dfd "_law_mixed" s__law_mixed, dfd "_law_names" s__law_names, dfd "_law_one" s__law_one, dfd "_law_drawn" s__law_drawn, dfd "_law_states" s__law_states, dfd "_law_is_number" s__law_is_number, dfd "_law_is_name" s__law_is_name, dfd "_law_entry_name" s__law_entry_name, dfd "_law_fault" s__law_fault, dfd "is_triple_of_tuples" s_is_triple_of_tuples, dfd "is_name" s_is_name, dfd "is_number" s_is_number, dfd "entry_name" s_entry_name, dfd "states_of_cells" s_states_of_cells, dfd "made_ground" s_made_ground, dfd "_law_heard" s__law_heard, dfd "is_ground" s_is_ground, dfd "_law_thing_right" s__law_thing_right, dfd "_law_odd_entry" s__law_odd_entry, dfd "_law_spoilt" s__law_spoilt, dfd "states" s_states, dfd "many_states" s_many_states, dfd "nought" s_nought, dfd "law" s_law]
def tf : List He.Defn := [("is_triple_of_tuples", none), ("is_name", none), ("nought", none)]
def tl : List TgD := [(("is_triple_of_tuples", none), none), (("is_name", none), none), (("nought", none), none)]
def ex (K : PySem.W.Frag) : Bool := ([veB K,
  errB K "Refused" "BadGround",
  clnB K "BadGround",
  excB K "BadGround",
  decide (PySem.W.exmOne K (.ref (He.ga K "BadGround")) (.ref (He.ga K "BadGround")) = some true),
  decide (PySem.W.exmOne K (.ref (He.ga K "BadGround")) (.ref (He.ga K "Refused")) = some true),
  kTupB K "GREATEST_NUMBERS" [(.int 8), (.int 99)],
  kTupB K "MOST_ENTRIES" [(.int 4), (.int 3), (.int 4)],
  kTupB K "RESERVED" [(.str "cells"), (.str "deeds"), (.str "exits"), (.str "if"), (.str "else"), (.str "while"), (.str "catch"), (.str "exit"), (.str "and"), (.str "or"), (.str "not"), (.str "law")],
  decide (PySem.W.kitOne K (.ref (He.ga K "BadGround")) (.ref (He.ga K "BadGround")) = some true),
  decide (PySem.W.kitOne K (.ref (He.ga K "BadGround")) (.type "ValueError") = some true)] : List Bool).all id
def qq (K : PySem.W.Frag) : ErrC := ⟨He.ga K "Refused", He.ga K "BadGround"⟩
def ts : List He.Tab := []
theorem tx (c : He.SaysX fa fn ts tf ex w h0 K) (X : K.In h) (G : h.Ns mainGlobals mg) : Tx P w K mg base (qq K) where
  b_ValueError := He.free_ok X G (c.t.d.fact 0 rfl)
  b_all := He.free_ok X G (c.t.d.fact 1 rfl)
  b_bool := He.free_ok X G (c.t.d.fact 2 rfl)
  b_enumerate := He.free_ok X G (c.t.d.fact 3 rfl)
  b_int := He.free_ok X G (c.t.d.fact 4 rfl)
  b_isinstance := He.free_ok X G (c.t.d.fact 5 rfl)
  b_len := He.free_ok X G (c.t.d.fact 6 rfl)
  b_list := He.free_ok X G (c.t.d.fact 7 rfl)
  b_max := He.free_ok X G (c.t.d.fact 8 rfl)
  b_min := He.free_ok X G (c.t.d.fact 9 rfl)
  b_range := He.free_ok X G (c.t.d.fact 10 rfl)
  b_repr := He.free_ok X G (c.t.d.fact 11 rfl)
  b_str := He.free_ok X G (c.t.d.fact 12 rfl)
  b_tuple := He.free_ok X G (c.t.d.fact 13 rfl)
  c_BadGround := gc_of c X G (r := "Refused") (q := "Refused.__init__") (st := iS) (List.mem_of_getElem? (i := 0) rfl) (all_at c.more 1 rfl) (all_at c.more 2 rfl) scI bdI (hbI (He.free_ok X G (c.t.d.fact 0 rfl)) (veB_ok (all_at c.more 0 rfl)))
  exc_BadGround := fun p hp => by
      simp only [List.mem_cons, List.not_mem_nil, or_false] at hp
      rcases hp with rfl
      · exact (excB_ok (all_at c.more 3 rfl)).1
  exm_BadGround_BadGround := fun p hp => by
      simp only [List.mem_cons, List.not_mem_nil, or_false] at hp
      rcases hp with rfl
      · exact of_decide_eq_true (all_at c.more 4 rfl)
  exm_Refused_BadGround := fun p hp => by
      simp only [List.mem_cons, List.not_mem_nil, or_false] at hp
      rcases hp with rfl
      · exact of_decide_eq_true (all_at c.more 5 rfl)
  k_CELLS := He.int_ok X G (c.t.d.fact 14 rfl)
  k_EXITS := He.int_ok X G (c.t.d.fact 15 rfl)
  k_GREATEST_NUMBERS := kTupB_ok X G (all_at c.more 6 rfl)
  k_LETTERS := He.str_ok X G (c.t.d.fact 16 rfl)
  k_LETTERS_AND_FIGURES := He.str_ok X G (c.t.d.fact 17 rfl)
  k_LONGEST_NAME := He.int_ok X G (c.t.d.fact 18 rfl)
  k_MOST_ENTRIES := kTupB_ok X G (all_at c.more 7 rfl)
  k_MOST_STATES := He.int_ok X G (c.t.d.fact 19 rfl)
  k_RESERVED := kTupB_ok X G (all_at c.more 8 rfl)
  kit_BadGround_BadGround := fun p hp => by
      simp only [List.mem_cons, List.not_mem_nil, or_false] at hp
      rcases hp with rfl
      · exact of_decide_eq_true (all_at c.more 9 rfl)
  kit_ValueError_BadGround := fun p hp => by
      simp only [List.mem_cons, List.not_mem_nil, or_false] at hp
      rcases hp with rfl
      · exact of_decide_eq_true (all_at c.more 10 rfl)
  m_BadGround := He.glo_ok X G (c.t.d.fact 20 rfl)
  m_Refused := He.glo_ok X G (c.t.d.fact 21 rfl)
  what_BadGround := fun p hp => by
      simp only [List.mem_cons, List.not_mem_nil, or_false] at hp
      rcases hp with rfl
      · exact (excB_ok (all_at c.more 3 rfl)).2
theorem hlaw (c : He.SaysX fa fn ts tf ex w h0 K) (X : K.In base) (G : base.Ns mainGlobals mg) (tb : TBs base mg (tl.map (tgT K))) : Has P w K mg base (tl.map (tgT K)) "law" ["script"] 15 (f_law (qq K)) := by
  have t : Tx P w K mg base (qq K) := tx c X G
  have r__law_pool := h__law_pool (T := tl.map (tgT K)) t (hasF_of c X G (List.mem_of_getElem? (i := 1) rfl) (List.mem_of_getElem? (i := 22) rfl)) 
  have r__law_take := h__law_take (T := tl.map (tgT K)) t (hasF_of c X G (List.mem_of_getElem? (i := 2) rfl) (List.mem_of_getElem? (i := 23) rfl)) 
  have r__law_mixed := h__law_mixed (T := tl.map (tgT K)) t (hasF_of c X G (List.mem_of_getElem? (i := 3) rfl) (List.mem_of_getElem? (i := 24) rfl)) r__law_take
  have r__law_names := h__law_names (T := tl.map (tgT K)) t (hasF_of c X G (List.mem_of_getElem? (i := 4) rfl) (List.mem_of_getElem? (i := 25) rfl)) r__law_mixed
  have r__law_one := h__law_one (T := tl.map (tgT K)) t (hasF_of c X G (List.mem_of_getElem? (i := 5) rfl) (List.mem_of_getElem? (i := 26) rfl)) r__law_take
  have r__law_drawn := h__law_drawn (T := tl.map (tgT K)) t (hasF_of c X G (List.mem_of_getElem? (i := 6) rfl) (List.mem_of_getElem? (i := 27) rfl)) r__law_take r__law_one r__law_names
  have r__law_states := h__law_states (T := tl.map (tgT K)) t (hasF_of c X G (List.mem_of_getElem? (i := 7) rfl) (List.mem_of_getElem? (i := 28) rfl)) 
  have r__law_is_number := h__law_is_number (T := tl.map (tgT K)) t (hasF_of c X G (List.mem_of_getElem? (i := 8) rfl) (List.mem_of_getElem? (i := 29) rfl)) 
  have r__law_is_name := h__law_is_name (T := tl.map (tgT K)) t (hasF_of c X G (List.mem_of_getElem? (i := 9) rfl) (List.mem_of_getElem? (i := 30) rfl)) 
  have r__law_entry_name := h__law_entry_name (T := tl.map (tgT K)) t (hasF_of c X G (List.mem_of_getElem? (i := 10) rfl) (List.mem_of_getElem? (i := 31) rfl)) r__law_is_number r__law_is_name
  have r__law_fault := h__law_fault (T := tl.map (tgT K)) t (hasF_of c X G (List.mem_of_getElem? (i := 11) rfl) (List.mem_of_getElem? (i := 32) rfl)) r__law_entry_name
  have r_is_triple_of_tuples := h_is_triple_of_tuples (T := tl.map (tgT K)) t (hasC_of (tl := tl) c X G (List.mem_of_getElem? (i := 12) rfl) (List.mem_of_getElem? (i := 33) rfl) (List.mem_of_getElem? (i := 0) rfl) (uni_no (tl := tl) rfl (List.mem_of_getElem? (i := 0) rfl))) tb 
  have r_is_name := h_is_name (T := tl.map (tgT K)) t (hasC_of (tl := tl) c X G (List.mem_of_getElem? (i := 13) rfl) (List.mem_of_getElem? (i := 34) rfl) (List.mem_of_getElem? (i := 1) rfl) (uni_no (tl := tl) rfl (List.mem_of_getElem? (i := 1) rfl))) tb 
  have r_is_number := h_is_number (T := tl.map (tgT K)) t (hasF_of c X G (List.mem_of_getElem? (i := 14) rfl) (List.mem_of_getElem? (i := 35) rfl)) 
  have r_entry_name := h_entry_name (T := tl.map (tgT K)) t (hasF_of c X G (List.mem_of_getElem? (i := 15) rfl) (List.mem_of_getElem? (i := 36) rfl)) r_is_number r_is_name
  have r_states_of_cells := h_states_of_cells (T := tl.map (tgT K)) t (hasF_of c X G (List.mem_of_getElem? (i := 16) rfl) (List.mem_of_getElem? (i := 37) rfl)) 
  have r_made_ground := h_made_ground (T := tl.map (tgT K)) t (hasF_of c X G (List.mem_of_getElem? (i := 17) rfl) (List.mem_of_getElem? (i := 38) rfl)) r_states_of_cells r_entry_name r_is_triple_of_tuples
  have r__law_heard := h__law_heard (T := tl.map (tgT K)) t (hasF_of c X G (List.mem_of_getElem? (i := 18) rfl) (List.mem_of_getElem? (i := 39) rfl)) r_made_ground
  have r_is_ground := h_is_ground (T := tl.map (tgT K)) t (hasF_of c X G (List.mem_of_getElem? (i := 19) rfl) (List.mem_of_getElem? (i := 40) rfl)) r_made_ground
  have r__law_thing_right := h__law_thing_right (T := tl.map (tgT K)) t (hasF_of c X G (List.mem_of_getElem? (i := 20) rfl) (List.mem_of_getElem? (i := 41) rfl)) r_is_ground r__law_heard r__law_fault
  have r__law_odd_entry := h__law_odd_entry (T := tl.map (tgT K)) t (hasF_of c X G (List.mem_of_getElem? (i := 21) rfl) (List.mem_of_getElem? (i := 42) rfl)) r__law_one
  have r__law_spoilt := h__law_spoilt (T := tl.map (tgT K)) t (hasF_of c X G (List.mem_of_getElem? (i := 22) rfl) (List.mem_of_getElem? (i := 43) rfl)) r__law_one r__law_odd_entry r__law_take
  have r_states := h_states (T := tl.map (tgT K)) t (hasF_of c X G (List.mem_of_getElem? (i := 23) rfl) (List.mem_of_getElem? (i := 44) rfl)) r_made_ground
  have r_many_states := h_many_states (T := tl.map (tgT K)) t (hasF_of c X G (List.mem_of_getElem? (i := 24) rfl) (List.mem_of_getElem? (i := 45) rfl)) r_states_of_cells r_made_ground
  have r_nought := h_nought (T := tl.map (tgT K)) t (hasC_of (tl := tl) c X G (List.mem_of_getElem? (i := 25) rfl) (List.mem_of_getElem? (i := 46) rfl) (List.mem_of_getElem? (i := 2) rfl) (uni_no (tl := tl) rfl (List.mem_of_getElem? (i := 2) rfl))) tb r_made_ground
  have r_law := h_law (T := tl.map (tgT K)) t (hasF_of c X G (List.mem_of_getElem? (i := 26) rfl) (List.mem_of_getElem? (i := 47) rfl)) r__law_thing_right r__law_spoilt r_nought r_many_states r_states r__law_fault r__law_states r__law_drawn r__law_pool
  exact r_law
end
abbrev R : PySem.W.OpenRow := PySem.W.OpenLaw.row PySem.Challenge.rw_lawsleft_k00_grounds_made_and_refused
def loose : List Str := (["Refused", "BadGround", "LETTERS", "LETTERS_AND_FIGURES", "RESERVED", "LONGEST_NAME", "CELLS", "EXITS", "MOST_ENTRIES", "GREATEST_NUMBERS", "MOST_STATES", "is_number", "is_name", "made_ground", "is_triple_of_tuples", "entry_name", "states_of_cells", "is_ground", "states", "many_states", "nought", "_law_pool", "_law_take", "_law_one", "_law_mixed", "_law_states", "_law_heard", "_law_is_name", "_law_is_number", "_law_entry_name"] : List Str) ++ (["_law_fault", "_law_names", "_law_drawn", "_law_odd_entry", "_law_spoilt", "_law_thing_right"] : List Str)
abbrev hk : PySem.W.Hook := DL.hookY 6 fa fn ts tf ex
def ob (s : PySem.W.SharedT) : He.AlX := DL.obsY 6 fa fn ts tf ex (HandSHeadRun.getT s)
theorem ob_eq (s : PySem.W.SharedT) : ob s = hk.obs s.abs := DL.obsY_eq (HandSHeadRun.getT_eq s)
theorem run (w : World) : HandSHeadRun.RunEq R (PySem.W.view R.prog [39]) hk ob 20000 loose w := by
  intro os
  kernel_rfl
end K00
open PySem PySem.W PySem.Calls PyProof.Rows
theorem K00.holds (sem_ok : ∀ (q : K00.ErrC) (ns : List Int), ns.length ≤ 63 → (∀ z ∈ ns, Builtin.Int.intBits z ≤ 1048576) → ∃ G1, K00.f_law q [.fro (ns.map PyData.int)] [] = .ok (.dat (.bool true)) G1) : PySem.Challenge.rw_lawsleft_k00_grounds_made_and_refused.Holds := by
  w_on; o_law
  refine HandSHeadRun.head_any (r := OpenLaw.row PySem.Challenge.rw_lawsleft_k00_grounds_made_and_refused) (q := view (OpenLaw.row PySem.Challenge.rw_lawsleft_k00_grounds_made_and_refused).prog [39]) (H := K00.hk) (ob := K00.ob) (M := 20000) (loose := K00.loose) (d := HandSHeadRun.topDef (OpenLaw.row PySem.Challenge.rw_lawsleft_k00_grounds_made_and_refused).prog 39) (kwd := []) K00.ob_eq
    (by kernel_rfl) (fun s => by kernel_rfl) K00.run (by kernel_rfl) (by kernel_rfl) (by kernel_rfl) (by rfl) (by first | assumption | decide +kernel) (by decide +kernel) ⟨rfl, rfl, rfl, rfl, rfl, by decide +kernel⟩ ?hw ?hc
  case hw => w_witness2
  case hc =>
    refine DL.walk_K (l := PySem.Challenge.rw_lawsleft_k00_grounds_made_and_refused) (n := 63) (k := 15) (x := "script") rfl (by decide) (by kernel_rfl) ⟨rfl, by decide, by decide⟩ ?F
    intro w mg fa h Y G hmg0
    obtain ⟨K, KX, c⟩ := Y
    have hmg : mg ("law" : PySem.Str) = some (.ref fa) := by
      have e : (HandSHeadRun.topDef (OpenLaw.row PySem.Challenge.rw_lawsleft_k00_grounds_made_and_refused).prog 39).name = ("law" : PySem.Str) := by kernel_rfl
      rw [← e]
      exact hmg0
    exact ⟨K, KX, DL.lawD_of c KX G hmg (fun ns h1 h2 => sem_ok _ ns h1 h2) fun base B N tb => K00.hlaw c B N tb⟩

set_option Elab.async false
set_option maxRecDepth 100000 in
set_option maxHeartbeats 0 in
theorem PySem.Challenge.cw_lawsleft_k00_grounds_made_and_refused_holds : PySem.Challenge.rw_lawsleft_k00_grounds_made_and_refused.Holds := by
  exact K00.holds fun q ns _ _ => K00.law_ok q ns
