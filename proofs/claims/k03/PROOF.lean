import PyProof.Rows.All
import Wide.All
import OpenK.AllK
import Wide.FinOn
import KE.KStateDown
import HandS.ForMost
import HandS.Exc
import HandS.ExcInit
import HandS.ExcField
import HandS.ExcIs
import HandS.ExcValue
import HandS.IsInst
import HandS.Defaults
import HandS.TryMany
import HandS.Wide
import PyProof.ReprRoads
import KE.KExcIs
import HandS.HeadEnd
import HandS.HeadHook1
import HandS.HeadHook2
import HandS.Evl
import HandS.ExcOwn
import HandS.WordsExc
import KE.GoesEnum
import HandS.Walk
import HandS.Deep
import HandS.OwnEq
import HandS.Codes
import HandS.Small
import PyProof.AutoSeq1
import HandS.TupLe
import HandS.Lambda
import HandS.EndTab
import HandS.Head2
import HandS.SetFor
import PyProof.StrBlock2
import HandS.Style
import HandS.TupMul
import HandS.TupAny
import HandS.Dict
import HandS.More
import HandS.DictComp
import HandS.SortOrd
import KE.KSortTupAny
import HandS.Nested
import KE.KLam
import KE.KRevSl
import HandS.Text
import KE.SortData
import HandS.SortRule
import HandS.Head0
import HandS.Head1
import HandS.StrMore
import HandS.Conv
import HandS.Zip
import PySem.Challenge.RW_turnedtalk_k03_talks_refused
set_option Elab.async false
set_option linter.all false
set_option maxRecDepth 100000
set_option maxHeartbeats 4000000
/-! V1: data with dicts, repr -/
namespace V1
open PySem PySem.Spec PyProof.Rows L2
def keyD : Key → PyData
  | .inl i => .int i
  | .inr x => .str x
mutual
/-- a value of the abstract heap is this data: scalars, tracked lists, tuples, dicts -/
inductive Dq (H : Hp) : V → PyData → Prop
  | non : Dq H .non .none
  | bl (b : Bool) : Dq H (.bl b) (.bool b)
  | int (i : Int) : Dq H (.int i) (.int i)
  | str (x : Str) : Dq H (.str x) (.str x)
  | lst {a : Addr} {xs : List V} {ds : List PyData} (at_ : H a = some (.lst xs)) (low : (a == sysModules) = false) (rest : DqAll H xs ds) : Dq H (.ref a) (.list ds)
  | tup {a : Addr} {xs : List V} {ds : List PyData} (at_ : H a = some (.tup xs)) (rest : DqAll H xs ds) : Dq H (.ref a) (.tuple ds)
  | dct {a : Addr} {kvs : List (Key × V)} {ds : List (PyData × PyData)} (at_ : H a = some (.dK kvs)) (rest : DqKv H kvs ds) : Dq H (.ref a) (.dict ds)
inductive DqAll (H : Hp) : List V → List PyData → Prop
  | nil : DqAll H [] []
  | cons {v : V} {vs : List V} {d : PyData} {ds : List PyData} (one : Dq H v d) (more : DqAll H vs ds) : DqAll H (v :: vs) (d :: ds)
inductive DqKv (H : Hp) : List (Key × V) → List (PyData × PyData) → Prop
  | nil : DqKv H [] []
  | cons {k : Key} {v : V} {kvs : List (Key × V)} {d : PyData} {ds : List (PyData × PyData)} (one : Dq H v d) (more : DqKv H kvs ds) : DqKv H ((k, v) :: kvs) ((keyD k, d) :: ds)
end
section
variable {H H' : Hp}
mutual
theorem Dq.same (e : Same H H') : ∀ (d : PyData) (v : V), Dq H v d → Dq H' v d
  | .none, _, h => by cases h; exact .non
  | .bool b, _, h => by cases h; exact .bl b
  | .int i, _, h => by cases h; exact .int i
  | .str x, _, h => by cases h; exact .str x
  | .list ds, _, h => by
    cases h with
    | lst at_ low rest => exact .lst (e _ _ at_) low (DqAll.same e ds _ rest)
  | .tuple ds, _, h => by
    cases h with
    | tup at_ rest => exact .tup (e _ _ at_) (DqAll.same e ds _ rest)
  | .dict ds, _, h => by
    cases h with
    | dct at_ rest => exact .dct (e _ _ at_) (DqKv.same e ds _ rest)
theorem DqAll.same (e : Same H H') : ∀ (ds : List PyData) (vs : List V), DqAll H vs ds → DqAll H' vs ds
  | [], _, h => by cases h; exact .nil
  | d :: ds, _, h => by
    cases h with
    | cons one more => exact .cons (Dq.same e d _ one) (DqAll.same e ds _ more)
theorem DqKv.same (e : Same H H') : ∀ (ds : List (PyData × PyData)) (kvs : List (Key × V)), DqKv H kvs ds → DqKv H' kvs ds
  | [], _, h => by cases h; exact .nil
  | (k, d) :: ds, _, h => by
    cases h with
    | cons one more => exact .cons (Dq.same e d _ one) (DqKv.same e ds _ more)
end
end
section
variable {X : Cx} {pins : List (Addr × Obj)} {σ : L2.St} {H : Hp} {s : Shared}
theorem key_reads {h : Heap} {k : Key} {u : Value} (e : keyIs k u = true) : Reads h u (keyD k) [] := by
  rcases keyIs_shape e with ⟨i, t, rfl, rfl⟩ | ⟨x, t, rfl, rfl⟩
  · exact .int i t
  · exact .str x t
theorem keys_read {P : Program} {w : World} {h : Heap} {H : Hp} : ∀ {es : List DictEntry} {us : List (Key × Value)} {kvs : List (Key × V)} {ds : List (PyData × PyData)}, Pairs (mixKind P w) es us → KV kvs us → DqKv H kvs ds →
    ReadsAll h (es.map (·.key)) (ds.map (·.1)) []
  | _, _, _, _, .nil, r, q => by
    cases r
    cases q
    exact .nil
  | _, _, _, _, .cons he hv more, r, q => by
    cases r with
    | cons r1 r2 =>
      cases q with
      | cons one more' =>
        have z := r1.1
        dsimp only at z
        have h1 := key_reads (h := h) he
        rw [← z] at h1
        exact .cons h1 (keys_read more r2 more')
mutual
theorem Dq.reads (I : Inv X pins σ H s) : ∀ (d : PyData) (v : V) (u : Value), Dq H v d → RelV v u → ∃ as, Reads s.heap u d as ∧ sysModules ∉ as
  | .none, _, _, h, r => by
    cases h
    cases r
    exact ⟨_, .none, List.not_mem_nil⟩
  | .bool b, _, _, h, r => by
    cases h
    cases r
    exact ⟨_, .bool b, List.not_mem_nil⟩
  | .int i, _, _, h, r => by
    cases h
    obtain ⟨t, rfl⟩ := r
    exact ⟨_, .int i t, List.not_mem_nil⟩
  | .str x, _, _, h, r => by
    cases h
    obtain ⟨t, rfl⟩ := r
    exact ⟨_, .str x t, List.not_mem_nil⟩
  | .list ds, _, _, h, r => by
    cases h with
    | lst at_ low rest =>
      cases r
      obtain ⟨_, its, n, rv, ho⟩ := I.hok _ _ at_
      obtain ⟨as, hr, hno⟩ := DqAll.reads I ds _ its rest rv
      refine ⟨_, Reads.list (vs := its.toArray) ho rfl rfl hr, fun hm => ?_⟩
      rcases List.mem_cons.mp hm with e | hm
      · rw [← e] at low
        exact absurd low (by decide)
      · exact hno hm
  | .tuple ds, _, _, h, r => by
    cases h with
    | tup at_ rest =>
      cases r
      obtain ⟨_, its, rv, o, ho, hc, n, hd⟩ := I.hok _ _ at_
      obtain ⟨as, hr, hno⟩ := DqAll.reads I ds _ its rest rv
      exact ⟨_, Reads.tuple ho hc hd hr, hno⟩
  | .dict ds, _, _, h, r => by
    cases h with
    | dct at_ rest =>
      cases r
      obtain ⟨_, low, us, rkv, o, es, ep, ho, hx, hd, _, hp, _⟩ := I.hok _ _ at_
      obtain ⟨as, hr, hno⟩ := DqKv.reads I ds _ us es.toList rest rkv hp
      have hk := keys_read (h := s.heap) hp rkv rest
      refine ⟨_, Reads.dict ho hx.1 hd hk hr, fun hm => ?_⟩
      rcases List.mem_cons.mp hm with e | hm
      · rw [← e] at low
        exact absurd low (by decide)
      · exact hno (by simpa using hm)
theorem DqAll.reads (I : Inv X pins σ H s) : ∀ (ds : List PyData) (vs : List V) (us : List Value), DqAll H vs ds → Vals vs us → ∃ as, ReadsAll s.heap us ds as ∧ sysModules ∉ as
  | [], _, _, h, r => by
    cases h
    cases r
    exact ⟨_, .nil, List.not_mem_nil⟩
  | d :: ds, _, _, h, r => by
    cases h with
    | cons one more =>
      cases r with
      | cons r1 r2 =>
        obtain ⟨as, q1, n1⟩ := Dq.reads I d _ _ one r1
        obtain ⟨bs, q2, n2⟩ := DqAll.reads I ds _ _ more r2
        refine ⟨_, .cons q1 q2, fun hm => ?_⟩
        rcases List.mem_append.mp hm with z | z
        · exact n1 z
        · exact n2 z
theorem DqKv.reads (I : Inv X pins σ H s) : ∀ (ds : List (PyData × PyData)) (kvs : List (Key × V)) (us : List (Key × Value)) (es : List DictEntry), DqKv H kvs ds → KV kvs us → Pairs (mixKind X.prog X.w) es us →
    ∃ as, ReadsAll s.heap (es.map (·.val)) (ds.map (·.2)) as ∧ sysModules ∉ as
  | [], _, _, _, h, r, p => by
    cases h
    cases r
    cases p
    exact ⟨_, .nil, List.not_mem_nil⟩
  | (k, d) :: ds, _, _, _, h, r, p => by
    cases h with
    | cons one more =>
      cases r with
      | cons r1 r2 =>
        cases p with
        | cons he hv hp =>
          have r3 := r1.2
          dsimp only at r3
          rw [← hv] at r3
          obtain ⟨as, q1, n1⟩ := Dq.reads I d _ _ one r3
          obtain ⟨bs, q2, n2⟩ := DqKv.reads I ds _ _ _ more r2 hp
          refine ⟨_, .cons q1 q2, fun hm => ?_⟩
          rcases List.mem_append.mp hm with z | z
          · exact n1 z
          · exact n2 z
end
end
/-! ### repr(x), x data; nothing is being shown meanwhile (gd) -/
section
variable {X : Cx}
theorem call_repr (gd : X.A.guards = some []) (hu : X.A.units + 64 < cLine) :
    CallR X (.builtin "repr") (fun xs H Q => ∃ (v : V) (d : PyData), xs = [v] ∧ Dq H v d ∧ d.showable = true ∧ d.depth ≤ 60 ∧ d.shown.length ≤ sizeLine ∧ Q (.str d.shown) H) := by
  intro pins s σ H xs us Q I r h
  obtain ⟨v, d, rfl, hd, hs, hn, hz, q⟩ := h
  cases r with
  | @cons _ u _ _ ru rn =>
    cases rn
    obtain ⟨as, hr, hno⟩ := Dq.reads I d v u hd ru
    have fin : ∀ h' (t : Tok) tk, (∀ b o, s.heap.get? b = some o → h'.get? b = some o) → EP X pins σ Q (.str d.shown t) { s with heap := h', toks := tk } :=
      fun h' t tk k => ⟨.str d.shown, H, I.kept k, ⟨_, rfl⟩, q⟩
    cases hr with
    | none => exact PySem.P.repr_of_none (fin s.heap _ _ fun _ _ z => z)
    | bool b => exact PySem.P.repr_of_bool (fin s.heap _ _ fun _ _ z => z)
    | int i t => exact PySem.P.repr_of_int (of_decide_eq_true (by simpa [PyData.showable] using hs)) (fin s.heap _ _ fun _ _ z => z)
    | str x t => exact PySem.P.repr_of_str (fin s.heap _ _ fun _ _ z => z) (by simpa [PyData.shown] using hz)
    | list h1 h2 h3 h4 => exact repr_of_reads' (.list h1 h2 h3 h4) hs (fun _ => hno) gd (by omega) (fun _ _ z => z) fin hz
    | tuple h1 h2 h3 h4 => exact repr_of_reads' (.tuple h1 h2 h3 h4) hs (fun _ => hno) gd (by omega) (fun _ _ z => z) fin hz
    | dict h1 h2 h3 h4 h5 => exact repr_of_reads' (.dict h1 h2 h3 h4 h5) hs (fun _ => hno) gd (by omega) (fun _ _ z => z) fin hz
end
end V1

set_option maxHeartbeats 4000000
/-! V1: exceptions as values: made, asked for their class, their field read -/
namespace V1
open PySem PySem.Spec PyProof.Rows L2
def veB : List Value := [.type "ValueError", .type "Exception", .type "BaseException", .type "object"]
/-- the object at C is an exception class over ValueError's maker, its further bases bm -/
def clsB (K : PySem.W.Frag) (C : Addr) (bm : List Value) : Bool := match K.lookup C with
  | some ⟨.type "type", _, .cls cd, sl⟩ => (match sl.toList with
    | [_, _, _, _, some (.builtin n), _] => decide (cd.mro = .ref C :: bm) && (n == "ValueError.__new__" && (cd.hasDict && (!cd.hasDel)))
    | _ => false)
  | _ => false
def oexB (K : PySem.W.Frag) (C : Addr) (bm : List Value) : Bool :=
  clsB K C bm && (decide (PySem.W.findIn K (.ref C) "__setattr__" = some (some (.builtin "object.__setattr__"))) &&
    (decide (PySem.W.findIn K (.ref C) "__getattribute__" = some (some (.builtin "BaseException.__getattribute__"))) &&
      (decide (PySem.W.findIn K (.ref C) "__getattr__" = some none) && (decide (PySem.W.findIn K (.ref C) "__class__" = some (some (.builtin "object.__class__"))) && PySem.W.keepIn K (.ref C)))))
/-- what isinstance asks of object.__class__ -/
def clsAttrB (K : PySem.W.Frag) : Bool := decide (PySem.W.specialIn K (.builtin "object.__class__") "__get__" = some (some (.builtin "getset_descriptor.__get__"))) && decide (PySem.W.takesIn K (.builtin "object.__class__") = some true)
structure ExK (K : PySem.W.Frag) (C : Addr) (bm : List Value) : Prop where
  cls : ∃ nm q N bs sn sub ab col dd k0 k1 k2 k3 k5, K.lookup C = some (excClassObj nm q C N bs bm true sn sub ab col dd k0 k1 k2 k3 k5 "ValueError.__new__")
  sa : PySem.W.findIn K (.ref C) "__setattr__" = some (some (.builtin "object.__setattr__"))
  ga : PySem.W.findIn K (.ref C) "__getattribute__" = some (some (.builtin "BaseException.__getattribute__"))
  gg : PySem.W.findIn K (.ref C) "__getattr__" = some none
  cl : PySem.W.findIn K (.ref C) "__class__" = some (some (.builtin "object.__class__"))
  kp : PySem.W.keepIn K (.ref C) = true
structure ClsAttr (K : PySem.W.Frag) : Prop where
  gs : PySem.W.specialIn K (.builtin "object.__class__") "__get__" = some (some (.builtin "getset_descriptor.__get__"))
  tk : PySem.W.takesIn K (.builtin "object.__class__") = some true
theorem clsAttr_of {K : PySem.W.Frag} (h : clsAttrB K = true) : ClsAttr K := ⟨of_decide_eq_true (Bool.and_eq_true_iff.mp h).1, of_decide_eq_true (Bool.and_eq_true_iff.mp h).2⟩
theorem exK_of {K : PySem.W.Frag} {C : Addr} {bm : List Value} (h : oexB K C bm = true) : ExK K C bm := by
  unfold oexB at h
  simp only [Bool.and_eq_true, decide_eq_true_eq] at h
  obtain ⟨h1, h2, h3, h4, h5, h6⟩ := h
  refine ⟨?_, h2, h3, h4, h5, h6⟩
  unfold clsB at h1
  split at h1
  · rename_i dd cd sl lk
    split at h1
    · rename_i k0 k1 k2 k3 n k5 hs
      simp only [Bool.and_eq_true, decide_eq_true_eq, beq_iff_eq, Bool.not_eq_true'] at h1
      obtain ⟨g1, g2, g3, g4⟩ := h1
      obtain ⟨nm, bs, mro, ns, qn, hd, sn, sb, ab, col, del⟩ := cd
      dsimp only at g1 g3 g4
      subst g1 g2 g3 g4
      obtain ⟨sl⟩ := sl
      dsimp only at hs
      subst hs
      exact ⟨nm, qn, ns, bs, sn, sb, ab, col, dd, k0, k1, k2, k3, k5, lk⟩
    · cases h1
  · cases h1
section
variable {K : PySem.W.Frag} {C D : Addr} {bm : List Value}
theorem ExK.clsIn (T : ExK K C bm) : ∃ cd, PySem.W.clsIn K C = some cd ∧ cd.mro = .ref C :: bm ∧ cd.hasDict = true := by
  obtain ⟨nm, q, N, bs, sn, sub, ab, col, dd, k0, k1, k2, k3, k5, e⟩ := T.cls
  unfold PySem.W.clsIn
  rw [e]
  exact ⟨_, rfl, rfl, rfl⟩
theorem ExK.isCls (T : ExK K C bm) : (PySem.W.clsIn K C).isSome = true := by
  obtain ⟨cd, e, _⟩ := T.clsIn
  rw [e] <;> rfl
theorem ExK.hasDict (T : ExK K C bm) : PySem.W.hasDictIn K C = true := by
  obtain ⟨cd, e, _, h⟩ := T.clsIn
  unfold PySem.W.hasDictIn
  rw [e]
  simpa using h
theorem ExK.ty (T : ExK K C bm) : PySem.W.typeIn K (.ref C) = some (.type "type") := by
  obtain ⟨nm, q, N, bs, sn, sub, ab, col, dd, k0, k1, k2, k3, k5, e⟩ := T.cls
  show (K.lookup C).map (·.cls) = _
  rw [e] <;> rfl
theorem ExK.mro (T : ExK K C bm) (v : Value) : PySem.W.mroIn K C v = some ((Value.ref C :: bm).contains v) := by
  obtain ⟨cd, e, h, _⟩ := T.clsIn
  unfold PySem.W.mroIn
  rw [e, Option.bind_some, h] <;> rfl
theorem ExK.sub (T : ExK K C bm) (v : Value) : PySem.W.subIn K (.ref C) v = some ((Value.ref C :: bm).contains v) := T.mro v
/-- isinstance of the class's objects -/
theorem ExK.kit (T : ExK K C bm) (T' : ExK K D bm') : PySem.W.kitOne K (.ref C) (.ref D) = some (decide (C = D) || bm.contains (.ref D)) := by
  unfold PySem.W.kitOne
  by_cases e : C = D
  · subst e
    rw [if_pos (by simp)]
    simp
  · have ne : ¬ ((Value.ref C == Value.ref D) = true) := by simpa using e
    rw [if_neg ne]
    show (if ((PySem.W.clsIn K D).isSome && PySem.W.typeIn K (.ref D) == some (.type "type")) = true then PySem.W.subIn K (.ref C) (.ref D) else none) = _
    rw [T'.isCls, T'.ty, if_pos (by simp), T.sub, List.contains_cons]
    have e2 : ¬ D = C := fun z => e z.symm
    simp [e, e2]
theorem ExK.kitT (T : ExK K C bm) {n : String} (hm : PySem.W.kitMeta n = true) : PySem.W.kitOne K (.ref C) (.type n) = some (bm.contains (.type n)) := by
  unfold PySem.W.kitOne
  rw [if_neg (show ¬ ((Value.ref C == Value.type n) = true) from by simp)]
  show (if PySem.W.kitMeta n = true then PySem.W.subIn K (.ref C) (.type n) else none) = _
  rw [if_pos hm, T.sub, List.contains_cons]
  simp
/-- an except clause's class -/
theorem ExK.exm (T : ExK K C bm) (T' : ExK K D bm') (hb : (Value.ref D :: bm').contains (.type "BaseException") = true) : PySem.W.exmOne K (.ref C) (.ref D) = some (decide (C = D) || bm.contains (.ref D)) := by
  have h1 : PySem.W.subIn K (.ref D) (.type "BaseException") = some true := by rw [T'.sub, hb]
  have h2 : PySem.W.subIn K (.ref C) (.ref D) = some (decide (C = D) || bm.contains (.ref D)) := by
    rw [T.sub, List.contains_cons]
    by_cases e : C = D
    · subst e; simp
    · have e2 : ¬ D = C := fun z => e z.symm
      simp [e, e2]
  exact PySem.W.exm_ref h1 T'.hasDict T'.ty h2
theorem ExK.oex (T : ExK K C bm) (hr : PySem.HandSPX.refsVE bm = true) (hb : (Value.ref C :: bm).contains (.type "BaseException") = true) : OexC K C := by
  obtain ⟨nm, q, N, bs, sn, sub, ab, col, dd, k0, k1, k2, k3, k5, e⟩ := T.cls
  exact ⟨⟨nm, q, N, bs, bm, sn, sub, ab, col, dd, k0, k1, k2, k3, k5, e, hr⟩, T.sa, by rw [T.sub, hb], T.ty, T.kp⟩
end
/-- at a stands an exception of the class at C; its own fields fs, if it has a dict of them -/
def IsEx (H : Hp) (a C : Addr) : Option (List (Str × V)) → Prop
  | none => H a = some (ExO (.ref C) a)
  | some fs => ∃ dx, H a = some (exo a C (some dx)) ∧ H dx = some (exd dx fs)
theorem IsEx.same {H H' : Hp} {a C : Addr} {o : Option (List (Str × V))} (e : Same H H') (h : IsEx H a C o) : IsEx H' a C o := by
  cases o with
  | none => exact e _ _ h
  | some fs =>
    obtain ⟨dx, h1, h2⟩ := h
    exact ⟨dx, e _ _ h1, e _ _ h2⟩
section
variable {X : Cx} {pins : List (Addr × Obj)} {σ : L2.St} {H : Hp} {s : Shared} {a C : Addr} {o : Option (List (Str × V))}
theorem IsEx.inst (I : Inv X pins σ H s) (h : IsEx H a C o) : ∃ oe od, PySem.W.InstAt s.heap a oe C od ∧ ∀ fs, o = some fs → ∃ (od' : Obj) (mA : Str → Option Value), od = some od' ∧ (∀ n, PySem.W.lookIn n od' = some (mA n)) ∧ ∀ f, RelO (fs.lookup f) (mA f) := by
  cases o with
  | none =>
    obtain ⟨⟨oe, vs, he, hz, hd, _⟩, _, _⟩ := I.hok a _ h
    refine ⟨oe, none, ⟨he, hz.1, by unfold PySem.W.notCls; rw [hd] <;> rfl, by rw [hz.2]; exact True.intro⟩, fun fs z => nomatch z⟩
  | some fs =>
    obtain ⟨dx, h1, h2⟩ := h
    obtain ⟨t1, he⟩ := exo_at I.hok h1
    obtain ⟨mA, hns, rel⟩ := exd_at I.hok h2
    obtain ⟨od, ho, hl⟩ := lookIn_ns hns
    refine ⟨_, some od, ⟨he, rfl, rfl, ho⟩, fun fs' z => ?_⟩
    cases z
    exact ⟨od, mA, rfl, fun n => hl n, rel⟩
end
/-! ### isinstance(e, c) -/
def rIsiX (K : PySem.W.Frag) : List V → Hp → VK → Prop := fun xs H Q => ∃ (a C : Addr) (o : Option (List (Str × V))) (bm : List Value) (c : V) (u : Value) (b : Bool), xs = [.ref a, c] ∧ IsEx H a C o ∧ ExK K C bm ∧ ClsAttr K ∧
  (Value.ref C :: bm).contains (.type "BaseException") = true ∧ (Value.ref C :: bm).contains (.type "object") = true ∧ ClsV c u ∧ PySem.W.kitOne K (.ref C) u = some b ∧ Q (.bl b) H
theorem call_isiX {X : Cx} : CallR X (.builtin "isinstance") (rIsiX X.K) := by
  intro pins s σ H xs us Q I r h
  obtain ⟨a, C, o, bm, c, u, b, rfl, hx, T, cA, hB, hO, k, e, q⟩ := h
  obtain ⟨w1, w2, rfl, r1, r2⟩ := vals2 r
  obtain rfl : w1 = Value.ref a := r1
  have e2 := k.eq r2
  subst e2
  obtain ⟨oe, od, J, _⟩ := hx.inst I
  exact PySem.W.kia_one (PySem.W.kitx_exc T.isCls T.ga T.gg (by rw [T.sub, hB]) T.cl cA.gs cA.tk (by rw [T.mro, hO])) I.kIn J e (fun z => nomatch z) fun tk => ⟨.bl b, H, I.tok tk, rfl, q⟩
/-! ### e.f of such -/
def tEf (K : PySem.W.Frag) (f : Str) (te : TE) : TE := fun σ H Q => te σ H fun x H1 => ∃ (a C : Addr) (fs : List (Str × V)) (bm : List Value) (v : V), x = .ref a ∧ IsEx H1 a C (some fs) ∧ ExK K C bm ∧ (Value.ref C :: bm).contains (.type "BaseException") = true ∧
  PySem.W.findIn K (.ref C) f = some none ∧ fs.lookup f = some v ∧ Q v H1
theorem pe_ef {X : Cx} {e : Expr} {te : TE} {pos : Pos} {n : Str} (he : PE X e te) (hb : attributeBase e n X.env (eval e X.env) = eval e X.env := by rfl) : PE X (.Attribute e n pos) (tEf X.K n te) := by
  refine ⟨fun pins s σ H Q I h => ?_⟩
  refine attr_of hb (thn (he.run pins s σ H _ I h) fun u s1 hh => ?_)
  obtain ⟨x, H1, J1, rx, a, C, fs, bm, v, rfl, hx, T, hB, hno, hl, q⟩ := hh
  obtain rfl : u = Value.ref a := rx
  obtain ⟨oe, od, J, hf⟩ := hx.inst J1
  obtain ⟨od', mA, rfl, look, rel⟩ := hf fs rfl
  obtain ⟨u, hu, ru⟩ := RelO.some_of (v := v) (o := mA n) (by rw [← hl]; exact rel n)
  exact HandSPX.exc_get J1.kIn J T.ga T.gg (by rw [T.sub, hB]) (PySem.W.findObj_own T.hasDict hno rfl (by rw [look, hu])) (handed_of ru) ⟨v, H1, J1.tok _, ru, q⟩
/-! ### C(e, ..) with an own __init__, kept as a value -/
def tMkV (C : Addr) (sp : Sp) (dvs : List V) (ta : TA) : TE := fun σ H Q => ta σ H fun vs H1 => vs.length ≤ 1000 ∧ ∀ a, H1 a = none → sp (.ref a :: (vs ++ dvs)) (upd H1 a (exo a C none)) (fun v H2 => v = .non ∧ Q (.ref a) H2) (fun _ _ _ => False)
theorem pe_mkV {X : Cx} {CX : CXT} {x : Str} {C fI : Addr} {k : Nat} {fd : FuncData} {ps : List Str} {sp : Sp} {ds : List Value} {dvs : List V} {e : Expr} {es : List Expr} {ta : TA} {p pos : Pos} (T : OexC X.K C)
    (iC : PySem.W.findIn X.K (.ref C) "__init__" = some (some (.ref fI))) (tI : PySem.W.typeIn X.K (.ref fI) = some (.type "function"))
    (F1 : FnOk X.prog X.w X.K X.mg X.base CX k fI fd ps sp) (hr : Room (k + 1) X.A) (hb : Binds X.K fd ps ds) (hd : Vals dvs ds) (hx : Passes CX X (fun _ _ _ => False)) (hg : Gl X x) (hm : X.mg x = some (.ref C)) (ha : PA X (e :: es) ta)
    (hdb : (x == ("__debug__" : Str)) = false := by decide) (he : starEach (e :: es) X.env = (false, eval e X.env) :: starEach es X.env := by rfl) (hpl : (backTo pos (starEach es X.env)).any (·.1) = false := by rfl) :
    PE X (.Call (.Name x p) (e :: es) [] pos) (tMkV C sp dvs ta) := by
  refine ⟨fun pins s σ H Q I h => ?_⟩
  obtain ⟨nm, q, N, bs, bm, sn, sub, ab, col, dd, k0, k1, k2, k3, k5, hC, hbm⟩ := T.cls
  refine wpAny_Call_Name_kw (ld_glob I hg hm ?_ hdb)
  refine PySem.W.callWith_K (h₀ := X.base) I.ok.mod.kin T.kC (thn (ha.run pos pins s σ H _ I h) fun us st hh => ⟨hh.choose_spec.choose_spec.1.kIn, ?_⟩) he hpl
  obtain ⟨vs, H1, J, rv, hz, qq⟩ := hh
  show wpAny _ _ (call (.ref C) us) _ _ _
  obtain ⟨hp, g, dr, tk, os⟩ := st
  let n := hp.objs.size
  have nn : H1 (n + 1) = none := J.hok.fresh (Nat.le_succ n)
  have go := qq (n + 1) nn
  let hp2 := (hp.push (PySem.W.kdv_tup us)).push (PySem.HandSPX.excO C n)
  have kk : ∀ b ob, hp.get? b = some ob → hp2.get? b = some ob := fun b ob z => Heap.get?_push_of_some _ (Heap.get?_push_of_some _ z)
  have top : hp2.get? (n + 1) = some (PySem.HandSPX.excO C n) := by
    show ((hp.push (PySem.W.kdv_tup us)).push (PySem.HandSPX.excO C hp.objs.size)).get? (hp.objs.size + 1) = _
    heap_get
  have J2 : Inv X pins σ (upd H1 (n + 1) (exo (n + 1) C none)) ⟨hp2, g, dr, tk, os⟩ := J.laid (t' := tk) (a := n + 1) (h' := hp2) kk (Nat.le_succ n) (exo_ok top)
  have rr : Vals (V.ref (n + 1) :: (vs ++ dvs)) (Value.ref (n + 1) :: (us ++ ds)) := .cons rfl (rv.append hd)
  have len : (Value.ref (n + 1) :: us ++ ds).length = ps.length := (rr.length.symm.trans (F1.len _ _ _ _ go))
  have short : us.length ≤ sizeLine := by
    have z := Paired.length rv
    rw [sizeLine_eq]
    omega
  refine wpAny_call (PySem.HandSPX.call_own F.excBase_ValueError (fun Y => PySem.HandSPX.refsVE_contains Y bm hbm) (J.kIn _ _ hC) (PySem.W.looks_findIn J.kIn iC) (fun self => PySem.W.bind_fn J.kIn self tI) short
    (codeAny_mono (F1.run _ X.stack _ _ ⟨Value.ref (n + 1) :: us, []⟩ (Value.ref (n + 1) :: (us ++ ds)) _ _ (fun _ _ _ => False) (hr.make C us []) (J2.env0.make C us []) (hb _ (Value.ref (n + 1) :: us) J2.kIn len) rr go) fun r s' hq => ?_))
  cases r with
  | error er => exact hx pins σ _ _ er s' J2 hq
  | ok fl =>
    cases fl with
    | ret u =>
      obtain ⟨v, H2, o2, b2, un2, ok2, rv2, ev, qv⟩ := hq
      subst ev
      refine ⟨rv2, .ref (n + 1), H2, ?_, rfl, qv⟩
      obtain ⟨h', g', d', t', os'⟩ := s'
      exact J.call' (ch := []) o2 (Un.trans (Un.laid kk (Nat.le_succ n) nn) un2) ok2 b2 (fun b z => absurd z (by simp))
    | next => exact False.elim hq
    | brk => exact False.elim hq
    | cont => exact False.elim hq
/-! ### C(), an own exception class without own __init__ -/
def tMk0 (C : Addr) : TE := fun _ H Q => ∀ a, H a = none → Q (.ref a) (upd H a (ExO (.ref C) a))
theorem pe_mk0 {X : Cx} {C : Addr} {bmB : List Value} {B newId initId : String} {x : Str} {p pos : Pos} (F : ExcBaseFacts B newId initId bmB) (q : PySem.W.excIn X.K C bmB newId = true) (gC : X.mg x = some (.ref C)) (kC : PySem.W.keepIn X.K (.ref C) = true) (hg : Gl X x)
    (hdb : (x == ("__debug__" : Str)) = false := by decide) : PE X (.Call (.Name x p) [] [] pos) (tMk0 C) := by
  refine ⟨fun pins s σ H Q I h => ?_⟩
  refine wpAny_Call_Name_kw (ld_glob I hg gC ?_ hdb)
  refine PySem.W.callWith_K0 I.kIn kC ?_
  obtain ⟨bm, N, nm, qn, bs, hdct, sn, sub, ab, col, dd, k0, k1, k2, k3, k5, mN, hC, hN, hni, T⟩ := exc_obj I.kIn q
  refine wpAny_call_exc_subT F T hC hN hni (fun h' a hm => ?_) (Nat.zero_le _)
  have hn : H a = none := I.hok.gone hm.new
  obtain ⟨t, ht, _, _⟩ := hm.there
  exact ⟨.ref a, _, I.laidN hm.keeps hm.new hn (exO_ok ht ⟨rfl, rfl⟩ rfl rfl rfl (show 4 < 6 by decide)), rfl, h a hn⟩
end V1

set_option maxHeartbeats 4000000
/-! V1: try with any number of except clauses, each with or without a name -/
namespace V1
open PySem PySem.Spec PyProof.Rows L2
/-- a clause: its class, the slot of its name if it has one, its suite's reading -/
abbrev Cl : Type := Value × Option Nat × (Addr → Value → Option Addr → TS)
/-- where a suite's ends lead once the clause's name is let go of -/
def offD (i : Nat) (D : Ends) : Ends := { nx := fun σ H => D.nx (σ.set i none) H, rt := D.rt, bk := fun σ H => D.bk (σ.set i none) H, ct := fun σ H => D.ct (σ.set i none) H }
def suiteD (D : Ends) (a : Addr) (cls : Value) (d : Option Addr) (ts : Addr → Value → Option Addr → TS) (σ : L2.St) (H : Hp) : Option Nat → Prop
  | none => ts a cls d D σ H
  | some i => ts a cls d (offD i D) (σ.set i (some (.ref a))) H
/-- what the clauses wish of an exception that leaves the body -/
def wCl (K : PySem.W.Frag) (Wout : WX) (D : Ends) : List Cl → WX
  | [] => Wout
  | (c, o, ts) :: more => fun cls d σ H => ∃ yes, PySem.W.exmOne K cls c = some yes ∧ (yes = true → ∀ a, H a = none → suiteD D a cls d ts σ H o) ∧ (yes = false → wCl K Wout D more cls d σ H)
inductive Hds (X : Cx) : List ExceptHandler → List Cl → Prop
  | nil : Hds X [] []
  | plain {x : Str} {c : Value} {ts : Addr → Value → Option Addr → TS} {st : Stmt} {sts : List Stmt} {p1 p2 : Pos} {hds : List ExceptHandler} {l : List Cl} (nm : Names X x c)
      (su : ∀ (a : Addr) (oe : Obj) (cls : Value) (d : Option Addr) (pn : List (Addr × Obj)), Zc cls d oe → (∃ vs, oe.data = .fields vs) → PSs (X.suite a ((a, oe) :: pn)) (st :: sts) (ts a cls d)) (more : Hds X hds l) :
      Hds X (.ExceptHandler (some (.Name x p1)) none (st :: sts) p2 :: hds) ((c, none, ts) :: l)
  | named {x n : Str} {i : Nat} {c : Value} {ts : Addr → Value → Option Addr → TS} {st : Stmt} {sts : List Stmt} {p1 p2 : Pos} {hds : List ExceptHandler} {l : List Cl} (at_ : X.N[i]? = some n) (loc : X.env.kindOf n = some .local) (nm : Names X x c)
      (su : ∀ (a : Addr) (oe : Obj) (cls : Value) (d : Option Addr) (pn : List (Addr × Obj)), Zc cls d oe → (∃ vs, oe.data = .fields vs) → PSs (X.suite a ((a, oe) :: pn)) (st :: sts) (ts a cls d)) (more : Hds X hds l) :
      Hds X (.ExceptHandler (some (.Name x p1)) (some n) (st :: sts) p2 :: hds) ((c, some i, ts) :: l)
/-- an exception of the body that was met: all that the clauses may lean on -/
theorem ps_try_cl {X : Cx} {body : List Stmt} {hd : ExceptHandler} {hds : List ExceptHandler} {l : List Cl} {pos : Pos} {tb : WX → TS} {Wout : WX} (stk : X.stack = X.env :: X.outer) (fr : X.env.frame = some X.env.locals) (nd : X.N.Nodup) (tk : Takes X Wout)
    (hb : ∀ (W : WX) (pn : List (Addr × Obj)) (xe : Value → Shared → Prop), Takes (X.tr pn xe) W → PassesOwn (model X.prog X.w) X.A X.env xe → PSs (X.tr pn xe) body (tb W))
    (cl : Hds X (hd :: hds) l) : PS X (.Try body (hd :: hds) [] [] pos) (fun D σ H => tb (wCl X.K Wout D l) D σ H) := by
  refine ⟨fun pins s σ H D I go => ?_⟩
  have ok := I.ok
  have frames : X.A.frames = some (X.env :: X.outer) := by
    rw [ok.frames, stk]
  refine wpAny_Try_except ?_
  refine wpAny_mono ((hb (wCl X.K Wout D l) (X.pn ++ pins) (fun e z1 => wpAny (model X.prog X.w) X.A (noteFrame e X.env)
    (fun _ z2 => wpAny (model X.prog X.w) X.A (setFlight e none) (fun _ z3 => wpAny (model X.prog X.w) X.A (handleBy e X.env (hd :: hds)) (SP X pins D) X.xe z3) X.xe z2) X.xe z1)
    (fun u sE met => ?_) PassesOwn.looking).run [] s σ H D (I.toTry _) go) (fun f s1 out => ?_) (fun _ _ he => he)
  · obtain ⟨a, B, sI, pins', σ', H', cls, d, rfl, J', nb, up, sky, na, os, ag, wish⟩ := met
    have J : Inv X pins σ' H' sI := J'.ofTry ok
    have air : Sky B (X.env :: X.outer) a (Zc cls d) X.env.locals sE.heap := by
      rw [← stk]
      exact sky
    show wpAny (model X.prog X.w) X.A (noteFrame (.ref a) X.env) _ _ _
    refine Sky.land Zc.steady frames fr air fun h3 fl up3 => ?_
    have J3 : Inv X pins σ' H' { sE with heap := h3 } := J.landed nb fl.1 (up.trans up3) os ag
    obtain ⟨oe, vs, there, zc, dat⟩ := fl.there
    have off : a ∉ frs (X.env :: X.outer) := fun hm => by
      obtain ⟨_, ob, eo, hnf⟩ := fl.2.2.1.mem hm
      rw [there] at eo
      cases eo
      exact hnf _ dat
    have offL : a ≠ X.env.locals := fun z => off (List.mem_filterMap.mpr ⟨X.env, List.mem_cons_self, by rw [fr, z]⟩)
    have offF : a ∉ X.fs := fun hm => by
      obtain ⟨en, hen, q⟩ := List.mem_filterMap.mp hm
      exact off (List.mem_filterMap.mpr ⟨en, List.mem_cons_of_mem _ hen, q⟩)
    have S3 := J3.suite there dat na offL offF
    -- one clause's test
    have ask : ∀ {x : Str} {c : Value} {p1 : Pos} {Q : Value → Shared → Prop} {E : Value → Shared → Prop}, Names X x c → Q c { sE with heap := h3 } →
        wpAny (model X.prog X.w) (X.A.mark (some (.ref a))) (eval (.Name x p1) X.env) Q E { sE with heap := h3 } := fun {x c p1 Q E} nm q => by
      obtain ⟨g, nodebug, m | ⟨m, bv, notname⟩⟩ := nm
      · exact ld_glob (X := X.suite a ((a, oe) :: (X.pn ++ pins))) S3 g m q nodebug
      · exact ld_blt (X := X.suite a ((a, oe) :: (X.pn ++ pins))) S3 g m bv q notname nodebug
    have typ : PySem.W.Looks (model X.prog X.w) h3 (typeOf (.ref a)) cls := fun _ _ _ z k q => wpAny_typeOf_ref (k _ _ there) (by rw [zc.1]; exact q)
    have through : ∀ {hs : List ExceptHandler} {ls : List Cl}, Hds X hs ls → wCl X.K Wout D ls cls d σ' H' →
        wpAny (model X.prog X.w) X.A (handleBy (.ref a) X.env hs) (SP X pins D) X.xe { sE with heap := h3 } := by
      intro hs ls hk
      induction hk with
      | nil =>
        intro w
        refine wpAny_handleBy_nil ?_
        obtain ⟨_, _, _, ob, us, T, _, _, e1, _, e3, e4, _⟩ := id fl
        unfold PySem.passOn
        refine wpAny_bind (wpAny_field e1 e3 e4 ?_)
        rw [if_neg (show ¬ ((Value.ref T == Value.none) = true) from by simp)]
        have last : wpAny (model X.prog X.w) X.A (setFlight (.ref a) X.env.frame) (fun _ z => wpAny (model X.prog X.w) X.A (throw (.ref a) : Sem Flow) (SP X pins D) X.xe z) X.xe { sE with heap := h3 } := by
          rw [fr]
          refine HandSPX.setFlight_upZ fl fun h4 held up4 => wpAny_throw (tk _ _ ?_)
          refine ⟨a, B, sI, pins, σ', H', cls, d, rfl, J, nb, (up.trans up3).trans up4, .inr (.inr ?_), na, os, ag, w⟩
          rw [stk]
          exact held
        first
          | exact wpAny_bind (wpAny_pure (wpAny_bind last))
          | exact wpAny_bind last
      | @plain x c ts st sts p1 p2 hs2 ls2 nm su more ih =>
        intro w
        obtain ⟨yes, hy, onYes, onNo⟩ := w
        refine wpAny_handleBy_cons (codeAny_handlers_test ?_) (by intro q; cases q)
        refine ask nm ((PySem.W.exm_one (M := model X.prog X.w) J3.kIn typ hy).here ?_)
        cases yes with
        | false => exact ih (onNo rfl)
        | true =>
          refine codeAny_handlers_suite ?_
          refine HandSPX.lands_againZ fl fun h4 fl4 up4 => ?_
          have J4 : Inv X pins σ' H' { sE with heap := h4 } := J.landed nb fl4.1 ((up.trans up3).trans up4) os ag
          obtain ⟨oe4, vs4, th4, zc4, dat4⟩ := fl4.there
          refine wpAny_mono ((su a oe4 cls d (X.pn ++ pins) zc4 ⟨_, dat4⟩).run [] _ _ H' _ (J4.suite th4 dat4 na offL offF) (onYes rfl a na)) (fun f s6 out => ?_) (fun _ _ z => False.elim z)
          cases f with
          | next => exact let ⟨_, _, S6, q6⟩ := out; ⟨_, _, S6.unsuite ok, q6⟩
          | brk => exact let ⟨_, _, S6, q6⟩ := out; ⟨_, _, S6.unsuite ok, q6⟩
          | cont => exact let ⟨_, _, S6, q6⟩ := out; ⟨_, _, S6.unsuite ok, q6⟩
          | ret u => exact let ⟨_, _, _, S6, r6, q6⟩ := out; ⟨_, _, _, S6.unsuite ok, r6, q6⟩
      | @named x n i c ts st sts p1 p2 hs2 ls2 at_ loc nm su more ih =>
        intro w
        obtain ⟨yes, hy, onYes, onNo⟩ := w
        refine wpAny_handleBy_cons (codeAny_handlers_test ?_) (by intro q; cases q)
        refine ask nm ((PySem.W.exm_one (M := model X.prog X.w) J3.kIn typ hy).here ?_)
        cases yes with
        | false => exact ih (onNo rfl)
        | true =>
          refine codeAny_handlers_suite_as ?_
          refine HandSPX.lands_againZ fl fun h4 fl4 up4 => ?_
          have J4 : Inv X pins σ' H' { sE with heap := h4 } := J.landed nb fl4.1 ((up.trans up3).trans up4) os ag
          obtain ⟨oe4, vs4, th4, zc4, dat4⟩ := fl4.there
          refine store_ok (X := X.suite a ((a, oe4) :: (X.pn ++ pins))) (v := .ref a) (J4.suite th4 dat4 na offL offF) nd at_ (.inl loc) rfl (fun s5 S5 => ?_) (.inr loc)
          refine wpAny_mono ((su a oe4 cls d (X.pn ++ pins) zc4 ⟨_, dat4⟩).run [] s5 _ H' _ S5 (onYes rfl a na)) (fun f s6 out => ?_) (fun _ _ z => False.elim z)
          have gone : ∀ {σ6 : L2.St} {H6 : Hp} {Q : Shared → Prop}, Inv (X.suite a ((a, oe4) :: (X.pn ++ pins))) [] σ6 H6 s6 → (∀ s7, Inv X pins (σ6.set i none) H6 s7 → Q s7) →
              wpAny (model X.prog X.w) X.A (do bindName X.env n .none; unbindBehindTheSuite X.env n p2) (fun _ s7 => Q s7) X.xe s6 := fun S6 hq => gone_ok (S6.unsuite ok) nd at_ loc hq
          cases f with
          | next => exact let ⟨_, _, S6, q6⟩ := out; gone S6 fun s7 J7 => ⟨_, _, J7, q6⟩
          | brk => exact let ⟨_, _, S6, q6⟩ := out; gone S6 fun s7 J7 => ⟨_, _, J7, q6⟩
          | cont => exact let ⟨_, _, S6, q6⟩ := out; gone S6 fun s7 J7 => ⟨_, _, J7, q6⟩
          | ret u => exact let ⟨_, _, _, S6, r6, q6⟩ := out; gone S6 fun s7 J7 => ⟨_, _, _, J7, r6, q6⟩
    exact through cl wish
  · cases f with
    | next => exact let ⟨_, _, J, q⟩ := out; wpAny_execs_nil ⟨_, _, J.ofTry ok, q⟩
    | brk => exact let ⟨_, _, J, q⟩ := out; ⟨_, _, J.ofTry ok, q⟩
    | cont => exact let ⟨_, _, J, q⟩ := out; ⟨_, _, J.ofTry ok, q⟩
    | ret u => exact let ⟨_, _, _, J, r, q⟩ := out; ⟨_, _, _, J.ofTry ok, r, q⟩
end V1

set_option maxHeartbeats 4000000
/-! V1: the law's own def, run at the caller of all (nothing is being shown there), and the end over a head by facts -/
namespace V1
open PySem PySem.Spec PyProof.Rows L2
section
variable {P : Program} {w : World} {K : PySem.W.Frag} {mg : Str → Option Value} {base : Heap} {k : Nat} {f : Addr} {fd : FuncData} {x : Str} {sp : Sp}
/-- the law's def keeps sp, called where nothing is being shown; nothing leaves it -/
def LawOk (P : Program) (w : World) (K : PySem.W.Frag) (mg : Str → Option Value) (base : Heap) (f : Addr) (fd : FuncData) (x : Str) (sp : Sp) : Prop :=
  ∀ (s : Shared) (H : Hp) (u : Value) (v : V) (Q : VK), Env0 P w K mg base callerA [] s H → BindsTo s fd ⟨[u], []⟩ [(x, u)] → RelV v u → sp [v] H Q (fun _ _ _ => False) →
    codeAny (model P w) callerA (.call (.ref f) ⟨[u], []⟩) (CR CX0 [] P w H s Q (fun _ _ _ => False)) s
theorem lawOk_of {name qual : Str} {params : Arguments} {body : List Stmt} {scope : Scope} {N : List Str} (F : FunD K name qual params body scope [] [] f fd) (S : FnScope N [x] scope)
    (room : Room (k + 1) callerA)
    (go : ∀ (cdv : Value) (s : Shared) (H : Hp) (v : V) (Q : VK), Room k (callerA.deeper (envOfC qual scope s.heap.objs.size f cdv)) → (callerA.deeper (envOfC qual scope s.heap.objs.size f cdv)).guards = some [] → sp [v] H Q (fun _ _ _ => False) →
      ∃ t, PSs (cxOf CX0 P w K mg base N qual scope f cdv callerA [] s H (fun _ _ _ => False)) body t ∧ t { nx := fun _ H' => Q .non H', rt := Q } (start N [v]) H) :
    LawOk P w K mg base f fd x sp := by
  intro s H u v Q e0 bind rv hs
  obtain ⟨oc, od, dV, kV, doc, pm, an, cdv, ct, osl, rfl, lk, cd, _, _⟩ := F.ex
  have inK : K.In s.heap := e0.mod.kin.keeps fun b o e => (e0.bs b o e).1
  have free : s.heap.NoLimit := e0.mod.nolimit.keeps fun b o e => (e0.bs b o e).1
  have kinds : ∀ y ∈ [(x, u)], scope.names.lookup y.1 = some .local ∨ (scope.names.lookup y.1 = some .cell ∧ ((cellsFrom (s.heap.objs.size + 1) scope.names []).lookup y.1).isSome = true) := by
    intro y hy
    obtain rfl := List.mem_singleton.mp hy
    rcases S.par x (List.mem_singleton.mpr rfl) with q | q
    · exact .inl q
    · exact .inr ⟨q, PySem.W.cellsFrom_some _ _ _ (.inl q)⟩
  refine codeAny_call_function room.depth (inK _ _ lk) rfl S.co S.gen rfl (PySem.W.codeRec_of inK cd) (bind _ _ _ _ ?_)
  refine wpAny_newFunctionEnv_cells S.kind kinds fun env he s1 z => ?_
  subst he
  refine ⟨free.keeps z.toInCall.keep, codeAny_func ?_⟩
  obtain ⟨t, ht, hq⟩ := go cdv s H v Q (room.deeper _) rfl hs
  have I : Inv (cxOf CX0 P w K mg base N qual scope f cdv callerA [] s H (fun _ _ _ => False)) [] (start N [v]) H s1 := inv_start (us := [u]) (ps := [x]) S room.hd e0 rfl (.cons rv .nil) z
  refine wpAny_mono (ht.run [] s1 _ H _ I hq) (fun fl s' out => ?_) fun _ _ z => z
  cases fl with
  | ret u' => exact let ⟨v', _, H', J, r', q⟩ := out; ⟨v', H', J.os, J.bare, J.base, J.hok, r', q⟩
  | next => exact let ⟨_, H', J, q⟩ := out; ⟨.non, H', J.os, J.bare, J.base, J.hok, rfl, q⟩
  | brk => exact let ⟨_, _, _, q⟩ := out; q.elim
  | cont => exact let ⟨_, _, _, q⟩ := out; q.elim
end
/-- from the state at the claim's call -/
theorem law_run {P : Program} {w : World} {K : PySem.W.Frag} {mg mb : Str → Option Value} {fa a : Addr} {fd : FuncData} {x : Str} {sp : Sp} {s : Shared} {vs : List Value} {ns : List Int}
    (KX : K.In s.heap) (gl : s.heap.Ns mainGlobals mg) (bl : s.heap.Ns builtinsNs mb) (boot : ∀ y : Str, y ≠ "__name__" → mb y = bootBuiltins y) (free : s.heap.NoLimit) (gens : s.gens = #[])
    (ha : s.heap.get? a = some { cls := .type "list", data := .seq vs.toArray }) (hints : IntsAre vs ns) (short : ns.length ≤ sizeLine)
    (F : ∀ base : Heap, K.In base → base.Ns mainGlobals mg → LawOk P w K mg base fa fd x sp) (bind : ∀ (s : Shared) (u : Value), BindsTo s fd ⟨[u], []⟩ [(x, u)])
    (hs : ∀ H : Hp, Only H → SqL K H a (ns.map V.int) → sp [.ref a] H (fun v _ => v = .bl true) (fun _ _ _ => False)) :
    codeAny (model P w) callerA (.call (.ref fa) ⟨[.ref a], []⟩) (fun r s' => r = .ok (.ret (.bool true)) ∧ OldK s.heap s'.heap ∧ s'.os = s.os ∧ AllBare s'.gens) s := by
  have rel := vals_ints hints
  have count := hints.length
  let ob : Obj := { cls := .type "list", data := .seq vs.toArray }
  have main : ∀ H : Hp, Only H → SqL K H a (ns.map V.int) → HOk P w H s.heap → (∀ b, H b ≠ none → b = a) → (H a ≠ none → K.lookup a = none) →
      codeAny (model P w) callerA (.call (.ref fa) ⟨[.ref a], []⟩) (fun r s' => r = .ok (.ret (.bool true)) ∧ OldK s.heap s'.heap ∧ s'.os = s.os ∧ AllBare s'.gens) s := by
    intro H only seq hok just notK
    let B := hidT s.heap H
    have noDict : ∀ {b : Addr} {o : Obj} {es : Array DictEntry} {ep : Nat}, s.heap.get? b = some o → o.data = .dict es ep → H b = none := fun {b o es ep} e d => by
      cases q : H b with
      | none => rfl
      | some _ =>
        obtain rfl : b = a := just b (by rw [q]; simp)
        rw [ha] at e
        cases e
        cases (show Data.seq vs.toArray _ = Data.dict es ep from d)
    have space : ∀ {b : Addr} {m : Str → Option Value}, s.heap.Ns b m → B.Ns b m := fun {b m} ⟨o, es, ep, e, d, r⟩ => ⟨o, es, ep, hidT_get e (noDict e d), d, r⟩
    have KB : K.In B := fun b o e => hidT_get (KX b o e) (by
      cases q : H b with
      | none => rfl
      | some _ =>
        obtain rfl : b = a := just b (by rw [q]; simp)
        rw [notK (by rw [q]; simp)] at e
        cases e)
    have M : Mod K mg B := ⟨KB, space gl, ⟨mb, space bl, boot⟩, let ⟨mc, h1, h2⟩ := free; ⟨mc, space h1, h2⟩⟩
    have e0 : Env0 P w K mg B callerA [] s H := ⟨rfl, M, fun b o e => of_hidT e, Nat.le_of_eq (hidT_size _ _), trivial, fun b hb => absurd (show b ∈ ([] : List Addr) from hb) List.not_mem_nil, hok, .of_eq gens⟩
    refine codeAny_mono (F B KB (space gl) s H (.ref a) (.ref a) _ e0 (bind s (.ref a)) rfl (hs H only seq)) fun r s' out => ?_
    cases r with
    | error e => exact False.elim out
    | ok fl =>
      cases fl with
      | next => exact False.elim out
      | brk => exact False.elim out
      | cont => exact False.elim out
      | ret u =>
        obtain ⟨v, H', os, bare, un, hok', rv, q⟩ := out
        obtain rfl : v = .bl true := q
        obtain rfl : u = Value.bool true := rv
        refine ⟨rfl, OldK.of_keep fun b o e => ?_, os, bare⟩
        cases q : H b with
        | none => exact un.keep b o e q (fun z => absurd (show b ∈ ([] : List Addr) from z) List.not_mem_nil) List.not_mem_nil
        | some _ =>
          rcases only b with z | ⟨o2, xs, z⟩
          · rw [q] at z
            cases z
          · obtain ⟨g1, _⟩ := hok b _ z
            obtain ⟨g2, _⟩ := hok' b _ (un.frzs b o2 _ z)
            rw [e] at g1
            cases g1
            exact g2
  cases lk : K.lookup a with
  | some o =>
    have e := KX a o lk
    rw [ha] at e
    cases e
    exact main (fun _ => none) (fun _ => .inl rfl) (.inr ⟨_, vs.toArray, _, lk, rfl, rfl, rfl, by rw [List.size_toArray, count]; exact short, by simpa using rel⟩) (fun b u z => nomatch (show (none : Option HO) = some u from z)) (fun b z => absurd rfl z) fun z => absurd rfl z
  | none =>
    let H1 : Hp := fun b => if b = a then some (.frz ob (.lst (ns.map V.int))) else none
    have atA : H1 a = some (.frz ob (.lst (ns.map V.int))) := if_pos rfl
    have offA : ∀ {b : Addr}, b ≠ a → H1 b = none := fun hb => if_neg hb
    refine main H1 (fun b => ?_) (.inl (.inr ⟨ob, atA⟩)) (fun b u z => ?_) (fun b z => ?_) fun _ => lk
    · by_cases hb : b = a
      · exact .inr ⟨_, _, by rw [hb]; exact atA⟩
      · exact .inl (offA hb)
    · by_cases hb : b = a
      · subst hb
        cases atA.symm.trans z
        exact ⟨ha, by rw [List.length_map]; exact short, vs, _, rel, ha⟩
      · exact nomatch (offA hb).symm.trans z
    · by_cases hb : b = a
      · exact hb
      · exact absurd (offA hb) z
theorem walk_law {l : PySem.W.OpenLaw} {n : Nat} {q : Program} {loose : List Str} {XP : (Str → Option Value) → Heap → Prop} {YP : World → Heap → Prop} {d : DefRec} {x : Str} (hn : l.most = some n) (hz : n ≤ sizeLine) (noDfl : d.params.defaults = [])
    (F : ∀ (w : World) (mg : Str → Option Value) (fa : Addr) (h : Heap), YP w h → h.Ns mainGlobals mg → mg d.name = some (.ref fa) → ∃ (K : PySem.W.Frag) (fd : FuncData) (sp : Sp), K.In h ∧ (∀ (s : Shared) (u : Value), BindsTo s fd ⟨[u], []⟩ [(x, u)]) ∧
      (∀ (H : Hp) (a : Addr) (ns : List Int), ns.length ≤ n → Only H → SqL K H a (ns.map V.int) → sp [.ref a] H (fun v _ => v = .bl true) fun _ _ _ => False) ∧
      ∀ base : Heap, K.In base → base.Ns mainGlobals mg → LawOk l.prog w K mg base fa fd x sp) :
    PySem.W.WalkO q loose XP YP l.row.toRowW d [] (fun f vs => PySem.call f vs) := by
  refine Att.attach_call hn noDfl fun w s₀ s₁ mg mb fa o pm cd doc a vs ns G Y ho hd hcd hmg hobj hints short gens => ?_
  obtain ⟨K, fd, sp, KX, bind, hs, hF⟩ := F w mg fa _ Y G.T.g hmg
  exact law_run KX G.T.g G.T.b G.T.builtins G.T.nolimit gens hobj hints (Nat.le_trans short hz) hF bind fun H only seq => hs H a ns short only seq
end V1

set_option maxHeartbeats 4000000
/-! V1e: what K00's files had in the namespace V1, for other laws -/
namespace V1
open PySem PySem.Spec PyProof.Rows L2
/-- the def that the module's name x stands for keeps sp -/
def Has (P : Program) (w : World) (K : PySem.W.Frag) (mg : Str → Option Value) (base : Heap) (CX : CXT) (k : Nat) (x : Str) (ps : List Str) (sp : Sp) : Prop :=
  ∃ fd, FnOk P w K mg base CX k (He.ga K x) fd ps sp ∧ Binds K fd ps [] ∧ PySem.W.keepIn K (.ref (He.ga K x)) = true ∧ mg x = some (.ref (He.ga K x))
theorem pe_has {X : Cx} {CX : CXT} {k : Nat} {x : Str} {ps : List Str} {sp : Sp} {E : XK} {e : Expr} {es : List Expr} {t : TA} {p pos : Pos} (h : Has X.prog X.w X.K X.mg X.base CX k x ps sp) (hr : Room k X.A) (hx : Passes CX X E) (ha : PA X (e :: es) t) (hg : Gl X x := by rfl)
    (hdb : (x == ("__debug__" : Str)) = false := by decide) (he : starEach (e :: es) X.env = (false, eval e X.env) :: starEach es X.env := by rfl) (hpl : (backTo pos (starEach es X.env)).any (·.1) = false := by rfl) :
    PE X (.Call (.Name x p) (e :: es) [] pos) (tCall sp [] E t) := by
  obtain ⟨fd, F, b, kp, g⟩ := h
  exact pe_call F hr hg g kp b .nil hx ha hdb he hpl
theorem pe_has0 {X : Cx} {CX : CXT} {k : Nat} {x : Str} {ps : List Str} {sp : Sp} {E : XK} {p pos : Pos} (h : Has X.prog X.w X.K X.mg X.base CX k x ps sp) (hr : Room k X.A) (hx : Passes CX X E) (hg : Gl X x := by rfl)
    (hdb : (x == ("__debug__" : Str)) = false := by decide) : PE X (.Call (.Name x p) [] [] pos) (tCall sp [] E tNil) := by
  obtain ⟨fd, F, b, kp, g⟩ := h
  exact pe_call0 F hr hg g kp b .nil hx hdb
theorem delH_upd {H : Hp} {a : Addr} {o : HO} : delH (upd H a o) a = delH H a := by
  funext b
  by_cases e : b = a
  · rw [e, delH_same, delH_same]
  · rw [delH_ne e, delH_ne e, upd_ne e]
theorem delH_updN {H : Hp} {a p : Addr} {o : HO} (h : p ≠ a) : delH (upd H p o) a = upd (delH H a) p o := by
  funext b
  by_cases e : b = a
  · rw [e, delH_same, upd_ne (Ne.symm h), delH_same]
  · rw [delH_ne e]
    by_cases z : b = p
    · rw [z, upd_same, upd_same]
    · rw [upd_ne z, upd_ne z, delH_ne e]
theorem same_new {H : Hp} {p : Addr} {o : HO} (h : H p = none) : Same H (upd H p o) := fun b x e => by
  rw [upd_ne (ne_of_none e h)]
  exact e
theorem same_delH {H : Hp} {a : Addr} : Same (delH H a) H := fun b o e => by
  by_cases z : b = a
  · rw [z, delH_same] at e
    cases e
  · rw [delH_ne z] at e
    exact e
theorem same_del {H H' : Hp} {a : Addr} (h : Same H H') : Same (delH H a) (delH H' a) := fun b o e => by
  by_cases z : b = a
  · rw [z, delH_same] at e
    cases e
  · rw [delH_ne z] at e ⊢
    exact h b o e
end V1
namespace V1
open PySem PySem.Spec PyProof.Rows L2
/-- [..], its place told not to be the table of modules -/
def tLstS (t : TA) : TE := fun σ H Q => t σ H fun xs H1 => xs.length ≤ sizeLine ∧ ∀ p, H1 p = none → (p == sysModules) = false → Q (.ref p) (upd H1 p (.lst xs))
theorem pe_lstS {X : Cx} {es : List Expr} {t : TA} {pos : Pos} (h : PA X es t) : PE X (.List es pos) (tLstS t) := by
  constructor
  intro pins s σ H Q I hq
  apply wpAny_List_spliced
  apply thn (h.run pos pins s σ H _ I hq)
  rintro us s1 ⟨xs, H1, J, rv, z, q⟩
  have lenU : us.length ≤ sizeLine := rv.length ▸ z
  refine ⟨lenU, .ref s1.heap.objs.size, _, ?_, rfl, q _ (J.hok.fresh (Nat.le_refl _)) (beq_eq_false_iff_ne.mpr (Nat.ne_of_gt J.big))⟩
  exact J.laid (o := .lst xs) (t' := s1.toks) (fun _ _ e => Heap.get?_push_of_some _ e) (Nat.le_refl _) ⟨z, us, 0, rv, Heap.get?_push_size _ rfl⟩
/-- the hand at a stands -/
def Held (H : Hp) (a : Addr) : Prop := ∃ o, H a = some o
theorem Held.same {H H' : Hp} {a : Addr} (h : Held H a) (s : Same H H') : Held H' a := let ⟨o, e⟩ := h; ⟨o, s _ _ e⟩
theorem Held.off {H H' : Hp} {a p : Addr} {o : HO} (h : Held H a) (n : H p = none) (e : H' p = some o) : (delH H' a) p = some o := by
  obtain ⟨u, hu⟩ := h
  rw [delH_ne (Ne.symm (ne_of_none hu n))]
  exact e
/-- te makes this data beside what stands at a -/
def Mk (te : TE) (σ : L2.St) (a : Addr) (d : PyData) : Prop := ∀ H, Held H a → ∀ Q : VK, (∀ v H', Same H H' → Dq (delH H' a) v d → Q v H') → te σ H Q
def MkA (ta : TA) (σ : L2.St) (a : Addr) (ds : List PyData) : Prop := ∀ H, Held H a → ∀ Q : List V → Hp → Prop, (∀ vs H', Same H H' → DqAll (delH H' a) vs ds → Q vs H') → ta σ H Q
section
variable {σ : L2.St} {a : Addr} {d : PyData} {ds : List PyData} {te : TE} {ta : TA}
theorem mk_non : Mk (tC .non) σ a .none := fun H _ _ k => k _ H (Same.refl H) .non
theorem mk_bl (b : Bool) : Mk (tC (.bl b)) σ a (.bool b) := fun H _ _ k => k _ H (Same.refl H) (.bl b)
theorem mk_int (i : Int) : Mk (tC (.int i)) σ a (.int i) := fun H _ _ k => k _ H (Same.refl H) (.int i)
theorem mk_str (x : Str) : Mk (tC (.str x)) σ a (.str x) := fun H _ _ k => k _ H (Same.refl H) (.str x)
theorem mka_nil : MkA tNil σ a [] := fun H _ _ k => k [] H (Same.refl H) .nil
theorem mka_cons (h : Mk te σ a d) (r : MkA ta σ a ds) : MkA (tCons te ta) σ a (d :: ds) := fun H hh _ k => h H hh _ fun v H1 s1 q1 => r H1 (hh.same s1) _ fun vs H2 s2 q2 => k (v :: vs) H2 (s1.trans s2) (.cons (Dq.same (same_del s2) d v q1) q2)
theorem dqAll_len {H : Hp} : ∀ {vs : List V} {ds : List PyData}, DqAll H vs ds → vs.length = ds.length
  | _, [], .nil => rfl
  | _, _ :: _, .cons _ m => congrArg (· + 1) (dqAll_len m)
theorem mk_tup (r : MkA ta σ a ds) (hz : ds.length ≤ 1000) : Mk (tTup ta) σ a (.tuple ds) := fun H hh _ k => r H hh _ fun vs H1 s1 q1 =>
  ⟨Nat.le_of_lt (small1000 (by rw [dqAll_len q1]; exact hz)), fun p n => k _ _ (s1.trans (same_new n)) (.tup ((hh.same s1).off n upd_same) (DqAll.same (same_del (same_new n)) ds vs q1))⟩
theorem mk_lst (r : MkA ta σ a ds) (hz : ds.length ≤ 1000) : Mk (tLstS ta) σ a (.list ds) := fun H hh _ k => r H hh _ fun vs H1 s1 q1 =>
  ⟨Nat.le_of_lt (small1000 (by rw [dqAll_len q1]; exact hz)), fun p n low => k _ _ (s1.trans (same_new n)) (.lst ((hh.same s1).off n upd_same) low (DqAll.same (same_del (same_new n)) ds vs q1))⟩
theorem mk_dict0 : Mk tDNewK σ a (.dict []) := fun H hh _ k p n => k _ _ (same_new n) (.dct (hh.off n upd_same) .nil)
/-- a written dict of one text key and an int -/
theorem mk_dict1 (x : Str) (i : Int) : Mk (tDisp [(tC (.str x), tC (.int i))]) σ a (.dict [(.str x, .int i)]) := fun H hh _ k p n =>
  ⟨upd_same, [(.inr x, .int i)], rfl, (by show 1 ≤ 15; decide), by
    rw [upd_upd]
    exact k _ _ (same_new n) (.dct (kvs := [(.inr x, .int i)]) (hh.off n upd_same) (.cons (k := .inr x) (.int i) .nil))⟩
theorem DqAll.get {H : Hp} : ∀ {vs : List V} {ds : List PyData} {j : Nat} {d : PyData}, DqAll H vs ds → ds[j]? = some d → ∃ v, vs[j]? = some v ∧ Dq H v d
  | _, _ :: _, 0, _, .cons one _, e => ⟨_, rfl, by
    obtain rfl := Option.some.inj e
    exact one⟩
  | _, _ :: _, j + 1, _, .cons _ more, e => DqAll.get (j := j) more e
/-- an item of a written list of data, its place from an int -/
theorem mk_pick {K : PySem.W.Frag} {ti : TE} {H : Hp} {Q : VK} {j : Nat} (r : MkA ta σ a ds) (hz : ds.length ≤ 1000) (hh : Held H a) (hi : ∀ H1, Same H H1 → ∀ Q : VK, Q (.int j) H1 → ti σ H1 Q) (hj : j < ds.length)
    (k : ∀ v H', Same H H' → Dq (delH H' a) v ds[j] → Q v H') : tOp (rIxL K) (tLstS ta) ti σ H Q := r H hh _ fun vs H1 s1 q1 =>
  ⟨Nat.le_of_lt (small1000 (by rw [dqAll_len q1]; exact hz)), fun p n _ => by
    obtain ⟨v, hv, dv⟩ := DqAll.get q1 (List.getElem?_eq_getElem hj)
    have s2 := s1.trans (same_new (o := .lst vs) n)
    exact hi _ s2 _ ⟨p, vs, j, v, rfl, rfl, .inl (.inl upd_same), atI_nat hv, k v _ s2 (Dq.same (same_del (same_new n)) _ v dv)⟩⟩
end
structure Good (d : PyData) (b n : Nat) : Prop where
  sh : d.showable = true
  dp : d.depth ≤ b
  ln : d.shown.length ≤ n
theorem Good.mono {d : PyData} {b n b' n' : Nat} (h : Good d b n) (h1 : b ≤ b') (h2 : n ≤ n') : Good d b' n' := ⟨h.sh, Nat.le_trans h.dp h1, Nat.le_trans h.ln h2⟩
theorem good_int {i : Int} (h0 : 0 ≤ i) (h : i < 10 ^ 6) : Good (.int i) 0 6 := by
  refine ⟨?_, Nat.le_refl _, toString_length_le h0 (by decide) h⟩
  have z : i.natAbs < 2 ^ 20 := by omega
  have e : i.natAbs.log2 < 1920 := by
    by_cases hz : i.natAbs = 0
    · rw [hz]
      decide
    · exact Nat.lt_trans ((Nat.log2_lt hz).mpr z) (by decide)
  simpa [PyData.showable] using e
theorem good_list2 {d e : PyData} {b c n m : Nat} (hd : Good d b n) (he : Good e c m) : Good (.list [d, e]) (max b c + 1) (n + m + 4) := by
  refine ⟨?_, ?_, ?_⟩
  · simp only [PyData.showable, PyData.showableAll, hd.sh, he.sh, Bool.and_self]
  · simp only [PyData.depth, PyData.depthAll]
    have h1 := hd.dp
    have h2 := he.dp
    omega
  · have q : (PyData.list [d, e]).shown = ((((Str.ofString "[" ++ Str.ofString "") ++ d.shown) ++ Str.ofString ", ") ++ e.shown) ++ Str.ofString "]" := by
      simp only [PyData.shown, PyData.shownAll]
      rfl
    rw [q]
    simp only [strLen_append]
    have h1 := hd.ln
    have h2 := he.ln
    have k1 : (Str.ofString "[").length = 1 := by decide
    have k2 : (Str.ofString "").length = 0 := by decide
    have k3 : (Str.ofString ", ").length = 2 := by decide
    have k4 : (Str.ofString "]").length = 1 := by decide
    omega
theorem good_tup2 {d e : PyData} {b c n m : Nat} (hd : Good d b n) (he : Good e c m) : Good (.tuple [d, e]) (max b c + 1) (n + m + 4) := by
  refine ⟨?_, ?_, ?_⟩
  · simp only [PyData.showable, PyData.showableAll, hd.sh, he.sh, Bool.and_self]
  · simp only [PyData.depth, PyData.depthAll]
    have h1 := hd.dp
    have h2 := he.dp
    omega
  · have q : (PyData.tuple [d, e]).shown = (Str.ofString "(" ++ Str.join ", " [d.shown, e.shown]) ++ Str.ofString ")" := by
      simp only [PyData.shown, PyData.shownAll]
      rfl
    rw [q]
    simp only [strLen_append]
    have h1 := hd.ln
    have h2 := he.ln
    have j := join_length_add [d.shown, e.shown] (by simp)
    have p : piled [d.shown, e.shown] = d.shown.length + 2 + (e.shown.length + 2) := by simp [piled]
    have k1 : (Str.ofString "(").length = 1 := by decide
    have k2 : (Str.ofString ")").length = 1 := by decide
    omega
end V1
namespace V1
open PySem PySem.Spec PyProof.Rows L2
/-- an exception's class, and its fields if it has some -/
abbrev Kd : Type := Addr × Option (List (Str × V))
inductive ExAll (H : Hp) : List V → List Kd → Prop
  | nil : ExAll H [] []
  | cons {a : Addr} {k : Kd} {vs : List V} {ks : List Kd} (one : IsEx H a k.1 k.2) (more : ExAll H vs ks) : ExAll H (.ref a :: vs) (k :: ks)
theorem ExAll.same {H H' : Hp} (e : Same H H') : ∀ {vs : List V} {ks : List Kd}, ExAll H vs ks → ExAll H' vs ks
  | _, _, .nil => .nil
  | _, _, .cons one more => .cons (one.same e) (more.same e)
theorem ExAll.len {H : Hp} : ∀ {vs : List V} {ks : List Kd}, ExAll H vs ks → vs.length = ks.length
  | _, _, .nil => rfl
  | _, _, .cons _ more => congrArg (· + 1) more.len
theorem ExAll.app {H : Hp} : ∀ {vs us : List V} {ks ls : List Kd}, ExAll H vs ks → ExAll H us ls → ExAll H (vs ++ us) (ks ++ ls)
  | _, _, _, _, .nil, h => h
  | _, _, _, _, .cons one more, h => .cons one (more.app h)
theorem ExAll.get {H : Hp} : ∀ {vs : List V} {ks : List Kd} {j : Nat} {k : Kd}, ExAll H vs ks → ks[j]? = some k → ∃ a, vs[j]? = some (.ref a) ∧ IsEx H a k.1 k.2
  | _, _, 0, _, .cons one _, e => ⟨_, rfl, by
    obtain rfl := Option.some.inj e
    exact one⟩
  | _, _, j + 1, _, .cons _ more, e => more.get (j := j) e
/-- te makes an exception of this kind -/
def MkE (te : TE) (σ : L2.St) (k : Kd) : Prop := ∀ (H : Hp) (Q : VK), (∀ a H', Same H H' → IsEx H' a k.1 k.2 → Q (.ref a) H') → te σ H Q
def MkEs (ta : TA) (σ : L2.St) (ks : List Kd) : Prop := ∀ (H : Hp) (Q : List V → Hp → Prop), (∀ vs H', Same H H' → ExAll H' vs ks → Q vs H') → ta σ H Q
section
variable {σ : L2.St} {k : Kd} {ks ls : List Kd} {te : TE} {ta tb : TA}
theorem mke_nil : MkEs tNil σ [] := fun H _ q => q [] H (Same.refl H) .nil
theorem mke_cons (h : MkE te σ k) (r : MkEs ta σ ks) : MkEs (tCons te ta) σ (k :: ks) := fun H _ q => h H _ fun a H1 s1 e1 => r H1 _ fun vs H2 s2 e2 => q _ H2 (s1.trans s2) (.cons (e1.same s2) e2)
theorem mke_bare (C : Addr) : MkE (tMk0 C) σ (C, none) := fun H _ q a n => q a _ (same_new n) upd_same
/-- a list of them -/
def MkEL (te : TE) (σ : L2.St) (ks : List Kd) : Prop := ∀ (H : Hp) (Q : VK), (∀ p vs H', Same H H' → H p = none → H' p = some (.lst vs) → ExAll H' vs ks → Q (.ref p) H') → te σ H Q
theorem fresh_up {H H' : Hp} {p : Addr} (s : Same H H') (n : H' p = none) : H p = none := by
  cases e : H p with
  | none => rfl
  | some o =>
    rw [s p o e] at n
    cases n
theorem mkel_lst (r : MkEs ta σ ks) (hz : ks.length ≤ 1000) : MkEL (tLst ta) σ ks := fun H _ q => r H _ fun vs H1 s1 e1 =>
  ⟨Nat.le_of_lt (small1000 (by rw [e1.len]; exact hz)), fun p n => q p vs _ (s1.trans (same_new n)) (fresh_up s1 n) upd_same (e1.same (same_new n))⟩
theorem mkel_go {H : Hp} {Q : VK} (r : MkEs ta σ ks) (hz : ks.length ≤ 1000) (q : ∀ p vs H', Same H H' → H p = none → H' p = some (.lst vs) → ExAll H' vs ks → Q (.ref p) H') : tLst ta σ H Q := mkel_lst r hz H Q q
theorem q_mkel {H : Hp} {D : Ends} {tz : TS} {i : Nat} (r : MkEs ta σ ks) (hz : ks.length ≤ 1000) (k : ∀ p vs H', Same H H' → H p = none → H' p = some (.lst vs) → ExAll H' vs ks → tz D (σ.set i (some (.ref p))) H') :
    tSeq (tAsg (tLst ta) (gName i)) tz D σ H := by
  show tLst ta σ H fun v H' => tz D (σ.set i (some v)) H'
  exact mkel_lst r hz H _ k
/-- a list of what is told wherever G holds -/
def Bs (ta : TA) (σ : L2.St) (G : Hp → Prop) (vs : List V) : Prop := ∀ H, G H → ∀ Q : List V → Hp → Prop, Q vs H → ta σ H Q
theorem bs_nil {G : Hp → Prop} : Bs tNil σ G [] := fun H _ _ q => q
theorem bs_cons {G : Hp → Prop} {v : V} {vs : List V} (h : ∀ H, G H → ∀ Q : VK, Q v H → te σ H Q) (r : Bs ta σ G vs) : Bs (tCons te ta) σ G (v :: vs) := fun H g _ q => h H g _ (r H g _ q)
theorem q_bs {H : Hp} {D : Ends} {tz : TS} {i : Nat} {G : Hp → Prop} {vs : List V} (b : Bs ta σ G vs) (g : G H) (hz : vs.length ≤ 1000) (k : ∀ p H', Same H H' → H p = none → H' p = some (.lst vs) → tz D (σ.set i (some (.ref p))) H') :
    tSeq (tAsg (tLst ta) (gName i)) tz D σ H := by
  show tLst ta σ H fun v H' => tz D (σ.set i (some v)) H'
  exact b H g _ ⟨Nat.le_of_lt (small1000 hz), fun p n => k p _ (same_new n) n upd_same⟩
theorem r_bs {H : Hp} {Q : VK} {G : Hp → Prop} {vs : List V} (b : Bs ta σ G vs) (g : G H) (hz : vs.length ≤ 1000) (k : ∀ p H', Same H H' → H p = none → H' p = some (.lst vs) → Q (.ref p) H') : tLst ta σ H Q := b H g _ ⟨Nat.le_of_lt (small1000 hz), fun p n => k p _ (same_new n) n upd_same⟩
theorem cat_go {H : Hp} {Q : VK} {x y : Addr} {xs ys : List V} (hx : H x = some (.lst xs)) (hy : H y = some (.lst ys)) (hz : xs.length + ys.length ≤ 1000) (k : ∀ p H', Same H H' → H p = none → H' p = some (.lst (xs ++ ys)) → Q (.ref p) H') : rCat (.ref x) (.ref y) H Q :=
  ⟨x, y, xs, ys, rfl, rfl, hx, hy, Nat.le_of_lt (small1000 hz), fun p n => k p _ (same_new n) n upd_same⟩
theorem mkel_cat {t1 t2 : TE} (h1 : MkEL t1 σ ks) (h2 : MkEL t2 σ ls) (hz : ks.length + ls.length ≤ 1000) : MkEL (tOp rCat t1 t2) σ (ks ++ ls) := fun H _ q => h1 H _ fun p vs H1 s1 _ e1 x1 => h2 H1 _ fun p2 us H2 s2 _ e2 x2 =>
  ⟨p, p2, vs, us, rfl, rfl, s2 _ _ e1, e2, Nat.le_of_lt (small1000 (by rw [x1.len, x2.len]; exact hz)), fun p3 n => q p3 _ _ ((s1.trans s2).trans (same_new n)) (fresh_up (s1.trans s2) n) upd_same (((x1.same s2).app x2).same (same_new n))⟩
theorem mkel_var {i : Nat} {p : Addr} {vs : List V} {H0 : Hp} (h0 : σ[i]? = some (some (.ref p))) (e : H0 p = some (.lst vs)) (x : ExAll H0 vs ks) : ∀ (H : Hp), Same H0 H → ∀ Q : VK, (∀ H', Same H H' → H' p = some (.lst vs) → ExAll H' vs ks → Q (.ref p) H') → tVar i σ H Q :=
  fun H s Q q => ⟨_, h0, q H (Same.refl H) (s _ _ e) (x.same s)⟩
end
/-- __init__(self, f): self.f = f -/
def spIni (K : PySem.W.Frag) (C : Addr) (f : Str) : Sp := fun vs H Q _ => ∃ (a : Addr) (v : V), vs = [.ref a, v] ∧ H a = some (exo a C none) ∧ ∀ dx, H dx = none → dx ≠ a → Q .non (upd (upd H dx (exd dx [(f, v)])) a (exo a C (some dx)))
theorem mke_field {K : PySem.W.Frag} {σ : L2.St} {C : Addr} {f : Str} {v : V} {ta : TA} (ha : ∀ (H : Hp) (Q : List V → Hp → Prop), Q [v] H → ta σ H Q) : MkE (tMkV C (spIni K C f) [] ta) σ (C, some [(f, v)]) := fun H _ q => ha H _
  ⟨by show 1 ≤ 1000; decide, fun a n => ⟨a, v, rfl, upd_same, fun dx nd ne => by
    have nd' : H dx = none := by
      rw [upd_ne ne] at nd
      exact nd
    refine ⟨rfl, q a _ (fun b o e => ?_) ⟨dx, upd_same, ?_⟩⟩
    · rw [upd_ne (ne_of_none e n), upd_ne (ne_of_none e nd'), upd_ne (ne_of_none e n)]
      exact e
    · rw [upd_ne ne, upd_same]⟩⟩
end V1
namespace V1
open PySem PySem.Spec PyProof.Rows L2
theorem wCl_take {K : PySem.W.Frag} {W : WX} {D : Ends} {c cls : Value} {o : Option Nat} {ts : Addr → Value → Option Addr → TS} {l : List Cl} {d : Option Addr} {σ : L2.St} {H : Hp} (h : PySem.W.exmOne K cls c = some true) (k : ∀ a, H a = none → suiteD D a cls d ts σ H o) :
    wCl K W D ((c, o, ts) :: l) cls d σ H := ⟨true, h, fun _ => k, (fun z => nomatch z)⟩
theorem wCl_skip {K : PySem.W.Frag} {W : WX} {D : Ends} {c cls : Value} {o : Option Nat} {ts : Addr → Value → Option Addr → TS} {l : List Cl} {d : Option Addr} {σ : L2.St} {H : Hp} (h : PySem.W.exmOne K cls c = some false) (k : wCl K W D l cls d σ H) :
    wCl K W D ((c, o, ts) :: l) cls d σ H := ⟨false, h, (fun z => nomatch z), fun _ => k⟩
/-- raise C(e), C's __init__ keeping its one field -/
theorem raise_go {K : PySem.W.Frag} {σ : L2.St} {H : Hp} {C : Addr} {f : Str} {v : V} {ta : TA} {Q : XK} (ha : ∀ Q : List V → Hp → Prop, Q [v] H → ta σ H Q) (k : ∀ d H', H d = none → Same H H' → H' d = some (.xd [(f, v)]) → Q (.ref C) (some d) H') :
    tMkO C (spIni K C f) [] ta σ H Q := ha _ ⟨by show 1 ≤ 1000; decide, fun a n => ⟨a, v, rfl, upd_same, fun dx nd ne => by
  have nd' : H dx = none := by
    rw [upd_ne ne] at nd
    exact nd
  refine ⟨rfl, dx, [(f, v)], upd_same, ?_, nd', k dx _ nd' (fun b o e => ?_) upd_same⟩
  · rw [upd_ne ne, upd_same]
  · rw [upd_ne (ne_of_none e nd'), del_ne (ne_of_none e n), upd_ne (ne_of_none e n), upd_ne (ne_of_none e nd'), upd_ne (ne_of_none e n)]
    exact e⟩⟩
end V1

set_option maxHeartbeats 4000000
/-! V2: for i, x in enumerate(tuple) -/
namespace V2
open PySem PySem.Spec PyProof.Rows L2 V1
open AutoSeq1 (wpAny_loadPart')
theorem enum_tup_new (t : Addr) (items : Array Value) :
    Meets (Builtin.«enumerate.__new__» ⟨[.type "enumerate", .ref t], []⟩) (fun _ R s => s.heap.IsTuple t items ∧
      R (.ok (.ret (.ref (s.heap.objs.size + 1))))
        { s with heap := (s.heap.push { cls := .type "tuple_iterator", data := .fields #[.ref t, .int 0 0] }).push { cls := .type "enumerate", data := .fields #[.none, .bool false, .ref s.heap.objs.size, rawInt 0, .none, .none] } }) :=
  .of_wp fun prog w A R s hh => by
    obtain ⟨hp, g, d, tk, os⟩ := s
    obtain ⟨ht, go⟩ := hh
    have sub := sub_enumerate
    have size : (hp.push { cls := .type "tuple_iterator", data := .fields #[.ref t, .int 0 0] }).objs.size = hp.objs.size + 1 := Heap.size_push ..
    rw [← size] at go
    have begin_ : ∀ {A' : Around} {E : Value → Shared → Prop} {Q : Value → Shared → Prop}, Q (.ref hp.objs.size) ⟨hp.push { cls := .type "tuple_iterator", data := .fields #[.ref t, .int 0 0] }, g, d, tk, os⟩ →
        wpAny (model prog w) A' (pyIter (.ref t)) Q E ⟨hp, g, d, tk, os⟩ := fun q => (begins_tuple t items).iter prog w _ _ ⟨hp, g, d, tk, os⟩ _ ht q
    wp_walk using begin_
    refine wpAny_stack_any fun st => wpAny_pure ?_
    split
    · rename_i c _ _ _ _ _
      cases (c == Value.type "enumerate")
      all_goals
        wp_walk using begin_
        exact ⟨_, rfl, go⟩
    · wp_walk using begin_
      exact ⟨_, rfl, go⟩
section
variable {prog : Program} {w : World} {A : Around} {E : Value → Shared → Prop} {s : Shared}
theorem enum_tup {t : Addr} {items : Array Value} {Q : Value → Shared → Prop} (ht : s.heap.IsTuple t items)
    (k : ∀ h', IsEnum h' (s.heap.objs.size + 1) s.heap.objs.size 0 .none → h'.IsTupleIter s.heap.objs.size t 0 → (∀ b o, s.heap.get? b = some o → h'.get? b = some o) → Q (.ref (s.heap.objs.size + 1)) { s with heap := h' }) :
    wpAny (model prog w) A (call (.type "enumerate") [.ref t]) Q E s := by
  refine callType_new F.called_enumerate (by decide) (F.typeCall_enumerate_1 _) (F.newCall_enumerate_1 _) (fun obj => F.args_object_init_2 obj _) F.entry_enumerate_new (enum_tup_new t items) ⟨ht, ?_⟩
  let itO : Obj := { cls := .type "tuple_iterator", data := .fields #[.ref t, .int 0 0] }
  let enO : Obj := { cls := .type "enumerate", data := .fields #[.none, .bool false, .ref s.heap.objs.size, rawInt 0, .none, .none] }
  have size : (s.heap.push itO).objs.size = s.heap.objs.size + 1 := Heap.size_push ..
  have en : ((s.heap.push itO).push enO).get? (s.heap.objs.size + 1) = some enO := by
    have z := Heap.get?_push_size (s.heap.push itO) (o := enO) rfl
    rwa [size] at z
  have old : ∀ b o, s.heap.get? b = some o → ((s.heap.push itO).push enO).get? b = some o := fun b o e => Heap.get?_push_of_some _ (Heap.get?_push_of_some _ e)
  exact ⟨⟨_, en, rfl⟩, k _ en ⟨itO, Heap.get?_push_of_some _ (Heap.get?_push_size _ rfl), rfl, rfl⟩ old⟩
end
theorem draws_end {prog : Program} {w : World} {A : Around} (hh : A.handled = none) (it t : Addr) (items : Array Value) (i : Nat) (hx : items[i]? = none) :
    Draws prog w A it [it, t] i (fun _ _ => True) (fun j h => j = i ∧ h.IsTupleIter it t i ∧ h.IsTuple t items) where
  live := fun _ _ st => let ⟨o, ho, _⟩ := st.2.1; ⟨o, ho⟩
  frame := fun _ _ _ st hk => ⟨st.1, st.2.1.at fun o e => hk it (List.mem_cons_self ..) o e, st.2.2.at fun o e => hk t (List.mem_cons_of_mem _ (List.mem_singleton.mpr rfl)) o e⟩
  item := fun j s Q E hj st _ => absurd st.1 (Nat.ne_of_lt hj)
  done := fun s Q E st hE => wpAny_nextOf_tuple_end hh st.2.1 st.2.2 hx hE
/-- the tuple at a, each item in a new pair with its place -/
def Itu (K : PySem.W.Frag) (a : Addr) : It :=
  ⟨fun i H => ∃ (xs : List V) (x : V), SqT K H a xs ∧ xs[i]? = some x, fun i H v H' => ∃ T x, v = .ref T ∧ H T = none ∧ H' = upd H T (.tup [.int (i : Nat), x]) ∧ ∀ xs, SqT K H a xs → xs[i]? = some x, fun i H => ∃ xs : List V, SqT K H a xs ∧ xs.length ≤ i⟩
theorem turn_enumT {P : Program} {w : World} {K : PySem.W.Frag} {elts : List Expr} {kk : Nat} {tpos : Pos} (a e it : Addr) :
    Turn P w K (.Tuple elts kk tpos) (Itu K a) [e, it] e (fun i h => (∃ old, IsEnum h e it ((i : Nat) : Int) old) ∧ h.IsTupleIter it a i ∧ e ≠ it) where
  mem := List.mem_cons_self ..
  obj := fun i h st b hb => by
    obtain ⟨⟨old, he⟩, ⟨o, ho, hc, hd⟩, _⟩ := st
    rcases List.mem_cons.mp hb with rfl | hb
    · exact ⟨_, he, fun v q => nomatch q⟩
    · obtain rfl := List.mem_singleton.mp hb
      exact ⟨o, ho, fun v q => by rw [hd] at q; cases q⟩
  keep := fun i h h' st k => let ⟨⟨old, he⟩, hi, hne⟩ := st; ⟨⟨old, k e (List.mem_cons_self ..) _ he⟩, hi.at fun o q => k it (List.mem_cons_of_mem _ (List.mem_singleton.mpr rfl)) o q, hne⟩
  item := by
    intro X hP hw hK hc i pins s σ H E I free st hg
    subst hP hw hK
    obtain ⟨⟨old, he⟩, hit, hne⟩ := st
    obtain ⟨xs, x, hq, hx⟩ := hg
    obtain ⟨its, rv, tup, hz⟩ := I.tuple hq
    obtain ⟨u, hu, ru⟩ := rv.get hx
    have len := rv.length
    have il : i < its.length := by
      obtain ⟨l, _⟩ := List.getElem?_eq_some_iff.mp hu
      exact l
    have off : a ≠ it := by
      rintro rfl
      obtain ⟨o1, e1, c1, n1, d1⟩ := tup
      obtain ⟨o2, e2, c2, d2⟩ := hit
      rw [e1] at e2
      cases e2
      rw [d1] at d2
      cases d2
    refine wpAny_pyNext_enum_itemD (n := its.toArray.size) (Draws.tuple (show X.A.in1.handled = none from I.ok.hd hc) it a off its.toArray) he (And.intro hit tup) (by simpa using il) hne (fun z => ?_) fun y h1 tk hy out st1 new size old1 => ?_
    · rcases List.mem_cons.mp z with z | z
      · exact hne z
      · obtain rfl := List.mem_singleton.mp z
        obtain ⟨o1, e1, c1, n1, d1⟩ := tup
        rw [he] at e1
        cases e1
        cases d1
    have ey : y = u := by
      have z : its.toArray[i]? = some u := by simpa using hu
      exact Option.some.inj (hy.symm.trans z)
    subst ey
    refine ⟨_, rfl, wpAny_letOwnedTupleGo_enum (s := { s with heap := h1, toks := tk + 1 }) out fun h2 he2 sb => ?_⟩
    have lt : e < s.heap.objs.size := Heap.lt_size he
    have T2 : h2.get? s.heap.objs.size = some { cls := .type "tuple", data := .seq #[.int i tk, y] } := (sb.2 _ (Nat.ne_of_gt lt)).trans new
    have ob : ObjOk X.prog X.w (upd H s.heap.objs.size (.tup [.int (i : Nat), x])) h2 s.heap.objs.size (.tup [.int (i : Nat), x]) :=
      ⟨by show 2 ≤ sizeLine; decide, [.int i tk, y], .cons ⟨_, rfl⟩ (.cons ru .nil), _, T2, rfl, _, rfl⟩
    have J : Inv X pins σ (upd H s.heap.objs.size (.tup [.int (i : Nat), x])) { s with heap := h2, toks := tk + 1 } :=
      I.turnedNew (ch := [e, it]) (fun b o hb q => (sb.2 b fun z => hb (by simp [z])).trans (old1 b o (fun z => hb (by simp [z])) (fun z => hb (by simp [z])) q)) free (Nat.le_refl _) ob
    refine ⟨.ref s.heap.objs.size, _, J, rfl, ⟨_, x, rfl, I.hok.fresh (Nat.le_refl _), rfl, fun ys hy => by rw [I.tuple_inj hy hq]; exact hx⟩, ⟨⟨y, ?_⟩, st1.1.at fun o q => (sb.2 it (Ne.symm hne)).trans q, hne⟩, fun b hb => ?_⟩
    · rw [show ((i + 1 : Nat) : Int) = (i : Int) + 1 by omega]
      exact he2
    · have z : b < s.heap.objs.size := by
        rcases List.mem_cons.mp hb with rfl | hb
        · exact lt
        · obtain rfl := List.mem_singleton.mp hb
          obtain ⟨_, q, _⟩ := hit
          exact Heap.lt_size q
      rw [upd_ne (Nat.ne_of_lt z)]
      exact (free b hb).1
  done := by
    intro X hP hw hK hc i pins s σ H E I free st hg
    subst hP hw hK
    obtain ⟨⟨old, he⟩, hit, hne⟩ := st
    obtain ⟨xs, hq, hx⟩ := hg
    obtain ⟨its, rv, tup, hz⟩ := I.tuple hq
    obtain ⟨f0, f1, f2, f3, f4, f5⟩ := free it (List.mem_cons_of_mem _ (List.mem_singleton.mpr rfl))
    have len := rv.length
    have none_ : its.toArray[i]? = none := by simp; omega
    exact wpAny_pyNext_enum_endD (draws_end (show X.A.in1.handled = none from I.ok.hd hc) it a its.toArray i none_) he ⟨rfl, hit, tup⟩ fun h' eb => ⟨rfl, I.turned (t' := s.toks) (fun b o hb q => eb b o hb q) f0 f1 f3 f4 f5⟩
  self := fun A i s Q E st h => let ⟨⟨_, he⟩, _⟩ := st; wpAny_pyIter_enum he h
def iEnumT (K : PySem.W.Frag) (ta : TA) : TI := fun σ H R => ta σ H fun vs H1 => ∃ a xs, vs = [.ref a] ∧ SqT K H1 a xs ∧ R (Itu K a) H1
theorem pi_enumT {X : Cx} {e : Expr} {ta : TA} {p pos tpos : Pos} {elts : List Expr} {kk : Nat} (hg : Gl X "enumerate") (hm : X.mg "enumerate" = none) (ha : PA X [e] ta) (hs : starEach [e] X.env = [(false, eval e X.env)] := by rfl) :
    PI X (.Tuple elts kk tpos) (.Call (.Name "enumerate" p) [e] [] pos) (iEnumT X.K ta) := by
  constructor
  intro pins s σ H R I h
  refine Call_ (ld_blt I hg hm boot_enumerate (PyProof.Rows.callWith_type1 (thn (ha.run pos pins s σ H _ I h) ?_) hs rfl))
  rintro us s1 ⟨_, H1, J, rv, a, xs, rfl, hq, go⟩
  cases rv with
  | cons r more =>
    cases more
    cases r
    obtain ⟨its, rv2, tup, hz⟩ := J.tuple hq
    refine enum_tup tup fun h' he hit old => wpAny_pyIter_enum he ?_
    refine ⟨s1.heap.objs.size + 1, [s1.heap.objs.size + 1, s1.heap.objs.size], _, _, H1, rfl, J.kept (t' := s1.toks) old, turn_enumT a (s1.heap.objs.size + 1) s1.heap.objs.size, ⟨⟨.none, he⟩, hit, Nat.succ_ne_self _⟩, fun b hb => ?_, go⟩
    have le : s1.heap.objs.size ≤ b := by
      rcases List.mem_cons.mp hb with rfl | hb
      · exact Nat.le_succ _
      · exact Nat.le_of_eq (List.mem_singleton.mp hb).symm
    exact J.fpOk le (J.hok.fresh le)
theorem walk_enumT {K : PySem.W.Frag} {a : Addr} {xs : List V} : Walk (Itu K a) xs.length (fun H => SqT K H a xs) (YPair (fun i => some (.int (i : Nat))) (fun i => xs[i]?)) :=
  ⟨fun i _ hi q => ⟨xs, xs[i], q, List.getElem?_eq_getElem hi⟩, fun _ q => ⟨xs, q, Nat.le_refl _⟩, fun i _ _ _ _ q y => let ⟨T, x, h1, h2, h3, h4⟩ := y; ⟨T, .int (i : Nat), x, h1, h2, h3, rfl, h4 xs q⟩⟩
end V2

set_option maxHeartbeats 4000000
/-! V2: data asked for its kind; data as the library's; in, == over data -/
namespace V2
open PySem PySem.Spec PyProof.Rows L2 V1
def tyName : PyData → String
  | .none => "NoneType"
  | .bool _ => "bool"
  | .int _ => "int"
  | .str _ => "str"
  | .list _ => "list"
  | .tuple _ => "tuple"
  | .dict _ => "dict"
theorem dq_ty {K : PySem.W.Frag} {H : Hp} {v : V} {d : PyData} (h : Dq H v d) : TyX K H v (.type (tyName d)) := by
  cases h with
  | non => exact .base .non
  | bl b => exact .base (.bl b)
  | int i => exact .base (.int i)
  | str x => exact .base (.str x)
  | lst e _ _ => exact .base (.lst e)
  | tup e _ => exact .base (.tup e)
  | dct e _ => exact .base (.dK e)
def isInt : PyData → Bool
  | .int _ => true
  | _ => false
def isBool : PyData → Bool
  | .bool _ => true
  | _ => false
def isStr : PyData → Bool
  | .str _ => true
  | _ => false
def isTup : PyData → Bool
  | .tuple _ => true
  | _ => false
def isLst : PyData → Bool
  | .list _ => true
  | _ => false
theorem kit_int (d : PyData) : kitB (tyName d) "int" = some (isInt d || isBool d) := by cases d <;> kernel_rfl
theorem kit_bool (d : PyData) : kitB (tyName d) "bool" = some (isBool d) := by cases d <;> kernel_rfl
theorem kit_str (d : PyData) : kitB (tyName d) "str" = some (isStr d) := by cases d <;> kernel_rfl
theorem kit_tup (d : PyData) : kitB (tyName d) "tuple" = some (isTup d) := by cases d <;> kernel_rfl
theorem kit_lst (d : PyData) : kitB (tyName d) "list" = some (isLst d) := by cases d <;> kernel_rfl
section
variable {K : PySem.W.Frag} {σ : L2.St} {H : Hp} {Q : VK} {te : TE} {v : V} {d : PyData} {n : String} {b : Bool}
theorem isi_go (hb : kitB (tyName d) n = some b) (ht : ∀ Q : VK, Q v H → te σ H Q) (hd : Dq H v d) (q : Q (.bl b) H) : tCB (rIsi K) (tCons te (tCons (tC (.ty n)) tNil)) σ H Q :=
  ht _ ⟨v, .ty n, _, _, b, rfl, .ty n, dq_ty hd, kit_ty hb, q⟩
/-- isinstance(x, (tuple, list)) -/
theorem isiT_go {n1 n2 : String} (hb : PySem.W.kitAny K (.type (tyName d)) [.type n1, .type n2] = some b) (ht : ∀ Q : VK, Q v H → te σ H Q) (hd : Dq H v d) (q : ∀ p, H p = none → Q (.bl b) (upd H p (.tup [.ty n1, .ty n2]))) :
    tCB (rIsiT K) (tCons te (tCons (tTup (tCons (tC (.ty n1)) (tCons (tC (.ty n2)) tNil))) tNil)) σ H Q :=
  ht _ ⟨(by show 2 ≤ sizeLine; decide), fun p np => ⟨v, p, _, _, _, b, rfl, upd_same, .cons (.ty n1) (.cons (.ty n2) .nil), dq_ty (Dq.same (same_new np) d v hd), hb, q p np⟩⟩
theorem kit_tl (d : PyData) : PySem.W.kitAny K (.type (tyName d)) [.type "tuple", .type "list"] = some (isTup d || isLst d) := by
  have h1 := kit_ty (K := K) (kit_tup d)
  have h2 := kit_ty (K := K) (kit_lst d)
  show (match PySem.W.kitOne K (.type (tyName d)) (.type "tuple") with
    | some true => some true
    | some false => (match PySem.W.kitOne K (.type (tyName d)) (.type "list") with
      | some true => some true
      | some false => some false
      | none => none)
    | none => none) = _
  rw [h1, h2]
  cases isTup d <;> cases isLst d <;> rfl
end
/-! data without dicts, as the library's == and in read it -/
mutual
def plain : PyData → Bool
  | .none | .bool _ | .int _ | .str _ => true
  | .list xs | .tuple xs => plainAll xs
  | .dict _ => false
def plainAll : List PyData → Bool
  | [] => true
  | x :: xs => plain x && plainAll xs
end
section
variable {K : PySem.W.Frag} {H : Hp}
mutual
theorem dq_dp : ∀ (d : PyData) (v : V), plain d = true → Dq H v d → Dp K H v d
  | .none, _, _, h => by cases h; exact .non
  | .bool b, _, _, h => by cases h; exact .bl b
  | .int i, _, _, h => by cases h; exact .int i
  | .str x, _, _, h => by cases h; exact .str x
  | .list ds, _, p, h => by
    cases h with
    | lst e _ r => exact .lst (.inl (.inl e)) (dqAll_dp ds _ (by simpa [plain] using p) r)
  | .tuple ds, _, p, h => by
    cases h with
    | tup e r => exact .tup (.inl (.inl e)) (dqAll_dp ds _ (by simpa [plain] using p) r)
  | .dict _, _, p, _ => by simp [plain] at p
theorem dqAll_dp : ∀ (ds : List PyData) (vs : List V), plainAll ds = true → DqAll H vs ds → DpAll K H vs ds
  | [], _, _, h => by cases h; exact .nil
  | d :: ds, _, p, h => by
    cases h with
    | cons one more =>
      have p' : plain d = true ∧ plainAll ds = true := by simpa [plainAll] using p
      exact .cons (dq_dp d _ p'.1 one) (dqAll_dp ds _ p'.2 more)
end
end
/-- x in t, t a tuple of data -/
def rInT (K : PySem.W.Frag) (neg : Bool) : R2 := fun x y H Q => ∃ d ds, Dp K H x d ∧ Dp K H y (.tuple ds) ∧ SeqAt.shaped d = true ∧ SeqAt.shaped (.tuple ds) = true ∧ Q (.bl (neg.xor (ds.any fun z => PyData.eqv z d))) H
section
variable {X : Cx}
theorem op_inT (hu : X.A.units + 70 < cLine) : OpR X (compareOp .In) (rInT X.K false) := by
  rintro pins s σ H x y v u Q I rx ry ⟨d, ds, hd, he, sd, se, q⟩
  obtain ⟨as, r1⟩ := Dp.reads I d x v hd rx
  obtain ⟨bs, r2⟩ := Dp.reads I (.tuple ds) y u he ry
  have dep : d.depth ≤ 64 := by
    have z : (d.canLay0 && decide (d.depth ≤ 64)) = true := sd
    simp only [Bool.and_eq_true, decide_eq_true_eq] at z
    exact z.2
  exact SeqAt.in_tuple_reads r2 r1 (by simpa [PyData.canLay0] using SeqAt.canLay_of_shaped se) (SeqAt.canLay_of_shaped sd) (by omega) ⟨.bl _, H, I, rfl, by simpa using q⟩
theorem op_notInT (hu : X.A.units + 70 < cLine) : OpR X (compareOp .NotIn) (rInT X.K true) := by
  rintro pins s σ H x y v u Q I rx ry ⟨d, ds, hd, he, sd, se, q⟩
  obtain ⟨as, r1⟩ := Dp.reads I d x v hd rx
  obtain ⟨bs, r2⟩ := Dp.reads I (.tuple ds) y u he ry
  have dep : d.depth ≤ 64 := by
    have z : (d.canLay0 && decide (d.depth ≤ 64)) = true := sd
    simp only [Bool.and_eq_true, decide_eq_true_eq] at z
    exact z.2
  exact SeqAt.notIn_tuple_reads r2 r1 (by simpa [PyData.canLay0] using SeqAt.canLay_of_shaped se) (SeqAt.canLay_of_shaped sd) (by omega) ⟨.bl _, H, I, rfl, by simpa using q⟩
end
end V2

set_option maxHeartbeats 4000000
/-! V2c: exceptions of one field; the own == -/
namespace V2
open PySem PySem.Spec PyProof.Rows L2 V1
open Evl (pss_cut tCut sq_of st_of)
section
variable {P : Program} {w : World} {K : PySem.W.Frag} {mg : Str → Option Value} {base : Heap}
theorem ok_init {name qual : Str} {params : Arguments} {body : List Stmt} {scope : Scope} {C fI : Addr} {fd : FuncData} {f : Str} {p1 p2 p3 p4 : Pos} (F : FunD K name qual params body scope [] [] fI fd) (S : FnScope ["self", f] ["self", f] scope)
    (hb : body = [.Assign [.Attribute (.Name "self" p1) f p2] (.Name f p3) p4]) (hC : OexC K C) (no : PySem.W.findIn K (.ref C) f = some none) (hf : (f == ("__debug__" : Str)) = false) (hf2 : (f == ("__classdict__" : Str)) = false)
    (v0 : Vis scope "self") (v1 : Vis scope f) (sw : ∀ env : Env, swapsWith (.Name f p3) (some (.Attribute (.Name "self" p1) f p2)) p4.line env = pure false) : FnOk P w K mg base CX0 1 fI fd ["self", f] (spIni K C f) := by
  subst hb
  refine F.ok S (fun vs H Q E h => ?_) (fun cdv A outer s H vs Q E hr h => ?_)
  · obtain ⟨a, v, rfl, _⟩ := h
    rfl
  · refine ⟨_, PSs.nox (pss_one (ps_ost (pe_var (i := 0) rfl v0) (pe_var (i := 1) rfl v1 hf hf2) (sw _))), ?_⟩
    obtain ⟨a, v, rfl, e, hQ⟩ := h
    exact ⟨v, rfl, _, rfl, a, C, rfl, hC, no, .inl ⟨e, fun dx n ne => hQ dx n ne⟩⟩
structure Fld (P : Program) (w : World) (K : PySem.W.Frag) (mg : Str → Option Value) (base : Heap) (x f : Str) : Prop where
  gC : mg x = some (.ref (He.ga K x))
  oex : OexC K (He.ga K x)
  no : PySem.W.findIn K (.ref (He.ga K x)) f = some none
  init : ∃ fI fd, PySem.W.findIn K (.ref (He.ga K x)) "__init__" = some (some (.ref fI)) ∧ PySem.W.typeIn K (.ref fI) = some (.type "function") ∧ FnOk P w K mg base CX0 1 fI fd ["self", f] (spIni K (He.ga K x) f) ∧ Binds K fd ["self", f] []
theorem pe_fld {X : Cx} {x f : Str} {e : Expr} {es : List Expr} {ta : TA} {p pos : Pos} (h : Fld X.prog X.w X.K X.mg X.base x f) (hr : Room 2 X.A) (ha : PA X (e :: es) ta) (hg : Gl X x := by rfl) (hdb : (x == ("__debug__" : Str)) = false := by decide)
    (he : starEach (e :: es) X.env = (false, eval e X.env) :: starEach es X.env := by rfl) (hpl : (backTo pos (starEach es X.env)).any (·.1) = false := by rfl) :
    PE X (.Call (.Name x p) (e :: es) [] pos) (tMkV (He.ga X.K x) (spIni X.K (He.ga X.K x) f) [] ta) := by
  obtain ⟨fI, fd, h1, h2, h3, h4⟩ := h.init
  exact pe_mkV h.oex h1 h2 h3 hr h4 .nil pass0 hg h.gC ha hdb he hpl
theorem pmk_fld {X : Cx} {x f : Str} {e : Expr} {es : List Expr} {ta : TA} {p pos : Pos} (h : Fld X.prog X.w X.K X.mg X.base x f) (hr : Room 2 X.A) (ha : PA X (e :: es) ta) (hg : Gl X x := by rfl) (hdb : (x == ("__debug__" : Str)) = false := by decide)
    (he : starEach (e :: es) X.env = (false, eval e X.env) :: starEach es X.env := by rfl) (hpl : (backTo pos (starEach es X.env)).any (·.1) = false := by rfl) :
    PMk X (.Call (.Name x p) (e :: es) [] pos) (tMkO (He.ga X.K x) (spIni X.K (He.ga X.K x) f) [] ta) := by
  obtain ⟨fI, fd, h1, h2, h3, h4⟩ := h.init
  exact pmk_oex h.oex h1 h2 h3 hr h4 .nil pass0 hg h.gC ha hdb he hpl
theorem meth_ty {K : PySem.W.Frag} {C f : Addr} {m : Str} (h : Meth K C m f) : PySem.W.typeIn K (.ref f) = some (.type "function") := eq_of_beq h.fn
theorem fld_of {x f : Str} {name qual : Str} {params : Arguments} {body : List Stmt} {scope : Scope} {fI : Addr} {fd : FuncData} {bm : List Value} {p1 p2 p3 p4 : Pos}
    (F : FunD K name qual params body scope [] [] fI fd) (S : FnScope ["self", f] ["self", f] scope) (hb : body = [.Assign [.Attribute (.Name "self" p1) f p2] (.Name f p3) p4])
    (gC : mg x = some (.ref (He.ga K x))) (E : ExK K (He.ga K x) bm) (hr : PySem.HandSPX.refsVE bm = true) (hbe : (Value.ref (He.ga K x) :: bm).contains (.type "BaseException") = true)
    (no : PySem.W.findIn K (.ref (He.ga K x)) f = some none) (m : Meth K (He.ga K x) "__init__" fI) (hf : (f == ("__debug__" : Str)) = false) (hf2 : (f == ("__classdict__" : Str)) = false)
    (v0 : Vis scope "self") (v1 : Vis scope f) (sw : ∀ env : Env, swapsWith (.Name f p3) (some (.Attribute (.Name "self" p1) f p2)) p4.line env = pure false) (b : Binds K fd ["self", f] []) : Fld P w K mg base x f :=
  ⟨gC, E.oex hr hbe, no, fI, fd, m.at_, meth_ty m, ok_init F S hb (E.oex hr hbe) no hf hf2 v0 v1 sw, b⟩
end
def tyNames : List String := ["NoneType", "bool", "int", "str", "list", "tuple", "dict"]
/-- what isinstance and == ask of a plain class -/
def insB (K : PySem.W.Frag) (C : Addr) : Bool :=
  decide (PySem.W.findIn K (.ref C) "__class__" = some (some (.builtin "object.__class__"))) && (decide (PySem.W.mroIn K C (.type "object") = some true) && (decide (PySem.W.kitOne K (.ref C) (.ref C) = some true) &&
    tyNames.all fun n => decide (PySem.W.kitOne K (.type n) (.ref C) = some false) && PySem.W.notFirst K C (.type n)))
structure InsK (K : PySem.W.Frag) (C : Addr) : Prop where
  ha : PySem.W.findIn K (.ref C) "__class__" = some (some (.builtin "object.__class__"))
  hm : PySem.W.mroIn K C (.type "object") = some true
  me : PySem.W.kitOne K (.ref C) (.ref C) = some true
  no : ∀ n ∈ tyNames, PySem.W.kitOne K (.type n) (.ref C) = some false
  nf : ∀ n ∈ tyNames, PySem.W.notFirst K C (.type n) = true
theorem insK_of {K : PySem.W.Frag} {C : Addr} (h : insB K C = true) : InsK K C := by
  unfold insB at h
  simp only [Bool.and_eq_true, List.all_eq_true, decide_eq_true_eq] at h
  exact ⟨h.1, h.2.1, h.2.2.1, fun n hn => (h.2.2.2 n hn).1, fun n hn => (h.2.2.2 n hn).2⟩
theorem tyName_mem (d : PyData) : tyName d ∈ tyNames := by cases d <;> simp [tyName, tyNames]
theorem InsK.ins {K : PySem.W.Frag} {C : Addr} (h : InsK K C) (c : Cls K C) (a : ClsAttr K) : C8.InsC K C := ⟨c, h.ha, a.1, a.2, h.hm, h.me⟩
section
variable {K : PySem.W.Frag} {σ : L2.St} {H : Hp} {Q : VK} {te : TE} {v : V} {d : PyData} {C : Addr}
theorem TyX_ins {a dx : Addr} {fs : List (Str × V)} (e : H a = some (.ins C dx fs)) (c : C8.InsC K C) : TyX K H (.ref a) (.ref C) := .base (.ins e c.cl c.ha c.hn c.htk c.hm)
/-- isinstance(x, C), C a plain class: data -/
theorem isiC_no (i : InsK K C) (ht : ∀ Q : VK, Q v H → te σ H Q) (hd : Dq H v d) (q : Q (.bl false) H) : tCB (rIsi K) (tCons te (tCons (tC (.ref C)) tNil)) σ H Q :=
  ht _ ⟨v, .ref C, _, _, false, rfl, .own C, dq_ty hd, i.no _ (tyName_mem d), q⟩
theorem isiC_yes {a dx : Addr} {fs : List (Str × V)} (i : C8.InsC K C) (ht : ∀ Q : VK, Q (.ref a) H → te σ H Q) (e : H a = some (.ins C dx fs)) (q : Q (.bl true) H) : tCB (rIsi K) (tCons te (tCons (tC (.ref C)) tNil)) σ H Q :=
  ht _ ⟨.ref a, .ref C, _, _, true, rfl, .own C, TyX_ins e i, i.me, q⟩
end
/-- x == y by x's own == -/
def rOwnE (K : PySem.W.Frag) (C : Addr) (sp : Sp) (E : XK) : R2 := fun x y H Q => ∃ a dx fs t, x = .ref a ∧ H a = some (.ins C dx fs) ∧ TyX K H y t ∧ PySem.W.notFirst K C t = true ∧ sp [.ref a, y] H (fun v H' => ∃ b, v = .bl b ∧ Q (.bl b) H') E
section
variable {X : Cx} {pins : List (Addr × Obj)} {σ : L2.St} {H : Hp} {s : Shared}
theorem op_ownE {CX : CXT} {C f : Addr} {fd : FuncData} {ps : List Str} {sp : Sp} {E : XK} {n : Nat} (F : FnOk X.prog X.w X.K X.mg X.base CX n f fd ps sp)
    (hs : PySem.W.findIn X.K (.ref C) "__eq__" = some (some (.ref f))) (hf : PySem.W.isFn X.K (.ref f) = true) (hb : Binds X.K fd ps []) (hx : Passes CX X E) (hr : Room n X.A) : OpR X (compareOp .Eq) (rOwnE X.K C sp E) := by
  intro pins s σ H x y v u Q I rx ry hq
  obtain ⟨a, dx, fs, t, rfl, ha, ty, nf, h⟩ := hq
  cases rx
  show wpAny (model X.prog X.w) X.A (richCompare .Eq (.ref a) u) (EP X pins σ Q) X.xe s
  obtain ⟨P, Z, p, _⟩ := kit_of I ry ty
  obtain ⟨mA, J, _⟩ := ins_get I.hok ha
  obtain ⟨od, J, _⟩ := J.look
  obtain ⟨m, hF⟩ := I.fr
  refine PySem.W.cmp_K (op := .Eq) (tb := t) hr.units0 hF I.ok.mod.kin J (Z.ty (model X.prog X.w) s.heap I.kIn p) nf hs hf ?_
  have hl := F.len _ _ _ _ h
  have r2 : Vals [V.ref a, y] [Value.ref a, u] := .cons rfl (.cons ry .nil)
  refine wpAny_call (codeAny_mono (F.run X.A X.stack s H ⟨[.ref a, u], []⟩ [.ref a, u] [.ref a, y] _ E hr I.env0 (by
    have := hb s [.ref a, u] I.kIn (by simpa using hl)
    simpa using this) r2 h) fun r s' hq => ?_)
  cases r with
  | error e => exact hx pins σ H s e s' I hq
  | ok fl =>
    cases fl with
    | ret w =>
      obtain ⟨z, H', I', rz, b, ez, q⟩ := I.after hq
      subst ez
      cases rz
      exact ⟨.bl b, H', I', rfl, q⟩
    | next => exact False.elim hq
    | brk => exact False.elim hq
    | cont => exact False.elim hq
end
end V2

set_option maxHeartbeats 4000000
/-! V2d: raise X() of a bare own class; comprehensions that make lists of data -/
namespace V2
open PySem PySem.Spec PyProof.Rows L2 V1
theorem pmk_mk0 {X : Cx} {C : Addr} {bmB : List Value} {B newId initId : String} {x : Str} {p pos : Pos} (F : ExcBaseFacts B newId initId bmB) (q : PySem.W.excIn X.K C bmB newId = true) (gC : X.mg x = some (.ref C)) (kC : PySem.W.keepIn X.K (.ref C) = true)
    (r : Raises X (.ref C)) (hg : Gl X x) (hdb : (x == ("__debug__" : Str)) = false := by decide) : PMk X (.Call (.Name x p) [] [] pos) (fun _ H Q => Q (.ref C) none H) := by
  intro pins s σ H Q I h
  refine wpAny_Call_Name_kw (ld_glob I hg gC ?_ hdb)
  refine PySem.W.callWith_K0 I.kIn kC ?_
  obtain ⟨bm, N, nm, qn, bs, hdct, sn, sub, ab, col, dd, k0, k1, k2, k3, k5, mN, hC, hN, hni, T⟩ := exc_obj I.kIn q
  refine wpAny_call_exc_subT F T hC hN hni (fun h' a hm => ?_) (Nat.zero_le _)
  exact mk_of I hm r h (I.hok.gone hm.new)
theorem DqAll.app {H : Hp} : ∀ {vs us : List V} {ds es : List PyData}, DqAll H vs ds → DqAll H us es → DqAll H (vs ++ us) (ds ++ es)
  | _, _, _, _, .nil, h => h
  | _, _, _, _, .cons one more, h => .cons one (DqAll.app more h)
theorem same_delD {H H' : Hp} {D : Addr} (h : Same H H') (n : H D = none) : Same H (delH H' D) := fun b o e => by
  rw [delH_ne (ne_of_none e n)]
  exact h b o e
/-- the list at D has come to acc, behind i turns; Pv tells of the heap without it -/
def Lc (D : Addr) (Pv : Nat → List V → Hp → Prop) (i : Nat) (H : Hp) : Prop := ∃ acc, acc.length ≤ i ∧ H D = some (.lst acc) ∧ Pv i acc (delH H D)
theorem lc_put {D : Addr} {Pv : Nat → List V → Hp → Prop} {i : Nat} {H : Hp} {acc : List V} {y : V} (l : acc.length ≤ i) (z : i < 1000) (e : H D = some (.lst acc)) (p : Pv (i + 1) (acc ++ [y]) (delH H D)) :
    ∃ acc, H D = some (.lst acc) ∧ acc.length < sizeLine ∧ Lc D Pv (i + 1) (upd H D (.lst (acc ++ [y]))) :=
  ⟨acc, e, Nat.lt_of_le_of_lt l (small1000 (by omega)), acc ++ [y], by rw [List.length_append]; simp; omega, upd_same, by rw [delH_upd]; exact p⟩
theorem lc_skip {D : Addr} {Pv : Nat → List V → Hp → Prop} {i : Nat} {H : Hp} {acc : List V} (l : acc.length ≤ i) (e : H D = some (.lst acc)) (p : Pv (i + 1) acc (delH H D)) : Lc D Pv (i + 1) H := ⟨acc, by omega, e, p⟩
theorem lc_gen {J : It} {n : Nat} {G : Hp → Prop} {Y : Nat → Hp → V → Hp → Prop} (w : Walk J n G Y) {g : TG} {tt : TT} {te : TE} {vs : List Nat} {σ : L2.St} {H1 : Hp} {D : Addr} {Qd : Hp → Prop} (nD : H1 D = none) (Pv : Nat → List V → Hp → Prop) (h0 : Pv 0 [] H1)
    (hG : ∀ i acc H, i ≤ n → Pv i acc (delH H D) → G H)
    (hs : ∀ i acc x H H', i < n → acc.length ≤ i → H D = some (.lst acc) → Pv i acc (delH H D) → Y i H x H' → g x (wipe σ vs) H' fun σ2 H2 => wipe σ2 vs = wipe σ vs ∧ tt σ2 H2 fun b H3 =>
      if b = true then te σ2 H3 fun y H4 => ∃ acc, H4 D = some (.lst acc) ∧ acc.length < sizeLine ∧ Lc D Pv (i + 1) (upd H4 D (.lst (acc ++ [y]))) else Lc D Pv (i + 1) H3)
    (hd : ∀ acc H, acc.length ≤ n → H D = some (.lst acc) → Pv n acc (delH H D) → Qd H) :
    ∃ W : Nat → Nat → Hp → Prop, (∃ m, W 0 m (upd H1 D (.lst []))) ∧ ∀ i m H, W i m H →
      (J.stop i H ∧ Qd H) ∨ (J.go i H ∧ ∃ Nx : Hp → Prop, (∀ H', Nx H' → ∃ m', m' < m ∧ W (i + 1) m' H') ∧ ∀ x H', J.yld i H x H' → g x (wipe σ vs) H' fun σ2 H2 => wipe σ2 vs = wipe σ vs ∧ tt σ2 H2 fun b H3 =>
        if b = true then te σ2 H3 fun y H4 => ∃ acc, H4 D = some (.lst acc) ∧ acc.length < sizeLine ∧ Nx (upd H4 D (.lst (acc ++ [y]))) else Nx H3) :=
  lc_it (σ := σ) w (Lc D Pv) ⟨[], Nat.le_refl _, upd_same, by rw [delH_new nD]; exact h0⟩ (fun i H hi ⟨acc, _, _, p⟩ => hG i acc H hi p) (fun i x H H' hi ⟨acc, l, e, p⟩ y => hs i acc x H H' hi l e p y) (fun H ⟨acc, l, e, p⟩ => hd acc H l e p)
/-- [.. for i in range(n)], no test, each item data made anew -/
theorem lc_rows {K : PySem.W.Frag} {n : Nat} (hz : n ≤ 1000) {te : TE} {i0 : Nat} {vs : List Nat} {σ : L2.St} {H1 : Hp} {D : Addr} {Qd : Hp → Prop} {lo : Int} (f : Nat → PyData) (nD : H1 D = none)
    (hw : ∀ x : V, wipe ((wipe σ vs).set i0 (some x)) vs = wipe σ vs)
    (mk : ∀ i, i < n → ∀ H, Same H1 (delH H D) → (∃ o, H D = some o) → ∀ Q : VK, (∀ v H', Same H H' → Dq (delH H' D) v (f i) → Q v H') → te ((wipe σ vs).set i0 (some (.int (lo + (i : Nat))))) H Q)
    (hd : ∀ us H, H D = some (.lst us) → Same H1 H → DqAll H us ((List.range n).map f) → Qd H) :
    ∃ W : Nat → Nat → Hp → Prop, (∃ m, W 0 m (upd H1 D (.lst []))) ∧ ∀ i m H, W i m H →
      ((Itr lo n).stop i H ∧ Qd H) ∨ ((Itr lo n).go i H ∧ ∃ Nx : Hp → Prop, (∀ H', Nx H' → ∃ m', m' < m ∧ W (i + 1) m' H') ∧ ∀ x H', (Itr lo n).yld i H x H' → gName i0 x (wipe σ vs) H' fun σ2 H2 => wipe σ2 vs = wipe σ vs ∧ tYes σ2 H2 fun b H3 =>
        if b = true then te σ2 H3 fun y H4 => ∃ acc, H4 D = some (.lst acc) ∧ acc.length < sizeLine ∧ Nx (upd H4 D (.lst (acc ++ [y]))) else Nx H3) := by
  refine lc_gen (σ := σ) walk_range nD (fun i acc H => Same H1 H ∧ DqAll H acc ((List.range i).map f)) ⟨Same.refl _, .nil⟩ (fun _ _ _ _ _ => True.intro) ?_ (fun acc H _ e p => hd acc H e (fun b o q => same_delH _ _ (p.1 _ _ q)) (DqAll.same same_delH _ _ p.2))
  rintro i acc x H H' hi l e ⟨sm, p⟩ ⟨rfl, rfl⟩
  refine ⟨hw _, ?_⟩
  simp only [tYes, if_true]
  refine mk i hi H' sm ⟨_, e⟩ _ fun v H2 s2 q2 => ?_
  refine lc_put l (by omega) (s2 _ _ e) ⟨fun b o q => ?_, ?_⟩
  · exact same_del s2 _ _ (sm _ _ q)
  · rw [List.range_succ, List.map_append]
    exact DqAll.app (DqAll.same (same_del s2) _ _ p) (.cons q2 .nil)
end V2

set_option maxHeartbeats 4000000
/-! V2e: C(..) of a plain class within try; isinstance of the caught exception that has a field -/
namespace V2
open PySem PySem.Spec PyProof.Rows L2 V1
def HasC (P : Program) (w : World) (K : PySem.W.Frag) (mg : Str → Option Value) (base : Heap) (CX : CXT) (k : Nat) (x : Str) (ps : List Str) (sp : Sp) : Prop :=
  ∃ fI fd, Mk K (He.ga K x) fI ∧ FnOk P w K mg base CX k fI fd ps sp ∧ Binds K fd ps [] ∧ mg x = some (.ref (He.ga K x))
theorem pe_hasC {X : Cx} {CX : CXT} {k : Nat} {x : Str} {ps : List Str} {sp : Sp} {E : XK} {e : Expr} {es : List Expr} {t : TA} {p pos : Pos} (h : HasC X.prog X.w X.K X.mg X.base CX k x ps sp) (hr : Room (k + 1) X.A) (hx : Passes CX X E) (ha : PA X (e :: es) t) (hg : Gl X x := by rfl)
    (hdb : (x == ("__debug__" : Str)) = false := by decide) (he : starEach (e :: es) X.env = (false, eval e X.env) :: starEach es X.env := by rfl) (hpl : (backTo pos (starEach es X.env)).any (·.1) = false := by rfl) :
    PE X (.Call (.Name x p) (e :: es) [] pos) (tMake (He.ga X.K x) sp [] E t) := by
  obtain ⟨fI, fd, M, F, b, g⟩ := h
  exact pe_make M F hr hg g b .nil hx ha hdb he hpl
/-- C(..), what it lets out by the slots -/
def tMakeS (C : Addr) (sp : Sp) (E : L2.St → XK) (t : TA) : TE := fun σ H Q => tMake C sp [] (E σ) t σ H Q
theorem pe_hasCS {X : Cx} {CX : CXT} {k : Nat} {x : Str} {ps : List Str} {sp : Sp} {E : L2.St → XK} {e : Expr} {es : List Expr} {t : TA} {p pos : Pos} (h : HasC X.prog X.w X.K X.mg X.base CX k x ps sp) (hr : Room (k + 1) X.A) (hx : ∀ σ, PassesAt CX X σ (E σ)) (ha : PA X (e :: es) t) (hg : Gl X x := by rfl)
    (hdb : (x == ("__debug__" : Str)) = false := by decide) (he : starEach (e :: es) X.env = (false, eval e X.env) :: starEach es X.env := by rfl) (hpl : (backTo pos (starEach es X.env)).any (·.1) = false := by rfl) :
    PE X (.Call (.Name x p) (e :: es) [] pos) (tMakeS (He.ga X.K x) sp E t) := by
  obtain ⟨fI, fd, M, F, b, g⟩ := h
  constructor
  intro pins s σ H Q I h
  refine wpAny_Call_Name_kw (ld_glob I hg g ?_ hdb)
  refine PySem.W.callWith_K (h₀ := X.base) I.ok.mod.kin M.kp (thn (ha.run pos pins s σ H _ I h) fun us t1 hh => ?_) he hpl
  obtain ⟨vs, H1, J, rv, q⟩ := hh
  refine ⟨J.kIn, ?_⟩
  have q1 := q (t1.heap.objs.size + 1) t1.heap.objs.size (J.hok.fresh (Nat.le_succ _)) (J.hok.fresh (Nat.le_refl _)) (Nat.ne_of_lt (Nat.lt_succ_self _))
  rw [List.append_nil] at q1
  have J2 := Inv.made (C := He.ga X.K x) J
  have rv2 : Vals (V.ref (t1.heap.objs.size + 1) :: vs) (Value.ref (t1.heap.objs.size + 1) :: us) := .cons rfl rv
  have ln : (Value.ref (t1.heap.objs.size + 1) :: us).length = ps.length := rv2.length.symm.trans (F.len _ _ _ _ q1)
  have bd := b _ (Value.ref (t1.heap.objs.size + 1) :: us) J2.kIn (by rw [List.append_nil]; exact ln)
  rw [List.append_nil] at bd
  refine wpAny_call (make_map (f := fI) J.kIn M.makes M.init (beq_iff_eq.mp M.fn) (codeAny_mono (F.run _ X.stack _ _ ⟨Value.ref (t1.heap.objs.size + 1) :: us, []⟩ _ _ _ (E σ) (hr.make (He.ga X.K x) us [])
    (J2.env0.make (He.ga X.K x) us []) bd rv2 q1) fun r s' hq => ?_))
  match r, hq with
  | .error e, hq => exact hx σ pins _ _ e s' J2 hq
  | .ok (.ret u), hq =>
    obtain ⟨z, H', J3, rz, ez, q3⟩ := J2.after hq
    subst ez
    exact ⟨rz, ⟨V.ref (t1.heap.objs.size + 1), H', J3, rfl, q3⟩⟩
  | .ok .next, hq => exact False.elim hq
  | .ok .brk, hq => exact False.elim hq
  | .ok .cont, hq => exact False.elim hq
/-- isinstance(e, c), e the caught exception, with its dict -/
def rIsXd (K : PySem.W.Frag) (a C : Addr) (cls : Value) (d : Option Addr) : List V → Hp → VK → Prop := fun xs H Q => cls = .ref C ∧ ∃ (c : V) (u : Value) (b : Bool) (dd : Addr) (fs : List (Str × V)), xs = [.ref a, c] ∧ ClsV c u ∧ PySem.W.kitOne K (.ref C) u = some b ∧ d = some dd ∧ H dd = some (.xd fs) ∧ Q (.bl b) H
theorem call_isXd {X : Cx} {a C : Addr} {oe : Obj} {cls : Value} {d : Option Addr} {pn : List (Addr × Obj)} {bm : List Value} (T : ExK X.K C bm) (cA : ClsAttr X.K) (hB : (Value.ref C :: bm).contains (.type "BaseException") = true) (hO : (Value.ref C :: bm).contains (.type "object") = true)
    (hz : Zc cls d oe) (hf : ∃ vs, oe.data = .fields vs) : CallR (X.suite a ((a, oe) :: pn)) (.builtin "isinstance") (rIsXd X.K a C cls d) := by
  intro pins s σ H xs us Q I r h
  obtain ⟨rfl, c, u, b, dd, fs, rfl, k, e, rfl, ea, q⟩ := h
  obtain ⟨w1, w2, rfl, r1, r2⟩ := vals2 r
  obtain rfl : w1 = Value.ref a := r1
  have e2 := k.eq r2
  subst e2
  obtain ⟨ha, _⟩ := I.pin (a, oe) (List.mem_append_left _ List.mem_cons_self)
  obtain ⟨vs, hd⟩ := hf
  have hx : ObjOk X.prog X.w H s.heap dd (.xd fs) := I.hok dd _ ea
  obtain ⟨mA, hns, hr⟩ := hx
  obtain ⟨od, ho, hl⟩ := lookIn_ns hns
  have J : PySem.W.InstAt s.heap a oe C (some od) := ⟨ha, hz.1, by unfold PySem.W.notCls; rw [hd] <;> rfl, by rw [hz.2]; exact ho⟩
  exact PySem.W.kia_one (PySem.W.kitx_exc T.isCls T.ga T.gg (by rw [T.sub, hB]) T.cl cA.gs cA.tk (by rw [T.mro, hO])) I.kIn J e (fun z => nomatch z) fun tk => ⟨.bl b, H, I.tok tk, rfl, q⟩
end V2

set_option maxHeartbeats 4000000
/-! V2f: data at new places only (beside a hand, beside a list that will change) -/
namespace V2
open PySem PySem.Spec PyProof.Rows L2 V1
/-- H, but only what is new behind H0 -/
def newH (H0 H : Hp) : Hp := fun b => match H0 b with
  | none => H b
  | some _ => none
theorem newH_at {H0 H : Hp} {b : Addr} (n : H0 b = none) : newH H0 H b = H b := by
  unfold newH
  rw [n]
theorem newH_old {H0 H : Hp} {b : Addr} {o : HO} (n : H0 b = some o) : newH H0 H b = none := by
  unfold newH
  rw [n]
theorem newH_some {H0 H : Hp} {b : Addr} {o : HO} (h : newH H0 H b = some o) : H0 b = none ∧ H b = some o := by
  cases e : H0 b with
  | none => exact ⟨rfl, by rw [newH_at e] at h; exact h⟩
  | some u =>
    rw [newH_old e] at h
    cases h
theorem newH_sub {H0 H : Hp} : Same (newH H0 H) H := fun _ _ e => (newH_some e).2
theorem newH_up {H0 H H' : Hp} (s : Same H H') : Same (newH H0 H) (newH H0 H') := fun b o e => by
  obtain ⟨n, h⟩ := newH_some e
  rw [newH_at n]
  exact s _ _ h
theorem newH_on {H0 H1 H : Hp} (s : Same H0 H1) : Same (newH H1 H) (newH H0 H) := fun b o e => by
  obtain ⟨n, h⟩ := newH_some e
  have z : H0 b = none := by
    cases q : H0 b with
    | none => rfl
    | some u =>
      rw [s _ _ q] at n
      cases n
  rw [newH_at z]
  exact h
theorem newH_off {H0 H : Hp} {a : Addr} (h : Held H0 a) : Same (newH H0 H) (delH H a) := fun b o e => by
  obtain ⟨n, q⟩ := newH_some e
  obtain ⟨u, hu⟩ := h
  rw [delH_ne (Ne.symm (ne_of_none hu n))]
  exact q
theorem newH_off2 {H0 H : Hp} {a f : Addr} (h : Held H0 a) (hf : Held H0 f) : Same (newH H0 H) (delH (delH H a) f) := fun b o e => by
  obtain ⟨n, q⟩ := newH_some e
  obtain ⟨u, hu⟩ := hf
  rw [delH_ne (Ne.symm (ne_of_none hu n))]
  exact newH_off h b o e
/-- te makes this data at new places -/
def MkN (te : TE) (σ : L2.St) (d : PyData) : Prop := ∀ H, ∀ Q : VK, (∀ v H', Same H H' → Dq (newH H H') v d → Q v H') → te σ H Q
def MkNA (ta : TA) (σ : L2.St) (ds : List PyData) : Prop := ∀ H, ∀ Q : List V → Hp → Prop, (∀ vs H', Same H H' → DqAll (newH H H') vs ds → Q vs H') → ta σ H Q
section
variable {σ : L2.St} {d : PyData} {ds : List PyData} {te : TE} {ta : TA}
theorem mkn_non : MkN (tC .non) σ .none := fun H _ k => k _ H (Same.refl H) .non
theorem mkn_bl (b : Bool) : MkN (tC (.bl b)) σ (.bool b) := fun H _ k => k _ H (Same.refl H) (.bl b)
theorem mkn_int (i : Int) : MkN (tC (.int i)) σ (.int i) := fun H _ k => k _ H (Same.refl H) (.int i)
theorem mkn_str (x : Str) : MkN (tC (.str x)) σ (.str x) := fun H _ k => k _ H (Same.refl H) (.str x)
theorem mkna_nil : MkNA tNil σ [] := fun H _ k => k [] H (Same.refl H) .nil
theorem mkna_cons (h : MkN te σ d) (r : MkNA ta σ ds) : MkNA (tCons te ta) σ (d :: ds) := fun H _ k => h H _ fun v H1 s1 q1 => r H1 _ fun vs H2 s2 q2 =>
  k (v :: vs) H2 (s1.trans s2) (.cons (Dq.same (newH_up s2) d v q1) (DqAll.same (newH_on s1) ds vs q2))
theorem mkn_tup (r : MkNA ta σ ds) (hz : ds.length ≤ 1000) : MkN (tTup ta) σ (.tuple ds) := fun H _ k => r H _ fun vs H1 s1 q1 =>
  ⟨Nat.le_of_lt (small1000 (by rw [dqAll_len q1]; exact hz)), fun p n => k _ _ (s1.trans (same_new n)) (.tup (by rw [newH_at (fresh_up s1 n)]; exact upd_same) (DqAll.same (newH_up (same_new n)) ds vs q1))⟩
theorem mkn_lst (r : MkNA ta σ ds) (hz : ds.length ≤ 1000) : MkN (tLstS ta) σ (.list ds) := fun H _ k => r H _ fun vs H1 s1 q1 =>
  ⟨Nat.le_of_lt (small1000 (by rw [dqAll_len q1]; exact hz)), fun p n low => k _ _ (s1.trans (same_new n)) (.lst (by rw [newH_at (fresh_up s1 n)]; exact upd_same) low (DqAll.same (newH_up (same_new n)) ds vs q1))⟩
theorem mkn_dict0 : MkN tDNewK σ (.dict []) := fun H _ k p n => k _ _ (same_new n) (.dct (by rw [newH_at n]; exact upd_same) .nil)
end
end V2

set_option maxHeartbeats 4000000
/-! V2g: data made beside a hand at a and a list at f, from the heap H0 on (old data may be within) -/
namespace V2
open PySem PySem.Spec PyProof.Rows L2 V1
def MkR (H0 : Hp) (a f : Addr) (te : TE) (σ : L2.St) (d : PyData) : Prop := ∀ H, Same H0 H → ∀ Q : VK, (∀ v H', Same H H' → Dq (delH (delH H' a) f) v d → Q v H') → te σ H Q
def MkRA (H0 : Hp) (a f : Addr) (ta : TA) (σ : L2.St) (ds : List PyData) : Prop := ∀ H, Same H0 H → ∀ Q : List V → Hp → Prop, (∀ vs H', Same H H' → DqAll (delH (delH H' a) f) vs ds → Q vs H') → ta σ H Q
section
variable {H0 : Hp} {a f : Addr} {σ : L2.St} {d : PyData} {ds : List PyData} {te : TE} {ta : TA}
theorem mkr_new (ha : Held H0 a) (hf : Held H0 f) (h : MkN te σ d) : MkR H0 a f te σ d := fun H s Q k => h H Q fun v H' s' q => k v H' s' (Dq.same (newH_off2 (ha.same s) (hf.same s)) _ _ q)
theorem mkra_nil : MkRA H0 a f tNil σ [] := fun H _ _ k => k [] H (Same.refl H) .nil
theorem mkra_cons (h : MkR H0 a f te σ d) (r : MkRA H0 a f ta σ ds) : MkRA H0 a f (tCons te ta) σ (d :: ds) := fun H s _ k => h H s _ fun v H1 s1 q1 => r H1 (s.trans s1) _ fun vs H2 s2 q2 =>
  k (v :: vs) H2 (s1.trans s2) (.cons (Dq.same (same_del (same_del s2)) d v q1) q2)
theorem mkr_lst (ha : Held H0 a) (hf : Held H0 f) (r : MkRA H0 a f ta σ ds) (hz : ds.length ≤ 1000) : MkR H0 a f (tLstS ta) σ (.list ds) := fun H s _ k => r H s _ fun vs H1 s1 q1 =>
  ⟨Nat.le_of_lt (small1000 (by rw [dqAll_len q1]; exact hz)), fun p n low => k _ _ (s1.trans (same_new n)) (.lst (by
    obtain ⟨u, hu⟩ := ha.same (s.trans s1)
    obtain ⟨w, hw⟩ := hf.same (s.trans s1)
    rw [delH_ne (Ne.symm (ne_of_none hw n)), delH_ne (Ne.symm (ne_of_none hu n))]
    exact upd_same) low (DqAll.same (same_del (same_del (same_new n))) ds vs q1))⟩
/-- what stands already -/
theorem mkr_old {v : V} (h : Dq (delH (delH H0 a) f) v d) (ht : ∀ H, Same H0 H → ∀ Q : VK, Q v H → te σ H Q) : MkR H0 a f te σ d := fun H s Q k => ht H s Q (k v H (Same.refl H) (Dq.same (same_del (same_del s)) _ _ h))
end
end V2

set_option maxHeartbeats 4000000
/-! V3a: data with objects of plain classes in it: the shape of an object is objD, a dict that no dict has -/
namespace V3
open PySem PySem.Spec PyProof.Rows L2 V1 V2
class CurK where
  K : PySem.W.Frag
abbrev K [k : CurK] : PySem.W.Frag := k.K
def kindNames : List String := ["int", "bool", "str", "tuple", "list", "dict"]
/-- what more is asked of a plain class: its objects are of no built-in kind -/
def kindB (K : PySem.W.Frag) (C : Addr) : Bool := kindNames.all fun n => decide (PySem.W.kitOne K (.ref C) (.type n) = some false)
structure ObC [CurK] (C : Addr) : Prop where
  ins : C8.InsC K C
  no : ∀ n ∈ kindNames, PySem.W.kitOne K (.ref C) (.type n) = some false
theorem obC_of [CurK] {C : Addr} (i : C8.InsC K C) (h : kindB K C = true) : ObC C := ⟨i, fun n hn => by
  unfold kindB at h
  rw [List.all_eq_true] at h
  exact of_decide_eq_true (h n hn)⟩
def objD : PyData := .dict [(.none, .none)]
mutual
inductive Dx [CurK] (H : Hp) : V → PyData → Prop
  | non : Dx H .non .none
  | bl (b : Bool) : Dx H (.bl b) (.bool b)
  | int (i : Int) : Dx H (.int i) (.int i)
  | str (x : Str) : Dx H (.str x) (.str x)
  | lst {a : Addr} {xs : List V} {ds : List PyData} (at_ : H a = some (.lst xs)) (low : (a == sysModules) = false) (rest : DxAll H xs ds) : Dx H (.ref a) (.list ds)
  | tup {a : Addr} {xs : List V} {ds : List PyData} (at_ : H a = some (.tup xs)) (rest : DxAll H xs ds) : Dx H (.ref a) (.tuple ds)
  | dct {a : Addr} {kvs : List (Key × V)} {ds : List (PyData × PyData)} (at_ : H a = some (.dK kvs)) (rest : DxKv H kvs ds) : Dx H (.ref a) (.dict ds)
  | ob {a C dx : Addr} {fs : List (Str × V)} (at_ : H a = some (.ins C dx fs)) (ok : ObC C) : Dx H (.ref a) objD
inductive DxAll [CurK] (H : Hp) : List V → List PyData → Prop
  | nil : DxAll H [] []
  | cons {v : V} {vs : List V} {d : PyData} {ds : List PyData} (one : Dx H v d) (more : DxAll H vs ds) : DxAll H (v :: vs) (d :: ds)
inductive DxKv [CurK] (H : Hp) : List (Key × V) → List (PyData × PyData) → Prop
  | nil : DxKv H [] []
  | cons {k : Key} {v : V} {kvs : List (Key × V)} {d : PyData} {ds : List (PyData × PyData)} (one : Dx H v d) (more : DxKv H kvs ds) : DxKv H ((k, v) :: kvs) ((keyD k, d) :: ds)
end
section
variable [CurK] {H H' : Hp}
mutual
theorem Dx.same (e : Same H H') : ∀ (d : PyData) (v : V), Dx H v d → Dx H' v d
  | .none, _, h => by cases h; exact .non
  | .bool b, _, h => by cases h; exact .bl b
  | .int i, _, h => by cases h; exact .int i
  | .str x, _, h => by cases h; exact .str x
  | .list ds, _, h => by
    cases h with
    | lst at_ low rest => exact .lst (e _ _ at_) low (DxAll.same e ds _ rest)
  | .tuple ds, _, h => by
    cases h with
    | tup at_ rest => exact .tup (e _ _ at_) (DxAll.same e ds _ rest)
  | .dict ds, _, h => by
    cases h with
    | dct at_ rest => exact .dct (e _ _ at_) (DxKv.same e ds _ rest)
    | ob at_ ok => exact .ob (e _ _ at_) ok
theorem DxAll.same (e : Same H H') : ∀ (ds : List PyData) (vs : List V), DxAll H vs ds → DxAll H' vs ds
  | [], _, h => by cases h; exact .nil
  | d :: ds, _, h => by
    cases h with
    | cons one more => exact .cons (Dx.same e d _ one) (DxAll.same e ds _ more)
theorem DxKv.same (e : Same H H') : ∀ (ds : List (PyData × PyData)) (kvs : List (Key × V)), DxKv H kvs ds → DxKv H' kvs ds
  | [], _, h => by cases h; exact .nil
  | (k, d) :: ds, _, h => by
    cases h with
    | cons one more => exact .cons (Dx.same e d _ one) (DxKv.same e ds _ more)
end
/-! plain data are such data -/
mutual
theorem dx_of : ∀ (d : PyData) (v : V), Dq H v d → Dx H v d
  | .none, _, h => by cases h; exact .non
  | .bool b, _, h => by cases h; exact .bl b
  | .int i, _, h => by cases h; exact .int i
  | .str x, _, h => by cases h; exact .str x
  | .list ds, _, h => by
    cases h with
    | lst at_ low rest => exact .lst at_ low (dxAll_of ds _ rest)
  | .tuple ds, _, h => by
    cases h with
    | tup at_ rest => exact .tup at_ (dxAll_of ds _ rest)
  | .dict ds, _, h => by
    cases h with
    | dct at_ rest => exact .dct at_ (dxKv_of ds _ rest)
theorem dxAll_of : ∀ (ds : List PyData) (vs : List V), DqAll H vs ds → DxAll H vs ds
  | [], _, h => by cases h; exact .nil
  | d :: ds, _, h => by
    cases h with
    | cons one more => exact .cons (dx_of d _ one) (dxAll_of ds _ more)
theorem dxKv_of : ∀ (ds : List (PyData × PyData)) (kvs : List (Key × V)), DqKv H kvs ds → DxKv H kvs ds
  | [], _, h => by cases h; exact .nil
  | (k, d) :: ds, _, h => by
    cases h with
    | cons one more => exact .cons (dx_of d _ one) (dxKv_of ds _ more)
end
/-! such data without dicts have no objects either -/
mutual
theorem dq_of : ∀ (d : PyData) (v : V), V2.plain d = true → Dx H v d → Dq H v d
  | .none, _, _, h => by cases h; exact .non
  | .bool b, _, _, h => by cases h; exact .bl b
  | .int i, _, _, h => by cases h; exact .int i
  | .str x, _, _, h => by cases h; exact .str x
  | .list ds, _, p, h => by
    cases h with
    | lst at_ low rest => exact .lst at_ low (dqAll_of ds _ (by simpa [V2.plain] using p) rest)
  | .tuple ds, _, p, h => by
    cases h with
    | tup at_ rest => exact .tup at_ (dqAll_of ds _ (by simpa [V2.plain] using p) rest)
  | .dict ds, _, p, h => by simp [V2.plain] at p
theorem dqAll_of : ∀ (ds : List PyData) (vs : List V), plainAll ds = true → DxAll H vs ds → DqAll H vs ds
  | [], _, _, h => by cases h; exact .nil
  | d :: ds, _, p, h => by
    cases h with
    | cons one more =>
      have p' : V2.plain d = true ∧ plainAll ds = true := by simpa [plainAll] using p
      exact .cons (dq_of d _ p'.1 one) (dqAll_of ds _ p'.2 more)
end
theorem Dx.int_inv {v : V} {n : Int} (h : Dx H v (.int n)) : v = .int n := by
  cases h
  rfl
theorem Dx.str_inv {v : V} {n : Str} (h : Dx H v (.str n)) : v = .str n := by
  cases h
  rfl
theorem Dx.bool_inv {v : V} {n : Bool} (h : Dx H v (.bool n)) : v = .bl n := by
  cases h
  rfl
theorem Dx.none_inv {v : V} (h : Dx H v .none) : v = .non := by
  cases h
  rfl
theorem Dx.tup_inv {v : V} {ds : List PyData} (h : Dx H v (.tuple ds)) : ∃ a vs, v = .ref a ∧ H a = some (.tup vs) ∧ DxAll H vs ds := by
  cases h with
  | tup e r => exact ⟨_, _, rfl, e, r⟩
theorem Dx.lst_inv {v : V} {ds : List PyData} (h : Dx H v (.list ds)) : ∃ a vs, v = .ref a ∧ H a = some (.lst vs) ∧ (a == sysModules) = false ∧ DxAll H vs ds := by
  cases h with
  | lst e l r => exact ⟨_, _, rfl, e, l, r⟩
theorem dxAll_len : ∀ {vs : List V} {ds : List PyData}, DxAll H vs ds → vs.length = ds.length
  | _, _, .nil => rfl
  | _, _, .cons _ more => by rw [List.length_cons, List.length_cons, dxAll_len more]
theorem DxAll.at : ∀ {vs : List V} {ds : List PyData} {j : Nat} {v : V} {d : PyData}, DxAll H vs ds → vs[j]? = some v → ds[j]? = some d → Dx H v d
  | _ :: _, _ :: _, 0, _, _, .cons one _, e, e' => by
    obtain rfl := Option.some.inj e
    obtain rfl := Option.some.inj e'
    exact one
  | _ :: _, _ :: _, j + 1, _, _, .cons _ more, e, e' => DxAll.at (j := j) more e e'
theorem DxAll.some : ∀ {vs : List V} {ds : List PyData} {i : Nat} {v : V}, DxAll H vs ds → vs[i]? = some v → ∃ d, d ∈ ds ∧ Dx H v d
  | _, _, 0, _, .cons one _, h => ⟨_, List.mem_cons_self, Option.some.inj h ▸ one⟩
  | _, _, i + 1, _, .cons _ more, h => by
    obtain ⟨d, m, q⟩ := DxAll.some (i := i) more h
    exact ⟨d, List.mem_cons_of_mem _ m, q⟩
theorem DxAll.take : ∀ {vs : List V} {ds : List PyData} (n : Nat), DxAll H vs ds → DxAll H (vs.take n) (ds.take n)
  | _, _, 0, _ => by
    rw [List.take_zero, List.take_zero]
    exact .nil
  | _, _, _ + 1, .nil => .nil
  | _, _, n + 1, .cons one more => .cons one (DxAll.take n more)
theorem DxAll.drop : ∀ {vs : List V} {ds : List PyData} (n : Nat), DxAll H vs ds → DxAll H (vs.drop n) (ds.drop n)
  | _, _, 0, h => h
  | _, _, _ + 1, .nil => .nil
  | _, _, n + 1, .cons _ more => DxAll.drop n more
theorem DxAll.app : ∀ {vs us : List V} {ds es : List PyData}, DxAll H vs ds → DxAll H us es → DxAll H (vs ++ us) (ds ++ es)
  | _, _, _, _, .nil, h => h
  | _, _, _, _, .cons one more, h => .cons one (DxAll.app more h)
theorem DxAll.insAt {vs : List V} {ds : List PyData} {v : V} {d : PyData} (h : DxAll H vs ds) (hv : Dx H v d) (i : Nat) : DxAll H (vs.take i ++ [v] ++ vs.drop i) (ds.take i ++ [d] ++ ds.drop i) :=
  DxAll.app (DxAll.app (DxAll.take i h) (.cons hv .nil)) (DxAll.drop i h)
theorem DxAll.erase : ∀ {vs : List V} {ds : List PyData} (n : Nat), DxAll H vs ds → DxAll H (vs.eraseIdx n) (ds.eraseIdx n)
  | _, _, _, .nil => .nil
  | _, _, 0, .cons _ more => more
  | _, _, n + 1, .cons one more => .cons one (DxAll.erase n more)
theorem DxAll.put {v : V} {d : PyData} (hv : Dx H v d) : ∀ {vs : List V} {ds : List PyData} (n : Nat), DxAll H vs ds → DxAll H (vs.set n v) (ds.set n d)
  | _, _, _, .nil => .nil
  | _, _, 0, .cons _ more => .cons hv more
  | _, _, n + 1, .cons one more => .cons one (DxAll.put hv n more)
end
/-! the kind of such data -/
section
variable [CurK] {σ : L2.St} {H : Hp} {Q : VK} {te : TE} {v : V} {d : PyData} {n n1 n2 : String} {b b1 b2 : Bool}
/-- the answers of isinstance for this shape -/
def KindIs (d : PyData) (n : String) (b : Bool) : Prop := kitB (tyName d) n = some b ∧ n ∈ kindNames ∧ (d = objD → b = false)
theorem kx_of (k : KindIs d n b) (h : Dx H v d) : ∃ t, TyX K H v t ∧ PySem.W.kitOne K t (.type n) = some b := by
  obtain ⟨k1, k2, k3⟩ := k
  have z := kit_ty (K := K) k1
  cases h with
  | non => exact ⟨_, .base .non, z⟩
  | bl b => exact ⟨_, .base (.bl b), z⟩
  | int i => exact ⟨_, .base (.int i), z⟩
  | str x => exact ⟨_, .base (.str x), z⟩
  | lst e _ _ => exact ⟨_, .base (.lst e), z⟩
  | tup e _ => exact ⟨_, .base (.tup e), z⟩
  | dct e _ => exact ⟨_, .base (.dK e), z⟩
  | ob e ok => exact ⟨_, TyX_ins e ok.ins, by rw [k3 rfl]; exact ok.no _ k2⟩
theorem kx_tup (d : PyData) : KindIs d "tuple" (isTup d) := ⟨kit_tup d, by decide, fun e => by rw [e]; rfl⟩
theorem kx_lst (d : PyData) : KindIs d "list" (isLst d) := ⟨kit_lst d, by decide, fun e => by rw [e]; rfl⟩
theorem kx_int (d : PyData) : KindIs d "int" (isInt d || isBool d) := ⟨kit_int d, by decide, fun e => by rw [e]; rfl⟩
theorem kx_bool (d : PyData) : KindIs d "bool" (isBool d) := ⟨kit_bool d, by decide, fun e => by rw [e]; rfl⟩
theorem kx_str (d : PyData) : KindIs d "str" (isStr d) := ⟨kit_str d, by decide, fun e => by rw [e]; rfl⟩
theorem isx_go (hb : KindIs d n b) (ht : ∀ Q : VK, Q v H → te σ H Q) (hd : Dx H v d) (q : Q (.bl b) H) : tCB (rIsi K) (tCons te (tCons (tC (.ty n)) tNil)) σ H Q := by
  obtain ⟨t, ty, k⟩ := kx_of hb hd
  exact ht _ ⟨v, .ty n, _, _, b, rfl, .ty n, ty, k, q⟩
/-- isinstance(x, (T1, T2)) -/
theorem isxT_go (h1 : KindIs d n1 b1) (h2 : KindIs d n2 b2) (ht : ∀ Q : VK, Q v H → te σ H Q) (hd : Dx H v d) (q : ∀ p, H p = none → Q (.bl (b1 || b2)) (upd H p (.tup [.ty n1, .ty n2]))) :
    tCB (rIsiT K) (tCons te (tCons (tTup (tCons (tC (.ty n1)) (tCons (tC (.ty n2)) tNil))) tNil)) σ H Q :=
  ht _ ⟨(by show 2 ≤ sizeLine; decide), fun p np => by
    have hd' := Dx.same (same_new (o := HO.tup [.ty n1, .ty n2]) np) d v hd
    have z : ∃ t, TyX K (upd H p (.tup [.ty n1, .ty n2])) v t ∧ PySem.W.kitOne K t (.type n1) = some b1 ∧ PySem.W.kitOne K t (.type n2) = some b2 := by
      obtain ⟨k1, k2, k3⟩ := h1
      obtain ⟨m1, m2, m3⟩ := h2
      have z1 := kit_ty (K := K) k1
      have z2 := kit_ty (K := K) m1
      cases hd' with
      | non => exact ⟨_, .base .non, z1, z2⟩
      | bl b => exact ⟨_, .base (.bl b), z1, z2⟩
      | int i => exact ⟨_, .base (.int i), z1, z2⟩
      | str x => exact ⟨_, .base (.str x), z1, z2⟩
      | lst e _ _ => exact ⟨_, .base (.lst e), z1, z2⟩
      | tup e _ => exact ⟨_, .base (.tup e), z1, z2⟩
      | dct e _ => exact ⟨_, .base (.dK e), z1, z2⟩
      | ob e ok => exact ⟨_, TyX_ins e ok.ins, by rw [k3 rfl]; exact ok.no _ k2, by rw [m3 rfl]; exact ok.no _ m2⟩
    obtain ⟨t, ty, e1, e2⟩ := z
    refine ⟨v, p, _, _, _, b1 || b2, rfl, upd_same, .cons (.ty n1) (.cons (.ty n2) .nil), ty, ?_, q p np⟩
    show (match PySem.W.kitOne K t (.type n1) with
      | Option.some true => Option.some true
      | Option.some false => (match PySem.W.kitOne K t (.type n2) with
        | Option.some true => Option.some true
        | Option.some false => Option.some false
        | Option.none => Option.none)
      | Option.none => Option.none) = _
    rw [e1, e2]
    cases b1 <;> cases b2 <;> rfl⟩
end
/-! made at new places; made beside a hand -/
def MkX [CurK] (te : TE) (σ : L2.St) (d : PyData) : Prop := ∀ H, ∀ Q : VK, (∀ v H', Same H H' → Dx (newH H H') v d → Q v H') → te σ H Q
def MkXA [CurK] (ta : TA) (σ : L2.St) (ds : List PyData) : Prop := ∀ H, ∀ Q : List V → Hp → Prop, (∀ vs H', Same H H' → DxAll (newH H H') vs ds → Q vs H') → ta σ H Q
def MkY [CurK] (H0 : Hp) (a : Addr) (te : TE) (σ : L2.St) (d : PyData) : Prop := ∀ H, Same H0 H → ∀ Q : VK, (∀ v H', Same H H' → Dx (delH H' a) v d → Q v H') → te σ H Q
def MkYA [CurK] (H0 : Hp) (a : Addr) (ta : TA) (σ : L2.St) (ds : List PyData) : Prop := ∀ H, Same H0 H → ∀ Q : List V → Hp → Prop, (∀ vs H', Same H H' → DxAll (delH H' a) vs ds → Q vs H') → ta σ H Q
section
variable [CurK] {σ : L2.St} {d : PyData} {ds : List PyData} {te : TE} {ta : TA}
theorem mkx_of (h : MkN te σ d) : MkX te σ d := fun H Q k => h H Q fun v H' s q => k v H' s (dx_of d v q)
theorem mkxa_nil : MkXA tNil σ [] := fun H _ k => k [] H (Same.refl H) .nil
theorem mkxa_cons (h : MkX te σ d) (r : MkXA ta σ ds) : MkXA (tCons te ta) σ (d :: ds) := fun H _ k => h H _ fun v H1 s1 q1 => r H1 _ fun vs H2 s2 q2 =>
  k (v :: vs) H2 (s1.trans s2) (.cons (Dx.same (newH_up s2) d v q1) (DxAll.same (newH_on s1) ds vs q2))
theorem mkx_tup (r : MkXA ta σ ds) (hz : ds.length ≤ 1000) : MkX (tTup ta) σ (.tuple ds) := fun H _ k => r H _ fun vs H1 s1 q1 =>
  ⟨Nat.le_of_lt (small1000 (by rw [dxAll_len q1]; exact hz)), fun p n => k _ _ (s1.trans (same_new n)) (.tup (by rw [newH_at (fresh_up s1 n)]; exact upd_same) (DxAll.same (newH_up (same_new n)) ds vs q1))⟩
theorem mkx_lst (r : MkXA ta σ ds) (hz : ds.length ≤ 1000) : MkX (tLstS ta) σ (.list ds) := fun H _ k => r H _ fun vs H1 s1 q1 =>
  ⟨Nat.le_of_lt (small1000 (by rw [dxAll_len q1]; exact hz)), fun p n low => k _ _ (s1.trans (same_new n)) (.lst (by rw [newH_at (fresh_up s1 n)]; exact upd_same) low (DxAll.same (newH_up (same_new n)) ds vs q1))⟩
end
end V3

set_option maxHeartbeats 4000000
/-! V3b: xs.extend(t), t a tuple; more of data made beside a hand -/
namespace V3
open PySem PySem.Spec PyProof.Rows L2 V1 V2
open AutoSeq1
theorem extend_tup (l : Addr) (xs : Array Value) (n : Nat) (b : Addr) (o : Obj) (ys : Array Value) (m : Nat) (hc : o.cls = .type "tuple") (hd : o.data = .seq ys m) (h0 : ¬(!xs.isEmpty && Builtin.List.listTooLong (xs.size + ys.size)) = true) (h1 : xs.size ≤ sizeLine) (h2 : xs.size + ys.size ≤ sizeLine + 1) :
    Meets (Builtin.«list.extend» ⟨[.ref l, .ref b], []⟩) (fun _ R s => s.heap.get? l = some { cls := .type "list", dict := none, data := .seq xs n, slots := #[] } ∧ s.heap.get? b = some o ∧
      R (.ok (.ret Value.none)) { s with heap := s.heap.update l (Obj.mapSeq fun x => x ++ ys), toks := s.toks }) :=
  .of_wp fun prog w A R s hh => by
    obtain ⟨hp, g, dr, tk, os⟩ := s
    obtain ⟨hl, hb, go⟩ := hh
    have i1 := idx_int
    have i2 := AutoSeq1.sub_tuple_tuple
    have i3 := AutoSeq1.sub_list_list
    have i4 := AutoSeq1.sub_tuple_list
    have i5 := AutoSeq1.sub_list_tuple
    have lim : (xs ++ ys).size ≤ sizeLine + 1 := by
      rw [Array.size_append]
      exact h2
    obtain ⟨cls, dict, data, slots⟩ := o
    dsimp only at hc hd
    subst hc hd
    wp_walk using (wpAny_updateSeq hl rfl (hz := h1) (_hz' := lim)), wpAny_loadPart' hl, wpAny_loadPart' hb
    exact ⟨_, rfl, go⟩
def rExtT (K : PySem.W.Frag) : V → List V → Hp → VK → Prop := fun x vs H Q => ∃ l b xs zs, x = .ref l ∧ vs = [.ref b] ∧ H l = some (.lst xs) ∧ SqT K H b zs ∧ xs.length + zs.length ≤ sizeLine ∧ Q .non (upd H l (.lst (xs ++ zs)))
theorem mt_extT {X : Cx} : MtM X "list.extend" (rExtT X.K) := by
  rintro pins s σ H x vs v us Q I rx rv ⟨l, b, xs, zs, rfl, rfl, hH, hB, hz, q⟩
  cases rx
  obtain ⟨u, rfl, ru⟩ := rv.one
  cases ru
  obtain ⟨z, its, n, r, hl, e⟩ := I.lstM hH
  obtain ⟨ys, ry, ⟨o, eo, co, m, d⟩, _⟩ := I.tuple hB
  have ly := ry.length
  have lx := r.length
  have small : its.toArray.size + ys.toArray.size ≤ sizeLine := by
    simp only [List.size_toArray]
    omega
  refine call_meets F.slot_list_extend ⟨_, e, rfl⟩ F.entry_list_extend (F.args_list_extend_2 _ _)
    (extend_tup l its.toArray n b o ys.toArray m co d (by rw [notLongL small, Bool.and_false]; exact Bool.false_ne_true) (by omega) (by omega)) ⟨e, eo, .non, _, I.lset (its' := its ++ ys) hH e (by simp) (r.append ry) (by rw [List.length_append]; omega), rfl, q⟩
end V3

set_option maxHeartbeats 4000000
/-! V3c: order of two tuples of texts -/
namespace V3
open PySem PySem.Spec PyProof.Rows L2 V1 V2
/-- which of two texts comes first -/
def txLe (x y : Str) : Bool := !decide (y.cps.toList < x.cps.toList)
def txLt (x y : Str) : Bool := decide (x.cps.toList < y.cps.toList)
def rowLe : List Str → List Str → Bool
  | [], _ => true
  | _ :: _, [] => false
  | x :: xs, y :: ys => if (x == y) = true then rowLe xs ys else txLe x y
def rowLt : List Str → List Str → Bool
  | _, [] => false
  | [], _ :: _ => true
  | x :: xs, y :: ys => if (x == y) = true then rowLt xs ys else txLt x y
theorem lex_row (r : Str → Str → Bool) (z : Nat → Nat → Bool) (f : List Str → List Str → Bool) (hz : ∀ a b, z (a + 1) (b + 1) = z a b) (f0 : ∀ ys : List Str, f [] ys = z 0 ys.length) (f1 : ∀ x xs, f (x :: xs) [] = z (xs.length + 1) 0)
    (f2 : ∀ x xs y ys, f (x :: xs) (y :: ys) = if (x == y) = true then f xs ys else r x y) :
    ∀ (pre pre' ns ms : List Str), pre.length = pre'.length → Ob.lexAt (fun j => (pre ++ ns).getD j Str.empty == (pre' ++ ms).getD j Str.empty) (fun j => r ((pre ++ ns).getD j Str.empty) ((pre' ++ ms).getD j Str.empty)) (z ns.length ms.length) pre.length (min ns.length ms.length) = f ns ms
  | pre, pre', [], ms, _ => by
    rw [List.length_nil, Nat.zero_min, f0]
    rfl
  | pre, pre', n :: ns, [], _ => by
    rw [List.length_nil, Nat.min_zero, f1]
    rfl
  | pre, pre', n :: ns, m :: ms, e => by
    have h1 : (pre ++ n :: ns).getD pre.length Str.empty = n := by simp [List.getD]
    have h2 : (pre' ++ m :: ms).getD pre.length Str.empty = m := by rw [e]; simp [List.getD]
    have ih := lex_row r z f hz f0 f1 f2 (pre ++ [n]) (pre' ++ [m]) ns ms (by simp [e])
    rw [List.append_assoc, List.append_assoc, List.length_append] at ih
    rw [List.length_cons, List.length_cons, Nat.succ_min_succ, Ob.lexAt_succ, f2, hz]
    simp only [h1, h2]
    by_cases q : (n == m) = true
    · rw [if_pos q, if_pos q]
      exact ih
    · rw [if_neg q, if_neg q]
section
variable {X : Cx} {pins : List (Addr × Obj)} {σ : L2.St} {H : Hp} {s : Shared}
theorem texts_at {us : List Value} {ns : List Str} (r : Vals (ns.map V.str) us) (j : Nat) (h : j < us.toArray.size) : ∃ t, us.toArray[j] = Value.str (ns.getD j Str.empty) t := by
  have hj : j < ns.length := by
    have z := r.length
    rw [List.length_map] at z
    rw [List.size_toArray] at h
    omega
  obtain ⟨w, hw, rw'⟩ := r.get (i := j) (x := .str ns[j]) (by rw [List.getElem?_map, List.getElem?_eq_getElem hj]; rfl)
  obtain ⟨t, rfl⟩ := rw'
  refine ⟨t, ?_⟩
  have z : us[j]? = some us[j] := List.getElem?_eq_getElem (by simpa using h)
  rw [z] at hw
  rw [List.getElem_toArray, Option.some.inj hw]
  simp [List.getD, hj]
def rLeTS (K : PySem.W.Frag) : R2 := fun x y H Q => ∃ (a b : Addr) (ns ms : List Str), x = .ref a ∧ y = .ref b ∧ SqT K H a (ns.map V.str) ∧ SqT K H b (ms.map V.str) ∧ Q (.bl (rowLe ns ms)) H
theorem op_leTS (hu : X.A.units < cLine) : OpR X (compareOp .LtE) (rLeTS X.K) := by
  rintro pins s σ H x y v u Q I rx ry ⟨a, b, ns, ms, rfl, rfl, ha, hb, q⟩
  cases rx
  cases ry
  obtain ⟨us, r1, p1, _⟩ := I.tuple ha
  obtain ⟨ws, r2, p2, _⟩ := I.tuple hb
  have l1 : us.toArray.size = ns.length := by rw [List.size_toArray, ← r1.length, List.length_map]
  have l2 : ws.toArray.size = ms.length := by rw [List.size_toArray, ← r2.length, List.length_map]
  have key := lex_row txLe (fun a b => decide (a ≤ b)) rowLe (fun a b => by simp) (fun ys => by simp [rowLe]) (fun x xs => by simp [rowLe]) (fun _ _ _ _ => rfl) [] [] ns ms rfl
  have cmp := Ob.RcOp.tuples_le (A := X.A) (s := s) (e := fun j => ns.getD j Str.empty == ms.getD j Str.empty) (r := fun j => txLe (ns.getD j Str.empty) (ms.getD j Str.empty)) p1 p2 hu
    (fun j g1 g2 => by
      obtain ⟨t, z1⟩ := texts_at r1 j g1
      obtain ⟨t', z2⟩ := texts_at r2 j g2
      rw [z1, z2]
      exact SeqAt.EqAt.str_str _ _ _ _)
    (fun j g1 g2 _ => by
      obtain ⟨t, z1⟩ := texts_at r1 j g1
      obtain ⟨t', z2⟩ := texts_at r2 j g2
      rw [z1, z2]
      exact fun P w E Q k => PySem.P.le_str (by simpa [txLe] using k))
  rw [l1, l2] at cmp
  have last : wpAny (model X.prog X.w) X.A (compareOp .LtE (.ref a) (.ref b)) (EP X pins σ Q) X.xe s := cmp X.prog X.w X.xe (EP X pins σ Q) ⟨.bl _, H, I, rfl, by
    have k2 := key
    simp only [List.nil_append, List.length_nil] at k2
    rw [k2]
    exact q⟩
  exact last
def rLtTS (K : PySem.W.Frag) : R2 := fun x y H Q => ∃ (a b : Addr) (ns ms : List Str), x = .ref a ∧ y = .ref b ∧ SqT K H a (ns.map V.str) ∧ SqT K H b (ms.map V.str) ∧ Q (.bl (rowLt ns ms)) H
theorem op_ltTS (hu : X.A.units < cLine) : OpR X (compareOp .Lt) (rLtTS X.K) := by
  rintro pins s σ H x y v u Q I rx ry ⟨a, b, ns, ms, rfl, rfl, ha, hb, q⟩
  cases rx
  cases ry
  obtain ⟨us, r1, p1, _⟩ := I.tuple ha
  obtain ⟨ws, r2, p2, _⟩ := I.tuple hb
  have l1 : us.toArray.size = ns.length := by rw [List.size_toArray, ← r1.length, List.length_map]
  have l2 : ws.toArray.size = ms.length := by rw [List.size_toArray, ← r2.length, List.length_map]
  have key := lex_row txLt (fun a b => decide (a < b)) rowLt (fun a b => by simp) (fun ys => by cases ys <;> simp [rowLt]) (fun x xs => by simp [rowLt]) (fun _ _ _ _ => rfl) [] [] ns ms rfl
  have cmp := Ob.RcOp.tuples_lt (A := X.A) (s := s) (e := fun j => ns.getD j Str.empty == ms.getD j Str.empty) (r := fun j => txLt (ns.getD j Str.empty) (ms.getD j Str.empty)) p1 p2 hu
    (fun j g1 g2 => by
      obtain ⟨t, z1⟩ := texts_at r1 j g1
      obtain ⟨t', z2⟩ := texts_at r2 j g2
      rw [z1, z2]
      exact SeqAt.EqAt.str_str _ _ _ _)
    (fun j g1 g2 _ => by
      obtain ⟨t, z1⟩ := texts_at r1 j g1
      obtain ⟨t', z2⟩ := texts_at r2 j g2
      rw [z1, z2]
      exact fun P w E Q k => PyProof.Rows.lt_str k)
  rw [l1, l2] at cmp
  have last : wpAny (model X.prog X.w) X.A (compareOp .Lt (.ref a) (.ref b)) (EP X pins σ Q) X.xe s := cmp X.prog X.w X.xe (EP X pins σ Q) ⟨.bl _, H, I, rfl, by
    have k2 := key
    simp only [List.nil_append, List.length_nil] at k2
    rw [k2]
    exact q⟩
  exact last
end
end V3

set_option maxHeartbeats 4000000
/-! V3d: a head whose top asks the world for one habit: told apart, two kernel runs -/
namespace V3
open PySem PySem.W
/-- the habits f, but for this row -/
def hab (row : String) (b : Bool) (f : String → Bool) : String → Bool := fun s => match decide (s = row) with
  | true => b
  | false => f s
theorem hab_eq (row : String) (f : String → Bool) : hab row (f row) f = f := by
  funext s
  unfold hab
  by_cases e : s = row
  · rw [decide_eq_true e, e]
  · rw [decide_eq_false e]
def wHab (row : String) (b : Bool) (w : World) : World := ⟨w.draws, { w.params with followText := hab row b w.params.followText }⟩
theorem wHab_eq (row : String) (w : World) : wHab row (w.params.followText row) w = w := by
  unfold wHab
  rw [hab_eq]
theorem run_hab {p : World → Prop} (row : String) (h1 : ∀ w, p (wHab row true w)) (h0 : ∀ w, p (wHab row false w)) (w : World) : p w := by
  rw [← wHab_eq row w]
  cases w.params.followText row
  · exact h0 w
  · exact h1 w
end V3

set_option maxHeartbeats 4000000
/-! V4a: defs that make lambdas: their code objects and tables, by one look of the kernel; the law's own def among them; the end. -/
namespace V4
open PySem PySem.Spec PyProof.Rows L2 V1 V2 V3 LamX
section
variable {K : PySem.W.Frag} {f : Addr}
/-- the code object of the def at f, and the table of the codes made in it -/
def pairOf (K : PySem.W.Frag) (f : Addr) : Addr × Addr := match K.lookup f with
  | some ⟨_, _, .func fd, _⟩ => match fd.code with
    | .ref c => match K.lookup c with
      | some ⟨_, _, .fields vs, _⟩ => match (vs[11]? : Option Value) with
        | some (Value.ref p) => (c, p)
        | _ => (c, c)
      | _ => (c, c)
    | _ => (f, f)
  | _ => (f, f)
def txtB : Value → Bool
  | .str _ _ => true
  | _ => false
def intB : Value → Bool
  | .int _ _ => true
  | _ => false
def boolB : Value → Bool
  | .bool _ => true
  | _ => false
def headB (K : PySem.W.Frag) (p : Addr × Addr) : Bool := match K.lookup p.1 with
  | some ⟨cl, _, .fields vs, _⟩ => (decide (cl = .type "code") && decide (vs[11]? = some (.ref p.2))) && (txtB (vs.getD 18 .none) && (intB (vs.getD 7 .none) && (boolB (vs.getD 9 .none) && (intB (vs.getD 10 .none) && (!(p.1 == p.2) && (K.lookup p.2).isNone)))))
  | _ => false
def lamB (K : PySem.W.Frag) (f : Addr) : Bool := match K.lookup f with
  | some ⟨_, _, .func fd, _⟩ => decide (fd.code = .ref (pairOf K f).1) && headB K (pairOf K f)
  | _ => false
structure LamD (K : PySem.W.Frag) (f : Addr) : Prop where
  code : ∀ (o : Obj) (fd : FuncData), K.lookup f = some o → o.data = .func fd → fd.code = .ref (pairOf K f).1
  hd : ∀ h : Heap, K.In h → PySem.W.CodeHd h (pairOf K f).1 (pairOf K f).2
  off : K.lookup (pairOf K f).2 = none
theorem txtB_is {v : Value} (h : txtB v = true) : ∃ x t, v = .str x t := by
  cases v <;> first | exact ⟨_, _, rfl⟩ | cases h
theorem intB_is {v : Value} (h : intB v = true) : ∃ x t, v = .int x t := by
  cases v <;> first | exact ⟨_, _, rfl⟩ | cases h
theorem boolB_is {v : Value} (h : boolB v = true) : ∃ x, v = .bool x := by
  cases v <;> first | exact ⟨_, rfl⟩ | cases h
theorem headB_hd {p : Addr × Addr} (h : headB K p = true) : (∀ g : Heap, K.In g → PySem.W.CodeHd g p.1 p.2) ∧ K.lookup p.2 = none := by
  unfold headB at h
  split at h
  · rename_i cl od vs sl e
    simp only [Bool.and_eq_true, decide_eq_true_eq, Bool.not_eq_true', beq_eq_false_iff_ne, ne_eq, Option.isNone_iff_eq_none] at h
    obtain ⟨⟨e1, e2⟩, e3, e4, e5, e6, e7, e8⟩ := h
    obtain ⟨x1, t1, e3⟩ := txtB_is e3
    obtain ⟨x2, t2, e4⟩ := intB_is e4
    obtain ⟨x3, e5⟩ := boolB_is e5
    obtain ⟨x4, t4, e6⟩ := intB_is e6
    have e11 : vs.getD 11 .none = .ref p.2 := by
      rw [Array.getD_eq_getD_getElem?, e2]
      rfl
    exact ⟨fun g hg => ⟨_, vs, x1, t1, x2, t2, x3, x4, t4, hg _ _ e, e1, rfl, e2, e11, e3, e4, e5, e6, e7⟩, e8⟩
  · cases h
theorem lamD_of (h : lamB K f = true) : LamD K f := by
  unfold lamB at h
  split at h
  · rename_i oc od fd sl e
    obtain ⟨h1, h2⟩ := Bool.and_eq_true_iff.mp h
    refine ⟨fun o fd' e' d => ?_, (headB_hd h2).1, (headB_hd h2).2⟩
    rw [e] at e'
    cases e'
    cases d
    exact of_decide_eq_true h1
  · cases h
end
/-- a table without a code stands at p -/
def emptyT (g : Addr → Option Obj) (p : Addr) : Bool := match g p with
  | some ⟨.none, none, .fields ⟨[]⟩, ⟨[]⟩⟩ => true
  | _ => false
theorem emptyT_is {g : Addr → Option Obj} {p : Addr} (h : emptyT g p = true) : g p = some { cls := .none, data := .fields #[] } := by
  unfold emptyT at h
  split at h
  · assumption
  · cases h
/-- what is reached in so many steps, but such tables -/
def asT (g : Addr → Option Obj) (n : Nat) : List Addr := (He.asD g n).filter fun a => !emptyT g a
section
variable {P : Program} {w : World} {K : PySem.W.Frag} {mg : Str → Option Value} {base : Heap} {x qual : Str} {params : Arguments} {body : List Stmt} {scope : Scope} {dvs : List V} {kws : List (Str × V)} {f : Addr} {fd : FuncData}
/-- a def of which the code object is known -/
theorem okC {CX : CXT} {N ps : List Str} {k : Nat} {sp : Sp} (F : FunD K x qual params body scope dvs kws f fd) (T : LamD K f) (S : FnScope N ps scope) (len : ∀ vs H Q E, sp vs H Q E → vs.length = ps.length)
    (go : ∀ (A : Around) (outer : List Env) (s : Shared) (H : Hp) (vs : List V) (Q : VK) (E : XK), Room k (A.deeper (envOfC qual scope s.heap.objs.size f (.ref (pairOf K f).1))) → sp vs H Q E →
      ∃ t, PSs (cxOf CX P w K mg base N qual scope f (.ref (pairOf K f).1) A outer s H E) body t ∧ t { nx := fun _ H' => Q .non H', rt := Q } (start N vs) H) : FnOk P w K mg base CX (k + 1) f fd ps sp := by
  obtain ⟨oc, od, dV, kV, doc, pm, an, cdv, ct, osl, rfl, lk, cd, _, _⟩ := F.ex
  obtain rfl : cdv = .ref (pairOf K f).1 := T.code _ _ lk rfl
  exact fn_of lk cd S len go
end
section
variable {P : Program} {w : World} {K : PySem.W.Frag} {mg : Str → Option Value} {base : Heap} {k : Nat} {f : Addr} {fd : FuncData} {x : Str} {sp : Sp}
theorem lawOkC {name qual : Str} {params : Arguments} {body : List Stmt} {scope : Scope} {N : List Str} (F : FunD K name qual params body scope [] [] f fd) (T : LamD K f) (S : FnScope N [x] scope)
    (room : Room (k + 1) callerA)
    (go : ∀ (s : Shared) (H : Hp) (v : V) (Q : VK), Room k (callerA.deeper (envOfC qual scope s.heap.objs.size f (.ref (pairOf K f).1))) → (callerA.deeper (envOfC qual scope s.heap.objs.size f (.ref (pairOf K f).1))).guards = some [] → sp [v] H Q (fun _ _ _ => False) →
      ∃ t, PSs (cxOf CX0 P w K mg base N qual scope f (.ref (pairOf K f).1) callerA [] s H (fun _ _ _ => False)) body t ∧ t { nx := fun _ H' => Q .non H', rt := Q } (start N [v]) H) :
    LawOk P w K mg base f fd x sp := by
  intro s H u v Q e0 bind rv hs
  obtain ⟨oc, od, dV, kV, doc, pm, an, cdv, ct, osl, rfl, lk, cd, _, _⟩ := F.ex
  obtain rfl : cdv = .ref (pairOf K f).1 := T.code _ _ lk rfl
  have inK : K.In s.heap := e0.mod.kin.keeps fun b o e => (e0.bs b o e).1
  have free : s.heap.NoLimit := e0.mod.nolimit.keeps fun b o e => (e0.bs b o e).1
  have kinds : ∀ y ∈ [(x, u)], scope.names.lookup y.1 = some .local ∨ (scope.names.lookup y.1 = some .cell ∧ ((cellsFrom (s.heap.objs.size + 1) scope.names []).lookup y.1).isSome = true) := by
    intro y hy
    obtain rfl := List.mem_singleton.mp hy
    rcases S.par x (List.mem_singleton.mpr rfl) with q | q
    · exact .inl q
    · exact .inr ⟨q, PySem.W.cellsFrom_some _ _ _ (.inl q)⟩
  refine codeAny_call_function room.depth (inK _ _ lk) rfl S.co S.gen rfl (PySem.W.codeRec_of inK cd) (bind _ _ _ _ ?_)
  refine wpAny_newFunctionEnv_cells S.kind kinds fun env he s1 z => ?_
  subst he
  refine ⟨free.keeps z.toInCall.keep, codeAny_func ?_⟩
  obtain ⟨t, ht, hq⟩ := go s H v Q (room.deeper _) rfl hs
  have I : Inv (cxOf CX0 P w K mg base N qual scope f (.ref (pairOf K f).1) callerA [] s H (fun _ _ _ => False)) [] (start N [v]) H s1 := inv_start (us := [u]) (ps := [x]) S room.hd e0 rfl (.cons rv .nil) z
  refine wpAny_mono (ht.run [] s1 _ H _ I hq) (fun fl s' out => ?_) fun _ _ z => z
  cases fl with
  | ret u' => exact let ⟨v', _, H', J, r', q⟩ := out; ⟨v', H', J.os, J.bare, J.base, J.hok, r', q⟩
  | next => exact let ⟨_, H', J, q⟩ := out; ⟨.non, H', J.os, J.bare, J.base, J.hok, rfl, q⟩
  | brk => exact let ⟨_, _, _, q⟩ := out; q.elim
  | cont => exact let ⟨_, _, _, q⟩ := out; q.elim
end
/-- what may stand in the heap at the claim's call: the script, and tables without a code -/
def OnlyT (ts : List Addr) (H : Hp) : Prop := ∀ b, H b = none ∨ b ∈ ts ∨ ∃ o xs, H b = some (.frz o (.lst xs))
theorem law_runT {P : Program} {w : World} {K : PySem.W.Frag} {mg mb : Str → Option Value} {fa a : Addr} {fd : FuncData} {x : Str} {sp : Sp} {s : Shared} {vs : List Value} {ns : List Int} {cs : List (Addr × Addr)}
    (KX : K.In s.heap) (gl : s.heap.Ns mainGlobals mg) (bl : s.heap.Ns builtinsNs mb) (boot : ∀ y : Str, y ≠ "__name__" → mb y = bootBuiltins y) (free : s.heap.NoLimit) (gens : s.gens = #[])
    (hT : ∀ p ∈ cs, s.heap.get? p.2 = some { cls := .none, data := .fields #[] }) (nT : ∀ p ∈ cs, K.lookup p.2 = none) (cod : ∀ p ∈ cs, PySem.W.CodeHd s.heap p.1 p.2) (bmain : ∃ (bm : Addr) (ob : Obj), mg "__builtins__" = some (.ref bm) ∧ bm ≠ builtinsNs ∧ s.heap.get? bm = some ob ∧ ob.cls = .type "module" ∧ ob.dict = some builtinsNs ∧ ob.data = .plain)
    (ha : s.heap.get? a = some { cls := .type "list", data := .seq vs.toArray }) (hints : IntsAre vs ns) (short : ns.length ≤ sizeLine)
    (F : ∀ base : Heap, K.In base → base.Ns mainGlobals mg → (∀ p ∈ cs, TabB base mg p.1 p.2) → LawOk P w K mg base fa fd x sp) (bind : ∀ (s : Shared) (u : Value), BindsTo s fd ⟨[u], []⟩ [(x, u)])
    (hs : ∀ H : Hp, (∀ p ∈ cs, H p.2 = some (.tbl #[])) → SqL K H a (ns.map V.int) → sp [.ref a] H (fun v _ => v = .bl true) (fun _ _ _ => False)) :
    codeAny (model P w) callerA (.call (.ref fa) ⟨[.ref a], []⟩) (fun r s' => r = .ok (.ret (.bool true)) ∧ OldK s.heap s'.heap ∧ s'.os = s.os ∧ AllBare s'.gens) s := by
  have rel := vals_ints hints
  have count := hints.length
  let ob : Obj := { cls := .type "list", data := .seq vs.toArray }
  let ts : List Addr := cs.map (·.2)
  have inT : ∀ p ∈ cs, p.2 ∈ ts := fun p hp => List.mem_map.mpr ⟨p, hp, rfl⟩
  have empty : ∀ b ∈ ts, s.heap.get? b = some { cls := .none, data := .fields #[] } := fun b hb => by
    obtain ⟨p, hp, rfl⟩ := List.mem_map.mp hb
    exact hT p hp
  have aOff : a ∉ ts := fun z => by
    have e := empty a z
    rw [ha] at e
    cases (show Data.seq vs.toArray _ = Data.fields #[] from congrArg Obj.data (Option.some.inj e))
  have main : ∀ H : Hp, (∀ p ∈ cs, H p.2 = some (.tbl #[])) → OnlyT ts H → SqL K H a (ns.map V.int) → HOk P w H s.heap → (∀ b, H b ≠ none → b = a ∨ b ∈ ts) → (H a ≠ none → K.lookup a = none) →
      codeAny (model P w) callerA (.call (.ref fa) ⟨[.ref a], []⟩) (fun r s' => r = .ok (.ret (.bool true)) ∧ OldK s.heap s'.heap ∧ s'.os = s.os ∧ AllBare s'.gens) s := by
    intro H tb only seq hok just notK
    let B := hidT s.heap H
    -- what has other data than the script and the empty tables is not tracked
    have clear : ∀ {b : Addr} {o : Obj}, s.heap.get? b = some o → (∀ us n, o.data ≠ .seq us n) → o.data ≠ .fields #[] → H b = none := fun {b o} e n1 n2 => by
      cases q : H b with
      | none => rfl
      | some _ =>
        rcases just b (by rw [q]; simp) with z | z
        · rw [z, ha] at e
          cases e
          exact (n1 _ _ rfl).elim
        · rw [empty b z] at e
          cases e
          exact (n2 rfl).elim
    have space : ∀ {b : Addr} {m : Str → Option Value}, s.heap.Ns b m → B.Ns b m := fun {b m} ⟨o, es, ep, e, d, r⟩ => ⟨o, es, ep, hidT_get e (clear e (fun us n z => by rw [d] at z; cases z) (fun z => by rw [d] at z; cases z)), d, r⟩
    have KB : K.In B := fun b o e => hidT_get (KX b o e) (by
      cases q : H b with
      | none => rfl
      | some _ =>
        rcases just b (by rw [q]; simp) with z | z
        · rw [z] at e q
          rw [notK (by rw [q]; simp)] at e
          cases e
        · obtain ⟨p, hp, rfl⟩ := List.mem_map.mp z
          rw [nT p hp] at e
          cases e)
    have M : Mod K mg B := ⟨KB, space gl, ⟨mb, space bl, boot⟩, let ⟨mc, h1, h2⟩ := free; ⟨mc, space h1, h2⟩⟩
    have TB : ∀ p ∈ cs, TabB B mg p.1 p.2 := fun p hp => by
      have e0 := hT p hp
      obtain ⟨bm, o1, b1, b2, b3, b4, b5, b6⟩ := bmain
      refine ⟨?_, ⟨bm, o1, b1, b2, fun z => ?_, fun z => ?_, hidT_get b3 (clear b3 (fun us n z => by rw [b6] at z; cases z) (fun z => by rw [b6] at z; cases z)), b4, b5, b6⟩, fun z => ?_⟩
      · obtain ⟨o, us, file, tf, flags, tg, inF, text, tt, e1, r1, r2, r3, rest⟩ := cod p hp
        refine ⟨o, us, file, tf, flags, tg, inF, text, tt, hidT_get e1 (clear e1 (fun us n z => ?_) fun z => ?_), r1, r2, r3, rest⟩
        · rw [r2] at z
          cases z
        · rw [r2] at z
          cases z
          simp at r3
      · obtain ⟨o, es, ep, e, d, _⟩ := gl
        rw [z, e] at b3
        cases b3
        rw [d] at b6
        cases b6
      · rw [z, e0] at b3
        cases b3
        cases b6
      · obtain ⟨o, es, ep, e, d, _⟩ := gl
        rw [z, e0] at e
        cases e
        cases d
    have e0 : Env0 P w K mg B callerA [] s H := ⟨rfl, M, fun b o e => of_hidT e, Nat.le_of_eq (hidT_size _ _), trivial, fun b hb => absurd (show b ∈ ([] : List Addr) from hb) List.not_mem_nil, hok, .of_eq gens⟩
    refine codeAny_mono (F B KB (space gl) TB s H (.ref a) (.ref a) _ e0 (bind s (.ref a)) rfl (hs H tb seq)) fun r s' out => ?_
    cases r with
    | error e => exact False.elim out
    | ok fl =>
      cases fl with
      | next => exact False.elim out
      | brk => exact False.elim out
      | cont => exact False.elim out
      | ret u =>
        obtain ⟨v, H', os, bare, un, hok', rv, q⟩ := out
        obtain rfl : v = .bl true := q
        obtain rfl : u = Value.bool true := rv
        have same : ∀ b o, b ∉ ts → s.heap.get? b = some o → s'.heap.get? b = some o := fun b o nb e => by
          cases q : H b with
          | none => exact un.keep b o e q (fun z => absurd (show b ∈ ([] : List Addr) from z) List.not_mem_nil) List.not_mem_nil
          | some _ =>
            rcases only b with z | z | ⟨o2, xs, z⟩
            · rw [q] at z
              cases z
            · exact absurd z nb
            · obtain ⟨g1, _⟩ := hok b _ z
              obtain ⟨g2, _⟩ := hok' b _ (un.frzs b o2 _ z)
              rw [e] at g1
              cases g1
              exact g2
        have grown : ∀ p ∈ cs, ∃ more : Array Value, s'.heap.get? p.2 = some { cls := .none, data := .fields more } := fun p hp => by
          obtain ⟨more, z⟩ := un.tbls p.2 #[] (tb p hp)
          exact ⟨_, hok' p.2 _ z⟩
        refine ⟨rfl, ⟨fun b o e => ?_, fun b o e => ?_⟩, os, bare⟩
        · by_cases hb : b ∈ ts
          · obtain ⟨p, hp, rfl⟩ := List.mem_map.mp hb
            obtain ⟨more, hm⟩ := grown p hp
            rw [hT p hp] at e
            cases e
            refine .inr (.inl ⟨((cod p hp).tab (hT p hp)).isCodeTable, rfl, #[], more, rfl, ?_⟩)
            rw [Array.empty_append]
            exact hm
          · exact .inl (same b o hb e)
        · by_cases hb : b ∈ ts
          · obtain ⟨p, hp, rfl⟩ := List.mem_map.mp hb
            exact let ⟨_, hm⟩ := grown p hp; ⟨_, hm⟩
          · exact ⟨o, same b o hb e⟩
  let H0 : Hp := fun b => if b ∈ ts then some (.tbl #[]) else none
  have in0 : ∀ {b : Addr}, b ∈ ts → H0 b = some (.tbl #[]) := fun hb => if_pos hb
  have off0 : ∀ {b : Addr}, b ∉ ts → H0 b = none := fun hb => if_neg hb
  cases lk : K.lookup a with
  | some o =>
    have e := KX a o lk
    rw [ha] at e
    cases e
    refine main H0 (fun p hp => in0 (inT p hp)) (fun b => ?_) (.inr ⟨_, vs.toArray, _, lk, rfl, rfl, rfl, by rw [List.size_toArray, count]; exact short, by simpa using rel⟩) (fun b u z => ?_) (fun b z => ?_) fun z => absurd (off0 aOff) z
    · by_cases hb : b ∈ ts
      · exact .inr (.inl hb)
      · exact .inl (off0 hb)
    · by_cases hb : b ∈ ts
      · cases (in0 hb).symm.trans z
        exact empty b hb
      · exact nomatch (off0 hb).symm.trans z
    · by_cases hb : b ∈ ts
      · exact .inr hb
      · exact absurd (off0 hb) z
  | none =>
    let H1 : Hp := fun b => if b = a then some (.frz ob (.lst (ns.map V.int))) else H0 b
    have atA : H1 a = some (.frz ob (.lst (ns.map V.int))) := if_pos rfl
    have offA : ∀ {b : Addr}, b ≠ a → H1 b = H0 b := fun hb => if_neg hb
    have ne : ∀ {b : Addr}, b ∈ ts → b ≠ a := fun hb z => aOff (z ▸ hb)
    refine main H1 (fun p hp => (offA (ne (inT p hp))).trans (in0 (inT p hp))) (fun b => ?_) (.inl (.inr ⟨ob, atA⟩)) (fun b u z => ?_) (fun b z => ?_) fun _ => lk
    · by_cases hb : b = a
      · exact .inr (.inr ⟨_, _, by rw [hb]; exact atA⟩)
      · by_cases ht : b ∈ ts
        · exact .inr (.inl ht)
        · exact .inl ((offA hb).trans (off0 ht))
    · by_cases hb : b = a
      · subst hb
        cases atA.symm.trans z
        exact ⟨ha, by rw [List.length_map]; exact short, vs, _, rel, ha⟩
      · have z1 := (offA hb).symm.trans z
        by_cases ht : b ∈ ts
        · cases (in0 ht).symm.trans z1
          exact empty b ht
        · exact nomatch (off0 ht).symm.trans z1
    · by_cases hb : b = a
      · exact .inl hb
      · by_cases ht : b ∈ ts
        · exact .inr ht
        · exact absurd ((offA hb).trans (off0 ht)) z
theorem walk_lawT {l : PySem.W.OpenLaw} {n : Nat} {q : Program} {loose : List Str} {XP : (Str → Option Value) → Heap → Prop} {YP : World → Heap → Prop} {d : DefRec} {x : Str} (hn : l.most = some n) (hz : n ≤ sizeLine) (noDfl : d.params.defaults = [])
    (F : ∀ (w : World) (mg : Str → Option Value) (fa : Addr) (h : Heap), YP w h → h.Ns mainGlobals mg → mg d.name = some (.ref fa) → ∃ (K : PySem.W.Frag) (fd : FuncData) (sp : Sp) (cs : List (Addr × Addr)), K.In h ∧ (∀ p ∈ cs, h.get? p.2 = some { cls := .none, data := .fields #[] }) ∧ (∀ p ∈ cs, K.lookup p.2 = none) ∧
      (∀ p ∈ cs, PySem.W.CodeHd h p.1 p.2) ∧ (∀ (s : Shared) (u : Value), BindsTo s fd ⟨[u], []⟩ [(x, u)]) ∧
      (∀ (H : Hp) (a : Addr) (ns : List Int), ns.length ≤ n → (∀ p ∈ cs, H p.2 = some (.tbl #[])) → SqL K H a (ns.map V.int) → sp [.ref a] H (fun v _ => v = .bl true) fun _ _ _ => False) ∧
      ∀ base : Heap, K.In base → base.Ns mainGlobals mg → (∀ p ∈ cs, TabB base mg p.1 p.2) → LawOk l.prog w K mg base fa fd x sp) :
    PySem.W.WalkO q loose XP YP l.row.toRowW d [] (fun f vs => PySem.call f vs) := by
  refine Att.attach_call hn noDfl fun w s₀ s₁ mg mb fa o pm cd doc a vs ns G Y ho hd hcd hmg hobj hints short gens => ?_
  obtain ⟨K, fd, sp, cs, KX, hT, nT, cod, bind, hs, hF⟩ := F w mg fa _ Y G.T.g hmg
  exact law_runT KX G.T.g G.T.b G.T.builtins G.T.nolimit gens hT nT cod G.T.bmain hobj hints (Nat.le_trans short hz) hF bind fun H tb seq => hs H a ns short tb seq
end V4

set_option maxHeartbeats 4000000
/-! V4k: != of an instance whose class has an own __eq__ and no own __ne__. -/
namespace V4
open PySem PySem.Spec PyProof.Rows L2 V1 V2 V3
/-- its __ne__ is object's -/
def neB (K : PySem.W.Frag) (C : Addr) : Bool := decide (PySem.W.findIn K (.ref C) "__ne__" = some (some (.builtin "object.__ne__"))) && decide (PySem.W.mroIn K C (.type "object") = some true)
structure NeD (K : PySem.W.Frag) (C : Addr) : Prop where
  ne : PySem.W.findIn K (.ref C) "__ne__" = some (some (.builtin "object.__ne__"))
  ob : PySem.W.mroIn K C (.type "object") = some true
theorem neD_of {K : PySem.W.Frag} {C : Addr} (h : neB K C = true) : NeD K C :=
  let z := Bool.and_eq_true_iff.mp h
  ⟨of_decide_eq_true z.1, of_decide_eq_true z.2⟩
section
variable {prog : Program} {w : World} {A : Around} {E : Value → Shared → Prop} {s : Shared} {K : PySem.W.Frag} {x C f : Addr} {ox : Obj} {od : Option Obj} {u : Value}
/-- what object.__ne__ does: the own __eq__ the other way round -/
theorem objNe_own {Q : Fin → Shared → Prop} (hX : K.In s.heap) (J : PySem.W.InstAt s.heap x ox C od) (hs : PySem.W.findIn K (.ref C) "__eq__" = some (some (.ref f))) (hf : PySem.W.isFn K (.ref f) = true) (room : A.units < cLine)
    (h : wpAny (model prog w) A (call (.ref f) [.ref x, u]) (fun v s' => ∃ b, v = .bool b ∧ Q (.done (.ret (.bool (!b)))) s') E s) : wpAny (model prog w) A (Builtin.«object.__ne__» ⟨[.ref x, u], []⟩) Q E s := by
  have eq : wpAny (model prog w) A (callSpecialIfBound? (.ref x) "__eq__" [u]) (fun r s' => ∃ b, r = some (.bool b) ∧ Q (.done (.ret (.bool (!b)))) s') E s :=
    PySem.W.ifBound_K hX J hs hf (wpAny_mono h (fun v s' z => let ⟨b, e, q⟩ := z; ⟨b, congrArg some e, q⟩) fun _ _ e => e)
  unfold Builtin.«object.__ne__»
  repeat (first
    | with_reducible refine wpAny_cRoomFor room ?_
    | (refine wpAny_bind (m := callSpecialIfBound? (.ref x) (Str.ofString "__eq__") [u]) (wpAny_mono eq (fun r s' hr => ?_) fun _ _ e => e)
       obtain ⟨b, rfl, hq⟩ := hr
       refine wpAny_bind (m := truthy (.bool b)) (wpAny_truthy_bool ?_)
       exact wpAny_pure hq)
    | wp_step)
/-- x != u by it -/
theorem ne_own {Q : Value → Shared → Prop} {tb : Value} (room : A.units + 1 < cLine) (hX : K.In s.heap) (J : PySem.W.InstAt s.heap x ox C od) (hb : PySem.W.Looks (model prog w) s.heap (typeOf u) tb) (hn : PySem.W.notFirst K C tb = true)
    (no : PySem.W.findIn K (.ref C) "__ne__" = some (some (.builtin "object.__ne__"))) (ob : PySem.W.mroIn K C (.type "object") = some true) (hs : PySem.W.findIn K (.ref C) "__eq__" = some (some (.ref f))) (hf : PySem.W.isFn K (.ref f) = true)
    (h : wpAny (model prog w) A.in1 (call (.ref f) [.ref x, u]) (fun v s' => ∃ b, v = .bool b ∧ Q (.bool (!b)) s') E s) : wpAny (model prog w) A (richCompare .NotEq (.ref x) u) Q E s := by
  have body : wpAny (model prog w) A (call (.builtin "object.__ne__") [.ref x, u]) (fun v s' => ∃ b : Bool, v = .bool b ∧ Q (.bool b) s') E s :=
    wpAny_call (codeAny_call_builtin PySem.F.cmp_object.ne.plain PySem.F.cmpEntry_ne (PySem.W.check_slot PySem.F.cmpKind_ne PySem.F.cmpSplit_ne (J.type.andThen (PySem.W.looks_mroIn hX ob)) (PySem.F.cmpArgs_ne _ _)
      (objNe_own hX J hs hf room (wpAny_mono h (fun v s' ⟨b, e, q⟩ => ⟨b, e, _, rfl, q⟩) fun _ _ e => e))))
  have bound : wpAny (model prog w) A (callSpecialIfBound? (.ref x) "__ne__" [u]) (fun r s' => ∃ b : Bool, r = some (.bool b) ∧ Q (.bool b) s') E s := by
    simp only [callSpecialIfBound?, bindSpecialIfBound?]
    refine wpAny_holding (wpAny_bind (wpAny_bind (wpAny_bind (J.type.here ((PySem.W.looks_findIn hX no).here ?_)))))
    have go : wpAny (model prog w) A (call (.builtin "object.__ne__") ([.ref x] ++ [u]) >>= fun v => pure (some v)) (fun r s' => ∃ b : Bool, r = some (.bool b) ∧ Q (.bool b) s') E s :=
      wpAny_bind (wpAny_mono body (fun v s' ⟨b, e, q⟩ => wpAny_pure ⟨b, congrArg some e, q⟩) fun _ _ e => e)
    refine wpAny_bind (wpAny_askSetting (wpAny_ite ?_))
    split
    · exact wpAny_bind (wpAny_of_eq (PySem.F.cmp_object.ne.bind _) (wpAny_pure (by exact go)))
    · exact wpAny_tryCatch (wpAny_bind (wpAny_of_eq (PySem.F.cmp_object.ne.bind _) (wpAny_pure (by exact go))))
  have tried : wpAny (model prog w) A (tryCompare (.ref x) "__ne__" u) (fun r s' => ∃ b : Bool, r = some (.bool b) ∧ Q (.bool b) s') E s := by
    unfold tryCompare
    refine wpAny_bind (wpAny_mono bound (fun r s' ⟨b, e, q⟩ => ?_) fun _ _ e => e)
    subst e
    exact wpAny_pure ⟨b, rfl, q⟩
  have last : ∀ r s', (∃ b : Bool, r = some (.bool b) ∧ Q (.bool b) s') → ∃ b : Bool, r = some (Value.bool b) ∧ Q (.bool b) s' := fun _ _ z => z
  simp only [richCompare, PySem.cmpInfo_NotEq, oneThing_ref]
  refine wpAny_holding (wpAny_bind (wpAny_cRoomFor (Nat.lt_of_succ_lt room) ?_))
  refine wpAny_bind (J.type.here (wpAny_bind (hb.here ?_)))
  have sub : (Value.ref C != tb) = true → PySem.W.subIn K tb (.ref C) = some false := fun q => by
    rcases Bool.or_eq_true_iff.mp hn with e | e
    · rw [beq_iff_eq.mp e] at q
      simp at q
    · exact beq_iff_eq.mp e
  split
  · rename_i q
    refine wpAny_bind ((PySem.W.looks_subIn hX (sub (by simpa using q))).here ?_)
    simp only [Bool.false_eq_true, if_false]
    refine wpAny_bind (wpAny_mono tried (fun r s' ⟨b, e, z⟩ => ?_) fun _ _ e => e)
    subst e
    exact wpAny_pure z
  · refine wpAny_bind (wpAny_pure ?_)
    simp only [Bool.false_eq_true, if_false]
    refine wpAny_bind (wpAny_mono tried (fun r s' ⟨b, e, z⟩ => ?_) fun _ _ e => e)
    subst e
    exact wpAny_pure z
end
/-- x != y by x's own == -/
def rOwnNe (K : PySem.W.Frag) (C : Addr) (sp : Sp) (E : XK) : R2 := fun x y H Q => ∃ a dx fs t, x = .ref a ∧ H a = some (.ins C dx fs) ∧ TyX K H y t ∧ PySem.W.notFirst K C t = true ∧ sp [.ref a, y] H (fun v H' => ∃ b, v = .bl b ∧ Q (.bl (!b)) H') E
theorem op_ownNe {X : Cx} {CX : CXT} {C f : Addr} {fd : FuncData} {ps : List Str} {sp : Sp} {E : XK} {n : Nat} (F : FnOk X.prog X.w X.K X.mg X.base CX n f fd ps sp) (no : NeD X.K C) (ic : C8.InsC X.K C)
    (hs : PySem.W.findIn X.K (.ref C) "__eq__" = some (some (.ref f))) (hf : PySem.W.isFn X.K (.ref f) = true) (hb : Binds X.K fd ps []) (hx : Passes CX X E) (hr : Room (n + 1) X.A) : OpR X (compareOp .NotEq) (rOwnNe X.K C sp E) := by
  intro pins s σ H x y v u Q I rx ry hq
  obtain ⟨a, dx, fs, t, rfl, ha, ty, nf, h⟩ := hq
  cases rx
  show wpAny (model X.prog X.w) X.A (richCompare .NotEq (.ref a) u) (EP X pins σ Q) X.xe s
  obtain ⟨P, Z, p, _⟩ := kit_of I ry ty
  obtain ⟨mA, J, _⟩ := ins_get I.hok ha
  obtain ⟨od, J, _⟩ := J.look
  refine ne_own (tb := t) (by have := hr.un; omega) I.kIn J (Z.ty (model X.prog X.w) s.heap I.kIn p) nf no.ne ic.hm hs hf ?_
  have len := F.len _ _ _ _ h
  have both : Vals [V.ref a, y] [Value.ref a, u] := .cons rfl (.cons ry .nil)
  have env : Env0 X.prog X.w X.K X.mg X.base X.A.in1 X.stack s H := ⟨I.env0.frames, I.env0.mod, I.env0.bs, I.env0.bsz, I.env0.funs, I.env0.frf, I.env0.hok, I.env0.bare⟩
  have bound := hb s [.ref a, u] I.kIn (by simpa using len)
  simp only [List.append_nil] at bound
  refine wpAny_call (codeAny_mono (F.run X.A.in1 X.stack s H ⟨[.ref a, u], []⟩ [.ref a, u] [.ref a, y] _ E hr.in1 env bound both h) fun r s' hq => ?_)
  match r, hq with
  | .error e, hq => exact hx pins σ H s e s' I hq
  | .ok (.ret w), hq =>
    obtain ⟨z, H', I', rz, b, ez, q⟩ := I.after hq
    subst ez
    cases rz
    exact ⟨b, rfl, .bl (!b), H', I', rfl, q⟩
  | .ok .next, hq => exact hq.elim
  | .ok .brk, hq => exact hq.elim
  | .ok .cont, hq => exact hq.elim
end V4

set_option maxHeartbeats 4000000
/-! V4b: len(set(t)), t a tuple of ints -/
namespace V4
open PySem PySem.Spec PyProof.Rows L2 V1 V2 V3
def tLenSetT (K : PySem.W.Frag) (ta : TE) : TE := fun σ H Q => ta σ H fun x H1 => ∃ (l : Addr) (ns : List Int), x = .ref l ∧ SqT K H1 l (ns.map V.int) ∧ ns.length ≤ 1000 ∧ ∀ c : Nat, c ≤ ns.length → Q (.int (c : Nat)) H1
theorem pe_lenSetT {X : Cx} {a : Expr} {ta : TE} {p p2 q pos : Pos} (hg : Gl X "len") (hm : X.mg "len" = none) (hg2 : Gl X "set") (hm2 : X.mg "set" = none) (ha : PE X a ta) (calm : X.calm = true := by rfl)
    (na : starEach [a] X.env = (false, eval a X.env) :: starEach [] X.env := by rfl) : PE X (.Call (.Name "len" p) [.Call (.Name "set" p2) [a] [] q] [] pos) (tLenSetT X.K ta) := by
  refine ⟨fun pins s σ H Q I h => Call_ (ld_blt I hg hm boot_len ?_)⟩
  refine PyProof.Rows.callWith_builtin1 (PyProof.Rows.args_cons (Call_ (ld_blt I hg2 hm2 boot_set ?_)) rfl) rfl rfl
  refine PyProof.Rows.callWith_type1 (PyProof.Rows.args_cons (thn (ha.run pins s σ H _ I h) ?_) na) na rfl
  rintro v s1 ⟨x, H1, J, rx, l, ns, rfl, hq, hz, k⟩
  refine PyProof.Rows.args_nil ?_
  cases rx
  obtain ⟨its, r, pl, _⟩ := J.tuple hq
  have small : ns.length + 1 < scanBound := by
    unfold scanBound
    omega
  refine call_set_tupI ns (J.ok.hd calm) pl (by simpa using r.ints) small fun g tk c hS hc kp => ?_
  refine PyProof.Rows.args_nil ?_
  obtain ⟨o, es, ep, t, ho, ex, dat, _, _, _, _, fit, cnt, _⟩ := hS
  have J2 : Inv X pins σ H1 { s1 with heap := g, toks := tk } := J.kept kp
  exact call_len_set ho ex dat fit (by omega) ⟨.int (c : Nat), H1, J2.tok _, ⟨_, by rw [cnt]⟩, k c hc⟩
end V4

set_option maxHeartbeats 4000000
/-! V4c: a text so often; isinstance of the caught exception, with a dict or without -/
namespace V4
open PySem PySem.Spec PyProof.Rows L2 V1 V2 V3
def rMulS : R2 := fun x y H Q => ∃ (z : Str) (n : Int), x = .str z ∧ y = .int n ∧ 1 ≤ n ∧ n ≤ 10000 ∧ z.length ≤ 1000 ∧ Q (.str (Txt.mul z n)) H
theorem op_mulS {X : Cx} : OpR X (binaryOp .Mult) rMulS := by
  rintro pins s σ H x y v u Q I rx ry ⟨z, n, rfl, rfl, n1, n2, zl, q⟩
  obtain ⟨t, rfl⟩ := rx
  obtain ⟨t', rfl⟩ := ry
  refine PySem.SB.mul ⟨?_, fun _ _ z => ?_, fun _ _ => ?_⟩ fun t2 k => ⟨.str _, H, I.tok _, ⟨_, rfl⟩, q⟩
  · rw [decide_eq_false (by omega), decide_eq_false (by omega)]
    rfl
  · have h : (1000 : Int) ≤ (2 ^ 63 - 1) / n := by
      refine (Int.le_ediv_iff_mul_le (by omega)).mpr ?_
      omega
    omega
  · unfold PySem.Builtin.Str.tooLong
    have h : z.length * n.toNat ≤ 1000 * 10000 := Nat.mul_le_mul zl (by omega)
    have e : sizeLine = 16777216 := by rw [sizeLine_eq]
    simp only [decide_eq_false_iff_not]
    omega
/-- the caught exception: its class, and its dict if it has one -/
def ExIs (H : Hp) (C : Addr) (cls : Value) (d : Option Addr) : Prop := cls = .ref C ∧ (d = none ∨ ∃ dd fs, d = some dd ∧ H dd = some (.xd fs))
def rIsO (K : PySem.W.Frag) (a : Addr) (cls : Value) (d : Option Addr) : List V → Hp → VK → Prop := fun xs H Q => ∃ (C : Addr) (bm : List Value) (c : V) (u : Value) (b : Bool), xs = [.ref a, c] ∧ ExIs H C cls d ∧ ClsV c u ∧ ExK K C bm ∧ ClsAttr K ∧ (Value.ref C :: bm).contains (.type "BaseException") = true ∧ (Value.ref C :: bm).contains (.type "object") = true ∧
  PySem.W.kitOne K (.ref C) u = some b ∧ Q (.bl b) H
theorem call_isO {X : Cx} {a : Addr} {oe : Obj} {cls : Value} {d : Option Addr} {pn : List (Addr × Obj)} (hz : Zc cls d oe) (hf : ∃ vs, oe.data = .fields vs) : CallR (X.suite a ((a, oe) :: pn)) (.builtin "isinstance") (rIsO X.K a cls d) := by
  intro pins s σ H xs us Q I r h
  obtain ⟨C, bm, c, u, b, rfl, ⟨rfl, hd⟩, k, T, cA, hB, hO, e, q⟩ := h
  rcases hd with rfl | ⟨dd, fs, rfl, hx⟩
  · obtain ⟨w1, w2, rfl, r1, r2⟩ := vals2 r
    obtain rfl : w1 = Value.ref a := r1
    have e2 := k.eq r2
    subst e2
    obtain ⟨ha, _⟩ := I.pin (a, oe) (List.mem_append_left _ List.mem_cons_self)
    obtain ⟨vs, hdt⟩ := hf
    have J : PySem.W.InstAt s.heap a oe C none := ⟨ha, hz.1, by unfold PySem.W.notCls; rw [hdt] <;> rfl, by rw [show oe.dict = none from hz.2] <;> trivial⟩
    exact PySem.W.kia_one (PySem.W.kitx_exc T.isCls T.ga T.gg (by rw [T.sub, hB]) T.cl cA.gs cA.tk (by rw [T.mro, hO])) I.kIn J e (fun z => nomatch z) fun tk => ⟨.bl b, H, I.tok tk, rfl, q⟩
  · exact call_isXd T cA hB hO hz hf pins s σ H _ _ Q I r ⟨rfl, c, u, b, dd, fs, rfl, k, e, rfl, hx, q⟩
end V4

set_option maxHeartbeats 4000000
/-! V4d: t[::-1] of a tuple; data made beside a hand -/
namespace V4
open PySem PySem.Spec PyProof.Rows L2 V1 V2 V3
section
variable {prog : Program} {w : World} {A : Around} {E : Value → Shared → Prop} {s : Shared}
theorem back_adjust (n : Nat) : Builtin.Slice.sliceAdjust none none (-1) (n : Int) = ((n : Int) - 1, -1) := by
  unfold Builtin.Slice.sliceAdjust
  simp
theorem back_places (n : Nat) : Builtin.Slice.slicePlaces ((n : Int) - 1) (-1) (-1) = n := by
  unfold Builtin.Slice.slicePlaces
  simp
  omega
theorem fm_map {α β : Type} {f : α → Option β} {g : α → β} : ∀ {l : List α}, (∀ m ∈ l, f m = some (g m)) → l.filterMap f = l.map g
  | [], _ => rfl
  | m :: l, h => by
    rw [List.filterMap_cons, h m List.mem_cons_self, List.map_cons, fm_map fun x hx => h x (List.mem_cons_of_mem _ hx)]
theorem back_pick (xs : Array Value) : ((List.range xs.size).filterMap fun (m : Nat) => xs[((xs.size : Int) - 1 + (m : Int) * (-1)).toNat]?).toArray = xs.toList.reverse.toArray := by
  congr 1
  have e : ∀ m ∈ List.range xs.size, xs[((xs.size : Int) - 1 + (m : Int) * (-1)).toNat]? = some (xs.toList.reverse.getD m .none) := by
    intro m hm
    have hm' := List.mem_range.mp hm
    have h1 : ((xs.size : Int) - 1 + (m : Int) * (-1)).toNat = xs.size - 1 - m := by omega
    rw [h1]
    have h2 : xs.size - 1 - m < xs.size := by omega
    rw [List.getD_eq_getElem?_getD, List.getElem?_reverse (by simpa using hm')]
    simp [h2]
  rw [fm_map e]
  refine List.ext_getElem (by simp) fun i h1 h2 => ?_
  simp at h1
  simp [List.getD, h1]
theorem back_applied {sl : Addr} {vs : Value} {n : Nat} {Q : Int × Int × Nat → Shared → Prop} (hs : s.heap.IsSliceOf sl .none .none vs) (ps : IsPart vs (some (-1))) (h : Q ((n : Int) - 1, -1, n) s) :
    wpAny (model prog w) A (Builtin.Slice.sliceApplied (.ref sl) (pure (n : Int))) Q E s := by
  obtain ⟨os, hos, hcs, hds⟩ := id hs
  unfold Builtin.Slice.sliceApplied Builtin.Slice.sliceFields
  refine wpAny_bind (wpAny_bind (wpAny_field hos hds (x := .none) rfl (wpAny_bind (wpAny_field hos hds (x := .none) rfl (wpAny_bind (wpAny_field hos hds (x := vs) rfl (wpAny_pure ?_)))))))
  refine wpAny_bind (HT.slicePart_ ps ?_)
  show wpAny _ _ (if ((-1 : Int) == 0) = true then _ else _) _ _ s
  rw [if_neg (by decide)]
  refine wpAny_bind (HT.slicePart_ .none (wpAny_bind (HT.slicePart_ .none (wpAny_bind (wpAny_pure ?_)))))
  show wpAny _ _ (match Builtin.Slice.sliceAdjust none none (-1) (n : Int) with | (lo, hi) => pure (lo, (-1 : Int), Builtin.Slice.slicePlaces lo hi (-1))) _ _ s
  rw [back_adjust n]
  show wpAny _ _ (pure ((n : Int) - 1, (-1 : Int), Builtin.Slice.slicePlaces ((n : Int) - 1) (-1) (-1))) _ _ s
  rw [back_places]
  exact wpAny_pure h
theorem getItem_tuple_back {t sl : Addr} {items : Array Value} {vs : Value} {Q : Value → Shared → Prop} (ht : IsTup s.heap t items) (hs : s.heap.IsSliceOf sl .none .none vs) (ps : IsPart vs (some (-1)))
    (h : Q (.ref s.heap.objs.size) { s with heap := s.heap.push { cls := .type "tuple", data := .seq items.toList.reverse.toArray } }) (small : items.size ≤ sizeLine) : wpAny (model prog w) A (getItem (.ref t) (.ref sl)) Q E s := by
  have fits : sizeOk (.seq items.toList.reverse.toArray) := by
    show items.toList.reverse.toArray.size ≤ sizeLine
    simp
    exact small
  obtain ⟨os, hos, hcs, hds⟩ := id hs
  have kind : s.TypeIs (.ref sl) "slice" := ⟨os, hos, hcs⟩
  unfold getItem
  try with_reducible refine wpAny_holding ?_
  first | refine wpAny_bind (wpAny_pure ?_) | skip
  refine wpAny_bind (wpAny_sequenceKey ht.typeIs (by decide) (wpAny_bind (wpAny_callSpecial?_slot (name := Str.ofString "__getitem__") ht.typeIs PyProof.Rows.slot_tuple_getitem (wpAny_call_entry PyProof.Rows.slot_tuple_getitem ht.typeIs entry_tuple_getitem ?_ (args_tuple_getitem _ _)))))
  show wpAny _ _ (Builtin.Tuple.tupleItemsOf (.ref t) >>= _) _ _ s
  refine wpAny_bind (tupleItemsOf_ ht (wpAny_bind (wpAny_typeOf kind ?_)))
  rw [if_pos (by decide)]
  refine wpAny_bind (back_applied hs ps ?_)
  have part : ¬ ((((items.size : Int) - 1) == 0 && (-1 : Int) == 1 && items.size == items.size) = true) := by
    rw [show ((-1 : Int) == 1) = false from rfl, Bool.and_false, Bool.false_and]
    decide
  show wpAny _ _ (if (((items.size : Int) - 1) == 0 && (-1 : Int) == 1 && items.size == items.size) = true then _ else _) _ _ s
  rw [if_neg part, back_pick]
  first
    | exact wpAny_bind (m := Builtin.Tuple.tupleExact _) (wpAny_newObj_type (wpAny_pure ⟨_, rfl, wpAny_pure h⟩) fits)
    | exact wpAny_bind (m := Builtin.Tuple.tupleExact _) (wpAny_newObj_type (wpAny_bind (wpAny_pure (wpAny_pure ⟨_, rfl, wpAny_pure h⟩))) fits)
    | exact wpAny_bind (wpAny_bind (m := Builtin.Tuple.tupleExact _) (wpAny_newObj_type (wpAny_pure (wpAny_pure ⟨_, rfl, wpAny_pure h⟩)) fits))
    | exact wpAny_bind (wpAny_bind (m := Builtin.Tuple.tupleExact _) (wpAny_newObj_type (wpAny_pure ⟨_, rfl, wpAny_pure h⟩) fits))
end
/-- t[::-1] -/
def tBackT (K : PySem.W.Frag) (te : TE) : TE := fun σ H Q => te σ H fun x H1 => ∃ a xs, x = .ref a ∧ SqT K H1 a xs ∧ ∀ p, H1 p = none → Q (.ref p) (upd H1 p (.tup xs.reverse))
theorem pe_backT {X : Cx} {e : Expr} {te : TE} {k : Nat} {p1 p2 p3 pos : Pos} (he : PE X e te) : PE X (.Subscript e (.Slice none none (some (.UnaryOp .USub (.Constant (.int 1) k p1) p2)) p3) pos) (tBackT X.K te) := by
  refine ⟨fun pins s σ H Q I h => Subscript_ (thn (he.run pins s σ H _ I h) ?_)⟩
  rintro v s1 ⟨x, H1, I1, r1, a, xs, rfl, hx, q⟩
  cases r1
  have step : PO X (some (.UnaryOp .USub (.Constant (.int 1) k p1) p2)) (tPart (tUn (rU fun i => .int (-i)) (tC (.int 1)))) := po_some (pe_un un_neg pe_int)
  refine wpAny_Slice (thn (po_none.run pins s1 σ H1 (fun o H2 => o = none ∧ H2 = H1) I1 ⟨rfl, rfl⟩) ?_)
  rintro vl s2 ⟨l, H2, I2, pl, rfl, rfl⟩
  cases pl
  refine thn (po_none.run pins s2 σ H2 (fun o H3 => o = none ∧ H3 = H2) I2 ⟨rfl, rfl⟩) ?_
  rintro vu s3 ⟨u, H3, I3, pu, rfl, rfl⟩
  cases pu
  refine thn (step.run pins s3 σ H3 (fun o H4 => o = some (-1) ∧ H4 = H3) I3 ⟨1, rfl, -1, rfl, rfl, rfl⟩) ?_
  rintro vs s4 ⟨o, H4, I4, ps, rfl, rfl⟩
  have I5 : Inv X pins σ H4 { s4 with heap := s4.heap.push { cls := .type "slice", data := .fields #[.none, .none, vs] } } := I4.kept (t' := s4.toks) fun b ob q => Heap.get?_push_of_some _ q
  obtain ⟨its, r, ht, hz⟩ := I5.tuple hx
  have len := r.length
  show wpAny (model X.prog X.w) X.A (subscriptTail e (.Slice none none (some (.UnaryOp .USub (.Constant (.int 1) k p1) p2)) p3) (.ref a) (.ref s4.heap.objs.size)) (EP X pins σ Q) X.xe { s4 with heap := s4.heap.push { cls := .type "slice", data := .fields #[.none, .none, vs] } }
  refine tail_any (ops := [.ref a, .ref s4.heap.objs.size]) ht.typeIs PyProof.Rows.slot_tuple_getitem.lookup ?_ (by with_unfolding_all rfl)
  refine getItem_tuple_back ht (Heap.IsSliceOf.new _ .none .none vs) ps ?_ (by rw [List.size_toArray]; omega)
  refine ⟨.ref _, _, I5.laid (t' := s4.toks) (o := .tup xs.reverse) (fun b ob q => Heap.get?_push_of_some _ q) (Nat.le_refl _) ?_, rfl, q _ (I5.hok.fresh (Nat.le_refl _))⟩
  exact ⟨by rw [List.length_reverse]; exact hz, _, r.reverse, IsTup.new _ _⟩
end V4

set_option maxHeartbeats 4000000
/-! V4e: data made beside a hand: of old and new parts; how long their texts are -/
namespace V4
open PySem PySem.Spec PyProof.Rows L2 V1 V2 V3
open Evl (sq_of st_of)
theorem DxAll.rep [CurK] {H : Hp} {vs : List V} {ds : List PyData} (h : DxAll H vs ds) : ∀ n : Nat, DxAll H (List.replicate n vs).flatten (List.replicate n ds).flatten
  | 0 => .nil
  | n + 1 => by
    rw [List.replicate_succ, List.replicate_succ, List.flatten_cons, List.flatten_cons]
    exact DxAll.app h (DxAll.rep h n)
theorem DxAll.snoc [CurK] {H : Hp} {v : V} {d : PyData} : ∀ {vs : List V} {ds : List PyData}, DxAll H vs ds → Dx H v d → DxAll H (vs ++ [v]) (ds ++ [d])
  | _, _, h, hv => DxAll.app h (.cons hv .nil)
theorem DxAll.back [CurK] {H : Hp} : ∀ {vs : List V} {ds : List PyData}, DxAll H vs ds → DxAll H vs.reverse ds.reverse
  | _, _, .nil => .nil
  | _, _, .cons one more => by
    rw [List.reverse_cons, List.reverse_cons]
    exact DxAll.snoc (DxAll.back more) one
/-- a part of a list, as a slice takes it -/
def cutD (ds : List PyData) (lo hi : Option Int) : List PyData := (ds.drop (HT.sIx ds.length 0 lo)).take (HT.sIx ds.length ds.length hi - HT.sIx ds.length 0 lo)
section
variable [CurK] {σ : L2.St} {H0 : Hp} {a : Addr} {d : PyData} {ds es : List PyData} {te t1 t2 : TE} {ta : TA}
theorem mky_of (ha : Held H0 a) (h : MkX te σ d) : MkY H0 a te σ d := fun H s Q k => h H Q fun v H' s' q => k v H' s' (Dx.same (newH_off (ha.same s)) _ _ q)
theorem mkya_nil : MkYA H0 a tNil σ [] := fun H _ _ k => k [] H (Same.refl H) .nil
theorem mkya_cons (h : MkY H0 a te σ d) (r : MkYA H0 a ta σ ds) : MkYA H0 a (tCons te ta) σ (d :: ds) := fun H s _ k => h H s _ fun v H1 s1 q1 => r H1 (s.trans s1) _ fun vs H2 s2 q2 =>
  k (v :: vs) H2 (s1.trans s2) (.cons (Dx.same (same_del s2) d v q1) q2)
theorem mky_tup (ha : Held H0 a) (r : MkYA H0 a ta σ ds) (hz : ds.length ≤ 1000) : MkY H0 a (tTup ta) σ (.tuple ds) := fun H s _ k => r H s _ fun vs H1 s1 q1 =>
  ⟨Nat.le_of_lt (small1000 (by rw [dxAll_len q1]; exact hz)), fun p n => k _ _ (s1.trans (same_new n)) (.tup (((ha.same s).same s1).off n upd_same) (DxAll.same (same_del (same_new n)) ds vs q1))⟩
theorem mky_lst (ha : Held H0 a) (r : MkYA H0 a ta σ ds) (hz : ds.length ≤ 1000) : MkY H0 a (tLstS ta) σ (.list ds) := fun H s _ k => r H s _ fun vs H1 s1 q1 =>
  ⟨Nat.le_of_lt (small1000 (by rw [dxAll_len q1]; exact hz)), fun p n low => k _ _ (s1.trans (same_new n)) (.lst (((ha.same s).same s1).off n upd_same) low (DxAll.same (same_del (same_new n)) ds vs q1))⟩
theorem mky_var {i : Nat} {v : V} (h : Dx (delH H0 a) v d) (hv : σ[i]? = some (some v)) : MkY H0 a (tVar i) σ d := fun H s Q k => ⟨v, hv, k v H (Same.refl H) (Dx.same (same_del s) _ _ h)⟩
theorem tup_at {H : Hp} {v : V} (h : Dx (delH H a) v (.tuple ds)) : ∃ p xs, v = .ref p ∧ H p = some (.tup xs) ∧ DxAll (delH H a) xs ds ∧ xs.length = ds.length := by
  obtain ⟨p, xs, rfl, e, r⟩ := Dx.tup_inv h
  exact ⟨p, xs, rfl, same_delH _ _ e, r, dxAll_len r⟩
theorem lst_at {H : Hp} {v : V} (h : Dx (delH H a) v (.list ds)) : ∃ p xs, v = .ref p ∧ H p = some (.lst xs) ∧ DxAll (delH H a) xs ds ∧ xs.length = ds.length := by
  obtain ⟨p, xs, rfl, e, _, r⟩ := Dx.lst_inv h
  exact ⟨p, xs, rfl, same_delH _ _ e, r, dxAll_len r⟩
/-- t + u, neither empty -/
theorem mky_cat (ha : Held H0 a) (h1 : MkY H0 a t1 σ (.tuple ds)) (h2 : MkY H0 a t2 σ (.tuple es)) (n1 : ds ≠ []) (n2 : es ≠ []) (l : ds.length + es.length ≤ 5000) : MkY H0 a (tOp (rCatT K) t1 t2) σ (.tuple (ds ++ es)) := fun H s Q k =>
  h1 H s _ fun v H1 s1 q1 => h2 H1 (s.trans s1) _ fun u H2 s2 q2 => by
    obtain ⟨p, xs, rfl, e1, r1, l1⟩ := tup_at (Dx.same (same_del s2) _ _ q1)
    obtain ⟨q, ys, rfl, e2, r2, l2⟩ := tup_at q2
    refine ⟨p, q, xs, ys, rfl, rfl, st_of e1, st_of e2, fun z => n1 (List.length_eq_zero_iff.mp (by rw [← l1, z]; rfl)), by rw [sizeLine_eq]; omega, fun z => absurd (List.length_eq_zero_iff.mp (by rw [← l2, z]; rfl)) n2, fun _ c nc => ?_⟩
    exact k _ _ ((s1.trans s2).trans (same_new nc)) (.tup ((((ha.same s).same s1).same s2).off nc upd_same) (DxAll.same (same_del (same_new nc)) _ _ (DxAll.app r1 r2)))
/-- t * k -/
theorem mky_rep {n : Nat} (ha : Held H0 a) (h1 : MkY H0 a t1 σ (.tuple ds)) (n1 : ds ≠ []) (k1 : 2 ≤ n) (k2 : n ≤ 1000) (l : ds.length ≤ 1000) : MkY H0 a (tOp (rRepT K) t1 (tC (.int ((n : Nat) : Int)))) σ (.tuple (List.replicate n ds).flatten) := fun H s Q k =>
  h1 H s _ fun v H1 s1 q1 => by
    obtain ⟨p, xs, rfl, e1, r1, l1⟩ := tup_at q1
    refine ⟨p, (n : Int), xs, rfl, rfl, st_of e1, fun z => n1 (List.length_eq_zero_iff.mp (by rw [← l1, z]; rfl)), by omega, by omega, by omega, fun c nc => ?_⟩
    rw [Int.toNat_natCast]
    exact k _ _ (s1.trans (same_new nc)) (.tup (((ha.same s).same s1).off nc upd_same) (DxAll.same (same_del (same_new nc)) _ _ (DxAll.rep r1 n)))
/-- t[::-1] -/
theorem mky_back (ha : Held H0 a) (h1 : MkY H0 a t1 σ (.tuple ds)) : MkY H0 a (tBackT K t1) σ (.tuple ds.reverse) := fun H s Q k =>
  h1 H s _ fun v H1 s1 q1 => by
    obtain ⟨p, xs, rfl, e1, r1, l1⟩ := tup_at q1
    exact ⟨p, xs, rfl, st_of e1, fun c nc => k _ _ (s1.trans (same_new nc)) (.tup (((ha.same s).same s1).off nc upd_same) (DxAll.same (same_del (same_new nc)) _ _ (DxAll.back r1)))⟩
/-- t[lo:hi], its bounds ints or left out -/
theorem mky_cut {tl th : TO} {lo hi : Option Int} (ha : Held H0 a) (h1 : MkY H0 a t1 σ (.tuple ds)) (hl : ∀ (H : Hp) (Q : Option Int → Hp → Prop), Q lo H → tl σ H Q) (hh : ∀ (H : Hp) (Q : Option Int → Hp → Prop), Q hi H → th σ H Q) :
    MkY H0 a (tSl (rSlA K) t1 tl th) σ (.tuple (cutD ds lo hi)) := fun H s Q k =>
  h1 H s _ fun v H1 s1 q1 => hl H1 _ (hh H1 _ (by
    obtain ⟨p, xs, rfl, e1, r1, l1⟩ := tup_at q1
    refine ⟨p, xs, rfl, st_of e1, fun whole => ?_, fun _ c nc => ?_⟩
    · have z : cutD ds lo hi = ds := by
        rw [l1] at whole
        unfold cutD
        rw [whole.1, whole.2]
        simp
      exact k _ _ s1 (by rw [z]; exact q1)
    · refine k _ _ (s1.trans (same_new nc)) (.tup (((ha.same s).same s1).off nc upd_same) (DxAll.same (same_del (same_new nc)) _ _ ?_))
      unfold cutV cutD
      rw [l1]
      exact DxAll.take _ (DxAll.drop _ r1)))
theorem cutD_take {ds : List PyData} {k : Nat} : cutD ds none (some ((k : Nat) : Int)) = ds.take k := by
  unfold cutD
  rw [HT.sIx_none, HT.sIx_nat]
  simp [Nat.min_comm]
theorem cutD_last {ds : List PyData} (h : ds ≠ []) : cutD ds (some (-1)) none = ds.drop (ds.length - 1) := by
  have l := List.length_pos_iff.mpr h
  unfold cutD
  rw [HT.sIx_none]
  have e : HT.sIx ds.length 0 (some (-1)) = ds.length - 1 := by
    unfold HT.sIx
    simp only
    rw [if_pos (by decide)]
    omega
  rw [e]
  exact List.take_of_length_le (by rw [List.length_drop]; omega)
/-- xs + ys of two lists -/
theorem mky_catL (ha : Held H0 a) (h1 : MkY H0 a t1 σ (.list ds)) (h2 : MkY H0 a t2 σ (.list es)) (l : ds.length + es.length ≤ 5000) : ∀ H, Same H0 H → ∀ Q : VK, (∀ p xs H', Same H H' → H p = none → H' p = some (.lst xs) → DxAll (delH H' a) xs (ds ++ es) → Q (.ref p) H') → tOp rCat t1 t2 σ H Q := fun H s Q k =>
  h1 H s _ fun v H1 s1 q1 => h2 H1 (s.trans s1) _ fun u H2 s2 q2 => by
    obtain ⟨p, xs, rfl, e1, r1, l1⟩ := lst_at (Dx.same (same_del s2) _ _ q1)
    obtain ⟨q, ys, rfl, e2, r2, l2⟩ := lst_at q2
    refine ⟨p, q, xs, ys, rfl, rfl, e1, e2, by rw [sizeLine_eq]; omega, fun c nc => ?_⟩
    exact k c _ _ ((s1.trans s2).trans (same_new nc)) (fresh_up (s1.trans s2) nc) upd_same (DxAll.same (same_del (same_new nc)) _ _ (DxAll.app r1 r2))
/-- list(t) -/
theorem mky_listof (ha : Held H0 a) (h1 : MkY H0 a t1 σ (.tuple ds)) : MkY H0 a (tCB (fun xs H Q => ∃ p ys, xs = [.ref p] ∧ (SqL K H p ys ∨ SqT K H p ys) ∧ ∀ l, H l = none → (l == sysModules) = false → Q (.ref l) (upd H l (.lst ys))) (tCons t1 tNil)) σ (.list ds) := fun H s Q k =>
  h1 H s _ fun v H1 s1 q1 => by
    obtain ⟨p, xs, rfl, e1, r1, l1⟩ := tup_at q1
    exact ⟨p, xs, rfl, .inr (st_of e1), fun c nc low => k _ _ (s1.trans (same_new nc)) (.lst (((ha.same s).same s1).off nc upd_same) low (DxAll.same (same_del (same_new nc)) _ _ r1))⟩
theorem mkx_pow19 : MkX (tOp (rI CPow fun i j => V.int (i ^ j.toNat)) (tC (.int 10)) (tC (.int 19))) σ (.int (10 ^ 19)) := fun H Q k => ⟨10, 19, rfl, rfl, ⟨by decide, by decide, by decide⟩, k _ H (Same.refl H) (.int _)⟩
theorem mkx_neg (i : Int) : MkX (tUn (rU fun i => V.int (-i)) (tC (.int i))) σ (.int (-i)) := fun H Q k => ⟨i, rfl, k _ H (Same.refl H) (.int _)⟩
theorem mkx_mulS (z : Str) (n : Int) (h1 : 1 ≤ n) (h2 : n ≤ 10000) (h3 : z.length ≤ 1000) : MkX (tOp rMulS (tC (.str z)) (tC (.int n))) σ (.str (Txt.mul z n)) := fun H Q k => ⟨z, n, rfl, rfl, h1, h2, h3, k _ H (Same.refl H) (.str _)⟩
theorem mkx_dictI (i : Int) (j : Int) : MkX (tDisp [(tC (.int i), tC (.int j))]) σ (.dict [(.int i, .int j)]) := fun H _ k p n =>
  ⟨upd_same, [(.inl i, .int j)], rfl, (by show 1 ≤ 15; decide), by
    rw [upd_upd]
    exact k _ _ (same_new n) (.dct (kvs := [(.inl i, .int j)]) (by rw [newH_at n]; exact upd_same) (.cons (k := .inl i) (.int j) .nil))⟩
theorem mkx_dictS (x y : Str) : MkX (tDisp [(tC (.str x), tC (.str y))]) σ (.dict [(.str x, .str y)]) := fun H _ k p n =>
  ⟨upd_same, [(.inr x, .str y)], rfl, (by show 1 ≤ 15; decide), by
    rw [upd_upd]
    exact k _ _ (same_new n) (.dct (kvs := [(.inr x, .str y)]) (by rw [newH_at n]; exact upd_same) (.cons (k := .inr x) (.str y) .nil))⟩
end
/-! data without objects -/
mutual
def noOb : PyData → Bool
  | .none | .bool _ | .int _ | .str _ => true
  | .list xs | .tuple xs => noObAll xs
  | .dict kvs => noObKv kvs
def noObAll : List PyData → Bool
  | [] => true
  | x :: xs => noOb x && noObAll xs
def noObKv : List (PyData × PyData) → Bool
  | [] => true
  | (.none, _) :: _ => false
  | (_, v) :: r => noOb v && noObKv r
end
mutual
theorem dq_of2 [CurK] {H : Hp} : ∀ (d : PyData) (v : V), noOb d = true → Dx H v d → Dq H v d
  | .none, _, _, h => by cases h; exact .non
  | .bool b, _, _, h => by cases h; exact .bl b
  | .int i, _, _, h => by cases h; exact .int i
  | .str x, _, _, h => by cases h; exact .str x
  | .list ds, _, p, h => by
    cases h with
    | lst at_ low rest => exact .lst at_ low (dqAll_of2 ds _ (by simpa [noOb] using p) rest)
  | .tuple ds, _, p, h => by
    cases h with
    | tup at_ rest => exact .tup at_ (dqAll_of2 ds _ (by simpa [noOb] using p) rest)
  | .dict ds, v, p, h => by
    have p' : noObKv ds = true := by simpa [noOb] using p
    generalize hd : PyData.dict ds = d at h
    cases h with
    | dct at_ rest =>
      cases hd
      exact .dct at_ (dqKv_of2 ds _ p' rest)
    | ob at_ ok =>
      cases hd
      cases p'
    | _ => cases hd
theorem dqAll_of2 [CurK] {H : Hp} : ∀ (ds : List PyData) (vs : List V), noObAll ds = true → DxAll H vs ds → DqAll H vs ds
  | [], _, _, h => by cases h; exact .nil
  | d :: ds, _, p, h => by
    cases h with
    | cons one more =>
      have p' : noOb d = true ∧ noObAll ds = true := by simpa [noObAll] using p
      exact .cons (dq_of2 d _ p'.1 one) (dqAll_of2 ds _ p'.2 more)
theorem dqKv_of2 [CurK] {H : Hp} : ∀ (ds : List (PyData × PyData)) (kvs : List (Key × V)), noObKv ds = true → DxKv H kvs ds → DqKv H kvs ds
  | [], _, _, h => by cases h; exact .nil
  | (k, d) :: ds, _, p, h => by
    cases h with
    | @cons key _ _ _ _ one more =>
      have p' : noOb d = true ∧ noObKv ds = true := by
        cases key with
        | inl i => simpa [noObKv, keyD] using p
        | inr x => simpa [noObKv, keyD] using p
      exact .cons (dq_of2 d _ p'.1 one) (dqKv_of2 ds _ p'.2 more)
end
theorem noObAll_of : ∀ {ds : List PyData}, (∀ d ∈ ds, noOb d = true) → noObAll ds = true
  | [], _ => rfl
  | d :: ds, h => by
    simp only [noObAll, h d List.mem_cons_self, noObAll_of fun x hx => h x (List.mem_cons_of_mem _ hx), Bool.and_self]
section
theorem good_tupN {ds : List PyData} {b n k : Nat} (h : ∀ d ∈ ds, Good d b n) (l : ds.length ≤ k) : Good (.tuple ds) (b + 1) ((n + 2) * k + 3) := by
  have all : ∀ es : List PyData, (∀ d ∈ es, Good d b n) → PyData.showableAll es = true ∧ PyData.depthAll es ≤ b ∧ ((PyData.shownAll es).map (·.length)).sum ≤ n * es.length ∧ (PyData.shownAll es).length = es.length := by
    intro es
    induction es with
    | nil => exact fun _ => ⟨rfl, Nat.zero_le _, Nat.zero_le _, rfl⟩
    | cons e es ih =>
      intro he
      obtain ⟨i1, i2, i3, i4⟩ := ih fun d hd => he d (List.mem_cons_of_mem _ hd)
      have g := he e List.mem_cons_self
      refine ⟨?_, ?_, ?_, ?_⟩
      · simp only [PyData.showableAll, g.sh, i1, Bool.and_self]
      · simp only [PyData.depthAll]
        have := g.dp
        omega
      · simp only [PyData.shownAll, List.map_cons, List.sum_cons, List.length_cons]
        have := g.ln
        rw [Nat.mul_succ]
        omega
      · simp only [PyData.shownAll, List.length_cons, i4]
  obtain ⟨a1, a2, a3, a4⟩ := all ds h
  refine ⟨by simpa only [PyData.showable] using a1, by simp only [PyData.depth]; omega, ?_⟩
  simp only [PyData.shown]
  have z := tupleText_len_le (PyData.shownAll ds)
  rw [a4] at z
  have m1 : n * ds.length ≤ n * k := Nat.mul_le_mul_left n l
  have m2 : (n + 2) * k = n * k + 2 * k := Nat.add_mul n 2 k
  omega
theorem good_lstN {ds : List PyData} {b n k : Nat} (h : ∀ d ∈ ds, Good d b n) (l : ds.length ≤ k) : Good (.list ds) (b + 1) ((n + 2) * k + 3) := by
  have g := good_tupN h l
  have all : ∀ es : List PyData, (∀ d ∈ es, Good d b n) → ((PyData.shownAll es).map (·.length)).sum ≤ n * es.length ∧ (PyData.shownAll es).length = es.length := by
    intro es
    induction es with
    | nil => exact fun _ => ⟨Nat.zero_le _, rfl⟩
    | cons e es ih =>
      intro he
      obtain ⟨i3, i4⟩ := ih fun d hd => he d (List.mem_cons_of_mem _ hd)
      have g := he e List.mem_cons_self
      refine ⟨?_, ?_⟩
      · simp only [PyData.shownAll, List.map_cons, List.sum_cons, List.length_cons]
        have := g.ln
        rw [Nat.mul_succ]
        omega
      · simp only [PyData.shownAll, List.length_cons, i4]
  obtain ⟨a3, a4⟩ := all ds h
  refine ⟨by simpa only [PyData.showable] using g.sh, by simpa only [PyData.depth] using g.dp, ?_⟩
  simp only [PyData.shown]
  have z := listText_len_le (PyData.shownAll ds)
  rw [a4] at z
  have m1 : n * ds.length ≤ n * k := Nat.mul_le_mul_left n l
  have m2 : (n + 2) * k = n * k + 2 * k := Nat.add_mul n 2 k
  omega
/-- data that can be shown, and has no objects -/
structure Shw (d : PyData) : Prop where
  no : noOb d = true
  gd : Good d 50 100000
def shwB (d : PyData) : Bool := noOb d && (d.showable && (decide (d.depth ≤ 50) && decide (d.shown.length ≤ 100000)))
theorem shw_of {d : PyData} (h : shwB d = true) : Shw d := by
  unfold shwB at h
  simp only [Bool.and_eq_true, decide_eq_true_eq] at h
  exact ⟨h.1, h.2.1, h.2.2.1, h.2.2.2⟩
theorem shw_tup {ds : List PyData} {b n k : Nat} (h : ∀ d ∈ ds, noOb d = true ∧ Good d b n) (l : ds.length ≤ k) (hb : b + 1 ≤ 50) (hn : (n + 2) * k + 3 ≤ 100000) : Shw (.tuple ds) :=
  ⟨by simpa only [noOb] using noObAll_of fun d hd => (h d hd).1, (good_tupN (fun d hd => (h d hd).2) l).mono hb hn⟩
theorem shw_lst {ds : List PyData} {b n k : Nat} (h : ∀ d ∈ ds, noOb d = true ∧ Good d b n) (l : ds.length ≤ k) (hb : b + 1 ≤ 50) (hn : (n + 2) * k + 3 ≤ 100000) : Shw (.list ds) :=
  ⟨by simpa only [noOb] using noObAll_of fun d hd => (h d hd).1, (good_lstN (fun d hd => (h d hd).2) l).mono hb hn⟩
end
end V4

set_option maxHeartbeats 4000000
/-! V4f: how often a flag stands in a list; a lambda without parameters handed to a def that catches what it lets out -/
namespace V4
open PySem PySem.Spec PyProof.Rows L2 V1 V2 V3 LamX
def rCntB (K : PySem.W.Frag) : V → List V → Hp → VK → Prop := fun x xs H Q => ∃ (p : Addr) (bs : List Bool) (k : Bool), x = .ref p ∧ xs = [.bl k] ∧ SqL K H p (bs.map V.bl) ∧ Q (.int (bs.count k : Nat)) H
theorem flat_bools : ∀ bs : List Bool, (bs.map V.bl).all flatV = true
  | [] => rfl
  | b :: bs => by
    rw [List.map_cons, List.all_cons, flat_bools bs]
    rfl
theorem cnt_bools {k : Bool} : ∀ {bs : List Bool} {us : List Value}, Vals (bs.map V.bl) us → us.countP (eqU (.bl k)) = bs.count k
  | [], _, .nil => rfl
  | b :: bs, _, .cons r t => by
    cases r
    rw [List.countP_cons, cnt_bools t, List.count_cons]
    have z : eqU (.bl k) (Value.bool b) = (b == k) := by cases b <;> cases k <;> rfl
    rw [z]
theorem mt_countB {X : Cx} : MtR X "list.count" (rCntB X.K) := by
  rintro pins s σ H x xs v us Q I rx rxs ⟨p, bs, k, rfl, rfl, hs, q⟩
  cases rx
  obtain ⟨u, rfl, ru⟩ := rxs.one
  obtain ⟨its, rv, ⟨⟨cls, dd, dat, sl⟩, n, ho, hc, hdn, hd⟩, _⟩ := I.list hs
  simp only at hc hd
  subst hc hd
  refine call_meets PySem.F.slot_list_count ⟨_, ho, rfl⟩ PySem.F.entry_list_count (PySem.F.args_list_count_2 _ _) (SeqAt.list_countAt p its.toArray n dd sl u (eqU (.bl k)))
    ⟨ho, fun y hy => mem_eqAt ru rfl rv (flat_bools bs) y (by simpa using hy), ?_⟩
  refine ⟨.int (bs.count k : Nat), H, I.tok _, ⟨s.toks, ?_⟩, q⟩
  show Value.int ((its.toArray.toList.countP (eqU (.bl k)) : Nat) : Int) s.toks = _
  rw [show its.toArray.toList = its from rfl, cnt_bools rv]
section
variable {X : Cx} {pins : List (Addr × Obj)} {σ : L2.St} {H : Hp} {s : Shared}
/-- the context of the def g that got a lambda -/
abbrev inP (P : Program) (w : World) (K : PySem.W.Frag) (mg : Str → Option Value) (base : Heap) (A : Around) (st : List Env) (Ng : List Str) (x : Str) (sg : Scope) (g : Addr) (cdg : Value) (s : Shared) (H : Hp) : Cx := cxOf C8.CX0 P w K mg base Ng x sg g cdg A st s H C8.E0
abbrev inCx (X : Cx) (Ng : List Str) (x : Str) (sg : Scope) (g : Addr) (cdg : Value) (s : Shared) (H : Hp) : Cx := inP X.prog X.w X.K X.mg X.base X.A X.stack Ng x sg g cdg s H
/-- the def calls what it got: what leaves the lambda goes where the def's clauses wish, by the slots -/
theorem pe_actS {Ng : List Str} {x : Str} {sg : Scope} {g f c' : Addr} {cdg pm ctv : Value} {params : Arguments} {body : Expr} {scope : Scope} {k i : Nat} {nm : Str} {pn : List (Addr × Obj)} {xe : Value → Shared → Prop} {W : WX} {t : XK → TE} {p1 p2 : Pos}
    (I : Inv X pins σ H s) (L : LamS X.env.scope scope) (hf : s.heap.get? f = some (PySem.W.kla_obj "<lambda>" (X.env.qual ++ "<lambda>") params body scope (cloFrom X.env.cells scope.names []) pm c' ctv)) (new : H f = none) (off : f ∉ frs X.stack)
    (bind : bindArgs (PySem.W.kla_fn "<lambda>" (X.env.qual ++ "<lambda>") params body scope (cloFrom X.env.cells scope.names []) pm (.ref c') ctv) ⟨[], []⟩ = pure [])
    (tk : Takes ((inCx X Ng x sg g cdg s H).tr pn xe) W) (room : Room (k + 1) (X.A.deeper (envOfC x sg s.heap.objs.size g cdg)))
    (inner : ∀ (E : XK) (A : Around) (outer : List Env) (s : Shared) (H : Hp), Room k (A.deeper (lamEnv X scope s.heap.objs.size f c')) → PE (lamCx X A outer s H E scope f c') body (t E))
    (at_ : Ng[i]? = some nm) (vis : Vis sg nm) (nd : (nm == ("__debug__" : Str)) = false := by decide) (nc : (nm == ("__classdict__" : Str)) = false := by decide) :
    PE ((inCx X Ng x sg g cdg s H).tr pn xe) (.Call (.Name nm p1) [] [] p2) (fun τ G Q => τ[i]? = some (some (.ref f)) ∧ G c' = some (CodeO c' (X.env.qual ++ "<lambda>")) ∧ t (WE W τ) σ G Q) := by
  refine ⟨fun pins2 s2 τ G Q J ⟨h1, h2, h3⟩ => ?_⟩
  refine wpAny_Call_Name_kw (thn ((pe_var (pos := p1) (i := i) at_ vis nd nc).run pins2 s2 τ G (fun v G' => v = .ref f ∧ G' = G) J ⟨.ref f, h1, rfl, rfl⟩) ?_)
  rintro u s3 ⟨v, G', J3, rv, rfl, rfl⟩
  cases rv
  have there : s3.heap.get? f = some (PySem.W.kla_obj "<lambda>" (X.env.qual ++ "<lambda>") params body scope (cloFrom X.env.cells scope.names []) pm c' ctv) := J3.base.keep f _ hf new off (fun z => nomatch (show f ∈ ([] : List Addr) from z))
  refine PySem.W.callWith_F0 ⟨_, _, _, _, there⟩ ?_
  have un : Un (frs X.stack) [] H G' s.heap s3.heap := J3.base
  obtain ⟨⟨oc, vs, tc, hoc, hdc, hvc⟩, _, _⟩ := J3.hok c' _ h2
  have run : codeAny (model X.prog X.w) (X.A.deeper (envOfC x sg s.heap.objs.size g cdg)) (.call (.ref f) ⟨[], []⟩) (CR (L2.CX X.prog X.w) (envOfC x sg s.heap.objs.size g cdg :: X.stack) X.prog X.w G' s3 Q (WE W τ)) s3 := by
    refine PySem.W.kla_callFunE room.depth there rfl L.co L.gen rfl ⟨c', oc, vs, tc, rfl, hoc, hdc, hvc⟩ ?_
    rw [bind]
    refine wpAny_pure (wpAny_newFunctionEnv (fun y hy => (L.own y hy).2) (fun y hy => absurd hy (by simp)) (fun g1 ns1 sb1 => ⟨J3.nolimit.fresh _ sb1, ?_⟩) L.kind)
    show codeAny _ _ (.expr body (lamEnv X scope s3.heap.objs.size f c')) _ _
    have kp : ∀ b o, s3.heap.get? b = some o → g1.get? b = some o := fun b o e => sb1.extBut b o (Nat.ne_of_lt (Heap.lt_size e)) (Heap.get?_push_of_some _ e)
    have J4 : Inv (lamCx X (X.A.deeper (envOfC x sg s.heap.objs.size g cdg)) (envOfC x sg s.heap.objs.size g cdg :: X.stack) s3 G' (WE W τ) scope f c') [] σ G' { s3 with heap := g1, toks := s3.toks + ([] : List (Str × Value)).length } :=
      lam_start2 I L J3.env0 room.hd un ns1 kp
    refine PySem.W.kla_codeExpr (wpAny_mono ((inner _ _ _ s3 G' (room.deeper _)).run [] _ _ G' Q J4 h3) (fun v s5 out => ?_) fun e s5 out => out)
    exact let ⟨w', G5, J5, r5, q5⟩ := out; ⟨w', G5, J5.os, J5.bare, J5.base, J5.hok, r5, q5⟩
  refine wpAny_call (codeAny_mono run fun r s5 out => ?_)
  match r, out with
  | .error e, out => exact passAt tk τ pins2 G' s3 e s5 J3 out
  | .ok (.ret u), out => exact J3.after out
  | .ok .next, out => exact out.elim
  | .ok .brk, out => exact out.elim
  | .ok .cont, out => exact out.elim
/-- what a def makes of the lambda that it got -/
def GivesP (P : Program) (w : World) (K : PySem.W.Frag) (mg : Str → Option Value) (base : Heap) (A : Around) (st : List Env) (Ng : List Str) (x : Str) (sg : Scope) (g : Addr) (cdg : Value) (bg : List Stmt) (nm : Str) (q : Str) (TT : (XK → Hp → VK → Prop) → Hp → VK → Prop) : Prop :=
  ∀ (f c' : Addr) (s : Shared) (H : Hp) (Q : VK) (tl : XK → Hp → VK → Prop), Room 30 (A.deeper (envOfC x sg s.heap.objs.size g cdg)) →
    (∀ (W : WX) (pn : List (Addr × Obj)) (xe : Value → Shared → Prop) (p1 p2 : Pos), Takes ((inP P w K mg base A st Ng x sg g cdg s H).tr pn xe) W →
      PE ((inP P w K mg base A st Ng x sg g cdg s H).tr pn xe) (.Call (.Name nm p1) [] [] p2) (fun τ G Q => τ[0]? = some (some (.ref f)) ∧ G c' = some (CodeO c' q) ∧ tl (WE W τ) G Q)) →
    H c' = some (CodeO c' q) → TT tl H Q → ∃ t, PSs (inP P w K mg base A st Ng x sg g cdg s H).nox bg t ∧ t { nx := fun _ H' => Q .non H', rt := Q } (L2.start Ng [.ref f]) H
def tLamS (ts : List (Addr × Str)) (TT : (XK → Hp → VK → Prop) → Hp → VK → Prop) (t : XK → TE) : TE := fun σ H Q => Tabs ts H ∧ ∀ H1, ExtN H H1 → Tabs ts H1 → TT (fun E G Q' => t E σ G Q') H1 Q
/-- x(lambda: body) -/
theorem pe_lamS {ts : List (Addr × Str)} {TT : (XK → Hp → VK → Prop) → Hp → VK → Prop} {x nm : Str} {g c P : Addr} {fd : FuncData} {pg : Arguments} {bg : List Stmt} {sg : Scope} {Ng : List Str} {params : Arguments} {body : Expr} {scope : Scope} {t : XK → TE} {p lpos pos : Pos}
    (F : FunD X.K x x pg bg sg [] [] g fd) (bd : L2.Binds X.K fd [nm] []) (hm : X.mg x = some (.ref g)) (Sg : FnScope Ng [nm] sg) (at_ : Ng[0]? = some nm)
    (give : ∀ cdg : Value, GivesP X.prog X.w X.K X.mg X.base X.A X.stack Ng x sg g cdg bg nm (X.env.qual ++ "<lambda>") TT)
    (TB : TabB X.base X.mg c P) (code : X.env.code = .ref c) (mem : (P, X.env.qual ++ "<lambda>") ∈ ts) (uniq : ∀ p ∈ ts, p.1 = P → p.2 = X.env.qual ++ "<lambda>") (room : Room 32 X.A) (L : LamS X.env.scope scope)
    (inner : ∀ (E : XK) (A : Around) (outer : List Env) (s : Shared) (H : Hp) (f c' : Addr), Room 29 (A.deeper (lamEnv X scope s.heap.objs.size f c')) → PE (lamCx X A outer s H E scope f c') body (t E))
    (hg : Gl X x := by rfl) (dfl : defaultsOf params X.env = ([], []) := by rfl)
    (bind : ∀ (q : Str) (cl : List (Str × Addr)) (pm cv ctv : Value), bindArgs (PySem.W.kla_fn "<lambda>" q params body scope cl pm cv ctv) ⟨[], []⟩ = pure [] := by intros; rfl)
    (hdb : (x == ("__debug__" : Str)) = false := by decide) (nd : (nm == ("__debug__" : Str)) = false := by decide) (nc : (nm == ("__classdict__" : Str)) = false := by decide) :
    PE X (.Call (.Name x p) [.Lambda params body scope lpos] [] pos) (tLamS ts TT t) := by
  obtain ⟨oc, od, dV, kV, doc, pm0, an, cdv, ct, osl, rfl, lk, cd, _, _⟩ := F.ex
  have vis : Vis sg nm := (Sg.par nm List.mem_cons_self).elim (fun z => Or.inl z) (fun z => Or.inr (Or.inl z))
  refine ⟨fun pins s σ H Q I ⟨hT, h⟩ => ?_⟩
  refine wpAny_Call_Name_kw (ld_glob I hg hm ?_ hdb)
  refine PySem.W.callWith_K (h₀ := X.base) I.ok.mod.kin F.kp ?_ (by rfl) (by rfl)
  show wpAny _ _ (spliced ((false, eval (.Lambda params body scope lpos) X.env) :: backTo pos (starEach [] X.env))) _ _ s
  refine Calls.spliced_cons (lam_make2 I TB code mem uniq hT dfl (L.has I.ok) fun f c' pm ctv H1 s1 I1 eN T1 hf new off co => Calls.spliced_nil ⟨I1.kIn, ?_⟩)
  have run : codeAny (model X.prog X.w) X.A (.call (.ref g) ⟨[.ref f], []⟩) (CR C8.CX0 X.stack X.prog X.w H1 s1 Q C8.E0) s1 := by
    refine run_ofS (k := 31) (N := Ng) (ps := [nm]) (us := [.ref f]) (vs := [.ref f]) lk cd Sg room I1.env0 (bd s1 [.ref f] I1.kIn rfl) (.cons rfl .nil) rfl fun r31 => ?_
    obtain ⟨t', ht, hq⟩ := give cdv f c' s1 H1 Q (fun E G Q' => t E σ G Q') (r31.mono (by decide)) (fun W pn xe p1 p2 tk => pe_actS (k := 29) (i := 0) I1 L hf new off (bind _ _ _ _ _) tk (r31.mono (by decide)) (fun E A outer s H r => inner E A outer s H f c' r) at_ vis nd nc) co (h H1 eN T1)
    exact ⟨t', ht.nox, hq⟩
  refine wpAny_call (codeAny_mono run fun r s2 out => ?_)
  match r, out with
  | .error e, out => exact (show False from out).elim
  | .ok (.ret u), out => exact I1.after out
  | .ok .next, out => exact out.elim
  | .ok .brk, out => exact out.elim
  | .ok .cont, out => exact out.elim
end
end V4

set_option maxHeartbeats 4000000
/-! V4g: what stays when all but the tables of codes stays -/
namespace V4
open PySem PySem.Spec PyProof.Rows L2 V1 V2 V3 LamX
section
variable [CurK] {H H' : Hp}
mutual
theorem dx_ext (e : ExtN H H') : ∀ (d : PyData) (v : V), Dx H v d → Dx H' v d
  | .none, _, h => by cases h; exact .non
  | .bool b, _, h => by cases h; exact .bl b
  | .int i, _, h => by cases h; exact .int i
  | .str x, _, h => by cases h; exact .str x
  | .list ds, _, h => by
    cases h with
    | lst there low more => exact .lst (e _ _ there fun _ z => nomatch z) low (dxs_ext e ds _ more)
  | .tuple ds, _, h => by
    cases h with
    | tup there more => exact .tup (e _ _ there fun _ z => nomatch z) (dxs_ext e ds _ more)
  | .dict ds, _, h => by
    cases h with
    | dct there more => exact .dct (e _ _ there fun _ z => nomatch z) (dxk_ext e ds _ more)
    | ob there ok => exact .ob (e _ _ there fun _ z => nomatch z) ok
theorem dxs_ext (e : ExtN H H') : ∀ (ds : List PyData) (vs : List V), DxAll H vs ds → DxAll H' vs ds
  | [], _, h => by cases h; exact .nil
  | d :: ds, _, h => by
    cases h with
    | cons one more => exact .cons (dx_ext e d _ one) (dxs_ext e ds _ more)
theorem dxk_ext (e : ExtN H H') : ∀ (ds : List (PyData × PyData)) (kvs : List (Key × V)), DxKv H kvs ds → DxKv H' kvs ds
  | [], _, h => by cases h; exact .nil
  | (k, d) :: ds, _, h => by
    cases h with
    | cons one more => exact .cons (dx_ext e d _ one) (dxk_ext e ds _ more)
end
end
theorem ext_of {H H' : Hp} (s : Same H H') : ExtN H H' := ExtN.of s
theorem ext_del {H H' : Hp} {a : Addr} (e : ExtN H H') : ExtN (delH H a) (delH H' a) := fun b o h n => by
  by_cases z : b = a
  · rw [z, delH_same] at h
    cases h
  · rw [delH_ne z] at h ⊢
    exact e b o h n
theorem ext_lst {H H' : Hp} {p : Addr} {xs : List V} (e : ExtN H H') (h : H p = some (.lst xs)) : H' p = some (.lst xs) := e p _ h fun _ z => nomatch z
theorem ext_tup {H H' : Hp} {p : Addr} {xs : List V} (e : ExtN H H') (h : H p = some (.tup xs)) : H' p = some (.tup xs) := e p _ h fun _ z => nomatch z
/-- tables stay where everything stays -/
theorem tabs_same {ts : List (Addr × Str)} {H H' : Hp} (t : Tabs ts H) (s : Same H H') : Tabs ts H' := t.ext s
theorem tabS_del {H : Hp} {p a : Addr} {q : Str} (h : TabS H p q) (n : H a ≠ none → ∃ xs, H a = some (.lst xs)) : True := trivial
end V4

set_option maxHeartbeats 4000000
/-! V4h: {k: v for a target in a walk}, its keys tuples of ints and texts. -/
namespace V4
open PySem PySem.Spec PyProof.Rows L2 V1 V2 V3
section
variable {X : Cx}
/-- so many turns, each with one store -/
def TurnsT (J : It) (g : TG) (tk tv : TE) (vs : List Nat) (σ : L2.St) (D : Addr) (n : Nat) (W : Nat → Hp → Prop) : Prop :=
  ∀ i H', i < n → W i H' → J.go i H' ∧ ∀ x H2, J.yld i H' x H2 → g x (wipe σ vs) H2 fun σ2 H3 => wipe σ2 vs = wipe σ vs ∧ tk σ2 H3 fun y H4 => tv σ2 H4 fun z H5 =>
    ∃ kvs k b, y = .ref b ∧ H5 b = some (.tup (k.map kV)) ∧ H5 D = some (.dT kvs) ∧ kvs.length < sizeLine ∧ W (i + 1) (upd H5 D (.dT (putK kvs k z)))
def tDcT (wi : TI) (g : TG) (tk tv : TE) (vs : List Nat) : TE := fun σ H Q => wi σ H fun J H1 => ∀ D, H1 D = none →
  ∃ (n : Nat) (W : Nat → Hp → Prop), W 0 (upd H1 D (.dT [])) ∧ (∀ H', W n H' → J.stop n H' ∧ Q (.ref D) H') ∧ TurnsT J g tk tv vs σ D n W
/-- the store of such a comprehension -/
theorem storeT {Y : Cx} {pins : List (Addr × Obj)} {σ : L2.St} {H : Hp} {s : Shared} {E : Value → Shared → Prop} {D b : Addr} {kvs : List (List Key × V)} {k : List Key} {v : V} {r : Value} {Q : Unit → Shared → Prop}
    (room : Y.A.units < cLine) (I : Inv Y pins σ H s) (eb : H b = some (.tup (k.map kV))) (eD : H D = some (.dT kvs)) (z : kvs.length < sizeLine) (rv : RelV v r)
    (h : ∀ s', Inv Y pins σ (upd H D (.dT (putK kvs k v))) s' → Q () s') : wpAny (model Y.prog Y.w) Y.A (dictSet D (.ref b) r) Q E s := by
  obtain ⟨_, low, xs, rel, dd⟩ := dt_of I.hok eD
  have lx : xs.length ≤ sizeLine := Paired.length rel ▸ Nat.le_of_lt z
  have ly : (putK kvs k v).length ≤ sizeLine := Nat.le_trans (length_putK kvs k v) z
  refine wpAny_dictSet_heap (knd := tupleKind (mixKind Y.prog Y.w)) (hsz := lx) room (key_of I.hok eb) dd fun g ⟨ob, es, ep, g1, g2, g3, g4, _, g6⟩ sb => h _ ?_
  have mu : Mut (H D) := by
    rw [eD]
    trivial
  refine d_write I mu sb ⟨ob, g1⟩ ⟨ly, low, _, (rel.put k eb rv).keeps fun c ys ec => ?_, ob, es, ep, g1, g2, g3, g4, g6⟩
  have cD : c ≠ D := fun q => by
    rw [q, eD] at ec
    cases ec
  rw [upd_ne cD]
  exact ec
/-- one turn of it, in its block -/
theorem turnT {Y : Cx} {tg kx vx : Expr} {J : It} {fp : List Addr} {it : Addr} {tn : Nat → Heap → Prop} {g : TG} {tk tv : TE} {vs : List Nat} {σ : L2.St} {D : Addr} {n : Nat} {W : Nat → Hp → Prop} (calm : Y.calm = true) (room : Y.A.units < cLine) (no : Y.xe = fun _ _ => False)
    (T : Turn Y.prog Y.w Y.K tg J fp it tn) (pg : PG Y tg g) (pk : PE Y kx tk) (pv : PE Y vx tv) (stat : ∀ {σ' H' s'}, Inv Y [] σ' H' s' → (∀ b ∈ fp, H' b = none) → ∀ b ∈ fp, FpOk Y [] H' b) (tt : TurnsT J g tk tv vs σ D n W)
    {i : Nat} {H' : Hp} {s' : Shared} (hi : i < n) (I : Inv Y [] (wipe σ vs) H' s') (st : tn i s'.heap) (nf : ∀ b ∈ fp, H' b = none) (w : W i H') :
    wpAny (model Y.prog Y.w) Y.A (pyNext (.ref it)) (fun r s1 => ∃ u, r = some u ∧ wpAny (model Y.prog Y.w) Y.A (letOwnedTupleGo tg (.ref it) u) (fun _ s2 =>
      wpAny (model Y.prog Y.w) Y.A (assign tg Y.env u) (fun _ s3 => wpAny (model Y.prog Y.w) Y.A (eval kx Y.env) (fun kv s4 => wpAny (model Y.prog Y.w) Y.A (eval vx Y.env) (fun vv s5 =>
        wpAny (model Y.prog Y.w) Y.A (dictSet D kv vv) (fun _ s6 => ∃ H6, Inv Y [] (wipe σ vs) H6 s6 ∧ tn (i + 1) s6.heap ∧ (∀ b ∈ fp, H6 b = none) ∧ W (i + 1) H6)
        (fun _ _ => False) s5) (fun _ _ => False) s4) (fun _ _ => False) s3) (fun _ _ => False) s2) (fun _ _ => False) s1) (fun _ _ => False) s' := by
  obtain ⟨go, step⟩ := tt i H' hi w
  refine thnF (T.item Y rfl rfl rfl calm i [] s' _ H' (fun _ _ => False) I (stat I nf) st go) fun r s1 ⟨u, er, q⟩ => ⟨u, er, thnF q fun _ s2 ⟨x, H2, I2, rx, y2, st2, n2⟩ => ?_⟩
  have Ip := I2.pinned (stat I2 n2) (T.obj _ _ st2)
  have a1 := pg.run _ s2 _ H2 x u _ Ip rx (step x H2 y2)
  rw [no] at a1
  refine thnF a1 fun _ s3 ⟨σ3, H3, I3, e3, q3⟩ => ?_
  have a2 := pk.run _ s3 σ3 H3 _ I3 q3
  rw [no] at a2
  refine thnF a2 fun kv s4 ⟨y, H4, I4, r4, q4⟩ => ?_
  have a3 := pv.run _ s4 σ3 H4 _ I4 q4
  rw [no] at a3
  refine thnF a3 fun vv s5 ⟨z, H5, I5, r5, kvs, k, b, ey, eb, eD, lz, w'⟩ => ?_
  subst ey
  obtain rfl : kv = Value.ref b := r4
  refine storeT room I5 eb eD lz r5 fun s6 I6 => ?_
  have held : ∀ c ∈ fp, ∀ o, s2.heap.get? c = some o → s6.heap.get? c = some o ∧ upd H5 D (.dT (putK kvs k z)) c = none := fun c hc o eo =>
    let pin := I6.pin (c, o) (List.mem_append_right _ (List.mem_append_right _ (mem_pinsAt hc eo)))
    ⟨pin.1, pin.2.1⟩
  refine ⟨_, I6.unpinned.weak (by rw [← e3, wipe_length]) fun j v ev => ?_, T.keep _ _ _ st2 fun c hc o eo => (held c hc o eo).1, fun c hc => ?_, w'⟩
  · rw [← e3] at ev
    exact (wipe_some ev).1
  · obtain ⟨o, eo, _⟩ := T.obj _ _ st2 c hc
    exact (held c hc o eo).2
theorem pe_dcT {kx vx tg iter : Expr} {scope : Scope} {own : List (Str × Nat)} {pos : Pos} {wi : TI} {g : TG} {tk tv : TE} (hc : X.calm = true) (room : X.A.units < cLine) (hN : X.N.Nodup) (hi : PI X tg iter wi) (ok : BlkOk X.N X.env.scope scope own)
    (hg : ∀ (s : Shared) (H : Hp) (C : Addr) (cl : List (Str × Addr)) (fp : List Addr), PG (X.blk s H scope (compEnvC scope cl C X.env) fp) tg g)
    (hk : ∀ (s : Shared) (H : Hp) (C : Addr) (cl : List (Str × Addr)) (fp : List Addr), PE (X.blk s H scope (compEnvC scope cl C X.env) fp) kx tk)
    (hv : ∀ (s : Shared) (H : Hp) (C : Addr) (cl : List (Str × Addr)) (fp : List Addr), PE (X.blk s H scope (compEnvC scope cl C X.env) fp) vx tv) (hs : ∀ x, foldedSetIterable iter X.env x = pure x := by intro _; rfl) :
    PE X (.DictComp kx vx [⟨tg, iter, [], 0⟩] scope pos) (tDcT wi g tk tv (own.map (·.2))) := by
  refine ⟨fun pins s σ H Q I h => ?_⟩
  rw [arm_eval_DictComp]
  have clo : ∀ y ∈ scope.names, y.2 = .free → ∃ c, X.env.cells.lookup y.1 = some c := fun y hy e => (ok.free y hy e).elim (fun z => I.ok.has _ (.inl z)) fun z => I.ok.has _ (.inr z)
  refine wpAny_comprehension_free (use := none) rfl hs (closure_ok clo) ok.kind (fun y hy e => (ok.uniq y hy).trans (congrArg some e)) (thn (hi.run pins s σ H _ I h) fun xv s1 hx => thn hx fun itv s2 got => ?_)
  obtain ⟨it, fp, tn, J, H2, rfl, I2, T, st2, f2, q⟩ := got
  refine wpAny_newObj_type (newEnv_comp ?_)
  -- the dict's place, and the heap with it
  obtain ⟨D, eD⟩ : ∃ D, D = s2.heap.objs.size := ⟨_, rfl⟩
  obtain ⟨n, W, w0, stop, tt⟩ := q D (I2.hok.fresh (Nat.le_of_eq eD.symm))
  obtain ⟨s3, e3⟩ : ∃ s3 : Shared, s3 = { s2 with heap := s2.heap.push { cls := .type "dict", data := .dict #[] } } := ⟨_, rfl⟩
  have heap3 : s3.heap = s2.heap.push { cls := .type "dict", data := .dict #[] } := congrArg Shared.heap e3
  have I3 : Inv X pins σ (upd H2 D (.dT [])) s3 := by
    rw [e3, eD]
    exact I2.laid (t' := s2.toks) (fun _ _ z => Heap.get?_push_of_some _ z) (Nat.le_refl _) (dt_empty s2.heap I2.big)
  have inFp : ∀ b ∈ fp, b < s2.heap.objs.size := fun b hb => (T.obj _ _ st2 b hb).elim fun o z => Heap.lt_size z.1
  have f3 : ∀ b ∈ fp, FpOk X pins (upd H2 D (.dT [])) b ∧ b < s3.heap.objs.size := fun b hb => by
    have lt := inFp b hb
    refine ⟨⟨?_, (f2 b hb).2⟩, by rw [heap3, Heap.size_push]; exact Nat.lt_succ_of_lt lt⟩
    rw [upd_ne (by rw [eD]; exact Nat.ne_of_lt lt)]
    exact (f2 b hb).1
  have I4 := block_start I3 ok hN f3
  have pg := hg s3 (upd H2 D (.dT [])) s3.heap.objs.size (cellsFrom (s3.heap.objs.size + 1) scope.names (cloFrom X.env.cells scope.names [])) fp
  have pk := hk s3 (upd H2 D (.dT [])) s3.heap.objs.size (cellsFrom (s3.heap.objs.size + 1) scope.names (cloFrom X.env.cells scope.names [])) fp
  have pv := hv s3 (upd H2 D (.dT [])) s3.heap.objs.size (cellsFrom (s3.heap.objs.size + 1) scope.names (cloFrom X.env.cells scope.names [])) fp
  have nf3 : ∀ b ∈ fp, (upd H2 D (.dT [])) b = none := fun b hb => (f3 b hb).1.1
  obtain ⟨ce, ece⟩ : ∃ ce, ce = compEnvC scope (cellsFrom (s3.heap.objs.size + 1) scope.names (cloFrom X.env.cells scope.names [])) s3.heap.objs.size X.env := ⟨_, rfl⟩
  obtain ⟨s4, e4⟩ : ∃ s4 : Shared, s4 = { s3 with heap := pushCells (s3.heap.push { cls := .type "dict", data := .dict #[] }) scope.names } := ⟨_, rfl⟩
  have place : ce.locals = s3.heap.objs.size := congrArg Env.locals ece
  rw [← ece, ← e4] at I4
  rw [← ece] at pg pk pv
  have st4 : tn 0 s4.heap := T.keep _ _ _ st2 fun b _ o e => by
    rw [e4]
    refine pushCells_keeps _ _ _ _ (Heap.get?_push_of_some _ ?_)
    rw [heap3]
    exact Heap.get?_push_of_some _ e
  have stat : ∀ {σ' : L2.St} {H' : Hp} {s' : Shared}, Inv (X.blk s3 (upd H2 D (.dT [])) scope ce fp) [] σ' H' s' → (∀ b ∈ fp, H' b = none) → ∀ b ∈ fp, FpOk (X.blk s3 (upd H2 D (.dT [])) scope ce fp) [] H' b := fun {σ' H' s'} I' hn b hb => by
    refine ⟨hn b hb, (I'.ok.exf b hb).1, I'.ok.exfs b hb, .inl hb, fun x c e => (I'.ok.exf b hb).2 x c e, fun p hp => ?_⟩
    cases (show p ∈ ([] : List (Addr × Obj)) ++ [] from hp)
  have loop : codeAny (model X.prog X.w) X.A (.compLoop (.DictComp kx vx [⟨tg, iter, [], 0⟩] scope pos) 0 (.ref it) (.ref D) ce) (compPost (model X.prog X.w) X.A X.xe none (fun v s' => ∃ y H', Inv X pins σ H' s' ∧ RelV y v ∧ Q y H') (.ref D) s3.heap.objs.size) s4 := by
    refine compLoop_anyD (fun left s' => ∃ i H', i + left = n ∧ Inv (X.blk s3 (upd H2 D (.dT [])) scope ce fp) [] (wipe σ (own.map (·.2))) H' s' ∧ tn i s'.heap ∧ (∀ b ∈ fp, H' b = none) ∧ W i H') ?_ n ⟨0, _, Nat.zero_add n, I4, st4, nf3, w0⟩
    rintro left s5 ⟨i, H5, il, I5, st5, n5, w5⟩
    cases left with
    | zero =>
      obtain rfl : i = n := il
      obtain ⟨halt, q5⟩ := stop H5 w5
      refine thnF (T.done (X.blk s3 (upd H2 D (.dT [])) scope ce fp) rfl rfl rfl hc i [] s5 _ H5 (fun _ _ => False) I5 (stat I5 n5) st5 halt) fun r s6 ⟨er, I6⟩ => ?_
      subst er
      have I7 : Inv X pins σ H5 s6 := I3.call' (ch := fp) I6.os I6.base I6.hok I6.bare fun b hb => ⟨(f3 b hb).1.2.2.2.1, (f3 b hb).1.2.1, (f3 b hb).1.2.2.2.2.1, (f3 b hb).1.2.2.2.2.2⟩
      have gone : H5 s3.heap.objs.size = none := by
        rw [← place]
        exact I6.free
      obtain ⟨m, hn, _⟩ := I6.loc
      have hn : s6.heap.Ns s3.heap.objs.size m := by
        rw [← place]
        exact hn
      obtain ⟨f0, f1, f2, f3, f4, f5⟩ := I3.fpOk (H' := H5) (Nat.le_refl _) gone
      exact ⟨m, hn, fun g sb => ⟨.ref D, H5, I7.turned (t' := s6.toks) (fun b o hb e => (sb.2 b hb).trans e) f0 f1 f3 f4 f5, rfl, q5⟩⟩
    | succ left =>
      refine thnF (turnT (Y := X.blk s3 (upd H2 D (.dT [])) scope ce fp) hc room rfl T pg pk pv stat tt (by omega) I5 st5 n5 w5) fun r s6 ⟨u, er, q6⟩ => ?_
      subst er
      refine thnF q6 fun _ s7 q7 => thnF q7 fun _ s8 q8 => wpAny_pure ?_
      rw [if_pos rfl]
      exact thnF q8 fun kv s9 q9 => thnF q9 fun vv s10 q10 => thnF q10 fun _ s11 ⟨H6, I6, st6, n6, w6⟩ => ⟨left, Nat.lt_succ_self left, i + 1, H6, by omega, I6, st6, n6, w6⟩
  have all := codeAny_compStart_dict loop (T.self X.A 0 _ _ _ st4 loop)
  subst e4 ece e3 eD
  exact all
end
end V4

set_option maxHeartbeats 4000000
/-! V4i: a lambda as a value. -/
namespace V4
open PySem PySem.Spec PyProof.Rows L2 V1 V2 V3 LamX
def tLamV (ts : List (Addr × Str)) : TE := fun _ H Q => Tabs ts H ∧ ∀ H1 f, ExtN H H1 → Tabs ts H1 → H1 f = none → Q (.ref f) H1
theorem pe_lamV {X : Cx} {ts : List (Addr × Str)} {c P : Addr} {params : Arguments} {body : Expr} {scope : Scope} {pos : Pos} (TB : TabB X.base X.mg c P) (code : X.env.code = .ref c) (mem : (P, X.env.qual ++ "<lambda>") ∈ ts)
    (uniq : ∀ p ∈ ts, p.1 = P → p.2 = X.env.qual ++ "<lambda>") (fr : ∀ y ∈ scope.names, y.2 = .free → X.env.scope.names.lookup y.1 = some .cell ∨ X.env.scope.names.lookup y.1 = some .free) (dfl : defaultsOf params X.env = ([], []) := by rfl) : PE X (.Lambda params body scope pos) (tLamV ts) :=
  ⟨fun pins s σ H Q I ⟨hT, h⟩ => lam_make2 I TB code mem uniq hT dfl (fun y hy e => (fr y hy e).elim (fun z => I.ok.has _ (.inl z)) fun z => I.ok.has _ (.inr z)) fun f c' pm ctv H1 s1 I1 eN T1 hf new off co => ⟨.ref f, H1, I1, rfl, h H1 f eN T1 new⟩⟩
end V4

set_option maxHeartbeats 4000000
/-! V4l: o.m(..) within try: what it lets out by the slots. -/
namespace V4
open PySem PySem.Spec PyProof.Rows L2 V1 V2 V3
def tMethE (C : Addr) (m : Str) (sp : Sp) (E : L2.St → XK) (ta : TE) (t : TA) : TE := fun σ H Q => tMeth C m sp [] (E σ) ta t σ H Q
theorem pe_methE {X : Cx} {CX : CXT} {k : Nat} {C f : Addr} {m : Str} {fd : FuncData} {ps : List Str} {sp : Sp} {E : L2.St → XK} {o e : Expr} {es : List Expr} {ta : TE} {t : TA} {apos pos : Pos} {pl : Sem Bool} (he : PE X o ta) (c : Cls X.K C) (hm : Meth X.K C m f)
    (F : FnOk X.prog X.w X.K X.mg X.base CX k f fd ps sp) (hr : Room k X.A) (hb : Binds X.K fd ps []) (hx : ∀ σ, PassesAt CX X σ (E σ)) (ha : PA X (e :: es) t)
    (st : starEach (e :: es) X.env = (false, eval e X.env) :: starEach es X.env := by rfl) (pn : (backTo pos (starEach es X.env)).any (·.1) = false := by rfl)
    (ev : eval (.Call (.Attribute o m apos) (e :: es) [] pos) X.env = (do let ov ← eval o X.env; standAt apos.atName; let (g, first) ← holding [ov] (getMethod ov m pl); callWith pos g first (backTo pos (starEach (e :: es) X.env)) (backToKw pos (keywordEach [] X.env))) := by rfl) :
    PE X (.Call (.Attribute o m apos) (e :: es) [] pos) (tMethE C m sp E ta t) := by
  constructor
  intro pins s σ H Q I h
  refine PySem.W.methodCall_KW (pl := pl) (thn (he.run pins s σ H _ I h) fun u s1 hh => ?_) ev
  obtain ⟨x, H1, J, rx, a, dx, fs, rfl, ea, l, q⟩ := hh
  cases rx
  refine getmeth_ok J ea c hm l (PySem.W.callWith_K (first := [.ref a]) (h₀ := X.base) I.ok.mod.kin hm.kp (thn (ha.run pos pins s1 σ H1 _ J q) fun us s2 gg => ?_) st pn)
  obtain ⟨vs, H2, J2, r, q2⟩ := gg
  rw [List.append_nil] at q2
  exact ⟨J2.kIn, run_fnS (us := .ref a :: us) (vs := .ref a :: vs) F hr hb (hx σ) J2 (.cons rfl r) q2⟩
end V4

set_option maxHeartbeats 4000000
/-! V4m: lists of data that are cut and put together, and tuples made of them. -/
namespace V4
open PySem PySem.Spec PyProof.Rows L2 V1 V2 V3
open Evl (sq_of st_of)
section
variable [CurK] {σ : L2.St} {H0 : Hp} {a : Addr} {ds es : List PyData} {te t1 t2 : TE}
/-- a list of these data comes -/
def MkL (H0 : Hp) (a : Addr) (te : TE) (σ : L2.St) (ds : List PyData) : Prop := ∀ H, Same H0 H → ∀ Q : VK, (∀ p xs H', Same H H' → p ≠ a → H' p = some (.lst xs) → DxAll (delH H' a) xs ds → Q (.ref p) H') → te σ H Q
theorem held_ne {H : Hp} {p : Addr} (ha : Held H a) (n : H p = none) : p ≠ a := fun z => by
  obtain ⟨o, e⟩ := ha
  rw [z, e] at n
  cases n
theorem mkl_var {i : Nat} {p : Addr} {xs : List V} (na : p ≠ a) (e : H0 p = some (.lst xs)) (r : DxAll (delH H0 a) xs ds) (hv : σ[i]? = some (some (.ref p))) : MkL H0 a (tVar i) σ ds := fun H s Q k =>
  ⟨_, hv, k p xs H (Same.refl H) na (s _ _ e) (DxAll.same (same_del s) _ _ r)⟩
theorem mkl_of (h : MkY H0 a te σ (.list ds)) : MkL H0 a te σ ds := fun H s Q k => h H s _ fun v H1 s1 q1 => by
  obtain ⟨p, xs, rfl, e, r⟩ : ∃ p xs, v = .ref p ∧ delH H1 a p = some (.lst xs) ∧ DxAll (delH H1 a) xs ds := by
    cases q1 with
    | lst e low r => exact ⟨_, _, rfl, e, r⟩
  have ne : p ≠ a := fun z => by
    rw [z, delH_same] at e
    cases e
  exact k p xs H1 s1 ne (by rw [delH_ne ne] at e; exact e) r
theorem mkl_cut {tl th : TO} {lo hi : Option Int} (ha : Held H0 a) (h1 : MkL H0 a t1 σ ds) (hl : ∀ (H : Hp) (Q : Option Int → Hp → Prop), Q lo H → tl σ H Q) (hh : ∀ (H : Hp) (Q : Option Int → Hp → Prop), Q hi H → th σ H Q) :
    MkL H0 a (tSl (rSlL K) t1 tl th) σ (cutD ds lo hi) := fun H s Q k =>
  h1 H s _ fun p xs H1 s1 na e1 r1 => hl H1 _ (hh H1 _ ⟨p, xs, rfl, sq_of e1, fun c nc => k c _ _ (s1.trans (same_new nc)) (held_ne ((ha.same s).same s1) nc) upd_same (DxAll.same (same_del (same_new nc)) _ _ (by
    unfold cutV cutD
    rw [dxAll_len r1]
    exact DxAll.take _ (DxAll.drop _ r1)))⟩)
theorem mkl_cat (ha : Held H0 a) (h1 : MkL H0 a t1 σ ds) (h2 : MkL H0 a t2 σ es) (l : ds.length + es.length ≤ 5000) : MkL H0 a (tOp rCat t1 t2) σ (ds ++ es) := fun H s Q k =>
  h1 H s _ fun p xs H1 s1 na e1 r1 => h2 H1 (s.trans s1) _ fun q ys H2 s2 nb e2 r2 => by
    have l1 := dxAll_len r1
    have l2 := dxAll_len r2
    refine ⟨p, q, xs, ys, rfl, rfl, s2 _ _ e1, e2, by rw [sizeLine_eq]; omega, fun c nc => ?_⟩
    exact k c _ _ ((s1.trans s2).trans (same_new nc)) (held_ne (ha.same (s.trans (s1.trans s2))) nc) upd_same (DxAll.same (same_del (same_new nc)) _ _ (DxAll.app (DxAll.same (same_del s2) _ _ r1) r2))
/-- tuple(xs) of a list -/
theorem mky_tupof (ha : Held H0 a) (h1 : MkL H0 a t1 σ ds) : MkY H0 a (tCB (fun xs H Q => ∃ p ys, xs = [.ref p] ∧ ((SqL K H p ys ∧ ∀ l, H l = none → Q (.ref l) (upd H l (.tup ys))) ∨ (SqT K H p ys ∧ Q (.ref p) H))) (tCons t1 tNil)) σ (.tuple ds) := fun H s Q k =>
  h1 H s _ fun p xs H1 s1 na e1 r1 => ⟨p, xs, rfl, .inl ⟨sq_of e1, fun c nc => k _ _ (s1.trans (same_new nc)) (.tup (((ha.same s).same s1).off nc upd_same) (DxAll.same (same_del (same_new nc)) _ _ r1))⟩⟩
/-- xs[i], there -/
theorem mky_ixL {ti : TE} {n : Nat} (h1 : MkL H0 a t1 σ ds) (hi : ∀ (H : Hp) (Q : VK), Q (.int ((n : Nat) : Int)) H → ti σ H Q) (hn : n < ds.length) : MkY H0 a (tOp (rIxL K) t1 ti) σ ds[n] := fun H s Q k =>
  h1 H s _ fun p xs H1 s1 na e1 r1 => by
    have lx := dxAll_len r1
    have hx : xs[n]? = some (xs[n]'(by omega)) := List.getElem?_eq_getElem (by omega)
    exact hi _ _ ⟨p, xs, _, xs[n]'(by omega), rfl, rfl, sq_of e1, atI_nat hx, k _ H1 s1 (DxAll.at r1 hx (List.getElem?_eq_getElem hn))⟩
end
end V4

set_option maxHeartbeats 4000000
/-! V4n: tuples of texts, compared within a sort, whatever kind the sort takes them for. -/
namespace V4
open PySem PySem.Spec PyProof.Rows L2 V1 V2 V3
/-- a tuple of these texts stands there -/
def TxT (h : Heap) (v : Value) (r : List Str) : Prop := ∃ a us, v = .ref a ∧ h.IsTuple a us.toArray ∧ Vals (r.map V.str) us
section
variable {A : Around} {s : Shared} {a b : Addr} {us ws : List Value} {r q : List Str} {prog : Program} {w : World}
theorem eq_at (r1 : Vals (r.map V.str) us) (r2 : Vals (q.map V.str) ws) : ∀ j (h1 : j < us.toArray.size) (h2 : j < ws.toArray.size), SeqAt.EqAt A s us.toArray[j] ws.toArray[j] (r.getD j Str.empty == q.getD j Str.empty) := fun j g1 g2 => by
  obtain ⟨t, z1⟩ := texts_at r1 j g1
  obtain ⟨t', z2⟩ := texts_at r2 j g2
  rw [z1, z2]
  exact SeqAt.EqAt.str_str _ _ _ _
theorem lt_at (r1 : Vals (r.map V.str) us) (r2 : Vals (q.map V.str) ws) : ∀ j (h1 : j < us.toArray.size) (h2 : j < ws.toArray.size), (r.getD j Str.empty == q.getD j Str.empty) = false → Ob.RcOp .Lt A s us.toArray[j] ws.toArray[j] (txLt (r.getD j Str.empty) (q.getD j Str.empty)) := fun j g1 g2 _ => by
  obtain ⟨t, z1⟩ := texts_at r1 j g1
  obtain ⟨t', z2⟩ := texts_at r2 j g2
  rw [z1, z2]
  exact fun P w E Q k => PyProof.Rows.lt_str k
theorem lex_rows (r1 : Vals (r.map V.str) us) (r2 : Vals (q.map V.str) ws) : Ob.lexAt (fun j => r.getD j Str.empty == q.getD j Str.empty) (fun j => txLt (r.getD j Str.empty) (q.getD j Str.empty)) (decide (us.toArray.size < ws.toArray.size)) 0 (min us.toArray.size ws.toArray.size) = rowLt r q := by
  have l1 : us.toArray.size = r.length := by rw [List.size_toArray, ← r1.length, List.length_map]
  have l2 : ws.toArray.size = q.length := by rw [List.size_toArray, ← r2.length, List.length_map]
  have key := lex_row txLt (fun a b => decide (a < b)) rowLt (fun a b => by simp) (fun ys => by cases ys <;> simp [rowLt]) (fun x xs => by simp [rowLt]) (fun _ _ _ _ => rfl) [] [] r q rfl
  simp only [List.nil_append, List.length_nil] at key
  rw [l1, l2]
  exact key
/-- taken for things of any kinds -/
theorem lt_general {v u : Value} {Q : Bool → Shared → Prop} {E : Value → Shared → Prop} (h1 : TxT s.heap v r) (h2 : TxT s.heap u q) (room : A.units < cLine) (h : Q (rowLt r q) s) : wpAny (model prog w) A (keyLt' general' v u) Q E s := by
  obtain ⟨a, us, rfl, p1, r1⟩ := h1
  obtain ⟨b, ws, rfl, p2, r2⟩ := h2
  have cmp := Ob.RcOp.tuples_lt (A := A) (s := s) p1 p2 room (eq_at r1 r2) (lt_at r1 r2)
  rw [lex_rows r1 r2] at cmp
  exact PySem.W.kat_one _ _ (cmp prog w E (PySem.W.BoolBack Q) h)
/-- taken for things of one kind -/
theorem lt_one {v u : Value} {Q : Bool → Shared → Prop} {E : Value → Shared → Prop} (h1 : TxT s.heap v r) (h2 : TxT s.heap u q) (room : A.units + 1 < cLine) (h : Q (rowLt r q) s) : wpAny (model prog w) A (keyLt' oneType' v u) Q E s := by
  obtain ⟨a, us, rfl, p1, r1⟩ := h1
  obtain ⟨b, ws, rfl, p2, r2⟩ := h2
  obtain ⟨⟨cls, dd, data, sl⟩, ho, hc, n, hd⟩ := id p1
  obtain ⟨⟨cls2, dd2, data2, sl2⟩, ho2, hc2, n2, hd2⟩ := id p2
  simp only at hc hd hc2 hd2
  subst hc hd hc2 hd2
  rw [keyLt'_oneType, oneLt'_eq]
  simp only [if_true]
  refine wpAny_bind (wpAny_cRoomFor (Nat.lt_of_succ_lt room) ?_)
  refine wpAny_bind (wpAny_callSpecialIfBound?_slot (T := "tuple") ⟨_, ho, rfl⟩ PySem.F.slot_tuple_lt (call_meets PySem.F.slot_tuple_lt ⟨_, ho, rfl⟩ PySem.F.entry_tuple_lt (PySem.F.args_tuple_lt_2 _ _) (Ob.tuple_ltAt a b us.toArray ws.toArray n n2 dd dd2 sl sl2 _ _) ⟨ho, ho2, eq_at r1 r2, lt_at r1 r2, ?_⟩))
  rw [lex_rows r1 r2]
  exact wpAny_truthy_bool h
/-- which comes first, what the lengths give being f -/
def gl : List Str → List Str → Bool → Bool
  | x :: r, y :: q, f => if (x == y) = true then gl r q f else txLt x y
  | _, _, f => f
theorem gl_len : ∀ r q : List Str, gl r q (decide (r.length < q.length)) = rowLt r q
  | [], [] => rfl
  | [], _ :: _ => rfl
  | _ :: _, [] => rfl
  | x :: r, y :: q => by
    show (if (x == y) = true then gl r q (decide (r.length + 1 < q.length + 1)) else txLt x y) = if (x == y) = true then rowLt r q else txLt x y
    rw [show decide (r.length + 1 < q.length + 1) = decide (r.length < q.length) from decide_eq_decide.mpr (by omega), gl_len r q]
theorem lex_go {k fin : Bool} {Q : Bool → Shared → Prop} : ∀ {r q : List Str} {us ws : List Value} (i : Nat), Vals (r.map V.str) us → Vals (q.map V.str) ws → Q (gl r q fin) s → PySem.W.KatLex prog w A k fin Q (us.zip ws) i s
  | [], _, _, _, i, .nil, _, h => h
  | _ :: _, [], _, _, i, .cons _ _, .nil, h => h
  | x :: r, y :: q, u :: us, v :: ws, i, .cons a1 r1, .cons a2 r2, h => by
    obtain ⟨t, rfl⟩ := a1
    obtain ⟨t', rfl⟩ := a2
    refine PySem.W.kat_cons (SeqAt.EqAt.str_str x t y t' prog w (fun _ _ => False) _ ?_)
    have h' : Q (if (x == y) = true then gl r q fin else txLt x y) s := h
    refine PySem.W.kat_go (fun e => PySem.W.kat_yes ?_) (fun e => PySem.W.kat_no ?_)
    · rw [if_pos e] at h'
      exact lex_go (i + 1) r1 r2 h'
    · rw [if_neg (by rw [e]; decide)] at h'
      exact PyProof.Rows.oneLt_any_str h'
/-- taken for tuples -/
theorem lt_tuples {k : Bool} {v u : Value} {Q : Bool → Shared → Prop} {E : Value → Shared → Prop} (h1 : TxT s.heap v r) (h2 : TxT s.heap u q) (h : Q (rowLt r q) s) : wpAny (model prog w) A (keyLt' (tuples' k) v u) Q E s := by
  obtain ⟨a, us, rfl, p1, r1⟩ := h1
  obtain ⟨b, ws, rfl, p2, r2⟩ := h2
  obtain ⟨o1, e1, c1, n1, d1⟩ := p1
  obtain ⟨o2, e2, c2, n2, d2⟩ := p2
  refine PySem.W.kat_lt e1 d1 e2 d2 (lex_go 0 r1 r2 ?_)
  have l1 : us.toArray.size = r.length := by rw [List.size_toArray, ← r1.length, List.length_map]
  have l2 : ws.toArray.size = q.length := by rw [List.size_toArray, ← r2.length, List.length_map]
  rw [l1, l2, gl_len]
  exact h
end
section
variable {M : Model} {A : Around} {s : Shared} {prog : Program} {w : World}
theorem firsts_go : ∀ vs : List Value, (∀ v ∈ vs, ∃ r, TxT s.heap v r) → ∃ fs : List (Option Value), fs.length = vs.length ∧ (∀ f ∈ fs, f = none ∨ ∃ x t, f = some (.str x t)) ∧ ∀ (E : Value → Shared → Prop) (Q : List (Option Value) → Shared → Prop), Q fs s → wpAny M A (vs.mapM firstOfTuple') Q E s
  | [], _ => ⟨[], rfl, fun _ h => absurd h List.not_mem_nil, fun E Q h => by rw [List.mapM_nil]; exact wpAny_pure h⟩
  | v :: vs, hv => by
    obtain ⟨r, a, us, rfl, p, rv⟩ := hv v List.mem_cons_self
    obtain ⟨fs, ln, ok, go⟩ := firsts_go vs fun v h => hv v (List.mem_cons_of_mem _ h)
    obtain ⟨o, eo, co, n, dn⟩ := p
    refine ⟨us.toArray[0]? :: fs, by rw [List.length_cons, ln, List.length_cons], fun f hf => ?_, fun E Q h => ?_⟩
    · rcases List.mem_cons.mp hf with rfl | hf
      · cases r with
        | nil => cases rv; exact .inl rfl
        | cons x r =>
          cases rv with | cons a1 _ =>
          obtain ⟨t, rfl⟩ := a1
          exact .inr ⟨x, t, rfl⟩
      · exact ok f hf
    · rw [List.mapM_cons]
      refine wpAny_bind ?_
      rw [PySem.W.kas_first_eq]
      refine wpAny_bind (PySem.W.Looks.here (show PySem.W.Looks M s.heap (typeOf (.ref a)) o.cls from (PySem.W.Looks.ld eo).andThen .now) ?_)
      rw [co, if_neg (by first | decide | simp)]
      refine wpAny_bind (listItems_at eo dn (wpAny_pure ?_))
      exact wpAny_bind (go E (fun bs s' => wpAny M A (pure (us.toArray[0]? :: bs)) Q E s') (wpAny_pure h))
theorem somes : ∀ {fs : List (Option Value)}, (∀ f ∈ fs, f = none ∨ ∃ x t, f = some (.str x t)) → (∀ f ∈ fs, f.isSome = true) → ∃ gs : List Value, fs = gs.map some ∧ ∀ g ∈ gs, ∃ x t, g = .str x t
  | [], _, _ => ⟨[], rfl, fun _ h => absurd h List.not_mem_nil⟩
  | f :: fs, h, k => by
    obtain ⟨gs, rfl, hg⟩ := somes (fs := fs) (fun f hf => h f (List.mem_cons_of_mem _ hf)) fun f hf => k f (List.mem_cons_of_mem _ hf)
    rcases h f List.mem_cons_self with rfl | ⟨x, t, rfl⟩
    · exact absurd (k none List.mem_cons_self) (by decide)
    · exact ⟨.str x t :: gs, rfl, fun g hg' => (List.mem_cons.mp hg').elim (fun e => ⟨x, t, e⟩) (hg g)⟩
theorem kinds {vs : List Value} (ne : 0 < vs.length) (hv : ∀ v ∈ vs, ∃ r, TxT s.heap v r) : ∃ κ, (κ = tuples' true ∨ κ = general' ∨ κ = oneType') ∧ ∀ (Q : SortKind → Shared → Prop) (E : Value → Shared → Prop), Q κ s → wpAny M A (keyKind' vs.toArray) Q E s := by
  obtain ⟨fs, ln, ok, go⟩ := firsts_go (M := M) (A := A) vs hv
  by_cases all : ∀ f ∈ fs, f.isSome = true
  · obtain ⟨gs, rfl, hg⟩ := somes ok all
    rw [List.length_map] at ln
    refine ⟨tuples' true, .inl rfl, fun Q E h => ?_⟩
    rw [kat_kind_eq, List.mapM_toArray, map_eq_pure_bind]
    refine wpAny_bind (wpAny_bind (go E _ (wpAny_pure ?_)))
    have c1 : ((gs.map some).toArray.all fun x => x.isSome) = true := by simp
    rw [if_pos c1]
    refine wpAny_bind (wpAny_rule ?_)
    have c2 : ((gs.map some).toArray.filterMap id) = gs.toArray := by simp
    rw [c2, oneTypeOnly'_eq, List.mapM_toArray, map_eq_pure_bind]
    refine wpAny_bind (wpAny_bind (wpAny_bind (PySem.W.kas_mapM (r := Value.type "str") _ (fun v m Q' hq => ?_) (wpAny_pure ?_))))
    · obtain ⟨x, t, rfl⟩ := hg v m
      exact (PySem.W.Looks.of_pure (h := s.heap) (M := M) rfl : PySem.W.Looks M s.heap (typeOf (.str x t)) (.type "str")).here hq
    · have c3 : ((gs.map fun _ => Value.type "str").toArray.all fun x => x == Value.type "str") = true := by
        simp only [List.all_toArray, List.all_map, List.all_eq_true]
        intro _ _
        rfl
      have c4 : (gs.map fun _ => Value.type "str").toArray[0]? = some (.type "str") := by
        obtain ⟨g, gr, rfl⟩ : ∃ g gr, gs = g :: gr := by
          match gs, ln with
          | [], ln => simp at ln; omega
          | g :: gr, _ => exact ⟨g, gr, rfl⟩
        simp
      rw [c4]
      simp only [c3, if_true]
      have c5 : (some (Value.type "str")).any (fun x => x != Value.type "tuple") = true := by first | rfl | decide | simp
      refine wpAny_pure (wpAny_pure ?_)
      rw [c5]
      exact h
  · have c1 : ¬ (fs.toArray.all fun x => x.isSome) = true := by
      simpa using all
    by_cases first : (fs.toArray[0]?.bind id).isSome = true
    · refine ⟨general', .inr (.inl rfl), fun Q E h => ?_⟩
      rw [kat_kind_eq, List.mapM_toArray, map_eq_pure_bind]
      refine wpAny_bind (wpAny_bind (go E _ (wpAny_pure ?_)))
      rw [if_neg c1, if_pos first]
      exact wpAny_pure h
    · refine ⟨oneType', .inr (.inr rfl), fun Q E h => ?_⟩
      rw [kat_kind_eq, List.mapM_toArray, map_eq_pure_bind]
      refine wpAny_bind (wpAny_bind (go E _ (wpAny_pure ?_)))
      rw [if_neg c1, if_neg first]
      rw [oneTypeOnly'_eq, List.mapM_toArray, map_eq_pure_bind]
      refine wpAny_bind (wpAny_bind (wpAny_bind (PySem.W.kas_mapM (r := Value.type "tuple") _ (fun v m Q' hq => ?_) (wpAny_pure ?_))))
      · obtain ⟨r, a, us, rfl, p, rv⟩ := hv v m
        obtain ⟨o, eo, co, n, dn⟩ := p
        have lk : PySem.W.Looks M s.heap (typeOf (.ref a)) o.cls := (PySem.W.Looks.ld eo).andThen .now
        rw [co] at lk
        exact lk.here hq
      · have c3 : ((vs.map fun _ => Value.type "tuple").toArray.all fun x => x == Value.type "tuple") = true := by
          simp only [List.all_toArray, List.all_map, List.all_eq_true]
          intro _ _
          rfl
        have c4 : (vs.map fun _ => Value.type "tuple").toArray[0]? = some (.type "tuple") := by
          obtain ⟨g, gr, rfl⟩ : ∃ g gr, vs = g :: gr := by
            match vs, ne with
            | g :: gr, _ => exact ⟨g, gr, rfl⟩
          simp
        rw [c4]
        simp only [c3, if_true]
        exact wpAny_pure (wpAny_pure h)
end
end V4

set_option maxHeartbeats 4000000
/-! V5a: a dict that stands in K from the top on. -/
namespace V5
open PySem PySem.Spec PyProof.Rows L2 V1 V2 V3
/-- the items of a tuple in K -/
def tupIn (K : PySem.W.Frag) (v : Value) : Option (List Value) := match v with
  | .ref a => match K.lookup a with
    | some ⟨.type "tuple", _, .seq its _, _⟩ => if its.size ≤ 1000 then some its.toList else none
    | _ => none
  | _ => none
def strIn : Value → Option Str
  | .str x _ => some x
  | _ => none
/-- the entries of a dict in K -/
def dictIn (K : PySem.W.Frag) (a : Addr) : Option (List DictEntry) := match K.lookup a with
  | some ⟨.type "dict", none, .dict es _, ⟨[]⟩⟩ => if a = sysModules then none else some es.toList
  | _ => none
theorem tupIn_of {K : PySem.W.Frag} {v : Value} {us : List Value} (h : tupIn K v = some us) : ∃ a, v = .ref a ∧ ∀ (H : Hp) (xs : List V), Vals xs us → SqT K H a xs := by
  unfold tupIn at h
  split at h
  · rename_i a
    split at h
    · rename_i d its n sl e
      split at h
      · rename_i l
        cases h
        exact ⟨a, rfl, fun H xs r => .inr ⟨_, its, n, e, rfl, rfl, Nat.le_trans l (by decide), r⟩⟩
      · cases h
    · cases h
  · cases h
theorem strIn_of {v : Value} {x : Str} (h : strIn v = some x) : RelV (.str x) v := by
  unfold strIn at h
  split at h
  · cases h
    exact ⟨_, rfl⟩
  · cases h
/-- a dict with texts as keys, in K -/
structure KD (K : PySem.W.Frag) (w : World) (a : Addr) (ks : List (Str × Value)) : Prop where
  ne : (a == sysModules) = false
  at_ : ∀ (P : Program) (h : Heap), K.In h → h.DictOf (mixKind P w) a (ks.map fun p => ((.inr p.1 : Key), p.2))
theorem kd_of {K : PySem.W.Frag} {w : World} {a : Addr} {es : List DictEntry} {ks : List (Str × Value)} (h : dictIn K a = some es) (hh : es.map (·.hash) = ks.map fun p => hashStr w p.1) (hk : es.map (fun e => strIn e.key) = ks.map fun p => some p.1) (hv : es.map (·.val) = ks.map (·.2))
    (nd : (ks.map (·.1)).Nodup) : KD K w a ks := by
  unfold dictIn at h
  split at h
  · rename_i ees ep e
    split at h
    · cases h
    · rename_i ne
      cases h
      refine ⟨beq_eq_false_iff_ne.mpr ne, fun P hp inK => ⟨_, ees, ep, inK _ _ e, ⟨rfl, rfl, rfl⟩, rfl, ?_, ?_, ?_⟩⟩
      · intro x hx
        obtain ⟨i, hi, rfl⟩ := List.getElem_of_mem (Array.mem_toList_iff.mpr hx)
        have li : i < ks.length := by
          have := congrArg List.length hv
          rw [List.length_map, List.length_map] at this
          omega
        have e1 := congrArg (fun l => l[i]?) hh
        have e2 := congrArg (fun l => l[i]?) hk
        simp only [List.getElem?_map, List.getElem?_eq_getElem hi, List.getElem?_eq_getElem li, Option.map_some, Option.some.injEq] at e1 e2
        refine ⟨.inr ks[i].1, kV_is (k := .inr ks[i].1) (strIn_of e2), e1⟩
      · have go : ∀ (es : List DictEntry) (ks : List (Str × Value)), es.map (fun e => strIn e.key) = ks.map (fun p => some p.1) → es.map (·.val) = ks.map (·.2) → PySem.Pairs (mixKind P w) es (ks.map fun p => ((.inr p.1 : Key), p.2)) := by
          intro es
          induction es with
          | nil => intro ks h1 _; cases ks with
            | nil => exact .nil
            | cons => cases h1
          | cons x xs ih => intro ks h1 h2; cases ks with
            | nil => cases h1
            | cons k ks =>
              rw [List.map_cons, List.map_cons] at h1 h2
              have a1 := List.cons.inj h1
              have a2 := List.cons.inj h2
              exact .cons (kV_is (k := .inr k.1) (strIn_of a1.1)) a2.1 (ih ks a1.2 a2.2)
        exact go _ _ hk hv
      · rw [List.map_map]
        have : (Prod.fst ∘ fun p : Str × Value => ((.inr p.1 : Key), p.2)) = (Sum.inr : Str → Key) ∘ (·.1) := rfl
        rw [this, ← List.map_map]
        exact List.Pairwise.map _ (fun x y h z => h (Sum.inr.inj z)) nd
  · cases h
def getK (ks : List (Str × Value)) (x : Str) : Option Value := (ks.find? fun p => decide (p.1 = x)).map (·.2)
theorem getK_at (ks : List (Str × Value)) (x : Str) : valueAt (ks.map fun p => ((.inr p.1 : Key), p.2)) (.inr x) = getK ks x := by
  induction ks with
  | nil => rfl
  | cons p ks ih =>
    unfold valueAt getK at ih ⊢
    rw [List.map_cons, List.find?_cons, List.find?_cons]
    by_cases e : p.1 = x
    · simp [e]
    · rw [show decide ((Sum.inr p.1 : Key) = Sum.inr x) = false from decide_eq_false fun z => e (Sum.inr.inj z), decide_eq_false e]
      exact ih
/-- d[x], x in d, x not in d: d in K -/
def tKGet (K : PySem.W.Frag) (w : World) (td ty : TE) : TE := fun σ H Q => td σ H fun x H1 => ty σ H1 fun y H2 => ∃ a ks k u v, x = .ref a ∧ KD K w a ks ∧ y = .str k ∧ getK ks k = some u ∧ RelV v u ∧ Q v H2
def rKNotIn (K : PySem.W.Frag) (w : World) : R2 := fun y x H Q => ∃ a ks k, x = .ref a ∧ KD K w a ks ∧ y = .str k ∧ Q (.bl (!(getK ks k).isSome)) H
def rKIn (K : PySem.W.Frag) (w : World) : R2 := fun y x H Q => ∃ a ks k, x = .ref a ∧ KD K w a ks ∧ y = .str k ∧ Q (.bl (getK ks k).isSome) H
section
variable {X : Cx}
theorem op_kNotIn : OpR X (compareOp .NotIn) (rKNotIn X.K X.w) := by
  intro pins s σ H x y v u Q I rx ry ⟨a, ks, k, ey, D, ex, q⟩
  subst ey ex
  cases ry
  have m := (D.at_ X.prog s.heap I.kIn).mapOf
  refine wpAny_notIn_of (k := (.inr k : Key)) (kV_is rx) D.ne m ?_
  rw [getK_at]
  exact ⟨.bl (!(getK ks k).isSome), H, I.tok _, rfl, q⟩
theorem op_kIn : OpR X (compareOp .In) (rKIn X.K X.w) := by
  intro pins s σ H x y v u Q I rx ry ⟨a, ks, k, ey, D, ex, q⟩
  subst ey ex
  cases ry
  have m := (D.at_ X.prog s.heap I.kIn).mapOf
  refine wpAny_in_of (k := (.inr k : Key)) (kV_is rx) D.ne m ?_
  rw [getK_at]
  exact ⟨.bl (getK ks k).isSome, H, I.tok _, rfl, q⟩
theorem pe_kget {o i : Expr} {pos : Pos} {td ty : TE} (ho : PE X o td) (hi : PE X i ty) (hs : NoSl i) : PE X (.Subscript o i pos) (tKGet X.K X.w td ty) := by
  constructor
  intro pins s σ H Q I h
  refine subD_of PySem.F.slot_dict_getitem.lookup hs (thn (ho.run pins s σ H _ I h) fun z s1 hh => ?_)
  obtain ⟨x, H1, I1, rx, q1⟩ := hh
  refine thn (hi.run pins s1 σ H1 _ I1 q1) fun iv s2 gg => ?_
  obtain ⟨y, H2, I2, ry, a, ks, k, u, v, ex, D, ey, gk, rv, q2⟩ := gg
  subst ex ey
  cases rx
  have m := D.at_ X.prog s2.heap I2.kIn
  exact ⟨m.typeIs, wpAny_getItem_of (k := (.inr k : Key)) (kV_is ry) m.mapOf (by rw [getK_at]; exact gk) ⟨v, H2, I2.tok _, rv, q2⟩⟩
end
end V5

set_option maxHeartbeats 4000000
/-! V5b: a lambda that outlives the def that makes it: its object and the one cell that it captured are tracked. -/
namespace V5
open PySem PySem.Spec PyProof.Rows L2 V1 V2 V3 LamX NdefX
structure LF where
  qual : Str
  params : Arguments
  body : Expr
  scope : Scope
  cl : List (Str × Addr)
  c : Addr
abbrev LF.fd (F : LF) (pm ctv : Value) : FuncData := PySem.W.kla_fn "<lambda>" F.qual F.params F.body F.scope F.cl pm (.ref F.c) ctv
abbrev LF.nf (F : LF) : NF := ⟨"<lambda>", F.qual, F.params, [], F.scope, F.cl, F.c⟩
def LamO (f : Addr) (F : LF) : HO := .ext fun h => ∃ (pm ctv : Value) (od : Option Addr) (sl : Array (Option Value)), h.get? f = some (⟨.type "function", od, .func (F.fd pm ctv), sl⟩ : Obj)
def CellO (c : Addr) (v : V) : HO := .ext fun h => ∃ u, RelV v u ∧ h.IsCell c (some u)
theorem cellO_not {c : Addr} {v : V} : (∀ xs, CellO c v ≠ .tup xs) ∧ (∀ o u, CellO c v ≠ .frz o u) ∧ (∀ ps, CellO c v ≠ .tbl ps) ∧ ∀ y, CellO c v ≠ .own y := by
  unfold CellO
  exact ⟨fun _ z => (nomatch z), fun _ _ z => (nomatch z), fun _ z => (nomatch z), fun _ z => (nomatch z)⟩
theorem lamO_at {P : Program} {w : World} {H : Hp} {h : Heap} {f : Addr} {F : LF} (ok : HOk P w H h) (e : H f = some (LamO f F)) : ∃ (pm ctv : Value) (od : Option Addr) (sl : Array (Option Value)), h.get? f = some (⟨.type "function", od, .func (F.fd pm ctv), sl⟩ : Obj) := (ok f _ e).1
theorem cellO_at {P : Program} {w : World} {H : Hp} {h : Heap} {c : Addr} {v : V} (ok : HOk P w H h) (e : H c = some (CellO c v)) : ∃ u, RelV v u ∧ h.IsCell c (some u) := (ok c _ e).1
theorem cellO_ok {P : Program} {w : World} {H : Hp} {h : Heap} {c : Addr} {v : V} {u : Value} (r : RelV v u) (i : h.IsCell c (some u)) : ObjOk P w H h c (CellO c v) :=
  ⟨⟨u, r, i⟩, let ⟨o, e, _⟩ := i; ⟨o, e⟩, fun _ _ ⟨u', r', o', e', d'⟩ st => ⟨u', r', o', st _ e', d'⟩⟩
/-! ### it is made -/
section
variable {X : Cx} {pins : List (Addr × Obj)} {σ : L2.St} {H : Hp} {s : Shared}
theorem inv_lam {F : LF} {pm ctv : Value} {t' : Nat} (I : Inv X pins σ H s) :
    Inv X pins σ (upd H s.heap.objs.size (LamO s.heap.objs.size F)) { s with heap := s.heap.push (PySem.W.kla_obj "<lambda>" F.qual F.params F.body F.scope F.cl pm F.c ctv), toks := t' } :=
  have at_ : (s.heap.push (PySem.W.kla_obj "<lambda>" F.qual F.params F.body F.scope F.cl pm F.c ctv)).get? s.heap.objs.size = some (PySem.W.kla_obj "<lambda>" F.qual F.params F.body F.scope F.cl pm F.c ctv) := Heap.get?_push_size _ rfl
  I.laid (a := s.heap.objs.size) (fun _ _ e => Heap.get?_push_of_some _ e) (Nat.le_refl _) ⟨⟨pm, ctv, _, _, at_⟩, ⟨_, at_⟩, fun _ _ ⟨p, t, d, l, z⟩ st => ⟨p, t, d, l, st _ z⟩⟩
theorem lam_mk {T : List (Addr × Str)} {c P : Addr} {params : Arguments} {body : Expr} {scope : Scope} {pos : Pos} {E : Value → Shared → Prop} {Q : Value → Shared → Prop} (I : Inv X pins σ H s) (TB : TabB X.base X.mg c P) (code : X.env.code = .ref c) (mem : (P, X.env.qual ++ "<lambda>") ∈ T)
    (uniq : ∀ p ∈ T, p.1 = P → p.2 = X.env.qual ++ "<lambda>") (tabs : Tabs T H) (dfl : defaultsOf params X.env = ([], [])) (fr : ∀ y ∈ scope.names, y.2 = .free → ∃ c, X.env.cells.lookup y.1 = some c)
    (k : ∀ (f c' : Addr) (H1 : Hp) (s' : Shared), Inv X pins σ (upd H1 f (LamO f ⟨X.env.qual ++ "<lambda>", params, body, scope, cloFrom X.env.cells scope.names [], c'⟩)) s' → ExtN H H1 → Tabs T H1 → H1 f = none → H1 c' = some (CodeO c' (X.env.qual ++ "<lambda>")) → Q (.ref f) s') :
    wpAny (model X.prog X.w) X.A (eval (.Lambda params body scope pos) X.env) Q E s := by
  obtain ⟨tb, atP, tri, known⟩ := tabs _ mem
  have heapP : s.heap.get? P = some { cls := .none, data := .fields tb } := I.hok P _ atP
  have names := I.mod.glob.keeps I.bk
  have blt := TB.bm.keeps I.bk
  have hd := TB.code.keeps I.bk
  have clo := closure_ok fr
  refine PySem.W.kla_eval dfl ?_
  cases hit : codeAmong pos tb.toList with
  | some cv =>
    obtain ⟨c', rfl, co⟩ := known pos cv hit
    refine PySem.W.kla_makeFunctionHit clo I.ok.glob names code hd heapP tri hit blt fun ctv g tk up le => ?_
    have J : Inv X pins σ H { s with heap := g, toks := tk } := I.kept up
    exact k _ c' H _ (inv_lam J) (ExtN.refl H) tabs (J.hok.fresh (Nat.le_refl _)) co
  | none =>
    refine PySem.W.kla_makeFunction clo I.ok.glob names code hd heapP tri hit TB.gP blt fun c' ctv g tk up ge lt rec tab => ?_
    obtain ⟨c2, oc, vs, t, ec, hoc, dc, vc⟩ := rec
    cases ec
    have fresh : H c' = none := I.hok.fresh ge
    have J := inv_table (t' := tk) (q := X.env.qual ++ "<lambda>") (more := #[rawInt pos.line, rawInt pos.col, .ref c']) (h' := g) I atP (fun b o nb e => up b o nb e) tab ge ⟨oc, vs, t, hoc, dc, vc⟩
    have ext : ExtN H (upd (upd H P (.tbl (tb ++ #[rawInt pos.line, rawInt pos.col, .ref c']))) c' (CodeO c' (X.env.qual ++ "<lambda>"))) := fun b o e n => by
      have n1 : b ≠ P := fun z => n tb (by rw [z, atP] at e; exact (Option.some.inj e).symm)
      rw [upd_ne (ne_of_none e fresh), upd_ne n1]
      exact e
    refine k _ c' _ _ (inv_lam J) ext (fun p hp => ?_) (J.hok.fresh (Nat.le_refl _)) upd_same
    by_cases e : p.1 = P
    · rw [uniq p hp e, e]
      have lst : (tb ++ #[rawInt pos.line, rawInt pos.col, .ref c']).toList = tb.toList ++ [rawInt pos.line, rawInt pos.col, .ref c'] := by simp
      refine ⟨_, by rw [upd_ne (ne_of_none atP fresh), upd_same], by rw [lst]; exact PySem.TriplesOk_snoc _ _ _ _ tri, fun p' cv hcv => ?_⟩
      rw [lst] at hcv
      rcases among_app _ tri hcv with z | z
      · obtain ⟨c0, e1, e2⟩ := known p' cv z
        exact ⟨c0, e1, ext _ _ e2 codeO_ne⟩
      · exact ⟨c', z, upd_same⟩
    · obtain ⟨ps', a1, a2, a3⟩ := tabs p hp
      refine ⟨ps', by rw [upd_ne (ne_of_none a1 fresh), upd_ne e]; exact a1, a2, fun p' cv hcv => ?_⟩
      obtain ⟨c0, e1, e2⟩ := a3 p' cv hcv
      exact ⟨c0, e1, ext _ _ e2 codeO_ne⟩
end
def tLamK (ts : List (Addr × Str)) (mk : Addr → LF) : TE := fun _ H Q => Tabs ts H ∧ ∀ H1 f c', ExtN H H1 → Tabs ts H1 → H1 f = none → H1 c' = some (CodeO c' (mk c').qual) → Q (.ref f) (upd H1 f (LamO f (mk c')))
theorem pe_lamK {X : Cx} {ts : List (Addr × Str)} {c P : Addr} {params : Arguments} {body : Expr} {scope : Scope} {pos : Pos} (TB : TabB X.base X.mg c P) (code : X.env.code = .ref c) (mem : (P, X.env.qual ++ "<lambda>") ∈ ts)
    (uniq : ∀ p ∈ ts, p.1 = P → p.2 = X.env.qual ++ "<lambda>") (fr : ∀ y ∈ scope.names, y.2 = .free → X.env.scope.names.lookup y.1 = some .cell ∨ X.env.scope.names.lookup y.1 = some .free) (dfl : defaultsOf params X.env = ([], []) := by rfl) :
    PE X (.Lambda params body scope pos) (tLamK ts fun c' => ⟨X.env.qual ++ "<lambda>", params, body, scope, cloFrom X.env.cells scope.names [], c'⟩) :=
  ⟨fun pins s σ H Q I ⟨hT, h⟩ => lam_mk I TB code mem uniq hT dfl (fun y hy e => (fr y hy e).elim (fun z => I.ok.has _ (.inl z)) fun z => I.ok.has _ (.inr z)) fun f c' H1 s1 I1 eN T1 new co => ⟨.ref f, _, I1, rfl, h H1 f c' eN T1 new co⟩⟩
/-! ### a tracked cell is laid aside for a call -/
section
variable {P : Program} {w : World} {H H' : Hp} {h h' : Heap} {c : Addr} {v : V} {fs : List Addr}
theorem hok_aside (ok : HOk P w H h) (e : H c = some (CellO c v)) : HOk P w (delH H c) h := fun a o ea => by
  have ne : a ≠ c := fun z => by
    rw [z, delH_same] at ea
    cases ea
  rw [delH_ne ne] at ea
  refine (ok a o ea).stay (fun _ _ _ z => z) (fun b z => ?_) fun b xs z => ?_
  · have nb : b ≠ c := fun q => by
      rw [q, e] at z
      exact cellO_not.2.2.2 a (Option.some.inj z)
    rw [delH_ne nb]
    exact z
  · have nb : b ≠ c := fun q => by
      rw [q, e] at z
      exact cellO_not.1 xs (Option.some.inj z)
    rw [delH_ne nb]
    exact z
theorem hok_back {u : Value} (ok : HOk P w H' h') (n : H' c = none) (r : RelV v u) (i : h'.IsCell c (some u)) : HOk P w (upd H' c (CellO c v)) h' := fun a o ea => by
  by_cases q : a = c
  · subst q
    rw [upd_same] at ea
    cases ea
    exact cellO_ok r i
  · rw [upd_ne q] at ea
    exact (ok a o ea).stay (fun _ _ _ z => z) (fun b z => by rw [upd_ne (ne_of_none z n)]; exact z) fun b xs z => by rw [upd_ne (ne_of_none z n)]; exact z
theorem un_back (e : H c = some (CellO c v)) (n : H' c = none) (un : Un fs [] (delH H c) H' h h') : Un fs [] H (upd H' c (CellO c v)) h h' where
  keep b o q z hb hx := un.keep b o q (by rw [delH_ne (fun y => by rw [y, e] at z; cases z)]; exact z) hb hx
  slot b o q z hb hx := un.slot b o q (by rw [delH_ne (fun y => by rw [y, e] at z; cases z)]; exact z) hb hx
  free b o q z hx := by
    have ne : b ≠ c := fun y => by
      rw [y, e] at z
      cases z
    rw [upd_ne ne]
    exact un.free b o q (by rw [delH_ne ne]; exact z) hx
  there b o q hx := un.there b o q hx
  tups b xs z := by
    have ne : b ≠ c := fun y => by
      rw [y, e] at z
      exact cellO_not.1 xs (Option.some.inj z)
    rw [upd_ne ne]
    exact un.tups b xs (by rw [delH_ne ne]; exact z)
  frzs b o u z := by
    have ne : b ≠ c := fun y => by
      rw [y, e] at z
      exact cellO_not.2.1 o u (Option.some.inj z)
    rw [upd_ne ne]
    exact un.frzs b o u (by rw [delH_ne ne]; exact z)
  tbls b ps z := by
    have ne : b ≠ c := fun y => by
      rw [y, e] at z
      exact cellO_not.2.2.1 ps (Option.some.inj z)
    rw [upd_ne ne]
    exact un.tbls b ps (by rw [delH_ne ne]; exact z)
end
/-! ### it is called -/
section
variable {P : Program} {w : World} {K : PySem.W.Frag} {mg : Str → Option Value} {base : Heap} {N ps : List Str} {y : Str} {F : LF} {f c : Addr} {A : Around} {outer : List Env} {s : Shared} {H : Hp} {us : List Value} {vs : List V} {v : V} {Q : VK} {k : Nat}
theorem run_lam (S : NScope N ps [y] F.scope) (hb : ∀ (pm ctv : Value) (us : List Value), us.length = ps.length → bindArgs (F.fd pm ctv) ⟨us, []⟩ = pure (ps.zip us)) (hr : Room (k + 1) A) (e0 : Env0 P w K mg base A outer s H) (hf : H f = some (LamO f F)) (hc : H F.c = some (CodeO F.c F.qual))
    (hcl : F.cl = [(y, c)]) (hv : H c = some (CellO c v)) (r : Vals vs us) (hl : vs.length = ps.length)
    (body : Room k (A.deeper (envF F.nf f s.heap.objs.size)) → ∃ te, PE (ncx C8.CX0 P w K mg base N F.nf f A outer s (delH H c) C8.E0) F.body te ∧ te (startF N vs [some v]) (delH H c) fun x H' => H' c = none → Q x (upd H' c (CellO c v))) :
    codeAny (model P w) A (.call (.ref f) ⟨us, []⟩) (CR C8.CX0 outer P w H s Q C8.E0) s := by
  obtain ⟨pm, ctv, od, sl, ho⟩ := lamO_at e0.hok hf
  obtain ⟨u, ru, cu⟩ := cellO_at e0.hok hv
  have lim : s.heap.NoLimit := e0.mod.nolimit.keeps fun b o e => (e0.bs b o e).1
  refine PySem.W.kla_callFunE hr.depth ho rfl S.co S.gen rfl (codeO_at e0.hok hc) ?_
  rw [hb pm ctv us (by rw [← r.length]; exact hl)]
  refine wpAny_pure (wpAny_newFunctionEnv S.nocell (fun ⟨n, _⟩ hy => S.par n (List.of_mem_zip hy).1) (fun g ns sb => ⟨lim.fresh _ sb, ?_⟩) S.kind)
  obtain ⟨te, pe, q⟩ := body (hr.deeper _)
  have e1 : Env0 P w K mg base A outer s (delH H c) := ⟨e0.frames, e0.mod, fun b o e => ⟨(e0.bs b o e).1, by
    unfold delH
    split
    · rfl
    · exact (e0.bs b o e).2⟩, e0.bsz, e0.funs, fun b e => by
    unfold delH
    split
    · rfl
    · exact e0.frf b e, hok_aside e0.hok hv, e0.bare⟩
  have C : CellsAt F.cl [y] [some v] s.heap (delH H c) := by
    rw [hcl]
    refine ⟨rfl, fun z d hd => ?_, fun x z d h1 h2 => ?_, fun i z hz => ?_⟩
    · simp only [List.lookup] at hd
      split at hd
      · cases hd
        exact ⟨delH_same, _, cu⟩
      · cases hd
    · have one : ∀ {a : Str}, [(y, c)].lookup a = some d → a = y := fun {a} h => by
        simp only [List.lookup] at h
        split at h
        · rename_i e
          simpa using e
        · cases h
      exact (one h1).trans (one h2).symm
    · have i0 : i = 0 := by
        rcases Nat.eq_zero_or_pos i with e | e
        · exact e
        · rw [List.getElem?_eq_none (by show 1 ≤ i; omega)] at hz
          cases hz
      subst i0
      obtain rfl : y = z := by simpa using hz
      exact ⟨c, by simp [List.lookup], fun v' hv' => by cases hv'; exact ⟨u, ru, cu⟩⟩
  have kp : ∀ b o, s.heap.get? b = some o → g.get? b = some o := fun b o e => sb.extBut b o (Nat.ne_of_lt (Heap.lt_size e)) (Heap.get?_push_of_some _ e)
  have I : Inv (ncx C8.CX0 P w K mg base N F.nf f A outer s (delH H c) C8.E0) [] (startF N vs [some v]) (delH H c) { s with heap := g, toks := s.toks + (ps.zip us).length } := inv_startN (F := F.nf) S hr.hd e1 hl r C ns kp
  refine PySem.W.kla_codeExpr (wpAny_mono (pe.run [] _ _ _ _ I q) (fun x s' hh => ?_) fun _ _ hh => hh)
  obtain ⟨x', H', J, rx, q2⟩ := hh
  have nc : c ∉ frs outer := fun z => by
    rw [e0.frf c z] at hv
    cases hv
  obtain ⟨oc, eo, dc⟩ := cu
  have there := J.base.keep c oc eo delH_same nc (fun z => absurd (show c ∈ ([] : List Addr) from z) List.not_mem_nil)
  have gone := J.base.free c oc eo delH_same (fun z => absurd (show c ∈ ([] : List Addr) from z) List.not_mem_nil)
  exact ⟨x', upd H' c (CellO c v), J.os, J.bare, un_back hv gone J.base, hok_back J.hok gone ru ⟨oc, there, dc⟩, rx, q2 gone⟩
end
end V5

set_option maxHeartbeats 4000000
/-! V5c: a suite's end told of its slots; a def whose captured parameter outlives it; a lambda held in a field is called; one method, several classes. -/
namespace V5
open PySem PySem.Spec PyProof.Rows L2 V1 V2 V3 LamX NdefX
abbrev ZR := V → L2.St → Hp → Prop
abbrev ZN := L2.St → Hp → Prop
def ZP (X : Cx) (pins : List (Addr × Obj)) (R : ZR) (N : ZN) : Flow → Shared → Prop
  | .ret u, s' => ∃ v σ' H', Inv X pins σ' H' s' ∧ RelV v u ∧ R v σ' H'
  | .next, s' => ∃ σ' H', Inv X pins σ' H' s' ∧ N σ' H'
  | _, _ => False
structure PZ (X : Cx) (b : List Stmt) (t : ZR → ZN → L2.St → Hp → Prop) : Prop where
  run : ∀ (pins : List (Addr × Obj)) (s : Shared) (σ : L2.St) (H : Hp) (R : ZR) (N : ZN), Inv X pins σ H s → t R N σ H → wpAny (model X.prog X.w) X.A (execs b X.env) (ZP X pins R N) X.xe s
section
variable {X : Cx} {rest a b : List Stmt} {st : Stmt} {e c : Expr} {pos : Pos} {te : TE} {tc : TT} {ts : TS} {z za zb : ZR → ZN → L2.St → Hp → Prop}
theorem pz_nil : PZ X [] fun _ N σ H => N σ H := ⟨fun _ _ σ H _ _ I q => wpAny_execs_nil ⟨σ, H, I, q⟩⟩
theorem pz_st (h : PS X st ts) (h2 : PZ X rest z) : PZ X (st :: rest) fun R N σ H => ts { nx := z R N, rt := fun _ _ => False } σ H :=
  ⟨fun pins s σ H R N I q => wpAny_execs_cons (thn (h.run pins s σ H _ I q) fun fl s1 o => by
    cases fl with
    | next => exact let ⟨σ', H', I', q'⟩ := o; h2.run pins s1 σ' H' R N I' q'
    | ret u => exact let ⟨_, _, _, _, _, q'⟩ := o; q'.elim
    | brk => exact let ⟨_, _, _, q'⟩ := o; q'.elim
    | cont => exact let ⟨_, _, _, q'⟩ := o; q'.elim)⟩
theorem pz_ret (h : PE X e te) : PZ X (.Return (some e) pos :: rest) fun R _ σ H => te σ H fun v H1 => R v σ H1 :=
  ⟨fun pins s σ H R N I q => wpAny_execs_cons (wpAny_Return_some (thn (h.run pins s σ H _ I q) fun u s1 o => let ⟨x, H1, I1, r1, q1⟩ := o; ⟨x, σ, H1, I1, r1, q1⟩))⟩
theorem pz_if (hc : PT X c tc) (ha : PZ X a za) (hb : PZ X b zb) (h2 : PZ X rest z) : PZ X (.If c a b pos :: rest) fun R N σ H => tc σ H fun d H1 => if d = true then za R (z R N) σ H1 else zb R (z R N) σ H1 := by
  constructor
  intro pins s σ H R N I q
  have after : ∀ (bl : List Stmt) (zz : ZR → ZN → L2.St → Hp → Prop), PZ X bl zz → ∀ s1 H1, Inv X pins σ H1 s1 → zz R (z R N) σ H1 → wpAny (model X.prog X.w) X.A (execs bl X.env) (fun fl s' => match fl with
      | .next => wpAny (model X.prog X.w) X.A (execs rest X.env) (ZP X pins R N) X.xe s'
      | fl => ZP X pins R N fl s') X.xe s1 := fun bl zz hz s1 H1 I1 q1 => thn (hz.run pins s1 σ H1 R (z R N) I1 q1) fun fl s' o => by
    cases fl with
    | next => exact let ⟨σ', H', I', q'⟩ := o; h2.run pins s' σ' H' R N I' q'
    | ret u => exact o
    | brk => exact o.elim
    | cont => exact o.elim
  refine wpAny_execs_cons (wpAny_If (thn (hc.run pins s σ H _ I q) fun d s1 o => ?_))
  obtain ⟨H1, I1, q1⟩ := o
  cases d with
  | true => exact thn (after a za ha s1 H1 I1 q1) fun fl s' o => by cases fl <;> exact o
  | false => exact thn (after b zb hb s1 H1 I1 q1) fun fl s' o => by cases fl <;> exact o
theorem PZ.nox (h : PZ X.nox b z) : PZ X b z := ⟨fun pins s σ H R N I q => wpAny_mono (h.run pins s σ H R N (I.wish _) q) (fun fl s' o => by
    cases fl with
    | next => exact let ⟨σ', H', I', q'⟩ := o; ⟨σ', H', I'.unwish, q'⟩
    | ret u => exact let ⟨v, σ', H', I', r, q'⟩ := o; ⟨v, σ', H', I'.unwish, r, q'⟩
    | brk => exact o.elim
    | cont => exact o.elim) fun _ _ z => False.elim z⟩
end
/-! ### the def whose parameter is captured -/
theorem un_more {fs : List Addr} {H H' : Hp} {h h' : Heap} {c : Addr} {o : HO} (un : Un fs [] H H' h h') (n : H' c = none) (fresh : h.objs.size ≤ c) : Un fs [] H (upd H' c o) h h' where
  keep b q e z hb hx := un.keep b q e z hb hx
  slot b q e z hb hx := un.slot b q e z hb hx
  free b q e z hx := by
    rw [upd_ne fun y => by rw [y] at e; exact Nat.lt_irrefl _ (Nat.lt_of_lt_of_le (Heap.lt_size e) fresh)]
    exact un.free b q e z hx
  there b q e hx := un.there b q e hx
  tups b xs z := by
    rw [upd_ne (ne_of_none (un.tups b xs z) n)]
    exact un.tups b xs z
  frzs b q u z := by
    rw [upd_ne (ne_of_none (un.frzs b q u z) n)]
    exact un.frzs b q u z
  tbls b ps z := by
    obtain ⟨more, e⟩ := un.tbls b ps z
    exact ⟨more, by rw [upd_ne (ne_of_none e n)]; exact e⟩
section
variable {P : Program} {w : World} {K : PySem.W.Frag} {mg : Str → Option Value} {base : Heap} {x qual : Str} {params : Arguments} {body : List Stmt} {scope : Scope} {dvs : List V} {kws : List (Str × V)} {f : Addr} {fd : FuncData}
theorem fn_cell {CX : CXT} {N ps : List Str} {k i : Nat} {y : Str} {sp : Sp} (F : FunD K x qual params body scope dvs kws f fd) (T : V4.LamD K f) (S : FnScope N ps scope) (len : ∀ vs H Q E, sp vs H Q E → vs.length = ps.length) (hN : N[i]? = some y) (hy : scope.names.lookup y = some .cell)
    (hcs : ∀ n, cellsFrom n scope.names [] = [(y, n)])
    (go : ∀ (A : Around) (outer : List Env) (s : Shared) (H : Hp) (vs : List V) (Q : VK) (E : XK), Room k (A.deeper (envOfC qual scope s.heap.objs.size f (.ref (V4.pairOf K f).1))) → sp vs H Q E →
      ∃ z, PZ (cxOf CX P w K mg base N qual scope f (.ref (V4.pairOf K f).1) A outer s H E) body z ∧ z (fun v σ' H' => ∃ u, σ'[i]? = some (some u) ∧ (H' (s.heap.objs.size + 1) = none → Q v (upd H' (s.heap.objs.size + 1) (CellO (s.heap.objs.size + 1) u)))) (fun _ _ => False) (start N vs) H) :
    FnOk P w K mg base CX (k + 1) f fd ps sp := by
  obtain ⟨oc, od, dV, kV, doc, pm, an, cdv, ct, osl, rfl, lk, cd, _, _⟩ := F.ex
  obtain rfl : cdv = .ref (V4.pairOf K f).1 := T.code _ _ lk rfl
  refine ⟨len, fun A outer s H args us vs Q E hr e0 bind rv hs => ?_⟩
  have inK : K.In s.heap := e0.mod.kin.keeps fun b o e => (e0.bs b o e).1
  have free : s.heap.NoLimit := e0.mod.nolimit.keeps fun b o e => (e0.bs b o e).1
  have kinds : ∀ q ∈ ps.zip us, scope.names.lookup q.1 = some .local ∨ (scope.names.lookup q.1 = some .cell ∧ ((cellsFrom (s.heap.objs.size + 1) scope.names []).lookup q.1).isSome = true) := by
    rintro ⟨n, v⟩ hq
    rcases S.par n (List.of_mem_zip hq).1 with z | z
    · exact .inl z
    · exact .inr ⟨z, PySem.W.cellsFrom_some _ _ _ (.inl z)⟩
  refine codeAny_call_function hr.depth (inK _ _ lk) rfl S.co S.gen rfl (PySem.W.codeRec_of inK cd) (bind _ _ _ _ ?_)
  refine wpAny_newFunctionEnv_cells S.kind kinds fun env he s1 st => ?_
  subst he
  refine ⟨free.keeps st.toInCall.keep, codeAny_func ?_⟩
  obtain ⟨z, hz, hq⟩ := go A outer s H vs Q E (hr.deeper _) hs
  have I : Inv (cxOf CX P w K mg base N qual scope f (.ref (V4.pairOf K f).1) A outer s H E) [] (start N vs) H s1 := inv_start S hr.hd e0 (len _ _ _ _ hs) rv st
  refine wpAny_mono (hz.run [] s1 _ H _ _ I hq) (fun fl s' o => ?_) fun _ _ o => o
  cases fl with
  | next => exact let ⟨_, _, _, q⟩ := o; q.elim
  | brk => exact o.elim
  | cont => exact o.elim
  | ret u' =>
    obtain ⟨v', σ', H', J, r', u, eu, q⟩ := o
    have kc : (cxOf CX P w K mg base N qual scope f (.ref (V4.pairOf K f).1) A outer s H E).env.cells.lookup y = some (s.heap.objs.size + 1) := by
      show (cellsFrom (s.heap.objs.size + 1) scope.names []).lookup y = _
      rw [hcs]
      simp [List.lookup]
    have gone := J.freeC y _ kc
    obtain ⟨m, _, at_⟩ := J.loc
    obtain ⟨uv, ru, lo⟩ := at_ i y u hN eu (.inr (.inl hy))
    have cell : s'.heap.IsCell (s.heap.objs.size + 1) (some uv) := by
      rcases lo with ⟨k', _⟩ | ⟨_, c, e, ic⟩
      · have k' : scope.names.lookup y = some .local := k'
        rw [hy] at k'
        cases k'
      · rw [kc] at e
        cases e
        exact ic
    exact ⟨v', _, J.os, J.bare, un_more J.base gone (Nat.le_succ _), hok_back J.hok gone ru cell, r', q gone⟩
end
/-! ### the call of a lambda that a field holds -/
structure LOk (P : Program) (w : World) (K : PySem.W.Frag) (mg : Str → Option Value) (base : Heap) (k : Nat) (mk : Addr → Addr → LF) (ps : List Str) (sp : V → Sp) : Prop where
  len : ∀ v vs H Q E, sp v vs H Q E → vs.length = ps.length
  run : ∀ (A : Around) (outer : List Env) (s : Shared) (H : Hp) (us : List Value) (vs : List V) (f c c' : Addr) (v : V) (Q : VK), Room k A → Env0 P w K mg base A outer s H → H f = some (LamO f (mk c c')) → H c' = some (CodeO c' (mk c c').qual) → H c = some (CellO c v) → Vals vs us →
    sp v vs (delH H c) (fun x H' => H' c = none → Q x (upd H' c (CellO c v))) C8.E0 → codeAny (model P w) A (.call (.ref f) ⟨us, []⟩) (CR C8.CX0 outer P w H s Q C8.E0) s
theorem lok_of {P : Program} {w : World} {K : PySem.W.Frag} {mg : Str → Option Value} {base : Heap} {k : Nat} {N ps : List Str} {y qual : Str} {params : Arguments} {body : Expr} {scope : Scope} {sp : V → Sp} (S : NScope N ps [y] scope)
    (hb : ∀ (cl : List (Str × Addr)) (c : Addr) (pm ctv : Value) (us : List Value), us.length = ps.length → bindArgs ((⟨qual, params, body, scope, cl, c⟩ : LF).fd pm ctv) ⟨us, []⟩ = pure (ps.zip us)) (len : ∀ v vs H Q E, sp v vs H Q E → vs.length = ps.length)
    (go : ∀ (A : Around) (outer : List Env) (s : Shared) (H : Hp) (vs : List V) (f c c' : Addr) (v : V) (Q : VK), Room k (A.deeper (envF (⟨qual, params, body, scope, [(y, c)], c'⟩ : LF).nf f s.heap.objs.size)) → sp v vs H Q C8.E0 →
      ∃ te, PE (ncx C8.CX0 P w K mg base N (⟨qual, params, body, scope, [(y, c)], c'⟩ : LF).nf f A outer s H C8.E0) body te ∧ te (startF N vs [some v]) H Q) :
    LOk P w K mg base (k + 1) (fun c c' => ⟨qual, params, body, scope, [(y, c)], c'⟩) ps sp :=
  ⟨len, fun A outer s H us vs f c c' v Q hr e0 hf hc hv r q => run_lam (F := ⟨qual, params, body, scope, [(y, c)], c'⟩) S (hb _ _) hr e0 hf hc rfl hv r (len _ _ _ _ _ q) fun hr' => go A outer s (delH H c) vs f c c' v _ hr' q⟩
def tFldL (K : PySem.W.Frag) (m : Str) (mk : Addr → Addr → LF) (sp : V → Sp) (ta : TE) (t : TA) : TE := fun σ H Q => ta σ H fun x H1 => ∃ a C dx fs f c c' v, x = .ref a ∧ H1 a = some (.ins C dx fs) ∧ Cls K C ∧ NoAttr K C m ∧ fs.lookup m = some (.ref f) ∧ H1 f = some (LamO f (mk c c')) ∧
  t σ H1 fun vs H2 => H2 f = some (LamO f (mk c c')) ∧ H2 c' = some (CodeO c' (mk c c').qual) ∧ H2 c = some (CellO c v) ∧ sp v vs (delH H2 c) (fun x H' => H' c = none → Q x (upd H' c (CellO c v))) C8.E0
section
variable {X : Cx} {k : Nat} {ps : List Str} {mk : Addr → Addr → LF} {sp : V → Sp} {m : Str} {pos apos : Pos} {e o : Expr} {es : List Expr} {ta : TE} {t : TA}
theorem lam_fnAt {pins : List (Addr × Obj)} {σ : L2.St} {H : Hp} {s : Shared} {f : Addr} {F : LF} (I : Inv X pins σ H s) (e : H f = some (LamO f F)) : PySem.W.FnAt f s.heap := by
  obtain ⟨pm, ctv, od, sl, z⟩ := lamO_at I.hok e
  exact ⟨_, od, _, sl, z⟩
theorem pe_fldL {pl : Sem Bool} (he : PE X o ta) (L : LOk X.prog X.w X.K X.mg X.base k mk ps sp) (hr : Room k X.A) (ha : PA X (e :: es) t)
    (st : starEach (e :: es) X.env = (false, eval e X.env) :: starEach es X.env := by rfl) (pn : (backTo pos (starEach es X.env)).any (·.1) = false := by rfl)
    (ev : eval (.Call (.Attribute o m apos) (e :: es) [] pos) X.env = (do let ov ← eval o X.env; standAt apos.atName; let (g, first) ← holding [ov] (getMethod ov m pl); callWith pos g first (backTo pos (starEach (e :: es) X.env)) (backToKw pos (keywordEach [] X.env))) := by rfl) :
    PE X (.Call (.Attribute o m apos) (e :: es) [] pos) (tFldL X.K m mk sp ta t) := by
  constructor
  intro pins s σ H Q I h
  refine PySem.W.methodCall_KW (pl := pl) (thn (he.run pins s σ H _ I h) fun u s1 hh => ?_) ev
  obtain ⟨x, H1, J, rx, a, C, dx, fs, f, c, c', v, rfl, ea, cC, n, l, lf, q⟩ := hh
  cases rx
  obtain ⟨mA, O, r, _, _, _⟩ := ins_get J.hok ea
  obtain ⟨w', hw, rw'⟩ := RelO.some_of (v := .ref f) (o := mA m) (by rw [← l]; exact r m)
  cases rw'
  obtain ⟨od, O', hl⟩ := O.look
  refine PySem.W.method_usual J.kIn O' (PySem.W.plainGet_of (cC.get m)).1 (PySem.W.plainGet_of (cC.get m)).2 n rfl ?_
  refine PySem.W.get_value J.kIn O' (PySem.W.plainGet_of (cC.get m)).1 (PySem.W.findObj_own cC.hd n rfl (by rw [hl, hw])) rfl ?_
  have J2 := J.tok (s.toks)
  refine PySem.W.callWith_F (first := []) (lam_fnAt (J.tok _) lf) (thn (ha.run pos pins _ σ H1 _ (J.tok _) q) fun us s2 gg => ?_) st pn
  obtain ⟨vs, H2, I2, r2, h1, h2, h3, q2⟩ := gg
  refine ⟨lam_fnAt I2 h1, wpAny_call (codeAny_mono (L.run X.A X.stack s2 H2 us vs f c c' v Q hr I2.env0 h1 h2 h3 r2 q2) fun res s3 out => ?_)⟩
  cases res with
  | error e => exact (show False from out).elim
  | ok fl =>
    cases fl with
    | ret u => exact I2.after out
    | next => exact False.elim out
    | brk => exact False.elim out
    | cont => exact False.elim out
end
/-! ### o.m(..), o of one of several classes -/
structure MOk (X : Cx) (CX : CXT) (k : Nat) (m : Str) (C : Addr) (sp : Sp) : Prop where
  ex : ∃ f fd ps, Cls X.K C ∧ Meth X.K C m f ∧ FnOk X.prog X.w X.K X.mg X.base CX k f fd ps sp ∧ Binds X.K fd ps []
def tMethA (m : Str) (Cs : List (Addr × Sp)) (E : XK) (ta : TE) (t : TA) : TE := fun σ H Q => ta σ H fun x H1 => ∃ p ∈ Cs, ∃ a dx fs, x = .ref a ∧ H1 a = some (.ins p.1 dx fs) ∧ fs.lookup m = none ∧ t σ H1 fun vs H2 => p.2 (x :: vs) H2 Q E
theorem pe_methA {X : Cx} {CX : CXT} {k : Nat} {m : Str} {Cs : List (Addr × Sp)} {E : XK} {o e : Expr} {es : List Expr} {ta : TE} {t : TA} {apos pos : Pos} {pl : Sem Bool} (he : PE X o ta) (M : ∀ p ∈ Cs, MOk X CX k m p.1 p.2) (hr : Room k X.A) (hx : Passes CX X E) (ha : PA X (e :: es) t)
    (st : starEach (e :: es) X.env = (false, eval e X.env) :: starEach es X.env := by rfl) (pn : (backTo pos (starEach es X.env)).any (·.1) = false := by rfl)
    (ev : eval (.Call (.Attribute o m apos) (e :: es) [] pos) X.env = (do let ov ← eval o X.env; standAt apos.atName; let (g, first) ← holding [ov] (getMethod ov m pl); callWith pos g first (backTo pos (starEach (e :: es) X.env)) (backToKw pos (keywordEach [] X.env))) := by rfl) :
    PE X (.Call (.Attribute o m apos) (e :: es) [] pos) (tMethA m Cs E ta t) := by
  constructor
  intro pins s σ H Q I h
  refine PySem.W.methodCall_KW (pl := pl) (thn (he.run pins s σ H _ I h) fun u s1 hh => ?_) ev
  obtain ⟨x, H1, J, rx, p, hp, a, dx, fs, rfl, ea, l, q⟩ := hh
  cases rx
  obtain ⟨f, fd, ps, cC, mM, F, B⟩ := (M p hp).ex
  refine getmeth_ok J ea cC mM l (PySem.W.callWith_K (first := [.ref a]) (h₀ := X.base) I.ok.mod.kin mM.kp (thn (ha.run pos pins s1 σ H1 _ J q) fun us s2 gg => ?_) st pn)
  obtain ⟨vs, H2, J2, r, q2⟩ := gg
  exact ⟨J2.kIn, run_fn (dvs := []) (ds := []) (us := .ref a :: us) (vs := .ref a :: vs) F hr B .nil hx J2 (.cons rfl r) (by rw [List.append_nil]; exact q2)⟩
end V5

set_option maxHeartbeats 4000000
/-! V5d: a dict in K whose values are pairs of a text and a tuple of texts; a tuple of texts in K. -/
namespace V5
open PySem PySem.Spec PyProof.Rows L2 V1 V2 V3
def strsIn (us : List Value) : Option (List Str) := us.mapM strIn
def formOf (K : PySem.W.Frag) (v : Value) : Option (Str × List Str) := match tupIn K v with
  | some [x, u] => (strIn x).bind fun a => ((tupIn K u).bind strsIn).map fun ps => (a, ps)
  | _ => none
def formsB (K : PySem.W.Frag) (a : Addr) (L : List (Str × Str × List Str)) : Bool := match dictIn K a with
  | some es => decide (es.map (fun e => strIn e.key) = L.map fun p => some p.1) && decide (es.map (fun e => formOf K e.val) = L.map fun p => some p.2)
  | none => false
def hashesOf (K : PySem.W.Frag) (a : Addr) : List Int := match dictIn K a with
  | some es => es.map (·.hash)
  | none => []
def strsB (K : PySem.W.Frag) (a : Addr) (L : List Str) : Bool := decide ((tupIn K (.ref a)).bind strsIn = some L)
theorem strsIn_of : ∀ {us : List Value} {ps : List Str}, strsIn us = some ps → Vals (ps.map V.str) us
  | [], ps, h => by
    simp [strsIn] at h
    subst h
    exact .nil
  | u :: us, ps, h => by
    simp only [strsIn, List.mapM_cons, Option.bind_eq_bind, Option.bind_eq_some_iff, Option.pure_def, Option.some.injEq] at h
    obtain ⟨x, hx, xs, hxs, rfl⟩ := h
    exact .cons (strIn_of hx) (strsIn_of hxs)
theorem strsB_of {K : PySem.W.Frag} {a : Addr} {L : List Str} (h : strsB K a L = true) (H : Hp) : SqT K H a (L.map V.str) := by
  have e := of_decide_eq_true h
  obtain ⟨us, e1, e2⟩ := Option.bind_eq_some_iff.mp e
  obtain ⟨b, eb, q⟩ := tupIn_of e1
  cases eb
  exact q H _ (strsIn_of e2)
/-- what the dict tells of a name -/
def lookF (L : List (Str × Str × List Str)) (x : Str) : Option (Str × List Str) := (L.find? fun p => decide (p.1 = x)).map (·.2)
structure Forms (K : PySem.W.Frag) (w : World) (a : Addr) (L : List (Str × Str × List Str)) : Prop where
  ex : ∃ ks, KD K w a ks ∧ ∀ x, (lookF L x = none → getK ks x = none) ∧ ∀ s ps, lookF L x = some (s, ps) → ∃ u t t', getK ks x = some u ∧ RelV (.ref t) u ∧ (∀ H, SqT K H t [.str s, .ref t']) ∧ ∀ H, SqT K H t' (ps.map V.str)
theorem formOf_of {K : PySem.W.Frag} {v : Value} {s : Str} {ps : List Str} (h : formOf K v = some (s, ps)) : ∃ t t', v = .ref t ∧ (∀ H, SqT K H t [.str s, .ref t']) ∧ ∀ H, SqT K H t' (ps.map V.str) := by
  unfold formOf at h
  split at h
  · rename_i x u e
    obtain ⟨a, ha, h⟩ := Option.bind_eq_some_iff.mp h
    obtain ⟨qs, hq, h⟩ := Option.map_eq_some_iff.mp h
    obtain ⟨us, hu, hs⟩ := Option.bind_eq_some_iff.mp hq
    cases h
    obtain ⟨t, rfl, q1⟩ := tupIn_of e
    obtain ⟨t', rfl, q2⟩ := tupIn_of hu
    exact ⟨t, t', rfl, fun H => q1 H _ (.cons (strIn_of ha) (.cons rfl .nil)), fun H => q2 H _ (strsIn_of hs)⟩
  · cases h
theorem forms_of {K : PySem.W.Frag} {w : World} {a : Addr} {L : List (Str × Str × List Str)} (h : formsB K a L = true) (hh : hashesOf K a = L.map fun p => hashStr w p.1) (nd : (L.map (·.1)).Nodup) : Forms K w a L := by
  unfold formsB at h
  unfold hashesOf at hh
  cases ed : dictIn K a with
  | none => rw [ed] at h; cases h
  | some es =>
    rw [ed] at h hh
    simp only [Bool.and_eq_true, decide_eq_true_eq] at h hh
    obtain ⟨h1, h2⟩ := h
    have len : es.length = L.length := by simpa using congrArg List.length h1
    let ks : List (Str × Value) := (L.map (·.1)).zip (es.map (·.val))
    have k1 : ks.map (·.1) = L.map (·.1) := by
      rw [List.map_fst_zip]
      simp [len]
    have k2 : ks.map (·.2) = es.map (·.val) := by
      rw [List.map_snd_zip]
      simp [len]
    have D : KD K w a ks := by
      refine kd_of ed ?_ ?_ k2.symm (by rw [k1]; exact nd)
      · rw [hh]
        have : (ks.map fun p => hashStr w p.1) = (ks.map (·.1)).map (hashStr w) := by rw [List.map_map]; rfl
        rw [this, k1, List.map_map]
        rfl
      · rw [h1]
        have : (ks.map fun p => some p.1) = (ks.map (·.1)).map some := by rw [List.map_map]; rfl
        rw [this, k1, List.map_map]
        rfl
    refine ⟨ks, D, fun x => ?_⟩
    have go : ∀ (L : List (Str × Str × List Str)) (es : List DictEntry), es.map (fun e => formOf K e.val) = L.map (fun p => some p.2) → (lookF L x = none → getK ((L.map (·.1)).zip (es.map (·.val))) x = none) ∧ ∀ s ps, lookF L x = some (s, ps) → ∃ u t t', getK ((L.map (·.1)).zip (es.map (·.val))) x = some u ∧ RelV (.ref t) u ∧ (∀ H, SqT K H t [.str s, .ref t']) ∧ ∀ H, SqT K H t' (ps.map V.str) := by
      intro L
      induction L with
      | nil => intro es _; exact ⟨fun _ => rfl, fun s ps h => by cases h⟩
      | cons p L ih => intro es he; cases es with
        | nil => cases he
        | cons e es =>
          rw [List.map_cons, List.map_cons] at he
          have z := List.cons.inj he
          have w := ih es z.2
          rw [List.map_cons, List.map_cons, List.zip_cons_cons]
          unfold lookF getK at w ⊢
          rw [List.find?_cons, List.find?_cons]
          by_cases q : p.1 = x
          · rw [decide_eq_true q]
            refine ⟨(fun h => by cases h), fun s ps h => ?_⟩
            have hp : p.2 = (s, ps) := Option.some.inj h
            rw [hp] at z
            obtain ⟨t, t', ev, a1, a2⟩ := formOf_of z.1
            exact ⟨e.val, t, t', rfl, ev, a1, a2⟩
          · rw [decide_eq_false q]
            exact w
    exact go L es h2
end V5

set_option maxHeartbeats 4000000
/-! V6b: t[::-1], t a text. -/
namespace V6
open PySem PySem.Spec PyProof.Rows L2 V1 V2 V3
def revS (x : Str) : Str := ⟨x.cps.toList.reverse.toArray⟩
theorem revS_len (x : Str) : (revS x).length = x.length := by
  show (x.cps.toList.reverse.toArray).size = x.cps.size
  simp
theorem picked_back (x : Str) (tk : Tok) : (slicePicked x none none (some (-1, tk))).filterMap (x.cps[·]?) = x.cps.toList.reverse := by
  unfold slicePicked
  have e : Builtin.Str.strSliceIndices none none (-1) x.length = (List.range x.length).map fun k => x.length - 1 - k := PySem.W.krv_sliceRange x.length
  show (Builtin.Str.strSliceIndices none none (-1) x.length).filterMap (x.cps[·]?) = _
  rw [e, PySem.W.krv_range, List.filterMap_reverse]
  show ((List.range x.cps.size).filterMap (x.cps[·]?)).reverse = _
  rw [PySem.W.krv_all]
def tBackS (te : TE) : TE := fun σ H Q => te σ H fun x H1 => ∃ z, x = .str z ∧ z.length ≤ 1000 ∧ Q (.str (revS z)) H1
theorem pe_backS {X : Cx} {e : Expr} {te : TE} {k : Nat} {p1 p2 p3 pos : Pos} (he : PE X e te) : PE X (.Subscript e (.Slice none none (some (.UnaryOp .USub (.Constant (.int 1) k p1) p2)) p3) pos) (tBackS te) := by
  refine ⟨fun pins s σ H Q I h => Subscript_ (thn (he.run pins s σ H _ I h) ?_)⟩
  rintro v s1 ⟨x, H1, I1, r1, z, rfl, hz, q⟩
  obtain ⟨t, rfl⟩ := r1
  have step : PO X (some (.UnaryOp .USub (.Constant (.int 1) k p1) p2)) (tPart (tUn (rU fun i => .int (-i)) (tC (.int 1)))) := po_some (pe_un un_neg pe_int)
  refine wpAny_Slice (thn (po_none.run pins s1 σ H1 (fun o H2 => o = none ∧ H2 = H1) I1 ⟨rfl, rfl⟩) ?_)
  rintro vl s2 ⟨l, H2, I2, pl, rfl, rfl⟩
  cases pl
  refine thn (po_none.run pins s2 σ H2 (fun o H3 => o = none ∧ H3 = H2) I2 ⟨rfl, rfl⟩) ?_
  rintro vu s3 ⟨u, H3, I3, pu, rfl, rfl⟩
  cases pu
  refine thn (step.run pins s3 σ H3 (fun o H4 => o = some (-1) ∧ H4 = H3) I3 ⟨1, rfl, -1, rfl, rfl, rfl⟩) ?_
  rintro vs s4 ⟨o, H4, I4, ps, rfl, rfl⟩
  have I5 : Inv X pins σ H4 { s4 with heap := s4.heap.push { cls := .type "slice", data := .fields #[.none, .none, vs] } } := I4.kept (t' := s4.toks) fun b ob q => Heap.get?_push_of_some _ q
  obtain ⟨st, es, e2⟩ := IsPart.raw ps
  subst es
  obtain ⟨i, tk, rfl⟩ : ∃ i tk, st = some (i, tk) := by
    cases st with
    | none => cases e2
    | some p => exact ⟨p.1, p.2, rfl⟩
  cases e2
  show wpAny (model X.prog X.w) X.A (subscriptTail e (.Slice none none (some (.UnaryOp .USub (.Constant (.int 1) k p1) p2)) p3) (.str z t) (.ref s4.heap.objs.size)) (EP X pins σ Q) X.xe _
  refine tail_any (ops := [.str z t, .ref s4.heap.objs.size]) (typeIs_str _ z t) PySem.F.slot_str_getitem.lookup ?_ (by with_unfolding_all rfl)
  refine wpAny_getItem_str_slice (l := none) (u := none) (st := some (-1, tk)) ⟨_, Heap.get?_push_size _ rfl, rfl, rfl⟩ rfl ?_
  have m : sliceMade z t none none (some (-1, tk)) = .str (revS z) := by
    unfold sliceMade
    rw [if_neg (by simp), picked_back]
    rfl
  rw [m]
  exact ⟨by rw [revS_len]; exact Nat.le_trans hz (by decide), ⟨.str (revS z), H4, I5.tok _, ⟨_, rfl⟩, q⟩⟩
end V6

set_option maxHeartbeats 4000000
/-! V6a: words, rows, the programs of the tongue as trees. -/
namespace V6
open PySem PySem.Spec PyProof.Rows L2 V1 V2 V3
/-- a word: of at most 40 signs, from the blank to the tilde -/
def wordX (x : Str) : Bool := decide (x.length ≤ 40) && (Txt.isascii x && Txt.isprintable x)
def wordD : PyData → Bool
  | .str x => wordX x
  | _ => false
def rowD : PyData → Bool
  | .tuple ds => decide (ds.length ≤ 400) && ds.all wordD
  | _ => false
def prC (c : Nat) : Bool := decide (32 ≤ c) && decide (c ≤ 126)
def signs : Str := " !\"#$&'()*+,-./0123456789:;<=>?@ABCDEFGHIJKLMNOPQRSTUVWXYZ[\\]^_`abcdefghijklmnopqrstuvwxyz{|}~"
def PrOk (x : Str) : Bool := x.cps.all prC
theorem asc_low : ∀ c, c < 128 → Unicode.isPrintable c = prC c := by decide +kernel
theorem asc_c (c : Nat) : (decide (c < 128) && Unicode.isPrintable c) = prC c := by
  by_cases h : c < 128
  · rw [decide_eq_true h, Bool.true_and, asc_low c h]
  · rw [decide_eq_false h, Bool.false_and]
    unfold prC
    rw [decide_eq_false (by omega : ¬ c ≤ 126), Bool.and_false]
theorem wordX_pr (x : Str) : wordX x = (decide (x.length ≤ 40) && PrOk x) := by
  unfold wordX PrOk
  congr 1
  show (x.cps.all (· < 128) && x.cps.all Unicode.isPrintable) = _
  rw [← Array.all_toList, ← Array.all_toList, ← Array.all_toList]
  induction x.cps.toList with
  | nil => rfl
  | cons c cs ih =>
    rw [List.all_cons, List.all_cons, List.all_cons, ← ih, ← asc_c c]
    cases decide (c < 128) <;> cases Unicode.isPrintable c <;> simp
theorem pr_app {a b : Str} (h : PrOk a = true) (k : PrOk b = true) : PrOk (a ++ b) = true := by
  unfold PrOk at h k ⊢
  show (a.cps ++ b.cps).all _ = true
  rw [Array.all_append, h, k]
  rfl
theorem len_app (a b : Str) : (a ++ b).length = a.length + b.length := by
  show (a.cps ++ b.cps).size = _
  rw [Array.size_append]
  rfl
theorem join_pr : ∀ {ys : List Str}, (∀ y ∈ ys, y.length = 1 ∧ PrOk y = true) → PrOk (Txt.join (Str.ofString "") ys) = true ∧ (Txt.join (Str.ofString "") ys).length = ys.length := fun {ys} h => by
  rw [TL.join_eq]
  induction ys with
  | nil => exact ⟨by decide +kernel, rfl⟩
  | cons y ys ih =>
    have h1 := h y List.mem_cons_self
    cases ys with
    | nil => exact ⟨h1.2, h1.1⟩
    | cons z ys =>
      have h2 := ih fun x hx => h x (List.mem_cons_of_mem _ hx)
      refine ⟨pr_app (pr_app h1.2 (by decide +kernel)) h2.1, ?_⟩
      show (y ++ Str.ofString "" ++ Str.join (Str.ofString "") (z :: ys)).length = _
      rw [len_app, len_app, h1.1, h2.2, show (Str.ofString "").length = 0 from rfl]
      simp only [List.length_cons]
      omega
theorem sum_one : ∀ {ys : List Str}, (∀ y ∈ ys, y.length = 1) → (ys.map (·.length)).sum = ys.length
  | [], _ => rfl
  | y :: ys, h => by
    rw [List.map_cons, List.sum_cons, h y List.mem_cons_self, sum_one fun z hz => h z (List.mem_cons_of_mem _ hz), List.length_cons]
    omega
theorem signs_pr : ∀ z ∈ signs.cps.toList, PrOk (⟨#[z]⟩ : Str) = true := by decide +kernel
theorem fold_pr {c : Array Nat} (h : c.all prC = true) : ∀ (n : Nat) (acc : Array Nat), acc.all prC = true → ((List.replicate n c).foldl (· ++ ·) acc).all prC = true ∧ ((List.replicate n c).foldl (· ++ ·) acc).size = acc.size + n * c.size
  | 0, acc, k => ⟨k, by simp⟩
  | n + 1, acc, k => by
    rw [List.replicate_succ, List.foldl_cons]
    obtain ⟨h1, h2⟩ := fold_pr h n (acc ++ c) (by rw [Array.all_append, k, h]; rfl)
    refine ⟨h1, ?_⟩
    rw [h2, Array.size_append, Nat.succ_mul]
    omega
theorem mulN {x : Str} (h : PrOk x = true) (l : x.length = 2) (n : Nat) (n1 : 1 ≤ n) : PrOk (Txt.mul x n) = true ∧ (Txt.mul x n).length = 2 * n := by
  by_cases e : n = 1
  · subst e
    have m : Txt.mul x ((1 : Nat) : Int) = x := by
      unfold Txt.mul
      rw [if_neg (by decide), if_pos (by rfl)]
    rw [m]
    exact ⟨h, l⟩
  have m : Txt.mul x n = ⟨(List.replicate n x.cps).foldl (· ++ ·) #[]⟩ := by
    unfold Txt.mul
    have n2 : ((n : Int) == 1) = false := beq_eq_false_iff_ne.mpr (by omega)
    rw [if_neg (by omega), if_neg (by rw [l, n2]; decide)]
    rfl
  obtain ⟨h1, h2⟩ := fold_pr (c := x.cps) h n #[] (by simp)
  rw [m]
  refine ⟨h1, ?_⟩
  show ((List.replicate n x.cps).foldl (· ++ ·) #[]).size = 2 * n
  rw [h2, show x.cps.size = 2 from l, Array.size_empty]
  omega
theorem wx {x : Str} (l : x.length ≤ 40) (p : PrOk x = true) : wordX x = true := by
  rw [wordX_pr, decide_eq_true l, p]
  rfl
theorem wx_len {x : Str} (h : wordX x = true) : x.length ≤ 40 := by
  have z : x.length ≤ 40 ∧ Txt.isascii x = true ∧ Txt.isprintable x = true := by simpa [wordX] using h
  exact z.1
theorem wx_pr {x : Str} (h : wordX x = true) : PrOk x = true := by
  rw [wordX_pr] at h
  exact (Bool.and_eq_true_iff.mp h).2
theorem pr_sub {x y : Str} (h : PrOk x = true) (s : ∀ c ∈ y.cps.toList, c ∈ x.cps.toList) : PrOk y = true := by
  unfold PrOk at h ⊢
  rw [← Array.all_toList, List.all_eq_true] at h ⊢
  exact fun c hc => h c (s c hc)
theorem pr_cut {x : Str} (h : PrOk x = true) (lo hi : Option Int) : PrOk (cutS x lo hi) = true := pr_sub h fun c hc => by
  unfold cutS at hc
  exact List.mem_of_mem_drop (List.mem_of_mem_take (by simpa using hc))
theorem pr_rev {x : Str} (h : PrOk x = true) : PrOk (revS x) = true := pr_sub h fun c hc => by
  unfold revS at hc
  simpa using hc
/-! ### forms -/
def formsL : List (Str × Str × List Str) := [("say", "statement", ["e"]), ("let", "statement", ["name", "e"]), ("if", "statement", ["c", "body", "body"]), ("each", "statement", ["name", "body"]), ("text", "e", ["word"]), ("name", "e", ["name"]), ("join", "e", ["e", "e"]), ("turn", "e", ["e"]), ("rest", "e", ["e"]), ("first", "e", ["e"]), ("many", "e", []), ("last", "e", []), ("same", "c", ["e", "e"]), ("ahead", "c", ["e", "e"]), ("in", "c", ["e", "e"]), ("not", "c", ["c"])]
def lettersX (x : Str) : Bool := (decide (1 ≤ x.length) && decide (x.length ≤ 8)) && (Txt.isascii x && (Txt.isalpha x && Txt.islower x))
def nameX (x : Str) : Bool := lettersX x && !decide (x ∈ [("many" : Str), "last"])
def nameD : PyData → Bool
  | .str x => nameX x
  | _ => false
def kindD : PyData → Option Str
  | .tuple (.str k :: _) => some k
  | _ => none
def formD (d : PyData) (s : Str) : Bool := match d with
  | .tuple (.str k :: rest) => match V5.lookF formsL k with
    | some (t, ps) => decide (t = s) && decide (rest.length = ps.length)
    | none => false
  | _ => false
def rightOf (s : Str) (d : PyData) (a e : Nat) : Bool :=
  if s = "body" then isTup d else if s = "name" then nameD d else if s = "word" then wordD d
  else (formD d s && decide (a < 20)) && (!decide (kindD d = some (Str.ofString "each")) || decide (e < 2))
abbrev It := Str × PyData × Nat × Nat
def innerOf (s : Str) (d : PyData) (a e : Nat) : List It :=
  if s = "body" then match d with
    | .tuple ds => ds.map fun x => ("statement", x, a, e)
    | _ => []
  else if s = "name" then [] else if s = "word" then []
  else match d with
    | .tuple (.str k :: rest) => match V5.lookF formsL k with
      | some (_, ps) => (ps.zip rest).map fun p => (p.1, p.2, a + 1, if k = "each" then e + 1 else e)
      | none => []
    | _ => []
def cnt (s : Str) : Nat := if s ∈ [("statement" : Str), "e", "c"] then 1 else 0
inductive Good : List It → Nat → Nat → Prop
  | nil : Good [] 0 0
  | cons {s d a e l n m n' m'} : rightOf s d a e = true → Good (innerOf s d a e) n m → Good l n' m' → Good ((s, d, a, e) :: l) (cnt s + n + n') (1 + m + m')
theorem Good.of {l : List It} {n m n' m' : Nat} (h : Good l n m) (e : n = n') (e' : m = m') : Good l n' m' := e ▸ e' ▸ h
theorem Good.app {l l' : List It} {n m n' m' : Nat} (h : Good l n m) (h' : Good l' n' m') : Good (l ++ l') (n + n') (m + m') := by
  induction h with
  | nil => exact h'.of (by omega) (by omega)
  | cons r i _ _ ih => exact (Good.cons r i ih).of (by omega) (by omega)
theorem Good.last {x : It} : ∀ {l : List It} {n m : Nat}, Good (l ++ [x]) n m → ∃ n1 m1 n2 m2, rightOf x.1 x.2.1 x.2.2.1 x.2.2.2 = true ∧ Good (innerOf x.1 x.2.1 x.2.2.1 x.2.2.2) n1 m1 ∧ Good l n2 m2 ∧ n = n2 + cnt x.1 + n1 ∧ m = m2 + 1 + m1
  | [], _, _, h => by
    cases h with | cons r i r' =>
    cases r'
    exact ⟨_, _, 0, 0, r, i, .nil, by dsimp only; omega, by omega⟩
  | y :: l, _, _, h => by
    cases h with | cons r i r' =>
    obtain ⟨n1, m1, n2, m2, h1, h2, h3, e1, e2⟩ := Good.last r'
    exact ⟨n1, m1, _, _, h1, h2, .cons r i h3, by omega, by omega⟩
/-! ### trees -/
inductive Ex where
  | text (w : Str)
  | name (n : Str)
  | join (a b : Ex)
  | turn (a : Ex)
  | rest (a : Ex)
  | first (a : Ex)
  | many
  | last
inductive Cn where
  | same (a b : Ex)
  | ahead (a b : Ex)
  | inn (a b : Ex)
  | not (c : Cn)
mutual
inductive St where
  | say (e : Ex)
  | let_ (n : Str) (e : Ex)
  | if_ (c : Cn) (a b : Bd)
  | each (n : Str) (b : Bd)
inductive Bd where
  | nil
  | cons (s : St) (b : Bd)
end
def Ex.d : Ex → PyData
  | .text w => .tuple [.str "text", .str w]
  | .name n => .tuple [.str "name", .str n]
  | .join a b => .tuple [.str "join", a.d, b.d]
  | .turn a => .tuple [.str "turn", a.d]
  | .rest a => .tuple [.str "rest", a.d]
  | .first a => .tuple [.str "first", a.d]
  | .many => .tuple [.str "many"]
  | .last => .tuple [.str "last"]
def Cn.d : Cn → PyData
  | .same a b => .tuple [.str "same", a.d, b.d]
  | .ahead a b => .tuple [.str "ahead", a.d, b.d]
  | .inn a b => .tuple [.str "in", a.d, b.d]
  | .not c => .tuple [.str "not", c.d]
mutual
def St.d : St → PyData
  | .say e => .tuple [.str "say", e.d]
  | .let_ n e => .tuple [.str "let", .str n, e.d]
  | .if_ c a b => .tuple [.str "if", c.d, .tuple a.ds, .tuple b.ds]
  | .each n b => .tuple [.str "each", .str n, .tuple b.ds]
def Bd.ds : Bd → List PyData
  | .nil => []
  | .cons s b => s.d :: b.ds
end
/-! ### what they tell -/
abbrev Mn := Str → Option Str
def putM (m : Mn) (n w : Str) : Mn := fun k => if k = n then some w else m k
def natS (n : Nat) : Str := toString (n : Int)
def Ex.val (row : List Str) (m : Mn) : Ex → Str
  | .text w => w
  | .name n => (m n).getD (Str.ofString "")
  | .join a b => cutS (a.val row m ++ b.val row m) none (some 40)
  | .turn a => revS (a.val row m)
  | .rest a => cutS (a.val row m) (some 1) none
  | .first a => cutS (a.val row m) none (some 1)
  | .many => natS row.length
  | .last => row.getLast?.getD (Str.ofString "")
def Cn.val (row : List Str) (m : Mn) : Cn → Bool
  | .same a b => decide (a.val row m = b.val row m)
  | .ahead a b => decide ((a.val row m).cps.toList < (b.val row m).cps.toList)
  | .inn a b => !(Builtin.Str.occurrences (b.val row m) (a.val row m) 0 (b.val row m).length 1).isEmpty
  | .not c => !c.val row m
def loopE (f : Mn → Option Str × Mn) (n : Str) : List Str → Mn → Option Str × Mn
  | [], m => (none, m)
  | w :: ws, m => match f (putM m n w) with
    | (some x, m') => (some x, m')
    | (none, m') => loopE f n ws m'
mutual
def St.run (row : List Str) : St → Mn → Option Str × Mn
  | .say e, m => (some (e.val row m), m)
  | .let_ n e, m => (none, putM m n (e.val row m))
  | .if_ c a b, m => if c.val row m = true then a.run row m else b.run row m
  | .each n b, m => loopE (fun m => b.run row m) n row m
def Bd.run (row : List Str) : Bd → Mn → Option Str × Mn
  | .nil, m => (none, m)
  | .cons s b, m => match s.run row m with
    | (some x, m') => (some x, m')
    | (none, m') => b.run row m'
end
/-! ### right ones -/
def Ex.ok : Ex → Bool
  | .text w => wordX w
  | .name n => nameX n
  | .join a b => a.ok && b.ok
  | .turn a | .rest a | .first a => a.ok
  | .many | .last => true
def Ex.deep : Ex → Nat
  | .join a b => 1 + max a.deep b.deep
  | .turn a | .rest a | .first a => 1 + a.deep
  | _ => 1
def Ex.cnt : Ex → Nat
  | .join a b => 1 + a.cnt + b.cnt
  | .turn a | .rest a | .first a => 1 + a.cnt
  | _ => 1
def Ex.all : Ex → Nat
  | .text _ | .name _ => 2
  | .join a b => 1 + a.all + b.all
  | .turn a | .rest a | .first a => 1 + a.all
  | .many | .last => 1
def Cn.ok : Cn → Bool
  | .same a b | .ahead a b | .inn a b => a.ok && b.ok
  | .not c => c.ok
def Cn.deep : Cn → Nat
  | .same a b | .ahead a b | .inn a b => 1 + max a.deep b.deep
  | .not c => 1 + c.deep
def Cn.cnt : Cn → Nat
  | .same a b | .ahead a b | .inn a b => 1 + a.cnt + b.cnt
  | .not c => 1 + c.cnt
def Cn.all : Cn → Nat
  | .same a b | .ahead a b | .inn a b => 1 + a.all + b.all
  | .not c => 1 + c.all
mutual
def St.ok : St → Bool
  | .say e => e.ok
  | .let_ n e => nameX n && e.ok
  | .if_ c a b => c.ok && (a.ok && b.ok)
  | .each n b => nameX n && b.ok
def Bd.ok : Bd → Bool
  | .nil => true
  | .cons s b => s.ok && b.ok
end
mutual
def St.deep : St → Nat
  | .say e => 1 + e.deep
  | .let_ _ e => 1 + e.deep
  | .if_ c a b => 1 + max c.deep (max a.deep b.deep)
  | .each _ b => 1 + b.deep
def Bd.deep : Bd → Nat
  | .nil => 0
  | .cons s b => max s.deep b.deep
end
mutual
def St.cnt : St → Nat
  | .say e => 1 + e.cnt
  | .let_ _ e => 1 + e.cnt
  | .if_ c a b => 1 + c.cnt + a.cnt + b.cnt
  | .each _ b => 1 + b.cnt
def Bd.cnt : Bd → Nat
  | .nil => 0
  | .cons s b => s.cnt + b.cnt
end
mutual
def St.all : St → Nat
  | .say e => 1 + e.all
  | .let_ _ e => 2 + e.all
  | .if_ c a b => 3 + c.all + a.all + b.all
  | .each _ b => 3 + b.all
def Bd.all : Bd → Nat
  | .nil => 0
  | .cons s b => s.all + b.all
end
mutual
/-- loops in loops -/
def St.lps : St → Nat
  | .say _ => 0
  | .let_ _ _ => 0
  | .if_ _ a b => max a.lps b.lps
  | .each _ b => 1 + b.lps
def Bd.lps : Bd → Nat
  | .nil => 0
  | .cons s b => max s.lps b.lps
end
theorem good_node {s k : Str} {rest : List PyData} {a e : Nat} {ps : List Str} {n m : Nat} (hs : (s ≠ "body" ∧ s ≠ "name" ∧ s ≠ "word") ∧ cnt s = 1) (hl : V5.lookF formsL k = some (s, ps)) (hr : rest.length = ps.length) (ha : a < 20) (hk : k ≠ "each") (kids : Good ((ps.zip rest).map fun p => (p.1, p.2, a + 1, e)) n m) :
    Good [(s, .tuple (.str k :: rest), a, e)] (1 + n) (1 + m) := by
  have r : rightOf s (.tuple (.str k :: rest)) a e = true := by
    unfold rightOf
    rw [if_neg hs.1.1, if_neg hs.1.2.1, if_neg hs.1.2.2]
    have f : formD (.tuple (.str k :: rest)) s = true := by
      unfold formD
      simp only [hl, decide_true, Bool.true_and]
      exact decide_eq_true hr
    rw [f, decide_eq_true ha, show kindD (.tuple (.str k :: rest)) = some k from rfl, decide_eq_false fun z => hk (Option.some.inj z)]
    rfl
  have i : innerOf s (.tuple (.str k :: rest)) a e = (ps.zip rest).map fun p => (p.1, p.2, a + 1, e) := by
    unfold innerOf
    rw [if_neg hs.1.1, if_neg hs.1.2.1, if_neg hs.1.2.2]
    simp only [hl, if_neg hk]
  exact (Good.cons (l := []) r (by rw [i]; exact kids) .nil).of (by rw [hs.2]; rfl) rfl
theorem good_each {rest : List PyData} {a e : Nat} {n m : Nat} (hr : rest.length = 2) (ha : a < 20) (he : e < 2) (kids : Good ((([("name" : Str), "body"]).zip rest).map fun p => (p.1, p.2, a + 1, e + 1)) n m) :
    Good [("statement", .tuple (.str "each" :: rest), a, e)] (1 + n) (1 + m) := by
  have hl : V5.lookF formsL "each" = some (Str.ofString "statement", [Str.ofString "name", Str.ofString "body"]) := by decide
  have hs : (("statement" : Str) ≠ "body" ∧ ("statement" : Str) ≠ "name" ∧ ("statement" : Str) ≠ "word") ∧ cnt "statement" = 1 := by decide
  have r : rightOf "statement" (.tuple (.str "each" :: rest)) a e = true := by
    unfold rightOf
    rw [if_neg hs.1.1, if_neg hs.1.2.1, if_neg hs.1.2.2]
    have f : formD (.tuple (.str "each" :: rest)) "statement" = true := by
      unfold formD
      simp only [hl, decide_true, Bool.true_and]
      exact decide_eq_true hr
    rw [f, decide_eq_true ha, decide_eq_true he, Bool.or_true]
    rfl
  have i : innerOf "statement" (.tuple (.str "each" :: rest)) a e = (([("name" : Str), "body"]).zip rest).map fun p => (p.1, p.2, a + 1, e + 1) := by
    unfold innerOf
    rw [if_neg hs.1.1, if_neg hs.1.2.1, if_neg hs.1.2.2]
    simp only [hl, if_pos]
  exact (Good.cons (l := []) r (by rw [i]; exact kids) .nil).of (by rw [hs.2]; rfl) rfl
theorem good_word {w : Str} {a e : Nat} (h : wordX w = true) : Good [("word", .str w, a, e)] 0 1 := .cons (show rightOf "word" (.str w) a e = true from h) .nil .nil
theorem good_name {n : Str} {a e : Nat} (h : nameX n = true) : Good [("name", .str n, a, e)] 0 1 := .cons (show rightOf "name" (.str n) a e = true from h) .nil .nil
theorem goodE : ∀ (x : Ex) (a e : Nat), x.ok = true → a + x.deep ≤ 20 → Good [("e", x.d, a, e)] x.cnt x.all
  | .text w, a, e, ok, dp => by
    simp only [Ex.deep] at dp
    exact (good_node (rest := [.str w]) (ps := [Str.ofString "word"]) (a := a) (e := e) (by decide) (by decide) rfl (by omega) (by decide) (show Good [("word", .str w, a + 1, e)] 0 1 from good_word ok)).of rfl rfl
  | .name n, a, e, ok, dp => by
    simp only [Ex.deep] at dp
    exact (good_node (rest := [.str n]) (ps := [Str.ofString "name"]) (a := a) (e := e) (by decide) (by decide) rfl (by omega) (by decide) (show Good [("name", .str n, a + 1, e)] 0 1 from good_name ok)).of rfl rfl
  | .join x y, a, e, ok, dp => by
    simp only [Ex.ok, Bool.and_eq_true] at ok
    simp only [Ex.deep] at dp
    have h1 := goodE x (a + 1) e ok.1 (by omega)
    have h2 := goodE y (a + 1) e ok.2 (by omega)
    exact (good_node (rest := [x.d, y.d]) (ps := [Str.ofString "e", Str.ofString "e"]) (a := a) (e := e) (by decide) (by decide) rfl (by omega) (by decide) (show Good [("e", x.d, a + 1, e), ("e", y.d, a + 1, e)] _ _ from h1.app h2)).of (by simp only [Ex.cnt]; omega) (by simp only [Ex.all]; omega)
  | .turn x, a, e, ok, dp => by
    simp only [Ex.deep] at dp
    exact (good_node (rest := [x.d]) (ps := [Str.ofString "e"]) (a := a) (e := e) (by decide) (by decide) rfl (by omega) (by decide) (show Good [("e", x.d, a + 1, e)] _ _ from goodE x (a + 1) e ok (by omega))).of rfl rfl
  | .rest x, a, e, ok, dp => by
    simp only [Ex.deep] at dp
    exact (good_node (rest := [x.d]) (ps := [Str.ofString "e"]) (a := a) (e := e) (by decide) (by decide) rfl (by omega) (by decide) (show Good [("e", x.d, a + 1, e)] _ _ from goodE x (a + 1) e ok (by omega))).of rfl rfl
  | .first x, a, e, ok, dp => by
    simp only [Ex.deep] at dp
    exact (good_node (rest := [x.d]) (ps := [Str.ofString "e"]) (a := a) (e := e) (by decide) (by decide) rfl (by omega) (by decide) (show Good [("e", x.d, a + 1, e)] _ _ from goodE x (a + 1) e ok (by omega))).of rfl rfl
  | .many, a, e, ok, dp => by
    simp only [Ex.deep] at dp
    exact (good_node (rest := []) (ps := []) (a := a) (e := e) (by decide) (by decide) rfl (by omega) (by decide) (show Good [] 0 0 from .nil)).of rfl rfl
  | .last, a, e, ok, dp => by
    simp only [Ex.deep] at dp
    exact (good_node (rest := []) (ps := []) (a := a) (e := e) (by decide) (by decide) rfl (by omega) (by decide) (show Good [] 0 0 from .nil)).of rfl rfl
theorem goodC : ∀ (x : Cn) (a e : Nat), x.ok = true → a + x.deep ≤ 20 → Good [("c", x.d, a, e)] x.cnt x.all
  | .same x y, a, e, ok, dp => by
    simp only [Cn.ok, Bool.and_eq_true] at ok
    simp only [Cn.deep] at dp
    exact (good_node (rest := [x.d, y.d]) (ps := [Str.ofString "e", Str.ofString "e"]) (a := a) (e := e) (by decide) (by decide) rfl (by omega) (by decide) (show Good [("e", x.d, a + 1, e), ("e", y.d, a + 1, e)] _ _ from (goodE x (a + 1) e ok.1 (by omega)).app (goodE y (a + 1) e ok.2 (by omega)))).of (by simp only [Cn.cnt]; omega) (by simp only [Cn.all]; omega)
  | .ahead x y, a, e, ok, dp => by
    simp only [Cn.ok, Bool.and_eq_true] at ok
    simp only [Cn.deep] at dp
    exact (good_node (rest := [x.d, y.d]) (ps := [Str.ofString "e", Str.ofString "e"]) (a := a) (e := e) (by decide) (by decide) rfl (by omega) (by decide) (show Good [("e", x.d, a + 1, e), ("e", y.d, a + 1, e)] _ _ from (goodE x (a + 1) e ok.1 (by omega)).app (goodE y (a + 1) e ok.2 (by omega)))).of (by simp only [Cn.cnt]; omega) (by simp only [Cn.all]; omega)
  | .inn x y, a, e, ok, dp => by
    simp only [Cn.ok, Bool.and_eq_true] at ok
    simp only [Cn.deep] at dp
    exact (good_node (rest := [x.d, y.d]) (ps := [Str.ofString "e", Str.ofString "e"]) (a := a) (e := e) (by decide) (by decide) rfl (by omega) (by decide) (show Good [("e", x.d, a + 1, e), ("e", y.d, a + 1, e)] _ _ from (goodE x (a + 1) e ok.1 (by omega)).app (goodE y (a + 1) e ok.2 (by omega)))).of (by simp only [Cn.cnt]; omega) (by simp only [Cn.all]; omega)
  | .not c, a, e, ok, dp => by
    simp only [Cn.deep] at dp
    exact (good_node (rest := [c.d]) (ps := [Str.ofString "c"]) (a := a) (e := e) (by decide) (by decide) rfl (by omega) (by decide) (show Good [("c", c.d, a + 1, e)] _ _ from goodC c (a + 1) e ok (by omega))).of rfl rfl
theorem good_body {b : Bd} {a e n m : Nat} (h : Good (b.ds.map fun x => ("statement", x, a, e)) n m) : Good [("body", .tuple b.ds, a, e)] n (1 + m) :=
  (Good.cons (l := []) (s := "body") (d := .tuple b.ds) (a := a) (e := e) rfl h .nil).of (by rw [show cnt "body" = 0 by decide]; omega) (by omega)
mutual
theorem goodS : ∀ (x : St) (a e : Nat), x.ok = true → a + x.deep ≤ 20 → e + x.lps ≤ 2 → Good [("statement", x.d, a, e)] x.cnt x.all
  | .say x, a, e, ok, dp, lp => by
    simp only [St.ok] at ok
    simp only [St.deep] at dp
    exact (good_node (rest := [x.d]) (ps := [Str.ofString "e"]) (a := a) (e := e) (by decide) (by decide) rfl (by omega) (by decide) (show Good [("e", x.d, a + 1, e)] _ _ from goodE x (a + 1) e ok (by omega))).of (by simp only [St.cnt]) (by simp only [St.all])
  | .let_ n x, a, e, ok, dp, lp => by
    simp only [St.ok, Bool.and_eq_true] at ok
    simp only [St.deep] at dp
    exact (good_node (rest := [.str n, x.d]) (ps := [Str.ofString "name", Str.ofString "e"]) (a := a) (e := e) (by decide) (by decide) rfl (by omega) (by decide) (show Good [("name", .str n, a + 1, e), ("e", x.d, a + 1, e)] _ _ from (good_name ok.1).app (goodE x (a + 1) e ok.2 (by omega)))).of (by simp only [St.cnt]; omega) (by simp only [St.all]; omega)
  | .if_ c x y, a, e, ok, dp, lp => by
    simp only [St.ok, Bool.and_eq_true] at ok
    simp only [St.deep] at dp
    simp only [St.lps] at lp
    have h1 := goodC c (a + 1) e ok.1 (by omega)
    have h2 := good_body (goodB x (a + 1) e ok.2.1 (by omega) (by omega))
    have h3 := good_body (goodB y (a + 1) e ok.2.2 (by omega) (by omega))
    exact (good_node (rest := [c.d, .tuple x.ds, .tuple y.ds]) (ps := [Str.ofString "c", Str.ofString "body", Str.ofString "body"]) (a := a) (e := e) (by decide) (by decide) rfl (by omega) (by decide) (show Good [("c", c.d, a + 1, e), ("body", .tuple x.ds, a + 1, e), ("body", .tuple y.ds, a + 1, e)] _ _ from h1.app (h2.app h3))).of (by simp only [St.cnt]; omega) (by simp only [St.all]; omega)
  | .each n b, a, e, ok, dp, lp => by
    simp only [St.ok, Bool.and_eq_true] at ok
    simp only [St.deep] at dp
    simp only [St.lps] at lp
    have h2 := good_body (goodB b (a + 1) (e + 1) ok.2 (by omega) (by omega))
    exact (good_each (rest := [.str n, .tuple b.ds]) (a := a) (e := e) rfl (by omega) (by omega) (show Good [("name", .str n, a + 1, e + 1), ("body", .tuple b.ds, a + 1, e + 1)] _ _ from (good_name ok.1).app h2)).of (by simp only [St.cnt]; omega) (by simp only [St.all]; omega)
theorem goodB : ∀ (b : Bd) (a e : Nat), b.ok = true → a + b.deep ≤ 20 → e + b.lps ≤ 2 → Good (b.ds.map fun x => ("statement", x, a, e)) b.cnt b.all
  | .nil, _, _, _, _, _ => by
    simp only [Bd.ds, List.map_nil, Bd.cnt, Bd.all]
    exact .nil
  | .cons s b, a, e, ok, dp, lp => by
    simp only [Bd.ok, Bool.and_eq_true] at ok
    simp only [Bd.deep] at dp
    simp only [Bd.lps] at lp
    simp only [Bd.ds, List.map_cons, Bd.cnt, Bd.all]
    exact (goodS s a e ok.1 (by omega) (by omega)).app (goodB b a e ok.2 (by omega) (by omega))
end
theorem goodP {b : Bd} (ok : b.ok = true) (dp : b.deep ≤ 20) (lp : b.lps ≤ 2) : Good [("body", .tuple b.ds, 0, 0)] b.cnt (1 + b.all) := good_body (goodB b 0 0 ok (by omega) (by omega))
theorem allE : ∀ x : Ex, x.all ≤ 4 * x.cnt
  | .text _ | .name _ | .many | .last => by simp [Ex.all, Ex.cnt]
  | .join a b => by have := allE a; have := allE b; simp only [Ex.all, Ex.cnt]; omega
  | .turn a | .rest a | .first a => by have := allE a; simp only [Ex.all, Ex.cnt]; omega
theorem allC : ∀ x : Cn, x.all ≤ 4 * x.cnt
  | .same a b | .ahead a b | .inn a b => by have := allE a; have := allE b; simp only [Cn.all, Cn.cnt]; omega
  | .not c => by have := allC c; simp only [Cn.all, Cn.cnt]; omega
mutual
theorem allS : ∀ x : St, x.all ≤ 4 * x.cnt
  | .say e => by have := allE e; simp only [St.all, St.cnt]; omega
  | .let_ _ e => by have := allE e; simp only [St.all, St.cnt]; omega
  | .if_ c a b => by have := allC c; have := allB a; have := allB b; simp only [St.all, St.cnt]; omega
  | .each _ b => by have := allB b; simp only [St.all, St.cnt]; omega
theorem allB : ∀ b : Bd, b.all ≤ 4 * b.cnt
  | .nil => by simp [Bd.all]
  | .cons s b => by have := allS s; have := allB b; simp only [Bd.all, Bd.cnt]; omega
end
/-! ### words stay words -/
structure Wd (row : List Str) (m : Mn) : Prop where
  ws : ∀ w ∈ row, wordX w = true
  len : row.length ≤ 400
  mean : ∀ n w, m n = some w → wordX w = true
theorem Wd.put {row : List Str} {m : Mn} {n w : Str} (h : Wd row m) (hw : wordX w = true) : Wd row (putM m n w) := ⟨h.ws, h.len, fun k x e => by
  unfold putM at e
  split at e
  · cases e
    exact hw
  · exact h.mean k x e⟩
theorem natS_w {n : Nat} (h : n ≤ 400) : wordX (natS n) = true := by
  have all : ∀ n : Fin 401, wordX (natS n.val) = true := by decide +kernel
  exact all ⟨n, by omega⟩
theorem empty_w : wordX (Str.ofString "") = true := by decide +kernel
theorem val_w {row : List Str} {m : Mn} (h : Wd row m) : ∀ e : Ex, e.ok = true → wordX (e.val row m) = true
  | .text w, ok => ok
  | .name n, ok => by
    show wordX ((m n).getD _) = true
    cases e : m n with
    | none => exact empty_w
    | some w => exact h.mean n w e
  | .join a b, ok => by
    simp only [Ex.ok, Bool.and_eq_true] at ok
    have h1 := val_w h a ok.1
    have h2 := val_w h b ok.2
    refine wx ?_ (pr_cut (pr_app (wx_pr h1) (wx_pr h2)) _ _)
    show ((((a.val row m ++ b.val row m).cps.toList.drop _).take _).toArray).size ≤ 40
    rw [List.size_toArray, List.length_take]
    refine Nat.le_trans (Nat.min_le_left _ _) ?_
    have : HT.sIx (a.val row m ++ b.val row m).length (a.val row m ++ b.val row m).length (some 40) ≤ 40 := by
      unfold HT.sIx
      simp
      omega
    omega
  | .turn a, ok => by
    have h1 := val_w h a ok
    exact wx (by rw [show Ex.val row m (.turn a) = revS (a.val row m) from rfl, revS_len]; exact wx_len h1) (pr_rev (wx_pr h1))
  | .rest a, ok => by
    have h1 := val_w h a ok
    exact wx (Nat.le_trans (cutS_length _ _ _) (wx_len h1)) (pr_cut (wx_pr h1) _ _)
  | .first a, ok => by
    have h1 := val_w h a ok
    exact wx (Nat.le_trans (cutS_length _ _ _) (wx_len h1)) (pr_cut (wx_pr h1) _ _)
  | .many, ok => natS_w h.len
  | .last, ok => by
    show wordX (row.getLast?.getD _) = true
    cases e : row.getLast? with
    | none => exact empty_w
    | some w => exact h.ws w (List.mem_of_getLast? e)
end V6

set_option maxHeartbeats 4000000
/-! V6c: what bodies tell, statement by statement; the dict of the names. -/
namespace V6
open PySem PySem.Spec PyProof.Rows L2 V1 V2 V3
mutual
def St.nms : St → List Str
  | .say _ => []
  | .let_ n _ => [n]
  | .if_ _ a b => a.nms ++ b.nms
  | .each n b => n :: b.nms
def Bd.nms : Bd → List Str
  | .nil => []
  | .cons s b => s.nms ++ b.nms
end
def Bd.lst : Bd → List St
  | .nil => []
  | .cons s b => s :: b.lst
def runL (row : List Str) : List St → Mn → Option Str × Mn
  | [], m => (none, m)
  | s :: l, m => match s.run row m with
    | (some x, m') => (some x, m')
    | (none, m') => runL row l m'
theorem Bd.run_lst (row : List Str) : ∀ (b : Bd) (m : Mn), b.run row m = runL row b.lst m
  | .nil, m => by simp only [Bd.run, Bd.lst, runL]
  | .cons s b, m => by
    simp only [Bd.run, Bd.lst, runL]
    cases s.run row m with
    | mk o m' => cases o with
      | none => exact Bd.run_lst row b m'
      | some x => rfl
theorem Bd.ds_lst : ∀ b : Bd, b.ds = b.lst.map St.d
  | .nil => by simp only [Bd.ds, Bd.lst, List.map_nil]
  | .cons s b => by simp only [Bd.ds, Bd.lst, List.map_cons, Bd.ds_lst b]
theorem Bd.ok_lst : ∀ {b : Bd}, b.ok = true → ∀ s ∈ b.lst, s.ok = true
  | .nil, _, s, h => by simp only [Bd.lst] at h; exact absurd h List.not_mem_nil
  | .cons t b, ok, s, h => by
    simp only [Bd.ok, Bool.and_eq_true] at ok
    simp only [Bd.lst] at h
    rcases List.mem_cons.mp h with rfl | h
    · exact ok.1
    · exact Bd.ok_lst ok.2 s h
theorem Bd.deep_lst {n : Nat} : ∀ {b : Bd}, b.deep ≤ n → ∀ s ∈ b.lst, s.deep ≤ n
  | .nil, _, s, h => by simp only [Bd.lst] at h; exact absurd h List.not_mem_nil
  | .cons t b, dp, s, h => by
    simp only [Bd.deep] at dp
    simp only [Bd.lst] at h
    rcases List.mem_cons.mp h with rfl | h
    · omega
    · exact Bd.deep_lst (by omega) s h
theorem Bd.nms_lst : ∀ {b : Bd} {s : St}, s ∈ b.lst → ∀ n ∈ s.nms, n ∈ b.nms
  | .nil, s, h, _, _ => by simp only [Bd.lst] at h; exact absurd h List.not_mem_nil
  | .cons t b, s, h, n, hn => by
    simp only [Bd.lst] at h
    simp only [Bd.nms]
    rcases List.mem_cons.mp h with rfl | h
    · exact List.mem_append_left _ hn
    · exact List.mem_append_right _ (Bd.nms_lst h n hn)
theorem loopE_w {row : List Str} {f : Mn → Option Str × Mn} {n : Str} (hf : ∀ m, Wd row m → Wd row (f m).2 ∧ ∀ x, (f m).1 = some x → wordX x = true) : ∀ (ws : List Str) (m : Mn), (∀ w ∈ ws, wordX w = true) → Wd row m → Wd row (loopE f n ws m).2 ∧ ∀ x, (loopE f n ws m).1 = some x → wordX x = true
  | [], m, _, h => ⟨h, fun x e => by simp [loopE] at e⟩
  | w :: ws, m, hw, h => by
    have z := hf (putM m n w) (h.put (hw w List.mem_cons_self))
    unfold loopE
    cases e : f (putM m n w) with
    | mk o m' =>
      rw [e] at z
      cases o with
      | none => exact loopE_w hf ws m' (fun x hx => hw x (List.mem_cons_of_mem _ hx)) z.1
      | some x => exact z
mutual
theorem runS_w {row : List Str} : ∀ (s : St) (m : Mn), s.ok = true → Wd row m → Wd row (s.run row m).2 ∧ ∀ x, (s.run row m).1 = some x → wordX x = true
  | .say e, m, ok, h => by
    simp only [St.ok] at ok
    simp only [St.run]
    exact ⟨h, fun x q => by cases q; exact val_w h e ok⟩
  | .let_ n e, m, ok, h => by
    simp only [St.ok, Bool.and_eq_true] at ok
    simp only [St.run]
    exact ⟨h.put (val_w h e ok.2), fun x q => by cases q⟩
  | .if_ c a b, m, ok, h => by
    simp only [St.ok, Bool.and_eq_true] at ok
    simp only [St.run]
    split
    · exact runB_w a m ok.2.1 h
    · exact runB_w b m ok.2.2 h
  | .each n b, m, ok, h => by
    simp only [St.ok, Bool.and_eq_true] at ok
    simp only [St.run]
    exact loopE_w (fun m hm => runB_w b m ok.2 hm) row m h.ws h
theorem runB_w {row : List Str} : ∀ (b : Bd) (m : Mn), b.ok = true → Wd row m → Wd row (b.run row m).2 ∧ ∀ x, (b.run row m).1 = some x → wordX x = true
  | .nil, m, ok, h => by
    simp only [Bd.run]
    exact ⟨h, fun x q => by cases q⟩
  | .cons s b, m, ok, h => by
    simp only [Bd.ok, Bool.and_eq_true] at ok
    have z := runS_w s m ok.1 h
    simp only [Bd.run]
    cases e : s.run row m with
    | mk o m' =>
      rw [e] at z
      cases o with
      | none => exact runB_w b m' ok.2 z.1
      | some x => exact z
end
/-- the dict of the names -/
structure KM (kvs : List (Key × V)) (m : Mn) (L : List Str) : Prop where
  at_ : ∀ n : Str, valV kvs (.inr n) = (m n).map V.str
  nd : (kvs.map (·.1)).Nodup
  sub : ∀ p ∈ kvs, ∃ n ∈ L, p.1 = .inr n
theorem len_sub {α : Type} [DecidableEq α] : ∀ (l L : List α), l.Nodup → (∀ x ∈ l, x ∈ L) → l.length ≤ L.length
  | [], _, _, _ => Nat.zero_le _
  | x :: l, L, nd, sub => by
    have z := List.nodup_cons.mp nd
    have m := sub x List.mem_cons_self
    have y := len_sub l (L.erase x) z.2 fun y hy => by
      have ne : y ≠ x := fun q => z.1 (q ▸ hy)
      exact (List.mem_erase_of_ne ne).mpr (sub y (List.mem_cons_of_mem _ hy))
    rw [List.length_erase_of_mem m] at y
    have p : 0 < L.length := List.length_pos_of_mem m
    rw [List.length_cons]
    omega
theorem KM.len {kvs : List (Key × V)} {m : Mn} {L : List Str} (h : KM kvs m L) : kvs.length ≤ L.length := by
  have z := len_sub (kvs.map (·.1)) (L.map (Sum.inr : Str → Key)) h.nd fun k hk => by
    obtain ⟨p, hp, rfl⟩ := List.mem_map.mp hk
    obtain ⟨n, hn, e⟩ := h.sub p hp
    exact List.mem_map.mpr ⟨n, hn, e.symm⟩
  rw [List.length_map, List.length_map] at z
  exact z
theorem KM.nil (L : List Str) : KM [] (fun _ => none) L := ⟨fun _ => rfl, .nil, fun _ h => absurd h List.not_mem_nil⟩
theorem KM.put {kvs : List (Key × V)} {m : Mn} {L : List Str} (h : KM kvs m L) {n w : Str} (hn : n ∈ L) : KM (putK kvs (.inr n) (.str w)) (putM m n w) L := by
  refine ⟨fun k => ?_, ?_, fun p hp => ?_⟩
  · rw [valV_put, h.at_]
    unfold putM
    by_cases e : k = n
    · rw [if_pos e, if_pos (by rw [e])]
      rfl
    · rw [if_neg e, if_neg fun z => e (Sum.inr.inj z)]
  · unfold putK
    split
    · rw [List.map_map]
      have z : ((fun x : Key × V => x.1) ∘ fun kv : Key × V => if kv.1 = .inr n then (kv.1, V.str w) else kv) = fun x => x.1 := by
        funext x
        simp only [Function.comp]
        split <;> rfl
      rw [z]
      exact h.nd
    · rename_i no
      rw [List.map_append]
      refine List.nodup_append.mpr ⟨h.nd, by simp, fun x hx y hy e => no ?_⟩
      simp only [List.map_cons, List.map_nil, List.mem_singleton] at hy
      obtain ⟨q, hq, e2⟩ := List.mem_map.mp hx
      rw [List.any_eq_true]
      exact ⟨q, hq, decide_eq_true (e2.trans (e.trans hy))⟩
  · unfold putK at hp
    split at hp
    · obtain ⟨q, hq, rfl⟩ := List.mem_map.mp hp
      have := h.sub q hq
      split
      · exact this
      · exact this
    · rcases List.mem_append.mp hp with hp | hp
      · exact h.sub p hp
      · rw [List.mem_singleton.mp hp]
        exact ⟨n, hn, rfl⟩
def optV : Option Str → V
  | none => .non
  | some x => .str x
end V6

set_option maxHeartbeats 4000000
/-! V6d: sorted() of a list of data that stands in its order already. -/
namespace V6
open PySem PySem.Spec PyProof.Rows L2 V1 V2 V3
def rSortI (K : PySem.W.Frag) : List V → Hp → VK → Prop := fun vs H Q => ∃ (a : Addr) (xs : List V) (ds : List PyData), vs = [V.ref a] ∧ SqL K H a xs ∧ DqAll H xs ds ∧ PySem.W.AllAlike ds ∧ PySem.W.Sortable ds ∧ (∀ d ∈ ds, d.depth ≤ 8) ∧ ds.Pairwise (fun x y => PySem.W.dataLt y x = false) ∧
  ∀ p, H p = none → Q (.ref p) (upd H p (.lst xs))
theorem each_zip {R : Value → PyData → Prop} : ∀ {vs : List Value} {ds : List PyData}, vs.length = ds.length → (∀ i (h : i < vs.length) (h' : i < ds.length), R vs[i] ds[i]) → PySem.W.EachIs (fun (v : Value) (b : Value × PyData) => v = b.1 ∧ R v b.2) vs (vs.zip ds)
  | [], [], _, _ => .nil
  | v :: vs, d :: ds, l, h => .cons ⟨rfl, h 0 (Nat.zero_lt_succ _) (Nat.zero_lt_succ _)⟩ (each_zip (Nat.succ.inj l) fun i h1 h2 => h (i + 1) (Nat.succ_lt_succ h1) (Nat.succ_lt_succ h2))
theorem each_fst : ∀ {vs : List Value} {bs : List (Value × PyData)}, PySem.W.EachIs (fun (v : Value) (b : Value × PyData) => v = b.1) vs bs → vs = bs.map (·.1)
  | _, _, .nil => rfl
  | _, _, .cons h t => by rw [List.map_cons, ← each_fst t, h]
theorem zip_snd : ∀ {vs : List Value} {ds : List PyData}, vs.length = ds.length → (vs.zip ds).map (·.2) = ds ∧ (vs.zip ds).map (·.1) = vs
  | [], [], _ => ⟨rfl, rfl⟩
  | v :: vs, d :: ds, l => by
    obtain ⟨h1, h2⟩ := zip_snd (vs := vs) (ds := ds) (Nat.succ.inj l)
    rw [List.zip_cons_cons, List.map_cons, List.map_cons, h1, h2]
    exact ⟨rfl, rfl⟩
theorem cr_sortI {X : Cx} (room : X.A.units + 64 < cLine) : CallR X (.builtin "sorted") (rSortI X.K) := by
  rintro pins s σ H vs us Q I r ⟨a, xs, ds, rfl, hs, hd, al, so, dep, pw, q⟩
  obtain ⟨its, rv, hl, hz⟩ := I.list hs
  obtain ⟨u, rfl, ru⟩ := vals1 r
  cases ru
  have l1 : its.length = xs.length := rv.length.symm
  have l2 : xs.length = ds.length := dqAll_len hd
  have ll : its.length = ds.length := l1.trans l2
  obtain ⟨as, ra, _⟩ := DqAll.reads I ds xs its hd rv
  have er : ∀ i (h : i < its.length) (h' : i < ds.length), ∃ as, Reads s.heap its[i] ds[i] as := by
    have e := PySem.W.readsAll_each (h := s.heap) (vs := its) (bs := ds) (as := as) id (by rw [List.map_id]; exact ra)
    clear ra pw dep so al hd q ll l2 l1 hl hz rv
    induction e with
    | nil => intro i h; exact absurd h (Nat.not_lt_zero _)
    | cons h t ih =>
      intro i h1 h2
      cases i with
      | zero => exact h
      | succ i => exact ih i (Nat.lt_of_succ_lt_succ h1) (Nat.lt_of_succ_lt_succ h2)
  have ez := each_zip (R := fun v d => ∃ as, Reads s.heap v d as) ll er
  obtain ⟨z1, z2⟩ := zip_snd ll
  have lz : (its.zip ds).length ≤ sizeLine := by
    have : its.length ≤ sizeLine := by rw [l1]; exact hz
    rw [List.length_zip]
    omega
  refine PySem.W.sorted_data (β := Value × PyData) (R := fun v b => v = b.1) (enc := fun b => b.2) (bs := its.zip ds) hl.isList (ez.mono fun _ _ h => h.1) (ez.mono fun _ _ h => h.2) (by rw [z1]; exact al) (by rw [z1]; exact so) lz (fun b hb => ?_) fun out lo eo => ?_
  · have := dep b.2 (by rw [← z1]; exact List.mem_map.mpr ⟨b, hb, rfl⟩)
    show X.A.units + 2 + b.2.depth < cLine
    omega
  · have ms : (its.zip ds).mergeSort (PySem.W.dataLe false fun b => b.2) = its.zip ds := by
      refine List.mergeSort_of_pairwise ?_
      have z : ((its.zip ds).map (·.2)).Pairwise fun x y => PySem.W.dataLt y x = false := by rw [z1]; exact pw
      refine (List.pairwise_map.mp z).imp fun {x y} h => ?_
      rw [PySem.W.dataLe_eq]
      show (!PySem.W.dataLt y.2 x.2) = true
      rw [h]
      rfl
    rw [ms] at eo
    have oe : out = its := (each_fst eo).trans z2
    subst oe
    obtain ⟨n, hn⟩ := PyProof.Rows.sortedAll_at s.heap out out.toArray
    refine ⟨.ref (s.heap.objs.size + 1), upd H (s.heap.objs.size + 1) (.lst xs), I.laid (t' := s.toks) (fun _ _ e => PyProof.Rows.sortedAll_old e) (Nat.le_succ _) ⟨hz, out, n, rv, hn⟩, rfl, q _ (I.hok.fresh (Nat.le_succ _))⟩
/-! rows that go on -/
theorem alike_strs : ∀ xs ys : List Str, PySem.W.alikeAll (xs.map PyData.str) (ys.map PyData.str) = true
  | [], _ => by simp [PySem.W.alikeAll]
  | _ :: _, [] => by simp [PySem.W.alikeAll]
  | x :: xs, y :: ys => by
    show PySem.W.alikeAll (.str x :: xs.map .str) (.str y :: ys.map .str) = true
    rw [PySem.W.alikeAll, alike_strs xs ys]
    simp [PySem.W.alike]
theorem eqv_more : ∀ (r : List Str) (x : Str) (t : List Str), PyData.eqvAll ((r ++ x :: t).map PyData.str) (r.map PyData.str) = false
  | [], x, t => by simp [PyData.eqvAll]
  | y :: r, x, t => by
    show PyData.eqvAll (.str y :: (r ++ x :: t).map .str) (.str y :: r.map .str) = false
    rw [PyData.eqvAll, eqv_more r x t, Bool.and_false]
theorem lt_more : ∀ (r : List Str) (x : Str) (t : List Str), PyProof.Rows.lexLt PyProof.Rows.itemOrd (PySem.W.keyToksAll ((r ++ x :: t).map PyData.str)) (PySem.W.keyToksAll (r.map PyData.str)) = false
  | [], x, t => by
    show PyProof.Rows.lexLt PyProof.Rows.itemOrd (PySem.W.keyToksAll (.str x :: t.map .str)) (PySem.W.keyToksAll []) = false
    first
    | rfl
    | simp [PySem.W.keyToksAll, PySem.W.keyToks, PyProof.Rows.lexLt, PyProof.Rows.itemLt]
  | y :: r, x, t => by
    show PyProof.Rows.lexLt PyProof.Rows.itemOrd (PySem.W.keyToksAll (.str y :: (r ++ x :: t).map .str)) (PySem.W.keyToksAll (.str y :: r.map .str)) = false
    rw [PySem.W.dataLt_cons (by simp [PySem.W.alike]), if_pos (by simp [PyData.eqv])]
    exact lt_more r x t
def pairX (t : List Str × Str) : PyData := .tuple [.tuple (t.1.map .str), .str t.2]
theorem pairs_less {r : List Str} {x : Str} {t : List Str} {y z : Str} : PySem.W.dataLt (pairX (r ++ x :: t, z)) (pairX (r, y)) = false := by
  unfold pairX
  rw [PySem.W.dataLt_pair (by rw [PySem.W.alike]; exact alike_strs _ _) (by simp [PySem.W.alike])]
  have z : PyData.eqv (.tuple ((r ++ x :: t).map .str)) (.tuple (r.map .str)) = false := by
    simp only [PyData.eqv]
    exact eqv_more r x t
  rw [if_neg (by rw [z]; decide), PySem.W.dataLt_tuple]
  exact lt_more r x t
theorem pairs_alike (ts : List (List Str × Str)) : PySem.W.AllAlike (ts.map pairX) := .of fun b b' => by
  unfold pairX
  simp [PySem.W.alike, PySem.W.alikeAll, alike_strs]
theorem pairs_srt (ts : List (List Str × Str)) : PySem.W.Sortable (ts.map pairX) := .tuples fun b => ⟨_, _, rfl⟩
theorem depth_strs (xs : List Str) : PyData.depthAll (xs.map PyData.str) = 0 := by
  induction xs with
  | nil => simp [PyData.depthAll]
  | cons x xs ih =>
    rw [List.map_cons, PyData.depthAll, ih]
    simp [PyData.depth]
theorem pairs_depth (ts : List (List Str × Str)) : ∀ d ∈ ts.map pairX, d.depth ≤ 8 := fun d hd => by
  obtain ⟨t, _, rfl⟩ := List.mem_map.mp hd
  simp [pairX, PyData.depth, PyData.depthAll, depth_strs]
/-- each row goes on where the one before ends -/
def Grows (ts : List (List Str × Str)) : Prop := ts.Pairwise fun t u => ∃ x m, u.1 = t.1 ++ x :: m
theorem grows_pw {ts : List (List Str × Str)} (g : Grows ts) : (ts.map pairX).Pairwise (fun x y => PySem.W.dataLt y x = false) := by
  rw [List.pairwise_map]
  refine List.Pairwise.imp (fun {t u} h => ?_) g
  obtain ⟨x, m, e⟩ := h
  obtain ⟨r, z⟩ := u
  obtain ⟨r', y⟩ := t
  subst e
  exact pairs_less
theorem Grows.snoc {ts : List (List Str × Str)} {r : List Str} {w : Str} (g : Grows ts) (h : ∀ t ∈ ts, ∃ x m, r = t.1 ++ x :: m) : Grows (ts ++ [(r, w)]) := by
  refine List.pairwise_append.mpr ⟨g, List.pairwise_singleton _ _, fun t ht u hu => ?_⟩
  rw [List.mem_singleton.mp hu]
  exact h t ht
end V6

set_option maxHeartbeats 0
namespace K03
open PySem PySem.Spec PyProof.Rows L2 V1
def top (i : Nat) : Stmt := PySem.Challenge.pw_turnedtalk_k03_talks_refused.main.body.getD i (.Pass ⟨0, 0, 0, 0⟩)
abbrev s_is_integer : Stmt := top 4
def d_is_integer : He.DefD := ⟨("is_integer", none), "is_integer", "is_integer", defArgs s_is_integer, defBody s_is_integer, defScope s_is_integer, [], []⟩
abbrev s_is_from_to : Stmt := top 5
def d_is_from_to : He.DefD := ⟨("is_from_to", none), "is_from_to", "is_from_to", defArgs s_is_from_to, defBody s_is_from_to, defScope s_is_from_to, [], []⟩
abbrev s_is_tuple_of : Stmt := top 6
def d_is_tuple_of : He.DefD := ⟨("is_tuple_of", none), "is_tuple_of", "is_tuple_of", defArgs s_is_tuple_of, defBody s_is_tuple_of, defScope s_is_tuple_of, [], []⟩
abbrev s_is_word : Stmt := top 7
def d_is_word : He.DefD := ⟨("is_word", none), "is_word", "is_word", defArgs s_is_word, defBody s_is_word, defScope s_is_word, [], []⟩
abbrev s_is_row : Stmt := top 8
def d_is_row : He.DefD := ⟨("is_row", none), "is_row", "is_row", defArgs s_is_row, defBody s_is_row, defScope s_is_row, [], []⟩
abbrev s_is_house : Stmt := top 9
def d_is_house : He.DefD := ⟨("is_house", none), "is_house", "is_house", defArgs s_is_house, defBody s_is_house, defScope s_is_house, [], []⟩
abbrev s_is_order : Stmt := top 10
def d_is_order : He.DefD := ⟨("is_order", none), "is_order", "is_order", defArgs s_is_order, defBody s_is_order, defScope s_is_order, [], []⟩
abbrev s_is_row_and_word : Stmt := top 20
def d_is_row_and_word : He.DefD := ⟨("is_row_and_word", none), "is_row_and_word", "is_row_and_word", defArgs s_is_row_and_word, defBody s_is_row_and_word, defScope s_is_row_and_word, [], []⟩
abbrev s_check_pairs : Stmt := top 21
def d_check_pairs : He.DefD := ⟨("check_pairs", none), "check_pairs", "check_pairs", defArgs s_check_pairs, defBody s_check_pairs, defScope s_check_pairs, [], []⟩
abbrev s_asked : Stmt := top 24
def d_asked : He.DefD := ⟨("asked", none), "asked", "asked", defArgs s_asked, defBody s_asked, defScope s_asked, [], []⟩
abbrev s_talk : Stmt := top 25
def d_talk : He.DefD := ⟨("talk", none), "talk", "talk", defArgs s_talk, defBody s_talk, defScope s_talk, [], []⟩
abbrev s_is_talk : Stmt := top 26
def d_is_talk : He.DefD := ⟨("is_talk", none), "is_talk", "is_talk", defArgs s_is_talk, defBody s_is_talk, defScope s_is_talk, [], []⟩
abbrev s_has_letters : Stmt := top 34
def d_has_letters : He.DefD := ⟨("has_letters", none), "has_letters", "has_letters", defArgs s_has_letters, defBody s_has_letters, defScope s_has_letters, [], []⟩
abbrev s_is_name : Stmt := top 35
def d_is_name : He.DefD := ⟨("is_name", none), "is_name", "is_name", defArgs s_is_name, defBody s_is_name, defScope s_is_name, [], []⟩
abbrev s_has_form : Stmt := top 36
def d_has_form : He.DefD := ⟨("has_form", none), "has_form", "has_form", defArgs s_has_form, defBody s_has_form, defScope s_has_form, [], []⟩
abbrev s_is_right : Stmt := top 37
def d_is_right : He.DefD := ⟨("is_right", none), "is_right", "is_right", defArgs s_is_right, defBody s_is_right, defScope s_is_right, [], []⟩
abbrev s_inner_ones : Stmt := top 38
def d_inner_ones : He.DefD := ⟨("inner_ones", none), "inner_ones", "inner_ones", defArgs s_inner_ones, defBody s_inner_ones, defScope s_inner_ones, [], []⟩
abbrev s_is_program : Stmt := top 39
def d_is_program : He.DefD := ⟨("is_program", none), "is_program", "is_program", defArgs s_is_program, defBody s_is_program, defScope s_is_program, [], []⟩
abbrev s_told_by : Stmt := top 41
def d_told_by : He.DefD := ⟨("told_by", none), "told_by", "told_by", defArgs s_told_by, defBody s_told_by, defScope s_told_by, [], []⟩
abbrev s_holds : Stmt := top 42
def d_holds : He.DefD := ⟨("holds", none), "holds", "holds", defArgs s_holds, defBody s_holds, defScope s_holds, [], []⟩
abbrev s_said_by : Stmt := top 43
def d_said_by : He.DefD := ⟨("said_by", none), "said_by", "said_by", defArgs s_said_by, defBody s_said_by, defScope s_said_by, [], []⟩
abbrev s_said_by_one : Stmt := top 44
def d_said_by_one : He.DefD := ⟨("said_by_one", none), "said_by_one", "said_by_one", defArgs s_said_by_one, defBody s_said_by_one, defScope s_said_by_one, [], []⟩
abbrev s__law_hand : Stmt := top 47
def d__law_hand : He.DefD := ⟨("_law_hand", none), "_law_hand", "_law_hand", defArgs s__law_hand, defBody s__law_hand, defScope s__law_hand, [], []⟩
abbrev s__law_draw : Stmt := top 48
def d__law_draw : He.DefD := ⟨("_law_draw", none), "_law_draw", "_law_draw", defArgs s__law_draw, defBody s__law_draw, defScope s__law_draw, [], []⟩
abbrev s__law_pick : Stmt := top 49
def d__law_pick : He.DefD := ⟨("_law_pick", none), "_law_pick", "_law_pick", defArgs s__law_pick, defBody s__law_pick, defScope s__law_pick, [], []⟩
abbrev s__law_is : Stmt := top 50
def d__law_is : He.DefD := ⟨("_law_is", none), "_law_is", "_law_is", defArgs s__law_is, defBody s__law_is, defScope s__law_is, [], []⟩
abbrev s__law_is_word : Stmt := top 51
def d__law_is_word : He.DefD := ⟨("_law_is_word", none), "_law_is_word", "_law_is_word", defArgs s__law_is_word, defBody s__law_is_word, defScope s__law_is_word, [], []⟩
abbrev s__law_is_row : Stmt := top 52
def d__law_is_row : He.DefD := ⟨("_law_is_row", none), "_law_is_row", "_law_is_row", defArgs s__law_is_row, defBody s__law_is_row, defScope s__law_is_row, [], []⟩
abbrev s__law_is_order : Stmt := top 53
def d__law_is_order : He.DefD := ⟨("_law_is_order", none), "_law_is_order", "_law_is_order", defArgs s__law_is_order, defBody s__law_is_order, defScope s__law_is_order, [], []⟩
abbrev s__law_wild : Stmt := top 54
def d__law_wild : He.DefD := ⟨("_law_wild", none), "_law_wild", "_law_wild", defArgs s__law_wild, defBody s__law_wild, defScope s__law_wild, [], []⟩
abbrev s__law_plain : Stmt := top 55
def d__law_plain : He.DefD := ⟨("_law_plain", none), "_law_plain", "_law_plain", defArgs s__law_plain, defBody s__law_plain, defScope s__law_plain, [], []⟩
abbrev s__law_tell : Stmt := top 56
def d__law_tell : He.DefD := ⟨("_law_tell", none), "_law_tell", "_law_tell", defArgs s__law_tell, defBody s__law_tell, defScope s__law_tell, [], []⟩
abbrev s__law_house : Stmt := top 57
def d__law_house : He.DefD := ⟨("_law_house", none), "_law_house", "_law_house", defArgs s__law_house, defBody s__law_house, defScope s__law_house, [], []⟩
abbrev s__law_row : Stmt := top 58
def d__law_row : He.DefD := ⟨("_law_row", none), "_law_row", "_law_row", defArgs s__law_row, defBody s__law_row, defScope s__law_row, [], []⟩
abbrev s__law_order : Stmt := top 59
def d__law_order : He.DefD := ⟨("_law_order", none), "_law_order", "_law_order", defArgs s__law_order, defBody s__law_order, defScope s__law_order, [], []⟩
abbrev s__law_talk_due : Stmt := top 60
def d__law_talk_due : He.DefD := ⟨("_law_talk_due", none), "_law_talk_due", "_law_talk_due", defArgs s__law_talk_due, defBody s__law_talk_due, defScope s__law_talk_due, [], []⟩
abbrev s__law_called : Stmt := top 61
def d__law_called : He.DefD := ⟨("_law_called", none), "_law_called", "_law_called", defArgs s__law_called, defBody s__law_called, defScope s__law_called, [], []⟩
abbrev s__law_are_told : Stmt := top 62
def d__law_are_told : He.DefD := ⟨("_law_are_told", none), "_law_are_told", "_law_are_told", defArgs s__law_are_told, defBody s__law_are_told, defScope s__law_are_told, [], []⟩
abbrev s_law : Stmt := top 63
def d_law : He.DefD := ⟨("law", none), "law", "law", defArgs s_law, defBody s_law, defScope s_law, [], []⟩
abbrev s_BadHouse__init__ : Stmt := inClass (top 13) 0
def d_BadHouse__init__ : He.DefD := ⟨("BadHouse", some "__init__"), "__init__", "BadHouse.__init__", defArgs s_BadHouse__init__, defBody s_BadHouse__init__, defScope s_BadHouse__init__, [], []⟩
abbrev s_BadTable__init__ : Stmt := inClass (top 14) 0
def d_BadTable__init__ : He.DefD := ⟨("BadTable", some "__init__"), "__init__", "BadTable.__init__", defArgs s_BadTable__init__, defBody s_BadTable__init__, defScope s_BadTable__init__, [], []⟩
abbrev s_Table__init__ : Stmt := inClass (top 22) 0
def d_Table__init__ : He.DefD := ⟨("Table", some "__init__"), "__init__", "Table.__init__", defArgs s_Table__init__, defBody s_Table__init__, defScope s_Table__init__, [], []⟩
abbrev s_Table__eq__ : Stmt := inClass (top 22) 1
def d_Table__eq__ : He.DefD := ⟨("Table", some "__eq__"), "__eq__", "Table.__eq__", defArgs s_Table__eq__, defBody s_Table__eq__, defScope s_Table__eq__, [], []⟩
abbrev s_Tableword : Stmt := inClass (top 22) 2
def d_Tableword : He.DefD := ⟨("Table", some "word"), "word", "Table.word", defArgs s_Tableword, defBody s_Tableword, defScope s_Tableword, [], []⟩
abbrev s_Voice__init__ : Stmt := inClass (top 23) 0
def d_Voice__init__ : He.DefD := ⟨("Voice", some "__init__"), "__init__", "Voice.__init__", defArgs s_Voice__init__, defBody s_Voice__init__, defScope s_Voice__init__, [], []⟩
abbrev s_Voiceword : Stmt := inClass (top 23) 1
def d_Voiceword : He.DefD := ⟨("Voice", some "word"), "word", "Voice.word", defArgs s_Voiceword, defBody s_Voiceword, defScope s_Voiceword, [], []⟩
abbrev s_Program__init__ : Stmt := inClass (top 45) 0
def d_Program__init__ : He.DefD := ⟨("Program", some "__init__"), "__init__", "Program.__init__", defArgs s_Program__init__, defBody s_Program__init__, defScope s_Program__init__, [], []⟩
abbrev s_Program__eq__ : Stmt := inClass (top 45) 1
def d_Program__eq__ : He.DefD := ⟨("Program", some "__eq__"), "__eq__", "Program.__eq__", defArgs s_Program__eq__, defBody s_Program__eq__, defScope s_Program__eq__, [], []⟩
abbrev s_Programword : Stmt := inClass (top 45) 2
def d_Programword : He.DefD := ⟨("Program", some "word"), "word", "Program.word", defArgs s_Programword, defBody s_Programword, defScope s_Programword, [], []⟩
def fn : List He.DefD := [d_is_integer, d_is_from_to, d_is_tuple_of, d_is_word, d_is_row, d_is_house, d_is_order, d_is_row_and_word, d_check_pairs, d_asked, d_talk, d_is_talk, d_has_letters, d_is_name, d_has_form, d_is_right, d_inner_ones, d_is_program, d_told_by, d_holds, d_said_by, d_said_by_one, d__law_hand, d__law_draw, d__law_pick, d__law_is, d__law_is_word, d__law_is_row, d__law_is_order, d__law_wild, d__law_plain, d__law_tell, d__law_house, d__law_row, d__law_order, d__law_talk_due, d__law_called, d__law_are_told, d_law, d_BadHouse__init__, d_BadTable__init__, d_Table__init__, d_Table__eq__, d_Tableword, d_Voice__init__, d_Voiceword, d_Program__init__, d_Program__eq__, d_Programword]
def fa0 : List He.Fa := [.int "MOST_SIGNS" 40, .int "MOST_WORDS" 400, .int "MOST_OWNERS" 40, .glo "is_integer", .glo "is_from_to", .glo "is_tuple_of", .glo "is_word", .glo "is_row", .glo "is_house", .glo "is_order", .glo "TalkError", .glo "BadHouse", .glo "BadTable", .glo "NoRow", .glo "NoOrder", .glo "BadProgram", .int "MOST_PAIRS" 200, .glo "is_row_and_word", .glo "check_pairs", .glo "Table"]
def fa1 : List He.Fa := [.glo "Voice", .glo "asked", .glo "talk", .glo "is_talk", .int "MOST_DEEP" 20, .int "MOST_PARTS" 500, .int "MOST_EACHES" 2, .int "MOST_NAME" 8, .glo "FORMS", .glo "BARE", .glo "has_letters", .glo "is_name", .glo "has_form", .glo "is_right", .glo "inner_ones", .glo "is_program", .glo "told_by", .glo "holds", .glo "said_by", .glo "said_by_one"]
def fa2 : List He.Fa := [.glo "Program", .glo "_law_hand", .glo "_law_draw", .glo "_law_pick", .glo "_law_is", .glo "_law_is_word", .glo "_law_is_row", .glo "_law_is_order", .glo "_law_wild", .glo "_law_plain", .glo "_law_tell", .glo "_law_house", .glo "_law_row", .glo "_law_order", .glo "_law_talk_due", .glo "_law_called", .glo "_law_are_told", .glo "law", .free "ValueError", .free "all"]
def fa3 : List He.Fa := [.free "bool", .free "dict", .free "enumerate", .free "int", .free "isinstance", .free "len", .free "list", .free "range", .free "str", .free "tuple", .free "zip", .meth "BadHouse" "__init__", .meth "BadTable" "__init__", .noat "BadHouse" "row", .noat "BadTable" "part", .exc "NoRow", .exc "NoOrder", .exc "BadProgram", .exc "TalkError", .cls "Table"]
def fa4 : List He.Fa := [.noat "Table" "_beside", .noat "Table" "other", .noat "Table" "pairs", .mkr "Table", .meth "Table" "__init__", .meth "Table" "__eq__", .meth "Table" "word", .cls "Voice", .noat "Voice" "telling", .mkr "Voice", .meth "Voice" "__init__", .meth "Voice" "word", .cls "Program", .noat "Program" "statements", .mkr "Program", .meth "Program" "__init__", .meth "Program" "__eq__", .meth "Program" "word"]
def fa : List He.Fa := fa0 ++ (fa1 ++ (fa2 ++ (fa3 ++ (fa4))))
def errs : List Str := ["BadHouse", "BadTable", "NoRow", "NoOrder", "BadProgram"]
def plainC : List Str := ["Table", "Voice", "Program"]
def exB0 (K : PySem.W.Frag) : Bool :=
  oexB K (He.ga K "TalkError") veB && (errs.all (fun x => oexB K (He.ga K x) (.ref (He.ga K "TalkError") :: veB)) && (decide ((He.ga K "TalkError" :: errs.map (He.ga K)).Nodup) && clsAttrB K))
def exI (K : PySem.W.Frag) : Bool := plainC.all fun x => V2.insB K (He.ga K x)
def exK (K : PySem.W.Frag) : Bool := plainC.all fun x => V3.kindB K (He.ga K x) && plainC.all fun y => (x == y) || (decide (PySem.W.kitOne K (.ref (He.ga K x)) (.ref (He.ga K y)) = some false) && PySem.W.notFirst K (He.ga K x) (.ref (He.ga K y)))
def exB1 (K : PySem.W.Frag) : Bool := exB0 K && (exI K && exK K)
def lamN : List Str := ["_law_house"]
def formsL : List (Str × Str × List Str) := [("say", "statement", ["e"]), ("let", "statement", ["name", "e"]), ("if", "statement", ["c", "body", "body"]), ("each", "statement", ["name", "body"]), ("text", "e", ["word"]), ("name", "e", ["name"]), ("join", "e", ["e", "e"]), ("turn", "e", ["e"]), ("rest", "e", ["e"]), ("first", "e", ["e"]), ("many", "e", []), ("last", "e", []), ("same", "c", ["e", "e"]), ("ahead", "c", ["e", "e"]), ("in", "c", ["e", "e"]), ("not", "c", ["c"])]
def hashL (w : World) : List Int := formsL.map fun p => hashStr w p.1
def exB2 (K : PySem.W.Frag) : Bool := exB1 K && ((lamN.all fun x => V4.lamB K (He.ga K x)) && decide ((lamN.map fun x => (V4.pairOf K (He.ga K x)).2).Nodup))
def exB (K : PySem.W.Frag) : Bool := exB2 K && (V5.formsB K (He.ga K "FORMS") formsL && V5.strsB K (He.ga K "BARE") ["many", "last"])
def emB (g : Addr → Option Obj) (K : PySem.W.Frag) : Bool := lamN.all fun x => V4.emptyT g (V4.pairOf K (He.ga K x)).2
abbrev AlE : Type := He.AlD × (Bool × (Bool × List Int))
def obsE (g : Addr → Option Obj) : AlE := (He.obsD fa fn (He.frG g (V4.asT g 4)), (exB (He.frG g (V4.asT g 4)), (emB g (He.frG g (V4.asT g 4)), V5.hashesOf (He.frG g (V4.asT g 4)) (He.ga (He.frG g (V4.asT g 4)) "FORMS"))))
def hk : PySem.W.Hook where
  α := AlE
  obs := fun s => obsE s.heap.get?
  val := fun w => (He.valD fn, (true, (true, hashL w)))
  says := fun w h => ∃ K : PySem.W.Frag, K.In h ∧ He.SaysD fa fn K ∧ (exB K = true ∧ V5.hashesOf K (He.ga K "FORMS") = hashL w ∧ ∀ x ∈ lamN, h.get? (V4.pairOf K (He.ga K x)).2 = some { cls := .none, data := .fields #[] })
  of := fun _ _ e => ⟨_, He.frG_in, congrArg (fun z : AlE => z.1) e, congrArg (fun z : AlE => z.2.1) e, congrArg (fun z : AlE => z.2.2.2) e, fun x hx => V4.emptyT_is (List.all_eq_true.mp (show emB _ _ = true from congrArg (fun z : AlE => z.2.2.1) e) x hx)⟩
  keeps := fun _ _ _ ⟨K, inK, c, x, hh, t⟩ k => ⟨K, PySem.W.Frag.In.keeps inK k, c, x, hh, fun y hy => k _ _ (t y hy)⟩
theorem obsE_eq {g : Addr → Option Obj} {s : Shared} (h : ∀ a, g a = s.heap.get? a) : obsE g = hk.obs s := by
  have same : g = s.heap.get? := funext h
  rw [same] <;> rfl
abbrev R : PySem.W.OpenRow := PySem.W.OpenLaw.row PySem.Challenge.rw_turnedtalk_k03_talks_refused
def ob (s : PySem.W.SharedT) : AlE := obsE (HandSHeadRun.getT s)
theorem ob_eq (s : PySem.W.SharedT) : ob s = hk.obs s.abs := obsE_eq (HandSHeadRun.getT_eq s)
def nm0 : List PySem.Str := ["MOST_SIGNS", "MOST_WORDS", "MOST_OWNERS", "is_integer", "is_from_to", "is_tuple_of", "is_word", "is_row", "is_house", "is_order", "TalkError", "BadHouse", "BadTable", "NoRow", "NoOrder", "BadProgram", "MOST_PAIRS", "is_row_and_word", "check_pairs", "Table", "Voice", "asked", "talk", "is_talk", "MOST_DEEP"]
def nm1 : List PySem.Str := ["MOST_PARTS", "MOST_EACHES", "MOST_NAME", "FORMS", "BARE", "has_letters", "is_name", "has_form", "is_right", "inner_ones", "is_program", "told_by", "holds", "said_by", "said_by_one", "Program", "_law_hand", "_law_draw", "_law_pick", "_law_is", "_law_is_word", "_law_is_row", "_law_is_order", "_law_wild", "_law_plain"]
def nm2 : List PySem.Str := ["_law_tell", "_law_house", "_law_row", "_law_order", "_law_talk_due", "_law_called", "_law_are_told"]
def names : List PySem.Str := nm0 ++ (nm1 ++ (nm2))
theorem run1 (w : World) : HandSHeadRun.RunEq R (PySem.W.view R.prog [63]) hk ob 60000 names (V3.wHab "special-get-raises" true w) := by
  intro os
  kernel_rfl
theorem run0 (w : World) : HandSHeadRun.RunEq R (PySem.W.view R.prog [63]) hk ob 60000 names (V3.wHab "special-get-raises" false w) := by
  intro os
  kernel_rfl
theorem run (w : World) : HandSHeadRun.RunEq R (PySem.W.view R.prog [63]) hk ob 60000 names w := V3.run_hab (p := fun w => HandSHeadRun.RunEq R (PySem.W.view R.prog [63]) hk ob 60000 names w) "special-get-raises" run1 run0 w
theorem exB_2 {K : PySem.W.Frag} (h : exB K = true) : exB2 K = true := (Bool.and_eq_true_iff.mp h).1
theorem exB_1 {K : PySem.W.Frag} (h : exB2 K = true) : exB1 K = true := (Bool.and_eq_true_iff.mp h).1
theorem lam_at {K : PySem.W.Frag} (h : exB2 K = true) {x : Str} (hx : x ∈ lamN) : V4.LamD K (He.ga K x) := V4.lamD_of (List.all_eq_true.mp (Bool.and_eq_true_iff.mp (Bool.and_eq_true_iff.mp h).2).1 x hx)
theorem tabs_nd {K : PySem.W.Frag} (h : exB2 K = true) : (lamN.map fun x => (V4.pairOf K (He.ga K x)).2).Nodup := of_decide_eq_true (Bool.and_eq_true_iff.mp (Bool.and_eq_true_iff.mp h).2).2
theorem forms_at {K : PySem.W.Frag} {w : World} (h : exB K = true) (hh : V5.hashesOf K (He.ga K "FORMS") = hashL w) : V5.Forms K w (He.ga K "FORMS") formsL := V5.forms_of ((Bool.and_eq_true_iff.mp (Bool.and_eq_true_iff.mp h).2).1) hh (by decide +kernel)
theorem BARE_at {K : PySem.W.Frag} (h : exB K = true) (H : L2.Hp) : SqT K H (He.ga K "BARE") ((["many", "last"] : List Str).map V.str) := V5.strsB_of ((Bool.and_eq_true_iff.mp (Bool.and_eq_true_iff.mp h).2).2) H
structure Tx (K : PySem.W.Frag) (w : World) (mg : Str → Option Value) : Prop where
  c : He.SaysD fa fn K
  ex : exB1 K = true
  forms : V5.Forms K w (He.ga K "FORMS") formsL
  sBARE : ∀ H : L2.Hp, SqT K H (He.ga K "BARE") ((["many", "last"] : List Str).map V.str)
  lam : ∀ x ∈ lamN, V4.LamD K (He.ga K x)
  nd : (lamN.map fun x => (V4.pairOf K (He.ga K x)).2).Nodup
  h : ∃ h : Heap, K.In h ∧ h.Ns mainGlobals mg
section
variable {K : PySem.W.Frag} {w : World} {mg : Str → Option Value}
theorem Tx.glo (T : Tx K w mg) (i : Nat) {x : Str} (e : fa[i]? = some (.glo x)) : mg x = some (.ref (He.ga K x)) := by
  obtain ⟨h, X, G⟩ := T.h
  exact He.glo_ok X G (T.c.fact i e)
theorem Tx.free (T : Tx K w mg) (i : Nat) {x : Str} (e : fa[i]? = some (.free x)) : mg x = none := by
  obtain ⟨h, X, G⟩ := T.h
  exact He.free_ok X G (T.c.fact i e)
theorem Tx.int (T : Tx K w mg) (i : Nat) {x : Str} {n : Int} (e : fa[i]? = some (.int x n)) : ∃ t, mg x = some (.int n t) := by
  obtain ⟨h, X, G⟩ := T.h
  exact He.int_ok X G (T.c.fact i e)
theorem Tx.noat (T : Tx K w mg) (i : Nat) {x f : Str} (e : fa[i]? = some (.noat x f)) : PySem.W.findIn K (.ref (He.ga K x)) f = some none := He.noat_ok (T.c.fact i e)
theorem Tx.exq (T : Tx K w mg) (i : Nat) {x : Str} (e : fa[i]? = some (.exc x)) : PySem.W.excIn K (He.ga K x) He.veBase "ValueError.__new__" = true ∧ PySem.W.keepIn K (.ref (He.ga K x)) = true := by
  have z := He.exc_ok (T.c.fact i e)
  exact ⟨z.1, z.2.1⟩
end
end K03

set_option maxHeartbeats 4000000
namespace V2
open PySem PySem.Spec PyProof.Rows L2 V1
def fromTo (lo hi : Int) : PyData → Bool
  | .int n => decide (lo ≤ n) && decide (n ≤ hi)
  | _ => false
def tupOf (lo hi : Int) : PyData → Bool
  | .tuple xs => decide (lo ≤ (xs.length : Int)) && decide ((xs.length : Int) ≤ hi)
  | _ => false
theorem fromTo_int {lo hi : Int} {d : PyData} (h : fromTo lo hi d = true) : ∃ n, d = .int n ∧ lo ≤ n ∧ n ≤ hi := by
  cases d with
  | int n =>
    have z : decide (lo ≤ n) = true ∧ decide (n ≤ hi) = true := by simpa [fromTo] using h
    exact ⟨n, rfl, of_decide_eq_true z.1, of_decide_eq_true z.2⟩
  | _ => cases h
theorem tupOf_tup {lo hi : Int} {d : PyData} (h : tupOf lo hi d = true) : ∃ xs, d = .tuple xs ∧ lo ≤ (xs.length : Int) ∧ (xs.length : Int) ≤ hi := by
  cases d with
  | tuple xs =>
    have z : decide (lo ≤ (xs.length : Int)) = true ∧ decide ((xs.length : Int) ≤ hi) = true := by simpa [tupOf] using h
    exact ⟨xs, rfl, of_decide_eq_true z.1, of_decide_eq_true z.2⟩
  | _ => cases h
theorem isInt_int {d : PyData} (h : isInt d = true) : ∃ n, d = .int n := by
  cases d with
  | int n => exact ⟨n, rfl⟩
  | _ => cases h
theorem isTup_tup {d : PyData} (h : isTup d = true) : ∃ n, d = .tuple n := by
  cases d with
  | tuple n => exact ⟨n, rfl⟩
  | _ => cases h
theorem Dq.int_inv {H : Hp} {v : V} {n : Int} (h : Dq H v (.int n)) : v = .int n := by
  cases h
  rfl
theorem Dq.tup_inv {H : Hp} {v : V} {ds : List PyData} (h : Dq H v (.tuple ds)) : ∃ a vs, v = .ref a ∧ H a = some (.tup vs) ∧ DqAll H vs ds := by
  cases h with
  | tup e r => exact ⟨_, _, rfl, e, r⟩
end V2
namespace K03
open PySem PySem.Spec PyProof.Rows L2 V1 V2 V3 V6
open Evl (pss_cut tCut sq_of st_of)
abbrev K [k : CurK] : PySem.W.Frag := k.K
section
variable [CurK]
def spTupOf : Sp := fun vs H Q _ => ∃ v d lo hi, vs = [v, .int lo, .int hi] ∧ Dx H v d ∧ Q (.bl (tupOf lo hi d)) H
theorem scTupOf : FnScope ["thing", "least", "most"] ["thing", "least", "most"] (defScope s_is_tuple_of) := ⟨rfl, rfl, rfl, by decide +kernel, rfl, by decide +kernel, by decide +kernel⟩
end
section
variable [CurK] {P : Program} {w : World} {mg : Str → Option Value} {base : Heap}
theorem ok_tupOf (T : Tx K w mg) : Has P w K mg base CX0 1 "is_tuple_of" ["thing", "least", "most"] spTupOf := by
  obtain ⟨fd, F⟩ := T.c.def_ 2 (d := d_is_tuple_of) rfl
  refine ⟨fd, F.ok scTupOf (fun vs H Q E h => ?_) (fun cdv A outer s H vs Q E hr h => ?_), FunD.bindsN F fun _ _ _ _ _ _ us hl => match us, hl with | [_, _, _], _ => rfl, F.kp, (T.glo 5 rfl)⟩
  · obtain ⟨v, d, lo, hi, rfl, _⟩ := h
    rfl
  · refine ⟨_, PSs.nox (pss_one (ps_ret (pe_and (pe_callB call_isi (by rfl) (T.free 64 rfl) (by decide +kernel) (pa_cons (pv 0) (pa_cons (pe_bltn (v := .ty "tuple") (by rfl) (T.free 69 rfl) (by decide +kernel) rfl) pa_nil))) (pe_one (pe_chain op_le op_le (pv 1) (pe_callB call_len (by rfl) (T.free 65 rfl) PySem.boot_len (pa_cons (pv 0) pa_nil)) (pv 2)))))), ?_⟩
    obtain ⟨v, d, lo, hi, rfl, hd, hQ⟩ := h
    refine isx_go (kx_tup d) (fun Q q => ⟨v, rfl, q⟩) hd ⟨_, rfl, ite2 (fun e => ?_) (fun e => ?_)⟩
    · obtain ⟨xs, rfl⟩ := isTup_tup e
      obtain ⟨a, vs, rfl, hv, hr⟩ := Dx.tup_inv hd
      have len := dxAll_len hr
      refine ⟨_, rfl, _, rfl, _, _, rfl, .inr ⟨vs, st_of hv, rfl⟩, lo, _, rfl, rfl, _, rfl, ite2 (fun e1 => ?_) (fun e1 => ?_)⟩
      · refine ⟨_, rfl, _, hi, rfl, rfl, ?_⟩
        rw [len] at e1 ⊢
        have z : tupOf lo hi (.tuple xs) = decide ((xs.length : Int) ≤ hi) := by
          show (decide (lo ≤ (xs.length : Int)) && _) = _
          rw [e1, Bool.true_and]
        rw [z] at hQ
        exact hQ
      · rw [len] at e1
        have z : tupOf lo hi (.tuple xs) = false := by
          show (decide (lo ≤ (xs.length : Int)) && _) = _
          rw [Bool.eq_false_iff.mpr e1, Bool.false_and]
        rw [z] at hQ
        exact hQ
    · cases d <;> first | exact hQ | exact absurd rfl e
end
section
variable [CurK]
/-- texts of this shape are short enough to be asked for their length -/
def shortD : PyData → Prop
  | .str x => x.length ≤ 10000
  | _ => True
def spWord : Sp := fun vs H Q _ => ∃ v d, vs = [v] ∧ Dx H v d ∧ shortD d ∧ Q (.bl (wordD d)) H
def spRow : Sp := fun vs H Q _ => ∃ v d, vs = [v] ∧ Dx H v d ∧ (∀ ds, d = .tuple ds → ∀ x ∈ ds, shortD x) ∧ ∀ H', Same H H' → Q (.bl (rowD d)) H'
end
theorem scWord : FnScope ["thing"] ["thing"] (defScope s_is_word) := ⟨rfl, rfl, rfl, by decide +kernel, rfl, by decide +kernel, by decide +kernel⟩
theorem scRow : FnScope ["thing", "word"] ["thing"] (defScope s_is_row) := ⟨rfl, rfl, rfl, by decide +kernel, rfl, by decide +kernel, by decide +kernel⟩
section
variable [CurK] {P : Program} {w : World} {mg : Str → Option Value} {base : Heap}
theorem ok_word (T : Tx K w mg) : Has P w K mg base CX0 1 "is_word" ["thing"] spWord := by
  obtain ⟨fd, F⟩ := T.c.def_ 3 (d := d_is_word) rfl
  obtain ⟨tMS, gMS⟩ := (T.int 0 rfl)
  refine ⟨fd, F.ok scWord (fun vs H Q E h => ?_) (fun cdv A outer s H vs Q E hr h => ?_), FunD.bindsN F fun _ _ _ _ _ _ us hl => match us, hl with | [_], _ => rfl, F.kp, (T.glo 6 rfl)⟩
  · obtain ⟨v, d, rfl, _⟩ := h
    rfl
  · refine ⟨_, PSs.nox (pss_one (ps_ret (pe_and (pe_callB call_isi (by rfl) (T.free 64 rfl) (by decide +kernel) (pa_cons (pv 0) (pa_cons (pe_bltn (v := .ty "str") (by rfl) (T.free 68 rfl) (by decide +kernel) rfl) pa_nil))) (pe_and (pe_cmpR op_le (pe_callB call_len (by rfl) (T.free 65 rfl) PySem.boot_len (pa_cons (pv 0) pa_nil)) (pe_glob (v := .int 40) (by rfl) gMS ⟨_, rfl⟩) (nomark _)) (pe_and (pe_m0 PySem.F.slot_str_isascii PySem.F.type_str_isascii mt_isascii (pv 0)) (pe_one (pe_m0 PySem.F.slot_str_isprintable PySem.F.type_str_isprintable mt_isprintable (pv 0)))))))), ?_⟩
    obtain ⟨v, d, rfl, hd, hs, hQ⟩ := h
    refine isx_go (kx_str d) (fun Q q => ⟨v, rfl, q⟩) hd ⟨_, rfl, ite2 (fun e => ?_) (fun e => ?_)⟩
    · cases d with
      | str x =>
        obtain rfl := Dx.str_inv hd
        have hs' : x.length ≤ 10000 := hs
        refine ⟨_, rfl, _, _, rfl, (show LenV K (.str x) H x.length from ⟨Nat.le_trans hs' (by decide), rfl⟩), _, _, rfl, rfl, _, rfl, ite2 (fun e1 => ?_) (fun e1 => ?_)⟩
        · have l1 : decide (x.length ≤ 40) = true := by
            have z := of_decide_eq_true e1
            exact decide_eq_true (by omega)
          have wx : wordD (.str x) = (Txt.isascii x && Txt.isprintable x) := by
            show (decide (x.length ≤ 40) && _) = _
            rw [l1, Bool.true_and]
          rw [wx] at hQ
          refine ⟨_, rfl, ⟨_, rfl⟩, x, rfl, rfl, trivial, _, rfl, ite2 (fun e2 => ?_) (fun e2 => ?_)⟩
          · rw [e2, Bool.true_and] at hQ
            exact ⟨_, rfl, ⟨_, rfl⟩, x, rfl, rfl, trivial, hQ⟩
          · rw [Bool.eq_false_iff.mpr e2, Bool.false_and] at hQ
            exact hQ
        · have l1 : decide (x.length ≤ 40) = false := by
            refine decide_eq_false fun z => e1 (decide_eq_true ?_)
            omega
          have wx : wordD (.str x) = false := by
            show (decide (x.length ≤ 40) && _) = _
            rw [l1, Bool.false_and]
          rw [wx] at hQ
          exact hQ
      | _ => cases e
    · cases d <;> first | exact hQ | exact absurd rfl e
theorem ok_row (T : Tx K w mg) : Has P w K mg base CX0 2 "is_row" ["thing"] spRow := by
  obtain ⟨fd, F⟩ := T.c.def_ 4 (d := d_is_row) rfl
  have Ht := ok_tupOf (P := P) (w := w) (base := base) T
  have Hw := ok_word (P := P) (w := w) (base := base) T
  obtain ⟨tMW, gMW⟩ := (T.int 1 rfl)
  refine ⟨fd, F.ok scRow (fun vs H Q E h => ?_) (fun cdv A outer s H vs Q E hr h => ?_), FunD.bindsN F fun _ _ _ _ _ _ us hl => match us, hl with | [_], _ => rfl, F.kp, (T.glo 7 rfl)⟩
  · obtain ⟨v, d, rfl, _⟩ := h
    rfl
  · refine ⟨_, PSs.nox (pss_one (ps_ret (pe_and (pe_has Ht (hr.mono (by decide)) pass0 (pa_cons (pv 0) (pa_cons pe_int (pa_cons (pe_glob (v := .int 400) (by rfl) gMW ⟨_, rfl⟩) pa_nil)))) (pe_one (pe_callB (cr_all rfl) (by rfl) (T.free 59 rfl) (by decide +kernel) (pa_cons (pe_lc (own := [("word", 1)]) (g := gName 1) (tt := tYes) (te := tCall spWord [] (fun _ _ _ => False) (tCons (tVar 1) tNil)) (by rfl) scRow.nd (pi_tup (pv 0))
 (blkOk_by (own := [("word", 1)]) (N := ["thing", "word"]) (sc := defScope s_is_row) (by decide +kernel)) (fun _ _ _ _ _ => pg_name (i := 1) scRow.nd rfl (Or.inl rfl)) (fun _ _ _ _ _ => pts_nil) (fun _ _ _ _ _ => (pe_has Hw (hr.mono (by decide)) pass0 (pa_cons (pv 1) pa_nil)))) pa_nil)))))), ?_⟩
    obtain ⟨v, d, rfl, hd, hs, hQ⟩ := h
    refine ⟨v, rfl, v, d, 0, 400, rfl, hd, _, rfl, ite2 (fun e => ?_) (fun e => ?_)⟩
    · obtain ⟨ds, rfl, _, l2⟩ := tupOf_tup e
      have l4 : ds.length ≤ 400 := by omega
      obtain ⟨a, us, rfl, ha, hr'⟩ := Dx.tup_inv hd
      have lu := dxAll_len hr'
      refine ⟨_, rfl, a, rfl, ⟨_, st_of ha⟩, fun D nD => ?_⟩
      refine lc_gen (σ := [some (.ref a), none]) (vs := [1]) (walk_tup (K := K) (a := a) (xs := us)) nD (fun i acc H' => Same H H' ∧ acc = (ds.take i).map fun d => V.bl (wordD d)) ⟨Same.refl H, rfl⟩ (fun i acc H' _ z => st_of (same_delH _ _ (z.1 _ _ ha))) ?_ ?_
      · rintro i acc x H1 H2 hi l e2 ⟨sm, rfl⟩ ⟨rfl, hx⟩
        have di : ds[i]? = some ds[i] := List.getElem?_eq_getElem (by omega)
        have sm' : Same H H2 := sm.trans same_delH
        refine ⟨rfl, ?_⟩
        simp only [tYes, if_true]
        refine ⟨_, rfl, x, ds[i], rfl, Dx.same sm' _ _ (DxAll.at hr' hx di), hs ds rfl _ (List.getElem_mem (by omega)), ?_⟩
        exact lc_put l (by omega) e2 ⟨sm, by rw [List.take_succ, di, List.map_append]; rfl⟩
      · rintro acc H2 l e2 ⟨sm, rfl⟩
        rw [lu, List.take_length] at e2
        refine ⟨D, ds.map wordD, rfl, sq_of (by rw [List.map_map]; exact e2), ?_⟩
        have z : rowD (.tuple ds) = (ds.map wordD).all id := by
          show (decide (ds.length ≤ 400) && ds.all wordD) = _
          rw [decide_eq_true l4, Bool.true_and, List.all_map]
          rfl
        rw [← z]
        exact hQ H2 (sm.trans same_delH)
    · have z : rowD d = false := by
        cases d with
        | tuple ds =>
          have n : ¬ ds.length ≤ 400 := fun h => e (by
            show (decide ((0 : Int) ≤ (ds.length : Int)) && decide ((ds.length : Int) ≤ 400)) = true
            rw [decide_eq_true (by omega), decide_eq_true (by omega)]
            rfl)
          show (decide (ds.length ≤ 400) && _) = false
          rw [decide_eq_false n, Bool.false_and]
        | _ => rfl
      have y := hQ H (Same.refl H)
      rw [z] at y
      exact y
end
section
variable {K : PySem.W.Frag} {mg : Str → Option Value}
theorem Tx.exs (T : Tx K w mg) : ExK K (He.ga K "TalkError") veB ∧ (∀ x ∈ errs, ExK K (He.ga K x) (.ref (He.ga K "TalkError") :: veB)) ∧ (He.ga K "TalkError" :: errs.map (He.ga K)).Nodup ∧ ClsAttr K := by
  have e := T.ex
  unfold exB1 exB0 at e
  simp only [Bool.and_eq_true, List.all_eq_true, decide_eq_true_eq] at e
  exact ⟨exK_of e.1.1, fun x hx => exK_of (e.1.2.1 x hx), e.1.2.2.1, clsAttr_of e.1.2.2.2⟩
theorem Tx.insK (T : Tx K w mg) (i : Nat) {x : Str} (h : plainC[i]? = some x) : InsK K (He.ga K x) := by
  have e := T.ex
  unfold exB1 exI at e
  simp only [Bool.and_eq_true, List.all_eq_true] at e
  exact insK_of (e.2.1 x (List.mem_of_getElem? h))
theorem Tx.kind (T : Tx K w mg) (i : Nat) {x : Str} (h : plainC[i]? = some x) : V3.kindB K (He.ga K x) = true := by
  have e := T.ex
  unfold exB1 exK at e
  simp only [Bool.and_eq_true, List.all_eq_true] at e
  exact (e.2.2 x (List.mem_of_getElem? h)).1
/-- two plain classes: neither holds the other's objects -/
theorem Tx.two (T : Tx K w mg) (i j : Nat) {x y : Str} (h : plainC[i]? = some x) (h' : plainC[j]? = some y) (ne : (x == y) = false) : PySem.W.kitOne K (.ref (He.ga K x)) (.ref (He.ga K y)) = some false ∧ PySem.W.notFirst K (He.ga K x) (.ref (He.ga K y)) = true := by
  have e := T.ex
  unfold exB1 exK at e
  simp only [Bool.and_eq_true, List.all_eq_true] at e
  have z := (e.2.2 x (List.mem_of_getElem? h)).2 y (List.mem_of_getElem? h')
  rw [ne, Bool.false_or, Bool.and_eq_true, decide_eq_true_eq] at z
  exact z
theorem Tx.one (T : Tx K w mg) (i : Nat) {x : Str} (h : errs[i]? = some x) : ExK K (He.ga K x) (.ref (He.ga K "TalkError") :: veB) := T.exs.2.1 x (List.mem_of_getElem? h)
end
theorem Tx.obC [CurK] {mg : Str → Option Value} (T : Tx K w mg) (i : Nat) {x : Str} (h : plainC[i]? = some x) (c : Cls K (He.ga K x)) : ObC (He.ga K x) := obC_of ((T.insK i h).ins c T.exs.2.2.2) (T.kind i h)
end K03

set_option maxHeartbeats 4000000
namespace K03
open PySem PySem.Spec PyProof.Rows L2 V1 V2 V3 V6
open Evl (pss_cut tCut sq_of st_of)
/-- a pair of a row and a word -/
def pairD : PyData → Bool
  | .tuple [a, b] => rowD a && wordD b
  | _ => false
/-- texts within, so deep, are short -/
def shortP : PyData → Prop
  | .tuple ds => ∀ d ∈ ds, shortD d ∧ ∀ es, d = .tuple es → ∀ x ∈ es, shortD x
  | _ => True
def spRw [CurK] : Sp := fun vs H Q _ => ∃ v d, vs = [v] ∧ Dx H v d ∧ shortP d ∧ ∀ H', Same H H' → Q (.bl (pairD d)) H'
theorem scRw : FnScope ["thing"] ["thing"] (defScope s_is_row_and_word) := ⟨rfl, rfl, rfl, by decide +kernel, rfl, by decide +kernel, by decide +kernel⟩
section
variable [CurK] {P : Program} {w : World} {mg : Str → Option Value} {base : Heap}
theorem ok_rw (T : Tx K w mg) : Has P w K mg base CX0 3 "is_row_and_word" ["thing"] spRw := by
  obtain ⟨fd, F⟩ := T.c.def_ 7 (d := d_is_row_and_word) rfl
  have Ht := ok_tupOf (P := P) (w := w) (base := base) T
  have Hw := ok_word (P := P) (w := w) (base := base) T
  have Hr := ok_row (P := P) (w := w) (base := base) T
  refine ⟨fd, F.ok scRw (fun vs H Q E h => ?_) (fun cdv A outer s H vs Q E hr h => ?_), FunD.bindsN F fun _ _ _ _ _ _ us hl => match us, hl with | [_], _ => rfl, F.kp, (T.glo 17 rfl)⟩
  · obtain ⟨v, d, rfl, _⟩ := h
    rfl
  · refine ⟨_, PSs.nox (pss_one (ps_ret (pe_and (pe_has Ht (hr.mono (by decide)) pass0 (pa_cons (pv 0) (pa_cons pe_int (pa_cons pe_int pa_nil)))) (pe_and (pe_has Hr (hr.mono (by decide)) pass0 (pa_cons (pe_ix ix_tup (pv 0) pe_int (fun _ _ => rfl)) pa_nil)) (pe_one (pe_has Hw (hr.mono (by decide)) pass0 (pa_cons (pe_ix ix_tup (pv 0) pe_int (fun _ _ => rfl)) pa_nil))))))), ?_⟩
    obtain ⟨v, d, rfl, hd, hs, hQ⟩ := h
    refine ⟨v, rfl, v, d, 2, 2, rfl, hd, _, rfl, ?_⟩
    cases e : tupOf 2 2 d with
    | false =>
      have z : pairD d = false := by
        match d, e with
        | .tuple [a, b], e => simp [tupOf] at e
        | .tuple [], _ => rfl
        | .tuple [_], _ => rfl
        | .tuple (_ :: _ :: _ :: _), _ => rfl
        | .none, _ | .bool _, _ | .int _, _ | .str _, _ | .list _, _ | .dict _, _ => rfl
      rw [z] at hQ
      exact iteF (hQ H (Same.refl H))
    | true =>
      obtain ⟨xs, rfl, l1, l2⟩ := tupOf_tup e
      have l3 : xs.length = 2 := by omega
      match xs, l3 with
      | [a, b], _ =>
      obtain ⟨p, vs, rfl, hp, hr'⟩ := Dx.tup_inv hd
      cases hr' with | @cons va _ _ _ qa r1 =>
      cases r1 with | @cons vb _ _ _ qb r2 =>
      cases r2
      have sa := hs a List.mem_cons_self
      have sb := hs b (List.mem_cons_of_mem _ List.mem_cons_self)
      have td : pairD (.tuple [a, b]) = (rowD a && wordD b) := rfl
      rw [td] at hQ
      refine iteT ⟨_, rfl, p, _, 0, va, rfl, rfl, st_of hp, rfl, va, a, rfl, qa, sa.2, fun H1 s1 => ⟨_, rfl, ?_⟩⟩
      cases h1 : rowD a with
      | false =>
        rw [h1, Bool.false_and] at hQ
        exact iteF (hQ H1 s1)
      | true =>
        rw [h1, Bool.true_and] at hQ
        exact iteT ⟨_, rfl, p, _, 1, vb, rfl, rfl, st_of (s1 _ _ hp), rfl, vb, b, rfl, Dx.same s1 _ _ qb, sb.1, hQ H1 s1⟩
end
end K03

set_option maxHeartbeats 4000000
namespace K03
open PySem PySem.Spec PyProof.Rows L2 V1 V2 V3 V6
open Evl (pss_cut tCut sq_of st_of)
def txOf : PyData → List Str
  | .tuple ds => ds.map fun d => match d with
    | .str x => x
    | _ => Str.empty
  | _ => []
def rowOf : PyData → List Str
  | .tuple (r :: _) => txOf r
  | _ => []
def okP (ds : List PyData) (i : Nat) : Bool := pairD (ds.getD i .none) && !(decide (0 < i) && rowLe (rowOf (ds.getD i .none)) (rowOf (ds.getD (i - 1) .none)))
theorem row_texts [CurK] {H : Hp} : ∀ {vs : List V} {ds : List PyData}, ds.all wordD = true → DxAll H vs ds → vs = (txOf (.tuple ds)).map V.str
  | _, [], _, .nil => rfl
  | _, d :: ds, h, .cons one more => by
    have z : wordD d = true ∧ ds.all wordD = true := by simpa using h
    cases d with
    | str x =>
      rw [Dx.str_inv one, row_texts z.2 more]
      rfl
    | _ => exact absurd z.1 (by simp [wordD])
theorem pair_inv {d : PyData} (h : pairD d = true) : ∃ ds b, d = .tuple [.tuple ds, b] ∧ ds.all wordD = true ∧ ds.length ≤ 400 ∧ wordD b = true := by
  match d, h with
  | .tuple [a, b], h =>
    have z : rowD a = true ∧ wordD b = true := by simpa [pairD] using h
    cases a with
    | tuple ds =>
      have y : ds.length ≤ 400 ∧ ds.all wordD = true := by simpa [rowD] using z.1
      exact ⟨ds, b, rfl, y.2, y.1, z.2⟩
    | _ => exact absurd z.1 (by simp [rowD])
def spCheck [CurK] : Sp := fun vs H Q E => ∃ a us ds, vs = [.ref a] ∧ H a = some (.tup us) ∧ DxAll H us ds ∧ (∀ d ∈ ds, shortP d) ∧
  ((∀ i, i < ds.length → okP ds i = true) → ∀ H', Same H H' → Q .non H') ∧
  ∀ i, i < ds.length → okP ds i = false → (∀ j, j < i → okP ds j = true) → ∀ d H', H d = none → Same H H' → H' d = some (.xd [("part", .int i)]) → E (.ref (He.ga K "BadTable")) (some d) H'
theorem scCheck : FnScope ["pairs", "at", "pair"] ["pairs"] (defScope s_check_pairs) := ⟨rfl, rfl, rfl, by decide +kernel, rfl, by decide +kernel, by decide +kernel⟩
theorem scBad : FnScope ["self", "part"] ["self", "part"] (defScope s_BadTable__init__) := ⟨rfl, rfl, rfl, by decide +kernel, rfl, by decide +kernel, by decide +kernel⟩
theorem getD_at {ds : List PyData} {i : Nat} (h : i < ds.length) : ds[i]? = some (ds.getD i .none) := by
  rw [List.getElem?_eq_getElem h]
  simp [List.getD, h]
section
variable [CurK] {P : Program} {w : World} {mg : Str → Option Value} {base : Heap}
theorem fldBad (T : Tx K w mg) : Fld P w K mg base "BadTable" "part" := by
  obtain ⟨fd, F⟩ := T.c.def_ 40 (d := d_BadTable__init__) rfl
  exact fld_of F scBad rfl (T.glo 12 rfl) (T.one 1 rfl) rfl rfl (T.noat 74 rfl) (He.meth_ok (T.c.fact 72 rfl)) (by decide) (by decide) (Or.inl rfl) (Or.inl rfl) (fun _ => rfl) (FunD.bindsN F fun _ _ _ _ _ _ us hl => match us, hl with | [_, _], _ => rfl)
theorem ok_check (T : Tx K w mg) : Has P w K mg base (L2.CX P w) 5 "check_pairs" ["pairs"] spCheck := by
  obtain ⟨fd, F⟩ := T.c.def_ 8 (d := d_check_pairs) rfl
  have Hrw := ok_rw (P := P) (w := w) (base := base) T
  refine ⟨fd, F.ok scCheck (fun vs H Q E h => ?_) (fun cdv A outer s H vs Q E hr h => ?_), FunD.bindsN F fun _ _ _ _ _ _ us hl => match us, hl with | [_], _ => rfl, F.kp, (T.glo 18 rfl)⟩
  · obtain ⟨a, us, ds, rfl, _⟩ := h
    rfl
  · refine ⟨_, (pss_one (ps_for (passes_of rfl) rfl (pi_enumT (by rfl) (T.free 62 rfl) (pa_cons (pv 0) pa_nil)) (pg_tup (by rfl) (pgs_cons (pg_name (i := 1) scCheck.nd rfl (Or.inl rfl)) (pgs_cons (pg_name (i := 2) scCheck.nd rfl (Or.inl rfl)) pgs_nil)))
 (pss_cons (ps_if (pt_not (pt_val (pe_has Hrw (hr.mono (by decide)) pass0 (pa_cons (pv 2) pa_nil))))
 (pss_one (ps_raise rfl (takes_of rfl rfl rfl rfl) (pmk_fld (fldBad T) (hr.mono (by decide)) (pa_cons (pv 1) pa_nil))))
 pss_nil)
 (pss_one (ps_if (PW.pt (pw_and (pt_cmpR op_gt (pv 1) pe_int (nomark _)) (pw_and1 (pt_cmpR (op_leTS hr.units0) (pe_ix ix_tup (pv 2) pe_int (fun _ _ => rfl)) (pe_ix ix_tup (pe_ix ix_tup (pv 0) (pe_op op_sub (pv 1) pe_int) (fun _ _ => rfl)) pe_int (fun _ _ => rfl)) (nomark _)))))
 (pss_one (ps_raise rfl (takes_of rfl rfl rfl rfl) (pmk_fld (fldBad T) (hr.mono (by decide)) (pa_cons (pv 1) pa_nil))))
 pss_nil))))), ?_⟩
    obtain ⟨a, us, ds, rfl, ha, hr', sh, hQ, hE⟩ := h
    have len := dxAll_len hr'
    refine ⟨_, rfl, a, us, rfl, st_of ha, ?_⟩
    refine for_it walk_enumT (fun i σ H' => Same H H' ∧ (∃ o1 o2, σ = [some (.ref a), o1, o2]) ∧ ∀ j, j < i → okP ds j = true) ⟨Same.refl H, ⟨_, _, rfl⟩, fun j hj => absurd hj (Nat.not_lt_zero j)⟩ (fun i σ H' _ p => st_of (p.1 _ _ ha)) ?_ (fun σ H' p => hQ (fun i hi => p.2.2 i (by omega)) H' p.1)
    rintro i x σ H1 H2 hi ⟨s1, ⟨o1, o2, rfl⟩, hok⟩ ⟨p, z1, v, rfl, np, rfl, e1, e2⟩
    obtain rfl := Option.some.inj e1
    have hi' : i < ds.length := by omega
    have s2 : Same H (upd H1 p (.tup [.int (i : Nat), v])) := s1.trans (same_new np)
    have ha2 := s2 _ _ ha
    have hv : Dx (upd H1 p (.tup [.int (i : Nat), v])) v (ds.getD i .none) := Dx.same s2 _ _ (DxAll.at hr' e2 (getD_at hi'))
    have ep : upd H1 p (.tup [.int (i : Nat), v]) p = some (.tup [.int (i : Nat), v]) := upd_same
    have boom : okP ds i = false → ∀ Z : L2.Hp, Same H Z → tMkO (He.ga K "BadTable") (spIni K (He.ga K "BadTable") "part") [] (tCons (tVar 1) tNil) [some (.ref a), some (.int (i : Nat)), some v] Z E := fun e Z sz =>
      raise_go (v := .int (i : Nat)) (fun Q q => ⟨_, rfl, q⟩) fun d H' nd sm hd => hE i hi' e hok d H' (fresh_up sz nd) (sz.trans sm) hd
    have shi : shortP (ds.getD i .none) := sh _ (by
      have z : ds.getD i .none = ds[i] := by simp [List.getD, hi']
      rw [z]
      exact List.getElem_mem hi')
    generalize upd H1 p (.tup [.int (i : Nat), v]) = H3 at s2 ha2 hv ep
    refine ⟨p, _, rfl, st_of ep, rfl, ?_⟩
    refine ⟨_, _, rfl, _, _, rfl, rfl, ?_⟩
    have look_ : okP ds i = (pairD (ds.getD i .none) && !(decide (0 < i) && rowLe (rowOf (ds.getD i .none)) (rowOf (ds.getD (i - 1) .none)))) := rfl
    refine ⟨_, rfl, v, _, rfl, hv, shi, fun H4 s4 => ⟨_, rfl, ite2 (fun e => ?_) (fun e => ?_)⟩⟩
    · refine boom ?_ _ (s2.trans s4)
      rw [look_, show pairD (ds.getD i .none) = false by simpa using e, Bool.false_and]
    have e' : pairD (ds.getD i .none) = true := by simpa using e
    obtain ⟨rs, b, hd, ra, rl, wb⟩ := pair_inv e'
    have s24 := s2.trans s4
    have kn : rowOf (ds.getD i .none) = txOf (.tuple rs) := by rw [hd]; rfl
    rw [hd] at hv
    obtain ⟨q, ws, rfl, hq3, hw⟩ := Dx.tup_inv hv
    cases hw with | @cons va _ _ _ qa r1 =>
    cases r1 with | @cons vb _ _ _ qb r2 =>
    cases r2
    obtain ⟨r, ts, rfl, hr3, ht⟩ := Dx.tup_inv qa
    obtain rfl := row_texts ra ht
    have hq := s4 _ _ hq3
    have hr4 := s4 _ _ hr3
    have ha4 := s4 _ _ ha2
    refine ⟨_, rfl, _, _, rfl, rfl, _, rfl, ite2 (fun e1 => ?_) (fun e1 => ?_)⟩
    · have i0 : 0 < i := by
        have z := of_decide_eq_true e1
        omega
      obtain ⟨rs', b', hd', ra', rl', wb'⟩ := pair_inv (Bool.and_eq_true_iff.mp (hok (i - 1) (by omega))).1
      have hj : i - 1 < ds.length := by omega
      have ej : us[i - 1]? = some (us.getD (i - 1) .non) := by
        rw [List.getElem?_eq_getElem (by omega : i - 1 < us.length)]
        simp [List.getD, (by omega : i - 1 < us.length)]
      have hv' : Dx H4 (us.getD (i - 1) .non) (.tuple [.tuple rs', b']) := by
        rw [← hd']
        exact Dx.same s24 _ _ (DxAll.at hr' ej (getD_at hj))
      obtain ⟨q', ws', eq', hq', hw'⟩ := Dx.tup_inv hv'
      rw [eq'] at ej
      cases hw' with | @cons va' _ _ _ qa' r1' =>
      cases r1' with | @cons vb' _ _ _ qb' r2' =>
      cases r2'
      obtain ⟨r', ts', rfl, hr', ht'⟩ := Dx.tup_inv qa'
      obtain rfl := row_texts ra' ht'
      have kn' : rowOf (ds.getD (i - 1) .none) = txOf (.tuple rs') := by rw [hd']; rfl
      have at' : atI us ((i : Int) - 1) = some (.ref q') := by
        have z : ((i : Int) - 1) = ((i - 1 : Nat) : Int) := by omega
        rw [z]
        exact atI_nat ej
      refine ⟨_, rfl, q, _, 0, _, rfl, rfl, st_of hq, rfl, _, rfl, _, rfl, _, _, rfl, rfl, a, us, _, _, rfl, rfl, st_of ha4, at', q', _, 0, _, rfl, rfl, st_of hq', rfl, r, r', _, _, rfl, rfl, st_of hr4, st_of hr', _, rfl, ite2 (fun e2 => ?_) (fun e2 => ?_)⟩
      · refine boom ?_ _ s24
        rw [look_, e', decide_eq_true i0, kn, kn', e2]
        rfl
      · refine ⟨s24, ⟨_, _, rfl⟩, fun j hj => ?_⟩
        by_cases ej : j = i
        · rw [ej, look_, e', decide_eq_true i0, kn, kn', Bool.eq_false_iff.mpr e2]
          rfl
        · exact hok j (by omega)
    · refine ⟨s24, ⟨_, _, rfl⟩, fun j hj => ?_⟩
      by_cases ej : j = i
      · have z : decide (0 < i) = false := by
          refine decide_eq_false fun z => e1 (decide_eq_true ?_)
          omega
        rw [ej, look_, e', z, Bool.false_and]
        rfl
      · exact hok j (by omega)
end
end K03

set_option maxHeartbeats 4000000
namespace K03
open PySem PySem.Spec PyProof.Rows L2 V1 V2 V3 V6
open Evl (pss_cut tCut sq_of st_of)
/-! the order of rows -/
def keyR (r : List Str) : List (List Nat) := r.map fun x => x.cps.toList
theorem str_ext {x y : Str} (h : x.cps.toList = y.cps.toList) : x = y := by
  cases x; cases y
  simp only [Str.mk.injEq]
  exact Array.toList_inj.mp h
theorem keyR_inj : ∀ {r s : List Str}, keyR r = keyR s → r = s
  | [], [], _ => rfl
  | [], _ :: _, h => by cases h
  | _ :: _, [], h => by cases h
  | x :: r, y :: s, h => by
    have z := List.cons.inj h
    rw [str_ext z.1, keyR_inj z.2]
theorem rowLe_key : ∀ r s : List Str, rowLe r s = !decide (keyR s < keyR r)
  | [], s => by
    have z : ¬ keyR s < keyR [] := List.not_lt_nil _
    rw [decide_eq_false z]
    rfl
  | x :: r, [] => by
    have z : keyR [] < keyR (x :: r) := List.nil_lt_cons _ _
    rw [decide_eq_true z]
    rfl
  | x :: r, y :: s => by
    have z : (keyR (y :: s) < keyR (x :: r)) ↔ (y.cps.toList < x.cps.toList ∨ y.cps.toList = x.cps.toList ∧ keyR s < keyR r) := List.cons_lt_cons_iff
    show (if (x == y) = true then rowLe r s else txLe x y) = _
    by_cases e : x = y
    · subst e
      rw [if_pos (beq_self_eq_true x), rowLe_key r s]
      congr 1
      refine decide_eq_decide.mpr ⟨fun h => z.mpr (.inr ⟨rfl, h⟩), fun h => ?_⟩
      rcases z.mp h with q | q
      · exact absurd q (List.lt_irrefl _)
      · exact q.2
    · rw [if_neg (by simpa using e)]
      show (!decide (y.cps.toList < x.cps.toList)) = _
      congr 1
      refine decide_eq_decide.mpr ⟨fun h => z.mpr (.inl h), fun h => ?_⟩
      rcases z.mp h with q | q
      · exact q
      · exact absurd (str_ext q.1).symm e
/-! right pairs -/
abbrev Tp := List (List Str × Str)
def mkR (r : List Str) : PyData := .tuple (r.map .str)
def mkP (t : List Str × Str) : PyData := .tuple [mkR t.1, .str t.2]
def look (ts : Tp) (r : List Str) : Option Str := (ts.find? fun t => decide (t.1 = r)).map (·.2)
def rowK (r : List Str) : List Key := r.map .inr
theorem rowK_v (r : List Str) : (rowK r).map kV = r.map V.str := by
  unfold rowK
  rw [List.map_map]
  rfl
theorem rowK_inj {r s : List Str} (h : rowK r = rowK s) : r = s := List.map_inj_right (fun _ _ => Sum.inr.inj) |>.mp h
structure GoodT (ts : Tp) : Prop where
  ok : ∀ t ∈ ts, (∀ x ∈ t.1, wordX x = true) ∧ t.1.length ≤ 400 ∧ wordX t.2 = true
  up : ts.Pairwise fun s t => keyR s.1 < keyR t.1
theorem words_of {ds : List PyData} (h : ds.all wordD = true) : ∃ r : List Str, ds = r.map .str ∧ ∀ x ∈ r, wordX x = true := by
  induction ds with
  | nil => exact ⟨[], rfl, fun x hx => absurd hx List.not_mem_nil⟩
  | cons d ds ih =>
    have z : wordD d = true ∧ ds.all wordD = true := by simpa using h
    obtain ⟨r, rfl, hr⟩ := ih z.2
    cases d with
    | str x => exact ⟨x :: r, rfl, fun y hy => (List.mem_cons.mp hy).elim (fun q => q ▸ z.1) (hr y)⟩
    | _ => exact absurd z.1 (by simp [wordD])
theorem pair_of {d : PyData} (h : pairD d = true) : ∃ t : List Str × Str, d = mkP t ∧ (∀ x ∈ t.1, wordX x = true) ∧ t.1.length ≤ 400 ∧ wordX t.2 = true := by
  obtain ⟨ds, b, rfl, h1, h2, h3⟩ := pair_inv h
  obtain ⟨r, rfl, hr⟩ := words_of h1
  rw [List.length_map] at h2
  cases b with
  | str x => exact ⟨(r, x), rfl, hr, h2, h3⟩
  | _ => exact absurd h3 (by simp [wordD])
theorem txOf_row (r : List Str) : txOf (mkR r) = r := by
  show (r.map PyData.str).map _ = r
  rw [List.map_map]
  exact (List.map_congr_left fun _ _ => rfl).trans (List.map_id _)
theorem rowOf_p (t : List Str × Str) : rowOf (mkP t) = t.1 := txOf_row t.1
theorem ts_of {ds : List PyData} (ok : ∀ i, i < ds.length → okP ds i = true) : ∃ ts : Tp, ds = ts.map mkP ∧ GoodT ts := by
  have one : ∀ i (hi : i < ds.length), ∃ t, ds[i] = mkP t ∧ (∀ x ∈ t.1, wordX x = true) ∧ t.1.length ≤ 400 ∧ wordX t.2 = true ∧ (∀ h : 0 < i, keyR (rowOf (ds[i - 1]'(by omega))) < keyR t.1) := fun i hi => by
    have z := ok i hi
    have gi : ds.getD i .none = ds[i] := by simp [List.getD, hi]
    unfold okP at z
    simp only [Bool.and_eq_true, Bool.not_eq_true'] at z
    obtain ⟨t, e, h1, h2, h3⟩ := pair_of z.1
    rw [gi] at e
    refine ⟨t, e, h1, h2, h3, fun h => ?_⟩
    have y := z.2
    have gj : ds.getD (i - 1) .none = ds[i - 1]'(by omega) := by simp [List.getD, (by omega : i - 1 < ds.length)]
    rw [decide_eq_true h, Bool.true_and, gi, gj, e, rowOf_p, rowLe_key, Bool.not_eq_false', decide_eq_true_eq] at y
    exact y
  have T : ∃ f : PyData → List Str × Str, ∀ i (hi : i < ds.length), ds[i] = mkP (f ds[i]) ∧ (∀ x ∈ (f ds[i]).1, wordX x = true) ∧ (f ds[i]).1.length ≤ 400 ∧ wordX (f ds[i]).2 = true := by
    refine ⟨fun d => (rowOf d, match d with
      | .tuple [_, .str x] => x
      | _ => Str.empty), fun i hi => ?_⟩
    obtain ⟨t, e, h1, h2, h3, _⟩ := one i hi
    have z : (rowOf (mkP t), t.2) = t := by rw [rowOf_p]
    rw [e]
    refine ⟨(congrArg mkP z).symm, ?_, ?_, h3⟩
    · show ∀ x ∈ rowOf (mkP t), wordX x = true
      rw [rowOf_p]
      exact h1
    · show (rowOf (mkP t)).length ≤ 400
      rw [rowOf_p]
      exact h2
  obtain ⟨f, hf⟩ := T
  refine ⟨ds.map f, ?_, fun t ht => ?_, ?_⟩
  · rw [List.map_map]
    refine (List.map_id'' (fun _ => rfl) ds).symm.trans (List.map_congr_left fun d hd => ?_)
    obtain ⟨i, hi, rfl⟩ := List.getElem_of_mem hd
    exact (hf i hi).1
  · obtain ⟨d, hd, rfl⟩ := List.mem_map.mp ht
    obtain ⟨i, hi, rfl⟩ := List.getElem_of_mem hd
    exact (hf i hi).2
  · rw [List.pairwise_map, List.pairwise_iff_getElem]
    intro i j hi hj hij
    have row : ∀ i (hi : i < ds.length), rowOf ds[i] = (f ds[i]).1 := fun i hi => by
      have z := (hf i hi).1
      generalize f ds[i] = t at z ⊢
      rw [z, rowOf_p]
    obtain ⟨d, rfl⟩ : ∃ d, j = i + 1 + d := ⟨j - (i + 1), by omega⟩
    have step : ∀ k (hk : k + 1 < ds.length), keyR (f (ds[k]'(by omega))).1 < keyR (f ds[k + 1]).1 := fun k hk => by
      obtain ⟨t, e, _, _, _, h⟩ := one (k + 1) hk
      have z := h (by omega)
      have y := row (k + 1) hk
      rw [← row k (by omega), ← y, e, rowOf_p]
      exact z
    induction d with
    | zero => exact step i hj
    | succ d ih => exact List.lt_trans (ih (by omega) (by omega) step) (step (i + 1 + d) hj)
def firstBad (ds : List PyData) : Option Nat := (List.range ds.length).find? fun i => !okP ds i
theorem firstBad_none {ds : List PyData} (h : ∀ i, i < ds.length → okP ds i = true) : firstBad ds = none := by
  unfold firstBad
  rw [List.find?_eq_none]
  intro i hi
  rw [h i (List.mem_range.mp hi)]
  decide
theorem firstBad_some {ds : List PyData} {i : Nat} (hi : i < ds.length) (h : okP ds i = false) (k : ∀ j, j < i → okP ds j = true) : firstBad ds = some i := by
  unfold firstBad
  rw [List.find?_range_eq_some]
  exact ⟨by rw [h]; rfl, List.mem_range.mpr hi, fun j hj => by rw [k j hj]; rfl⟩
/-- which part is wrong -/
def partOf (d1 d2 : PyData) : Option V :=
  if tupOf 0 200 d1 = true then
    match d1 with
    | .tuple ds => match firstBad ds with
      | some i => some (.int (i : Nat))
      | none => if wordD d2 = true then none else some (.str "other")
    | _ => none
  else some (.str "pairs")
mutual
/-- plain data lie at no object's place -/
theorem dq_sameN {H H' : L2.Hp} (e : ∀ b o, H b = some o → (∀ C dx fs, o ≠ .ins C dx fs) → H' b = some o) : ∀ (d : PyData) (v : V), Dq H v d → Dq H' v d
  | .none, _, h => by cases h; exact .non
  | .bool b, _, h => by cases h; exact .bl b
  | .int i, _, h => by cases h; exact .int i
  | .str x, _, h => by cases h; exact .str x
  | .list ds, _, h => by
    cases h with
    | lst at_ low rest => exact .lst (e _ _ at_ (fun _ _ _ z => nomatch z)) low (dqAll_sameN e ds _ rest)
  | .tuple ds, _, h => by
    cases h with
    | tup at_ rest => exact .tup (e _ _ at_ (fun _ _ _ z => nomatch z)) (dqAll_sameN e ds _ rest)
  | .dict ds, _, h => by
    cases h with
    | dct at_ rest => exact .dct (e _ _ at_ (fun _ _ _ z => nomatch z)) (dqKv_sameN e ds _ rest)
theorem dqAll_sameN {H H' : L2.Hp} (e : ∀ b o, H b = some o → (∀ C dx fs, o ≠ .ins C dx fs) → H' b = some o) : ∀ (ds : List PyData) (vs : List V), DqAll H vs ds → DqAll H' vs ds
  | [], _, h => by cases h; exact .nil
  | d :: ds, _, h => by
    cases h with
    | cons one more => exact .cons (dq_sameN e d _ one) (dqAll_sameN e ds _ more)
theorem dqKv_sameN {H H' : L2.Hp} (e : ∀ b o, H b = some o → (∀ C dx fs, o ≠ .ins C dx fs) → H' b = some o) : ∀ (ds : List (PyData × PyData)) (kvs : List (Key × V)), DqKv H kvs ds → DqKv H' kvs ds
  | [], _, h => by cases h; exact .nil
  | (k, d) :: ds, _, h => by
    cases h with
    | cons one more => exact .cons (dq_sameN e d _ one) (dqKv_sameN e ds _ more)
end
theorem dqAt {H : L2.Hp} : ∀ {vs : List V} {ds : List PyData} {j : Nat} {v : V} {d : PyData}, DqAll H vs ds → vs[j]? = some v → ds[j]? = some d → Dq H v d
  | _ :: _, _ :: _, 0, _, _, .cons one _, e, e' => by
    obtain rfl := Option.some.inj e
    obtain rfl := Option.some.inj e'
    exact one
  | _ :: _, _ :: _, j + 1, _, _, .cons _ more, e, e' => dqAt (j := j) more e e'
section
variable [CurK]
/-- at p: a Table of these pairs -/
structure TAt (H : Hp) (p : Addr) (ts : Tp) (o : Str) : Prop where
  ex : ∃ dx a q us kvs, H p = some (.ins (He.ga K "Table") dx [("pairs", .ref a), ("other", .str o), ("_beside", .ref q)]) ∧ H a = some (.tup us) ∧ DqAll H us (ts.map mkP) ∧ H q = some (.dT kvs) ∧ ∀ r, valV kvs (rowK r) = (look ts r).map V.str
def spTab : Sp := fun vs H Q E => ∃ p dx v1 v2 d1 d2, vs = [.ref p, v1, v2] ∧ H p = some (.ins (He.ga K "Table") dx []) ∧ Dx H v1 d1 ∧ Dx H v2 d2 ∧ (∀ ds, d1 = .tuple ds → ∀ d ∈ ds, shortP d) ∧ shortD d2 ∧
  (∀ x, partOf d1 d2 = some x → ∀ d H', H d = none → Same H H' → H' d = some (.xd [("part", x)]) → E (.ref (He.ga K "BadTable")) (some d) H') ∧
  (partOf d1 d2 = none → ∀ ts o, d1 = .tuple (ts.map mkP) → d2 = .str o → GoodT ts → ts.length ≤ 200 → ∀ H', (∀ b o, b ≠ p → H b = some o → H' b = some o) → TAt H' p ts o → Q .non H')
end
theorem scTab : FnScope ["self", "pairs", "other", "row", "word"] ["self", "pairs", "other"] (defScope s_Table__init__) := ⟨rfl, rfl, rfl, by decide +kernel, rfl, by decide +kernel, by decide +kernel⟩
theorem look_app {ts : Tp} {t : List Str × Str} {r : List Str} : look (ts ++ [t]) r = (look ts r).or (if t.1 = r then some t.2 else none) := by
  unfold look
  rw [List.find?_append]
  cases ts.find? fun t => decide (t.1 = r) with
  | some u => rfl
  | none =>
    by_cases e : t.1 = r
    · simp [e]
    · simp [e]
theorem look_none {ts : Tp} {r : List Str} (h : ∀ t ∈ ts, keyR t.1 < keyR r) : look ts r = none := by
  unfold look
  rw [Option.map_eq_none_iff, List.find?_eq_none]
  intro t ht
  have z := h t ht
  simp only [decide_eq_true_eq]
  intro e
  rw [e] at z
  exact List.lt_irrefl _ z
theorem plain_pairs : ∀ ts : Tp, plainAll (ts.map mkP) = true
  | [] => rfl
  | t :: ts => by
    have rw_ : ∀ r : List Str, plainAll (r.map PyData.str) = true := fun r => by
      induction r with
      | nil => rfl
      | cons x r ih => simp [plainAll, V2.plain, ih]
    rw [List.map_cons]
    simp [plainAll, V2.plain, mkP, mkR, rw_, plain_pairs ts]
section
variable [CurK] {P : Program} {w : World} {mg : Str → Option Value} {base : Heap}
theorem ok_tab (T : Tx K w mg) : HasC P w K mg base (L2.CX P w) 6 "Table" ["self", "pairs", "other"] spTab := by
  obtain ⟨fd, F⟩ := T.c.def_ 41 (d := d_Table__init__) rfl
  have Ht := ok_tupOf (P := P) (w := w) (base := base) T
  have Hw := ok_word (P := P) (w := w) (base := base) T
  have Hc := ok_check (P := P) (w := w) (base := base) T
  obtain ⟨tMP, gMP⟩ := (T.int 16 rfl)
  have cS : Cls K (He.ga K "Table") := He.cls_ok (T.c.fact 79 rfl)
  have n1 : NoAttr K (He.ga K "Table") "pairs" := He.noat_ok (T.c.fact 82 rfl)
  have n2 : NoAttr K (He.ga K "Table") "other" := He.noat_ok (T.c.fact 81 rfl)
  have n3 : NoAttr K (He.ga K "Table") "_beside" := He.noat_ok (T.c.fact 80 rfl)
  refine ⟨_, fd, He.mkr_ok (T.c.fact 83 rfl), F.ok scTab (fun vs H Q E h => ?_) (fun cdv A outer s H vs Q E hr h => ?_), FunD.bindsN F fun _ _ _ _ _ _ us hl => match us, hl with | [_, _, _], _ => rfl, (T.glo 19 rfl)⟩
  · obtain ⟨p, dx, v1, v2, d1, d2, rfl, _⟩ := h
    rfl
  · refine ⟨_, (pss_cons (ps_if (pt_not (pt_val (pe_has Ht (hr.mono (by decide)) pass0 (pa_cons (pv 1) (pa_cons pe_int (pa_cons (pe_glob (v := .int 200) (by rfl) gMP ⟨_, rfl⟩) pa_nil))))))
 (pss_one (ps_raise rfl (takes_of rfl rfl rfl rfl) (pmk_fld (fldBad T) (hr.mono (by decide)) (pa_cons pe_str pa_nil))))
 pss_nil)
 (pss_cons (ps_expr (pe_has Hc (hr.mono (by decide)) (passes_call (takes_of rfl rfl rfl rfl) (fun _ _ _ _ h => h)) (pa_cons (pv 1) pa_nil)))
 (pss_cons (ps_if (pt_not (pt_val (pe_has Hw (hr.mono (by decide)) pass0 (pa_cons (pv 2) pa_nil))))
 (pss_one (ps_raise rfl (takes_of rfl rfl rfl rfl) (pmk_fld (fldBad T) (hr.mono (by decide)) (pa_cons pe_str pa_nil))))
 pss_nil)
 (pss_cons (ps_fld (pv 0) (pv 1) (by rfl))
 (pss_cons (ps_fld (pv 0) (pv 2) (by rfl))
 (pss_one (ps_fld (pv 0) (V4.pe_dcT (own := [("row", 3), ("word", 4)]) (g := gTup K 2 (gCons (gName 3) (gCons (gName 4) gNil))) (tk := tVar 3) (tv := tVar 4) rfl hr.units0 scTab.nd (pi_tup (pv 1))
 (blkOk_by (own := [("row", 3), ("word", 4)]) (N := ["self", "pairs", "other", "row", "word"]) (sc := defScope s_Table__init__) (by decide +kernel)) (fun _ _ _ _ _ => pg_tup (by rfl) (pgs_cons (pg_name (i := 3) scTab.nd rfl (Or.inl rfl)) (pgs_cons (pg_name (i := 4) scTab.nd rfl (Or.inl rfl)) pgs_nil))) (fun _ _ _ _ _ => (pv 3)) (fun _ _ _ _ _ => (pv 4))) (by rfl)))))))), ?_⟩
    obtain ⟨p, dx, v1, v2, d1, d2, rfl, hp, hd1, hd2, sh1, sh2, hE, hQ⟩ := h
    refine ⟨_, rfl, v1, d1, 0, 200, rfl, hd1, _, rfl, ite2 (fun e => ?_) (fun e => ?_)⟩
    · have e' : tupOf 0 200 d1 = false := by simpa using e
      refine raise_go (v := .str "pairs") (fun Q q => q) fun d H' nd sm hd => hE (.str "pairs") ?_ d H' nd sm hd
      unfold partOf
      rw [if_neg (by rw [e']; decide)]
    have e1 : tupOf 0 200 d1 = true := by simpa using e
    obtain ⟨ds, rfl, _, l2⟩ := tupOf_tup e1
    obtain ⟨a, us, rfl, ha, hr'⟩ := Dx.tup_inv hd1
    have lus := dxAll_len hr'
    refine ⟨_, rfl, a, us, ds, rfl, ha, hr', sh1 ds rfl, fun good H' sm => ?_, fun i hi bad ok d H' nd sm hd => ?_⟩
    · refine ⟨_, rfl, v2, d2, rfl, Dx.same sm _ _ hd2, sh2, _, rfl, ite2 (fun e => ?_) (fun e => ?_)⟩
      · have e' : wordD d2 = false := by simpa using e
        refine raise_go (v := .str "other") (fun Q q => q) fun d H2 nd sm2 hd => hE (.str "other") ?_ d H2 (fresh_up sm nd) (sm.trans sm2) hd
        unfold partOf
        rw [if_pos e1]
        simp only [firstBad_none good, e']
        rfl
      have e2 : wordD d2 = true := by simpa using e
      obtain ⟨o, rfl⟩ : ∃ o, d2 = .str o := by cases d2 <;> first | exact ⟨_, rfl⟩ | cases e2
      obtain rfl := Dx.str_inv hd2
      obtain ⟨ts, rfl, gt⟩ := ts_of good
      have htu := gt.up
      have hp' := sm _ _ hp
      have hq' : DqAll H us (ts.map mkP) := dqAll_of _ _ (plain_pairs ts) hr'
      have hqq := DqAll.same sm _ _ hq'
      have ha' := sm _ _ ha
      rw [List.length_map] at l2 lus
      have keep : ∀ b o, H' b = some o → (∀ C dx fs, o ≠ .ins C dx fs) → b ≠ p := fun b o e ne z => by
        rw [z, hp'] at e
        exact ne _ _ _ (Option.some.inj e).symm
      refine ⟨_, rfl, _, rfl, p, _, dx, [], rfl, hp', cS, n1, (by show 0 < 1000; decide), _, rfl, _, rfl, p, _, dx, _, rfl, upd_same, cS, n2, (by show 1 < 1000; decide), ?_⟩
      have st2 : ∀ b u, b ≠ p → H' b = some u → upd (upd H' p (.ins (He.ga K "Table") dx (putF "pairs" (.ref a) []))) p (.ins (He.ga K "Table") dx (putF "other" (.str o) (putF "pairs" (.ref a) []))) b = some u := fun b u ne e => by
        rw [upd_ne ne, upd_ne ne]
        exact e
      have ep2 : upd (upd H' p (.ins (He.ga K "Table") dx (putF "pairs" (.ref a) []))) p (.ins (He.ga K "Table") dx (putF "other" (.str o) (putF "pairs" (.ref a) []))) p = some (.ins (He.ga K "Table") dx [("pairs", .ref a), ("other", .str o)]) := upd_same
      generalize upd (upd H' p (.ins (He.ga K "Table") dx (putF "pairs" (.ref a) []))) p (.ins (He.ga K "Table") dx (putF "other" (.str o) (putF "pairs" (.ref a) []))) = H2 at st2 ep2 ⊢
      have qq2 : DqAll H2 us (ts.map mkP) := dqAll_sameN (fun b u e ne => st2 b u (keep b u e ne) e) _ _ hqq
      have ap : a ≠ p := keep a _ ha' fun _ _ _ z => nomatch z
      have ha2 := st2 a _ ap ha'
      refine ⟨_, rfl, a, rfl, ⟨_, st_of ha2⟩, fun D nD => ?_⟩
      have Dp : D ≠ p := fun z => by
        rw [z, ep2] at nD
        cases nD
      refine ⟨ts.length, fun i H3 => Same H2 (delH H3 D) ∧ ∃ kvs, H3 D = some (.dT kvs) ∧ kvs.length ≤ i ∧ ∀ r, valV kvs (rowK r) = (look (ts.take i) r).map V.str,
        ⟨fun b u e => by rw [delH_ne (ne_of_none e nD)]; exact same_new nD _ _ e, [], upd_same, Nat.le_refl _, fun r => by simp [look, valV]⟩, ?_, ?_⟩
      · rintro H3 ⟨sm3, kvs, e3, lk, ind⟩
        refine ⟨⟨us, st_of (same_delH _ _ (sm3 _ _ ha2)), by omega⟩, ?_⟩
        rw [List.take_length] at ind
        have ep3 := same_delH _ _ (sm3 _ _ ep2)
        refine ⟨_, rfl, p, _, dx, _, rfl, ep3, cS, n3, (by show 2 < 1000; decide), ?_⟩
        have up3 : ∀ b u, b ≠ p → H2 b = some u → upd H3 p (.ins (He.ga K "Table") dx (putF "_beside" (.ref D) [("pairs", .ref a), ("other", .str o)])) b = some u := fun b u ne e => by
          rw [upd_ne ne]
          exact same_delH _ _ (sm3 _ _ e)
        have notp : ∀ b u, H2 b = some u → (∀ C dx fs, u ≠ .ins C dx fs) → b ≠ p := fun b u e ne z => by
          rw [z, ep2] at e
          exact ne _ _ _ (Option.some.inj e).symm
        refine hQ ?_ ts o rfl rfl gt (by omega) _ (fun b u ne e => up3 b u ne (st2 b u ne (sm _ _ e))) ⟨dx, a, D, us, kvs, upd_same, up3 a _ ap ha2, dqAll_sameN (fun b u e ne => up3 b u (notp b u e ne) e) _ _ qq2, by rw [upd_ne Dp]; exact e3, ind⟩
        unfold partOf
        rw [if_pos e1]
        simp only [firstBad_none good, e2]
        rfl
      · rintro i H3 hi ⟨sm3, kvs, e3, lk, ind⟩
        have ha3 := same_delH _ _ (sm3 _ _ ha2)
        have hi' : i < us.length := by omega
        refine ⟨⟨us, us[i], st_of ha3, by simp [hi']⟩, ?_⟩
        rintro x H4 ⟨rfl, hx⟩
        have hx := hx us (st_of ha3)
        have dx3 : Dq H2 x (mkP ts[i]) := dqAt qq2 hx (by rw [List.getElem?_map, List.getElem?_eq_getElem hi]; rfl)
        obtain ⟨b, ws, rfl, hb, hw⟩ := V2.Dq.tup_inv dx3
        cases hw with | @cons va _ _ _ qa r1 =>
        cases r1 with | @cons vb _ _ _ qb r2 =>
        cases r2
        obtain ⟨c, cs, rfl, hc, hcs⟩ := V2.Dq.tup_inv qa
        obtain rfl : vb = .str ts[i].2 := by cases qb; rfl
        have tcs : cs = (rowK ts[i].1).map kV := by
          rw [rowK_v]
          have z : ∀ {vs : List V} {r : List Str}, DqAll H2 vs (r.map .str) → vs = r.map V.str := by
            intro vs r
            induction r generalizing vs with
            | nil => intro h; cases h; rfl
            | cons m ms ih => intro h; cases h with | cons one more => cases one; rw [ih more]; rfl
          exact z hcs
        subst tcs
        have hb3 := same_delH _ _ (sm3 _ _ hb)
        have hc3 := same_delH _ _ (sm3 _ _ hc)
        refine ⟨b, _, rfl, st_of hb3, rfl, _, _, rfl, _, _, rfl, rfl, rfl, ?_⟩
        refine ⟨_, rfl, _, rfl, kvs, rowK ts[i].1, c, rfl, hc3, e3, Nat.lt_of_le_of_lt (by omega : kvs.length ≤ 200) (by decide), by rw [delH_upd]; exact sm3, _, upd_same, Nat.le_trans (length_putK kvs _ _) (by omega), fun r => ?_⟩
        have tk : ts.take (i + 1) = ts.take i ++ [ts[i]] := by rw [List.take_succ, List.getElem?_eq_getElem hi]; rfl
        have old : look (ts.take i) ts[i].1 = none := look_none fun t ht => by
          obtain ⟨j, hj, rfl⟩ := List.getElem_of_mem ht
          rw [List.length_take] at hj
          rw [List.getElem_take]
          exact (List.pairwise_iff_getElem.mp htu) j i (by omega) hi (by omega)
        rw [tk, look_app, valV_put, ind r]
        by_cases er : ts[i].1 = r
        · rw [er] at old
          rw [er, if_pos rfl, if_pos rfl, old]
          rfl
        · rw [if_neg er, if_neg fun z => er (rowK_inj z).symm]
          cases look (ts.take i) r <;> rfl
    · refine hE _ ?_ d H' nd sm hd
      unfold partOf
      rw [if_pos e1]
      simp only [firstBad_some hi bad ok]
end
end K03

set_option maxHeartbeats 4000000
namespace K03
open PySem PySem.Spec PyProof.Rows L2 V1 V2 V3 V6
open Evl (pss_cut tCut sq_of st_of)
section
variable {K : PySem.W.Frag} {mg : Str → Option Value}
theorem Tx.rai (T : Tx K w mg) (i : Nat) {x : Str} (e : fa[i]? = some (.exc x)) {X : Cx} (hX : X.K = K := by rfl) : Raises X (.ref (He.ga K x)) := by
  have z := He.exc_ok (T.c.fact i e)
  subst hX
  exact raises_own z.2.2.1 z.2.2.2
end
section
variable [CurK]
theorem TAt.same {H H' : Hp} {p : Addr} {ts : Tp} {o : Str} (s : Same H H') (h : TAt H p ts o) : TAt H' p ts o := by
  obtain ⟨dx, a, q, us, kvs, h1, h2, h3, h4, h5⟩ := h.ex
  exact ⟨dx, a, q, us, kvs, s _ _ h1, s _ _ h2, DqAll.same s _ _ h3, s _ _ h4, h5⟩
def spTWord : Sp := fun vs H Q E => ∃ p ts o v d, vs = [.ref p, v] ∧ TAt H p ts o ∧ Dx H v d ∧ (∀ ds, d = .tuple ds → ∀ x ∈ ds, shortD x) ∧
  (rowD d = false → ∀ H', Same H H' → E (.ref (He.ga K "NoRow")) none H') ∧ (rowD d = true → ∀ H', Same H H' → Q (.str ((look ts (txOf d)).getD o)) H')
def spTEq : Sp := fun vs H Q _ => ∃ p ts o y, vs = [.ref p, y] ∧ TAt H p ts o ∧ GoodT ts ∧
  ((∃ d, Dx H y d ∧ d ≠ objD ∧ Q (.bl false) H) ∨ (∃ a dx fs C, y = .ref a ∧ H a = some (.ins C dx fs) ∧ C8.InsC K C ∧ PySem.W.kitOne K (.ref C) (.ref (He.ga K "Table")) = some false ∧ Q (.bl false) H) ∨
    ∃ q ts' o', y = .ref q ∧ TAt H q ts' o' ∧ GoodT ts' ∧ Q (.bl (decide (ts = ts') && decide (o = o'))) H)
end
theorem scTWord : FnScope ["self", "row"] ["self", "row"] (defScope s_Tableword) := ⟨rfl, rfl, rfl, by decide +kernel, rfl, by decide +kernel, by decide +kernel⟩
theorem scTEq : FnScope ["self", "other"] ["self", "other"] (defScope s_Table__eq__) := ⟨rfl, rfl, rfl, by decide +kernel, rfl, by decide +kernel, by decide +kernel⟩
theorem plainAll_of : ∀ {ds : List PyData}, (∀ d ∈ ds, V2.plain d = true) → plainAll ds = true
  | [], _ => rfl
  | d :: ds, h => by
    have h1 := h d List.mem_cons_self
    have h2 := plainAll_of fun x hx => h x (List.mem_cons_of_mem _ hx)
    simp [plainAll, h1, h2]
theorem canLayAll_of : ∀ {ds : List PyData}, (∀ d ∈ ds, d.canLay0 = true) → PyData.canLayAll0 ds = true
  | [], _ => by simp [PyData.canLayAll0]
  | d :: ds, h => by
    have h1 := h d List.mem_cons_self
    have h2 := canLayAll_of fun x hx => h x (List.mem_cons_of_mem _ hx)
    simp [PyData.canLayAll0, h1, h2]
theorem depthAll_le {n : Nat} : ∀ {ds : List PyData}, (∀ d ∈ ds, d.depth ≤ n) → PyData.depthAll ds ≤ n
  | [], _ => by simp [PyData.depthAll]
  | d :: ds, h => by
    have h1 := h d List.mem_cons_self
    have h2 := depthAll_le fun x hx => h x (List.mem_cons_of_mem _ hx)
    simp only [PyData.depthAll]
    omega
theorem shaped_of {d : PyData} (h1 : d.canLay0 = true) (h2 : d.depth ≤ 64) : SeqAt.shaped d = true := by
  unfold SeqAt.shaped
  rw [h1, Bool.true_and]
  exact decide_eq_true h2
theorem word_ok {x : Str} (h : wordX x = true) : PyData.strOk x = true := by
  have z : x.length ≤ 40 ∧ Txt.isascii x = true ∧ Txt.isprintable x = true := by simpa [wordX] using h
  have y : x.cps.all (· < 128) = true := z.2.1
  show x.cps.all (· < 0x110000) = true
  rw [Array.all_eq_true] at y ⊢
  intro i hi
  have := of_decide_eq_true (y i hi)
  exact decide_eq_true (by omega)
theorem pairs_shaped {ts : Tp} (g : GoodT ts) : SeqAt.shaped (.tuple (ts.map mkP)) = true := by
  have row1 : ∀ r : List Str, (∀ x ∈ r, wordX x = true) → (mkR r).canLay0 = true ∧ (mkR r).depth ≤ 2 := fun r hr => by
    refine ⟨?_, ?_⟩
    · show PyData.canLayAll0 _ = true
      refine canLayAll_of fun d hd => ?_
      obtain ⟨x, hx, rfl⟩ := List.mem_map.mp hd
      simp [PyData.canLay0, word_ok (hr x hx)]
    · have z : PyData.depthAll (r.map PyData.str) ≤ 1 := depthAll_le fun d hd => by
        obtain ⟨l, _, rfl⟩ := List.mem_map.mp hd
        simp [PyData.depth]
      show (PyData.tuple (r.map PyData.str)).depth ≤ 2
      simp only [PyData.depth]
      omega
  refine shaped_of ?_ ?_
  · show PyData.canLayAll0 _ = true
    refine canLayAll_of fun d hd => ?_
    obtain ⟨t, ht, rfl⟩ := List.mem_map.mp hd
    simp [mkP, PyData.canLay0, PyData.canLayAll0, (row1 t.1 (g.ok t ht).1).1, word_ok (g.ok t ht).2.2]
  · have z : PyData.depthAll (ts.map mkP) ≤ 4 := depthAll_le fun d hd => by
      obtain ⟨t, ht, rfl⟩ := List.mem_map.mp hd
      have := (row1 t.1 (g.ok t ht).1).2
      simp only [mkP, PyData.depth, PyData.depthAll]
      omega
    simp only [PyData.depth]
    omega
theorem eqv_row : ∀ r s : List Str, PyData.eqvAll (r.map PyData.str) (s.map PyData.str) = decide (r = s)
  | [], [] => rfl
  | [], _ :: _ => rfl
  | _ :: _, [] => rfl
  | x :: r, y :: s => by
    rw [List.map_cons, List.map_cons, PyData.eqvAll, eqv_row r s]
    have z : PyData.eqv (.str x) (.str y) = decide (x = y) := by
      simp only [PyData.eqv]
      by_cases e : x = y
      · rw [e]
        simp
      · simp [e]
    rw [z]
    by_cases e1 : x = y
    · by_cases e2 : r = s
      · rw [e1, e2]
        simp
      · rw [decide_eq_false e2, Bool.and_false, decide_eq_false fun q => e2 (List.cons.inj q).2]
    · rw [decide_eq_false e1, Bool.false_and, decide_eq_false fun q => e1 (List.cons.inj q).1]
theorem eqv_pairs : ∀ ts us : Tp, PyData.eqvAll (ts.map mkP) (us.map mkP) = decide (ts = us)
  | [], [] => rfl
  | [], _ :: _ => rfl
  | _ :: _, [] => rfl
  | (r, x) :: ts, (s, y) :: us => by
    rw [List.map_cons, List.map_cons, PyData.eqvAll, eqv_pairs ts us]
    have z : PyData.eqv (mkP (r, x)) (mkP (s, y)) = decide ((r, x) = (s, y)) := by
      show PyData.eqv (.tuple [.tuple (r.map .str), .str x]) (.tuple [.tuple (s.map .str), .str y]) = _
      simp only [PyData.eqv, PyData.eqvAll, eqv_row, Bool.and_true]
      by_cases e1 : r = s
      · by_cases e2 : x = y
        · rw [e1, e2]
          simp
        · simp [e2]
      · simp [e1]
    rw [z]
    by_cases e1 : (r, x) = (s, y)
    · by_cases e2 : ts = us
      · rw [e1, e2]
        simp
      · rw [decide_eq_false e2, Bool.and_false, decide_eq_false fun q => e2 (List.cons.inj q).2]
    · rw [decide_eq_false e1, Bool.false_and, decide_eq_false fun q => e1 (List.cons.inj q).1]
section
variable [CurK] {H : L2.Hp} {v : V} {d : PyData} {C : Addr}
/-- isinstance(x, C), C a plain class: data that are no object -/
theorem kxC_no (i : InsK K C) (hd : Dx H v d) (ne : d ≠ objD) : ∃ t, TyX K H v t ∧ PySem.W.kitOne K t (.ref C) = some false ∧ PySem.W.notFirst K C t = true := by
  have z := i.no _ (tyName_mem d)
  have y := i.nf _ (tyName_mem d)
  cases hd with
  | non => exact ⟨_, .base .non, z, y⟩
  | bl b => exact ⟨_, .base (.bl b), z, y⟩
  | int i => exact ⟨_, .base (.int i), z, y⟩
  | str x => exact ⟨_, .base (.str x), z, y⟩
  | lst e _ _ => exact ⟨_, .base (.lst e), z, y⟩
  | tup e _ => exact ⟨_, .base (.tup e), z, y⟩
  | dct e _ => exact ⟨_, .base (.dK e), z, y⟩
  | ob e ok => exact absurd rfl ne
end
section
variable [CurK] {P : Program} {w : World} {mg : Str → Option Value} {base : Heap}
theorem ok_tword (T : Tx K w mg) : ∃ fd, FnOk P w K mg base (L2.CX P w) 3 (He.ma K (He.ga K "Table") "word") fd ["self", "row"] spTWord ∧ Binds K fd ["self", "row"] [] := by
  obtain ⟨fd, F⟩ := T.c.def_ 43 (d := d_Tableword) rfl
  have Hr := ok_row (P := P) (w := w) (base := base) T
  refine ⟨fd, F.ok scTWord (fun vs H Q E h => ?_) (fun cdv A outer s H vs Q E hr h => ?_), FunD.bindsN F fun _ _ _ _ _ _ us hl => match us, hl with | [_, _], _ => rfl⟩
  · obtain ⟨p, ts, o, v, d, rfl, _⟩ := h
    rfl
  · have hu : (A.deeper (envOfC d_Tableword.qual d_Tableword.scope s.heap.objs.size (He.fAd K d_Tableword.at_) cdv)).units + 1 < cLine := by
      have := hr.un
      omega
    refine ⟨_, (pss_cons (ps_if (pt_not (pt_val (pe_has Hr (hr.mono (by decide)) pass0 (pa_cons (pv 1) pa_nil))))
 (pss_one (ps_raise rfl (takes_of rfl rfl rfl rfl) (pmk_mk0 PySem.F.excBase_ValueError (T.exq 75 rfl).1 (T.glo 13 rfl) (T.exq 75 rfl).2 (T.rai 75 rfl) (by rfl))))
 pss_nil)
 (pss_one (ps_ret (pe_dget2 hu (L2.pe_fld (pv 0) (by rfl)) (pv 1) (L2.pe_fld (pv 0) (by rfl)) ⟨by rfl, by rfl, by rfl, by rfl⟩)))), ?_⟩
    obtain ⟨p, ts, o, v, d, rfl, ta, hd, sh, hE, hQ⟩ := h
    have cS : Cls K (He.ga K "Table") := He.cls_ok (T.c.fact 79 rfl)
    have n2 : NoAttr K (He.ga K "Table") "other" := He.noat_ok (T.c.fact 81 rfl)
    have n3 : NoAttr K (He.ga K "Table") "_beside" := He.noat_ok (T.c.fact 80 rfl)
    refine ⟨_, rfl, v, d, rfl, hd, sh, fun H1 s1 => ⟨_, rfl, ite2 (fun e => ?_) (fun e => ?_)⟩⟩
    · exact hE (by simpa using e) H1 s1
    have e1 : rowD d = true := by simpa using e
    obtain ⟨dx, a, q, us, kvs, hp, ha, hu', hq, ind⟩ := (ta.same s1).ex
    obtain ⟨ds, rfl, al⟩ : ∃ ds, d = .tuple ds ∧ ds.all wordD = true := by
      cases d with
      | tuple ds =>
        have z : ds.length ≤ 400 ∧ ds.all wordD = true := by simpa [rowD] using e1
        exact ⟨ds, rfl, z.2⟩
      | _ => cases e1
    obtain ⟨c, cs, rfl, hc, hcs⟩ := Dx.tup_inv (Dx.same s1 _ _ hd)
    have ecs : cs = (rowK (txOf (.tuple ds))).map kV := by
      rw [rowK_v]
      exact row_texts al hcs
    rw [ecs] at hc
    refine ⟨_, rfl, p, _, dx, _, _, rfl, hp, cS, n3, rfl, q, rfl, .inr ⟨kvs, .inl hq⟩, _, rfl, _, rfl, p, _, dx, _, _, rfl, hp, cS, n2, rfl, _, DGet.t hq hc, ?_⟩
    rw [ind]
    have z := hQ e1 H1 s1
    cases hk : look ts (txOf (.tuple ds)) with
    | none => rw [hk] at z; exact z
    | some x => rw [hk] at z; exact z
theorem ok_teq (T : Tx K w mg) : ∃ fd, FnOk P w K mg base CX0 1 (He.ma K (He.ga K "Table") "__eq__") fd ["self", "other"] spTEq ∧ Binds K fd ["self", "other"] [] := by
  obtain ⟨fd, F⟩ := T.c.def_ 42 (d := d_Table__eq__) rfl
  refine ⟨fd, F.ok scTEq (fun vs H Q E h => ?_) (fun cdv A outer s H vs Q E hr h => ?_), FunD.bindsN F fun _ _ _ _ _ _ us hl => match us, hl with | [_, _], _ => rfl⟩
  · obtain ⟨p, ts, o, y, rfl, _⟩ := h
    rfl
  · refine ⟨_, PSs.nox (pss_one (ps_ret (pe_and (pe_callB call_isi (by rfl) (T.free 64 rfl) (by decide +kernel) (pa_cons (pv 1) (pa_cons (pe_glob (v := .ref (He.ga K "Table")) (by rfl) (T.glo 19 rfl) rfl) pa_nil))) (pe_and (pe_cmpR (op_eqD hr.units) (L2.pe_fld (pv 0) (by rfl)) (L2.pe_fld (pv 1) (by rfl)) (nomark _)) (pe_one (pe_cmpR op_eq (L2.pe_fld (pv 0) (by rfl)) (L2.pe_fld (pv 1) (by rfl)) (nomark _))))))), ?_⟩
    obtain ⟨p, ts, o, y, rfl, ta, gt, h⟩ := h
    obtain ⟨dx, a, q, us, kvs, hp, ha, hu, hq, ind⟩ := ta.ex
    have cS : Cls K (He.ga K "Table") := He.cls_ok (T.c.fact 79 rfl)
    have n1 : NoAttr K (He.ga K "Table") "pairs" := He.noat_ok (T.c.fact 82 rfl)
    have n2 : NoAttr K (He.ga K "Table") "other" := He.noat_ok (T.c.fact 81 rfl)
    have iF := T.insK 0 (x := "Table") rfl
    have iC := iF.ins cS T.exs.2.2.2
    rcases h with ⟨d, hd, ne, hQ⟩ | ⟨a2, dx2, fs2, C2, rfl, e2, i2, k2, hQ⟩ | ⟨p2, ts', o', rfl, ta', gt', hQ⟩
    · obtain ⟨t, ty, kk, _⟩ := kxC_no iF hd ne
      exact ⟨_, rfl, y, .ref _, _, _, false, rfl, .own _, ty, kk, _, rfl, iteF hQ⟩
    · exact ⟨_, rfl, _, .ref _, _, _, false, rfl, .own _, TyX_ins e2 i2, k2, _, rfl, iteF hQ⟩
    · obtain ⟨dx', a', q', us', kvs', hp', ha', hu', hq', ind'⟩ := ta'.ex
      refine ⟨_, rfl, _, .ref _, _, _, true, rfl, .own _, TyX_ins hp' iC, iC.me, _, rfl, iteT ?_⟩
      have d1 : Dp K H (.ref a) (.tuple (ts.map mkP)) := dq_dp _ _ (by simp only [V2.plain]; exact plain_pairs ts) (.tup ha hu)
      have d1' : Dp K H (.ref a') (.tuple (ts'.map mkP)) := dq_dp _ _ (by simp only [V2.plain]; exact plain_pairs ts') (.tup ha' hu')
      refine ⟨_, rfl, p, _, dx, _, _, rfl, hp, cS, n1, rfl, _, rfl, p2, _, dx', _, _, rfl, hp', cS, n1, rfl, _, _, d1, d1', pairs_shaped gt, pairs_shaped gt', _, rfl, ?_⟩
      have z : PyData.eqv (.tuple (ts.map mkP)) (.tuple (ts'.map mkP)) = decide (ts = ts') := by
        simp only [PyData.eqv]
        exact eqv_pairs ts ts'
      rw [z]
      cases hc : decide (ts = ts') with
      | false =>
        rw [hc, Bool.false_and] at hQ
        exact iteF hQ
      | true =>
        rw [hc, Bool.true_and] at hQ
        have e : decide (V.str o = V.str o') = decide (o = o') := decide_eq_decide.mpr ⟨fun h => V.str.inj h, fun h => congrArg V.str h⟩
        refine iteT ⟨_, rfl, p, _, dx, _, _, rfl, hp, cS, n2, rfl, _, rfl, p2, _, dx', _, _, rfl, hp', cS, n2, rfl, rfl, ?_⟩
        rw [e]
        exact hQ
end
end K03

set_option maxHeartbeats 4000000
namespace K03
open PySem PySem.Spec PyProof.Rows L2 V1 V2 V3 V6
open Evl (pss_cut tCut sq_of st_of)
/-- at a: the hand: its cells' list, the four numbers -/
structure HandAt (H : Hp) (a : Addr) : Prop where
  ex : ∃ (c : Addr) (cs : List Int) (i1 i2 i3 i4 : Int), H a = some (.lst [.ref c, .int i1, .int i2, .int i3, .int i4]) ∧ (delH H a) c = some (.lst (cs.map V.int)) ∧ 0 ≤ i1 ∧ 0 ≤ i2
theorem HandAt.new {H H' : Hp} {a : Addr} (h : HandAt H a) (e : H' a = H a) (s : Same (delH H a) (delH H' a)) : HandAt H' a := by
  obtain ⟨c, cs, i1, i2, i3, i4, h1, h2, h3⟩ := h.ex
  exact ⟨c, cs, i1, i2, i3, i4, e.trans h1, s _ _ h2, h3⟩
def cellsOf (H : Hp) (a : Addr) : Option V := match H a with
  | some (.lst (x :: _)) => some x
  | _ => none
theorem cellsOf_at {H : Hp} {a : Addr} {x : V} {xs : List V} (h : H a = some (.lst (x :: xs))) : cellsOf H a = some x := by
  unfold cellsOf
  rw [h]
theorem HandAt.cells {H : Hp} {a : Addr} (h : HandAt H a) : ∃ (c : Addr) (cs : List Int), cellsOf H a = some (.ref c) ∧ c ≠ a ∧ H c = some (.lst (cs.map V.int)) := by
  obtain ⟨c, cs, i1, i2, i3, i4, e, e2, _⟩ := h.ex
  have ne : c ≠ a := fun z => by
    rw [z, delH_same] at e2
    cases e2
  exact ⟨c, cs, cellsOf_at e, ne, by rw [delH_ne ne] at e2; exact e2⟩
theorem HandAt.off {H : Hp} {a f c : Addr} (h : HandAt H a) (e : cellsOf H a = some (.ref c)) (nc : c ≠ f) (na : f ≠ a) : HandAt (delH H f) a := by
  obtain ⟨c', cs, i1, i2, i3, i4, e1, e2, p⟩ := h.ex
  rw [cellsOf_at e1] at e
  cases e
  refine ⟨c, cs, i1, i2, i3, i4, by rw [delH_ne (Ne.symm na)]; exact e1, ?_, p⟩
  have ne : c ≠ a := fun z => by
    rw [z, delH_same] at e2
    cases e2
  rw [delH_ne ne] at e2 ⊢
  rw [delH_ne nc]
  exact e2
def spDraw : Sp := fun vs H Q _ => ∃ (a : Addr) (m : Int), vs = [.ref a, .int m] ∧ HandAt H a ∧ 0 < m ∧ m < 1000000000 ∧
  ∀ (H' : Hp) (r : Int), HandAt H' a → delH H' a = delH H a → cellsOf H' a = cellsOf H a → 0 ≤ r → r < m → Q (.int r) H'
def spHand (K : PySem.W.Frag) : Sp := fun vs H Q _ => ∃ (a : Addr) (ns : List Int), vs = [.ref a] ∧ SqL K H a (ns.map V.int) ∧ ns.length ≤ 63 ∧ ∀ (H' : Hp) (p : Addr), Same H H' → H p = none → HandAt H' p → Q (.ref p) H'
theorem scHand : FnScope ["script", "cell"] ["script"] (defScope s__law_hand) := ⟨rfl, rfl, rfl, by decide +kernel, rfl, by decide +kernel, by decide +kernel⟩
theorem scDraw : FnScope ["hand", "many", "cell", "digit", "number"] ["hand", "many"] (defScope s__law_draw) := ⟨rfl, rfl, rfl, by decide +kernel, rfl, by decide +kernel, by decide +kernel⟩
theorem scSome : FnScope ["hand", "things"] ["hand", "things"] (defScope s__law_pick) := ⟨rfl, rfl, rfl, by decide +kernel, rfl, by decide +kernel, by decide +kernel⟩
theorem rest_in (z : Int) {m : Int} (h : 0 < m) : 0 ≤ z % m ∧ z % m < m := ⟨Int.emod_nonneg _ (by omega), Int.emod_lt_of_pos _ h⟩
theorem ix0 {K : PySem.W.Frag} {σ : L2.St} {H : Hp} {Q : VK} {k : Nat} {a : Addr} {xs : List V} {n : Int} {v : V} (h0 : σ[k]? = some (some (.ref a))) (hH : H a = some (.lst xs)) (hv : atI xs n = some v) (q : Q v H) : tOp (rIxL K) (tVar k) (tC (.int n)) σ H Q :=
  ⟨_, h0, a, xs, n, v, rfl, rfl, sq_of hH, hv, q⟩

theorem cut63 (ns : List Int) : cutV (ns.map V.int) none (some 63) = (ns.take 63).map V.int := by
  unfold cutV
  rw [show HT.sIx (ns.map V.int).length (ns.map V.int).length (some 63) = min 63 (ns.map V.int).length from HT.sIx_nat _ _ 63, HT.sIx_none]
  simp [List.map_take, Nat.min_comm]
def teCell : TE := tCB (fun xs H Q => (∃ i, xs = [.int i] ∧ Q (.int i) H) ∨ ∃ k, xs = [.bl k] ∧ Q (.int (if k then 1 else 0)) H) (tCons (tVar 1) tNil)
theorem hand_same {H H' : Hp} {a : Addr} (h : HandAt H a) (s : Same H H') : HandAt H' a := by
  obtain ⟨c, cs, i1, i2, i3, i4, e, _⟩ := h.ex
  exact h.new ((s _ _ e).trans e.symm) (same_del s)
theorem cells_same {H H' : Hp} {a : Addr} (h : HandAt H a) (s : Same H H') : cellsOf H' a = cellsOf H a := by
  obtain ⟨c, cs, i1, i2, i3, i4, e, _⟩ := h.ex
  rw [cellsOf_at e, cellsOf_at (s _ _ e)]
theorem HandAt.held {H : Hp} {a : Addr} (h : HandAt H a) : Held H a := by
  obtain ⟨c, cs, i1, i2, i3, i4, e, _⟩ := h.ex
  exact ⟨_, e⟩
theorem del2_upd {H : Hp} {a f : Addr} {o : HO} : delH (delH (upd H f o) a) f = delH (delH H a) f := by
  funext b
  by_cases e : b = f
  · rw [e, delH_same, delH_same]
  · rw [delH_ne e, delH_ne e]
    by_cases e2 : b = a
    · rw [e2, delH_same, delH_same]
    · rw [delH_ne e2, delH_ne e2, upd_ne e]
theorem tup_off {H : Hp} {a b : Addr} {xs : List V} (h : HandAt H a) (e : H b = some (.tup xs)) : (delH H a) b = some (.tup xs) := by
  have ne : b ≠ a := fun z => by
    obtain ⟨c, cs, i1, i2, i3, i4, e1, _⟩ := h.ex
    rw [z, e1] at e
    cases e
  rw [delH_ne ne]
  exact e
structure Go (a : Addr) (H H' : Hp) : Prop where
  hd : HandAt H' a
  ce : cellsOf H' a = cellsOf H a
  sm : Same (delH H a) (delH H' a)
theorem Go.refl {a : Addr} {H : Hp} (h : HandAt H a) : Go a H H := ⟨h, rfl, Same.refl _⟩
theorem Go.new {a : Addr} {H H' : Hp} (h : HandAt H a) (s : Same H H') : Go a H H' := ⟨hand_same h s, cells_same h s, same_del s⟩
theorem Go.draw {a : Addr} {H H' : Hp} (h1 : HandAt H' a) (h2 : delH H' a = delH H a) (h3 : cellsOf H' a = cellsOf H a) : Go a H H' := ⟨h1, h3, by rw [h2]; exact Same.refl _⟩
theorem Go.trans {a : Addr} {H H1 H2 : Hp} (g : Go a H H1) (g' : Go a H1 H2) : Go a H H2 := ⟨g'.hd, g'.ce.trans g.ce, g.sm.trans g'.sm⟩
theorem Go.at_ {a b : Addr} {H H' : Hp} {o : HO} (g : Go a H H') (h : delH H a b = some o) : delH H' a b = some o := g.sm _ _ h
theorem HandAt.ne_new {H : Hp} {a q : Addr} (h : HandAt H a) (n : H q = none) : q ≠ a := fun z => by
  obtain ⟨o, e⟩ := h.held
  rw [z, e] at n
  cases n
theorem del_comm {H : Hp} {a f : Addr} : delH (delH H a) f = delH (delH H f) a := by
  funext b
  by_cases e : b = f
  · subst e
    rw [delH_same]
    by_cases e2 : b = a
    · rw [e2, delH_same]
    · rw [delH_ne e2, delH_same]
  · by_cases e2 : b = a
    · rw [delH_ne e, e2, delH_same, delH_same]
    · rw [delH_ne e, delH_ne e2, delH_ne e2, delH_ne e]
theorem Go.draw_in {a D c : Addr} {H0 H H' : Hp} (g : Go a H0 (delH H D)) (hc : cellsOf H0 a = some (.ref c)) (cD : c ≠ D) (Da : D ≠ a) (h1 : HandAt H' a) (h2 : delH H' a = delH H a) (h3 : cellsOf H' a = cellsOf H a) : Go a H0 (delH H' D) ∧ H' D = H D := by
  have cel : ∀ {X : Hp}, cellsOf (delH X D) a = cellsOf X a := fun {X} => by
    unfold cellsOf
    rw [delH_ne (Ne.symm Da)]
  have z : cellsOf H' a = some (.ref c) := h3.trans ((cel.symm.trans g.ce).trans hc)
  refine ⟨⟨h1.off z cD Da, cel.trans (z.trans hc.symm), ?_⟩, ?_⟩
  · rw [del_comm, h2, del_comm]
    exact g.sm
  · have y := congrFun h2 D
    rw [delH_ne Da, delH_ne Da] at y
    exact y
theorem pos_of {xs : List Int} {i : Nat} {v : V} (h : (xs.map V.int)[i]? = some v) (p : ∀ x ∈ xs, 0 ≤ x) : ∃ z, v = .int z ∧ 0 ≤ z ∧ z ∈ xs := by
  rw [List.getElem?_map] at h
  obtain ⟨z, hz, rfl⟩ := Option.map_eq_some_iff.mp h
  exact ⟨z, rfl, p z (List.mem_of_getElem? hz), List.mem_of_getElem? hz⟩
section
variable [CurK]
theorem Go.dx {a : Addr} {H H' : Hp} {v : V} {d : PyData} (g : Go a H H') (h : Dx (delH H a) v d) : Dx (delH H' a) v d := Dx.same g.sm _ _ h
structure LD (H0 : Hp) (a f c : Addr) (ds : List PyData) (H : Hp) : Prop where
  hd : HandAt H a
  ce : cellsOf H a = some (.ref c)
  sm : Same (delH H0 a) (delH (delH H a) f)
  at_ : ∃ acc, H f = some (.lst acc) ∧ DxAll (delH (delH H a) f) acc ds
theorem LD.draw {H0 H H' : Hp} {a f c : Addr} {ds : List PyData} (h : LD H0 a f c ds H) (na : f ≠ a) (h1 : HandAt H' a) (h2 : delH H' a = delH H a) (h3 : cellsOf H' a = cellsOf H a) : LD H0 a f c ds H' := by
  obtain ⟨acc, e, d⟩ := h.at_
  refine ⟨h1, h3.trans h.ce, by rw [h2]; exact h.sm, acc, ?_, by rw [h2]; exact d⟩
  have z := congrFun h2 f
  rw [delH_ne na, delH_ne na] at z
  exact z.trans e
theorem LD.new {H0 H H' : Hp} {a f c : Addr} {ds : List PyData} (h : LD H0 a f c ds H) (s : Same H H') : LD H0 a f c ds H' := by
  obtain ⟨acc, e, d⟩ := h.at_
  exact ⟨hand_same h.hd s, (cells_same h.hd s).trans h.ce, h.sm.trans (same_del (same_del s)), acc, s _ _ e, DxAll.same (same_del (same_del s)) _ _ d⟩
theorem LD.put {H0 H : Hp} {a f c : Addr} {ds ds' : List PyData} {acc' : List V} (h : LD H0 a f c ds H) (na : f ≠ a) (nc : c ≠ f) (d : DxAll (delH (delH H a) f) acc' ds') :
    LD H0 a f c ds' (upd H f (.lst acc')) := by
  have o := h.hd.off h.ce nc na
  refine ⟨?_, ?_, ?_, acc', upd_same, ?_⟩
  · have z : HandAt (delH (upd H f (.lst acc')) f) a := by rw [delH_upd]; exact o
    exact hand_same z same_delH
  · have z := h.ce
    unfold cellsOf at z ⊢
    rw [upd_ne (Ne.symm na)]
    exact z
  · rw [del2_upd]
    exact h.sm
  · rw [del2_upd]
    exact d
theorem LD.held {H0 H : Hp} {a f c : Addr} {ds : List PyData} (h : LD H0 a f c ds H) : Held H f := by
  obtain ⟨acc, e, _⟩ := h.at_
  exact ⟨_, e⟩
end
/-- the items of a list, a tuple, a string -/
def ItsOf (H : Hp) (a : Addr) (x : V) (xs : List V) : Prop :=
  (∃ p, x = .ref p ∧ p ≠ a ∧ (H p = some (.lst xs) ∨ H p = some (.tup xs))) ∨ ∃ z : Str, x = .str z ∧ xs = z.cps.toList.map fun c => V.str ⟨#[c]⟩
def spSome : Sp := fun vs H Q _ => ∃ (a : Addr) (x : V) (xs : List V), vs = [.ref a, x] ∧ HandAt H a ∧ ItsOf H a x xs ∧ 0 < xs.length ∧ xs.length < 1000 ∧
  ∀ (H' : Hp) (i : Nat) (v : V), HandAt H' a → delH H' a = delH H a → cellsOf H' a = cellsOf H a → xs[i]? = some v → Q v H'
theorem some_ints {H : Hp} {a q : Addr} {Q : VK} (xs : List Int) (hd : HandAt H a) (nq : H q = none) (px : ∀ x ∈ xs, 0 ≤ x) (l0 : 0 < xs.length) (l1 : xs.length < 1000)
    (k : ∀ H2 (z : Nat), Go a H H2 → ((z : Nat) : Int) ∈ xs → Q (.int ((z : Nat) : Int)) H2) : spSome [.ref a, .ref q] (upd H q (.lst (xs.map V.int))) Q (fun _ _ _ => False) := by
  have s1 := same_new (o := HO.lst (xs.map V.int)) nq
  refine ⟨a, _, _, rfl, hand_same hd s1, .inl ⟨q, rfl, hd.ne_new nq, .inl upd_same⟩, by rw [List.length_map]; exact l0, by rw [List.length_map]; exact l1, fun H2 i v hd2 e2 c2 ev => ?_⟩
  obtain ⟨z, rfl, z0, zm⟩ := pos_of ev px
  obtain ⟨j, rfl⟩ := Int.eq_ofNat_of_zero_le z0
  exact k H2 j ((Go.new hd s1).trans (Go.draw hd2 e2 c2)) zm
theorem some_data [CurK] {H : Hp} {a : Addr} {v : V} {d : PyData} {ds : List PyData} {Q : VK} (hd : HandAt H a) (q : Dx (delH H a) v d) (ed : d = .list ds ∨ d = .tuple ds) (l0 : 0 < ds.length) (l1 : ds.length < 1000)
    (k : ∀ H2 w d, Go a H H2 → d ∈ ds → Dx (delH H2 a) w d → Q w H2) : spSome [.ref a, v] H Q (fun _ _ _ => False) := by
  obtain ⟨p, xs, rfl, at_, rest⟩ : ∃ p xs, v = .ref p ∧ (delH H a p = some (.lst xs) ∨ delH H a p = some (.tup xs)) ∧ DxAll (delH H a) xs ds := by
    rcases ed with rfl | rfl
    · cases q with | lst at_ low rest => exact ⟨_, _, rfl, .inl at_, rest⟩
    · cases q with | tup at_ rest => exact ⟨_, _, rfl, .inr at_, rest⟩
  have na : p ≠ a := fun z => by
    rw [z, delH_same] at at_
    rcases at_ with h | h <;> cases h
  rw [delH_ne na] at at_
  have lr := dxAll_len rest
  refine ⟨a, _, _, rfl, hd, .inl ⟨p, rfl, na, at_⟩, by rw [lr]; exact l0, by rw [lr]; exact l1, fun H2 i w hd2 e2 c2 ev => ?_⟩
  obtain ⟨d, m, z⟩ := DxAll.some rest ev
  exact k H2 w d (Go.draw hd2 e2 c2) m (by rw [e2]; exact z)
theorem cells_del {H : Hp} {a D : Addr} (n : D ≠ a) : cellsOf (delH H D) a = cellsOf H a := by
  unfold cellsOf
  rw [delH_ne (Ne.symm n)]
theorem Go.undel {a D : Addr} {H0 H : Hp} (g : Go a H0 (delH H D)) (n : D ≠ a) : Go a H0 H := ⟨hand_same g.hd same_delH, (cells_del n).symm.trans g.ce, fun b o e => by
  have z := g.sm b o e
  rw [del_comm] at z
  exact same_delH _ _ z⟩
theorem go_cell {a c : Addr} {H H' : Hp} {cs : List Int} (g : Go a H H') (hce : cellsOf H a = some (.ref c)) (nca : c ≠ a) (hc : H c = some (.lst (cs.map V.int))) : cellsOf H' a = some (.ref c) ∧ H' c = some (.lst (cs.map V.int)) :=
  ⟨g.ce.trans hce, same_delH _ _ (g.sm _ _ (by rw [delH_ne nca]; exact hc))⟩

section
variable [CurK] {P : Program} {w : World} {mg : Str → Option Value} {base : Heap}
theorem ok_hand (T : Tx K w mg) : Has P w K mg base CX0 1 "_law_hand" ["script"] (spHand K) := by
  obtain ⟨fd, F⟩ := T.c.def_ 22 (d := d__law_hand) rfl
  refine ⟨fd, F.ok scHand (fun vs H Q E h => ?_) (fun cdv A outer s H vs Q E hr h => ?_), FunD.bindsN F fun _ _ _ _ _ _ us hl => match us, hl with | [_], _ => rfl, F.kp, (T.glo 41 rfl)⟩
  · obtain ⟨a, ns, rfl, _⟩ := h
    rfl
  · refine ⟨_, PSs.nox (pss_one (ps_ret (pe_lst (pa_cons (pe_lc (own := [("cell", 1)]) (g := gName 1) (tt := tYes) (te := teCell) (by rfl) scHand.nd (pi_list (pe_slice sl_list (pv 0) po_none (po_some pe_int)))
 (blkOk_by (own := [("cell", 1)]) (N := ["script", "cell"]) (sc := defScope s__law_hand) (by decide +kernel)) (fun _ _ _ _ _ => pg_name (i := 1) scHand.nd rfl (Or.inl rfl)) (fun _ _ _ _ _ => pts_nil) (fun _ _ _ _ _ => (pe_callTy call_int1 (by rfl) (T.free 63 rfl) (by decide +kernel) (pa_cons (pv 1) pa_nil)))) (pa_cons pe_int (pa_cons pe_int (pa_cons pe_int (pa_cons pe_int pa_nil)))))))), ?_⟩
    obtain ⟨a, ns, rfl, hS, hl, hQ⟩ := h
    refine ⟨_, rfl, 63, rfl, a, _, rfl, hS, fun p np => ?_⟩
    rw [cut63]
    have sp := same_new (o := .lst ((ns.take 63).map V.int)) np
    refine ⟨p, rfl, ⟨_, sq_of upd_same⟩, fun D nD => ?_⟩
    refine lc_gen (σ := [some (.ref a), none]) (vs := [1]) (walk_list (K := K) (a := p) (xs := (ns.take 63).map V.int)) nD (fun i acc H' => Same (upd H p (.lst ((ns.take 63).map V.int))) H' ∧ ∃ cs : List Int, acc = cs.map V.int) ⟨Same.refl _, [], rfl⟩ (fun i acc H' _ z => sq_of (same_delH _ _ (z.1 _ _ upd_same))) ?_ ?_
    · rintro i acc x H1 H2 hi l e ⟨sm, cs, rfl⟩ ⟨rfl, hx⟩
      rw [List.getElem?_map] at hx
      obtain ⟨z, hz, rfl⟩ := Option.map_eq_some_iff.mp hx
      refine ⟨rfl, ?_⟩
      simp only [tYes, if_true]
      have li : i < 1000 := by
        rw [List.length_map, List.length_take] at hi
        omega
      exact ⟨_, rfl, .inl ⟨z, rfl, lc_put l li e ⟨sm, cs ++ [z], by rw [List.map_append]; rfl⟩⟩⟩
    · rintro acc H1 l e ⟨sm, cs, rfl⟩
      have s1 : Same H H1 := fun b o ob => same_delH _ _ (sm _ _ (sp _ _ ob))
      refine ⟨(by show 5 ≤ sizeLine; decide), fun q nq => ?_⟩
      refine hQ _ q (s1.trans (same_new nq)) (fresh_up s1 nq) ⟨D, cs, _, _, _, _, upd_same, ?_, by decide, by decide⟩
      rw [delH_new nq]
      exact e
theorem ok_draw (T : Tx K w mg) : Has P w K mg base CX0 1 "_law_draw" ["hand", "many"] spDraw := by
  obtain ⟨fd, F⟩ := T.c.def_ 23 (d := d__law_draw) rfl
  refine ⟨fd, F.ok scDraw (fun vs H Q E h => ?_) (fun cdv A outer s H vs Q E hr h => ?_), FunD.bindsN F fun _ _ _ _ _ _ us hl => match us, hl with | [_, _], _ => rfl, F.kp, (T.glo 42 rfl)⟩
  · obtain ⟨a, m, rfl, _⟩ := h
    rfl
  · refine ⟨_, PSs.nox (pss_cut (ps_if (PW.pt (pw_and (pt_cmpR op_eq (pe_ix ix_list (pv 0) pe_int (fun _ _ => rfl)) pe_int (nomark _)) (pw_and1 (pt_cmpR op_lt (pe_ix ix_list (pv 0) pe_int (fun _ _ => rfl)) (pe_callB call_len (by rfl) (T.free 65 rfl) PySem.boot_len (pa_cons (pe_ix ix_list (pv 0) pe_int (fun _ _ => rfl)) pa_nil)) (nomark _)))))
 (pss_cons (ps_set (i := 2) scDraw.nd rfl (Or.inl rfl) (pe_ix ix_list (pe_ix ix_list (pv 0) pe_int (fun _ _ => rfl)) (pe_ix ix_list (pv 0) pe_int (fun _ _ => rfl)) (fun _ _ => rfl)))
 (pss_cons (ps_asg (pe_op op_add (pe_ix ix_list (pv 0) pe_int (fun _ _ => rfl)) pe_int) (pg_sub (pv 0) pe_int set_list))
 (pss_cons (ps_asg (pe_op op_mod (pe_callTy call_int1 (by rfl) (T.free 63 rfl) (by decide +kernel) (pa_cons (pe_op op_add (pe_op op_add (pe_op op_mul (pe_ix ix_list (pv 0) pe_int (fun _ _ => rfl)) pe_int) (pe_op op_mul (pv 2) pe_int)) pe_int) pa_nil)) pe_int) (pg_sub (pv 0) pe_int set_list))
 (pss_one (ps_if (pt_cmpR op_ge (pv 2) (pe_op op_pow pe_int pe_int) (nomark _))
 (pss_one (ps_asg (pv 2) (pg_sub (pv 0) pe_int set_list)))
 pss_nil)))))
 pss_nil)
 (pss_cons (ps_if (pt_cmpR op_gt (pe_ix ix_list (pv 0) pe_int (fun _ _ => rfl)) pe_int (nomark _))
 (pss_cons (ps_set (i := 3) scDraw.nd rfl (Or.inl rfl) (pe_op op_mod (pe_callTy call_int1 (by rfl) (T.free 63 rfl) (by decide +kernel) (pa_cons (pe_ix ix_list (pv 0) pe_int (fun _ _ => rfl)) pa_nil)) (pv 1)))
 (pss_cons (ps_asg (pe_op op_fdiv (pe_ix ix_list (pv 0) pe_int (fun _ _ => rfl)) (pv 1)) (pg_sub (pv 0) pe_int set_list))
 (pss_one (ps_ret (pv 3)))))
 pss_nil)
 (pss_cons (ps_asg (pe_op op_add (pe_ix ix_list (pv 0) pe_int (fun _ _ => rfl)) pe_int) (pg_sub (pv 0) pe_int set_list))
 (pss_cons (ps_set (i := 4) scDraw.nd rfl (Or.inl rfl) (pe_op op_mod (pe_callTy call_int1 (by rfl) (T.free 63 rfl) (by decide +kernel) (pa_cons (pe_op op_mul (pe_op op_add (pe_ix ix_list (pv 0) pe_int (fun _ _ => rfl)) (pe_op op_mul pe_int (pe_ix ix_list (pv 0) pe_int (fun _ _ => rfl)))) pe_int) pa_nil)) pe_int))
 (pss_cons (ps_set (i := 4) scDraw.nd rfl (Or.inl rfl) (pe_op op_mod (pe_callTy call_int1 (by rfl) (T.free 63 rfl) (by decide +kernel) (pa_cons (pe_op op_mul (pv 4) (pe_op op_add (pe_op op_fdiv (pv 4) pe_int) pe_int)) pa_nil)) pe_int))
 (pss_cons (ps_set (i := 4) scDraw.nd rfl (Or.inl rfl) (pe_op op_mod (pe_callTy call_int1 (by rfl) (T.free 63 rfl) (by decide +kernel) (pa_cons (pe_op op_mul (pv 4) (pe_op op_add (pe_op op_fdiv (pv 4) pe_int) pe_int)) pa_nil)) pe_int))
 (pss_one (ps_ret (pe_op op_mod (pe_callTy call_int1 (by rfl) (T.free 63 rfl) (by decide +kernel) (pa_cons (pe_op op_fdiv (pv 4) pe_int) pa_nil)) (pv 1)))))))))), ?_⟩
    obtain ⟨a, m, rfl, hd, m0, m1, hQ⟩ := h
    obtain ⟨c, cs, i1, i2, i3, i4, h1, h2, h3, h4⟩ := hd.ex
    refine ⟨fun σ H1 => ∃ (j1 j2 j3 j4 : Int) (v2 : Option V), σ = [some (.ref a), some (.int m), v2, none, none] ∧ H1 a = some (.lst [.ref c, .int j1, .int j2, .int j3, .int j4]) ∧ delH H1 a = delH H a ∧ 0 ≤ j1 ∧ 0 ≤ j2, ?_, ?_⟩
    · -- a new cell is taken
      have hc : H c = some (.lst (cs.map V.int)) := same_delH _ _ h2
      have nca : c ≠ a := fun z => by
        rw [z, delH_same] at h2
        cases h2
      refine ix0 rfl h1 rfl ⟨rfl, _, rfl, ?_⟩
      refine ite2 (fun e2 => ?_) (fun _ => ?_)
      · refine ix0 rfl h1 rfl (ix0 rfl h1 rfl ⟨_, _, rfl, .inl ⟨_, sq_of hc, rfl⟩, _, _, rfl, rfl, _, rfl, ?_⟩)
        refine ite2 (fun e1 => ?_) (fun _ => ?_)
        · have e1' := of_decide_eq_true e1
          rw [List.length_map] at e1'
          obtain ⟨j, rfl⟩ := Int.eq_ofNat_of_zero_le h3
          have hj : j < cs.length := by omega
          have at_ : atI (cs.map V.int) ((j : Nat) : Int) = some (.int cs[j]) := atI_nat (by rw [List.getElem?_map, List.getElem?_eq_getElem hj]; rfl)
          refine ix0 rfl h1 rfl (ix0 rfl h1 rfl ⟨c, _, _, _, rfl, rfl, sq_of hc, at_, ?_⟩)
          refine ix0 rfl h1 rfl ⟨_, _, rfl, rfl, _, rfl, a, _, _, 1, rfl, rfl, h1, rfl, ?_⟩
          refine ix0 rfl upd_same rfl ⟨_, _, rfl, rfl, .inr ⟨by decide, by decide⟩, _, rfl, _, _, rfl, rfl, .inr ⟨by decide, by decide⟩, _, _, rfl, rfl, _, _, rfl, rfl, .inl ⟨_, rfl, _, _, rfl, rfl, (by show (0 : Int) < 2147483629; decide), _, rfl, a, _, _, 3, rfl, rfl, upd_same, rfl, ?_⟩⟩
          rw [upd_upd]
          refine ⟨_, rfl, _, _, rfl, rfl, ⟨by decide, by decide, by decide⟩, _, _, rfl, rfl, _, rfl, ?_⟩
          refine ite2 (fun big => ?_) (fun _ => ?_)
          · refine ⟨_, rfl, _, rfl, a, _, _, 2, rfl, rfl, upd_same, rfl, ?_⟩
            rw [upd_upd]
            refine ⟨_, _, _, _, _, rfl, upd_same, by rw [delH_upd], by omega, ?_⟩
            have b := of_decide_eq_true big
            exact Int.le_trans (by decide) b
          · refine ⟨_, _, _, _, _, rfl, upd_same, by rw [delH_upd], by omega, h4⟩
        · exact ⟨_, _, _, _, _, rfl, h1, rfl, h3, h4⟩
      · exact ⟨_, _, _, _, _, rfl, h1, rfl, h3, h4⟩
    · rintro σ H1 ⟨j1, j2, j3, j4, v2, rfl, g1, g2, g3, g4⟩
      refine ix0 rfl g1 rfl ⟨_, _, rfl, rfl, _, rfl, ?_⟩
      refine ite2 (fun e => ?_) (fun e => ?_)
      · refine ix0 rfl g1 rfl (.inl ⟨_, rfl, _, rfl, _, _, rfl, rfl, m0, ?_⟩)
        refine ix0 rfl g1 rfl ⟨_, rfl, _, _, rfl, rfl, ⟨m0, by omega⟩, _, rfl, a, _, _, 2, rfl, rfl, g1, rfl, _, rfl, ?_⟩
        refine hQ _ _ ⟨c, cs, j1, j2 / m, j3, j4, upd_same, ?_, g3, Int.ediv_nonneg g4 (by omega)⟩ (by rw [delH_upd, g2]) ((cellsOf_at (x := .ref c) upd_same).trans (cellsOf_at h1).symm) (Int.emod_nonneg _ (by omega)) (Int.emod_lt_of_pos _ m0)
        rw [delH_upd, g2]
        exact h2
      · refine ix0 rfl g1 rfl ⟨_, _, rfl, rfl, _, rfl, a, _, _, 4, rfl, rfl, g1, rfl, ?_⟩
        refine ix0 rfl upd_same rfl (ix0 rfl upd_same rfl ⟨_, _, rfl, rfl, .inl ⟨by decide, by decide⟩, _, _, rfl, rfl, _, _, rfl, rfl, .inr ⟨by decide, by decide⟩, .inl ⟨_, rfl, _, _, rfl, rfl, (by show (0 : Int) < 2147483647; decide), ?_⟩⟩)
        have b1 := rest_in ((j3 + 6271 * (j4 + 1)) * 48673) (m := 2147483647) (by decide)
        refine ⟨_, rfl, _, rfl, _, _, rfl, rfl, ⟨by decide, by decide⟩, _, _, rfl, rfl, _, _, rfl, rfl, .inl ⟨by omega, by omega⟩, .inl ⟨_, rfl, _, _, rfl, rfl, (by show (0 : Int) < 2147483647; decide), ?_⟩⟩
        have b2 := fun z : Int => rest_in z (m := 2147483647) (by decide)
        refine ⟨_, rfl, _, rfl, _, _, rfl, rfl, ⟨by decide, by decide⟩, _, _, rfl, rfl, _, _, rfl, rfl, .inl ⟨Int.lt_of_lt_of_le (by decide) (b2 _).1, Int.lt_of_lt_of_le (b2 _).2 (by decide)⟩, .inl ⟨_, rfl, _, _, rfl, rfl, (by show (0 : Int) < 2147483399; decide), ?_⟩⟩
        refine ⟨_, rfl, _, _, rfl, rfl, ⟨by decide, by decide⟩, .inl ⟨_, rfl, _, rfl, _, _, rfl, rfl, m0, ?_⟩⟩
        refine hQ _ _ ⟨c, cs, j1, j2, j3, j4 + 1, upd_same, ?_, g3, g4⟩ (by rw [delH_upd, g2]) ((cellsOf_at (x := .ref c) upd_same).trans (cellsOf_at h1).symm) (Int.emod_nonneg _ (by omega)) (Int.emod_lt_of_pos _ m0)
        rw [delH_upd, g2]
        exact h2
theorem ok_some (T : Tx K w mg) : Has P w K mg base CX0 2 "_law_pick" ["hand", "things"] spSome := by
  obtain ⟨fd, F⟩ := T.c.def_ 24 (d := d__law_pick) rfl
  have Hd := ok_draw (P := P) (w := w) (base := base) T
  refine ⟨fd, F.ok scSome (fun vs H Q E h => ?_) (fun cdv A outer s H vs Q E hr h => ?_), FunD.bindsN F fun _ _ _ _ _ _ us hl => match us, hl with | [_, _], _ => rfl, F.kp, (T.glo 43 rfl)⟩
  · obtain ⟨a, p, xs, rfl, _⟩ := h
    rfl
  · refine ⟨_, PSs.nox (pss_one (ps_ret (pe_ix ix_seq (pv 1) (pe_has Hd (hr.mono (by decide)) pass0 (pa_cons (pv 0) (pa_cons (pe_callB call_len (by rfl) (T.free 65 rfl) PySem.boot_len (pa_cons (pv 1) pa_nil)) pa_nil))) (fun _ _ => rfl)))), ?_⟩
    obtain ⟨a, x, xs, rfl, hd, hp, l0, l1, hQ⟩ := h
    refine ⟨_, rfl, _, rfl, ?_⟩
    rcases hp with ⟨p, rfl, ne, hp⟩ | ⟨z, rfl, rfl⟩
    · refine ⟨_, rfl, _, _, rfl, (show LenV K (.ref p) H xs.length from hp.elim (fun e => .inl ⟨xs, sq_of e, rfl⟩) (fun e => .inr ⟨xs, st_of e, rfl⟩)), a, _, rfl, hd, by omega, by omega, fun H' r hd' e ec r0 r1 => ?_⟩
      obtain ⟨j, rfl⟩ := Int.eq_ofNat_of_zero_le r0
      have hj : j < xs.length := by omega
      have e' : ∀ o, H p = some o → H' p = some o := fun o h => by
        have z := congrFun e p
        rw [delH_ne ne, delH_ne ne] at z
        exact z.trans h
      rcases hp with hp | hp
      · exact .inl ⟨p, xs, _, xs[j], rfl, rfl, sq_of (e' _ hp), atI_nat (List.getElem?_eq_getElem hj), hQ H' j _ hd' e ec (List.getElem?_eq_getElem hj)⟩
      · exact .inr (.inl ⟨p, xs, _, xs[j], rfl, rfl, st_of (e' _ hp), atI_nat (List.getElem?_eq_getElem hj), hQ H' j _ hd' e ec (List.getElem?_eq_getElem hj)⟩)
    · rw [List.length_map] at l0 l1
      have lz : z.length = z.cps.toList.length := by simp [Str.length]
      refine ⟨_, rfl, _, _, rfl, (show LenV K (.str z) H z.length from ⟨Nat.le_of_lt (small1000 (by omega)), rfl⟩), a, _, rfl, hd, by omega, by omega, fun H' r hd' e ec r0 r1 => ?_⟩
      obtain ⟨j, rfl⟩ := Int.eq_ofNat_of_zero_le r0
      have hj : j < z.cps.toList.length := by omega
      exact .inr (.inr ⟨z, _, z.cps.toList[j], rfl, rfl, Nat.le_of_lt (small1000 (by omega)), atI_nat (List.getElem?_eq_getElem hj), hQ H' j _ hd' e ec (by rw [List.getElem?_map, List.getElem?_eq_getElem hj]; rfl)⟩)

end
end K03

set_option maxHeartbeats 4000000
namespace K03
open PySem PySem.Spec PyProof.Rows L2 V1 V2 V3 V6
open Evl (pss_cut tCut sq_of st_of)
theorem walk_zipTT {K : PySem.W.Frag} {a b : Addr} {xs ys : List V} {n : Nat} (hn : n = min xs.length ys.length) : Walk (RZ.ItzT K a b) n (fun H => SqT K H a xs ∧ SqT K H b ys) (YPair (fun i => xs[i]?) (fun i => ys[i]?)) := by
  constructor
  · intro i H hi q
    obtain ⟨g1, g2⟩ : i < xs.length ∧ i < ys.length := by omega
    exact ⟨xs, ys, xs[i], ys[i], q.1, q.2, List.getElem?_eq_getElem g1, List.getElem?_eq_getElem g2⟩
  · exact fun H q => ⟨xs, ys, q.1, q.2, by omega⟩
  · rintro i H v H' hi q ⟨t, x, z, e1, e2, e3, e4, e5⟩
    exact ⟨t, x, z, e1, e2, e3, e4 xs q.1, e5 ys q.2⟩
/-- ints, texts, flags, None, tuples of such, so deep -/
def flatD : Nat → PyData → Bool
  | _, .none => true
  | _, .str _ => true
  | _, .bool _ => true
  | _, .int _ => true
  | n + 1, .tuple ds => decide (ds.length ≤ 900) && ds.all (flatD n)
  | n + 1, .list ds => decide (ds.length ≤ 900) && ds.all (flatD n)
  | _, _ => false
theorem walk_zipLL {K : PySem.W.Frag} {a b : Addr} {xs ys : List V} {n : Nat} (hn : n = min xs.length ys.length) : Walk (Itz K a b) n (fun H => SqL K H a xs ∧ SqL K H b ys) (YPair (fun i => xs[i]?) (fun i => ys[i]?)) := by
  constructor
  · intro i H hi q
    obtain ⟨g1, g2⟩ : i < xs.length ∧ i < ys.length := by omega
    exact ⟨xs, ys, xs[i], ys[i], q.1, q.2, List.getElem?_eq_getElem g1, List.getElem?_eq_getElem g2⟩
  · exact fun H q => ⟨xs, ys, q.1, q.2, by omega⟩
  · rintro i H v H' hi q ⟨t, x, z, e1, e2, e3, e4, e5⟩
    exact ⟨t, x, z, e1, e2, e3, e4 xs q.1, e5 ys q.2⟩
theorem Dq.lst_inv {H : L2.Hp} {v : V} {ds : List PyData} (h : Dq H v (.list ds)) : ∃ a vs, v = .ref a ∧ H a = some (.lst vs) ∧ DqAll H vs ds := by
  cases h with
  | lst e low r => exact ⟨_, _, rfl, e, r⟩
def spIs : Nat → Sp
  | 0 => fun _ _ _ _ => False
  | n + 1 => fun vs H Q _ => ∃ v u d, vs = [v, u] ∧ Dq H v d ∧ Dq H u d ∧ flatD n d = true ∧ ∀ H', Same H H' → Q (.bl true) H'
theorem scIs : FnScope ["told", "due", "one", "two"] ["told", "due"] (defScope s__law_is) := ⟨rfl, rfl, rfl, by decide +kernel, rfl, by decide +kernel, by decide +kernel⟩
section
variable [CurK] {P : Program} {w : World} {mg : Str → Option Value} {base : Heap}
theorem ok_is (T : Tx K w mg) : ∀ n : Nat, Has P w K mg base CX0 (n + 1) "_law_is" ["told", "due"] (spIs n)
  | 0 => by
    obtain ⟨fd, F⟩ := T.c.def_ 25 (d := d__law_is) rfl
    exact ⟨fd, ⟨fun _ _ _ _ h => h.elim, fun _ _ _ _ _ _ _ _ _ _ _ _ _ h => h.elim⟩, FunD.bindsN F fun _ _ _ _ _ _ us hl => match us, hl with | [_, _], _ => rfl, F.kp, (T.glo 44 rfl)⟩
  | n + 1 => by
    obtain ⟨fd, F⟩ := T.c.def_ 25 (d := d__law_is) rfl
    have Hr := ok_is T n
    refine ⟨fd, F.ok scIs (fun vs H Q E h => ?_) (fun cdv A outer s H vs Q E hr h => ?_), FunD.bindsN F fun _ _ _ _ _ _ us hl => match us, hl with | [_, _], _ => rfl, F.kp, (T.glo 44 rfl)⟩
    · obtain ⟨v, u, d, rfl, _⟩ := h
      rfl
    · refine ⟨_, PSs.nox (pss_cons (ps_if (pt_val (pe_callB call_isiT (by rfl) (T.free 64 rfl) (by decide +kernel) (pa_cons (pv 1) (pa_cons (pe_tup (pa_cons (pe_bltn (v := .ty "tuple") (by rfl) (T.free 69 rfl) (by decide +kernel) rfl) (pa_cons (pe_bltn (v := .ty "list") (by rfl) (T.free 66 rfl) (by decide +kernel) rfl) pa_nil))) pa_nil))))
 (pss_cons (ps_if (PW.pt (pw_or (pt_cmpR op_ne (pe_callB call_isi (by rfl) (T.free 64 rfl) (by decide +kernel) (pa_cons (pv 0) (pa_cons (pe_bltn (v := .ty "tuple") (by rfl) (T.free 69 rfl) (by decide +kernel) rfl) pa_nil))) (pe_callB call_isi (by rfl) (T.free 64 rfl) (by decide +kernel) (pa_cons (pv 1) (pa_cons (pe_bltn (v := .ty "tuple") (by rfl) (T.free 69 rfl) (by decide +kernel) rfl) pa_nil))) (nomark _)) (pw_or1 (pt_not (pt_val (pe_callB call_isiT (by rfl) (T.free 64 rfl) (by decide +kernel) (pa_cons (pv 0) (pa_cons (pe_tup (pa_cons (pe_bltn (v := .ty "tuple") (by rfl) (T.free 69 rfl) (by decide +kernel) rfl) (pa_cons (pe_bltn (v := .ty "list") (by rfl) (T.free 66 rfl) (by decide +kernel) rfl) pa_nil))) pa_nil))))))))
 (pss_one (ps_ret pe_bl))
 pss_nil)
 (pss_one (ps_ret (pe_and (pe_cmpR op_eq (pe_callB call_len (by rfl) (T.free 65 rfl) PySem.boot_len (pa_cons (pv 0) pa_nil)) (pe_callB call_len (by rfl) (T.free 65 rfl) PySem.boot_len (pa_cons (pv 1) pa_nil)) (nomark _)) (pe_one (pe_callB (cr_all rfl) (by rfl) (T.free 59 rfl) (by decide +kernel) (pa_cons (pe_lc (own := [("one", 2), ("two", 3)]) (g := gTup K 2 (gCons (gName 2) (gCons (gName 3) gNil))) (tt := tYes) (te := tCall (spIs n) [] (fun _ _ _ => False) (tCons (tVar 2) (tCons (tVar 3) tNil))) (by rfl) scIs.nd (RZ.pi_zipA (by rfl) (T.free 70 rfl) (pa_cons (pv 0) (pa_cons (pv 1) pa_nil)))
 (blkOk_by (own := [("one", 2), ("two", 3)]) (N := ["told", "due", "one", "two"]) (sc := defScope s__law_is) (by decide +kernel)) (fun _ _ _ _ _ => pg_tup (by rfl) (pgs_cons (pg_name (i := 2) scIs.nd rfl (Or.inl rfl)) (pgs_cons (pg_name (i := 3) scIs.nd rfl (Or.inl rfl)) pgs_nil))) (fun _ _ _ _ _ => pts_nil) (fun _ _ _ _ _ => (pe_has Hr (hr) pass0 (pa_cons (pv 2) (pa_cons (pv 3) pa_nil))))) pa_nil)))))))
 pss_nil)
 (pss_one (ps_ret (pe_and (pe_cmpR op_eq (pe_callB call_isi (by rfl) (T.free 64 rfl) (by decide +kernel) (pa_cons (pv 0) (pa_cons (pe_bltn (v := .ty "bool") (by rfl) (T.free 60 rfl) (by decide +kernel) rfl) pa_nil))) (pe_callB call_isi (by rfl) (T.free 64 rfl) (by decide +kernel) (pa_cons (pv 1) (pa_cons (pe_bltn (v := .ty "bool") (by rfl) (T.free 60 rfl) (by decide +kernel) rfl) pa_nil))) (nomark _)) (pe_one (pe_cmpR op_eq (pv 0) (pv 1) (nomark _))))))), ?_⟩
      obtain ⟨v, u, d, rfl, hv, hu, fl, hQ⟩ := h
      refine isiT_go (kit_tl d) (fun Q q => ⟨u, rfl, q⟩) hu fun p np => ⟨_, rfl, ?_⟩
      have s1 := same_new (o := HO.tup [.ty "tuple", .ty "list"]) np
      have hv1 := Dq.same s1 _ _ hv
      have hu1 := Dq.same s1 _ _ hu
      generalize upd H p (HO.tup [.ty "tuple", .ty "list"]) = H1 at s1 hv1 hu1
      cases d with
      | int i =>
        obtain rfl := Dq.int_inv hv1
        obtain rfl := Dq.int_inv hu1
        refine iteF ?_
        refine ⟨_, rfl, _, .ty "bool", _, _, _, rfl, .ty "bool", dq_ty hv1, kit_ty (kit_bool _), _, rfl, _, .ty "bool", _, _, _, rfl, .ty "bool", dq_ty hu1, kit_ty (kit_bool _), rfl, true, rfl, iteT ?_⟩
        refine ⟨_, rfl, _, rfl, rfl, ?_⟩
        have z : decide (V.int i = V.int i) = true := decide_eq_true rfl
        rw [z]
        exact hQ _ s1
      | str i =>
        cases hv1
        cases hu1
        have hn : ∀ H, Dq H (V.str i) (.str i) := fun H => .str i
        refine iteF ?_
        refine ⟨_, rfl, _, .ty "bool", _, _, _, rfl, .ty "bool", dq_ty (hn _), kit_ty (kit_bool _), _, rfl, _, .ty "bool", _, _, _, rfl, .ty "bool", dq_ty (hn _), kit_ty (kit_bool _), rfl, true, rfl, iteT ?_⟩
        refine ⟨_, rfl, _, rfl, rfl, ?_⟩
        have z : decide (V.str i = V.str i) = true := decide_eq_true rfl
        rw [z]
        exact hQ _ s1
      | bool i =>
        cases hv1
        cases hu1
        have hn : ∀ H, Dq H (V.bl i) (.bool i) := fun H => .bl i
        refine iteF ?_
        refine ⟨_, rfl, _, .ty "bool", _, _, _, rfl, .ty "bool", dq_ty (hn _), kit_ty (kit_bool _), _, rfl, _, .ty "bool", _, _, _, rfl, .ty "bool", dq_ty (hn _), kit_ty (kit_bool _), rfl, true, rfl, iteT ?_⟩
        refine ⟨_, rfl, _, rfl, rfl, ?_⟩
        have z : decide (V.bl i = V.bl i) = true := decide_eq_true rfl
        rw [z]
        exact hQ _ s1
      | none =>
        cases hv1
        cases hu1
        have hn : ∀ H, Dq H V.non .none := fun H => .non
        refine iteF ?_
        refine ⟨_, rfl, _, .ty "bool", _, _, _, rfl, .ty "bool", dq_ty (hn _), kit_ty (kit_bool _), _, rfl, _, .ty "bool", _, _, _, rfl, .ty "bool", dq_ty (hn _), kit_ty (kit_bool _), rfl, true, rfl, iteT ?_⟩
        refine ⟨_, rfl, _, rfl, rfl, ?_⟩
        have z : decide (V.non = V.non) = true := decide_eq_true rfl
        rw [z]
        exact hQ _ s1
      | tuple ds =>
        refine iteT ?_
        refine isi_go (kit_tup _) (fun Q q => ⟨_, rfl, q⟩) hv1 (isi_go (kit_tup _) (fun Q q => ⟨_, rfl, q⟩) hu1 ⟨rfl, false, rfl, iteF ?_⟩)
        refine isiT_go (kit_tl _) (fun Q q => ⟨_, rfl, q⟩) hv1 fun p2 np2 => ⟨true, rfl, iteF ?_⟩
        have s2 := same_new (o := HO.tup [.ty "tuple", .ty "list"]) np2
        have hv2 := Dq.same s2 _ _ hv1
        have hu2 := Dq.same s2 _ _ hu1
        have s12 := s1.trans s2
        generalize upd H1 p2 (HO.tup [.ty "tuple", .ty "list"]) = H2 at s2 hv2 hu2 s12
        obtain ⟨a, vs, rfl, ha, ra⟩ := Dq.tup_inv hv2
        obtain ⟨b, us, rfl, hb, rb⟩ := Dq.tup_inv hu2
        have la := dqAll_len ra
        have lb := dqAll_len rb
        cases n with
        | zero => cases fl
        | succ n =>
        have fl' : ds.length ≤ 900 ∧ ∀ x ∈ ds, flatD n x = true := by simpa [flatD] using fl
        refine ⟨_, rfl, _, _, rfl, .inr ⟨vs, st_of ha, rfl⟩, _, rfl, _, _, rfl, .inr ⟨us, st_of hb, rfl⟩, rfl, true, by rw [la, lb]; simp, iteT ?_⟩
        refine ⟨_, rfl, _, rfl, a, b, vs, us, rfl, .inr ⟨st_of ha, st_of hb, fun D nD => ?_⟩⟩
        have nm : ds.length = min vs.length us.length := by omega
        refine lc_gen (σ := [some (.ref a), some (.ref b), none, none]) (vs := [2, 3]) (walk_zipTT (K := K) (a := a) (b := b) (xs := vs) (ys := us) nm) nD (fun i acc H' => Same H2 H' ∧ acc = (List.replicate i true).map V.bl) ⟨Same.refl _, rfl⟩ (fun i acc H' _ z => ⟨st_of (same_delH _ _ (z.1 _ _ ha)), st_of (same_delH _ _ (z.1 _ _ hb))⟩) ?_ ?_
        · rintro i acc x H3 H4' hi l e ⟨sm, rfl⟩ ⟨t, x1, y1, rfl, nt, rfl, e1, e2⟩
          have di : ds[i]? = some ds[i] := List.getElem?_eq_getElem hi
          have st := same_new (o := HO.tup [x1, y1]) nt
          have e' := st _ _ e
          have sm4 : Same H2 (delH (upd H3 t (HO.tup [x1, y1])) D) := fun b o ob => same_del st _ _ (sm _ _ ob)
          have up4 : Same H2 (upd H3 t (HO.tup [x1, y1])) := sm4.trans same_delH
          have et : upd H3 t (HO.tup [x1, y1]) t = some (.tup [x1, y1]) := upd_same
          generalize upd H3 t (HO.tup [x1, y1]) = H4 at e' sm4 up4 et
          refine ⟨t, _, rfl, st_of et, rfl, _, _, rfl, _, _, rfl, rfl, rfl, ?_⟩
          simp only [tYes, if_true]
          refine ⟨_, rfl, _, rfl, _, _, ds[i], rfl, Dq.same up4 _ _ (dqAt ra e1 di), Dq.same up4 _ _ (dqAt rb e2 di), fl'.2 _ (List.getElem_mem hi), fun H5 s5 => ?_⟩
          refine lc_put l (by omega) (s5 _ _ e') ⟨sm4.trans (same_del s5), ?_⟩
          rw [List.replicate_succ', List.map_append]
          rfl
        · rintro acc H3 l e ⟨sm, rfl⟩
          refine ⟨D, List.replicate ds.length true, rfl, sq_of e, ?_⟩
          have z : (List.replicate ds.length true).all id = true := by simp
          rw [z]
          exact hQ H3 (s12.trans (sm.trans same_delH))
      | list ds =>
        refine iteT ?_
        refine isi_go (kit_tup _) (fun Q q => ⟨_, rfl, q⟩) hv1 (isi_go (kit_tup _) (fun Q q => ⟨_, rfl, q⟩) hu1 ⟨rfl, false, rfl, iteF ?_⟩)
        refine isiT_go (kit_tl _) (fun Q q => ⟨_, rfl, q⟩) hv1 fun p2 np2 => ⟨true, rfl, iteF ?_⟩
        have s2 := same_new (o := HO.tup [.ty "tuple", .ty "list"]) np2
        have hv2 := Dq.same s2 _ _ hv1
        have hu2 := Dq.same s2 _ _ hu1
        have s12 := s1.trans s2
        generalize upd H1 p2 (HO.tup [.ty "tuple", .ty "list"]) = H2 at s2 hv2 hu2 s12
        obtain ⟨a, vs, rfl, ha, ra⟩ := Dq.lst_inv hv2
        obtain ⟨b, us, rfl, hb, rb⟩ := Dq.lst_inv hu2
        have la := dqAll_len ra
        have lb := dqAll_len rb
        cases n with
        | zero => cases fl
        | succ n =>
        have fl' : ds.length ≤ 900 ∧ ∀ x ∈ ds, flatD n x = true := by simpa [flatD] using fl
        refine ⟨_, rfl, _, _, rfl, .inl ⟨vs, sq_of ha, rfl⟩, _, rfl, _, _, rfl, .inl ⟨us, sq_of hb, rfl⟩, rfl, true, by rw [la, lb]; simp, iteT ?_⟩
        refine ⟨_, rfl, _, rfl, a, b, vs, us, rfl, .inl ⟨sq_of ha, sq_of hb, fun D nD => ?_⟩⟩
        have nm : ds.length = min vs.length us.length := by omega
        refine lc_gen (σ := [some (.ref a), some (.ref b), none, none]) (vs := [2, 3]) (walk_zipLL (K := K) (a := a) (b := b) (xs := vs) (ys := us) nm) nD (fun i acc H' => Same H2 H' ∧ acc = (List.replicate i true).map V.bl) ⟨Same.refl _, rfl⟩ (fun i acc H' _ z => ⟨sq_of (same_delH _ _ (z.1 _ _ ha)), sq_of (same_delH _ _ (z.1 _ _ hb))⟩) ?_ ?_
        · rintro i acc x H3 H4' hi l e ⟨sm, rfl⟩ ⟨t, x1, y1, rfl, nt, rfl, e1, e2⟩
          have di : ds[i]? = some ds[i] := List.getElem?_eq_getElem hi
          have st := same_new (o := HO.tup [x1, y1]) nt
          have e' := st _ _ e
          have sm4 : Same H2 (delH (upd H3 t (HO.tup [x1, y1])) D) := fun b o ob => same_del st _ _ (sm _ _ ob)
          have up4 : Same H2 (upd H3 t (HO.tup [x1, y1])) := sm4.trans same_delH
          have et : upd H3 t (HO.tup [x1, y1]) t = some (.tup [x1, y1]) := upd_same
          generalize upd H3 t (HO.tup [x1, y1]) = H4 at e' sm4 up4 et
          refine ⟨t, _, rfl, st_of et, rfl, _, _, rfl, _, _, rfl, rfl, rfl, ?_⟩
          simp only [tYes, if_true]
          refine ⟨_, rfl, _, rfl, _, _, ds[i], rfl, Dq.same up4 _ _ (dqAt ra e1 di), Dq.same up4 _ _ (dqAt rb e2 di), fl'.2 _ (List.getElem_mem hi), fun H5 s5 => ?_⟩
          refine lc_put l (by omega) (s5 _ _ e') ⟨sm4.trans (same_del s5), ?_⟩
          rw [List.replicate_succ', List.map_append]
          rfl
        · rintro acc H3 l e ⟨sm, rfl⟩
          refine ⟨D, List.replicate ds.length true, rfl, sq_of e, ?_⟩
          have z : (List.replicate ds.length true).all id = true := by simp
          rw [z]
          exact hQ H3 (s12.trans (sm.trans same_delH))
      | _ => cases n <;> cases fl
end
end K03

set_option maxHeartbeats 4000000
namespace V4
open PySem PySem.Spec PyProof.Rows L2
/-- what is not come to -/
theorem ps_no {X : Cx} {st : Stmt} : PS X st (fun _ _ _ => False) := ⟨fun _ _ _ _ _ _ h => h.elim⟩
end V4
namespace K03
open PySem PySem.Spec PyProof.Rows L2 V1 V2 V3 V6
open Evl (pss_cut tCut sq_of st_of)
mutual
/-- all texts within are short -/
def shortA : PyData → Bool
  | .str x => decide (x.length ≤ 10000)
  | .tuple ds => shortAll ds
  | .list ds => shortAll ds
  | _ => true
def shortAll : List PyData → Bool
  | [] => true
  | d :: ds => shortA d && shortAll ds
end
theorem shortAll_of : ∀ {ds : List PyData}, shortAll ds = true → ∀ d ∈ ds, shortA d = true
  | [], _, d, h => absurd h List.not_mem_nil
  | e :: ds, k, d, h => by
    simp only [shortAll, Bool.and_eq_true] at k
    rcases List.mem_cons.mp h with rfl | h
    · exact k.1
    · exact shortAll_of k.2 d h
theorem all_short : ∀ {ds : List PyData}, (∀ d ∈ ds, shortA d = true) → shortAll ds = true
  | [], _ => rfl
  | d :: ds, h => by
    simp only [shortAll, Bool.and_eq_true]
    exact ⟨h d List.mem_cons_self, all_short fun x hx => h x (List.mem_cons_of_mem _ hx)⟩
theorem shortA_D {d : PyData} (h : shortA d = true) : shortD d := by
  cases d with
  | str x => exact of_decide_eq_true (p := x.length ≤ 10000) (by simpa [shortA] using h)
  | _ => trivial
theorem at0 {v : V} {us : List V} : atI (v :: us) 0 = some v := atI_nat (j := 0) rfl
theorem at1 {v u : V} {us : List V} : atI (v :: u :: us) 1 = some u := atI_nat (j := 1) rfl
theorem at2 {v u x : V} {us : List V} : atI (v :: u :: x :: us) 2 = some x := atI_nat (j := 2) rfl
theorem at3 {v u x y : V} {us : List V} : atI (v :: u :: x :: y :: us) 3 = some y := atI_nat (j := 3) rfl
def lettersD : PyData → Bool
  | .str x => lettersX x
  | _ => false
/-- at v: an item of the stack -/
def ItAt [CurK] (G H : Hp) (v : V) (x : V6.It) : Prop := ∃ t u, v = .ref t ∧ H t = some (.tup [.str x.1, u, .int ((x.2.2.1 : Nat) : Int), .int ((x.2.2.2 : Nat) : Int)]) ∧ Dx G u x.2.1
structure ItL [CurK] (G H : Hp) (vs : List V) (xs : List V6.It) : Prop where
  len : vs.length = xs.length
  at_ : ∀ (i : Nat) (v : V) (x : V6.It), vs[i]? = some v → xs[i]? = some x → ItAt G H v x
section
variable [CurK]
theorem ItAt.same {G H H' : Hp} {v : V} {x : V6.It} (s : Same H H') (h : ItAt G H v x) : ItAt G H' v x := by
  obtain ⟨t, u, e, e2, d⟩ := h
  exact ⟨t, u, e, s _ _ e2, d⟩
theorem ItL.same {G H H' : Hp} {vs : List V} {xs : List V6.It} (s : Same H H') (h : ItL G H vs xs) : ItL G H' vs xs := ⟨h.len, fun i v x a b => (h.at_ i v x a b).same s⟩
theorem ItL.app {G H : Hp} {vs us : List V} {xs ys : List V6.It} (h : ItL G H vs xs) (k : ItL G H us ys) : ItL G H (vs ++ us) (xs ++ ys) := by
  refine ⟨by rw [List.length_append, List.length_append, h.len, k.len], fun i v x a b => ?_⟩
  by_cases e : i < vs.length
  · rw [List.getElem?_append_left e] at a
    rw [List.getElem?_append_left (by rw [← h.len]; exact e)] at b
    exact h.at_ i v x a b
  · rw [List.getElem?_append_right (by omega)] at a
    rw [List.getElem?_append_right (by rw [← h.len]; omega)] at b
    exact k.at_ _ v x a (by rw [h.len]; exact b)
theorem ItL.one {G H : Hp} {v : V} {x : V6.It} (h : ItAt G H v x) : ItL G H [v] [x] := ⟨rfl, fun i u y a b => by
  cases i with
  | zero => cases a; cases b; exact h
  | succ i => cases a⟩
theorem ItL.last {G H : Hp} {vs : List V} {xs : List V6.It} (h : ItL G H vs xs) (ne : vs ≠ []) : ∃ us v ys x, vs = us ++ [v] ∧ xs = ys ++ [x] ∧ ItL G H us ys ∧ ItAt G H v x := by
  have nx : xs ≠ [] := fun z => ne (by
    have := h.len
    rw [z] at this
    exact List.eq_nil_of_length_eq_zero this)
  have e1 := (List.dropLast_concat_getLast ne).symm
  have e2 := (List.dropLast_concat_getLast nx).symm
  have lv : vs.dropLast.length = xs.dropLast.length := by rw [List.length_dropLast, List.length_dropLast, h.len]
  refine ⟨_, _, _, _, e1, e2, ⟨lv, fun i v x a b => ?_⟩, ?_⟩
  · refine h.at_ i v x ?_ ?_
    · rw [e1, List.getElem?_append_left (List.getElem?_eq_some_iff.mp a).1]
      exact a
    · rw [e2, List.getElem?_append_left (List.getElem?_eq_some_iff.mp b).1]
      exact b
  · refine h.at_ vs.dropLast.length _ _ ?_ ?_
    · rw [List.length_dropLast, ← List.getLast?_eq_getElem?, List.getLast?_eq_some_getLast ne]
    · rw [lv, List.length_dropLast, ← List.getLast?_eq_getElem?, List.getLast?_eq_some_getLast nx]
end
def teInner (K : PySem.W.Frag) : TE := tTup (tCons (tOp (rIxT K) (tVar 5) (tVar 7)) (tCons (tOp (rIxT K) (tVar 1) (tOp (rI0 fun i j => .int (i + j)) (tVar 7) (tC (.int 1)))) (tCons (tOp (rI0 fun i j => .int (i + j)) (tVar 2) (tC (.int 1))) (tCons (tVar 6) tNil))))
def spHasL [CurK] : Sp := fun vs H Q _ => ∃ v d, vs = [v] ∧ Dx H v d ∧ shortD d ∧ Q (.bl (lettersD d)) H
def spName [CurK] : Sp := fun vs H Q _ => ∃ v d, vs = [v] ∧ Dx H v d ∧ shortD d ∧ Q (.bl (nameD d)) H
def spForm [CurK] : Sp := fun vs H Q _ => ∃ v d s, vs = [v, .str s] ∧ Dx H v d ∧ Q (.bl (formD d s)) H
def spRight [CurK] : Sp := fun vs H Q _ => ∃ v d s, ∃ a e : Nat, vs = [.str s, v, .int ((a : Nat) : Int), .int ((e : Nat) : Int)] ∧ Dx H v d ∧ shortA d = true ∧ Q (.bl (rightOf s d a e)) H
def spInner [CurK] : Sp := fun vs H Q _ => ∃ G v d s, ∃ a e : Nat, vs = [.str s, v, .int ((a : Nat) : Int), .int ((e : Nat) : Int)] ∧ Same G H ∧ Dx G v d ∧ rightOf s d a e = true ∧ (innerOf s d a e).length ≤ 900 ∧ ∀ H' p us, Same H H' → H p = none → H' p = some (.lst us) → ItL G (delH H' p) us (innerOf s d a e) → Q (.ref p) H'
theorem scHasL : FnScope ["thing"] ["thing"] (defScope s_has_letters) := ⟨rfl, rfl, rfl, by decide +kernel, rfl, by decide +kernel, by decide +kernel⟩
theorem scName : FnScope ["thing"] ["thing"] (defScope s_is_name) := ⟨rfl, rfl, rfl, by decide +kernel, rfl, by decide +kernel, by decide +kernel⟩
theorem scForm : FnScope ["thing", "sort", "told", "parts"] ["thing", "sort"] (defScope s_has_form) := ⟨rfl, rfl, rfl, by decide +kernel, rfl, by decide +kernel, by decide +kernel⟩
theorem scRight : FnScope ["sort", "thing", "around", "eaches"] ["sort", "thing", "around", "eaches"] (defScope s_is_right) := ⟨rfl, rfl, rfl, by decide +kernel, rfl, by decide +kernel, by decide +kernel⟩
theorem scInner : FnScope ["sort", "thing", "around", "eaches", "statement", "sorts", "within", "at"] ["sort", "thing", "around", "eaches"] (defScope s_inner_ones) := ⟨rfl, rfl, rfl, by decide +kernel, rfl, by decide +kernel, by decide +kernel⟩
theorem formsL_is : formsL = V6.formsL := by decide +kernel
section
variable [CurK] {P : Program} {w : World} {mg : Str → Option Value} {base : Heap}
theorem ok_hasl (T : Tx K w mg) : Has P w K mg base CX0 1 "has_letters" ["thing"] spHasL := by
  obtain ⟨fd, F⟩ := T.c.def_ 12 (d := d_has_letters) rfl
  obtain ⟨t8, g8⟩ := (T.int 27 rfl)
  refine ⟨fd, F.ok scHasL (fun vs H Q E h => ?_) (fun cdv A outer s H vs Q E hr h => ?_), FunD.bindsN F fun _ _ _ _ _ _ us hl => match us, hl with | [_], _ => rfl, F.kp, (T.glo 30 rfl)⟩
  · obtain ⟨v, d, rfl, _⟩ := h
    rfl
  · refine ⟨_, PSs.nox (pss_cons (ps_if (PW.pt (pw_or (pt_not (pt_val (pe_callB call_isi (by rfl) (T.free 64 rfl) (by decide +kernel) (pa_cons (pv 0) (pa_cons (pe_bltn (v := .ty "str") (by rfl) (T.free 68 rfl) (by decide +kernel) rfl) pa_nil))))) (pw_or1 (pt_not (pt_chain op_le op_le pe_int (pe_callB call_len (by rfl) (T.free 65 rfl) PySem.boot_len (pa_cons (pv 0) pa_nil)) (pe_glob (v := .int 8) (by rfl) g8 ⟨_, rfl⟩))))))
 (pss_one (ps_ret pe_bl))
 pss_nil)
 (pss_one (ps_ret (pe_and (pe_m0 PySem.F.slot_str_isascii PySem.F.type_str_isascii mt_isascii (pv 0)) (pe_and (pe_m0 PySem.F.slot_str_isalpha PySem.F.type_str_isalpha mt_isalpha (pv 0)) (pe_one (pe_m0 PySem.F.slot_str_islower PySem.F.type_str_islower mt_islower (pv 0)))))))), ?_⟩
    obtain ⟨v, d, rfl, hd, sh, hQ⟩ := h
    obtain ⟨ty, tyx, kk⟩ := kx_of (kx_str d) hd
    refine ⟨_, rfl, v, .ty "str", _, _, _, rfl, .ty "str", tyx, kk, _, rfl, ?_⟩
    cases d with
    | str x =>
      obtain rfl := Dx.str_inv hd
      have hs : x.length ≤ 10000 := sh
      have lx : lettersD (.str x) = ((decide (1 ≤ x.length) && decide (x.length ≤ 8)) && (Txt.isascii x && (Txt.isalpha x && Txt.islower x))) := rfl
      rw [lx] at hQ
      have len : LenV K (.str x) H x.length := ⟨Nat.le_trans hs (by decide), rfl⟩
      refine iteF ⟨_, rfl, _, _, rfl, len, _, _, rfl, rfl, _, rfl, ite2 (fun e1 => ?_) (fun e1 => ?_)⟩
      · have l1 : decide (1 ≤ x.length) = true := decide_eq_true (by have := of_decide_eq_true e1; omega)
        rw [l1, Bool.true_and] at hQ
        refine ⟨_, _, rfl, rfl, _, rfl, ?_⟩
        by_cases e2 : x.length ≤ 8
        · rw [decide_eq_true e2, Bool.true_and] at hQ
          rw [show decide (((x.length : Nat) : Int) ≤ 8) = true from decide_eq_true (by omega)]
          refine iteF ⟨_, rfl, ⟨_, rfl⟩, x, rfl, rfl, trivial, _, rfl, ite2 (fun q => ?_) (fun q => ?_)⟩
          · rw [q, Bool.true_and] at hQ
            refine ⟨_, rfl, ⟨_, rfl⟩, x, rfl, rfl, trivial, _, rfl, ite2 (fun q2 => ?_) (fun q2 => ?_)⟩
            · rw [q2, Bool.true_and] at hQ
              exact ⟨_, rfl, ⟨_, rfl⟩, x, rfl, rfl, trivial, hQ⟩
            · rw [Bool.eq_false_iff.mpr q2, Bool.false_and] at hQ
              exact hQ
          · rw [Bool.eq_false_iff.mpr q, Bool.false_and] at hQ
            exact hQ
        · rw [decide_eq_false e2, Bool.false_and] at hQ
          rw [show decide (((x.length : Nat) : Int) ≤ 8) = false from decide_eq_false (by omega)]
          exact iteT hQ
      · have l1 : decide (1 ≤ x.length) = false := decide_eq_false fun z => e1 (decide_eq_true (by omega))
        rw [l1, Bool.false_and, Bool.false_and] at hQ
        exact ⟨_, rfl, iteT hQ⟩
    | _ => exact iteT (iteT hQ)
theorem ok_name (T : Tx K w mg) : Has P w K mg base CX0 2 "is_name" ["thing"] spName := by
  obtain ⟨fd, F⟩ := T.c.def_ 13 (d := d_is_name) rfl
  have Hl := ok_hasl (P := P) (w := w) (base := base) T
  refine ⟨fd, F.ok scName (fun vs H Q E h => ?_) (fun cdv A outer s H vs Q E hr h => ?_), FunD.bindsN F fun _ _ _ _ _ _ us hl => match us, hl with | [_], _ => rfl, F.kp, (T.glo 31 rfl)⟩
  · obtain ⟨v, d, rfl, _⟩ := h
    rfl
  · refine ⟨_, PSs.nox (pss_one (ps_ret (pe_and (pe_has Hl (hr.mono (by decide)) pass0 (pa_cons (pv 0) pa_nil)) (pe_one (pe_cmpR op_notIn_seq (pv 0) (pe_glob (v := .ref (He.ga K "BARE")) (by rfl) (T.glo 29 rfl) rfl) (by rfl)))))), ?_⟩
    obtain ⟨v, d, rfl, hd, sh, hQ⟩ := h
    refine ⟨_, rfl, v, d, rfl, hd, sh, _, rfl, ite2 (fun e => ?_) (fun e => ?_)⟩
    · cases d with
      | str x =>
        obtain rfl := Dx.str_inv hd
        refine ⟨_, rfl, _, _, rfl, .inr (T.sBARE H), rfl, rfl, ?_⟩
        have q : nameD (.str x) = !inV (V.str x) ((["many", "last"] : List Str).map V.str) := by
          have e' : lettersX x = true := e
          show (lettersX x && !decide (x ∈ [("many" : Str), "last"])) = _
          rw [e', Bool.true_and]
          congr 1
          by_cases m : x ∈ [("many" : Str), "last"]
          · rw [decide_eq_true m]
            simp only [List.mem_cons, List.not_mem_nil, or_false] at m
            rcases m with rfl | rfl <;> decide +kernel
          · rw [decide_eq_false m]
            simp only [List.mem_cons, List.not_mem_nil, or_false, not_or] at m
            simp [inV, eqV, Ne.symm m.1, Ne.symm m.2]
        rw [q] at hQ
        exact hQ
      | _ => cases e
    · have q : nameD d = false := by
        cases d with
        | str x =>
          have e' : lettersX x = false := by simpa [lettersD] using e
          show (lettersX x && _) = false
          rw [e', Bool.false_and]
        | _ => rfl
      rw [q] at hQ
      exact hQ
theorem ok_form (T : Tx K w mg) : Has P w K mg base CX0 1 "has_form" ["thing", "sort"] spForm := by
  obtain ⟨fd, F⟩ := T.c.def_ 14 (d := d_has_form) rfl
  refine ⟨fd, F.ok scForm (fun vs H Q E h => ?_) (fun cdv A outer s H vs Q E hr h => ?_), FunD.bindsN F fun _ _ _ _ _ _ us hl => match us, hl with | [_, _], _ => rfl, F.kp, (T.glo 32 rfl)⟩
  · obtain ⟨v, d, s, rfl, _⟩ := h
    rfl
  · refine ⟨_, PSs.nox (pss_cons (ps_if (PW.pt (pw_or (pt_not (pt_val (pe_callB call_isi (by rfl) (T.free 64 rfl) (by decide +kernel) (pa_cons (pv 0) (pa_cons (pe_bltn (v := .ty "tuple") (by rfl) (T.free 69 rfl) (by decide +kernel) rfl) pa_nil))))) (pw_or (pt_cmpR op_eq (pe_callB call_len (by rfl) (T.free 65 rfl) PySem.boot_len (pa_cons (pv 0) pa_nil)) pe_int (nomark _)) (pw_or1 (pt_not (pt_val (pe_callB call_isi (by rfl) (T.free 64 rfl) (by decide +kernel) (pa_cons (pe_ix ix_tup (pv 0) pe_int (fun _ _ => rfl)) (pa_cons (pe_bltn (v := .ty "str") (by rfl) (T.free 68 rfl) (by decide +kernel) rfl) pa_nil)))))))))
 (pss_one (ps_ret pe_bl))
 pss_nil)
 (pss_cons (ps_if (pt_cmpR V5.op_kNotIn (pe_ix ix_tup (pv 0) pe_int (fun _ _ => rfl)) (pe_glob (v := .ref (He.ga K "FORMS")) (by rfl) (T.glo 28 rfl) rfl) (by rfl))
 (pss_one (ps_ret pe_bl))
 pss_nil)
 (pss_cons (ps_asg (V5.pe_kget (pe_glob (v := .ref (He.ga K "FORMS")) (by rfl) (T.glo 28 rfl) rfl) (pe_ix ix_tup (pv 0) pe_int (fun _ _ => rfl)) (fun _ _ => rfl)) (pg_tup (by rfl) (pgs_cons (pg_name (i := 2) scForm.nd rfl (Or.inl rfl)) (pgs_cons (pg_name (i := 3) scForm.nd rfl (Or.inl rfl)) pgs_nil))))
 (pss_one (ps_ret (pe_and (pe_cmpR op_eq (pv 2) (pv 1) (nomark _)) (pe_one (pe_cmpR op_eq (pe_callB call_len (by rfl) (T.free 65 rfl) PySem.boot_len (pa_cons (pv 0) pa_nil)) (pe_op op_add pe_int (pe_callB call_len (by rfl) (T.free 65 rfl) PySem.boot_len (pa_cons (pv 3) pa_nil))) (nomark _))))))))), ?_⟩
    obtain ⟨v, d, s, rfl, hd, hQ⟩ := h
    obtain ⟨ty, tyx, kk⟩ := kx_of (kx_tup d) hd
    refine ⟨_, rfl, v, .ty "tuple", _, _, _, rfl, .ty "tuple", tyx, kk, _, rfl, ?_⟩
    cases hT : isTup d with
    | false =>
      have z : formD d s = false := by cases d <;> first | rfl | cases hT
      rw [z] at hQ
      exact iteT (iteT hQ)
    | true =>
    obtain ⟨ds, rfl⟩ := isTup_tup hT
    obtain ⟨a, us, rfl, ha, hr'⟩ := Dx.tup_inv hd
    have lu := dxAll_len hr'
    refine iteF ⟨_, rfl, _, _, rfl, .inr ⟨us, st_of ha, rfl⟩, rfl, _, rfl, ite2 (fun e => ?_) (fun e => ?_)⟩
    · have z : ds = [] := List.eq_nil_of_length_eq_zero (by
        have : ((us.length : Nat) : Int) = 0 := by simpa using e
        omega)
      subst z
      exact iteT hQ
    cases hr' with
    | nil => exact (e (by simp)).elim
    | @cons v1 us d1 ds q1 r1 =>
    obtain ⟨ty1, tyx1, kk1⟩ := kx_of (kx_str d1) q1
    refine ⟨_, rfl, a, _, 0, v1, rfl, rfl, st_of ha, at0, _, .ty "str", _, _, _, rfl, .ty "str", tyx1, kk1, _, rfl, ?_⟩
    cases hS : isStr d1 with
    | false =>
      have z : formD (.tuple (d1 :: ds)) s = false := by cases d1 <;> first | rfl | cases hS
      rw [z] at hQ
      exact iteT hQ
    | true =>
    obtain ⟨k, rfl⟩ : ∃ k, d1 = .str k := by cases d1 <;> first | exact ⟨_, rfl⟩ | cases hS
    obtain rfl := Dx.str_inv q1
    obtain ⟨ks, D, look⟩ := T.forms.ex
    have lk := look k
    rw [formsL_is] at lk
    refine iteF ⟨_, rfl, a, _, 0, _, rfl, rfl, st_of ha, at0, _, ks, k, rfl, D, rfl, _, rfl, ?_⟩
    cases hf : V5.lookF V6.formsL k with
    | none =>
      rw [lk.1 hf]
      have z : formD (.tuple (.str k :: ds)) s = false := by
        unfold formD
        simp only [hf]
      rw [z] at hQ
      exact iteT hQ
    | some p =>
      obtain ⟨t, ps⟩ := p
      obtain ⟨u, x, x', gk, ru, h1, h2⟩ := lk.2 t ps hf
      rw [gk]
      have z : formD (.tuple (.str k :: ds)) s = (decide (t = s) && decide (ds.length = ps.length)) := by
        unfold formD
        simp only [hf]
      rw [z] at hQ
      refine iteF ⟨_, rfl, a, _, 0, _, rfl, rfl, st_of ha, at0, _, ks, k, u, _, rfl, D, rfl, gk, ru, ?_⟩
      refine ⟨x, _, rfl, h1 H, rfl, _, _, rfl, _, _, rfl, rfl, ?_⟩
      refine ⟨_, rfl, _, rfl, rfl, _, rfl, ?_⟩
      have dt : decide (V.str t = V.str s) = decide (t = s) := decide_eq_decide.mpr ⟨fun h => V.str.inj h, fun h => congrArg V.str h⟩
      rw [dt]
      cases hc : decide (t = s) with
      | false =>
        rw [hc, Bool.false_and] at hQ
        exact iteF hQ
      | true =>
        rw [hc, Bool.true_and] at hQ
        refine iteT ⟨_, rfl, _, _, rfl, .inr ⟨_, st_of ha, rfl⟩, _, rfl, _, _, rfl, .inr ⟨_, h2 H, rfl⟩, _, _, rfl, rfl, rfl, ?_⟩
        have dl : decide (V.int (((V.str k :: us).length : Nat) : Int) = V.int (1 + (((ps.map V.str).length : Nat) : Int))) = decide (ds.length = ps.length) := by
          rw [List.length_map]
          have lu' : us.length = ds.length := by simpa using lu
          refine decide_eq_decide.mpr ⟨fun h => ?_, fun h => ?_⟩
          · have := V.int.inj h
            rw [List.length_cons] at this
            omega
          · rw [List.length_cons, lu', h]
            congr 1
            omega
        rw [dl]
        exact hQ
theorem ok_right (T : Tx K w mg) : Has P w K mg base CX0 3 "is_right" ["sort", "thing", "around", "eaches"] spRight := by
  obtain ⟨fd, F⟩ := T.c.def_ 15 (d := d_is_right) rfl
  obtain ⟨t20, g20⟩ := (T.int 24 rfl)
  obtain ⟨t2, g2⟩ := (T.int 26 rfl)
  have Hn := ok_name (P := P) (w := w) (base := base) T
  have Hw := ok_word (P := P) (w := w) (base := base) T
  have Hf := ok_form (P := P) (w := w) (base := base) T
  refine ⟨fd, F.ok scRight (fun vs H Q E h => ?_) (fun cdv A outer s H vs Q E hr h => ?_), FunD.bindsN F fun _ _ _ _ _ _ us hl => match us, hl with | [_, _, _, _], _ => rfl, F.kp, (T.glo 33 rfl)⟩
  · obtain ⟨v, d, s, a, e, rfl, _⟩ := h
    rfl
  · refine ⟨_, PSs.nox (pss_cons (ps_if (pt_cmpR op_eq (pv 0) pe_str (nomark _))
 (pss_one (ps_ret (pe_callB call_isi (by rfl) (T.free 64 rfl) (by decide +kernel) (pa_cons (pv 1) (pa_cons (pe_bltn (v := .ty "tuple") (by rfl) (T.free 69 rfl) (by decide +kernel) rfl) pa_nil)))))
 pss_nil)
 (pss_cons (ps_if (pt_cmpR op_eq (pv 0) pe_str (nomark _))
 (pss_one (ps_ret (pe_has Hn (hr.mono (by decide)) pass0 (pa_cons (pv 1) pa_nil))))
 pss_nil)
 (pss_cons (ps_if (pt_cmpR op_eq (pv 0) pe_str (nomark _))
 (pss_one (ps_ret (pe_has Hw (hr.mono (by decide)) pass0 (pa_cons (pv 1) pa_nil))))
 pss_nil)
 (pss_cons (ps_if (PW.pt (pw_or (pt_not (pt_val (pe_has Hf (hr.mono (by decide)) pass0 (pa_cons (pv 1) (pa_cons (pv 0) pa_nil))))) (pw_or1 (pt_cmpR op_ge (pv 2) (pe_glob (v := .int 20) (by rfl) g20 ⟨_, rfl⟩) (nomark _)))))
 (pss_one (ps_ret pe_bl))
 pss_nil)
 (pss_one (ps_ret (pe_or (pe_cmpR op_ne (pe_ix ix_tup (pv 1) pe_int (fun _ _ => rfl)) pe_str (nomark _)) (pe_one (pe_cmpR op_lt (pv 3) (pe_glob (v := .int 2) (by rfl) g2 ⟨_, rfl⟩) (nomark _)))))))))), ?_⟩
    obtain ⟨v, d, s, a, e, rfl, hd, sh, hQ⟩ := h
    have dt : ∀ x : Str, decide (V.str s = V.str x) = decide (s = x) := fun x => decide_eq_decide.mpr ⟨fun h => V.str.inj h, fun h => congrArg V.str h⟩
    refine ⟨_, rfl, rfl, _, rfl, ?_⟩
    rw [dt]
    by_cases e1 : s = "body"
    · rw [decide_eq_true e1]
      unfold rightOf at hQ
      rw [if_pos e1] at hQ
      exact iteT (isx_go (kx_tup d) (fun Q q => ⟨v, rfl, q⟩) hd hQ)
    rw [decide_eq_false e1]
    refine iteF ⟨_, rfl, rfl, _, rfl, ?_⟩
    rw [dt]
    by_cases e2 : s = "name"
    · rw [decide_eq_true e2]
      unfold rightOf at hQ
      rw [if_neg e1, if_pos e2] at hQ
      exact iteT ⟨_, rfl, v, d, rfl, hd, shortA_D sh, hQ⟩
    rw [decide_eq_false e2]
    refine iteF ⟨_, rfl, rfl, _, rfl, ?_⟩
    rw [dt]
    by_cases e3 : s = "word"
    · rw [decide_eq_true e3]
      unfold rightOf at hQ
      rw [if_neg e1, if_neg e2, if_pos e3] at hQ
      exact iteT ⟨_, rfl, v, d, rfl, hd, shortA_D sh, hQ⟩
    rw [decide_eq_false e3]
    unfold rightOf at hQ
    rw [if_neg e1, if_neg e2, if_neg e3] at hQ
    refine iteF ⟨_, rfl, _, rfl, v, d, s, rfl, hd, _, rfl, ?_⟩
    cases hf : formD d s with
    | false =>
      rw [hf, Bool.false_and, Bool.false_and] at hQ
      exact iteT (iteT hQ)
    | true =>
    rw [hf, Bool.true_and] at hQ
    refine iteF ⟨_, rfl, _, _, rfl, rfl, _, rfl, ?_⟩
    by_cases la : a < 20
    · rw [decide_eq_true la, Bool.true_and] at hQ
      rw [show decide ((20 : Int) ≤ ((a : Nat) : Int)) = false from decide_eq_false (by omega)]
      obtain ⟨k, ds, rfl⟩ : ∃ k ds, d = .tuple (.str k :: ds) := by
        unfold formD at hf
        split at hf
        · exact ⟨_, _, rfl⟩
        · cases hf
      obtain ⟨p, us, rfl, ha, hr'⟩ := Dx.tup_inv hd
      cases hr' with | @cons v1 us _ ds q1 r1 =>
      obtain rfl := Dx.str_inv q1
      refine iteF ⟨_, rfl, p, _, 0, _, rfl, rfl, st_of ha, at0, rfl, _, rfl, ?_⟩
      have dk : (!decide (V.str k = V.str "each")) = !decide (kindD (.tuple (.str k :: ds)) = some (Str.ofString "each")) := by
        congr 1
        exact decide_eq_decide.mpr ⟨fun h => congrArg some (V.str.inj h), fun h => congrArg V.str (Option.some.inj h)⟩
      rw [dk]
      cases hc : !decide (kindD (.tuple (.str k :: ds)) = some (Str.ofString "each")) with
      | true =>
        rw [hc, Bool.true_or] at hQ
        exact iteT hQ
      | false =>
        rw [hc, Bool.false_or] at hQ
        refine iteF ⟨_, rfl, _, _, rfl, rfl, ?_⟩
        have de : decide (((e : Nat) : Int) < 2) = decide (e < 2) := decide_eq_decide.mpr ⟨fun h => by omega, fun h => by omega⟩
        have z : Q (.bl (decide (((e : Nat) : Int) < 2))) H := by
          rw [de]
          exact hQ
        exact z
    · rw [decide_eq_false la, Bool.false_and] at hQ
      rw [show decide ((20 : Int) ≤ ((a : Nat) : Int)) = true from decide_eq_true (by omega)]
      exact iteT hQ
end
end K03

set_option maxHeartbeats 4000000
namespace K03
open PySem PySem.Spec PyProof.Rows L2 V1 V2 V3 V6
open Evl (pss_cut tCut sq_of st_of)
theorem lookF_mem {k s : Str} {ps : List Str} (h : V5.lookF V6.formsL k = some (s, ps)) : (k, s, ps) ∈ V6.formsL := by
  unfold V5.lookF at h
  obtain ⟨p, hp, e⟩ := Option.map_eq_some_iff.mp h
  have z := List.find?_some hp
  have m := List.mem_of_find?_eq_some hp
  obtain ⟨k', s', ps'⟩ := p
  cases e
  obtain rfl : k' = k := of_decide_eq_true z
  exact m
theorem forms_small : ∀ p ∈ V6.formsL, p.2.2.length ≤ 3 ∧ p.1.length ≤ 10 := by decide +kernel
theorem formD_inv {d : PyData} {s : Str} (h : formD d s = true) : ∃ k ds ps, d = .tuple (.str k :: ds) ∧ V5.lookF V6.formsL k = some (s, ps) ∧ ds.length = ps.length := by
  unfold formD at h
  split at h
  · rename_i k ds
    cases hf : V5.lookF V6.formsL k with
    | none => simp [hf] at h
    | some p =>
      obtain ⟨t, ps⟩ := p
      simp only [hf, Bool.and_eq_true, decide_eq_true_eq] at h
      exact ⟨k, ds, ps, rfl, by rw [h.1] at hf; exact hf, h.2⟩
  · cases h
theorem rightOf_node {s : Str} {d : PyData} {a e : Nat} (n1 : s ≠ "body") (n2 : s ≠ "name") (n3 : s ≠ "word") (h : rightOf s d a e = true) : ∃ k ds ps, d = .tuple (.str k :: ds) ∧ V5.lookF V6.formsL k = some (s, ps) ∧ ds.length = ps.length ∧
    innerOf s d a e = (ps.zip ds).map fun p => (p.1, p.2, a + 1, if k = "each" then e + 1 else e) := by
  unfold rightOf at h
  rw [if_neg n1, if_neg n2, if_neg n3] at h
  simp only [Bool.and_eq_true] at h
  obtain ⟨k, ds, ps, rfl, h1, h2⟩ := formD_inv h.1.1
  refine ⟨k, ds, ps, rfl, h1, h2, ?_⟩
  unfold innerOf
  rw [if_neg n1, if_neg n2, if_neg n3]
  simp only [h1]
theorem good_short : ∀ {l : List V6.It} {n m : Nat}, Good l n m → ∀ x ∈ l, shortA x.2.1 = true := by
  intro l n m h
  induction h with
  | nil => exact fun x hx => absurd hx List.not_mem_nil
  | @cons s d a e l n m n' m' r i _ ih1 ih2 =>
    intro x hx
    rcases List.mem_cons.mp hx with rfl | hx
    · show shortA d = true
      have wl : ∀ x : Str, wordX x = true → shortA (.str x) = true := fun x h => by
        have := wx_len h
        simp only [shortA, decide_eq_true_eq]
        omega
      by_cases n1 : s = "body"
      · subst n1
        have r' : isTup d = true := r
        obtain ⟨ds, rfl⟩ := isTup_tup r'
        simp only [shortA]
        refine all_short fun y hy => ?_
        exact ih1 ("statement", y, a, e) (List.mem_map.mpr ⟨y, hy, rfl⟩)
      by_cases n2 : s = "name"
      · subst n2
        have r' : nameD d = true := r
        cases d with
        | str x =>
          have z : nameX x = true := r'
          simp only [nameX, lettersX, Bool.and_eq_true, decide_eq_true_eq] at z
          simp only [shortA, decide_eq_true_eq]
          omega
        | _ => cases r'
      by_cases n3 : s = "word"
      · subst n3
        have r' : wordD d = true := r
        cases d with
        | str x => exact wl x r'
        | _ => cases r'
      obtain ⟨k, ds, ps, rfl, h1, h2, h3⟩ := rightOf_node n1 n2 n3 r
      have kl : k.length ≤ 10 := (forms_small _ (lookF_mem h1)).2
      rw [h3] at ih1
      simp only [shortA, shortAll, Bool.and_eq_true, decide_eq_true_eq]
      refine ⟨by omega, all_short fun y hy => ?_⟩
      obtain ⟨j, hj, rfl⟩ := List.getElem_of_mem hy
      have hz : (ps.zip ds)[j]? = some (ps[j]'(by omega), ds[j]) := by
        rw [List.getElem?_zip_eq_some]
        exact ⟨List.getElem?_eq_getElem (by omega), List.getElem?_eq_getElem hj⟩
      exact ih1 _ (List.mem_map.mpr ⟨_, List.mem_of_getElem? hz, rfl⟩)
    · exact ih2 x hx
theorem good_len : ∀ {l : List V6.It} {n m : Nat}, Good l n m → l.length ≤ m := by
  intro l n m h
  induction h with
  | nil => exact Nat.le_refl _
  | cons r i _ ih1 ih2 =>
    rw [List.length_cons]
    omega
theorem good_cnt : ∀ {l : List V6.It} {n m : Nat}, Good l n m → (∀ x ∈ l, x.1 = "statement") → l.length ≤ n := by
  intro l n m h
  induction h with
  | nil => exact fun _ => Nat.le_refl _
  | @cons s d a e l n m n' m' r i _ ih1 ih2 =>
    intro al
    have z := ih2 fun x hx => al x (List.mem_cons_of_mem _ hx)
    have y : s = "statement" := al _ List.mem_cons_self
    rw [List.length_cons, y, show V6.cnt "statement" = 1 by decide]
    omega
theorem inner_len {s : Str} {d : PyData} {a e n m : Nat} (r : rightOf s d a e = true) (h : Good (innerOf s d a e) n m) (ln : n ≤ 500) : (innerOf s d a e).length ≤ 900 := by
  by_cases n1 : s = "body"
  · subst n1
    have r' : isTup d = true := r
    obtain ⟨ds, rfl⟩ := isTup_tup r'
    have z := good_cnt h fun x hx => by
      obtain ⟨y, _, rfl⟩ := List.mem_map.mp (show x ∈ ds.map (fun x => (("statement" : Str), x, a, e)) from hx)
      rfl
    omega
  by_cases n2 : s = "name"
  · subst n2
    show ([] : List V6.It).length ≤ 900
    decide
  by_cases n3 : s = "word"
  · subst n3
    show ([] : List V6.It).length ≤ 900
    decide
  obtain ⟨k, ds, ps, rfl, h1, h2, h3⟩ := rightOf_node n1 n2 n3 r
  have pl : ps.length ≤ 3 := (forms_small _ (lookF_mem h1)).1
  rw [h3, List.length_map, List.length_zip]
  omega
theorem cnt_in (s : Str) : (if false = true then !inV (V.str s) [V.str "statement", V.str "e", V.str "c"] else inV (V.str s) [V.str "statement", V.str "e", V.str "c"]) = decide (V6.cnt s = 1) := by
  rw [if_neg (by decide)]
  unfold V6.cnt
  by_cases e1 : s = "statement"
  · subst e1
    decide +kernel
  · by_cases e2 : s = "e"
    · subst e2
      decide +kernel
    · by_cases e3 : s = "c"
      · subst e3
        decide +kernel
      · rw [if_neg (by simp [e1, e2, e3])]
        simp [inV, eqV, Ne.symm e1, Ne.symm e2, Ne.symm e3]
theorem cnt_01 (s : Str) : V6.cnt s = 0 ∨ V6.cnt s = 1 := by
  unfold V6.cnt
  split
  · exact .inr rfl
  · exact .inl rfl
def spProg [CurK] : Sp := fun vs H Q _ => ∃ v d n m, vs = [v] ∧ Dx H v d ∧ Good [("body", d, 0, 0)] n m ∧ n ≤ 500 ∧ m ≤ 100000 ∧ ∀ H', Same H H' → Q (.bl true) H'
def spPInit [CurK] : Sp := fun vs H Q _ => ∃ p dx v d n m, vs = [.ref p, v] ∧ H p = some (.ins (He.ga K "Program") dx []) ∧ Dx H v d ∧ Good [("body", d, 0, 0)] n m ∧ n ≤ 500 ∧ m ≤ 100000 ∧
  ∀ H', (∀ b o, b ≠ p → H b = some o → H' b = some o) → H' p = some (.ins (He.ga K "Program") dx [("statements", v)]) → Q .non H'
def spVInit [CurK] : Sp := fun vs H Q _ => ∃ p dx v, vs = [.ref p, v] ∧ H p = some (.ins (He.ga K "Voice") dx []) ∧ ∀ H', (∀ b o, b ≠ p → H b = some o → H' b = some o) → H' p = some (.ins (He.ga K "Voice") dx [("telling", v)]) → Q .non H'
theorem scProg : FnScope ["thing", "waiting", "many", "sort", "one", "around", "eaches"] ["thing"] (defScope s_is_program) := ⟨rfl, rfl, rfl, by decide +kernel, rfl, by decide +kernel, by decide +kernel⟩
theorem scPInit : FnScope ["self", "statements"] ["self", "statements"] (defScope s_Program__init__) := ⟨rfl, rfl, rfl, by decide +kernel, rfl, by decide +kernel, by decide +kernel⟩
theorem scVInit : FnScope ["self", "telling"] ["self", "telling"] (defScope s_Voice__init__) := ⟨rfl, rfl, rfl, by decide +kernel, rfl, by decide +kernel, by decide +kernel⟩
section
variable [CurK] {P : Program} {w : World} {mg : Str → Option Value} {base : Heap}
theorem ok_inner (T : Tx K w mg) : Has P w K mg base CX0 1 "inner_ones" ["sort", "thing", "around", "eaches"] spInner := by
  obtain ⟨fd, F⟩ := T.c.def_ 16 (d := d_inner_ones) rfl
  refine ⟨fd, F.ok scInner (fun vs H Q E h => ?_) (fun cdv A outer s H vs Q E hr h => ?_), FunD.bindsN F fun _ _ _ _ _ _ us hl => match us, hl with | [_, _, _, _], _ => rfl, F.kp, (T.glo 34 rfl)⟩
  · obtain ⟨G, v, d, s, a, e, rfl, _⟩ := h
    rfl
  · refine ⟨_, PSs.nox (pss_cons (ps_if (pt_cmpR op_eq (pv 0) pe_str (nomark _))
 (pss_one (ps_ret (pe_lc (own := [("statement", 4)]) (g := gName 4) (tt := tYes) (te := tTup (tCons (tC (.str "statement")) (tCons (tVar 4) (tCons (tVar 2) (tCons (tVar 3) tNil))))) (by rfl) scInner.nd (pi_tup (pv 1))
 (blkOk_by (own := [("statement", 4)]) (N := ["sort", "thing", "around", "eaches", "statement", "sorts", "within", "at"]) (sc := defScope s_inner_ones) (by decide +kernel)) (fun _ _ _ _ _ => pg_name (i := 4) scInner.nd rfl (Or.inl rfl)) (fun _ _ _ _ _ => pts_nil) (fun _ _ _ _ _ => (pe_tup (pa_cons pe_str (pa_cons (pv 4) (pa_cons (pv 2) (pa_cons (pv 3) pa_nil)))))))))
 pss_nil)
 (pss_cons (ps_if (pt_cmpR op_in_seq (pv 0) (pe_tup (pa_cons pe_str (pa_cons pe_str pa_nil))) (by rfl))
 (pss_one (ps_ret (pe_lstS pa_nil)))
 pss_nil)
 (pss_cons (ps_set (i := 5) scInner.nd rfl (Or.inr rfl) (pe_ix ix_tup (V5.pe_kget (pe_glob (v := .ref (He.ga K "FORMS")) (by rfl) (T.glo 28 rfl) rfl) (pe_ix ix_tup (pv 1) pe_int (fun _ _ => rfl)) (fun _ _ => rfl)) pe_int (fun _ _ => rfl)))
 (pss_cut (ps_set (i := 6) scInner.nd rfl (Or.inr rfl) (pe_ifExp (pt_cmpR op_eq (pe_ix ix_tup (pv 1) pe_int (fun _ _ => rfl)) pe_str (nomark _)) (pe_op op_add (pv 3) pe_int) (pv 3)))
 (pss_one (ps_ret (pe_lc (own := [("at", 7)]) (g := gName 7) (tt := tYes) (te := teInner K) (by rfl) scInner.nd (pi_range1 (by rfl) (T.free 67 rfl) (pa_cons (pe_callB call_len (by rfl) (T.free 65 rfl) PySem.boot_len (pa_cons (pv 5) pa_nil)) pa_nil))
 (blkOk_by (own := [("at", 7)]) (N := ["sort", "thing", "around", "eaches", "statement", "sorts", "within", "at"]) (sc := defScope s_inner_ones) (by decide +kernel)) (fun _ _ _ _ _ => pg_name (i := 7) scInner.nd rfl (Or.inl rfl)) (fun _ _ _ _ _ => pts_nil) (fun _ _ _ _ _ => (pe_tup (pa_cons (pe_ix ix_tup (pv 5) (pv 7) (fun _ _ => rfl)) (pa_cons (pe_ix ix_tup (pv 1) (pe_op op_add (pv 7) pe_int) (fun _ _ => rfl)) (pa_cons (pe_op op_add (pv 2) pe_int) (pa_cons (pv 6) pa_nil))))))))))))), ?_⟩
    obtain ⟨G, v, d, s, a, e, rfl, sG, hd, hr1, hln, hQ⟩ := h
    have dt : ∀ x : Str, decide (V.str s = V.str x) = decide (s = x) := fun x => decide_eq_decide.mpr ⟨fun h => V.str.inj h, fun h => congrArg V.str h⟩
    refine ⟨_, rfl, rfl, _, rfl, ?_⟩
    rw [dt]
    by_cases n1 : s = "body"
    · subst n1
      rw [decide_eq_true rfl]
      have r' : isTup d = true := hr1
      obtain ⟨ds, rfl⟩ := isTup_tup r'
      obtain ⟨p, us, rfl, hpG, hus⟩ := Dx.tup_inv hd
      have hp := sG _ _ hpG
      have lu := dxAll_len hus
      have ld : ds.length ≤ 900 := by
        have z : ((ds.map fun x => (("statement" : Str), x, a, e)) : List V6.It).length ≤ 900 := hln
        rw [List.length_map] at z
        exact z
      refine iteT ⟨_, rfl, p, rfl, ⟨_, st_of hp⟩, fun D nD => ?_⟩
      refine lc_gen (vs := [4]) (walk_tup (K := K) (a := p) (xs := us)) nD (fun i acc H' => Same H H' ∧ ItL G H' acc ((ds.take i).map fun x => ("statement", x, a, e))) ⟨Same.refl H, ⟨rfl, fun i v x q _ => by cases q⟩⟩ (fun i acc H' _ z => st_of (same_delH _ _ (z.1 _ _ hp))) ?_ ?_
      · rintro i acc x H6 H7 hi l e6 ⟨sm, it⟩ ⟨rfl, hx⟩
        refine ⟨rfl, ?_⟩
        simp only [tYes, if_true]
        refine ⟨_, rfl, _, rfl, _, rfl, (by show 4 ≤ sizeLine; decide), fun t nt => ?_⟩
        have st := same_new (o := HO.tup [.str "statement", x, .int ((a : Nat) : Int), .int ((e : Nat) : Int)]) nt
        have tD : t ≠ D := fun z => by rw [z, e6] at nt; cases nt
        have di : ds[i]? = some ds[i] := List.getElem?_eq_getElem (by omega)
        refine lc_put l (by omega) (st _ _ e6) ⟨sm.trans (same_del st), ?_⟩
        rw [List.take_succ, di, List.map_append]
        refine (it.same (same_del st)).app (ItL.one ⟨t, x, rfl, by rw [delH_ne tD]; exact upd_same, DxAll.at hus hx di⟩)
      · rintro acc H6 l e6 ⟨sm, it⟩
        rw [lu, List.take_length] at it
        exact hQ H6 D acc (sm.trans same_delH) nD e6 it
    rw [decide_eq_false n1]
    refine iteF ⟨_, rfl, (by show 2 ≤ sizeLine; decide), fun r nr => ?_⟩
    have s1 := same_new (o := HO.tup [.str "name", .str "word"]) nr
    have er : upd H r (HO.tup [.str "name", .str "word"]) r = some (.tup [.str "name", .str "word"]) := upd_same
    generalize upd H r (HO.tup [.str "name", .str "word"]) = H1 at s1 er ⊢
    refine ⟨r, _, rfl, .inr (st_of er), rfl, by decide +kernel, _, rfl, ?_⟩
    have iv : (if false = true then !inV (V.str s) [V.str "name", V.str "word"] else inV (V.str s) [V.str "name", V.str "word"]) = decide (s = "name" ∨ s = "word") := by
      rw [if_neg (by decide)]
      by_cases e1 : s = "name"
      · subst e1
        decide +kernel
      · by_cases e2 : s = "word"
        · subst e2
          decide +kernel
        · rw [decide_eq_false (by simp [e1, e2])]
          simp [inV, eqV, Ne.symm e1, Ne.symm e2]
    rw [iv]
    by_cases nw : s = "name" ∨ s = "word"
    · rw [decide_eq_true nw]
      refine iteT ⟨(by show 0 ≤ sizeLine; decide), fun D nD low => ?_⟩
      have z : innerOf s d a e = [] := by
        unfold innerOf
        rw [if_neg n1]
        rcases nw with h | h
        · rw [if_pos h]
        · by_cases h' : s = "name"
          · rw [if_pos h']
          · rw [if_neg h', if_pos h]
      refine hQ _ D [] (s1.trans (same_new nD)) (fresh_up s1 nD) upd_same ?_
      rw [z]
      exact ⟨rfl, fun i v x q _ => by cases q⟩
    rw [decide_eq_false nw]
    obtain ⟨k, ds, ps, rfl, h1, h2, h3⟩ := rightOf_node n1 (fun z => nw (.inl z)) (fun z => nw (.inr z)) hr1
    rw [h3] at hQ
    obtain ⟨p, us, rfl, hp0, hr'⟩ := Dx.tup_inv hd
    have hp := s1 _ _ (sG _ _ hp0)
    cases hr' with | @cons v1 us _ _ q1 r1 =>
    obtain rfl := Dx.str_inv q1
    have lu := dxAll_len r1
    have pl : ps.length ≤ 3 := (forms_small _ (lookF_mem h1)).1
    obtain ⟨ks, D0, look⟩ := T.forms.ex
    have lk := look k
    rw [formsL_is] at lk
    obtain ⟨u, x, x', gk, ru, k1, k2⟩ := lk.2 s ps h1
    refine iteF ⟨_, rfl, p, _, 0, _, rfl, rfl, st_of hp, at0, _, ks, k, u, _, rfl, D0, rfl, gk, ru, x, _, 1, _, rfl, rfl, k1 _, at1, ?_⟩
    refine ⟨fun σ H' => H' = H1 ∧ σ = [some (.str s), some (.ref p), some (.int ((a : Nat) : Int)), some (.int ((e : Nat) : Int)), none, some (.ref x'), some (.int ((if k = "each" then e + 1 else e : Nat) : Int)), none], ?_, ?_⟩
    · refine ⟨_, rfl, p, _, 0, _, rfl, rfl, st_of hp, at0, rfl, _, rfl, ?_⟩
      have dk : decide (V.str k = V.str "each") = decide (k = "each") := decide_eq_decide.mpr ⟨fun h => V.str.inj h, fun h => congrArg V.str h⟩
      rw [dk]
      by_cases ke : k = "each"
      · rw [decide_eq_true ke, if_pos ke]
        exact iteT ⟨_, rfl, _, _, rfl, rfl, rfl, rfl⟩
      · rw [decide_eq_false ke, if_neg ke]
        exact iteF ⟨_, rfl, rfl, rfl⟩
    rintro σ H2 ⟨rfl, rfl⟩
    generalize (if k = "each" then e + 1 else e : Nat) = c at hQ ⊢
    refine ⟨_, rfl, _, _, rfl, .inr ⟨_, k2 _, rfl⟩, _, rfl, by rw [List.length_map]; omega, by rw [List.length_map]; omega, fun D nD => ?_⟩
    rw [Int.toNat_natCast, List.length_map]
    refine lc_gen (vs := [7]) (walk_range (lo := 0) (n := ps.length)) nD (fun i acc H' => Same H2 H' ∧ ItL G H' acc (((ps.zip ds).map fun p => (p.1, p.2, a + 1, c)).take i)) ⟨Same.refl H2, ⟨rfl, fun i v x q _ => by cases q⟩⟩ (fun _ _ _ _ _ => True.intro) ?_ ?_
    · rintro i acc y H6 H7 hi l e6 ⟨sm, it⟩ ⟨rfl, rfl⟩
      show gName 7 (V.int (0 + ((i : Nat) : Int))) _ _ _
      rw [Int.zero_add]
      refine ⟨rfl, ?_⟩
      simp only [tYes, if_true]
      have hp7 := (sm.trans same_delH) _ _ hp
      have pi : (ps.map V.str)[i]? = some (.str ps[i]) := by rw [List.getElem?_map, List.getElem?_eq_getElem hi]; rfl
      have di : ds[i]? = some (ds[i]'(by omega)) := List.getElem?_eq_getElem (by omega)
      have ui : us[i]? = some (us[i]'(by omega)) := List.getElem?_eq_getElem (by omega)
      have zi : ((ps.zip ds).map fun p => (p.1, p.2, a + 1, c))[i]? = some (ps[i], ds[i]'(by omega), a + 1, c) := by
        rw [List.getElem?_map, (List.getElem?_zip_eq_some (z := (ps[i], ds[i]'(by omega)))).mpr ⟨List.getElem?_eq_getElem hi, di⟩]
        rfl
      have u1 : atI (V.str k :: us) (((i : Nat) : Int) + 1) = some (us[i]'(by omega)) := atI_nat (j := i + 1) (by rw [List.getElem?_cons_succ]; exact ui)
      refine ⟨_, rfl, _, rfl, x', _, _, _, rfl, rfl, k2 _, atI_nat pi, _, rfl, _, rfl, _, _, rfl, rfl, p, _, _, _, rfl, rfl, st_of hp7, u1, _, rfl, _, _, rfl, rfl, _, rfl, (by show 4 ≤ sizeLine; decide), fun t nt => ?_⟩
      have st := same_new (o := HO.tup [.str ps[i], us[i]'(by omega), .int (((a : Nat) : Int) + 1), .int ((c : Nat) : Int)]) nt
      have tD : t ≠ D := fun z => by rw [z, e6] at nt; cases nt
      refine lc_put l (by omega) (st _ _ e6) ⟨sm.trans (same_del st), ?_⟩
      rw [List.take_succ, zi]
      refine (it.same (same_del st)).app (ItL.one ⟨t, us[i]'(by omega), rfl, by rw [delH_ne tD]; exact upd_same, DxAll.at r1 ui di⟩)
    · rintro acc H6 l e6 ⟨sm, it⟩
      rw [List.take_of_length_le (by rw [List.length_map, List.length_zip]; omega)] at it
      exact hQ H6 D acc (s1.trans (sm.trans same_delH)) (fresh_up s1 nD) e6 it
theorem ok_prog (T : Tx K w mg) : Has P w K mg base CX0 4 "is_program" ["thing"] spProg := by
  obtain ⟨fd, F⟩ := T.c.def_ 17 (d := d_is_program) rfl
  have Hri := ok_right (P := P) (w := w) (base := base) T
  have Hin := ok_inner (P := P) (w := w) (base := base) T
  obtain ⟨t500, g500⟩ := (T.int 25 rfl)
  refine ⟨fd, F.ok scProg (fun vs H Q E h => ?_) (fun cdv A outer s H vs Q E hr h => ?_), FunD.bindsN F fun _ _ _ _ _ _ us hl => match us, hl with | [_], _ => rfl, F.kp, (T.glo 35 rfl)⟩
  · obtain ⟨v, d, n, m, rfl, _⟩ := h
    rfl
  · refine ⟨_, PSs.nox (pss_cons (ps_set (i := 1) scProg.nd rfl (Or.inl rfl) (pe_lstS (pa_cons (pe_tup (pa_cons pe_str (pa_cons (pv 0) (pa_cons pe_int (pa_cons pe_int pa_nil))))) pa_nil)))
 (pss_cons (ps_set (i := 2) scProg.nd rfl (Or.inl rfl) pe_int)
 (pss_cons (ps_while PassesOwn.never (pt_truth (pv 1) (by intro _; rfl))
 (pss_cons (ps_asg (pe_bm0 PySem.F.plainAttrs_list PySem.F.slot_list_pop PySem.F.type_list_pop mt_pop (pv 1)) (pg_tup (by rfl) (pgs_cons (pg_name (i := 3) scProg.nd rfl (Or.inl rfl)) (pgs_cons (pg_name (i := 4) scProg.nd rfl (Or.inl rfl)) (pgs_cons (pg_name (i := 5) scProg.nd rfl (Or.inl rfl)) (pgs_cons (pg_name (i := 6) scProg.nd rfl (Or.inl rfl)) pgs_nil))))))
 (pss_cons (ps_if (pt_not (pt_val (pe_has Hri (hr.mono (by decide)) pass0 (pa_cons (pv 3) (pa_cons (pv 4) (pa_cons (pv 5) (pa_cons (pv 6) pa_nil)))))))
 (pss_one (ps_ret pe_bl))
 pss_nil)
 (pss_cut (ps_if (pt_cmpR op_in_seq (pv 3) (pe_tup (pa_cons pe_str (pa_cons pe_str (pa_cons pe_str pa_nil)))) (by rfl))
 (pss_one (ps_aug (i := 2) scProg.nd rfl (.inl rfl) pe_int ip_add))
 pss_nil)
 (pss_one (ps_expr (pe_bm PySem.F.plainAttrs_list PySem.F.slot_list_extend PySem.F.type_list_extend mt_extend (pv 1) (pa_cons (pe_has Hin (hr.mono (by decide)) pass0 (pa_cons (pv 3) (pa_cons (pv 4) (pa_cons (pv 5) (pa_cons (pv 6) pa_nil))))) pa_nil))))))))
 (pss_one (ps_ret (pe_cmpR op_le (pv 2) (pe_glob (v := .int 500) (by rfl) g500 ⟨_, rfl⟩) (nomark _))))))), ?_⟩
    obtain ⟨v, d, n, m, rfl, hd, gd, ln, lm, hQ⟩ := h
    refine ⟨_, rfl, (by show 4 ≤ sizeLine; decide), fun q nq => ⟨(by show 1 ≤ sizeLine; decide), fun k nk _ => ?_⟩⟩
    have s1 := same_new (o := HO.tup [.str "body", v, .int 0, .int 0]) nq
    have eq1 : upd H q (HO.tup [.str "body", v, .int 0, .int 0]) q = some (.tup [.str "body", v, .int 0, .int 0]) := upd_same
    generalize upd H q (HO.tup [.str "body", v, .int 0, .int 0]) = H1 at s1 eq1 nk ⊢
    have i1 : ItAt H H1 (.ref q) (("body" : Str), d, 0, 0) := ⟨q, v, rfl, eq1, hd⟩
    have s2 : Same H1 (delH (upd H1 k (HO.lst [.ref q])) k) := fun b o e => by rw [delH_upd, delH_ne (ne_of_none e nk)]; exact e
    have e2 : upd H1 k (HO.lst [.ref q]) k = some (.lst [.ref q]) := upd_same
    generalize upd H1 k (HO.lst [.ref q]) = H2 at s2 e2 ⊢
    refine ⟨fun f σ H' => ∃ us xs n1 c, (∃ o3 o4 o5 o6, σ = [some v, some (.ref k), some (.int ((c : Nat) : Int)), o3, o4, o5, o6]) ∧ H' k = some (.lst us) ∧ Same H1 (delH H' k) ∧ ItL H (delH H' k) us xs ∧ Good xs n1 f ∧ c + n1 ≤ 500 ∧ f ≤ 100000, ⟨m, [.ref q], _, n, 0, ⟨_, _, _, _, rfl⟩, e2, s2, ItL.one (i1.same s2), gd, by omega, lm⟩, ?_⟩
    rintro f σ H3 ⟨us, xs, n1, c, ⟨o3, o4, o5, o6, rfl⟩, e3, s3, it, g, lc, lf⟩
    by_cases em : us = []
    · subst em
      refine ⟨_, rfl, false, .inl ⟨_, sq_of e3, rfl⟩, iteF ⟨_, rfl, _, _, rfl, rfl, ?_⟩⟩
      have z : decide (((c : Nat) : Int) ≤ 500) = true := decide_eq_true (by omega)
      have y : Q (.bl (decide (((c : Nat) : Int) ≤ 500))) H3 := by
        rw [z]
        exact hQ H3 (s1.trans (s3.trans same_delH))
      exact y
    obtain ⟨us', v', ys, x, rfl, rfl, it', ix⟩ := it.last em
    obtain ⟨n2, m2, n3, m3, r, gi, gl, en, em2⟩ := g.last
    obtain ⟨sx, dx, ax, ex⟩ := x
    dsimp only at r gi en
    have sh := good_short g (sx, dx, ax, ex) (List.mem_append_right _ List.mem_cons_self)
    have il := inner_len r gi (by omega)
    refine ⟨_, rfl, true, .inl ⟨_, sq_of e3, by simp⟩, iteT ⟨fun σ' H' => ∃ m', m' < f ∧ _, fun _ _ h => h, ?_⟩⟩
    refine ⟨_, rfl, .inl ⟨rfl, _, sq_of e3⟩, k, us' ++ [v'], v', rfl, rfl, e3, by simp, ?_⟩
    rw [List.dropLast_concat]
    have e4 : upd H3 k (HO.lst us') k = some (.lst us') := upd_same
    have s4 : Same H1 (delH (upd H3 k (HO.lst us')) k) := by rw [delH_upd]; exact s3
    have it4 : ItL H (delH (upd H3 k (HO.lst us')) k) us' ys := by rw [delH_upd]; exact it'
    have ix4 : ItAt H (delH (upd H3 k (HO.lst us')) k) v' (sx, dx, ax, ex) := by rw [delH_upd]; exact ix
    generalize upd H3 k (HO.lst us') = H4 at e4 s4 it4 ix4 ⊢
    obtain ⟨t, u, rfl, et, qd⟩ := ix4
    refine ⟨t, _, rfl, st_of (same_delH _ _ et), rfl, _, _, rfl, _, _, rfl, _, _, rfl, _, _, rfl, rfl, ?_⟩
    refine ⟨_, rfl, _, rfl, _, rfl, _, rfl, u, dx, sx, ax, ex, rfl, Dx.same (s1.trans (s4.trans same_delH)) _ _ qd, sh, _, rfl, ?_⟩
    rw [show rightOf sx dx ax ex = true from r]
    refine iteF ⟨fun σ H' => σ = [some v, some (.ref k), some (.int ((c + V6.cnt sx : Nat) : Int)), some (.str sx), some u, some (.int ((ax : Nat) : Int)), some (.int ((ex : Nat) : Int))] ∧ H' k = some (.lst us') ∧ Same H1 (delH H' k) ∧ ItL H (delH H' k) us' ys, ?_, ?_⟩
    · refine ⟨_, rfl, (by show 3 ≤ sizeLine; decide), fun r5 nr => ?_⟩
      have s45 := same_new (o := HO.tup [.str "statement", .str "e", .str "c"]) nr
      have e5 := s45 _ _ e4
      have s5 := s4.trans (same_del (a := k) s45)
      have it5 := it4.same (same_del (a := k) s45)
      have er : upd H4 r5 (HO.tup [.str "statement", .str "e", .str "c"]) r5 = some (.tup [.str "statement", .str "e", .str "c"]) := upd_same
      generalize upd H4 r5 (HO.tup [.str "statement", .str "e", .str "c"]) = H5 at e5 s5 er it5 ⊢
      refine ⟨r5, _, rfl, .inr (st_of er), rfl, by decide +kernel, _, rfl, ?_⟩
      rw [cnt_in]
      rcases cnt_01 sx with z | z
      · rw [z]
        exact iteF ⟨rfl, e5, s5, it5⟩
      · rw [z]
        exact iteT ⟨_, rfl, _, _, rfl, rfl, rfl, e5, s5, it5⟩
    · rintro σ H5 ⟨rfl, e5, s5, it5⟩
      have s15 : Same H H5 := s1.trans (s5.trans same_delH)
      refine ⟨_, rfl, .inl ⟨rfl, _, sq_of e5⟩, _, rfl, _, rfl, _, rfl, _, rfl, H, u, dx, sx, ax, ex, rfl, s15, qd, r, il, fun H6 p us6 s6 np ep it6 => ?_⟩
      have e6 := s6 _ _ e5
      have pk : p ≠ k := fun z => by
        rw [z, e5] at np
        cases np
      have l1 := it5.len
      have l2 := it6.len
      have g1 := good_len gl
      have g2 := good_len gi
      refine ⟨k, p, us', us6, rfl, rfl, e6, ep, Nat.le_trans (by omega : us'.length + us6.length ≤ 100000) (by decide), m3 + m2, by omega, us' ++ us6, ys ++ innerOf sx dx ax ex, n3 + n2, c + V6.cnt sx, ⟨_, _, _, _, rfl⟩, upd_same, ?_, ?_, gl.app gi, by omega, by omega⟩
      · rw [delH_upd]
        exact s5.trans (same_del s6)
      · rw [delH_upd]
        refine (it5.same (same_del s6)).app ⟨it6.len, fun i v x a b => ?_⟩
        obtain ⟨t', u', rfl, et', q'⟩ := it6.at_ i v x a b
        have h6 := same_delH _ _ et'
        refine ⟨t', u', rfl, ?_, q'⟩
        rw [delH_ne fun z => by rw [z, e6] at h6; cases h6]
        exact h6
theorem ok_pinit (T : Tx K w mg) : HasC P w K mg base (L2.CX P w) 6 "Program" ["self", "statements"] spPInit := by
  obtain ⟨fd, F⟩ := T.c.def_ 46 (d := d_Program__init__) rfl
  have Hpr := ok_prog (P := P) (w := w) (base := base) T
  have cS : Cls K (He.ga K "Program") := He.cls_ok (T.c.fact 92 rfl)
  have n1 : NoAttr K (He.ga K "Program") "statements" := He.noat_ok (T.c.fact 93 rfl)
  refine ⟨_, fd, He.mkr_ok (T.c.fact 94 rfl), F.ok scPInit (fun vs H Q E h => ?_) (fun cdv A outer s H vs Q E hr h => ?_), FunD.bindsN F fun _ _ _ _ _ _ us hl => match us, hl with | [_, _], _ => rfl, (T.glo 40 rfl)⟩
  · obtain ⟨p, dx, v, d, n, m, rfl, _⟩ := h
    rfl
  · refine ⟨_, (pss_cons (ps_if (pt_not (pt_val (pe_has Hpr (hr.mono (by decide)) pass0 (pa_cons (pv 1) pa_nil))))
 (pss_one (ps_raise rfl (takes_of rfl rfl rfl rfl) (pmk_mk0 PySem.F.excBase_ValueError (T.exq 77 rfl).1 (T.glo 15 rfl) (T.exq 77 rfl).2 (T.rai 77 rfl) (by rfl))))
 pss_nil)
 (pss_one (ps_fld (pv 0) (pv 1) (by rfl)))), ?_⟩
    obtain ⟨p, dx, v, d, n, m, rfl, hp, hd, g, ln, lm, hQ⟩ := h
    refine ⟨_, rfl, v, d, n, m, rfl, hd, g, ln, lm, fun H1 s1 => ⟨_, rfl, iteF ?_⟩⟩
    refine ⟨_, rfl, _, rfl, p, _, dx, [], rfl, s1 _ _ hp, cS, n1, (by show 0 < 1000; decide), hQ _ (fun b o ne e => ?_) upd_same⟩
    rw [upd_ne ne]
    exact s1 _ _ e
theorem ok_vinit (T : Tx K w mg) : HasC P w K mg base CX0 1 "Voice" ["self", "telling"] spVInit := by
  obtain ⟨fd, F⟩ := T.c.def_ 44 (d := d_Voice__init__) rfl
  have cS : Cls K (He.ga K "Voice") := He.cls_ok (T.c.fact 87 rfl)
  have n1 : NoAttr K (He.ga K "Voice") "telling" := He.noat_ok (T.c.fact 88 rfl)
  refine ⟨_, fd, He.mkr_ok (T.c.fact 89 rfl), F.ok scVInit (fun vs H Q E h => ?_) (fun cdv A outer s H vs Q E hr h => ?_), FunD.bindsN F fun _ _ _ _ _ _ us hl => match us, hl with | [_, _], _ => rfl, (T.glo 20 rfl)⟩
  · obtain ⟨p, dx, v, rfl, _⟩ := h
    rfl
  · refine ⟨_, PSs.nox (pss_one (ps_fld (pv 0) (pv 1) (by rfl))), ?_⟩
    obtain ⟨p, dx, v, rfl, hp, hQ⟩ := h
    refine ⟨_, rfl, _, rfl, p, _, dx, [], rfl, hp, cS, n1, (by show 0 < 1000; decide), hQ _ (fun b o ne e => ?_) upd_same⟩
    rw [upd_ne ne]
    exact e
end
end K03

set_option maxHeartbeats 4000000
namespace K03
open PySem PySem.Spec PyProof.Rows L2 V1 V2 V3 V6
open Evl (pss_cut tCut sq_of st_of)
theorem ifs_no {a b : Str} {A B : Prop} (h : a ≠ b) (k : B) : if decide (V.str a = V.str b) = true then A else B := by
  rw [decide_eq_false fun z => h (V.str.inj z)]
  exact k
theorem ifs_yes {a : Str} {A B : Prop} (k : A) : if decide (V.str a = V.str a) = true then A else B := by
  rw [decide_eq_true rfl]
  exact k
theorem at_last {vs : List V} (ne : vs ≠ []) : atI vs (-1) = some (vs.getLast ne) := by
  have l : 0 < vs.length := List.length_pos_iff.mpr ne
  have e : ixN vs.length (-1) = some (vs.length - 1) := by
    unfold ixN
    rw [if_neg (by decide)]
    rw [if_pos (by omega)]
    congr 1
    omega
  unfold atI
  rw [e]
  show vs[vs.length - 1]? = _
  rw [← List.getLast?_eq_getElem?, List.getLast?_eq_some_getLast ne]
def spTold : Nat → Sp
  | 0 => fun _ _ _ _ => False
  | n + 1 => fun vs H Q _ => ∃ v r m x row kvs mm, vs = [v, .ref r, .ref m] ∧ Dq H v (Ex.d x) ∧ x.ok = true ∧ x.deep ≤ n + 1 ∧ H r = some (.tup (row.map V.str)) ∧ H m = some (.dK kvs) ∧ (∀ n : Str, valV kvs (.inr n) = (mm n).map V.str) ∧ Wd row mm ∧ Q (.str (x.val row mm)) H
theorem deep_pos (x : Ex) : 1 ≤ x.deep := by cases x <;> simp only [Ex.deep] <;> omega
theorem told_of {n : Nat} {v : V} {r m : Addr} {x : Ex} {row : List Str} {kvs : List (Key × V)} {mm : Mn} {H : Hp} {Q : VK} {E : XK} (hv : Dq H v x.d) (ok : x.ok = true) (dp : x.deep ≤ n) (hr : H r = some (.tup (row.map V.str))) (hm : H m = some (.dK kvs)) (at_ : ∀ n : Str, valV kvs (.inr n) = (mm n).map V.str) (wd : Wd row mm) (q : Q (.str (x.val row mm)) H) :
    spTold n [v, .ref r, .ref m] H Q E := by
  cases n with
  | zero => have := deep_pos x; omega
  | succ n => exact ⟨v, r, m, x, row, kvs, mm, rfl, hv, ok, dp, hr, hm, at_, wd, q⟩
theorem scTold : FnScope ["e", "row", "means", "kind", "told"] ["e", "row", "means"] (defScope s_told_by) := ⟨rfl, rfl, rfl, by decide +kernel, rfl, by decide +kernel, by decide +kernel⟩
section
variable [CurK] {P : Program} {w : World} {mg : Str → Option Value} {base : Heap}
theorem ok_told (T : Tx K w mg) : ∀ n : Nat, Has P w K mg base CX0 (n + 1) "told_by" ["e", "row", "means"] (spTold n)
  | 0 => by
    obtain ⟨fd, F⟩ := T.c.def_ 18 (d := d_told_by) rfl
    exact ⟨fd, ⟨fun _ _ _ _ h => h.elim, fun _ _ _ _ _ _ _ _ _ _ _ _ _ h => h.elim⟩, FunD.bindsN F fun _ _ _ _ _ _ us hl => match us, hl with | [_, _, _], _ => rfl, F.kp, (T.glo 36 rfl)⟩
  | n + 1 => by
    obtain ⟨fd, F⟩ := T.c.def_ 18 (d := d_told_by) rfl
    obtain ⟨t40, g40⟩ := (T.int 0 rfl)
    have Hr := ok_told T n
    refine ⟨fd, F.ok scTold (fun vs H Q E h => ?_) (fun cdv A outer s H vs Q E hr h => ?_), FunD.bindsN F fun _ _ _ _ _ _ us hl => match us, hl with | [_, _, _], _ => rfl, F.kp, (T.glo 36 rfl)⟩
    · obtain ⟨v, r, m, x, row, kvs, mm, rfl, _⟩ := h
      rfl
    · have hu : (A.deeper (envOfC d_told_by.qual d_told_by.scope s.heap.objs.size (He.fAd K d_told_by.at_) cdv)).units + 1 < cLine := by
        have := hr.un
        omega
      refine ⟨_, PSs.nox (pss_cons (ps_set (i := 3) scTold.nd rfl (Or.inl rfl) (pe_ix ix_tup (pv 0) pe_int (fun _ _ => rfl)))
 (pss_cons (ps_if (pt_cmpR op_eq (pv 3) pe_str (nomark _))
 (pss_one (ps_ret (pe_ix ix_tup (pv 0) pe_int (fun _ _ => rfl))))
 pss_nil)
 (pss_cons (ps_if (pt_cmpR op_eq (pv 3) pe_str (nomark _))
 (pss_one (ps_ret (pe_dget2 hu (pv 2) (pe_ix ix_tup (pv 0) pe_int (fun _ _ => rfl)) pe_str ⟨by rfl, by rfl, by rfl, by rfl⟩)))
 pss_nil)
 (pss_cons (ps_if (pt_cmpR op_eq (pv 3) pe_str (nomark _))
 (pss_one (ps_ret (pe_callTy call_str_int (by rfl) (T.free 68 rfl) (by decide +kernel) (pa_cons (pe_callB call_len (by rfl) (T.free 65 rfl) PySem.boot_len (pa_cons (pv 1) pa_nil)) pa_nil))))
 pss_nil)
 (pss_cons (ps_if (pt_cmpR op_eq (pv 3) pe_str (nomark _))
 (pss_one (ps_ret (pe_ifExp (pt_truth (pv 1) (by intro _; rfl)) (pe_ix ix_tup (pv 1) (pe_un un_neg pe_int) (fun _ _ => rfl)) pe_str)))
 pss_nil)
 (pss_cons (ps_set (i := 4) scTold.nd rfl (Or.inl rfl) (pe_has Hr (hr) pass0 (pa_cons (pe_ix ix_tup (pv 0) pe_int (fun _ _ => rfl)) (pa_cons (pv 1) (pa_cons (pv 2) pa_nil)))))
 (pss_cons (ps_if (pt_cmpR op_eq (pv 3) pe_str (nomark _))
 (pss_one (ps_ret (pe_slice sl_str (pe_op op_add_str (pv 4) (pe_has Hr (hr) pass0 (pa_cons (pe_ix ix_tup (pv 0) pe_int (fun _ _ => rfl)) (pa_cons (pv 1) (pa_cons (pv 2) pa_nil))))) po_none (po_some (pe_glob (v := .int 40) (by rfl) g40 ⟨_, rfl⟩)))))
 pss_nil)
 (pss_cons (ps_if (pt_cmpR op_eq (pv 3) pe_str (nomark _))
 (pss_one (ps_ret (V6.pe_backS (pv 4))))
 pss_nil)
 (pss_one (ps_ret (pe_ifExp (pt_cmpR op_eq (pv 3) pe_str (nomark _)) (pe_slice sl_str (pv 4) (po_some pe_int) po_none) (pe_slice sl_str (pv 4) po_none (po_some pe_int))))))))))))), ?_⟩
      obtain ⟨v, r, m, x, row, kvs, mm, rfl, hv, ok, dp, hrow, hm, at_, wd, hQ⟩ := h
      have wl : ∀ y : Ex, y.ok = true → (y.val row mm).length ≤ 40 := fun y h => wx_len (val_w wd y h)
      cases x with
      | text z =>
        obtain ⟨q, us, rfl, hq, hus⟩ := V2.Dq.tup_inv hv
        cases hus with | @cons v1 _ _ _ a1 b1 =>
        cases b1 with | @cons v2 _ _ _ a2 b2 =>
        cases b2
        cases a1
        cases a2
        refine ⟨_, rfl, q, _, 0, _, rfl, rfl, st_of hq, at0, _, rfl, rfl, _, rfl, ifs_yes ⟨_, rfl, q, _, 1, _, rfl, rfl, st_of hq, at1, hQ⟩⟩
      | name z =>
        obtain ⟨q, us, rfl, hq, hus⟩ := V2.Dq.tup_inv hv
        cases hus with | @cons v1 _ _ _ a1 b1 =>
        cases b1 with | @cons v2 _ _ _ a2 b2 =>
        cases b2
        cases a1
        cases a2
        refine ⟨_, rfl, q, _, 0, _, rfl, rfl, st_of hq, at0, _, rfl, rfl, _, rfl, ifs_no (by decide) ⟨_, rfl, rfl, _, rfl, ifs_yes ?_⟩⟩
        refine ⟨_, rfl, m, rfl, .inl ⟨kvs, .inl hm⟩, _, rfl, q, _, 1, _, rfl, rfl, st_of hq, at1, _, DGet.k (k := .inr z) hm, ?_⟩
        rw [at_]
        have e : (Option.map V.str (mm z)).getD (V.str (Str.ofString "")) = V.str ((mm z).getD (Str.ofString "")) := by cases mm z <;> rfl
        rw [e]
        exact hQ
      | many =>
        obtain ⟨q, us, rfl, hq, hus⟩ := V2.Dq.tup_inv hv
        cases hus with | @cons v1 _ _ _ a1 b1 =>
        cases b1
        cases a1
        refine ⟨_, rfl, q, _, 0, _, rfl, rfl, st_of hq, at0, _, rfl, rfl, _, rfl, ifs_no (by decide) ⟨_, rfl, rfl, _, rfl, ifs_no (by decide) ⟨_, rfl, rfl, _, rfl, ifs_yes ?_⟩⟩⟩
        have ln := wd.len
        refine ⟨_, rfl, _, _, rfl, .inr ⟨_, st_of hrow, rfl⟩, _, rfl, ?_, ?_⟩
        · rw [List.length_map]
          exact Nat.lt_of_le_of_lt (Nat.log2_le_self _) (by omega)
        · rw [List.length_map]
          exact hQ
      | last =>
        obtain ⟨q, us, rfl, hq, hus⟩ := V2.Dq.tup_inv hv
        cases hus with | @cons v1 _ _ _ a1 b1 =>
        cases b1
        cases a1
        refine ⟨_, rfl, q, _, 0, _, rfl, rfl, st_of hq, at0, _, rfl, rfl, _, rfl, ifs_no (by decide) ⟨_, rfl, rfl, _, rfl, ifs_no (by decide) ⟨_, rfl, rfl, _, rfl, ifs_no (by decide) ⟨_, rfl, rfl, _, rfl, ifs_yes ?_⟩⟩⟩⟩
        have hQ' : Q (.str (row.getLast?.getD (Str.ofString ""))) H := hQ
        by_cases em : row = []
        · subst em
          exact ⟨_, rfl, false, .inr (.inl ⟨_, st_of hrow, rfl⟩), iteF hQ'⟩
        · have e1 := (List.dropLast_concat_getLast em).symm
          rw [List.getLast?_eq_some_getLast em] at hQ'
          refine ⟨_, rfl, true, .inr (.inl ⟨_, st_of hrow, by simp [em]⟩), iteT ⟨_, rfl, 1, rfl, r, _, _, _, rfl, rfl, st_of hrow, at_last (by simpa using em), by rw [List.getLast_map]; exact hQ'⟩⟩
      | join a b =>
        obtain ⟨q, us, rfl, hq, hus⟩ := V2.Dq.tup_inv hv
        cases hus with | @cons v1 _ _ _ a1 b1 =>
        cases b1 with | @cons v2 _ _ _ a2 b2 =>
        cases b2 with | @cons v3 _ _ _ a3 b3 =>
        cases b3
        cases a1
        simp only [Ex.deep] at dp
        simp only [Ex.ok, Bool.and_eq_true] at ok
        refine ⟨_, rfl, q, _, 0, _, rfl, rfl, st_of hq, at0, _, rfl, rfl, _, rfl, ifs_no (by decide) ⟨_, rfl, rfl, _, rfl, ifs_no (by decide) ⟨_, rfl, rfl, _, rfl, ifs_no (by decide) ⟨_, rfl, rfl, _, rfl, ifs_no (by decide) ?_⟩⟩⟩⟩
        refine ⟨_, rfl, q, _, 1, _, rfl, rfl, st_of hq, at1, _, rfl, _, rfl, told_of a2 ok.1 (by omega) hrow hm at_ wd ?_⟩
        refine ⟨_, rfl, rfl, _, rfl, ifs_yes ?_⟩
        have l1 := wl a ok.1
        have l2 := wl b ok.2
        refine ⟨_, rfl, _, rfl, q, _, 2, _, rfl, rfl, st_of hq, at2, _, rfl, _, rfl, told_of a3 ok.2 (by omega) hrow hm at_ wd ?_⟩
        refine ⟨_, _, rfl, rfl, Nat.le_trans (by omega : (a.val row mm).length + (b.val row mm).length ≤ 80) (by decide), _, rfl, _, rfl, ?_, hQ⟩
        rw [len_app]
        exact Nat.le_trans (by omega : (a.val row mm).length + (b.val row mm).length ≤ 80) (by decide)
      | turn a =>
        obtain ⟨q, us, rfl, hq, hus⟩ := V2.Dq.tup_inv hv
        cases hus with | @cons v1 _ _ _ a1 b1 =>
        cases b1 with | @cons v2 _ _ _ a2 b2 =>
        cases b2
        cases a1
        simp only [Ex.deep] at dp
        refine ⟨_, rfl, q, _, 0, _, rfl, rfl, st_of hq, at0, _, rfl, rfl, _, rfl, ifs_no (by decide) ⟨_, rfl, rfl, _, rfl, ifs_no (by decide) ⟨_, rfl, rfl, _, rfl, ifs_no (by decide) ⟨_, rfl, rfl, _, rfl, ifs_no (by decide) ?_⟩⟩⟩⟩
        refine ⟨_, rfl, q, _, 1, _, rfl, rfl, st_of hq, at1, _, rfl, _, rfl, told_of a2 ok (by omega) hrow hm at_ wd ?_⟩
        refine ⟨_, rfl, rfl, _, rfl, ifs_no (by decide) ⟨_, rfl, rfl, _, rfl, ifs_yes ⟨_, rfl, _, rfl, Nat.le_trans (wl a ok) (by decide), hQ⟩⟩⟩
      | rest a =>
        obtain ⟨q, us, rfl, hq, hus⟩ := V2.Dq.tup_inv hv
        cases hus with | @cons v1 _ _ _ a1 b1 =>
        cases b1 with | @cons v2 _ _ _ a2 b2 =>
        cases b2
        cases a1
        simp only [Ex.deep] at dp
        refine ⟨_, rfl, q, _, 0, _, rfl, rfl, st_of hq, at0, _, rfl, rfl, _, rfl, ifs_no (by decide) ⟨_, rfl, rfl, _, rfl, ifs_no (by decide) ⟨_, rfl, rfl, _, rfl, ifs_no (by decide) ⟨_, rfl, rfl, _, rfl, ifs_no (by decide) ?_⟩⟩⟩⟩
        refine ⟨_, rfl, q, _, 1, _, rfl, rfl, st_of hq, at1, _, rfl, _, rfl, told_of a2 ok (by omega) hrow hm at_ wd ?_⟩
        refine ⟨_, rfl, rfl, _, rfl, ifs_no (by decide) ⟨_, rfl, rfl, _, rfl, ifs_no (by decide) ⟨_, rfl, rfl, _, rfl, ifs_yes ⟨_, rfl, _, rfl, _, rfl, Nat.le_trans (wl a ok) (by decide), hQ⟩⟩⟩⟩
      | first a =>
        obtain ⟨q, us, rfl, hq, hus⟩ := V2.Dq.tup_inv hv
        cases hus with | @cons v1 _ _ _ a1 b1 =>
        cases b1 with | @cons v2 _ _ _ a2 b2 =>
        cases b2
        cases a1
        simp only [Ex.deep] at dp
        refine ⟨_, rfl, q, _, 0, _, rfl, rfl, st_of hq, at0, _, rfl, rfl, _, rfl, ifs_no (by decide) ⟨_, rfl, rfl, _, rfl, ifs_no (by decide) ⟨_, rfl, rfl, _, rfl, ifs_no (by decide) ⟨_, rfl, rfl, _, rfl, ifs_no (by decide) ?_⟩⟩⟩⟩
        refine ⟨_, rfl, q, _, 1, _, rfl, rfl, st_of hq, at1, _, rfl, _, rfl, told_of a2 ok (by omega) hrow hm at_ wd ?_⟩
        refine ⟨_, rfl, rfl, _, rfl, ifs_no (by decide) ⟨_, rfl, rfl, _, rfl, ifs_no (by decide) ⟨_, rfl, rfl, _, rfl, ifs_no (by decide) ⟨_, rfl, _, rfl, _, rfl, Nat.le_trans (wl a ok) (by decide), hQ⟩⟩⟩⟩
end
end K03

set_option maxHeartbeats 4000000
namespace K03
open PySem PySem.Spec PyProof.Rows L2 V1 V2 V3 V6
open Evl (pss_cut tCut sq_of st_of)
def spHolds : Nat → Sp
  | 0 => fun _ _ _ _ => False
  | n + 1 => fun vs H Q _ => ∃ v r m c row kvs mm, vs = [v, .ref r, .ref m] ∧ Dq H v (Cn.d c) ∧ c.ok = true ∧ c.deep ≤ n + 1 ∧ H r = some (.tup (row.map V.str)) ∧ H m = some (.dK kvs) ∧ (∀ n : Str, valV kvs (.inr n) = (mm n).map V.str) ∧ Wd row mm ∧ Q (.bl (c.val row mm)) H
theorem deepC_pos (x : Cn) : 1 ≤ x.deep := by cases x <;> simp only [Cn.deep] <;> omega
theorem holds_of {n : Nat} {v : V} {r m : Addr} {c : Cn} {row : List Str} {kvs : List (Key × V)} {mm : Mn} {H : Hp} {Q : VK} {E : XK} (hv : Dq H v c.d) (ok : c.ok = true) (dp : c.deep ≤ n) (hr : H r = some (.tup (row.map V.str))) (hm : H m = some (.dK kvs)) (at_ : ∀ n : Str, valV kvs (.inr n) = (mm n).map V.str) (wd : Wd row mm) (q : Q (.bl (c.val row mm)) H) :
    spHolds n [v, .ref r, .ref m] H Q E := by
  cases n with
  | zero => have := deepC_pos c; omega
  | succ n => exact ⟨v, r, m, c, row, kvs, mm, rfl, hv, ok, dp, hr, hm, at_, wd, q⟩
/-- a statement, a body: v tells of d -/
def Rn (row : List Str) (L : List Str) (d : PyData) (res : Mn → Option Str × Mn) : Sp := fun vs H Q _ => ∃ v r m kvs mm, vs = [v, .ref r, .ref m] ∧ Dq (delH H m) v d ∧ (delH H m) r = some (.tup (row.map V.str)) ∧ H m = some (.dK kvs) ∧ KM kvs mm L ∧ L.length ≤ 1000 ∧ Wd row mm ∧
  ∀ H' kvs', Same (delH H m) (delH H' m) → H' m = some (.dK kvs') → KM kvs' (res mm).2 L → Q (optV (res mm).1) H'
def spSaid (n : Nat) : Sp := fun vs H Q E => ∃ row L b, Bd.ok b = true ∧ b.deep ≤ n ∧ (∀ n ∈ b.nms, n ∈ L) ∧ Rn row L (.tuple b.ds) (b.run row) vs H Q E
def spOne : Nat → Sp
  | 0 => fun _ _ _ _ => False
  | n + 1 => fun vs H Q E => ∃ row L s, V6.St.ok s = true ∧ s.deep ≤ n + 1 ∧ (∀ n ∈ s.nms, n ∈ L) ∧ Rn row L s.d (s.run row) vs H Q E
theorem deepS_pos (x : V6.St) : 1 ≤ x.deep := by cases x <;> simp only [St.deep] <;> omega
theorem scHolds : FnScope ["c", "row", "means", "one", "other"] ["c", "row", "means"] (defScope s_holds) := ⟨rfl, rfl, rfl, by decide +kernel, rfl, by decide +kernel, by decide +kernel⟩
theorem scSaid : FnScope ["body", "row", "means", "statement", "said"] ["body", "row", "means"] (defScope s_said_by) := ⟨rfl, rfl, rfl, by decide +kernel, rfl, by decide +kernel, by decide +kernel⟩
theorem scOne : FnScope ["statement", "row", "means", "kind", "body", "word", "said"] ["statement", "row", "means"] (defScope s_said_by_one) := ⟨rfl, rfl, rfl, by decide +kernel, rfl, by decide +kernel, by decide +kernel⟩
theorem dec_str {a b : Str} : decide (V.str a = V.str b) = decide (a = b) := decide_eq_decide.mpr ⟨fun h => V.str.inj h, fun h => congrArg V.str h⟩
section
variable [CurK] {P : Program} {w : World} {mg : Str → Option Value} {base : Heap}
theorem ok_holds (T : Tx K w mg) : ∀ n : Nat, Has P w K mg base CX0 (n + 2) "holds" ["c", "row", "means"] (spHolds n)
  | 0 => by
    obtain ⟨fd, F⟩ := T.c.def_ 19 (d := d_holds) rfl
    exact ⟨fd, ⟨fun _ _ _ _ h => h.elim, fun _ _ _ _ _ _ _ _ _ _ _ _ _ h => h.elim⟩, FunD.bindsN F fun _ _ _ _ _ _ us hl => match us, hl with | [_, _, _], _ => rfl, F.kp, (T.glo 37 rfl)⟩
  | n + 1 => by
    obtain ⟨fd, F⟩ := T.c.def_ 19 (d := d_holds) rfl
    have Hr := ok_holds T n
    have Ht := ok_told (P := P) (w := w) (base := base) T n
    refine ⟨fd, F.ok scHolds (fun vs H Q E h => ?_) (fun cdv A outer s H vs Q E hr h => ?_), FunD.bindsN F fun _ _ _ _ _ _ us hl => match us, hl with | [_, _, _], _ => rfl, F.kp, (T.glo 37 rfl)⟩
    · obtain ⟨v, r, m, x, row, kvs, mm, rfl, _⟩ := h
      rfl
    · refine ⟨_, PSs.nox (pss_cons (ps_if (pt_cmpR op_eq (pe_ix ix_tup (pv 0) pe_int (fun _ _ => rfl)) pe_str (nomark _))
 (pss_one (ps_ret (pe_not (pe_has Hr (hr.mono (by omega)) pass0 (pa_cons (pe_ix ix_tup (pv 0) pe_int (fun _ _ => rfl)) (pa_cons (pv 1) (pa_cons (pv 2) pa_nil)))))))
 pss_nil)
 (pss_cons (ps_set (i := 3) scHolds.nd rfl (Or.inl rfl) (pe_has Ht (hr.mono (by omega)) pass0 (pa_cons (pe_ix ix_tup (pv 0) pe_int (fun _ _ => rfl)) (pa_cons (pv 1) (pa_cons (pv 2) pa_nil)))))
 (pss_cons (ps_set (i := 4) scHolds.nd rfl (Or.inl rfl) (pe_has Ht (hr.mono (by omega)) pass0 (pa_cons (pe_ix ix_tup (pv 0) pe_int (fun _ _ => rfl)) (pa_cons (pv 1) (pa_cons (pv 2) pa_nil)))))
 (pss_cons (ps_if (pt_cmpR op_eq (pe_ix ix_tup (pv 0) pe_int (fun _ _ => rfl)) pe_str (nomark _))
 (pss_one (ps_ret (pe_cmpR op_eq (pv 3) (pv 4) (nomark _))))
 pss_nil)
 (pss_one (ps_ret (pe_ifExp (pt_cmpR op_eq (pe_ix ix_tup (pv 0) pe_int (fun _ _ => rfl)) pe_str (nomark _)) (pe_cmpR op_lt_str (pv 3) (pv 4) (nomark _)) (pe_cmpR op_in_str (pv 3) (pv 4) (by rfl))))))))), ?_⟩
      obtain ⟨v, r, m, x, row, kvs, mm, rfl, hv, ok, dp, hrow, hm, at_, wd, hQ⟩ := h
      have two : ∀ {k : Str} {a b : Ex} {G : Prop}, k ≠ "not" → Dq H v (.tuple [.str k, a.d, b.d]) → (∀ q v2 v3, v = .ref q → H q = some (.tup [.str k, v2, v3]) → Dq H v2 a.d → Dq H v3 b.d → G) → G := fun _ hv k => by
        obtain ⟨q, us, rfl, hq, hus⟩ := V2.Dq.tup_inv hv
        cases hus with | @cons v1 _ _ _ a1 b1 =>
        cases b1 with | @cons v2 _ _ _ a2 b2 =>
        cases b2 with | @cons v3 _ _ _ a3 b3 =>
        cases b3
        cases a1
        exact k q v2 v3 rfl hq a2 a3
      cases x with
      | not c =>
        obtain ⟨q, us, rfl, hq, hus⟩ := V2.Dq.tup_inv hv
        cases hus with | @cons v1 _ _ _ a1 b1 =>
        cases b1 with | @cons v2 _ _ _ a2 b2 =>
        cases b2
        cases a1
        simp only [Cn.deep] at dp
        refine ⟨_, rfl, q, _, 0, _, rfl, rfl, st_of hq, at0, rfl, _, rfl, ifs_yes ⟨_, rfl, q, _, 1, _, rfl, rfl, st_of hq, at1, _, rfl, _, rfl, holds_of a2 ok (by omega) hrow hm at_ wd ⟨_, rfl, hQ⟩⟩⟩
      | same a b =>
        simp only [Cn.deep] at dp
        simp only [Cn.ok, Bool.and_eq_true] at ok
        refine two (by decide) hv fun q v2 v3 e hq a2 a3 => ?_
        subst e
        refine ⟨_, rfl, q, _, 0, _, rfl, rfl, st_of hq, at0, rfl, _, rfl, ifs_no (by decide) ?_⟩
        refine ⟨_, rfl, q, _, 1, _, rfl, rfl, st_of hq, at1, _, rfl, _, rfl, told_of a2 ok.1 (by omega) hrow hm at_ wd ?_⟩
        refine ⟨_, rfl, q, _, 2, _, rfl, rfl, st_of hq, at2, _, rfl, _, rfl, told_of a3 ok.2 (by omega) hrow hm at_ wd ?_⟩
        refine ⟨_, rfl, q, _, 0, _, rfl, rfl, st_of hq, at0, rfl, _, rfl, ifs_yes ⟨_, rfl, _, rfl, rfl, ?_⟩⟩
        rw [dec_str]
        exact hQ
      | ahead a b =>
        simp only [Cn.deep] at dp
        simp only [Cn.ok, Bool.and_eq_true] at ok
        refine two (by decide) hv fun q v2 v3 e hq a2 a3 => ?_
        subst e
        refine ⟨_, rfl, q, _, 0, _, rfl, rfl, st_of hq, at0, rfl, _, rfl, ifs_no (by decide) ?_⟩
        refine ⟨_, rfl, q, _, 1, _, rfl, rfl, st_of hq, at1, _, rfl, _, rfl, told_of a2 ok.1 (by omega) hrow hm at_ wd ?_⟩
        refine ⟨_, rfl, q, _, 2, _, rfl, rfl, st_of hq, at2, _, rfl, _, rfl, told_of a3 ok.2 (by omega) hrow hm at_ wd ?_⟩
        refine ⟨_, rfl, q, _, 0, _, rfl, rfl, st_of hq, at0, rfl, _, rfl, ifs_no (by decide) ?_⟩
        exact ⟨_, rfl, q, _, 0, _, rfl, rfl, st_of hq, at0, rfl, _, rfl, ifs_yes ⟨_, rfl, _, rfl, _, _, rfl, rfl, hQ⟩⟩
      | inn a b =>
        simp only [Cn.deep] at dp
        simp only [Cn.ok, Bool.and_eq_true] at ok
        refine two (by decide) hv fun q v2 v3 e hq a2 a3 => ?_
        subst e
        refine ⟨_, rfl, q, _, 0, _, rfl, rfl, st_of hq, at0, rfl, _, rfl, ifs_no (by decide) ?_⟩
        refine ⟨_, rfl, q, _, 1, _, rfl, rfl, st_of hq, at1, _, rfl, _, rfl, told_of a2 ok.1 (by omega) hrow hm at_ wd ?_⟩
        refine ⟨_, rfl, q, _, 2, _, rfl, rfl, st_of hq, at2, _, rfl, _, rfl, told_of a3 ok.2 (by omega) hrow hm at_ wd ?_⟩
        refine ⟨_, rfl, q, _, 0, _, rfl, rfl, st_of hq, at0, rfl, _, rfl, ifs_no (by decide) ?_⟩
        exact ⟨_, rfl, q, _, 0, _, rfl, rfl, st_of hq, at0, rfl, _, rfl, ifs_no (by decide) ⟨_, rfl, _, rfl, _, _, rfl, rfl, hQ⟩⟩
theorem ok_said (T : Tx K w mg) (n : Nat) (H1 : Has P w K mg base CX0 (2 * n + 2) "said_by_one" ["statement", "row", "means"] (spOne n)) : Has P w K mg base CX0 (2 * n + 3) "said_by" ["body", "row", "means"] (spSaid n) := by
  obtain ⟨fd, F⟩ := T.c.def_ 20 (d := d_said_by) rfl
  refine ⟨fd, F.ok scSaid (fun vs H Q E h => ?_) (fun cdv A outer s H vs Q E hr h => ?_), FunD.bindsN F fun _ _ _ _ _ _ us hl => match us, hl with | [_, _, _], _ => rfl, F.kp, (T.glo 38 rfl)⟩
  · obtain ⟨row, L, b, _, _, _, v, r, m, kvs, mm, rfl, _⟩ := h
    rfl
  · refine ⟨_, PSs.nox (pss_cons (ps_for PassesOwn.never rfl (pi_tup (pv 0)) (pg_name (i := 3) scSaid.nd rfl (Or.inl rfl))
 (pss_cons (ps_set (i := 4) scSaid.nd rfl (Or.inl rfl) (pe_has H1 (hr.mono (by omega)) pass0 (pa_cons (pv 3) (pa_cons (pv 1) (pa_cons (pv 2) pa_nil)))))
 (pss_one (ps_if (pt_cmpR op_notN (pv 4) pe_non (nomark _))
 (pss_one (ps_ret (pv 4)))
 pss_nil))))
 (pss_one (ps_ret pe_non))), ?_⟩
    obtain ⟨row, L, b, ok, dp, nm, v, r, m, kvs, mm, rfl, hv, hrow, hm, km, lL, wd, hQ⟩ := h
    rw [Bd.ds_lst] at hv
    obtain ⟨q, us, rfl, hq, hus⟩ := V2.Dq.tup_inv hv
    have lu : us.length = b.lst.length := by
      have := dxAll_len (dxAll_of _ _ hus)
      rw [List.length_map] at this
      exact this
    rw [Bd.run_lst] at hQ
    refine ⟨_, rfl, q, rfl, ⟨_, st_of (same_delH _ _ hq)⟩, ?_⟩
    refine for_it (walk_tup (K := K) (a := q) (xs := us)) (fun i σ H' => ∃ o3 o4 kvs' mm', σ = [some (.ref q), some (.ref r), some (.ref m), o3, o4] ∧ Same (delH H m) (delH H' m) ∧ H' m = some (.dK kvs') ∧ KM kvs' mm' L ∧ Wd row mm' ∧ runL row b.lst mm = runL row (b.lst.drop i) mm') ⟨_, _, kvs, mm, rfl, Same.refl _, hm, km, wd, rfl⟩ (fun i σ H' _ z => by
      obtain ⟨o3, o4, kvs', mm', _, s, _⟩ := z
      exact st_of (same_delH _ _ (s _ _ hq))) ?_ ?_
    · rintro i x σ H2 H3 hi ⟨o3, o4, kvs', mm', rfl, s2, hm2, km2, wd2, run⟩ ⟨rfl, hx⟩
      have hi' : i < b.lst.length := by omega
      have hd := dqAt hus hx (by rw [List.getElem?_map, List.getElem?_eq_getElem hi']; rfl : (b.lst.map V6.St.d)[i]? = some (V6.St.d b.lst[i]))
      have mem := List.getElem_mem hi'
      rw [List.drop_eq_getElem_cons hi', runL] at run
      have w' := runS_w b.lst[i] mm' (Bd.ok_lst ok _ mem) wd2
      refine ⟨_, rfl, _, rfl, _, rfl, ?_⟩
      have one : ∀ {Q' : VK}, (∀ H' kvs'', Same (delH H3 m) (delH H' m) → H' m = some (.dK kvs'') → KM kvs'' (b.lst[i].run row mm').2 L → Q' (optV (b.lst[i].run row mm').1) H') → spOne n [x, .ref r, .ref m] H3 Q' (fun _ _ _ => False) := fun k => by
        have d1 := Bd.deep_lst dp _ mem
        cases n with
        | zero => have := deepS_pos b.lst[i]; omega
        | succ n => exact ⟨row, L, b.lst[i], Bd.ok_lst ok _ mem, d1, fun n hn => nm n (Bd.nms_lst mem n hn), x, r, m, kvs', mm', rfl, Dq.same s2 _ _ hd, s2 _ _ hrow, hm2, km2, lL, wd2, k⟩
      refine one fun H4 kvs4 s4 hm4 km4 => ?_
      cases e : b.lst[i].run row mm' with
      | mk o m' =>
        rw [e] at run km4 w'
        cases o with
        | none =>
          refine ⟨_, rfl, rfl, _, rfl, ?_⟩
          show (if (!decide (V.non = V.non)) = true then _ else _)
          rw [show (!decide (V.non = V.non)) = false by simp]
          exact iteF ⟨_, _, kvs4, m', rfl, s2.trans s4, hm4, km4, w'.1, run⟩
        | some y =>
          refine ⟨_, rfl, rfl, _, rfl, ?_⟩
          show (if (!decide (V.str y = V.non)) = true then _ else _)
          rw [show (!decide (V.str y = V.non)) = true by simp]
          rw [run] at hQ
          exact iteT ⟨_, rfl, hQ H4 kvs4 (s2.trans s4) hm4 km4⟩
    · rintro σ H2 ⟨o3, o4, kvs', mm', rfl, s2, hm2, km2, wd2, run⟩
      rw [List.drop_of_length_le (by omega), runL] at run
      rw [run] at hQ
      exact hQ H2 kvs' s2 hm2 km2
end
end K03

set_option maxHeartbeats 4000000
namespace K03
open PySem PySem.Spec PyProof.Rows L2 V1 V2 V3 V6
open Evl (pss_cut tCut sq_of st_of)
section
variable [CurK] {P : Program} {w : World} {mg : Str → Option Value} {base : Heap}
theorem ok_one (T : Tx K w mg) (n : Nat) (H1 : Has P w K mg base CX0 (2 * n + 3) "said_by" ["body", "row", "means"] (spSaid n)) : Has P w K mg base CX0 (2 * n + 4) "said_by_one" ["statement", "row", "means"] (spOne (n + 1)) := by
  obtain ⟨fd, F⟩ := T.c.def_ 21 (d := d_said_by_one) rfl
  have Ht := ok_told (P := P) (w := w) (base := base) T n
  have Hh := ok_holds (P := P) (w := w) (base := base) T n
  refine ⟨fd, F.ok scOne (fun vs H Q E h => ?_) (fun cdv A outer s H vs Q E hr h => ?_), FunD.bindsN F fun _ _ _ _ _ _ us hl => match us, hl with | [_, _, _], _ => rfl, F.kp, (T.glo 39 rfl)⟩
  · obtain ⟨row, L, b, _, _, _, v, r, m, kvs, mm, rfl, _⟩ := h
    rfl
  · have hu : (A.deeper (envOfC d_said_by_one.qual d_said_by_one.scope s.heap.objs.size (He.fAd K d_said_by_one.at_) cdv)).units + 1 < cLine := by
      have := hr.un
      omega
    refine ⟨_, PSs.nox (pss_cons (ps_set (i := 3) scOne.nd rfl (Or.inl rfl) (pe_ix ix_tup (pv 0) pe_int (fun _ _ => rfl)))
 (pss_cons (ps_if (pt_cmpR op_eq (pv 3) pe_str (nomark _))
 (pss_one (ps_ret (pe_has Ht (hr.mono (by omega)) pass0 (pa_cons (pe_ix ix_tup (pv 0) pe_int (fun _ _ => rfl)) (pa_cons (pv 1) (pa_cons (pv 2) pa_nil))))))
 pss_nil)
 (pss_cons (ps_if (pt_cmpR op_eq (pv 3) pe_str (nomark _))
 (pss_cons (ps_dput hu (pv 2) (pe_ix ix_tup (pv 0) pe_int (fun _ _ => rfl)) (pe_has Ht (hr.mono (by omega)) pass0 (pa_cons (pe_ix ix_tup (pv 0) pe_int (fun _ _ => rfl)) (pa_cons (pv 1) (pa_cons (pv 2) pa_nil)))) (by rfl))
 (pss_one (ps_ret pe_non)))
 pss_nil)
 (pss_cons (ps_if (pt_cmpR op_eq (pv 3) pe_str (nomark _))
 (pss_cons (ps_set (i := 4) scOne.nd rfl (Or.inl rfl) (pe_ifExp (pt_val (pe_has Hh (hr.mono (by omega)) pass0 (pa_cons (pe_ix ix_tup (pv 0) pe_int (fun _ _ => rfl)) (pa_cons (pv 1) (pa_cons (pv 2) pa_nil))))) (pe_ix ix_tup (pv 0) pe_int (fun _ _ => rfl)) (pe_ix ix_tup (pv 0) pe_int (fun _ _ => rfl))))
 (pss_one (ps_ret (pe_has H1 (hr.mono (by omega)) pass0 (pa_cons (pv 4) (pa_cons (pv 1) (pa_cons (pv 2) pa_nil)))))))
 pss_nil)
 (pss_cons (ps_for PassesOwn.never rfl (pi_tup (pv 1)) (pg_name (i := 5) scOne.nd rfl (Or.inl rfl))
 (pss_cons (ps_dput hu (pv 2) (pe_ix ix_tup (pv 0) pe_int (fun _ _ => rfl)) (pv 5) (by rfl))
 (pss_cons (ps_set (i := 6) scOne.nd rfl (Or.inl rfl) (pe_has H1 (hr.mono (by omega)) pass0 (pa_cons (pe_ix ix_tup (pv 0) pe_int (fun _ _ => rfl)) (pa_cons (pv 1) (pa_cons (pv 2) pa_nil)))))
 (pss_one (ps_if (pt_cmpR op_notN (pv 6) pe_non (nomark _))
 (pss_one (ps_ret (pv 6)))
 pss_nil)))))
 (pss_one (ps_ret pe_non))))))), ?_⟩
    obtain ⟨row, L, x, ok, dp, nm, v, r, m, kvs, mm, rfl, hv, hrow, hm, km, lL, wd, hQ⟩ := h
    have kl := km.len
    have hrow' := same_delH _ _ hrow
    cases x with
    | say e =>
      simp only [V6.St.d] at hv
      simp only [V6.St.ok] at ok
      simp only [V6.St.deep] at dp
      simp only [V6.St.run] at hQ
      obtain ⟨q, us, rfl, hq0, hus⟩ := V2.Dq.tup_inv hv
      have hq := same_delH _ _ hq0
      cases hus with | @cons v1 _ _ _ a1 b1 =>
      cases b1 with | @cons v2 _ _ _ a2 b2 =>
      cases b2
      cases a1
      refine ⟨_, rfl, q, _, 0, _, rfl, rfl, st_of hq, at0, _, rfl, rfl, _, rfl, ifs_yes ⟨_, rfl, q, _, 1, _, rfl, rfl, st_of hq, at1, _, rfl, _, rfl, told_of (Dq.same same_delH _ _ a2) ok (by omega) hrow' hm km.at_ wd ?_⟩⟩
      exact hQ H kvs (Same.refl _) hm km
    | let_ n e =>
      simp only [V6.St.d] at hv
      simp only [V6.St.ok, Bool.and_eq_true] at ok
      simp only [V6.St.deep] at dp
      simp only [V6.St.run] at hQ
      simp only [V6.St.nms] at nm
      obtain ⟨q, us, rfl, hq0, hus⟩ := V2.Dq.tup_inv hv
      have hq := same_delH _ _ hq0
      cases hus with | @cons v1 _ _ _ a1 b1 =>
      cases b1 with | @cons v2 _ _ _ a2 b2 =>
      cases b2 with | @cons v3 _ _ _ a3 b3 =>
      cases b3
      cases a1
      cases a2
      refine ⟨_, rfl, q, _, 0, _, rfl, rfl, st_of hq, at0, _, rfl, rfl, _, rfl, ifs_no (by decide) ⟨_, rfl, rfl, _, rfl, ifs_yes ?_⟩⟩
      refine ⟨_, rfl, q, _, 2, _, rfl, rfl, st_of hq, at2, _, rfl, _, rfl, told_of (Dq.same same_delH _ _ a3) ok.2 (by omega) hrow' hm km.at_ wd ?_⟩
      refine ⟨_, rfl, _, rfl, q, _, 1, _, rfl, rfl, st_of hq, at1, m, _, rfl, DPut.k (k := .inr n) hm (Nat.lt_of_le_of_lt (by omega : kvs.length ≤ 1000) (by decide)), ?_⟩
      exact hQ _ _ (by rw [delH_upd]; exact Same.refl _) upd_same (km.put (nm n List.mem_cons_self))
    | if_ c x y =>
      simp only [V6.St.d] at hv
      simp only [V6.St.ok, Bool.and_eq_true] at ok
      simp only [V6.St.deep] at dp
      simp only [V6.St.run] at hQ
      simp only [V6.St.nms] at nm
      obtain ⟨q, us, rfl, hq0, hus⟩ := V2.Dq.tup_inv hv
      have hq := same_delH _ _ hq0
      cases hus with | @cons v1 _ _ _ a1 b1 =>
      cases b1 with | @cons v2 _ _ _ a2 b2 =>
      cases b2 with | @cons v3 _ _ _ a3 b3 =>
      cases b3 with | @cons v4 _ _ _ a4 b4 =>
      cases b4
      cases a1
      refine ⟨_, rfl, q, _, 0, _, rfl, rfl, st_of hq, at0, _, rfl, rfl, _, rfl, ifs_no (by decide) ⟨_, rfl, rfl, _, rfl, ifs_no (by decide) ⟨_, rfl, rfl, _, rfl, ifs_yes ?_⟩⟩⟩
      refine ⟨_, rfl, q, _, 1, _, rfl, rfl, st_of hq, at1, _, rfl, _, rfl, holds_of (Dq.same same_delH _ _ a2) ok.1 (by omega) hrow' hm km.at_ wd ?_⟩
      refine ⟨_, rfl, ?_⟩
      cases hc : c.val row mm with
      | true =>
        rw [hc, if_pos rfl] at hQ
        refine iteT ⟨_, rfl, q, _, 2, _, rfl, rfl, st_of hq, at2, _, rfl, _, rfl, _, rfl, row, L, x, ok.2.1, by omega, fun n hn => nm n (List.mem_append_left _ hn), v3, r, m, kvs, mm, rfl, a3, hrow, hm, km, lL, wd, hQ⟩
      | false =>
        rw [hc, if_neg (by decide)] at hQ
        refine iteF ⟨_, rfl, q, _, 3, _, rfl, rfl, st_of hq, at3, _, rfl, _, rfl, _, rfl, row, L, y, ok.2.2, by omega, fun n hn => nm n (List.mem_append_right _ hn), v4, r, m, kvs, mm, rfl, a4, hrow, hm, km, lL, wd, hQ⟩
    | each n b =>
      simp only [V6.St.d] at hv
      simp only [V6.St.ok, Bool.and_eq_true] at ok
      simp only [V6.St.deep] at dp
      simp only [V6.St.run] at hQ
      simp only [V6.St.nms] at nm
      obtain ⟨q, us, rfl, hq0, hus⟩ := V2.Dq.tup_inv hv
      have hq := same_delH _ _ hq0
      cases hus with | @cons v1 _ _ _ a1 b1 =>
      cases b1 with | @cons v2 _ _ _ a2 b2 =>
      cases b2 with | @cons v3 _ _ _ a3 b3 =>
      cases b3
      cases a1
      cases a2
      refine ⟨_, rfl, q, _, 0, _, rfl, rfl, st_of hq, at0, _, rfl, rfl, _, rfl, ifs_no (by decide) ⟨_, rfl, rfl, _, rfl, ifs_no (by decide) ⟨_, rfl, rfl, _, rfl, ifs_no (by decide) ?_⟩⟩⟩
      refine ⟨_, rfl, r, rfl, ⟨_, st_of hrow'⟩, ?_⟩
      refine for_it (walk_tup (K := K) (a := r) (xs := row.map V.str)) (fun i σ H' => ∃ o5 o6 kvs' mm', σ = [some (.ref q), some (.ref r), some (.ref m), some (.str "each"), none, o5, o6] ∧ Same (delH H m) (delH H' m) ∧ H' m = some (.dK kvs') ∧ KM kvs' mm' L ∧ Wd row mm' ∧ loopE (fun m => b.run row m) n row mm = loopE (fun m => b.run row m) n (row.drop i) mm') ⟨_, _, kvs, mm, rfl, Same.refl _, hm, km, wd, rfl⟩ (fun i σ H' _ z => by
        obtain ⟨o3, o4, kvs', mm', _, s, _⟩ := z
        exact st_of (same_delH _ _ (s _ _ hrow))) ?_ ?_
      · rintro i x σ H2 H3 hi ⟨o5, o6, kvs', mm', rfl, s2, hm2, km2, wd2, run⟩ ⟨rfl, hx⟩
        rw [List.length_map] at hi
        rw [List.getElem?_map, List.getElem?_eq_getElem hi] at hx
        cases hx
        rw [List.drop_eq_getElem_cons hi, loopE] at run
        have ww := wd.ws _ (List.getElem_mem hi)
        have q2 := same_delH _ _ (s2 _ _ hq0)
        have k2 := km2.len
        refine ⟨_, rfl, _, rfl, _, rfl, q, _, 1, _, rfl, rfl, st_of q2, at1, m, _, rfl, DPut.k (k := .inr n) hm2 (Nat.lt_of_le_of_lt (by omega : kvs'.length ≤ 1000) (by decide)), ?_⟩
        have s3 : Same (delH H m) (delH (upd H3 m (.dK (putK kvs' (.inr n) (.str row[i])))) m) := by rw [delH_upd]; exact s2
        have e3 : (upd H3 m (.dK (putK kvs' (.inr n) (.str row[i])))) m = some (.dK (putK kvs' (.inr n) (.str row[i]))) := upd_same
        generalize upd H3 m (.dK (putK kvs' (.inr n) (.str row[i]))) = H4 at s3 e3 ⊢
        have w' := runB_w b (putM mm' n row[i]) ok.2 (wd2.put ww)
        refine ⟨_, rfl, q, _, 2, _, rfl, rfl, st_of (same_delH _ _ (s3 _ _ hq0)), at2, _, rfl, _, rfl, row, L, b, ok.2, by omega, fun y hy => nm y (List.mem_cons_of_mem _ hy), v3, r, m, _, _, rfl, Dq.same s3 _ _ a3, s3 _ _ hrow, e3, km2.put (nm n List.mem_cons_self), lL, wd2.put ww, fun H5 kvs5 s5 hm5 km5 => ?_⟩
        cases e : b.run row (putM mm' n row[i]) with
        | mk o m' =>
          rw [e] at run km5 w'
          cases o with
          | none =>
            refine ⟨_, rfl, rfl, _, rfl, ?_⟩
            show (if (!decide (V.non = V.non)) = true then _ else _)
            rw [show (!decide (V.non = V.non)) = false by simp]
            exact iteF ⟨_, _, kvs5, m', rfl, s3.trans s5, hm5, km5, w'.1, run⟩
          | some y =>
            refine ⟨_, rfl, rfl, _, rfl, ?_⟩
            show (if (!decide (V.str y = V.non)) = true then _ else _)
            rw [show (!decide (V.str y = V.non)) = true by simp]
            rw [run] at hQ
            exact iteT ⟨_, rfl, hQ H5 kvs5 (s3.trans s5) hm5 km5⟩
      · rintro σ H2 ⟨o5, o6, kvs', mm', rfl, s2, hm2, km2, wd2, run⟩
        rw [List.drop_of_length_le (by rw [List.length_map]; exact Nat.le_refl _), loopE] at run
        rw [run] at hQ
        exact hQ H2 kvs' s2 hm2 km2
theorem ok_saids (T : Tx K w mg) : ∀ n : Nat, Has P w K mg base CX0 (2 * n + 3) "said_by" ["body", "row", "means"] (spSaid n)
  | 0 => by
    refine ok_said T 0 ?_
    obtain ⟨fd, F⟩ := T.c.def_ 21 (d := d_said_by_one) rfl
    exact ⟨fd, ⟨fun _ _ _ _ h => h.elim, fun _ _ _ _ _ _ _ _ _ _ _ _ _ h => h.elim⟩, FunD.bindsN F fun _ _ _ _ _ _ us hl => match us, hl with | [_, _, _], _ => rfl, F.kp, (T.glo 39 rfl)⟩
  | n + 1 => ok_said T (n + 1) (ok_one T n (ok_saids T n))
end
end K03

set_option maxHeartbeats 4000000
namespace K03
open PySem PySem.Spec PyProof.Rows L2 V1 V2 V3 V6 LamX NdefX
open Evl (pss_cut tCut sq_of st_of)
def rLeTx : R2 := fun x y H Q => ∃ i j, x = .str i ∧ y = .str j ∧ Q (.bl (!decide (j.cps.toList < i.cps.toList))) H
def spLIsWord [CurK] : Sp := fun vs H Q _ => ∃ v d, vs = [v] ∧ Dx H v d ∧ shortD d ∧ ∀ H', Same H H' → Q (.bl (wordD d)) H'
theorem scLIsWord : FnScope ["thing", "sign"] ["thing"] (defScope s__law_is_word) := ⟨rfl, rfl, rfl, by decide +kernel, rfl, by decide +kernel, by decide +kernel⟩
theorem scLIsRow : FnScope ["thing", "word"] ["thing"] (defScope s__law_is_row) := ⟨rfl, rfl, rfl, by decide +kernel, rfl, by decide +kernel, by decide +kernel⟩
theorem scLIsOrder : FnScope ["thing", "many", "owner"] ["thing", "many"] (defScope s__law_is_order) := ⟨rfl, rfl, rfl, by decide +kernel, rfl, by decide +kernel, by decide +kernel⟩
theorem le_one (c d : Nat) : (!decide (([d] : List Nat) < [c])) = decide (c ≤ d) := by
  have z : ([d] < [c]) ↔ d < c := by
    rw [List.cons_lt_cons_iff]
    constructor
    · rintro (h | ⟨_, h⟩)
      · exact h
      · exact absurd h (List.lt_irrefl _)
    · exact .inl
  by_cases h : c ≤ d
  · rw [decide_eq_true h, decide_eq_false fun q => by have := z.mp q; omega]
    rfl
  · rw [decide_eq_false h, decide_eq_true (z.mpr (by omega))]
    rfl
/-- an order of so many houses -/
def orderD (m : Int) : PyData → Bool
  | .tuple ds => decide (1 ≤ ds.length) && (decide (ds.length ≤ 40) && ds.all (fromTo 0 (m - 1)))
  | _ => false
def spLIsOrder [CurK] : Sp := fun vs H Q _ => ∃ v d m, vs = [v, .int m] ∧ Dx H v d ∧ Q (.bl (orderD m d)) H
theorem fromTo_cases (m : Int) (d : PyData) : (∃ n, d = .int n ∧ fromTo 0 (m - 1) d = (decide (0 ≤ n) && decide (n < m))) ∨ (isInt d = false ∧ fromTo 0 (m - 1) d = false) := by
  cases d with
  | int n => exact .inl ⟨n, rfl, by
    show (decide (0 ≤ n) && decide (n ≤ m - 1)) = _
    congr 1
    exact decide_eq_decide.mpr (by omega)⟩
  | _ => exact .inr ⟨rfl, rfl⟩
section
variable [CurK] {P : Program} {w : World} {mg : Str → Option Value} {base : Heap}
theorem ok_lisword (T : Tx K w mg) : Has P w K mg base CX0 1 "_law_is_word" ["thing"] spLIsWord := by
  obtain ⟨fd, F⟩ := T.c.def_ 26 (d := d__law_is_word) rfl
  refine ⟨fd, F.ok scLIsWord (fun vs H Q E h => ?_) (fun cdv A outer s H vs Q E hr h => ?_), FunD.bindsN F fun _ _ _ _ _ _ us hl => match us, hl with | [_], _ => rfl, F.kp, (T.glo 45 rfl)⟩
  · obtain ⟨v, d, rfl, _⟩ := h
    rfl
  · refine ⟨_, PSs.nox (pss_one (ps_ret (pe_and (pe_callB call_isi (by rfl) (T.free 64 rfl) (by decide +kernel) (pa_cons (pv 0) (pa_cons (pe_bltn (v := .ty "str") (by rfl) (T.free 68 rfl) (by decide +kernel) rfl) pa_nil))) (pe_and (pe_cmpR op_le (pe_callB call_len (by rfl) (T.free 65 rfl) PySem.boot_len (pa_cons (pv 0) pa_nil)) pe_int (nomark _)) (pe_one (pe_callB (cr_all rfl) (by rfl) (T.free 59 rfl) (by decide +kernel) (pa_cons (pe_lc (own := [("sign", 1)]) (g := gName 1) (tt := tYes) (te := tChain rLeTx rLeTx (tC (.str " ")) (tVar 1) (tC (.str "~"))) (by rfl) scLIsWord.nd (pi_str (pv 0))
 (blkOk_by (own := [("sign", 1)]) (N := ["thing", "sign"]) (sc := defScope s__law_is_word) (by decide +kernel)) (fun _ _ _ _ _ => pg_name (i := 1) scLIsWord.nd rfl (Or.inl rfl)) (fun _ _ _ _ _ => pts_nil) (fun _ _ _ _ _ => (pe_chain op_le_str op_le_str pe_str (pv 1) pe_str))) pa_nil))))))), ?_⟩
    obtain ⟨v, d, rfl, hd, hs, hQ⟩ := h
    refine isx_go (kx_str d) (fun Q q => ⟨v, rfl, q⟩) hd ⟨_, rfl, ite2 (fun e => ?_) (fun e => ?_)⟩
    · cases d with
      | str x =>
        obtain rfl := Dx.str_inv hd
        have hs' : x.length ≤ 10000 := hs
        have wx' : wordD (.str x) = (decide (x.length ≤ 40) && PrOk x) := wordX_pr x
        refine ⟨_, rfl, _, _, rfl, (show LenV K (.str x) H x.length from ⟨Nat.le_trans hs' (by decide), rfl⟩), _, _, rfl, rfl, _, rfl, ite2 (fun e1 => ?_) (fun e1 => ?_)⟩
        · have l1 : x.length ≤ 40 := by
            have z := of_decide_eq_true e1
            omega
          rw [wx', decide_eq_true l1, Bool.true_and] at hQ
          refine ⟨_, rfl, x, rfl, fun D nD => ?_⟩
          refine lc_gen (σ := [some (.str x), none]) (vs := [1]) (walk_str (z := x)) nD (fun i acc H' => Same H H' ∧ acc = ((x.cps.toList.take i).map prC).map V.bl) ⟨Same.refl H, rfl⟩ (fun _ _ _ _ _ => True.intro) ?_ ?_
          · rintro i acc y H1 H2 hi l e2 ⟨sm, rfl⟩ ⟨rfl, c, hc, rfl⟩
            have hc' : x.cps.toList[i]? = some c := by rw [Array.getElem?_toList]; exact hc
            refine ⟨rfl, ?_⟩
            simp only [tYes, if_true]
            have h1 : (!decide ((⟨#[c]⟩ : Str).cps.toList < (Str.ofString " ").cps.toList)) = decide (32 ≤ c) := le_one 32 c
            have h2 : (!decide ((Str.ofString "~").cps.toList < (⟨#[c]⟩ : Str).cps.toList)) = decide (c ≤ 126) := le_one c 126
            have li : i < 1000 := by have : x.cps.size ≤ 40 := l1; omega
            refine ⟨_, rfl, _, _, rfl, rfl, _, rfl, ?_⟩
            rw [h1]
            refine ite2 (fun z => ⟨_, _, rfl, rfl, ?_⟩) (fun z => ?_)
            · rw [h2]
              have pf : decide (c ≤ 126) = prC c := by unfold prC; rw [z, Bool.true_and]
              rw [pf]
              exact lc_put l (by omega) e2 ⟨sm, by rw [List.take_succ, hc', List.map_append, List.map_append]; rfl⟩
            · have pf : prC c = false := by unfold prC; rw [Bool.eq_false_iff.mpr z, Bool.false_and]
              exact lc_put l (by omega) e2 ⟨sm, by rw [List.take_succ, hc', List.map_append, List.map_append]; show _ = _ ++ [V.bl (prC c)]; rw [pf]⟩
          · rintro acc H2 l e2 ⟨sm, rfl⟩
            rw [List.take_of_length_le (by simp)] at e2
            refine ⟨D, x.cps.toList.map prC, rfl, sq_of e2, ?_⟩
            have z : PrOk x = (x.cps.toList.map prC).all id := by
              unfold PrOk
              rw [List.all_map, ← Array.all_toList]
              rfl
            rw [← z]
            exact hQ H2 (sm.trans same_delH)
        · have l1 : ¬ x.length ≤ 40 := fun z => e1 (decide_eq_true (by omega))
          rw [wx', decide_eq_false l1, Bool.false_and] at hQ
          exact hQ H (Same.refl H)
      | _ => cases e
    · cases d <;> first | exact hQ H (Same.refl H) | exact absurd rfl e
theorem ok_lisrow (T : Tx K w mg) : Has P w K mg base CX0 2 "_law_is_row" ["thing"] spRow := by
  obtain ⟨fd, F⟩ := T.c.def_ 27 (d := d__law_is_row) rfl
  have Hiw := ok_lisword (P := P) (w := w) (base := base) T
  refine ⟨fd, F.ok scLIsRow (fun vs H Q E h => ?_) (fun cdv A outer s H vs Q E hr h => ?_), FunD.bindsN F fun _ _ _ _ _ _ us hl => match us, hl with | [_], _ => rfl, F.kp, (T.glo 46 rfl)⟩
  · obtain ⟨v, d, rfl, _⟩ := h
    rfl
  · refine ⟨_, PSs.nox (pss_one (ps_ret (pe_and (pe_callB call_isi (by rfl) (T.free 64 rfl) (by decide +kernel) (pa_cons (pv 0) (pa_cons (pe_bltn (v := .ty "tuple") (by rfl) (T.free 69 rfl) (by decide +kernel) rfl) pa_nil))) (pe_and (pe_cmpR op_le (pe_callB call_len (by rfl) (T.free 65 rfl) PySem.boot_len (pa_cons (pv 0) pa_nil)) pe_int (nomark _)) (pe_one (pe_callB (cr_all rfl) (by rfl) (T.free 59 rfl) (by decide +kernel) (pa_cons (pe_lc (own := [("word", 1)]) (g := gName 1) (tt := tYes) (te := tCall spLIsWord [] (fun _ _ _ => False) (tCons (tVar 1) tNil)) (by rfl) scLIsRow.nd (pi_tup (pv 0))
 (blkOk_by (own := [("word", 1)]) (N := ["thing", "word"]) (sc := defScope s__law_is_row) (by decide +kernel)) (fun _ _ _ _ _ => pg_name (i := 1) scLIsRow.nd rfl (Or.inl rfl)) (fun _ _ _ _ _ => pts_nil) (fun _ _ _ _ _ => (pe_has Hiw (hr.mono (by decide)) pass0 (pa_cons (pv 1) pa_nil)))) pa_nil))))))), ?_⟩
    obtain ⟨v, d, rfl, hd, hs, hQ⟩ := h
    refine isx_go (kx_tup d) (fun Q q => ⟨v, rfl, q⟩) hd ⟨_, rfl, ite2 (fun e => ?_) (fun e => ?_)⟩
    · obtain ⟨ds, rfl⟩ := isTup_tup e
      obtain ⟨a, us, rfl, ha, hr'⟩ := Dx.tup_inv hd
      have lu := dxAll_len hr'
      refine ⟨_, rfl, _, _, rfl, .inr ⟨us, st_of ha, rfl⟩, _, _, rfl, rfl, _, rfl, ite2 (fun e1 => ?_) (fun e1 => ?_)⟩
      · have l4 : ds.length ≤ 400 := by
          have z := of_decide_eq_true e1
          omega
        refine ⟨_, rfl, a, rfl, ⟨_, st_of ha⟩, fun D nD => ?_⟩
        refine lc_gen (σ := [some (.ref a), none]) (vs := [1]) (walk_tup (K := K) (a := a) (xs := us)) nD (fun i acc H' => Same H H' ∧ acc = (ds.take i).map fun d => V.bl (wordD d)) ⟨Same.refl H, rfl⟩ (fun i acc H' _ z => st_of (same_delH _ _ (z.1 _ _ ha))) ?_ ?_
        · rintro i acc x H1 H2 hi l e2 ⟨sm, rfl⟩ ⟨rfl, hx⟩
          have di : ds[i]? = some ds[i] := List.getElem?_eq_getElem (by omega)
          refine ⟨rfl, ?_⟩
          simp only [tYes, if_true]
          refine ⟨_, rfl, x, ds[i], rfl, Dx.same (sm.trans same_delH) _ _ (DxAll.at hr' hx di), hs ds rfl _ (List.getElem_mem (by omega)), fun H5 s5 => ?_⟩
          exact lc_put l (by omega) (s5 _ _ e2) ⟨sm.trans (same_del s5), by rw [List.take_succ, di, List.map_append]; rfl⟩
        · rintro acc H2 l e2 ⟨sm, rfl⟩
          rw [lu, List.take_length] at e2
          refine ⟨D, ds.map wordD, rfl, sq_of (by rw [List.map_map]; exact e2), ?_⟩
          have z : rowD (.tuple ds) = (ds.map wordD).all id := by
            show (decide (ds.length ≤ 400) && ds.all wordD) = _
            rw [decide_eq_true l4, Bool.true_and, List.all_map]
            rfl
          rw [← z]
          exact hQ H2 (sm.trans same_delH)
      · have z : rowD (.tuple ds) = false := by
          show (decide (ds.length ≤ 400) && _) = false
          rw [decide_eq_false fun q => e1 (decide_eq_true (by omega)), Bool.false_and]
        rw [z] at hQ
        exact hQ H (Same.refl H)
    · have z : rowD d = false := by cases d <;> first | rfl | exact absurd rfl e
      rw [z] at hQ
      exact hQ H (Same.refl H)
theorem ok_lisorder (T : Tx K w mg) : Has P w K mg base CX0 1 "_law_is_order" ["thing", "many"] spLIsOrder := by
  obtain ⟨fd, F⟩ := T.c.def_ 28 (d := d__law_is_order) rfl
  refine ⟨fd, F.ok scLIsOrder (fun vs H Q E h => ?_) (fun cdv A outer s H vs Q E hr h => ?_), FunD.bindsN F fun _ _ _ _ _ _ us hl => match us, hl with | [_, _], _ => rfl, F.kp, (T.glo 47 rfl)⟩
  · obtain ⟨v, d, m, rfl, _⟩ := h
    rfl
  · refine ⟨_, PSs.nox (pss_cons (ps_if (PW.pt (pw_or (pt_not (pt_val (pe_callB call_isi (by rfl) (T.free 64 rfl) (by decide +kernel) (pa_cons (pv 0) (pa_cons (pe_bltn (v := .ty "tuple") (by rfl) (T.free 69 rfl) (by decide +kernel) rfl) pa_nil))))) (pw_or1 (pt_not (pt_chain op_le op_le pe_int (pe_callB call_len (by rfl) (T.free 65 rfl) PySem.boot_len (pa_cons (pv 0) pa_nil)) pe_int)))))
 (pss_one (ps_ret pe_bl))
 pss_nil)
 (pss_cons (ps_for PassesOwn.never rfl (pi_tup (pv 0)) (pg_name (i := 2) scLIsOrder.nd rfl (Or.inl rfl))
 (pss_one (ps_if (PW.pt (pw_or (pt_not (pt_val (pe_callB call_isi (by rfl) (T.free 64 rfl) (by decide +kernel) (pa_cons (pv 2) (pa_cons (pe_bltn (v := .ty "int") (by rfl) (T.free 63 rfl) (by decide +kernel) rfl) pa_nil))))) (pw_or (pt_val (pe_callB call_isi (by rfl) (T.free 64 rfl) (by decide +kernel) (pa_cons (pv 2) (pa_cons (pe_bltn (v := .ty "bool") (by rfl) (T.free 60 rfl) (by decide +kernel) rfl) pa_nil)))) (pw_or1 (pt_not (pt_chain op_le op_lt pe_int (pv 2) (pv 1)))))))
 (pss_one (ps_ret pe_bl))
 pss_nil)))
 (pss_one (ps_ret pe_bl)))), ?_⟩
    obtain ⟨v, d, m, rfl, hd, hQ⟩ := h
    refine isx_go (kx_tup d) (fun Q q => ⟨v, rfl, q⟩) hd ?_
    cases d with
    | tuple ds =>
      obtain ⟨a, us, rfl, ha, hr'⟩ := Dx.tup_inv hd
      have lu := dxAll_len hr'
      refine ⟨_, rfl, iteF ?_⟩
      have no : ¬ (1 ≤ ds.length ∧ ds.length ≤ 40) → Q (.bl false) H := fun n => by
        have z : orderD m (.tuple ds) = false := by
          show (decide (1 ≤ ds.length) && (decide (ds.length ≤ 40) && _)) = false
          by_cases h1 : 1 ≤ ds.length
          · rw [decide_eq_false (fun h2 : ds.length ≤ 40 => n ⟨h1, h2⟩), Bool.false_and, Bool.and_false]
          · rw [decide_eq_false h1, Bool.false_and]
        rw [z] at hQ
        exact hQ
      refine ⟨_, rfl, _, _, rfl, .inr ⟨us, st_of ha, rfl⟩, _, _, rfl, rfl, _, rfl, ?_⟩
      by_cases l1 : (1 : Int) ≤ ((us.length : Nat) : Int)
      rotate_left
      · rw [decide_eq_false l1]
        exact iteF ⟨_, rfl, iteT (no fun h => l1 (by omega))⟩
      rw [decide_eq_true l1]
      refine iteT ⟨_, _, rfl, rfl, _, rfl, ?_⟩
      by_cases l2 : ((us.length : Nat) : Int) ≤ 40
      · rw [decide_eq_true l2]
        refine iteF ?_
        have od : orderD m (.tuple ds) = ds.all (fromTo 0 (m - 1)) := by
          show (decide (1 ≤ ds.length) && (decide (ds.length ≤ 40) && _)) = _
          rw [decide_eq_true (by omega), decide_eq_true (by omega), Bool.true_and, Bool.true_and]
        rw [od] at hQ
        refine ⟨_, rfl, a, rfl, ⟨_, st_of ha⟩, for_it (walk_tup (K := K) (a := a) (xs := us)) (fun i σ H' => H' = H ∧ (∃ o2, σ = [some (.ref a), some (.int m), o2]) ∧ ∀ x ∈ ds.take i, fromTo 0 (m - 1) x = true) ⟨rfl, ⟨_, rfl⟩, fun x h => absurd h (by simp)⟩ (fun i σ H' _ z => by rw [z.1]; exact st_of ha) ?_ ?_⟩
        · rintro i x σ H1 H2 hi ⟨rfl, ⟨o2, rfl⟩, al⟩ ⟨rfl, hx⟩
          have hi' : i < ds.length := by omega
          have di : ds[i]? = some ds[i] := List.getElem?_eq_getElem hi'
          have hd' := DxAll.at hr' hx di
          have stop : fromTo 0 (m - 1) ds[i] = false → Q (.bl false) H2 := fun f => by
            have z : ds.all (fromTo 0 (m - 1)) = false := by
              rw [List.all_eq_false]
              exact ⟨_, List.getElem_mem hi', by rw [f]; decide⟩
            rw [z] at hQ
            exact hQ
          have al' : fromTo 0 (m - 1) ds[i] = true → ∀ y ∈ ds.take (i + 1), fromTo 0 (m - 1) y = true := fun f y hy => by
            rw [List.take_succ, di] at hy
            rcases List.mem_append.mp hy with h | h
            · exact al y h
            · have e : y = ds[i] := by simpa using h
              rw [e]
              exact f
          have fc := fromTo_cases m ds[i]
          generalize ds[i] = d at hd' stop al' fc
          refine isx_go (kx_int d) (fun Q q => ⟨_, rfl, q⟩) hd' ?_
          rcases fc with ⟨n, rfl, en⟩ | ⟨ni, ef⟩
          · obtain rfl := Dx.int_inv hd'
            refine ⟨_, rfl, iteF ?_⟩
            refine isx_go (kx_bool _) (fun Q q => ⟨_, rfl, q⟩) hd' ⟨_, rfl, iteF ?_⟩
            refine ⟨_, rfl, _, _, rfl, rfl, _, rfl, ?_⟩
            by_cases e3 : (0 : Int) ≤ n
            · rw [decide_eq_true e3]
              refine iteT ⟨_, rfl, _, _, rfl, rfl, _, rfl, ?_⟩
              by_cases nm : n < m
              · rw [decide_eq_true nm]
                exact iteF ⟨rfl, ⟨_, rfl⟩, al' (by rw [en, decide_eq_true e3, decide_eq_true nm]; rfl)⟩
              · rw [decide_eq_false nm]
                exact iteT (stop (by rw [en, decide_eq_false nm, Bool.and_false]))
            · rw [decide_eq_false e3]
              exact iteF ⟨_, rfl, iteT (stop (by rw [en, decide_eq_false e3, Bool.false_and]))⟩
          · cases d with
            | int n => cases ni
            | bool b => exact ⟨_, rfl, iteF (isx_go (kx_bool _) (fun Q q => ⟨_, rfl, q⟩) hd' ⟨_, rfl, iteT (stop ef)⟩)⟩
            | _ => exact ⟨_, rfl, iteT (stop ef)⟩
        · rintro σ H1 ⟨rfl, ⟨o2, rfl⟩, al⟩
          have z : ds.all (fromTo 0 (m - 1)) = true := by
            rw [List.all_eq_true]
            intro y hy
            exact al y (by rw [lu, List.take_length]; exact hy)
          rw [z] at hQ
          exact hQ
      · rw [decide_eq_false l2]
        exact iteT (no fun h => l2 (by omega))
    | _ => exact ⟨_, rfl, iteT hQ⟩
end
end K03

set_option maxHeartbeats 4000000
namespace K03
open PySem PySem.Spec PyProof.Rows L2 V1 V2 V3 V6 LamX NdefX
open Evl (pss_cut tCut sq_of st_of)
/-- a house of the law's own -/
structure Pl where
  sort : Nat
  wd : Str
  bad : Int
  wild : PyData
def tellD (p : Pl) : PyData → PyData
  | .tuple ds => if p.sort = 0 ∧ ((ds.length : Nat) : Int) = p.bad then p.wild else if p.sort = 2 then .str (natS ds.length) else .str p.wd
  | _ => .str (Str.ofString "no row")
theorem tellD_tup (p : Pl) (ds : List PyData) : tellD p (.tuple ds) = if p.sort = 0 ∧ ((ds.length : Nat) : Int) = p.bad then p.wild else if p.sort = 2 then .str (natS ds.length) else .str p.wd := rfl
section
variable [CurK]
/-- a Table -/
def TbV (H : Hp) (v : V) : Prop := ∃ q dx fs, v = .ref q ∧ H q = some (.ins (He.ga K "Table") dx fs)
theorem TbV.same {H H' : Hp} {v : V} (s : Same H H') (h : TbV H v) : TbV H' v := by
  obtain ⟨q, dx, fs, e, h⟩ := h
  exact ⟨q, dx, fs, e, s _ _ h⟩
end
def PlAt [CurK] (H : Hp) (a : Addr) (p : Pl) : Prop := ∃ wv, H a = some (.lst [.int ((p.sort : Nat) : Int), .str p.wd, .int p.bad, wv]) ∧ Dx H wv p.wild ∧ (p.wild = objD → TbV H wv)
def spTell [CurK] : Sp := fun vs H Q _ => ∃ a v p d, vs = [.ref a, v] ∧ PlAt H a p ∧ Dx H v d ∧ (∀ ds, d = .tuple ds → ds.length ≤ 1000) ∧ ∀ tv, Dx H tv (tellD p d) → (tellD p d = objD → TbV H tv) → Q tv H
theorem scTell : FnScope ["plain", "row"] ["plain", "row"] (defScope s__law_tell) := ⟨rfl, rfl, rfl, by decide +kernel, rfl, by decide +kernel, by decide +kernel⟩
theorem log_small {n : Nat} (h : n ≤ 1000) : ((n : Nat) : Int).natAbs.log2 < 1920 := by
  show n.log2 < 1920
  have z : n.log2 ≤ n := Nat.log2_le_self n
  omega
section
variable [CurK] {P : Program} {w : World} {mg : Str → Option Value} {base : Heap}
theorem ok_tell (T : Tx K w mg) : Has P w K mg base CX0 1 "_law_tell" ["plain", "row"] spTell := by
  obtain ⟨fd, F⟩ := T.c.def_ 31 (d := d__law_tell) rfl
  refine ⟨fd, F.ok scTell (fun vs H Q E h => ?_) (fun cdv A outer s H vs Q E hr h => ?_), FunD.bindsN F fun _ _ _ _ _ _ us hl => match us, hl with | [_, _], _ => rfl, F.kp, (T.glo 50 rfl)⟩
  · obtain ⟨a, v, p, d, rfl, _⟩ := h
    rfl
  · refine ⟨_, PSs.nox (pss_cons (ps_if (pt_not (pt_val (pe_callB call_isi (by rfl) (T.free 64 rfl) (by decide +kernel) (pa_cons (pv 1) (pa_cons (pe_bltn (v := .ty "tuple") (by rfl) (T.free 69 rfl) (by decide +kernel) rfl) pa_nil)))))
 (pss_one (ps_ret pe_str))
 pss_nil)
 (pss_cons (ps_if (PW.pt (pw_and (pt_cmpR op_eq (pe_ix ix_list (pv 0) pe_int (fun _ _ => rfl)) pe_int (nomark _)) (pw_and1 (pt_cmpR op_eq (pe_callB call_len (by rfl) (T.free 65 rfl) PySem.boot_len (pa_cons (pv 1) pa_nil)) (pe_ix ix_list (pv 0) pe_int (fun _ _ => rfl)) (nomark _)))))
 (pss_one (ps_ret (pe_ix ix_list (pv 0) pe_int (fun _ _ => rfl))))
 pss_nil)
 (pss_cons (ps_if (pt_cmpR op_eq (pe_ix ix_list (pv 0) pe_int (fun _ _ => rfl)) pe_int (nomark _))
 (pss_one (ps_ret (pe_callTy call_str_int (by rfl) (T.free 68 rfl) (by decide +kernel) (pa_cons (pe_callB call_len (by rfl) (T.free 65 rfl) PySem.boot_len (pa_cons (pv 1) pa_nil)) pa_nil))))
 pss_nil)
 (pss_one (ps_ret (pe_ix ix_list (pv 0) pe_int (fun _ _ => rfl))))))), ?_⟩
    obtain ⟨a, v, p, d, rfl, ⟨wv, ha, hwv, htb⟩, hd, hl, hQ⟩ := h
    refine isx_go (kx_tup d) (fun Q q => ⟨v, rfl, q⟩) hd ⟨_, rfl, ?_⟩
    cases d with
    | tuple ds =>
      obtain ⟨c, us, rfl, hc, hr'⟩ := Dx.tup_inv hd
      have lu := dxAll_len hr'
      have l0 := hl ds rfl
      refine iteF ?_
      refine ix0 rfl ha rfl ⟨rfl, _, rfl, ?_⟩
      by_cases s0 : p.sort = 0
      · rw [show decide (V.int ((p.sort : Nat) : Int) = V.int 0) = true from decide_eq_true (by rw [s0]; rfl)]
        refine iteT ⟨_, rfl, _, _, rfl, .inr ⟨us, st_of hc, rfl⟩, ix0 rfl ha rfl ⟨rfl, _, rfl, ?_⟩⟩
        by_cases b : ((ds.length : Nat) : Int) = p.bad
        · rw [show decide (V.int ((us.length : Nat) : Int) = V.int p.bad) = true from decide_eq_true (by rw [lu, b])]
          have z : tellD p (.tuple ds) = p.wild := by rw [tellD_tup, if_pos ⟨s0, b⟩]
          exact iteT (ix0 rfl ha rfl (hQ _ (by rw [z]; exact hwv) (by rw [z]; exact htb)))
        · rw [show decide (V.int ((us.length : Nat) : Int) = V.int p.bad) = false from decide_eq_false fun z => b (by have := V.int.inj z; omega)]
          refine iteF ?_
          refine ix0 rfl ha rfl ⟨rfl, _, rfl, ?_⟩
          by_cases s2 : p.sort = 2
          · rw [show decide (V.int ((p.sort : Nat) : Int) = V.int 2) = true from decide_eq_true (by rw [s2]; rfl)]
            refine iteT ⟨_, rfl, _, _, rfl, .inr ⟨us, st_of hc, rfl⟩, _, rfl, log_small (by omega), hQ _ (by rw [tellD_tup, if_neg (fun z => b z.2), if_pos s2, lu]; exact .str _) (by rw [tellD_tup, if_neg (fun z => b z.2), if_pos s2]; intro z; cases z)⟩
          · rw [show decide (V.int ((p.sort : Nat) : Int) = V.int 2) = false from decide_eq_false fun z => s2 (by have := V.int.inj z; omega)]
            exact iteF (ix0 rfl ha rfl (hQ _ (by rw [tellD_tup, if_neg (fun z => b z.2), if_neg s2]; exact .str _) (by rw [tellD_tup, if_neg (fun z => b z.2), if_neg s2]; intro z; cases z)))
      · rw [show decide (V.int ((p.sort : Nat) : Int) = V.int 0) = false from decide_eq_false fun z => s0 (by have := V.int.inj z; omega)]
        refine iteF ?_
        refine ix0 rfl ha rfl ⟨rfl, _, rfl, ?_⟩
        by_cases s2 : p.sort = 2
        · rw [show decide (V.int ((p.sort : Nat) : Int) = V.int 2) = true from decide_eq_true (by rw [s2]; rfl)]
          refine iteT ⟨_, rfl, _, _, rfl, .inr ⟨us, st_of hc, rfl⟩, _, rfl, log_small (by omega), hQ _ (by rw [tellD_tup, if_neg (fun z => s0 z.1), if_pos s2, lu]; exact .str _) (by rw [tellD_tup, if_neg (fun z => s0 z.1), if_pos s2]; intro z; cases z)⟩
        · rw [show decide (V.int ((p.sort : Nat) : Int) = V.int 2) = false from decide_eq_false fun z => s2 (by have := V.int.inj z; omega)]
          exact iteF (ix0 rfl ha rfl (hQ _ (by rw [tellD_tup, if_neg (fun z => s0 z.1), if_neg s2]; exact .str _) (by rw [tellD_tup, if_neg (fun z => s0 z.1), if_neg s2]; intro z; cases z)))
    | _ => exact iteT (hQ _ (.str _) (fun z => nomatch z))
end
end K03

set_option maxHeartbeats 4000000
namespace K03
open PySem PySem.Spec PyProof.Rows L2 V1 V2 V3 V6 LamX NdefX
open Evl (pss_cut tCut sq_of st_of)
section
variable [CurK]
def spInteger : Sp := fun vs H Q _ => ∃ v d, vs = [v] ∧ Dx H v d ∧ Q (.bl (isInt d)) H
def spFromTo : Sp := fun vs H Q _ => ∃ v d lo hi, vs = [v, .int lo, .int hi] ∧ Dx H v d ∧ Q (.bl (fromTo lo hi d)) H
def spHouse : Sp := fun vs H Q _ => ∃ v d m, vs = [v, .int m] ∧ Dx H v d ∧ Q (.bl (fromTo 0 (m - 1) d)) H
def spOrder : Sp := fun vs H Q _ => ∃ v d m, vs = [v, .int m] ∧ Dx H v d ∧ ∀ H', Same H H' → Q (.bl (orderD m d)) H'
end
theorem scInteger : FnScope ["thing"] ["thing"] (defScope s_is_integer) := ⟨rfl, rfl, rfl, by decide +kernel, rfl, by decide +kernel, by decide +kernel⟩
theorem scFromTo : FnScope ["thing", "least", "most"] ["thing", "least", "most"] (defScope s_is_from_to) := ⟨rfl, rfl, rfl, by decide +kernel, rfl, by decide +kernel, by decide +kernel⟩
theorem scHouse : FnScope ["thing", "many"] ["thing", "many"] (defScope s_is_house) := ⟨rfl, rfl, rfl, by decide +kernel, rfl, by decide +kernel, by decide +kernel⟩
theorem scOrder : FnScope ["thing", "many", "owner"] ["thing", "many"] (defScope s_is_order) := ⟨rfl, rfl, rfl, by decide +kernel, rfl, by decide +kernel, by decide +kernel⟩
section
variable [CurK] {P : Program} {w : World} {mg : Str → Option Value} {base : Heap}
theorem ok_integer (T : Tx K w mg) : Has P w K mg base CX0 1 "is_integer" ["thing"] spInteger := by
  obtain ⟨fd, F⟩ := T.c.def_ 0 (d := d_is_integer) rfl
  refine ⟨fd, F.ok scInteger (fun vs H Q E h => ?_) (fun cdv A outer s H vs Q E hr h => ?_), FunD.bindsN F fun _ _ _ _ _ _ us hl => match us, hl with | [_], _ => rfl, F.kp, (T.glo 3 rfl)⟩
  · obtain ⟨v, d, rfl, _⟩ := h
    rfl
  · refine ⟨_, PSs.nox (pss_one (ps_ret (pe_and (pe_callB call_isi (by rfl) (T.free 64 rfl) (by decide +kernel) (pa_cons (pv 0) (pa_cons (pe_bltn (v := .ty "int") (by rfl) (T.free 63 rfl) (by decide +kernel) rfl) pa_nil))) (pe_one (pe_not (pe_callB call_isi (by rfl) (T.free 64 rfl) (by decide +kernel) (pa_cons (pv 0) (pa_cons (pe_bltn (v := .ty "bool") (by rfl) (T.free 60 rfl) (by decide +kernel) rfl) pa_nil)))))))), ?_⟩
    obtain ⟨v, d, rfl, hd, hQ⟩ := h
    refine isx_go (kx_int d) (fun Q q => ⟨v, rfl, q⟩) hd ⟨_, rfl, ite2 (fun e => ?_) (fun e => ?_)⟩
    · refine isx_go (kx_bool d) (fun Q q => ⟨v, rfl, q⟩) hd ⟨_, rfl, ?_⟩
      cases d <;> first | exact hQ | cases e
    · cases d <;> first | exact hQ | exact absurd rfl e
theorem ok_fromTo (T : Tx K w mg) : Has P w K mg base CX0 2 "is_from_to" ["thing", "least", "most"] spFromTo := by
  obtain ⟨fd, F⟩ := T.c.def_ 1 (d := d_is_from_to) rfl
  have Hi := ok_integer (P := P) (w := w) (base := base) T
  refine ⟨fd, F.ok scFromTo (fun vs H Q E h => ?_) (fun cdv A outer s H vs Q E hr h => ?_), FunD.bindsN F fun _ _ _ _ _ _ us hl => match us, hl with | [_, _, _], _ => rfl, F.kp, (T.glo 4 rfl)⟩
  · obtain ⟨v, d, lo, hi, rfl, _⟩ := h
    rfl
  · refine ⟨_, PSs.nox (pss_one (ps_ret (pe_and (pe_has Hi (hr.mono (by decide)) pass0 (pa_cons (pv 0) pa_nil)) (pe_one (pe_chain op_le op_le (pv 1) (pv 0) (pv 2)))))), ?_⟩
    obtain ⟨v, d, lo, hi, rfl, hd, hQ⟩ := h
    refine ⟨v, rfl, v, d, rfl, hd, _, rfl, ite2 (fun e => ?_) (fun e => ?_)⟩
    · obtain ⟨n, rfl⟩ := isInt_int e
      obtain rfl := Dx.int_inv hd
      refine ⟨_, rfl, _, rfl, lo, n, rfl, rfl, _, rfl, ite2 (fun e1 => ?_) (fun e1 => ?_)⟩
      · refine ⟨_, rfl, n, hi, rfl, rfl, ?_⟩
        have z : fromTo lo hi (.int n) = decide (n ≤ hi) := by
          show (decide (lo ≤ n) && _) = _
          rw [e1, Bool.true_and]
        rw [z] at hQ
        exact hQ
      · have z : fromTo lo hi (.int n) = false := by
          show (decide (lo ≤ n) && _) = _
          rw [Bool.eq_false_iff.mpr e1, Bool.false_and]
        rw [z] at hQ
        exact hQ
    · cases d <;> first | exact hQ | exact absurd rfl e
theorem ok_house (T : Tx K w mg) : Has P w K mg base CX0 3 "is_house" ["thing", "many"] spHouse := by
  obtain ⟨fd, F⟩ := T.c.def_ 5 (d := d_is_house) rfl
  have Hf := ok_fromTo (P := P) (w := w) (base := base) T
  refine ⟨fd, F.ok scHouse (fun vs H Q E h => ?_) (fun cdv A outer s H vs Q E hr h => ?_), FunD.bindsN F fun _ _ _ _ _ _ us hl => match us, hl with | [_, _], _ => rfl, F.kp, (T.glo 8 rfl)⟩
  · obtain ⟨v, d, m, rfl, _⟩ := h
    rfl
  · refine ⟨_, PSs.nox (pss_one (ps_ret (pe_has Hf (hr.mono (by decide)) pass0 (pa_cons (pv 0) (pa_cons pe_int (pa_cons (pe_op op_sub (pv 1) pe_int) pa_nil)))))), ?_⟩
    obtain ⟨v, d, m, rfl, hd, hQ⟩ := h
    exact ⟨v, rfl, _, rfl, _, _, rfl, rfl, v, d, 0, m - 1, rfl, hd, hQ⟩
theorem ok_order (T : Tx K w mg) : Has P w K mg base CX0 4 "is_order" ["thing", "many"] spOrder := by
  obtain ⟨fd, F⟩ := T.c.def_ 6 (d := d_is_order) rfl
  have Ht := ok_tupOf (P := P) (w := w) (base := base) T
  have Hh := ok_house (P := P) (w := w) (base := base) T
  obtain ⟨tO, gO⟩ := (T.int 2 rfl)
  refine ⟨fd, F.ok scOrder (fun vs H Q E h => ?_) (fun cdv A outer s H vs Q E hr h => ?_), FunD.bindsN F fun _ _ _ _ _ _ us hl => match us, hl with | [_, _], _ => rfl, F.kp, (T.glo 9 rfl)⟩
  · obtain ⟨v, d, m, rfl, _⟩ := h
    rfl
  · refine ⟨_, PSs.nox (pss_one (ps_ret (pe_and (pe_has Ht (hr.mono (by decide)) pass0 (pa_cons (pv 0) (pa_cons pe_int (pa_cons (pe_glob (v := .int 40) (by rfl) gO ⟨_, rfl⟩) pa_nil)))) (pe_one (pe_callB (cr_all rfl) (by rfl) (T.free 59 rfl) (by decide +kernel) (pa_cons (pe_lc (own := [("owner", 2)]) (g := gName 2) (tt := tYes) (te := tCall spHouse [] (fun _ _ _ => False) (tCons (tVar 2) (tCons (tVar 1) tNil))) (by rfl) scOrder.nd (pi_tup (pv 0))
 (blkOk_by (own := [("owner", 2)]) (N := ["thing", "many", "owner"]) (sc := defScope s_is_order) (by decide +kernel)) (fun _ _ _ _ _ => pg_name (i := 2) scOrder.nd rfl (Or.inl rfl)) (fun _ _ _ _ _ => pts_nil) (fun _ _ _ _ _ => (pe_has Hh (hr.mono (by decide)) pass0 (pa_cons (pv 2) (pa_cons (pv 1) pa_nil))))) pa_nil)))))), ?_⟩
    obtain ⟨v, d, m, rfl, hd, hQ⟩ := h
    refine ⟨v, rfl, v, d, 1, 40, rfl, hd, _, rfl, ite2 (fun e => ?_) (fun e => ?_)⟩
    · obtain ⟨ds, rfl, l1, l2⟩ := tupOf_tup e
      obtain ⟨a, us, rfl, ha, hr'⟩ := Dx.tup_inv hd
      have lu := dxAll_len hr'
      have od : orderD m (.tuple ds) = ds.all (fromTo 0 (m - 1)) := by
        show (decide (1 ≤ ds.length) && (decide (ds.length ≤ 40) && _)) = _
        rw [decide_eq_true (by omega), decide_eq_true (by omega), Bool.true_and, Bool.true_and]
      rw [od] at hQ
      refine ⟨_, rfl, a, rfl, ⟨_, st_of ha⟩, fun D nD => ?_⟩
      refine lc_gen (σ := [some (.ref a), some (.int m), none]) (vs := [2]) (walk_tup (K := K) (a := a) (xs := us)) nD (fun i acc H' => Same H H' ∧ acc = (ds.take i).map fun d => V.bl (fromTo 0 (m - 1) d)) ⟨Same.refl H, rfl⟩ (fun i acc H' _ z => st_of (same_delH _ _ (z.1 _ _ ha))) ?_ ?_
      · rintro i acc x H1 H2 hi l e2 ⟨sm, rfl⟩ ⟨rfl, hx⟩
        have di : ds[i]? = some ds[i] := List.getElem?_eq_getElem (by omega)
        have sm' : Same H H2 := sm.trans same_delH
        refine ⟨rfl, ?_⟩
        simp only [tYes, if_true]
        refine ⟨_, rfl, _, rfl, x, ds[i], m, rfl, Dx.same sm' _ _ (DxAll.at hr' hx di), ?_⟩
        exact lc_put l (by omega) e2 ⟨sm, by rw [List.take_succ, di, List.map_append]; rfl⟩
      · rintro acc H2 l e2 ⟨sm, rfl⟩
        rw [lu, List.take_length] at e2
        refine ⟨D, ds.map (fromTo 0 (m - 1)), rfl, sq_of (by rw [List.map_map]; exact e2), ?_⟩
        have z : ds.all (fromTo 0 (m - 1)) = (ds.map (fromTo 0 (m - 1))).all id := by
          rw [List.all_map]
          rfl
        rw [← z]
        exact hQ H2 (sm.trans same_delH)
    · have z : orderD m d = false := by
        cases d with
        | tuple ds =>
          have n : ¬ (1 ≤ ds.length ∧ ds.length ≤ 40) := fun h => e (by
            show (decide ((1 : Int) ≤ (ds.length : Int)) && decide ((ds.length : Int) ≤ 40)) = true
            rw [decide_eq_true (by omega), decide_eq_true (by omega)]
            rfl)
          show (decide (1 ≤ ds.length) && (decide (ds.length ≤ 40) && _)) = false
          by_cases h1 : 1 ≤ ds.length
          · rw [decide_eq_false (fun h2 : ds.length ≤ 40 => n ⟨h1, h2⟩), Bool.false_and, Bool.and_false]
          · rw [decide_eq_false h1, Bool.false_and]
        | _ => rfl
      have y := hQ H (Same.refl H)
      rw [z] at y
      exact y
end
/-! ### the lambda that a Voice holds -/
def lamOf : Stmt → Option (Arguments × Expr × Scope)
  | .If _ [.Return (some (.Call _ [.Lambda ps b sc _] _ _)) _] _ _ => some (ps, b, sc)
  | _ => none
def lamIn : List Stmt → Option (Arguments × Expr × Scope)
  | [] => none
  | s :: r => (lamOf s).or (lamIn r)
def noLam : Arguments × Expr × Scope := (defArgs s__law_house, .Constant .none 0 ⟨0, 0, 0, 0⟩, defScope s__law_house)
def lamT : Arguments × Expr × Scope := (lamIn (defBody s__law_house)).getD noLam
def lamQ : Str := (("_law_house" : Str) ++ ".<locals>.") ++ "<lambda>"
def mkL (c c' : Addr) : V5.LF := ⟨lamQ, lamT.1, lamT.2.1, lamT.2.2, [("plain", c)], c'⟩
/-- a row -/
structure RowOk (row : List Str) : Prop where
  ws : ∀ x ∈ row, wordX x = true
  len : row.length ≤ 400
def spLam [CurK] (v : V) : Sp := fun vs H Q _ => ∃ a p x d, v = .ref a ∧ vs = [x] ∧ PlAt H a p ∧ Dx H x d ∧ (∀ ds, d = .tuple ds → ds.length ≤ 1000) ∧ ∀ tv, Dx H tv (tellD p d) → Q tv H
section
variable [CurK] {P : Program} {w : World} {mg : Str → Option Value} {base : Heap}
theorem lam_ok (T : Tx K w mg) : V5.LOk P w K mg base 2 mkL ["row"] spLam := by
  have Ht := ok_tell (P := P) (w := w) (base := base) T
  refine V5.lok_of (N := ["row", "plain"]) (nscope_by (by decide +kernel)) (fun cl c pm ctv us hl => match us, hl with | [_], _ => rfl) (fun v vs H Q E h => ?_) fun A outer s H vs f c c' v Q hr h => ?_
  · obtain ⟨a, p, x, d, _, rfl, _⟩ := h
    rfl
  · refine ⟨_, (pe_has Ht (hr.mono (by decide)) pass0 (pa_cons (pv 1) (pa_cons (pv 0) pa_nil))), ?_⟩
    obtain ⟨a, p, x, d, rfl, rfl, pl, hx, hl, hQ⟩ := h
    exact ⟨_, rfl, _, rfl, a, x, p, d, rfl, pl, hx, hl, fun tv dt _ => hQ tv dt⟩
end
end K03

set_option maxHeartbeats 4000000
namespace K03
open PySem PySem.Spec PyProof.Rows L2 V1 V2 V3 V6 LamX NdefX
open Evl (pss_cut tCut sq_of st_of)
theorem rowD_ok {row : List Str} (h : RowOk row) : rowD (mkR row) = true := by
  show (decide ((row.map PyData.str).length ≤ 400) && (row.map PyData.str).all wordD) = true
  rw [List.length_map, decide_eq_true h.len, Bool.true_and, List.all_map, List.all_eq_true]
  exact fun x hx => h.ws x hx
theorem row_shD {row : List Str} (h : RowOk row) : ∀ ds, mkR row = .tuple ds → ∀ x ∈ ds, shortD x := fun ds e x hx => by
  cases e
  obtain ⟨y, hy, rfl⟩ := List.mem_map.mp hx
  have := wx_len (h.ws y hy)
  show y.length ≤ 10000
  omega
def tellG (b : Bd) (row : List Str) : Str := (b.run row fun _ => none).1.getD (Str.ofString "")
theorem words_tx : ∀ {ds : List PyData}, ds.all wordD = true → ds = (txOf (.tuple ds)).map PyData.str
  | [], _ => rfl
  | d :: ds, h => by
    have z : wordD d = true ∧ ds.all wordD = true := by simpa using h
    cases d with
    | str x => exact congrArg (PyData.str x :: ·) (words_tx z.2)
    | _ => exact absurd z.1 (by simp [wordD])
theorem row_of {d : PyData} (h : rowD d = true) : ∃ r, d = mkR r ∧ RowOk r := by
  cases d with
  | tuple ds =>
    have z : ds.length ≤ 400 ∧ ds.all wordD = true := by simpa [rowD] using h
    have e := words_tx z.2
    generalize txOf (.tuple ds) = r at e
    subst e
    refine ⟨r, rfl, fun x hx => ?_, by simpa using z.1⟩
    have q := List.all_eq_true.mp z.2 _ (List.mem_map.mpr ⟨x, hx, rfl⟩)
    exact q
  | _ => cases h
theorem row_len {d : PyData} (h : rowD d = true) : ∀ ds, d = .tuple ds → ds.length ≤ 1000 := fun ds e => by
  obtain ⟨r, er, ro⟩ := row_of h
  rw [e] at er
  cases er
  have := ro.len
  rw [List.length_map]
  omega
/-- ("say", ("many",)) -/
def bMany : Bd := .cons (.say .many) .nil
theorem tell_many (row : List Str) : tellG bMany row = natS row.length := rfl
def shD (d : PyData) : Prop := ∀ ds, d = .tuple ds → ∀ x ∈ ds, shortD x
section
variable [CurK]
def PgAt (H : Hp) (q : Addr) (b : Bd) : Prop := ∃ dx v, H q = some (.ins (He.ga K "Program") dx [("statements", v)]) ∧ Dq H v (.tuple b.ds)
def VcAt (H : Hp) (q a : Addr) (p : Pl) : Prop := ∃ dx f c c', H q = some (.ins (He.ga K "Voice") dx [("telling", .ref f)]) ∧ H f = some (V5.LamO f (mkL c c')) ∧ H c' = some (CodeO c' lamQ) ∧ H c = some (V5.CellO c (.ref a)) ∧ PlAt (delH H c) a p
def HsAt (H : Hp) (v : V) (p : Pl) : Prop :=
  (p.sort = 1 ∧ ∃ q, v = .ref q ∧ TAt H q [] p.wd) ∨ (p.sort = 2 ∧ ∃ q, v = .ref q ∧ PgAt H q bMany) ∨ (p.sort = 0 ∧ ∃ q a, v = .ref q ∧ VcAt H q a p)
theorem PlAt.same {H H' : Hp} {a : Addr} {p : Pl} (s : Same H H') (h : PlAt H a p) : PlAt H' a p := by
  obtain ⟨wv, h1, h2, h3⟩ := h
  exact ⟨wv, s _ _ h1, Dx.same s _ _ h2, fun z => (h3 z).same s⟩
theorem VcAt.same {H H' : Hp} {q a : Addr} {p : Pl} (s : Same H H') (h : VcAt H q a p) : VcAt H' q a p := by
  obtain ⟨dx, f, c, c', h1, h2, h3, h4, h5⟩ := h
  exact ⟨dx, f, c, c', s _ _ h1, s _ _ h2, s _ _ h3, s _ _ h4, h5.same (same_del s)⟩
theorem PgAt.same {H H' : Hp} {q : Addr} {b : Bd} (s : Same H H') (h : PgAt H q b) : PgAt H' q b := by
  obtain ⟨dx, v, h1, h2⟩ := h
  exact ⟨dx, v, s _ _ h1, Dq.same s _ _ h2⟩
theorem HsAt.same {H H' : Hp} {v : V} {p : Pl} (s : Same H H') (h : HsAt H v p) : HsAt H' v p := by
  rcases h with ⟨k, q, e, h⟩ | ⟨k, q, e, h⟩ | ⟨k, q, a, e, h⟩
  · exact .inl ⟨k, q, e, h.same s⟩
  · exact .inr (.inl ⟨k, q, e, h.same s⟩)
  · exact .inr (.inr ⟨k, q, a, e, h.same s⟩)
def spPWord : Sp := fun vs H Q E => ∃ q v d, vs = [.ref q, v] ∧ PgAt H q bMany ∧ Dx H v d ∧ shD d ∧ (rowD d = false → ∀ H', Same H H' → E (.ref (He.ga K "NoRow")) none H') ∧ ∀ row, d = mkR row → RowOk row → ∀ H', Same H H' → Q (.str (natS row.length)) H'
def spVWord : Sp := fun vs H Q E => ∃ q v a p d, vs = [.ref q, v] ∧ VcAt H q a p ∧ Dx H v d ∧ shD d ∧ (rowD d = false → ∀ H', Same H H' → E (.ref (He.ga K "NoRow")) none H') ∧ (rowD d = true → ∀ H' tv, Same H H' → Dx H' tv (tellD p d) → Q tv H')
def hsCs (K : PySem.W.Frag) [CurK] : List (Addr × Sp) := [(He.ga K "Table", spTWord), (He.ga K "Program", spPWord), (He.ga K "Voice", spVWord)]
end
theorem scVWord : FnScope ["self", "row"] ["self", "row"] (defScope s_Voiceword) := ⟨rfl, rfl, rfl, by decide +kernel, rfl, by decide +kernel, by decide +kernel⟩
theorem scPWord : FnScope ["self", "row", "said"] ["self", "row"] (defScope s_Programword) := ⟨rfl, rfl, rfl, by decide +kernel, rfl, by decide +kernel, by decide +kernel⟩
section
variable [CurK] {P : Program} {w : World} {mg : Str → Option Value} {base : Heap}
theorem ok_vword (T : Tx K w mg) : ∃ fd, FnOk P w K mg base (L2.CX P w) 4 (He.ma K (He.ga K "Voice") "word") fd ["self", "row"] spVWord ∧ Binds K fd ["self", "row"] [] := by
  obtain ⟨fd, F⟩ := T.c.def_ 45 (d := d_Voiceword) rfl
  have Hr := ok_row (P := P) (w := w) (base := base) T
  have L := lam_ok (P := P) (w := w) (base := base) T
  refine ⟨fd, F.ok scVWord (fun vs H Q E h => ?_) (fun cdv A outer s H vs Q E hr h => ?_), FunD.bindsN F fun _ _ _ _ _ _ us hl => match us, hl with | [_, _], _ => rfl⟩
  · obtain ⟨q, v, a, p, d, rfl, _⟩ := h
    rfl
  · refine ⟨_, (pss_cons (ps_if (pt_not (pt_val (pe_has Hr (hr.mono (by decide)) pass0 (pa_cons (pv 1) pa_nil))))
 (pss_one (ps_raise rfl (takes_of rfl rfl rfl rfl) (pmk_mk0 PySem.F.excBase_ValueError (T.exq 75 rfl).1 (T.glo 13 rfl) (T.exq 75 rfl).2 (T.rai 75 rfl) (by rfl))))
 pss_nil)
 (pss_one (ps_ret (V5.pe_fldL (pv 0) L (hr.mono (by decide)) (pa_cons (pv 1) pa_nil))))), ?_⟩
    obtain ⟨q, v, a, p, d, rfl, va, hv, sh, hE, hQ⟩ := h
    have cS : Cls K (He.ga K "Voice") := He.cls_ok (T.c.fact 87 rfl)
    have n1 : NoAttr K (He.ga K "Voice") "telling" := He.noat_ok (T.c.fact 88 rfl)
    refine ⟨_, rfl, v, d, rfl, hv, sh, fun H1 s1 => ⟨_, rfl, ite2 (fun e => ?_) (fun e => ?_)⟩⟩
    · exact hE (by simpa using e) H1 s1
    have e1 : rowD d = true := by simpa using e
    have ln := row_len e1
    obtain ⟨dx, f, c, c', h1, h2, h3, h4, h5⟩ := va.same s1
    have hv1 := Dx.same s1 _ _ hv
    refine ⟨_, rfl, q, _, dx, _, f, c, c', .ref a, rfl, h1, cS, n1, rfl, h2, _, rfl, h2, h3, h4, a, p, v, d, rfl, rfl, h5, ?_, ln, fun tv dt n => hQ e1 _ tv ?_ (Dx.same (same_new n) _ _ dt)⟩
    · obtain ⟨row, rfl, ro⟩ := row_of e1
      obtain ⟨r, us, rfl, hr', hus⟩ := Dx.tup_inv hv1
      have rc : r ≠ c := fun z => by
        rw [z, h4] at hr'
        exact V5.cellO_not.1 _ (Option.some.inj hr')
      refine .tup (by rw [delH_ne rc]; exact hr') ?_
      rw [row_texts (by rw [List.all_map, List.all_eq_true]; exact fun x hx => ro.ws x hx) hus]
      rw [show txOf (.tuple (row.map PyData.str)) = row from txOf_row row]
      have z : ∀ (G : Hp) (ys : List Str), DxAll G (ys.map V.str) (ys.map PyData.str) := fun G ys => by
        induction ys with
        | nil => exact .nil
        | cons y ys ih => exact .cons (.str y) ih
      exact z _ _
    · refine s1.trans fun b o e => ?_
      by_cases bc : b = c
      · subst bc
        rw [h4] at e
        cases e
        exact upd_same
      · rw [upd_ne bc, delH_ne bc]
        exact e
theorem ok_pword (T : Tx K w mg) : ∃ fd, FnOk P w K mg base (L2.CX P w) 44 (He.ma K (He.ga K "Program") "word") fd ["self", "row"] spPWord ∧ Binds K fd ["self", "row"] [] := by
  obtain ⟨fd, F⟩ := T.c.def_ 48 (d := d_Programword) rfl
  have Hr := ok_row (P := P) (w := w) (base := base) T
  have Hs := ok_saids (P := P) (w := w) (base := base) T 20
  refine ⟨fd, F.ok scPWord (fun vs H Q E h => ?_) (fun cdv A outer s H vs Q E hr h => ?_), FunD.bindsN F fun _ _ _ _ _ _ us hl => match us, hl with | [_, _], _ => rfl⟩
  · obtain ⟨q, v, d, rfl, _⟩ := h
    rfl
  · refine ⟨_, (pss_cons (ps_if (pt_not (pt_val (pe_has Hr (hr.mono (by decide)) pass0 (pa_cons (pv 1) pa_nil))))
 (pss_one (ps_raise rfl (takes_of rfl rfl rfl rfl) (pmk_mk0 PySem.F.excBase_ValueError (T.exq 75 rfl).1 (T.glo 13 rfl) (T.exq 75 rfl).2 (T.rai 75 rfl) (by rfl))))
 pss_nil)
 (pss_cons (ps_set (i := 2) scPWord.nd rfl (Or.inl rfl) (pe_has Hs (hr.mono (by decide)) pass0 (pa_cons (L2.pe_fld (pv 0) (by rfl)) (pa_cons (pv 1) (pa_cons pe_dnewK pa_nil)))))
 (pss_one (ps_ret (pe_ifExp (pt_cmpR op_isN (pv 2) pe_non (nomark _)) pe_str (pv 2)))))), ?_⟩
    obtain ⟨q, v, d, rfl, pa, hv, sh, hE, hQ⟩ := h
    have cS : Cls K (He.ga K "Program") := He.cls_ok (T.c.fact 92 rfl)
    have n1 : NoAttr K (He.ga K "Program") "statements" := He.noat_ok (T.c.fact 93 rfl)
    refine ⟨_, rfl, v, d, rfl, hv, sh, fun H1 s1 => ⟨_, rfl, ite2 (fun e => ?_) (fun e => ?_)⟩⟩
    · exact hE (by simpa using e) H1 s1
    have e1 : rowD d = true := by simpa using e
    obtain ⟨row, rfl, ro⟩ := row_of e1
    obtain ⟨dx, sv, h1, h2⟩ := pa.same s1
    obtain ⟨r, us, rfl, hr', hus⟩ := Dx.tup_inv (Dx.same s1 _ _ hv)
    rw [row_texts (by rw [List.all_map, List.all_eq_true]; exact fun x hx => ro.ws x hx) hus, show txOf (.tuple (row.map PyData.str)) = row from txOf_row row] at hr'
    refine ⟨_, rfl, q, _, dx, _, _, rfl, h1, cS, n1, rfl, _, rfl, fun m nm => ?_⟩
    have s2 : Same H1 (delH (upd H1 m (.dK [])) m) := fun b o e => by rw [delH_upd, delH_ne (ne_of_none e nm)]; exact e
    have em : upd H1 m (.dK []) m = some (.dK []) := upd_same
    generalize upd H1 m (.dK []) = H2 at s2 em ⊢
    refine ⟨row, bMany.nms, bMany, rfl, (by show 2 ≤ 20; decide), fun n h => h, sv, r, m, [], _, rfl, Dq.same s2 _ _ h2, s2 _ _ hr', em, KM.nil _, (by show 0 ≤ 1000; decide), ⟨ro.ws, ro.len, fun n w e => by cases e⟩, fun H3 kvs s3 _ _ => ?_⟩
    have fin := hQ row rfl ro H3 (s1.trans (s2.trans (s3.trans same_delH)))
    refine ⟨_, rfl, rfl, _, rfl, ?_⟩
    show (if decide (V.str (natS row.length) = V.non) = true then _ else _)
    rw [show decide (V.str (natS row.length) = V.non) = false by simp]
    exact iteF ⟨_, rfl, fin⟩
end
end K03

set_option maxHeartbeats 4000000
namespace K03
open PySem PySem.Spec PyProof.Rows L2 V1 V2 V3 V6 LamX NdefX
open Evl (pss_cut tCut sq_of st_of)
/-- data that is a dict or an object -/
def isDct : PyData → Bool
  | .dict _ => true
  | _ => false
structure PlOk (p : Pl) : Prop where
  so : p.sort < 3
  w : wordX p.wd = true
  ws : shortA p.wild = true
  wn : wordD p.wild = false
  fl : isDct p.wild = true ∨ flatD 2 p.wild = true
def plD : Pl := ⟨0, Str.ofString "", 0, .none⟩
def talk3 (ps : List Pl) : List Nat → List Str → List Str × Bool
  | [], r => (r, true)
  | o :: os, r => match tellD (ps.getD o plD) (mkR r) with
    | .str x => if wordX x = true then talk3 ps os (r ++ [x]) else (r, false)
    | _ => (r, false)
theorem talk3_yes {ps : List Pl} {o : Nat} {os : List Nat} {r : List Str} {x : Str} (h : tellD (ps.getD o plD) (mkR r) = .str x) (w : wordX x = true) : talk3 ps (o :: os) r = talk3 ps os (r ++ [x]) := by
  show (match tellD (ps.getD o plD) (mkR r) with
    | .str x => if wordX x = true then talk3 ps os (r ++ [x]) else (r, false)
    | _ => (r, false)) = _
  rw [h]
  exact if_pos w
theorem talk3_no {ps : List Pl} {o : Nat} {os : List Nat} {r : List Str} (h : wordD (tellD (ps.getD o plD) (mkR r)) = false) : talk3 ps (o :: os) r = (r, false) := by
  show (match tellD (ps.getD o plD) (mkR r) with
    | .str x => if wordX x = true then talk3 ps os (r ++ [x]) else (r, false)
    | _ => (r, false)) = _
  generalize tellD (ps.getD o plD) (mkR r) = d at h
  cases d with
  | str x =>
    have h : wordX x = false := h
    exact if_neg (by rw [h]; decide)
  | _ => rfl
theorem order_of {n : Nat} {d : PyData} (h : orderD ((n : Nat) : Int) d = true) : ∃ os : List Nat, d = .tuple (os.map fun o : Nat => .int ((o : Nat) : Int)) ∧ 1 ≤ os.length ∧ os.length ≤ 40 ∧ ∀ o ∈ os, o < n := by
  cases d with
  | tuple ds =>
    have z : 1 ≤ ds.length ∧ ds.length ≤ 40 ∧ ∀ x ∈ ds, fromTo 0 (((n : Nat) : Int) - 1) x = true := by simpa [orderD] using h
    obtain ⟨l1, l2, al⟩ := z
    have q : ∀ ds : List PyData, (∀ x ∈ ds, fromTo 0 (((n : Nat) : Int) - 1) x = true) → ∃ os : List Nat, ds = os.map (fun o : Nat => PyData.int ((o : Nat) : Int)) ∧ ∀ o ∈ os, o < n := by
      intro ds
      induction ds with
      | nil => exact fun _ => ⟨[], rfl, fun _ h => absurd h List.not_mem_nil⟩
      | cons d ds ih =>
        intro al
        obtain ⟨k, rfl, k0, k1⟩ := fromTo_int (al d List.mem_cons_self)
        obtain ⟨os, rfl, ho⟩ := ih fun x hx => al x (List.mem_cons_of_mem _ hx)
        obtain ⟨j, rfl⟩ := Int.eq_ofNat_of_zero_le k0
        exact ⟨j :: os, rfl, fun o h => by
          rcases List.mem_cons.mp h with rfl | h
          · omega
          · exact ho o h⟩
    obtain ⟨os, rfl, ho⟩ := q ds al
    rw [List.length_map] at l1 l2
    exact ⟨os, rfl, l1, l2, ho⟩
  | _ => cases h
theorem sh_row (row : List Str) (ro : RowOk row) : shD (mkR row) := row_shD ro
theorem natS_short {n : Nat} (h : n ≤ 400) : (natS n).length ≤ 40 := wx_len (natS_w h)
theorem tell_short {p : Pl} (po : PlOk p) {row : List Str} (ro : RowOk row) : shortD (tellD p (mkR row)) := by
  show shortD (tellD p (.tuple (row.map .str)))
  rw [tellD_tup, List.length_map]
  split
  · exact shortA_D po.ws
  · split
    · have := natS_short ro.len
      show (natS row.length).length ≤ 10000
      omega
    · have := wx_len po.w
      show p.wd.length ≤ 10000
      omega
section
variable [CurK]
structure HsL (H : Hp) (h : Addr) (ps : List Pl) : Prop where
  ex : ∃ hvs, H h = some (.tup hvs) ∧ hvs.length = ps.length ∧ ∀ (i : Nat) v p, hvs[i]? = some v → ps[i]? = some p → HsAt H v p
def spAsked : Sp := fun vs H Q E => ∃ hv rv p d, vs = [hv, rv] ∧ HsAt H hv p ∧ PlOk p ∧ Dx H rv d ∧ shD d ∧ (rowD d = false → ∀ H', Same H H' → E (.ref (He.ga K "NoRow")) none H') ∧
  (rowD d = true → wordD (tellD p d) = false → ∀ dd H', H dd = none → Same H H' → H' dd = some (.xd [("row", rv)]) → E (.ref (He.ga K "BadHouse")) (some dd) H') ∧
  (rowD d = true → ∀ x, tellD p d = .str x → wordX x = true → ∀ H', Same H H' → Q (.str x) H')
def spTalk : Sp := fun vs H Q E => ∃ h ov ps od, vs = [.ref h, ov] ∧ HsL H h ps ∧ (∀ p ∈ ps, PlOk p) ∧ Dx H ov od ∧
  (orderD ((ps.length : Nat) : Int) od = false → ∀ H', Same H H' → E (.ref (He.ga K "NoOrder")) none H') ∧
  ∀ os : List Nat, od = .tuple (os.map fun o : Nat => .int ((o : Nat) : Int)) → orderD ((ps.length : Nat) : Int) od = true →
    ((talk3 ps os []).2 = true → ∀ H' r, Same H H' → H' r = some (.tup ((talk3 ps os []).1.map V.str)) → RowOk (talk3 ps os []).1 → Q (.ref r) H') ∧
    ((talk3 ps os []).2 = false → ∀ dd r H', H dd = none → Same H H' → H' dd = some (.xd [("row", .ref r)]) → H' r = some (.tup ((talk3 ps os []).1.map V.str)) → RowOk (talk3 ps os []).1 → E (.ref (He.ga K "BadHouse")) (some dd) H')
end
theorem scBH : FnScope ["self", "row"] ["self", "row"] (defScope s_BadHouse__init__) := ⟨rfl, rfl, rfl, by decide +kernel, rfl, by decide +kernel, by decide +kernel⟩
theorem scAsked : FnScope ["house", "row", "word"] ["house", "row"] (defScope s_asked) := ⟨rfl, rfl, rfl, by decide +kernel, rfl, by decide +kernel, by decide +kernel⟩
theorem scTalk : FnScope ["houses", "order", "row", "owner"] ["houses", "order"] (defScope s_talk) := ⟨rfl, rfl, rfl, by decide +kernel, rfl, by decide +kernel, by decide +kernel⟩
section
variable [CurK] {P : Program} {w : World} {mg : Str → Option Value} {base : Heap}
theorem fldBH (T : Tx K w mg) : Fld P w K mg base "BadHouse" "row" := by
  obtain ⟨fd, F⟩ := T.c.def_ 39 (d := d_BadHouse__init__) rfl
  exact fld_of F scBH rfl (T.glo 11 rfl) (T.one 0 rfl) rfl rfl (T.noat 73 rfl) (He.meth_ok (T.c.fact 71 rfl)) (by decide) (by decide) (Or.inl rfl) (Or.inl rfl) (fun _ => rfl) (FunD.bindsN F fun _ _ _ _ _ _ us hl => match us, hl with | [_, _], _ => rfl)
theorem hs_ok (T : Tx K w mg) {X : Cx} (e1 : X.prog = P) (e2 : X.w = w) (e3 : X.K = K) (e4 : X.mg = mg) (e5 : X.base = base) : ∀ p ∈ hsCs K, V5.MOk X (L2.CX X.prog X.w) 44 "word" p.1 p.2 := by
  subst e1 e2 e4 e5
  have z : X.K = K := e3
  intro p hp
  simp only [hsCs, List.mem_cons, List.not_mem_nil, or_false] at hp
  rcases hp with rfl | rfl | rfl
  · obtain ⟨fd, F, B⟩ := ok_tword (P := X.prog) (w := X.w) (base := X.base) T
    have m := He.meth_ok (T.c.fact 86 (f := .meth "Table" "word") rfl)
    exact ⟨_, fd, _, by rw [z]; exact He.cls_ok (T.c.fact 79 rfl), by rw [z]; exact m, by rw [z]; exact F.mono (by decide), by rw [z]; exact B⟩
  · obtain ⟨fd, F, B⟩ := ok_pword (P := X.prog) (w := X.w) (base := X.base) T
    have m := He.meth_ok (T.c.fact 97 (f := .meth "Program" "word") rfl)
    exact ⟨_, fd, _, by rw [z]; exact He.cls_ok (T.c.fact 92 rfl), by rw [z]; exact m, by rw [z]; exact F.mono (by decide), by rw [z]; exact B⟩
  · obtain ⟨fd, F, B⟩ := ok_vword (P := X.prog) (w := X.w) (base := X.base) T
    have m := He.meth_ok (T.c.fact 91 (f := .meth "Voice" "word") rfl)
    exact ⟨_, fd, _, by rw [z]; exact He.cls_ok (T.c.fact 87 rfl), by rw [z]; exact m, by rw [z]; exact F.mono (by decide), by rw [z]; exact B⟩
/-- what a house's word tells -/
theorem word_go {H : Hp} {hv rv : V} {p : Pl} {d : PyData} {σ : L2.St} {Q : VK} {E : XK} {ta : TE} {tb : TA} (hs : HsAt H hv p) (dr : Dx H rv d) (sh : shD d) (h1 : ∀ Q : VK, Q hv H → ta σ H Q) (h2 : ∀ Q : List V → Hp → Prop, Q [rv] H → tb σ H Q)
    (kE : rowD d = false → ∀ H', Same H H' → E (.ref (He.ga K "NoRow")) none H') (k : rowD d = true → ∀ H' tv, Same H H' → Dx H' tv (tellD p d) → Q tv H') :
    V5.tMethA "word" (hsCs K) E ta tb σ H Q := by
  refine h1 _ ?_
  rcases hs with ⟨so, q, rfl, ht⟩ | ⟨so, q, rfl, hp⟩ | ⟨so, q, a, rfl, hv⟩
  · obtain ⟨dx, a, q', us, kvs, hq, _⟩ := ht.ex
    refine ⟨(He.ga K "Table", spTWord), List.mem_cons_self, q, dx, _, rfl, hq, rfl, h2 _ ?_⟩
    refine ⟨q, [], p.wd, rv, d, rfl, ht, dr, sh, kE, fun e H' s => k e H' _ s ?_⟩
    obtain ⟨r, rfl, ro⟩ := row_of e
    show Dx H' (.str p.wd) (tellD p (.tuple (r.map .str)))
    rw [tellD_tup, if_neg (fun z => by rw [so] at z; cases z.1), if_neg (by rw [so]; decide)]
    exact .str _
  · have hp' := hp
    obtain ⟨dx, v, hq, _⟩ := hp'
    refine ⟨(He.ga K "Program", spPWord), List.mem_cons_of_mem _ List.mem_cons_self, q, dx, _, rfl, hq, rfl, h2 _ ?_⟩
    refine ⟨q, rv, d, rfl, hp, dr, sh, kE, fun row e ro H' s => k (by rw [e]; exact rowD_ok ro) H' _ s ?_⟩
    rw [e]
    show Dx H' (.str (natS row.length)) (tellD p (.tuple (row.map .str)))
    rw [tellD_tup, if_neg (fun z => by rw [so] at z; cases z.1), if_pos so, List.length_map]
    exact .str _
  · have hv' := hv
    obtain ⟨dx, f, c, c', hq, _⟩ := hv'
    refine ⟨(He.ga K "Voice", spVWord), List.mem_cons_of_mem _ (List.mem_cons_of_mem _ List.mem_cons_self), q, dx, _, rfl, hq, rfl, h2 _ ?_⟩
    exact ⟨q, rv, a, p, d, rfl, hv, dr, sh, kE, k⟩
theorem ok_asked (T : Tx K w mg) : Has P w K mg base (L2.CX P w) 45 "asked" ["house", "row"] spAsked := by
  obtain ⟨fd, F⟩ := T.c.def_ 9 (d := d_asked) rfl
  have Hr := ok_row (P := P) (w := w) (base := base) T
  have Hw := ok_word (P := P) (w := w) (base := base) T
  refine ⟨fd, F.ok scAsked (fun vs H Q E h => ?_) (fun cdv A outer s H vs Q E hr h => ?_), FunD.bindsN F fun _ _ _ _ _ _ us hl => match us, hl with | [_, _], _ => rfl, F.kp, (T.glo 21 rfl)⟩
  · obtain ⟨hv, rv, p, d, rfl, _⟩ := h
    rfl
  · refine ⟨_, (pss_cons (ps_if (pt_not (pt_val (pe_has Hr (hr.mono (by decide)) pass0 (pa_cons (pv 1) pa_nil))))
 (pss_one (ps_raise rfl (takes_of rfl rfl rfl rfl) (pmk_mk0 PySem.F.excBase_ValueError (T.exq 75 rfl).1 (T.glo 13 rfl) (T.exq 75 rfl).2 (T.rai 75 rfl) (by rfl))))
 pss_nil)
 (pss_cons (ps_set (i := 2) scAsked.nd rfl (Or.inl rfl) (V5.pe_methA (Cs := hsCs K) (pv 0) (hs_ok T rfl rfl rfl rfl rfl) (hr.mono (by decide)) (passes_call (takes_of rfl rfl rfl rfl) (fun _ _ _ _ h => h)) (pa_cons (pv 1) pa_nil)))
 (pss_cons (ps_if (pt_not (pt_val (pe_has Hw (hr.mono (by decide)) pass0 (pa_cons (pv 2) pa_nil))))
 (pss_one (ps_raise rfl (takes_of rfl rfl rfl rfl) (pmk_fld (fldBH T) (hr.mono (by decide)) (pa_cons (pv 1) pa_nil))))
 pss_nil)
 (pss_one (ps_ret (pv 2)))))), ?_⟩
    obtain ⟨hv, rv, p, d, rfl, hs, po, dr, sh, hN, hB, hQ⟩ := h
    refine ⟨_, rfl, rv, d, rfl, dr, sh, fun H1 s1 => ⟨_, rfl, ite2 (fun e => ?_) (fun e => ?_)⟩⟩
    · exact hN (by simpa using e) H1 s1
    have e1 : rowD d = true := by simpa using e
    obtain ⟨row, rfl, ro⟩ := row_of e1
    refine word_go (ta := tVar 0) (tb := tCons (tVar 1) tNil) (hs.same s1) (Dx.same s1 _ _ dr) sh (fun Q q => ⟨_, rfl, q⟩) (fun Q q => ⟨_, rfl, q⟩) (fun f => by rw [e1] at f; cases f) fun _ H2 tv s2 dt => ?_
    have s12 := s1.trans s2
    refine ⟨_, rfl, tv, tellD p (mkR row), rfl, dt, tell_short po ro, _, rfl, ite2 (fun e => ?_) (fun e => ?_)⟩
    · exact raise_go (v := rv) (fun Q q => ⟨_, rfl, q⟩) fun dd H' nd sm hd => hB e1 (by simpa using e) dd H' (fresh_up s12 nd) (s12.trans sm) hd
    · have e2 : wordD (tellD p (mkR row)) = true := by simpa using e
      generalize hx : tellD p (mkR row) = td at dt e2
      cases td with
      | str x =>
        obtain rfl := Dx.str_inv dt
        exact ⟨_, rfl, hQ e1 x hx e2 H2 s12⟩
      | _ => cases e2
theorem ok_talk (T : Tx K w mg) : Has P w K mg base (L2.CX P w) 46 "talk" ["houses", "order"] spTalk := by
  obtain ⟨fd, F⟩ := T.c.def_ 10 (d := d_talk) rfl
  have Ho := ok_order (P := P) (w := w) (base := base) T
  have Ha := ok_asked (P := P) (w := w) (base := base) T
  refine ⟨fd, F.ok scTalk (fun vs H Q E h => ?_) (fun cdv A outer s H vs Q E hr h => ?_), FunD.bindsN F fun _ _ _ _ _ _ us hl => match us, hl with | [_, _], _ => rfl, F.kp, (T.glo 22 rfl)⟩
  · obtain ⟨h, ov, ps, od, rfl, _⟩ := h
    rfl
  · refine ⟨_, (pss_cons (ps_if (pt_not (pt_val (pe_has Ho (hr.mono (by decide)) pass0 (pa_cons (pv 1) (pa_cons (pe_callB call_len (by rfl) (T.free 65 rfl) PySem.boot_len (pa_cons (pv 0) pa_nil)) pa_nil)))))
 (pss_one (ps_raise rfl (takes_of rfl rfl rfl rfl) (pmk_mk0 PySem.F.excBase_ValueError (T.exq 76 rfl).1 (T.glo 14 rfl) (T.exq 76 rfl).2 (T.rai 76 rfl) (by rfl))))
 pss_nil)
 (pss_cons (ps_set (i := 2) scTalk.nd rfl (Or.inl rfl) (pe_tup pa_nil))
 (pss_cons (ps_for (passes_of rfl) rfl (pi_tup (pv 1)) (pg_name (i := 3) scTalk.nd rfl (Or.inl rfl))
 (pss_one (ps_set (i := 2) scTalk.nd rfl (Or.inl rfl) (pe_op op_catA (pv 2) (pe_tup (pa_cons (pe_has Ha (hr.mono (by decide)) (passes_call (takes_of rfl rfl rfl rfl) (fun _ _ _ _ h => h)) (pa_cons (pe_ix ix_tup (pv 0) (pv 3) (fun _ _ => rfl)) (pa_cons (pv 2) pa_nil))) pa_nil))))))
 (pss_one (ps_ret (pv 2)))))), ?_⟩
    obtain ⟨h, ov, ps, od, rfl, ⟨hvs, hh, hn, hx⟩, pok, dod, hN, hQ⟩ := h
    refine ⟨_, rfl, _, rfl, _, _, rfl, .inr ⟨_, st_of hh, rfl⟩, ov, od, ((ps.length : Nat) : Int), by rw [hn]; rfl, dod, fun H1 s1 => ⟨_, rfl, ite2 (fun e => ?_) (fun e => ?_)⟩⟩
    · exact hN (by simpa using e) H1 s1
    have e1 : orderD ((ps.length : Nat) : Int) od = true := by simpa using e
    obtain ⟨os, rfl, o1, o2, ob⟩ := order_of e1
    obtain ⟨hQ1, hQ2⟩ := hQ os rfl e1
    obtain ⟨oa, ous, rfl, hoa, hous⟩ := Dx.tup_inv dod
    have eus : ∀ (us : List V) (os : List Nat), DxAll H us (os.map fun o : Nat => PyData.int ((o : Nat) : Int)) → us = os.map fun o : Nat => V.int ((o : Nat) : Int) := by
      intro us os
      induction os generalizing us with
      | nil => intro h; cases h; rfl
      | cons o os ih =>
        intro h
        cases h with
        | cons one more =>
          rw [Dx.int_inv one, ih _ more]
          rfl
    obtain rfl := eus _ _ hous
    clear eus hous
    refine ⟨(by show 0 ≤ sizeLine; decide), fun r0 nr => ?_⟩
    have s2 := same_new (o := HO.tup []) nr
    have e2 : upd H1 r0 (HO.tup []) r0 = some (.tup []) := upd_same
    have s12 := s1.trans s2
    generalize upd H1 r0 (HO.tup []) = H2 at s2 e2 s12 ⊢
    refine ⟨_, rfl, oa, rfl, ⟨_, st_of (s12 _ _ hoa)⟩, for_it (walk_tup (K := K) (a := oa) (xs := os.map fun o : Nat => V.int ((o : Nat) : Int))) (fun i σ H' => ∃ r o3 row, σ = [some (.ref h), some (.ref oa), some (.ref r), o3] ∧ Same H H' ∧ H' r = some (.tup (row.map V.str)) ∧ RowOk row ∧ row.length = i ∧ talk3 ps os [] = talk3 ps (os.drop i) row) ⟨r0, _, [], rfl, s12, e2, ⟨fun x h => absurd h List.not_mem_nil, Nat.zero_le _⟩, rfl, rfl⟩ (fun i σ H' _ z => by
      obtain ⟨r, o3, row, _, s, _⟩ := z
      exact st_of (s _ _ hoa)) ?_ ?_⟩
    · rintro i x σ H3 H4 hi ⟨r, o3, row, rfl, s4, er, ro, tl, tk⟩ ⟨rfl, hxi⟩
      rw [List.length_map] at hi
      rw [List.getElem?_map, List.getElem?_eq_getElem hi] at hxi
      cases hxi
      have ho := ob _ (List.getElem_mem hi)
      rw [List.drop_eq_getElem_cons hi] at tk
      generalize os[i] = o at ho tk ⊢
      have hv : hvs[o]? = some (hvs[o]'(by omega)) := List.getElem?_eq_getElem (by omega)
      have hp : ps[o]? = some (ps[o]'ho) := List.getElem?_eq_getElem ho
      have gd : ps.getD o plD = ps[o]'ho := by rw [List.getD_eq_getElem?_getD, hp]; rfl
      have hs := (hx o _ _ hv hp).same s4
      have po := pok _ (List.getElem_mem ho)
      have n1 : ∀ {x : Str}, tellD (ps.getD o plD) (mkR row) = .str x → wordX x = true → talk3 ps os [] = talk3 ps (os.drop (i + 1)) (row ++ [x]) := fun h w => tk.trans (talk3_yes h w)
      have n2 : wordD (tellD (ps.getD o plD) (mkR row)) = false → talk3 ps os [] = (row, false) := fun h => tk.trans (talk3_no h)
      rw [gd] at n1 n2
      generalize ps[o] = p at hs po n1 n2
      have dr : Dx H4 (.ref r) (mkR row) := .tup er (by
        have z : ∀ (G : Hp) (ys : List Str), DxAll G (ys.map V.str) (ys.map PyData.str) := fun G ys => by
          induction ys with
          | nil => exact .nil
          | cons y ys ih => exact .cons (.str y) ih
        exact z _ _)
      refine ⟨_, rfl, _, rfl, _, rfl, h, _, _, _, rfl, rfl, st_of (s4 _ _ hh), atI_nat hv, _, rfl, _, .ref r, p, mkR row, rfl, hs, po, dr, sh_row row ro, (fun f => by rw [rowD_ok ro] at f; cases f), (fun _ f dd H' nd s' hd => ?_), fun _ x ex wx5 H5 s5 => ⟨(by show 1 ≤ sizeLine; decide), fun t nt => ?_⟩⟩
      · have z := n2 f
        rw [z] at hQ2
        exact hQ2 rfl dd r H' (fresh_up s4 nd) (s4.trans s') hd (s' _ _ er) ro
      have s6 := same_new (o := HO.tup [.str x]) nt
      have e6 : upd H5 t (HO.tup [.str x]) t = some (.tup [.str x]) := upd_same
      have s46 := s5.trans s6
      have er6 := s46 _ _ er
      generalize upd H5 t (HO.tup [.str x]) = H6 at s6 e6 s46 er6 ⊢
      have ro' : RowOk (row ++ [x]) := ⟨fun y hy => by
        rcases List.mem_append.mp hy with h | h
        · exact ro.ws y h
        · rw [List.mem_singleton.mp h]
          exact wx5, by rw [List.length_append]; simp only [List.length_cons, List.length_nil]; omega⟩
      have tl' : (row ++ [x]).length = i + 1 := by rw [List.length_append, tl]; rfl
      have tk' := n1 ex wx5
      refine ⟨r, t, _, _, rfl, rfl, st_of er6, st_of e6, Nat.le_trans (by rw [List.length_map]; simp only [List.length_cons, List.length_nil]; omega : (row.map V.str).length + ([V.str x] : List V).length ≤ 1000) (by decide), fun z => ?_, fun _ z => absurd z (by simp), fun nx _ c nc => ?_⟩
      · have z' : row = [] := by simpa using z
        subst z'
        exact ⟨t, _, [x], rfl, s4.trans s46, e6, ro', tl', tk'⟩
      · have s7 := same_new (o := HO.tup (row.map V.str ++ [.str x])) nc
        refine ⟨c, _, row ++ [x], rfl, s4.trans (s46.trans s7), ?_, ro', tl', tk'⟩
        rw [List.map_append]
        exact upd_same
    · rintro σ H3 ⟨r, o3, row, rfl, s3, er, ro, tl, tk⟩
      rw [List.length_map, List.drop_length] at tk
      have z : talk3 ps os [] = (row, true) := tk
      rw [z] at hQ1
      exact ⟨_, rfl, hQ1 rfl H3 r s3 er ro⟩
end
end K03

set_option maxHeartbeats 4000000
namespace K03
open PySem PySem.Spec PyProof.Rows L2 V1 V2 V3 V6 LamX NdefX
open Evl (pss_cut tCut sq_of st_of)
theorem row_shaped {r : List Str} (h : ∀ x ∈ r, wordX x = true) : SeqAt.shaped (mkR r) = true := by
  refine shaped_of ?_ ?_
  · show PyData.canLayAll0 _ = true
    refine canLayAll_of fun d hd => ?_
    obtain ⟨x, hx, rfl⟩ := List.mem_map.mp hd
    simp [PyData.canLay0, word_ok (h x hx)]
  · have z : PyData.depthAll (r.map PyData.str) ≤ 1 := depthAll_le fun d hd => by
      obtain ⟨l, _, rfl⟩ := List.mem_map.mp hd
      simp [PyData.depth]
    show (PyData.tuple (r.map PyData.str)).depth ≤ 64
    simp only [PyData.depth]
    omega
theorem row_dq {H : Hp} {v : V} {row : List Str} (h : Dq H v (mkR row)) : ∃ r, v = .ref r ∧ H r = some (.tup (row.map V.str)) := by
  obtain ⟨r, us, rfl, hr, hus⟩ := V2.Dq.tup_inv h
  have z : ∀ {vs : List V} {r : List Str}, DqAll H vs (r.map .str) → vs = r.map V.str := by
    intro vs r
    induction r generalizing vs with
    | nil => intro h; cases h; rfl
    | cons m ms ih => intro h; cases h with | cons one more => cases one; rw [ih more]; rfl
  rw [z hus] at hr
  exact ⟨r, rfl, hr⟩
section
variable [CurK] {K : PySem.W.Frag}
theorem dp_strs {H : Hp} : ∀ {r : List Str} {us : List V}, DxAll H us (r.map PyData.str) → DpAll K H us (r.map PyData.str)
  | [], _, h => by cases h; exact .nil
  | _ :: _, _, h => by
    cases h with
    | cons one more =>
      cases one
      exact .cons (.str _) (dp_strs more)
theorem dp_rowX {H : Hp} {v : V} {r : List Str} (h : Dx H v (mkR r)) : Dp K H v (mkR r) := by
  obtain ⟨c, cs, rfl, hc, hcs⟩ := Dx.tup_inv h
  exact .tup (.inl (.inl hc)) (dp_strs hcs)
theorem dp_rowV {H : Hp} {a : Addr} {r : List Str} (h : H a = some (.tup (r.map V.str))) : Dp K H (.ref a) (mkR r) := by
  refine .tup (.inl (.inl h)) ?_
  have z : ∀ ys : List Str, DpAll K H (ys.map V.str) (ys.map PyData.str) := fun ys => by
    induction ys with
    | nil => exact .nil
    | cons y ys ih => exact .cons (.str y) ih
  exact z r
end
theorem eqv_rows (r s : List Str) : PyData.eqv (mkR r) (mkR s) = decide (r = s) := by
  show PyData.eqv (.tuple (r.map .str)) (.tuple (s.map .str)) = _
  simp only [PyData.eqv]
  exact eqv_row r s
theorem txOf_row2 (r : List Str) : txOf (mkR r) = r := txOf_row r
def spIsTalk [CurK] : Sp := fun vs H Q E => ∃ h ov ps od v d, vs = [.ref h, ov, v] ∧ HsL H h ps ∧ (∀ p ∈ ps, PlOk p) ∧ Dx H ov od ∧ Dx H v d ∧ shD d ∧
  (orderD ((ps.length : Nat) : Int) od = false → ∀ H', Same H H' → E (.ref (He.ga K "NoOrder")) none H') ∧
  ∀ os : List Nat, od = .tuple (os.map fun o : Nat => .int ((o : Nat) : Int)) → orderD ((ps.length : Nat) : Int) od = true →
    ((talk3 ps os []).2 = true → RowOk (talk3 ps os []).1 → ∀ H', Same H H' → Q (.bl (rowD d && decide (txOf d = (talk3 ps os []).1))) H') ∧
    ((talk3 ps os []).2 = false → ∀ dd r H', H dd = none → Same H H' → H' dd = some (.xd [("row", .ref r)]) → H' r = some (.tup ((talk3 ps os []).1.map V.str)) → RowOk (talk3 ps os []).1 → E (.ref (He.ga K "BadHouse")) (some dd) H')
theorem scIsTalk : FnScope ["houses", "order", "thing", "row"] ["houses", "order", "thing"] (defScope s_is_talk) := ⟨rfl, rfl, rfl, by decide +kernel, rfl, by decide +kernel, by decide +kernel⟩
/-- any told thing against a text -/
def spIsW : Sp := fun vs H Q _ => ∃ v x d, vs = [v, .str x] ∧ Dq H v d ∧ plain d = true ∧ SeqAt.shaped d = true ∧ wordX x = true ∧ ∀ b H', (b = true ↔ d = .str x) → Same H H' → Q (.bl b) H'
/-- any told tuple against a row -/
def spIsR : Sp := fun vs H Q _ => ∃ v u ds row, vs = [v, u] ∧ Dq H v (.tuple ds) ∧ Dq H u (mkR row) ∧ RowOk row ∧ (∀ d ∈ ds, plain d = true ∧ SeqAt.shaped d = true) ∧ ds.length ≤ 900 ∧ ∀ b H', (b = true ↔ ds = row.map PyData.str) → Same H H' → Q (.bl b) H'
theorem eqv_str {d : PyData} {x : Str} : PyData.eqv d (.str x) = true ↔ d = .str x := by
  cases d <;> simp [PyData.eqv]
theorem str_shaped (x : Str) (h : wordX x = true) : SeqAt.shaped (.str x) = true := by
  refine shaped_of ?_ ?_
  · simp [PyData.canLay0, word_ok h]
  · simp [PyData.depth]
section
variable [CurK] {P : Program} {w : World} {mg : Str → Option Value} {base : Heap}
theorem ok_istalk (T : Tx K w mg) : Has P w K mg base (L2.CX P w) 47 "is_talk" ["houses", "order", "thing"] spIsTalk := by
  obtain ⟨fd, F⟩ := T.c.def_ 11 (d := d_is_talk) rfl
  have Hr := ok_row (P := P) (w := w) (base := base) T
  have Ht := ok_talk (P := P) (w := w) (base := base) T
  refine ⟨fd, F.ok scIsTalk (fun vs H Q E h => ?_) (fun cdv A outer s H vs Q E hr h => ?_), FunD.bindsN F fun _ _ _ _ _ _ us hl => match us, hl with | [_, _, _], _ => rfl, F.kp, (T.glo 23 rfl)⟩
  · obtain ⟨h, ov, ps, od, v, d, rfl, _⟩ := h
    rfl
  · refine ⟨_, (pss_cons (ps_set (i := 3) scIsTalk.nd rfl (Or.inl rfl) (pe_has Ht (hr.mono (by decide)) (passes_call (takes_of rfl rfl rfl rfl) (fun _ _ _ _ h => h)) (pa_cons (pv 0) (pa_cons (pv 1) pa_nil))))
 (pss_one (ps_ret (pe_and (pe_has Hr (hr.mono (by decide)) pass0 (pa_cons (pv 2) pa_nil)) (pe_one (pe_cmpR (op_eqD hr.units) (pv 2) (pv 3) (nomark _))))))), ?_⟩
    obtain ⟨h, ov, ps, od, v, d, rfl, hh, pok, hod, hv, sh, hN, hQ⟩ := h
    refine ⟨_, rfl, _, rfl, h, ov, ps, od, rfl, hh, pok, hod, hN, fun os eo e1 => ⟨fun tr H1 r s1 hr1 ro => ?_, (hQ os eo e1).2⟩⟩
    have hQ' := (hQ os eo e1).1 tr ro
    refine ⟨_, rfl, v, d, rfl, Dx.same s1 _ _ hv, sh, fun H2 s2 => ⟨rowD d, rfl, ?_⟩⟩
    have s12 := s1.trans s2
    cases e : rowD d with
    | false =>
      refine iteF ?_
      have z := hQ' H2 s12
      rw [e, Bool.false_and] at z
      exact z
    | true =>
      refine iteT ?_
      obtain ⟨r1, rfl, ro1⟩ := row_of e
      refine ⟨_, rfl, _, rfl, _, _, dp_rowX (Dx.same s12 _ _ hv), dp_rowV (s2 _ _ hr1), row_shaped ro1.ws, row_shaped ro.ws, ?_⟩
      have z := hQ' H2 s12
      rw [e, Bool.true_and, txOf_row2] at z
      rw [eqv_rows]
      exact z
theorem ok_isW (T : Tx K w mg) : Has P w K mg base CX0 2 "_law_is" ["told", "due"] spIsW := by
  obtain ⟨fd, F⟩ := T.c.def_ 25 (d := d__law_is) rfl
  have Hr := ok_is (P := P) (w := w) (base := base) T 0
  refine ⟨fd, F.ok scIs (fun vs H Q E h => ?_) (fun cdv A outer s H vs Q E hr h => ?_), FunD.bindsN F fun _ _ _ _ _ _ us hl => match us, hl with | [_, _], _ => rfl, F.kp, (T.glo 44 rfl)⟩
  · obtain ⟨v, x, d, rfl, _⟩ := h
    rfl
  · refine ⟨_, PSs.nox (pss_cons (ps_if (pt_val (pe_callB call_isiT (by rfl) (T.free 64 rfl) (by decide +kernel) (pa_cons (pv 1) (pa_cons (pe_tup (pa_cons (pe_bltn (v := .ty "tuple") (by rfl) (T.free 69 rfl) (by decide +kernel) rfl) (pa_cons (pe_bltn (v := .ty "list") (by rfl) (T.free 66 rfl) (by decide +kernel) rfl) pa_nil))) pa_nil))))
 (pss_cons (ps_if (PW.pt (pw_or (pt_cmpR op_ne (pe_callB call_isi (by rfl) (T.free 64 rfl) (by decide +kernel) (pa_cons (pv 0) (pa_cons (pe_bltn (v := .ty "tuple") (by rfl) (T.free 69 rfl) (by decide +kernel) rfl) pa_nil))) (pe_callB call_isi (by rfl) (T.free 64 rfl) (by decide +kernel) (pa_cons (pv 1) (pa_cons (pe_bltn (v := .ty "tuple") (by rfl) (T.free 69 rfl) (by decide +kernel) rfl) pa_nil))) (nomark _)) (pw_or1 (pt_not (pt_val (pe_callB call_isiT (by rfl) (T.free 64 rfl) (by decide +kernel) (pa_cons (pv 0) (pa_cons (pe_tup (pa_cons (pe_bltn (v := .ty "tuple") (by rfl) (T.free 69 rfl) (by decide +kernel) rfl) (pa_cons (pe_bltn (v := .ty "list") (by rfl) (T.free 66 rfl) (by decide +kernel) rfl) pa_nil))) pa_nil))))))))
 (pss_one (ps_ret pe_bl))
 pss_nil)
 (pss_one (ps_ret (pe_and (pe_cmpR op_eq (pe_callB call_len (by rfl) (T.free 65 rfl) PySem.boot_len (pa_cons (pv 0) pa_nil)) (pe_callB call_len (by rfl) (T.free 65 rfl) PySem.boot_len (pa_cons (pv 1) pa_nil)) (nomark _)) (pe_one (pe_callB (cr_all rfl) (by rfl) (T.free 59 rfl) (by decide +kernel) (pa_cons (pe_lc (own := [("one", 2), ("two", 3)]) (g := gTup K 2 (gCons (gName 2) (gCons (gName 3) gNil))) (tt := tYes) (te := tCall (spIs 0) [] (fun _ _ _ => False) (tCons (tVar 2) (tCons (tVar 3) tNil))) (by rfl) scIs.nd (RZ.pi_zipA (by rfl) (T.free 70 rfl) (pa_cons (pv 0) (pa_cons (pv 1) pa_nil)))
 (blkOk_by (own := [("one", 2), ("two", 3)]) (N := ["told", "due", "one", "two"]) (sc := defScope s__law_is) (by decide +kernel)) (fun _ _ _ _ _ => pg_tup (by rfl) (pgs_cons (pg_name (i := 2) scIs.nd rfl (Or.inl rfl)) (pgs_cons (pg_name (i := 3) scIs.nd rfl (Or.inl rfl)) pgs_nil))) (fun _ _ _ _ _ => pts_nil) (fun _ _ _ _ _ => (pe_has Hr (hr) pass0 (pa_cons (pv 2) (pa_cons (pv 3) pa_nil))))) pa_nil)))))))
 pss_nil)
 (pss_one (ps_ret (pe_and (pe_cmpR op_eq (pe_callB call_isi (by rfl) (T.free 64 rfl) (by decide +kernel) (pa_cons (pv 0) (pa_cons (pe_bltn (v := .ty "bool") (by rfl) (T.free 60 rfl) (by decide +kernel) rfl) pa_nil))) (pe_callB call_isi (by rfl) (T.free 64 rfl) (by decide +kernel) (pa_cons (pv 1) (pa_cons (pe_bltn (v := .ty "bool") (by rfl) (T.free 60 rfl) (by decide +kernel) rfl) pa_nil))) (nomark _)) (pe_one (pe_cmpR (op_eqD hr.units) (pv 0) (pv 1) (nomark _))))))), ?_⟩
    obtain ⟨v, x, d, rfl, hv, pl, sd, hx, hQ⟩ := h
    have hn : ∀ H, Dq H (V.str x) (.str x) := fun H => .str x
    refine isiT_go (kit_tl _) (fun Q q => ⟨_, rfl, q⟩) (hn H) fun p np => ⟨_, rfl, ?_⟩
    have s1 := same_new (o := HO.tup [.ty "tuple", .ty "list"]) np
    have hv1 := Dq.same s1 _ _ hv
    generalize upd H p (HO.tup [.ty "tuple", .ty "list"]) = H1 at s1 hv1
    refine iteF ?_
    refine ⟨_, rfl, _, .ty "bool", _, _, _, rfl, .ty "bool", dq_ty hv1, kit_ty (kit_bool _), _, rfl, _, .ty "bool", _, _, _, rfl, .ty "bool", dq_ty (hn _), kit_ty (kit_bool _), rfl, ?_⟩
    cases d with
    | bool b =>
      refine ⟨false, rfl, iteF ?_⟩
      exact hQ _ _ (by simp) s1
    | _ =>
      refine ⟨true, rfl, iteT ?_⟩
      exact ⟨_, rfl, _, rfl, _, _, dq_dp _ _ pl hv1, .str x, sd, str_shaped x hx, hQ _ _ eqv_str s1⟩
theorem ok_isR (T : Tx K w mg) : Has P w K mg base CX0 3 "_law_is" ["told", "due"] spIsR := by
  obtain ⟨fd, F⟩ := T.c.def_ 25 (d := d__law_is) rfl
  have Hr := ok_isW (P := P) (w := w) (base := base) T
  refine ⟨fd, F.ok scIs (fun vs H Q E h => ?_) (fun cdv A outer s H vs Q E hr h => ?_), FunD.bindsN F fun _ _ _ _ _ _ us hl => match us, hl with | [_, _], _ => rfl, F.kp, (T.glo 44 rfl)⟩
  · obtain ⟨v, u, ds, row, rfl, _⟩ := h
    rfl
  · refine ⟨_, PSs.nox (pss_cons (ps_if (pt_val (pe_callB call_isiT (by rfl) (T.free 64 rfl) (by decide +kernel) (pa_cons (pv 1) (pa_cons (pe_tup (pa_cons (pe_bltn (v := .ty "tuple") (by rfl) (T.free 69 rfl) (by decide +kernel) rfl) (pa_cons (pe_bltn (v := .ty "list") (by rfl) (T.free 66 rfl) (by decide +kernel) rfl) pa_nil))) pa_nil))))
 (pss_cons (ps_if (PW.pt (pw_or (pt_cmpR op_ne (pe_callB call_isi (by rfl) (T.free 64 rfl) (by decide +kernel) (pa_cons (pv 0) (pa_cons (pe_bltn (v := .ty "tuple") (by rfl) (T.free 69 rfl) (by decide +kernel) rfl) pa_nil))) (pe_callB call_isi (by rfl) (T.free 64 rfl) (by decide +kernel) (pa_cons (pv 1) (pa_cons (pe_bltn (v := .ty "tuple") (by rfl) (T.free 69 rfl) (by decide +kernel) rfl) pa_nil))) (nomark _)) (pw_or1 (pt_not (pt_val (pe_callB call_isiT (by rfl) (T.free 64 rfl) (by decide +kernel) (pa_cons (pv 0) (pa_cons (pe_tup (pa_cons (pe_bltn (v := .ty "tuple") (by rfl) (T.free 69 rfl) (by decide +kernel) rfl) (pa_cons (pe_bltn (v := .ty "list") (by rfl) (T.free 66 rfl) (by decide +kernel) rfl) pa_nil))) pa_nil))))))))
 (pss_one (ps_ret pe_bl))
 pss_nil)
 (pss_one (ps_ret (pe_and (pe_cmpR op_eq (pe_callB call_len (by rfl) (T.free 65 rfl) PySem.boot_len (pa_cons (pv 0) pa_nil)) (pe_callB call_len (by rfl) (T.free 65 rfl) PySem.boot_len (pa_cons (pv 1) pa_nil)) (nomark _)) (pe_one (pe_callB (cr_all rfl) (by rfl) (T.free 59 rfl) (by decide +kernel) (pa_cons (pe_lc (own := [("one", 2), ("two", 3)]) (g := gTup K 2 (gCons (gName 2) (gCons (gName 3) gNil))) (tt := tYes) (te := tCall spIsW [] (fun _ _ _ => False) (tCons (tVar 2) (tCons (tVar 3) tNil))) (by rfl) scIs.nd (RZ.pi_zipA (by rfl) (T.free 70 rfl) (pa_cons (pv 0) (pa_cons (pv 1) pa_nil)))
 (blkOk_by (own := [("one", 2), ("two", 3)]) (N := ["told", "due", "one", "two"]) (sc := defScope s__law_is) (by decide +kernel)) (fun _ _ _ _ _ => pg_tup (by rfl) (pgs_cons (pg_name (i := 2) scIs.nd rfl (Or.inl rfl)) (pgs_cons (pg_name (i := 3) scIs.nd rfl (Or.inl rfl)) pgs_nil))) (fun _ _ _ _ _ => pts_nil) (fun _ _ _ _ _ => (pe_has Hr (hr) pass0 (pa_cons (pv 2) (pa_cons (pv 3) pa_nil))))) pa_nil)))))))
 pss_nil)
 (pss_one (ps_ret (pe_and (pe_cmpR op_eq (pe_callB call_isi (by rfl) (T.free 64 rfl) (by decide +kernel) (pa_cons (pv 0) (pa_cons (pe_bltn (v := .ty "bool") (by rfl) (T.free 60 rfl) (by decide +kernel) rfl) pa_nil))) (pe_callB call_isi (by rfl) (T.free 64 rfl) (by decide +kernel) (pa_cons (pv 1) (pa_cons (pe_bltn (v := .ty "bool") (by rfl) (T.free 60 rfl) (by decide +kernel) rfl) pa_nil))) (nomark _)) (pe_one (pe_cmpR op_eq (pv 0) (pv 1) (nomark _))))))), ?_⟩
    obtain ⟨v, u, ds, row, rfl, hv, hu, ro, pl, l9, hQ⟩ := h
    refine isiT_go (kit_tl _) (fun Q q => ⟨u, rfl, q⟩) hu fun p np => ⟨_, rfl, ?_⟩
    have s1 := same_new (o := HO.tup [.ty "tuple", .ty "list"]) np
    have hv1 := Dq.same s1 _ _ hv
    have hu1 := Dq.same s1 _ _ hu
    generalize upd H p (HO.tup [.ty "tuple", .ty "list"]) = H1 at s1 hv1 hu1
    refine iteT ?_
    refine isi_go (kit_tup _) (fun Q q => ⟨_, rfl, q⟩) hv1 (isi_go (kit_tup _) (fun Q q => ⟨_, rfl, q⟩) hu1 ⟨rfl, false, rfl, iteF ?_⟩)
    refine isiT_go (kit_tl _) (fun Q q => ⟨_, rfl, q⟩) hv1 fun p2 np2 => ⟨true, rfl, iteF ?_⟩
    have s2 := same_new (o := HO.tup [.ty "tuple", .ty "list"]) np2
    have hv2 := Dq.same s2 _ _ hv1
    have hu2 := Dq.same s2 _ _ hu1
    have s12 := s1.trans s2
    generalize upd H1 p2 (HO.tup [.ty "tuple", .ty "list"]) = H2 at s2 hv2 hu2 s12
    obtain ⟨a, vs, rfl, ha, ra⟩ := Dq.tup_inv hv2
    obtain ⟨b, eb, hb⟩ := row_dq hu2
    cases eb
    have la := dqAll_len ra
    have lr := ro.len
    refine ⟨_, rfl, _, _, rfl, .inr ⟨vs, st_of ha, rfl⟩, _, rfl, _, _, rfl, .inr ⟨_, st_of hb, rfl⟩, rfl, ?_⟩
    rw [show decide (V.int ((vs.length : Nat) : Int) = V.int (((row.map V.str).length : Nat) : Int)) = decide (ds.length = row.length) by rw [la, List.length_map]; simp [V.int.injEq, Int.ofNat_inj]]
    by_cases el : ds.length = row.length
    · rw [decide_eq_true el]
      refine ⟨true, rfl, iteT ?_⟩
      refine ⟨_, rfl, _, rfl, a, b, vs, row.map V.str, rfl, .inr ⟨st_of ha, st_of hb, fun D nD => ?_⟩⟩
      have nm : ds.length = min vs.length (row.map V.str).length := by rw [List.length_map]; omega
      refine lc_gen (σ := [some (.ref a), some (.ref b), none, none]) (vs := [2, 3]) (walk_zipTT (K := K) (a := a) (b := b) (xs := vs) (ys := row.map V.str) nm) nD (fun i acc H' => Same H2 H' ∧ ∃ bs : List Bool, acc = bs.map V.bl ∧ bs.length = i ∧ (bs.all id = true ↔ ds.take i = (row.take i).map PyData.str)) ⟨Same.refl _, [], rfl, rfl, by simp⟩ (fun i acc H' _ z => ⟨st_of (same_delH _ _ (z.1 _ _ ha)), st_of (same_delH _ _ (z.1 _ _ hb))⟩) ?_ ?_
      · rintro i acc x H3 H4' hi l e ⟨sm, bs, rfl, lb, iff⟩ ⟨t, x1, y1, rfl, nt, rfl, e1, e2⟩
        have di : ds[i]? = some ds[i] := List.getElem?_eq_getElem hi
        have ri : i < row.length := by omega
        have e2 : (row.map V.str)[i]? = some y1 := e2
        rw [List.getElem?_map, List.getElem?_eq_getElem ri] at e2
        cases e2
        have st := same_new (o := HO.tup [x1, V.str row[i]]) nt
        have e' := st _ _ e
        have sm4 : Same H2 (delH (upd H3 t (HO.tup [x1, V.str row[i]])) D) := fun b o ob => same_del st _ _ (sm _ _ ob)
        have up4 : Same H2 (upd H3 t (HO.tup [x1, V.str row[i]])) := sm4.trans same_delH
        have et : upd H3 t (HO.tup [x1, V.str row[i]]) t = some (.tup [x1, V.str row[i]]) := upd_same
        generalize upd H3 t (HO.tup [x1, V.str row[i]]) = H4 at e' sm4 up4 et
        refine ⟨t, _, rfl, st_of et, rfl, _, _, rfl, _, _, rfl, rfl, rfl, ?_⟩
        simp only [tYes, if_true]
        refine ⟨_, rfl, _, rfl, _, row[i], ds[i], rfl, Dq.same up4 _ _ (dqAt ra e1 di), (pl _ (List.getElem_mem hi)).1, (pl _ (List.getElem_mem hi)).2, ro.ws _ (List.getElem_mem ri), fun b1 H5 ib1 s5 => ?_⟩
        refine lc_put l (by omega) (s5 _ _ e') ⟨sm4.trans (same_del s5), bs ++ [b1], by rw [List.map_append]; rfl, by rw [List.length_append, lb]; rfl, ?_⟩
        rw [List.all_append, Bool.and_eq_true, iff, List.take_succ, List.take_succ, di, List.getElem?_eq_getElem ri, List.map_append]
        have ll : (ds.take i).length = ((row.take i).map PyData.str).length := by rw [List.length_map, List.length_take, List.length_take]; omega
        constructor
        · rintro ⟨h1, h2⟩
          have h3 : ds[i] = .str row[i] := ib1.mp (by simpa using h2)
          rw [h1, h3]
          rfl
        · intro h
          obtain ⟨h1, h2⟩ := List.append_inj h ll
          refine ⟨h1, ?_⟩
          have h3 : ds[i] = .str row[i] := by simpa using h2
          simp [ib1.mpr h3]
      · rintro acc H3 l e ⟨sm, bs, rfl, lb, iff⟩
        refine ⟨D, bs, rfl, sq_of e, ?_⟩
        refine hQ _ H3 ?_ (s12.trans (sm.trans same_delH))
        rw [List.take_of_length_le (Nat.le_refl _), List.take_of_length_le (by omega)] at iff
        exact iff
    · rw [decide_eq_false el]
      refine ⟨false, rfl, iteF ?_⟩
      exact hQ _ H2 ⟨(fun q => by cases q), fun q => absurd (by rw [q, List.length_map]) el⟩ s12
end
end K03

set_option maxHeartbeats 4000000
namespace V2
open PySem PySem.Spec PyProof.Rows L2 V1
/-- a callee that raises nothing here -/
theorem passF {X : Cx} : Passes (L2.CX X.prog X.w) X (fun _ _ _ => False) := fun _ _ _ _ _ _ _ c => by
  obtain ⟨_, _, _, _, _, _, _, _, _, _, _, _, z⟩ := c
  exact z.elim
end V2
namespace K03
open PySem PySem.Spec PyProof.Rows L2 V1 V2 V3 V6 LamX NdefX
open Evl (pss_cut tCut sq_of st_of)
theorem okP_good {ts : Tp} (g : GoodT ts) {i : Nat} (hi : i < ts.length) : okP (ts.map mkP) i = true := by
  have at_ : ∀ j (hj : j < ts.length), (ts.map mkP).getD j .none = mkP ts[j] := fun j hj => by simp [List.getD, hj]
  unfold okP
  have h := g.ok _ (List.getElem_mem hi)
  have r : rowD (mkR ts[i].1) = true := by
    show (decide ((ts[i].1.map PyData.str).length ≤ 400) && (ts[i].1.map PyData.str).all wordD) = true
    rw [List.length_map, decide_eq_true h.2.1, Bool.true_and, List.all_map, List.all_eq_true]
    exact fun x hx => h.1 x hx
  have p : pairD (mkP ts[i]) = true := by
    show (rowD (mkR ts[i].1) && wordX ts[i].2) = true
    rw [r, h.2.2]
    rfl
  rw [at_ i hi, p, Bool.true_and, Bool.not_eq_true', rowOf_p]
  by_cases e : 0 < i
  · rw [at_ (i - 1) (by omega), rowOf_p, rowLe_key]
    have z : keyR ts[i - 1].1 < keyR ts[i].1 := (List.pairwise_iff_getElem.mp g.up) (i - 1) i (by omega) hi (by omega)
    rw [decide_eq_true z, Bool.not_true, Bool.and_false]
  · rw [decide_eq_false e, Bool.false_and]
theorem partOf_good {ts : Tp} {o : Str} (g : GoodT ts) (l : ts.length ≤ 200) (w : wordX o = true) : partOf (.tuple (ts.map mkP)) (.str o) = none := by
  have e1 : tupOf 0 200 (.tuple (ts.map mkP)) = true := by
    show (decide ((0 : Int) ≤ ((ts.map mkP).length : Int)) && decide (((ts.map mkP).length : Int) ≤ 200)) = true
    rw [List.length_map, decide_eq_true (by omega), decide_eq_true (by omega)]
    rfl
  have f : firstBad (ts.map mkP) = none := firstBad_none fun i hi => okP_good g (by rw [List.length_map] at hi; exact hi)
  unfold partOf
  rw [if_pos e1]
  simp only [f]
  rw [if_pos (show wordD (.str o) = true from w)]

theorem shortA_R {d : PyData} (h : shortA d = true) : shD d := fun ds e x hx => by
  subst e
  exact shortA_D (shortAll_of h x hx)
theorem shortA_P {d : PyData} (h : shortA d = true) : shortP d := by
  cases d with
  | tuple ds => exact fun d hd => ⟨shortA_D (shortAll_of h d hd), shortA_R (shortAll_of h d hd)⟩
  | _ => trivial
theorem shortA_Ps {d : PyData} (h : shortA d = true) : ∀ ds, d = .tuple ds → ∀ x ∈ ds, shortP x := fun ds e x hx => by
  subst e
  exact shortA_P (shortAll_of h x hx)
theorem short_w {x : Str} (h : wordX x = true) : shortA (.str x) = true := by
  have := wx_len h
  simp only [shortA, decide_eq_true_eq]
  omega
theorem go2_keep {a b : Addr} {H H' : L2.Hp} {o : HO} (g : Go a H H') (ne : b ≠ a) (e : H b = some o) : H' b = some o := by
  have z := g.at_ (b := b) (o := o) (by rw [delH_ne ne]; exact e)
  rw [delH_ne ne] at z
  exact z
theorem some_strs {H : Hp} {a q : Addr} {Q : VK} {E : XK} (xs : List Str) (hd : HandAt H a) (nq : H q = none) (l0 : 0 < xs.length) (l1 : xs.length < 1000)
    (k : ∀ H2 z, Go a H H2 → z ∈ xs → Q (.str z) H2) : spSome [.ref a, .ref q] (upd H q (.lst (xs.map V.str))) Q E := by
  have s1 := same_new (o := HO.lst (xs.map V.str)) nq
  refine ⟨a, _, _, rfl, hand_same hd s1, .inl ⟨q, rfl, hd.ne_new nq, .inl upd_same⟩, by rw [List.length_map]; exact l0, by rw [List.length_map]; exact l1, fun H2 i v hd2 e2 c2 ev => ?_⟩
  rw [List.getElem?_map] at ev
  obtain ⟨z, hz, rfl⟩ := Option.map_eq_some_iff.mp ev
  exact k H2 z ((Go.new hd s1).trans (Go.draw hd2 e2 c2)) (List.mem_of_getElem? hz)
def wildB (d : PyData) : Bool := !wordD d && (shortA d && (isDct d || flatD 2 d))
structure WildOk (d : PyData) : Prop where
  b : wildB d = true
theorem WildOk.wn {d : PyData} (h : WildOk d) : wordD d = false := by
  have z := h.b
  unfold wildB at z
  simp only [Bool.and_eq_true, Bool.not_eq_true'] at z
  exact z.1
theorem WildOk.ws {d : PyData} (h : WildOk d) : shortA d = true := by
  have z := h.b
  unfold wildB at z
  simp only [Bool.and_eq_true] at z
  exact z.2.1
theorem WildOk.fl {d : PyData} (h : WildOk d) : isDct d = true ∨ flatD 2 d = true := by
  have z := h.b
  unfold wildB at z
  simp only [Bool.and_eq_true, Bool.or_eq_true] at z
  exact z.2.2
section
variable [CurK]
def MkZA (ta : TA) (σ : L2.St) (ds : List PyData) : Prop := ∀ H, ∀ Q : List V → Hp → Prop, (∀ vs H', Same H H' → DxAll (newH H H') vs ds → (∀ (i : Nat) (v : V), vs[i]? = some v → ds[i]? = some objD → TbV (newH H H') v) → Q vs H') → ta σ H Q
theorem mkza_cons {te : TE} {ta : TA} {σ : L2.St} {d : PyData} {ds : List PyData} (h : MkX te σ d) (ne : d ≠ objD) (r : MkZA ta σ ds) : MkZA (tCons te ta) σ (d :: ds) := fun H _ k => h H _ fun v H1 s1 q1 => r H1 _ fun vs H2 s2 q2 t2 =>
  k (v :: vs) H2 (s1.trans s2) (.cons (Dx.same (newH_up s2) d v q1) (DxAll.same (newH_on s1) _ _ q2)) fun i u e1 e2 => by
    cases i with
    | zero =>
      cases e2
      exact absurd rfl ne
    | succ i => exact (t2 i u e1 e2).same (newH_on s1)
theorem tab_fin {H : Hp} {Qa : Addr → Hp → Prop} {E : XK} {v1 v2 : V} {d1 d2 : PyData} (h1 : Dx H v1 d1) (h2 : Dx H v2 d2) (sh1 : shortA d1 = true) (sh2 : shortA d2 = true)
    (bad : ∀ x, partOf d1 d2 = some x → ∀ d H', H d = none → Same H H' → H' d = some (.xd [("part", x)]) → E (.ref (He.ga K "BadTable")) (some d) H')
    (good : partOf d1 d2 = none → ∀ ts o, d1 = .tuple (ts.map mkP) → d2 = .str o → GoodT ts → ts.length ≤ 200 → ∀ p H', Same H H' → H p = none → TAt H' p ts o → Qa p H') :
    ∀ p dx, H p = none → H dx = none → dx ≠ p → spTab [.ref p, v1, v2] (upd (upd H dx (.own p)) p (.ins (He.ga K "Table") dx [])) (fun v H2 => v = .non ∧ Qa p H2) E := fun p dx np nd ne => by
  have sm : Same H (upd (upd H dx (.own p)) p (.ins (He.ga K "Table") dx [])) := fun b o e => by
    rw [upd_ne (ne_of_none e np), upd_ne (ne_of_none e nd)]
    exact e
  refine ⟨p, dx, v1, v2, d1, d2, rfl, upd_same, Dx.same sm _ _ h1, Dx.same sm _ _ h2, shortA_Ps sh1, shortA_D sh2, fun x hx d H' nd' s' hd => bad x hx d H' (fresh_up sm nd') (sm.trans s') hd, fun hx ts o e1 e2 gt ln H' st ta => ⟨rfl, good hx ts o e1 e2 gt ln p H' (fun b u e => ?_) np ta⟩⟩
  exact st b u (ne_of_none e np) (sm _ _ e)
/-- a Table of no pair is made -/
theorem tab_mk {te : TE} {σ : L2.St} {H : Hp} {x : Str} {Q : VK} (hw : wordX x = true) (h2 : ∀ H1, Same H H1 → ∀ Q : VK, Q (.str x) H1 → te σ H1 Q) (k : ∀ p H', Same H H' → H p = none → TAt H' p [] x → Q (.ref p) H') : tMake (He.ga K "Table") spTab [] (fun _ _ _ => False) (tCons (tTup tNil) (tCons te tNil)) σ H Q := by
  refine ⟨by show 0 ≤ sizeLine; decide, fun p1 n1 => ?_⟩
  have s1 := same_new (o := HO.tup []) n1
  have e1 : upd H p1 (HO.tup []) p1 = some (.tup []) := upd_same
  generalize upd H p1 (HO.tup []) = H1 at e1 s1
  refine h2 H1 s1 _ ?_
  have h1 : Dx H1 (.ref p1) (.tuple []) := .tup e1 .nil
  refine tab_fin (Qa := fun p H' => Q (.ref p) H') h1 (.str x) (by decide +kernel) (short_w hw) (fun y hy => ?_) (fun _ ts o et eo _ _ p H' sm np ta => ?_)
  · have z := partOf_good (ts := []) (o := x) ⟨fun t h => absurd h List.not_mem_nil, .nil⟩ (Nat.zero_le _) hw
    have z' : partOf (.tuple []) (.str x) = none := z
    rw [z'] at hy
    cases hy
  · cases eo
    cases ts with
    | nil => exact k p H' (s1.trans sm) (fresh_up s1 np) ta
    | cons t ts => cases et
theorem mkz_lst {ta : TA} {σ : L2.St} {ds : List PyData} (r : MkZA ta σ ds) (hz : ds.length ≤ 1000) : ∀ H, ∀ Q : VK, (∀ p vs H', Same H H' → H p = none → H' p = some (.lst vs) → DxAll (newH H H') vs ds → (∀ (i : Nat) (v : V), vs[i]? = some v → ds[i]? = some objD → TbV (newH H H') v) → Q (.ref p) H') → tLstS ta σ H Q := fun H Q k => r H _ fun vs H1 s1 q1 t1 =>
  ⟨Nat.le_of_lt (small1000 (by rw [dxAll_len q1]; exact hz)), fun p n low => k p vs _ (s1.trans (same_new n)) (fresh_up s1 n) upd_same (DxAll.same (newH_up (same_new n)) _ _ q1) fun i v e1 e2 => (t1 i v e1 e2).same (newH_up (same_new n))⟩
theorem mkza_tab {mg : Str → Option Value} {w : World} (T : Tx K w mg) {σ : L2.St} {x : Str} (hw : wordX x = true) : MkZA (tCons (tMake (He.ga K "Table") spTab [] (fun _ _ _ => False) (tCons (tTup tNil) (tCons (tC (.str x)) tNil))) tNil) σ [objD] := fun H Q k => by
  refine tab_mk (Q := fun v G => Q [v] G) hw (fun H1 s1 Q q => q) fun p H' s1 np ta => ?_
  obtain ⟨dx, b, q', us, kvs, hp, _⟩ := ta.ex
  obtain ⟨fs, hp'⟩ : ∃ fs, newH H H' p = some (.ins (He.ga K "Table") dx fs) := ⟨_, by rw [newH_at np]; exact hp⟩
  refine k [.ref p] H' s1 (.cons (.ob hp' (T.obC 0 (x := "Table") rfl (He.cls_ok (T.c.fact 79 rfl)))) .nil) fun i v e1 e2 => ?_
  cases i with
  | zero =>
    cases e1
    exact ⟨p, dx, _, rfl, hp'⟩
  | succ i => cases e1
theorem newH_go {a : Addr} {H H1 H2 : Hp} (ha : Held H a) (g : Go a H1 H2) : Same (newH H H1) (newH H H2) := fun b o e => by
  obtain ⟨n, h⟩ := newH_some e
  have ba : b ≠ a := fun z => by
    obtain ⟨o', e'⟩ := ha
    rw [z, e'] at n
    cases n
  have z := g.at_ (b := b) (o := o) (by rw [delH_ne ba]; exact h)
  rw [delH_ne ba] at z
  rw [newH_at n]
  exact z
end
theorem w_a : wordX "a" = true := by decide +kernel
def wildsL : List PyData := [.none, .bool true, .int 5, .str (Txt.mul (Str.ofString "x") 41), .str (Str.ofString "a\n"), .tuple [.str (Str.ofString "a")], .list [.str (Str.ofString "a")], .tuple [], .dict [], objD]
theorem wilds_ok : ∀ d ∈ wildsL, wildB d = true := by decide +kernel
section
variable [CurK]
def spWild : Sp := fun vs H Q _ => ∃ a, vs = [.ref a] ∧ HandAt H a ∧ ∀ H' v d, Go a H H' → Dx (newH H H') v d → WildOk d → (d = objD → TbV (newH H H') v) → Q v H'
def spPlain : Sp := fun vs H Q _ => ∃ a, vs = [.ref a] ∧ HandAt H a ∧ ∀ H' x p, Go a H H' → H x = none → PlAt (newH H H') x p → PlOk p → Q (.ref x) H'
end
theorem scWild : FnScope ["hand"] ["hand"] (defScope s__law_wild) := ⟨rfl, rfl, rfl, by decide +kernel, rfl, by decide +kernel, by decide +kernel⟩
theorem scPlain : FnScope ["hand", "bad"] ["hand"] (defScope s__law_plain) := ⟨rfl, rfl, rfl, by decide +kernel, rfl, by decide +kernel, by decide +kernel⟩
section
variable [CurK] {P : Program} {w : World} {mg : Str → Option Value} {base : Heap}
theorem ok_wild (T : Tx K w mg) : Has P w K mg base CX0 8 "_law_wild" ["hand"] spWild := by
  obtain ⟨fd, F⟩ := T.c.def_ 29 (d := d__law_wild) rfl
  have Hs := ok_some (P := P) (w := w) (base := base) T
  have Hta := ok_tab (P := P) (w := w) (base := base) T
  refine ⟨fd, F.ok scWild (fun vs H Q E h => ?_) (fun cdv A outer s H vs Q E hr h => ?_), FunD.bindsN F fun _ _ _ _ _ _ us hl => match us, hl with | [_], _ => rfl, F.kp, (T.glo 48 rfl)⟩
  · obtain ⟨a, rfl, _⟩ := h
    rfl
  · refine ⟨_, PSs.nox (pss_one (ps_ret (pe_has Hs (hr.mono (by decide)) pass0 (pa_cons (pv 0) (pa_cons (pe_lstS (pa_cons pe_non (pa_cons pe_bl (pa_cons pe_int (pa_cons (pe_op V4.op_mulS pe_str pe_int) (pa_cons pe_str (pa_cons (pe_tup (pa_cons pe_str pa_nil)) (pa_cons (pe_lstS (pa_cons pe_str pa_nil)) (pa_cons (pe_tup pa_nil) (pa_cons pe_dnewK (pa_cons (pe_hasC Hta (hr.mono (by decide)) passF (pa_cons (pe_tup pa_nil) (pa_cons pe_str pa_nil))) pa_nil))))))))))) pa_nil))))), ?_⟩
    obtain ⟨a, rfl, hd, hQ⟩ := h
    have hh := hd.held
    have wA := w_a
    have M : MkZA _ [some (.ref a)] wildsL := (mkza_cons (mkx_of mkn_non) (by intro z; cases z) (mkza_cons (mkx_of (mkn_bl true)) (by intro z; cases z) (mkza_cons (mkx_of (mkn_int 5)) (by intro z; cases z) (mkza_cons (V4.mkx_mulS _ _ (by decide) (by decide) (by decide)) (by intro z; cases z) (mkza_cons (mkx_of (mkn_str _)) (by intro z; cases z) (mkza_cons (mkx_tup (mkxa_cons (mkx_of (mkn_str _)) mkxa_nil) (Nat.le_of_ble_eq_true rfl)) (by intro z; cases z) (mkza_cons (mkx_lst (mkxa_cons (mkx_of (mkn_str _)) mkxa_nil) (Nat.le_of_ble_eq_true rfl)) (by intro z; cases z) (mkza_cons (mkx_tup mkxa_nil (Nat.le_of_ble_eq_true rfl)) (by intro z; cases z) (mkza_cons (mkx_of mkn_dict0) (by intro z; cases z) (mkza_tab T wA))))))))))
    refine ⟨_, rfl, mkz_lst M (by decide) H _ fun q vs H2 s2 nq eq dv tb => ?_⟩
    have g2 := Go.new hd s2
    have lv := dxAll_len dv
    refine ⟨a, _, _, rfl, g2.hd, .inl ⟨q, rfl, hd.ne_new nq, .inl eq⟩, by rw [lv]; decide, by rw [lv]; decide, fun H3 i v hd3 e3 c3 ev => ?_⟩
    have il : i < wildsL.length := by
      have := (List.getElem?_eq_some_iff.mp ev).1
      omega
    have ed : wildsL[i]? = some wildsL[i] := List.getElem?_eq_getElem il
    have dw := DxAll.at dv ev ed
    have g3 := Go.draw hd3 e3 c3
    have sm := newH_go hh g3
    refine hQ H3 v wildsL[i] (g2.trans g3) (Dx.same sm _ _ dw) ⟨wilds_ok _ (List.getElem_mem il)⟩ fun eo => ?_
    rw [eo] at ed
    exact (tb i v ev ed).same sm
end
end K03

set_option maxHeartbeats 4000000
namespace K03
open PySem PySem.Spec PyProof.Rows L2 V1 V2 V3 V6 LamX NdefX
open Evl (pss_cut tCut sq_of st_of)
theorem go_none {a x : Addr} {H H' : Hp} (g : Go a H H') (hd : HandAt H a) (n : H' x = none) : H x = none := by
  by_cases e : x = a
  · obtain ⟨c, cs, i1, i2, i3, i4, e1, _⟩ := g.hd.ex
    rw [e, e1] at n
    cases n
  · cases z : H x with
    | none => rfl
    | some o =>
      have y := g.at_ (b := x) (o := o) (by rw [delH_ne e]; exact z)
      rw [delH_ne e, n] at y
      cases y
section
variable [CurK] {P : Program} {w : World} {mg : Str → Option Value} {base : Heap}
theorem ok_plain (T : Tx K w mg) : Has P w K mg base CX0 9 "_law_plain" ["hand"] spPlain := by
  obtain ⟨fd, F⟩ := T.c.def_ 30 (d := d__law_plain) rfl
  have Hd := ok_draw (P := P) (w := w) (base := base) T
  have Hs := ok_some (P := P) (w := w) (base := base) T
  have Hwi := ok_wild (P := P) (w := w) (base := base) T
  refine ⟨fd, F.ok scPlain (fun vs H Q E h => ?_) (fun cdv A outer s H vs Q E hr h => ?_), FunD.bindsN F fun _ _ _ _ _ _ us hl => match us, hl with | [_], _ => rfl, F.kp, (T.glo 49 rfl)⟩
  · obtain ⟨a, rfl, _⟩ := h
    rfl
  · refine ⟨_, PSs.nox (pss_cons (ps_set (i := 1) scPlain.nd rfl (Or.inl rfl) (pe_un un_neg pe_int))
 (pss_cut (ps_if (pt_cmpR op_eq (pe_has Hd (hr.mono (by decide)) pass0 (pa_cons (pv 0) (pa_cons pe_int pa_nil))) pe_int (nomark _))
 (pss_one (ps_set (i := 1) scPlain.nd rfl (Or.inl rfl) (pe_has Hd (hr.mono (by decide)) pass0 (pa_cons (pv 0) (pa_cons pe_int pa_nil)))))
 pss_nil)
 (pss_one (ps_ret (pe_lstS (pa_cons (pe_has Hd (hr.mono (by decide)) pass0 (pa_cons (pv 0) (pa_cons pe_int pa_nil))) (pa_cons (pe_has Hs (hr.mono (by decide)) pass0 (pa_cons (pv 0) (pa_cons (pe_lstS (pa_cons pe_str (pa_cons pe_str (pa_cons pe_str (pa_cons (pe_op V4.op_mulS pe_str pe_int) pa_nil))))) pa_nil))) (pa_cons (pv 1) (pa_cons (pe_has Hwi (hr.mono (by decide)) pass0 (pa_cons (pv 0) pa_nil)) pa_nil))))))))), ?_⟩
    obtain ⟨a, rfl, hd, hQ⟩ := h
    refine ⟨1, rfl, ?_⟩
    refine ⟨fun σ H' => ∃ b : Int, σ = [some (.ref a), some (.int b)] ∧ Go a H H', ?_, ?_⟩
    · refine ⟨_, rfl, a, 3, rfl, hd, by decide, by decide, fun H1 r1 hd1 e1 c1 _ _ => ⟨rfl, _, rfl, ite2 (fun _ => ?_) (fun _ => ?_)⟩⟩
      · exact ⟨_, rfl, a, 6, rfl, hd1, by decide, by decide, fun H2 r2 hd2 e2 c2 _ _ => ⟨r2, rfl, (Go.draw hd1 e1 c1).trans (Go.draw hd2 e2 c2)⟩⟩
      · exact ⟨_, rfl, Go.draw hd1 e1 c1⟩
    rintro σ H2 ⟨b', rfl, g2⟩
    refine ⟨_, rfl, a, 3, rfl, g2.hd, by decide, by decide, fun H3 r3 hd3 e3 c3 q0 q1 => ?_⟩
    have g3 := g2.trans (Go.draw hd3 e3 c3)
    obtain ⟨so, rfl⟩ := Int.eq_ofNat_of_zero_le q0
    refine ⟨_, rfl, _, _, rfl, rfl, by decide, by decide, (by decide), (by show 4 ≤ sizeLine; decide), fun q nq _ => ?_⟩
    refine some_strs (E := fun _ _ _ => False) [Str.ofString "", Str.ofString "a", Str.ofString "bc", Txt.mul (Str.ofString "~") 40] hd3 nq (by show 0 < 4; decide) (by show 4 < 1000; decide) fun H4 wd g4 mw => ?_
    have wo : wordX wd = true := by
      have al : ∀ z ∈ [Str.ofString "", Str.ofString "a", Str.ofString "bc", Txt.mul (Str.ofString "~") 40], wordX z = true := by decide +kernel
      exact al wd mw
    refine ⟨_, rfl, _, rfl, a, rfl, g4.hd, fun H5 v d g5 dv wk tb => ⟨(by show 4 ≤ sizeLine; decide), fun x nx _ => ?_⟩⟩
    have s6 := same_new (o := HO.lst [.int ((so : Nat) : Int), .str wd, .int b', v]) nx
    have g34 := g3.trans g4
    have nx0 : H x = none := go_none (g34.trans g5) hd nx
    have up : ∀ b o, newH H4 H5 b = some o → newH H (upd H5 x (HO.lst [.int ((so : Nat) : Int), .str wd, .int b', v])) b = some o := fun b o e => by
      obtain ⟨n, h⟩ := newH_some e
      rw [newH_at (go_none g34 hd n)]
      exact s6 _ _ h
    exact hQ _ x ⟨so, wd, b', d⟩ (g34.trans (g5.trans (Go.new g5.hd s6))) nx0 ⟨v, by rw [newH_at nx0]; exact upd_same, Dx.same up _ _ dv, fun z => (tb z).same up⟩ ⟨by show so < 3; omega, wo, wk.ws, wk.wn, wk.fl⟩
end
end K03

set_option maxHeartbeats 4000000
namespace K03
open PySem PySem.Spec PyProof.Rows L2 V1 V2 V3 V6 LamX NdefX
open Evl (pss_cut tCut sq_of st_of)
def tsK (K : PySem.W.Frag) : List (Addr × Str) := [((V4.pairOf K (He.ga K "_law_house")).2, lamQ)]
def TupsK (H H' : L2.Hp) : Prop := ∀ b o, H b = some o → (∀ xs, o ≠ .lst xs) → H' b = some o
theorem TupsK.refl (H : L2.Hp) : TupsK H H := fun _ _ e _ => e
theorem TupsK.trans {H H1 H2 : L2.Hp} (a : TupsK H H1) (b : TupsK H1 H2) : TupsK H H2 := fun c o e n => b c o (a c o e n) n
theorem TupsK.of {H H' : L2.Hp} (s : Same H H') : TupsK H H' := fun b o e _ => s b o e
theorem TupsK.go {a : Addr} {H H' : L2.Hp} (hd : HandAt H a) (g : Go a H H') : TupsK H H' := fun b o e n => by
  have ne : b ≠ a := fun z => by
    obtain ⟨c, cs, i1, i2, i3, i4, e1, _⟩ := hd.ex
    rw [z, e1] at e
    exact n _ (Option.some.inj e).symm
  have y := g.at_ (b := b) (o := o) (by rw [delH_ne ne]; exact e)
  rw [delH_ne ne] at y
  exact y
theorem TupsK.put {x : Addr} {xs ys : List V} {H : L2.Hp} (e : H x = some (.lst xs)) : TupsK H (upd H x (.lst ys)) := fun b o eb n => by
  have ne : b ≠ x := fun z => by
    rw [z, e] at eb
    exact n _ (Option.some.inj eb).symm
  rw [upd_ne ne]
  exact eb
theorem tabs_tups {T : List (Addr × Str)} {H H' : L2.Hp} (t : Tabs T H) (s : TupsK H H') : Tabs T H' := by
  intro p hp
  obtain ⟨ps, e1, e2, e3⟩ := t p hp
  refine ⟨ps, s _ _ e1 (fun xs z => nomatch z), e2, fun pos cv hc => ?_⟩
  obtain ⟨c', r1, r2⟩ := e3 pos cv hc
  exact ⟨c', r1, s _ _ r2 (fun xs z => by unfold CodeO at z; cases z)⟩
section
variable {H H' : L2.Hp}
mutual
theorem dq_extN (e : ExtN H H') : ∀ (d : PyData) (v : V), Dq H v d → Dq H' v d
  | .none, _, h => by cases h; exact .non
  | .bool b, _, h => by cases h; exact .bl b
  | .int i, _, h => by cases h; exact .int i
  | .str x, _, h => by cases h; exact .str x
  | .list ds, _, h => by
    cases h with
    | lst at_ low rest => exact .lst (e _ _ at_ (fun _ z => nomatch z)) low (dqAll_extN e ds _ rest)
  | .tuple ds, _, h => by
    cases h with
    | tup at_ rest => exact .tup (e _ _ at_ (fun _ z => nomatch z)) (dqAll_extN e ds _ rest)
  | .dict ds, _, h => by
    cases h with
    | dct at_ rest => exact .dct (e _ _ at_ (fun _ z => nomatch z)) (dqKv_extN e ds _ rest)
theorem dqAll_extN (e : ExtN H H') : ∀ (ds : List PyData) (vs : List V), DqAll H vs ds → DqAll H' vs ds
  | [], _, h => by cases h; exact .nil
  | d :: ds, _, h => by
    cases h with
    | cons one more => exact .cons (dq_extN e d _ one) (dqAll_extN e ds _ more)
theorem dqKv_extN (e : ExtN H H') : ∀ (ds : List (PyData × PyData)) (kvs : List (Key × V)), DqKv H kvs ds → DqKv H' kvs ds
  | [], _, h => by cases h; exact .nil
  | (k, d) :: ds, _, h => by
    cases h with
    | cons one more => exact .cons (dq_extN e d _ one) (dqKv_extN e ds _ more)
end
end
theorem off_lst {G : L2.Hp} {b x : Addr} {xs : List V} {o : HO} (hb : G b = some (.lst xs)) (e : G x = some o) (n : ∀ ys, o ≠ .lst ys) : delH G b x = some o := by
  rw [delH_ne fun z => by rw [z, hb] at e; exact n _ (Option.some.inj e).symm]
  exact e
section
variable [CurK] {H H' : L2.Hp}
theorem TbV.ext {v : V} (s : ExtN H H') (h : TbV H v) : TbV H' v := by
  obtain ⟨q, dx, fs, e, h⟩ := h
  exact ⟨q, dx, fs, e, s _ _ h (fun _ z => nomatch z)⟩
theorem PlAt.ext {a : Addr} {p : Pl} (s : ExtN H H') (h : PlAt H a p) : PlAt H' a p := by
  obtain ⟨wv, h1, h2, h3⟩ := h
  exact ⟨wv, s _ _ h1 (fun _ z => nomatch z), V4.dx_ext s _ _ h2, fun z => (h3 z).ext s⟩
theorem VcAt.ext {q a : Addr} {p : Pl} (s : ExtN H H') (h : VcAt H q a p) : VcAt H' q a p := by
  obtain ⟨dx, f, c, c', h1, h2, h3, h4, h5⟩ := h
  exact ⟨dx, f, c, c', s _ _ h1 (fun _ z => nomatch z), s _ _ h2 (fun _ z => nomatch z), s _ _ h3 LamX.codeO_ne, s _ _ h4 (fun ps z => V5.cellO_not.2.2.1 ps z), h5.ext (V4.ext_del s)⟩
theorem PgAt.ext {q : Addr} {b : Bd} (s : ExtN H H') (h : PgAt H q b) : PgAt H' q b := by
  obtain ⟨dx, v, h1, h2⟩ := h
  exact ⟨dx, v, s _ _ h1 (fun _ z => nomatch z), dq_extN s _ _ h2⟩
theorem TAt.ext {q : Addr} {ts : Tp} {o : Str} (s : ExtN H H') (h : TAt H q ts o) : TAt H' q ts o := by
  obtain ⟨dx, a, q', us, kvs, h1, h2, h3, h4, h5⟩ := h.ex
  exact ⟨dx, a, q', us, kvs, s _ _ h1 (fun _ z => nomatch z), s _ _ h2 (fun _ z => nomatch z), dqAll_extN s _ _ h3, s _ _ h4 (fun _ z => nomatch z), h5⟩
theorem HsAt.ext {v : V} {p : Pl} (s : ExtN H H') (h : HsAt H v p) : HsAt H' v p := by
  rcases h with ⟨k, q, e, h⟩ | ⟨k, q, e, h⟩ | ⟨k, q, a, e, h⟩
  · exact .inl ⟨k, q, e, h.ext s⟩
  · exact .inr (.inl ⟨k, q, e, h.ext s⟩)
  · exact .inr (.inr ⟨k, q, a, e, h.ext s⟩)
theorem many_at {v : V} (h : Dq H v (.tuple bMany.ds)) (s : TupsK H H') : Dq H' v (.tuple bMany.ds) := by
  obtain ⟨t1, us1, rfl, h1, q1⟩ := V2.Dq.tup_inv h
  cases q1 with
  | cons one more =>
    cases more
    obtain ⟨t2, us2, rfl, h2, q2⟩ := V2.Dq.tup_inv (show Dq H _ (.tuple [.str (Str.ofString "say"), .tuple [.str (Str.ofString "many")]]) from one)
    cases q2 with
    | cons o1 m1 =>
      cases o1
      cases m1 with
      | cons o2 m2 =>
        cases m2
        obtain ⟨t3, us3, rfl, h3, q3⟩ := V2.Dq.tup_inv o2
        cases q3 with
        | cons o3 m3 =>
          cases m3
          cases o3
          have n : ∀ (us ys : List V), HO.tup us ≠ .lst ys := fun _ _ z => nomatch z
          exact .tup (s _ _ h1 (n _)) (.cons (.tup (s _ _ h2 (n _)) (.cons (.str _) (.cons (.tup (s _ _ h3 (n _)) (.cons (.str _) .nil)) .nil))) .nil)
theorem make_mk {te : TE} {σ : L2.St} {C : Addr} {sp : Sp} {E : XK} {Q : VK} {H : Hp} {a : Addr} {d : PyData} (mk : Mk te σ a d) (ha : Held H a)
    (k : ∀ v H1, Same H H1 → Dq H1 v d → ∀ x dx, H1 x = none → H1 dx = none → dx ≠ x → sp [.ref x, v] (upd (upd H1 dx (.own x)) x (.ins C dx [])) (fun v H2 => v = .non ∧ Q (.ref x) H2) E) : tMake C sp [] E (tCons te tNil) σ H Q :=
  mk H ha _ fun v H1 s1 dv => k v H1 s1 (Dq.same same_delH _ _ dv)
theorem prog_fin {H : Hp} {v : V} {Q : VK} (hv : Dq H v (.tuple bMany.ds)) (hQ : ∀ H' q, Same H H' → PgAt H' q bMany → Q (.ref q) H') :
    ∀ q dx, H q = none → H dx = none → dx ≠ q → spPInit [.ref q, v] (upd (upd H dx (.own q)) q (.ins (He.ga K "Program") dx [])) (fun v H2 => v = .non ∧ Q (.ref q) H2) (fun _ _ _ => False) := fun q dx nq nd ne => by
  have sm : Same H (upd (upd H dx (.own q)) q (.ins (He.ga K "Program") dx [])) := fun b o e => by
    rw [upd_ne (ne_of_none e nq), upd_ne (ne_of_none e nd)]
    exact e
  refine ⟨q, dx, v, _, _, _, rfl, upd_same, dx_of _ _ (Dq.same sm _ _ hv), goodP (b := bMany) rfl (by decide) (by decide), by decide, by decide, fun H' k e => ⟨rfl, ?_⟩⟩
  have s' : Same H H' := fun b o eb => k b o (ne_of_none eb nq) (sm _ _ eb)
  exact hQ H' _ s' ⟨dx, v, e, Dq.same s' _ _ hv⟩
def spLHouse : Sp := fun vs H Q _ => ∃ a p, vs = [.ref a] ∧ PlAt H a p ∧ PlOk p ∧ Tabs (tsK K) H ∧ ∀ H' v, ExtN H H' → Tabs (tsK K) H' → HsAt H' v p → (∀ G', TupsK H' G' → (∀ c, (∀ o, H c = some o → ∃ ps, o = .tbl ps) → PlAt (delH G' c) a p) → HsAt G' v p) → Q v H'
end
theorem scLHouse : FnScope ["plain"] ["plain"] (defScope s__law_house) := ⟨rfl, rfl, rfl, by decide +kernel, rfl, by decide +kernel, by decide +kernel⟩
theorem fr_ok : ∀ y ∈ lamT.2.2.names, y.2 = .free → (defScope s__law_house).names.lookup y.1 = some .cell ∨ (defScope s__law_house).names.lookup y.1 = some .free := by decide +kernel
section
variable [CurK] {P : Program} {w : World} {mg : Str → Option Value} {base : Heap}
theorem ok_lhouse (T : Tx K w mg) (TB : TabB base mg (V4.pairOf K (He.ga K "_law_house")).1 (V4.pairOf K (He.ga K "_law_house")).2) : Has P w K mg base CX0 21 "_law_house" ["plain"] spLHouse := by
  obtain ⟨fd, F⟩ := T.c.def_ 32 (d := d__law_house) rfl
  have Hta := ok_tab (P := P) (w := w) (base := base) T
  have Hpi := ok_pinit (P := P) (w := w) (base := base) T
  have Hvi := ok_vinit (P := P) (w := w) (base := base) T
  have mem : ((V4.pairOf K (He.ga K "_law_house")).2, (("_law_house" : Str) ++ ".<locals>.") ++ "<lambda>") ∈ tsK K := List.mem_singleton.mpr rfl
  have uniq : ∀ p ∈ tsK K, p.1 = (V4.pairOf K (He.ga K "_law_house")).2 → p.2 = (("_law_house" : Str) ++ ".<locals>.") ++ "<lambda>" := fun p hp _ => by rw [List.mem_singleton.mp hp]; rfl
  refine ⟨fd, V5.fn_cell F (T.lam _ (by decide)) scLHouse (i := 0) (y := "plain") (fun vs H Q E h => ?_) rfl (by decide +kernel) (fun n => rfl) (fun A outer s H vs Q E hr h => ?_), FunD.bindsN F fun _ _ _ _ _ _ us hl => match us, hl with | [_], _ => rfl, F.kp, (T.glo 51 rfl)⟩
  · obtain ⟨a, p, rfl, _⟩ := h
    rfl
  · refine ⟨_, V5.PZ.nox (V5.pz_if (pt_cmpR op_eq (pe_ix ix_list (pv 0) pe_int (fun _ _ => rfl)) pe_int (nomark _))
 (V5.pz_ret (pe_hasC Hvi (hr.mono (by decide)) pass0 (pa_cons (V5.pe_lamK (ts := tsK K) TB rfl mem uniq fr_ok) pa_nil)))
 V5.pz_nil
 (V5.pz_if (pt_cmpR op_eq (pe_ix ix_list (pv 0) pe_int (fun _ _ => rfl)) pe_int (nomark _))
 (V5.pz_ret (pe_hasC Hta (hr.mono (by decide)) passF (pa_cons (pe_tup pa_nil) (pa_cons (pe_ix ix_list (pv 0) pe_int (fun _ _ => rfl)) pa_nil))))
 V5.pz_nil
 (V5.pz_ret (pe_hasC Hpi (hr.mono (by decide)) passF (pa_cons (pe_tup (pa_cons (pe_tup (pa_cons pe_str (pa_cons (pe_tup (pa_cons pe_str pa_nil)) pa_nil))) pa_nil)) pa_nil))))), ?_⟩
    obtain ⟨a, p, rfl, pa, po, tb, hQ⟩ := h
    have so := po.so
    have pw := po.w
    generalize hc : s.heap.objs.size + 1 = c
    have pa0 := pa
    obtain ⟨wv, ha, hwv, htb⟩ := pa0
    obtain ⟨k, wd, bad, wild⟩ := p
    dsimp only at so pw ha hwv htb
    have ks : k = 0 ∨ k = 1 ∨ k = 2 := by omega
    have yes : ∀ {n : Int} {A B : Prop}, A → (if decide (V.int n = V.int n) = true then A else B) := fun {n A B} h => by rw [decide_eq_true rfl]; exact h
    have no : ∀ {n m : Int} {A B : Prop}, n ≠ m → B → (if decide (V.int n = V.int m) = true then A else B) := fun {n m A B} ne h => by rw [show decide (V.int n = V.int m) = false from decide_eq_false fun z => ne (V.int.inj z)]; exact h
    rcases ks with rfl | rfl | rfl
    · refine ix0 rfl ha rfl ⟨rfl, _, rfl, yes ?_⟩
      refine ⟨tb, fun H1 f c' e1 t1 nf hc' pq dx nq nd ne => ⟨pq, dx, .ref f, rfl, upd_same, fun H' kp e => ⟨rfl, _, rfl, fun nc => ?_⟩⟩⟩
      subst hc
      have s2 := same_new (o := V5.LamO f (mkL (s.heap.objs.size + 1) c')) nf
      have ef : upd H1 f (V5.LamO f (mkL (s.heap.objs.size + 1) c')) f = some (V5.LamO f (mkL (s.heap.objs.size + 1) c')) := upd_same
      replace nq : upd H1 f (V5.LamO f (mkL (s.heap.objs.size + 1) c')) pq = none := nq
      replace nd : upd H1 f (V5.LamO f (mkL (s.heap.objs.size + 1) c')) dx = none := nd
      replace kp : ∀ b o, b ≠ pq → upd (upd (upd H1 f (V5.LamO f (mkL (s.heap.objs.size + 1) c'))) dx (.own pq)) pq (.ins (He.ga K "Voice") dx []) b = some o → H' b = some o := kp
      generalize upd H1 f (V5.LamO f (mkL (s.heap.objs.size + 1) c')) = H2 at s2 ef nq nd kp
      have s3 : Same H2 H' := fun b o eb => kp b o (ne_of_none eb nq) (by
        rw [upd_ne (ne_of_none eb nq), upd_ne (ne_of_none eb nd)]
        exact eb)
      have s4 := same_new (o := V5.CellO (s.heap.objs.size + 1) (.ref a)) nc
      have e4 : upd H' (s.heap.objs.size + 1) (V5.CellO (s.heap.objs.size + 1) (.ref a)) (s.heap.objs.size + 1) = some (V5.CellO (s.heap.objs.size + 1) (.ref a)) := upd_same
      have s24 := (s2.trans s3).trans s4
      have eH' := e1.trans (V4.ext_of (s2.trans s3))
      have h1 := s4 _ _ e
      have h2 := s4 _ _ (s3 _ _ ef)
      have h3 := s24 _ _ hc'
      have pa' := PlAt.ext eH' pa
      refine hQ _ _ (e1.trans (V4.ext_of s24)) (V4.tabs_same t1 s24) (.inr (.inr ⟨rfl, pq, a, rfl, dx, f, s.heap.objs.size + 1, c', h1, h2, h3, e4, ?_⟩)) (fun G' sG pb => .inr (.inr ⟨rfl, pq, a, rfl, dx, f, s.heap.objs.size + 1, c', sG _ _ h1 (fun _ z => nomatch z), sG _ _ h2 (fun _ z => nomatch z), sG _ _ h3 (fun _ z => by unfold CodeO at z; cases z), sG _ _ e4 (fun _ z => nomatch z), pb _ fun o eo => ?_⟩))
      · exact pa'.same fun b o eb => by rw [delH_ne (ne_of_none eb nc)]; exact s4 _ _ eb
      · by_cases n : ∃ ps, o = .tbl ps
        · exact n
        · have z := eH' _ _ eo fun ps e => n ⟨ps, e⟩
          rw [nc] at z
          cases z
    · refine ix0 rfl ha rfl ⟨rfl, _, rfl, no (by decide) (ix0 rfl ha rfl ⟨rfl, _, rfl, yes ?_⟩)⟩
      refine tab_mk (x := wd) pw (fun H1 s1 Q q => ix0 rfl (s1 _ _ ha) rfl q) fun pq H' s1 np ta => ⟨_, rfl, fun nc => ?_⟩
      subst hc
      have s4 := s1.trans (same_new (o := V5.CellO (s.heap.objs.size + 1) (.ref a)) nc)
      have ta' := ta.same (same_new (o := V5.CellO (s.heap.objs.size + 1) (.ref a)) nc)
      refine hQ _ _ (V4.ext_of s4) (V4.tabs_same tb s4) (.inl ⟨rfl, pq, rfl, ta'⟩) (fun G' sG _ => .inl ⟨rfl, pq, rfl, ?_⟩)
      obtain ⟨dx, b', q', us, kvs, h1, h2, h3, h4, h5⟩ := ta'.ex
      refine ⟨dx, b', q', us, kvs, sG _ _ h1 (fun _ z => nomatch z), sG _ _ h2 (fun _ z => nomatch z), ?_, sG _ _ h4 (fun _ z => nomatch z), h5⟩
      cases h3
      exact .nil
    · refine ix0 rfl ha rfl ⟨rfl, _, rfl, no (by decide) (ix0 rfl ha rfl ⟨rfl, _, rfl, no (by decide) ?_⟩)⟩
      refine make_mk (show Mk _ _ a (.tuple bMany.ds) from mk_tup (mka_cons (mk_tup (mka_cons (mk_str _) (mka_cons (mk_tup (mka_cons (mk_str _) mka_nil) (Nat.le_of_ble_eq_true rfl)) mka_nil)) (Nat.le_of_ble_eq_true rfl)) mka_nil) (Nat.le_of_ble_eq_true rfl)) ⟨_, ha⟩ fun v H1 s1 dv => prog_fin (Q := fun v H' => ∃ u, ([some (.ref a)] : L2.St)[0]? = some (some u) ∧ (H' c = none → Q v (upd H' c (V5.CellO c u)))) dv fun H' pq s2 pg => ⟨_, rfl, fun nc => ?_⟩
      subst hc
      have s5 := same_new (o := V5.CellO (s.heap.objs.size + 1) (.ref a)) nc
      have s4 := s1.trans (s2.trans s5)
      have pg' := pg.same s5
      refine hQ _ _ (V4.ext_of s4) (V4.tabs_same tb s4) (.inr (.inl ⟨rfl, pq, rfl, pg'⟩)) (fun G' sG _ => .inr (.inl ⟨rfl, pq, rfl, ?_⟩))
      obtain ⟨dx, u, h1, h2⟩ := pg'
      exact ⟨dx, u, sG _ _ h1 (fun _ z => nomatch z), many_at h2 sG⟩
end
end K03

set_option maxHeartbeats 4000000
namespace V2
open PySem PySem.Spec PyProof.Rows L2 V1
theorem call_list_low {X : Cx} : CallR X (.type "list") (fun xs H Q => ∃ p ys, xs = [.ref p] ∧ (SqL X.K H p ys ∨ SqT X.K H p ys) ∧ ∀ l, H l = none → (l == sysModules) = false → Q (.ref l) (upd H l (.lst ys))) := by
  rintro pins s σ H xs us Q I r ⟨p, ys, rfl, hq, q⟩
  obtain ⟨u, rfl, rx⟩ := vals1 r
  cases rx
  have src : ∃ (zs : List Value) (T : String) (o : Obj) (n : Nat), Vals ys zs ∧ ys.length ≤ sizeLine ∧ (T = "list" ∨ T = "tuple") ∧ s.heap.get? p = some o ∧ o.cls = .type T ∧ o.data = .seq zs.toArray n := by
    rcases hq with hq | hq
    · obtain ⟨zs, w, pl, z⟩ := I.list hq
      obtain ⟨o, e, c, n, d⟩ := pl.isList
      exact ⟨zs, _, o, n, w, z, .inl rfl, e, c, d⟩
    · obtain ⟨zs, w, pl, z⟩ := I.tuple hq
      obtain ⟨o, e, c, n, d⟩ := pl
      exact ⟨zs, _, o, n, w, z, .inr rfl, e, c, d⟩
  obtain ⟨zs, T, o, n, w, z, hT, e, c, d⟩ := src
  have lz := w.length
  refine call_list_seq p hT e c d (fun h1 c1 kp eh => ?_) (by simp only [List.size_toArray]; omega)
  exact ⟨.ref s.heap.objs.size, _, I.laid (o := .lst ys) (t' := s.toks) kp (Nat.le_refl _) ⟨z, zs, c1, w, eh⟩, rfl, q _ (I.hok.fresh (Nat.le_refl _)) (beq_eq_false_iff_ne.mpr (Nat.ne_of_gt I.big))⟩
end V2
namespace K03
open PySem PySem.Spec PyProof.Rows L2 V1 V2 V3 V6 LamX NdefX
open Evl (pss_cut tCut sq_of st_of)
theorem op_te {r : R2} {ta tb : TE} {σ : L2.St} {H : L2.Hp} {Q : VK} (h : ta σ H fun x H1 => tb σ H1 fun y H2 => r x y H2 Q) : tOp r ta tb σ H Q := h
theorem ret_te {ta : TE} {D : Ends} {σ : L2.St} {H : L2.Hp} (h : ta σ H D.rt) : tRet ta D σ H := h
theorem go_off {a D c : Addr} {H H' : L2.Hp} (g : Go a H H') (hc : cellsOf H' a = some (.ref c)) (cD : c ≠ D) (Da : D ≠ a) : Go a (delH H D) (delH H' D) := ⟨g.hd.off hc cD Da, (cells_del Da).trans (g.ce.trans (cells_del Da).symm), by
  rw [del_comm (a := D) (f := a), del_comm (a := D) (f := a)]
  exact same_del g.sm⟩
section
variable [CurK] {a : Addr} {H0 : Hp} {σ : L2.St}
theorem catX_go {H : Hp} {v u : V} {ds es : List PyData} {Q : VK} (ha : Held H a) (q1 : Dx (delH H a) v (.tuple ds)) (q2 : Dx (delH H a) u (.tuple es)) (l : ds.length + es.length ≤ 900) (k : ∀ q H', Same H H' → Dx (delH H' a) q (.tuple (ds ++ es)) → Q q H') : rCatA K v u H Q := by
  obtain ⟨p, xs, rfl, e1, r1, l1⟩ := V4.tup_at q1
  obtain ⟨q, ys, rfl, e2, r2, l2⟩ := V4.tup_at q2
  refine ⟨p, q, xs, ys, rfl, rfl, st_of e1, st_of e2, Nat.le_trans (by omega : xs.length + ys.length ≤ 900) (by decide), fun z => ?_, fun _ z => ?_, fun nx _ c nc => ?_⟩
  · have z2 : ds = [] := by
      rw [z] at l1
      exact List.eq_nil_of_length_eq_zero l1.symm
    exact k _ H (Same.refl H) (by rw [z2, List.nil_append]; exact q2)
  · have z2 : es = [] := by
      rw [z] at l2
      exact List.eq_nil_of_length_eq_zero l2.symm
    exact k _ H (Same.refl H) (by rw [z2, List.append_nil]; exact q1)
  · have sn := same_new (o := HO.tup (xs ++ ys)) nc
    exact k _ _ sn (.tup (ha.off nc upd_same) (DxAll.same (same_del sn) _ _ (DxAll.app r1 r2)))
theorem mky_tab {mg : Str → Option Value} {w : World} (T : Tx K w mg) {x : Str} (ha : Held H0 a) (hw : wordX x = true) : MkY H0 a (tMake (He.ga K "Table") spTab [] (fun _ _ _ => False) (tCons (tTup tNil) (tCons (tC (.str x)) tNil))) σ objD := fun H s Q k => by
  refine tab_mk (Q := Q) hw (fun H1 s1 Q q => q) fun p H' s1 np ta => ?_
  obtain ⟨dx, b, q', us, kvs, hp, _⟩ := ta.ex
  have pa : p ≠ a := fun z => by
    obtain ⟨o, e⟩ := ha.same s
    rw [z, e] at np
    cases np
  exact k _ H' s1 (.ob (by rw [delH_ne pa]; exact hp) (T.obC 0 (x := "Table") rfl (He.cls_ok (T.c.fact 79 rfl))))
theorem mkx_pow20 : MkX (tOp (rI0 fun i j => .int (i - j)) (tOp (rI CPow fun i j => V.int (i ^ j.toNat)) (tC (.int 10)) (tC (.int 20))) (tC (.int 1))) σ (.int (10 ^ 20 - 1)) := fun H Q k => ⟨10, 20, rfl, rfl, ⟨by decide, by decide, by decide⟩, _, _, rfl, rfl, k _ H (Same.refl H) (.int _)⟩
end
theorem strs_dx [CurK] (H : L2.Hp) : ∀ ys : List Str, DxAll H (ys.map V.str) (ys.map PyData.str)
  | [] => .nil
  | y :: ys => .cons (.str y) (strs_dx H ys)
theorem len_cut (ds : List PyData) (lo hi : Option Int) : (V4.cutD ds lo hi).length ≤ ds.length := by
  unfold V4.cutD
  rw [List.length_take, List.length_drop]
  omega
theorem mem_cut {ds : List PyData} {lo hi : Option Int} {x : PyData} (h : x ∈ V4.cutD ds lo hi) : x ∈ ds := List.mem_of_mem_drop (List.mem_of_mem_take h)
theorem short_cat {ds es : List PyData} (h : shortA (.tuple ds) = true) (k : shortA (.tuple es) = true) : shortA (.tuple (ds ++ es)) = true := by
  show shortAll (ds ++ es) = true
  refine all_short fun x hx => ?_
  rcases List.mem_append.mp hx with z | z
  · exact shortAll_of (show shortAll ds = true from h) x z
  · exact shortAll_of (show shortAll es = true from k) x z
theorem short_cut {ds : List PyData} {lo hi : Option Int} (h : shortA (.tuple ds) = true) : shortA (.tuple (V4.cutD ds lo hi)) = true := by
  show shortAll _ = true
  exact all_short fun x hx => shortAll_of (show shortAll ds = true from h) x (mem_cut hx)
theorem short_row {row : List Str} (h : ∀ x ∈ row, wordX x = true) : shortA (mkR row) = true := by
  show shortAll _ = true
  refine all_short fun d hd => ?_
  obtain ⟨x, hx, rfl⟩ := List.mem_map.mp hd
  exact short_w (h x hx)
def rowMenu : List Str := [Str.ofString "", Str.ofString "a", Str.ofString "~ {", Txt.mul (Str.ofString "x") 40]
theorem rowMenu_ok : ∀ x ∈ rowMenu, wordX x = true := by decide +kernel
def tePick : TE := tCall spSome [] (fun _ _ _ => False) (tCons (tVar 0) (tCons (tLstS (tCons (tC (.str (Str.ofString ""))) (tCons (tC (.str (Str.ofString "a"))) (tCons (tC (.str (Str.ofString "~ {"))) (tCons (tOp V4.rMulS (tC (.str (Str.ofString "x"))) (tC (.int 40))) tNil))))) tNil))
structure RowXOk (d : PyData) : Prop where
  sh : shortA d = true
  ln : ∀ ds, d = .tuple ds → ds.length ≤ 1000
section
variable [CurK]
def spRowX : Sp := fun vs H Q _ => ∃ a, vs = [.ref a] ∧ HandAt H a ∧ ∀ H' v d, Go a H H' → Dx (delH H' a) v d → RowXOk d → Q v H'
def spOrderX : Sp := fun vs H Q _ => ∃ a m, vs = [.ref a, .int m] ∧ HandAt H a ∧ 0 < m ∧ m < 1000 ∧ ∀ H' v d, Go a H H' → Dx (delH H' a) v d → Q v H'
end
theorem scRowX : FnScope ["hand", "kind", "k", "row", "at"] ["hand"] (defScope s__law_row) := ⟨rfl, rfl, rfl, by decide +kernel, rfl, by decide +kernel, by decide +kernel⟩
theorem scOrderX : FnScope ["hand", "many", "size", "k", "order", "kind", "at", "wrong"] ["hand", "many"] (defScope s__law_order) := ⟨rfl, rfl, rfl, by decide +kernel, rfl, by decide +kernel, by decide +kernel⟩
theorem w_e : wordX "" = true := by decide +kernel
section
variable [CurK] {P : Program} {w : World} {mg : Str → Option Value} {base : Heap}
theorem ok_rowx (T : Tx K w mg) : Has P w K mg base CX0 9 "_law_row" ["hand"] spRowX := by
  obtain ⟨fd, F⟩ := T.c.def_ 33 (d := d__law_row) rfl
  have Hd := ok_draw (P := P) (w := w) (base := base) T
  have Hs := ok_some (P := P) (w := w) (base := base) T
  have Hwi := ok_wild (P := P) (w := w) (base := base) T
  have Hta := ok_tab (P := P) (w := w) (base := base) T
  refine ⟨fd, F.ok scRowX (fun vs H Q E h => ?_) (fun cdv A outer s H vs Q E hr h => ?_), FunD.bindsN F fun _ _ _ _ _ _ us hl => match us, hl with | [_], _ => rfl, F.kp, (T.glo 52 rfl)⟩
  · obtain ⟨a, rfl, _⟩ := h
    rfl
  · refine ⟨_, PSs.nox (pss_cons (ps_set (i := 1) scRowX.nd rfl (Or.inl rfl) (pe_has Hd (hr.mono (by decide)) pass0 (pa_cons (pv 0) (pa_cons pe_int pa_nil))))
 (pss_cons (ps_set (i := 3) scRowX.nd rfl (Or.inl rfl) (pe_callTy call_tuple_of (by rfl) (T.free 69 rfl) (by decide +kernel) (pa_cons (pe_lc (own := [("k", 2)]) (g := gName 2) (tt := tYes) (te := tePick) (by rfl) scRowX.nd (pi_range1 (by rfl) (T.free 67 rfl) (pa_cons (pe_has Hd (hr.mono (by decide)) pass0 (pa_cons (pv 0) (pa_cons pe_int pa_nil))) pa_nil))
 (blkOk_by (own := [("k", 2)]) (N := ["hand", "kind", "k", "row", "at"]) (sc := defScope s__law_row) (by decide +kernel)) (fun _ _ _ _ _ => pg_name (i := 2) scRowX.nd rfl (Or.inl rfl)) (fun _ _ _ _ _ => pts_nil) (fun _ _ _ _ _ => (pe_has Hs (hr.mono (by decide)) pass0 (pa_cons (pv 0) (pa_cons (pe_lstS (pa_cons pe_str (pa_cons pe_str (pa_cons pe_str (pa_cons (pe_op V4.op_mulS pe_str pe_int) pa_nil))))) pa_nil))))) pa_nil)))
 (pss_cons (ps_if (pt_cmpR op_lt (pv 1) pe_int (nomark _))
 (pss_one (ps_ret (pv 3)))
 pss_nil)
 (pss_cons (ps_if (pt_cmpR op_lt (pv 1) pe_int (nomark _))
 (pss_cons (ps_set (i := 4) scRowX.nd rfl (Or.inl rfl) (pe_has Hd (hr.mono (by decide)) pass0 (pa_cons (pv 0) (pa_cons (pe_op op_add (pe_callB call_len (by rfl) (T.free 65 rfl) PySem.boot_len (pa_cons (pv 3) pa_nil)) pe_int) pa_nil))))
 (pss_one (ps_ret (pe_op op_catA (pe_op op_catA (pe_slice sl_tupA (pv 3) po_none (po_some (pv 4))) (pe_tup (pa_cons (pe_has Hwi (hr.mono (by decide)) pass0 (pa_cons (pv 0) pa_nil)) pa_nil))) (pe_slice sl_tupA (pv 3) (po_some (pv 4)) po_none)))))
 pss_nil)
 (pss_one (ps_ret (pe_has Hs (hr.mono (by decide)) pass0 (pa_cons (pv 0) (pa_cons (pe_lstS (pa_cons (pe_op op_repT (pe_tup (pa_cons pe_str pa_nil)) pe_int) (pa_cons (pe_op op_repT (pe_tup (pa_cons pe_str pa_nil)) pe_int) (pa_cons (pe_callTy call_list_low (by rfl) (T.free 66 rfl) (by decide +kernel) (pa_cons (pv 3) pa_nil)) (pa_cons pe_non (pa_cons pe_str (pa_cons pe_int (pa_cons pe_bl (pa_cons pe_dnewK (pa_cons (pe_hasC Hta (hr.mono (by decide)) passF (pa_cons (pe_tup pa_nil) (pa_cons pe_str pa_nil))) (pa_cons (pe_lstS (pa_cons (pe_tup (pa_cons pe_str pa_nil)) pa_nil)) pa_nil))))))))))) pa_nil))))))))), ?_⟩
    obtain ⟨a, rfl, hd, hQ⟩ := h
    refine ⟨_, rfl, a, 12, rfl, hd, by decide, by decide, fun H1 r1 hd1 e1 c1 _ _ => ?_⟩
    have g1 := Go.draw hd1 e1 c1
    refine ⟨_, rfl, a, 6, rfl, hd1, by decide, by decide, fun H2 r2 hd2 e2 c2 q0 q1 => ?_⟩
    have g2 := g1.trans (Go.draw hd2 e2 c2)
    obtain ⟨n, rfl⟩ := Int.eq_ofNat_of_zero_le q0
    clear e1 c1 e2 c2 q0
    obtain ⟨c, cs, hce, nca, hc⟩ := hd2.cells
    refine ⟨_, rfl, by omega, by omega, fun D nD => ?_⟩
    rw [Int.toNat_natCast]
    have Da := hd2.ne_new nD
    have cD : c ≠ D := fun z => by
      rw [← z, hc] at nD
      cases nD
    refine lc_gen (σ := [some (.ref a), some (.int r1), none, none, none]) (vs := [2]) (walk_range (lo := 0) (n := n)) nD (fun i acc H' => Go a H2 H' ∧ ∃ ys : List Str, acc = ys.map V.str ∧ ys.length = i ∧ ∀ y ∈ ys, wordX y = true) ⟨Go.refl hd2, [], rfl, rfl, fun _ h => absurd h List.not_mem_nil⟩ (fun _ _ _ _ _ => True.intro) ?_ ?_
    · rintro i acc x H4 H5 hi l e ⟨g4, ys, rfl, yl, hy⟩ ⟨rfl, hx⟩
      refine ⟨rfl, ?_⟩
      simp only [tYes, if_true]
      have hd4 := hand_same g4.hd same_delH
      refine ⟨_, rfl, _, _, rfl, rfl, by decide, by decide, (by decide), (by show 4 ≤ sizeLine; decide), fun q nq _ => ?_⟩
      refine some_strs (E := fun _ _ _ => False) rowMenu hd4 nq (by decide) (by decide) fun H6 z g6 mz => ?_
      have eD := go2_keep g6 Da e
      have c6 : cellsOf H6 a = some (.ref c) := g6.ce.trans ((cells_del Da).symm.trans (g4.ce.trans hce))
      exact lc_put l (by omega) eD ⟨g4.trans (go_off g6 c6 cD Da), ys ++ [z], by rw [List.map_append]; rfl, by rw [List.length_append, yl]; rfl, fun y h => by
        rcases List.mem_append.mp h with h | h
        · exact hy y h
        · rw [List.mem_singleton.mp h]
          exact rowMenu_ok z mz⟩
    rintro acc H3 l3 e3 ⟨g3, ys, rfl, yl, hy⟩
    have g3 := g2.trans (g3.undel Da)
    have hd3 := g3.hd
    refine ⟨D, _, rfl, .inl ⟨sq_of e3, fun t nt => ?_⟩⟩
    have g4 := g3.trans (Go.new hd3 (same_new (o := HO.tup (ys.map V.str)) nt))
    have ta := hd3.ne_new nt
    have et : upd H3 t (HO.tup (ys.map V.str)) t = some (.tup (ys.map V.str)) := upd_same
    have bi : Dx (delH (upd H3 t (HO.tup (ys.map V.str))) a) (.ref t) (mkR ys) := .tup (by rw [delH_ne ta]; exact et) (strs_dx _ _)
    generalize upd H3 t (HO.tup (ys.map V.str)) = H4 at g4 et bi
    have hd4 := g4.hd
    have ro : RowXOk (mkR ys) := ⟨short_row hy, fun ds e => by
      cases e
      rw [List.length_map]
      omega⟩
    clear l3 e3 nt nD g3 g2 hd3 hc hce cD ta
    refine ⟨_, rfl, _, _, rfl, rfl, _, rfl, ite2 (fun _ => ?_) (fun _ => ?_)⟩
    · exact ⟨_, rfl, hQ H4 _ _ g4 bi ro⟩
    refine ⟨_, rfl, _, _, rfl, rfl, _, rfl, ite2 (fun _ => ?_) (fun _ => ?_)⟩
    · refine ⟨_, rfl, _, rfl, _, _, rfl, .inr ⟨_, st_of et, rfl⟩, _, _, rfl, rfl, a, _, rfl, hd4, by omega, (by rw [List.length_map]; omega), fun H5 r5 hd5 e5 c5 q0 q1 => ?_⟩
      have g5 := g4.trans (Go.draw hd5 e5 c5)
      have b5 : Dx (delH H5 a) (.ref t) (mkR ys) := by rw [e5]; exact bi
      obtain ⟨at_, rfl⟩ := Int.eq_ofNat_of_zero_le q0
      have hh := hd5.held
      have cutA : MkY H5 a (tSl (rSlA K) (tVar 3) tNoPart (tPart (tVar 4))) [some (.ref a), some (.int r1), none, some (.ref t), some (.int ((at_ : Nat) : Int))] (.tuple (V4.cutD (ys.map PyData.str) none (some ((at_ : Nat) : Int)))) := V4.mky_cut hh (V4.mky_var b5 rfl) (fun _ _ q => q) (fun _ _ q => ⟨_, rfl, _, rfl, q⟩)
      refine ret_te (op_te (op_te (cutA H5 (Same.refl _) _ fun v1 H6 s6 d1 => ?_)))
      have g6 := Go.new hd5 s6
      refine ⟨_, rfl, a, rfl, g6.hd, fun H7 wv wd g7 dw0 wk _ => ⟨(by show 1 ≤ sizeLine; decide), fun t8 n8 => ?_⟩⟩
      have dw := Dx.same (newH_off g6.hd.held) _ _ dw0
      have s8 := same_new (o := HO.tup [wv]) n8
      have g8 := Go.new g7.hd s8
      have d8 : Dx (delH (upd H7 t8 (HO.tup [wv])) a) (.ref t8) (.tuple [wd]) := .tup (g7.hd.held.off n8 upd_same) (.cons (Dx.same g8.sm _ _ dw) .nil)
      generalize upd H7 t8 (HO.tup [wv]) = H8 at s8 g8 d8
      have c1 := len_cut (ys.map PyData.str) none (some ((at_ : Nat) : Int))
      have c2 := len_cut (ys.map PyData.str) (some ((at_ : Nat) : Int)) none
      rw [List.length_map] at c1 c2
      refine catX_go g8.hd.held (Dx.same (g7.sm.trans g8.sm) _ _ d1) d8 (by simp only [List.length_cons, List.length_nil]; omega) fun q9 H9 s9 d9 => ?_
      have g59 := g6.trans (g7.trans (g8.trans (Go.new g8.hd s9)))
      have hh9 := g59.hd.held
      have b9 := Dx.same g59.sm _ _ b5
      have cutB : MkY H9 a (tSl (rSlA K) (tVar 3) (tPart (tVar 4)) tNoPart) [some (.ref a), some (.int r1), none, some (.ref t), some (.int ((at_ : Nat) : Int))] (.tuple (V4.cutD (ys.map PyData.str) (some ((at_ : Nat) : Int)) none)) := V4.mky_cut hh9 (V4.mky_var b9 rfl) (fun _ _ q => ⟨_, rfl, _, rfl, q⟩) (fun _ _ q => q)
      refine cutB H9 (Same.refl _) _ fun v10 H10 s10 d10 => ?_
      have g10 := Go.new g59.hd s10
      refine catX_go g10.hd.held (Dx.same g10.sm _ _ d9) d10 (by rw [List.length_append]; simp only [List.length_cons, List.length_nil]; omega) fun q11 H11 s11 d11 => ?_
      refine hQ H11 q11 _ (g5.trans (g59.trans (g10.trans (Go.new g10.hd s11)))) d11 ⟨short_cat (short_cat (short_cut ro.sh) ?_) (short_cut ro.sh), fun ds e => ?_⟩
      · show shortAll [wd] = true
        simp only [shortAll, wk.ws, Bool.and_self]
      · cases e
        rw [List.length_append, List.length_append]
        simp only [List.length_cons, List.length_nil]
        omega
    have hh := hd4.held
    have wE := w_e
    have M : MkY H4 a _ [some (.ref a), some (.int r1), none, some (.ref t), none] (.list [.tuple (List.replicate 400 [PyData.str (Str.ofString "a")]).flatten, .tuple (List.replicate 401 [PyData.str (Str.ofString "a")]).flatten, .list (ys.map PyData.str), .none, .str (Str.ofString "a"), .int 0, .bool true, .dict [], objD, .list [.tuple [.str (Str.ofString "a")]]]) := (V4.mky_lst hh (V4.mkya_cons (V4.mky_rep (n := 400) hh (V4.mky_tup hh (V4.mkya_cons (V4.mky_of hh (mkx_of (mkn_str _))) V4.mkya_nil) (Nat.le_of_ble_eq_true rfl)) (by intro z; cases z) (by decide) (by decide) (by decide)) (V4.mkya_cons (V4.mky_rep (n := 401) hh (V4.mky_tup hh (V4.mkya_cons (V4.mky_of hh (mkx_of (mkn_str _))) V4.mkya_nil) (Nat.le_of_ble_eq_true rfl)) (by intro z; cases z) (by decide) (by decide) (by decide)) (V4.mkya_cons (V4.mky_listof hh (V4.mky_var (i := 3) bi rfl)) (V4.mkya_cons (V4.mky_of hh (mkx_of mkn_non)) (V4.mkya_cons (V4.mky_of hh (mkx_of (mkn_str _))) (V4.mkya_cons (V4.mky_of hh (mkx_of (mkn_int 0))) (V4.mkya_cons (V4.mky_of hh (mkx_of (mkn_bl true))) (V4.mkya_cons (V4.mky_of hh (mkx_of mkn_dict0)) (V4.mkya_cons (mky_tab T hh wE) (V4.mkya_cons (V4.mky_lst hh (V4.mkya_cons (V4.mky_tup hh (V4.mkya_cons (V4.mky_of hh (mkx_of (mkn_str _))) V4.mkya_nil) (Nat.le_of_ble_eq_true rfl)) V4.mkya_nil) (Nat.le_of_ble_eq_true rfl)) V4.mkya_nil)))))))))) (Nat.le_of_ble_eq_true rfl))
    refine ⟨_, rfl, M H4 (Same.refl _) _ fun v5 H5 s5 d5 => some_data (hand_same hd4 s5) d5 (.inl rfl) (by show 0 < 10; decide) (by show 10 < 1000; decide) fun H6 wv d6 g6 md dw => hQ H6 wv d6 (g4.trans ((Go.new hd4 s5).trans g6)) dw ?_⟩
    have nt : ∀ d : PyData, shortA d = true → (∀ ds, d ≠ .tuple ds) → RowXOk d := fun d h n => ⟨h, fun ds e => absurd e (n ds)⟩
    have big : ∀ n : Nat, n ≤ 1000 → RowXOk (.tuple (List.replicate n [PyData.str (Str.ofString "a")]).flatten) := fun n hn => ⟨by
      show shortAll _ = true
      refine all_short fun x hx => ?_
      obtain ⟨l, hl, hx'⟩ := List.mem_flatten.mp hx
      rw [List.eq_of_mem_replicate hl] at hx'
      rw [List.mem_singleton.mp hx']
      decide +kernel, fun ds e => by
      cases e
      rw [List.length_flatten, List.map_replicate, List.sum_replicate_nat]
      simp only [List.length_cons, List.length_nil]
      omega⟩
    simp only [List.mem_cons, List.not_mem_nil, or_false] at md
    rcases md with rfl | rfl | rfl | rfl | rfl | rfl | rfl | rfl | rfl | rfl
    · exact big 400 (by decide)
    · exact big 401 (by decide)
    · exact nt _ (show shortAll _ = true from ro.sh) (fun _ z => nomatch z)
    · exact nt _ rfl (fun _ z => nomatch z)
    · exact nt _ (by decide +kernel) (fun _ z => nomatch z)
    · exact nt _ rfl (fun _ z => nomatch z)
    · exact nt _ rfl (fun _ z => nomatch z)
    · exact nt _ rfl (fun _ z => nomatch z)
    · exact nt _ rfl (fun _ z => nomatch z)
    · exact nt _ (by decide +kernel) (fun _ z => nomatch z)
end
end K03

set_option maxHeartbeats 4000000
namespace K03
open PySem PySem.Spec PyProof.Rows L2 V1 V2 V3 V6 LamX NdefX
open Evl (pss_cut tCut sq_of st_of)
theorem ints_dx [CurK] (H : L2.Hp) : ∀ ys : List Int, DxAll H (ys.map V.int) (ys.map PyData.int)
  | [] => .nil
  | y :: ys => .cons (.int y) (ints_dx H ys)
section
variable [CurK] {P : Program} {w : World} {mg : Str → Option Value} {base : Heap}
theorem ok_orderx (T : Tx K w mg) : Has P w K mg base CX0 9 "_law_order" ["hand", "many"] spOrderX := by
  obtain ⟨fd, F⟩ := T.c.def_ 34 (d := d__law_order) rfl
  have Hd := ok_draw (P := P) (w := w) (base := base) T
  have Hs := ok_some (P := P) (w := w) (base := base) T
  have Hta := ok_tab (P := P) (w := w) (base := base) T
  refine ⟨fd, F.ok scOrderX (fun vs H Q E h => ?_) (fun cdv A outer s H vs Q E hr h => ?_), FunD.bindsN F fun _ _ _ _ _ _ us hl => match us, hl with | [_, _], _ => rfl, F.kp, (T.glo 53 rfl)⟩
  · obtain ⟨a, m, rfl, _⟩ := h
    rfl
  · refine ⟨_, PSs.nox (pss_cons (ps_set (i := 2) scOrderX.nd rfl (Or.inl rfl) (pe_op op_add pe_int (pe_has Hd (hr.mono (by decide)) pass0 (pa_cons (pv 0) (pa_cons pe_int pa_nil)))))
 (pss_cons (ps_set (i := 4) scOrderX.nd rfl (Or.inl rfl) (pe_callTy call_tuple_of (by rfl) (T.free 69 rfl) (by decide +kernel) (pa_cons (pe_lc (own := [("k", 3)]) (g := gName 3) (tt := tYes) (te := tCall spDraw [] (fun _ _ _ => False) (tCons (tVar 0) (tCons (tVar 1) tNil))) (by rfl) scOrderX.nd (pi_range1 (by rfl) (T.free 67 rfl) (pa_cons (pv 2) pa_nil))
 (blkOk_by (own := [("k", 3)]) (N := ["hand", "many", "size", "k", "order", "kind", "at", "wrong"]) (sc := defScope s__law_order) (by decide +kernel)) (fun _ _ _ _ _ => pg_name (i := 3) scOrderX.nd rfl (Or.inl rfl)) (fun _ _ _ _ _ => pts_nil) (fun _ _ _ _ _ => (pe_has Hd (hr.mono (by decide)) pass0 (pa_cons (pv 0) (pa_cons (pv 1) pa_nil))))) pa_nil)))
 (pss_cons (ps_set (i := 5) scOrderX.nd rfl (Or.inl rfl) (pe_has Hd (hr.mono (by decide)) pass0 (pa_cons (pv 0) (pa_cons pe_int pa_nil))))
 (pss_cons (ps_if (pt_cmpR op_lt (pv 5) pe_int (nomark _))
 (pss_one (ps_ret (pv 4)))
 pss_nil)
 (pss_cons (ps_if (pt_cmpR op_lt (pv 5) pe_int (nomark _))
 (pss_cons (ps_set (i := 6) scOrderX.nd rfl (Or.inl rfl) (pe_has Hd (hr.mono (by decide)) pass0 (pa_cons (pv 0) (pa_cons (pv 2) pa_nil))))
 (pss_cons (ps_set (i := 7) scOrderX.nd rfl (Or.inl rfl) (pe_has Hs (hr.mono (by decide)) pass0 (pa_cons (pv 0) (pa_cons (pe_lstS (pa_cons (pv 1) (pa_cons (pe_un un_neg pe_int) (pa_cons pe_bl (pa_cons pe_bl (pa_cons pe_non (pa_cons pe_str (pa_cons (pe_tup (pa_cons pe_int pa_nil)) (pa_cons (pe_op op_sub (pe_op op_pow pe_int pe_int) pe_int) (pa_cons (pe_lstS pa_nil) pa_nil)))))))))) pa_nil))))
 (pss_one (ps_ret (pe_op op_catA (pe_op op_catA (pe_slice sl_tupA (pv 4) po_none (po_some (pv 6))) (pe_tup (pa_cons (pv 7) pa_nil))) (pe_slice sl_tupA (pv 4) (po_some (pe_op op_add (pv 6) pe_int)) po_none))))))
 pss_nil)
 (pss_one (ps_ret (pe_has Hs (hr.mono (by decide)) pass0 (pa_cons (pv 0) (pa_cons (pe_lstS (pa_cons (pe_tup pa_nil) (pa_cons (pe_op op_repT (pe_tup (pa_cons pe_int pa_nil)) pe_int) (pa_cons (pe_op op_repT (pe_tup (pa_cons pe_int pa_nil)) pe_int) (pa_cons (pe_callTy call_list_low (by rfl) (T.free 66 rfl) (by decide +kernel) (pa_cons (pv 4) pa_nil)) (pa_cons pe_non (pa_cons pe_int (pa_cons pe_str (pa_cons pe_dnewK (pa_cons (pe_op op_repT (pe_tup (pa_cons pe_int pa_nil)) pe_int) (pa_cons (pe_hasC Hta (hr.mono (by decide)) passF (pa_cons (pe_tup pa_nil) (pa_cons pe_str pa_nil))) pa_nil))))))))))) pa_nil)))))))))), ?_⟩
    obtain ⟨a, m, rfl, hd, m0, m1, hQ⟩ := h
    refine ⟨_, rfl, a, 8, rfl, hd, by decide, by decide, fun H2 r2 hd2 e2 c2 q0 q1 => ⟨_, _, rfl, rfl, ?_⟩⟩
    have g2 := Go.draw hd2 e2 c2
    obtain ⟨n, rfl⟩ := Int.eq_ofNat_of_zero_le q0
    clear e2 c2 q0
    obtain ⟨c, cs, hce, nca, hc⟩ := hd2.cells
    refine ⟨_, rfl, _, rfl, by omega, by omega, fun D nD => ?_⟩
    rw [show ((1 : Int) + ((n : Nat) : Int)).toNat = n + 1 by omega]
    have Da := hd2.ne_new nD
    have cD : c ≠ D := fun z => by
      rw [← z, hc] at nD
      cases nD
    refine lc_gen (σ := [some (.ref a), some (.int m), some (.int (1 + ((n : Nat) : Int))), none, none, none, none, none]) (vs := [3]) (walk_range (lo := 0) (n := n + 1)) nD (fun i acc H' => Go a H2 H' ∧ ∃ ys : List Int, acc = ys.map V.int ∧ ys.length = i) ⟨Go.refl hd2, [], rfl, rfl⟩ (fun _ _ _ _ _ => True.intro) ?_ ?_
    · rintro i acc x H4 H5 hi l e ⟨g4, ys, rfl, yl⟩ ⟨rfl, hx⟩
      refine ⟨rfl, ?_⟩
      simp only [tYes, if_true]
      refine ⟨_, rfl, _, rfl, a, m, rfl, hand_same g4.hd same_delH, m0, by omega, fun H6 z hd6 e6 c6 _ _ => ?_⟩
      obtain ⟨g6, eD⟩ := g4.draw_in hce cD Da hd6 e6 c6
      exact lc_put l (by omega) (eD.trans e) ⟨g6, ys ++ [z], by rw [List.map_append]; rfl, by rw [List.length_append, yl]; rfl⟩
    rintro acc H3 l3 e3 ⟨g3, ys, rfl, yl⟩
    have g3 := g2.trans (g3.undel Da)
    have hd3 := g3.hd
    refine ⟨D, _, rfl, .inl ⟨sq_of e3, fun t nt => ?_⟩⟩
    have g4 := g3.trans (Go.new hd3 (same_new (o := HO.tup (ys.map V.int)) nt))
    have ta := hd3.ne_new nt
    have et : upd H3 t (HO.tup (ys.map V.int)) t = some (.tup (ys.map V.int)) := upd_same
    have bi : Dx (delH (upd H3 t (HO.tup (ys.map V.int))) a) (.ref t) (.tuple (ys.map PyData.int)) := .tup (by rw [delH_ne ta]; exact et) (ints_dx _ _)
    generalize upd H3 t (HO.tup (ys.map V.int)) = H4 at g4 et bi
    have hd4 := g4.hd
    clear l3 e3 nt nD g3 g2 hd3 hc hce cD ta
    refine ⟨_, rfl, a, 12, rfl, hd4, by decide, by decide, fun H5 r5 hd5 e5 c5 _ _ => ?_⟩
    have g5 := g4.trans (Go.draw hd5 e5 c5)
    have b5 : Dx (delH H5 a) (.ref t) (.tuple (ys.map PyData.int)) := by rw [e5]; exact bi
    clear e5 c5 bi et g4 hd4
    refine ⟨_, rfl, _, _, rfl, rfl, _, rfl, ite2 (fun _ => ?_) (fun _ => ?_)⟩
    · exact ⟨_, rfl, hQ H5 _ _ g5 b5⟩
    refine ⟨_, rfl, _, _, rfl, rfl, _, rfl, ite2 (fun _ => ?_) (fun _ => ?_)⟩
    · refine ⟨_, rfl, _, rfl, a, _, rfl, hd5, by omega, by omega, fun H6 r6 hd6 e6 c6 q0 q1 => ?_⟩
      have g6 := g5.trans (Go.draw hd6 e6 c6)
      have b6 : Dx (delH H6 a) (.ref t) (.tuple (ys.map PyData.int)) := by rw [e6]; exact b5
      obtain ⟨at_, rfl⟩ := Int.eq_ofNat_of_zero_le q0
      have hh := hd6.held
      have bm : Dx (delH H6 a) (.int m) (.int m) := .int m
      have M : MkY H6 a _ [some (.ref a), some (.int m), some (.int (1 + ((n : Nat) : Int))), none, some (.ref t), some (.int r5), some (.int ((at_ : Nat) : Int)), none] (.list [.int m, .int (-1), .bool true, .bool false, .none, .str (Str.ofString "0"), .tuple [.int 0], .int (10 ^ 20 - 1), .list []]) := (V4.mky_lst hh (V4.mkya_cons (V4.mky_var (i := 1) bm rfl) (V4.mkya_cons (V4.mky_of hh (V4.mkx_neg 1)) (V4.mkya_cons (V4.mky_of hh (mkx_of (mkn_bl true))) (V4.mkya_cons (V4.mky_of hh (mkx_of (mkn_bl false))) (V4.mkya_cons (V4.mky_of hh (mkx_of mkn_non)) (V4.mkya_cons (V4.mky_of hh (mkx_of (mkn_str _))) (V4.mkya_cons (V4.mky_tup hh (V4.mkya_cons (V4.mky_of hh (mkx_of (mkn_int 0))) V4.mkya_nil) (Nat.le_of_ble_eq_true rfl)) (V4.mkya_cons (V4.mky_of hh mkx_pow20) (V4.mkya_cons (V4.mky_lst hh V4.mkya_nil (Nat.le_of_ble_eq_true rfl)) V4.mkya_nil))))))))) (Nat.le_of_ble_eq_true rfl))
      refine ⟨_, rfl, M H6 (Same.refl _) _ fun v7 H7 s7 d7 => some_data (hand_same hd6 s7) d7 (.inl rfl) (by show 0 < 9; decide) (by show 9 < 1000; decide) fun H8 wv wd g8 _ dw => ?_⟩
      have g68 := (Go.new hd6 s7).trans g8
      have b8 := Dx.same g68.sm _ _ b6
      have hh8 := g8.hd.held
      have cutA : MkY H8 a (tSl (rSlA K) (tVar 4) tNoPart (tPart (tVar 6))) [some (.ref a), some (.int m), some (.int (1 + ((n : Nat) : Int))), none, some (.ref t), some (.int r5), some (.int ((at_ : Nat) : Int)), some wv] (.tuple (V4.cutD (ys.map PyData.int) none (some ((at_ : Nat) : Int)))) := V4.mky_cut hh8 (V4.mky_var b8 rfl) (fun _ _ q => q) (fun _ _ q => ⟨_, rfl, _, rfl, q⟩)
      refine ret_te (op_te (op_te (cutA H8 (Same.refl _) _ fun v9 H9 s9 d9 => ?_)))
      have g9 := Go.new g8.hd s9
      refine ⟨_, rfl, (by show 1 ≤ sizeLine; decide), fun t8 n8 => ?_⟩
      have s10 := same_new (o := HO.tup [wv]) n8
      have g10 := Go.new g9.hd s10
      have d10 : Dx (delH (upd H9 t8 (HO.tup [wv])) a) (.ref t8) (.tuple [wd]) := .tup (g9.hd.held.off n8 upd_same) (.cons (Dx.same (g9.sm.trans g10.sm) _ _ dw) .nil)
      generalize upd H9 t8 (HO.tup [wv]) = H10 at s10 g10 d10
      have c1 := len_cut (ys.map PyData.int) none (some ((at_ : Nat) : Int))
      have c2 := len_cut (ys.map PyData.int) (some (((at_ : Nat) : Int) + 1)) none
      rw [List.length_map] at c1 c2
      refine catX_go g10.hd.held (Dx.same g10.sm _ _ d9) d10 (by simp only [List.length_cons, List.length_nil]; omega) fun q11 H11 s11 d11 => ?_
      have g811 := g9.trans (g10.trans (Go.new g10.hd s11))
      have hh11 := g811.hd.held
      have b11 := Dx.same g811.sm _ _ b8
      have cutB : MkY H11 a (tSl (rSlA K) (tVar 4) (tPart (tOp (rI0 fun i j => .int (i + j)) (tVar 6) (tC (.int 1)))) tNoPart) [some (.ref a), some (.int m), some (.int (1 + ((n : Nat) : Int))), none, some (.ref t), some (.int r5), some (.int ((at_ : Nat) : Int)), some wv] (.tuple (V4.cutD (ys.map PyData.int) (some (((at_ : Nat) : Int) + 1)) none)) := V4.mky_cut hh11 (V4.mky_var b11 rfl) (fun _ _ q => ⟨_, rfl, _, _, rfl, rfl, _, rfl, q⟩) (fun _ _ q => q)
      refine cutB H11 (Same.refl _) _ fun v12 H12 s12 d12 => ?_
      have g12 := Go.new g811.hd s12
      refine catX_go g12.hd.held (Dx.same g12.sm _ _ d11) d12 (by rw [List.length_append]; simp only [List.length_cons, List.length_nil]; omega) fun q13 H13 s13 d13 => ?_
      exact hQ H13 q13 _ (g6.trans (g68.trans (g811.trans (g12.trans (Go.new g12.hd s13))))) d13
    have hh := hd5.held
    have wE := w_e
    have bi := b5
    have M : MkY H5 a _ [some (.ref a), some (.int m), some (.int (1 + ((n : Nat) : Int))), none, some (.ref t), some (.int r5), none, none] (.list [.tuple [], .tuple (List.replicate 40 [PyData.int 0]).flatten, .tuple (List.replicate 41 [PyData.int 0]).flatten, .list (ys.map PyData.int), .none, .int 0, .str (Str.ofString "0"), .dict [], .tuple (List.replicate 42 [PyData.int 0]).flatten, objD]) := (V4.mky_lst hh (V4.mkya_cons (V4.mky_tup hh V4.mkya_nil (Nat.le_of_ble_eq_true rfl)) (V4.mkya_cons (V4.mky_rep (n := 40) hh (V4.mky_tup hh (V4.mkya_cons (V4.mky_of hh (mkx_of (mkn_int 0))) V4.mkya_nil) (Nat.le_of_ble_eq_true rfl)) (by intro z; cases z) (by decide) (by decide) (by decide)) (V4.mkya_cons (V4.mky_rep (n := 41) hh (V4.mky_tup hh (V4.mkya_cons (V4.mky_of hh (mkx_of (mkn_int 0))) V4.mkya_nil) (Nat.le_of_ble_eq_true rfl)) (by intro z; cases z) (by decide) (by decide) (by decide)) (V4.mkya_cons (V4.mky_listof hh (V4.mky_var (i := 4) bi rfl)) (V4.mkya_cons (V4.mky_of hh (mkx_of mkn_non)) (V4.mkya_cons (V4.mky_of hh (mkx_of (mkn_int 0))) (V4.mkya_cons (V4.mky_of hh (mkx_of (mkn_str _))) (V4.mkya_cons (V4.mky_of hh (mkx_of mkn_dict0)) (V4.mkya_cons (V4.mky_rep (n := 42) hh (V4.mky_tup hh (V4.mkya_cons (V4.mky_of hh (mkx_of (mkn_int 0))) V4.mkya_nil) (Nat.le_of_ble_eq_true rfl)) (by intro z; cases z) (by decide) (by decide) (by decide)) (V4.mkya_cons (mky_tab T hh wE) V4.mkya_nil)))))))))) (Nat.le_of_ble_eq_true rfl))
    exact ⟨_, rfl, M H5 (Same.refl _) _ fun v6 H6 s6 d6 => some_data (hand_same hd5 s6) d6 (.inl rfl) (by show 0 < 10; decide) (by show 10 < 1000; decide) fun H7 wv d7 g7 md dw => hQ H7 wv d7 (g5.trans ((Go.new hd5 s6).trans g7)) dw⟩
end
end K03

set_option maxHeartbeats 4000000
namespace V5
open PySem PySem.Spec PyProof.Rows L2 V1 V2 V3 LamX NdefX
def tMethAE (m : Str) (Cs : List (Addr × Sp)) (E : L2.St → XK) (ta : TE) (t : TA) : TE := fun σ H Q => tMethA m Cs (E σ) ta t σ H Q
theorem pe_methAE {X : Cx} {CX : CXT} {k : Nat} {m : Str} {Cs : List (Addr × Sp)} {E : L2.St → XK} {o e : Expr} {es : List Expr} {ta : TE} {t : TA} {apos pos : Pos} {pl : Sem Bool} (he : PE X o ta) (M : ∀ p ∈ Cs, MOk X CX k m p.1 p.2) (hr : Room k X.A) (hx : ∀ σ, PassesAt CX X σ (E σ)) (ha : PA X (e :: es) t)
    (st : starEach (e :: es) X.env = (false, eval e X.env) :: starEach es X.env := by rfl) (pn : (backTo pos (starEach es X.env)).any (·.1) = false := by rfl)
    (ev : eval (.Call (.Attribute o m apos) (e :: es) [] pos) X.env = (do let ov ← eval o X.env; standAt apos.atName; let (g, first) ← holding [ov] (getMethod ov m pl); callWith pos g first (backTo pos (starEach (e :: es) X.env)) (backToKw pos (keywordEach [] X.env))) := by rfl) :
    PE X (.Call (.Attribute o m apos) (e :: es) [] pos) (tMethAE m Cs E ta t) := by
  constructor
  intro pins s σ H Q I h
  refine PySem.W.methodCall_KW (pl := pl) (thn (he.run pins s σ H _ I h) fun u s1 hh => ?_) ev
  obtain ⟨x, H1, J, rx, p, hp, a, dx, fs, rfl, ea, l, q⟩ := hh
  cases rx
  obtain ⟨f, fd, ps, cC, mM, F, B⟩ := (M p hp).ex
  refine getmeth_ok J ea cC mM l (PySem.W.callWith_K (first := [.ref a]) (h₀ := X.base) I.ok.mod.kin mM.kp (thn (ha.run pos pins s1 σ H1 _ J q) fun us s2 gg => ?_) st pn)
  obtain ⟨vs, H2, J2, r, q2⟩ := gg
  exact ⟨J2.kIn, run_fnS (us := .ref a :: us) (vs := .ref a :: vs) F hr B (hx σ) J2 (.cons rfl r) q2⟩
end V5
namespace K03
open PySem PySem.Spec PyProof.Rows L2 V1 V2 V3 V6 LamX NdefX
open Evl (pss_cut tCut sq_of st_of)
def clX (k : String) : TS := tRet (tTup (tCons (tC (.str (Str.ofString k))) (tCons (tC .non) tNil)))
def clB (K : PySem.W.Frag) : Addr → Value → Option Addr → TS := fun a cls d => tRet (tTup (tCons (tC (.str "house")) (tCons (tXf a cls d (He.ga K "BadHouse") "row" (tVar 4)) tNil)))
section
variable {K : PySem.W.Frag} {w : World} {mg : Str → Option Value}
theorem Tx.exm (T : Tx K w mg) (i j : Nat) {x y : Str} (hx : errs[i]? = some x) (hy : errs[j]? = some y) : PySem.W.exmOne K (.ref (He.ga K x)) (.ref (He.ga K y)) = some (decide (i = j)) := by
  obtain ⟨hE, hA, nd, cA⟩ := T.exs
  rw [(T.one i hx).exm (T.one j hy) rfl]
  obtain ⟨n1, n2⟩ := List.nodup_cons.mp nd
  have ne : He.ga K "TalkError" ≠ He.ga K y := fun z => n1 (List.mem_map.mpr ⟨y, List.mem_of_getElem? hy, z.symm⟩)
  have z : ((Value.ref (He.ga K "TalkError") :: veB).contains (Value.ref (He.ga K y))) = false := by
    rw [List.contains_cons]
    have z1 : (Value.ref (He.ga K y) == Value.ref (He.ga K "TalkError")) = false := by simpa using Ne.symm ne
    rw [z1]
    rfl
  rw [z, Bool.or_false]
  by_cases e : i = j
  · subst e
    have exy : x = y := Option.some.inj (hx.symm.trans hy)
    rw [exy, decide_eq_true rfl, decide_eq_true rfl]
  · rw [decide_eq_false e]
    have ne2 : He.ga K x ≠ He.ga K y := fun q => by
      have a1 : (errs.map (He.ga K))[i]? = some (He.ga K x) := by rw [List.getElem?_map, hx]; rfl
      have a2 : (errs.map (He.ga K))[j]? = some (He.ga K y) := by rw [List.getElem?_map, hy]; rfl
      rw [q] at a1
      have li := (List.getElem?_eq_some_iff.mp a1).1
      exact e ((List.getElem?_inj li n2).mp (a1.trans a2.symm))
    rw [decide_eq_false ne2]
theorem Tx.xf (T : Tx K w mg) (i : Nat) {x : Str} (h : errs[i]? = some x) : XfC K (He.ga K x) := by
  have E := T.one i h
  exact ⟨E.ga, E.gg, by rw [E.sub]; rfl, E.hasDict⟩
end
section
variable [CurK]
mutual
theorem dq_of_dx {H : L2.Hp} : ∀ (d : PyData) (v : V), V2.plain d = true → Dx H v d → Dq H v d
  | .none, _, _, h => by cases h; exact .non
  | .bool b, _, _, h => by cases h; exact .bl b
  | .int i, _, _, h => by cases h; exact .int i
  | .str x, _, _, h => by cases h; exact .str x
  | .list ds, _, n, h => by
    cases h with
    | lst e l r => exact .lst e l (dqAll_of_dx ds _ (by simpa [V2.plain] using n) r)
  | .tuple ds, _, n, h => by
    cases h with
    | tup e r => exact .tup e (dqAll_of_dx ds _ (by simpa [V2.plain] using n) r)
  | .dict _, _, n, _ => by simp [V2.plain] at n
theorem dqAll_of_dx {H : L2.Hp} : ∀ (ds : List PyData) (vs : List V), V2.plainAll ds = true → DxAll H vs ds → DqAll H vs ds
  | [], _, _, h => by cases h; exact .nil
  | d :: ds, _, n, h => by
    cases h with
    | cons one more =>
      have n' : V2.plain d = true ∧ V2.plainAll ds = true := by simpa [V2.plainAll] using n
      exact .cons (dq_of_dx d _ n'.1 one) (dqAll_of_dx ds _ n'.2 more)
end
end
theorem strs_dqs (H : L2.Hp) : ∀ ys : List Str, DqAll H (ys.map V.str) (ys.map PyData.str)
  | [] => .nil
  | y :: ys => .cons (.str y) (strs_dqs H ys)
def orderN : PyData := .tuple [.str (Str.ofString "order"), .none]
def rowN : PyData := .tuple [.str (Str.ofString "row"), .none]
def houseD (d : PyData) : PyData := .tuple [.str (Str.ofString "house"), d]
def toldD (d : PyData) : PyData := .tuple [.str (Str.ofString "told"), d]
section
variable [CurK]
def spCalled : Sp := fun vs H Q _ =>
  (∃ hv rv p d tv, vs = [.int 0, hv, rv, tv] ∧ HsAt H hv p ∧ PlOk p ∧ Dx H rv d ∧ shD d ∧ (rowD d = false → ∀ H' t, Same H H' → Dq H' (.ref t) rowN → Q (.ref t) H') ∧
    (∀ row, d = mkR row → RowOk row → wordD (tellD p d) = false → ∀ H' t, Same H H' → Dq H' (.ref t) (houseD (mkR row)) → Q (.ref t) H') ∧
    (∀ row, d = mkR row → RowOk row → ∀ x, tellD p d = .str x → wordX x = true → ∀ H' t, Same H H' → Dq H' (.ref t) (toldD (.str x)) → Q (.ref t) H')) ∨
  (∃ hv rv p d tv, vs = [.int 1, hv, rv, tv] ∧ HsAt H hv p ∧ Dx H rv d ∧ shD d ∧ (rowD d = false → ∀ H' t, Same H H' → Dq H' (.ref t) rowN → Q (.ref t) H') ∧
    (∀ row, d = mkR row → RowOk row → ∀ H' t wv, Same H H' → H' t = some (.tup [.str (Str.ofString "told"), wv]) → Dx H' wv (tellD p d) → Q (.ref t) H')) ∨
  (∃ h ov ps od tv, vs = [.int 2, .ref h, ov, tv] ∧ HsL H h ps ∧ (∀ p ∈ ps, PlOk p) ∧ Dx H ov od ∧ (orderD ((ps.length : Nat) : Int) od = false → ∀ H' t, Same H H' → Dq H' (.ref t) orderN → Q (.ref t) H') ∧
    ∀ os : List Nat, od = .tuple (os.map fun o : Nat => .int ((o : Nat) : Int)) → orderD ((ps.length : Nat) : Int) od = true → RowOk (talk3 ps os []).1 →
      ((talk3 ps os []).2 = true → ∀ H' t, Same H H' → Dq H' (.ref t) (toldD (mkR (talk3 ps os []).1)) → Q (.ref t) H') ∧
      ((talk3 ps os []).2 = false → ∀ H' t, Same H H' → Dq H' (.ref t) (houseD (mkR (talk3 ps os []).1)) → Q (.ref t) H')) ∨
  (∃ h ov ps od v d, vs = [.int 3, .ref h, ov, v] ∧ HsL H h ps ∧ (∀ p ∈ ps, PlOk p) ∧ Dx H ov od ∧ Dx H v d ∧ shD d ∧ (orderD ((ps.length : Nat) : Int) od = false → ∀ H' t, Same H H' → Dq H' (.ref t) orderN → Q (.ref t) H') ∧
    ∀ os : List Nat, od = .tuple (os.map fun o : Nat => .int ((o : Nat) : Int)) → orderD ((ps.length : Nat) : Int) od = true → RowOk (talk3 ps os []).1 →
      ((talk3 ps os []).2 = true → ∀ H' t, Same H H' → Dq H' (.ref t) (toldD (.bool (rowD d && decide (txOf d = (talk3 ps os []).1)))) → Q (.ref t) H') ∧
      ((talk3 ps os []).2 = false → ∀ H' t, Same H H' → Dq H' (.ref t) (houseD (mkR (talk3 ps os []).1)) → Q (.ref t) H'))
end
theorem scCalled : FnScope ["which", "first", "second", "thing", "error"] ["which", "first", "second", "thing"] (defScope s__law_called) := ⟨rfl, rfl, rfl, by decide +kernel, rfl, by decide +kernel, by decide +kernel⟩
section
variable [CurK] {P : Program} {w : World} {mg : Str → Option Value} {base : Heap}
theorem ok_called (T : Tx K w mg) : Has P w K mg base CX0 60 "_law_called" ["which", "first", "second", "thing"] spCalled := by
  obtain ⟨fd, F⟩ := T.c.def_ 36 (d := d__law_called) rfl
  obtain ⟨fA, GA, bA, kA, gA⟩ := ok_asked (P := P) (w := w) (base := base) T
  obtain ⟨fT, GT, bT, kT, gT⟩ := ok_talk (P := P) (w := w) (base := base) T
  obtain ⟨fI, GI, bI, kI, gI⟩ := ok_istalk (P := P) (w := w) (base := base) T
  refine ⟨fd, F.ok scCalled (fun vs H Q E h => ?_) (fun cdv A outer s H vs Q E hr h => ?_), FunD.bindsN F fun _ _ _ _ _ _ us hl => match us, hl with | [_, _, _, _], _ => rfl, F.kp, (T.glo 55 rfl)⟩
  · rcases h with ⟨_, _, _, _, _, rfl, _⟩ | ⟨_, _, _, _, _, rfl, _⟩ | ⟨_, _, _, _, _, rfl, _⟩ | ⟨_, _, _, _, _, _, rfl, _⟩ <;> rfl
  · refine ⟨_, PSs.nox (pss_one (ps_try_cl (tb := fun W => (tSeq (tIfS (tTest (tOp rEq (tVar 0) (tC (.int 0)))) (tRet (tTup (tCons (tC (.str (Str.ofString "told"))) (tCons (tCallS spAsked (WE W) (tCons (tVar 1) (tCons (tVar 2) tNil))) tNil)))) tNext) (tSeq (tIfS (tTest (tOp rEq (tVar 0) (tC (.int 1)))) (tRet (tTup (tCons (tC (.str (Str.ofString "told"))) (tCons (V5.tMethAE "word" (hsCs K) (WE W) (tVar 1) (tCons (tVar 2) tNil)) tNil)))) tNext) (tSeq (tIfS (tTest (tOp rEq (tVar 0) (tC (.int 2)))) (tRet (tTup (tCons (tC (.str (Str.ofString "told"))) (tCons (tCallS spTalk (WE W) (tCons (tVar 1) (tCons (tVar 2) tNil))) tNil)))) tNext) (tRet (tTup (tCons (tC (.str (Str.ofString "told"))) (tCons (tCallS spIsTalk (WE W) (tCons (tVar 1) (tCons (tVar 2) (tCons (tVar 3) tNil)))) tNil)))))))) (Wout := fun _ _ _ _ => False) (l := [(.ref (He.ga K "NoRow"), none, fun _ _ _ => clX "row"), (.ref (He.ga K "NoOrder"), none, fun _ _ _ => clX "order"), (.ref (He.ga K "BadHouse"), some 4, clB K), (.ref (He.ga K "TalkError"), none, fun _ _ _ => clX "else")]) rfl rfl scCalled.nd L2.takes0
 (fun W pn xe tk _ => (pss_cons (ps_if (pt_cmpR op_eq (pv 0) pe_int (nomark _))
 (pss_one (ps_ret (pe_tup (pa_cons pe_str (pa_cons (pe_callS GA (hr.mono (by decide)) rfl gA kA bA (fun σ => passAt tk σ) (pa_cons (pv 1) (pa_cons (pv 2) pa_nil))) pa_nil)))))
 pss_nil)
 (pss_cons (ps_if (pt_cmpR op_eq (pv 0) pe_int (nomark _))
 (pss_one (ps_ret (pe_tup (pa_cons pe_str (pa_cons (V5.pe_methAE (Cs := hsCs K) (pv 1) (hs_ok T rfl rfl rfl rfl rfl) (hr.mono (by decide)) (fun σ => passAt tk σ) (pa_cons (pv 2) pa_nil)) pa_nil)))))
 pss_nil)
 (pss_cons (ps_if (pt_cmpR op_eq (pv 0) pe_int (nomark _))
 (pss_one (ps_ret (pe_tup (pa_cons pe_str (pa_cons (pe_callS GT (hr.mono (by decide)) rfl gT kT bT (fun σ => passAt tk σ) (pa_cons (pv 1) (pa_cons (pv 2) pa_nil))) pa_nil)))))
 pss_nil)
 (pss_one (ps_ret (pe_tup (pa_cons pe_str (pa_cons (pe_callS GI (hr.mono (by decide)) rfl gI kI bI (fun σ => passAt tk σ) (pa_cons (pv 1) (pa_cons (pv 2) (pa_cons (pv 3) pa_nil)))) pa_nil)))))))))
 (.plain (c := .ref (He.ga K "NoRow")) (ts := fun _ _ _ => clX "row") ⟨rfl, by decide, .inl (T.glo 13 rfl)⟩ (fun a oe cls d pn hz hf => (pss_one (ps_ret (pe_tup (pa_cons pe_str (pa_cons pe_non pa_nil))))))
 (.plain (c := .ref (He.ga K "NoOrder")) (ts := fun _ _ _ => clX "order") ⟨rfl, by decide, .inl (T.glo 14 rfl)⟩ (fun a oe cls d pn hz hf => (pss_one (ps_ret (pe_tup (pa_cons pe_str (pa_cons pe_non pa_nil))))))
 (.named (i := 4) (c := .ref (He.ga K "BadHouse")) (ts := clB K) rfl rfl ⟨rfl, by decide, .inl (T.glo 11 rfl)⟩ (fun a oe cls d pn hz hf => (pss_one (ps_ret (pe_tup (pa_cons pe_str (pa_cons (pe_xf (T.xf 0 rfl) (T.noat 73 rfl) hz hf (pv 4)) pa_nil))))))
 (.plain (c := .ref (He.ga K "TalkError")) (ts := fun _ _ _ => clX "else") ⟨rfl, by decide, .inl (T.glo 10 rfl)⟩ (fun a oe cls d pn hz hf => (pss_one (ps_ret (pe_tup (pa_cons pe_str (pa_cons pe_non pa_nil))))))
 .nil)))))), ?_⟩
    have takeN : ∀ {σ : L2.St} {H' : L2.Hp} {D : Ends} {W : WX}, (∀ G t, Same H' G → Dq G (.ref t) rowN → D.rt (.ref t) G) → wCl K W D [(.ref (He.ga K "NoRow"), none, fun _ _ _ => clX "row"), (.ref (He.ga K "NoOrder"), none, fun _ _ _ => clX "order"), (.ref (He.ga K "BadHouse"), some 4, clB K), (.ref (He.ga K "TalkError"), none, fun _ _ _ => clX "else")] (.ref (He.ga K "NoRow")) none σ H' := fun k => wCl_take (T.exm 2 2 rfl rfl) fun a na => ⟨(by show 2 ≤ sizeLine; decide), fun t nt => k _ t (same_new nt) (.tup upd_same (.cons (.str _) (.cons .non .nil)))⟩
    have takeO : ∀ {σ : L2.St} {H' : L2.Hp} {D : Ends} {W : WX}, (∀ G t, Same H' G → Dq G (.ref t) orderN → D.rt (.ref t) G) → wCl K W D [(.ref (He.ga K "NoRow"), none, fun _ _ _ => clX "row"), (.ref (He.ga K "NoOrder"), none, fun _ _ _ => clX "order"), (.ref (He.ga K "BadHouse"), some 4, clB K), (.ref (He.ga K "TalkError"), none, fun _ _ _ => clX "else")] (.ref (He.ga K "NoOrder")) none σ H' := fun k => wCl_skip (T.exm 3 2 rfl rfl) (wCl_take (T.exm 3 3 rfl rfl) fun a na => ⟨(by show 2 ≤ sizeLine; decide), fun t nt => k _ t (same_new nt) (.tup upd_same (.cons (.str _) (.cons .non .nil)))⟩)
    have takeB : ∀ {v0 v1 v2 v3 : V} {o4 : Option V} {H' : L2.Hp} {D : Ends} {W : WX} {dd : Addr} {rv : V} {d : PyData}, H' dd = some (.xd [("row", rv)]) → Dq H' rv d → (∀ G t, Same H' G → Dq G (.ref t) (houseD d) → D.rt (.ref t) G) → wCl K W D [(.ref (He.ga K "NoRow"), none, fun _ _ _ => clX "row"), (.ref (He.ga K "NoOrder"), none, fun _ _ _ => clX "order"), (.ref (He.ga K "BadHouse"), some 4, clB K), (.ref (He.ga K "TalkError"), none, fun _ _ _ => clX "else")] (.ref (He.ga K "BadHouse")) (some dd) [some v0, some v1, some v2, some v3, o4] H' := fun {v0 v1 v2 v3 o4 H' D W dd rv d} hd dv k => wCl_skip (T.exm 0 2 rfl rfl) (wCl_skip (T.exm 0 3 rfl rfl) (wCl_take (T.exm 0 0 rfl rfl) fun a na => by
      refine ⟨_, rfl, rfl, rfl, dd, _, rv, rfl, hd, (by simp [List.lookup]), (by show 2 ≤ sizeLine; decide), fun t nt => ?_⟩
      exact k _ t (same_new nt) (.tup upd_same (.cons (.str _) (.cons (Dq.same (same_new nt) _ _ dv) .nil)))))
    have plR : ∀ r : List Str, V2.plain (mkR r) = true := fun r => by
      show V2.plain (.tuple (r.map .str)) = true
      rw [V2.plain]
      exact plainAll_of fun d hd => by
        obtain ⟨y, _, rfl⟩ := List.mem_map.mp hd
        simp [V2.plain]
    have yes : ∀ {n : Int} {A B : Prop}, A → (if decide (V.int n = V.int n) = true then A else B) := fun {n A B} h => by rw [decide_eq_true rfl]; exact h
    have no : ∀ {n m : Int} {A B : Prop}, n ≠ m → B → (if decide (V.int n = V.int m) = true then A else B) := fun {n m A B} ne h => by rw [show decide (V.int n = V.int m) = false from decide_eq_false fun z => ne (V.int.inj z)]; exact h
    rcases h with ⟨hv, rv, p, d, tv, rfl, hs, po, dr, sh, hN, hB, hQ⟩ | ⟨hv, rv, p, d, tv, rfl, hs, dr, sh, hN, hQ⟩ | ⟨h, ov, ps, od, tv, rfl, hl, pok, dod, hN, hQ⟩ | ⟨h, ov, ps, od, v, d, rfl, hl, pok, dod, dv, sh, hN, hQ⟩
    · refine ⟨_, rfl, rfl, _, rfl, yes ?_⟩
      refine ⟨_, rfl, _, rfl, hv, rv, p, d, rfl, hs, po, dr, sh, (fun e H' s => takeN fun G t s' dt => hN e G t (s.trans s') dt), (fun e e2 dd H' nd s hd => ?_), (fun e x ex wx H' s => ?_)⟩
      · obtain ⟨row, rfl, ro⟩ := row_of e
        exact takeB hd (Dq.same s _ _ (dq_of_dx _ _ (plR row) dr)) fun G t s' dt => hB row rfl ro e2 G t (s.trans s') dt
      · obtain ⟨row, rfl, ro⟩ := row_of e
        exact ⟨(by show 2 ≤ sizeLine; decide), fun t nt => hQ row rfl ro x ex wx _ t (s.trans (same_new nt)) (.tup upd_same (.cons (.str _) (.cons (.str _) .nil)))⟩
    · refine ⟨_, rfl, rfl, _, rfl, no (by decide) ⟨_, rfl, rfl, _, rfl, yes ?_⟩⟩
      refine word_go (ta := tVar 1) (tb := tCons (tVar 2) tNil) hs dr sh (fun Q q => ⟨_, rfl, q⟩) (fun Q q => ⟨_, rfl, q⟩) (fun e H' s => takeN fun G t s' dt => hN e G t (s.trans s') dt) fun e H' wv s dw => ?_
      obtain ⟨row, rfl, ro⟩ := row_of e
      exact ⟨(by show 2 ≤ sizeLine; decide), fun t nt => hQ row rfl ro _ t wv (s.trans (same_new nt)) upd_same (Dx.same (same_new nt) _ _ dw)⟩
    · refine ⟨_, rfl, rfl, _, rfl, no (by decide) ⟨_, rfl, rfl, _, rfl, no (by decide) ⟨_, rfl, rfl, _, rfl, yes ?_⟩⟩⟩
      refine ⟨_, rfl, _, rfl, h, ov, ps, od, rfl, hl, pok, dod, (fun e H' s => takeO fun G t s' dt => hN e G t (s.trans s') dt), fun os eo e1 => ⟨fun tr H' r s er ro => ?_, fun tr dd r H' nd s hd er ro => ?_⟩⟩
      · exact ⟨(by show 2 ≤ sizeLine; decide), fun t nt => (hQ os eo e1 ro).1 tr _ t (s.trans (same_new nt)) (.tup upd_same (.cons (.str _) (.cons (.tup (same_new nt _ _ er) (strs_dqs _ _)) .nil)))⟩
      · exact takeB hd (.tup er (strs_dqs _ _)) fun G t s' dt => (hQ os eo e1 ro).2 tr G t (s.trans s') dt
    · refine ⟨_, rfl, rfl, _, rfl, no (by decide) ⟨_, rfl, rfl, _, rfl, no (by decide) ⟨_, rfl, rfl, _, rfl, no (by decide) ?_⟩⟩⟩
      refine ⟨_, rfl, _, rfl, _, rfl, h, ov, ps, od, v, d, rfl, hl, pok, dod, dv, sh, (fun e H' s => takeO fun G t s' dt => hN e G t (s.trans s') dt), fun os eo e1 => ⟨fun tr ro H' s => ?_, fun tr dd r H' nd s hd er ro => ?_⟩⟩
      · exact ⟨(by show 2 ≤ sizeLine; decide), fun t nt => (hQ os eo e1 ro).1 tr _ t (s.trans (same_new nt)) (.tup upd_same (.cons (.str _) (.cons (.bl _) .nil)))⟩
      · exact takeB hd (.tup er (strs_dqs _ _)) fun G t s' dt => (hQ os eo e1 ro).2 tr G t (s.trans s') dt
end
end K03

set_option maxHeartbeats 4000000
namespace K03
open PySem PySem.Spec PyProof.Rows L2 V1 V2 V3 V6 LamX NdefX
open Evl (pss_cut tCut sq_of st_of)
section
variable [CurK]
/-- the list of plains -/
structure PsL (H : Hp) (l : Addr) (ps : List Pl) : Prop where
  ex : ∃ as : List Addr, H l = some (.lst (as.map V.ref)) ∧ as.length = ps.length ∧ ∀ (i : Nat) a p, as[i]? = some a → ps[i]? = some p → PlAt H a p
theorem PsL.same {H H' : Hp} {l : Addr} {ps : List Pl} (s : Same H H') (h : PsL H l ps) : PsL H' l ps := by
  obtain ⟨as, h1, h2, h3⟩ := h.ex
  exact ⟨as, s _ _ h1, h2, fun i a p e1 e2 => (h3 i a p e1 e2).same s⟩
def spDue : Sp := fun vs H Q _ => ∃ l ov ps od, vs = [.ref l, ov] ∧ PsL H l ps ∧ (∀ p ∈ ps, PlOk p) ∧ Dx H ov od ∧ (orderD ((ps.length : Nat) : Int) od = false → ∀ H' t, Same H H' → Dq H' (.ref t) orderN → Q (.ref t) H') ∧
    ∀ os : List Nat, od = .tuple (os.map fun o : Nat => .int ((o : Nat) : Int)) → orderD ((ps.length : Nat) : Int) od = true →
      ((talk3 ps os []).2 = true → RowOk (talk3 ps os []).1 → ∀ H' t, Same H H' → Dq H' (.ref t) (toldD (mkR (talk3 ps os []).1)) → Q (.ref t) H') ∧
      ((talk3 ps os []).2 = false → RowOk (talk3 ps os []).1 → ∀ H' t, Same H H' → Dq H' (.ref t) (houseD (mkR (talk3 ps os []).1)) → Q (.ref t) H')
end
theorem scDue : FnScope ["plains", "order", "row", "owner", "word"] ["plains", "order"] (defScope s__law_talk_due) := ⟨rfl, rfl, rfl, by decide +kernel, rfl, by decide +kernel, by decide +kernel⟩
section
variable [CurK] {P : Program} {w : World} {mg : Str → Option Value} {base : Heap}
theorem ok_ldue (T : Tx K w mg) : Has P w K mg base CX0 9 "_law_talk_due" ["plains", "order"] spDue := by
  obtain ⟨fd, F⟩ := T.c.def_ 35 (d := d__law_talk_due) rfl
  have Ho := ok_lisorder (P := P) (w := w) (base := base) T
  have Ht := ok_tell (P := P) (w := w) (base := base) T
  have Hw := ok_lisword (P := P) (w := w) (base := base) T
  refine ⟨fd, F.ok scDue (fun vs H Q E h => ?_) (fun cdv A outer s H vs Q E hr h => ?_), FunD.bindsN F fun _ _ _ _ _ _ us hl => match us, hl with | [_, _], _ => rfl, F.kp, (T.glo 54 rfl)⟩
  · obtain ⟨l, ov, ps, od, rfl, _⟩ := h
    rfl
  · refine ⟨_, PSs.nox (pss_cons (ps_if (pt_not (pt_val (pe_has Ho (hr.mono (by decide)) pass0 (pa_cons (pv 1) (pa_cons (pe_callB call_len (by rfl) (T.free 65 rfl) PySem.boot_len (pa_cons (pv 0) pa_nil)) pa_nil)))))
 (pss_one (ps_ret (pe_tup (pa_cons pe_str (pa_cons pe_non pa_nil)))))
 pss_nil)
 (pss_cons (ps_set (i := 2) scDue.nd rfl (Or.inl rfl) (pe_tup pa_nil))
 (pss_cons (ps_for PassesOwn.never rfl (pi_tup (pv 1)) (pg_name (i := 3) scDue.nd rfl (Or.inl rfl))
 (pss_cons (ps_set (i := 4) scDue.nd rfl (Or.inl rfl) (pe_has Ht (hr.mono (by decide)) pass0 (pa_cons (pe_ix ix_list (pv 0) (pv 3) (fun _ _ => rfl)) (pa_cons (pv 2) pa_nil))))
 (pss_cons (ps_if (pt_not (pt_val (pe_has Hw (hr.mono (by decide)) pass0 (pa_cons (pv 4) pa_nil))))
 (pss_one (ps_ret (pe_tup (pa_cons pe_str (pa_cons (pv 2) pa_nil)))))
 pss_nil)
 (pss_one (ps_set (i := 2) scDue.nd rfl (Or.inl rfl) (pe_op op_catA (pv 2) (pe_tup (pa_cons (pv 4) pa_nil))))))))
 (pss_one (ps_ret (pe_tup (pa_cons pe_str (pa_cons (pv 2) pa_nil)))))))), ?_⟩
    obtain ⟨l, ov, ps, od, rfl, ⟨as, hl, hn, hx⟩, pok, dod, hN, hQ⟩ := h
    refine ⟨_, rfl, _, rfl, _, _, rfl, .inl ⟨_, sq_of hl, rfl⟩, ov, od, ((ps.length : Nat) : Int), by rw [List.length_map, hn]; rfl, dod, _, rfl, ite2 (fun e => ?_) (fun e => ?_)⟩
    · exact ⟨(by show 2 ≤ sizeLine; decide), fun t nt => hN (by simpa using e) _ t (same_new nt) (.tup upd_same (.cons (.str _) (.cons .non .nil)))⟩
    have e1 : orderD ((ps.length : Nat) : Int) od = true := by simpa using e
    obtain ⟨os, rfl, o1, o2, ob⟩ := order_of e1
    obtain ⟨hQ1, hQ2⟩ := hQ os rfl e1
    obtain ⟨oa, ous, rfl, hoa, hous⟩ := Dx.tup_inv dod
    have eus : ∀ (us : List V) (os : List Nat), DxAll H us (os.map fun o : Nat => PyData.int ((o : Nat) : Int)) → us = os.map fun o : Nat => V.int ((o : Nat) : Int) := by
      intro us os
      induction os generalizing us with
      | nil => intro h; cases h; rfl
      | cons o os ih =>
        intro h
        cases h with
        | cons one more =>
          rw [Dx.int_inv one, ih _ more]
          rfl
    obtain rfl := eus _ _ hous
    clear eus hous
    refine ⟨(by show 0 ≤ sizeLine; decide), fun r0 nr => ?_⟩
    have s2 := same_new (o := HO.tup []) nr
    have e2 : upd H r0 (HO.tup []) r0 = some (.tup []) := upd_same
    generalize upd H r0 (HO.tup []) = H2 at s2 e2 ⊢
    refine ⟨_, rfl, oa, rfl, ⟨_, st_of (s2 _ _ hoa)⟩, for_it (walk_tup (K := K) (a := oa) (xs := os.map fun o : Nat => V.int ((o : Nat) : Int))) (fun i σ H' => ∃ r o3 o4 row, σ = [some (.ref l), some (.ref oa), some (.ref r), o3, o4] ∧ Same H H' ∧ H' r = some (.tup (row.map V.str)) ∧ RowOk row ∧ row.length = i ∧ talk3 ps os [] = talk3 ps (os.drop i) row) ⟨r0, _, _, [], rfl, s2, e2, ⟨fun x h => absurd h List.not_mem_nil, Nat.zero_le _⟩, rfl, rfl⟩ (fun i σ H' _ z => by
      obtain ⟨r, o3, o4, row, _, s, _⟩ := z
      exact st_of (s _ _ hoa)) ?_ ?_⟩
    · rintro i x σ H3 H4 hi ⟨r, o3, o4, row, rfl, s4, er, ro, tl, tk⟩ ⟨rfl, hxi⟩
      rw [List.length_map] at hi
      rw [List.getElem?_map, List.getElem?_eq_getElem hi] at hxi
      cases hxi
      have ho := ob _ (List.getElem_mem hi)
      rw [List.drop_eq_getElem_cons hi] at tk
      generalize os[i] = o at ho tk ⊢
      have ha : as[o]? = some (as[o]'(by omega)) := List.getElem?_eq_getElem (by omega)
      have hp : ps[o]? = some (ps[o]'ho) := List.getElem?_eq_getElem ho
      have gd : ps.getD o plD = ps[o]'ho := by rw [List.getD_eq_getElem?_getD, hp]; rfl
      have pa := (hx o _ _ ha hp).same s4
      have po := pok _ (List.getElem_mem ho)
      have n1 : ∀ {x : Str}, tellD (ps.getD o plD) (mkR row) = .str x → wordX x = true → talk3 ps os [] = talk3 ps (os.drop (i + 1)) (row ++ [x]) := fun h w => tk.trans (talk3_yes h w)
      have n2 : wordD (tellD (ps.getD o plD) (mkR row)) = false → talk3 ps os [] = (row, false) := fun h => tk.trans (talk3_no h)
      rw [gd] at n1 n2
      generalize ps[o] = p at pa po n1 n2
      generalize as[o]'(by omega) = x at ha pa
      have dr : Dx H4 (.ref r) (mkR row) := .tup er (strs_dx _ _)
      have ea : atI (as.map V.ref) ((o : Nat) : Int) = some (.ref x) := atI_nat (by rw [List.getElem?_map, ha]; rfl)
      refine ⟨_, rfl, _, rfl, l, _, _, _, rfl, rfl, sq_of (s4 _ _ hl), ea, _, rfl, x, .ref r, p, mkR row, rfl, pa, dr, (fun ds e => by
        cases e
        rw [List.length_map]
        have := ro.len
        omega), fun tv dt _ => ?_⟩
      refine ⟨_, rfl, tv, _, rfl, dt, tell_short po ro, fun H5 s5 => ⟨_, rfl, ite2 (fun e => ?_) (fun e => ?_)⟩⟩
      · have z := n2 (by simpa using e)
        rw [z] at hQ2
        exact ⟨_, rfl, (by show 2 ≤ sizeLine; decide), fun t nt => hQ2 rfl ro _ t (s4.trans (s5.trans (same_new nt))) (.tup upd_same (.cons (.str _) (.cons (.tup ((s5.trans (same_new nt)) _ _ er) (strs_dqs _ _)) .nil)))⟩
      have e3 : wordD (tellD p (mkR row)) = true := by simpa using e
      generalize hx2 : tellD p (mkR row) = td at dt e3
      cases td with
      | str x5 =>
        obtain rfl := Dx.str_inv dt
        have wx5 : wordX x5 = true := e3
        have er5 := s5 _ _ er
        refine ⟨_, rfl, _, rfl, (by show 1 ≤ sizeLine; decide), fun t nt => ?_⟩
        have s6 := same_new (o := HO.tup [.str x5]) nt
        have e6 : upd H5 t (HO.tup [.str x5]) t = some (.tup [.str x5]) := upd_same
        have s46 := s5.trans s6
        have er6 := s46 _ _ er
        generalize upd H5 t (HO.tup [.str x5]) = H6 at s6 e6 s46 er6 ⊢
        have ro' : RowOk (row ++ [x5]) := ⟨fun y hy => by
          rcases List.mem_append.mp hy with h | h
          · exact ro.ws y h
          · rw [List.mem_singleton.mp h]
            exact wx5, by rw [List.length_append]; simp only [List.length_cons, List.length_nil]; omega⟩
        have tl' : (row ++ [x5]).length = i + 1 := by rw [List.length_append, tl]; rfl
        have tk' := n1 hx2 wx5
        refine ⟨r, t, _, _, rfl, rfl, st_of er6, st_of e6, Nat.le_trans (by rw [List.length_map]; simp only [List.length_cons, List.length_nil]; omega : (row.map V.str).length + ([V.str x5] : List V).length ≤ 1000) (by decide), fun z => ?_, fun _ z => absurd z (by simp), fun nx _ c nc => ?_⟩
        · have z' : row = [] := by simpa using z
          subst z'
          exact ⟨t, _, _, [x5], rfl, s4.trans s46, e6, ro', tl', tk'⟩
        · have s7 := same_new (o := HO.tup (row.map V.str ++ [.str x5])) nc
          refine ⟨c, _, _, row ++ [x5], rfl, s4.trans (s46.trans s7), ?_, ro', tl', tk'⟩
          rw [List.map_append]
          exact upd_same
      | _ => cases e3
    · rintro σ H3 ⟨r, o3, o4, row, rfl, s3, er, ro, tl, tk⟩
      rw [List.length_map, List.drop_length] at tk
      have z : talk3 ps os [] = (row, true) := tk
      rw [z] at hQ1
      exact ⟨_, rfl, (by show 2 ≤ sizeLine; decide), fun t nt => hQ1 rfl ro _ t (s3.trans (same_new nt)) (.tup upd_same (.cons (.str _) (.cons (.tup (same_new nt _ _ er) (strs_dqs _ _)) .nil)))⟩
end
end K03

set_option maxHeartbeats 4000000
namespace K03
open PySem PySem.Spec PyProof.Rows L2 V1 V2 V3 V6 LamX NdefX
open Evl (pss_cut tCut sq_of st_of)
/-- the hand stays, what is beside it is kept -/
structure Gx (a : Addr) (H H' : L2.Hp) : Prop where
  hd : HandAt H' a
  ce : cellsOf H' a = cellsOf H a
  sm : ExtN (delH H a) (delH H' a)
theorem Gx.of {a : Addr} {H H' : L2.Hp} (g : Go a H H') : Gx a H H' := ⟨g.hd, g.ce, V4.ext_of g.sm⟩
theorem Gx.trans {a : Addr} {H H1 H2 : L2.Hp} (g : Gx a H H1) (g' : Gx a H1 H2) : Gx a H H2 := ⟨g'.hd, g'.ce.trans g.ce, g.sm.trans g'.sm⟩
theorem Gx.ext {a : Addr} {H H' : L2.Hp} (hd : HandAt H a) (e : ExtN H H') : Gx a H H' := by
  obtain ⟨c, cs, i1, i2, i3, i4, h1, h2, h3⟩ := hd.ex
  have h1' := V4.ext_lst e h1
  exact ⟨⟨c, cs, i1, i2, i3, i4, h1', V4.ext_lst (V4.ext_del e) h2, h3⟩, (cellsOf_at h1').trans (cellsOf_at h1).symm, V4.ext_del e⟩
theorem plain_flat : ∀ (n : Nat) (d : PyData), flatD n d = true → V2.plain d = true
  | n, .none, _ => by simp [V2.plain]
  | n, .str _, _ => by simp [V2.plain]
  | n, .bool _, _ => by simp [V2.plain]
  | n, .int _, _ => by simp [V2.plain]
  | n + 1, .tuple ds, h => by
    have z : ds.length ≤ 900 ∧ ∀ x ∈ ds, flatD n x = true := by simpa [flatD] using h
    rw [V2.plain]
    exact plainAll_of fun d hd => plain_flat n d (z.2 d hd)
  | n + 1, .list ds, h => by
    have z : ds.length ≤ 900 ∧ ∀ x ∈ ds, flatD n x = true := by simpa [flatD] using h
    rw [V2.plain]
    exact plainAll_of fun d hd => plain_flat n d (z.2 d hd)
  | 0, .tuple ds, h => by cases h
  | 0, .list _, h => by cases h
  | n, .dict _, h => by cases n <;> cases h
theorem flat3 {k : Str} {d : PyData} (h : flatD 2 d = true) : flatD 3 (.tuple [.str k, d]) = true := by
  show (decide (2 ≤ 900) && (flatD 2 (.str k) && (flatD 2 d && true))) = true
  rw [h]
  rfl
theorem flat_row {row : List Str} (ro : RowOk row) : flatD 2 (mkR row) = true := by
  have l := ro.len
  show (decide ((row.map PyData.str).length ≤ 900) && (row.map PyData.str).all (flatD 1)) = true
  rw [List.length_map, decide_eq_true (by omega), Bool.true_and, List.all_map, List.all_eq_true]
  intro x _
  rfl
theorem tell_fl {p : Pl} (po : PlOk p) (row : List Str) : isDct (tellD p (mkR row)) = true ∨ flatD 2 (tellD p (mkR row)) = true := by
  show isDct (tellD p (.tuple (row.map .str))) = true ∨ flatD 2 (tellD p (.tuple (row.map .str))) = true
  rw [tellD_tup]
  split
  · exact po.fl
  · split <;> exact .inr rfl
theorem kit_dct (d : PyData) : kitB (tyName d) "dict" = some (isDct d) := by cases d <;> kernel_rfl
section
variable [CurK]
/-- isinstance(x, (dict, Table)) -/
theorem isDT_go {mg : Str → Option Value} {w : World} (T : Tx K w mg) {σ : L2.St} {H : Hp} {Q : VK} {te : TE} {v : V} {d : PyData} (ht : ∀ Q : VK, Q v H → te σ H Q) (hd : Dx H v d) (tb : d = objD → TbV H v) (q : ∀ p, H p = none → Q (.bl (isDct d)) (upd H p (.tup [.ty "dict", .ref (He.ga K "Table")]))) :
    tCB (rIsiT K) (tCons te (tCons (tTup (tCons (tC (.ty "dict")) (tCons (tC (.ref (He.ga K "Table"))) tNil))) tNil)) σ H Q :=
  ht _ ⟨(by show 2 ≤ sizeLine; decide), fun p np => by
    have sn := same_new (o := HO.tup [.ty "dict", .ref (He.ga K "Table")]) np
    have hd' := Dx.same sn d v hd
    have cS : Cls K (He.ga K "Table") := He.cls_ok (T.c.fact 79 rfl)
    have i := T.insK 0 (x := "Table") rfl
    have iC := i.ins cS T.exs.2.2.2
    have z : ∃ t b1 b2, TyX K (upd H p (.tup [.ty "dict", .ref (He.ga K "Table")])) v t ∧ PySem.W.kitOne K t (.type "dict") = some b1 ∧ PySem.W.kitOne K t (.ref (He.ga K "Table")) = some b2 ∧ (b1 || b2) = isDct d := by
      have z1 := kit_ty (K := K) (kit_dct d)
      have z2 := i.no _ (tyName_mem d)
      cases hd' with
      | non => exact ⟨_, _, _, .base .non, z1, z2, rfl⟩
      | bl b => exact ⟨_, _, _, .base (.bl b), z1, z2, rfl⟩
      | int i => exact ⟨_, _, _, .base (.int i), z1, z2, rfl⟩
      | str x => exact ⟨_, _, _, .base (.str x), z1, z2, rfl⟩
      | lst e _ _ => exact ⟨_, _, _, .base (.lst e), z1, z2, rfl⟩
      | tup e _ => exact ⟨_, _, _, .base (.tup e), z1, z2, rfl⟩
      | dct e _ => exact ⟨_, _, _, .base (.dK e), z1, z2, rfl⟩
      | ob e ok =>
        obtain ⟨q', dx', fs', eq, hq⟩ := (tb rfl).same sn
        cases eq
        rw [e] at hq
        injection hq with hq
        injection hq with hC _ _
        subst hC
        exact ⟨_, _, _, TyX_ins e iC, ok.no _ (by decide), iC.me, rfl⟩
    obtain ⟨t, b1, b2, ty, e1, e2, eb⟩ := z
    rw [← eb] at q
    refine ⟨v, p, _, _, _, b1 || b2, rfl, upd_same, .cons (.ty "dict") (.cons (.own _) .nil), ty, ?_, q p np⟩
    show (match PySem.W.kitOne K t (.type "dict") with
      | Option.some true => Option.some true
      | Option.some false => (match PySem.W.kitOne K t (.ref (He.ga K "Table")) with
        | Option.some true => Option.some true
        | Option.some false => Option.some false
        | Option.none => Option.none)
      | Option.none => Option.none) = _
    rw [e1, e2]
    cases b1 <;> cases b2 <;> rfl⟩
def spAre : Sp := fun vs H Q _ => ∃ a x p, vs = [.ref a, .ref x] ∧ HandAt H a ∧ PlAt (delH H a) x p ∧ PlOk p ∧ Tabs (tsK K) H ∧ ∀ H', Gx a H H' → Tabs (tsK K) H' → Q (.bl true) H'
end
theorem scAre : FnScope ["hand", "plain", "row", "told", "due", "plainly", "house"] ["hand", "plain"] (defScope s__law_are_told) := ⟨rfl, rfl, rfl, by decide +kernel, rfl, by decide +kernel, by decide +kernel⟩
section
variable [CurK] {P : Program} {w : World} {mg : Str → Option Value} {base : Heap}
theorem ok_are (T : Tx K w mg) (TB : TabB base mg (V4.pairOf K (He.ga K "_law_house")).1 (V4.pairOf K (He.ga K "_law_house")).2) : Has P w K mg base CX0 62 "_law_are_told" ["hand", "plain"] spAre := by
  obtain ⟨fd, F⟩ := T.c.def_ 37 (d := d__law_are_told) rfl
  have Hro := ok_rowx (P := P) (w := w) (base := base) T
  have Ht := ok_tell (P := P) (w := w) (base := base) T
  have Hir := ok_lisrow (P := P) (w := w) (base := base) T
  have Hw := ok_lisword (P := P) (w := w) (base := base) T
  have Hlh := ok_lhouse (P := P) (w := w) (base := base) T TB
  have Hi := ok_is (P := P) (w := w) (base := base) T 4
  have Hc := ok_called (P := P) (w := w) (base := base) T
  refine ⟨fd, F.ok scAre (fun vs H Q E h => ?_) (fun cdv A outer s H vs Q E hr h => ?_), FunD.bindsN F fun _ _ _ _ _ _ us hl => match us, hl with | [_, _], _ => rfl, F.kp, (T.glo 56 rfl)⟩
  · obtain ⟨a, x, p, rfl, _⟩ := h
    rfl
  · refine ⟨_, PSs.nox (pss_cons (ps_set (i := 2) scAre.nd rfl (Or.inl rfl) (pe_has Hro (hr.mono (by decide)) pass0 (pa_cons (pv 0) pa_nil)))
 (pss_cons (ps_set (i := 3) scAre.nd rfl (Or.inl rfl) (pe_has Ht (hr.mono (by decide)) pass0 (pa_cons (pv 1) (pa_cons (pv 2) pa_nil))))
 (pss_cons (ps_set (i := 4) scAre.nd rfl (Or.inl rfl) (pe_tup (pa_cons pe_str (pa_cons pe_non pa_nil))))
 (pss_cons (ps_set (i := 5) scAre.nd rfl (Or.inl rfl) (pe_tup (pa_cons pe_str (pa_cons pe_non pa_nil))))
 (pss_cut (ps_if (pt_val (pe_has Hir (hr.mono (by decide)) pass0 (pa_cons (pv 2) pa_nil)))
 (pss_cons (ps_set (i := 5) scAre.nd rfl (Or.inl rfl) (pe_tup (pa_cons pe_str (pa_cons (pv 3) pa_nil))))
 (pss_one (ps_set (i := 4) scAre.nd rfl (Or.inl rfl) (pe_ifExp (pt_val (pe_has Hw (hr.mono (by decide)) pass0 (pa_cons (pv 3) pa_nil))) (pe_tup (pa_cons pe_str (pa_cons (pv 3) pa_nil))) (pe_tup (pa_cons pe_str (pa_cons (pv 2) pa_nil)))))))
 pss_nil)
 (pss_cons (ps_set (i := 6) scAre.nd rfl (Or.inl rfl) (pe_has Hlh (hr.mono (by decide)) pass0 (pa_cons (pv 1) pa_nil)))
 (pss_cut (ps_if (pt_not (pt_val (pe_has Hi (hr.mono (by decide)) pass0 (pa_cons (pe_has Hc (hr.mono (by decide)) pass0 (pa_cons pe_int (pa_cons (pv 6) (pa_cons (pv 2) (pa_cons pe_non pa_nil))))) (pa_cons (pv 4) pa_nil)))))
 (pss_one (ps_ret pe_bl))
 pss_nil)
 (pss_cons (ps_if (pt_val (pe_callB call_isiT (by rfl) (T.free 64 rfl) (by decide +kernel) (pa_cons (pv 3) (pa_cons (pe_tup (pa_cons (pe_bltn (v := .ty "dict") (by rfl) (T.free 61 rfl) (by decide +kernel) rfl) (pa_cons (pe_glob (v := .ref (He.ga K "Table")) (by rfl) (T.glo 19 rfl) rfl) pa_nil))) pa_nil))))
 (pss_one (ps_ret (pe_cmpR op_eq (pe_ix ix_tup (pe_has Hc (hr.mono (by decide)) pass0 (pa_cons pe_int (pa_cons (pv 6) (pa_cons (pv 2) (pa_cons pe_non pa_nil))))) pe_int (fun _ _ => rfl)) (pe_ix ix_tup (pv 5) pe_int (fun _ _ => rfl)) (nomark _))))
 pss_nil)
 (pss_one (ps_ret (pe_has Hi (hr.mono (by decide)) pass0 (pa_cons (pe_has Hc (hr.mono (by decide)) pass0 (pa_cons pe_int (pa_cons (pv 6) (pa_cons (pv 2) (pa_cons pe_non pa_nil))))) (pa_cons (pv 5) pa_nil))))))))))))), ?_⟩
    obtain ⟨a, x, p, rfl, hd, pa, po, tb0, hQ⟩ := h
    refine ⟨_, rfl, a, rfl, hd, fun H1 rv d g1 dr1 ro => ?_⟩
    have pa1 := PlAt.same same_delH (PlAt.same g1.sm pa)
    have dr : Dx H1 rv d := Dx.same same_delH _ _ dr1
    have sh : shD d := shortA_R ro.sh
    have tb1 := tabs_tups tb0 (TupsK.go hd g1)
    refine ⟨_, rfl, _, rfl, x, rv, p, d, rfl, pa1, dr, ro.ln, fun tv dt tbv => ?_⟩
    refine ⟨(by show 2 ≤ sizeLine; decide), fun td0 n0 => ⟨(by show 2 ≤ sizeLine; decide), fun tp0 n1 => ?_⟩⟩
    have s2 := same_new (o := HO.tup [.str (Str.ofString "row"), .non]) n0
    have e2 : upd H1 td0 (HO.tup [.str (Str.ofString "row"), .non]) td0 = some (.tup [.str (Str.ofString "row"), .non]) := upd_same
    generalize upd H1 td0 (HO.tup [.str (Str.ofString "row"), .non]) = H2 at s2 e2 n1 ⊢
    have s3 := same_new (o := HO.tup [.str (Str.ofString "row"), .non]) n1
    have e3 : upd H2 tp0 (HO.tup [.str (Str.ofString "row"), .non]) tp0 = some (.tup [.str (Str.ofString "row"), .non]) := upd_same
    have e2' := s3 _ _ e2
    have s13 := s2.trans s3
    generalize upd H2 tp0 (HO.tup [.str (Str.ofString "row"), .non]) = H3 at s3 e3 e2' s13
    refine ⟨fun σ H' => ∃ td tp, σ = [some (.ref a), some (.ref x), some rv, some tv, some (.ref td), some (.ref tp), none] ∧ Same H1 H' ∧ ((rowD d = false ∧ H' td = some (.tup [.str (Str.ofString "row"), .non]) ∧ H' tp = some (.tup [.str (Str.ofString "row"), .non])) ∨
      ∃ row, d = mkR row ∧ RowOk row ∧ H' tp = some (.tup [.str (Str.ofString "told"), tv]) ∧ ((∃ y, tellD p d = .str y ∧ wordX y = true ∧ Dq H' (.ref td) (toldD (.str y))) ∨ (wordD (tellD p d) = false ∧ Dq H' (.ref td) (houseD (mkR row))))), ?_, ?_⟩
    · refine ⟨_, rfl, rv, d, rfl, Dx.same s13 _ _ dr, sh, fun H4 s4 => ⟨_, rfl, ite2 (fun e => ?_) (fun e => ?_)⟩⟩
      · obtain ⟨row, rfl, rok⟩ := row_of e
        refine ⟨_, rfl, (by show 2 ≤ sizeLine; decide), fun tp n5 => ?_⟩
        have s5 := same_new (o := HO.tup [.str (Str.ofString "told"), tv]) n5
        have e5 : upd H4 tp (HO.tup [.str (Str.ofString "told"), tv]) tp = some (.tup [.str (Str.ofString "told"), tv]) := upd_same
        have s15 := s13.trans (s4.trans s5)
        generalize upd H4 tp (HO.tup [.str (Str.ofString "told"), tv]) = H5 at s5 e5 s15
        have dt5 := Dx.same s15 _ _ dt
        refine ⟨_, rfl, tv, _, rfl, dt5, tell_short po rok, fun H6 s6 => ⟨_, rfl, ite2 (fun e6 => ?_) (fun e6 => ?_)⟩⟩
        · obtain ⟨y, hy⟩ : ∃ y, tellD p (mkR row) = .str y := by
            cases h : tellD p (mkR row) with
            | str y => exact ⟨y, rfl⟩
            | _ =>
              rw [h] at e6
              cases e6
          rw [hy] at dt5 e6
          obtain rfl := Dx.str_inv dt5
          refine ⟨_, rfl, (by show 2 ≤ sizeLine; decide), fun td n7 => ?_⟩
          have s7 := same_new (o := HO.tup [.str (Str.ofString "told"), .str y]) n7
          exact ⟨td, tp, rfl, s15.trans (s6.trans s7), .inr ⟨row, rfl, rok, (s6.trans s7) _ _ e5, .inl ⟨y, hy, e6, .tup upd_same (.cons (.str _) (.cons (.str _) .nil))⟩⟩⟩
        · refine ⟨_, rfl, (by show 2 ≤ sizeLine; decide), fun td n7 => ?_⟩
          have s7 := same_new (o := HO.tup [.str (Str.ofString "house"), rv]) n7
          have dv : Dq H1 rv (mkR row) := dq_of_dx _ _ (plain_flat _ _ (flat_row rok)) dr
          exact ⟨td, tp, rfl, s15.trans (s6.trans s7), .inr ⟨row, rfl, rok, (s6.trans s7) _ _ e5, .inr ⟨by simpa using e6, .tup upd_same (.cons (.str _) (.cons (Dq.same (s15.trans (s6.trans s7)) _ _ dv) .nil))⟩⟩⟩
      · exact ⟨td0, tp0, rfl, s13.trans s4, .inl ⟨by simpa using e, s4 _ _ e2', s4 _ _ e3⟩⟩
    clear e2 e2' e3 s2 s3 s13 n0 n1
    rintro σ H4 ⟨td, tp, rfl, s4, cs⟩
    have pa4 := pa1.same s4
    have tb4 := V4.tabs_same tb1 s4
    refine ⟨_, rfl, x, p, rfl, pa4, po, tb4, fun H5 hv x5 tb5 hs _ => ?_⟩
    have gx5 : Gx a H H5 := (Gx.of (g1.trans (Go.new g1.hd s4))).trans (Gx.ext (hand_same g1.hd s4) x5)
    have x15 : ExtN H1 H5 := (V4.ext_of s4).trans x5
    have dr5 := V4.dx_ext x15 _ _ dr
    have dt5 := V4.dx_ext x15 _ _ dt
    have tbv5 : tellD p d = objD → TbV H5 tv := fun z => (tbv z).ext x15
    have fin : ∀ H', Same H5 H' → Q (.bl true) H' := fun H' s => hQ H' (gx5.trans (Gx.ext gx5.hd (V4.ext_of s))) (V4.tabs_same tb5 s)
    have cs5 : (rowD d = false ∧ H5 td = some (.tup [.str (Str.ofString "row"), .non]) ∧ H5 tp = some (.tup [.str (Str.ofString "row"), .non])) ∨
      ∃ row, d = mkR row ∧ RowOk row ∧ H5 tp = some (.tup [.str (Str.ofString "told"), tv]) ∧ ((∃ y, tellD p d = .str y ∧ wordX y = true ∧ Dq H5 (.ref td) (toldD (.str y))) ∨ (wordD (tellD p d) = false ∧ Dq H5 (.ref td) (houseD (mkR row)))) := by
      rcases cs with ⟨h1, h2, h3⟩ | ⟨row, h1, h2, h3, h4⟩
      · exact .inl ⟨h1, V4.ext_tup x5 h2, V4.ext_tup x5 h3⟩
      · refine .inr ⟨row, h1, h2, V4.ext_tup x5 h3, ?_⟩
        rcases h4 with ⟨y, h5, h6, h7⟩ | ⟨h5, h6⟩
        · exact .inl ⟨y, h5, h6, dq_extN x5 _ _ h7⟩
        · exact .inr ⟨h5, dq_extN x5 _ _ h6⟩
    clear cs pa4 tb4 x5 s4 hQ gx5 tb5 pa1 tb1 g1 pa hd tb0 dr dt dr1 x15 tbv
    refine ⟨fun σ H' => σ = [some (.ref a), some (.ref x), some rv, some tv, some (.ref td), some (.ref tp), some hv] ∧ Same H5 H', ?_, ?_⟩
    · have is_go : ∀ {D : PyData} (H' : L2.Hp) (t : Addr), Same H5 H' → Dq H' (.ref t) D → Dq H5 (.ref td) D → flatD 3 D = true → spIs 4 [.ref t, .ref td] H' (fun v G => ∃ c, v = .bl c ∧ (c = true ∧ Same H5 G)) (fun _ _ _ => False) := fun {D} H' t s dq dd fl => ⟨_, _, D, rfl, dq, Dq.same s _ _ dd, fl, fun G s' => ⟨true, rfl, rfl, s.trans s'⟩⟩
      refine ⟨_, rfl, _, rfl, .inl ⟨hv, rv, p, d, .non, rfl, hs, po, dr5, sh, fun e H' t s dq => ?_, fun row e rok e2 H' t s dq => ?_, fun row e rok y ey wy H' t s dq => ?_⟩⟩
      · rcases cs5 with ⟨h1, h2, h3⟩ | ⟨row, rfl, h2, _⟩
        · exact ⟨_, rfl, _, _, rowN, rfl, dq, .tup (s _ _ h2) (.cons (.str _) (.cons .non .nil)), flat3 rfl, fun G s' => ⟨true, rfl, iteF ⟨rfl, s.trans s'⟩⟩⟩
        · rw [rowD_ok h2] at e
          cases e
      · subst e
        rcases cs5 with ⟨h1, h2, h3⟩ | ⟨row', er, h2, h3, ⟨y, h5, h6, h7⟩ | ⟨h5, h6⟩⟩
        · rw [rowD_ok rok] at h1
          cases h1
        · rw [h5] at e2
          rw [show wordD (.str y) = true from h6] at e2
          cases e2
        · have er' : houseD (mkR row') = houseD (mkR row) := by rw [er]
          rw [er'] at h6
          exact ⟨_, rfl, _, _, _, rfl, dq, Dq.same s _ _ h6, flat3 (flat_row rok), fun G s' => ⟨true, rfl, iteF ⟨rfl, s.trans s'⟩⟩⟩
      · subst e
        rcases cs5 with ⟨h1, h2, h3⟩ | ⟨row', er, h2, h3, ⟨y', h5, h6, h7⟩ | ⟨h5, h6⟩⟩
        · rw [rowD_ok rok] at h1
          cases h1
        · rw [ey] at h5
          cases h5
          exact ⟨_, rfl, _, _, _, rfl, dq, Dq.same s _ _ h7, flat3 rfl, fun G s' => ⟨true, rfl, iteF ⟨rfl, s.trans s'⟩⟩⟩
        · rw [ey, show wordD (.str y) = true from wy] at h5
          cases h5
    rintro σ H6 ⟨rfl, s6⟩
    have dt6 := Dx.same s6 _ _ dt5
    have hs6 := hs.same s6
    have dr6 := Dx.same s6 _ _ dr5
    refine isDT_go T (fun Q q => ⟨_, rfl, q⟩) dt6 (fun z => (tbv5 z).same s6) fun p7 n7 => ⟨_, rfl, ?_⟩
    have s7 := same_new (o := HO.tup [.ty "dict", .ref (He.ga K "Table")]) n7
    have s57 := s6.trans s7
    have hs7 := hs6.same s7
    have dr7 := Dx.same s7 _ _ dr6
    have dt7 := Dx.same s7 _ _ dt6
    generalize upd H6 p7 (HO.tup [.ty "dict", .ref (He.ga K "Table")]) = H7 at s7 s57 hs7 dr7 dt7 ⊢
    clear s7 n7 s6 dt6 hs6 dr6
    refine ite2 (fun ed => ?_) (fun ed => ?_)
    · refine ⟨_, rfl, _, rfl, .inr (.inl ⟨hv, rv, p, d, .non, rfl, hs7, dr7, sh, fun e H' t s dq => ?_, fun row e rok H' t wv s et dw => ?_⟩)⟩
      · rcases cs5 with ⟨h1, h2, h3⟩ | ⟨row, rfl, h2, _⟩
        · obtain ⟨t', us, e1, et, qs⟩ := V2.Dq.tup_inv dq
          cases e1
          cases qs with
          | cons o1 m1 =>
            cases o1
            cases m1 with
            | cons o2 m2 =>
            cases m2
            exact ⟨t, _, 0, _, rfl, rfl, st_of et, rfl, _, rfl, tp, _, 0, _, rfl, rfl, st_of ((s57.trans s) _ _ h3), rfl, rfl, by rw [show decide (V.str (Str.ofString "row") = V.str (Str.ofString "row")) = true from decide_eq_true rfl]; exact fin _ (s57.trans s)⟩
        · rw [rowD_ok h2] at e
          cases e
      · subst e
        rcases cs5 with ⟨h1, h2, h3⟩ | ⟨row', er, h2, h3, _⟩
        · rw [rowD_ok rok] at h1
          cases h1
        · exact ⟨t, _, 0, _, rfl, rfl, st_of et, rfl, _, rfl, tp, _, 0, _, rfl, rfl, st_of ((s57.trans s) _ _ h3), rfl, rfl, by rw [show decide (V.str (Str.ofString "told") = V.str (Str.ofString "told")) = true from decide_eq_true rfl]; exact fin _ (s57.trans s)⟩
    · refine ⟨_, rfl, _, rfl, .inr (.inl ⟨hv, rv, p, d, .non, rfl, hs7, dr7, sh, fun e H' t s dq => ?_, fun row e rok H' t wv s et dw => ?_⟩)⟩
      · rcases cs5 with ⟨h1, h2, h3⟩ | ⟨row, rfl, h2, _⟩
        · exact ⟨_, rfl, _, _, rowN, rfl, dq, .tup ((s57.trans s) _ _ h3) (.cons (.str _) (.cons .non .nil)), flat3 rfl, fun G s' => fin G (s57.trans (s.trans s'))⟩
        · rw [rowD_ok h2] at e
          cases e
      · subst e
        rcases cs5 with ⟨h1, h2, h3⟩ | ⟨row', er, h2, h3, _⟩
        · rw [rowD_ok rok] at h1
          cases h1
        · have fl : flatD 2 (tellD p (mkR row)) = true := (tell_fl po row).resolve_left ed
          have q1 := dq_of_dx _ _ (plain_flat _ _ fl) dw
          have q2 := dq_of_dx _ _ (plain_flat _ _ fl) (Dx.same s _ _ dt7)
          exact ⟨_, rfl, _, _, toldD (tellD p (mkR row)), rfl, .tup et (.cons (.str _) (.cons q1 .nil)), .tup ((s57.trans s) _ _ h3) (.cons (.str _) (.cons q2 .nil)), flat3 fl, fun G s' => fin G (s57.trans (s.trans s'))⟩
end
end K03

set_option maxHeartbeats 4000000
namespace K03
open PySem PySem.Spec PyProof.Rows L2 V1 V2 V3 V6 LamX NdefX
open Evl (pss_cut tCut sq_of st_of)
abbrev lawSl : List Str := ["script", "hand", "k", "plains", "plain", "houses", "order", "due", "thing"]
theorem scLaw : FnScope lawSl ["script"] (defScope s_law) := ⟨rfl, rfl, rfl, by decide +kernel, rfl, by decide +kernel, by decide +kernel⟩
def spLaw (K : PySem.W.Frag) : Sp := fun vs H Q _ => ∃ (a : Addr) (ns : List Int), vs = [.ref a] ∧ SqL K H a (ns.map V.int) ∧ ns.length ≤ 63 ∧ Tabs (tsK K) H ∧ ∀ H', Q (.bl true) H'
theorem rel_snoc {α β : Type} {R : α → β → Prop} {as : List α} {ps : List β} (l : as.length = ps.length) (h : ∀ (j : Nat) x p, as[j]? = some x → ps[j]? = some p → R x p) {x : α} {p : β} (r : R x p) : ∀ (j : Nat) y q, (as ++ [x])[j]? = some y → (ps ++ [p])[j]? = some q → R y q := fun j y q e1 e2 => by
  by_cases jl : j < as.length
  · rw [List.getElem?_append_left jl] at e1
    rw [List.getElem?_append_left (by omega)] at e2
    exact h j y q e1 e2
  · rw [List.getElem?_append_right (by omega)] at e1
    rw [List.getElem?_append_right (by omega)] at e2
    have j0 : j - as.length = 0 := by
      have := (List.getElem?_eq_some_iff.mp e1).1
      simp only [List.length_cons, List.length_nil] at this
      omega
    have j1 : j - ps.length = 0 := by omega
    rw [j0] at e1
    rw [j1] at e2
    cases e1
    cases e2
    exact r
theorem TupsK.del {H : L2.Hp} {D : Addr} {xs : List V} (e : H D = some (.lst xs)) : TupsK H (delH H D) := fun b o eb n => by
  rw [delH_ne fun z => by rw [z, e] at eb; exact n _ (Option.some.inj eb).symm]
  exact eb
theorem gx_lst {a D : Addr} {H H' : L2.Hp} {xs : List V} (g : Gx a H H') (ne : D ≠ a) (e : H D = some (.lst xs)) : H' D = some (.lst xs) := by
  have z := V4.ext_lst g.sm (by rw [delH_ne ne]; exact e)
  rw [delH_ne ne] at z
  exact z
theorem hand_lst {a : Addr} {H : L2.Hp} (h : HandAt H a) : ∃ xs, H a = some (.lst xs) := by
  obtain ⟨c, cs, i1, i2, i3, i4, e, _⟩ := h.ex
  exact ⟨_, e⟩
mutual
def noL : PyData → Bool
  | .none | .bool _ | .int _ | .str _ => true
  | .tuple ds => noLs ds
  | _ => false
def noLs : List PyData → Bool
  | [] => true
  | d :: ds => noL d && noLs ds
end
mutual
theorem dq_tups {H H' : L2.Hp} (s : TupsK H H') : ∀ (d : PyData) (v : V), noL d = true → Dq H v d → Dq H' v d
  | .none, _, _, h => by cases h; exact .non
  | .bool b, _, _, h => by cases h; exact .bl b
  | .int i, _, _, h => by cases h; exact .int i
  | .str x, _, _, h => by cases h; exact .str x
  | .list _, _, n, _ => by simp [noL] at n
  | .tuple ds, _, n, h => by
    cases h with
    | tup e r => exact .tup (s _ _ e (fun _ z => nomatch z)) (dqAll_tups s ds _ (by simpa [noL] using n) r)
  | .dict _, _, n, _ => by simp [noL] at n
theorem dqAll_tups {H H' : L2.Hp} (s : TupsK H H') : ∀ (ds : List PyData) (vs : List V), noLs ds = true → DqAll H vs ds → DqAll H' vs ds
  | [], _, _, h => by cases h; exact .nil
  | d :: ds, _, n, h => by
    cases h with
    | cons one more =>
      have n' : noL d = true ∧ noLs ds = true := by simpa [noLs] using n
      exact .cons (dq_tups s d _ n'.1 one) (dqAll_tups s ds _ n'.2 more)
end
theorem noLs_row : ∀ row : List Str, noLs (row.map PyData.str) = true
  | [] => rfl
  | y :: ys => by
    rw [List.map_cons, noLs, noLs_row ys]
    rfl
theorem due_row {ds : List PyData} {row : List Str} (ro : RowOk row) {b : Bool} (ib : b = true ↔ ds = row.map PyData.str) : (rowD (.tuple ds) && decide (txOf (.tuple ds) = row)) = b := by
  refine Bool.eq_iff_iff.mpr (Iff.trans ⟨fun h => ?_, fun h => ?_⟩ ib.symm)
  · have z : rowD (.tuple ds) = true ∧ txOf (.tuple ds) = row := by simpa using h
    have y : ds.length ≤ 400 ∧ ds.all wordD = true := by simpa [rowD] using z.1
    rw [← z.2]
    exact words_tx y.2
  · subst h
    have z1 : rowD (mkR row) = true := rowD_ok ro
    have z2 := txOf_row2 row
    show (rowD (mkR row) && decide (txOf (mkR row) = row)) = true
    rw [z1, z2, decide_eq_true rfl]
    rfl
theorem ints_inj : ∀ {os os' : List Nat}, PyData.tuple (os.map fun o : Nat => PyData.int ((o : Nat) : Int)) = .tuple (os'.map fun o : Nat => PyData.int ((o : Nat) : Int)) → os = os' := fun {os os'} h => by
  injection h with h
  exact (List.map_inj_right fun x y z => by
    injection z with z
    omega).mp h
/-- what is due of a talk -/
def CaseD (ps : List Pl) (od DD : PyData) : Prop := (orderD ((ps.length : Nat) : Int) od = false ∧ DD = orderN) ∨ ∃ os : List Nat, od = .tuple (os.map fun o : Nat => .int ((o : Nat) : Int)) ∧ orderD ((ps.length : Nat) : Int) od = true ∧ RowOk (talk3 ps os []).1 ∧
  (((talk3 ps os []).2 = true ∧ DD = toldD (mkR (talk3 ps os []).1)) ∨ ((talk3 ps os []).2 = false ∧ DD = houseD (mkR (talk3 ps os []).1)))
def CaseE (ps : List Pl) (od d DD : PyData) : Prop := (orderD ((ps.length : Nat) : Int) od = false ∧ DD = orderN) ∨ ∃ os : List Nat, od = .tuple (os.map fun o : Nat => .int ((o : Nat) : Int)) ∧ orderD ((ps.length : Nat) : Int) od = true ∧ RowOk (talk3 ps os []).1 ∧
  (((talk3 ps os []).2 = true ∧ DD = toldD (.bool (rowD d && decide (txOf d = (talk3 ps os []).1)))) ∨ ((talk3 ps os []).2 = false ∧ DD = houseD (mkR (talk3 ps os []).1)))
def listOf : PyData → PyData
  | .tuple ds => .list ds
  | _ => .list []
structure ThOk (d : PyData) : Prop where
  sh : shD d
  tu : ∀ ds, d = .tuple ds → ds.length ≤ 900 ∧ ∀ y ∈ ds, ∃ x, y = .str x ∧ wordX x = true
section
variable [CurK]
theorem HsL.same {H H' : Hp} {h : Addr} {ps : List Pl} (s : Same H H') (l : HsL H h ps) : HsL H' h ps := by
  obtain ⟨hvs, h1, h2, h3⟩ := l.ex
  exact ⟨hvs, s _ _ h1, h2, fun i v p e1 e2 => (h3 i v p e1 e2).same s⟩
theorem mky_ixT {H0 : Hp} {a t : Addr} {σ : L2.St} {i : Nat} {n : Int} {xs : List V} {v : V} {d : PyData} (hv : σ[i]? = some (some (.ref t))) (e : H0 t = some (.tup xs)) (ev : atI xs n = some v) (dv : Dx (delH H0 a) v d) : MkY H0 a (tOp (rIxT K) (tVar i) (tC (.int n))) σ d := fun H s Q k =>
  ⟨_, hv, t, xs, _, _, rfl, rfl, st_of (s _ _ e), ev, k v H (Same.refl H) (Dx.same (same_del s) _ _ dv)⟩
theorem mky_if {H0 : Hp} {a : Addr} {σ : L2.St} {tA : TT} {ta tb : TE} {b : Bool} {d : PyData} (hA : ∀ H, Same H0 H → ∀ Q : Bool → Hp → Prop, Q b H → tA σ H Q) (h1 : b = true → MkY H0 a ta σ d) (h2 : b = false → MkY H0 a tb σ d) : MkY H0 a (tIf tA ta tb) σ d := fun H s Q k => hA H s _ (by
  cases b with
  | true => exact iteT (h1 rfl H s Q k)
  | false => exact iteF (h2 rfl H s Q k))
theorem hs_dx {mg : Str → Option Value} {w : World} (T : Tx K w mg) {H : Hp} {v : V} {p : Pl} (h : HsAt H v p) : Dx H v objD := by
  rcases h with ⟨_, q, rfl, ht⟩ | ⟨_, q, rfl, dx, u, h1, _⟩ | ⟨_, q, x, rfl, dx, f, c, c', h1, _⟩
  · obtain ⟨dx, b, q', us, kvs, hq, _⟩ := ht.ex
    exact .ob hq (T.obC 0 (x := "Table") rfl (He.cls_ok (T.c.fact 79 rfl)))
  · exact .ob h1 (T.obC 2 (x := "Program") rfl (He.cls_ok (T.c.fact 92 rfl)))
  · exact .ob h1 (T.obC 1 (x := "Voice") rfl (He.cls_ok (T.c.fact 87 rfl)))
variable {P : Program} {w : World} {mg : Str → Option Value}
theorem ok_law (T : Tx K w mg) : ∃ fd, (∀ base : Heap, (∀ x ∈ lamN, TabB base mg (V4.pairOf K (He.ga K x)).1 (V4.pairOf K (He.ga K x)).2) → LawOk P w K mg base (He.ga K "law") fd "script" (spLaw K)) ∧ ∀ (s : Shared) (u : Value), BindsTo s fd ⟨[u], []⟩ [("script", u)] := by
  obtain ⟨fd, F⟩ := T.c.def_ 38 (d := d_law) rfl
  have bind := FunD.bindsA (ps := ["script"]) F fun _ _ _ _ _ _ us hl => match us, hl with | [_], _ => rfl
  refine ⟨fd, fun base TBs => ?_, fun s u => bind s [u] rfl⟩
  have TB := TBs "_law_house" (by decide)
  have Hh := ok_hand (P := P) (w := w) (base := base) T
  have Hd := ok_draw (P := P) (w := w) (base := base) T
  have Hs := ok_some (P := P) (w := w) (base := base) T
  have Hpl := ok_plain (P := P) (w := w) (base := base) T
  have Hat := ok_are (P := P) (w := w) (base := base) T TB
  have Hlh := ok_lhouse (P := P) (w := w) (base := base) T TB
  have Hod := ok_orderx (P := P) (w := w) (base := base) T
  have Hu := ok_ldue (P := P) (w := w) (base := base) T
  have Hi := ok_is (P := P) (w := w) (base := base) T 4
  have Hir := ok_isR (P := P) (w := w) (base := base) T
  have Hc := ok_called (P := P) (w := w) (base := base) T
  refine lawOk_of (k := 80) F scLaw ⟨rfl, by decide, by decide⟩ fun cdv s H v0 Q hr gd h => ?_
  refine ⟨_, PSs.nox (pss_cons (ps_set (i := 1) scLaw.nd rfl (Or.inr rfl) (pe_has Hh (hr.mono (by decide)) pass0 (pa_cons (pv 0) pa_nil)))
 (pss_cons (ps_setLc (i := 3) (own := [("k", 2)]) (g := gName 2) (tt := tYes) (te := tCall spPlain [] (fun _ _ _ => False) (tCons (tVar 1) tNil)) (by rfl) scLaw.nd rfl rfl (by rfl) (pi_range1 (by rfl) (T.free 67 rfl) (pa_cons (pe_op op_add pe_int (pe_has Hd (hr.mono (by decide)) pass0 (pa_cons (pv 1) (pa_cons pe_int pa_nil)))) pa_nil))
 (blkOk_by (own := [("k", 2)]) (N := lawSl) (sc := defScope s_law) (by decide +kernel)) (fun _ _ _ _ _ => pg_name (i := 2) scLaw.nd rfl (Or.inl rfl)) (fun _ _ _ _ _ => pts_nil) (fun _ _ _ _ _ => (pe_has Hpl (hr.mono (by decide)) pass0 (pa_cons (pv 1) pa_nil))))
 (pss_cons (ps_for PassesOwn.never rfl (pi_list (pv 3)) (pg_name (i := 4) scLaw.nd rfl (Or.inl rfl))
 (pss_one (ps_for PassesOwn.never rfl (pi_range1 (by rfl) (T.free 67 rfl) (pa_cons pe_int pa_nil)) (pg_name (i := 2) scLaw.nd rfl (Or.inl rfl))
 (pss_one (ps_if (pt_not (pt_val (pe_has Hat (hr.mono (by decide)) pass0 (pa_cons (pv 1) (pa_cons (pv 4) pa_nil)))))
 (pss_one (ps_ret pe_bl))
 pss_nil)))))
 (pss_cons (ps_set (i := 5) scLaw.nd rfl (Or.inl rfl) (pe_callTy call_tuple_of (by rfl) (T.free 69 rfl) (by decide +kernel) (pa_cons (pe_lc (own := [("plain", 4)]) (g := gName 4) (tt := tYes) (te := tCall spLHouse [] (fun _ _ _ => False) (tCons (tVar 4) tNil)) (by rfl) scLaw.nd (pi_list (pv 3))
 (blkOk_by (own := [("plain", 4)]) (N := lawSl) (sc := defScope s_law) (by decide +kernel)) (fun _ _ _ _ _ => pg_name (i := 4) scLaw.nd rfl (Or.inl rfl)) (fun _ _ _ _ _ => pts_nil) (fun _ _ _ _ _ => (pe_has Hlh (hr.mono (by decide)) pass0 (pa_cons (pv 4) pa_nil)))) pa_nil)))
 (pss_cons (ps_for PassesOwn.never rfl (pi_range1 (by rfl) (T.free 67 rfl) (pa_cons pe_int pa_nil)) (pg_name (i := 2) scLaw.nd rfl (Or.inl rfl))
 (pss_cons (ps_set (i := 6) scLaw.nd rfl (Or.inl rfl) (pe_has Hod (hr.mono (by decide)) pass0 (pa_cons (pv 1) (pa_cons (pe_callB call_len (by rfl) (T.free 65 rfl) PySem.boot_len (pa_cons (pv 3) pa_nil)) pa_nil))))
 (pss_cut (ps_set (i := 7) scLaw.nd rfl (Or.inl rfl) (pe_has Hu (hr.mono (by decide)) pass0 (pa_cons (pv 3) (pa_cons (pv 6) pa_nil))))
 (pss_cut (ps_if (pt_not (pt_val (pe_has Hi (hr.mono (by decide)) pass0 (pa_cons (pe_has Hc (hr.mono (by decide)) pass0 (pa_cons pe_int (pa_cons (pv 5) (pa_cons (pv 6) (pa_cons pe_non pa_nil))))) (pa_cons (pv 7) pa_nil)))))
 (pss_one (ps_ret pe_bl))
 pss_nil)
 (pss_cons (ps_set (i := 8) scLaw.nd rfl (Or.inl rfl) (pe_has Hs (hr.mono (by decide)) pass0 (pa_cons (pv 1) (pa_cons (pe_lstS (pa_cons (pe_ix ix_tup (pv 7) pe_int (fun _ _ => rfl)) (pa_cons pe_non (pa_cons (pe_tup pa_nil) (pa_cons (pe_tup (pa_cons pe_str pa_nil)) (pa_cons (pe_ifExp (pt_val (pe_callB call_isi (by rfl) (T.free 64 rfl) (by decide +kernel) (pa_cons (pv 6) (pa_cons (pe_bltn (v := .ty "tuple") (by rfl) (T.free 69 rfl) (by decide +kernel) rfl) pa_nil)))) (pe_callTy V2.call_list_low (by rfl) (T.free 66 rfl) (by decide +kernel) (pa_cons (pv 6) pa_nil)) (pe_lstS pa_nil)) (pa_cons (pe_ix ix_tup (pv 5) pe_int (fun _ _ => rfl)) pa_nil))))))) pa_nil))))
 (pss_cut (ps_if (pt_cmpR op_eq (pe_ix ix_tup (pv 7) pe_int (fun _ _ => rfl)) pe_str (nomark _))
 (pss_one (ps_set (i := 7) scLaw.nd rfl (Or.inl rfl) (pe_tup (pa_cons pe_str (pa_cons (pe_and (pe_callB call_isi (by rfl) (T.free 64 rfl) (by decide +kernel) (pa_cons (pv 8) (pa_cons (pe_bltn (v := .ty "tuple") (by rfl) (T.free 69 rfl) (by decide +kernel) rfl) pa_nil))) (pe_one (pe_has Hir (hr.mono (by decide)) pass0 (pa_cons (pv 8) (pa_cons (pe_ix ix_tup (pv 7) pe_int (fun _ _ => rfl)) pa_nil))))) pa_nil)))))
 pss_nil)
 (pss_one (ps_if (pt_not (pt_val (pe_has Hi (hr.mono (by decide)) pass0 (pa_cons (pe_has Hc (hr.mono (by decide)) pass0 (pa_cons pe_int (pa_cons (pv 5) (pa_cons (pv 6) (pa_cons (pv 8) pa_nil))))) (pa_cons (pv 7) pa_nil)))))
 (pss_one (ps_ret pe_bl))
 pss_nil))))))))
 (pss_one (ps_ret pe_bl))))))), ?_⟩
  obtain ⟨a0, ns, e0, hS, hl, hT, hQ⟩ := h
  cases e0
  refine ⟨_, rfl, a0, ns, rfl, hS, hl, fun H1 a s1 n1' hd1 => ?_⟩
  have hT1 := V4.tabs_same hT s1
  refine ⟨_, rfl, a, 8, rfl, hd1, by decide, by decide, fun H2 r2 hd2 e2 c2 q0 q1 => ?_⟩
  have hT2 := tabs_tups hT1 (TupsK.go hd1 (Go.draw hd2 e2 c2))
  obtain ⟨m, rfl⟩ := Int.eq_ofNat_of_zero_le q0
  clear e2 c2 q0 hT1 hd1 s1
  refine ⟨_, _, rfl, rfl, _, rfl, by omega, by omega, fun D nD => ?_⟩
  rw [show ((1 : Int) + (m : Nat)).toNat = m + 1 by omega]
  have Da : D ≠ a := hd2.ne_new nD
  obtain ⟨c, cs, hce, nca, hc⟩ := hd2.cells
  have cD : c ≠ D := fun z => by
    rw [← z, hc] at nD
    cases nD
  refine lc_gen (σ := [some (.ref a0), some (.ref a), none, none, none, none, none, none, none]) (vs := [2]) (walk_range (lo := 0) (n := m + 1)) nD (fun i acc H' => Go a H2 H' ∧ ∃ (as : List Addr) (ps : List Pl), acc = as.map V.ref ∧ as.length = i ∧ as.length = ps.length ∧ (∀ (j : Nat) x p, as[j]? = some x → ps[j]? = some p → PlAt (delH H' a) x p) ∧ ∀ p ∈ ps, PlOk p) ⟨Go.refl hd2, [], [], rfl, rfl, rfl, (fun j x p e => by simp at e), fun p h => absurd h List.not_mem_nil⟩ (fun _ _ _ _ _ => True.intro) ?_ ?_
  · rintro i acc x0 H4 H5 hi l e ⟨g4, as, ps, rfl, al, pl, pn, pok⟩ ⟨rfl, hx0⟩
    refine ⟨rfl, ?_⟩
    simp only [tYes, if_true]
    have hd4 := hand_same g4.hd same_delH
    refine ⟨_, rfl, a, rfl, hd4, fun H6 x p g6 nx pa po => ?_⟩
    have eD := go2_keep g6 Da e
    have c6 : cellsOf H6 a = some (.ref c) := g6.ce.trans ((cells_del Da).symm.trans (g4.ce.trans hce))
    have g6' := go_off g6 c6 cD Da
    have off : ∀ b o, newH H5 H6 b = some o → delH (delH H6 D) a b = some o := fun b o eb => by
      obtain ⟨n, h⟩ := newH_some eb
      rw [delH_ne (hd4.ne_new n), delH_ne fun z => by rw [z, e] at n; cases n]
      exact h
    exact lc_put l (by omega) eD ⟨g4.trans g6', as ++ [x], ps ++ [p], by rw [List.map_append]; rfl, by rw [List.length_append, al]; rfl, by rw [List.length_append, List.length_append, pl]; rfl, rel_snoc pl (fun j x p e1 e2 => (pn j x p e1 e2).same g6'.sm) (pa.same off), fun q hq => by
      rcases List.mem_append.mp hq with z | z
      · exact pok q z
      · rw [List.mem_singleton.mp z]
        exact po⟩
  rintro acc H4 l4 e4 ⟨g4', as, ps, rfl, al, pl, pn', pok⟩
  have g4 := g4'.undel Da
  have hd4 := g4.hd
  have pn : ∀ (j : Nat) x p, as[j]? = some x → ps[j]? = some p → PlAt (delH H4 a) x p := fun j x p e1 e2 => (pn' j x p e1 e2).same (same_del same_delH)
  have hT4 := tabs_tups hT2 (TupsK.go hd2 g4)
  have pl1 : 1 ≤ ps.length := by
    have := al
    omega
  have pl8 : ps.length ≤ 8 := by
    have := al
    omega
  clear g4' pn' l4 g4 hT2 hc hce cD nD al hd2
  refine ⟨_, rfl, D, rfl, ⟨_, sq_of e4⟩, for_it (walk_list (K := K) (a := D) (xs := as.map V.ref)) (fun i σ H' => ∃ o2 o4, σ = [some (.ref a0), some (.ref a), o2, some (.ref D), o4, none, none, none, none] ∧ Gx a H4 H' ∧ Tabs (tsK K) H') ⟨_, _, rfl, Gx.of (Go.refl hd4), hT4⟩ (fun i σ H' _ z => by
    obtain ⟨o2, o4, _, g, _⟩ := z
    exact sq_of (gx_lst g Da e4)) ?_ ?_⟩
  · rintro i x0 σ H5 H6 hi ⟨o2, o4, rfl, g5, t5⟩ ⟨rfl, hx⟩
    rw [List.length_map] at hi
    have ea : as[i]? = some as[i] := List.getElem?_eq_getElem hi
    have ep : ps[i]? = some (ps[i]'(by omega)) := List.getElem?_eq_getElem _
    rw [List.getElem?_map, ea] at hx
    cases hx
    have pa := pn i _ _ ea ep
    have po := pok _ (List.mem_of_getElem? ep)
    generalize as[i] = x at pa
    generalize ps[i]'(by omega) = p at pa po
    refine ⟨2, rfl, by decide, by decide, ?_⟩
    rw [show (2 : Int).toNat = 2 from rfl]
    refine for_it (walk_range (lo := 0) (n := 2)) (fun j σ H' => ∃ o2, σ = [some (.ref a0), some (.ref a), o2, some (.ref D), some (.ref x), none, none, none, none] ∧ Gx a H4 H' ∧ Tabs (tsK K) H') ⟨_, rfl, g5, t5⟩ (fun _ _ _ _ _ => True.intro) ?_ ?_
    · rintro j y σ H7 H8 hj ⟨o2, rfl, g7, t7⟩ ⟨rfl, rfl⟩
      exact ⟨_, rfl, _, rfl, a, x, p, rfl, g7.hd, pa.ext g7.sm, po, t7, fun H9 g9 t9 => ⟨true, rfl, iteF ⟨_, rfl, g7.trans g9, t9⟩⟩⟩
    · rintro σ H7 ⟨o2, rfl, g7, t7⟩
      exact ⟨_, _, rfl, g7, t7⟩
  rintro σ H8 ⟨o2, o4, rfl, g8, t8⟩
  have e8 := gx_lst g8 Da e4
  have pn8 : ∀ (j : Nat) x p, as[j]? = some x → ps[j]? = some p → PlAt (delH H8 a) x p := fun j x p e1 e2 => (pn j x p e1 e2).ext g8.sm
  have hd8 := g8.hd
  clear g8 pn e4 hT4 hd4
  refine ⟨_, rfl, D, rfl, ⟨_, sq_of e8⟩, fun D3 nD3 => ?_⟩
  have D3a : D3 ≠ a := hd8.ne_new nD3
  refine lc_gen (σ := [some (.ref a0), some (.ref a), o2, some (.ref D), o4, none, none, none, none]) (vs := [4]) (walk_list (K := K) (a := D) (xs := as.map V.ref)) nD3 (fun i acc G => Gx a H8 G ∧ Tabs (tsK K) G ∧ acc.length = i ∧ ∀ (j : Nat) (v : V) (p : Pl), acc[j]? = some v → ps[j]? = some p → HsAt (delH G a) v p)
    ⟨Gx.of (Go.refl hd8), t8, rfl, fun j v p h => by simp at h⟩ (fun i acc H' _ z => sq_of (same_delH _ _ (gx_lst z.1 Da e8))) ?_ ?_
  · rintro i acc x0 H10 H11 hi l e ⟨g10, t10, ac, hs⟩ ⟨rfl, hx⟩
    rw [List.length_map] at hi
    have ea : as[i]? = some as[i] := List.getElem?_eq_getElem hi
    have ep : ps[i]? = some (ps[i]'(by omega)) := List.getElem?_eq_getElem _
    rw [List.getElem?_map, ea] at hx
    cases hx
    have pa := (pn8 i _ _ ea ep).ext g10.sm
    have po := pok _ (List.mem_of_getElem? ep)
    generalize as[i] = x at pa
    refine ⟨rfl, ?_⟩
    simp only [tYes, if_true]
    refine ⟨_, rfl, x, _, rfl, (pa.same same_delH).same same_delH, po, V4.tabs_same t10 same_delH, fun H12 v x12 t12 h0 del => ?_⟩
    have eD := V4.ext_lst x12 e
    have x3 := V4.ext_del (a := D3) x12
    have gx := Gx.ext g10.hd x3
    obtain ⟨ha, eha⟩ := hand_lst gx.hd
    refine lc_put l (by omega) eD ⟨g10.trans gx, tabs_tups t12 (TupsK.del eD), by rw [List.length_append, ac]; rfl, fun j v' p' h1 h3 => ?_⟩
    by_cases jl : j < acc.length
    · rw [List.getElem?_append_left jl] at h1
      exact (hs j v' p' h1 h3).ext (V4.ext_del x3)
    · have jl' := (List.getElem?_eq_some_iff.mp h1).1
      rw [List.length_append] at jl'
      simp only [List.length_cons, List.length_nil] at jl'
      have je : j = i := by omega
      subst je
      rw [List.getElem?_append_right (by omega), ac, Nat.sub_self] at h1
      rw [ep] at h3
      cases h1
      cases h3
      refine del _ ((TupsK.del eD).trans (TupsK.del eha)) fun c hc => pa.ext fun b o eb n => ?_
      have bc : b ≠ c := fun z => by
        obtain ⟨ps', e'⟩ := hc o (by rw [← z]; exact same_delH _ _ (same_delH _ _ eb))
        exact n _ e'
      rw [delH_ne bc]
      exact V4.ext_del x3 _ _ eb n
  rintro acc H10 l10 e10 ⟨g10, t10, ac, hs⟩
  rw [List.length_map] at ac
  refine ⟨D3, _, rfl, .inl ⟨sq_of e10, fun h nh => ?_⟩⟩
  have s11 := same_new (o := HO.tup acc) nh
  have s1011 : Same (delH H10 D3) (upd H10 h (HO.tup acc)) := same_delH.trans s11
  have hd11 := hand_same g10.hd s1011
  have ha : h ≠ a := (hand_same g10.hd same_delH).ne_new nh
  have HL : HsL (delH (upd H10 h (HO.tup acc)) a) h ps := ⟨acc, by rw [delH_ne ha]; exact upd_same, by omega, fun i v p e1 e2 => (hs i v p e1 e2).same (same_del s1011)⟩
  have PL : PsL (delH (upd H10 h (HO.tup acc)) a) D ps := ⟨as, by rw [delH_ne Da]; exact s1011 _ _ (gx_lst g10 Da e8), pl, fun i x p e1 e2 => ((pn8 i x p e1 e2).ext g10.sm).same (same_del s1011)⟩
  generalize upd H10 h (HO.tup acc) = H11 at hd11 HL PL
  clear s11 s1011 g10 t10 ac hs e10 l10 nh nD3 e8 pn8 t8 hd8
  refine ⟨6, rfl, by decide, by decide, ?_⟩
  rw [show (6 : Int).toNat = 6 from rfl]
  refine for_it (walk_range (lo := 0) (n := 6)) (fun i σ H' => Go a H11 H' ∧ ∃ o2 o6 o7 o8, σ = [some (.ref a0), some (.ref a), o2, some (.ref D), o4, some (.ref h), o6, o7, o8]) ⟨Go.refl hd11, _, _, _, _, rfl⟩ (fun _ _ _ _ _ => True.intro) ?_ ?_
  · rintro i x σ G0 G0' hi ⟨g0, o2, o6, o7, o8, rfl⟩ ⟨rfl, rfl⟩
    have hd0 := g0.hd
    have HL0 := HL.same g0.sm
    have PL0 := PL.same g0.sm
    obtain ⟨as0, pl1', pl2', _⟩ := (PL0.same same_delH).ex
    refine ⟨_, rfl, _, rfl, _, _, rfl, .inl ⟨_, sq_of pl1', rfl⟩, a, _, rfl, hd0, by rw [List.length_map, pl2']; omega, by rw [List.length_map, pl2']; omega, fun G1 ov od g1 dod => ?_⟩
    clear pl1' pl2'
    have g01 := g0.trans g1
    have HL1 := HL.same g01.sm
    have PL1 := PL.same g01.sm
    refine ⟨fun σ H' => ∃ td DD, σ = [some (.ref a0), some (.ref a), some (.int (0 + ((i : Nat) : Int))), some (.ref D), o4, some (.ref h), some ov, some (.ref td), o8] ∧ Same G1 H' ∧ Dq H' (.ref td) DD ∧ CaseD ps od DD, ?_, ?_⟩
    · exact ⟨_, rfl, _, rfl, D, ov, ps, od, rfl, PL1.same same_delH, pok, Dx.same same_delH _ _ dod, fun e H' t s dq => ⟨t, _, rfl, s, dq, .inl ⟨e, rfl⟩⟩, fun os eo e1 => ⟨fun tr ro H' t s dq => ⟨t, _, rfl, s, dq, .inr ⟨os, eo, e1, ro, .inl ⟨tr, rfl⟩⟩⟩, fun tr ro H' t s dq => ⟨t, _, rfl, s, dq, .inr ⟨os, eo, e1, ro, .inr ⟨tr, rfl⟩⟩⟩⟩⟩
    rintro σ G2 ⟨td, DD, rfl, s2, dtd, cd⟩
    have g2 := g01.trans (Go.new g01.hd s2)
    have HL2 := (HL.same g2.sm).same same_delH
    have dod2 : Dx (delH G2 a) ov od := Dx.same (same_del s2) _ _ dod
    have fl : flatD 3 DD = true := by
      rcases cd with ⟨_, rfl⟩ | ⟨os, _, _, ro, ⟨_, rfl⟩ | ⟨_, rfl⟩⟩
      · exact flat3 rfl
      · exact flat3 (flat_row ro)
      · exact flat3 (flat_row ro)
    clear HL1 PL1 HL0 PL0 hd0 dod s2 g01 g1 g0
    refine ⟨fun σ H' => σ = [some (.ref a0), some (.ref a), some (.int (0 + ((i : Nat) : Int))), some (.ref D), o4, some (.ref h), some ov, some (.ref td), o8] ∧ Same G2 H', ?_, ?_⟩
    · refine ⟨_, rfl, _, rfl, .inr (.inr (.inl ⟨h, ov, ps, od, .non, rfl, HL2, pok, Dx.same same_delH _ _ dod2, fun e H' t s dq => ?_, fun os eo e1 ro => ⟨fun tr H' t s dq => ?_, fun tr H' t s dq => ?_⟩⟩))⟩
      · have eD : orderN = DD := by
          rcases cd with ⟨_, rfl⟩ | ⟨os, _, e1, _⟩
          · rfl
          · rw [e] at e1
            cases e1
        exact ⟨_, rfl, _, _, DD, rfl, by rw [← eD]; exact dq, Dq.same s _ _ dtd, fl, fun G s' => ⟨true, rfl, iteF ⟨rfl, s.trans s'⟩⟩⟩
      · have eD : toldD (mkR (talk3 ps os []).1) = DD := by
          rcases cd with ⟨e, _⟩ | ⟨os', eo', _, _, cs⟩
          · rw [e] at e1
            cases e1
          · obtain rfl := ints_inj (eo.symm.trans eo')
            rcases cs with ⟨_, rfl⟩ | ⟨tr', _⟩
            · rfl
            · rw [tr] at tr'
              cases tr'
        exact ⟨_, rfl, _, _, DD, rfl, by rw [← eD]; exact dq, Dq.same s _ _ dtd, fl, fun G s' => ⟨true, rfl, iteF ⟨rfl, s.trans s'⟩⟩⟩
      · have eD : houseD (mkR (talk3 ps os []).1) = DD := by
          rcases cd with ⟨e, _⟩ | ⟨os', eo', _, _, cs⟩
          · rw [e] at e1
            cases e1
          · obtain rfl := ints_inj (eo.symm.trans eo')
            rcases cs with ⟨tr', _⟩ | ⟨_, rfl⟩
            · rw [tr] at tr'
              cases tr'
            · rfl
        exact ⟨_, rfl, _, _, DD, rfl, by rw [← eD]; exact dq, Dq.same s _ _ dtd, fl, fun G s' => ⟨true, rfl, iteF ⟨rfl, s.trans s'⟩⟩⟩
    rintro σ G3 ⟨rfl, s3⟩
    have g3 := g2.trans (Go.new g2.hd s3)
    have dod3 := Dx.same (same_del s3) _ _ dod2
    have dtd3 := Dq.same s3 _ _ dtd
    have hd3 := g3.hd
    have HL3 := HL.same g3.sm
    obtain ⟨xsa, exa⟩ := hand_lst hd3
    have nl : noL DD = true := by
      rcases cd with ⟨_, rfl⟩ | ⟨os, _, _, ro, ⟨_, rfl⟩ | ⟨_, rfl⟩⟩
      · rfl
      · show (true && (noLs ((talk3 ps os []).1.map PyData.str) && true)) = true
        rw [noLs_row]
        rfl
      · show (true && (noLs ((talk3 ps os []).1.map PyData.str) && true)) = true
        rw [noLs_row]
        rfl
    have dta := dq_tups (TupsK.del exa) _ _ nl dtd3
    clear g2 dod2 dtd HL2 s3 dtd3
    -- what is behind due[0], due[1]
    obtain ⟨kd, d1, eDD, kcase⟩ : ∃ (kd : Str) (d1 : PyData), DD = .tuple [.str kd, d1] ∧ ((kd ≠ Str.ofString "told" ∧ (∀ ds, d1 = .tuple ds → ∃ row, d1 = mkR row ∧ RowOk row) ∧ ∀ d, CaseE ps od d DD) ∨ (kd = Str.ofString "told" ∧ ∃ os : List Nat, od = .tuple (os.map fun o : Nat => .int ((o : Nat) : Int)) ∧ orderD ((ps.length : Nat) : Int) od = true ∧ RowOk (talk3 ps os []).1 ∧ (talk3 ps os []).2 = true ∧ d1 = mkR (talk3 ps os []).1)) := by
      rcases cd with ⟨e, rfl⟩ | ⟨os, eo, e1, ro, ⟨tr, rfl⟩ | ⟨tr, rfl⟩⟩
      · exact ⟨_, _, rfl, .inl ⟨by decide +kernel, (fun ds z => nomatch z), fun d => .inl ⟨e, rfl⟩⟩⟩
      · exact ⟨_, _, rfl, .inr ⟨rfl, os, eo, e1, ro, tr, rfl⟩⟩
      · exact ⟨_, _, rfl, .inl ⟨by decide +kernel, (fun ds z => ⟨_, rfl, ro⟩), fun d => .inr ⟨os, eo, e1, ro, .inr ⟨tr, rfl⟩⟩⟩⟩
    have d1row : ∀ ds, d1 = .tuple ds → ∃ row, d1 = mkR row ∧ RowOk row := by
      rcases kcase with ⟨_, q, _⟩ | ⟨_, os, _, _, ro, _, e⟩
      · exact q
      · exact fun _ _ => ⟨_, e, ro⟩
    have d1sh : shD d1 := fun ds e => by
      obtain ⟨row, er, ro⟩ := d1row ds e
      rw [er] at e
      exact sh_row row ro ds e
    subst eDD
    obtain ⟨t0, us, et0, etd, qs⟩ := V2.Dq.tup_inv dta
    cases et0
    cases qs with
    | cons o1 m1 =>
    cases o1
    cases m1 with
    | @cons v1 _ _ _ dv1 m2 =>
    cases m2
    have etd3 := same_delH _ _ etd
    obtain ⟨hvs, eh, lh, hsat⟩ := HL3.ex
    have hv0 : hvs[0]? = some (hvs[0]'(by omega)) := List.getElem?_eq_getElem _
    have hp0 : ps[0]? = some (ps[0]'(by omega)) := List.getElem?_eq_getElem _
    have dob := hs_dx T (hsat 0 _ _ hv0 hp0)
    generalize hvs[0]'(by omega) = hw at hv0 dob
    have hh := hd3.held
    have M : MkY G3 a _ [some (.ref a0), some (.ref a), some (.int (0 + ((i : Nat) : Int))), some (.ref D), o4, some (.ref h), some ov, some (.ref td), o8] (.list [d1, .none, .tuple [], .tuple [.str (Str.ofString "a")], listOf od, objD]) :=
      V4.mky_lst hh (V4.mkya_cons (mky_ixT (i := 7) (n := 1) rfl etd3 rfl (dx_of _ _ dv1)) (V4.mkya_cons (V4.mky_of hh (mkx_of mkn_non)) (V4.mkya_cons (V4.mky_tup hh V4.mkya_nil (Nat.zero_le _)) (V4.mkya_cons (V4.mky_tup hh (V4.mkya_cons (V4.mky_of hh (mkx_of (mkn_str (Str.ofString "a")))) V4.mkya_nil) (by show 1 ≤ 1000; decide))
        (V4.mkya_cons (mky_if (tA := tB (tCB (rIsi K) (tCons (tVar 6) (tCons (tC (.ty "tuple")) tNil)))) (ta := tCB (fun xs H Q => ∃ p ys, xs = [.ref p] ∧ (SqL K H p ys ∨ SqT K H p ys) ∧ ∀ l, H l = none → (l == sysModules) = false → Q (.ref l) (upd H l (.lst ys))) (tCons (tVar 6) tNil)) (tb := tLstS tNil) (b := isTup od)
          (fun H s Q q => isx_go (kx_tup od) (fun Q q => ⟨_, rfl, q⟩) (Dx.same ((same_del s).trans same_delH) _ _ dod3) ⟨_, rfl, q⟩)
          (fun e => by
            obtain ⟨ds, rfl⟩ := isTup_tup e
            exact V4.mky_listof hh (V4.mky_var dod3 rfl))
          (fun e => by
            have z : listOf od = .list [] := by
              cases od with
              | tuple ds => cases e
              | _ => rfl
            rw [z]
            exact V4.mky_lst hh V4.mkya_nil (Nat.zero_le _)))
        (V4.mkya_cons (mky_ixT (i := 5) (n := 0) rfl (same_delH _ _ eh) (atI_nat hv0) dob) V4.mkya_nil)))))) (by show 6 ≤ 1000; decide)
    refine ⟨_, rfl, M G3 (Same.refl _) _ fun v4 G4 s4 d4 => some_data (hand_same hd3 s4) d4 (.inl rfl) (by show 0 < 6; decide) (by show 6 < 1000; decide) fun G5 tv dth g5 md dw => ?_⟩
    have g35 := (Go.new hd3 s4).trans g5
    have tho : ThOk dth := by
      have ls : ∀ ds : List PyData, ThOk (.list ds) := fun ds => ⟨(fun _ z => nomatch z), (fun _ z => nomatch z)⟩
      simp only [List.mem_cons, List.not_mem_nil, or_false] at md
      rcases md with rfl | rfl | rfl | rfl | rfl | rfl
      · refine ⟨d1sh, fun ds e => ?_⟩
        obtain ⟨row, er, ro⟩ := d1row ds e
        rw [er] at e
        cases e
        have := ro.len
        refine ⟨by rw [List.length_map]; omega, fun y hy => ?_⟩
        obtain ⟨x, hx, rfl⟩ := List.mem_map.mp hy
        exact ⟨x, rfl, ro.ws x hx⟩
      · exact ⟨(fun _ z => nomatch z), (fun _ z => nomatch z)⟩
      · exact ⟨fun ds e x hx => by cases e; exact absurd hx List.not_mem_nil, fun ds e => by cases e; exact ⟨Nat.zero_le _, fun y hy => absurd hy List.not_mem_nil⟩⟩
      · refine ⟨fun ds e x hx => ?_, fun ds e => ?_⟩
        · cases e
          rw [List.mem_singleton.mp hx]
          show (Str.ofString "a").length ≤ 10000
          decide
        · cases e
          exact ⟨by show 1 ≤ 900; decide, fun y hy => ⟨_, List.mem_singleton.mp hy, w_a⟩⟩
      · cases od <;> exact ls _
      · exact ⟨(fun _ z => nomatch z), (fun _ z => nomatch z)⟩
    clear md M dob hv0 hp0 hsat eh lh HL3
    have g5' := g3.trans g35
    have etd5 := g35.sm _ _ etd
    have dv5 := Dq.same g35.sm _ _ dv1
    have dod5 := Dx.same g35.sm _ _ dod3
    have dw5 : Dx G5 tv dth := Dx.same same_delH _ _ dw
    have HL5 := (HL.same g5'.sm).same same_delH
    clear g35 g5 s4 d4 etd3 etd dv1 dta g3 hd3 hh dod3
    refine ⟨fun σ H' => ∃ td' DD', σ = [some (.ref a0), some (.ref a), some (.int (0 + ((i : Nat) : Int))), some (.ref D), o4, some (.ref h), some ov, some (.ref td'), some tv] ∧ Same G5 H' ∧ Dq H' (.ref td') DD' ∧ flatD 3 DD' = true ∧ CaseE ps od dth DD', ?_, ?_⟩
    · refine ⟨_, rfl, td, _, 0, _, rfl, rfl, st_of (same_delH _ _ etd5), rfl, rfl, _, rfl, ?_⟩
      rcases kcase with ⟨ne, _, ce⟩ | ⟨rfl, os, eo, e1, ro, tr, rfl⟩
      · rw [show decide (V.str kd = V.str (Str.ofString "told")) = false from decide_eq_false fun z => ne (V.str.inj z)]
        exact iteF ⟨td, _, rfl, Same.refl _, .tup (same_delH _ _ etd5) (.cons (.str _) (.cons (Dq.same same_delH _ _ dv5) .nil)), fl, ce dth⟩
      · rw [show decide (V.str (Str.ofString "told") = V.str (Str.ofString "told")) = true from decide_eq_true rfl]
        refine iteT ?_
        refine isx_go (kx_tup dth) (fun Q q => ⟨_, rfl, q⟩) dw5 ⟨_, rfl, ite2 (fun e => ?_) (fun e => ?_)⟩
        · obtain ⟨ds, rfl⟩ := isTup_tup e
          obtain ⟨l9, el⟩ := tho.tu ds rfl
          have plq : ∀ y ∈ ds, plain y = true ∧ SeqAt.shaped y = true := fun y hy => by
            obtain ⟨x, rfl, wx⟩ := el y hy
            exact ⟨by simp [V2.plain], str_shaped x wx⟩
          have pt : V2.plain (.tuple ds) = true := by
            rw [V2.plain]
            exact plainAll_of fun y hy => (plq y hy).1
          refine ⟨_, rfl, _, rfl, td, _, 1, _, rfl, rfl, st_of (same_delH _ _ etd5), rfl, tv, v1, ds, _, rfl, dq_of_dx _ _ pt dw5, Dq.same same_delH _ _ dv5, ro, plq, l9, fun b G6 ib s6 => ⟨(by show 2 ≤ sizeLine; decide), fun t nt => ?_⟩⟩
          have s7 := same_new (o := HO.tup [.str (Str.ofString "told"), .bl b]) nt
          exact ⟨t, toldD (.bool b), rfl, s6.trans s7, .tup upd_same (.cons (.str _) (.cons (.bl b) .nil)), flat3 rfl, .inr ⟨os, eo, e1, ro, .inl ⟨tr, by rw [due_row ro ib]⟩⟩⟩
        · refine ⟨(by show 2 ≤ sizeLine; decide), fun t nt => ?_⟩
          have z : rowD dth = false := by
            cases dth with
            | tuple ds => exact absurd rfl e
            | _ => rfl
          exact ⟨t, toldD (.bool false), rfl, same_new nt, .tup upd_same (.cons (.str _) (.cons (.bl _) .nil)), flat3 rfl, .inr ⟨os, eo, e1, ro, .inl ⟨tr, by rw [z, Bool.false_and]⟩⟩⟩
    rintro σ G6 ⟨td', DD', rfl, s6, dtd', fl', ce⟩
    have g6 := g5'.trans (Go.new g5'.hd s6)
    have last : ∀ G, Same G6 G → Go a H11 G := fun G s => g6.trans (Go.new g6.hd s)
    refine ⟨_, rfl, _, rfl, _, rfl, .inr (.inr (.inr ⟨h, ov, ps, od, tv, dth, rfl, HL5.same s6, pok, Dx.same (same_delH.trans s6) _ _ dod5, Dx.same s6 _ _ dw5, tho.sh, fun e H' t s dq => ?_, fun os eo e1 ro => ⟨fun tr H' t s dq => ?_, fun tr H' t s dq => ?_⟩⟩))⟩
    · have eD : orderN = DD' := by
        rcases ce with ⟨_, rfl⟩ | ⟨os, _, e1, _⟩
        · rfl
        · rw [e] at e1
          cases e1
      exact ⟨_, rfl, _, _, DD', rfl, by rw [← eD]; exact dq, Dq.same s _ _ dtd', fl', fun G s' => ⟨true, rfl, iteF ⟨last G (s.trans s'), _, _, _, _, rfl⟩⟩⟩
    · have eD : toldD (.bool (rowD dth && decide (txOf dth = (talk3 ps os []).1))) = DD' := by
        rcases ce with ⟨e, _⟩ | ⟨os', eo', _, _, cs⟩
        · rw [e] at e1
          cases e1
        · obtain rfl := ints_inj (eo.symm.trans eo')
          rcases cs with ⟨_, rfl⟩ | ⟨tr', _⟩
          · rfl
          · rw [tr] at tr'
            cases tr'
      exact ⟨_, rfl, _, _, DD', rfl, by rw [← eD]; exact dq, Dq.same s _ _ dtd', fl', fun G s' => ⟨true, rfl, iteF ⟨last G (s.trans s'), _, _, _, _, rfl⟩⟩⟩
    · have eD : houseD (mkR (talk3 ps os []).1) = DD' := by
        rcases ce with ⟨e, _⟩ | ⟨os', eo', _, _, cs⟩
        · rw [e] at e1
          cases e1
        · obtain rfl := ints_inj (eo.symm.trans eo')
          rcases cs with ⟨tr', _⟩ | ⟨_, rfl⟩
          · rw [tr] at tr'
            cases tr'
          · rfl
      exact ⟨_, rfl, _, _, DD', rfl, by rw [← eD]; exact dq, Dq.same s _ _ dtd', fl', fun G s' => ⟨true, rfl, iteF ⟨last G (s.trans s'), _, _, _, _, rfl⟩⟩⟩
  rintro σ G0 ⟨g0, o2, o6, o7, o8, rfl⟩
  exact hQ _
end
end K03

set_option maxHeartbeats 0
open PySem PySem.W PySem.Calls PyProof.Rows
theorem PySem.Challenge.cw_turnedtalk_k03_talks_refused_holds : PySem.Challenge.rw_turnedtalk_k03_talks_refused.Holds := by
  w_on; o_law
  refine HandSHeadRun.head_any (r := OpenLaw.row PySem.Challenge.rw_turnedtalk_k03_talks_refused) (q := view (OpenLaw.row PySem.Challenge.rw_turnedtalk_k03_talks_refused).prog [63]) (H := K03.hk) (ob := K03.ob) (M := 60000) (loose := K03.names)
    (d := HandSHeadRun.topDef (OpenLaw.row PySem.Challenge.rw_turnedtalk_k03_talks_refused).prog 63) (kwd := []) K03.ob_eq
    (by kernel_rfl) (fun s => by kernel_rfl) K03.run (by kernel_rfl) (by kernel_rfl) (by kernel_rfl) (by rfl) (by first | assumption | decide +kernel) (by decide +kernel) ⟨rfl, rfl, rfl, rfl, rfl, by decide +kernel⟩ ?hw ?hc
  case hw => w_witness2
  case hc =>
    refine V4.walk_lawT (l := PySem.Challenge.rw_turnedtalk_k03_talks_refused) (n := 63) (x := "script") rfl (by decide) (by kernel_rfl) ?F
    intro w mg fa h Y G hmg0
    obtain ⟨K, KX, c, ex, hh, tabs⟩ := Y
    have hmg : mg ("law" : PySem.Str) = some (.ref fa) := by
      have e : (HandSHeadRun.topDef (OpenLaw.row PySem.Challenge.rw_turnedtalk_k03_talks_refused).prog 63).name = ("law" : PySem.Str) := by kernel_rfl
      rw [← e]
      exact hmg0
    have T : K03.Tx K w mg := ⟨c, K03.exB_1 (K03.exB_2 ex), K03.forms_at ex hh, fun H => K03.BARE_at ex H, fun x hx => K03.lam_at (K03.exB_2 ex) hx, K03.tabs_nd (K03.exB_2 ex), h, KX, G⟩
    cases hmg.symm.trans (T.glo 57 rfl)
    letI : V3.CurK := ⟨K⟩
    obtain ⟨fd, ok, bind⟩ := K03.ok_law (P := (PySem.Challenge.rw_turnedtalk_k03_talks_refused).prog) (w := w) T
    refine ⟨K, fd, K03.spLaw K, K03.lamN.map fun x => V4.pairOf K (He.ga K x), KX, fun p hp => ?_, fun p hp => ?_, fun p hp => ?_, bind, fun H a ns hl ht hS => ⟨a, ns, rfl, hS, hl, fun p hp => ?_, fun _ => rfl⟩, fun base _ _ hb => ok base fun x hx => hb _ (List.mem_map.mpr ⟨x, hx, rfl⟩)⟩
    · obtain ⟨x, hx, rfl⟩ := List.mem_map.mp hp
      exact tabs x hx
    · obtain ⟨x, hx, rfl⟩ := List.mem_map.mp hp
      exact (T.lam x hx).off
    · obtain ⟨x, hx, rfl⟩ := List.mem_map.mp hp
      exact (T.lam x hx).hd _ KX
    · obtain rfl := List.mem_singleton.mp hp
      exact LamX.TabS.nil (ht _ (List.mem_map.mpr ⟨"_law_house", by decide, rfl⟩))

