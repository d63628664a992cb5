import PyProof.Rows.All
import Wide.All
import OpenK.AllK
import Wide.FinOn
import KE.KStateDown
import HandS.ForMost
import HandS.Exc
import HandS.ExcInit
import HandS.ExcField
import HandS.ExcIs
import HandS.ExcValue
import HandS.IsInst
import HandS.Defaults
import HandS.TryMany
import HandS.Wide
import PyProof.ReprRoads
import KE.KExcIs
import HandS.HeadEnd
import HandS.HeadHook1
import HandS.HeadHook2
import HandS.Evl
import HandS.ExcOwn
import HandS.WordsExc
import KE.GoesEnum
import HandS.Walk
import HandS.Deep
import HandS.OwnEq
import HandS.Codes
import HandS.Small
import PyProof.AutoSeq1
import HandS.TupLe
import HandS.Lambda
import HandS.EndTab
import HandS.Head2
import HandS.SetFor
import PyProof.StrBlock2
import HandS.Style
import HandS.TupMul
import HandS.TupAny
import HandS.Dict
import HandS.More
import HandS.DictComp
import HandS.SortOrd
import KE.KSortTupAny
import HandS.Nested
import KE.KLam
import HandS.ReplaceLit
import HandS.ReplaceDef
import KE.KRevSl
import HandS.Text
import HandS.Head0
import HandS.Head1
import HandS.StrMore
import HandS.Conv
import HandS.Zip
import PyProof.EqKinds
import HandS.Star
import KE.GoesEnumKw
import HandS.SortKw
import HandS.Flt
import PySem.Challenge.RW_turnedtalk_k07_programs_judged
set_option Elab.async false
set_option linter.all false
set_option maxRecDepth 100000
set_option maxHeartbeats 4000000
/-! V1: data with dicts, repr -/
namespace V1
open PySem PySem.Spec PyProof.Rows L2
def keyD : Key → PyData
  | .inl i => .int i
  | .inr x => .str x
mutual
/-- a value of the abstract heap is this data: scalars, tracked lists, tuples, dicts -/
inductive Dq (H : Hp) : V → PyData → Prop
  | non : Dq H .non .none
  | bl (b : Bool) : Dq H (.bl b) (.bool b)
  | int (i : Int) : Dq H (.int i) (.int i)
  | str (x : Str) : Dq H (.str x) (.str x)
  | lst {a : Addr} {xs : List V} {ds : List PyData} (at_ : H a = some (.lst xs)) (low : (a == sysModules) = false) (rest : DqAll H xs ds) : Dq H (.ref a) (.list ds)
  | tup {a : Addr} {xs : List V} {ds : List PyData} (at_ : H a = some (.tup xs)) (rest : DqAll H xs ds) : Dq H (.ref a) (.tuple ds)
  | dct {a : Addr} {kvs : List (Key × V)} {ds : List (PyData × PyData)} (at_ : H a = some (.dK kvs)) (rest : DqKv H kvs ds) : Dq H (.ref a) (.dict ds)
inductive DqAll (H : Hp) : List V → List PyData → Prop
  | nil : DqAll H [] []
  | cons {v : V} {vs : List V} {d : PyData} {ds : List PyData} (one : Dq H v d) (more : DqAll H vs ds) : DqAll H (v :: vs) (d :: ds)
inductive DqKv (H : Hp) : List (Key × V) → List (PyData × PyData) → Prop
  | nil : DqKv H [] []
  | cons {k : Key} {v : V} {kvs : List (Key × V)} {d : PyData} {ds : List (PyData × PyData)} (one : Dq H v d) (more : DqKv H kvs ds) : DqKv H ((k, v) :: kvs) ((keyD k, d) :: ds)
end
section
variable {H H' : Hp}
mutual
theorem Dq.same (e : Same H H') : ∀ (d : PyData) (v : V), Dq H v d → Dq H' v d
  | .none, _, h => by cases h; exact .non
  | .bool b, _, h => by cases h; exact .bl b
  | .int i, _, h => by cases h; exact .int i
  | .str x, _, h => by cases h; exact .str x
  | .list ds, _, h => by
    cases h with
    | lst at_ low rest => exact .lst (e _ _ at_) low (DqAll.same e ds _ rest)
  | .tuple ds, _, h => by
    cases h with
    | tup at_ rest => exact .tup (e _ _ at_) (DqAll.same e ds _ rest)
  | .dict ds, _, h => by
    cases h with
    | dct at_ rest => exact .dct (e _ _ at_) (DqKv.same e ds _ rest)
theorem DqAll.same (e : Same H H') : ∀ (ds : List PyData) (vs : List V), DqAll H vs ds → DqAll H' vs ds
  | [], _, h => by cases h; exact .nil
  | d :: ds, _, h => by
    cases h with
    | cons one more => exact .cons (Dq.same e d _ one) (DqAll.same e ds _ more)
theorem DqKv.same (e : Same H H') : ∀ (ds : List (PyData × PyData)) (kvs : List (Key × V)), DqKv H kvs ds → DqKv H' kvs ds
  | [], _, h => by cases h; exact .nil
  | (k, d) :: ds, _, h => by
    cases h with
    | cons one more => exact .cons (Dq.same e d _ one) (DqKv.same e ds _ more)
end
end
section
variable {X : Cx} {pins : List (Addr × Obj)} {σ : L2.St} {H : Hp} {s : Shared}
theorem key_reads {h : Heap} {k : Key} {u : Value} (e : keyIs k u = true) : Reads h u (keyD k) [] := by
  rcases keyIs_shape e with ⟨i, t, rfl, rfl⟩ | ⟨x, t, rfl, rfl⟩
  · exact .int i t
  · exact .str x t
theorem keys_read {P : Program} {w : World} {h : Heap} {H : Hp} : ∀ {es : List DictEntry} {us : List (Key × Value)} {kvs : List (Key × V)} {ds : List (PyData × PyData)}, Pairs (mixKind P w) es us → KV kvs us → DqKv H kvs ds →
    ReadsAll h (es.map (·.key)) (ds.map (·.1)) []
  | _, _, _, _, .nil, r, q => by
    cases r
    cases q
    exact .nil
  | _, _, _, _, .cons he hv more, r, q => by
    cases r with
    | cons r1 r2 =>
      cases q with
      | cons one more' =>
        have z := r1.1
        dsimp only at z
        have h1 := key_reads (h := h) he
        rw [← z] at h1
        exact .cons h1 (keys_read more r2 more')
mutual
theorem Dq.reads (I : Inv X pins σ H s) : ∀ (d : PyData) (v : V) (u : Value), Dq H v d → RelV v u → ∃ as, Reads s.heap u d as ∧ sysModules ∉ as
  | .none, _, _, h, r => by
    cases h
    cases r
    exact ⟨_, .none, List.not_mem_nil⟩
  | .bool b, _, _, h, r => by
    cases h
    cases r
    exact ⟨_, .bool b, List.not_mem_nil⟩
  | .int i, _, _, h, r => by
    cases h
    obtain ⟨t, rfl⟩ := r
    exact ⟨_, .int i t, List.not_mem_nil⟩
  | .str x, _, _, h, r => by
    cases h
    obtain ⟨t, rfl⟩ := r
    exact ⟨_, .str x t, List.not_mem_nil⟩
  | .list ds, _, _, h, r => by
    cases h with
    | lst at_ low rest =>
      cases r
      obtain ⟨_, its, n, rv, ho⟩ := I.hok _ _ at_
      obtain ⟨as, hr, hno⟩ := DqAll.reads I ds _ its rest rv
      refine ⟨_, Reads.list (vs := its.toArray) ho rfl rfl hr, fun hm => ?_⟩
      rcases List.mem_cons.mp hm with e | hm
      · rw [← e] at low
        exact absurd low (by decide)
      · exact hno hm
  | .tuple ds, _, _, h, r => by
    cases h with
    | tup at_ rest =>
      cases r
      obtain ⟨_, its, rv, o, ho, hc, n, hd⟩ := I.hok _ _ at_
      obtain ⟨as, hr, hno⟩ := DqAll.reads I ds _ its rest rv
      exact ⟨_, Reads.tuple ho hc hd hr, hno⟩
  | .dict ds, _, _, h, r => by
    cases h with
    | dct at_ rest =>
      cases r
      obtain ⟨_, low, us, rkv, o, es, ep, ho, hx, hd, _, hp, _⟩ := I.hok _ _ at_
      obtain ⟨as, hr, hno⟩ := DqKv.reads I ds _ us es.toList rest rkv hp
      have hk := keys_read (h := s.heap) hp rkv rest
      refine ⟨_, Reads.dict ho hx.1 hd hk hr, fun hm => ?_⟩
      rcases List.mem_cons.mp hm with e | hm
      · rw [← e] at low
        exact absurd low (by decide)
      · exact hno (by simpa using hm)
theorem DqAll.reads (I : Inv X pins σ H s) : ∀ (ds : List PyData) (vs : List V) (us : List Value), DqAll H vs ds → Vals vs us → ∃ as, ReadsAll s.heap us ds as ∧ sysModules ∉ as
  | [], _, _, h, r => by
    cases h
    cases r
    exact ⟨_, .nil, List.not_mem_nil⟩
  | d :: ds, _, _, h, r => by
    cases h with
    | cons one more =>
      cases r with
      | cons r1 r2 =>
        obtain ⟨as, q1, n1⟩ := Dq.reads I d _ _ one r1
        obtain ⟨bs, q2, n2⟩ := DqAll.reads I ds _ _ more r2
        refine ⟨_, .cons q1 q2, fun hm => ?_⟩
        rcases List.mem_append.mp hm with z | z
        · exact n1 z
        · exact n2 z
theorem DqKv.reads (I : Inv X pins σ H s) : ∀ (ds : List (PyData × PyData)) (kvs : List (Key × V)) (us : List (Key × Value)) (es : List DictEntry), DqKv H kvs ds → KV kvs us → Pairs (mixKind X.prog X.w) es us →
    ∃ as, ReadsAll s.heap (es.map (·.val)) (ds.map (·.2)) as ∧ sysModules ∉ as
  | [], _, _, _, h, r, p => by
    cases h
    cases r
    cases p
    exact ⟨_, .nil, List.not_mem_nil⟩
  | (k, d) :: ds, _, _, _, h, r, p => by
    cases h with
    | cons one more =>
      cases r with
      | cons r1 r2 =>
        cases p with
        | cons he hv hp =>
          have r3 := r1.2
          dsimp only at r3
          rw [← hv] at r3
          obtain ⟨as, q1, n1⟩ := Dq.reads I d _ _ one r3
          obtain ⟨bs, q2, n2⟩ := DqKv.reads I ds _ _ _ more r2 hp
          refine ⟨_, .cons q1 q2, fun hm => ?_⟩
          rcases List.mem_append.mp hm with z | z
          · exact n1 z
          · exact n2 z
end
end
/-! ### repr(x), x data; nothing is being shown meanwhile (gd) -/
section
variable {X : Cx}
theorem call_repr (gd : X.A.guards = some []) (hu : X.A.units + 64 < cLine) :
    CallR X (.builtin "repr") (fun xs H Q => ∃ (v : V) (d : PyData), xs = [v] ∧ Dq H v d ∧ d.showable = true ∧ d.depth ≤ 60 ∧ d.shown.length ≤ sizeLine ∧ Q (.str d.shown) H) := by
  intro pins s σ H xs us Q I r h
  obtain ⟨v, d, rfl, hd, hs, hn, hz, q⟩ := h
  cases r with
  | @cons _ u _ _ ru rn =>
    cases rn
    obtain ⟨as, hr, hno⟩ := Dq.reads I d v u hd ru
    have fin : ∀ h' (t : Tok) tk, (∀ b o, s.heap.get? b = some o → h'.get? b = some o) → EP X pins σ Q (.str d.shown t) { s with heap := h', toks := tk } :=
      fun h' t tk k => ⟨.str d.shown, H, I.kept k, ⟨_, rfl⟩, q⟩
    cases hr with
    | none => exact PySem.P.repr_of_none (fin s.heap _ _ fun _ _ z => z)
    | bool b => exact PySem.P.repr_of_bool (fin s.heap _ _ fun _ _ z => z)
    | int i t => exact PySem.P.repr_of_int (of_decide_eq_true (by simpa [PyData.showable] using hs)) (fin s.heap _ _ fun _ _ z => z)
    | str x t => exact PySem.P.repr_of_str (fin s.heap _ _ fun _ _ z => z) (by simpa [PyData.shown] using hz)
    | list h1 h2 h3 h4 => exact repr_of_reads' (.list h1 h2 h3 h4) hs (fun _ => hno) gd (by omega) (fun _ _ z => z) fin hz
    | tuple h1 h2 h3 h4 => exact repr_of_reads' (.tuple h1 h2 h3 h4) hs (fun _ => hno) gd (by omega) (fun _ _ z => z) fin hz
    | dict h1 h2 h3 h4 h5 => exact repr_of_reads' (.dict h1 h2 h3 h4 h5) hs (fun _ => hno) gd (by omega) (fun _ _ z => z) fin hz
end
end V1

set_option maxHeartbeats 4000000
/-! V1: exceptions as values: made, asked for their class, their field read -/
namespace V1
open PySem PySem.Spec PyProof.Rows L2
def veB : List Value := [.type "ValueError", .type "Exception", .type "BaseException", .type "object"]
/-- the object at C is an exception class over ValueError's maker, its further bases bm -/
def clsB (K : PySem.W.Frag) (C : Addr) (bm : List Value) : Bool := match K.lookup C with
  | some ⟨.type "type", _, .cls cd, sl⟩ => (match sl.toList with
    | [_, _, _, _, some (.builtin n), _] => decide (cd.mro = .ref C :: bm) && (n == "ValueError.__new__" && (cd.hasDict && (!cd.hasDel)))
    | _ => false)
  | _ => false
def oexB (K : PySem.W.Frag) (C : Addr) (bm : List Value) : Bool :=
  clsB K C bm && (decide (PySem.W.findIn K (.ref C) "__setattr__" = some (some (.builtin "object.__setattr__"))) &&
    (decide (PySem.W.findIn K (.ref C) "__getattribute__" = some (some (.builtin "BaseException.__getattribute__"))) &&
      (decide (PySem.W.findIn K (.ref C) "__getattr__" = some none) && (decide (PySem.W.findIn K (.ref C) "__class__" = some (some (.builtin "object.__class__"))) && PySem.W.keepIn K (.ref C)))))
/-- what isinstance asks of object.__class__ -/
def clsAttrB (K : PySem.W.Frag) : Bool := decide (PySem.W.specialIn K (.builtin "object.__class__") "__get__" = some (some (.builtin "getset_descriptor.__get__"))) && decide (PySem.W.takesIn K (.builtin "object.__class__") = some true)
structure ExK (K : PySem.W.Frag) (C : Addr) (bm : List Value) : Prop where
  cls : ∃ nm q N bs sn sub ab col dd k0 k1 k2 k3 k5, K.lookup C = some (excClassObj nm q C N bs bm true sn sub ab col dd k0 k1 k2 k3 k5 "ValueError.__new__")
  sa : PySem.W.findIn K (.ref C) "__setattr__" = some (some (.builtin "object.__setattr__"))
  ga : PySem.W.findIn K (.ref C) "__getattribute__" = some (some (.builtin "BaseException.__getattribute__"))
  gg : PySem.W.findIn K (.ref C) "__getattr__" = some none
  cl : PySem.W.findIn K (.ref C) "__class__" = some (some (.builtin "object.__class__"))
  kp : PySem.W.keepIn K (.ref C) = true
structure ClsAttr (K : PySem.W.Frag) : Prop where
  gs : PySem.W.specialIn K (.builtin "object.__class__") "__get__" = some (some (.builtin "getset_descriptor.__get__"))
  tk : PySem.W.takesIn K (.builtin "object.__class__") = some true
theorem clsAttr_of {K : PySem.W.Frag} (h : clsAttrB K = true) : ClsAttr K := ⟨of_decide_eq_true (Bool.and_eq_true_iff.mp h).1, of_decide_eq_true (Bool.and_eq_true_iff.mp h).2⟩
theorem exK_of {K : PySem.W.Frag} {C : Addr} {bm : List Value} (h : oexB K C bm = true) : ExK K C bm := by
  unfold oexB at h
  simp only [Bool.and_eq_true, decide_eq_true_eq] at h
  obtain ⟨h1, h2, h3, h4, h5, h6⟩ := h
  refine ⟨?_, h2, h3, h4, h5, h6⟩
  unfold clsB at h1
  split at h1
  · rename_i dd cd sl lk
    split at h1
    · rename_i k0 k1 k2 k3 n k5 hs
      simp only [Bool.and_eq_true, decide_eq_true_eq, beq_iff_eq, Bool.not_eq_true'] at h1
      obtain ⟨g1, g2, g3, g4⟩ := h1
      obtain ⟨nm, bs, mro, ns, qn, hd, sn, sb, ab, col, del⟩ := cd
      dsimp only at g1 g3 g4
      subst g1 g2 g3 g4
      obtain ⟨sl⟩ := sl
      dsimp only at hs
      subst hs
      exact ⟨nm, qn, ns, bs, sn, sb, ab, col, dd, k0, k1, k2, k3, k5, lk⟩
    · cases h1
  · cases h1
section
variable {K : PySem.W.Frag} {C D : Addr} {bm : List Value}
theorem ExK.clsIn (T : ExK K C bm) : ∃ cd, PySem.W.clsIn K C = some cd ∧ cd.mro = .ref C :: bm ∧ cd.hasDict = true := by
  obtain ⟨nm, q, N, bs, sn, sub, ab, col, dd, k0, k1, k2, k3, k5, e⟩ := T.cls
  unfold PySem.W.clsIn
  rw [e]
  exact ⟨_, rfl, rfl, rfl⟩
theorem ExK.isCls (T : ExK K C bm) : (PySem.W.clsIn K C).isSome = true := by
  obtain ⟨cd, e, _⟩ := T.clsIn
  rw [e] <;> rfl
theorem ExK.hasDict (T : ExK K C bm) : PySem.W.hasDictIn K C = true := by
  obtain ⟨cd, e, _, h⟩ := T.clsIn
  unfold PySem.W.hasDictIn
  rw [e]
  simpa using h
theorem ExK.ty (T : ExK K C bm) : PySem.W.typeIn K (.ref C) = some (.type "type") := by
  obtain ⟨nm, q, N, bs, sn, sub, ab, col, dd, k0, k1, k2, k3, k5, e⟩ := T.cls
  show (K.lookup C).map (·.cls) = _
  rw [e] <;> rfl
theorem ExK.mro (T : ExK K C bm) (v : Value) : PySem.W.mroIn K C v = some ((Value.ref C :: bm).contains v) := by
  obtain ⟨cd, e, h, _⟩ := T.clsIn
  unfold PySem.W.mroIn
  rw [e, Option.bind_some, h] <;> rfl
theorem ExK.sub (T : ExK K C bm) (v : Value) : PySem.W.subIn K (.ref C) v = some ((Value.ref C :: bm).contains v) := T.mro v
/-- isinstance of the class's objects -/
theorem ExK.kit (T : ExK K C bm) (T' : ExK K D bm') : PySem.W.kitOne K (.ref C) (.ref D) = some (decide (C = D) || bm.contains (.ref D)) := by
  unfold PySem.W.kitOne
  by_cases e : C = D
  · subst e
    rw [if_pos (by simp)]
    simp
  · have ne : ¬ ((Value.ref C == Value.ref D) = true) := by simpa using e
    rw [if_neg ne]
    show (if ((PySem.W.clsIn K D).isSome && PySem.W.typeIn K (.ref D) == some (.type "type")) = true then PySem.W.subIn K (.ref C) (.ref D) else none) = _
    rw [T'.isCls, T'.ty, if_pos (by simp), T.sub, List.contains_cons]
    have e2 : ¬ D = C := fun z => e z.symm
    simp [e, e2]
theorem ExK.kitT (T : ExK K C bm) {n : String} (hm : PySem.W.kitMeta n = true) : PySem.W.kitOne K (.ref C) (.type n) = some (bm.contains (.type n)) := by
  unfold PySem.W.kitOne
  rw [if_neg (show ¬ ((Value.ref C == Value.type n) = true) from by simp)]
  show (if PySem.W.kitMeta n = true then PySem.W.subIn K (.ref C) (.type n) else none) = _
  rw [if_pos hm, T.sub, List.contains_cons]
  simp
/-- an except clause's class -/
theorem ExK.exm (T : ExK K C bm) (T' : ExK K D bm') (hb : (Value.ref D :: bm').contains (.type "BaseException") = true) : PySem.W.exmOne K (.ref C) (.ref D) = some (decide (C = D) || bm.contains (.ref D)) := by
  have h1 : PySem.W.subIn K (.ref D) (.type "BaseException") = some true := by rw [T'.sub, hb]
  have h2 : PySem.W.subIn K (.ref C) (.ref D) = some (decide (C = D) || bm.contains (.ref D)) := by
    rw [T.sub, List.contains_cons]
    by_cases e : C = D
    · subst e; simp
    · have e2 : ¬ D = C := fun z => e z.symm
      simp [e, e2]
  exact PySem.W.exm_ref h1 T'.hasDict T'.ty h2
theorem ExK.oex (T : ExK K C bm) (hr : PySem.HandSPX.refsVE bm = true) (hb : (Value.ref C :: bm).contains (.type "BaseException") = true) : OexC K C := by
  obtain ⟨nm, q, N, bs, sn, sub, ab, col, dd, k0, k1, k2, k3, k5, e⟩ := T.cls
  exact ⟨⟨nm, q, N, bs, bm, sn, sub, ab, col, dd, k0, k1, k2, k3, k5, e, hr⟩, T.sa, by rw [T.sub, hb], T.ty, T.kp⟩
end
/-- at a stands an exception of the class at C; its own fields fs, if it has a dict of them -/
def IsEx (H : Hp) (a C : Addr) : Option (List (Str × V)) → Prop
  | none => H a = some (ExO (.ref C) a)
  | some fs => ∃ dx, H a = some (exo a C (some dx)) ∧ H dx = some (exd dx fs)
theorem IsEx.same {H H' : Hp} {a C : Addr} {o : Option (List (Str × V))} (e : Same H H') (h : IsEx H a C o) : IsEx H' a C o := by
  cases o with
  | none => exact e _ _ h
  | some fs =>
    obtain ⟨dx, h1, h2⟩ := h
    exact ⟨dx, e _ _ h1, e _ _ h2⟩
section
variable {X : Cx} {pins : List (Addr × Obj)} {σ : L2.St} {H : Hp} {s : Shared} {a C : Addr} {o : Option (List (Str × V))}
theorem IsEx.inst (I : Inv X pins σ H s) (h : IsEx H a C o) : ∃ oe od, PySem.W.InstAt s.heap a oe C od ∧ ∀ fs, o = some fs → ∃ (od' : Obj) (mA : Str → Option Value), od = some od' ∧ (∀ n, PySem.W.lookIn n od' = some (mA n)) ∧ ∀ f, RelO (fs.lookup f) (mA f) := by
  cases o with
  | none =>
    obtain ⟨⟨oe, vs, he, hz, hd, _⟩, _, _⟩ := I.hok a _ h
    refine ⟨oe, none, ⟨he, hz.1, by unfold PySem.W.notCls; rw [hd] <;> rfl, by rw [hz.2]; exact True.intro⟩, fun fs z => nomatch z⟩
  | some fs =>
    obtain ⟨dx, h1, h2⟩ := h
    obtain ⟨t1, he⟩ := exo_at I.hok h1
    obtain ⟨mA, hns, rel⟩ := exd_at I.hok h2
    obtain ⟨od, ho, hl⟩ := lookIn_ns hns
    refine ⟨_, some od, ⟨he, rfl, rfl, ho⟩, fun fs' z => ?_⟩
    cases z
    exact ⟨od, mA, rfl, fun n => hl n, rel⟩
end
/-! ### isinstance(e, c) -/
def rIsiX (K : PySem.W.Frag) : List V → Hp → VK → Prop := fun xs H Q => ∃ (a C : Addr) (o : Option (List (Str × V))) (bm : List Value) (c : V) (u : Value) (b : Bool), xs = [.ref a, c] ∧ IsEx H a C o ∧ ExK K C bm ∧ ClsAttr K ∧
  (Value.ref C :: bm).contains (.type "BaseException") = true ∧ (Value.ref C :: bm).contains (.type "object") = true ∧ ClsV c u ∧ PySem.W.kitOne K (.ref C) u = some b ∧ Q (.bl b) H
theorem call_isiX {X : Cx} : CallR X (.builtin "isinstance") (rIsiX X.K) := by
  intro pins s σ H xs us Q I r h
  obtain ⟨a, C, o, bm, c, u, b, rfl, hx, T, cA, hB, hO, k, e, q⟩ := h
  obtain ⟨w1, w2, rfl, r1, r2⟩ := vals2 r
  obtain rfl : w1 = Value.ref a := r1
  have e2 := k.eq r2
  subst e2
  obtain ⟨oe, od, J, _⟩ := hx.inst I
  exact PySem.W.kia_one (PySem.W.kitx_exc T.isCls T.ga T.gg (by rw [T.sub, hB]) T.cl cA.gs cA.tk (by rw [T.mro, hO])) I.kIn J e (fun z => nomatch z) fun tk => ⟨.bl b, H, I.tok tk, rfl, q⟩
/-! ### e.f of such -/
def tEf (K : PySem.W.Frag) (f : Str) (te : TE) : TE := fun σ H Q => te σ H fun x H1 => ∃ (a C : Addr) (fs : List (Str × V)) (bm : List Value) (v : V), x = .ref a ∧ IsEx H1 a C (some fs) ∧ ExK K C bm ∧ (Value.ref C :: bm).contains (.type "BaseException") = true ∧
  PySem.W.findIn K (.ref C) f = some none ∧ fs.lookup f = some v ∧ Q v H1
theorem pe_ef {X : Cx} {e : Expr} {te : TE} {pos : Pos} {n : Str} (he : PE X e te) (hb : attributeBase e n X.env (eval e X.env) = eval e X.env := by rfl) : PE X (.Attribute e n pos) (tEf X.K n te) := by
  refine ⟨fun pins s σ H Q I h => ?_⟩
  refine attr_of hb (thn (he.run pins s σ H _ I h) fun u s1 hh => ?_)
  obtain ⟨x, H1, J1, rx, a, C, fs, bm, v, rfl, hx, T, hB, hno, hl, q⟩ := hh
  obtain rfl : u = Value.ref a := rx
  obtain ⟨oe, od, J, hf⟩ := hx.inst J1
  obtain ⟨od', mA, rfl, look, rel⟩ := hf fs rfl
  obtain ⟨u, hu, ru⟩ := RelO.some_of (v := v) (o := mA n) (by rw [← hl]; exact rel n)
  exact HandSPX.exc_get J1.kIn J T.ga T.gg (by rw [T.sub, hB]) (PySem.W.findObj_own T.hasDict hno rfl (by rw [look, hu])) (handed_of ru) ⟨v, H1, J1.tok _, ru, q⟩
/-! ### C(e, ..) with an own __init__, kept as a value -/
def tMkV (C : Addr) (sp : Sp) (dvs : List V) (ta : TA) : TE := fun σ H Q => ta σ H fun vs H1 => vs.length ≤ 1000 ∧ ∀ a, H1 a = none → sp (.ref a :: (vs ++ dvs)) (upd H1 a (exo a C none)) (fun v H2 => v = .non ∧ Q (.ref a) H2) (fun _ _ _ => False)
theorem pe_mkV {X : Cx} {CX : CXT} {x : Str} {C fI : Addr} {k : Nat} {fd : FuncData} {ps : List Str} {sp : Sp} {ds : List Value} {dvs : List V} {e : Expr} {es : List Expr} {ta : TA} {p pos : Pos} (T : OexC X.K C)
    (iC : PySem.W.findIn X.K (.ref C) "__init__" = some (some (.ref fI))) (tI : PySem.W.typeIn X.K (.ref fI) = some (.type "function"))
    (F1 : FnOk X.prog X.w X.K X.mg X.base CX k fI fd ps sp) (hr : Room (k + 1) X.A) (hb : Binds X.K fd ps ds) (hd : Vals dvs ds) (hx : Passes CX X (fun _ _ _ => False)) (hg : Gl X x) (hm : X.mg x = some (.ref C)) (ha : PA X (e :: es) ta)
    (hdb : (x == ("__debug__" : Str)) = false := by decide) (he : starEach (e :: es) X.env = (false, eval e X.env) :: starEach es X.env := by rfl) (hpl : (backTo pos (starEach es X.env)).any (·.1) = false := by rfl) :
    PE X (.Call (.Name x p) (e :: es) [] pos) (tMkV C sp dvs ta) := by
  refine ⟨fun pins s σ H Q I h => ?_⟩
  obtain ⟨nm, q, N, bs, bm, sn, sub, ab, col, dd, k0, k1, k2, k3, k5, hC, hbm⟩ := T.cls
  refine wpAny_Call_Name_kw (ld_glob I hg hm ?_ hdb)
  refine PySem.W.callWith_K (h₀ := X.base) I.ok.mod.kin T.kC (thn (ha.run pos pins s σ H _ I h) fun us st hh => ⟨hh.choose_spec.choose_spec.1.kIn, ?_⟩) he hpl
  obtain ⟨vs, H1, J, rv, hz, qq⟩ := hh
  show wpAny _ _ (call (.ref C) us) _ _ _
  obtain ⟨hp, g, dr, tk, os⟩ := st
  let n := hp.objs.size
  have nn : H1 (n + 1) = none := J.hok.fresh (Nat.le_succ n)
  have go := qq (n + 1) nn
  let hp2 := (hp.push (PySem.W.kdv_tup us)).push (PySem.HandSPX.excO C n)
  have kk : ∀ b ob, hp.get? b = some ob → hp2.get? b = some ob := fun b ob z => Heap.get?_push_of_some _ (Heap.get?_push_of_some _ z)
  have top : hp2.get? (n + 1) = some (PySem.HandSPX.excO C n) := by
    show ((hp.push (PySem.W.kdv_tup us)).push (PySem.HandSPX.excO C hp.objs.size)).get? (hp.objs.size + 1) = _
    heap_get
  have J2 : Inv X pins σ (upd H1 (n + 1) (exo (n + 1) C none)) ⟨hp2, g, dr, tk, os⟩ := J.laid (t' := tk) (a := n + 1) (h' := hp2) kk (Nat.le_succ n) (exo_ok top)
  have rr : Vals (V.ref (n + 1) :: (vs ++ dvs)) (Value.ref (n + 1) :: (us ++ ds)) := .cons rfl (rv.append hd)
  have len : (Value.ref (n + 1) :: us ++ ds).length = ps.length := (rr.length.symm.trans (F1.len _ _ _ _ go))
  have short : us.length ≤ sizeLine := by
    have z := Paired.length rv
    rw [sizeLine_eq]
    omega
  refine wpAny_call (PySem.HandSPX.call_own F.excBase_ValueError (fun Y => PySem.HandSPX.refsVE_contains Y bm hbm) (J.kIn _ _ hC) (PySem.W.looks_findIn J.kIn iC) (fun self => PySem.W.bind_fn J.kIn self tI) short
    (codeAny_mono (F1.run _ X.stack _ _ ⟨Value.ref (n + 1) :: us, []⟩ (Value.ref (n + 1) :: (us ++ ds)) _ _ (fun _ _ _ => False) (hr.make C us []) (J2.env0.make C us []) (hb _ (Value.ref (n + 1) :: us) J2.kIn len) rr go) fun r s' hq => ?_))
  cases r with
  | error er => exact hx pins σ _ _ er s' J2 hq
  | ok fl =>
    cases fl with
    | ret u =>
      obtain ⟨v, H2, o2, b2, un2, ok2, rv2, ev, qv⟩ := hq
      subst ev
      refine ⟨rv2, .ref (n + 1), H2, ?_, rfl, qv⟩
      obtain ⟨h', g', d', t', os'⟩ := s'
      exact J.call' (ch := []) o2 (Un.trans (Un.laid kk (Nat.le_succ n) nn) un2) ok2 b2 (fun b z => absurd z (by simp))
    | next => exact False.elim hq
    | brk => exact False.elim hq
    | cont => exact False.elim hq
/-! ### C(), an own exception class without own __init__ -/
def tMk0 (C : Addr) : TE := fun _ H Q => ∀ a, H a = none → Q (.ref a) (upd H a (ExO (.ref C) a))
theorem pe_mk0 {X : Cx} {C : Addr} {bmB : List Value} {B newId initId : String} {x : Str} {p pos : Pos} (F : ExcBaseFacts B newId initId bmB) (q : PySem.W.excIn X.K C bmB newId = true) (gC : X.mg x = some (.ref C)) (kC : PySem.W.keepIn X.K (.ref C) = true) (hg : Gl X x)
    (hdb : (x == ("__debug__" : Str)) = false := by decide) : PE X (.Call (.Name x p) [] [] pos) (tMk0 C) := by
  refine ⟨fun pins s σ H Q I h => ?_⟩
  refine wpAny_Call_Name_kw (ld_glob I hg gC ?_ hdb)
  refine PySem.W.callWith_K0 I.kIn kC ?_
  obtain ⟨bm, N, nm, qn, bs, hdct, sn, sub, ab, col, dd, k0, k1, k2, k3, k5, mN, hC, hN, hni, T⟩ := exc_obj I.kIn q
  refine wpAny_call_exc_subT F T hC hN hni (fun h' a hm => ?_) (Nat.zero_le _)
  have hn : H a = none := I.hok.gone hm.new
  obtain ⟨t, ht, _, _⟩ := hm.there
  exact ⟨.ref a, _, I.laidN hm.keeps hm.new hn (exO_ok ht ⟨rfl, rfl⟩ rfl rfl rfl (show 4 < 6 by decide)), rfl, h a hn⟩
end V1

set_option maxHeartbeats 4000000
/-! V1: try with any number of except clauses, each with or without a name -/
namespace V1
open PySem PySem.Spec PyProof.Rows L2
/-- a clause: its class, the slot of its name if it has one, its suite's reading -/
abbrev Cl : Type := Value × Option Nat × (Addr → Value → Option Addr → TS)
/-- where a suite's ends lead once the clause's name is let go of -/
def offD (i : Nat) (D : Ends) : Ends := { nx := fun σ H => D.nx (σ.set i none) H, rt := D.rt, bk := fun σ H => D.bk (σ.set i none) H, ct := fun σ H => D.ct (σ.set i none) H }
def suiteD (D : Ends) (a : Addr) (cls : Value) (d : Option Addr) (ts : Addr → Value → Option Addr → TS) (σ : L2.St) (H : Hp) : Option Nat → Prop
  | none => ts a cls d D σ H
  | some i => ts a cls d (offD i D) (σ.set i (some (.ref a))) H
/-- what the clauses wish of an exception that leaves the body -/
def wCl (K : PySem.W.Frag) (Wout : WX) (D : Ends) : List Cl → WX
  | [] => Wout
  | (c, o, ts) :: more => fun cls d σ H => ∃ yes, PySem.W.exmOne K cls c = some yes ∧ (yes = true → ∀ a, H a = none → suiteD D a cls d ts σ H o) ∧ (yes = false → wCl K Wout D more cls d σ H)
inductive Hds (X : Cx) : List ExceptHandler → List Cl → Prop
  | nil : Hds X [] []
  | plain {x : Str} {c : Value} {ts : Addr → Value → Option Addr → TS} {st : Stmt} {sts : List Stmt} {p1 p2 : Pos} {hds : List ExceptHandler} {l : List Cl} (nm : Names X x c)
      (su : ∀ (a : Addr) (oe : Obj) (cls : Value) (d : Option Addr) (pn : List (Addr × Obj)), Zc cls d oe → (∃ vs, oe.data = .fields vs) → PSs (X.suite a ((a, oe) :: pn)) (st :: sts) (ts a cls d)) (more : Hds X hds l) :
      Hds X (.ExceptHandler (some (.Name x p1)) none (st :: sts) p2 :: hds) ((c, none, ts) :: l)
  | named {x n : Str} {i : Nat} {c : Value} {ts : Addr → Value → Option Addr → TS} {st : Stmt} {sts : List Stmt} {p1 p2 : Pos} {hds : List ExceptHandler} {l : List Cl} (at_ : X.N[i]? = some n) (loc : X.env.kindOf n = some .local) (nm : Names X x c)
      (su : ∀ (a : Addr) (oe : Obj) (cls : Value) (d : Option Addr) (pn : List (Addr × Obj)), Zc cls d oe → (∃ vs, oe.data = .fields vs) → PSs (X.suite a ((a, oe) :: pn)) (st :: sts) (ts a cls d)) (more : Hds X hds l) :
      Hds X (.ExceptHandler (some (.Name x p1)) (some n) (st :: sts) p2 :: hds) ((c, some i, ts) :: l)
/-- an exception of the body that was met: all that the clauses may lean on -/
theorem ps_try_cl {X : Cx} {body : List Stmt} {hd : ExceptHandler} {hds : List ExceptHandler} {l : List Cl} {pos : Pos} {tb : WX → TS} {Wout : WX} (stk : X.stack = X.env :: X.outer) (fr : X.env.frame = some X.env.locals) (nd : X.N.Nodup) (tk : Takes X Wout)
    (hb : ∀ (W : WX) (pn : List (Addr × Obj)) (xe : Value → Shared → Prop), Takes (X.tr pn xe) W → PassesOwn (model X.prog X.w) X.A X.env xe → PSs (X.tr pn xe) body (tb W))
    (cl : Hds X (hd :: hds) l) : PS X (.Try body (hd :: hds) [] [] pos) (fun D σ H => tb (wCl X.K Wout D l) D σ H) := by
  refine ⟨fun pins s σ H D I go => ?_⟩
  have ok := I.ok
  have frames : X.A.frames = some (X.env :: X.outer) := by
    rw [ok.frames, stk]
  refine wpAny_Try_except ?_
  refine wpAny_mono ((hb (wCl X.K Wout D l) (X.pn ++ pins) (fun e z1 => wpAny (model X.prog X.w) X.A (noteFrame e X.env)
    (fun _ z2 => wpAny (model X.prog X.w) X.A (setFlight e none) (fun _ z3 => wpAny (model X.prog X.w) X.A (handleBy e X.env (hd :: hds)) (SP X pins D) X.xe z3) X.xe z2) X.xe z1)
    (fun u sE met => ?_) PassesOwn.looking).run [] s σ H D (I.toTry _) go) (fun f s1 out => ?_) (fun _ _ he => he)
  · obtain ⟨a, B, sI, pins', σ', H', cls, d, rfl, J', nb, up, sky, na, os, ag, wish⟩ := met
    have J : Inv X pins σ' H' sI := J'.ofTry ok
    have air : Sky B (X.env :: X.outer) a (Zc cls d) X.env.locals sE.heap := by
      rw [← stk]
      exact sky
    show wpAny (model X.prog X.w) X.A (noteFrame (.ref a) X.env) _ _ _
    refine Sky.land Zc.steady frames fr air fun h3 fl up3 => ?_
    have J3 : Inv X pins σ' H' { sE with heap := h3 } := J.landed nb fl.1 (up.trans up3) os ag
    obtain ⟨oe, vs, there, zc, dat⟩ := fl.there
    have off : a ∉ frs (X.env :: X.outer) := fun hm => by
      obtain ⟨_, ob, eo, hnf⟩ := fl.2.2.1.mem hm
      rw [there] at eo
      cases eo
      exact hnf _ dat
    have offL : a ≠ X.env.locals := fun z => off (List.mem_filterMap.mpr ⟨X.env, List.mem_cons_self, by rw [fr, z]⟩)
    have offF : a ∉ X.fs := fun hm => by
      obtain ⟨en, hen, q⟩ := List.mem_filterMap.mp hm
      exact off (List.mem_filterMap.mpr ⟨en, List.mem_cons_of_mem _ hen, q⟩)
    have S3 := J3.suite there dat na offL offF
    -- one clause's test
    have ask : ∀ {x : Str} {c : Value} {p1 : Pos} {Q : Value → Shared → Prop} {E : Value → Shared → Prop}, Names X x c → Q c { sE with heap := h3 } →
        wpAny (model X.prog X.w) (X.A.mark (some (.ref a))) (eval (.Name x p1) X.env) Q E { sE with heap := h3 } := fun {x c p1 Q E} nm q => by
      obtain ⟨g, nodebug, m | ⟨m, bv, notname⟩⟩ := nm
      · exact ld_glob (X := X.suite a ((a, oe) :: (X.pn ++ pins))) S3 g m q nodebug
      · exact ld_blt (X := X.suite a ((a, oe) :: (X.pn ++ pins))) S3 g m bv q notname nodebug
    have typ : PySem.W.Looks (model X.prog X.w) h3 (typeOf (.ref a)) cls := fun _ _ _ z k q => wpAny_typeOf_ref (k _ _ there) (by rw [zc.1]; exact q)
    have through : ∀ {hs : List ExceptHandler} {ls : List Cl}, Hds X hs ls → wCl X.K Wout D ls cls d σ' H' →
        wpAny (model X.prog X.w) X.A (handleBy (.ref a) X.env hs) (SP X pins D) X.xe { sE with heap := h3 } := by
      intro hs ls hk
      induction hk with
      | nil =>
        intro w
        refine wpAny_handleBy_nil ?_
        obtain ⟨_, _, _, ob, us, T, _, _, e1, _, e3, e4, _⟩ := id fl
        unfold PySem.passOn
        refine wpAny_bind (wpAny_field e1 e3 e4 ?_)
        rw [if_neg (show ¬ ((Value.ref T == Value.none) = true) from by simp)]
        have last : wpAny (model X.prog X.w) X.A (setFlight (.ref a) X.env.frame) (fun _ z => wpAny (model X.prog X.w) X.A (throw (.ref a) : Sem Flow) (SP X pins D) X.xe z) X.xe { sE with heap := h3 } := by
          rw [fr]
          refine HandSPX.setFlight_upZ fl fun h4 held up4 => wpAny_throw (tk _ _ ?_)
          refine ⟨a, B, sI, pins, σ', H', cls, d, rfl, J, nb, (up.trans up3).trans up4, .inr (.inr ?_), na, os, ag, w⟩
          rw [stk]
          exact held
        first
          | exact wpAny_bind (wpAny_pure (wpAny_bind last))
          | exact wpAny_bind last
      | @plain x c ts st sts p1 p2 hs2 ls2 nm su more ih =>
        intro w
        obtain ⟨yes, hy, onYes, onNo⟩ := w
        refine wpAny_handleBy_cons (codeAny_handlers_test ?_) (by intro q; cases q)
        refine ask nm ((PySem.W.exm_one (M := model X.prog X.w) J3.kIn typ hy).here ?_)
        cases yes with
        | false => exact ih (onNo rfl)
        | true =>
          refine codeAny_handlers_suite ?_
          refine HandSPX.lands_againZ fl fun h4 fl4 up4 => ?_
          have J4 : Inv X pins σ' H' { sE with heap := h4 } := J.landed nb fl4.1 ((up.trans up3).trans up4) os ag
          obtain ⟨oe4, vs4, th4, zc4, dat4⟩ := fl4.there
          refine wpAny_mono ((su a oe4 cls d (X.pn ++ pins) zc4 ⟨_, dat4⟩).run [] _ _ H' _ (J4.suite th4 dat4 na offL offF) (onYes rfl a na)) (fun f s6 out => ?_) (fun _ _ z => False.elim z)
          cases f with
          | next => exact let ⟨_, _, S6, q6⟩ := out; ⟨_, _, S6.unsuite ok, q6⟩
          | brk => exact let ⟨_, _, S6, q6⟩ := out; ⟨_, _, S6.unsuite ok, q6⟩
          | cont => exact let ⟨_, _, S6, q6⟩ := out; ⟨_, _, S6.unsuite ok, q6⟩
          | ret u => exact let ⟨_, _, _, S6, r6, q6⟩ := out; ⟨_, _, _, S6.unsuite ok, r6, q6⟩
      | @named x n i c ts st sts p1 p2 hs2 ls2 at_ loc nm su more ih =>
        intro w
        obtain ⟨yes, hy, onYes, onNo⟩ := w
        refine wpAny_handleBy_cons (codeAny_handlers_test ?_) (by intro q; cases q)
        refine ask nm ((PySem.W.exm_one (M := model X.prog X.w) J3.kIn typ hy).here ?_)
        cases yes with
        | false => exact ih (onNo rfl)
        | true =>
          refine codeAny_handlers_suite_as ?_
          refine HandSPX.lands_againZ fl fun h4 fl4 up4 => ?_
          have J4 : Inv X pins σ' H' { sE with heap := h4 } := J.landed nb fl4.1 ((up.trans up3).trans up4) os ag
          obtain ⟨oe4, vs4, th4, zc4, dat4⟩ := fl4.there
          refine store_ok (X := X.suite a ((a, oe4) :: (X.pn ++ pins))) (v := .ref a) (J4.suite th4 dat4 na offL offF) nd at_ (.inl loc) rfl (fun s5 S5 => ?_) (.inr loc)
          refine wpAny_mono ((su a oe4 cls d (X.pn ++ pins) zc4 ⟨_, dat4⟩).run [] s5 _ H' _ S5 (onYes rfl a na)) (fun f s6 out => ?_) (fun _ _ z => False.elim z)
          have gone : ∀ {σ6 : L2.St} {H6 : Hp} {Q : Shared → Prop}, Inv (X.suite a ((a, oe4) :: (X.pn ++ pins))) [] σ6 H6 s6 → (∀ s7, Inv X pins (σ6.set i none) H6 s7 → Q s7) →
              wpAny (model X.prog X.w) X.A (do bindName X.env n .none; unbindBehindTheSuite X.env n p2) (fun _ s7 => Q s7) X.xe s6 := fun S6 hq => gone_ok (S6.unsuite ok) nd at_ loc hq
          cases f with
          | next => exact let ⟨_, _, S6, q6⟩ := out; gone S6 fun s7 J7 => ⟨_, _, J7, q6⟩
          | brk => exact let ⟨_, _, S6, q6⟩ := out; gone S6 fun s7 J7 => ⟨_, _, J7, q6⟩
          | cont => exact let ⟨_, _, S6, q6⟩ := out; gone S6 fun s7 J7 => ⟨_, _, J7, q6⟩
          | ret u => exact let ⟨_, _, _, S6, r6, q6⟩ := out; gone S6 fun s7 J7 => ⟨_, _, _, J7, r6, q6⟩
    exact through cl wish
  · cases f with
    | next => exact let ⟨_, _, J, q⟩ := out; wpAny_execs_nil ⟨_, _, J.ofTry ok, q⟩
    | brk => exact let ⟨_, _, J, q⟩ := out; ⟨_, _, J.ofTry ok, q⟩
    | cont => exact let ⟨_, _, J, q⟩ := out; ⟨_, _, J.ofTry ok, q⟩
    | ret u => exact let ⟨_, _, _, J, r, q⟩ := out; ⟨_, _, _, J.ofTry ok, r, q⟩
end V1

set_option maxHeartbeats 4000000
/-! V1: the law's own def, run at the caller of all (nothing is being shown there), and the end over a head by facts -/
namespace V1
open PySem PySem.Spec PyProof.Rows L2
section
variable {P : Program} {w : World} {K : PySem.W.Frag} {mg : Str → Option Value} {base : Heap} {k : Nat} {f : Addr} {fd : FuncData} {x : Str} {sp : Sp}
/-- the law's def keeps sp, called where nothing is being shown; nothing leaves it -/
def LawOk (P : Program) (w : World) (K : PySem.W.Frag) (mg : Str → Option Value) (base : Heap) (f : Addr) (fd : FuncData) (x : Str) (sp : Sp) : Prop :=
  ∀ (s : Shared) (H : Hp) (u : Value) (v : V) (Q : VK), Env0 P w K mg base callerA [] s H → BindsTo s fd ⟨[u], []⟩ [(x, u)] → RelV v u → sp [v] H Q (fun _ _ _ => False) →
    codeAny (model P w) callerA (.call (.ref f) ⟨[u], []⟩) (CR CX0 [] P w H s Q (fun _ _ _ => False)) s
theorem lawOk_of {name qual : Str} {params : Arguments} {body : List Stmt} {scope : Scope} {N : List Str} (F : FunD K name qual params body scope [] [] f fd) (S : FnScope N [x] scope)
    (room : Room (k + 1) callerA)
    (go : ∀ (cdv : Value) (s : Shared) (H : Hp) (v : V) (Q : VK), Room k (callerA.deeper (envOfC qual scope s.heap.objs.size f cdv)) → (callerA.deeper (envOfC qual scope s.heap.objs.size f cdv)).guards = some [] → sp [v] H Q (fun _ _ _ => False) →
      ∃ t, PSs (cxOf CX0 P w K mg base N qual scope f cdv callerA [] s H (fun _ _ _ => False)) body t ∧ t { nx := fun _ H' => Q .non H', rt := Q } (start N [v]) H) :
    LawOk P w K mg base f fd x sp := by
  intro s H u v Q e0 bind rv hs
  obtain ⟨oc, od, dV, kV, doc, pm, an, cdv, ct, osl, rfl, lk, cd, _, _⟩ := F.ex
  have inK : K.In s.heap := e0.mod.kin.keeps fun b o e => (e0.bs b o e).1
  have free : s.heap.NoLimit := e0.mod.nolimit.keeps fun b o e => (e0.bs b o e).1
  have kinds : ∀ y ∈ [(x, u)], scope.names.lookup y.1 = some .local ∨ (scope.names.lookup y.1 = some .cell ∧ ((cellsFrom (s.heap.objs.size + 1) scope.names []).lookup y.1).isSome = true) := by
    intro y hy
    obtain rfl := List.mem_singleton.mp hy
    rcases S.par x (List.mem_singleton.mpr rfl) with q | q
    · exact .inl q
    · exact .inr ⟨q, PySem.W.cellsFrom_some _ _ _ (.inl q)⟩
  refine codeAny_call_function room.depth (inK _ _ lk) rfl S.co S.gen rfl (PySem.W.codeRec_of inK cd) (bind _ _ _ _ ?_)
  refine wpAny_newFunctionEnv_cells S.kind kinds fun env he s1 z => ?_
  subst he
  refine ⟨free.keeps z.toInCall.keep, codeAny_func ?_⟩
  obtain ⟨t, ht, hq⟩ := go cdv s H v Q (room.deeper _) rfl hs
  have I : Inv (cxOf CX0 P w K mg base N qual scope f cdv callerA [] s H (fun _ _ _ => False)) [] (start N [v]) H s1 := inv_start (us := [u]) (ps := [x]) S room.hd e0 rfl (.cons rv .nil) z
  refine wpAny_mono (ht.run [] s1 _ H _ I hq) (fun fl s' out => ?_) fun _ _ z => z
  cases fl with
  | ret u' => exact let ⟨v', _, H', J, r', q⟩ := out; ⟨v', H', J.os, J.bare, J.base, J.hok, r', q⟩
  | next => exact let ⟨_, H', J, q⟩ := out; ⟨.non, H', J.os, J.bare, J.base, J.hok, rfl, q⟩
  | brk => exact let ⟨_, _, _, q⟩ := out; q.elim
  | cont => exact let ⟨_, _, _, q⟩ := out; q.elim
end
/-- from the state at the claim's call -/
theorem law_run {P : Program} {w : World} {K : PySem.W.Frag} {mg mb : Str → Option Value} {fa a : Addr} {fd : FuncData} {x : Str} {sp : Sp} {s : Shared} {vs : List Value} {ns : List Int}
    (KX : K.In s.heap) (gl : s.heap.Ns mainGlobals mg) (bl : s.heap.Ns builtinsNs mb) (boot : ∀ y : Str, y ≠ "__name__" → mb y = bootBuiltins y) (free : s.heap.NoLimit) (gens : s.gens = #[])
    (ha : s.heap.get? a = some { cls := .type "list", data := .seq vs.toArray }) (hints : IntsAre vs ns) (short : ns.length ≤ sizeLine)
    (F : ∀ base : Heap, K.In base → base.Ns mainGlobals mg → LawOk P w K mg base fa fd x sp) (bind : ∀ (s : Shared) (u : Value), BindsTo s fd ⟨[u], []⟩ [(x, u)])
    (hs : ∀ H : Hp, Only H → SqL K H a (ns.map V.int) → sp [.ref a] H (fun v _ => v = .bl true) (fun _ _ _ => False)) :
    codeAny (model P w) callerA (.call (.ref fa) ⟨[.ref a], []⟩) (fun r s' => r = .ok (.ret (.bool true)) ∧ OldK s.heap s'.heap ∧ s'.os = s.os ∧ AllBare s'.gens) s := by
  have rel := vals_ints hints
  have count := hints.length
  let ob : Obj := { cls := .type "list", data := .seq vs.toArray }
  have main : ∀ H : Hp, Only H → SqL K H a (ns.map V.int) → HOk P w H s.heap → (∀ b, H b ≠ none → b = a) → (H a ≠ none → K.lookup a = none) →
      codeAny (model P w) callerA (.call (.ref fa) ⟨[.ref a], []⟩) (fun r s' => r = .ok (.ret (.bool true)) ∧ OldK s.heap s'.heap ∧ s'.os = s.os ∧ AllBare s'.gens) s := by
    intro H only seq hok just notK
    let B := hidT s.heap H
    have noDict : ∀ {b : Addr} {o : Obj} {es : Array DictEntry} {ep : Nat}, s.heap.get? b = some o → o.data = .dict es ep → H b = none := fun {b o es ep} e d => by
      cases q : H b with
      | none => rfl
      | some _ =>
        obtain rfl : b = a := just b (by rw [q]; simp)
        rw [ha] at e
        cases e
        cases (show Data.seq vs.toArray _ = Data.dict es ep from d)
    have space : ∀ {b : Addr} {m : Str → Option Value}, s.heap.Ns b m → B.Ns b m := fun {b m} ⟨o, es, ep, e, d, r⟩ => ⟨o, es, ep, hidT_get e (noDict e d), d, r⟩
    have KB : K.In B := fun b o e => hidT_get (KX b o e) (by
      cases q : H b with
      | none => rfl
      | some _ =>
        obtain rfl : b = a := just b (by rw [q]; simp)
        rw [notK (by rw [q]; simp)] at e
        cases e)
    have M : Mod K mg B := ⟨KB, space gl, ⟨mb, space bl, boot⟩, let ⟨mc, h1, h2⟩ := free; ⟨mc, space h1, h2⟩⟩
    have e0 : Env0 P w K mg B callerA [] s H := ⟨rfl, M, fun b o e => of_hidT e, Nat.le_of_eq (hidT_size _ _), trivial, fun b hb => absurd (show b ∈ ([] : List Addr) from hb) List.not_mem_nil, hok, .of_eq gens⟩
    refine codeAny_mono (F B KB (space gl) s H (.ref a) (.ref a) _ e0 (bind s (.ref a)) rfl (hs H only seq)) fun r s' out => ?_
    cases r with
    | error e => exact False.elim out
    | ok fl =>
      cases fl with
      | next => exact False.elim out
      | brk => exact False.elim out
      | cont => exact False.elim out
      | ret u =>
        obtain ⟨v, H', os, bare, un, hok', rv, q⟩ := out
        obtain rfl : v = .bl true := q
        obtain rfl : u = Value.bool true := rv
        refine ⟨rfl, OldK.of_keep fun b o e => ?_, os, bare⟩
        cases q : H b with
        | none => exact un.keep b o e q (fun z => absurd (show b ∈ ([] : List Addr) from z) List.not_mem_nil) List.not_mem_nil
        | some _ =>
          rcases only b with z | ⟨o2, xs, z⟩
          · rw [q] at z
            cases z
          · obtain ⟨g1, _⟩ := hok b _ z
            obtain ⟨g2, _⟩ := hok' b _ (un.frzs b o2 _ z)
            rw [e] at g1
            cases g1
            exact g2
  cases lk : K.lookup a with
  | some o =>
    have e := KX a o lk
    rw [ha] at e
    cases e
    exact main (fun _ => none) (fun _ => .inl rfl) (.inr ⟨_, vs.toArray, _, lk, rfl, rfl, rfl, by rw [List.size_toArray, count]; exact short, by simpa using rel⟩) (fun b u z => nomatch (show (none : Option HO) = some u from z)) (fun b z => absurd rfl z) fun z => absurd rfl z
  | none =>
    let H1 : Hp := fun b => if b = a then some (.frz ob (.lst (ns.map V.int))) else none
    have atA : H1 a = some (.frz ob (.lst (ns.map V.int))) := if_pos rfl
    have offA : ∀ {b : Addr}, b ≠ a → H1 b = none := fun hb => if_neg hb
    refine main H1 (fun b => ?_) (.inl (.inr ⟨ob, atA⟩)) (fun b u z => ?_) (fun b z => ?_) fun _ => lk
    · by_cases hb : b = a
      · exact .inr ⟨_, _, by rw [hb]; exact atA⟩
      · exact .inl (offA hb)
    · by_cases hb : b = a
      · subst hb
        cases atA.symm.trans z
        exact ⟨ha, by rw [List.length_map]; exact short, vs, _, rel, ha⟩
      · exact nomatch (offA hb).symm.trans z
    · by_cases hb : b = a
      · exact hb
      · exact absurd (offA hb) z
theorem walk_law {l : PySem.W.OpenLaw} {n : Nat} {q : Program} {loose : List Str} {XP : (Str → Option Value) → Heap → Prop} {YP : World → Heap → Prop} {d : DefRec} {x : Str} (hn : l.most = some n) (hz : n ≤ sizeLine) (noDfl : d.params.defaults = [])
    (F : ∀ (w : World) (mg : Str → Option Value) (fa : Addr) (h : Heap), YP w h → h.Ns mainGlobals mg → mg d.name = some (.ref fa) → ∃ (K : PySem.W.Frag) (fd : FuncData) (sp : Sp), K.In h ∧ (∀ (s : Shared) (u : Value), BindsTo s fd ⟨[u], []⟩ [(x, u)]) ∧
      (∀ (H : Hp) (a : Addr) (ns : List Int), ns.length ≤ n → Only H → SqL K H a (ns.map V.int) → sp [.ref a] H (fun v _ => v = .bl true) fun _ _ _ => False) ∧
      ∀ base : Heap, K.In base → base.Ns mainGlobals mg → LawOk l.prog w K mg base fa fd x sp) :
    PySem.W.WalkO q loose XP YP l.row.toRowW d [] (fun f vs => PySem.call f vs) := by
  refine Att.attach_call hn noDfl fun w s₀ s₁ mg mb fa o pm cd doc a vs ns G Y ho hd hcd hmg hobj hints short gens => ?_
  obtain ⟨K, fd, sp, KX, bind, hs, hF⟩ := F w mg fa _ Y G.T.g hmg
  exact law_run KX G.T.g G.T.b G.T.builtins G.T.nolimit gens hobj hints (Nat.le_trans short hz) hF bind fun H only seq => hs H a ns short only seq
end V1

set_option maxHeartbeats 4000000
/-! V1e: what K00's files had in the namespace V1, for other laws -/
namespace V1
open PySem PySem.Spec PyProof.Rows L2
/-- the def that the module's name x stands for keeps sp -/
def Has (P : Program) (w : World) (K : PySem.W.Frag) (mg : Str → Option Value) (base : Heap) (CX : CXT) (k : Nat) (x : Str) (ps : List Str) (sp : Sp) : Prop :=
  ∃ fd, FnOk P w K mg base CX k (He.ga K x) fd ps sp ∧ Binds K fd ps [] ∧ PySem.W.keepIn K (.ref (He.ga K x)) = true ∧ mg x = some (.ref (He.ga K x))
theorem pe_has {X : Cx} {CX : CXT} {k : Nat} {x : Str} {ps : List Str} {sp : Sp} {E : XK} {e : Expr} {es : List Expr} {t : TA} {p pos : Pos} (h : Has X.prog X.w X.K X.mg X.base CX k x ps sp) (hr : Room k X.A) (hx : Passes CX X E) (ha : PA X (e :: es) t) (hg : Gl X x := by rfl)
    (hdb : (x == ("__debug__" : Str)) = false := by decide) (he : starEach (e :: es) X.env = (false, eval e X.env) :: starEach es X.env := by rfl) (hpl : (backTo pos (starEach es X.env)).any (·.1) = false := by rfl) :
    PE X (.Call (.Name x p) (e :: es) [] pos) (tCall sp [] E t) := by
  obtain ⟨fd, F, b, kp, g⟩ := h
  exact pe_call F hr hg g kp b .nil hx ha hdb he hpl
theorem pe_has0 {X : Cx} {CX : CXT} {k : Nat} {x : Str} {ps : List Str} {sp : Sp} {E : XK} {p pos : Pos} (h : Has X.prog X.w X.K X.mg X.base CX k x ps sp) (hr : Room k X.A) (hx : Passes CX X E) (hg : Gl X x := by rfl)
    (hdb : (x == ("__debug__" : Str)) = false := by decide) : PE X (.Call (.Name x p) [] [] pos) (tCall sp [] E tNil) := by
  obtain ⟨fd, F, b, kp, g⟩ := h
  exact pe_call0 F hr hg g kp b .nil hx hdb
theorem delH_upd {H : Hp} {a : Addr} {o : HO} : delH (upd H a o) a = delH H a := by
  funext b
  by_cases e : b = a
  · rw [e, delH_same, delH_same]
  · rw [delH_ne e, delH_ne e, upd_ne e]
theorem delH_updN {H : Hp} {a p : Addr} {o : HO} (h : p ≠ a) : delH (upd H p o) a = upd (delH H a) p o := by
  funext b
  by_cases e : b = a
  · rw [e, delH_same, upd_ne (Ne.symm h), delH_same]
  · rw [delH_ne e]
    by_cases z : b = p
    · rw [z, upd_same, upd_same]
    · rw [upd_ne z, upd_ne z, delH_ne e]
theorem same_new {H : Hp} {p : Addr} {o : HO} (h : H p = none) : Same H (upd H p o) := fun b x e => by
  rw [upd_ne (ne_of_none e h)]
  exact e
theorem same_delH {H : Hp} {a : Addr} : Same (delH H a) H := fun b o e => by
  by_cases z : b = a
  · rw [z, delH_same] at e
    cases e
  · rw [delH_ne z] at e
    exact e
theorem same_del {H H' : Hp} {a : Addr} (h : Same H H') : Same (delH H a) (delH H' a) := fun b o e => by
  by_cases z : b = a
  · rw [z, delH_same] at e
    cases e
  · rw [delH_ne z] at e ⊢
    exact h b o e
end V1
namespace V1
open PySem PySem.Spec PyProof.Rows L2
/-- [..], its place told not to be the table of modules -/
def tLstS (t : TA) : TE := fun σ H Q => t σ H fun xs H1 => xs.length ≤ sizeLine ∧ ∀ p, H1 p = none → (p == sysModules) = false → Q (.ref p) (upd H1 p (.lst xs))
theorem pe_lstS {X : Cx} {es : List Expr} {t : TA} {pos : Pos} (h : PA X es t) : PE X (.List es pos) (tLstS t) := by
  constructor
  intro pins s σ H Q I hq
  apply wpAny_List_spliced
  apply thn (h.run pos pins s σ H _ I hq)
  rintro us s1 ⟨xs, H1, J, rv, z, q⟩
  have lenU : us.length ≤ sizeLine := rv.length ▸ z
  refine ⟨lenU, .ref s1.heap.objs.size, _, ?_, rfl, q _ (J.hok.fresh (Nat.le_refl _)) (beq_eq_false_iff_ne.mpr (Nat.ne_of_gt J.big))⟩
  exact J.laid (o := .lst xs) (t' := s1.toks) (fun _ _ e => Heap.get?_push_of_some _ e) (Nat.le_refl _) ⟨z, us, 0, rv, Heap.get?_push_size _ rfl⟩
/-- the hand at a stands -/
def Held (H : Hp) (a : Addr) : Prop := ∃ o, H a = some o
theorem Held.same {H H' : Hp} {a : Addr} (h : Held H a) (s : Same H H') : Held H' a := let ⟨o, e⟩ := h; ⟨o, s _ _ e⟩
theorem Held.off {H H' : Hp} {a p : Addr} {o : HO} (h : Held H a) (n : H p = none) (e : H' p = some o) : (delH H' a) p = some o := by
  obtain ⟨u, hu⟩ := h
  rw [delH_ne (Ne.symm (ne_of_none hu n))]
  exact e
/-- te makes this data beside what stands at a -/
def Mk (te : TE) (σ : L2.St) (a : Addr) (d : PyData) : Prop := ∀ H, Held H a → ∀ Q : VK, (∀ v H', Same H H' → Dq (delH H' a) v d → Q v H') → te σ H Q
def MkA (ta : TA) (σ : L2.St) (a : Addr) (ds : List PyData) : Prop := ∀ H, Held H a → ∀ Q : List V → Hp → Prop, (∀ vs H', Same H H' → DqAll (delH H' a) vs ds → Q vs H') → ta σ H Q
section
variable {σ : L2.St} {a : Addr} {d : PyData} {ds : List PyData} {te : TE} {ta : TA}
theorem mk_non : Mk (tC .non) σ a .none := fun H _ _ k => k _ H (Same.refl H) .non
theorem mk_bl (b : Bool) : Mk (tC (.bl b)) σ a (.bool b) := fun H _ _ k => k _ H (Same.refl H) (.bl b)
theorem mk_int (i : Int) : Mk (tC (.int i)) σ a (.int i) := fun H _ _ k => k _ H (Same.refl H) (.int i)
theorem mk_str (x : Str) : Mk (tC (.str x)) σ a (.str x) := fun H _ _ k => k _ H (Same.refl H) (.str x)
theorem mka_nil : MkA tNil σ a [] := fun H _ _ k => k [] H (Same.refl H) .nil
theorem mka_cons (h : Mk te σ a d) (r : MkA ta σ a ds) : MkA (tCons te ta) σ a (d :: ds) := fun H hh _ k => h H hh _ fun v H1 s1 q1 => r H1 (hh.same s1) _ fun vs H2 s2 q2 => k (v :: vs) H2 (s1.trans s2) (.cons (Dq.same (same_del s2) d v q1) q2)
theorem dqAll_len {H : Hp} : ∀ {vs : List V} {ds : List PyData}, DqAll H vs ds → vs.length = ds.length
  | _, [], .nil => rfl
  | _, _ :: _, .cons _ m => congrArg (· + 1) (dqAll_len m)
theorem mk_tup (r : MkA ta σ a ds) (hz : ds.length ≤ 1000) : Mk (tTup ta) σ a (.tuple ds) := fun H hh _ k => r H hh _ fun vs H1 s1 q1 =>
  ⟨Nat.le_of_lt (small1000 (by rw [dqAll_len q1]; exact hz)), fun p n => k _ _ (s1.trans (same_new n)) (.tup ((hh.same s1).off n upd_same) (DqAll.same (same_del (same_new n)) ds vs q1))⟩
theorem mk_lst (r : MkA ta σ a ds) (hz : ds.length ≤ 1000) : Mk (tLstS ta) σ a (.list ds) := fun H hh _ k => r H hh _ fun vs H1 s1 q1 =>
  ⟨Nat.le_of_lt (small1000 (by rw [dqAll_len q1]; exact hz)), fun p n low => k _ _ (s1.trans (same_new n)) (.lst ((hh.same s1).off n upd_same) low (DqAll.same (same_del (same_new n)) ds vs q1))⟩
theorem mk_dict0 : Mk tDNewK σ a (.dict []) := fun H hh _ k p n => k _ _ (same_new n) (.dct (hh.off n upd_same) .nil)
/-- a written dict of one text key and an int -/
theorem mk_dict1 (x : Str) (i : Int) : Mk (tDisp [(tC (.str x), tC (.int i))]) σ a (.dict [(.str x, .int i)]) := fun H hh _ k p n =>
  ⟨upd_same, [(.inr x, .int i)], rfl, (by show 1 ≤ 15; decide), by
    rw [upd_upd]
    exact k _ _ (same_new n) (.dct (kvs := [(.inr x, .int i)]) (hh.off n upd_same) (.cons (k := .inr x) (.int i) .nil))⟩
theorem DqAll.get {H : Hp} : ∀ {vs : List V} {ds : List PyData} {j : Nat} {d : PyData}, DqAll H vs ds → ds[j]? = some d → ∃ v, vs[j]? = some v ∧ Dq H v d
  | _, _ :: _, 0, _, .cons one _, e => ⟨_, rfl, by
    obtain rfl := Option.some.inj e
    exact one⟩
  | _, _ :: _, j + 1, _, .cons _ more, e => DqAll.get (j := j) more e
/-- an item of a written list of data, its place from an int -/
theorem mk_pick {K : PySem.W.Frag} {ti : TE} {H : Hp} {Q : VK} {j : Nat} (r : MkA ta σ a ds) (hz : ds.length ≤ 1000) (hh : Held H a) (hi : ∀ H1, Same H H1 → ∀ Q : VK, Q (.int j) H1 → ti σ H1 Q) (hj : j < ds.length)
    (k : ∀ v H', Same H H' → Dq (delH H' a) v ds[j] → Q v H') : tOp (rIxL K) (tLstS ta) ti σ H Q := r H hh _ fun vs H1 s1 q1 =>
  ⟨Nat.le_of_lt (small1000 (by rw [dqAll_len q1]; exact hz)), fun p n _ => by
    obtain ⟨v, hv, dv⟩ := DqAll.get q1 (List.getElem?_eq_getElem hj)
    have s2 := s1.trans (same_new (o := .lst vs) n)
    exact hi _ s2 _ ⟨p, vs, j, v, rfl, rfl, .inl (.inl upd_same), atI_nat hv, k v _ s2 (Dq.same (same_del (same_new n)) _ v dv)⟩⟩
end
structure Good (d : PyData) (b n : Nat) : Prop where
  sh : d.showable = true
  dp : d.depth ≤ b
  ln : d.shown.length ≤ n
theorem Good.mono {d : PyData} {b n b' n' : Nat} (h : Good d b n) (h1 : b ≤ b') (h2 : n ≤ n') : Good d b' n' := ⟨h.sh, Nat.le_trans h.dp h1, Nat.le_trans h.ln h2⟩
theorem good_int {i : Int} (h0 : 0 ≤ i) (h : i < 10 ^ 6) : Good (.int i) 0 6 := by
  refine ⟨?_, Nat.le_refl _, toString_length_le h0 (by decide) h⟩
  have z : i.natAbs < 2 ^ 20 := by omega
  have e : i.natAbs.log2 < 1920 := by
    by_cases hz : i.natAbs = 0
    · rw [hz]
      decide
    · exact Nat.lt_trans ((Nat.log2_lt hz).mpr z) (by decide)
  simpa [PyData.showable] using e
theorem good_list2 {d e : PyData} {b c n m : Nat} (hd : Good d b n) (he : Good e c m) : Good (.list [d, e]) (max b c + 1) (n + m + 4) := by
  refine ⟨?_, ?_, ?_⟩
  · simp only [PyData.showable, PyData.showableAll, hd.sh, he.sh, Bool.and_self]
  · simp only [PyData.depth, PyData.depthAll]
    have h1 := hd.dp
    have h2 := he.dp
    omega
  · have q : (PyData.list [d, e]).shown = ((((Str.ofString "[" ++ Str.ofString "") ++ d.shown) ++ Str.ofString ", ") ++ e.shown) ++ Str.ofString "]" := by
      simp only [PyData.shown, PyData.shownAll]
      rfl
    rw [q]
    simp only [strLen_append]
    have h1 := hd.ln
    have h2 := he.ln
    have k1 : (Str.ofString "[").length = 1 := by decide
    have k2 : (Str.ofString "").length = 0 := by decide
    have k3 : (Str.ofString ", ").length = 2 := by decide
    have k4 : (Str.ofString "]").length = 1 := by decide
    omega
theorem good_tup2 {d e : PyData} {b c n m : Nat} (hd : Good d b n) (he : Good e c m) : Good (.tuple [d, e]) (max b c + 1) (n + m + 4) := by
  refine ⟨?_, ?_, ?_⟩
  · simp only [PyData.showable, PyData.showableAll, hd.sh, he.sh, Bool.and_self]
  · simp only [PyData.depth, PyData.depthAll]
    have h1 := hd.dp
    have h2 := he.dp
    omega
  · have q : (PyData.tuple [d, e]).shown = (Str.ofString "(" ++ Str.join ", " [d.shown, e.shown]) ++ Str.ofString ")" := by
      simp only [PyData.shown, PyData.shownAll]
      rfl
    rw [q]
    simp only [strLen_append]
    have h1 := hd.ln
    have h2 := he.ln
    have j := join_length_add [d.shown, e.shown] (by simp)
    have p : piled [d.shown, e.shown] = d.shown.length + 2 + (e.shown.length + 2) := by simp [piled]
    have k1 : (Str.ofString "(").length = 1 := by decide
    have k2 : (Str.ofString ")").length = 1 := by decide
    omega
end V1
namespace V1
open PySem PySem.Spec PyProof.Rows L2
/-- an exception's class, and its fields if it has some -/
abbrev Kd : Type := Addr × Option (List (Str × V))
inductive ExAll (H : Hp) : List V → List Kd → Prop
  | nil : ExAll H [] []
  | cons {a : Addr} {k : Kd} {vs : List V} {ks : List Kd} (one : IsEx H a k.1 k.2) (more : ExAll H vs ks) : ExAll H (.ref a :: vs) (k :: ks)
theorem ExAll.same {H H' : Hp} (e : Same H H') : ∀ {vs : List V} {ks : List Kd}, ExAll H vs ks → ExAll H' vs ks
  | _, _, .nil => .nil
  | _, _, .cons one more => .cons (one.same e) (more.same e)
theorem ExAll.len {H : Hp} : ∀ {vs : List V} {ks : List Kd}, ExAll H vs ks → vs.length = ks.length
  | _, _, .nil => rfl
  | _, _, .cons _ more => congrArg (· + 1) more.len
theorem ExAll.app {H : Hp} : ∀ {vs us : List V} {ks ls : List Kd}, ExAll H vs ks → ExAll H us ls → ExAll H (vs ++ us) (ks ++ ls)
  | _, _, _, _, .nil, h => h
  | _, _, _, _, .cons one more, h => .cons one (more.app h)
theorem ExAll.get {H : Hp} : ∀ {vs : List V} {ks : List Kd} {j : Nat} {k : Kd}, ExAll H vs ks → ks[j]? = some k → ∃ a, vs[j]? = some (.ref a) ∧ IsEx H a k.1 k.2
  | _, _, 0, _, .cons one _, e => ⟨_, rfl, by
    obtain rfl := Option.some.inj e
    exact one⟩
  | _, _, j + 1, _, .cons _ more, e => more.get (j := j) e
/-- te makes an exception of this kind -/
def MkE (te : TE) (σ : L2.St) (k : Kd) : Prop := ∀ (H : Hp) (Q : VK), (∀ a H', Same H H' → IsEx H' a k.1 k.2 → Q (.ref a) H') → te σ H Q
def MkEs (ta : TA) (σ : L2.St) (ks : List Kd) : Prop := ∀ (H : Hp) (Q : List V → Hp → Prop), (∀ vs H', Same H H' → ExAll H' vs ks → Q vs H') → ta σ H Q
section
variable {σ : L2.St} {k : Kd} {ks ls : List Kd} {te : TE} {ta tb : TA}
theorem mke_nil : MkEs tNil σ [] := fun H _ q => q [] H (Same.refl H) .nil
theorem mke_cons (h : MkE te σ k) (r : MkEs ta σ ks) : MkEs (tCons te ta) σ (k :: ks) := fun H _ q => h H _ fun a H1 s1 e1 => r H1 _ fun vs H2 s2 e2 => q _ H2 (s1.trans s2) (.cons (e1.same s2) e2)
theorem mke_bare (C : Addr) : MkE (tMk0 C) σ (C, none) := fun H _ q a n => q a _ (same_new n) upd_same
/-- a list of them -/
def MkEL (te : TE) (σ : L2.St) (ks : List Kd) : Prop := ∀ (H : Hp) (Q : VK), (∀ p vs H', Same H H' → H p = none → H' p = some (.lst vs) → ExAll H' vs ks → Q (.ref p) H') → te σ H Q
theorem fresh_up {H H' : Hp} {p : Addr} (s : Same H H') (n : H' p = none) : H p = none := by
  cases e : H p with
  | none => rfl
  | some o =>
    rw [s p o e] at n
    cases n
theorem mkel_lst (r : MkEs ta σ ks) (hz : ks.length ≤ 1000) : MkEL (tLst ta) σ ks := fun H _ q => r H _ fun vs H1 s1 e1 =>
  ⟨Nat.le_of_lt (small1000 (by rw [e1.len]; exact hz)), fun p n => q p vs _ (s1.trans (same_new n)) (fresh_up s1 n) upd_same (e1.same (same_new n))⟩
theorem mkel_go {H : Hp} {Q : VK} (r : MkEs ta σ ks) (hz : ks.length ≤ 1000) (q : ∀ p vs H', Same H H' → H p = none → H' p = some (.lst vs) → ExAll H' vs ks → Q (.ref p) H') : tLst ta σ H Q := mkel_lst r hz H Q q
theorem q_mkel {H : Hp} {D : Ends} {tz : TS} {i : Nat} (r : MkEs ta σ ks) (hz : ks.length ≤ 1000) (k : ∀ p vs H', Same H H' → H p = none → H' p = some (.lst vs) → ExAll H' vs ks → tz D (σ.set i (some (.ref p))) H') :
    tSeq (tAsg (tLst ta) (gName i)) tz D σ H := by
  show tLst ta σ H fun v H' => tz D (σ.set i (some v)) H'
  exact mkel_lst r hz H _ k
/-- a list of what is told wherever G holds -/
def Bs (ta : TA) (σ : L2.St) (G : Hp → Prop) (vs : List V) : Prop := ∀ H, G H → ∀ Q : List V → Hp → Prop, Q vs H → ta σ H Q
theorem bs_nil {G : Hp → Prop} : Bs tNil σ G [] := fun H _ _ q => q
theorem bs_cons {G : Hp → Prop} {v : V} {vs : List V} (h : ∀ H, G H → ∀ Q : VK, Q v H → te σ H Q) (r : Bs ta σ G vs) : Bs (tCons te ta) σ G (v :: vs) := fun H g _ q => h H g _ (r H g _ q)
theorem q_bs {H : Hp} {D : Ends} {tz : TS} {i : Nat} {G : Hp → Prop} {vs : List V} (b : Bs ta σ G vs) (g : G H) (hz : vs.length ≤ 1000) (k : ∀ p H', Same H H' → H p = none → H' p = some (.lst vs) → tz D (σ.set i (some (.ref p))) H') :
    tSeq (tAsg (tLst ta) (gName i)) tz D σ H := by
  show tLst ta σ H fun v H' => tz D (σ.set i (some v)) H'
  exact b H g _ ⟨Nat.le_of_lt (small1000 hz), fun p n => k p _ (same_new n) n upd_same⟩
theorem r_bs {H : Hp} {Q : VK} {G : Hp → Prop} {vs : List V} (b : Bs ta σ G vs) (g : G H) (hz : vs.length ≤ 1000) (k : ∀ p H', Same H H' → H p = none → H' p = some (.lst vs) → Q (.ref p) H') : tLst ta σ H Q := b H g _ ⟨Nat.le_of_lt (small1000 hz), fun p n => k p _ (same_new n) n upd_same⟩
theorem cat_go {H : Hp} {Q : VK} {x y : Addr} {xs ys : List V} (hx : H x = some (.lst xs)) (hy : H y = some (.lst ys)) (hz : xs.length + ys.length ≤ 1000) (k : ∀ p H', Same H H' → H p = none → H' p = some (.lst (xs ++ ys)) → Q (.ref p) H') : rCat (.ref x) (.ref y) H Q :=
  ⟨x, y, xs, ys, rfl, rfl, hx, hy, Nat.le_of_lt (small1000 hz), fun p n => k p _ (same_new n) n upd_same⟩
theorem mkel_cat {t1 t2 : TE} (h1 : MkEL t1 σ ks) (h2 : MkEL t2 σ ls) (hz : ks.length + ls.length ≤ 1000) : MkEL (tOp rCat t1 t2) σ (ks ++ ls) := fun H _ q => h1 H _ fun p vs H1 s1 _ e1 x1 => h2 H1 _ fun p2 us H2 s2 _ e2 x2 =>
  ⟨p, p2, vs, us, rfl, rfl, s2 _ _ e1, e2, Nat.le_of_lt (small1000 (by rw [x1.len, x2.len]; exact hz)), fun p3 n => q p3 _ _ ((s1.trans s2).trans (same_new n)) (fresh_up (s1.trans s2) n) upd_same (((x1.same s2).app x2).same (same_new n))⟩
theorem mkel_var {i : Nat} {p : Addr} {vs : List V} {H0 : Hp} (h0 : σ[i]? = some (some (.ref p))) (e : H0 p = some (.lst vs)) (x : ExAll H0 vs ks) : ∀ (H : Hp), Same H0 H → ∀ Q : VK, (∀ H', Same H H' → H' p = some (.lst vs) → ExAll H' vs ks → Q (.ref p) H') → tVar i σ H Q :=
  fun H s Q q => ⟨_, h0, q H (Same.refl H) (s _ _ e) (x.same s)⟩
end
/-- __init__(self, f): self.f = f -/
def spIni (K : PySem.W.Frag) (C : Addr) (f : Str) : Sp := fun vs H Q _ => ∃ (a : Addr) (v : V), vs = [.ref a, v] ∧ H a = some (exo a C none) ∧ ∀ dx, H dx = none → dx ≠ a → Q .non (upd (upd H dx (exd dx [(f, v)])) a (exo a C (some dx)))
theorem mke_field {K : PySem.W.Frag} {σ : L2.St} {C : Addr} {f : Str} {v : V} {ta : TA} (ha : ∀ (H : Hp) (Q : List V → Hp → Prop), Q [v] H → ta σ H Q) : MkE (tMkV C (spIni K C f) [] ta) σ (C, some [(f, v)]) := fun H _ q => ha H _
  ⟨by show 1 ≤ 1000; decide, fun a n => ⟨a, v, rfl, upd_same, fun dx nd ne => by
    have nd' : H dx = none := by
      rw [upd_ne ne] at nd
      exact nd
    refine ⟨rfl, q a _ (fun b o e => ?_) ⟨dx, upd_same, ?_⟩⟩
    · rw [upd_ne (ne_of_none e n), upd_ne (ne_of_none e nd'), upd_ne (ne_of_none e n)]
      exact e
    · rw [upd_ne ne, upd_same]⟩⟩
end V1
namespace V1
open PySem PySem.Spec PyProof.Rows L2
theorem wCl_take {K : PySem.W.Frag} {W : WX} {D : Ends} {c cls : Value} {o : Option Nat} {ts : Addr → Value → Option Addr → TS} {l : List Cl} {d : Option Addr} {σ : L2.St} {H : Hp} (h : PySem.W.exmOne K cls c = some true) (k : ∀ a, H a = none → suiteD D a cls d ts σ H o) :
    wCl K W D ((c, o, ts) :: l) cls d σ H := ⟨true, h, fun _ => k, (fun z => nomatch z)⟩
theorem wCl_skip {K : PySem.W.Frag} {W : WX} {D : Ends} {c cls : Value} {o : Option Nat} {ts : Addr → Value → Option Addr → TS} {l : List Cl} {d : Option Addr} {σ : L2.St} {H : Hp} (h : PySem.W.exmOne K cls c = some false) (k : wCl K W D l cls d σ H) :
    wCl K W D ((c, o, ts) :: l) cls d σ H := ⟨false, h, (fun z => nomatch z), fun _ => k⟩
/-- raise C(e), C's __init__ keeping its one field -/
theorem raise_go {K : PySem.W.Frag} {σ : L2.St} {H : Hp} {C : Addr} {f : Str} {v : V} {ta : TA} {Q : XK} (ha : ∀ Q : List V → Hp → Prop, Q [v] H → ta σ H Q) (k : ∀ d H', H d = none → Same H H' → H' d = some (.xd [(f, v)]) → Q (.ref C) (some d) H') :
    tMkO C (spIni K C f) [] ta σ H Q := ha _ ⟨by show 1 ≤ 1000; decide, fun a n => ⟨a, v, rfl, upd_same, fun dx nd ne => by
  have nd' : H dx = none := by
    rw [upd_ne ne] at nd
    exact nd
  refine ⟨rfl, dx, [(f, v)], upd_same, ?_, nd', k dx _ nd' (fun b o e => ?_) upd_same⟩
  · rw [upd_ne ne, upd_same]
  · rw [upd_ne (ne_of_none e nd'), del_ne (ne_of_none e n), upd_ne (ne_of_none e n), upd_ne (ne_of_none e nd'), upd_ne (ne_of_none e n)]
    exact e⟩⟩
end V1

set_option maxHeartbeats 4000000
/-! V2: for i, x in enumerate(tuple) -/
namespace V2
open PySem PySem.Spec PyProof.Rows L2 V1
open AutoSeq1 (wpAny_loadPart')
theorem enum_tup_new (t : Addr) (items : Array Value) :
    Meets (Builtin.«enumerate.__new__» ⟨[.type "enumerate", .ref t], []⟩) (fun _ R s => s.heap.IsTuple t items ∧
      R (.ok (.ret (.ref (s.heap.objs.size + 1))))
        { s with heap := (s.heap.push { cls := .type "tuple_iterator", data := .fields #[.ref t, .int 0 0] }).push { cls := .type "enumerate", data := .fields #[.none, .bool false, .ref s.heap.objs.size, rawInt 0, .none, .none] } }) :=
  .of_wp fun prog w A R s hh => by
    obtain ⟨hp, g, d, tk, os⟩ := s
    obtain ⟨ht, go⟩ := hh
    have sub := sub_enumerate
    have size : (hp.push { cls := .type "tuple_iterator", data := .fields #[.ref t, .int 0 0] }).objs.size = hp.objs.size + 1 := Heap.size_push ..
    rw [← size] at go
    have begin_ : ∀ {A' : Around} {E : Value → Shared → Prop} {Q : Value → Shared → Prop}, Q (.ref hp.objs.size) ⟨hp.push { cls := .type "tuple_iterator", data := .fields #[.ref t, .int 0 0] }, g, d, tk, os⟩ →
        wpAny (model prog w) A' (pyIter (.ref t)) Q E ⟨hp, g, d, tk, os⟩ := fun q => (begins_tuple t items).iter prog w _ _ ⟨hp, g, d, tk, os⟩ _ ht q
    wp_walk using begin_
    refine wpAny_stack_any fun st => wpAny_pure ?_
    split
    · rename_i c _ _ _ _ _
      cases (c == Value.type "enumerate")
      all_goals
        wp_walk using begin_
        exact ⟨_, rfl, go⟩
    · wp_walk using begin_
      exact ⟨_, rfl, go⟩
section
variable {prog : Program} {w : World} {A : Around} {E : Value → Shared → Prop} {s : Shared}
theorem enum_tup {t : Addr} {items : Array Value} {Q : Value → Shared → Prop} (ht : s.heap.IsTuple t items)
    (k : ∀ h', IsEnum h' (s.heap.objs.size + 1) s.heap.objs.size 0 .none → h'.IsTupleIter s.heap.objs.size t 0 → (∀ b o, s.heap.get? b = some o → h'.get? b = some o) → Q (.ref (s.heap.objs.size + 1)) { s with heap := h' }) :
    wpAny (model prog w) A (call (.type "enumerate") [.ref t]) Q E s := by
  refine callType_new F.called_enumerate (by decide) (F.typeCall_enumerate_1 _) (F.newCall_enumerate_1 _) (fun obj => F.args_object_init_2 obj _) F.entry_enumerate_new (enum_tup_new t items) ⟨ht, ?_⟩
  let itO : Obj := { cls := .type "tuple_iterator", data := .fields #[.ref t, .int 0 0] }
  let enO : Obj := { cls := .type "enumerate", data := .fields #[.none, .bool false, .ref s.heap.objs.size, rawInt 0, .none, .none] }
  have size : (s.heap.push itO).objs.size = s.heap.objs.size + 1 := Heap.size_push ..
  have en : ((s.heap.push itO).push enO).get? (s.heap.objs.size + 1) = some enO := by
    have z := Heap.get?_push_size (s.heap.push itO) (o := enO) rfl
    rwa [size] at z
  have old : ∀ b o, s.heap.get? b = some o → ((s.heap.push itO).push enO).get? b = some o := fun b o e => Heap.get?_push_of_some _ (Heap.get?_push_of_some _ e)
  exact ⟨⟨_, en, rfl⟩, k _ en ⟨itO, Heap.get?_push_of_some _ (Heap.get?_push_size _ rfl), rfl, rfl⟩ old⟩
end
theorem draws_end {prog : Program} {w : World} {A : Around} (hh : A.handled = none) (it t : Addr) (items : Array Value) (i : Nat) (hx : items[i]? = none) :
    Draws prog w A it [it, t] i (fun _ _ => True) (fun j h => j = i ∧ h.IsTupleIter it t i ∧ h.IsTuple t items) where
  live := fun _ _ st => let ⟨o, ho, _⟩ := st.2.1; ⟨o, ho⟩
  frame := fun _ _ _ st hk => ⟨st.1, st.2.1.at fun o e => hk it (List.mem_cons_self ..) o e, st.2.2.at fun o e => hk t (List.mem_cons_of_mem _ (List.mem_singleton.mpr rfl)) o e⟩
  item := fun j s Q E hj st _ => absurd st.1 (Nat.ne_of_lt hj)
  done := fun s Q E st hE => wpAny_nextOf_tuple_end hh st.2.1 st.2.2 hx hE
/-- the tuple at a, each item in a new pair with its place -/
def Itu (K : PySem.W.Frag) (a : Addr) : It :=
  ⟨fun i H => ∃ (xs : List V) (x : V), SqT K H a xs ∧ xs[i]? = some x, fun i H v H' => ∃ T x, v = .ref T ∧ H T = none ∧ H' = upd H T (.tup [.int (i : Nat), x]) ∧ ∀ xs, SqT K H a xs → xs[i]? = some x, fun i H => ∃ xs : List V, SqT K H a xs ∧ xs.length ≤ i⟩
theorem turn_enumT {P : Program} {w : World} {K : PySem.W.Frag} {elts : List Expr} {kk : Nat} {tpos : Pos} (a e it : Addr) :
    Turn P w K (.Tuple elts kk tpos) (Itu K a) [e, it] e (fun i h => (∃ old, IsEnum h e it ((i : Nat) : Int) old) ∧ h.IsTupleIter it a i ∧ e ≠ it) where
  mem := List.mem_cons_self ..
  obj := fun i h st b hb => by
    obtain ⟨⟨old, he⟩, ⟨o, ho, hc, hd⟩, _⟩ := st
    rcases List.mem_cons.mp hb with rfl | hb
    · exact ⟨_, he, fun v q => nomatch q⟩
    · obtain rfl := List.mem_singleton.mp hb
      exact ⟨o, ho, fun v q => by rw [hd] at q; cases q⟩
  keep := fun i h h' st k => let ⟨⟨old, he⟩, hi, hne⟩ := st; ⟨⟨old, k e (List.mem_cons_self ..) _ he⟩, hi.at fun o q => k it (List.mem_cons_of_mem _ (List.mem_singleton.mpr rfl)) o q, hne⟩
  item := by
    intro X hP hw hK hc i pins s σ H E I free st hg
    subst hP hw hK
    obtain ⟨⟨old, he⟩, hit, hne⟩ := st
    obtain ⟨xs, x, hq, hx⟩ := hg
    obtain ⟨its, rv, tup, hz⟩ := I.tuple hq
    obtain ⟨u, hu, ru⟩ := rv.get hx
    have len := rv.length
    have il : i < its.length := by
      obtain ⟨l, _⟩ := List.getElem?_eq_some_iff.mp hu
      exact l
    have off : a ≠ it := by
      rintro rfl
      obtain ⟨o1, e1, c1, n1, d1⟩ := tup
      obtain ⟨o2, e2, c2, d2⟩ := hit
      rw [e1] at e2
      cases e2
      rw [d1] at d2
      cases d2
    refine wpAny_pyNext_enum_itemD (n := its.toArray.size) (Draws.tuple (show X.A.in1.handled = none from I.ok.hd hc) it a off its.toArray) he (And.intro hit tup) (by simpa using il) hne (fun z => ?_) fun y h1 tk hy out st1 new size old1 => ?_
    · rcases List.mem_cons.mp z with z | z
      · exact hne z
      · obtain rfl := List.mem_singleton.mp z
        obtain ⟨o1, e1, c1, n1, d1⟩ := tup
        rw [he] at e1
        cases e1
        cases d1
    have ey : y = u := by
      have z : its.toArray[i]? = some u := by simpa using hu
      exact Option.some.inj (hy.symm.trans z)
    subst ey
    refine ⟨_, rfl, wpAny_letOwnedTupleGo_enum (s := { s with heap := h1, toks := tk + 1 }) out fun h2 he2 sb => ?_⟩
    have lt : e < s.heap.objs.size := Heap.lt_size he
    have T2 : h2.get? s.heap.objs.size = some { cls := .type "tuple", data := .seq #[.int i tk, y] } := (sb.2 _ (Nat.ne_of_gt lt)).trans new
    have ob : ObjOk X.prog X.w (upd H s.heap.objs.size (.tup [.int (i : Nat), x])) h2 s.heap.objs.size (.tup [.int (i : Nat), x]) :=
      ⟨by show 2 ≤ sizeLine; decide, [.int i tk, y], .cons ⟨_, rfl⟩ (.cons ru .nil), _, T2, rfl, _, rfl⟩
    have J : Inv X pins σ (upd H s.heap.objs.size (.tup [.int (i : Nat), x])) { s with heap := h2, toks := tk + 1 } :=
      I.turnedNew (ch := [e, it]) (fun b o hb q => (sb.2 b fun z => hb (by simp [z])).trans (old1 b o (fun z => hb (by simp [z])) (fun z => hb (by simp [z])) q)) free (Nat.le_refl _) ob
    refine ⟨.ref s.heap.objs.size, _, J, rfl, ⟨_, x, rfl, I.hok.fresh (Nat.le_refl _), rfl, fun ys hy => by rw [I.tuple_inj hy hq]; exact hx⟩, ⟨⟨y, ?_⟩, st1.1.at fun o q => (sb.2 it (Ne.symm hne)).trans q, hne⟩, fun b hb => ?_⟩
    · rw [show ((i + 1 : Nat) : Int) = (i : Int) + 1 by omega]
      exact he2
    · have z : b < s.heap.objs.size := by
        rcases List.mem_cons.mp hb with rfl | hb
        · exact lt
        · obtain rfl := List.mem_singleton.mp hb
          obtain ⟨_, q, _⟩ := hit
          exact Heap.lt_size q
      rw [upd_ne (Nat.ne_of_lt z)]
      exact (free b hb).1
  done := by
    intro X hP hw hK hc i pins s σ H E I free st hg
    subst hP hw hK
    obtain ⟨⟨old, he⟩, hit, hne⟩ := st
    obtain ⟨xs, hq, hx⟩ := hg
    obtain ⟨its, rv, tup, hz⟩ := I.tuple hq
    obtain ⟨f0, f1, f2, f3, f4, f5⟩ := free it (List.mem_cons_of_mem _ (List.mem_singleton.mpr rfl))
    have len := rv.length
    have none_ : its.toArray[i]? = none := by simp; omega
    exact wpAny_pyNext_enum_endD (draws_end (show X.A.in1.handled = none from I.ok.hd hc) it a its.toArray i none_) he ⟨rfl, hit, tup⟩ fun h' eb => ⟨rfl, I.turned (t' := s.toks) (fun b o hb q => eb b o hb q) f0 f1 f3 f4 f5⟩
  self := fun A i s Q E st h => let ⟨⟨_, he⟩, _⟩ := st; wpAny_pyIter_enum he h
def iEnumT (K : PySem.W.Frag) (ta : TA) : TI := fun σ H R => ta σ H fun vs H1 => ∃ a xs, vs = [.ref a] ∧ SqT K H1 a xs ∧ R (Itu K a) H1
theorem pi_enumT {X : Cx} {e : Expr} {ta : TA} {p pos tpos : Pos} {elts : List Expr} {kk : Nat} (hg : Gl X "enumerate") (hm : X.mg "enumerate" = none) (ha : PA X [e] ta) (hs : starEach [e] X.env = [(false, eval e X.env)] := by rfl) :
    PI X (.Tuple elts kk tpos) (.Call (.Name "enumerate" p) [e] [] pos) (iEnumT X.K ta) := by
  constructor
  intro pins s σ H R I h
  refine Call_ (ld_blt I hg hm boot_enumerate (PyProof.Rows.callWith_type1 (thn (ha.run pos pins s σ H _ I h) ?_) hs rfl))
  rintro us s1 ⟨_, H1, J, rv, a, xs, rfl, hq, go⟩
  cases rv with
  | cons r more =>
    cases more
    cases r
    obtain ⟨its, rv2, tup, hz⟩ := J.tuple hq
    refine enum_tup tup fun h' he hit old => wpAny_pyIter_enum he ?_
    refine ⟨s1.heap.objs.size + 1, [s1.heap.objs.size + 1, s1.heap.objs.size], _, _, H1, rfl, J.kept (t' := s1.toks) old, turn_enumT a (s1.heap.objs.size + 1) s1.heap.objs.size, ⟨⟨.none, he⟩, hit, Nat.succ_ne_self _⟩, fun b hb => ?_, go⟩
    have le : s1.heap.objs.size ≤ b := by
      rcases List.mem_cons.mp hb with rfl | hb
      · exact Nat.le_succ _
      · exact Nat.le_of_eq (List.mem_singleton.mp hb).symm
    exact J.fpOk le (J.hok.fresh le)
theorem walk_enumT {K : PySem.W.Frag} {a : Addr} {xs : List V} : Walk (Itu K a) xs.length (fun H => SqT K H a xs) (YPair (fun i => some (.int (i : Nat))) (fun i => xs[i]?)) :=
  ⟨fun i _ hi q => ⟨xs, xs[i], q, List.getElem?_eq_getElem hi⟩, fun _ q => ⟨xs, q, Nat.le_refl _⟩, fun i _ _ _ _ q y => let ⟨T, x, h1, h2, h3, h4⟩ := y; ⟨T, .int (i : Nat), x, h1, h2, h3, rfl, h4 xs q⟩⟩
end V2

set_option maxHeartbeats 4000000
/-! V2: data asked for its kind; data as the library's; in, == over data -/
namespace V2
open PySem PySem.Spec PyProof.Rows L2 V1
def tyName : PyData → String
  | .none => "NoneType"
  | .bool _ => "bool"
  | .int _ => "int"
  | .str _ => "str"
  | .list _ => "list"
  | .tuple _ => "tuple"
  | .dict _ => "dict"
theorem dq_ty {K : PySem.W.Frag} {H : Hp} {v : V} {d : PyData} (h : Dq H v d) : TyX K H v (.type (tyName d)) := by
  cases h with
  | non => exact .base .non
  | bl b => exact .base (.bl b)
  | int i => exact .base (.int i)
  | str x => exact .base (.str x)
  | lst e _ _ => exact .base (.lst e)
  | tup e _ => exact .base (.tup e)
  | dct e _ => exact .base (.dK e)
def isInt : PyData → Bool
  | .int _ => true
  | _ => false
def isBool : PyData → Bool
  | .bool _ => true
  | _ => false
def isStr : PyData → Bool
  | .str _ => true
  | _ => false
def isTup : PyData → Bool
  | .tuple _ => true
  | _ => false
def isLst : PyData → Bool
  | .list _ => true
  | _ => false
theorem kit_int (d : PyData) : kitB (tyName d) "int" = some (isInt d || isBool d) := by cases d <;> kernel_rfl
theorem kit_bool (d : PyData) : kitB (tyName d) "bool" = some (isBool d) := by cases d <;> kernel_rfl
theorem kit_str (d : PyData) : kitB (tyName d) "str" = some (isStr d) := by cases d <;> kernel_rfl
theorem kit_tup (d : PyData) : kitB (tyName d) "tuple" = some (isTup d) := by cases d <;> kernel_rfl
theorem kit_lst (d : PyData) : kitB (tyName d) "list" = some (isLst d) := by cases d <;> kernel_rfl
section
variable {K : PySem.W.Frag} {σ : L2.St} {H : Hp} {Q : VK} {te : TE} {v : V} {d : PyData} {n : String} {b : Bool}
theorem isi_go (hb : kitB (tyName d) n = some b) (ht : ∀ Q : VK, Q v H → te σ H Q) (hd : Dq H v d) (q : Q (.bl b) H) : tCB (rIsi K) (tCons te (tCons (tC (.ty n)) tNil)) σ H Q :=
  ht _ ⟨v, .ty n, _, _, b, rfl, .ty n, dq_ty hd, kit_ty hb, q⟩
/-- isinstance(x, (tuple, list)) -/
theorem isiT_go {n1 n2 : String} (hb : PySem.W.kitAny K (.type (tyName d)) [.type n1, .type n2] = some b) (ht : ∀ Q : VK, Q v H → te σ H Q) (hd : Dq H v d) (q : ∀ p, H p = none → Q (.bl b) (upd H p (.tup [.ty n1, .ty n2]))) :
    tCB (rIsiT K) (tCons te (tCons (tTup (tCons (tC (.ty n1)) (tCons (tC (.ty n2)) tNil))) tNil)) σ H Q :=
  ht _ ⟨(by show 2 ≤ sizeLine; decide), fun p np => ⟨v, p, _, _, _, b, rfl, upd_same, .cons (.ty n1) (.cons (.ty n2) .nil), dq_ty (Dq.same (same_new np) d v hd), hb, q p np⟩⟩
theorem kit_tl (d : PyData) : PySem.W.kitAny K (.type (tyName d)) [.type "tuple", .type "list"] = some (isTup d || isLst d) := by
  have h1 := kit_ty (K := K) (kit_tup d)
  have h2 := kit_ty (K := K) (kit_lst d)
  show (match PySem.W.kitOne K (.type (tyName d)) (.type "tuple") with
    | some true => some true
    | some false => (match PySem.W.kitOne K (.type (tyName d)) (.type "list") with
      | some true => some true
      | some false => some false
      | none => none)
    | none => none) = _
  rw [h1, h2]
  cases isTup d <;> cases isLst d <;> rfl
end
/-! data without dicts, as the library's == and in read it -/
mutual
def plain : PyData → Bool
  | .none | .bool _ | .int _ | .str _ => true
  | .list xs | .tuple xs => plainAll xs
  | .dict _ => false
def plainAll : List PyData → Bool
  | [] => true
  | x :: xs => plain x && plainAll xs
end
section
variable {K : PySem.W.Frag} {H : Hp}
mutual
theorem dq_dp : ∀ (d : PyData) (v : V), plain d = true → Dq H v d → Dp K H v d
  | .none, _, _, h => by cases h; exact .non
  | .bool b, _, _, h => by cases h; exact .bl b
  | .int i, _, _, h => by cases h; exact .int i
  | .str x, _, _, h => by cases h; exact .str x
  | .list ds, _, p, h => by
    cases h with
    | lst e _ r => exact .lst (.inl (.inl e)) (dqAll_dp ds _ (by simpa [plain] using p) r)
  | .tuple ds, _, p, h => by
    cases h with
    | tup e r => exact .tup (.inl (.inl e)) (dqAll_dp ds _ (by simpa [plain] using p) r)
  | .dict _, _, p, _ => by simp [plain] at p
theorem dqAll_dp : ∀ (ds : List PyData) (vs : List V), plainAll ds = true → DqAll H vs ds → DpAll K H vs ds
  | [], _, _, h => by cases h; exact .nil
  | d :: ds, _, p, h => by
    cases h with
    | cons one more =>
      have p' : plain d = true ∧ plainAll ds = true := by simpa [plainAll] using p
      exact .cons (dq_dp d _ p'.1 one) (dqAll_dp ds _ p'.2 more)
end
end
/-- x in t, t a tuple of data -/
def rInT (K : PySem.W.Frag) (neg : Bool) : R2 := fun x y H Q => ∃ d ds, Dp K H x d ∧ Dp K H y (.tuple ds) ∧ SeqAt.shaped d = true ∧ SeqAt.shaped (.tuple ds) = true ∧ Q (.bl (neg.xor (ds.any fun z => PyData.eqv z d))) H
section
variable {X : Cx}
theorem op_inT (hu : X.A.units + 70 < cLine) : OpR X (compareOp .In) (rInT X.K false) := by
  rintro pins s σ H x y v u Q I rx ry ⟨d, ds, hd, he, sd, se, q⟩
  obtain ⟨as, r1⟩ := Dp.reads I d x v hd rx
  obtain ⟨bs, r2⟩ := Dp.reads I (.tuple ds) y u he ry
  have dep : d.depth ≤ 64 := by
    have z : (d.canLay0 && decide (d.depth ≤ 64)) = true := sd
    simp only [Bool.and_eq_true, decide_eq_true_eq] at z
    exact z.2
  exact SeqAt.in_tuple_reads r2 r1 (by simpa [PyData.canLay0] using SeqAt.canLay_of_shaped se) (SeqAt.canLay_of_shaped sd) (by omega) ⟨.bl _, H, I, rfl, by simpa using q⟩
theorem op_notInT (hu : X.A.units + 70 < cLine) : OpR X (compareOp .NotIn) (rInT X.K true) := by
  rintro pins s σ H x y v u Q I rx ry ⟨d, ds, hd, he, sd, se, q⟩
  obtain ⟨as, r1⟩ := Dp.reads I d x v hd rx
  obtain ⟨bs, r2⟩ := Dp.reads I (.tuple ds) y u he ry
  have dep : d.depth ≤ 64 := by
    have z : (d.canLay0 && decide (d.depth ≤ 64)) = true := sd
    simp only [Bool.and_eq_true, decide_eq_true_eq] at z
    exact z.2
  exact SeqAt.notIn_tuple_reads r2 r1 (by simpa [PyData.canLay0] using SeqAt.canLay_of_shaped se) (SeqAt.canLay_of_shaped sd) (by omega) ⟨.bl _, H, I, rfl, by simpa using q⟩
end
end V2

set_option maxHeartbeats 4000000
/-! V2c: exceptions of one field; the own == -/
namespace V2
open PySem PySem.Spec PyProof.Rows L2 V1
open Evl (pss_cut tCut sq_of st_of)
section
variable {P : Program} {w : World} {K : PySem.W.Frag} {mg : Str → Option Value} {base : Heap}
theorem ok_init {name qual : Str} {params : Arguments} {body : List Stmt} {scope : Scope} {C fI : Addr} {fd : FuncData} {f : Str} {p1 p2 p3 p4 : Pos} (F : FunD K name qual params body scope [] [] fI fd) (S : FnScope ["self", f] ["self", f] scope)
    (hb : body = [.Assign [.Attribute (.Name "self" p1) f p2] (.Name f p3) p4]) (hC : OexC K C) (no : PySem.W.findIn K (.ref C) f = some none) (hf : (f == ("__debug__" : Str)) = false) (hf2 : (f == ("__classdict__" : Str)) = false)
    (v0 : Vis scope "self") (v1 : Vis scope f) (sw : ∀ env : Env, swapsWith (.Name f p3) (some (.Attribute (.Name "self" p1) f p2)) p4.line env = pure false) : FnOk P w K mg base CX0 1 fI fd ["self", f] (spIni K C f) := by
  subst hb
  refine F.ok S (fun vs H Q E h => ?_) (fun cdv A outer s H vs Q E hr h => ?_)
  · obtain ⟨a, v, rfl, _⟩ := h
    rfl
  · refine ⟨_, PSs.nox (pss_one (ps_ost (pe_var (i := 0) rfl v0) (pe_var (i := 1) rfl v1 hf hf2) (sw _))), ?_⟩
    obtain ⟨a, v, rfl, e, hQ⟩ := h
    exact ⟨v, rfl, _, rfl, a, C, rfl, hC, no, .inl ⟨e, fun dx n ne => hQ dx n ne⟩⟩
structure Fld (P : Program) (w : World) (K : PySem.W.Frag) (mg : Str → Option Value) (base : Heap) (x f : Str) : Prop where
  gC : mg x = some (.ref (He.ga K x))
  oex : OexC K (He.ga K x)
  no : PySem.W.findIn K (.ref (He.ga K x)) f = some none
  init : ∃ fI fd, PySem.W.findIn K (.ref (He.ga K x)) "__init__" = some (some (.ref fI)) ∧ PySem.W.typeIn K (.ref fI) = some (.type "function") ∧ FnOk P w K mg base CX0 1 fI fd ["self", f] (spIni K (He.ga K x) f) ∧ Binds K fd ["self", f] []
theorem pe_fld {X : Cx} {x f : Str} {e : Expr} {es : List Expr} {ta : TA} {p pos : Pos} (h : Fld X.prog X.w X.K X.mg X.base x f) (hr : Room 2 X.A) (ha : PA X (e :: es) ta) (hg : Gl X x := by rfl) (hdb : (x == ("__debug__" : Str)) = false := by decide)
    (he : starEach (e :: es) X.env = (false, eval e X.env) :: starEach es X.env := by rfl) (hpl : (backTo pos (starEach es X.env)).any (·.1) = false := by rfl) :
    PE X (.Call (.Name x p) (e :: es) [] pos) (tMkV (He.ga X.K x) (spIni X.K (He.ga X.K x) f) [] ta) := by
  obtain ⟨fI, fd, h1, h2, h3, h4⟩ := h.init
  exact pe_mkV h.oex h1 h2 h3 hr h4 .nil pass0 hg h.gC ha hdb he hpl
theorem pmk_fld {X : Cx} {x f : Str} {e : Expr} {es : List Expr} {ta : TA} {p pos : Pos} (h : Fld X.prog X.w X.K X.mg X.base x f) (hr : Room 2 X.A) (ha : PA X (e :: es) ta) (hg : Gl X x := by rfl) (hdb : (x == ("__debug__" : Str)) = false := by decide)
    (he : starEach (e :: es) X.env = (false, eval e X.env) :: starEach es X.env := by rfl) (hpl : (backTo pos (starEach es X.env)).any (·.1) = false := by rfl) :
    PMk X (.Call (.Name x p) (e :: es) [] pos) (tMkO (He.ga X.K x) (spIni X.K (He.ga X.K x) f) [] ta) := by
  obtain ⟨fI, fd, h1, h2, h3, h4⟩ := h.init
  exact pmk_oex h.oex h1 h2 h3 hr h4 .nil pass0 hg h.gC ha hdb he hpl
theorem meth_ty {K : PySem.W.Frag} {C f : Addr} {m : Str} (h : Meth K C m f) : PySem.W.typeIn K (.ref f) = some (.type "function") := eq_of_beq h.fn
theorem fld_of {x f : Str} {name qual : Str} {params : Arguments} {body : List Stmt} {scope : Scope} {fI : Addr} {fd : FuncData} {bm : List Value} {p1 p2 p3 p4 : Pos}
    (F : FunD K name qual params body scope [] [] fI fd) (S : FnScope ["self", f] ["self", f] scope) (hb : body = [.Assign [.Attribute (.Name "self" p1) f p2] (.Name f p3) p4])
    (gC : mg x = some (.ref (He.ga K x))) (E : ExK K (He.ga K x) bm) (hr : PySem.HandSPX.refsVE bm = true) (hbe : (Value.ref (He.ga K x) :: bm).contains (.type "BaseException") = true)
    (no : PySem.W.findIn K (.ref (He.ga K x)) f = some none) (m : Meth K (He.ga K x) "__init__" fI) (hf : (f == ("__debug__" : Str)) = false) (hf2 : (f == ("__classdict__" : Str)) = false)
    (v0 : Vis scope "self") (v1 : Vis scope f) (sw : ∀ env : Env, swapsWith (.Name f p3) (some (.Attribute (.Name "self" p1) f p2)) p4.line env = pure false) (b : Binds K fd ["self", f] []) : Fld P w K mg base x f :=
  ⟨gC, E.oex hr hbe, no, fI, fd, m.at_, meth_ty m, ok_init F S hb (E.oex hr hbe) no hf hf2 v0 v1 sw, b⟩
end
def tyNames : List String := ["NoneType", "bool", "int", "str", "list", "tuple", "dict"]
/-- what isinstance and == ask of a plain class -/
def insB (K : PySem.W.Frag) (C : Addr) : Bool :=
  decide (PySem.W.findIn K (.ref C) "__class__" = some (some (.builtin "object.__class__"))) && (decide (PySem.W.mroIn K C (.type "object") = some true) && (decide (PySem.W.kitOne K (.ref C) (.ref C) = some true) &&
    tyNames.all fun n => decide (PySem.W.kitOne K (.type n) (.ref C) = some false) && PySem.W.notFirst K C (.type n)))
structure InsK (K : PySem.W.Frag) (C : Addr) : Prop where
  ha : PySem.W.findIn K (.ref C) "__class__" = some (some (.builtin "object.__class__"))
  hm : PySem.W.mroIn K C (.type "object") = some true
  me : PySem.W.kitOne K (.ref C) (.ref C) = some true
  no : ∀ n ∈ tyNames, PySem.W.kitOne K (.type n) (.ref C) = some false
  nf : ∀ n ∈ tyNames, PySem.W.notFirst K C (.type n) = true
theorem insK_of {K : PySem.W.Frag} {C : Addr} (h : insB K C = true) : InsK K C := by
  unfold insB at h
  simp only [Bool.and_eq_true, List.all_eq_true, decide_eq_true_eq] at h
  exact ⟨h.1, h.2.1, h.2.2.1, fun n hn => (h.2.2.2 n hn).1, fun n hn => (h.2.2.2 n hn).2⟩
theorem tyName_mem (d : PyData) : tyName d ∈ tyNames := by cases d <;> simp [tyName, tyNames]
theorem InsK.ins {K : PySem.W.Frag} {C : Addr} (h : InsK K C) (c : Cls K C) (a : ClsAttr K) : C8.InsC K C := ⟨c, h.ha, a.1, a.2, h.hm, h.me⟩
section
variable {K : PySem.W.Frag} {σ : L2.St} {H : Hp} {Q : VK} {te : TE} {v : V} {d : PyData} {C : Addr}
theorem TyX_ins {a dx : Addr} {fs : List (Str × V)} (e : H a = some (.ins C dx fs)) (c : C8.InsC K C) : TyX K H (.ref a) (.ref C) := .base (.ins e c.cl c.ha c.hn c.htk c.hm)
/-- isinstance(x, C), C a plain class: data -/
theorem isiC_no (i : InsK K C) (ht : ∀ Q : VK, Q v H → te σ H Q) (hd : Dq H v d) (q : Q (.bl false) H) : tCB (rIsi K) (tCons te (tCons (tC (.ref C)) tNil)) σ H Q :=
  ht _ ⟨v, .ref C, _, _, false, rfl, .own C, dq_ty hd, i.no _ (tyName_mem d), q⟩
theorem isiC_yes {a dx : Addr} {fs : List (Str × V)} (i : C8.InsC K C) (ht : ∀ Q : VK, Q (.ref a) H → te σ H Q) (e : H a = some (.ins C dx fs)) (q : Q (.bl true) H) : tCB (rIsi K) (tCons te (tCons (tC (.ref C)) tNil)) σ H Q :=
  ht _ ⟨.ref a, .ref C, _, _, true, rfl, .own C, TyX_ins e i, i.me, q⟩
end
/-- x == y by x's own == -/
def rOwnE (K : PySem.W.Frag) (C : Addr) (sp : Sp) (E : XK) : R2 := fun x y H Q => ∃ a dx fs t, x = .ref a ∧ H a = some (.ins C dx fs) ∧ TyX K H y t ∧ PySem.W.notFirst K C t = true ∧ sp [.ref a, y] H (fun v H' => ∃ b, v = .bl b ∧ Q (.bl b) H') E
section
variable {X : Cx} {pins : List (Addr × Obj)} {σ : L2.St} {H : Hp} {s : Shared}
theorem op_ownE {CX : CXT} {C f : Addr} {fd : FuncData} {ps : List Str} {sp : Sp} {E : XK} {n : Nat} (F : FnOk X.prog X.w X.K X.mg X.base CX n f fd ps sp)
    (hs : PySem.W.findIn X.K (.ref C) "__eq__" = some (some (.ref f))) (hf : PySem.W.isFn X.K (.ref f) = true) (hb : Binds X.K fd ps []) (hx : Passes CX X E) (hr : Room n X.A) : OpR X (compareOp .Eq) (rOwnE X.K C sp E) := by
  intro pins s σ H x y v u Q I rx ry hq
  obtain ⟨a, dx, fs, t, rfl, ha, ty, nf, h⟩ := hq
  cases rx
  show wpAny (model X.prog X.w) X.A (richCompare .Eq (.ref a) u) (EP X pins σ Q) X.xe s
  obtain ⟨P, Z, p, _⟩ := kit_of I ry ty
  obtain ⟨mA, J, _⟩ := ins_get I.hok ha
  obtain ⟨od, J, _⟩ := J.look
  obtain ⟨m, hF⟩ := I.fr
  refine PySem.W.cmp_K (op := .Eq) (tb := t) hr.units0 hF I.ok.mod.kin J (Z.ty (model X.prog X.w) s.heap I.kIn p) nf hs hf ?_
  have hl := F.len _ _ _ _ h
  have r2 : Vals [V.ref a, y] [Value.ref a, u] := .cons rfl (.cons ry .nil)
  refine wpAny_call (codeAny_mono (F.run X.A X.stack s H ⟨[.ref a, u], []⟩ [.ref a, u] [.ref a, y] _ E hr I.env0 (by
    have := hb s [.ref a, u] I.kIn (by simpa using hl)
    simpa using this) r2 h) fun r s' hq => ?_)
  cases r with
  | error e => exact hx pins σ H s e s' I hq
  | ok fl =>
    cases fl with
    | ret w =>
      obtain ⟨z, H', I', rz, b, ez, q⟩ := I.after hq
      subst ez
      cases rz
      exact ⟨.bl b, H', I', rfl, q⟩
    | next => exact False.elim hq
    | brk => exact False.elim hq
    | cont => exact False.elim hq
end
end V2

set_option maxHeartbeats 4000000
/-! V2d: raise X() of a bare own class; comprehensions that make lists of data -/
namespace V2
open PySem PySem.Spec PyProof.Rows L2 V1
theorem pmk_mk0 {X : Cx} {C : Addr} {bmB : List Value} {B newId initId : String} {x : Str} {p pos : Pos} (F : ExcBaseFacts B newId initId bmB) (q : PySem.W.excIn X.K C bmB newId = true) (gC : X.mg x = some (.ref C)) (kC : PySem.W.keepIn X.K (.ref C) = true)
    (r : Raises X (.ref C)) (hg : Gl X x) (hdb : (x == ("__debug__" : Str)) = false := by decide) : PMk X (.Call (.Name x p) [] [] pos) (fun _ H Q => Q (.ref C) none H) := by
  intro pins s σ H Q I h
  refine wpAny_Call_Name_kw (ld_glob I hg gC ?_ hdb)
  refine PySem.W.callWith_K0 I.kIn kC ?_
  obtain ⟨bm, N, nm, qn, bs, hdct, sn, sub, ab, col, dd, k0, k1, k2, k3, k5, mN, hC, hN, hni, T⟩ := exc_obj I.kIn q
  refine wpAny_call_exc_subT F T hC hN hni (fun h' a hm => ?_) (Nat.zero_le _)
  exact mk_of I hm r h (I.hok.gone hm.new)
theorem DqAll.app {H : Hp} : ∀ {vs us : List V} {ds es : List PyData}, DqAll H vs ds → DqAll H us es → DqAll H (vs ++ us) (ds ++ es)
  | _, _, _, _, .nil, h => h
  | _, _, _, _, .cons one more, h => .cons one (DqAll.app more h)
theorem same_delD {H H' : Hp} {D : Addr} (h : Same H H') (n : H D = none) : Same H (delH H' D) := fun b o e => by
  rw [delH_ne (ne_of_none e n)]
  exact h b o e
/-- the list at D has come to acc, behind i turns; Pv tells of the heap without it -/
def Lc (D : Addr) (Pv : Nat → List V → Hp → Prop) (i : Nat) (H : Hp) : Prop := ∃ acc, acc.length ≤ i ∧ H D = some (.lst acc) ∧ Pv i acc (delH H D)
theorem lc_put {D : Addr} {Pv : Nat → List V → Hp → Prop} {i : Nat} {H : Hp} {acc : List V} {y : V} (l : acc.length ≤ i) (z : i < 1000) (e : H D = some (.lst acc)) (p : Pv (i + 1) (acc ++ [y]) (delH H D)) :
    ∃ acc, H D = some (.lst acc) ∧ acc.length < sizeLine ∧ Lc D Pv (i + 1) (upd H D (.lst (acc ++ [y]))) :=
  ⟨acc, e, Nat.lt_of_le_of_lt l (small1000 (by omega)), acc ++ [y], by rw [List.length_append]; simp; omega, upd_same, by rw [delH_upd]; exact p⟩
theorem lc_skip {D : Addr} {Pv : Nat → List V → Hp → Prop} {i : Nat} {H : Hp} {acc : List V} (l : acc.length ≤ i) (e : H D = some (.lst acc)) (p : Pv (i + 1) acc (delH H D)) : Lc D Pv (i + 1) H := ⟨acc, by omega, e, p⟩
theorem lc_gen {J : It} {n : Nat} {G : Hp → Prop} {Y : Nat → Hp → V → Hp → Prop} (w : Walk J n G Y) {g : TG} {tt : TT} {te : TE} {vs : List Nat} {σ : L2.St} {H1 : Hp} {D : Addr} {Qd : Hp → Prop} (nD : H1 D = none) (Pv : Nat → List V → Hp → Prop) (h0 : Pv 0 [] H1)
    (hG : ∀ i acc H, i ≤ n → Pv i acc (delH H D) → G H)
    (hs : ∀ i acc x H H', i < n → acc.length ≤ i → H D = some (.lst acc) → Pv i acc (delH H D) → Y i H x H' → g x (wipe σ vs) H' fun σ2 H2 => wipe σ2 vs = wipe σ vs ∧ tt σ2 H2 fun b H3 =>
      if b = true then te σ2 H3 fun y H4 => ∃ acc, H4 D = some (.lst acc) ∧ acc.length < sizeLine ∧ Lc D Pv (i + 1) (upd H4 D (.lst (acc ++ [y]))) else Lc D Pv (i + 1) H3)
    (hd : ∀ acc H, acc.length ≤ n → H D = some (.lst acc) → Pv n acc (delH H D) → Qd H) :
    ∃ W : Nat → Nat → Hp → Prop, (∃ m, W 0 m (upd H1 D (.lst []))) ∧ ∀ i m H, W i m H →
      (J.stop i H ∧ Qd H) ∨ (J.go i H ∧ ∃ Nx : Hp → Prop, (∀ H', Nx H' → ∃ m', m' < m ∧ W (i + 1) m' H') ∧ ∀ x H', J.yld i H x H' → g x (wipe σ vs) H' fun σ2 H2 => wipe σ2 vs = wipe σ vs ∧ tt σ2 H2 fun b H3 =>
        if b = true then te σ2 H3 fun y H4 => ∃ acc, H4 D = some (.lst acc) ∧ acc.length < sizeLine ∧ Nx (upd H4 D (.lst (acc ++ [y]))) else Nx H3) :=
  lc_it (σ := σ) w (Lc D Pv) ⟨[], Nat.le_refl _, upd_same, by rw [delH_new nD]; exact h0⟩ (fun i H hi ⟨acc, _, _, p⟩ => hG i acc H hi p) (fun i x H H' hi ⟨acc, l, e, p⟩ y => hs i acc x H H' hi l e p y) (fun H ⟨acc, l, e, p⟩ => hd acc H l e p)
/-- [.. for i in range(n)], no test, each item data made anew -/
theorem lc_rows {K : PySem.W.Frag} {n : Nat} (hz : n ≤ 1000) {te : TE} {i0 : Nat} {vs : List Nat} {σ : L2.St} {H1 : Hp} {D : Addr} {Qd : Hp → Prop} {lo : Int} (f : Nat → PyData) (nD : H1 D = none)
    (hw : ∀ x : V, wipe ((wipe σ vs).set i0 (some x)) vs = wipe σ vs)
    (mk : ∀ i, i < n → ∀ H, Same H1 (delH H D) → (∃ o, H D = some o) → ∀ Q : VK, (∀ v H', Same H H' → Dq (delH H' D) v (f i) → Q v H') → te ((wipe σ vs).set i0 (some (.int (lo + (i : Nat))))) H Q)
    (hd : ∀ us H, H D = some (.lst us) → Same H1 H → DqAll H us ((List.range n).map f) → Qd H) :
    ∃ W : Nat → Nat → Hp → Prop, (∃ m, W 0 m (upd H1 D (.lst []))) ∧ ∀ i m H, W i m H →
      ((Itr lo n).stop i H ∧ Qd H) ∨ ((Itr lo n).go i H ∧ ∃ Nx : Hp → Prop, (∀ H', Nx H' → ∃ m', m' < m ∧ W (i + 1) m' H') ∧ ∀ x H', (Itr lo n).yld i H x H' → gName i0 x (wipe σ vs) H' fun σ2 H2 => wipe σ2 vs = wipe σ vs ∧ tYes σ2 H2 fun b H3 =>
        if b = true then te σ2 H3 fun y H4 => ∃ acc, H4 D = some (.lst acc) ∧ acc.length < sizeLine ∧ Nx (upd H4 D (.lst (acc ++ [y]))) else Nx H3) := by
  refine lc_gen (σ := σ) walk_range nD (fun i acc H => Same H1 H ∧ DqAll H acc ((List.range i).map f)) ⟨Same.refl _, .nil⟩ (fun _ _ _ _ _ => True.intro) ?_ (fun acc H _ e p => hd acc H e (fun b o q => same_delH _ _ (p.1 _ _ q)) (DqAll.same same_delH _ _ p.2))
  rintro i acc x H H' hi l e ⟨sm, p⟩ ⟨rfl, rfl⟩
  refine ⟨hw _, ?_⟩
  simp only [tYes, if_true]
  refine mk i hi H' sm ⟨_, e⟩ _ fun v H2 s2 q2 => ?_
  refine lc_put l (by omega) (s2 _ _ e) ⟨fun b o q => ?_, ?_⟩
  · exact same_del s2 _ _ (sm _ _ q)
  · rw [List.range_succ, List.map_append]
    exact DqAll.app (DqAll.same (same_del s2) _ _ p) (.cons q2 .nil)
end V2

set_option maxHeartbeats 4000000
/-! V2e: C(..) of a plain class within try; isinstance of the caught exception that has a field -/
namespace V2
open PySem PySem.Spec PyProof.Rows L2 V1
def HasC (P : Program) (w : World) (K : PySem.W.Frag) (mg : Str → Option Value) (base : Heap) (CX : CXT) (k : Nat) (x : Str) (ps : List Str) (sp : Sp) : Prop :=
  ∃ fI fd, Mk K (He.ga K x) fI ∧ FnOk P w K mg base CX k fI fd ps sp ∧ Binds K fd ps [] ∧ mg x = some (.ref (He.ga K x))
theorem pe_hasC {X : Cx} {CX : CXT} {k : Nat} {x : Str} {ps : List Str} {sp : Sp} {E : XK} {e : Expr} {es : List Expr} {t : TA} {p pos : Pos} (h : HasC X.prog X.w X.K X.mg X.base CX k x ps sp) (hr : Room (k + 1) X.A) (hx : Passes CX X E) (ha : PA X (e :: es) t) (hg : Gl X x := by rfl)
    (hdb : (x == ("__debug__" : Str)) = false := by decide) (he : starEach (e :: es) X.env = (false, eval e X.env) :: starEach es X.env := by rfl) (hpl : (backTo pos (starEach es X.env)).any (·.1) = false := by rfl) :
    PE X (.Call (.Name x p) (e :: es) [] pos) (tMake (He.ga X.K x) sp [] E t) := by
  obtain ⟨fI, fd, M, F, b, g⟩ := h
  exact pe_make M F hr hg g b .nil hx ha hdb he hpl
/-- C(..), what it lets out by the slots -/
def tMakeS (C : Addr) (sp : Sp) (E : L2.St → XK) (t : TA) : TE := fun σ H Q => tMake C sp [] (E σ) t σ H Q
theorem pe_hasCS {X : Cx} {CX : CXT} {k : Nat} {x : Str} {ps : List Str} {sp : Sp} {E : L2.St → XK} {e : Expr} {es : List Expr} {t : TA} {p pos : Pos} (h : HasC X.prog X.w X.K X.mg X.base CX k x ps sp) (hr : Room (k + 1) X.A) (hx : ∀ σ, PassesAt CX X σ (E σ)) (ha : PA X (e :: es) t) (hg : Gl X x := by rfl)
    (hdb : (x == ("__debug__" : Str)) = false := by decide) (he : starEach (e :: es) X.env = (false, eval e X.env) :: starEach es X.env := by rfl) (hpl : (backTo pos (starEach es X.env)).any (·.1) = false := by rfl) :
    PE X (.Call (.Name x p) (e :: es) [] pos) (tMakeS (He.ga X.K x) sp E t) := by
  obtain ⟨fI, fd, M, F, b, g⟩ := h
  constructor
  intro pins s σ H Q I h
  refine wpAny_Call_Name_kw (ld_glob I hg g ?_ hdb)
  refine PySem.W.callWith_K (h₀ := X.base) I.ok.mod.kin M.kp (thn (ha.run pos pins s σ H _ I h) fun us t1 hh => ?_) he hpl
  obtain ⟨vs, H1, J, rv, q⟩ := hh
  refine ⟨J.kIn, ?_⟩
  have q1 := q (t1.heap.objs.size + 1) t1.heap.objs.size (J.hok.fresh (Nat.le_succ _)) (J.hok.fresh (Nat.le_refl _)) (Nat.ne_of_lt (Nat.lt_succ_self _))
  rw [List.append_nil] at q1
  have J2 := Inv.made (C := He.ga X.K x) J
  have rv2 : Vals (V.ref (t1.heap.objs.size + 1) :: vs) (Value.ref (t1.heap.objs.size + 1) :: us) := .cons rfl rv
  have ln : (Value.ref (t1.heap.objs.size + 1) :: us).length = ps.length := rv2.length.symm.trans (F.len _ _ _ _ q1)
  have bd := b _ (Value.ref (t1.heap.objs.size + 1) :: us) J2.kIn (by rw [List.append_nil]; exact ln)
  rw [List.append_nil] at bd
  refine wpAny_call (make_map (f := fI) J.kIn M.makes M.init (beq_iff_eq.mp M.fn) (codeAny_mono (F.run _ X.stack _ _ ⟨Value.ref (t1.heap.objs.size + 1) :: us, []⟩ _ _ _ (E σ) (hr.make (He.ga X.K x) us [])
    (J2.env0.make (He.ga X.K x) us []) bd rv2 q1) fun r s' hq => ?_))
  match r, hq with
  | .error e, hq => exact hx σ pins _ _ e s' J2 hq
  | .ok (.ret u), hq =>
    obtain ⟨z, H', J3, rz, ez, q3⟩ := J2.after hq
    subst ez
    exact ⟨rz, ⟨V.ref (t1.heap.objs.size + 1), H', J3, rfl, q3⟩⟩
  | .ok .next, hq => exact False.elim hq
  | .ok .brk, hq => exact False.elim hq
  | .ok .cont, hq => exact False.elim hq
/-- isinstance(e, c), e the caught exception, with its dict -/
def rIsXd (K : PySem.W.Frag) (a C : Addr) (cls : Value) (d : Option Addr) : List V → Hp → VK → Prop := fun xs H Q => cls = .ref C ∧ ∃ (c : V) (u : Value) (b : Bool) (dd : Addr) (fs : List (Str × V)), xs = [.ref a, c] ∧ ClsV c u ∧ PySem.W.kitOne K (.ref C) u = some b ∧ d = some dd ∧ H dd = some (.xd fs) ∧ Q (.bl b) H
theorem call_isXd {X : Cx} {a C : Addr} {oe : Obj} {cls : Value} {d : Option Addr} {pn : List (Addr × Obj)} {bm : List Value} (T : ExK X.K C bm) (cA : ClsAttr X.K) (hB : (Value.ref C :: bm).contains (.type "BaseException") = true) (hO : (Value.ref C :: bm).contains (.type "object") = true)
    (hz : Zc cls d oe) (hf : ∃ vs, oe.data = .fields vs) : CallR (X.suite a ((a, oe) :: pn)) (.builtin "isinstance") (rIsXd X.K a C cls d) := by
  intro pins s σ H xs us Q I r h
  obtain ⟨rfl, c, u, b, dd, fs, rfl, k, e, rfl, ea, q⟩ := h
  obtain ⟨w1, w2, rfl, r1, r2⟩ := vals2 r
  obtain rfl : w1 = Value.ref a := r1
  have e2 := k.eq r2
  subst e2
  obtain ⟨ha, _⟩ := I.pin (a, oe) (List.mem_append_left _ List.mem_cons_self)
  obtain ⟨vs, hd⟩ := hf
  have hx : ObjOk X.prog X.w H s.heap dd (.xd fs) := I.hok dd _ ea
  obtain ⟨mA, hns, hr⟩ := hx
  obtain ⟨od, ho, hl⟩ := lookIn_ns hns
  have J : PySem.W.InstAt s.heap a oe C (some od) := ⟨ha, hz.1, by unfold PySem.W.notCls; rw [hd] <;> rfl, by rw [hz.2]; exact ho⟩
  exact PySem.W.kia_one (PySem.W.kitx_exc T.isCls T.ga T.gg (by rw [T.sub, hB]) T.cl cA.gs cA.tk (by rw [T.mro, hO])) I.kIn J e (fun z => nomatch z) fun tk => ⟨.bl b, H, I.tok tk, rfl, q⟩
end V2

set_option maxHeartbeats 4000000
/-! V2f: data at new places only (beside a hand, beside a list that will change) -/
namespace V2
open PySem PySem.Spec PyProof.Rows L2 V1
/-- H, but only what is new behind H0 -/
def newH (H0 H : Hp) : Hp := fun b => match H0 b with
  | none => H b
  | some _ => none
theorem newH_at {H0 H : Hp} {b : Addr} (n : H0 b = none) : newH H0 H b = H b := by
  unfold newH
  rw [n]
theorem newH_old {H0 H : Hp} {b : Addr} {o : HO} (n : H0 b = some o) : newH H0 H b = none := by
  unfold newH
  rw [n]
theorem newH_some {H0 H : Hp} {b : Addr} {o : HO} (h : newH H0 H b = some o) : H0 b = none ∧ H b = some o := by
  cases e : H0 b with
  | none => exact ⟨rfl, by rw [newH_at e] at h; exact h⟩
  | some u =>
    rw [newH_old e] at h
    cases h
theorem newH_sub {H0 H : Hp} : Same (newH H0 H) H := fun _ _ e => (newH_some e).2
theorem newH_up {H0 H H' : Hp} (s : Same H H') : Same (newH H0 H) (newH H0 H') := fun b o e => by
  obtain ⟨n, h⟩ := newH_some e
  rw [newH_at n]
  exact s _ _ h
theorem newH_on {H0 H1 H : Hp} (s : Same H0 H1) : Same (newH H1 H) (newH H0 H) := fun b o e => by
  obtain ⟨n, h⟩ := newH_some e
  have z : H0 b = none := by
    cases q : H0 b with
    | none => rfl
    | some u =>
      rw [s _ _ q] at n
      cases n
  rw [newH_at z]
  exact h
theorem newH_off {H0 H : Hp} {a : Addr} (h : Held H0 a) : Same (newH H0 H) (delH H a) := fun b o e => by
  obtain ⟨n, q⟩ := newH_some e
  obtain ⟨u, hu⟩ := h
  rw [delH_ne (Ne.symm (ne_of_none hu n))]
  exact q
theorem newH_off2 {H0 H : Hp} {a f : Addr} (h : Held H0 a) (hf : Held H0 f) : Same (newH H0 H) (delH (delH H a) f) := fun b o e => by
  obtain ⟨n, q⟩ := newH_some e
  obtain ⟨u, hu⟩ := hf
  rw [delH_ne (Ne.symm (ne_of_none hu n))]
  exact newH_off h b o e
/-- te makes this data at new places -/
def MkN (te : TE) (σ : L2.St) (d : PyData) : Prop := ∀ H, ∀ Q : VK, (∀ v H', Same H H' → Dq (newH H H') v d → Q v H') → te σ H Q
def MkNA (ta : TA) (σ : L2.St) (ds : List PyData) : Prop := ∀ H, ∀ Q : List V → Hp → Prop, (∀ vs H', Same H H' → DqAll (newH H H') vs ds → Q vs H') → ta σ H Q
section
variable {σ : L2.St} {d : PyData} {ds : List PyData} {te : TE} {ta : TA}
theorem mkn_non : MkN (tC .non) σ .none := fun H _ k => k _ H (Same.refl H) .non
theorem mkn_bl (b : Bool) : MkN (tC (.bl b)) σ (.bool b) := fun H _ k => k _ H (Same.refl H) (.bl b)
theorem mkn_int (i : Int) : MkN (tC (.int i)) σ (.int i) := fun H _ k => k _ H (Same.refl H) (.int i)
theorem mkn_str (x : Str) : MkN (tC (.str x)) σ (.str x) := fun H _ k => k _ H (Same.refl H) (.str x)
theorem mkna_nil : MkNA tNil σ [] := fun H _ k => k [] H (Same.refl H) .nil
theorem mkna_cons (h : MkN te σ d) (r : MkNA ta σ ds) : MkNA (tCons te ta) σ (d :: ds) := fun H _ k => h H _ fun v H1 s1 q1 => r H1 _ fun vs H2 s2 q2 =>
  k (v :: vs) H2 (s1.trans s2) (.cons (Dq.same (newH_up s2) d v q1) (DqAll.same (newH_on s1) ds vs q2))
theorem mkn_tup (r : MkNA ta σ ds) (hz : ds.length ≤ 1000) : MkN (tTup ta) σ (.tuple ds) := fun H _ k => r H _ fun vs H1 s1 q1 =>
  ⟨Nat.le_of_lt (small1000 (by rw [dqAll_len q1]; exact hz)), fun p n => k _ _ (s1.trans (same_new n)) (.tup (by rw [newH_at (fresh_up s1 n)]; exact upd_same) (DqAll.same (newH_up (same_new n)) ds vs q1))⟩
theorem mkn_lst (r : MkNA ta σ ds) (hz : ds.length ≤ 1000) : MkN (tLstS ta) σ (.list ds) := fun H _ k => r H _ fun vs H1 s1 q1 =>
  ⟨Nat.le_of_lt (small1000 (by rw [dqAll_len q1]; exact hz)), fun p n low => k _ _ (s1.trans (same_new n)) (.lst (by rw [newH_at (fresh_up s1 n)]; exact upd_same) low (DqAll.same (newH_up (same_new n)) ds vs q1))⟩
theorem mkn_dict0 : MkN tDNewK σ (.dict []) := fun H _ k p n => k _ _ (same_new n) (.dct (by rw [newH_at n]; exact upd_same) .nil)
end
end V2

set_option maxHeartbeats 4000000
/-! V2g: data made beside a hand at a and a list at f, from the heap H0 on (old data may be within) -/
namespace V2
open PySem PySem.Spec PyProof.Rows L2 V1
def MkR (H0 : Hp) (a f : Addr) (te : TE) (σ : L2.St) (d : PyData) : Prop := ∀ H, Same H0 H → ∀ Q : VK, (∀ v H', Same H H' → Dq (delH (delH H' a) f) v d → Q v H') → te σ H Q
def MkRA (H0 : Hp) (a f : Addr) (ta : TA) (σ : L2.St) (ds : List PyData) : Prop := ∀ H, Same H0 H → ∀ Q : List V → Hp → Prop, (∀ vs H', Same H H' → DqAll (delH (delH H' a) f) vs ds → Q vs H') → ta σ H Q
section
variable {H0 : Hp} {a f : Addr} {σ : L2.St} {d : PyData} {ds : List PyData} {te : TE} {ta : TA}
theorem mkr_new (ha : Held H0 a) (hf : Held H0 f) (h : MkN te σ d) : MkR H0 a f te σ d := fun H s Q k => h H Q fun v H' s' q => k v H' s' (Dq.same (newH_off2 (ha.same s) (hf.same s)) _ _ q)
theorem mkra_nil : MkRA H0 a f tNil σ [] := fun H _ _ k => k [] H (Same.refl H) .nil
theorem mkra_cons (h : MkR H0 a f te σ d) (r : MkRA H0 a f ta σ ds) : MkRA H0 a f (tCons te ta) σ (d :: ds) := fun H s _ k => h H s _ fun v H1 s1 q1 => r H1 (s.trans s1) _ fun vs H2 s2 q2 =>
  k (v :: vs) H2 (s1.trans s2) (.cons (Dq.same (same_del (same_del s2)) d v q1) q2)
theorem mkr_lst (ha : Held H0 a) (hf : Held H0 f) (r : MkRA H0 a f ta σ ds) (hz : ds.length ≤ 1000) : MkR H0 a f (tLstS ta) σ (.list ds) := fun H s _ k => r H s _ fun vs H1 s1 q1 =>
  ⟨Nat.le_of_lt (small1000 (by rw [dqAll_len q1]; exact hz)), fun p n low => k _ _ (s1.trans (same_new n)) (.lst (by
    obtain ⟨u, hu⟩ := ha.same (s.trans s1)
    obtain ⟨w, hw⟩ := hf.same (s.trans s1)
    rw [delH_ne (Ne.symm (ne_of_none hw n)), delH_ne (Ne.symm (ne_of_none hu n))]
    exact upd_same) low (DqAll.same (same_del (same_del (same_new n))) ds vs q1))⟩
/-- what stands already -/
theorem mkr_old {v : V} (h : Dq (delH (delH H0 a) f) v d) (ht : ∀ H, Same H0 H → ∀ Q : VK, Q v H → te σ H Q) : MkR H0 a f te σ d := fun H s Q k => ht H s Q (k v H (Same.refl H) (Dq.same (same_del (same_del s)) _ _ h))
end
end V2

set_option maxHeartbeats 4000000
/-! V3a: data with objects of plain classes in it: the shape of an object is objD, a dict that no dict has -/
namespace V3
open PySem PySem.Spec PyProof.Rows L2 V1 V2
class CurK where
  K : PySem.W.Frag
abbrev K [k : CurK] : PySem.W.Frag := k.K
def kindNames : List String := ["int", "bool", "str", "tuple", "list", "dict"]
/-- what more is asked of a plain class: its objects are of no built-in kind -/
def kindB (K : PySem.W.Frag) (C : Addr) : Bool := kindNames.all fun n => decide (PySem.W.kitOne K (.ref C) (.type n) = some false)
structure ObC [CurK] (C : Addr) : Prop where
  ins : C8.InsC K C
  no : ∀ n ∈ kindNames, PySem.W.kitOne K (.ref C) (.type n) = some false
theorem obC_of [CurK] {C : Addr} (i : C8.InsC K C) (h : kindB K C = true) : ObC C := ⟨i, fun n hn => by
  unfold kindB at h
  rw [List.all_eq_true] at h
  exact of_decide_eq_true (h n hn)⟩
def objD : PyData := .dict [(.none, .none)]
mutual
inductive Dx [CurK] (H : Hp) : V → PyData → Prop
  | non : Dx H .non .none
  | bl (b : Bool) : Dx H (.bl b) (.bool b)
  | int (i : Int) : Dx H (.int i) (.int i)
  | str (x : Str) : Dx H (.str x) (.str x)
  | lst {a : Addr} {xs : List V} {ds : List PyData} (at_ : H a = some (.lst xs)) (low : (a == sysModules) = false) (rest : DxAll H xs ds) : Dx H (.ref a) (.list ds)
  | tup {a : Addr} {xs : List V} {ds : List PyData} (at_ : H a = some (.tup xs)) (rest : DxAll H xs ds) : Dx H (.ref a) (.tuple ds)
  | dct {a : Addr} {kvs : List (Key × V)} {ds : List (PyData × PyData)} (at_ : H a = some (.dK kvs)) (rest : DxKv H kvs ds) : Dx H (.ref a) (.dict ds)
  | ob {a C dx : Addr} {fs : List (Str × V)} (at_ : H a = some (.ins C dx fs)) (ok : ObC C) : Dx H (.ref a) objD
inductive DxAll [CurK] (H : Hp) : List V → List PyData → Prop
  | nil : DxAll H [] []
  | cons {v : V} {vs : List V} {d : PyData} {ds : List PyData} (one : Dx H v d) (more : DxAll H vs ds) : DxAll H (v :: vs) (d :: ds)
inductive DxKv [CurK] (H : Hp) : List (Key × V) → List (PyData × PyData) → Prop
  | nil : DxKv H [] []
  | cons {k : Key} {v : V} {kvs : List (Key × V)} {d : PyData} {ds : List (PyData × PyData)} (one : Dx H v d) (more : DxKv H kvs ds) : DxKv H ((k, v) :: kvs) ((keyD k, d) :: ds)
end
section
variable [CurK] {H H' : Hp}
mutual
theorem Dx.same (e : Same H H') : ∀ (d : PyData) (v : V), Dx H v d → Dx H' v d
  | .none, _, h => by cases h; exact .non
  | .bool b, _, h => by cases h; exact .bl b
  | .int i, _, h => by cases h; exact .int i
  | .str x, _, h => by cases h; exact .str x
  | .list ds, _, h => by
    cases h with
    | lst at_ low rest => exact .lst (e _ _ at_) low (DxAll.same e ds _ rest)
  | .tuple ds, _, h => by
    cases h with
    | tup at_ rest => exact .tup (e _ _ at_) (DxAll.same e ds _ rest)
  | .dict ds, _, h => by
    cases h with
    | dct at_ rest => exact .dct (e _ _ at_) (DxKv.same e ds _ rest)
    | ob at_ ok => exact .ob (e _ _ at_) ok
theorem DxAll.same (e : Same H H') : ∀ (ds : List PyData) (vs : List V), DxAll H vs ds → DxAll H' vs ds
  | [], _, h => by cases h; exact .nil
  | d :: ds, _, h => by
    cases h with
    | cons one more => exact .cons (Dx.same e d _ one) (DxAll.same e ds _ more)
theorem DxKv.same (e : Same H H') : ∀ (ds : List (PyData × PyData)) (kvs : List (Key × V)), DxKv H kvs ds → DxKv H' kvs ds
  | [], _, h => by cases h; exact .nil
  | (k, d) :: ds, _, h => by
    cases h with
    | cons one more => exact .cons (Dx.same e d _ one) (DxKv.same e ds _ more)
end
/-! plain data are such data -/
mutual
theorem dx_of : ∀ (d : PyData) (v : V), Dq H v d → Dx H v d
  | .none, _, h => by cases h; exact .non
  | .bool b, _, h => by cases h; exact .bl b
  | .int i, _, h => by cases h; exact .int i
  | .str x, _, h => by cases h; exact .str x
  | .list ds, _, h => by
    cases h with
    | lst at_ low rest => exact .lst at_ low (dxAll_of ds _ rest)
  | .tuple ds, _, h => by
    cases h with
    | tup at_ rest => exact .tup at_ (dxAll_of ds _ rest)
  | .dict ds, _, h => by
    cases h with
    | dct at_ rest => exact .dct at_ (dxKv_of ds _ rest)
theorem dxAll_of : ∀ (ds : List PyData) (vs : List V), DqAll H vs ds → DxAll H vs ds
  | [], _, h => by cases h; exact .nil
  | d :: ds, _, h => by
    cases h with
    | cons one more => exact .cons (dx_of d _ one) (dxAll_of ds _ more)
theorem dxKv_of : ∀ (ds : List (PyData × PyData)) (kvs : List (Key × V)), DqKv H kvs ds → DxKv H kvs ds
  | [], _, h => by cases h; exact .nil
  | (k, d) :: ds, _, h => by
    cases h with
    | cons one more => exact .cons (dx_of d _ one) (dxKv_of ds _ more)
end
/-! such data without dicts have no objects either -/
mutual
theorem dq_of : ∀ (d : PyData) (v : V), V2.plain d = true → Dx H v d → Dq H v d
  | .none, _, _, h => by cases h; exact .non
  | .bool b, _, _, h => by cases h; exact .bl b
  | .int i, _, _, h => by cases h; exact .int i
  | .str x, _, _, h => by cases h; exact .str x
  | .list ds, _, p, h => by
    cases h with
    | lst at_ low rest => exact .lst at_ low (dqAll_of ds _ (by simpa [V2.plain] using p) rest)
  | .tuple ds, _, p, h => by
    cases h with
    | tup at_ rest => exact .tup at_ (dqAll_of ds _ (by simpa [V2.plain] using p) rest)
  | .dict ds, _, p, h => by simp [V2.plain] at p
theorem dqAll_of : ∀ (ds : List PyData) (vs : List V), plainAll ds = true → DxAll H vs ds → DqAll H vs ds
  | [], _, _, h => by cases h; exact .nil
  | d :: ds, _, p, h => by
    cases h with
    | cons one more =>
      have p' : V2.plain d = true ∧ plainAll ds = true := by simpa [plainAll] using p
      exact .cons (dq_of d _ p'.1 one) (dqAll_of ds _ p'.2 more)
end
theorem Dx.int_inv {v : V} {n : Int} (h : Dx H v (.int n)) : v = .int n := by
  cases h
  rfl
theorem Dx.str_inv {v : V} {n : Str} (h : Dx H v (.str n)) : v = .str n := by
  cases h
  rfl
theorem Dx.bool_inv {v : V} {n : Bool} (h : Dx H v (.bool n)) : v = .bl n := by
  cases h
  rfl
theorem Dx.none_inv {v : V} (h : Dx H v .none) : v = .non := by
  cases h
  rfl
theorem Dx.tup_inv {v : V} {ds : List PyData} (h : Dx H v (.tuple ds)) : ∃ a vs, v = .ref a ∧ H a = some (.tup vs) ∧ DxAll H vs ds := by
  cases h with
  | tup e r => exact ⟨_, _, rfl, e, r⟩
theorem Dx.lst_inv {v : V} {ds : List PyData} (h : Dx H v (.list ds)) : ∃ a vs, v = .ref a ∧ H a = some (.lst vs) ∧ (a == sysModules) = false ∧ DxAll H vs ds := by
  cases h with
  | lst e l r => exact ⟨_, _, rfl, e, l, r⟩
theorem dxAll_len : ∀ {vs : List V} {ds : List PyData}, DxAll H vs ds → vs.length = ds.length
  | _, _, .nil => rfl
  | _, _, .cons _ more => by rw [List.length_cons, List.length_cons, dxAll_len more]
theorem DxAll.at : ∀ {vs : List V} {ds : List PyData} {j : Nat} {v : V} {d : PyData}, DxAll H vs ds → vs[j]? = some v → ds[j]? = some d → Dx H v d
  | _ :: _, _ :: _, 0, _, _, .cons one _, e, e' => by
    obtain rfl := Option.some.inj e
    obtain rfl := Option.some.inj e'
    exact one
  | _ :: _, _ :: _, j + 1, _, _, .cons _ more, e, e' => DxAll.at (j := j) more e e'
theorem DxAll.some : ∀ {vs : List V} {ds : List PyData} {i : Nat} {v : V}, DxAll H vs ds → vs[i]? = some v → ∃ d, d ∈ ds ∧ Dx H v d
  | _, _, 0, _, .cons one _, h => ⟨_, List.mem_cons_self, Option.some.inj h ▸ one⟩
  | _, _, i + 1, _, .cons _ more, h => by
    obtain ⟨d, m, q⟩ := DxAll.some (i := i) more h
    exact ⟨d, List.mem_cons_of_mem _ m, q⟩
theorem DxAll.take : ∀ {vs : List V} {ds : List PyData} (n : Nat), DxAll H vs ds → DxAll H (vs.take n) (ds.take n)
  | _, _, 0, _ => by
    rw [List.take_zero, List.take_zero]
    exact .nil
  | _, _, _ + 1, .nil => .nil
  | _, _, n + 1, .cons one more => .cons one (DxAll.take n more)
theorem DxAll.drop : ∀ {vs : List V} {ds : List PyData} (n : Nat), DxAll H vs ds → DxAll H (vs.drop n) (ds.drop n)
  | _, _, 0, h => h
  | _, _, _ + 1, .nil => .nil
  | _, _, n + 1, .cons _ more => DxAll.drop n more
theorem DxAll.app : ∀ {vs us : List V} {ds es : List PyData}, DxAll H vs ds → DxAll H us es → DxAll H (vs ++ us) (ds ++ es)
  | _, _, _, _, .nil, h => h
  | _, _, _, _, .cons one more, h => .cons one (DxAll.app more h)
theorem DxAll.insAt {vs : List V} {ds : List PyData} {v : V} {d : PyData} (h : DxAll H vs ds) (hv : Dx H v d) (i : Nat) : DxAll H (vs.take i ++ [v] ++ vs.drop i) (ds.take i ++ [d] ++ ds.drop i) :=
  DxAll.app (DxAll.app (DxAll.take i h) (.cons hv .nil)) (DxAll.drop i h)
theorem DxAll.erase : ∀ {vs : List V} {ds : List PyData} (n : Nat), DxAll H vs ds → DxAll H (vs.eraseIdx n) (ds.eraseIdx n)
  | _, _, _, .nil => .nil
  | _, _, 0, .cons _ more => more
  | _, _, n + 1, .cons one more => .cons one (DxAll.erase n more)
theorem DxAll.put {v : V} {d : PyData} (hv : Dx H v d) : ∀ {vs : List V} {ds : List PyData} (n : Nat), DxAll H vs ds → DxAll H (vs.set n v) (ds.set n d)
  | _, _, _, .nil => .nil
  | _, _, 0, .cons _ more => .cons hv more
  | _, _, n + 1, .cons one more => .cons one (DxAll.put hv n more)
end
/-! the kind of such data -/
section
variable [CurK] {σ : L2.St} {H : Hp} {Q : VK} {te : TE} {v : V} {d : PyData} {n n1 n2 : String} {b b1 b2 : Bool}
/-- the answers of isinstance for this shape -/
def KindIs (d : PyData) (n : String) (b : Bool) : Prop := kitB (tyName d) n = some b ∧ n ∈ kindNames ∧ (d = objD → b = false)
theorem kx_of (k : KindIs d n b) (h : Dx H v d) : ∃ t, TyX K H v t ∧ PySem.W.kitOne K t (.type n) = some b := by
  obtain ⟨k1, k2, k3⟩ := k
  have z := kit_ty (K := K) k1
  cases h with
  | non => exact ⟨_, .base .non, z⟩
  | bl b => exact ⟨_, .base (.bl b), z⟩
  | int i => exact ⟨_, .base (.int i), z⟩
  | str x => exact ⟨_, .base (.str x), z⟩
  | lst e _ _ => exact ⟨_, .base (.lst e), z⟩
  | tup e _ => exact ⟨_, .base (.tup e), z⟩
  | dct e _ => exact ⟨_, .base (.dK e), z⟩
  | ob e ok => exact ⟨_, TyX_ins e ok.ins, by rw [k3 rfl]; exact ok.no _ k2⟩
theorem kx_tup (d : PyData) : KindIs d "tuple" (isTup d) := ⟨kit_tup d, by decide, fun e => by rw [e]; rfl⟩
theorem kx_lst (d : PyData) : KindIs d "list" (isLst d) := ⟨kit_lst d, by decide, fun e => by rw [e]; rfl⟩
theorem kx_int (d : PyData) : KindIs d "int" (isInt d || isBool d) := ⟨kit_int d, by decide, fun e => by rw [e]; rfl⟩
theorem kx_bool (d : PyData) : KindIs d "bool" (isBool d) := ⟨kit_bool d, by decide, fun e => by rw [e]; rfl⟩
theorem kx_str (d : PyData) : KindIs d "str" (isStr d) := ⟨kit_str d, by decide, fun e => by rw [e]; rfl⟩
theorem isx_go (hb : KindIs d n b) (ht : ∀ Q : VK, Q v H → te σ H Q) (hd : Dx H v d) (q : Q (.bl b) H) : tCB (rIsi K) (tCons te (tCons (tC (.ty n)) tNil)) σ H Q := by
  obtain ⟨t, ty, k⟩ := kx_of hb hd
  exact ht _ ⟨v, .ty n, _, _, b, rfl, .ty n, ty, k, q⟩
/-- isinstance(x, (T1, T2)) -/
theorem isxT_go (h1 : KindIs d n1 b1) (h2 : KindIs d n2 b2) (ht : ∀ Q : VK, Q v H → te σ H Q) (hd : Dx H v d) (q : ∀ p, H p = none → Q (.bl (b1 || b2)) (upd H p (.tup [.ty n1, .ty n2]))) :
    tCB (rIsiT K) (tCons te (tCons (tTup (tCons (tC (.ty n1)) (tCons (tC (.ty n2)) tNil))) tNil)) σ H Q :=
  ht _ ⟨(by show 2 ≤ sizeLine; decide), fun p np => by
    have hd' := Dx.same (same_new (o := HO.tup [.ty n1, .ty n2]) np) d v hd
    have z : ∃ t, TyX K (upd H p (.tup [.ty n1, .ty n2])) v t ∧ PySem.W.kitOne K t (.type n1) = some b1 ∧ PySem.W.kitOne K t (.type n2) = some b2 := by
      obtain ⟨k1, k2, k3⟩ := h1
      obtain ⟨m1, m2, m3⟩ := h2
      have z1 := kit_ty (K := K) k1
      have z2 := kit_ty (K := K) m1
      cases hd' with
      | non => exact ⟨_, .base .non, z1, z2⟩
      | bl b => exact ⟨_, .base (.bl b), z1, z2⟩
      | int i => exact ⟨_, .base (.int i), z1, z2⟩
      | str x => exact ⟨_, .base (.str x), z1, z2⟩
      | lst e _ _ => exact ⟨_, .base (.lst e), z1, z2⟩
      | tup e _ => exact ⟨_, .base (.tup e), z1, z2⟩
      | dct e _ => exact ⟨_, .base (.dK e), z1, z2⟩
      | ob e ok => exact ⟨_, TyX_ins e ok.ins, by rw [k3 rfl]; exact ok.no _ k2, by rw [m3 rfl]; exact ok.no _ m2⟩
    obtain ⟨t, ty, e1, e2⟩ := z
    refine ⟨v, p, _, _, _, b1 || b2, rfl, upd_same, .cons (.ty n1) (.cons (.ty n2) .nil), ty, ?_, q p np⟩
    show (match PySem.W.kitOne K t (.type n1) with
      | Option.some true => Option.some true
      | Option.some false => (match PySem.W.kitOne K t (.type n2) with
        | Option.some true => Option.some true
        | Option.some false => Option.some false
        | Option.none => Option.none)
      | Option.none => Option.none) = _
    rw [e1, e2]
    cases b1 <;> cases b2 <;> rfl⟩
end
/-! made at new places; made beside a hand -/
def MkX [CurK] (te : TE) (σ : L2.St) (d : PyData) : Prop := ∀ H, ∀ Q : VK, (∀ v H', Same H H' → Dx (newH H H') v d → Q v H') → te σ H Q
def MkXA [CurK] (ta : TA) (σ : L2.St) (ds : List PyData) : Prop := ∀ H, ∀ Q : List V → Hp → Prop, (∀ vs H', Same H H' → DxAll (newH H H') vs ds → Q vs H') → ta σ H Q
def MkY [CurK] (H0 : Hp) (a : Addr) (te : TE) (σ : L2.St) (d : PyData) : Prop := ∀ H, Same H0 H → ∀ Q : VK, (∀ v H', Same H H' → Dx (delH H' a) v d → Q v H') → te σ H Q
def MkYA [CurK] (H0 : Hp) (a : Addr) (ta : TA) (σ : L2.St) (ds : List PyData) : Prop := ∀ H, Same H0 H → ∀ Q : List V → Hp → Prop, (∀ vs H', Same H H' → DxAll (delH H' a) vs ds → Q vs H') → ta σ H Q
section
variable [CurK] {σ : L2.St} {d : PyData} {ds : List PyData} {te : TE} {ta : TA}
theorem mkx_of (h : MkN te σ d) : MkX te σ d := fun H Q k => h H Q fun v H' s q => k v H' s (dx_of d v q)
theorem mkxa_nil : MkXA tNil σ [] := fun H _ k => k [] H (Same.refl H) .nil
theorem mkxa_cons (h : MkX te σ d) (r : MkXA ta σ ds) : MkXA (tCons te ta) σ (d :: ds) := fun H _ k => h H _ fun v H1 s1 q1 => r H1 _ fun vs H2 s2 q2 =>
  k (v :: vs) H2 (s1.trans s2) (.cons (Dx.same (newH_up s2) d v q1) (DxAll.same (newH_on s1) ds vs q2))
theorem mkx_tup (r : MkXA ta σ ds) (hz : ds.length ≤ 1000) : MkX (tTup ta) σ (.tuple ds) := fun H _ k => r H _ fun vs H1 s1 q1 =>
  ⟨Nat.le_of_lt (small1000 (by rw [dxAll_len q1]; exact hz)), fun p n => k _ _ (s1.trans (same_new n)) (.tup (by rw [newH_at (fresh_up s1 n)]; exact upd_same) (DxAll.same (newH_up (same_new n)) ds vs q1))⟩
theorem mkx_lst (r : MkXA ta σ ds) (hz : ds.length ≤ 1000) : MkX (tLstS ta) σ (.list ds) := fun H _ k => r H _ fun vs H1 s1 q1 =>
  ⟨Nat.le_of_lt (small1000 (by rw [dxAll_len q1]; exact hz)), fun p n low => k _ _ (s1.trans (same_new n)) (.lst (by rw [newH_at (fresh_up s1 n)]; exact upd_same) low (DxAll.same (newH_up (same_new n)) ds vs q1))⟩
end
end V3

set_option maxHeartbeats 4000000
/-! V3b: xs.extend(t), t a tuple; more of data made beside a hand -/
namespace V3
open PySem PySem.Spec PyProof.Rows L2 V1 V2
open AutoSeq1
theorem extend_tup (l : Addr) (xs : Array Value) (n : Nat) (b : Addr) (o : Obj) (ys : Array Value) (m : Nat) (hc : o.cls = .type "tuple") (hd : o.data = .seq ys m) (h0 : ¬(!xs.isEmpty && Builtin.List.listTooLong (xs.size + ys.size)) = true) (h1 : xs.size ≤ sizeLine) (h2 : xs.size + ys.size ≤ sizeLine + 1) :
    Meets (Builtin.«list.extend» ⟨[.ref l, .ref b], []⟩) (fun _ R s => s.heap.get? l = some { cls := .type "list", dict := none, data := .seq xs n, slots := #[] } ∧ s.heap.get? b = some o ∧
      R (.ok (.ret Value.none)) { s with heap := s.heap.update l (Obj.mapSeq fun x => x ++ ys), toks := s.toks }) :=
  .of_wp fun prog w A R s hh => by
    obtain ⟨hp, g, dr, tk, os⟩ := s
    obtain ⟨hl, hb, go⟩ := hh
    have i1 := idx_int
    have i2 := AutoSeq1.sub_tuple_tuple
    have i3 := AutoSeq1.sub_list_list
    have i4 := AutoSeq1.sub_tuple_list
    have i5 := AutoSeq1.sub_list_tuple
    have lim : (xs ++ ys).size ≤ sizeLine + 1 := by
      rw [Array.size_append]
      exact h2
    obtain ⟨cls, dict, data, slots⟩ := o
    dsimp only at hc hd
    subst hc hd
    wp_walk using (wpAny_updateSeq hl rfl (hz := h1) (_hz' := lim)), wpAny_loadPart' hl, wpAny_loadPart' hb
    exact ⟨_, rfl, go⟩
def rExtT (K : PySem.W.Frag) : V → List V → Hp → VK → Prop := fun x vs H Q => ∃ l b xs zs, x = .ref l ∧ vs = [.ref b] ∧ H l = some (.lst xs) ∧ SqT K H b zs ∧ xs.length + zs.length ≤ sizeLine ∧ Q .non (upd H l (.lst (xs ++ zs)))
theorem mt_extT {X : Cx} : MtM X "list.extend" (rExtT X.K) := by
  rintro pins s σ H x vs v us Q I rx rv ⟨l, b, xs, zs, rfl, rfl, hH, hB, hz, q⟩
  cases rx
  obtain ⟨u, rfl, ru⟩ := rv.one
  cases ru
  obtain ⟨z, its, n, r, hl, e⟩ := I.lstM hH
  obtain ⟨ys, ry, ⟨o, eo, co, m, d⟩, _⟩ := I.tuple hB
  have ly := ry.length
  have lx := r.length
  have small : its.toArray.size + ys.toArray.size ≤ sizeLine := by
    simp only [List.size_toArray]
    omega
  refine call_meets F.slot_list_extend ⟨_, e, rfl⟩ F.entry_list_extend (F.args_list_extend_2 _ _)
    (extend_tup l its.toArray n b o ys.toArray m co d (by rw [notLongL small, Bool.and_false]; exact Bool.false_ne_true) (by omega) (by omega)) ⟨e, eo, .non, _, I.lset (its' := its ++ ys) hH e (by simp) (r.append ry) (by rw [List.length_append]; omega), rfl, q⟩
end V3

set_option maxHeartbeats 4000000
/-! V3c: order of two tuples of texts -/
namespace V3
open PySem PySem.Spec PyProof.Rows L2 V1 V2
/-- which of two texts comes first -/
def txLe (x y : Str) : Bool := !decide (y.cps.toList < x.cps.toList)
def txLt (x y : Str) : Bool := decide (x.cps.toList < y.cps.toList)
def rowLe : List Str → List Str → Bool
  | [], _ => true
  | _ :: _, [] => false
  | x :: xs, y :: ys => if (x == y) = true then rowLe xs ys else txLe x y
def rowLt : List Str → List Str → Bool
  | _, [] => false
  | [], _ :: _ => true
  | x :: xs, y :: ys => if (x == y) = true then rowLt xs ys else txLt x y
theorem lex_row (r : Str → Str → Bool) (z : Nat → Nat → Bool) (f : List Str → List Str → Bool) (hz : ∀ a b, z (a + 1) (b + 1) = z a b) (f0 : ∀ ys : List Str, f [] ys = z 0 ys.length) (f1 : ∀ x xs, f (x :: xs) [] = z (xs.length + 1) 0)
    (f2 : ∀ x xs y ys, f (x :: xs) (y :: ys) = if (x == y) = true then f xs ys else r x y) :
    ∀ (pre pre' ns ms : List Str), pre.length = pre'.length → Ob.lexAt (fun j => (pre ++ ns).getD j Str.empty == (pre' ++ ms).getD j Str.empty) (fun j => r ((pre ++ ns).getD j Str.empty) ((pre' ++ ms).getD j Str.empty)) (z ns.length ms.length) pre.length (min ns.length ms.length) = f ns ms
  | pre, pre', [], ms, _ => by
    rw [List.length_nil, Nat.zero_min, f0]
    rfl
  | pre, pre', n :: ns, [], _ => by
    rw [List.length_nil, Nat.min_zero, f1]
    rfl
  | pre, pre', n :: ns, m :: ms, e => by
    have h1 : (pre ++ n :: ns).getD pre.length Str.empty = n := by simp [List.getD]
    have h2 : (pre' ++ m :: ms).getD pre.length Str.empty = m := by rw [e]; simp [List.getD]
    have ih := lex_row r z f hz f0 f1 f2 (pre ++ [n]) (pre' ++ [m]) ns ms (by simp [e])
    rw [List.append_assoc, List.append_assoc, List.length_append] at ih
    rw [List.length_cons, List.length_cons, Nat.succ_min_succ, Ob.lexAt_succ, f2, hz]
    simp only [h1, h2]
    by_cases q : (n == m) = true
    · rw [if_pos q, if_pos q]
      exact ih
    · rw [if_neg q, if_neg q]
section
variable {X : Cx} {pins : List (Addr × Obj)} {σ : L2.St} {H : Hp} {s : Shared}
theorem texts_at {us : List Value} {ns : List Str} (r : Vals (ns.map V.str) us) (j : Nat) (h : j < us.toArray.size) : ∃ t, us.toArray[j] = Value.str (ns.getD j Str.empty) t := by
  have hj : j < ns.length := by
    have z := r.length
    rw [List.length_map] at z
    rw [List.size_toArray] at h
    omega
  obtain ⟨w, hw, rw'⟩ := r.get (i := j) (x := .str ns[j]) (by rw [List.getElem?_map, List.getElem?_eq_getElem hj]; rfl)
  obtain ⟨t, rfl⟩ := rw'
  refine ⟨t, ?_⟩
  have z : us[j]? = some us[j] := List.getElem?_eq_getElem (by simpa using h)
  rw [z] at hw
  rw [List.getElem_toArray, Option.some.inj hw]
  simp [List.getD, hj]
def rLeTS (K : PySem.W.Frag) : R2 := fun x y H Q => ∃ (a b : Addr) (ns ms : List Str), x = .ref a ∧ y = .ref b ∧ SqT K H a (ns.map V.str) ∧ SqT K H b (ms.map V.str) ∧ Q (.bl (rowLe ns ms)) H
theorem op_leTS (hu : X.A.units < cLine) : OpR X (compareOp .LtE) (rLeTS X.K) := by
  rintro pins s σ H x y v u Q I rx ry ⟨a, b, ns, ms, rfl, rfl, ha, hb, q⟩
  cases rx
  cases ry
  obtain ⟨us, r1, p1, _⟩ := I.tuple ha
  obtain ⟨ws, r2, p2, _⟩ := I.tuple hb
  have l1 : us.toArray.size = ns.length := by rw [List.size_toArray, ← r1.length, List.length_map]
  have l2 : ws.toArray.size = ms.length := by rw [List.size_toArray, ← r2.length, List.length_map]
  have key := lex_row txLe (fun a b => decide (a ≤ b)) rowLe (fun a b => by simp) (fun ys => by simp [rowLe]) (fun x xs => by simp [rowLe]) (fun _ _ _ _ => rfl) [] [] ns ms rfl
  have cmp := Ob.RcOp.tuples_le (A := X.A) (s := s) (e := fun j => ns.getD j Str.empty == ms.getD j Str.empty) (r := fun j => txLe (ns.getD j Str.empty) (ms.getD j Str.empty)) p1 p2 hu
    (fun j g1 g2 => by
      obtain ⟨t, z1⟩ := texts_at r1 j g1
      obtain ⟨t', z2⟩ := texts_at r2 j g2
      rw [z1, z2]
      exact SeqAt.EqAt.str_str _ _ _ _)
    (fun j g1 g2 _ => by
      obtain ⟨t, z1⟩ := texts_at r1 j g1
      obtain ⟨t', z2⟩ := texts_at r2 j g2
      rw [z1, z2]
      exact fun P w E Q k => PySem.P.le_str (by simpa [txLe] using k))
  rw [l1, l2] at cmp
  have last : wpAny (model X.prog X.w) X.A (compareOp .LtE (.ref a) (.ref b)) (EP X pins σ Q) X.xe s := cmp X.prog X.w X.xe (EP X pins σ Q) ⟨.bl _, H, I, rfl, by
    have k2 := key
    simp only [List.nil_append, List.length_nil] at k2
    rw [k2]
    exact q⟩
  exact last
def rLtTS (K : PySem.W.Frag) : R2 := fun x y H Q => ∃ (a b : Addr) (ns ms : List Str), x = .ref a ∧ y = .ref b ∧ SqT K H a (ns.map V.str) ∧ SqT K H b (ms.map V.str) ∧ Q (.bl (rowLt ns ms)) H
theorem op_ltTS (hu : X.A.units < cLine) : OpR X (compareOp .Lt) (rLtTS X.K) := by
  rintro pins s σ H x y v u Q I rx ry ⟨a, b, ns, ms, rfl, rfl, ha, hb, q⟩
  cases rx
  cases ry
  obtain ⟨us, r1, p1, _⟩ := I.tuple ha
  obtain ⟨ws, r2, p2, _⟩ := I.tuple hb
  have l1 : us.toArray.size = ns.length := by rw [List.size_toArray, ← r1.length, List.length_map]
  have l2 : ws.toArray.size = ms.length := by rw [List.size_toArray, ← r2.length, List.length_map]
  have key := lex_row txLt (fun a b => decide (a < b)) rowLt (fun a b => by simp) (fun ys => by cases ys <;> simp [rowLt]) (fun x xs => by simp [rowLt]) (fun _ _ _ _ => rfl) [] [] ns ms rfl
  have cmp := Ob.RcOp.tuples_lt (A := X.A) (s := s) (e := fun j => ns.getD j Str.empty == ms.getD j Str.empty) (r := fun j => txLt (ns.getD j Str.empty) (ms.getD j Str.empty)) p1 p2 hu
    (fun j g1 g2 => by
      obtain ⟨t, z1⟩ := texts_at r1 j g1
      obtain ⟨t', z2⟩ := texts_at r2 j g2
      rw [z1, z2]
      exact SeqAt.EqAt.str_str _ _ _ _)
    (fun j g1 g2 _ => by
      obtain ⟨t, z1⟩ := texts_at r1 j g1
      obtain ⟨t', z2⟩ := texts_at r2 j g2
      rw [z1, z2]
      exact fun P w E Q k => PyProof.Rows.lt_str k)
  rw [l1, l2] at cmp
  have last : wpAny (model X.prog X.w) X.A (compareOp .Lt (.ref a) (.ref b)) (EP X pins σ Q) X.xe s := cmp X.prog X.w X.xe (EP X pins σ Q) ⟨.bl _, H, I, rfl, by
    have k2 := key
    simp only [List.nil_append, List.length_nil] at k2
    rw [k2]
    exact q⟩
  exact last
end
end V3

set_option maxHeartbeats 4000000
/-! V3d: a head whose top asks the world for one habit: told apart, two kernel runs -/
namespace V3
open PySem PySem.W
/-- the habits f, but for this row -/
def hab (row : String) (b : Bool) (f : String → Bool) : String → Bool := fun s => match decide (s = row) with
  | true => b
  | false => f s
theorem hab_eq (row : String) (f : String → Bool) : hab row (f row) f = f := by
  funext s
  unfold hab
  by_cases e : s = row
  · rw [decide_eq_true e, e]
  · rw [decide_eq_false e]
def wHab (row : String) (b : Bool) (w : World) : World := ⟨w.draws, { w.params with followText := hab row b w.params.followText }⟩
theorem wHab_eq (row : String) (w : World) : wHab row (w.params.followText row) w = w := by
  unfold wHab
  rw [hab_eq]
theorem run_hab {p : World → Prop} (row : String) (h1 : ∀ w, p (wHab row true w)) (h0 : ∀ w, p (wHab row false w)) (w : World) : p w := by
  rw [← wHab_eq row w]
  cases w.params.followText row
  · exact h0 w
  · exact h1 w
end V3

set_option maxHeartbeats 4000000
/-! V4a: defs that make lambdas: their code objects and tables, by one look of the kernel; the law's own def among them; the end. -/
namespace V4
open PySem PySem.Spec PyProof.Rows L2 V1 V2 V3 LamX
section
variable {K : PySem.W.Frag} {f : Addr}
/-- the code object of the def at f, and the table of the codes made in it -/
def pairOf (K : PySem.W.Frag) (f : Addr) : Addr × Addr := match K.lookup f with
  | some ⟨_, _, .func fd, _⟩ => match fd.code with
    | .ref c => match K.lookup c with
      | some ⟨_, _, .fields vs, _⟩ => match (vs[11]? : Option Value) with
        | some (Value.ref p) => (c, p)
        | _ => (c, c)
      | _ => (c, c)
    | _ => (f, f)
  | _ => (f, f)
def txtB : Value → Bool
  | .str _ _ => true
  | _ => false
def intB : Value → Bool
  | .int _ _ => true
  | _ => false
def boolB : Value → Bool
  | .bool _ => true
  | _ => false
def headB (K : PySem.W.Frag) (p : Addr × Addr) : Bool := match K.lookup p.1 with
  | some ⟨cl, _, .fields vs, _⟩ => (decide (cl = .type "code") && decide (vs[11]? = some (.ref p.2))) && (txtB (vs.getD 18 .none) && (intB (vs.getD 7 .none) && (boolB (vs.getD 9 .none) && (intB (vs.getD 10 .none) && (!(p.1 == p.2) && (K.lookup p.2).isNone)))))
  | _ => false
def lamB (K : PySem.W.Frag) (f : Addr) : Bool := match K.lookup f with
  | some ⟨_, _, .func fd, _⟩ => decide (fd.code = .ref (pairOf K f).1) && headB K (pairOf K f)
  | _ => false
structure LamD (K : PySem.W.Frag) (f : Addr) : Prop where
  code : ∀ (o : Obj) (fd : FuncData), K.lookup f = some o → o.data = .func fd → fd.code = .ref (pairOf K f).1
  hd : ∀ h : Heap, K.In h → PySem.W.CodeHd h (pairOf K f).1 (pairOf K f).2
  off : K.lookup (pairOf K f).2 = none
theorem txtB_is {v : Value} (h : txtB v = true) : ∃ x t, v = .str x t := by
  cases v <;> first | exact ⟨_, _, rfl⟩ | cases h
theorem intB_is {v : Value} (h : intB v = true) : ∃ x t, v = .int x t := by
  cases v <;> first | exact ⟨_, _, rfl⟩ | cases h
theorem boolB_is {v : Value} (h : boolB v = true) : ∃ x, v = .bool x := by
  cases v <;> first | exact ⟨_, rfl⟩ | cases h
theorem headB_hd {p : Addr × Addr} (h : headB K p = true) : (∀ g : Heap, K.In g → PySem.W.CodeHd g p.1 p.2) ∧ K.lookup p.2 = none := by
  unfold headB at h
  split at h
  · rename_i cl od vs sl e
    simp only [Bool.and_eq_true, decide_eq_true_eq, Bool.not_eq_true', beq_eq_false_iff_ne, ne_eq, Option.isNone_iff_eq_none] at h
    obtain ⟨⟨e1, e2⟩, e3, e4, e5, e6, e7, e8⟩ := h
    obtain ⟨x1, t1, e3⟩ := txtB_is e3
    obtain ⟨x2, t2, e4⟩ := intB_is e4
    obtain ⟨x3, e5⟩ := boolB_is e5
    obtain ⟨x4, t4, e6⟩ := intB_is e6
    have e11 : vs.getD 11 .none = .ref p.2 := by
      rw [Array.getD_eq_getD_getElem?, e2]
      rfl
    exact ⟨fun g hg => ⟨_, vs, x1, t1, x2, t2, x3, x4, t4, hg _ _ e, e1, rfl, e2, e11, e3, e4, e5, e6, e7⟩, e8⟩
  · cases h
theorem lamD_of (h : lamB K f = true) : LamD K f := by
  unfold lamB at h
  split at h
  · rename_i oc od fd sl e
    obtain ⟨h1, h2⟩ := Bool.and_eq_true_iff.mp h
    refine ⟨fun o fd' e' d => ?_, (headB_hd h2).1, (headB_hd h2).2⟩
    rw [e] at e'
    cases e'
    cases d
    exact of_decide_eq_true h1
  · cases h
end
/-- a table without a code stands at p -/
def emptyT (g : Addr → Option Obj) (p : Addr) : Bool := match g p with
  | some ⟨.none, none, .fields ⟨[]⟩, ⟨[]⟩⟩ => true
  | _ => false
theorem emptyT_is {g : Addr → Option Obj} {p : Addr} (h : emptyT g p = true) : g p = some { cls := .none, data := .fields #[] } := by
  unfold emptyT at h
  split at h
  · assumption
  · cases h
/-- what is reached in so many steps, but such tables -/
def asT (g : Addr → Option Obj) (n : Nat) : List Addr := (He.asD g n).filter fun a => !emptyT g a
section
variable {P : Program} {w : World} {K : PySem.W.Frag} {mg : Str → Option Value} {base : Heap} {x qual : Str} {params : Arguments} {body : List Stmt} {scope : Scope} {dvs : List V} {kws : List (Str × V)} {f : Addr} {fd : FuncData}
/-- a def of which the code object is known -/
theorem okC {CX : CXT} {N ps : List Str} {k : Nat} {sp : Sp} (F : FunD K x qual params body scope dvs kws f fd) (T : LamD K f) (S : FnScope N ps scope) (len : ∀ vs H Q E, sp vs H Q E → vs.length = ps.length)
    (go : ∀ (A : Around) (outer : List Env) (s : Shared) (H : Hp) (vs : List V) (Q : VK) (E : XK), Room k (A.deeper (envOfC qual scope s.heap.objs.size f (.ref (pairOf K f).1))) → sp vs H Q E →
      ∃ t, PSs (cxOf CX P w K mg base N qual scope f (.ref (pairOf K f).1) A outer s H E) body t ∧ t { nx := fun _ H' => Q .non H', rt := Q } (start N vs) H) : FnOk P w K mg base CX (k + 1) f fd ps sp := by
  obtain ⟨oc, od, dV, kV, doc, pm, an, cdv, ct, osl, rfl, lk, cd, _, _⟩ := F.ex
  obtain rfl : cdv = .ref (pairOf K f).1 := T.code _ _ lk rfl
  exact fn_of lk cd S len go
end
section
variable {P : Program} {w : World} {K : PySem.W.Frag} {mg : Str → Option Value} {base : Heap} {k : Nat} {f : Addr} {fd : FuncData} {x : Str} {sp : Sp}
theorem lawOkC {name qual : Str} {params : Arguments} {body : List Stmt} {scope : Scope} {N : List Str} (F : FunD K name qual params body scope [] [] f fd) (T : LamD K f) (S : FnScope N [x] scope)
    (room : Room (k + 1) callerA)
    (go : ∀ (s : Shared) (H : Hp) (v : V) (Q : VK), Room k (callerA.deeper (envOfC qual scope s.heap.objs.size f (.ref (pairOf K f).1))) → (callerA.deeper (envOfC qual scope s.heap.objs.size f (.ref (pairOf K f).1))).guards = some [] → sp [v] H Q (fun _ _ _ => False) →
      ∃ t, PSs (cxOf CX0 P w K mg base N qual scope f (.ref (pairOf K f).1) callerA [] s H (fun _ _ _ => False)) body t ∧ t { nx := fun _ H' => Q .non H', rt := Q } (start N [v]) H) :
    LawOk P w K mg base f fd x sp := by
  intro s H u v Q e0 bind rv hs
  obtain ⟨oc, od, dV, kV, doc, pm, an, cdv, ct, osl, rfl, lk, cd, _, _⟩ := F.ex
  obtain rfl : cdv = .ref (pairOf K f).1 := T.code _ _ lk rfl
  have inK : K.In s.heap := e0.mod.kin.keeps fun b o e => (e0.bs b o e).1
  have free : s.heap.NoLimit := e0.mod.nolimit.keeps fun b o e => (e0.bs b o e).1
  have kinds : ∀ y ∈ [(x, u)], scope.names.lookup y.1 = some .local ∨ (scope.names.lookup y.1 = some .cell ∧ ((cellsFrom (s.heap.objs.size + 1) scope.names []).lookup y.1).isSome = true) := by
    intro y hy
    obtain rfl := List.mem_singleton.mp hy
    rcases S.par x (List.mem_singleton.mpr rfl) with q | q
    · exact .inl q
    · exact .inr ⟨q, PySem.W.cellsFrom_some _ _ _ (.inl q)⟩
  refine codeAny_call_function room.depth (inK _ _ lk) rfl S.co S.gen rfl (PySem.W.codeRec_of inK cd) (bind _ _ _ _ ?_)
  refine wpAny_newFunctionEnv_cells S.kind kinds fun env he s1 z => ?_
  subst he
  refine ⟨free.keeps z.toInCall.keep, codeAny_func ?_⟩
  obtain ⟨t, ht, hq⟩ := go s H v Q (room.deeper _) rfl hs
  have I : Inv (cxOf CX0 P w K mg base N qual scope f (.ref (pairOf K f).1) callerA [] s H (fun _ _ _ => False)) [] (start N [v]) H s1 := inv_start (us := [u]) (ps := [x]) S room.hd e0 rfl (.cons rv .nil) z
  refine wpAny_mono (ht.run [] s1 _ H _ I hq) (fun fl s' out => ?_) fun _ _ z => z
  cases fl with
  | ret u' => exact let ⟨v', _, H', J, r', q⟩ := out; ⟨v', H', J.os, J.bare, J.base, J.hok, r', q⟩
  | next => exact let ⟨_, H', J, q⟩ := out; ⟨.non, H', J.os, J.bare, J.base, J.hok, rfl, q⟩
  | brk => exact let ⟨_, _, _, q⟩ := out; q.elim
  | cont => exact let ⟨_, _, _, q⟩ := out; q.elim
end
/-- what may stand in the heap at the claim's call: the script, and tables without a code -/
def OnlyT (ts : List Addr) (H : Hp) : Prop := ∀ b, H b = none ∨ b ∈ ts ∨ ∃ o xs, H b = some (.frz o (.lst xs))
theorem law_runT {P : Program} {w : World} {K : PySem.W.Frag} {mg mb : Str → Option Value} {fa a : Addr} {fd : FuncData} {x : Str} {sp : Sp} {s : Shared} {vs : List Value} {ns : List Int} {cs : List (Addr × Addr)}
    (KX : K.In s.heap) (gl : s.heap.Ns mainGlobals mg) (bl : s.heap.Ns builtinsNs mb) (boot : ∀ y : Str, y ≠ "__name__" → mb y = bootBuiltins y) (free : s.heap.NoLimit) (gens : s.gens = #[])
    (hT : ∀ p ∈ cs, s.heap.get? p.2 = some { cls := .none, data := .fields #[] }) (nT : ∀ p ∈ cs, K.lookup p.2 = none) (cod : ∀ p ∈ cs, PySem.W.CodeHd s.heap p.1 p.2) (bmain : ∃ (bm : Addr) (ob : Obj), mg "__builtins__" = some (.ref bm) ∧ bm ≠ builtinsNs ∧ s.heap.get? bm = some ob ∧ ob.cls = .type "module" ∧ ob.dict = some builtinsNs ∧ ob.data = .plain)
    (ha : s.heap.get? a = some { cls := .type "list", data := .seq vs.toArray }) (hints : IntsAre vs ns) (short : ns.length ≤ sizeLine)
    (F : ∀ base : Heap, K.In base → base.Ns mainGlobals mg → (∀ p ∈ cs, TabB base mg p.1 p.2) → LawOk P w K mg base fa fd x sp) (bind : ∀ (s : Shared) (u : Value), BindsTo s fd ⟨[u], []⟩ [(x, u)])
    (hs : ∀ H : Hp, (∀ p ∈ cs, H p.2 = some (.tbl #[])) → SqL K H a (ns.map V.int) → sp [.ref a] H (fun v _ => v = .bl true) (fun _ _ _ => False)) :
    codeAny (model P w) callerA (.call (.ref fa) ⟨[.ref a], []⟩) (fun r s' => r = .ok (.ret (.bool true)) ∧ OldK s.heap s'.heap ∧ s'.os = s.os ∧ AllBare s'.gens) s := by
  have rel := vals_ints hints
  have count := hints.length
  let ob : Obj := { cls := .type "list", data := .seq vs.toArray }
  let ts : List Addr := cs.map (·.2)
  have inT : ∀ p ∈ cs, p.2 ∈ ts := fun p hp => List.mem_map.mpr ⟨p, hp, rfl⟩
  have empty : ∀ b ∈ ts, s.heap.get? b = some { cls := .none, data := .fields #[] } := fun b hb => by
    obtain ⟨p, hp, rfl⟩ := List.mem_map.mp hb
    exact hT p hp
  have aOff : a ∉ ts := fun z => by
    have e := empty a z
    rw [ha] at e
    cases (show Data.seq vs.toArray _ = Data.fields #[] from congrArg Obj.data (Option.some.inj e))
  have main : ∀ H : Hp, (∀ p ∈ cs, H p.2 = some (.tbl #[])) → OnlyT ts H → SqL K H a (ns.map V.int) → HOk P w H s.heap → (∀ b, H b ≠ none → b = a ∨ b ∈ ts) → (H a ≠ none → K.lookup a = none) →
      codeAny (model P w) callerA (.call (.ref fa) ⟨[.ref a], []⟩) (fun r s' => r = .ok (.ret (.bool true)) ∧ OldK s.heap s'.heap ∧ s'.os = s.os ∧ AllBare s'.gens) s := by
    intro H tb only seq hok just notK
    let B := hidT s.heap H
    -- what has other data than the script and the empty tables is not tracked
    have clear : ∀ {b : Addr} {o : Obj}, s.heap.get? b = some o → (∀ us n, o.data ≠ .seq us n) → o.data ≠ .fields #[] → H b = none := fun {b o} e n1 n2 => by
      cases q : H b with
      | none => rfl
      | some _ =>
        rcases just b (by rw [q]; simp) with z | z
        · rw [z, ha] at e
          cases e
          exact (n1 _ _ rfl).elim
        · rw [empty b z] at e
          cases e
          exact (n2 rfl).elim
    have space : ∀ {b : Addr} {m : Str → Option Value}, s.heap.Ns b m → B.Ns b m := fun {b m} ⟨o, es, ep, e, d, r⟩ => ⟨o, es, ep, hidT_get e (clear e (fun us n z => by rw [d] at z; cases z) (fun z => by rw [d] at z; cases z)), d, r⟩
    have KB : K.In B := fun b o e => hidT_get (KX b o e) (by
      cases q : H b with
      | none => rfl
      | some _ =>
        rcases just b (by rw [q]; simp) with z | z
        · rw [z] at e q
          rw [notK (by rw [q]; simp)] at e
          cases e
        · obtain ⟨p, hp, rfl⟩ := List.mem_map.mp z
          rw [nT p hp] at e
          cases e)
    have M : Mod K mg B := ⟨KB, space gl, ⟨mb, space bl, boot⟩, let ⟨mc, h1, h2⟩ := free; ⟨mc, space h1, h2⟩⟩
    have TB : ∀ p ∈ cs, TabB B mg p.1 p.2 := fun p hp => by
      have e0 := hT p hp
      obtain ⟨bm, o1, b1, b2, b3, b4, b5, b6⟩ := bmain
      refine ⟨?_, ⟨bm, o1, b1, b2, fun z => ?_, fun z => ?_, hidT_get b3 (clear b3 (fun us n z => by rw [b6] at z; cases z) (fun z => by rw [b6] at z; cases z)), b4, b5, b6⟩, fun z => ?_⟩
      · obtain ⟨o, us, file, tf, flags, tg, inF, text, tt, e1, r1, r2, r3, rest⟩ := cod p hp
        refine ⟨o, us, file, tf, flags, tg, inF, text, tt, hidT_get e1 (clear e1 (fun us n z => ?_) fun z => ?_), r1, r2, r3, rest⟩
        · rw [r2] at z
          cases z
        · rw [r2] at z
          cases z
          simp at r3
      · obtain ⟨o, es, ep, e, d, _⟩ := gl
        rw [z, e] at b3
        cases b3
        rw [d] at b6
        cases b6
      · rw [z, e0] at b3
        cases b3
        cases b6
      · obtain ⟨o, es, ep, e, d, _⟩ := gl
        rw [z, e0] at e
        cases e
        cases d
    have e0 : Env0 P w K mg B callerA [] s H := ⟨rfl, M, fun b o e => of_hidT e, Nat.le_of_eq (hidT_size _ _), trivial, fun b hb => absurd (show b ∈ ([] : List Addr) from hb) List.not_mem_nil, hok, .of_eq gens⟩
    refine codeAny_mono (F B KB (space gl) TB s H (.ref a) (.ref a) _ e0 (bind s (.ref a)) rfl (hs H tb seq)) fun r s' out => ?_
    cases r with
    | error e => exact False.elim out
    | ok fl =>
      cases fl with
      | next => exact False.elim out
      | brk => exact False.elim out
      | cont => exact False.elim out
      | ret u =>
        obtain ⟨v, H', os, bare, un, hok', rv, q⟩ := out
        obtain rfl : v = .bl true := q
        obtain rfl : u = Value.bool true := rv
        have same : ∀ b o, b ∉ ts → s.heap.get? b = some o → s'.heap.get? b = some o := fun b o nb e => by
          cases q : H b with
          | none => exact un.keep b o e q (fun z => absurd (show b ∈ ([] : List Addr) from z) List.not_mem_nil) List.not_mem_nil
          | some _ =>
            rcases only b with z | z | ⟨o2, xs, z⟩
            · rw [q] at z
              cases z
            · exact absurd z nb
            · obtain ⟨g1, _⟩ := hok b _ z
              obtain ⟨g2, _⟩ := hok' b _ (un.frzs b o2 _ z)
              rw [e] at g1
              cases g1
              exact g2
        have grown : ∀ p ∈ cs, ∃ more : Array Value, s'.heap.get? p.2 = some { cls := .none, data := .fields more } := fun p hp => by
          obtain ⟨more, z⟩ := un.tbls p.2 #[] (tb p hp)
          exact ⟨_, hok' p.2 _ z⟩
        refine ⟨rfl, ⟨fun b o e => ?_, fun b o e => ?_⟩, os, bare⟩
        · by_cases hb : b ∈ ts
          · obtain ⟨p, hp, rfl⟩ := List.mem_map.mp hb
            obtain ⟨more, hm⟩ := grown p hp
            rw [hT p hp] at e
            cases e
            refine .inr (.inl ⟨((cod p hp).tab (hT p hp)).isCodeTable, rfl, #[], more, rfl, ?_⟩)
            rw [Array.empty_append]
            exact hm
          · exact .inl (same b o hb e)
        · by_cases hb : b ∈ ts
          · obtain ⟨p, hp, rfl⟩ := List.mem_map.mp hb
            exact let ⟨_, hm⟩ := grown p hp; ⟨_, hm⟩
          · exact ⟨o, same b o hb e⟩
  let H0 : Hp := fun b => if b ∈ ts then some (.tbl #[]) else none
  have in0 : ∀ {b : Addr}, b ∈ ts → H0 b = some (.tbl #[]) := fun hb => if_pos hb
  have off0 : ∀ {b : Addr}, b ∉ ts → H0 b = none := fun hb => if_neg hb
  cases lk : K.lookup a with
  | some o =>
    have e := KX a o lk
    rw [ha] at e
    cases e
    refine main H0 (fun p hp => in0 (inT p hp)) (fun b => ?_) (.inr ⟨_, vs.toArray, _, lk, rfl, rfl, rfl, by rw [List.size_toArray, count]; exact short, by simpa using rel⟩) (fun b u z => ?_) (fun b z => ?_) fun z => absurd (off0 aOff) z
    · by_cases hb : b ∈ ts
      · exact .inr (.inl hb)
      · exact .inl (off0 hb)
    · by_cases hb : b ∈ ts
      · cases (in0 hb).symm.trans z
        exact empty b hb
      · exact nomatch (off0 hb).symm.trans z
    · by_cases hb : b ∈ ts
      · exact .inr hb
      · exact absurd (off0 hb) z
  | none =>
    let H1 : Hp := fun b => if b = a then some (.frz ob (.lst (ns.map V.int))) else H0 b
    have atA : H1 a = some (.frz ob (.lst (ns.map V.int))) := if_pos rfl
    have offA : ∀ {b : Addr}, b ≠ a → H1 b = H0 b := fun hb => if_neg hb
    have ne : ∀ {b : Addr}, b ∈ ts → b ≠ a := fun hb z => aOff (z ▸ hb)
    refine main H1 (fun p hp => (offA (ne (inT p hp))).trans (in0 (inT p hp))) (fun b => ?_) (.inl (.inr ⟨ob, atA⟩)) (fun b u z => ?_) (fun b z => ?_) fun _ => lk
    · by_cases hb : b = a
      · exact .inr (.inr ⟨_, _, by rw [hb]; exact atA⟩)
      · by_cases ht : b ∈ ts
        · exact .inr (.inl ht)
        · exact .inl ((offA hb).trans (off0 ht))
    · by_cases hb : b = a
      · subst hb
        cases atA.symm.trans z
        exact ⟨ha, by rw [List.length_map]; exact short, vs, _, rel, ha⟩
      · have z1 := (offA hb).symm.trans z
        by_cases ht : b ∈ ts
        · cases (in0 ht).symm.trans z1
          exact empty b ht
        · exact nomatch (off0 ht).symm.trans z1
    · by_cases hb : b = a
      · exact .inl hb
      · by_cases ht : b ∈ ts
        · exact .inr ht
        · exact absurd ((offA hb).trans (off0 ht)) z
theorem walk_lawT {l : PySem.W.OpenLaw} {n : Nat} {q : Program} {loose : List Str} {XP : (Str → Option Value) → Heap → Prop} {YP : World → Heap → Prop} {d : DefRec} {x : Str} (hn : l.most = some n) (hz : n ≤ sizeLine) (noDfl : d.params.defaults = [])
    (F : ∀ (w : World) (mg : Str → Option Value) (fa : Addr) (h : Heap), YP w h → h.Ns mainGlobals mg → mg d.name = some (.ref fa) → ∃ (K : PySem.W.Frag) (fd : FuncData) (sp : Sp) (cs : List (Addr × Addr)), K.In h ∧ (∀ p ∈ cs, h.get? p.2 = some { cls := .none, data := .fields #[] }) ∧ (∀ p ∈ cs, K.lookup p.2 = none) ∧
      (∀ p ∈ cs, PySem.W.CodeHd h p.1 p.2) ∧ (∀ (s : Shared) (u : Value), BindsTo s fd ⟨[u], []⟩ [(x, u)]) ∧
      (∀ (H : Hp) (a : Addr) (ns : List Int), ns.length ≤ n → (∀ p ∈ cs, H p.2 = some (.tbl #[])) → SqL K H a (ns.map V.int) → sp [.ref a] H (fun v _ => v = .bl true) fun _ _ _ => False) ∧
      ∀ base : Heap, K.In base → base.Ns mainGlobals mg → (∀ p ∈ cs, TabB base mg p.1 p.2) → LawOk l.prog w K mg base fa fd x sp) :
    PySem.W.WalkO q loose XP YP l.row.toRowW d [] (fun f vs => PySem.call f vs) := by
  refine Att.attach_call hn noDfl fun w s₀ s₁ mg mb fa o pm cd doc a vs ns G Y ho hd hcd hmg hobj hints short gens => ?_
  obtain ⟨K, fd, sp, cs, KX, hT, nT, cod, bind, hs, hF⟩ := F w mg fa _ Y G.T.g hmg
  exact law_runT KX G.T.g G.T.b G.T.builtins G.T.nolimit gens hT nT cod G.T.bmain hobj hints (Nat.le_trans short hz) hF bind fun H tb seq => hs H a ns short tb seq
end V4

set_option maxHeartbeats 4000000
/-! V4b: len(set(t)), t a tuple of ints -/
namespace V4
open PySem PySem.Spec PyProof.Rows L2 V1 V2 V3
def tLenSetT (K : PySem.W.Frag) (ta : TE) : TE := fun σ H Q => ta σ H fun x H1 => ∃ (l : Addr) (ns : List Int), x = .ref l ∧ SqT K H1 l (ns.map V.int) ∧ ns.length ≤ 1000 ∧ ∀ c : Nat, c ≤ ns.length → Q (.int (c : Nat)) H1
theorem pe_lenSetT {X : Cx} {a : Expr} {ta : TE} {p p2 q pos : Pos} (hg : Gl X "len") (hm : X.mg "len" = none) (hg2 : Gl X "set") (hm2 : X.mg "set" = none) (ha : PE X a ta) (calm : X.calm = true := by rfl)
    (na : starEach [a] X.env = (false, eval a X.env) :: starEach [] X.env := by rfl) : PE X (.Call (.Name "len" p) [.Call (.Name "set" p2) [a] [] q] [] pos) (tLenSetT X.K ta) := by
  refine ⟨fun pins s σ H Q I h => Call_ (ld_blt I hg hm boot_len ?_)⟩
  refine PyProof.Rows.callWith_builtin1 (PyProof.Rows.args_cons (Call_ (ld_blt I hg2 hm2 boot_set ?_)) rfl) rfl rfl
  refine PyProof.Rows.callWith_type1 (PyProof.Rows.args_cons (thn (ha.run pins s σ H _ I h) ?_) na) na rfl
  rintro v s1 ⟨x, H1, J, rx, l, ns, rfl, hq, hz, k⟩
  refine PyProof.Rows.args_nil ?_
  cases rx
  obtain ⟨its, r, pl, _⟩ := J.tuple hq
  have small : ns.length + 1 < scanBound := by
    unfold scanBound
    omega
  refine call_set_tupI ns (J.ok.hd calm) pl (by simpa using r.ints) small fun g tk c hS hc kp => ?_
  refine PyProof.Rows.args_nil ?_
  obtain ⟨o, es, ep, t, ho, ex, dat, _, _, _, _, fit, cnt, _⟩ := hS
  have J2 : Inv X pins σ H1 { s1 with heap := g, toks := tk } := J.kept kp
  exact call_len_set ho ex dat fit (by omega) ⟨.int (c : Nat), H1, J2.tok _, ⟨_, by rw [cnt]⟩, k c hc⟩
end V4

set_option maxHeartbeats 4000000
/-! V4c: a text so often; isinstance of the caught exception, with a dict or without -/
namespace V4
open PySem PySem.Spec PyProof.Rows L2 V1 V2 V3
def rMulS : R2 := fun x y H Q => ∃ (z : Str) (n : Int), x = .str z ∧ y = .int n ∧ 1 ≤ n ∧ n ≤ 10000 ∧ z.length ≤ 1000 ∧ Q (.str (Txt.mul z n)) H
theorem op_mulS {X : Cx} : OpR X (binaryOp .Mult) rMulS := by
  rintro pins s σ H x y v u Q I rx ry ⟨z, n, rfl, rfl, n1, n2, zl, q⟩
  obtain ⟨t, rfl⟩ := rx
  obtain ⟨t', rfl⟩ := ry
  refine PySem.SB.mul ⟨?_, fun _ _ z => ?_, fun _ _ => ?_⟩ fun t2 k => ⟨.str _, H, I.tok _, ⟨_, rfl⟩, q⟩
  · rw [decide_eq_false (by omega), decide_eq_false (by omega)]
    rfl
  · have h : (1000 : Int) ≤ (2 ^ 63 - 1) / n := by
      refine (Int.le_ediv_iff_mul_le (by omega)).mpr ?_
      omega
    omega
  · unfold PySem.Builtin.Str.tooLong
    have h : z.length * n.toNat ≤ 1000 * 10000 := Nat.mul_le_mul zl (by omega)
    have e : sizeLine = 16777216 := by rw [sizeLine_eq]
    simp only [decide_eq_false_iff_not]
    omega
/-- the caught exception: its class, and its dict if it has one -/
def ExIs (H : Hp) (C : Addr) (cls : Value) (d : Option Addr) : Prop := cls = .ref C ∧ (d = none ∨ ∃ dd fs, d = some dd ∧ H dd = some (.xd fs))
def rIsO (K : PySem.W.Frag) (a : Addr) (cls : Value) (d : Option Addr) : List V → Hp → VK → Prop := fun xs H Q => ∃ (C : Addr) (bm : List Value) (c : V) (u : Value) (b : Bool), xs = [.ref a, c] ∧ ExIs H C cls d ∧ ClsV c u ∧ ExK K C bm ∧ ClsAttr K ∧ (Value.ref C :: bm).contains (.type "BaseException") = true ∧ (Value.ref C :: bm).contains (.type "object") = true ∧
  PySem.W.kitOne K (.ref C) u = some b ∧ Q (.bl b) H
theorem call_isO {X : Cx} {a : Addr} {oe : Obj} {cls : Value} {d : Option Addr} {pn : List (Addr × Obj)} (hz : Zc cls d oe) (hf : ∃ vs, oe.data = .fields vs) : CallR (X.suite a ((a, oe) :: pn)) (.builtin "isinstance") (rIsO X.K a cls d) := by
  intro pins s σ H xs us Q I r h
  obtain ⟨C, bm, c, u, b, rfl, ⟨rfl, hd⟩, k, T, cA, hB, hO, e, q⟩ := h
  rcases hd with rfl | ⟨dd, fs, rfl, hx⟩
  · obtain ⟨w1, w2, rfl, r1, r2⟩ := vals2 r
    obtain rfl : w1 = Value.ref a := r1
    have e2 := k.eq r2
    subst e2
    obtain ⟨ha, _⟩ := I.pin (a, oe) (List.mem_append_left _ List.mem_cons_self)
    obtain ⟨vs, hdt⟩ := hf
    have J : PySem.W.InstAt s.heap a oe C none := ⟨ha, hz.1, by unfold PySem.W.notCls; rw [hdt] <;> rfl, by rw [show oe.dict = none from hz.2] <;> trivial⟩
    exact PySem.W.kia_one (PySem.W.kitx_exc T.isCls T.ga T.gg (by rw [T.sub, hB]) T.cl cA.gs cA.tk (by rw [T.mro, hO])) I.kIn J e (fun z => nomatch z) fun tk => ⟨.bl b, H, I.tok tk, rfl, q⟩
  · exact call_isXd T cA hB hO hz hf pins s σ H _ _ Q I r ⟨rfl, c, u, b, dd, fs, rfl, k, e, rfl, hx, q⟩
end V4

set_option maxHeartbeats 4000000
/-! V4d: t[::-1] of a tuple; data made beside a hand -/
namespace V4
open PySem PySem.Spec PyProof.Rows L2 V1 V2 V3
section
variable {prog : Program} {w : World} {A : Around} {E : Value → Shared → Prop} {s : Shared}
theorem back_adjust (n : Nat) : Builtin.Slice.sliceAdjust none none (-1) (n : Int) = ((n : Int) - 1, -1) := by
  unfold Builtin.Slice.sliceAdjust
  simp
theorem back_places (n : Nat) : Builtin.Slice.slicePlaces ((n : Int) - 1) (-1) (-1) = n := by
  unfold Builtin.Slice.slicePlaces
  simp
  omega
theorem fm_map {α β : Type} {f : α → Option β} {g : α → β} : ∀ {l : List α}, (∀ m ∈ l, f m = some (g m)) → l.filterMap f = l.map g
  | [], _ => rfl
  | m :: l, h => by
    rw [List.filterMap_cons, h m List.mem_cons_self, List.map_cons, fm_map fun x hx => h x (List.mem_cons_of_mem _ hx)]
theorem back_pick (xs : Array Value) : ((List.range xs.size).filterMap fun (m : Nat) => xs[((xs.size : Int) - 1 + (m : Int) * (-1)).toNat]?).toArray = xs.toList.reverse.toArray := by
  congr 1
  have e : ∀ m ∈ List.range xs.size, xs[((xs.size : Int) - 1 + (m : Int) * (-1)).toNat]? = some (xs.toList.reverse.getD m .none) := by
    intro m hm
    have hm' := List.mem_range.mp hm
    have h1 : ((xs.size : Int) - 1 + (m : Int) * (-1)).toNat = xs.size - 1 - m := by omega
    rw [h1]
    have h2 : xs.size - 1 - m < xs.size := by omega
    rw [List.getD_eq_getElem?_getD, List.getElem?_reverse (by simpa using hm')]
    simp [h2]
  rw [fm_map e]
  refine List.ext_getElem (by simp) fun i h1 h2 => ?_
  simp at h1
  simp [List.getD, h1]
theorem back_applied {sl : Addr} {vs : Value} {n : Nat} {Q : Int × Int × Nat → Shared → Prop} (hs : s.heap.IsSliceOf sl .none .none vs) (ps : IsPart vs (some (-1))) (h : Q ((n : Int) - 1, -1, n) s) :
    wpAny (model prog w) A (Builtin.Slice.sliceApplied (.ref sl) (pure (n : Int))) Q E s := by
  obtain ⟨os, hos, hcs, hds⟩ := id hs
  unfold Builtin.Slice.sliceApplied Builtin.Slice.sliceFields
  refine wpAny_bind (wpAny_bind (wpAny_field hos hds (x := .none) rfl (wpAny_bind (wpAny_field hos hds (x := .none) rfl (wpAny_bind (wpAny_field hos hds (x := vs) rfl (wpAny_pure ?_)))))))
  refine wpAny_bind (HT.slicePart_ ps ?_)
  show wpAny _ _ (if ((-1 : Int) == 0) = true then _ else _) _ _ s
  rw [if_neg (by decide)]
  refine wpAny_bind (HT.slicePart_ .none (wpAny_bind (HT.slicePart_ .none (wpAny_bind (wpAny_pure ?_)))))
  show wpAny _ _ (match Builtin.Slice.sliceAdjust none none (-1) (n : Int) with | (lo, hi) => pure (lo, (-1 : Int), Builtin.Slice.slicePlaces lo hi (-1))) _ _ s
  rw [back_adjust n]
  show wpAny _ _ (pure ((n : Int) - 1, (-1 : Int), Builtin.Slice.slicePlaces ((n : Int) - 1) (-1) (-1))) _ _ s
  rw [back_places]
  exact wpAny_pure h
theorem getItem_tuple_back {t sl : Addr} {items : Array Value} {vs : Value} {Q : Value → Shared → Prop} (ht : IsTup s.heap t items) (hs : s.heap.IsSliceOf sl .none .none vs) (ps : IsPart vs (some (-1)))
    (h : Q (.ref s.heap.objs.size) { s with heap := s.heap.push { cls := .type "tuple", data := .seq items.toList.reverse.toArray } }) (small : items.size ≤ sizeLine) : wpAny (model prog w) A (getItem (.ref t) (.ref sl)) Q E s := by
  have fits : sizeOk (.seq items.toList.reverse.toArray) := by
    show items.toList.reverse.toArray.size ≤ sizeLine
    simp
    exact small
  obtain ⟨os, hos, hcs, hds⟩ := id hs
  have kind : s.TypeIs (.ref sl) "slice" := ⟨os, hos, hcs⟩
  unfold getItem
  try with_reducible refine wpAny_holding ?_
  first | refine wpAny_bind (wpAny_pure ?_) | skip
  refine wpAny_bind (wpAny_sequenceKey ht.typeIs (by decide) (wpAny_bind (wpAny_callSpecial?_slot (name := Str.ofString "__getitem__") ht.typeIs PyProof.Rows.slot_tuple_getitem (wpAny_call_entry PyProof.Rows.slot_tuple_getitem ht.typeIs entry_tuple_getitem ?_ (args_tuple_getitem _ _)))))
  show wpAny _ _ (Builtin.Tuple.tupleItemsOf (.ref t) >>= _) _ _ s
  refine wpAny_bind (tupleItemsOf_ ht (wpAny_bind (wpAny_typeOf kind ?_)))
  rw [if_pos (by decide)]
  refine wpAny_bind (back_applied hs ps ?_)
  have part : ¬ ((((items.size : Int) - 1) == 0 && (-1 : Int) == 1 && items.size == items.size) = true) := by
    rw [show ((-1 : Int) == 1) = false from rfl, Bool.and_false, Bool.false_and]
    decide
  show wpAny _ _ (if (((items.size : Int) - 1) == 0 && (-1 : Int) == 1 && items.size == items.size) = true then _ else _) _ _ s
  rw [if_neg part, back_pick]
  first
    | exact wpAny_bind (m := Builtin.Tuple.tupleExact _) (wpAny_newObj_type (wpAny_pure ⟨_, rfl, wpAny_pure h⟩) fits)
    | exact wpAny_bind (m := Builtin.Tuple.tupleExact _) (wpAny_newObj_type (wpAny_bind (wpAny_pure (wpAny_pure ⟨_, rfl, wpAny_pure h⟩))) fits)
    | exact wpAny_bind (wpAny_bind (m := Builtin.Tuple.tupleExact _) (wpAny_newObj_type (wpAny_pure (wpAny_pure ⟨_, rfl, wpAny_pure h⟩)) fits))
    | exact wpAny_bind (wpAny_bind (m := Builtin.Tuple.tupleExact _) (wpAny_newObj_type (wpAny_pure ⟨_, rfl, wpAny_pure h⟩) fits))
end
/-- t[::-1] -/
def tBackT (K : PySem.W.Frag) (te : TE) : TE := fun σ H Q => te σ H fun x H1 => ∃ a xs, x = .ref a ∧ SqT K H1 a xs ∧ ∀ p, H1 p = none → Q (.ref p) (upd H1 p (.tup xs.reverse))
theorem pe_backT {X : Cx} {e : Expr} {te : TE} {k : Nat} {p1 p2 p3 pos : Pos} (he : PE X e te) : PE X (.Subscript e (.Slice none none (some (.UnaryOp .USub (.Constant (.int 1) k p1) p2)) p3) pos) (tBackT X.K te) := by
  refine ⟨fun pins s σ H Q I h => Subscript_ (thn (he.run pins s σ H _ I h) ?_)⟩
  rintro v s1 ⟨x, H1, I1, r1, a, xs, rfl, hx, q⟩
  cases r1
  have step : PO X (some (.UnaryOp .USub (.Constant (.int 1) k p1) p2)) (tPart (tUn (rU fun i => .int (-i)) (tC (.int 1)))) := po_some (pe_un un_neg pe_int)
  refine wpAny_Slice (thn (po_none.run pins s1 σ H1 (fun o H2 => o = none ∧ H2 = H1) I1 ⟨rfl, rfl⟩) ?_)
  rintro vl s2 ⟨l, H2, I2, pl, rfl, rfl⟩
  cases pl
  refine thn (po_none.run pins s2 σ H2 (fun o H3 => o = none ∧ H3 = H2) I2 ⟨rfl, rfl⟩) ?_
  rintro vu s3 ⟨u, H3, I3, pu, rfl, rfl⟩
  cases pu
  refine thn (step.run pins s3 σ H3 (fun o H4 => o = some (-1) ∧ H4 = H3) I3 ⟨1, rfl, -1, rfl, rfl, rfl⟩) ?_
  rintro vs s4 ⟨o, H4, I4, ps, rfl, rfl⟩
  have I5 : Inv X pins σ H4 { s4 with heap := s4.heap.push { cls := .type "slice", data := .fields #[.none, .none, vs] } } := I4.kept (t' := s4.toks) fun b ob q => Heap.get?_push_of_some _ q
  obtain ⟨its, r, ht, hz⟩ := I5.tuple hx
  have len := r.length
  show wpAny (model X.prog X.w) X.A (subscriptTail e (.Slice none none (some (.UnaryOp .USub (.Constant (.int 1) k p1) p2)) p3) (.ref a) (.ref s4.heap.objs.size)) (EP X pins σ Q) X.xe { s4 with heap := s4.heap.push { cls := .type "slice", data := .fields #[.none, .none, vs] } }
  refine tail_any (ops := [.ref a, .ref s4.heap.objs.size]) ht.typeIs PyProof.Rows.slot_tuple_getitem.lookup ?_ (by with_unfolding_all rfl)
  refine getItem_tuple_back ht (Heap.IsSliceOf.new _ .none .none vs) ps ?_ (by rw [List.size_toArray]; omega)
  refine ⟨.ref _, _, I5.laid (t' := s4.toks) (o := .tup xs.reverse) (fun b ob q => Heap.get?_push_of_some _ q) (Nat.le_refl _) ?_, rfl, q _ (I5.hok.fresh (Nat.le_refl _))⟩
  exact ⟨by rw [List.length_reverse]; exact hz, _, r.reverse, IsTup.new _ _⟩
end V4

set_option maxHeartbeats 4000000
/-! V4e: data made beside a hand: of old and new parts; how long their texts are -/
namespace V4
open PySem PySem.Spec PyProof.Rows L2 V1 V2 V3
open Evl (sq_of st_of)
theorem DxAll.rep [CurK] {H : Hp} {vs : List V} {ds : List PyData} (h : DxAll H vs ds) : ∀ n : Nat, DxAll H (List.replicate n vs).flatten (List.replicate n ds).flatten
  | 0 => .nil
  | n + 1 => by
    rw [List.replicate_succ, List.replicate_succ, List.flatten_cons, List.flatten_cons]
    exact DxAll.app h (DxAll.rep h n)
theorem DxAll.snoc [CurK] {H : Hp} {v : V} {d : PyData} : ∀ {vs : List V} {ds : List PyData}, DxAll H vs ds → Dx H v d → DxAll H (vs ++ [v]) (ds ++ [d])
  | _, _, h, hv => DxAll.app h (.cons hv .nil)
theorem DxAll.back [CurK] {H : Hp} : ∀ {vs : List V} {ds : List PyData}, DxAll H vs ds → DxAll H vs.reverse ds.reverse
  | _, _, .nil => .nil
  | _, _, .cons one more => by
    rw [List.reverse_cons, List.reverse_cons]
    exact DxAll.snoc (DxAll.back more) one
/-- a part of a list, as a slice takes it -/
def cutD (ds : List PyData) (lo hi : Option Int) : List PyData := (ds.drop (HT.sIx ds.length 0 lo)).take (HT.sIx ds.length ds.length hi - HT.sIx ds.length 0 lo)
section
variable [CurK] {σ : L2.St} {H0 : Hp} {a : Addr} {d : PyData} {ds es : List PyData} {te t1 t2 : TE} {ta : TA}
theorem mky_of (ha : Held H0 a) (h : MkX te σ d) : MkY H0 a te σ d := fun H s Q k => h H Q fun v H' s' q => k v H' s' (Dx.same (newH_off (ha.same s)) _ _ q)
theorem mkya_nil : MkYA H0 a tNil σ [] := fun H _ _ k => k [] H (Same.refl H) .nil
theorem mkya_cons (h : MkY H0 a te σ d) (r : MkYA H0 a ta σ ds) : MkYA H0 a (tCons te ta) σ (d :: ds) := fun H s _ k => h H s _ fun v H1 s1 q1 => r H1 (s.trans s1) _ fun vs H2 s2 q2 =>
  k (v :: vs) H2 (s1.trans s2) (.cons (Dx.same (same_del s2) d v q1) q2)
theorem mky_tup (ha : Held H0 a) (r : MkYA H0 a ta σ ds) (hz : ds.length ≤ 1000) : MkY H0 a (tTup ta) σ (.tuple ds) := fun H s _ k => r H s _ fun vs H1 s1 q1 =>
  ⟨Nat.le_of_lt (small1000 (by rw [dxAll_len q1]; exact hz)), fun p n => k _ _ (s1.trans (same_new n)) (.tup (((ha.same s).same s1).off n upd_same) (DxAll.same (same_del (same_new n)) ds vs q1))⟩
theorem mky_lst (ha : Held H0 a) (r : MkYA H0 a ta σ ds) (hz : ds.length ≤ 1000) : MkY H0 a (tLstS ta) σ (.list ds) := fun H s _ k => r H s _ fun vs H1 s1 q1 =>
  ⟨Nat.le_of_lt (small1000 (by rw [dxAll_len q1]; exact hz)), fun p n low => k _ _ (s1.trans (same_new n)) (.lst (((ha.same s).same s1).off n upd_same) low (DxAll.same (same_del (same_new n)) ds vs q1))⟩
theorem mky_var {i : Nat} {v : V} (h : Dx (delH H0 a) v d) (hv : σ[i]? = some (some v)) : MkY H0 a (tVar i) σ d := fun H s Q k => ⟨v, hv, k v H (Same.refl H) (Dx.same (same_del s) _ _ h)⟩
theorem tup_at {H : Hp} {v : V} (h : Dx (delH H a) v (.tuple ds)) : ∃ p xs, v = .ref p ∧ H p = some (.tup xs) ∧ DxAll (delH H a) xs ds ∧ xs.length = ds.length := by
  obtain ⟨p, xs, rfl, e, r⟩ := Dx.tup_inv h
  exact ⟨p, xs, rfl, same_delH _ _ e, r, dxAll_len r⟩
theorem lst_at {H : Hp} {v : V} (h : Dx (delH H a) v (.list ds)) : ∃ p xs, v = .ref p ∧ H p = some (.lst xs) ∧ DxAll (delH H a) xs ds ∧ xs.length = ds.length := by
  obtain ⟨p, xs, rfl, e, _, r⟩ := Dx.lst_inv h
  exact ⟨p, xs, rfl, same_delH _ _ e, r, dxAll_len r⟩
/-- t + u, neither empty -/
theorem mky_cat (ha : Held H0 a) (h1 : MkY H0 a t1 σ (.tuple ds)) (h2 : MkY H0 a t2 σ (.tuple es)) (n1 : ds ≠ []) (n2 : es ≠ []) (l : ds.length + es.length ≤ 5000) : MkY H0 a (tOp (rCatT K) t1 t2) σ (.tuple (ds ++ es)) := fun H s Q k =>
  h1 H s _ fun v H1 s1 q1 => h2 H1 (s.trans s1) _ fun u H2 s2 q2 => by
    obtain ⟨p, xs, rfl, e1, r1, l1⟩ := tup_at (Dx.same (same_del s2) _ _ q1)
    obtain ⟨q, ys, rfl, e2, r2, l2⟩ := tup_at q2
    refine ⟨p, q, xs, ys, rfl, rfl, st_of e1, st_of e2, fun z => n1 (List.length_eq_zero_iff.mp (by rw [← l1, z]; rfl)), by rw [sizeLine_eq]; omega, fun z => absurd (List.length_eq_zero_iff.mp (by rw [← l2, z]; rfl)) n2, fun _ c nc => ?_⟩
    exact k _ _ ((s1.trans s2).trans (same_new nc)) (.tup ((((ha.same s).same s1).same s2).off nc upd_same) (DxAll.same (same_del (same_new nc)) _ _ (DxAll.app r1 r2)))
/-- t * k -/
theorem mky_rep {n : Nat} (ha : Held H0 a) (h1 : MkY H0 a t1 σ (.tuple ds)) (n1 : ds ≠ []) (k1 : 2 ≤ n) (k2 : n ≤ 1000) (l : ds.length ≤ 1000) : MkY H0 a (tOp (rRepT K) t1 (tC (.int ((n : Nat) : Int)))) σ (.tuple (List.replicate n ds).flatten) := fun H s Q k =>
  h1 H s _ fun v H1 s1 q1 => by
    obtain ⟨p, xs, rfl, e1, r1, l1⟩ := tup_at q1
    refine ⟨p, (n : Int), xs, rfl, rfl, st_of e1, fun z => n1 (List.length_eq_zero_iff.mp (by rw [← l1, z]; rfl)), by omega, by omega, by omega, fun c nc => ?_⟩
    rw [Int.toNat_natCast]
    exact k _ _ (s1.trans (same_new nc)) (.tup (((ha.same s).same s1).off nc upd_same) (DxAll.same (same_del (same_new nc)) _ _ (DxAll.rep r1 n)))
/-- t[::-1] -/
theorem mky_back (ha : Held H0 a) (h1 : MkY H0 a t1 σ (.tuple ds)) : MkY H0 a (tBackT K t1) σ (.tuple ds.reverse) := fun H s Q k =>
  h1 H s _ fun v H1 s1 q1 => by
    obtain ⟨p, xs, rfl, e1, r1, l1⟩ := tup_at q1
    exact ⟨p, xs, rfl, st_of e1, fun c nc => k _ _ (s1.trans (same_new nc)) (.tup (((ha.same s).same s1).off nc upd_same) (DxAll.same (same_del (same_new nc)) _ _ (DxAll.back r1)))⟩
/-- t[lo:hi], its bounds ints or left out -/
theorem mky_cut {tl th : TO} {lo hi : Option Int} (ha : Held H0 a) (h1 : MkY H0 a t1 σ (.tuple ds)) (hl : ∀ (H : Hp) (Q : Option Int → Hp → Prop), Q lo H → tl σ H Q) (hh : ∀ (H : Hp) (Q : Option Int → Hp → Prop), Q hi H → th σ H Q) :
    MkY H0 a (tSl (rSlA K) t1 tl th) σ (.tuple (cutD ds lo hi)) := fun H s Q k =>
  h1 H s _ fun v H1 s1 q1 => hl H1 _ (hh H1 _ (by
    obtain ⟨p, xs, rfl, e1, r1, l1⟩ := tup_at q1
    refine ⟨p, xs, rfl, st_of e1, fun whole => ?_, fun _ c nc => ?_⟩
    · have z : cutD ds lo hi = ds := by
        rw [l1] at whole
        unfold cutD
        rw [whole.1, whole.2]
        simp
      exact k _ _ s1 (by rw [z]; exact q1)
    · refine k _ _ (s1.trans (same_new nc)) (.tup (((ha.same s).same s1).off nc upd_same) (DxAll.same (same_del (same_new nc)) _ _ ?_))
      unfold cutV cutD
      rw [l1]
      exact DxAll.take _ (DxAll.drop _ r1)))
theorem cutD_take {ds : List PyData} {k : Nat} : cutD ds none (some ((k : Nat) : Int)) = ds.take k := by
  unfold cutD
  rw [HT.sIx_none, HT.sIx_nat]
  simp [Nat.min_comm]
theorem cutD_last {ds : List PyData} (h : ds ≠ []) : cutD ds (some (-1)) none = ds.drop (ds.length - 1) := by
  have l := List.length_pos_iff.mpr h
  unfold cutD
  rw [HT.sIx_none]
  have e : HT.sIx ds.length 0 (some (-1)) = ds.length - 1 := by
    unfold HT.sIx
    simp only
    rw [if_pos (by decide)]
    omega
  rw [e]
  exact List.take_of_length_le (by rw [List.length_drop]; omega)
/-- xs + ys of two lists -/
theorem mky_catL (ha : Held H0 a) (h1 : MkY H0 a t1 σ (.list ds)) (h2 : MkY H0 a t2 σ (.list es)) (l : ds.length + es.length ≤ 5000) : ∀ H, Same H0 H → ∀ Q : VK, (∀ p xs H', Same H H' → H p = none → H' p = some (.lst xs) → DxAll (delH H' a) xs (ds ++ es) → Q (.ref p) H') → tOp rCat t1 t2 σ H Q := fun H s Q k =>
  h1 H s _ fun v H1 s1 q1 => h2 H1 (s.trans s1) _ fun u H2 s2 q2 => by
    obtain ⟨p, xs, rfl, e1, r1, l1⟩ := lst_at (Dx.same (same_del s2) _ _ q1)
    obtain ⟨q, ys, rfl, e2, r2, l2⟩ := lst_at q2
    refine ⟨p, q, xs, ys, rfl, rfl, e1, e2, by rw [sizeLine_eq]; omega, fun c nc => ?_⟩
    exact k c _ _ ((s1.trans s2).trans (same_new nc)) (fresh_up (s1.trans s2) nc) upd_same (DxAll.same (same_del (same_new nc)) _ _ (DxAll.app r1 r2))
/-- list(t) -/
theorem mky_listof (ha : Held H0 a) (h1 : MkY H0 a t1 σ (.tuple ds)) : MkY H0 a (tCB (fun xs H Q => ∃ p ys, xs = [.ref p] ∧ (SqL K H p ys ∨ SqT K H p ys) ∧ ∀ l, H l = none → (l == sysModules) = false → Q (.ref l) (upd H l (.lst ys))) (tCons t1 tNil)) σ (.list ds) := fun H s Q k =>
  h1 H s _ fun v H1 s1 q1 => by
    obtain ⟨p, xs, rfl, e1, r1, l1⟩ := tup_at q1
    exact ⟨p, xs, rfl, .inr (st_of e1), fun c nc low => k _ _ (s1.trans (same_new nc)) (.lst (((ha.same s).same s1).off nc upd_same) low (DxAll.same (same_del (same_new nc)) _ _ r1))⟩
theorem mkx_pow19 : MkX (tOp (rI CPow fun i j => V.int (i ^ j.toNat)) (tC (.int 10)) (tC (.int 19))) σ (.int (10 ^ 19)) := fun H Q k => ⟨10, 19, rfl, rfl, ⟨by decide, by decide, by decide⟩, k _ H (Same.refl H) (.int _)⟩
theorem mkx_neg (i : Int) : MkX (tUn (rU fun i => V.int (-i)) (tC (.int i))) σ (.int (-i)) := fun H Q k => ⟨i, rfl, k _ H (Same.refl H) (.int _)⟩
theorem mkx_mulS (z : Str) (n : Int) (h1 : 1 ≤ n) (h2 : n ≤ 10000) (h3 : z.length ≤ 1000) : MkX (tOp rMulS (tC (.str z)) (tC (.int n))) σ (.str (Txt.mul z n)) := fun H Q k => ⟨z, n, rfl, rfl, h1, h2, h3, k _ H (Same.refl H) (.str _)⟩
theorem mkx_dictI (i : Int) (j : Int) : MkX (tDisp [(tC (.int i), tC (.int j))]) σ (.dict [(.int i, .int j)]) := fun H _ k p n =>
  ⟨upd_same, [(.inl i, .int j)], rfl, (by show 1 ≤ 15; decide), by
    rw [upd_upd]
    exact k _ _ (same_new n) (.dct (kvs := [(.inl i, .int j)]) (by rw [newH_at n]; exact upd_same) (.cons (k := .inl i) (.int j) .nil))⟩
theorem mkx_dictS (x y : Str) : MkX (tDisp [(tC (.str x), tC (.str y))]) σ (.dict [(.str x, .str y)]) := fun H _ k p n =>
  ⟨upd_same, [(.inr x, .str y)], rfl, (by show 1 ≤ 15; decide), by
    rw [upd_upd]
    exact k _ _ (same_new n) (.dct (kvs := [(.inr x, .str y)]) (by rw [newH_at n]; exact upd_same) (.cons (k := .inr x) (.str y) .nil))⟩
end
/-! data without objects -/
mutual
def noOb : PyData → Bool
  | .none | .bool _ | .int _ | .str _ => true
  | .list xs | .tuple xs => noObAll xs
  | .dict kvs => noObKv kvs
def noObAll : List PyData → Bool
  | [] => true
  | x :: xs => noOb x && noObAll xs
def noObKv : List (PyData × PyData) → Bool
  | [] => true
  | (.none, _) :: _ => false
  | (_, v) :: r => noOb v && noObKv r
end
mutual
theorem dq_of2 [CurK] {H : Hp} : ∀ (d : PyData) (v : V), noOb d = true → Dx H v d → Dq H v d
  | .none, _, _, h => by cases h; exact .non
  | .bool b, _, _, h => by cases h; exact .bl b
  | .int i, _, _, h => by cases h; exact .int i
  | .str x, _, _, h => by cases h; exact .str x
  | .list ds, _, p, h => by
    cases h with
    | lst at_ low rest => exact .lst at_ low (dqAll_of2 ds _ (by simpa [noOb] using p) rest)
  | .tuple ds, _, p, h => by
    cases h with
    | tup at_ rest => exact .tup at_ (dqAll_of2 ds _ (by simpa [noOb] using p) rest)
  | .dict ds, v, p, h => by
    have p' : noObKv ds = true := by simpa [noOb] using p
    generalize hd : PyData.dict ds = d at h
    cases h with
    | dct at_ rest =>
      cases hd
      exact .dct at_ (dqKv_of2 ds _ p' rest)
    | ob at_ ok =>
      cases hd
      cases p'
    | _ => cases hd
theorem dqAll_of2 [CurK] {H : Hp} : ∀ (ds : List PyData) (vs : List V), noObAll ds = true → DxAll H vs ds → DqAll H vs ds
  | [], _, _, h => by cases h; exact .nil
  | d :: ds, _, p, h => by
    cases h with
    | cons one more =>
      have p' : noOb d = true ∧ noObAll ds = true := by simpa [noObAll] using p
      exact .cons (dq_of2 d _ p'.1 one) (dqAll_of2 ds _ p'.2 more)
theorem dqKv_of2 [CurK] {H : Hp} : ∀ (ds : List (PyData × PyData)) (kvs : List (Key × V)), noObKv ds = true → DxKv H kvs ds → DqKv H kvs ds
  | [], _, _, h => by cases h; exact .nil
  | (k, d) :: ds, _, p, h => by
    cases h with
    | @cons key _ _ _ _ one more =>
      have p' : noOb d = true ∧ noObKv ds = true := by
        cases key with
        | inl i => simpa [noObKv, keyD] using p
        | inr x => simpa [noObKv, keyD] using p
      exact .cons (dq_of2 d _ p'.1 one) (dqKv_of2 ds _ p'.2 more)
end
theorem noObAll_of : ∀ {ds : List PyData}, (∀ d ∈ ds, noOb d = true) → noObAll ds = true
  | [], _ => rfl
  | d :: ds, h => by
    simp only [noObAll, h d List.mem_cons_self, noObAll_of fun x hx => h x (List.mem_cons_of_mem _ hx), Bool.and_self]
section
theorem good_tupN {ds : List PyData} {b n k : Nat} (h : ∀ d ∈ ds, Good d b n) (l : ds.length ≤ k) : Good (.tuple ds) (b + 1) ((n + 2) * k + 3) := by
  have all : ∀ es : List PyData, (∀ d ∈ es, Good d b n) → PyData.showableAll es = true ∧ PyData.depthAll es ≤ b ∧ ((PyData.shownAll es).map (·.length)).sum ≤ n * es.length ∧ (PyData.shownAll es).length = es.length := by
    intro es
    induction es with
    | nil => exact fun _ => ⟨rfl, Nat.zero_le _, Nat.zero_le _, rfl⟩
    | cons e es ih =>
      intro he
      obtain ⟨i1, i2, i3, i4⟩ := ih fun d hd => he d (List.mem_cons_of_mem _ hd)
      have g := he e List.mem_cons_self
      refine ⟨?_, ?_, ?_, ?_⟩
      · simp only [PyData.showableAll, g.sh, i1, Bool.and_self]
      · simp only [PyData.depthAll]
        have := g.dp
        omega
      · simp only [PyData.shownAll, List.map_cons, List.sum_cons, List.length_cons]
        have := g.ln
        rw [Nat.mul_succ]
        omega
      · simp only [PyData.shownAll, List.length_cons, i4]
  obtain ⟨a1, a2, a3, a4⟩ := all ds h
  refine ⟨by simpa only [PyData.showable] using a1, by simp only [PyData.depth]; omega, ?_⟩
  simp only [PyData.shown]
  have z := tupleText_len_le (PyData.shownAll ds)
  rw [a4] at z
  have m1 : n * ds.length ≤ n * k := Nat.mul_le_mul_left n l
  have m2 : (n + 2) * k = n * k + 2 * k := Nat.add_mul n 2 k
  omega
theorem good_lstN {ds : List PyData} {b n k : Nat} (h : ∀ d ∈ ds, Good d b n) (l : ds.length ≤ k) : Good (.list ds) (b + 1) ((n + 2) * k + 3) := by
  have g := good_tupN h l
  have all : ∀ es : List PyData, (∀ d ∈ es, Good d b n) → ((PyData.shownAll es).map (·.length)).sum ≤ n * es.length ∧ (PyData.shownAll es).length = es.length := by
    intro es
    induction es with
    | nil => exact fun _ => ⟨Nat.zero_le _, rfl⟩
    | cons e es ih =>
      intro he
      obtain ⟨i3, i4⟩ := ih fun d hd => he d (List.mem_cons_of_mem _ hd)
      have g := he e List.mem_cons_self
      refine ⟨?_, ?_⟩
      · simp only [PyData.shownAll, List.map_cons, List.sum_cons, List.length_cons]
        have := g.ln
        rw [Nat.mul_succ]
        omega
      · simp only [PyData.shownAll, List.length_cons, i4]
  obtain ⟨a3, a4⟩ := all ds h
  refine ⟨by simpa only [PyData.showable] using g.sh, by simpa only [PyData.depth] using g.dp, ?_⟩
  simp only [PyData.shown]
  have z := listText_len_le (PyData.shownAll ds)
  rw [a4] at z
  have m1 : n * ds.length ≤ n * k := Nat.mul_le_mul_left n l
  have m2 : (n + 2) * k = n * k + 2 * k := Nat.add_mul n 2 k
  omega
/-- data that can be shown, and has no objects -/
structure Shw (d : PyData) : Prop where
  no : noOb d = true
  gd : Good d 50 100000
def shwB (d : PyData) : Bool := noOb d && (d.showable && (decide (d.depth ≤ 50) && decide (d.shown.length ≤ 100000)))
theorem shw_of {d : PyData} (h : shwB d = true) : Shw d := by
  unfold shwB at h
  simp only [Bool.and_eq_true, decide_eq_true_eq] at h
  exact ⟨h.1, h.2.1, h.2.2.1, h.2.2.2⟩
theorem shw_tup {ds : List PyData} {b n k : Nat} (h : ∀ d ∈ ds, noOb d = true ∧ Good d b n) (l : ds.length ≤ k) (hb : b + 1 ≤ 50) (hn : (n + 2) * k + 3 ≤ 100000) : Shw (.tuple ds) :=
  ⟨by simpa only [noOb] using noObAll_of fun d hd => (h d hd).1, (good_tupN (fun d hd => (h d hd).2) l).mono hb hn⟩
theorem shw_lst {ds : List PyData} {b n k : Nat} (h : ∀ d ∈ ds, noOb d = true ∧ Good d b n) (l : ds.length ≤ k) (hb : b + 1 ≤ 50) (hn : (n + 2) * k + 3 ≤ 100000) : Shw (.list ds) :=
  ⟨by simpa only [noOb] using noObAll_of fun d hd => (h d hd).1, (good_lstN (fun d hd => (h d hd).2) l).mono hb hn⟩
end
end V4

set_option maxHeartbeats 4000000
/-! V4f: how often a flag stands in a list; a lambda without parameters handed to a def that catches what it lets out -/
namespace V4
open PySem PySem.Spec PyProof.Rows L2 V1 V2 V3 LamX
def rCntB (K : PySem.W.Frag) : V → List V → Hp → VK → Prop := fun x xs H Q => ∃ (p : Addr) (bs : List Bool) (k : Bool), x = .ref p ∧ xs = [.bl k] ∧ SqL K H p (bs.map V.bl) ∧ Q (.int (bs.count k : Nat)) H
theorem flat_bools : ∀ bs : List Bool, (bs.map V.bl).all flatV = true
  | [] => rfl
  | b :: bs => by
    rw [List.map_cons, List.all_cons, flat_bools bs]
    rfl
theorem cnt_bools {k : Bool} : ∀ {bs : List Bool} {us : List Value}, Vals (bs.map V.bl) us → us.countP (eqU (.bl k)) = bs.count k
  | [], _, .nil => rfl
  | b :: bs, _, .cons r t => by
    cases r
    rw [List.countP_cons, cnt_bools t, List.count_cons]
    have z : eqU (.bl k) (Value.bool b) = (b == k) := by cases b <;> cases k <;> rfl
    rw [z]
theorem mt_countB {X : Cx} : MtR X "list.count" (rCntB X.K) := by
  rintro pins s σ H x xs v us Q I rx rxs ⟨p, bs, k, rfl, rfl, hs, q⟩
  cases rx
  obtain ⟨u, rfl, ru⟩ := rxs.one
  obtain ⟨its, rv, ⟨⟨cls, dd, dat, sl⟩, n, ho, hc, hdn, hd⟩, _⟩ := I.list hs
  simp only at hc hd
  subst hc hd
  refine call_meets PySem.F.slot_list_count ⟨_, ho, rfl⟩ PySem.F.entry_list_count (PySem.F.args_list_count_2 _ _) (SeqAt.list_countAt p its.toArray n dd sl u (eqU (.bl k)))
    ⟨ho, fun y hy => mem_eqAt ru rfl rv (flat_bools bs) y (by simpa using hy), ?_⟩
  refine ⟨.int (bs.count k : Nat), H, I.tok _, ⟨s.toks, ?_⟩, q⟩
  show Value.int ((its.toArray.toList.countP (eqU (.bl k)) : Nat) : Int) s.toks = _
  rw [show its.toArray.toList = its from rfl, cnt_bools rv]
section
variable {X : Cx} {pins : List (Addr × Obj)} {σ : L2.St} {H : Hp} {s : Shared}
/-- the context of the def g that got a lambda -/
abbrev inP (P : Program) (w : World) (K : PySem.W.Frag) (mg : Str → Option Value) (base : Heap) (A : Around) (st : List Env) (Ng : List Str) (x : Str) (sg : Scope) (g : Addr) (cdg : Value) (s : Shared) (H : Hp) : Cx := cxOf C8.CX0 P w K mg base Ng x sg g cdg A st s H C8.E0
abbrev inCx (X : Cx) (Ng : List Str) (x : Str) (sg : Scope) (g : Addr) (cdg : Value) (s : Shared) (H : Hp) : Cx := inP X.prog X.w X.K X.mg X.base X.A X.stack Ng x sg g cdg s H
/-- the def calls what it got: what leaves the lambda goes where the def's clauses wish, by the slots -/
theorem pe_actS {Ng : List Str} {x : Str} {sg : Scope} {g f c' : Addr} {cdg pm ctv : Value} {params : Arguments} {body : Expr} {scope : Scope} {k i : Nat} {nm : Str} {pn : List (Addr × Obj)} {xe : Value → Shared → Prop} {W : WX} {t : XK → TE} {p1 p2 : Pos}
    (I : Inv X pins σ H s) (L : LamS X.env.scope scope) (hf : s.heap.get? f = some (PySem.W.kla_obj "<lambda>" (X.env.qual ++ "<lambda>") params body scope (cloFrom X.env.cells scope.names []) pm c' ctv)) (new : H f = none) (off : f ∉ frs X.stack)
    (bind : bindArgs (PySem.W.kla_fn "<lambda>" (X.env.qual ++ "<lambda>") params body scope (cloFrom X.env.cells scope.names []) pm (.ref c') ctv) ⟨[], []⟩ = pure [])
    (tk : Takes ((inCx X Ng x sg g cdg s H).tr pn xe) W) (room : Room (k + 1) (X.A.deeper (envOfC x sg s.heap.objs.size g cdg)))
    (inner : ∀ (E : XK) (A : Around) (outer : List Env) (s : Shared) (H : Hp), Room k (A.deeper (lamEnv X scope s.heap.objs.size f c')) → PE (lamCx X A outer s H E scope f c') body (t E))
    (at_ : Ng[i]? = some nm) (vis : Vis sg nm) (nd : (nm == ("__debug__" : Str)) = false := by decide) (nc : (nm == ("__classdict__" : Str)) = false := by decide) :
    PE ((inCx X Ng x sg g cdg s H).tr pn xe) (.Call (.Name nm p1) [] [] p2) (fun τ G Q => τ[i]? = some (some (.ref f)) ∧ G c' = some (CodeO c' (X.env.qual ++ "<lambda>")) ∧ t (WE W τ) σ G Q) := by
  refine ⟨fun pins2 s2 τ G Q J ⟨h1, h2, h3⟩ => ?_⟩
  refine wpAny_Call_Name_kw (thn ((pe_var (pos := p1) (i := i) at_ vis nd nc).run pins2 s2 τ G (fun v G' => v = .ref f ∧ G' = G) J ⟨.ref f, h1, rfl, rfl⟩) ?_)
  rintro u s3 ⟨v, G', J3, rv, rfl, rfl⟩
  cases rv
  have there : s3.heap.get? f = some (PySem.W.kla_obj "<lambda>" (X.env.qual ++ "<lambda>") params body scope (cloFrom X.env.cells scope.names []) pm c' ctv) := J3.base.keep f _ hf new off (fun z => nomatch (show f ∈ ([] : List Addr) from z))
  refine PySem.W.callWith_F0 ⟨_, _, _, _, there⟩ ?_
  have un : Un (frs X.stack) [] H G' s.heap s3.heap := J3.base
  obtain ⟨⟨oc, vs, tc, hoc, hdc, hvc⟩, _, _⟩ := J3.hok c' _ h2
  have run : codeAny (model X.prog X.w) (X.A.deeper (envOfC x sg s.heap.objs.size g cdg)) (.call (.ref f) ⟨[], []⟩) (CR (L2.CX X.prog X.w) (envOfC x sg s.heap.objs.size g cdg :: X.stack) X.prog X.w G' s3 Q (WE W τ)) s3 := by
    refine PySem.W.kla_callFunE room.depth there rfl L.co L.gen rfl ⟨c', oc, vs, tc, rfl, hoc, hdc, hvc⟩ ?_
    rw [bind]
    refine wpAny_pure (wpAny_newFunctionEnv (fun y hy => (L.own y hy).2) (fun y hy => absurd hy (by simp)) (fun g1 ns1 sb1 => ⟨J3.nolimit.fresh _ sb1, ?_⟩) L.kind)
    show codeAny _ _ (.expr body (lamEnv X scope s3.heap.objs.size f c')) _ _
    have kp : ∀ b o, s3.heap.get? b = some o → g1.get? b = some o := fun b o e => sb1.extBut b o (Nat.ne_of_lt (Heap.lt_size e)) (Heap.get?_push_of_some _ e)
    have J4 : Inv (lamCx X (X.A.deeper (envOfC x sg s.heap.objs.size g cdg)) (envOfC x sg s.heap.objs.size g cdg :: X.stack) s3 G' (WE W τ) scope f c') [] σ G' { s3 with heap := g1, toks := s3.toks + ([] : List (Str × Value)).length } :=
      lam_start2 I L J3.env0 room.hd un ns1 kp
    refine PySem.W.kla_codeExpr (wpAny_mono ((inner _ _ _ s3 G' (room.deeper _)).run [] _ _ G' Q J4 h3) (fun v s5 out => ?_) fun e s5 out => out)
    exact let ⟨w', G5, J5, r5, q5⟩ := out; ⟨w', G5, J5.os, J5.bare, J5.base, J5.hok, r5, q5⟩
  refine wpAny_call (codeAny_mono run fun r s5 out => ?_)
  match r, out with
  | .error e, out => exact passAt tk τ pins2 G' s3 e s5 J3 out
  | .ok (.ret u), out => exact J3.after out
  | .ok .next, out => exact out.elim
  | .ok .brk, out => exact out.elim
  | .ok .cont, out => exact out.elim
/-- what a def makes of the lambda that it got -/
def GivesP (P : Program) (w : World) (K : PySem.W.Frag) (mg : Str → Option Value) (base : Heap) (A : Around) (st : List Env) (Ng : List Str) (x : Str) (sg : Scope) (g : Addr) (cdg : Value) (bg : List Stmt) (nm : Str) (q : Str) (TT : (XK → Hp → VK → Prop) → Hp → VK → Prop) : Prop :=
  ∀ (f c' : Addr) (s : Shared) (H : Hp) (Q : VK) (tl : XK → Hp → VK → Prop), Room 30 (A.deeper (envOfC x sg s.heap.objs.size g cdg)) →
    (∀ (W : WX) (pn : List (Addr × Obj)) (xe : Value → Shared → Prop) (p1 p2 : Pos), Takes ((inP P w K mg base A st Ng x sg g cdg s H).tr pn xe) W →
      PE ((inP P w K mg base A st Ng x sg g cdg s H).tr pn xe) (.Call (.Name nm p1) [] [] p2) (fun τ G Q => τ[0]? = some (some (.ref f)) ∧ G c' = some (CodeO c' q) ∧ tl (WE W τ) G Q)) →
    H c' = some (CodeO c' q) → TT tl H Q → ∃ t, PSs (inP P w K mg base A st Ng x sg g cdg s H).nox bg t ∧ t { nx := fun _ H' => Q .non H', rt := Q } (L2.start Ng [.ref f]) H
def tLamS (ts : List (Addr × Str)) (TT : (XK → Hp → VK → Prop) → Hp → VK → Prop) (t : XK → TE) : TE := fun σ H Q => Tabs ts H ∧ ∀ H1, ExtN H H1 → Tabs ts H1 → TT (fun E G Q' => t E σ G Q') H1 Q
/-- x(lambda: body) -/
theorem pe_lamS {ts : List (Addr × Str)} {TT : (XK → Hp → VK → Prop) → Hp → VK → Prop} {x nm : Str} {g c P : Addr} {fd : FuncData} {pg : Arguments} {bg : List Stmt} {sg : Scope} {Ng : List Str} {params : Arguments} {body : Expr} {scope : Scope} {t : XK → TE} {p lpos pos : Pos}
    (F : FunD X.K x x pg bg sg [] [] g fd) (bd : L2.Binds X.K fd [nm] []) (hm : X.mg x = some (.ref g)) (Sg : FnScope Ng [nm] sg) (at_ : Ng[0]? = some nm)
    (give : ∀ cdg : Value, GivesP X.prog X.w X.K X.mg X.base X.A X.stack Ng x sg g cdg bg nm (X.env.qual ++ "<lambda>") TT)
    (TB : TabB X.base X.mg c P) (code : X.env.code = .ref c) (mem : (P, X.env.qual ++ "<lambda>") ∈ ts) (uniq : ∀ p ∈ ts, p.1 = P → p.2 = X.env.qual ++ "<lambda>") (room : Room 32 X.A) (L : LamS X.env.scope scope)
    (inner : ∀ (E : XK) (A : Around) (outer : List Env) (s : Shared) (H : Hp) (f c' : Addr), Room 29 (A.deeper (lamEnv X scope s.heap.objs.size f c')) → PE (lamCx X A outer s H E scope f c') body (t E))
    (hg : Gl X x := by rfl) (dfl : defaultsOf params X.env = ([], []) := by rfl)
    (bind : ∀ (q : Str) (cl : List (Str × Addr)) (pm cv ctv : Value), bindArgs (PySem.W.kla_fn "<lambda>" q params body scope cl pm cv ctv) ⟨[], []⟩ = pure [] := by intros; rfl)
    (hdb : (x == ("__debug__" : Str)) = false := by decide) (nd : (nm == ("__debug__" : Str)) = false := by decide) (nc : (nm == ("__classdict__" : Str)) = false := by decide) :
    PE X (.Call (.Name x p) [.Lambda params body scope lpos] [] pos) (tLamS ts TT t) := by
  obtain ⟨oc, od, dV, kV, doc, pm0, an, cdv, ct, osl, rfl, lk, cd, _, _⟩ := F.ex
  have vis : Vis sg nm := (Sg.par nm List.mem_cons_self).elim (fun z => Or.inl z) (fun z => Or.inr (Or.inl z))
  refine ⟨fun pins s σ H Q I ⟨hT, h⟩ => ?_⟩
  refine wpAny_Call_Name_kw (ld_glob I hg hm ?_ hdb)
  refine PySem.W.callWith_K (h₀ := X.base) I.ok.mod.kin F.kp ?_ (by rfl) (by rfl)
  show wpAny _ _ (spliced ((false, eval (.Lambda params body scope lpos) X.env) :: backTo pos (starEach [] X.env))) _ _ s
  refine Calls.spliced_cons (lam_make2 I TB code mem uniq hT dfl (L.has I.ok) fun f c' pm ctv H1 s1 I1 eN T1 hf new off co => Calls.spliced_nil ⟨I1.kIn, ?_⟩)
  have run : codeAny (model X.prog X.w) X.A (.call (.ref g) ⟨[.ref f], []⟩) (CR C8.CX0 X.stack X.prog X.w H1 s1 Q C8.E0) s1 := by
    refine run_ofS (k := 31) (N := Ng) (ps := [nm]) (us := [.ref f]) (vs := [.ref f]) lk cd Sg room I1.env0 (bd s1 [.ref f] I1.kIn rfl) (.cons rfl .nil) rfl fun r31 => ?_
    obtain ⟨t', ht, hq⟩ := give cdv f c' s1 H1 Q (fun E G Q' => t E σ G Q') (r31.mono (by decide)) (fun W pn xe p1 p2 tk => pe_actS (k := 29) (i := 0) I1 L hf new off (bind _ _ _ _ _) tk (r31.mono (by decide)) (fun E A outer s H r => inner E A outer s H f c' r) at_ vis nd nc) co (h H1 eN T1)
    exact ⟨t', ht.nox, hq⟩
  refine wpAny_call (codeAny_mono run fun r s2 out => ?_)
  match r, out with
  | .error e, out => exact (show False from out).elim
  | .ok (.ret u), out => exact I1.after out
  | .ok .next, out => exact out.elim
  | .ok .brk, out => exact out.elim
  | .ok .cont, out => exact out.elim
end
end V4

set_option maxHeartbeats 4000000
/-! V4g: what stays when all but the tables of codes stays -/
namespace V4
open PySem PySem.Spec PyProof.Rows L2 V1 V2 V3 LamX
section
variable [CurK] {H H' : Hp}
mutual
theorem dx_ext (e : ExtN H H') : ∀ (d : PyData) (v : V), Dx H v d → Dx H' v d
  | .none, _, h => by cases h; exact .non
  | .bool b, _, h => by cases h; exact .bl b
  | .int i, _, h => by cases h; exact .int i
  | .str x, _, h => by cases h; exact .str x
  | .list ds, _, h => by
    cases h with
    | lst there low more => exact .lst (e _ _ there fun _ z => nomatch z) low (dxs_ext e ds _ more)
  | .tuple ds, _, h => by
    cases h with
    | tup there more => exact .tup (e _ _ there fun _ z => nomatch z) (dxs_ext e ds _ more)
  | .dict ds, _, h => by
    cases h with
    | dct there more => exact .dct (e _ _ there fun _ z => nomatch z) (dxk_ext e ds _ more)
    | ob there ok => exact .ob (e _ _ there fun _ z => nomatch z) ok
theorem dxs_ext (e : ExtN H H') : ∀ (ds : List PyData) (vs : List V), DxAll H vs ds → DxAll H' vs ds
  | [], _, h => by cases h; exact .nil
  | d :: ds, _, h => by
    cases h with
    | cons one more => exact .cons (dx_ext e d _ one) (dxs_ext e ds _ more)
theorem dxk_ext (e : ExtN H H') : ∀ (ds : List (PyData × PyData)) (kvs : List (Key × V)), DxKv H kvs ds → DxKv H' kvs ds
  | [], _, h => by cases h; exact .nil
  | (k, d) :: ds, _, h => by
    cases h with
    | cons one more => exact .cons (dx_ext e d _ one) (dxk_ext e ds _ more)
end
end
theorem ext_of {H H' : Hp} (s : Same H H') : ExtN H H' := ExtN.of s
theorem ext_del {H H' : Hp} {a : Addr} (e : ExtN H H') : ExtN (delH H a) (delH H' a) := fun b o h n => by
  by_cases z : b = a
  · rw [z, delH_same] at h
    cases h
  · rw [delH_ne z] at h ⊢
    exact e b o h n
theorem ext_lst {H H' : Hp} {p : Addr} {xs : List V} (e : ExtN H H') (h : H p = some (.lst xs)) : H' p = some (.lst xs) := e p _ h fun _ z => nomatch z
theorem ext_tup {H H' : Hp} {p : Addr} {xs : List V} (e : ExtN H H') (h : H p = some (.tup xs)) : H' p = some (.tup xs) := e p _ h fun _ z => nomatch z
/-- tables stay where everything stays -/
theorem tabs_same {ts : List (Addr × Str)} {H H' : Hp} (t : Tabs ts H) (s : Same H H') : Tabs ts H' := t.ext s
theorem tabS_del {H : Hp} {p a : Addr} {q : Str} (h : TabS H p q) (n : H a ≠ none → ∃ xs, H a = some (.lst xs)) : True := trivial
end V4

set_option maxHeartbeats 4000000
/-! V4h: {k: v for a target in a walk}, its keys tuples of ints and texts. -/
namespace V4
open PySem PySem.Spec PyProof.Rows L2 V1 V2 V3
section
variable {X : Cx}
/-- so many turns, each with one store -/
def TurnsT (J : It) (g : TG) (tk tv : TE) (vs : List Nat) (σ : L2.St) (D : Addr) (n : Nat) (W : Nat → Hp → Prop) : Prop :=
  ∀ i H', i < n → W i H' → J.go i H' ∧ ∀ x H2, J.yld i H' x H2 → g x (wipe σ vs) H2 fun σ2 H3 => wipe σ2 vs = wipe σ vs ∧ tk σ2 H3 fun y H4 => tv σ2 H4 fun z H5 =>
    ∃ kvs k b, y = .ref b ∧ H5 b = some (.tup (k.map kV)) ∧ H5 D = some (.dT kvs) ∧ kvs.length < sizeLine ∧ W (i + 1) (upd H5 D (.dT (putK kvs k z)))
def tDcT (wi : TI) (g : TG) (tk tv : TE) (vs : List Nat) : TE := fun σ H Q => wi σ H fun J H1 => ∀ D, H1 D = none →
  ∃ (n : Nat) (W : Nat → Hp → Prop), W 0 (upd H1 D (.dT [])) ∧ (∀ H', W n H' → J.stop n H' ∧ Q (.ref D) H') ∧ TurnsT J g tk tv vs σ D n W
/-- the store of such a comprehension -/
theorem storeT {Y : Cx} {pins : List (Addr × Obj)} {σ : L2.St} {H : Hp} {s : Shared} {E : Value → Shared → Prop} {D b : Addr} {kvs : List (List Key × V)} {k : List Key} {v : V} {r : Value} {Q : Unit → Shared → Prop}
    (room : Y.A.units < cLine) (I : Inv Y pins σ H s) (eb : H b = some (.tup (k.map kV))) (eD : H D = some (.dT kvs)) (z : kvs.length < sizeLine) (rv : RelV v r)
    (h : ∀ s', Inv Y pins σ (upd H D (.dT (putK kvs k v))) s' → Q () s') : wpAny (model Y.prog Y.w) Y.A (dictSet D (.ref b) r) Q E s := by
  obtain ⟨_, low, xs, rel, dd⟩ := dt_of I.hok eD
  have lx : xs.length ≤ sizeLine := Paired.length rel ▸ Nat.le_of_lt z
  have ly : (putK kvs k v).length ≤ sizeLine := Nat.le_trans (length_putK kvs k v) z
  refine wpAny_dictSet_heap (knd := tupleKind (mixKind Y.prog Y.w)) (hsz := lx) room (key_of I.hok eb) dd fun g ⟨ob, es, ep, g1, g2, g3, g4, _, g6⟩ sb => h _ ?_
  have mu : Mut (H D) := by
    rw [eD]
    trivial
  refine d_write I mu sb ⟨ob, g1⟩ ⟨ly, low, _, (rel.put k eb rv).keeps fun c ys ec => ?_, ob, es, ep, g1, g2, g3, g4, g6⟩
  have cD : c ≠ D := fun q => by
    rw [q, eD] at ec
    cases ec
  rw [upd_ne cD]
  exact ec
/-- one turn of it, in its block -/
theorem turnT {Y : Cx} {tg kx vx : Expr} {J : It} {fp : List Addr} {it : Addr} {tn : Nat → Heap → Prop} {g : TG} {tk tv : TE} {vs : List Nat} {σ : L2.St} {D : Addr} {n : Nat} {W : Nat → Hp → Prop} (calm : Y.calm = true) (room : Y.A.units < cLine) (no : Y.xe = fun _ _ => False)
    (T : Turn Y.prog Y.w Y.K tg J fp it tn) (pg : PG Y tg g) (pk : PE Y kx tk) (pv : PE Y vx tv) (stat : ∀ {σ' H' s'}, Inv Y [] σ' H' s' → (∀ b ∈ fp, H' b = none) → ∀ b ∈ fp, FpOk Y [] H' b) (tt : TurnsT J g tk tv vs σ D n W)
    {i : Nat} {H' : Hp} {s' : Shared} (hi : i < n) (I : Inv Y [] (wipe σ vs) H' s') (st : tn i s'.heap) (nf : ∀ b ∈ fp, H' b = none) (w : W i H') :
    wpAny (model Y.prog Y.w) Y.A (pyNext (.ref it)) (fun r s1 => ∃ u, r = some u ∧ wpAny (model Y.prog Y.w) Y.A (letOwnedTupleGo tg (.ref it) u) (fun _ s2 =>
      wpAny (model Y.prog Y.w) Y.A (assign tg Y.env u) (fun _ s3 => wpAny (model Y.prog Y.w) Y.A (eval kx Y.env) (fun kv s4 => wpAny (model Y.prog Y.w) Y.A (eval vx Y.env) (fun vv s5 =>
        wpAny (model Y.prog Y.w) Y.A (dictSet D kv vv) (fun _ s6 => ∃ H6, Inv Y [] (wipe σ vs) H6 s6 ∧ tn (i + 1) s6.heap ∧ (∀ b ∈ fp, H6 b = none) ∧ W (i + 1) H6)
        (fun _ _ => False) s5) (fun _ _ => False) s4) (fun _ _ => False) s3) (fun _ _ => False) s2) (fun _ _ => False) s1) (fun _ _ => False) s' := by
  obtain ⟨go, step⟩ := tt i H' hi w
  refine thnF (T.item Y rfl rfl rfl calm i [] s' _ H' (fun _ _ => False) I (stat I nf) st go) fun r s1 ⟨u, er, q⟩ => ⟨u, er, thnF q fun _ s2 ⟨x, H2, I2, rx, y2, st2, n2⟩ => ?_⟩
  have Ip := I2.pinned (stat I2 n2) (T.obj _ _ st2)
  have a1 := pg.run _ s2 _ H2 x u _ Ip rx (step x H2 y2)
  rw [no] at a1
  refine thnF a1 fun _ s3 ⟨σ3, H3, I3, e3, q3⟩ => ?_
  have a2 := pk.run _ s3 σ3 H3 _ I3 q3
  rw [no] at a2
  refine thnF a2 fun kv s4 ⟨y, H4, I4, r4, q4⟩ => ?_
  have a3 := pv.run _ s4 σ3 H4 _ I4 q4
  rw [no] at a3
  refine thnF a3 fun vv s5 ⟨z, H5, I5, r5, kvs, k, b, ey, eb, eD, lz, w'⟩ => ?_
  subst ey
  obtain rfl : kv = Value.ref b := r4
  refine storeT room I5 eb eD lz r5 fun s6 I6 => ?_
  have held : ∀ c ∈ fp, ∀ o, s2.heap.get? c = some o → s6.heap.get? c = some o ∧ upd H5 D (.dT (putK kvs k z)) c = none := fun c hc o eo =>
    let pin := I6.pin (c, o) (List.mem_append_right _ (List.mem_append_right _ (mem_pinsAt hc eo)))
    ⟨pin.1, pin.2.1⟩
  refine ⟨_, I6.unpinned.weak (by rw [← e3, wipe_length]) fun j v ev => ?_, T.keep _ _ _ st2 fun c hc o eo => (held c hc o eo).1, fun c hc => ?_, w'⟩
  · rw [← e3] at ev
    exact (wipe_some ev).1
  · obtain ⟨o, eo, _⟩ := T.obj _ _ st2 c hc
    exact (held c hc o eo).2
theorem pe_dcT {kx vx tg iter : Expr} {scope : Scope} {own : List (Str × Nat)} {pos : Pos} {wi : TI} {g : TG} {tk tv : TE} (hc : X.calm = true) (room : X.A.units < cLine) (hN : X.N.Nodup) (hi : PI X tg iter wi) (ok : BlkOk X.N X.env.scope scope own)
    (hg : ∀ (s : Shared) (H : Hp) (C : Addr) (cl : List (Str × Addr)) (fp : List Addr), PG (X.blk s H scope (compEnvC scope cl C X.env) fp) tg g)
    (hk : ∀ (s : Shared) (H : Hp) (C : Addr) (cl : List (Str × Addr)) (fp : List Addr), PE (X.blk s H scope (compEnvC scope cl C X.env) fp) kx tk)
    (hv : ∀ (s : Shared) (H : Hp) (C : Addr) (cl : List (Str × Addr)) (fp : List Addr), PE (X.blk s H scope (compEnvC scope cl C X.env) fp) vx tv) (hs : ∀ x, foldedSetIterable iter X.env x = pure x := by intro _; rfl) :
    PE X (.DictComp kx vx [⟨tg, iter, [], 0⟩] scope pos) (tDcT wi g tk tv (own.map (·.2))) := by
  refine ⟨fun pins s σ H Q I h => ?_⟩
  rw [arm_eval_DictComp]
  have clo : ∀ y ∈ scope.names, y.2 = .free → ∃ c, X.env.cells.lookup y.1 = some c := fun y hy e => (ok.free y hy e).elim (fun z => I.ok.has _ (.inl z)) fun z => I.ok.has _ (.inr z)
  refine wpAny_comprehension_free (use := none) rfl hs (closure_ok clo) ok.kind (fun y hy e => (ok.uniq y hy).trans (congrArg some e)) (thn (hi.run pins s σ H _ I h) fun xv s1 hx => thn hx fun itv s2 got => ?_)
  obtain ⟨it, fp, tn, J, H2, rfl, I2, T, st2, f2, q⟩ := got
  refine wpAny_newObj_type (newEnv_comp ?_)
  -- the dict's place, and the heap with it
  obtain ⟨D, eD⟩ : ∃ D, D = s2.heap.objs.size := ⟨_, rfl⟩
  obtain ⟨n, W, w0, stop, tt⟩ := q D (I2.hok.fresh (Nat.le_of_eq eD.symm))
  obtain ⟨s3, e3⟩ : ∃ s3 : Shared, s3 = { s2 with heap := s2.heap.push { cls := .type "dict", data := .dict #[] } } := ⟨_, rfl⟩
  have heap3 : s3.heap = s2.heap.push { cls := .type "dict", data := .dict #[] } := congrArg Shared.heap e3
  have I3 : Inv X pins σ (upd H2 D (.dT [])) s3 := by
    rw [e3, eD]
    exact I2.laid (t' := s2.toks) (fun _ _ z => Heap.get?_push_of_some _ z) (Nat.le_refl _) (dt_empty s2.heap I2.big)
  have inFp : ∀ b ∈ fp, b < s2.heap.objs.size := fun b hb => (T.obj _ _ st2 b hb).elim fun o z => Heap.lt_size z.1
  have f3 : ∀ b ∈ fp, FpOk X pins (upd H2 D (.dT [])) b ∧ b < s3.heap.objs.size := fun b hb => by
    have lt := inFp b hb
    refine ⟨⟨?_, (f2 b hb).2⟩, by rw [heap3, Heap.size_push]; exact Nat.lt_succ_of_lt lt⟩
    rw [upd_ne (by rw [eD]; exact Nat.ne_of_lt lt)]
    exact (f2 b hb).1
  have I4 := block_start I3 ok hN f3
  have pg := hg s3 (upd H2 D (.dT [])) s3.heap.objs.size (cellsFrom (s3.heap.objs.size + 1) scope.names (cloFrom X.env.cells scope.names [])) fp
  have pk := hk s3 (upd H2 D (.dT [])) s3.heap.objs.size (cellsFrom (s3.heap.objs.size + 1) scope.names (cloFrom X.env.cells scope.names [])) fp
  have pv := hv s3 (upd H2 D (.dT [])) s3.heap.objs.size (cellsFrom (s3.heap.objs.size + 1) scope.names (cloFrom X.env.cells scope.names [])) fp
  have nf3 : ∀ b ∈ fp, (upd H2 D (.dT [])) b = none := fun b hb => (f3 b hb).1.1
  obtain ⟨ce, ece⟩ : ∃ ce, ce = compEnvC scope (cellsFrom (s3.heap.objs.size + 1) scope.names (cloFrom X.env.cells scope.names [])) s3.heap.objs.size X.env := ⟨_, rfl⟩
  obtain ⟨s4, e4⟩ : ∃ s4 : Shared, s4 = { s3 with heap := pushCells (s3.heap.push { cls := .type "dict", data := .dict #[] }) scope.names } := ⟨_, rfl⟩
  have place : ce.locals = s3.heap.objs.size := congrArg Env.locals ece
  rw [← ece, ← e4] at I4
  rw [← ece] at pg pk pv
  have st4 : tn 0 s4.heap := T.keep _ _ _ st2 fun b _ o e => by
    rw [e4]
    refine pushCells_keeps _ _ _ _ (Heap.get?_push_of_some _ ?_)
    rw [heap3]
    exact Heap.get?_push_of_some _ e
  have stat : ∀ {σ' : L2.St} {H' : Hp} {s' : Shared}, Inv (X.blk s3 (upd H2 D (.dT [])) scope ce fp) [] σ' H' s' → (∀ b ∈ fp, H' b = none) → ∀ b ∈ fp, FpOk (X.blk s3 (upd H2 D (.dT [])) scope ce fp) [] H' b := fun {σ' H' s'} I' hn b hb => by
    refine ⟨hn b hb, (I'.ok.exf b hb).1, I'.ok.exfs b hb, .inl hb, fun x c e => (I'.ok.exf b hb).2 x c e, fun p hp => ?_⟩
    cases (show p ∈ ([] : List (Addr × Obj)) ++ [] from hp)
  have loop : codeAny (model X.prog X.w) X.A (.compLoop (.DictComp kx vx [⟨tg, iter, [], 0⟩] scope pos) 0 (.ref it) (.ref D) ce) (compPost (model X.prog X.w) X.A X.xe none (fun v s' => ∃ y H', Inv X pins σ H' s' ∧ RelV y v ∧ Q y H') (.ref D) s3.heap.objs.size) s4 := by
    refine compLoop_anyD (fun left s' => ∃ i H', i + left = n ∧ Inv (X.blk s3 (upd H2 D (.dT [])) scope ce fp) [] (wipe σ (own.map (·.2))) H' s' ∧ tn i s'.heap ∧ (∀ b ∈ fp, H' b = none) ∧ W i H') ?_ n ⟨0, _, Nat.zero_add n, I4, st4, nf3, w0⟩
    rintro left s5 ⟨i, H5, il, I5, st5, n5, w5⟩
    cases left with
    | zero =>
      obtain rfl : i = n := il
      obtain ⟨halt, q5⟩ := stop H5 w5
      refine thnF (T.done (X.blk s3 (upd H2 D (.dT [])) scope ce fp) rfl rfl rfl hc i [] s5 _ H5 (fun _ _ => False) I5 (stat I5 n5) st5 halt) fun r s6 ⟨er, I6⟩ => ?_
      subst er
      have I7 : Inv X pins σ H5 s6 := I3.call' (ch := fp) I6.os I6.base I6.hok I6.bare fun b hb => ⟨(f3 b hb).1.2.2.2.1, (f3 b hb).1.2.1, (f3 b hb).1.2.2.2.2.1, (f3 b hb).1.2.2.2.2.2⟩
      have gone : H5 s3.heap.objs.size = none := by
        rw [← place]
        exact I6.free
      obtain ⟨m, hn, _⟩ := I6.loc
      have hn : s6.heap.Ns s3.heap.objs.size m := by
        rw [← place]
        exact hn
      obtain ⟨f0, f1, f2, f3, f4, f5⟩ := I3.fpOk (H' := H5) (Nat.le_refl _) gone
      exact ⟨m, hn, fun g sb => ⟨.ref D, H5, I7.turned (t' := s6.toks) (fun b o hb e => (sb.2 b hb).trans e) f0 f1 f3 f4 f5, rfl, q5⟩⟩
    | succ left =>
      refine thnF (turnT (Y := X.blk s3 (upd H2 D (.dT [])) scope ce fp) hc room rfl T pg pk pv stat tt (by omega) I5 st5 n5 w5) fun r s6 ⟨u, er, q6⟩ => ?_
      subst er
      refine thnF q6 fun _ s7 q7 => thnF q7 fun _ s8 q8 => wpAny_pure ?_
      rw [if_pos rfl]
      exact thnF q8 fun kv s9 q9 => thnF q9 fun vv s10 q10 => thnF q10 fun _ s11 ⟨H6, I6, st6, n6, w6⟩ => ⟨left, Nat.lt_succ_self left, i + 1, H6, by omega, I6, st6, n6, w6⟩
  have all := codeAny_compStart_dict loop (T.self X.A 0 _ _ _ st4 loop)
  subst e4 ece e3 eD
  exact all
end
end V4

set_option maxHeartbeats 4000000
/-! V4i: a lambda as a value. -/
namespace V4
open PySem PySem.Spec PyProof.Rows L2 V1 V2 V3 LamX
def tLamV (ts : List (Addr × Str)) : TE := fun _ H Q => Tabs ts H ∧ ∀ H1 f, ExtN H H1 → Tabs ts H1 → H1 f = none → Q (.ref f) H1
theorem pe_lamV {X : Cx} {ts : List (Addr × Str)} {c P : Addr} {params : Arguments} {body : Expr} {scope : Scope} {pos : Pos} (TB : TabB X.base X.mg c P) (code : X.env.code = .ref c) (mem : (P, X.env.qual ++ "<lambda>") ∈ ts)
    (uniq : ∀ p ∈ ts, p.1 = P → p.2 = X.env.qual ++ "<lambda>") (fr : ∀ y ∈ scope.names, y.2 = .free → X.env.scope.names.lookup y.1 = some .cell ∨ X.env.scope.names.lookup y.1 = some .free) (dfl : defaultsOf params X.env = ([], []) := by rfl) : PE X (.Lambda params body scope pos) (tLamV ts) :=
  ⟨fun pins s σ H Q I ⟨hT, h⟩ => lam_make2 I TB code mem uniq hT dfl (fun y hy e => (fr y hy e).elim (fun z => I.ok.has _ (.inl z)) fun z => I.ok.has _ (.inr z)) fun f c' pm ctv H1 s1 I1 eN T1 hf new off co => ⟨.ref f, H1, I1, rfl, h H1 f eN T1 new⟩⟩
end V4

set_option maxHeartbeats 4000000
/-! V4l: o.m(..) within try: what it lets out by the slots. -/
namespace V4
open PySem PySem.Spec PyProof.Rows L2 V1 V2 V3
def tMethE (C : Addr) (m : Str) (sp : Sp) (E : L2.St → XK) (ta : TE) (t : TA) : TE := fun σ H Q => tMeth C m sp [] (E σ) ta t σ H Q
theorem pe_methE {X : Cx} {CX : CXT} {k : Nat} {C f : Addr} {m : Str} {fd : FuncData} {ps : List Str} {sp : Sp} {E : L2.St → XK} {o e : Expr} {es : List Expr} {ta : TE} {t : TA} {apos pos : Pos} {pl : Sem Bool} (he : PE X o ta) (c : Cls X.K C) (hm : Meth X.K C m f)
    (F : FnOk X.prog X.w X.K X.mg X.base CX k f fd ps sp) (hr : Room k X.A) (hb : Binds X.K fd ps []) (hx : ∀ σ, PassesAt CX X σ (E σ)) (ha : PA X (e :: es) t)
    (st : starEach (e :: es) X.env = (false, eval e X.env) :: starEach es X.env := by rfl) (pn : (backTo pos (starEach es X.env)).any (·.1) = false := by rfl)
    (ev : eval (.Call (.Attribute o m apos) (e :: es) [] pos) X.env = (do let ov ← eval o X.env; standAt apos.atName; let (g, first) ← holding [ov] (getMethod ov m pl); callWith pos g first (backTo pos (starEach (e :: es) X.env)) (backToKw pos (keywordEach [] X.env))) := by rfl) :
    PE X (.Call (.Attribute o m apos) (e :: es) [] pos) (tMethE C m sp E ta t) := by
  constructor
  intro pins s σ H Q I h
  refine PySem.W.methodCall_KW (pl := pl) (thn (he.run pins s σ H _ I h) fun u s1 hh => ?_) ev
  obtain ⟨x, H1, J, rx, a, dx, fs, rfl, ea, l, q⟩ := hh
  cases rx
  refine getmeth_ok J ea c hm l (PySem.W.callWith_K (first := [.ref a]) (h₀ := X.base) I.ok.mod.kin hm.kp (thn (ha.run pos pins s1 σ H1 _ J q) fun us s2 gg => ?_) st pn)
  obtain ⟨vs, H2, J2, r, q2⟩ := gg
  rw [List.append_nil] at q2
  exact ⟨J2.kIn, run_fnS (us := .ref a :: us) (vs := .ref a :: vs) F hr hb (hx σ) J2 (.cons rfl r) q2⟩
end V4

set_option maxHeartbeats 4000000
/-! V4m: lists of data that are cut and put together, and tuples made of them. -/
namespace V4
open PySem PySem.Spec PyProof.Rows L2 V1 V2 V3
open Evl (sq_of st_of)
section
variable [CurK] {σ : L2.St} {H0 : Hp} {a : Addr} {ds es : List PyData} {te t1 t2 : TE}
/-- a list of these data comes -/
def MkL (H0 : Hp) (a : Addr) (te : TE) (σ : L2.St) (ds : List PyData) : Prop := ∀ H, Same H0 H → ∀ Q : VK, (∀ p xs H', Same H H' → p ≠ a → H' p = some (.lst xs) → DxAll (delH H' a) xs ds → Q (.ref p) H') → te σ H Q
theorem held_ne {H : Hp} {p : Addr} (ha : Held H a) (n : H p = none) : p ≠ a := fun z => by
  obtain ⟨o, e⟩ := ha
  rw [z, e] at n
  cases n
theorem mkl_var {i : Nat} {p : Addr} {xs : List V} (na : p ≠ a) (e : H0 p = some (.lst xs)) (r : DxAll (delH H0 a) xs ds) (hv : σ[i]? = some (some (.ref p))) : MkL H0 a (tVar i) σ ds := fun H s Q k =>
  ⟨_, hv, k p xs H (Same.refl H) na (s _ _ e) (DxAll.same (same_del s) _ _ r)⟩
theorem mkl_of (h : MkY H0 a te σ (.list ds)) : MkL H0 a te σ ds := fun H s Q k => h H s _ fun v H1 s1 q1 => by
  obtain ⟨p, xs, rfl, e, r⟩ : ∃ p xs, v = .ref p ∧ delH H1 a p = some (.lst xs) ∧ DxAll (delH H1 a) xs ds := by
    cases q1 with
    | lst e low r => exact ⟨_, _, rfl, e, r⟩
  have ne : p ≠ a := fun z => by
    rw [z, delH_same] at e
    cases e
  exact k p xs H1 s1 ne (by rw [delH_ne ne] at e; exact e) r
theorem mkl_cut {tl th : TO} {lo hi : Option Int} (ha : Held H0 a) (h1 : MkL H0 a t1 σ ds) (hl : ∀ (H : Hp) (Q : Option Int → Hp → Prop), Q lo H → tl σ H Q) (hh : ∀ (H : Hp) (Q : Option Int → Hp → Prop), Q hi H → th σ H Q) :
    MkL H0 a (tSl (rSlL K) t1 tl th) σ (cutD ds lo hi) := fun H s Q k =>
  h1 H s _ fun p xs H1 s1 na e1 r1 => hl H1 _ (hh H1 _ ⟨p, xs, rfl, sq_of e1, fun c nc => k c _ _ (s1.trans (same_new nc)) (held_ne ((ha.same s).same s1) nc) upd_same (DxAll.same (same_del (same_new nc)) _ _ (by
    unfold cutV cutD
    rw [dxAll_len r1]
    exact DxAll.take _ (DxAll.drop _ r1)))⟩)
theorem mkl_cat (ha : Held H0 a) (h1 : MkL H0 a t1 σ ds) (h2 : MkL H0 a t2 σ es) (l : ds.length + es.length ≤ 5000) : MkL H0 a (tOp rCat t1 t2) σ (ds ++ es) := fun H s Q k =>
  h1 H s _ fun p xs H1 s1 na e1 r1 => h2 H1 (s.trans s1) _ fun q ys H2 s2 nb e2 r2 => by
    have l1 := dxAll_len r1
    have l2 := dxAll_len r2
    refine ⟨p, q, xs, ys, rfl, rfl, s2 _ _ e1, e2, by rw [sizeLine_eq]; omega, fun c nc => ?_⟩
    exact k c _ _ ((s1.trans s2).trans (same_new nc)) (held_ne (ha.same (s.trans (s1.trans s2))) nc) upd_same (DxAll.same (same_del (same_new nc)) _ _ (DxAll.app (DxAll.same (same_del s2) _ _ r1) r2))
/-- tuple(xs) of a list -/
theorem mky_tupof (ha : Held H0 a) (h1 : MkL H0 a t1 σ ds) : MkY H0 a (tCB (fun xs H Q => ∃ p ys, xs = [.ref p] ∧ ((SqL K H p ys ∧ ∀ l, H l = none → Q (.ref l) (upd H l (.tup ys))) ∨ (SqT K H p ys ∧ Q (.ref p) H))) (tCons t1 tNil)) σ (.tuple ds) := fun H s Q k =>
  h1 H s _ fun p xs H1 s1 na e1 r1 => ⟨p, xs, rfl, .inl ⟨sq_of e1, fun c nc => k _ _ (s1.trans (same_new nc)) (.tup (((ha.same s).same s1).off nc upd_same) (DxAll.same (same_del (same_new nc)) _ _ r1))⟩⟩
/-- xs[i], there -/
theorem mky_ixL {ti : TE} {n : Nat} (h1 : MkL H0 a t1 σ ds) (hi : ∀ (H : Hp) (Q : VK), Q (.int ((n : Nat) : Int)) H → ti σ H Q) (hn : n < ds.length) : MkY H0 a (tOp (rIxL K) t1 ti) σ ds[n] := fun H s Q k =>
  h1 H s _ fun p xs H1 s1 na e1 r1 => by
    have lx := dxAll_len r1
    have hx : xs[n]? = some (xs[n]'(by omega)) := List.getElem?_eq_getElem (by omega)
    exact hi _ _ ⟨p, xs, _, xs[n]'(by omega), rfl, rfl, sq_of e1, atI_nat hx, k _ H1 s1 (DxAll.at r1 hx (List.getElem?_eq_getElem hn))⟩
end
end V4

set_option maxHeartbeats 4000000
/-! V4n: tuples of texts, compared within a sort, whatever kind the sort takes them for. -/
namespace V4
open PySem PySem.Spec PyProof.Rows L2 V1 V2 V3
/-- a tuple of these texts stands there -/
def TxT (h : Heap) (v : Value) (r : List Str) : Prop := ∃ a us, v = .ref a ∧ h.IsTuple a us.toArray ∧ Vals (r.map V.str) us
section
variable {A : Around} {s : Shared} {a b : Addr} {us ws : List Value} {r q : List Str} {prog : Program} {w : World}
theorem eq_at (r1 : Vals (r.map V.str) us) (r2 : Vals (q.map V.str) ws) : ∀ j (h1 : j < us.toArray.size) (h2 : j < ws.toArray.size), SeqAt.EqAt A s us.toArray[j] ws.toArray[j] (r.getD j Str.empty == q.getD j Str.empty) := fun j g1 g2 => by
  obtain ⟨t, z1⟩ := texts_at r1 j g1
  obtain ⟨t', z2⟩ := texts_at r2 j g2
  rw [z1, z2]
  exact SeqAt.EqAt.str_str _ _ _ _
theorem lt_at (r1 : Vals (r.map V.str) us) (r2 : Vals (q.map V.str) ws) : ∀ j (h1 : j < us.toArray.size) (h2 : j < ws.toArray.size), (r.getD j Str.empty == q.getD j Str.empty) = false → Ob.RcOp .Lt A s us.toArray[j] ws.toArray[j] (txLt (r.getD j Str.empty) (q.getD j Str.empty)) := fun j g1 g2 _ => by
  obtain ⟨t, z1⟩ := texts_at r1 j g1
  obtain ⟨t', z2⟩ := texts_at r2 j g2
  rw [z1, z2]
  exact fun P w E Q k => PyProof.Rows.lt_str k
theorem lex_rows (r1 : Vals (r.map V.str) us) (r2 : Vals (q.map V.str) ws) : Ob.lexAt (fun j => r.getD j Str.empty == q.getD j Str.empty) (fun j => txLt (r.getD j Str.empty) (q.getD j Str.empty)) (decide (us.toArray.size < ws.toArray.size)) 0 (min us.toArray.size ws.toArray.size) = rowLt r q := by
  have l1 : us.toArray.size = r.length := by rw [List.size_toArray, ← r1.length, List.length_map]
  have l2 : ws.toArray.size = q.length := by rw [List.size_toArray, ← r2.length, List.length_map]
  have key := lex_row txLt (fun a b => decide (a < b)) rowLt (fun a b => by simp) (fun ys => by cases ys <;> simp [rowLt]) (fun x xs => by simp [rowLt]) (fun _ _ _ _ => rfl) [] [] r q rfl
  simp only [List.nil_append, List.length_nil] at key
  rw [l1, l2]
  exact key
/-- taken for things of any kinds -/
theorem lt_general {v u : Value} {Q : Bool → Shared → Prop} {E : Value → Shared → Prop} (h1 : TxT s.heap v r) (h2 : TxT s.heap u q) (room : A.units < cLine) (h : Q (rowLt r q) s) : wpAny (model prog w) A (keyLt' general' v u) Q E s := by
  obtain ⟨a, us, rfl, p1, r1⟩ := h1
  obtain ⟨b, ws, rfl, p2, r2⟩ := h2
  have cmp := Ob.RcOp.tuples_lt (A := A) (s := s) p1 p2 room (eq_at r1 r2) (lt_at r1 r2)
  rw [lex_rows r1 r2] at cmp
  exact PySem.W.kat_one _ _ (cmp prog w E (PySem.W.BoolBack Q) h)
/-- taken for things of one kind -/
theorem lt_one {v u : Value} {Q : Bool → Shared → Prop} {E : Value → Shared → Prop} (h1 : TxT s.heap v r) (h2 : TxT s.heap u q) (room : A.units + 1 < cLine) (h : Q (rowLt r q) s) : wpAny (model prog w) A (keyLt' oneType' v u) Q E s := by
  obtain ⟨a, us, rfl, p1, r1⟩ := h1
  obtain ⟨b, ws, rfl, p2, r2⟩ := h2
  obtain ⟨⟨cls, dd, data, sl⟩, ho, hc, n, hd⟩ := id p1
  obtain ⟨⟨cls2, dd2, data2, sl2⟩, ho2, hc2, n2, hd2⟩ := id p2
  simp only at hc hd hc2 hd2
  subst hc hd hc2 hd2
  rw [keyLt'_oneType, oneLt'_eq]
  simp only [if_true]
  refine wpAny_bind (wpAny_cRoomFor (Nat.lt_of_succ_lt room) ?_)
  refine wpAny_bind (wpAny_callSpecialIfBound?_slot (T := "tuple") ⟨_, ho, rfl⟩ PySem.F.slot_tuple_lt (call_meets PySem.F.slot_tuple_lt ⟨_, ho, rfl⟩ PySem.F.entry_tuple_lt (PySem.F.args_tuple_lt_2 _ _) (Ob.tuple_ltAt a b us.toArray ws.toArray n n2 dd dd2 sl sl2 _ _) ⟨ho, ho2, eq_at r1 r2, lt_at r1 r2, ?_⟩))
  rw [lex_rows r1 r2]
  exact wpAny_truthy_bool h
/-- which comes first, what the lengths give being f -/
def gl : List Str → List Str → Bool → Bool
  | x :: r, y :: q, f => if (x == y) = true then gl r q f else txLt x y
  | _, _, f => f
theorem gl_len : ∀ r q : List Str, gl r q (decide (r.length < q.length)) = rowLt r q
  | [], [] => rfl
  | [], _ :: _ => rfl
  | _ :: _, [] => rfl
  | x :: r, y :: q => by
    show (if (x == y) = true then gl r q (decide (r.length + 1 < q.length + 1)) else txLt x y) = if (x == y) = true then rowLt r q else txLt x y
    rw [show decide (r.length + 1 < q.length + 1) = decide (r.length < q.length) from decide_eq_decide.mpr (by omega), gl_len r q]
theorem lex_go {k fin : Bool} {Q : Bool → Shared → Prop} : ∀ {r q : List Str} {us ws : List Value} (i : Nat), Vals (r.map V.str) us → Vals (q.map V.str) ws → Q (gl r q fin) s → PySem.W.KatLex prog w A k fin Q (us.zip ws) i s
  | [], _, _, _, i, .nil, _, h => h
  | _ :: _, [], _, _, i, .cons _ _, .nil, h => h
  | x :: r, y :: q, u :: us, v :: ws, i, .cons a1 r1, .cons a2 r2, h => by
    obtain ⟨t, rfl⟩ := a1
    obtain ⟨t', rfl⟩ := a2
    refine PySem.W.kat_cons (SeqAt.EqAt.str_str x t y t' prog w (fun _ _ => False) _ ?_)
    have h' : Q (if (x == y) = true then gl r q fin else txLt x y) s := h
    refine PySem.W.kat_go (fun e => PySem.W.kat_yes ?_) (fun e => PySem.W.kat_no ?_)
    · rw [if_pos e] at h'
      exact lex_go (i + 1) r1 r2 h'
    · rw [if_neg (by rw [e]; decide)] at h'
      exact PyProof.Rows.oneLt_any_str h'
/-- taken for tuples -/
theorem lt_tuples {k : Bool} {v u : Value} {Q : Bool → Shared → Prop} {E : Value → Shared → Prop} (h1 : TxT s.heap v r) (h2 : TxT s.heap u q) (h : Q (rowLt r q) s) : wpAny (model prog w) A (keyLt' (tuples' k) v u) Q E s := by
  obtain ⟨a, us, rfl, p1, r1⟩ := h1
  obtain ⟨b, ws, rfl, p2, r2⟩ := h2
  obtain ⟨o1, e1, c1, n1, d1⟩ := p1
  obtain ⟨o2, e2, c2, n2, d2⟩ := p2
  refine PySem.W.kat_lt e1 d1 e2 d2 (lex_go 0 r1 r2 ?_)
  have l1 : us.toArray.size = r.length := by rw [List.size_toArray, ← r1.length, List.length_map]
  have l2 : ws.toArray.size = q.length := by rw [List.size_toArray, ← r2.length, List.length_map]
  rw [l1, l2, gl_len]
  exact h
end
section
variable {M : Model} {A : Around} {s : Shared} {prog : Program} {w : World}
theorem firsts_go : ∀ vs : List Value, (∀ v ∈ vs, ∃ r, TxT s.heap v r) → ∃ fs : List (Option Value), fs.length = vs.length ∧ (∀ f ∈ fs, f = none ∨ ∃ x t, f = some (.str x t)) ∧ ∀ (E : Value → Shared → Prop) (Q : List (Option Value) → Shared → Prop), Q fs s → wpAny M A (vs.mapM firstOfTuple') Q E s
  | [], _ => ⟨[], rfl, fun _ h => absurd h List.not_mem_nil, fun E Q h => by rw [List.mapM_nil]; exact wpAny_pure h⟩
  | v :: vs, hv => by
    obtain ⟨r, a, us, rfl, p, rv⟩ := hv v List.mem_cons_self
    obtain ⟨fs, ln, ok, go⟩ := firsts_go vs fun v h => hv v (List.mem_cons_of_mem _ h)
    obtain ⟨o, eo, co, n, dn⟩ := p
    refine ⟨us.toArray[0]? :: fs, by rw [List.length_cons, ln, List.length_cons], fun f hf => ?_, fun E Q h => ?_⟩
    · rcases List.mem_cons.mp hf with rfl | hf
      · cases r with
        | nil => cases rv; exact .inl rfl
        | cons x r =>
          cases rv with | cons a1 _ =>
          obtain ⟨t, rfl⟩ := a1
          exact .inr ⟨x, t, rfl⟩
      · exact ok f hf
    · rw [List.mapM_cons]
      refine wpAny_bind ?_
      rw [PySem.W.kas_first_eq]
      refine wpAny_bind (PySem.W.Looks.here (show PySem.W.Looks M s.heap (typeOf (.ref a)) o.cls from (PySem.W.Looks.ld eo).andThen .now) ?_)
      rw [co, if_neg (by first | decide | simp)]
      refine wpAny_bind (listItems_at eo dn (wpAny_pure ?_))
      exact wpAny_bind (go E (fun bs s' => wpAny M A (pure (us.toArray[0]? :: bs)) Q E s') (wpAny_pure h))
theorem somes : ∀ {fs : List (Option Value)}, (∀ f ∈ fs, f = none ∨ ∃ x t, f = some (.str x t)) → (∀ f ∈ fs, f.isSome = true) → ∃ gs : List Value, fs = gs.map some ∧ ∀ g ∈ gs, ∃ x t, g = .str x t
  | [], _, _ => ⟨[], rfl, fun _ h => absurd h List.not_mem_nil⟩
  | f :: fs, h, k => by
    obtain ⟨gs, rfl, hg⟩ := somes (fs := fs) (fun f hf => h f (List.mem_cons_of_mem _ hf)) fun f hf => k f (List.mem_cons_of_mem _ hf)
    rcases h f List.mem_cons_self with rfl | ⟨x, t, rfl⟩
    · exact absurd (k none List.mem_cons_self) (by decide)
    · exact ⟨.str x t :: gs, rfl, fun g hg' => (List.mem_cons.mp hg').elim (fun e => ⟨x, t, e⟩) (hg g)⟩
theorem kinds {vs : List Value} (ne : 0 < vs.length) (hv : ∀ v ∈ vs, ∃ r, TxT s.heap v r) : ∃ κ, (κ = tuples' true ∨ κ = general' ∨ κ = oneType') ∧ ∀ (Q : SortKind → Shared → Prop) (E : Value → Shared → Prop), Q κ s → wpAny M A (keyKind' vs.toArray) Q E s := by
  obtain ⟨fs, ln, ok, go⟩ := firsts_go (M := M) (A := A) vs hv
  by_cases all : ∀ f ∈ fs, f.isSome = true
  · obtain ⟨gs, rfl, hg⟩ := somes ok all
    rw [List.length_map] at ln
    refine ⟨tuples' true, .inl rfl, fun Q E h => ?_⟩
    rw [kat_kind_eq, List.mapM_toArray, map_eq_pure_bind]
    refine wpAny_bind (wpAny_bind (go E _ (wpAny_pure ?_)))
    have c1 : ((gs.map some).toArray.all fun x => x.isSome) = true := by simp
    rw [if_pos c1]
    refine wpAny_bind (wpAny_rule ?_)
    have c2 : ((gs.map some).toArray.filterMap id) = gs.toArray := by simp
    rw [c2, oneTypeOnly'_eq, List.mapM_toArray, map_eq_pure_bind]
    refine wpAny_bind (wpAny_bind (wpAny_bind (PySem.W.kas_mapM (r := Value.type "str") _ (fun v m Q' hq => ?_) (wpAny_pure ?_))))
    · obtain ⟨x, t, rfl⟩ := hg v m
      exact (PySem.W.Looks.of_pure (h := s.heap) (M := M) rfl : PySem.W.Looks M s.heap (typeOf (.str x t)) (.type "str")).here hq
    · have c3 : ((gs.map fun _ => Value.type "str").toArray.all fun x => x == Value.type "str") = true := by
        simp only [List.all_toArray, List.all_map, List.all_eq_true]
        intro _ _
        rfl
      have c4 : (gs.map fun _ => Value.type "str").toArray[0]? = some (.type "str") := by
        obtain ⟨g, gr, rfl⟩ : ∃ g gr, gs = g :: gr := by
          match gs, ln with
          | [], ln => simp at ln; omega
          | g :: gr, _ => exact ⟨g, gr, rfl⟩
        simp
      rw [c4]
      simp only [c3, if_true]
      have c5 : (some (Value.type "str")).any (fun x => x != Value.type "tuple") = true := by first | rfl | decide | simp
      refine wpAny_pure (wpAny_pure ?_)
      rw [c5]
      exact h
  · have c1 : ¬ (fs.toArray.all fun x => x.isSome) = true := by
      simpa using all
    by_cases first : (fs.toArray[0]?.bind id).isSome = true
    · refine ⟨general', .inr (.inl rfl), fun Q E h => ?_⟩
      rw [kat_kind_eq, List.mapM_toArray, map_eq_pure_bind]
      refine wpAny_bind (wpAny_bind (go E _ (wpAny_pure ?_)))
      rw [if_neg c1, if_pos first]
      exact wpAny_pure h
    · refine ⟨oneType', .inr (.inr rfl), fun Q E h => ?_⟩
      rw [kat_kind_eq, List.mapM_toArray, map_eq_pure_bind]
      refine wpAny_bind (wpAny_bind (go E _ (wpAny_pure ?_)))
      rw [if_neg c1, if_neg first]
      rw [oneTypeOnly'_eq, List.mapM_toArray, map_eq_pure_bind]
      refine wpAny_bind (wpAny_bind (wpAny_bind (PySem.W.kas_mapM (r := Value.type "tuple") _ (fun v m Q' hq => ?_) (wpAny_pure ?_))))
      · obtain ⟨r, a, us, rfl, p, rv⟩ := hv v m
        obtain ⟨o, eo, co, n, dn⟩ := p
        have lk : PySem.W.Looks M s.heap (typeOf (.ref a)) o.cls := (PySem.W.Looks.ld eo).andThen .now
        rw [co] at lk
        exact lk.here hq
      · have c3 : ((vs.map fun _ => Value.type "tuple").toArray.all fun x => x == Value.type "tuple") = true := by
          simp only [List.all_toArray, List.all_map, List.all_eq_true]
          intro _ _
          rfl
        have c4 : (vs.map fun _ => Value.type "tuple").toArray[0]? = some (.type "tuple") := by
          obtain ⟨g, gr, rfl⟩ : ∃ g gr, vs = g :: gr := by
            match vs, ne with
            | g :: gr, _ => exact ⟨g, gr, rfl⟩
          simp
        rw [c4]
        simp only [c3, if_true]
        exact wpAny_pure (wpAny_pure h)
end
end V4

set_option maxHeartbeats 4000000
/-! V5a: a dict that stands in K from the top on. -/
namespace V5
open PySem PySem.Spec PyProof.Rows L2 V1 V2 V3
/-- the items of a tuple in K -/
def tupIn (K : PySem.W.Frag) (v : Value) : Option (List Value) := match v with
  | .ref a => match K.lookup a with
    | some ⟨.type "tuple", _, .seq its _, _⟩ => if its.size ≤ 1000 then some its.toList else none
    | _ => none
  | _ => none
def strIn : Value → Option Str
  | .str x _ => some x
  | _ => none
/-- the entries of a dict in K -/
def dictIn (K : PySem.W.Frag) (a : Addr) : Option (List DictEntry) := match K.lookup a with
  | some ⟨.type "dict", none, .dict es _, ⟨[]⟩⟩ => if a = sysModules then none else some es.toList
  | _ => none
theorem tupIn_of {K : PySem.W.Frag} {v : Value} {us : List Value} (h : tupIn K v = some us) : ∃ a, v = .ref a ∧ ∀ (H : Hp) (xs : List V), Vals xs us → SqT K H a xs := by
  unfold tupIn at h
  split at h
  · rename_i a
    split at h
    · rename_i d its n sl e
      split at h
      · rename_i l
        cases h
        exact ⟨a, rfl, fun H xs r => .inr ⟨_, its, n, e, rfl, rfl, Nat.le_trans l (by decide), r⟩⟩
      · cases h
    · cases h
  · cases h
theorem strIn_of {v : Value} {x : Str} (h : strIn v = some x) : RelV (.str x) v := by
  unfold strIn at h
  split at h
  · cases h
    exact ⟨_, rfl⟩
  · cases h
/-- a dict with texts as keys, in K -/
structure KD (K : PySem.W.Frag) (w : World) (a : Addr) (ks : List (Str × Value)) : Prop where
  ne : (a == sysModules) = false
  at_ : ∀ (P : Program) (h : Heap), K.In h → h.DictOf (mixKind P w) a (ks.map fun p => ((.inr p.1 : Key), p.2))
theorem kd_of {K : PySem.W.Frag} {w : World} {a : Addr} {es : List DictEntry} {ks : List (Str × Value)} (h : dictIn K a = some es) (hh : es.map (·.hash) = ks.map fun p => hashStr w p.1) (hk : es.map (fun e => strIn e.key) = ks.map fun p => some p.1) (hv : es.map (·.val) = ks.map (·.2))
    (nd : (ks.map (·.1)).Nodup) : KD K w a ks := by
  unfold dictIn at h
  split at h
  · rename_i ees ep e
    split at h
    · cases h
    · rename_i ne
      cases h
      refine ⟨beq_eq_false_iff_ne.mpr ne, fun P hp inK => ⟨_, ees, ep, inK _ _ e, ⟨rfl, rfl, rfl⟩, rfl, ?_, ?_, ?_⟩⟩
      · intro x hx
        obtain ⟨i, hi, rfl⟩ := List.getElem_of_mem (Array.mem_toList_iff.mpr hx)
        have li : i < ks.length := by
          have := congrArg List.length hv
          rw [List.length_map, List.length_map] at this
          omega
        have e1 := congrArg (fun l => l[i]?) hh
        have e2 := congrArg (fun l => l[i]?) hk
        simp only [List.getElem?_map, List.getElem?_eq_getElem hi, List.getElem?_eq_getElem li, Option.map_some, Option.some.injEq] at e1 e2
        refine ⟨.inr ks[i].1, kV_is (k := .inr ks[i].1) (strIn_of e2), e1⟩
      · have go : ∀ (es : List DictEntry) (ks : List (Str × Value)), es.map (fun e => strIn e.key) = ks.map (fun p => some p.1) → es.map (·.val) = ks.map (·.2) → PySem.Pairs (mixKind P w) es (ks.map fun p => ((.inr p.1 : Key), p.2)) := by
          intro es
          induction es with
          | nil => intro ks h1 _; cases ks with
            | nil => exact .nil
            | cons => cases h1
          | cons x xs ih => intro ks h1 h2; cases ks with
            | nil => cases h1
            | cons k ks =>
              rw [List.map_cons, List.map_cons] at h1 h2
              have a1 := List.cons.inj h1
              have a2 := List.cons.inj h2
              exact .cons (kV_is (k := .inr k.1) (strIn_of a1.1)) a2.1 (ih ks a1.2 a2.2)
        exact go _ _ hk hv
      · rw [List.map_map]
        have : (Prod.fst ∘ fun p : Str × Value => ((.inr p.1 : Key), p.2)) = (Sum.inr : Str → Key) ∘ (·.1) := rfl
        rw [this, ← List.map_map]
        exact List.Pairwise.map _ (fun x y h z => h (Sum.inr.inj z)) nd
  · cases h
def getK (ks : List (Str × Value)) (x : Str) : Option Value := (ks.find? fun p => decide (p.1 = x)).map (·.2)
theorem getK_at (ks : List (Str × Value)) (x : Str) : valueAt (ks.map fun p => ((.inr p.1 : Key), p.2)) (.inr x) = getK ks x := by
  induction ks with
  | nil => rfl
  | cons p ks ih =>
    unfold valueAt getK at ih ⊢
    rw [List.map_cons, List.find?_cons, List.find?_cons]
    by_cases e : p.1 = x
    · simp [e]
    · rw [show decide ((Sum.inr p.1 : Key) = Sum.inr x) = false from decide_eq_false fun z => e (Sum.inr.inj z), decide_eq_false e]
      exact ih
/-- d[x], x in d, x not in d: d in K -/
def tKGet (K : PySem.W.Frag) (w : World) (td ty : TE) : TE := fun σ H Q => td σ H fun x H1 => ty σ H1 fun y H2 => ∃ a ks k u v, x = .ref a ∧ KD K w a ks ∧ y = .str k ∧ getK ks k = some u ∧ RelV v u ∧ Q v H2
def rKNotIn (K : PySem.W.Frag) (w : World) : R2 := fun y x H Q => ∃ a ks k, x = .ref a ∧ KD K w a ks ∧ y = .str k ∧ Q (.bl (!(getK ks k).isSome)) H
def rKIn (K : PySem.W.Frag) (w : World) : R2 := fun y x H Q => ∃ a ks k, x = .ref a ∧ KD K w a ks ∧ y = .str k ∧ Q (.bl (getK ks k).isSome) H
section
variable {X : Cx}
theorem op_kNotIn : OpR X (compareOp .NotIn) (rKNotIn X.K X.w) := by
  intro pins s σ H x y v u Q I rx ry ⟨a, ks, k, ey, D, ex, q⟩
  subst ey ex
  cases ry
  have m := (D.at_ X.prog s.heap I.kIn).mapOf
  refine wpAny_notIn_of (k := (.inr k : Key)) (kV_is rx) D.ne m ?_
  rw [getK_at]
  exact ⟨.bl (!(getK ks k).isSome), H, I.tok _, rfl, q⟩
theorem op_kIn : OpR X (compareOp .In) (rKIn X.K X.w) := by
  intro pins s σ H x y v u Q I rx ry ⟨a, ks, k, ey, D, ex, q⟩
  subst ey ex
  cases ry
  have m := (D.at_ X.prog s.heap I.kIn).mapOf
  refine wpAny_in_of (k := (.inr k : Key)) (kV_is rx) D.ne m ?_
  rw [getK_at]
  exact ⟨.bl (getK ks k).isSome, H, I.tok _, rfl, q⟩
theorem pe_kget {o i : Expr} {pos : Pos} {td ty : TE} (ho : PE X o td) (hi : PE X i ty) (hs : NoSl i) : PE X (.Subscript o i pos) (tKGet X.K X.w td ty) := by
  constructor
  intro pins s σ H Q I h
  refine subD_of PySem.F.slot_dict_getitem.lookup hs (thn (ho.run pins s σ H _ I h) fun z s1 hh => ?_)
  obtain ⟨x, H1, I1, rx, q1⟩ := hh
  refine thn (hi.run pins s1 σ H1 _ I1 q1) fun iv s2 gg => ?_
  obtain ⟨y, H2, I2, ry, a, ks, k, u, v, ex, D, ey, gk, rv, q2⟩ := gg
  subst ex ey
  cases rx
  have m := D.at_ X.prog s2.heap I2.kIn
  exact ⟨m.typeIs, wpAny_getItem_of (k := (.inr k : Key)) (kV_is ry) m.mapOf (by rw [getK_at]; exact gk) ⟨v, H2, I2.tok _, rv, q2⟩⟩
end
end V5

set_option maxHeartbeats 4000000
/-! V5b: a lambda that outlives the def that makes it: its object and the one cell that it captured are tracked. -/
namespace V5
open PySem PySem.Spec PyProof.Rows L2 V1 V2 V3 LamX NdefX
structure LF where
  qual : Str
  params : Arguments
  body : Expr
  scope : Scope
  cl : List (Str × Addr)
  c : Addr
abbrev LF.fd (F : LF) (pm ctv : Value) : FuncData := PySem.W.kla_fn "<lambda>" F.qual F.params F.body F.scope F.cl pm (.ref F.c) ctv
abbrev LF.nf (F : LF) : NF := ⟨"<lambda>", F.qual, F.params, [], F.scope, F.cl, F.c⟩
def LamO (f : Addr) (F : LF) : HO := .ext fun h => ∃ (pm ctv : Value) (od : Option Addr) (sl : Array (Option Value)), h.get? f = some (⟨.type "function", od, .func (F.fd pm ctv), sl⟩ : Obj)
def CellO (c : Addr) (v : V) : HO := .ext fun h => ∃ u, RelV v u ∧ h.IsCell c (some u)
theorem cellO_not {c : Addr} {v : V} : (∀ xs, CellO c v ≠ .tup xs) ∧ (∀ o u, CellO c v ≠ .frz o u) ∧ (∀ ps, CellO c v ≠ .tbl ps) ∧ ∀ y, CellO c v ≠ .own y := by
  unfold CellO
  exact ⟨fun _ z => (nomatch z), fun _ _ z => (nomatch z), fun _ z => (nomatch z), fun _ z => (nomatch z)⟩
theorem lamO_at {P : Program} {w : World} {H : Hp} {h : Heap} {f : Addr} {F : LF} (ok : HOk P w H h) (e : H f = some (LamO f F)) : ∃ (pm ctv : Value) (od : Option Addr) (sl : Array (Option Value)), h.get? f = some (⟨.type "function", od, .func (F.fd pm ctv), sl⟩ : Obj) := (ok f _ e).1
theorem cellO_at {P : Program} {w : World} {H : Hp} {h : Heap} {c : Addr} {v : V} (ok : HOk P w H h) (e : H c = some (CellO c v)) : ∃ u, RelV v u ∧ h.IsCell c (some u) := (ok c _ e).1
theorem cellO_ok {P : Program} {w : World} {H : Hp} {h : Heap} {c : Addr} {v : V} {u : Value} (r : RelV v u) (i : h.IsCell c (some u)) : ObjOk P w H h c (CellO c v) :=
  ⟨⟨u, r, i⟩, let ⟨o, e, _⟩ := i; ⟨o, e⟩, fun _ _ ⟨u', r', o', e', d'⟩ st => ⟨u', r', o', st _ e', d'⟩⟩
/-! ### it is made -/
section
variable {X : Cx} {pins : List (Addr × Obj)} {σ : L2.St} {H : Hp} {s : Shared}
theorem inv_lam {F : LF} {pm ctv : Value} {t' : Nat} (I : Inv X pins σ H s) :
    Inv X pins σ (upd H s.heap.objs.size (LamO s.heap.objs.size F)) { s with heap := s.heap.push (PySem.W.kla_obj "<lambda>" F.qual F.params F.body F.scope F.cl pm F.c ctv), toks := t' } :=
  have at_ : (s.heap.push (PySem.W.kla_obj "<lambda>" F.qual F.params F.body F.scope F.cl pm F.c ctv)).get? s.heap.objs.size = some (PySem.W.kla_obj "<lambda>" F.qual F.params F.body F.scope F.cl pm F.c ctv) := Heap.get?_push_size _ rfl
  I.laid (a := s.heap.objs.size) (fun _ _ e => Heap.get?_push_of_some _ e) (Nat.le_refl _) ⟨⟨pm, ctv, _, _, at_⟩, ⟨_, at_⟩, fun _ _ ⟨p, t, d, l, z⟩ st => ⟨p, t, d, l, st _ z⟩⟩
theorem lam_mk {T : List (Addr × Str)} {c P : Addr} {params : Arguments} {body : Expr} {scope : Scope} {pos : Pos} {E : Value → Shared → Prop} {Q : Value → Shared → Prop} (I : Inv X pins σ H s) (TB : TabB X.base X.mg c P) (code : X.env.code = .ref c) (mem : (P, X.env.qual ++ "<lambda>") ∈ T)
    (uniq : ∀ p ∈ T, p.1 = P → p.2 = X.env.qual ++ "<lambda>") (tabs : Tabs T H) (dfl : defaultsOf params X.env = ([], [])) (fr : ∀ y ∈ scope.names, y.2 = .free → ∃ c, X.env.cells.lookup y.1 = some c)
    (k : ∀ (f c' : Addr) (H1 : Hp) (s' : Shared), Inv X pins σ (upd H1 f (LamO f ⟨X.env.qual ++ "<lambda>", params, body, scope, cloFrom X.env.cells scope.names [], c'⟩)) s' → ExtN H H1 → Tabs T H1 → H1 f = none → H1 c' = some (CodeO c' (X.env.qual ++ "<lambda>")) → Q (.ref f) s') :
    wpAny (model X.prog X.w) X.A (eval (.Lambda params body scope pos) X.env) Q E s := by
  obtain ⟨tb, atP, tri, known⟩ := tabs _ mem
  have heapP : s.heap.get? P = some { cls := .none, data := .fields tb } := I.hok P _ atP
  have names := I.mod.glob.keeps I.bk
  have blt := TB.bm.keeps I.bk
  have hd := TB.code.keeps I.bk
  have clo := closure_ok fr
  refine PySem.W.kla_eval dfl ?_
  cases hit : codeAmong pos tb.toList with
  | some cv =>
    obtain ⟨c', rfl, co⟩ := known pos cv hit
    refine PySem.W.kla_makeFunctionHit clo I.ok.glob names code hd heapP tri hit blt fun ctv g tk up le => ?_
    have J : Inv X pins σ H { s with heap := g, toks := tk } := I.kept up
    exact k _ c' H _ (inv_lam J) (ExtN.refl H) tabs (J.hok.fresh (Nat.le_refl _)) co
  | none =>
    refine PySem.W.kla_makeFunction clo I.ok.glob names code hd heapP tri hit TB.gP blt fun c' ctv g tk up ge lt rec tab => ?_
    obtain ⟨c2, oc, vs, t, ec, hoc, dc, vc⟩ := rec
    cases ec
    have fresh : H c' = none := I.hok.fresh ge
    have J := inv_table (t' := tk) (q := X.env.qual ++ "<lambda>") (more := #[rawInt pos.line, rawInt pos.col, .ref c']) (h' := g) I atP (fun b o nb e => up b o nb e) tab ge ⟨oc, vs, t, hoc, dc, vc⟩
    have ext : ExtN H (upd (upd H P (.tbl (tb ++ #[rawInt pos.line, rawInt pos.col, .ref c']))) c' (CodeO c' (X.env.qual ++ "<lambda>"))) := fun b o e n => by
      have n1 : b ≠ P := fun z => n tb (by rw [z, atP] at e; exact (Option.some.inj e).symm)
      rw [upd_ne (ne_of_none e fresh), upd_ne n1]
      exact e
    refine k _ c' _ _ (inv_lam J) ext (fun p hp => ?_) (J.hok.fresh (Nat.le_refl _)) upd_same
    by_cases e : p.1 = P
    · rw [uniq p hp e, e]
      have lst : (tb ++ #[rawInt pos.line, rawInt pos.col, .ref c']).toList = tb.toList ++ [rawInt pos.line, rawInt pos.col, .ref c'] := by simp
      refine ⟨_, by rw [upd_ne (ne_of_none atP fresh), upd_same], by rw [lst]; exact PySem.TriplesOk_snoc _ _ _ _ tri, fun p' cv hcv => ?_⟩
      rw [lst] at hcv
      rcases among_app _ tri hcv with z | z
      · obtain ⟨c0, e1, e2⟩ := known p' cv z
        exact ⟨c0, e1, ext _ _ e2 codeO_ne⟩
      · exact ⟨c', z, upd_same⟩
    · obtain ⟨ps', a1, a2, a3⟩ := tabs p hp
      refine ⟨ps', by rw [upd_ne (ne_of_none a1 fresh), upd_ne e]; exact a1, a2, fun p' cv hcv => ?_⟩
      obtain ⟨c0, e1, e2⟩ := a3 p' cv hcv
      exact ⟨c0, e1, ext _ _ e2 codeO_ne⟩
end
def tLamK (ts : List (Addr × Str)) (mk : Addr → LF) : TE := fun _ H Q => Tabs ts H ∧ ∀ H1 f c', ExtN H H1 → Tabs ts H1 → H1 f = none → H1 c' = some (CodeO c' (mk c').qual) → Q (.ref f) (upd H1 f (LamO f (mk c')))
theorem pe_lamK {X : Cx} {ts : List (Addr × Str)} {c P : Addr} {params : Arguments} {body : Expr} {scope : Scope} {pos : Pos} (TB : TabB X.base X.mg c P) (code : X.env.code = .ref c) (mem : (P, X.env.qual ++ "<lambda>") ∈ ts)
    (uniq : ∀ p ∈ ts, p.1 = P → p.2 = X.env.qual ++ "<lambda>") (fr : ∀ y ∈ scope.names, y.2 = .free → X.env.scope.names.lookup y.1 = some .cell ∨ X.env.scope.names.lookup y.1 = some .free) (dfl : defaultsOf params X.env = ([], []) := by rfl) :
    PE X (.Lambda params body scope pos) (tLamK ts fun c' => ⟨X.env.qual ++ "<lambda>", params, body, scope, cloFrom X.env.cells scope.names [], c'⟩) :=
  ⟨fun pins s σ H Q I ⟨hT, h⟩ => lam_mk I TB code mem uniq hT dfl (fun y hy e => (fr y hy e).elim (fun z => I.ok.has _ (.inl z)) fun z => I.ok.has _ (.inr z)) fun f c' H1 s1 I1 eN T1 new co => ⟨.ref f, _, I1, rfl, h H1 f c' eN T1 new co⟩⟩
/-! ### a tracked cell is laid aside for a call -/
section
variable {P : Program} {w : World} {H H' : Hp} {h h' : Heap} {c : Addr} {v : V} {fs : List Addr}
theorem hok_aside (ok : HOk P w H h) (e : H c = some (CellO c v)) : HOk P w (delH H c) h := fun a o ea => by
  have ne : a ≠ c := fun z => by
    rw [z, delH_same] at ea
    cases ea
  rw [delH_ne ne] at ea
  refine (ok a o ea).stay (fun _ _ _ z => z) (fun b z => ?_) fun b xs z => ?_
  · have nb : b ≠ c := fun q => by
      rw [q, e] at z
      exact cellO_not.2.2.2 a (Option.some.inj z)
    rw [delH_ne nb]
    exact z
  · have nb : b ≠ c := fun q => by
      rw [q, e] at z
      exact cellO_not.1 xs (Option.some.inj z)
    rw [delH_ne nb]
    exact z
theorem hok_back {u : Value} (ok : HOk P w H' h') (n : H' c = none) (r : RelV v u) (i : h'.IsCell c (some u)) : HOk P w (upd H' c (CellO c v)) h' := fun a o ea => by
  by_cases q : a = c
  · subst q
    rw [upd_same] at ea
    cases ea
    exact cellO_ok r i
  · rw [upd_ne q] at ea
    exact (ok a o ea).stay (fun _ _ _ z => z) (fun b z => by rw [upd_ne (ne_of_none z n)]; exact z) fun b xs z => by rw [upd_ne (ne_of_none z n)]; exact z
theorem un_back (e : H c = some (CellO c v)) (n : H' c = none) (un : Un fs [] (delH H c) H' h h') : Un fs [] H (upd H' c (CellO c v)) h h' where
  keep b o q z hb hx := un.keep b o q (by rw [delH_ne (fun y => by rw [y, e] at z; cases z)]; exact z) hb hx
  slot b o q z hb hx := un.slot b o q (by rw [delH_ne (fun y => by rw [y, e] at z; cases z)]; exact z) hb hx
  free b o q z hx := by
    have ne : b ≠ c := fun y => by
      rw [y, e] at z
      cases z
    rw [upd_ne ne]
    exact un.free b o q (by rw [delH_ne ne]; exact z) hx
  there b o q hx := un.there b o q hx
  tups b xs z := by
    have ne : b ≠ c := fun y => by
      rw [y, e] at z
      exact cellO_not.1 xs (Option.some.inj z)
    rw [upd_ne ne]
    exact un.tups b xs (by rw [delH_ne ne]; exact z)
  frzs b o u z := by
    have ne : b ≠ c := fun y => by
      rw [y, e] at z
      exact cellO_not.2.1 o u (Option.some.inj z)
    rw [upd_ne ne]
    exact un.frzs b o u (by rw [delH_ne ne]; exact z)
  tbls b ps z := by
    have ne : b ≠ c := fun y => by
      rw [y, e] at z
      exact cellO_not.2.2.1 ps (Option.some.inj z)
    rw [upd_ne ne]
    exact un.tbls b ps (by rw [delH_ne ne]; exact z)
end
/-! ### it is called -/
section
variable {P : Program} {w : World} {K : PySem.W.Frag} {mg : Str → Option Value} {base : Heap} {N ps : List Str} {y : Str} {F : LF} {f c : Addr} {A : Around} {outer : List Env} {s : Shared} {H : Hp} {us : List Value} {vs : List V} {v : V} {Q : VK} {k : Nat}
theorem run_lam (S : NScope N ps [y] F.scope) (hb : ∀ (pm ctv : Value) (us : List Value), us.length = ps.length → bindArgs (F.fd pm ctv) ⟨us, []⟩ = pure (ps.zip us)) (hr : Room (k + 1) A) (e0 : Env0 P w K mg base A outer s H) (hf : H f = some (LamO f F)) (hc : H F.c = some (CodeO F.c F.qual))
    (hcl : F.cl = [(y, c)]) (hv : H c = some (CellO c v)) (r : Vals vs us) (hl : vs.length = ps.length)
    (body : Room k (A.deeper (envF F.nf f s.heap.objs.size)) → ∃ te, PE (ncx C8.CX0 P w K mg base N F.nf f A outer s (delH H c) C8.E0) F.body te ∧ te (startF N vs [some v]) (delH H c) fun x H' => H' c = none → Q x (upd H' c (CellO c v))) :
    codeAny (model P w) A (.call (.ref f) ⟨us, []⟩) (CR C8.CX0 outer P w H s Q C8.E0) s := by
  obtain ⟨pm, ctv, od, sl, ho⟩ := lamO_at e0.hok hf
  obtain ⟨u, ru, cu⟩ := cellO_at e0.hok hv
  have lim : s.heap.NoLimit := e0.mod.nolimit.keeps fun b o e => (e0.bs b o e).1
  refine PySem.W.kla_callFunE hr.depth ho rfl S.co S.gen rfl (codeO_at e0.hok hc) ?_
  rw [hb pm ctv us (by rw [← r.length]; exact hl)]
  refine wpAny_pure (wpAny_newFunctionEnv S.nocell (fun ⟨n, _⟩ hy => S.par n (List.of_mem_zip hy).1) (fun g ns sb => ⟨lim.fresh _ sb, ?_⟩) S.kind)
  obtain ⟨te, pe, q⟩ := body (hr.deeper _)
  have e1 : Env0 P w K mg base A outer s (delH H c) := ⟨e0.frames, e0.mod, fun b o e => ⟨(e0.bs b o e).1, by
    unfold delH
    split
    · rfl
    · exact (e0.bs b o e).2⟩, e0.bsz, e0.funs, fun b e => by
    unfold delH
    split
    · rfl
    · exact e0.frf b e, hok_aside e0.hok hv, e0.bare⟩
  have C : CellsAt F.cl [y] [some v] s.heap (delH H c) := by
    rw [hcl]
    refine ⟨rfl, fun z d hd => ?_, fun x z d h1 h2 => ?_, fun i z hz => ?_⟩
    · simp only [List.lookup] at hd
      split at hd
      · cases hd
        exact ⟨delH_same, _, cu⟩
      · cases hd
    · have one : ∀ {a : Str}, [(y, c)].lookup a = some d → a = y := fun {a} h => by
        simp only [List.lookup] at h
        split at h
        · rename_i e
          simpa using e
        · cases h
      exact (one h1).trans (one h2).symm
    · have i0 : i = 0 := by
        rcases Nat.eq_zero_or_pos i with e | e
        · exact e
        · rw [List.getElem?_eq_none (by show 1 ≤ i; omega)] at hz
          cases hz
      subst i0
      obtain rfl : y = z := by simpa using hz
      exact ⟨c, by simp [List.lookup], fun v' hv' => by cases hv'; exact ⟨u, ru, cu⟩⟩
  have kp : ∀ b o, s.heap.get? b = some o → g.get? b = some o := fun b o e => sb.extBut b o (Nat.ne_of_lt (Heap.lt_size e)) (Heap.get?_push_of_some _ e)
  have I : Inv (ncx C8.CX0 P w K mg base N F.nf f A outer s (delH H c) C8.E0) [] (startF N vs [some v]) (delH H c) { s with heap := g, toks := s.toks + (ps.zip us).length } := inv_startN (F := F.nf) S hr.hd e1 hl r C ns kp
  refine PySem.W.kla_codeExpr (wpAny_mono (pe.run [] _ _ _ _ I q) (fun x s' hh => ?_) fun _ _ hh => hh)
  obtain ⟨x', H', J, rx, q2⟩ := hh
  have nc : c ∉ frs outer := fun z => by
    rw [e0.frf c z] at hv
    cases hv
  obtain ⟨oc, eo, dc⟩ := cu
  have there := J.base.keep c oc eo delH_same nc (fun z => absurd (show c ∈ ([] : List Addr) from z) List.not_mem_nil)
  have gone := J.base.free c oc eo delH_same (fun z => absurd (show c ∈ ([] : List Addr) from z) List.not_mem_nil)
  exact ⟨x', upd H' c (CellO c v), J.os, J.bare, un_back hv gone J.base, hok_back J.hok gone ru ⟨oc, there, dc⟩, rx, q2 gone⟩
end
end V5

set_option maxHeartbeats 4000000
/-! V5c: a suite's end told of its slots; a def whose captured parameter outlives it; a lambda held in a field is called; one method, several classes. -/
namespace V5
open PySem PySem.Spec PyProof.Rows L2 V1 V2 V3 LamX NdefX
abbrev ZR := V → L2.St → Hp → Prop
abbrev ZN := L2.St → Hp → Prop
def ZP (X : Cx) (pins : List (Addr × Obj)) (R : ZR) (N : ZN) : Flow → Shared → Prop
  | .ret u, s' => ∃ v σ' H', Inv X pins σ' H' s' ∧ RelV v u ∧ R v σ' H'
  | .next, s' => ∃ σ' H', Inv X pins σ' H' s' ∧ N σ' H'
  | _, _ => False
structure PZ (X : Cx) (b : List Stmt) (t : ZR → ZN → L2.St → Hp → Prop) : Prop where
  run : ∀ (pins : List (Addr × Obj)) (s : Shared) (σ : L2.St) (H : Hp) (R : ZR) (N : ZN), Inv X pins σ H s → t R N σ H → wpAny (model X.prog X.w) X.A (execs b X.env) (ZP X pins R N) X.xe s
section
variable {X : Cx} {rest a b : List Stmt} {st : Stmt} {e c : Expr} {pos : Pos} {te : TE} {tc : TT} {ts : TS} {z za zb : ZR → ZN → L2.St → Hp → Prop}
theorem pz_nil : PZ X [] fun _ N σ H => N σ H := ⟨fun _ _ σ H _ _ I q => wpAny_execs_nil ⟨σ, H, I, q⟩⟩
theorem pz_st (h : PS X st ts) (h2 : PZ X rest z) : PZ X (st :: rest) fun R N σ H => ts { nx := z R N, rt := fun _ _ => False } σ H :=
  ⟨fun pins s σ H R N I q => wpAny_execs_cons (thn (h.run pins s σ H _ I q) fun fl s1 o => by
    cases fl with
    | next => exact let ⟨σ', H', I', q'⟩ := o; h2.run pins s1 σ' H' R N I' q'
    | ret u => exact let ⟨_, _, _, _, _, q'⟩ := o; q'.elim
    | brk => exact let ⟨_, _, _, q'⟩ := o; q'.elim
    | cont => exact let ⟨_, _, _, q'⟩ := o; q'.elim)⟩
theorem pz_ret (h : PE X e te) : PZ X (.Return (some e) pos :: rest) fun R _ σ H => te σ H fun v H1 => R v σ H1 :=
  ⟨fun pins s σ H R N I q => wpAny_execs_cons (wpAny_Return_some (thn (h.run pins s σ H _ I q) fun u s1 o => let ⟨x, H1, I1, r1, q1⟩ := o; ⟨x, σ, H1, I1, r1, q1⟩))⟩
theorem pz_if (hc : PT X c tc) (ha : PZ X a za) (hb : PZ X b zb) (h2 : PZ X rest z) : PZ X (.If c a b pos :: rest) fun R N σ H => tc σ H fun d H1 => if d = true then za R (z R N) σ H1 else zb R (z R N) σ H1 := by
  constructor
  intro pins s σ H R N I q
  have after : ∀ (bl : List Stmt) (zz : ZR → ZN → L2.St → Hp → Prop), PZ X bl zz → ∀ s1 H1, Inv X pins σ H1 s1 → zz R (z R N) σ H1 → wpAny (model X.prog X.w) X.A (execs bl X.env) (fun fl s' => match fl with
      | .next => wpAny (model X.prog X.w) X.A (execs rest X.env) (ZP X pins R N) X.xe s'
      | fl => ZP X pins R N fl s') X.xe s1 := fun bl zz hz s1 H1 I1 q1 => thn (hz.run pins s1 σ H1 R (z R N) I1 q1) fun fl s' o => by
    cases fl with
    | next => exact let ⟨σ', H', I', q'⟩ := o; h2.run pins s' σ' H' R N I' q'
    | ret u => exact o
    | brk => exact o.elim
    | cont => exact o.elim
  refine wpAny_execs_cons (wpAny_If (thn (hc.run pins s σ H _ I q) fun d s1 o => ?_))
  obtain ⟨H1, I1, q1⟩ := o
  cases d with
  | true => exact thn (after a za ha s1 H1 I1 q1) fun fl s' o => by cases fl <;> exact o
  | false => exact thn (after b zb hb s1 H1 I1 q1) fun fl s' o => by cases fl <;> exact o
theorem PZ.nox (h : PZ X.nox b z) : PZ X b z := ⟨fun pins s σ H R N I q => wpAny_mono (h.run pins s σ H R N (I.wish _) q) (fun fl s' o => by
    cases fl with
    | next => exact let ⟨σ', H', I', q'⟩ := o; ⟨σ', H', I'.unwish, q'⟩
    | ret u => exact let ⟨v, σ', H', I', r, q'⟩ := o; ⟨v, σ', H', I'.unwish, r, q'⟩
    | brk => exact o.elim
    | cont => exact o.elim) fun _ _ z => False.elim z⟩
end
/-! ### the def whose parameter is captured -/
theorem un_more {fs : List Addr} {H H' : Hp} {h h' : Heap} {c : Addr} {o : HO} (un : Un fs [] H H' h h') (n : H' c = none) (fresh : h.objs.size ≤ c) : Un fs [] H (upd H' c o) h h' where
  keep b q e z hb hx := un.keep b q e z hb hx
  slot b q e z hb hx := un.slot b q e z hb hx
  free b q e z hx := by
    rw [upd_ne fun y => by rw [y] at e; exact Nat.lt_irrefl _ (Nat.lt_of_lt_of_le (Heap.lt_size e) fresh)]
    exact un.free b q e z hx
  there b q e hx := un.there b q e hx
  tups b xs z := by
    rw [upd_ne (ne_of_none (un.tups b xs z) n)]
    exact un.tups b xs z
  frzs b q u z := by
    rw [upd_ne (ne_of_none (un.frzs b q u z) n)]
    exact un.frzs b q u z
  tbls b ps z := by
    obtain ⟨more, e⟩ := un.tbls b ps z
    exact ⟨more, by rw [upd_ne (ne_of_none e n)]; exact e⟩
section
variable {P : Program} {w : World} {K : PySem.W.Frag} {mg : Str → Option Value} {base : Heap} {x qual : Str} {params : Arguments} {body : List Stmt} {scope : Scope} {dvs : List V} {kws : List (Str × V)} {f : Addr} {fd : FuncData}
theorem fn_cell {CX : CXT} {N ps : List Str} {k i : Nat} {y : Str} {sp : Sp} (F : FunD K x qual params body scope dvs kws f fd) (T : V4.LamD K f) (S : FnScope N ps scope) (len : ∀ vs H Q E, sp vs H Q E → vs.length = ps.length) (hN : N[i]? = some y) (hy : scope.names.lookup y = some .cell)
    (hcs : ∀ n, cellsFrom n scope.names [] = [(y, n)])
    (go : ∀ (A : Around) (outer : List Env) (s : Shared) (H : Hp) (vs : List V) (Q : VK) (E : XK), Room k (A.deeper (envOfC qual scope s.heap.objs.size f (.ref (V4.pairOf K f).1))) → sp vs H Q E →
      ∃ z, PZ (cxOf CX P w K mg base N qual scope f (.ref (V4.pairOf K f).1) A outer s H E) body z ∧ z (fun v σ' H' => ∃ u, σ'[i]? = some (some u) ∧ (H' (s.heap.objs.size + 1) = none → Q v (upd H' (s.heap.objs.size + 1) (CellO (s.heap.objs.size + 1) u)))) (fun _ _ => False) (start N vs) H) :
    FnOk P w K mg base CX (k + 1) f fd ps sp := by
  obtain ⟨oc, od, dV, kV, doc, pm, an, cdv, ct, osl, rfl, lk, cd, _, _⟩ := F.ex
  obtain rfl : cdv = .ref (V4.pairOf K f).1 := T.code _ _ lk rfl
  refine ⟨len, fun A outer s H args us vs Q E hr e0 bind rv hs => ?_⟩
  have inK : K.In s.heap := e0.mod.kin.keeps fun b o e => (e0.bs b o e).1
  have free : s.heap.NoLimit := e0.mod.nolimit.keeps fun b o e => (e0.bs b o e).1
  have kinds : ∀ q ∈ ps.zip us, scope.names.lookup q.1 = some .local ∨ (scope.names.lookup q.1 = some .cell ∧ ((cellsFrom (s.heap.objs.size + 1) scope.names []).lookup q.1).isSome = true) := by
    rintro ⟨n, v⟩ hq
    rcases S.par n (List.of_mem_zip hq).1 with z | z
    · exact .inl z
    · exact .inr ⟨z, PySem.W.cellsFrom_some _ _ _ (.inl z)⟩
  refine codeAny_call_function hr.depth (inK _ _ lk) rfl S.co S.gen rfl (PySem.W.codeRec_of inK cd) (bind _ _ _ _ ?_)
  refine wpAny_newFunctionEnv_cells S.kind kinds fun env he s1 st => ?_
  subst he
  refine ⟨free.keeps st.toInCall.keep, codeAny_func ?_⟩
  obtain ⟨z, hz, hq⟩ := go A outer s H vs Q E (hr.deeper _) hs
  have I : Inv (cxOf CX P w K mg base N qual scope f (.ref (V4.pairOf K f).1) A outer s H E) [] (start N vs) H s1 := inv_start S hr.hd e0 (len _ _ _ _ hs) rv st
  refine wpAny_mono (hz.run [] s1 _ H _ _ I hq) (fun fl s' o => ?_) fun _ _ o => o
  cases fl with
  | next => exact let ⟨_, _, _, q⟩ := o; q.elim
  | brk => exact o.elim
  | cont => exact o.elim
  | ret u' =>
    obtain ⟨v', σ', H', J, r', u, eu, q⟩ := o
    have kc : (cxOf CX P w K mg base N qual scope f (.ref (V4.pairOf K f).1) A outer s H E).env.cells.lookup y = some (s.heap.objs.size + 1) := by
      show (cellsFrom (s.heap.objs.size + 1) scope.names []).lookup y = _
      rw [hcs]
      simp [List.lookup]
    have gone := J.freeC y _ kc
    obtain ⟨m, _, at_⟩ := J.loc
    obtain ⟨uv, ru, lo⟩ := at_ i y u hN eu (.inr (.inl hy))
    have cell : s'.heap.IsCell (s.heap.objs.size + 1) (some uv) := by
      rcases lo with ⟨k', _⟩ | ⟨_, c, e, ic⟩
      · have k' : scope.names.lookup y = some .local := k'
        rw [hy] at k'
        cases k'
      · rw [kc] at e
        cases e
        exact ic
    exact ⟨v', _, J.os, J.bare, un_more J.base gone (Nat.le_succ _), hok_back J.hok gone ru cell, r', q gone⟩
end
/-! ### the call of a lambda that a field holds -/
structure LOk (P : Program) (w : World) (K : PySem.W.Frag) (mg : Str → Option Value) (base : Heap) (k : Nat) (mk : Addr → Addr → LF) (ps : List Str) (sp : V → Sp) : Prop where
  len : ∀ v vs H Q E, sp v vs H Q E → vs.length = ps.length
  run : ∀ (A : Around) (outer : List Env) (s : Shared) (H : Hp) (us : List Value) (vs : List V) (f c c' : Addr) (v : V) (Q : VK), Room k A → Env0 P w K mg base A outer s H → H f = some (LamO f (mk c c')) → H c' = some (CodeO c' (mk c c').qual) → H c = some (CellO c v) → Vals vs us →
    sp v vs (delH H c) (fun x H' => H' c = none → Q x (upd H' c (CellO c v))) C8.E0 → codeAny (model P w) A (.call (.ref f) ⟨us, []⟩) (CR C8.CX0 outer P w H s Q C8.E0) s
theorem lok_of {P : Program} {w : World} {K : PySem.W.Frag} {mg : Str → Option Value} {base : Heap} {k : Nat} {N ps : List Str} {y qual : Str} {params : Arguments} {body : Expr} {scope : Scope} {sp : V → Sp} (S : NScope N ps [y] scope)
    (hb : ∀ (cl : List (Str × Addr)) (c : Addr) (pm ctv : Value) (us : List Value), us.length = ps.length → bindArgs ((⟨qual, params, body, scope, cl, c⟩ : LF).fd pm ctv) ⟨us, []⟩ = pure (ps.zip us)) (len : ∀ v vs H Q E, sp v vs H Q E → vs.length = ps.length)
    (go : ∀ (A : Around) (outer : List Env) (s : Shared) (H : Hp) (vs : List V) (f c c' : Addr) (v : V) (Q : VK), Room k (A.deeper (envF (⟨qual, params, body, scope, [(y, c)], c'⟩ : LF).nf f s.heap.objs.size)) → sp v vs H Q C8.E0 →
      ∃ te, PE (ncx C8.CX0 P w K mg base N (⟨qual, params, body, scope, [(y, c)], c'⟩ : LF).nf f A outer s H C8.E0) body te ∧ te (startF N vs [some v]) H Q) :
    LOk P w K mg base (k + 1) (fun c c' => ⟨qual, params, body, scope, [(y, c)], c'⟩) ps sp :=
  ⟨len, fun A outer s H us vs f c c' v Q hr e0 hf hc hv r q => run_lam (F := ⟨qual, params, body, scope, [(y, c)], c'⟩) S (hb _ _) hr e0 hf hc rfl hv r (len _ _ _ _ _ q) fun hr' => go A outer s (delH H c) vs f c c' v _ hr' q⟩
def tFldL (K : PySem.W.Frag) (m : Str) (mk : Addr → Addr → LF) (sp : V → Sp) (ta : TE) (t : TA) : TE := fun σ H Q => ta σ H fun x H1 => ∃ a C dx fs f c c' v, x = .ref a ∧ H1 a = some (.ins C dx fs) ∧ Cls K C ∧ NoAttr K C m ∧ fs.lookup m = some (.ref f) ∧ H1 f = some (LamO f (mk c c')) ∧
  t σ H1 fun vs H2 => H2 f = some (LamO f (mk c c')) ∧ H2 c' = some (CodeO c' (mk c c').qual) ∧ H2 c = some (CellO c v) ∧ sp v vs (delH H2 c) (fun x H' => H' c = none → Q x (upd H' c (CellO c v))) C8.E0
section
variable {X : Cx} {k : Nat} {ps : List Str} {mk : Addr → Addr → LF} {sp : V → Sp} {m : Str} {pos apos : Pos} {e o : Expr} {es : List Expr} {ta : TE} {t : TA}
theorem lam_fnAt {pins : List (Addr × Obj)} {σ : L2.St} {H : Hp} {s : Shared} {f : Addr} {F : LF} (I : Inv X pins σ H s) (e : H f = some (LamO f F)) : PySem.W.FnAt f s.heap := by
  obtain ⟨pm, ctv, od, sl, z⟩ := lamO_at I.hok e
  exact ⟨_, od, _, sl, z⟩
theorem pe_fldL {pl : Sem Bool} (he : PE X o ta) (L : LOk X.prog X.w X.K X.mg X.base k mk ps sp) (hr : Room k X.A) (ha : PA X (e :: es) t)
    (st : starEach (e :: es) X.env = (false, eval e X.env) :: starEach es X.env := by rfl) (pn : (backTo pos (starEach es X.env)).any (·.1) = false := by rfl)
    (ev : eval (.Call (.Attribute o m apos) (e :: es) [] pos) X.env = (do let ov ← eval o X.env; standAt apos.atName; let (g, first) ← holding [ov] (getMethod ov m pl); callWith pos g first (backTo pos (starEach (e :: es) X.env)) (backToKw pos (keywordEach [] X.env))) := by rfl) :
    PE X (.Call (.Attribute o m apos) (e :: es) [] pos) (tFldL X.K m mk sp ta t) := by
  constructor
  intro pins s σ H Q I h
  refine PySem.W.methodCall_KW (pl := pl) (thn (he.run pins s σ H _ I h) fun u s1 hh => ?_) ev
  obtain ⟨x, H1, J, rx, a, C, dx, fs, f, c, c', v, rfl, ea, cC, n, l, lf, q⟩ := hh
  cases rx
  obtain ⟨mA, O, r, _, _, _⟩ := ins_get J.hok ea
  obtain ⟨w', hw, rw'⟩ := RelO.some_of (v := .ref f) (o := mA m) (by rw [← l]; exact r m)
  cases rw'
  obtain ⟨od, O', hl⟩ := O.look
  refine PySem.W.method_usual J.kIn O' (PySem.W.plainGet_of (cC.get m)).1 (PySem.W.plainGet_of (cC.get m)).2 n rfl ?_
  refine PySem.W.get_value J.kIn O' (PySem.W.plainGet_of (cC.get m)).1 (PySem.W.findObj_own cC.hd n rfl (by rw [hl, hw])) rfl ?_
  have J2 := J.tok (s.toks)
  refine PySem.W.callWith_F (first := []) (lam_fnAt (J.tok _) lf) (thn (ha.run pos pins _ σ H1 _ (J.tok _) q) fun us s2 gg => ?_) st pn
  obtain ⟨vs, H2, I2, r2, h1, h2, h3, q2⟩ := gg
  refine ⟨lam_fnAt I2 h1, wpAny_call (codeAny_mono (L.run X.A X.stack s2 H2 us vs f c c' v Q hr I2.env0 h1 h2 h3 r2 q2) fun res s3 out => ?_)⟩
  cases res with
  | error e => exact (show False from out).elim
  | ok fl =>
    cases fl with
    | ret u => exact I2.after out
    | next => exact False.elim out
    | brk => exact False.elim out
    | cont => exact False.elim out
end
/-! ### o.m(..), o of one of several classes -/
structure MOk (X : Cx) (CX : CXT) (k : Nat) (m : Str) (C : Addr) (sp : Sp) : Prop where
  ex : ∃ f fd ps, Cls X.K C ∧ Meth X.K C m f ∧ FnOk X.prog X.w X.K X.mg X.base CX k f fd ps sp ∧ Binds X.K fd ps []
def tMethA (m : Str) (Cs : List (Addr × Sp)) (E : XK) (ta : TE) (t : TA) : TE := fun σ H Q => ta σ H fun x H1 => ∃ p ∈ Cs, ∃ a dx fs, x = .ref a ∧ H1 a = some (.ins p.1 dx fs) ∧ fs.lookup m = none ∧ t σ H1 fun vs H2 => p.2 (x :: vs) H2 Q E
theorem pe_methA {X : Cx} {CX : CXT} {k : Nat} {m : Str} {Cs : List (Addr × Sp)} {E : XK} {o e : Expr} {es : List Expr} {ta : TE} {t : TA} {apos pos : Pos} {pl : Sem Bool} (he : PE X o ta) (M : ∀ p ∈ Cs, MOk X CX k m p.1 p.2) (hr : Room k X.A) (hx : Passes CX X E) (ha : PA X (e :: es) t)
    (st : starEach (e :: es) X.env = (false, eval e X.env) :: starEach es X.env := by rfl) (pn : (backTo pos (starEach es X.env)).any (·.1) = false := by rfl)
    (ev : eval (.Call (.Attribute o m apos) (e :: es) [] pos) X.env = (do let ov ← eval o X.env; standAt apos.atName; let (g, first) ← holding [ov] (getMethod ov m pl); callWith pos g first (backTo pos (starEach (e :: es) X.env)) (backToKw pos (keywordEach [] X.env))) := by rfl) :
    PE X (.Call (.Attribute o m apos) (e :: es) [] pos) (tMethA m Cs E ta t) := by
  constructor
  intro pins s σ H Q I h
  refine PySem.W.methodCall_KW (pl := pl) (thn (he.run pins s σ H _ I h) fun u s1 hh => ?_) ev
  obtain ⟨x, H1, J, rx, p, hp, a, dx, fs, rfl, ea, l, q⟩ := hh
  cases rx
  obtain ⟨f, fd, ps, cC, mM, F, B⟩ := (M p hp).ex
  refine getmeth_ok J ea cC mM l (PySem.W.callWith_K (first := [.ref a]) (h₀ := X.base) I.ok.mod.kin mM.kp (thn (ha.run pos pins s1 σ H1 _ J q) fun us s2 gg => ?_) st pn)
  obtain ⟨vs, H2, J2, r, q2⟩ := gg
  exact ⟨J2.kIn, run_fn (dvs := []) (ds := []) (us := .ref a :: us) (vs := .ref a :: vs) F hr B .nil hx J2 (.cons rfl r) (by rw [List.append_nil]; exact q2)⟩
end V5

set_option maxHeartbeats 4000000
/-! V5d: a dict in K whose values are pairs of a text and a tuple of texts; a tuple of texts in K. -/
namespace V5
open PySem PySem.Spec PyProof.Rows L2 V1 V2 V3
def strsIn (us : List Value) : Option (List Str) := us.mapM strIn
def formOf (K : PySem.W.Frag) (v : Value) : Option (Str × List Str) := match tupIn K v with
  | some [x, u] => (strIn x).bind fun a => ((tupIn K u).bind strsIn).map fun ps => (a, ps)
  | _ => none
def formsB (K : PySem.W.Frag) (a : Addr) (L : List (Str × Str × List Str)) : Bool := match dictIn K a with
  | some es => decide (es.map (fun e => strIn e.key) = L.map fun p => some p.1) && decide (es.map (fun e => formOf K e.val) = L.map fun p => some p.2)
  | none => false
def hashesOf (K : PySem.W.Frag) (a : Addr) : List Int := match dictIn K a with
  | some es => es.map (·.hash)
  | none => []
def strsB (K : PySem.W.Frag) (a : Addr) (L : List Str) : Bool := decide ((tupIn K (.ref a)).bind strsIn = some L)
theorem strsIn_of : ∀ {us : List Value} {ps : List Str}, strsIn us = some ps → Vals (ps.map V.str) us
  | [], ps, h => by
    simp [strsIn] at h
    subst h
    exact .nil
  | u :: us, ps, h => by
    simp only [strsIn, List.mapM_cons, Option.bind_eq_bind, Option.bind_eq_some_iff, Option.pure_def, Option.some.injEq] at h
    obtain ⟨x, hx, xs, hxs, rfl⟩ := h
    exact .cons (strIn_of hx) (strsIn_of hxs)
theorem strsB_of {K : PySem.W.Frag} {a : Addr} {L : List Str} (h : strsB K a L = true) (H : Hp) : SqT K H a (L.map V.str) := by
  have e := of_decide_eq_true h
  obtain ⟨us, e1, e2⟩ := Option.bind_eq_some_iff.mp e
  obtain ⟨b, eb, q⟩ := tupIn_of e1
  cases eb
  exact q H _ (strsIn_of e2)
/-- what the dict tells of a name -/
def lookF (L : List (Str × Str × List Str)) (x : Str) : Option (Str × List Str) := (L.find? fun p => decide (p.1 = x)).map (·.2)
structure Forms (K : PySem.W.Frag) (w : World) (a : Addr) (L : List (Str × Str × List Str)) : Prop where
  ex : ∃ ks, KD K w a ks ∧ ∀ x, (lookF L x = none → getK ks x = none) ∧ ∀ s ps, lookF L x = some (s, ps) → ∃ u t t', getK ks x = some u ∧ RelV (.ref t) u ∧ (∀ H, SqT K H t [.str s, .ref t']) ∧ ∀ H, SqT K H t' (ps.map V.str)
theorem formOf_of {K : PySem.W.Frag} {v : Value} {s : Str} {ps : List Str} (h : formOf K v = some (s, ps)) : ∃ t t', v = .ref t ∧ (∀ H, SqT K H t [.str s, .ref t']) ∧ ∀ H, SqT K H t' (ps.map V.str) := by
  unfold formOf at h
  split at h
  · rename_i x u e
    obtain ⟨a, ha, h⟩ := Option.bind_eq_some_iff.mp h
    obtain ⟨qs, hq, h⟩ := Option.map_eq_some_iff.mp h
    obtain ⟨us, hu, hs⟩ := Option.bind_eq_some_iff.mp hq
    cases h
    obtain ⟨t, rfl, q1⟩ := tupIn_of e
    obtain ⟨t', rfl, q2⟩ := tupIn_of hu
    exact ⟨t, t', rfl, fun H => q1 H _ (.cons (strIn_of ha) (.cons rfl .nil)), fun H => q2 H _ (strsIn_of hs)⟩
  · cases h
theorem forms_of {K : PySem.W.Frag} {w : World} {a : Addr} {L : List (Str × Str × List Str)} (h : formsB K a L = true) (hh : hashesOf K a = L.map fun p => hashStr w p.1) (nd : (L.map (·.1)).Nodup) : Forms K w a L := by
  unfold formsB at h
  unfold hashesOf at hh
  cases ed : dictIn K a with
  | none => rw [ed] at h; cases h
  | some es =>
    rw [ed] at h hh
    simp only [Bool.and_eq_true, decide_eq_true_eq] at h hh
    obtain ⟨h1, h2⟩ := h
    have len : es.length = L.length := by simpa using congrArg List.length h1
    let ks : List (Str × Value) := (L.map (·.1)).zip (es.map (·.val))
    have k1 : ks.map (·.1) = L.map (·.1) := by
      rw [List.map_fst_zip]
      simp [len]
    have k2 : ks.map (·.2) = es.map (·.val) := by
      rw [List.map_snd_zip]
      simp [len]
    have D : KD K w a ks := by
      refine kd_of ed ?_ ?_ k2.symm (by rw [k1]; exact nd)
      · rw [hh]
        have : (ks.map fun p => hashStr w p.1) = (ks.map (·.1)).map (hashStr w) := by rw [List.map_map]; rfl
        rw [this, k1, List.map_map]
        rfl
      · rw [h1]
        have : (ks.map fun p => some p.1) = (ks.map (·.1)).map some := by rw [List.map_map]; rfl
        rw [this, k1, List.map_map]
        rfl
    refine ⟨ks, D, fun x => ?_⟩
    have go : ∀ (L : List (Str × Str × List Str)) (es : List DictEntry), es.map (fun e => formOf K e.val) = L.map (fun p => some p.2) → (lookF L x = none → getK ((L.map (·.1)).zip (es.map (·.val))) x = none) ∧ ∀ s ps, lookF L x = some (s, ps) → ∃ u t t', getK ((L.map (·.1)).zip (es.map (·.val))) x = some u ∧ RelV (.ref t) u ∧ (∀ H, SqT K H t [.str s, .ref t']) ∧ ∀ H, SqT K H t' (ps.map V.str) := by
      intro L
      induction L with
      | nil => intro es _; exact ⟨fun _ => rfl, fun s ps h => by cases h⟩
      | cons p L ih => intro es he; cases es with
        | nil => cases he
        | cons e es =>
          rw [List.map_cons, List.map_cons] at he
          have z := List.cons.inj he
          have w := ih es z.2
          rw [List.map_cons, List.map_cons, List.zip_cons_cons]
          unfold lookF getK at w ⊢
          rw [List.find?_cons, List.find?_cons]
          by_cases q : p.1 = x
          · rw [decide_eq_true q]
            refine ⟨(fun h => by cases h), fun s ps h => ?_⟩
            have hp : p.2 = (s, ps) := Option.some.inj h
            rw [hp] at z
            obtain ⟨t, t', ev, a1, a2⟩ := formOf_of z.1
            exact ⟨e.val, t, t', rfl, ev, a1, a2⟩
          · rw [decide_eq_false q]
            exact w
    exact go L es h2
end V5

set_option maxHeartbeats 4000000
/-! V7a: a dict in K whose values are texts, or pairs of a text and a flag; its .get. -/
namespace V7
open PySem PySem.Spec PyProof.Rows L2 V1 V2 V3 V5
inductive CV where
  | str (x : Str)
  | pr (x : Str) (b : Bool)
  deriving DecidableEq
def cvOf (K : PySem.W.Frag) (v : Value) : Option CV := match strIn v with
  | some x => some (.str x)
  | none => match tupIn K v with
    | some [x, .bool b] => (strIn x).map fun y => .pr y b
    | _ => none
def dictB (K : PySem.W.Frag) (a : Addr) (L : List (Str × CV)) : Bool := match dictIn K a with
  | some es => decide (es.map (fun e => strIn e.key) = L.map fun p => some p.1) && decide (es.map (fun e => cvOf K e.val) = L.map fun p => some p.2)
  | none => false
def lookC (L : List (Str × CV)) (x : Str) : Option CV := (L.find? fun p => decide (p.1 = x)).map (·.2)
def RelC (K : PySem.W.Frag) : CV → Value → Prop
  | .str x, u => RelV (.str x) u
  | .pr x b, u => ∃ t, u = .ref t ∧ ∀ H, SqT K H t [.str x, .bl b]
structure CDict (K : PySem.W.Frag) (w : World) (a : Addr) (L : List (Str × CV)) : Prop where
  ex : ∃ ks, KD K w a ks ∧ ∀ x, (lookC L x = none → getK ks x = none) ∧ ∀ c, lookC L x = some c → ∃ u, getK ks x = some u ∧ RelC K c u
theorem cvOf_of {K : PySem.W.Frag} {v : Value} {c : CV} (h : cvOf K v = some c) : RelC K c v := by
  unfold cvOf at h
  cases e : strIn v with
  | some x =>
    rw [e] at h
    cases h
    exact strIn_of e
  | none =>
    rw [e] at h
    dsimp only at h
    split at h
    · rename_i x b e2
      obtain ⟨y, hy, h⟩ := Option.map_eq_some_iff.mp h
      subst h
      obtain ⟨t, rfl, q⟩ := tupIn_of e2
      exact ⟨t, rfl, fun H => q H _ (.cons (strIn_of hy) (.cons rfl .nil))⟩
    · cases h
theorem cdict_of {K : PySem.W.Frag} {w : World} {a : Addr} {L : List (Str × CV)} (h : dictB K a L = true) (hh : hashesOf K a = L.map fun p => hashStr w p.1) (nd : (L.map (·.1)).Nodup) : CDict K w a L := by
  unfold dictB at h
  unfold hashesOf at hh
  cases ed : dictIn K a with
  | none => rw [ed] at h; cases h
  | some es =>
    rw [ed] at h hh
    simp only [Bool.and_eq_true, decide_eq_true_eq] at h hh
    obtain ⟨h1, h2⟩ := h
    have len : es.length = L.length := by simpa using congrArg List.length h1
    let ks : List (Str × Value) := (L.map (·.1)).zip (es.map (·.val))
    have k1 : ks.map (·.1) = L.map (·.1) := by
      rw [List.map_fst_zip]
      simp [len]
    have k2 : ks.map (·.2) = es.map (·.val) := by
      rw [List.map_snd_zip]
      simp [len]
    have D : KD K w a ks := by
      refine kd_of ed ?_ ?_ k2.symm (by rw [k1]; exact nd)
      · rw [hh]
        have : (ks.map fun p => hashStr w p.1) = (ks.map (·.1)).map (hashStr w) := by rw [List.map_map]; rfl
        rw [this, k1, List.map_map]
        rfl
      · rw [h1]
        have : (ks.map fun p => some p.1) = (ks.map (·.1)).map some := by rw [List.map_map]; rfl
        rw [this, k1, List.map_map]
        rfl
    refine ⟨ks, D, fun x => ?_⟩
    have go : ∀ (L : List (Str × CV)) (es : List DictEntry), es.map (fun e => cvOf K e.val) = L.map (fun p => some p.2) → (lookC L x = none → getK ((L.map (·.1)).zip (es.map (·.val))) x = none) ∧ ∀ c, lookC L x = some c → ∃ u, getK ((L.map (·.1)).zip (es.map (·.val))) x = some u ∧ RelC K c u := by
      intro L
      induction L with
      | nil => intro es _; exact ⟨fun _ => rfl, fun c h => by cases h⟩
      | cons p L ih => intro es he; cases es with
        | nil => cases he
        | cons e es =>
          rw [List.map_cons, List.map_cons] at he
          have z := List.cons.inj he
          have w := ih es z.2
          rw [List.map_cons, List.map_cons, List.zip_cons_cons]
          unfold lookC getK at w ⊢
          rw [List.find?_cons, List.find?_cons]
          by_cases q : p.1 = x
          · rw [decide_eq_true q]
            refine ⟨(fun h => by cases h), fun c h => ?_⟩
            have hp : p.2 = c := Option.some.inj h
            rw [hp] at z
            exact ⟨e.val, rfl, cvOf_of z.1⟩
          · rw [decide_eq_false q]
            exact w
    exact go L es h2
/-- d.get(x), d in K -/
def tKGet1 (K : PySem.W.Frag) (w : World) (td ty : TE) : TE := fun σ H Q => td σ H fun x H1 => ∃ a ks, x = .ref a ∧ KD K w a ks ∧ ty σ H1 fun y H2 => ∃ k, y = .str k ∧ ((getK ks k = none ∧ Q .non H2) ∨ ∃ u v, getK ks k = some u ∧ RelV v u ∧ Q v H2)
section
variable {X : Cx} {o e : Expr} {apos cpos : Pos} {td ty : TE}
theorem pe_kget1 (ho : PE X o td) (he : PE X e ty) (m : M1 X o "get" apos e cpos) : PE X (.Call (.Attribute o "get" apos) [e] [] cpos) (tKGet1 X.K X.w td ty) := by
  refine ⟨fun pins s σ H Q I h => ?_⟩
  refine wpAny_Call_method m.base m.few m.line PySem.F.plainAttrs_dict PySem.F.slot_dict_get PySem.F.type_dict_get (thn (ho.run pins s σ H _ I h) fun u s1 ⟨x, H1, I1, rx, a, ks, ex, D, q1⟩ => ?_)
  subst ex
  obtain rfl : u = Value.ref a := rx
  have dd := D.at_ X.prog s1.heap I1.kIn
  refine ⟨dd.typeIs, ?_, ?_⟩
  · obtain ⟨ob, es, ep, e1, ⟨c1, c2, c3⟩, _⟩ := dd
    exact fun b eb => by
      cases eb
      exact ⟨ob, e1, c2⟩
  rw [m.trees]
  refine Calls.callWith_builtin rfl (Calls.evalArgs_plain (Calls.spliced_cons (thn (he.run pins s1 σ H1 _ I1 q1) fun iv s2 ⟨y, H2, I2, ry, k, ey, g⟩ => Calls.spliced_nil ?_)))
  subst ey
  have d2 := D.at_ X.prog s2.heap I2.kIn
  refine call_meetsIn PySem.F.slot_dict_get d2.typeIs PySem.F.entry_dict_get (PySem.F.args_dict_get_2 _ _) (meets_dict_get (mixKind X.prog X.w) a (kV_is (k := .inr k) ry) D.ne) ⟨_, d2.mapOf, ?_⟩
  rw [getK_at]
  rcases g with ⟨e1, q⟩ | ⟨u, v, e1, rv, q⟩
  · rw [e1]
    exact ⟨.non, H2, I2.tok _, rfl, q⟩
  · rw [e1]
    exact ⟨v, H2, I2.tok _, rv, q⟩
end
end V7

set_option maxHeartbeats 4000000
/-! V7b: defs whose bodies want a token; a text's signs replaced one by one. -/
namespace V7
open PySem PySem.Spec PyProof.Rows L2 V1 V2 V3 V5 CwR
theorem okT {CX : CXT} {P : Program} {w : World} {K : PySem.W.Frag} {mg : Str → Option Value} {base : Heap} {x qual : Str} {params : Arguments} {body : List Stmt} {scope : Scope} {dvs : List V} {kws : List (Str × V)} {f : Addr} {fd : FuncData} {N ps : List Str} {k : Nat} {sp : Sp}
    (F : FunD K x qual params body scope dvs kws f fd) (S : FnScope N ps scope) (hnc : ∀ y ∈ scope.names, y.2 ≠ .cell) (hps : 1 ≤ ps.length) (len : ∀ vs H Q E, sp vs H Q E → vs.length = ps.length)
    (hbody : ∀ (cdv : Value) (A : Around) (outer : List Env) (s : Shared) (H : Hp) (vs : List V) (Q : VK) (E : XK), Room k (A.deeper (envOfC qual scope s.heap.objs.size f cdv)) → sp vs H Q E →
      ∃ t, PSsT (cxOf CX P w K mg base N qual scope f cdv A outer s H E) body t ∧ t { nx := fun _ H' => Q .non H', rt := Q } (start N vs) H) : FnOk P w K mg base CX (k + 1) f fd ps sp := by
  obtain ⟨oc, od, dV, kV, doc, pm, an, cdv, ct, osl, rfl, lk, hcd, _, _⟩ := F.ex
  exact fn_ofT lk hcd S hnc hps len fun A outer s H vs Q E hr hsp => hbody cdv A outer s H vs Q E hr hsp
end V7
namespace V7
open PySem PySem.Spec PyProof.Rows L2 V1 V2 V3 V5 CwR
def rep1 (c : Nat) (z : List Nat) (k : Nat) : List Nat := if k = c then z else [k]
theorem rep_free (c : Nat) (z : List Nat) : ∀ l : List Nat, c ∉ l → l.flatMap (rep1 c z) = l
  | [], _ => rfl
  | k :: r, h => by
    have h1 : ¬ k = c := fun e => h (e ▸ List.mem_cons_self ..)
    have h2 : c ∉ r := fun m => h (List.mem_cons_of_mem _ m)
    rw [List.flatMap_cons, rep_free c z r h2]
    unfold rep1
    rw [if_neg h1]
    rfl
theorem rep_join (c : Nat) (z : Str) : ∀ parts : List Str, (∀ p ∈ parts, c ∉ p.cps.toList) → (Str.join ⟨#[c]⟩ parts).cps.toList.flatMap (rep1 c z.cps.toList) = (Str.join z parts).cps.toList
  | [], _ => rfl
  | [p], h => rep_free c _ _ (h p (List.mem_singleton.mpr rfl))
  | p :: q :: r, h => by
    have ih := rep_join c z (q :: r) fun a ha => h a (List.mem_cons_of_mem _ ha)
    show (p ++ ⟨#[c]⟩ ++ Str.join ⟨#[c]⟩ (q :: r)).cps.toList.flatMap _ = (p ++ z ++ Str.join z (q :: r)).cps.toList
    simp only [Str.cps_append, Array.toList_append]
    rw [List.flatMap_append, List.flatMap_append, ih, rep_free c _ _ (h p (List.mem_cons_self ..))]
    have e : ([c] : List Nat).flatMap (rep1 c z.cps.toList) = z.cps.toList := by
      rw [List.flatMap_cons, List.flatMap_nil, List.append_nil]
      unfold rep1
      rw [if_pos rfl]
    show p.cps.toList ++ ([c] : List Nat).flatMap _ ++ _ = _
    rw [e]
theorem replace_at (x z : Str) (c : Nat) : (Txt.replace x ⟨#[c]⟩ z).cps.toList = x.cps.toList.flatMap (rep1 c z.cps.toList) := by
  rw [StrLaws.replace_one, ← rep_join c z _ (StrLaws.split_free x c), StrLaws.join_split]
/-- one sign as it is written within quotes -/
def esc1 (k : Nat) : List Nat := if k = 126 then [126, 126] else if k = 39 then [126, 39] else if k = 10 then [126, 110] else [k]
def escT (x : Str) : Str := Txt.replace (Txt.replace (Txt.replace x "~" "~~") "'" "~'") "\n" "~n"
theorem escT_at (x : Str) : (escT x).cps.toList = x.cps.toList.flatMap esc1 := by
  unfold escT
  rw [show (Str.ofString "\n") = ⟨#[10]⟩ from rfl, show (Str.ofString "'") = ⟨#[39]⟩ from rfl, show (Str.ofString "~") = ⟨#[126]⟩ from rfl, replace_at, replace_at, replace_at, List.flatMap_assoc, List.flatMap_assoc]
  congr 1
  funext k
  show ((rep1 126 [126, 126] k).flatMap fun j => (rep1 39 [126, 39] j).flatMap (rep1 10 [126, 110])) = esc1 k
  unfold rep1 esc1
  by_cases h1 : k = 126
  · subst h1
    decide
  · rw [if_neg h1, if_neg h1]
    by_cases h2 : k = 39
    · subst h2
      decide
    · rw [if_neg h2]
      simp only [List.flatMap_cons, List.flatMap_nil, List.append_nil]
      rw [if_neg h2]
      simp only [List.flatMap_cons, List.flatMap_nil, List.append_nil]
end V7

set_option maxHeartbeats 4000000
/-! V6b: t[::-1], t a text. -/
namespace V6
open PySem PySem.Spec PyProof.Rows L2 V1 V2 V3
def revS (x : Str) : Str := ⟨x.cps.toList.reverse.toArray⟩
theorem revS_len (x : Str) : (revS x).length = x.length := by
  show (x.cps.toList.reverse.toArray).size = x.cps.size
  simp
theorem picked_back (x : Str) (tk : Tok) : (slicePicked x none none (some (-1, tk))).filterMap (x.cps[·]?) = x.cps.toList.reverse := by
  unfold slicePicked
  have e : Builtin.Str.strSliceIndices none none (-1) x.length = (List.range x.length).map fun k => x.length - 1 - k := PySem.W.krv_sliceRange x.length
  show (Builtin.Str.strSliceIndices none none (-1) x.length).filterMap (x.cps[·]?) = _
  rw [e, PySem.W.krv_range, List.filterMap_reverse]
  show ((List.range x.cps.size).filterMap (x.cps[·]?)).reverse = _
  rw [PySem.W.krv_all]
def tBackS (te : TE) : TE := fun σ H Q => te σ H fun x H1 => ∃ z, x = .str z ∧ z.length ≤ 1000 ∧ Q (.str (revS z)) H1
theorem pe_backS {X : Cx} {e : Expr} {te : TE} {k : Nat} {p1 p2 p3 pos : Pos} (he : PE X e te) : PE X (.Subscript e (.Slice none none (some (.UnaryOp .USub (.Constant (.int 1) k p1) p2)) p3) pos) (tBackS te) := by
  refine ⟨fun pins s σ H Q I h => Subscript_ (thn (he.run pins s σ H _ I h) ?_)⟩
  rintro v s1 ⟨x, H1, I1, r1, z, rfl, hz, q⟩
  obtain ⟨t, rfl⟩ := r1
  have step : PO X (some (.UnaryOp .USub (.Constant (.int 1) k p1) p2)) (tPart (tUn (rU fun i => .int (-i)) (tC (.int 1)))) := po_some (pe_un un_neg pe_int)
  refine wpAny_Slice (thn (po_none.run pins s1 σ H1 (fun o H2 => o = none ∧ H2 = H1) I1 ⟨rfl, rfl⟩) ?_)
  rintro vl s2 ⟨l, H2, I2, pl, rfl, rfl⟩
  cases pl
  refine thn (po_none.run pins s2 σ H2 (fun o H3 => o = none ∧ H3 = H2) I2 ⟨rfl, rfl⟩) ?_
  rintro vu s3 ⟨u, H3, I3, pu, rfl, rfl⟩
  cases pu
  refine thn (step.run pins s3 σ H3 (fun o H4 => o = some (-1) ∧ H4 = H3) I3 ⟨1, rfl, -1, rfl, rfl, rfl⟩) ?_
  rintro vs s4 ⟨o, H4, I4, ps, rfl, rfl⟩
  have I5 : Inv X pins σ H4 { s4 with heap := s4.heap.push { cls := .type "slice", data := .fields #[.none, .none, vs] } } := I4.kept (t' := s4.toks) fun b ob q => Heap.get?_push_of_some _ q
  obtain ⟨st, es, e2⟩ := IsPart.raw ps
  subst es
  obtain ⟨i, tk, rfl⟩ : ∃ i tk, st = some (i, tk) := by
    cases st with
    | none => cases e2
    | some p => exact ⟨p.1, p.2, rfl⟩
  cases e2
  show wpAny (model X.prog X.w) X.A (subscriptTail e (.Slice none none (some (.UnaryOp .USub (.Constant (.int 1) k p1) p2)) p3) (.str z t) (.ref s4.heap.objs.size)) (EP X pins σ Q) X.xe _
  refine tail_any (ops := [.str z t, .ref s4.heap.objs.size]) (typeIs_str _ z t) PySem.F.slot_str_getitem.lookup ?_ (by with_unfolding_all rfl)
  refine wpAny_getItem_str_slice (l := none) (u := none) (st := some (-1, tk)) ⟨_, Heap.get?_push_size _ rfl, rfl, rfl⟩ rfl ?_
  have m : sliceMade z t none none (some (-1, tk)) = .str (revS z) := by
    unfold sliceMade
    rw [if_neg (by simp), picked_back]
    rfl
  rw [m]
  exact ⟨by rw [revS_len]; exact Nat.le_trans hz (by decide), ⟨.str (revS z), H4, I5.tok _, ⟨_, rfl⟩, q⟩⟩
end V6

set_option maxHeartbeats 4000000
/-! V6a: words, rows, the programs of the tongue as trees. -/
namespace V6
open PySem PySem.Spec PyProof.Rows L2 V1 V2 V3
/-- a word: of at most 40 signs, from the blank to the tilde -/
def wordX (x : Str) : Bool := decide (x.length ≤ 40) && (Txt.isascii x && Txt.isprintable x)
def wordD : PyData → Bool
  | .str x => wordX x
  | _ => false
def rowD : PyData → Bool
  | .tuple ds => decide (ds.length ≤ 400) && ds.all wordD
  | _ => false
def prC (c : Nat) : Bool := decide (32 ≤ c) && decide (c ≤ 126)
def signs : Str := " !\"#$&'()*+,-./0123456789:;<=>?@ABCDEFGHIJKLMNOPQRSTUVWXYZ[\\]^_`abcdefghijklmnopqrstuvwxyz{|}~"
def PrOk (x : Str) : Bool := x.cps.all prC
theorem asc_low : ∀ c, c < 128 → Unicode.isPrintable c = prC c := by decide +kernel
theorem asc_c (c : Nat) : (decide (c < 128) && Unicode.isPrintable c) = prC c := by
  by_cases h : c < 128
  · rw [decide_eq_true h, Bool.true_and, asc_low c h]
  · rw [decide_eq_false h, Bool.false_and]
    unfold prC
    rw [decide_eq_false (by omega : ¬ c ≤ 126), Bool.and_false]
theorem wordX_pr (x : Str) : wordX x = (decide (x.length ≤ 40) && PrOk x) := by
  unfold wordX PrOk
  congr 1
  show (x.cps.all (· < 128) && x.cps.all Unicode.isPrintable) = _
  rw [← Array.all_toList, ← Array.all_toList, ← Array.all_toList]
  induction x.cps.toList with
  | nil => rfl
  | cons c cs ih =>
    rw [List.all_cons, List.all_cons, List.all_cons, ← ih, ← asc_c c]
    cases decide (c < 128) <;> cases Unicode.isPrintable c <;> simp
theorem pr_app {a b : Str} (h : PrOk a = true) (k : PrOk b = true) : PrOk (a ++ b) = true := by
  unfold PrOk at h k ⊢
  show (a.cps ++ b.cps).all _ = true
  rw [Array.all_append, h, k]
  rfl
theorem len_app (a b : Str) : (a ++ b).length = a.length + b.length := by
  show (a.cps ++ b.cps).size = _
  rw [Array.size_append]
  rfl
theorem join_pr : ∀ {ys : List Str}, (∀ y ∈ ys, y.length = 1 ∧ PrOk y = true) → PrOk (Txt.join (Str.ofString "") ys) = true ∧ (Txt.join (Str.ofString "") ys).length = ys.length := fun {ys} h => by
  rw [TL.join_eq]
  induction ys with
  | nil => exact ⟨by decide +kernel, rfl⟩
  | cons y ys ih =>
    have h1 := h y List.mem_cons_self
    cases ys with
    | nil => exact ⟨h1.2, h1.1⟩
    | cons z ys =>
      have h2 := ih fun x hx => h x (List.mem_cons_of_mem _ hx)
      refine ⟨pr_app (pr_app h1.2 (by decide +kernel)) h2.1, ?_⟩
      show (y ++ Str.ofString "" ++ Str.join (Str.ofString "") (z :: ys)).length = _
      rw [len_app, len_app, h1.1, h2.2, show (Str.ofString "").length = 0 from rfl]
      simp only [List.length_cons]
      omega
theorem sum_one : ∀ {ys : List Str}, (∀ y ∈ ys, y.length = 1) → (ys.map (·.length)).sum = ys.length
  | [], _ => rfl
  | y :: ys, h => by
    rw [List.map_cons, List.sum_cons, h y List.mem_cons_self, sum_one fun z hz => h z (List.mem_cons_of_mem _ hz), List.length_cons]
    omega
theorem signs_pr : ∀ z ∈ signs.cps.toList, PrOk (⟨#[z]⟩ : Str) = true := by decide +kernel
theorem fold_pr {c : Array Nat} (h : c.all prC = true) : ∀ (n : Nat) (acc : Array Nat), acc.all prC = true → ((List.replicate n c).foldl (· ++ ·) acc).all prC = true ∧ ((List.replicate n c).foldl (· ++ ·) acc).size = acc.size + n * c.size
  | 0, acc, k => ⟨k, by simp⟩
  | n + 1, acc, k => by
    rw [List.replicate_succ, List.foldl_cons]
    obtain ⟨h1, h2⟩ := fold_pr h n (acc ++ c) (by rw [Array.all_append, k, h]; rfl)
    refine ⟨h1, ?_⟩
    rw [h2, Array.size_append, Nat.succ_mul]
    omega
theorem mulN {x : Str} (h : PrOk x = true) (l : x.length = 2) (n : Nat) (n1 : 1 ≤ n) : PrOk (Txt.mul x n) = true ∧ (Txt.mul x n).length = 2 * n := by
  by_cases e : n = 1
  · subst e
    have m : Txt.mul x ((1 : Nat) : Int) = x := by
      unfold Txt.mul
      rw [if_neg (by decide), if_pos (by rfl)]
    rw [m]
    exact ⟨h, l⟩
  have m : Txt.mul x n = ⟨(List.replicate n x.cps).foldl (· ++ ·) #[]⟩ := by
    unfold Txt.mul
    have n2 : ((n : Int) == 1) = false := beq_eq_false_iff_ne.mpr (by omega)
    rw [if_neg (by omega), if_neg (by rw [l, n2]; decide)]
    rfl
  obtain ⟨h1, h2⟩ := fold_pr (c := x.cps) h n #[] (by simp)
  rw [m]
  refine ⟨h1, ?_⟩
  show ((List.replicate n x.cps).foldl (· ++ ·) #[]).size = 2 * n
  rw [h2, show x.cps.size = 2 from l, Array.size_empty]
  omega
theorem wx {x : Str} (l : x.length ≤ 40) (p : PrOk x = true) : wordX x = true := by
  rw [wordX_pr, decide_eq_true l, p]
  rfl
theorem wx_len {x : Str} (h : wordX x = true) : x.length ≤ 40 := by
  have z : x.length ≤ 40 ∧ Txt.isascii x = true ∧ Txt.isprintable x = true := by simpa [wordX] using h
  exact z.1
theorem wx_pr {x : Str} (h : wordX x = true) : PrOk x = true := by
  rw [wordX_pr] at h
  exact (Bool.and_eq_true_iff.mp h).2
theorem pr_sub {x y : Str} (h : PrOk x = true) (s : ∀ c ∈ y.cps.toList, c ∈ x.cps.toList) : PrOk y = true := by
  unfold PrOk at h ⊢
  rw [← Array.all_toList, List.all_eq_true] at h ⊢
  exact fun c hc => h c (s c hc)
theorem pr_cut {x : Str} (h : PrOk x = true) (lo hi : Option Int) : PrOk (cutS x lo hi) = true := pr_sub h fun c hc => by
  unfold cutS at hc
  exact List.mem_of_mem_drop (List.mem_of_mem_take (by simpa using hc))
theorem pr_rev {x : Str} (h : PrOk x = true) : PrOk (revS x) = true := pr_sub h fun c hc => by
  unfold revS at hc
  simpa using hc
/-! ### forms -/
def formsL : List (Str × Str × List Str) := [("say", "statement", ["e"]), ("let", "statement", ["name", "e"]), ("if", "statement", ["c", "body", "body"]), ("each", "statement", ["name", "body"]), ("text", "e", ["word"]), ("name", "e", ["name"]), ("join", "e", ["e", "e"]), ("turn", "e", ["e"]), ("rest", "e", ["e"]), ("first", "e", ["e"]), ("many", "e", []), ("last", "e", []), ("same", "c", ["e", "e"]), ("ahead", "c", ["e", "e"]), ("in", "c", ["e", "e"]), ("not", "c", ["c"])]
def lettersX (x : Str) : Bool := (decide (1 ≤ x.length) && decide (x.length ≤ 8)) && (Txt.isascii x && (Txt.isalpha x && Txt.islower x))
def nameX (x : Str) : Bool := lettersX x && !decide (x ∈ [("many" : Str), "last"])
def nameD : PyData → Bool
  | .str x => nameX x
  | _ => false
def kindD : PyData → Option Str
  | .tuple (.str k :: _) => some k
  | _ => none
def formD (d : PyData) (s : Str) : Bool := match d with
  | .tuple (.str k :: rest) => match V5.lookF formsL k with
    | some (t, ps) => decide (t = s) && decide (rest.length = ps.length)
    | none => false
  | _ => false
def rightOf (s : Str) (d : PyData) (a e : Nat) : Bool :=
  if s = "body" then isTup d else if s = "name" then nameD d else if s = "word" then wordD d
  else (formD d s && decide (a < 20)) && (!decide (kindD d = some (Str.ofString "each")) || decide (e < 2))
abbrev It := Str × PyData × Nat × Nat
def innerOf (s : Str) (d : PyData) (a e : Nat) : List It :=
  if s = "body" then match d with
    | .tuple ds => ds.map fun x => ("statement", x, a, e)
    | _ => []
  else if s = "name" then [] else if s = "word" then []
  else match d with
    | .tuple (.str k :: rest) => match V5.lookF formsL k with
      | some (_, ps) => (ps.zip rest).map fun p => (p.1, p.2, a + 1, if k = "each" then e + 1 else e)
      | none => []
    | _ => []
def cnt (s : Str) : Nat := if s ∈ [("statement" : Str), "e", "c"] then 1 else 0
inductive Good : List It → Nat → Nat → Prop
  | nil : Good [] 0 0
  | cons {s d a e l n m n' m'} : rightOf s d a e = true → Good (innerOf s d a e) n m → Good l n' m' → Good ((s, d, a, e) :: l) (cnt s + n + n') (1 + m + m')
theorem Good.of {l : List It} {n m n' m' : Nat} (h : Good l n m) (e : n = n') (e' : m = m') : Good l n' m' := e ▸ e' ▸ h
theorem Good.app {l l' : List It} {n m n' m' : Nat} (h : Good l n m) (h' : Good l' n' m') : Good (l ++ l') (n + n') (m + m') := by
  induction h with
  | nil => exact h'.of (by omega) (by omega)
  | cons r i _ _ ih => exact (Good.cons r i ih).of (by omega) (by omega)
theorem Good.last {x : It} : ∀ {l : List It} {n m : Nat}, Good (l ++ [x]) n m → ∃ n1 m1 n2 m2, rightOf x.1 x.2.1 x.2.2.1 x.2.2.2 = true ∧ Good (innerOf x.1 x.2.1 x.2.2.1 x.2.2.2) n1 m1 ∧ Good l n2 m2 ∧ n = n2 + cnt x.1 + n1 ∧ m = m2 + 1 + m1
  | [], _, _, h => by
    cases h with | cons r i r' =>
    cases r'
    exact ⟨_, _, 0, 0, r, i, .nil, by dsimp only; omega, by omega⟩
  | y :: l, _, _, h => by
    cases h with | cons r i r' =>
    obtain ⟨n1, m1, n2, m2, h1, h2, h3, e1, e2⟩ := Good.last r'
    exact ⟨n1, m1, _, _, h1, h2, .cons r i h3, by omega, by omega⟩
/-! ### trees -/
inductive Ex where
  | text (w : Str)
  | name (n : Str)
  | join (a b : Ex)
  | turn (a : Ex)
  | rest (a : Ex)
  | first (a : Ex)
  | many
  | last
inductive Cn where
  | same (a b : Ex)
  | ahead (a b : Ex)
  | inn (a b : Ex)
  | not (c : Cn)
mutual
inductive St where
  | say (e : Ex)
  | let_ (n : Str) (e : Ex)
  | if_ (c : Cn) (a b : Bd)
  | each (n : Str) (b : Bd)
inductive Bd where
  | nil
  | cons (s : St) (b : Bd)
end
def Ex.d : Ex → PyData
  | .text w => .tuple [.str "text", .str w]
  | .name n => .tuple [.str "name", .str n]
  | .join a b => .tuple [.str "join", a.d, b.d]
  | .turn a => .tuple [.str "turn", a.d]
  | .rest a => .tuple [.str "rest", a.d]
  | .first a => .tuple [.str "first", a.d]
  | .many => .tuple [.str "many"]
  | .last => .tuple [.str "last"]
def Cn.d : Cn → PyData
  | .same a b => .tuple [.str "same", a.d, b.d]
  | .ahead a b => .tuple [.str "ahead", a.d, b.d]
  | .inn a b => .tuple [.str "in", a.d, b.d]
  | .not c => .tuple [.str "not", c.d]
mutual
def St.d : St → PyData
  | .say e => .tuple [.str "say", e.d]
  | .let_ n e => .tuple [.str "let", .str n, e.d]
  | .if_ c a b => .tuple [.str "if", c.d, .tuple a.ds, .tuple b.ds]
  | .each n b => .tuple [.str "each", .str n, .tuple b.ds]
def Bd.ds : Bd → List PyData
  | .nil => []
  | .cons s b => s.d :: b.ds
end
/-! ### what they tell -/
abbrev Mn := Str → Option Str
def putM (m : Mn) (n w : Str) : Mn := fun k => if k = n then some w else m k
def natS (n : Nat) : Str := toString (n : Int)
def Ex.val (row : List Str) (m : Mn) : Ex → Str
  | .text w => w
  | .name n => (m n).getD (Str.ofString "")
  | .join a b => cutS (a.val row m ++ b.val row m) none (some 40)
  | .turn a => revS (a.val row m)
  | .rest a => cutS (a.val row m) (some 1) none
  | .first a => cutS (a.val row m) none (some 1)
  | .many => natS row.length
  | .last => row.getLast?.getD (Str.ofString "")
def Cn.val (row : List Str) (m : Mn) : Cn → Bool
  | .same a b => decide (a.val row m = b.val row m)
  | .ahead a b => decide ((a.val row m).cps.toList < (b.val row m).cps.toList)
  | .inn a b => !(Builtin.Str.occurrences (b.val row m) (a.val row m) 0 (b.val row m).length 1).isEmpty
  | .not c => !c.val row m
def loopE (f : Mn → Option Str × Mn) (n : Str) : List Str → Mn → Option Str × Mn
  | [], m => (none, m)
  | w :: ws, m => match f (putM m n w) with
    | (some x, m') => (some x, m')
    | (none, m') => loopE f n ws m'
mutual
def St.run (row : List Str) : St → Mn → Option Str × Mn
  | .say e, m => (some (e.val row m), m)
  | .let_ n e, m => (none, putM m n (e.val row m))
  | .if_ c a b, m => if c.val row m = true then a.run row m else b.run row m
  | .each n b, m => loopE (fun m => b.run row m) n row m
def Bd.run (row : List Str) : Bd → Mn → Option Str × Mn
  | .nil, m => (none, m)
  | .cons s b, m => match s.run row m with
    | (some x, m') => (some x, m')
    | (none, m') => b.run row m'
end
/-! ### right ones -/
def Ex.ok : Ex → Bool
  | .text w => wordX w
  | .name n => nameX n
  | .join a b => a.ok && b.ok
  | .turn a | .rest a | .first a => a.ok
  | .many | .last => true
def Ex.deep : Ex → Nat
  | .join a b => 1 + max a.deep b.deep
  | .turn a | .rest a | .first a => 1 + a.deep
  | _ => 1
def Ex.cnt : Ex → Nat
  | .join a b => 1 + a.cnt + b.cnt
  | .turn a | .rest a | .first a => 1 + a.cnt
  | _ => 1
def Ex.all : Ex → Nat
  | .text _ | .name _ => 2
  | .join a b => 1 + a.all + b.all
  | .turn a | .rest a | .first a => 1 + a.all
  | .many | .last => 1
def Cn.ok : Cn → Bool
  | .same a b | .ahead a b | .inn a b => a.ok && b.ok
  | .not c => c.ok
def Cn.deep : Cn → Nat
  | .same a b | .ahead a b | .inn a b => 1 + max a.deep b.deep
  | .not c => 1 + c.deep
def Cn.cnt : Cn → Nat
  | .same a b | .ahead a b | .inn a b => 1 + a.cnt + b.cnt
  | .not c => 1 + c.cnt
def Cn.all : Cn → Nat
  | .same a b | .ahead a b | .inn a b => 1 + a.all + b.all
  | .not c => 1 + c.all
mutual
def St.ok : St → Bool
  | .say e => e.ok
  | .let_ n e => nameX n && e.ok
  | .if_ c a b => c.ok && (a.ok && b.ok)
  | .each n b => nameX n && b.ok
def Bd.ok : Bd → Bool
  | .nil => true
  | .cons s b => s.ok && b.ok
end
mutual
def St.deep : St → Nat
  | .say e => 1 + e.deep
  | .let_ _ e => 1 + e.deep
  | .if_ c a b => 1 + max c.deep (max a.deep b.deep)
  | .each _ b => 1 + b.deep
def Bd.deep : Bd → Nat
  | .nil => 0
  | .cons s b => max s.deep b.deep
end
mutual
def St.cnt : St → Nat
  | .say e => 1 + e.cnt
  | .let_ _ e => 1 + e.cnt
  | .if_ c a b => 1 + c.cnt + a.cnt + b.cnt
  | .each _ b => 1 + b.cnt
def Bd.cnt : Bd → Nat
  | .nil => 0
  | .cons s b => s.cnt + b.cnt
end
mutual
def St.all : St → Nat
  | .say e => 1 + e.all
  | .let_ _ e => 2 + e.all
  | .if_ c a b => 3 + c.all + a.all + b.all
  | .each _ b => 3 + b.all
def Bd.all : Bd → Nat
  | .nil => 0
  | .cons s b => s.all + b.all
end
mutual
/-- loops in loops -/
def St.lps : St → Nat
  | .say _ => 0
  | .let_ _ _ => 0
  | .if_ _ a b => max a.lps b.lps
  | .each _ b => 1 + b.lps
def Bd.lps : Bd → Nat
  | .nil => 0
  | .cons s b => max s.lps b.lps
end
theorem good_node {s k : Str} {rest : List PyData} {a e : Nat} {ps : List Str} {n m : Nat} (hs : (s ≠ "body" ∧ s ≠ "name" ∧ s ≠ "word") ∧ cnt s = 1) (hl : V5.lookF formsL k = some (s, ps)) (hr : rest.length = ps.length) (ha : a < 20) (hk : k ≠ "each") (kids : Good ((ps.zip rest).map fun p => (p.1, p.2, a + 1, e)) n m) :
    Good [(s, .tuple (.str k :: rest), a, e)] (1 + n) (1 + m) := by
  have r : rightOf s (.tuple (.str k :: rest)) a e = true := by
    unfold rightOf
    rw [if_neg hs.1.1, if_neg hs.1.2.1, if_neg hs.1.2.2]
    have f : formD (.tuple (.str k :: rest)) s = true := by
      unfold formD
      simp only [hl, decide_true, Bool.true_and]
      exact decide_eq_true hr
    rw [f, decide_eq_true ha, show kindD (.tuple (.str k :: rest)) = some k from rfl, decide_eq_false fun z => hk (Option.some.inj z)]
    rfl
  have i : innerOf s (.tuple (.str k :: rest)) a e = (ps.zip rest).map fun p => (p.1, p.2, a + 1, e) := by
    unfold innerOf
    rw [if_neg hs.1.1, if_neg hs.1.2.1, if_neg hs.1.2.2]
    simp only [hl, if_neg hk]
  exact (Good.cons (l := []) r (by rw [i]; exact kids) .nil).of (by rw [hs.2]; rfl) rfl
theorem good_each {rest : List PyData} {a e : Nat} {n m : Nat} (hr : rest.length = 2) (ha : a < 20) (he : e < 2) (kids : Good ((([("name" : Str), "body"]).zip rest).map fun p => (p.1, p.2, a + 1, e + 1)) n m) :
    Good [("statement", .tuple (.str "each" :: rest), a, e)] (1 + n) (1 + m) := by
  have hl : V5.lookF formsL "each" = some (Str.ofString "statement", [Str.ofString "name", Str.ofString "body"]) := by decide
  have hs : (("statement" : Str) ≠ "body" ∧ ("statement" : Str) ≠ "name" ∧ ("statement" : Str) ≠ "word") ∧ cnt "statement" = 1 := by decide
  have r : rightOf "statement" (.tuple (.str "each" :: rest)) a e = true := by
    unfold rightOf
    rw [if_neg hs.1.1, if_neg hs.1.2.1, if_neg hs.1.2.2]
    have f : formD (.tuple (.str "each" :: rest)) "statement" = true := by
      unfold formD
      simp only [hl, decide_true, Bool.true_and]
      exact decide_eq_true hr
    rw [f, decide_eq_true ha, decide_eq_true he, Bool.or_true]
    rfl
  have i : innerOf "statement" (.tuple (.str "each" :: rest)) a e = (([("name" : Str), "body"]).zip rest).map fun p => (p.1, p.2, a + 1, e + 1) := by
    unfold innerOf
    rw [if_neg hs.1.1, if_neg hs.1.2.1, if_neg hs.1.2.2]
    simp only [hl, if_pos]
  exact (Good.cons (l := []) r (by rw [i]; exact kids) .nil).of (by rw [hs.2]; rfl) rfl
theorem good_word {w : Str} {a e : Nat} (h : wordX w = true) : Good [("word", .str w, a, e)] 0 1 := .cons (show rightOf "word" (.str w) a e = true from h) .nil .nil
theorem good_name {n : Str} {a e : Nat} (h : nameX n = true) : Good [("name", .str n, a, e)] 0 1 := .cons (show rightOf "name" (.str n) a e = true from h) .nil .nil
theorem goodE : ∀ (x : Ex) (a e : Nat), x.ok = true → a + x.deep ≤ 20 → Good [("e", x.d, a, e)] x.cnt x.all
  | .text w, a, e, ok, dp => by
    simp only [Ex.deep] at dp
    exact (good_node (rest := [.str w]) (ps := [Str.ofString "word"]) (a := a) (e := e) (by decide) (by decide) rfl (by omega) (by decide) (show Good [("word", .str w, a + 1, e)] 0 1 from good_word ok)).of rfl rfl
  | .name n, a, e, ok, dp => by
    simp only [Ex.deep] at dp
    exact (good_node (rest := [.str n]) (ps := [Str.ofString "name"]) (a := a) (e := e) (by decide) (by decide) rfl (by omega) (by decide) (show Good [("name", .str n, a + 1, e)] 0 1 from good_name ok)).of rfl rfl
  | .join x y, a, e, ok, dp => by
    simp only [Ex.ok, Bool.and_eq_true] at ok
    simp only [Ex.deep] at dp
    have h1 := goodE x (a + 1) e ok.1 (by omega)
    have h2 := goodE y (a + 1) e ok.2 (by omega)
    exact (good_node (rest := [x.d, y.d]) (ps := [Str.ofString "e", Str.ofString "e"]) (a := a) (e := e) (by decide) (by decide) rfl (by omega) (by decide) (show Good [("e", x.d, a + 1, e), ("e", y.d, a + 1, e)] _ _ from h1.app h2)).of (by simp only [Ex.cnt]; omega) (by simp only [Ex.all]; omega)
  | .turn x, a, e, ok, dp => by
    simp only [Ex.deep] at dp
    exact (good_node (rest := [x.d]) (ps := [Str.ofString "e"]) (a := a) (e := e) (by decide) (by decide) rfl (by omega) (by decide) (show Good [("e", x.d, a + 1, e)] _ _ from goodE x (a + 1) e ok (by omega))).of rfl rfl
  | .rest x, a, e, ok, dp => by
    simp only [Ex.deep] at dp
    exact (good_node (rest := [x.d]) (ps := [Str.ofString "e"]) (a := a) (e := e) (by decide) (by decide) rfl (by omega) (by decide) (show Good [("e", x.d, a + 1, e)] _ _ from goodE x (a + 1) e ok (by omega))).of rfl rfl
  | .first x, a, e, ok, dp => by
    simp only [Ex.deep] at dp
    exact (good_node (rest := [x.d]) (ps := [Str.ofString "e"]) (a := a) (e := e) (by decide) (by decide) rfl (by omega) (by decide) (show Good [("e", x.d, a + 1, e)] _ _ from goodE x (a + 1) e ok (by omega))).of rfl rfl
  | .many, a, e, ok, dp => by
    simp only [Ex.deep] at dp
    exact (good_node (rest := []) (ps := []) (a := a) (e := e) (by decide) (by decide) rfl (by omega) (by decide) (show Good [] 0 0 from .nil)).of rfl rfl
  | .last, a, e, ok, dp => by
    simp only [Ex.deep] at dp
    exact (good_node (rest := []) (ps := []) (a := a) (e := e) (by decide) (by decide) rfl (by omega) (by decide) (show Good [] 0 0 from .nil)).of rfl rfl
theorem goodC : ∀ (x : Cn) (a e : Nat), x.ok = true → a + x.deep ≤ 20 → Good [("c", x.d, a, e)] x.cnt x.all
  | .same x y, a, e, ok, dp => by
    simp only [Cn.ok, Bool.and_eq_true] at ok
    simp only [Cn.deep] at dp
    exact (good_node (rest := [x.d, y.d]) (ps := [Str.ofString "e", Str.ofString "e"]) (a := a) (e := e) (by decide) (by decide) rfl (by omega) (by decide) (show Good [("e", x.d, a + 1, e), ("e", y.d, a + 1, e)] _ _ from (goodE x (a + 1) e ok.1 (by omega)).app (goodE y (a + 1) e ok.2 (by omega)))).of (by simp only [Cn.cnt]; omega) (by simp only [Cn.all]; omega)
  | .ahead x y, a, e, ok, dp => by
    simp only [Cn.ok, Bool.and_eq_true] at ok
    simp only [Cn.deep] at dp
    exact (good_node (rest := [x.d, y.d]) (ps := [Str.ofString "e", Str.ofString "e"]) (a := a) (e := e) (by decide) (by decide) rfl (by omega) (by decide) (show Good [("e", x.d, a + 1, e), ("e", y.d, a + 1, e)] _ _ from (goodE x (a + 1) e ok.1 (by omega)).app (goodE y (a + 1) e ok.2 (by omega)))).of (by simp only [Cn.cnt]; omega) (by simp only [Cn.all]; omega)
  | .inn x y, a, e, ok, dp => by
    simp only [Cn.ok, Bool.and_eq_true] at ok
    simp only [Cn.deep] at dp
    exact (good_node (rest := [x.d, y.d]) (ps := [Str.ofString "e", Str.ofString "e"]) (a := a) (e := e) (by decide) (by decide) rfl (by omega) (by decide) (show Good [("e", x.d, a + 1, e), ("e", y.d, a + 1, e)] _ _ from (goodE x (a + 1) e ok.1 (by omega)).app (goodE y (a + 1) e ok.2 (by omega)))).of (by simp only [Cn.cnt]; omega) (by simp only [Cn.all]; omega)
  | .not c, a, e, ok, dp => by
    simp only [Cn.deep] at dp
    exact (good_node (rest := [c.d]) (ps := [Str.ofString "c"]) (a := a) (e := e) (by decide) (by decide) rfl (by omega) (by decide) (show Good [("c", c.d, a + 1, e)] _ _ from goodC c (a + 1) e ok (by omega))).of rfl rfl
theorem good_body {b : Bd} {a e n m : Nat} (h : Good (b.ds.map fun x => ("statement", x, a, e)) n m) : Good [("body", .tuple b.ds, a, e)] n (1 + m) :=
  (Good.cons (l := []) (s := "body") (d := .tuple b.ds) (a := a) (e := e) rfl h .nil).of (by rw [show cnt "body" = 0 by decide]; omega) (by omega)
mutual
theorem goodS : ∀ (x : St) (a e : Nat), x.ok = true → a + x.deep ≤ 20 → e + x.lps ≤ 2 → Good [("statement", x.d, a, e)] x.cnt x.all
  | .say x, a, e, ok, dp, lp => by
    simp only [St.ok] at ok
    simp only [St.deep] at dp
    exact (good_node (rest := [x.d]) (ps := [Str.ofString "e"]) (a := a) (e := e) (by decide) (by decide) rfl (by omega) (by decide) (show Good [("e", x.d, a + 1, e)] _ _ from goodE x (a + 1) e ok (by omega))).of (by simp only [St.cnt]) (by simp only [St.all])
  | .let_ n x, a, e, ok, dp, lp => by
    simp only [St.ok, Bool.and_eq_true] at ok
    simp only [St.deep] at dp
    exact (good_node (rest := [.str n, x.d]) (ps := [Str.ofString "name", Str.ofString "e"]) (a := a) (e := e) (by decide) (by decide) rfl (by omega) (by decide) (show Good [("name", .str n, a + 1, e), ("e", x.d, a + 1, e)] _ _ from (good_name ok.1).app (goodE x (a + 1) e ok.2 (by omega)))).of (by simp only [St.cnt]; omega) (by simp only [St.all]; omega)
  | .if_ c x y, a, e, ok, dp, lp => by
    simp only [St.ok, Bool.and_eq_true] at ok
    simp only [St.deep] at dp
    simp only [St.lps] at lp
    have h1 := goodC c (a + 1) e ok.1 (by omega)
    have h2 := good_body (goodB x (a + 1) e ok.2.1 (by omega) (by omega))
    have h3 := good_body (goodB y (a + 1) e ok.2.2 (by omega) (by omega))
    exact (good_node (rest := [c.d, .tuple x.ds, .tuple y.ds]) (ps := [Str.ofString "c", Str.ofString "body", Str.ofString "body"]) (a := a) (e := e) (by decide) (by decide) rfl (by omega) (by decide) (show Good [("c", c.d, a + 1, e), ("body", .tuple x.ds, a + 1, e), ("body", .tuple y.ds, a + 1, e)] _ _ from h1.app (h2.app h3))).of (by simp only [St.cnt]; omega) (by simp only [St.all]; omega)
  | .each n b, a, e, ok, dp, lp => by
    simp only [St.ok, Bool.and_eq_true] at ok
    simp only [St.deep] at dp
    simp only [St.lps] at lp
    have h2 := good_body (goodB b (a + 1) (e + 1) ok.2 (by omega) (by omega))
    exact (good_each (rest := [.str n, .tuple b.ds]) (a := a) (e := e) rfl (by omega) (by omega) (show Good [("name", .str n, a + 1, e + 1), ("body", .tuple b.ds, a + 1, e + 1)] _ _ from (good_name ok.1).app h2)).of (by simp only [St.cnt]; omega) (by simp only [St.all]; omega)
theorem goodB : ∀ (b : Bd) (a e : Nat), b.ok = true → a + b.deep ≤ 20 → e + b.lps ≤ 2 → Good (b.ds.map fun x => ("statement", x, a, e)) b.cnt b.all
  | .nil, _, _, _, _, _ => by
    simp only [Bd.ds, List.map_nil, Bd.cnt, Bd.all]
    exact .nil
  | .cons s b, a, e, ok, dp, lp => by
    simp only [Bd.ok, Bool.and_eq_true] at ok
    simp only [Bd.deep] at dp
    simp only [Bd.lps] at lp
    simp only [Bd.ds, List.map_cons, Bd.cnt, Bd.all]
    exact (goodS s a e ok.1 (by omega) (by omega)).app (goodB b a e ok.2 (by omega) (by omega))
end
theorem goodP {b : Bd} (ok : b.ok = true) (dp : b.deep ≤ 20) (lp : b.lps ≤ 2) : Good [("body", .tuple b.ds, 0, 0)] b.cnt (1 + b.all) := good_body (goodB b 0 0 ok (by omega) (by omega))
theorem allE : ∀ x : Ex, x.all ≤ 4 * x.cnt
  | .text _ | .name _ | .many | .last => by simp [Ex.all, Ex.cnt]
  | .join a b => by have := allE a; have := allE b; simp only [Ex.all, Ex.cnt]; omega
  | .turn a | .rest a | .first a => by have := allE a; simp only [Ex.all, Ex.cnt]; omega
theorem allC : ∀ x : Cn, x.all ≤ 4 * x.cnt
  | .same a b | .ahead a b | .inn a b => by have := allE a; have := allE b; simp only [Cn.all, Cn.cnt]; omega
  | .not c => by have := allC c; simp only [Cn.all, Cn.cnt]; omega
mutual
theorem allS : ∀ x : St, x.all ≤ 4 * x.cnt
  | .say e => by have := allE e; simp only [St.all, St.cnt]; omega
  | .let_ _ e => by have := allE e; simp only [St.all, St.cnt]; omega
  | .if_ c a b => by have := allC c; have := allB a; have := allB b; simp only [St.all, St.cnt]; omega
  | .each _ b => by have := allB b; simp only [St.all, St.cnt]; omega
theorem allB : ∀ b : Bd, b.all ≤ 4 * b.cnt
  | .nil => by simp [Bd.all]
  | .cons s b => by have := allS s; have := allB b; simp only [Bd.all, Bd.cnt]; omega
end
/-! ### words stay words -/
structure Wd (row : List Str) (m : Mn) : Prop where
  ws : ∀ w ∈ row, wordX w = true
  len : row.length ≤ 400
  mean : ∀ n w, m n = some w → wordX w = true
theorem Wd.put {row : List Str} {m : Mn} {n w : Str} (h : Wd row m) (hw : wordX w = true) : Wd row (putM m n w) := ⟨h.ws, h.len, fun k x e => by
  unfold putM at e
  split at e
  · cases e
    exact hw
  · exact h.mean k x e⟩
theorem natS_w {n : Nat} (h : n ≤ 400) : wordX (natS n) = true := by
  have all : ∀ n : Fin 401, wordX (natS n.val) = true := by decide +kernel
  exact all ⟨n, by omega⟩
theorem empty_w : wordX (Str.ofString "") = true := by decide +kernel
theorem val_w {row : List Str} {m : Mn} (h : Wd row m) : ∀ e : Ex, e.ok = true → wordX (e.val row m) = true
  | .text w, ok => ok
  | .name n, ok => by
    show wordX ((m n).getD _) = true
    cases e : m n with
    | none => exact empty_w
    | some w => exact h.mean n w e
  | .join a b, ok => by
    simp only [Ex.ok, Bool.and_eq_true] at ok
    have h1 := val_w h a ok.1
    have h2 := val_w h b ok.2
    refine wx ?_ (pr_cut (pr_app (wx_pr h1) (wx_pr h2)) _ _)
    show ((((a.val row m ++ b.val row m).cps.toList.drop _).take _).toArray).size ≤ 40
    rw [List.size_toArray, List.length_take]
    refine Nat.le_trans (Nat.min_le_left _ _) ?_
    have : HT.sIx (a.val row m ++ b.val row m).length (a.val row m ++ b.val row m).length (some 40) ≤ 40 := by
      unfold HT.sIx
      simp
      omega
    omega
  | .turn a, ok => by
    have h1 := val_w h a ok
    exact wx (by rw [show Ex.val row m (.turn a) = revS (a.val row m) from rfl, revS_len]; exact wx_len h1) (pr_rev (wx_pr h1))
  | .rest a, ok => by
    have h1 := val_w h a ok
    exact wx (Nat.le_trans (cutS_length _ _ _) (wx_len h1)) (pr_cut (wx_pr h1) _ _)
  | .first a, ok => by
    have h1 := val_w h a ok
    exact wx (Nat.le_trans (cutS_length _ _ _) (wx_len h1)) (pr_cut (wx_pr h1) _ _)
  | .many, ok => natS_w h.len
  | .last, ok => by
    show wordX (row.getLast?.getD _) = true
    cases e : row.getLast? with
    | none => exact empty_w
    | some w => exact h.ws w (List.mem_of_getLast? e)
end V6

set_option maxHeartbeats 4000000
/-! V8a: the reading of things' texts, sign by sign, for every text. -/
namespace V8
open PySem PySem.Spec PyProof.Rows L2 V1 V2 V3 V5 V7
def figB (c : Nat) : Bool := decide (48 ≤ c) && decide (c ≤ 57)
def figs : Nat → List Nat → List Nat
  | n + 1, c :: l => if figB c = true then c :: figs n l else []
  | _, _ => []
/-- the figures of a number that begins here -/
def numR : List Nat → List Nat
  | [] => []
  | c :: l => if c = 48 then [48] else c :: figs 19 l
inductive LR where
  | bad (p : Nat)
  | ok (d : PyData) (l : List Nat) (at_ : Nat)
def wordR : List Nat → List Nat → Nat → PyData → LR
  | [], l, i, d => .ok d l i
  | _ :: _, [], i, _ => .bad i
  | w :: ws, c :: l, i, d => if c = w then wordR ws l (i + 1) d else .bad i
def tilde (c : Nat) : Option Nat := if c = 126 then some 126 else if c = 39 then some 39 else if c = 110 then some 10 else none
/-- within quotes; behind a tilde, or not -/
def strR : Bool → List Nat → List Nat → Nat → LR
  | _, _, [], i => .bad i
  | true, acc, e :: l, i => match tilde e with
    | some s => strR false (acc ++ [s]) l (i + 1)
    | none => .bad i
  | false, acc, c :: l, i =>
    if c = 39 then .ok (.str ⟨acc.toArray⟩) l (i + 1)
    else if c = 126 then strR true acc l (i + 1)
    else if V6.prC c = true then strR false (acc ++ [c]) l (i + 1) else .bad i
def numOf (l : List Nat) (i : Nat) (neg : Bool) : LR :=
  .ok (.int (if neg = true then -((NumText.digitsVal (numR l) : Nat) : Int) else ((NumText.digitsVal (numR l) : Nat) : Int))) (l.drop (numR l).length) (i + (numR l).length)
def minusR : List Nat → Nat → LR
  | [], i => .ok .none [] i
  | e :: l, i => if figB e = true ∧ e ≠ 48 then numOf (e :: l) i true else .ok .none (e :: l) i
def leafR : List Nat → Nat → LR
  | [], i => .bad i
  | c :: l, i =>
    if c = 39 then strR false [] l (i + 1)
    else if c = 121 then wordR [121, 101, 115] (c :: l) i (.bool true)
    else if c = 110 then wordR [110, 111] (c :: l) i (.bool false)
    else if figB c = true then numOf (c :: l) i false
    else if c = 45 then minusR l (i + 1)
    else .bad i
inductive TR where
  | ok (d : PyData)
  | bad (p : Nat)
def put (d : PyData) : List (List PyData) → List (List PyData)
  | [] => []
  | es :: st => (es ++ [d]) :: st
abbrev Cf := List (List PyData) × List Nat × Nat
/-- behind a thing: the tuples that end here, then the end, or a comma -/
def closing : PyData → List (List PyData) → List Nat → Nat → TR ⊕ Cf
  | d, [], [], _ => .inl (.ok d)
  | _, [], _ :: _, i => .inl (.bad i)
  | _, _ :: _, [], i => .inl (.bad i)
  | _, ds :: st, c :: l, i => if c = 41 then closing (.tuple ds) (put (.tuple ds) st) l (i + 1) else if c = 44 then .inr (ds :: st, l, i + 1) else .inl (.bad i)
def stepR : Cf → TR ⊕ Cf
  | (st, l, i) =>
    if l.head? = some 40 ∧ st.length < 40 then
      if l.tail.head? = some 41 then closing .none ([] :: st) l.tail (i + 1) else .inr ([] :: st, l.tail, i + 1)
    else match leafR l i with
      | .bad p => .inl (.bad p)
      | .ok d l' i' => closing d (put d st) l' i'
inductive GoR : Cf → TR → Prop
  | done {c : Cf} {r : TR} (h : stepR c = .inl r) : GoR c r
  | next {c c' : Cf} {r : TR} (h : stepR c = .inr c') (m : GoR c' r) : GoR c r
/-! lengths -/
theorem figs_len : ∀ (n : Nat) (l : List Nat), (figs n l).length ≤ l.length ∧ (figs n l).length ≤ n
  | 0, _ => by simp [figs]
  | n + 1, [] => by simp [figs]
  | n + 1, c :: l => by
    have z := figs_len n l
    rw [figs]
    split
    · simp only [List.length_cons]; omega
    · simp
theorem numR_len (l : List Nat) : (numR l).length ≤ l.length ∧ (numR l).length ≤ 20 := by
  cases l with
  | nil => simp [numR]
  | cons c l =>
    have z := figs_len 19 l
    rw [numR]
    split
    · simp
    · simp only [List.length_cons]; omega
theorem numR_pos {c : Nat} {l : List Nat} : 1 ≤ (numR (c :: l)).length := by
  rw [numR]
  split <;> simp
theorem figs_all : ∀ (n : Nat) (l : List Nat), ∀ c ∈ figs n l, figB c = true
  | 0, _, c, h => by simp [figs] at h
  | n + 1, [], c, h => by simp [figs] at h
  | n + 1, e :: l, c, h => by
    rw [figs] at h
    split at h
    · rename_i k
      rcases List.mem_cons.mp h with rfl | h
      · exact k
      · exact figs_all n l c h
    · cases h
theorem numR_all {c : Nat} {l : List Nat} (k : figB c = true) : ∀ e ∈ numR (c :: l), figB e = true := by
  intro e h
  rw [numR] at h
  split at h
  · rcases List.mem_cons.mp h with rfl | h
    · rfl
    · cases h
  · rcases List.mem_cons.mp h with rfl | h
    · exact k
    · exact figs_all 19 l e h
theorem figs_pre : ∀ (n : Nat) (l : List Nat), figs n l = l.take (figs n l).length
  | 0, _ => by simp [figs]
  | n + 1, [] => by simp [figs]
  | n + 1, c :: l => by
    rw [figs]
    split
    · rw [List.length_cons, List.take_succ_cons, ← figs_pre n l]
    · rfl
theorem numR_pre (l : List Nat) : numR l = l.take (numR l).length := by
  cases l with
  | nil => rfl
  | cons c l =>
    rw [numR]
    split
    · rename_i h
      rw [h]
      rfl
    · rw [List.length_cons, List.take_succ_cons, ← figs_pre 19 l]
theorem wordR_len : ∀ (ws l : List Nat) (i : Nat) (d d' : PyData) (l' : List Nat) (i' : Nat), wordR ws l i d = .ok d' l' i' → l'.length + ws.length = l.length ∧ i' = i + ws.length
  | [], l, i, d, d', l', i', h => by
    rw [wordR] at h
    cases h
    exact ⟨rfl, rfl⟩
  | w :: ws, [], i, d, d', l', i', h => by cases h
  | w :: ws, c :: l, i, d, d', l', i', h => by
    rw [wordR] at h
    split at h
    · have z := wordR_len ws l (i + 1) d d' l' i' h
      simp only [List.length_cons]
      omega
    · cases h
theorem strR_len : ∀ (l : List Nat) (b : Bool) (acc : List Nat) (i : Nat) (d' : PyData) (l' : List Nat) (i' : Nat), strR b acc l i = .ok d' l' i' → l'.length < l.length ∧ i' + l'.length = i + l.length
  | [], b, acc, i, d', l', i', h => by
    cases b <;> cases h
  | c :: l, true, acc, i, d', l', i', h => by
    rw [strR] at h
    split at h
    · have z := strR_len l _ _ _ _ _ _ h
      simp only [List.length_cons]
      omega
    · cases h
  | c :: l, false, acc, i, d', l', i', h => by
    rw [strR] at h
    split at h
    · cases h
      simp only [List.length_cons]
      omega
    · split at h
      · have z := strR_len l _ _ _ _ _ _ h
        simp only [List.length_cons]
        omega
      · split at h
        · have z := strR_len l _ _ _ _ _ _ h
          simp only [List.length_cons]
          omega
        · cases h
theorem numOf_len {c : Nat} {l : List Nat} {i : Nat} {b : Bool} {d : PyData} {l' : List Nat} {i' : Nat} (h : numOf (c :: l) i b = .ok d l' i') : l'.length < (c :: l).length ∧ i' + l'.length = i + (c :: l).length := by
  unfold numOf at h
  cases h
  have z := numR_len (c :: l)
  have y := numR_pos (c := c) (l := l)
  rw [List.length_drop]
  simp only [List.length_cons] at z ⊢
  omega
theorem minusR_len {l : List Nat} {i : Nat} {d : PyData} {l' : List Nat} {i' : Nat} (h : minusR l i = .ok d l' i') : l'.length ≤ l.length ∧ i' + l'.length = i + l.length := by
  cases l with
  | nil =>
    cases h
    simp
  | cons e l =>
    rw [minusR] at h
    split at h
    · have z := numOf_len h
      omega
    · cases h
      simp
theorem leafR_len {l : List Nat} {i : Nat} {d : PyData} {l' : List Nat} {i' : Nat} (h : leafR l i = .ok d l' i') : l'.length < l.length ∧ i' + l'.length = i + l.length := by
  cases l with
  | nil => cases h
  | cons c l =>
    rw [leafR] at h
    split at h
    · have z := strR_len _ _ _ _ _ _ _ h
      simp only [List.length_cons]
      omega
    · split at h
      · have z := wordR_len _ _ _ _ _ _ _ h
        simp only [List.length_cons, List.length_nil] at z ⊢
        omega
      · split at h
        · have z := wordR_len _ _ _ _ _ _ _ h
          simp only [List.length_cons, List.length_nil] at z ⊢
          omega
        · split at h
          · exact numOf_len h
          · split at h
            · have z := minusR_len h
              simp only [List.length_cons]
              omega
            · cases h
theorem closing_len : ∀ (l : List Nat) (d : PyData) (st : List (List PyData)) (i : Nat) (st' : List (List PyData)) (l' : List Nat) (i' : Nat), closing d st l i = .inr (st', l', i') → l'.length < l.length ∧ i' + l'.length = i + l.length ∧ st' ≠ []
  | [], d, [], i, _, _, _, h => by cases h
  | [], d, _ :: _, i, _, _, _, h => by cases h
  | _ :: _, d, [], i, _, _, _, h => by cases h
  | c :: l, d, ds :: st, i, st', l', i', h => by
    rw [closing] at h
    split at h
    · have z := closing_len l _ _ _ _ _ _ h
      simp only [List.length_cons]
      exact ⟨by omega, by omega, z.2.2⟩
    · split at h
      · cases h
        simp only [List.length_cons]
        exact ⟨by omega, by omega, List.cons_ne_nil _ _⟩
      · cases h
theorem stepR_len {st : List (List PyData)} {l : List Nat} {i : Nat} {st' : List (List PyData)} {l' : List Nat} {i' : Nat} (h : stepR (st, l, i) = .inr (st', l', i')) : l'.length < l.length ∧ i' + l'.length = i + l.length := by
  unfold stepR at h
  dsimp only at h
  split at h
  · rename_i k
    cases l with
    | nil => cases k.1
    | cons c l =>
      rw [List.tail_cons] at h
      split at h
      · have z := closing_len _ _ _ _ _ _ _ h
        simp only [List.length_cons]
        omega
      · cases h
        simp only [List.length_cons]
        omega
  · split at h
    · cases h
    · rename_i d l2 i2 e
      have z := leafR_len e
      have y := closing_len _ _ _ _ _ _ _ h
      omega
/-! what is made is a thing -/
theorem leafR_thing {l : List Nat} {i : Nat} {d : PyData} {l' : List Nat} {i' : Nat} (h : leafR l i = .ok d l' i') : d = .none ∨ (∃ b, d = .bool b) ∨ (∃ n, d = .int n) ∨ ∃ x, d = .str x := by
  have hw : ∀ (ws l : List Nat) (i : Nat) (e : PyData), wordR ws l i e = .ok d l' i' → d = e := by
    intro ws
    induction ws with
    | nil => intro l i e h; rw [wordR] at h; cases h; rfl
    | cons w ws ih =>
      intro l i e h
      cases l with
      | nil => cases h
      | cons c l =>
        rw [wordR] at h
        split at h
        · exact ih _ _ _ h
        · cases h
  have hs : ∀ (l : List Nat) (b : Bool) (acc : List Nat) (i : Nat), strR b acc l i = .ok d l' i' → ∃ x, d = .str x := by
    intro l
    induction l with
    | nil => intro b acc i h; cases b <;> cases h
    | cons c l ih =>
      intro b acc i h
      cases b with
      | true =>
        rw [strR] at h
        split at h
        · exact ih _ _ _ h
        · cases h
      | false =>
        rw [strR] at h
        split at h
        · cases h
          exact ⟨_, rfl⟩
        · split at h
          · exact ih _ _ _ h
          · split at h
            · exact ih _ _ _ h
            · cases h
  have hn : ∀ {l : List Nat} {i : Nat} {b : Bool}, numOf l i b = .ok d l' i' → ∃ n, d = .int n := by
    intro l i b h
    unfold numOf at h
    cases h
    exact ⟨_, rfl⟩
  cases l with
  | nil => cases h
  | cons c l =>
    rw [leafR] at h
    split at h
    · exact .inr (.inr (.inr (hs _ _ _ _ h)))
    · split at h
      · exact .inr (.inl ⟨_, hw _ _ _ _ h⟩)
      · split at h
        · exact .inr (.inl ⟨_, hw _ _ _ _ h⟩)
        · split at h
          · exact .inr (.inr (.inl (hn h)))
          · split at h
            · cases l with
              | nil =>
                cases h
                exact .inl rfl
              | cons e l2 =>
                rw [minusR] at h
                split at h
                · exact .inr (.inr (.inl (hn h)))
                · cases h
                  exact .inl rfl
            · cases h
/-! signs of a text -/
theorem cut_mid (x : Str) (i j : Nat) (h : i ≤ j) : cutS x (some ((i : Nat) : Int)) (some ((j : Nat) : Int)) = ⟨((x.cps.toList.drop i).take (j - i)).toArray⟩ := by
  unfold cutS
  rw [HT.sIx_nat, HT.sIx_nat]
  congr 2
  have e : x.cps.toList.length = x.length := by simp [Str.length]
  generalize x.cps.toList = l at e ⊢
  rw [← e]
  by_cases k : i ≤ l.length
  · rw [Nat.min_eq_left k]
    by_cases k2 : j ≤ l.length
    · rw [Nat.min_eq_left k2]
    · rw [Nat.min_eq_right (by omega), List.take_of_length_le (by rw [List.length_drop]; omega), List.take_of_length_le (by rw [List.length_drop]; omega)]
  · rw [List.drop_eq_nil_of_le (by omega : l.length ≤ i), List.take_nil, List.drop_eq_nil_of_le (by omega), List.take_nil]
theorem cut_at {x : Str} {i : Nat} {l : List Nat} (h : x.cps.toList.drop i = l) : cutS x (some ((i : Nat) : Int)) (some (((i : Nat) : Int) + 1)) = ⟨(l.take 1).toArray⟩ := by
  have z := cut_mid x i (i + 1) (by omega)
  rw [h, show i + 1 - i = 1 by omega] at z
  exact z
theorem drop_cons {x : List Nat} {i : Nat} {c : Nat} {l : List Nat} (h : x.drop i = c :: l) : x.drop (i + 1) = l ∧ x[i]? = some c ∧ i < x.length := by
  have e : i < x.length := by
    by_cases k : i < x.length
    · exact k
    · rw [List.drop_eq_nil_of_le (by omega)] at h
      cases h
  rw [List.drop_eq_getElem_cons e] at h
  have z := List.cons.inj h
  exact ⟨z.2, by rw [List.getElem?_eq_getElem e, z.1], e⟩
end V8

set_option maxHeartbeats 4000000
/-! V8b: tuples read into being: open lists, innermost first, and what lies in them. -/
namespace V8
open PySem PySem.Spec PyProof.Rows L2 V1 V2 V3 V5 V7
mutual
def tupD : PyData → Bool
  | .none | .bool _ | .int _ | .str _ => true
  | .tuple ds => tupDs ds
  | _ => false
def tupDs : List PyData → Bool
  | [] => true
  | d :: ds => tupD d && tupDs ds
end
theorem tupDs_app : ∀ {ds es : List PyData}, tupDs ds = true → tupDs es = true → tupDs (ds ++ es) = true
  | [], _, _, h => h
  | d :: ds, es, h, k => by
    simp only [tupDs, Bool.and_eq_true] at h
    show (tupD d && tupDs (ds ++ es)) = true
    rw [h.1, tupDs_app h.2 k]
    rfl
theorem tupDs_one {d : PyData} (h : tupD d = true) : tupDs [d] = true := by
  simp [tupDs, h]
/-- tuples stay -/
def TupS (H H' : Hp) : Prop := ∀ b xs, H b = some (.tup xs) → H' b = some (.tup xs)
theorem TupS.of {H H' : Hp} (s : Same H H') : TupS H H' := fun b xs e => s b _ e
theorem TupS.lst {H : Hp} {a : Addr} {xs ys : List V} (e : H a = some (.lst xs)) : TupS H (upd H a (.lst ys)) := fun b zs eb => by
  rw [upd_ne (fun z => by rw [z, e] at eb; cases eb)]
  exact eb
mutual
theorem tup_same [CurK] {H H' : Hp} (s : TupS H H') : ∀ (d : PyData) (v : V), tupD d = true → Dx H v d → Dx H' v d
  | .none, _, _, h => by cases h; exact .non
  | .bool b, _, _, h => by cases h; exact .bl b
  | .int i, _, _, h => by cases h; exact .int i
  | .str x, _, _, h => by cases h; exact .str x
  | .list ds, _, t, h => by simp [tupD] at t
  | .tuple ds, _, t, h => by
    cases h with
    | tup at_ rest => exact .tup (s _ _ at_) (tups_same s ds _ (by simpa [tupD] using t) rest)
  | .dict ds, _, t, h => by simp [tupD] at t
theorem tups_same [CurK] {H H' : Hp} (s : TupS H H') : ∀ (ds : List PyData) (vs : List V), tupDs ds = true → DxAll H vs ds → DxAll H' vs ds
  | [], _, _, h => by cases h; exact .nil
  | d :: ds, _, t, h => by
    cases h with
    | cons one more =>
      have z : tupD d = true ∧ tupDs ds = true := by simpa [tupDs] using t
      exact .cons (tup_same s d _ z.1 one) (tups_same s ds _ z.2 more)
end
section
variable [CurK]
inductive Lv (H0 H : Hp) : List Addr → List (List PyData) → Prop
  | nil : Lv H0 H [] []
  | cons {q : Addr} {qs : List Addr} {vs : List V} {ds : List PyData} {st : List (List PyData)} (new : H0 q = none) (nq : q ∉ qs) (at_ : H q = some (.lst vs)) (dx : DxAll H vs ds) (td : tupDs ds = true) (more : Lv H0 H qs st) : Lv H0 H (q :: qs) (ds :: st)
structure Opn (H0 H : Hp) (o : Addr) (qs : List Addr) (st : List (List PyData)) : Prop where
  eo : H o = some (.lst (qs.reverse.map V.ref))
  no : H0 o = none
  sm : Same H0 H
  on : o ∉ qs
  lv : Lv H0 H qs st
section
variable {H0 H H' : Hp} {o q : Addr} {qs : List Addr} {st : List (List PyData)} {ds : List PyData}
theorem Lv.len (h : Lv H0 H qs st) : qs.length = st.length := by
  induction h with
  | nil => rfl
  | cons _ _ _ _ _ _ ih => rw [List.length_cons, List.length_cons, ih]
theorem Lv.at_ (h : Lv H0 H qs st) : ∀ a ∈ qs, ∃ vs, H a = some (.lst vs) := by
  induction h with
  | nil => exact fun _ h => absurd h List.not_mem_nil
  | cons _ _ at_ _ _ _ ih =>
    intro a ha
    rcases List.mem_cons.mp ha with rfl | ha
    · exact ⟨_, at_⟩
    · exact ih a ha
theorem Lv.new_ (h : Lv H0 H qs st) : ∀ a ∈ qs, H0 a = none := by
  induction h with
  | nil => exact fun _ h => absurd h List.not_mem_nil
  | cons n _ _ _ _ _ ih =>
    intro a ha
    rcases List.mem_cons.mp ha with rfl | ha
    · exact n
    · exact ih a ha
/-- what keeps the tuples and these lists keeps all -/
theorem Lv.keep (h : Lv H0 H qs st) (t : TupS H H') (k : ∀ a ∈ qs, H' a = H a) : Lv H0 H' qs st := by
  induction h with
  | nil => exact .nil
  | cons n nq at_ dx td more ih => exact .cons n nq (by rw [k _ List.mem_cons_self]; exact at_) (tups_same t _ _ td dx) td (ih fun a ha => k a (List.mem_cons_of_mem _ ha))
theorem Opn.new (h : Opn H0 H o qs st) (s : Same H H') : Opn H0 H' o qs st := by
  refine ⟨s _ _ h.eo, h.no, h.sm.trans s, h.on, h.lv.keep (.of s) fun a ha => ?_⟩
  obtain ⟨vs, e⟩ := h.lv.at_ a ha
  rw [e, s _ _ e]
theorem Opn.start (e : H o = some (.lst [])) (n : H0 o = none) (s : Same H0 H) : Opn H0 H o [] [] := ⟨e, n, s, List.not_mem_nil, .nil⟩
/-- a new list is opened -/
theorem Opn.push (h : Opn H0 H o qs st) (nq : H q = none) : Opn H0 (upd (upd H q (.lst [])) o (.lst (qs.reverse.map V.ref ++ [.ref q]))) o (q :: qs) ([] :: st) := by
  have h1 := h.new (same_new (o := HO.lst []) nq)
  have qo : q ≠ o := fun z => by rw [z, h.eo] at nq; cases nq
  have qq : q ∉ qs := fun m => by
    obtain ⟨vs, e⟩ := h.lv.at_ q m
    rw [e] at nq
    cases nq
  refine ⟨by rw [upd_same, List.reverse_cons, List.map_append]; rfl, h.no, fun b ob eb => by rw [upd_ne (ne_of_none eb h.no)]; exact h1.sm b ob eb, fun m => ?_, .cons ?_ qq (by rw [upd_ne qo]; exact upd_same) .nil rfl ?_⟩
  · rcases List.mem_cons.mp m with rfl | m
    · exact qo rfl
    · exact h.on m
  · cases e : H0 q with
    | none => rfl
    | some ob => rw [h.sm q ob e] at nq; cases nq
  · refine h1.lv.keep (.lst h1.eo) fun a ha => ?_
    rw [upd_ne (fun z => by rw [z] at ha; exact h.on ha)]
theorem Opn.add (h : Opn H0 H o (q :: qs) (ds :: st)) {v : V} {d : PyData} (dv : Dx H v d) (t : tupD d = true) : ∃ vs, H q = some (.lst vs) ∧ vs.length = ds.length ∧ Opn H0 (upd H q (.lst (vs ++ [v]))) o (q :: qs) ((ds ++ [d]) :: st) := by
  have l := h.lv
  cases l with
  | @cons _ _ vs _ _ new nq at_ dx td more =>
    have qo : o ≠ q := fun z => h.on (z ▸ List.mem_cons_self)
    have ts : TupS H (upd H q (.lst (vs ++ [v]))) := .lst at_
    refine ⟨vs, at_, dxAll_len dx, by rw [upd_ne qo]; exact h.eo, h.no, fun b ob eb => by rw [upd_ne (ne_of_none eb new)]; exact h.sm b ob eb, h.on, .cons new nq upd_same (DxAll.app (tups_same ts _ _ td dx) (.cons (tup_same ts _ _ t dv) .nil)) (tupDs_app td (tupDs_one t)) ?_⟩
    exact more.keep ts fun a ha => by rw [upd_ne (fun z => by rw [z] at ha; exact nq ha)]
theorem Opn.pop (h : Opn H0 H o (q :: qs) (ds :: st)) : ∃ vs, Opn H0 (upd H o (.lst (qs.reverse.map V.ref))) o qs st ∧ upd H o (.lst (qs.reverse.map V.ref)) q = some (.lst vs) ∧ DxAll (upd H o (.lst (qs.reverse.map V.ref))) vs ds ∧ tupDs ds = true := by
  have l := h.lv
  cases l with
  | @cons _ _ vs _ _ new nq at_ dx td more =>
    have qo : q ≠ o := fun z => h.on (z ▸ List.mem_cons_self)
    have ts : TupS H (upd H o (.lst (qs.reverse.map V.ref))) := .lst h.eo
    refine ⟨vs, ⟨upd_same, h.no, fun b ob eb => by rw [upd_ne (ne_of_none eb h.no)]; exact h.sm b ob eb, fun m => h.on (List.mem_cons_of_mem _ m), more.keep ts fun a ha => by rw [upd_ne (fun z => by rw [z] at ha; exact h.on (List.mem_cons_of_mem _ ha))]⟩, by rw [upd_ne qo]; exact at_, tups_same ts _ _ td dx, td⟩
end
end
theorem wordR_drop {x : List Nat} : ∀ (ws l : List Nat) (i : Nat) (d d' : PyData) (l' : List Nat) (i' : Nat), wordR ws l i d = .ok d' l' i' → x.drop i = l → x.drop i' = l'
  | [], l, i, d, d', l', i', h, e => by
    rw [wordR] at h
    cases h
    exact e
  | w :: ws, [], i, d, d', l', i', h, e => by cases h
  | w :: ws, c :: l, i, d, d', l', i', h, e => by
    rw [wordR] at h
    split at h
    · exact wordR_drop ws l (i + 1) d d' l' i' h (drop_cons e).1
    · cases h
theorem strR_drop {x : List Nat} : ∀ (l : List Nat) (b : Bool) (acc : List Nat) (i : Nat) (d' : PyData) (l' : List Nat) (i' : Nat), strR b acc l i = .ok d' l' i' → x.drop i = l → x.drop i' = l'
  | [], b, acc, i, d', l', i', h, e => by cases b <;> cases h
  | c :: l, true, acc, i, d', l', i', h, e => by
    rw [strR] at h
    split at h
    · exact strR_drop l _ _ _ _ _ _ h (drop_cons e).1
    · cases h
  | c :: l, false, acc, i, d', l', i', h, e => by
    rw [strR] at h
    split at h
    · cases h
      exact (drop_cons e).1
    · split at h
      · exact strR_drop l _ _ _ _ _ _ h (drop_cons e).1
      · split at h
        · exact strR_drop l _ _ _ _ _ _ h (drop_cons e).1
        · cases h
theorem numOf_drop {x : List Nat} {l : List Nat} {i : Nat} {b : Bool} {d : PyData} {l' : List Nat} {i' : Nat} (h : numOf l i b = .ok d l' i') (e : x.drop i = l) : x.drop i' = l' := by
  unfold numOf at h
  cases h
  rw [← e, List.drop_drop]
theorem leafR_drop {x : List Nat} {l : List Nat} {i : Nat} {d : PyData} {l' : List Nat} {i' : Nat} (h : leafR l i = .ok d l' i') (e : x.drop i = l) : x.drop i' = l' := by
  cases l with
  | nil => cases h
  | cons c l =>
    have d1 := drop_cons e
    rw [leafR] at h
    split at h
    · exact strR_drop _ _ _ _ _ _ _ h d1.1
    · split at h
      · exact wordR_drop _ _ _ _ _ _ _ h e
      · split at h
        · exact wordR_drop _ _ _ _ _ _ _ h e
        · split at h
          · exact numOf_drop h e
          · split at h
            · cases l with
              | nil =>
                cases h
                exact d1.1
              | cons f l2 =>
                rw [minusR] at h
                split at h
                · exact numOf_drop h d1.1
                · cases h
                  exact d1.1
            · cases h
/-! how the reading goes on -/
def Fin (r : TR) : TR ⊕ Cf → Prop
  | .inl r' => r' = r
  | .inr c => GoR c r
theorem GoR.fin {c : Cf} {r : TR} (h : GoR c r) : Fin r (stepR c) := by
  cases h with
  | done h => rw [h]; rfl
  | next h m => rw [h]; exact m
/-- no open list is longer than what was read -/
def Bd (i : Nat) (st : List (List PyData)) : Prop := ∀ ds ∈ st, ds.length ≤ i
theorem Bd.put {i j : Nat} {st : List (List PyData)} (h : Bd i st) (l : i + 1 ≤ j) (d : PyData) : Bd j (put d st) := by
  cases st with
  | nil => exact fun _ m => absurd m List.not_mem_nil
  | cons es st =>
    intro ds m
    rcases List.mem_cons.mp m with rfl | m
    · have := h es List.mem_cons_self
      rw [List.length_append, List.length_cons, List.length_nil]
      omega
    · have := h ds (List.mem_cons_of_mem _ m)
      omega
theorem Bd.mono {i j : Nat} {st : List (List PyData)} (h : Bd i st) (l : i ≤ j) : Bd j st := fun ds m => Nat.le_trans (h ds m) l
theorem Bd.tail {i : Nat} {ds : List PyData} {st : List (List PyData)} (h : Bd i (ds :: st)) : Bd i st := fun es m => h es (List.mem_cons_of_mem _ m)
theorem Bd.nil {i : Nat} {st : List (List PyData)} (h : Bd i st) : Bd i ([] :: st) := fun ds m => by
  rcases List.mem_cons.mp m with rfl | m
  · exact Nat.zero_le _
  · exact h ds m
end V8

set_option maxHeartbeats 4000000
/-! V8c: signs that may be written; texts so often. -/
namespace V8
open PySem PySem.Spec PyProof.Rows L2 V1 V2 V3 V5 V7
/-- a sign that a text may hold -/
def gC (c : Nat) : Bool := V6.prC c || decide (c = 10)
def GdS (x : Str) : Bool := x.cps.toList.all gC
theorem gd_app {a b : Str} (h : GdS a = true) (k : GdS b = true) : GdS (a ++ b) = true := by
  unfold GdS at h k ⊢
  rw [Str.cps_append, Array.toList_append, List.all_append, h, k]
  rfl
theorem fold_gd {c : Array Nat} (h : c.toList.all gC = true) : ∀ (n : Nat) (acc : Array Nat), acc.toList.all gC = true → ((List.replicate n c).foldl (· ++ ·) acc).toList.all gC = true ∧ ((List.replicate n c).foldl (· ++ ·) acc).size = acc.size + n * c.size
  | 0, acc, k => ⟨k, by simp⟩
  | n + 1, acc, k => by
    rw [List.replicate_succ, List.foldl_cons]
    obtain ⟨h1, h2⟩ := fold_gd h n (acc ++ c) (by rw [Array.toList_append, List.all_append, k, h]; rfl)
    refine ⟨h1, ?_⟩
    rw [h2, Array.size_append, Nat.succ_mul]
    omega
end V8
namespace V8
open PySem PySem.Spec PyProof.Rows L2 V1 V2 V3 V5 V7
theorem mul_gd {x : Str} (h : GdS x = true) {n : Int} (n1 : 1 ≤ n) : GdS (Txt.mul x n) = true ∧ (Txt.mul x n).length ≤ x.length * n.toNat := by
  unfold Txt.mul
  rw [if_neg (by omega)]
  split
  · exact ⟨h, Nat.le_mul_of_pos_right _ (by omega)⟩
  · obtain ⟨h1, h2⟩ := fold_gd (c := x.cps) h n.toNat #[] rfl
    refine ⟨h1, ?_⟩
    show ((List.replicate n.toNat x.cps).foldl (· ++ ·) #[]).size ≤ x.cps.size * n.toNat
    rw [h2, Nat.mul_comm, Array.size_empty]
    omega
end V8

set_option maxHeartbeats 4000000
/-! V9a: programs written, and what is written read again, sign by sign, for every text. -/
namespace V9
open PySem PySem.Spec PyProof.Rows L2 V1 V2 V3 V5 V6
/-! ### written -/
def qt : List Nat → List Nat
  | [] => []
  | c :: l => if c = 34 ∨ c = 126 then 126 :: c :: qt l else c :: qt l
abbrev cs (x : Str) : List Nat := x.cps.toList
def exT : Ex → List Nat
  | .text w => 34 :: (qt (cs w) ++ [34])
  | .name n => cs n
  | .join a b => cs "join" ++ 40 :: (exT a ++ 44 :: 32 :: (exT b ++ [41]))
  | .turn a => cs "turn" ++ 40 :: (exT a ++ [41])
  | .rest a => cs "rest" ++ 40 :: (exT a ++ [41])
  | .first a => cs "first" ++ 40 :: (exT a ++ [41])
  | .many => cs "many"
  | .last => cs "last"
def cnT : Cn → List Nat
  | .same a b => cs "same" ++ 40 :: (exT a ++ 44 :: 32 :: (exT b ++ [41]))
  | .ahead a b => cs "ahead" ++ 40 :: (exT a ++ 44 :: 32 :: (exT b ++ [41]))
  | .inn a b => cs "in" ++ 40 :: (exT a ++ 44 :: 32 :: (exT b ++ [41]))
  | .not c => cs "not" ++ 40 :: (cnT c ++ [41])
def blk (h : Nat) : List Nat := List.replicate (2 * h) 32
mutual
def stL (h : Nat) : V6.St → List (List Nat)
  | .say e => [blk h ++ (cs "say " ++ exT e)]
  | .let_ n e => [blk h ++ (cs "let " ++ (cs n ++ 32 :: exT e))]
  | .if_ c a b => (blk h ++ (cs "if " ++ cnT c)) :: (bdL (h + 1) a ++ (blk h ++ cs "else") :: (bdL (h + 1) b ++ [blk h ++ cs "end"]))
  | .each n b => (blk h ++ (cs "each " ++ cs n)) :: (bdL (h + 1) b ++ [blk h ++ cs "end"])
def bdL (h : Nat) : Bd → List (List Nat)
  | .nil => []
  | .cons s b => stL h s ++ bdL h b
end
def endL : List (List Nat) → List Nat
  | [] => []
  | l :: ls => l ++ 10 :: endL ls
def bdT (b : Bd) : List Nat := endL (bdL 0 b)
/-! ### read -/
def alB (c : Nat) : Bool := Txt.isalpha ⟨#[c]⟩
def alphas : List Nat → List Nat
  | [] => []
  | c :: l => if alB c = true then c :: alphas l else []
def textR : Bool → List Nat → List Nat → Nat → Option (List Nat × List Nat × Nat)
  | _, _, [], _ => none
  | true, acc, e :: l, i => if e = 126 ∨ e = 34 then textR false (acc ++ [e]) l (i + 1) else none
  | false, acc, c :: l, i => if c = 34 then some (acc, l, i + 1) else if c = 126 then textR true acc l (i + 1) else textR false (acc ++ [c]) l (i + 1)
abbrev bareL : List Str := ["many", "last"]
abbrev unwL : List Str := ["text", "name"]
def opensB (w : Str) : Bool := (lookF formsL w).isSome && (!decide (w ∈ bareL) && !decide (w ∈ unwL))
def mkS (l : List Nat) : Str := ⟨l.toArray⟩
def begR (l : List Nat) (i : Nat) : Option (List PyData × List Nat × Nat) :=
  if l.head? = some 34 then
    match textR false [] l.tail (i + 1) with
    | some (acc, l', i') => if wordX (mkS acc) = true then some ([.str "text", .str (mkS acc)], l', i') else none
    | none => none
  else
    let w := alphas l
    let l1 := l.drop w.length
    if l1.head? = some 40 then (if opensB (mkS w) = true then some ([.str (mkS w)], l1.tail, i + w.length + 1) else none)
    else if mkS w ∈ bareL then some ([.str (mkS w)], l1, i + w.length)
    else if nameX (mkS w) = true then some ([.str "name", .str (mkS w)], l1, i + w.length) else none
/-- how many parts lack, and one -/
def formOf : List PyData → Option (Str × List Str)
  | .str k :: _ => lookF formsL k
  | _ => none
def lackD (ds : List PyData) : Int := match formOf ds with
  | some (_, ps) => 1 + (ps.length : Int) - (ds.length : Int)
  | none => 1
def wantS (sort : Str) : List (List PyData) → Option Str
  | [] => some sort
  | ds :: _ => match formOf ds with
    | some (_, ps) => ps[ds.length - 1]?
    | none => none
abbrev Cf := List (List PyData) × List Nat × Nat
def closeP : List PyData → List (List PyData) → List Nat → Nat → Option PyData ⊕ Cf
  | ds, [], l, i => if lackD ds = 0 then .inl (if l = [] then some (.tuple ds) else none) else .inr ([ds], l, i)
  | ds, es :: st, l, i =>
    if lackD ds = 0 then
      if lackD (es ++ [.tuple ds]) = 0 then (if l.head? = some 41 then closeP (es ++ [.tuple ds]) st l.tail (i + 1) else .inl none)
      else if l.take 2 = [44, 32] then .inr ((es ++ [.tuple ds]) :: st, l.drop 2, i + 2) else .inl none
    else .inr (ds :: es :: st, l, i)
def stepP (sort : Str) : Cf → Option PyData ⊕ Cf
  | (st, l, i) => match begR l i with
    | none => .inl none
    | some (b, l', i') => if (formOf b).map (·.1) = wantS sort st ∧ wantS sort st ≠ none then closeP b st l' i' else .inl none
def goP (sort : Str) : Nat → Cf → Option PyData
  | 0, _ => none
  | n + 1, c => match stepP sort c with
    | .inl r => r
    | .inr c' => goP sort n c'
def partR (sort : Str) (l : List Nat) : Option PyData := goP sort (l.length + 1) ([], l, 0)
/-- the first word, and what is behind its blank -/
def hdW (l : List Nat) : List Nat := l.takeWhile (· ≠ 32)
def tlW (l : List Nat) : List Nat := (l.dropWhile (· ≠ 32)).tail
def stmtR (l : List Nat) : Option (List PyData) :=
  if mkS (hdW l) = "say" then (partR "e" (tlW l)).map fun d => [.str "say", d]
  else if mkS (hdW l) = "if" then (partR "c" (tlW l)).map fun d => [.str "if", d]
  else if mkS (hdW l) = "each" then (if nameX (mkS (tlW l)) = true then some [.str "each", .str (mkS (tlW l))] else none)
  else if mkS (hdW l) = "let" then
    (if nameX (mkS (hdW (tlW l))) = true then (partR "e" (tlW (tlW l))).map fun d => [.str "let", .str (mkS (hdW (tlW l))), d] else none)
  else none
/-- heads and bodies, the innermost first -/
abbrev Rd := List (List PyData) × List (List PyData)
def elseR : Rd → Option Rd
  | (h :: hs, b :: bs) => if lackD h = 2 then some ((h ++ [.tuple b]) :: hs, [] :: bs) else none
  | _ => none
def endR : Rd → Option Rd
  | (h :: hs, b :: b2 :: bs) => if lackD h = 1 then some (hs, (b2 ++ [.tuple (h ++ [.tuple b])]) :: bs) else none
  | _ => none
def putB (d : PyData) : List (List PyData) → List (List PyData)
  | [] => []
  | b :: bs => (b ++ [d]) :: bs
def takeR (r : Rd) (line : List Nat) : Option Rd :=
  if line = blk (r.1.length - 1) ++ cs "else" then elseR r
  else if line = blk (r.1.length - 1) ++ cs "end" then endR r
  else if line.take (2 * r.1.length) = blk r.1.length then
    match stmtR (line.drop (2 * r.1.length)) with
    | some ds => if lackD ds = 0 then some (r.1, putB (.tuple ds) r.2) else some (ds :: r.1, [] :: r.2)
    | none => none
  else none
/-- the lines, one behind another: the first that can't stand, or what they make -/
def linesR : Rd → List (List Nat) → Nat → Nat ⊕ Rd
  | r, [], _ => .inr r
  | r, l :: ls, n => match takeR r l with
    | some r' => linesR r' ls (n + 1)
    | none => .inl n
end V9

set_option maxHeartbeats 4000000
/-! V9b: how far the reading goes; it needs no bound. -/
namespace V9
open PySem PySem.Spec PyProof.Rows L2 V1 V2 V3 V5 V6
theorem alphas_pre : ∀ l : List Nat, alphas l = l.take (alphas l).length
  | [] => rfl
  | c :: l => by
    rw [alphas]
    split
    · rw [List.length_cons, List.take_succ_cons, ← alphas_pre l]
    · rfl
theorem alphas_len : ∀ l : List Nat, (alphas l).length ≤ l.length
  | [] => Nat.le_refl _
  | c :: l => by
    have := alphas_len l
    rw [alphas]
    split
    · simp only [List.length_cons]; omega
    · simp
theorem textR_len : ∀ (l : List Nat) (b : Bool) (acc : List Nat) (i : Nat) (a : List Nat) (l' : List Nat) (i' : Nat), textR b acc l i = some (a, l', i') → l'.length < l.length ∧ i' + l'.length = i + l.length
  | [], b, acc, i, a, l', i', h => by cases b <;> cases h
  | e :: l, true, acc, i, a, l', i', h => by
    rw [textR] at h
    split at h
    · have := textR_len l _ _ _ _ _ _ h
      rw [List.length_cons]
      omega
    · cases h
  | c :: l, false, acc, i, a, l', i', h => by
    rw [textR] at h
    split at h
    · cases h
      rw [List.length_cons]
      omega
    · split at h
      · have := textR_len l _ _ _ _ _ _ h
        rw [List.length_cons]
        omega
      · have := textR_len l _ _ _ _ _ _ h
        rw [List.length_cons]
        omega
theorem drop_cons {x : List Nat} {i c : Nat} {l : List Nat} (e : x.drop i = c :: l) : x.drop (i + 1) = l := by
  rw [← List.drop_drop, e]
  rfl
theorem textR_drop {x : List Nat} : ∀ (l : List Nat) (b : Bool) (acc : List Nat) (i : Nat) (a : List Nat) (l' : List Nat) (i' : Nat), textR b acc l i = some (a, l', i') → x.drop i = l → x.drop i' = l'
  | [], b, acc, i, a, l', i', h, e => by cases b <;> cases h
  | _ :: l, true, acc, i, a, l', i', h, e => by
    rw [textR] at h
    split at h
    · exact textR_drop l _ _ _ _ _ _ h (drop_cons e)
    · cases h
  | c :: l, false, acc, i, a, l', i', h, e => by
    rw [textR] at h
    split at h
    · cases h
      exact drop_cons e
    · split at h
      · exact textR_drop l _ _ _ _ _ _ h (drop_cons e)
      · exact textR_drop l _ _ _ _ _ _ h (drop_cons e)
theorem bare_ne : mkS [] ∉ bareL := by decide +kernel
theorem name_ne : nameX (mkS []) = false := by decide +kernel
theorem begR_len {l : List Nat} {i : Nat} {b : List PyData} {l' : List Nat} {i' : Nat} (h : begR l i = some (b, l', i')) : l'.length < l.length ∧ i' + l'.length = i + l.length := by
  unfold begR at h
  split at h
  · rename_i hd
    obtain ⟨c, r, rfl⟩ : ∃ c r, l = c :: r := by
      cases l with
      | nil => cases hd
      | cons c r => exact ⟨c, r, rfl⟩
    split at h
    · rename_i acc l2 i2 e
      have := textR_len _ _ _ _ _ _ _ e
      split at h
      · cases h
        rw [List.tail_cons] at this
        rw [List.length_cons]
        omega
      · cases h
    · cases h
  · dsimp only at h
    have al := alphas_len l
    have dl : (l.drop (alphas l).length).length = l.length - (alphas l).length := List.length_drop
    split at h
    · rename_i hd
      obtain ⟨c, r, er⟩ : ∃ c r, l.drop (alphas l).length = c :: r := by
        cases e : l.drop (alphas l).length with
        | nil => rw [e] at hd; cases hd
        | cons c r => exact ⟨c, r, rfl⟩
      rw [er] at h dl
      rw [List.length_cons] at dl
      split at h
      · cases h
        rw [List.tail_cons]
        omega
      · cases h
    · have pos : ∀ {p : List Nat → Prop}, p (alphas l) → ¬ p [] → 1 ≤ (alphas l).length := fun {p} a b => by
        cases e : alphas l with
        | nil => rw [e] at a; exact absurd a b
        | cons c r => rw [List.length_cons]; omega
      split at h
      · rename_i m
        have := pos (p := fun z => mkS z ∈ bareL) m bare_ne
        cases h
        omega
      · split at h
        · rename_i m
          have := pos (p := fun z => nameX (mkS z) = true) m (by rw [name_ne]; decide)
          cases h
          omega
        · cases h
theorem begR_drop {x : List Nat} {l : List Nat} {i : Nat} {b : List PyData} {l' : List Nat} {i' : Nat} (h : begR l i = some (b, l', i')) (e : x.drop i = l) : x.drop i' = l' := by
  unfold begR at h
  split at h
  · rename_i hd
    obtain ⟨c, r, rfl⟩ : ∃ c r, l = c :: r := by
      cases l with
      | nil => cases hd
      | cons c r => exact ⟨c, r, rfl⟩
    split at h
    · rename_i acc l2 i2 e2
      have := textR_drop _ _ _ _ _ _ _ e2 (drop_cons e)
      split at h
      · cases h
        exact this
      · cases h
    · cases h
  · dsimp only at h
    have e1 : x.drop (i + (alphas l).length) = l.drop (alphas l).length := by rw [← List.drop_drop, e]
    split at h
    · split at h
      · cases h
        rw [← List.drop_drop, e1, List.drop_one]
      · cases h
    · split at h
      · cases h
        exact e1
      · split at h
        · cases h
          exact e1
        · cases h
theorem closeP_len : ∀ (st : List (List PyData)) (ds : List PyData) (l : List Nat) (i : Nat) (st' : List (List PyData)) (l' : List Nat) (i' : Nat), closeP ds st l i = .inr (st', l', i') → l'.length ≤ l.length ∧ i' + l'.length = i + l.length
  | [], ds, l, i, st', l', i', h => by
    rw [closeP] at h
    split at h
    · cases h
    · cases h
      exact ⟨Nat.le_refl _, rfl⟩
  | es :: st, ds, l, i, st', l', i', h => by
    rw [closeP] at h
    split at h
    · split at h
      · split at h
        · rename_i hd
          obtain ⟨c, r, rfl⟩ : ∃ c r, l = c :: r := by
            cases l with
            | nil => cases hd
            | cons c r => exact ⟨c, r, rfl⟩
          have := closeP_len st _ _ _ _ _ _ h
          rw [List.tail_cons] at this
          rw [List.length_cons]
          omega
        · cases h
      · split at h
        · rename_i hd
          have z := congrArg List.length hd
          rw [List.length_take] at z
          have z2 : min 2 l.length = 2 := z
          cases h
          rw [List.length_drop]
          omega
        · cases h
    · cases h
      exact ⟨Nat.le_refl _, rfl⟩
theorem stepP_len {sort : Str} {st : List (List PyData)} {l : List Nat} {i : Nat} {st' : List (List PyData)} {l' : List Nat} {i' : Nat} (h : stepP sort (st, l, i) = .inr (st', l', i')) : l'.length < l.length ∧ i' + l'.length = i + l.length := by
  unfold stepP at h
  dsimp only at h
  split at h
  · cases h
  · rename_i b l2 i2 e
    have z := begR_len e
    split at h
    · have y := closeP_len _ _ _ _ _ _ _ h
      omega
    · cases h
/-- the reading from here tells r -/
def Rn (sort : Str) (c : Cf) (r : Option PyData) : Prop := ∀ n, c.2.1.length < n → goP sort n c = r
def FinP (sort : Str) (r : Option PyData) : Option PyData ⊕ Cf → Prop
  | .inl r' => r' = r
  | .inr c => Rn sort c r
theorem Rn.of {sort : Str} {c : Cf} {r : Option PyData} (h : FinP sort r (stepP sort c)) : Rn sort c r := by
  intro n hn
  cases n with
  | zero => omega
  | succ n =>
    obtain ⟨st, l, i⟩ := c
    rw [goP]
    cases e : stepP sort (st, l, i) with
    | inl r' => rw [e] at h; exact h
    | inr c' =>
      rw [e] at h
      obtain ⟨st', l', i'⟩ := c'
      have z := stepP_len e
      have hn' : l.length < n + 1 := hn
      exact h n (by show l'.length < n; omega)
theorem goP_fuel {sort : Str} : ∀ (n m : Nat) (c : Cf), c.2.1.length < n → c.2.1.length < m → goP sort n c = goP sort m c
  | 0, _, _, h, _ => by omega
  | n + 1, 0, _, _, h => by omega
  | n + 1, m + 1, (st, l, i), h, k => by
    rw [goP, goP]
    cases e : stepP sort (st, l, i) with
    | inl r' => rfl
    | inr c' =>
      obtain ⟨st', l', i'⟩ := c'
      have z := stepP_len e
      have h' : l.length < n + 1 := h
      have k' : l.length < m + 1 := k
      exact goP_fuel n m _ (by show l'.length < n; omega) (by show l'.length < m; omega)
theorem Rn.part (sort : Str) (l : List Nat) : Rn sort ([], l, 0) (partR sort l) := fun n h => goP_fuel _ _ _ h (Nat.lt_succ_self _)
theorem Rn.eq {sort : Str} {l : List Nat} {r : Option PyData} (h : Rn sort ([], l, 0) r) : partR sort l = r := h _ (Nat.lt_succ_self _)
theorem Rn.fin {sort : Str} {c : Cf} {r : Option PyData} (h : Rn sort c r) : FinP sort r (stepP sort c) := by
  have z := h (c.2.1.length + 1) (Nat.lt_succ_self _)
  rw [goP] at z
  cases e : stepP sort c with
  | inl r' => rw [e] at z; exact z
  | inr c' =>
    obtain ⟨st, l, i⟩ := c
    obtain ⟨st', l', i'⟩ := c'
    have y := stepP_len e
    rw [e] at z
    intro n hn
    exact (goP_fuel _ _ _ hn (by show l'.length < l.length; omega)).trans z
end V9

set_option maxHeartbeats 4000000
/-! V9c: what is written, read again: e's and c's. -/
namespace V9
open PySem PySem.Spec PyProof.Rows L2 V1 V2 V3 V5 V6
theorem mk_cs (x : Str) : mkS (cs x) = x := by
  show (⟨x.cps.toList.toArray⟩ : Str) = x
  rw [Array.toArray_toList]
theorem alB_c (c : Nat) : alB c = Unicode.isAlpha c := by
  show (decide (0 < (#[c] : Array Nat).size) && (#[c] : Array Nat).all Unicode.isAlpha) = _
  simp
theorem low_c : ∀ c, c < 128 → Unicode.isAlpha c = true → Unicode.isUpper c = false → 97 ≤ c ∧ c ≤ 122 := by decide +kernel
theorem name_cs {n : Str} (h : nameX n = true) : ∀ c ∈ cs n, alB c = true ∧ 97 ≤ c ∧ c ≤ 122 := by
  unfold nameX lettersX at h
  simp only [Bool.and_eq_true] at h
  obtain ⟨⟨_, h1, h2, h3⟩, _⟩ := h
  have a1 : n.cps.all (· < 128) = true := h1
  have a2 : n.cps.all Unicode.isAlpha = true := by
    unfold Txt.isalpha at h2
    exact (Bool.and_eq_true_iff.mp h2).2
  have a3 : (n.cps.any fun c => Unicode.isUpper c || Unicode.isTitle c) = false := by
    unfold Txt.islower at h3
    simpa using (Bool.and_eq_true_iff.mp h3).2
  rw [← Array.all_toList, List.all_eq_true] at a1 a2
  rw [← Array.any_toList, List.any_eq_false] at a3
  intro c hc
  have b1 := of_decide_eq_true (a1 c hc)
  have b2 := a2 c hc
  have b3 := a3 c hc
  have b4 : Unicode.isUpper c = false := by
    cases e : Unicode.isUpper c with
    | false => rfl
    | true => rw [e] at b3; simp at b3
  exact ⟨by rw [alB_c]; exact b2, low_c c b1 b2 b4⟩
theorem name_pos {n : Str} (h : nameX n = true) : 1 ≤ (cs n).length := by
  unfold nameX lettersX at h
  simp only [Bool.and_eq_true, decide_eq_true_eq] at h
  have := h.1.1.1
  rw [show (cs n).length = n.length from Array.length_toList]
  exact this
theorem name_bare {n : Str} (h : nameX n = true) : n ∉ bareL := by
  unfold nameX at h
  simp only [Bool.and_eq_true, Bool.not_eq_true', decide_eq_false_iff_not] at h
  exact h.2
def Stop (l : List Nat) : Prop := ∀ c, l.head? = some c → alB c = false ∧ c ≠ 40
theorem Stop.nil : Stop [] := fun c h => by cases h
theorem al41 : alB 41 = false := by decide +kernel
theorem al44 : alB 44 = false := by decide +kernel
theorem al40 : alB 40 = false := by decide +kernel
theorem Stop.par {l : List Nat} : Stop (41 :: l) := fun c h => by cases h; exact ⟨al41, by decide⟩
theorem Stop.com {l : List Nat} : Stop (44 :: l) := fun c h => by cases h; exact ⟨al44, by decide⟩
theorem alphas_app {l : List Nat} (s : ∀ c, l.head? = some c → alB c = false) : ∀ {n : List Nat}, (∀ c ∈ n, alB c = true) → alphas (n ++ l) = n
  | [], _ => by
    cases l with
    | nil => rfl
    | cons c l => rw [List.nil_append, alphas, s c rfl, if_neg (by decide)]
  | c :: n, h => by
    rw [List.cons_append, alphas, if_pos (h c List.mem_cons_self), alphas_app s fun e m => h e (List.mem_cons_of_mem _ m)]
theorem textR_qt : ∀ (w acc l : List Nat) (i : Nat), ∃ j, textR false acc (qt w ++ 34 :: l) i = some (acc ++ w, l, j)
  | [], acc, l, i => ⟨i + 1, by
    rw [qt, List.nil_append, List.append_nil, textR, if_pos rfl]⟩
  | c :: w, acc, l, i => by
    rw [qt]
    by_cases h : c = 34 ∨ c = 126
    · rw [if_pos h]
      obtain ⟨j, e⟩ := textR_qt w (acc ++ [c]) l (i + 1 + 1)
      refine ⟨j, ?_⟩
      rw [List.cons_append, List.cons_append, textR, if_neg (by decide), if_pos rfl, textR, if_pos h.symm, e, List.append_assoc]
      rfl
    · rw [if_neg h]
      obtain ⟨j, e⟩ := textR_qt w (acc ++ [c]) l (i + 1)
      refine ⟨j, ?_⟩
      rw [List.cons_append, textR, if_neg (fun z => h (.inl z)), if_neg (fun z => h (.inr z)), e, List.append_assoc]
      rfl
theorem beg_text {w : Str} (h : wordX w = true) (l : List Nat) (i : Nat) : ∃ j, begR (34 :: (qt (cs w) ++ 34 :: l)) i = some ([.str "text", .str w], l, j) := by
  obtain ⟨j, e⟩ := textR_qt (cs w) [] l (i + 1)
  refine ⟨j, ?_⟩
  unfold begR
  rw [if_pos (by rfl), List.tail_cons, e]
  dsimp only
  rw [List.nil_append, mk_cs, if_pos h]
theorem head_ne {n : List Nat} (l : List Nat) (p : 1 ≤ n.length) (h : ∀ c ∈ n, c ≠ 34) : (n ++ l).head? ≠ some 34 := by
  cases n with
  | nil => simp at p
  | cons c n =>
    intro z
    exact h c List.mem_cons_self (Option.some.inj z)
theorem beg_kw {k : Str} (h : ∀ c ∈ cs k, alB c = true) (h2 : ∀ c ∈ cs k, c ≠ 34) (p : 1 ≤ (cs k).length) (o : opensB k = true) (l : List Nat) (i : Nat) : ∃ j, begR (cs k ++ 40 :: l) i = some ([.str k], l, j) := by
  refine ⟨i + (cs k).length + 1, ?_⟩
  unfold begR
  rw [if_neg (head_ne _ p h2)]
  dsimp only
  rw [alphas_app (fun c z => by cases z; exact al40) h, List.drop_left, if_pos (by rfl), mk_cs, if_pos o]
  rfl
theorem beg_bare {k : Str} (h : ∀ c ∈ cs k, alB c = true) (h2 : ∀ c ∈ cs k, c ≠ 34) (p : 1 ≤ (cs k).length) (m : k ∈ bareL) {l : List Nat} (s : Stop l) (i : Nat) : ∃ j, begR (cs k ++ l) i = some ([.str k], l, j) := by
  refine ⟨i + (cs k).length, ?_⟩
  unfold begR
  rw [if_neg (head_ne _ p h2)]
  dsimp only
  rw [alphas_app (fun c z => (s c z).1) h, List.drop_left, if_neg (fun z => (s 40 z).2 rfl), mk_cs, if_pos m]
theorem beg_name {n : Str} (h : nameX n = true) {l : List Nat} (s : Stop l) (i : Nat) : ∃ j, begR (cs n ++ l) i = some ([.str "name", .str n], l, j) := by
  refine ⟨i + (cs n).length, ?_⟩
  have nc := name_cs h
  unfold begR
  rw [if_neg (head_ne _ (name_pos h) fun c m => by have := (nc c m).2.1; omega)]
  dsimp only
  rw [alphas_app (fun c z => (s c z).1) (fun c m => (nc c m).1), List.drop_left, if_neg (fun z => (s 40 z).2 rfl), mk_cs, if_neg (name_bare h), if_pos h]
/-! ### closing -/
theorem lack_kw {k t : Str} {ps : List Str} (h : lookF formsL k = some (t, ps)) (rest : List PyData) : lackD (.str k :: rest) = (ps.length : Int) - (rest.length : Int) := by
  have z : formOf (.str k :: rest) = some (t, ps) := h
  unfold lackD
  rw [z]
  dsimp only
  rw [List.length_cons]
  omega
theorem want_kw {sort k t : Str} {ps : List Str} (h : lookF formsL k = some (t, ps)) (rest : List PyData) (st : List (List PyData)) : wantS sort ((.str k :: rest) :: st) = ps[rest.length]? := by
  have z : formOf (.str k :: rest) = some (t, ps) := h
  unfold wantS
  dsimp only
  rw [z]
  rfl
theorem close_open {ds : List PyData} (h : lackD ds ≠ 0) (st : List (List PyData)) (l : List Nat) (i : Nat) : closeP ds st l i = .inr (ds :: st, l, i) := by
  cases st with
  | nil => rw [closeP, if_neg h]
  | cons es st => rw [closeP, if_neg h]
theorem close_com {ds es : List PyData} (h : lackD ds = 0) (k : lackD (es ++ [.tuple ds]) ≠ 0) (st : List (List PyData)) (l : List Nat) (i : Nat) : closeP ds (es :: st) (44 :: 32 :: l) i = .inr ((es ++ [.tuple ds]) :: st, l, i + 2) := by
  rw [closeP, if_pos h, if_neg k, if_pos (by rfl)]
  rfl
theorem close_par {ds es : List PyData} (h : lackD ds = 0) (k : lackD (es ++ [.tuple ds]) = 0) (st : List (List PyData)) (l : List Nat) (i : Nat) : closeP ds (es :: st) (41 :: l) i = closeP (es ++ [.tuple ds]) st l (i + 1) := by
  rw [closeP, if_pos h, if_pos k, if_pos (by rfl)]
  rfl
theorem close_end {ds : List PyData} (h : lackD ds = 0) (i : Nat) : closeP ds [] [] i = .inl (some (.tuple ds)) := by
  rw [closeP, if_pos h, if_pos rfl]
theorem step_beg {sort s : Str} {st : List (List PyData)} {l l' : List Nat} {i j : Nat} {b : List PyData} (h : begR l i = some (b, l', j)) (w : wantS sort st = some s) (f : (formOf b).map (·.1) = some s) : stepP sort (st, l, i) = closeP b st l' j := by
  unfold stepP
  dsimp only
  rw [h]
  dsimp only
  rw [if_pos ⟨f.trans w.symm, by rw [w]; exact Option.some_ne_none _⟩]
/-! ### e's -/
def exI : Ex → List PyData
  | .text w => [.str "text", .str w]
  | .name n => [.str "name", .str n]
  | .join a b => [.str "join", a.d, b.d]
  | .turn a => [.str "turn", a.d]
  | .rest a => [.str "rest", a.d]
  | .first a => [.str "first", a.d]
  | .many => [.str "many"]
  | .last => [.str "last"]
theorem ex_d (e : Ex) : e.d = .tuple (exI e) := by cases e <;> rfl
def cnI : Cn → List PyData
  | .same a b => [.str "same", a.d, b.d]
  | .ahead a b => [.str "ahead", a.d, b.d]
  | .inn a b => [.str "in", a.d, b.d]
  | .not c => [.str "not", c.d]
theorem cn_d (c : Cn) : c.d = .tuple (cnI c) := by cases c <;> rfl
theorem ex_lack (e : Ex) : lackD (exI e) = 0 := by cases e <;> rfl
theorem cn_lack (c : Cn) : lackD (cnI c) = 0 := by cases c <;> rfl
section
variable {sort : Str} {r : Option PyData}
/-- a form of one part -/
theorem rd1 {k t s : Str} (hl : lookF formsL k = some (t, [s])) (h : ∀ c ∈ cs k, alB c = true) (h2 : ∀ c ∈ cs k, c ≠ 34) (p : 1 ≤ (cs k).length) (o : opensB k = true) {ds : List PyData} (ld : lackD ds = 0) {x : List Nat}
    (IH : ∀ (st : List (List PyData)) (l : List Nat), wantS sort st = some s → Stop l → (∀ j, FinP sort r (closeP ds st l j)) → ∀ i, Rn sort (st, x ++ l, i) r)
    {st : List (List PyData)} {l : List Nat} (w : wantS sort st = some t) (f : ∀ j, FinP sort r (closeP [.str k, .tuple ds] st l j)) (i : Nat) : Rn sort (st, cs k ++ 40 :: (x ++ 41 :: l), i) r := by
  obtain ⟨j, e⟩ := beg_kw h h2 p o (x ++ 41 :: l) i
  refine .of ?_
  rw [step_beg e w (by show (lookF formsL k).map (·.1) = _; rw [hl]; rfl), close_open (by rw [lack_kw hl]; show ((1 : Nat) : Int) - ((0 : Nat) : Int) ≠ 0; decide)]
  refine IH ([.str k] :: st) (41 :: l) (want_kw hl [] st) .par (fun j => ?_) _
  rw [close_par ld (by show lackD [.str k, .tuple ds] = 0; rw [lack_kw hl]; rfl)]
  exact f _
/-- a form of two parts -/
theorem rd2 {k t s s2 : Str} (hl : lookF formsL k = some (t, [s, s2])) (h : ∀ c ∈ cs k, alB c = true) (h2 : ∀ c ∈ cs k, c ≠ 34) (p : 1 ≤ (cs k).length) (o : opensB k = true) {ds es : List PyData} (ld : lackD ds = 0) (le : lackD es = 0) {x y : List Nat}
    (IH : ∀ (st : List (List PyData)) (l : List Nat), wantS sort st = some s → Stop l → (∀ j, FinP sort r (closeP ds st l j)) → ∀ i, Rn sort (st, x ++ l, i) r)
    (IH2 : ∀ (st : List (List PyData)) (l : List Nat), wantS sort st = some s2 → Stop l → (∀ j, FinP sort r (closeP es st l j)) → ∀ i, Rn sort (st, y ++ l, i) r)
    {st : List (List PyData)} {l : List Nat} (w : wantS sort st = some t) (f : ∀ j, FinP sort r (closeP [.str k, .tuple ds, .tuple es] st l j)) (i : Nat) : Rn sort (st, cs k ++ 40 :: (x ++ 44 :: 32 :: (y ++ 41 :: l)), i) r := by
  obtain ⟨j, e⟩ := beg_kw h h2 p o (x ++ 44 :: 32 :: (y ++ 41 :: l)) i
  refine .of ?_
  rw [step_beg e w (by show (lookF formsL k).map (·.1) = _; rw [hl]; rfl), close_open (by rw [lack_kw hl]; show ((2 : Nat) : Int) - ((0 : Nat) : Int) ≠ 0; decide)]
  refine IH ([.str k] :: st) (44 :: 32 :: (y ++ 41 :: l)) (want_kw hl [] st) .com (fun j => ?_) _
  rw [close_com ld (by show lackD [.str k, .tuple ds] ≠ 0; rw [lack_kw hl]; show ((2 : Nat) : Int) - ((1 : Nat) : Int) ≠ 0; decide)]
  refine IH2 ([.str k, .tuple ds] :: st) (41 :: l) (want_kw hl [.tuple ds] st) .par (fun j => ?_) _
  rw [close_par le (by show lackD [.str k, .tuple ds, .tuple es] = 0; rw [lack_kw hl]; rfl)]
  exact f _
theorem rd0 {k t : Str} (hl : lookF formsL k = some (t, [])) (h : ∀ c ∈ cs k, alB c = true) (h2 : ∀ c ∈ cs k, c ≠ 34) (p : 1 ≤ (cs k).length) (m : k ∈ bareL)
    {st : List (List PyData)} {l : List Nat} (w : wantS sort st = some t) (s : Stop l) (f : ∀ j, FinP sort r (closeP [.str k] st l j)) (i : Nat) : Rn sort (st, cs k ++ l, i) r := by
  obtain ⟨j, e⟩ := beg_bare h h2 p m s i
  refine .of ?_
  rw [step_beg e w (by show (lookF formsL k).map (·.1) = _; rw [hl]; rfl)]
  exact f _
end
theorem rdE {sort : Str} {r : Option PyData} : ∀ (e : Ex), e.ok = true → ∀ (st : List (List PyData)) (l : List Nat), wantS sort st = some "e" → Stop l → (∀ j, FinP sort r (closeP (exI e) st l j)) → ∀ i, Rn sort (st, exT e ++ l, i) r
  | .text w, ok, st, l, hw, s, f, i => by
    obtain ⟨j, e⟩ := beg_text (w := w) ok l i
    refine .of ?_
    rw [show exT (.text w) ++ l = 34 :: (qt (cs w) ++ 34 :: l) by simp [exT], step_beg e hw (by rfl)]
    exact f _
  | .name n, ok, st, l, hw, s, f, i => by
    obtain ⟨j, e⟩ := beg_name (n := n) ok s i
    refine .of ?_
    rw [show exT (.name n) ++ l = cs n ++ l from rfl, step_beg e hw (by rfl)]
    exact f _
  | .join a b, ok, st, l, hw, s, f, i => by
    have ok2 : a.ok = true ∧ b.ok = true := by simpa [Ex.ok] using ok
    rw [show exT (.join a b) ++ l = cs "join" ++ 40 :: (exT a ++ 44 :: 32 :: (exT b ++ 41 :: l)) by simp [exT]]
    refine rd2 (k := "join") (by rfl) (by decide +kernel) (by decide +kernel) (by decide +kernel) (by decide +kernel) (ex_lack a) (ex_lack b) (rdE a ok2.1) (rdE b ok2.2) hw (fun j => ?_) i
    rw [← ex_d, ← ex_d]
    exact f j
  | .turn a, ok, st, l, hw, s, f, i => by
    rw [show exT (.turn a) ++ l = cs "turn" ++ 40 :: (exT a ++ 41 :: l) by simp [exT]]
    refine rd1 (k := "turn") (by rfl) (by decide +kernel) (by decide +kernel) (by decide +kernel) (by decide +kernel) (ex_lack a) (rdE a ok) hw (fun j => ?_) i
    rw [← ex_d]
    exact f j
  | .rest a, ok, st, l, hw, s, f, i => by
    rw [show exT (.rest a) ++ l = cs "rest" ++ 40 :: (exT a ++ 41 :: l) by simp [exT]]
    refine rd1 (k := "rest") (by rfl) (by decide +kernel) (by decide +kernel) (by decide +kernel) (by decide +kernel) (ex_lack a) (rdE a ok) hw (fun j => ?_) i
    rw [← ex_d]
    exact f j
  | .first a, ok, st, l, hw, s, f, i => by
    rw [show exT (.first a) ++ l = cs "first" ++ 40 :: (exT a ++ 41 :: l) by simp [exT]]
    refine rd1 (k := "first") (by rfl) (by decide +kernel) (by decide +kernel) (by decide +kernel) (by decide +kernel) (ex_lack a) (rdE a ok) hw (fun j => ?_) i
    rw [← ex_d]
    exact f j
  | .many, ok, st, l, hw, s, f, i => rd0 (k := "many") (by rfl) (by decide +kernel) (by decide +kernel) (by decide +kernel) (by decide +kernel) hw s f i
  | .last, ok, st, l, hw, s, f, i => rd0 (k := "last") (by rfl) (by decide +kernel) (by decide +kernel) (by decide +kernel) (by decide +kernel) hw s f i
theorem rdC {sort : Str} {r : Option PyData} : ∀ (c : Cn), c.ok = true → ∀ (st : List (List PyData)) (l : List Nat), wantS sort st = some "c" → Stop l → (∀ j, FinP sort r (closeP (cnI c) st l j)) → ∀ i, Rn sort (st, cnT c ++ l, i) r
  | .same a b, ok, st, l, hw, s, f, i => by
    have ok2 : a.ok = true ∧ b.ok = true := by simpa [Cn.ok] using ok
    rw [show cnT (.same a b) ++ l = cs "same" ++ 40 :: (exT a ++ 44 :: 32 :: (exT b ++ 41 :: l)) by simp [cnT]]
    refine rd2 (k := "same") (by rfl) (by decide +kernel) (by decide +kernel) (by decide +kernel) (by decide +kernel) (ex_lack a) (ex_lack b) (rdE a ok2.1) (rdE b ok2.2) hw (fun j => ?_) i
    rw [← ex_d, ← ex_d]
    exact f j
  | .ahead a b, ok, st, l, hw, s, f, i => by
    have ok2 : a.ok = true ∧ b.ok = true := by simpa [Cn.ok] using ok
    rw [show cnT (.ahead a b) ++ l = cs "ahead" ++ 40 :: (exT a ++ 44 :: 32 :: (exT b ++ 41 :: l)) by simp [cnT]]
    refine rd2 (k := "ahead") (by rfl) (by decide +kernel) (by decide +kernel) (by decide +kernel) (by decide +kernel) (ex_lack a) (ex_lack b) (rdE a ok2.1) (rdE b ok2.2) hw (fun j => ?_) i
    rw [← ex_d, ← ex_d]
    exact f j
  | .inn a b, ok, st, l, hw, s, f, i => by
    have ok2 : a.ok = true ∧ b.ok = true := by simpa [Cn.ok] using ok
    rw [show cnT (.inn a b) ++ l = cs "in" ++ 40 :: (exT a ++ 44 :: 32 :: (exT b ++ 41 :: l)) by simp [cnT]]
    refine rd2 (k := "in") (by rfl) (by decide +kernel) (by decide +kernel) (by decide +kernel) (by decide +kernel) (ex_lack a) (ex_lack b) (rdE a ok2.1) (rdE b ok2.2) hw (fun j => ?_) i
    rw [← ex_d, ← ex_d]
    exact f j
  | .not c, ok, st, l, hw, s, f, i => by
    rw [show cnT (.not c) ++ l = cs "not" ++ 40 :: (cnT c ++ 41 :: l) by simp [cnT]]
    refine rd1 (k := "not") (by rfl) (by decide +kernel) (by decide +kernel) (by decide +kernel) (by decide +kernel) (cn_lack c) (rdC c ok) hw (fun j => ?_) i
    rw [← cn_d]
    exact f j
theorem partE (e : Ex) (ok : e.ok = true) : partR "e" (exT e) = some e.d := by
  have z := rdE (sort := "e") (r := some e.d) e ok [] [] rfl .nil (fun j => by rw [close_end (ex_lack e), ← ex_d]; rfl) 0
  rw [List.append_nil] at z
  exact z.eq
theorem partC (c : Cn) (ok : c.ok = true) : partR "c" (cnT c) = some c.d := by
  have z := rdC (sort := "c") (r := some c.d) c ok [] [] rfl .nil (fun j => by rw [close_end (cn_lack c), ← cn_d]; rfl) 0
  rw [List.append_nil] at z
  exact z.eq
end V9

set_option maxHeartbeats 4000000
/-! V9d: lines and whole texts, read again. -/
namespace V9
open PySem PySem.Spec PyProof.Rows L2 V1 V2 V3 V5 V6
theorem hd_cut {w : List Nat} (h : ∀ c ∈ w, c ≠ 32) (l : List Nat) : hdW (w ++ 32 :: l) = w ∧ tlW (w ++ 32 :: l) = l := by
  induction w with
  | nil => exact ⟨rfl, rfl⟩
  | cons c w ih =>
    have hc : decide (c ≠ 32) = true := decide_eq_true (h c List.mem_cons_self)
    obtain ⟨i1, i2⟩ := ih fun e m => h e (List.mem_cons_of_mem _ m)
    unfold hdW at i1 ⊢
    unfold tlW at i2 ⊢
    constructor
    · rw [List.cons_append, List.takeWhile_cons, if_pos hc, i1]
    · rw [List.cons_append, List.dropWhile_cons, if_pos hc, i2]
theorem stmt_say (e : Ex) (ok : e.ok = true) : stmtR (cs "say " ++ exT e) = some [.str "say", e.d] := by
  obtain ⟨h1, h2⟩ := hd_cut (w := cs "say") (by decide +kernel) (exT e)
  have z : cs "say " ++ exT e = cs "say" ++ 32 :: exT e := rfl
  unfold stmtR
  rw [z, h1, h2, mk_cs, if_pos rfl, partE e ok]
  rfl
theorem stmt_if (c : Cn) (ok : c.ok = true) : stmtR (cs "if " ++ cnT c) = some [.str "if", c.d] := by
  obtain ⟨h1, h2⟩ := hd_cut (w := cs "if") (by decide +kernel) (cnT c)
  have z : cs "if " ++ cnT c = cs "if" ++ 32 :: cnT c := rfl
  unfold stmtR
  rw [z, h1, h2, mk_cs, if_neg (by decide +kernel), if_pos rfl, partC c ok]
  rfl
theorem stmt_each (n : Str) (ok : nameX n = true) : stmtR (cs "each " ++ cs n) = some [.str "each", .str n] := by
  obtain ⟨h1, h2⟩ := hd_cut (w := cs "each") (by decide +kernel) (cs n)
  have z : cs "each " ++ cs n = cs "each" ++ 32 :: cs n := rfl
  unfold stmtR
  rw [z, h1, h2, mk_cs, if_neg (by decide +kernel), if_neg (by decide +kernel), if_pos rfl, mk_cs, if_pos ok]
theorem stmt_let (n : Str) (e : Ex) (ok : nameX n = true) (oe : e.ok = true) : stmtR (cs "let " ++ (cs n ++ 32 :: exT e)) = some [.str "let", .str n, e.d] := by
  obtain ⟨h1, h2⟩ := hd_cut (w := cs "let") (by decide +kernel) (cs n ++ 32 :: exT e)
  obtain ⟨h3, h4⟩ := hd_cut (w := cs n) (fun c m => by have := (name_cs ok c m).2.1; omega) (exT e)
  have z : cs "let " ++ (cs n ++ 32 :: exT e) = cs "let" ++ 32 :: (cs n ++ 32 :: exT e) := rfl
  unfold stmtR
  rw [z, h1, h2, mk_cs, if_neg (by decide +kernel), if_neg (by decide +kernel), if_neg (by decide +kernel), if_pos rfl, h3, h4, mk_cs, if_pos ok, partE e oe]
  rfl
theorem blk_succ (h : Nat) : blk (h + 1) = blk h ++ [32, 32] := by
  unfold blk
  rw [show 2 * (h + 1) = 2 * h + 2 by omega, ← List.replicate_append_replicate]
  rfl
theorem blk_len (h : Nat) : (blk h).length = 2 * h := List.length_replicate
theorem blk_ne (h : Nat) {x y : List Nat} (n : x ≠ y) (hy : y.head? ≠ some 32) : blk h ++ x ≠ blk (h - 1) ++ y := by
  cases h with
  | zero => exact fun z => n (List.append_cancel_left z)
  | succ h =>
    rw [show h + 1 - 1 = h from rfl, blk_succ, List.append_assoc]
    intro z
    have y2 := List.append_cancel_left z
    rw [← y2] at hy
    exact hy rfl
theorem take_stmt {r : Rd} {x : List Nat} {ds : List PyData} (n1 : x ≠ cs "else") (n2 : x ≠ cs "end") (e : stmtR x = some ds) : takeR r (blk r.1.length ++ x) = if lackD ds = 0 then some (r.1, putB (.tuple ds) r.2) else some (ds :: r.1, [] :: r.2) := by
  unfold takeR
  rw [if_neg (blk_ne _ n1 (by decide +kernel)), if_neg (blk_ne _ n2 (by decide +kernel))]
  have t1 : (blk r.1.length ++ x).take (2 * r.1.length) = blk r.1.length := List.take_left' (blk_len _)
  have t2 : (blk r.1.length ++ x).drop (2 * r.1.length) = x := List.drop_left' (blk_len _)
  rw [if_pos t1, t2, e]
theorem take_else {h : List PyData} {hs bs : List (List PyData)} {b : List PyData} (k : lackD h = 2) : takeR (h :: hs, b :: bs) (blk hs.length ++ cs "else") = some ((h ++ [.tuple b]) :: hs, [] :: bs) := by
  unfold takeR
  rw [if_pos (by rfl)]
  show (if lackD h = 2 then _ else _) = _
  rw [if_pos k]
theorem take_end {h : List PyData} {hs bs : List (List PyData)} {b b2 : List PyData} (k : lackD h = 1) : takeR (h :: hs, b :: b2 :: bs) (blk hs.length ++ cs "end") = some (hs, (b2 ++ [.tuple (h ++ [.tuple b])]) :: bs) := by
  unfold takeR
  dsimp only
  rw [show (h :: hs).length - 1 = hs.length from rfl, if_neg (fun z => absurd (List.append_cancel_left (as := blk hs.length) z) (by decide +kernel)), if_pos rfl]
  show (if lackD h = 1 then _ else _) = _
  rw [if_pos k]
theorem lines_cons {r r' : Rd} {l : List Nat} {ls : List (List Nat)} {n : Nat} (h : takeR r l = some r') : linesR r (l :: ls) n = linesR r' ls (n + 1) := by
  rw [linesR, h]
mutual
theorem rdS : ∀ (s : V6.St), s.ok = true → ∀ (hs bs : List (List PyData)) (b : List PyData) (ls : List (List Nat)) (n : Nat), ∃ m, linesR (hs, b :: bs) (stL hs.length s ++ ls) n = linesR (hs, (b ++ [s.d]) :: bs) ls m
  | .say e, ok, hs, bs, b, ls, n => ⟨n + 1, by
    have k := take_stmt (r := (hs, b :: bs)) (x := cs "say " ++ exT e) (fun z => by cases z) (fun z => by cases z) (stmt_say e ok)
    rw [if_pos (by rfl)] at k
    rw [stL, List.cons_append, List.nil_append, lines_cons k]
    rfl⟩
  | .let_ x e, ok, hs, bs, b, ls, n => ⟨n + 1, by
    have ok2 : nameX x = true ∧ e.ok = true := by simpa [St.ok] using ok
    have k := take_stmt (r := (hs, b :: bs)) (x := cs "let " ++ (cs x ++ 32 :: exT e)) (fun z => by cases z) (fun z => by cases z) (stmt_let x e ok2.1 ok2.2)
    rw [if_pos (by rfl)] at k
    rw [stL, List.cons_append, List.nil_append, lines_cons k]
    rfl⟩
  | .each x B, ok, hs, bs, b, ls, n => by
    have ok2 : nameX x = true ∧ B.ok = true := by simpa [St.ok] using ok
    have k := take_stmt (r := (hs, b :: bs)) (x := cs "each " ++ cs x) (fun z => by cases z) (fun z => by cases z) (stmt_each x ok2.1)
    rw [if_neg (by show lackD [PyData.str "each", .str x] ≠ 0; rw [lack_kw (k := "each") (by rfl)]; show ((2 : Nat) : Int) - ((1 : Nat) : Int) ≠ 0; decide)] at k
    obtain ⟨m, e⟩ := rdB B ok2.2 ([.str "each", .str x] :: hs) (b :: bs) [] ((blk hs.length ++ cs "end") :: ls) (n + 1)
    refine ⟨m + 1, ?_⟩
    rw [stL, List.cons_append, lines_cons k, List.append_assoc]
    refine e.trans ?_
    rw [List.nil_append]
    exact lines_cons (take_end (h := [.str "each", .str x]) (by rw [lack_kw (k := "each") (by rfl)]; rfl))
  | .if_ c A B, ok, hs, bs, b, ls, n => by
    have ok2 : c.ok = true ∧ A.ok = true ∧ B.ok = true := by simpa [St.ok] using ok
    have k := take_stmt (r := (hs, b :: bs)) (x := cs "if " ++ cnT c) (fun z => by cases z) (fun z => by cases z) (stmt_if c ok2.1)
    rw [if_neg (by show lackD [PyData.str "if", c.d] ≠ 0; rw [lack_kw (k := "if") (by rfl)]; show ((3 : Nat) : Int) - ((1 : Nat) : Int) ≠ 0; decide)] at k
    obtain ⟨m, e⟩ := rdB A ok2.2.1 ([.str "if", c.d] :: hs) (b :: bs) [] ((blk hs.length ++ cs "else") :: (bdL (hs.length + 1) B ++ ((blk hs.length ++ cs "end") :: ls))) (n + 1)
    obtain ⟨m2, e2⟩ := rdB B ok2.2.2 ([.str "if", c.d, .tuple A.ds] :: hs) (b :: bs) [] ((blk hs.length ++ cs "end") :: ls) (m + 1)
    refine ⟨m2 + 1, ?_⟩
    rw [stL, List.cons_append, lines_cons k, List.append_assoc, List.cons_append, List.append_assoc]
    refine e.trans ?_
    rw [List.nil_append]
    refine (lines_cons (take_else (h := [.str "if", c.d]) (by rw [lack_kw (k := "if") (by rfl)]; rfl))).trans ?_
    refine e2.trans ?_
    rw [List.nil_append]
    exact lines_cons (take_end (h := [.str "if", c.d, .tuple A.ds]) (by rw [lack_kw (k := "if") (by rfl)]; rfl))
theorem rdB : ∀ (B : V6.Bd), B.ok = true → ∀ (hs bs : List (List PyData)) (b : List PyData) (ls : List (List Nat)) (n : Nat), ∃ m, linesR (hs, b :: bs) (bdL hs.length B ++ ls) n = linesR (hs, (b ++ B.ds) :: bs) ls m
  | .nil, ok, hs, bs, b, ls, n => ⟨n, by
    rw [bdL, List.nil_append, Bd.ds, List.append_nil]⟩
  | .cons s B, ok, hs, bs, b, ls, n => by
    have ok2 : s.ok = true ∧ B.ok = true := by simpa [Bd.ok] using ok
    obtain ⟨m, e⟩ := rdS s ok2.1 hs bs b (bdL hs.length B ++ ls) n
    obtain ⟨m2, e2⟩ := rdB B ok2.2 hs bs (b ++ [s.d]) ls m
    refine ⟨m2, ?_⟩
    rw [bdL, List.append_assoc, e, e2, Bd.ds, List.append_assoc]
    rfl
end
theorem lines_back (B : V6.Bd) (ok : B.ok = true) (n : Nat) : linesR ([], [[]]) (bdL 0 B) n = .inr ([], [B.ds]) := by
  obtain ⟨m, e⟩ := rdB B ok [] [] [] [] n
  rw [List.append_nil] at e
  exact e
/-! ### signs and lengths -/
theorem qt_pr : ∀ {w : List Nat}, (∀ c ∈ w, 32 ≤ c ∧ c ≤ 126) → ∀ c ∈ qt w, 32 ≤ c ∧ c ≤ 126
  | [], _, c, m => by cases m
  | e :: w, h, c, m => by
    have z := qt_pr fun x k => h x (List.mem_cons_of_mem _ k)
    rw [qt] at m
    have he := h e List.mem_cons_self
    split at m
    · rcases List.mem_cons.mp m with rfl | m
      · decide
      · rcases List.mem_cons.mp m with rfl | m
        · exact he
        · exact z c m
    · rcases List.mem_cons.mp m with rfl | m
      · exact he
      · exact z c m
theorem word_cs {w : Str} (h : wordX w = true) : ∀ c ∈ cs w, 32 ≤ c ∧ c ≤ 126 := by
  have z := wx_pr h
  unfold PrOk at z
  rw [← Array.all_toList, List.all_eq_true] at z
  intro c m
  have y := z c m
  unfold prC at y
  simpa using y
abbrev Prs (l : List Nat) : Prop := ∀ c ∈ l, 32 ≤ c ∧ c ≤ 126
theorem Prs.app {a b : List Nat} (h : Prs a) (k : Prs b) : Prs (a ++ b) := fun c m => by
  rcases List.mem_append.mp m with m | m
  · exact h c m
  · exact k c m
theorem Prs.cons {c : Nat} {b : List Nat} (h : 32 ≤ c ∧ c ≤ 126) (k : Prs b) : Prs (c :: b) := fun e m => by
  rcases List.mem_cons.mp m with rfl | m
  · exact h
  · exact k e m
theorem Prs.nil : Prs [] := fun c m => by cases m
theorem name_pr {n : Str} (h : nameX n = true) : Prs (cs n) := fun c m => by
  have := (name_cs h c m).2
  omega
theorem ex_pr : ∀ e : Ex, e.ok = true → Prs (exT e)
  | .text w, ok => .cons (by decide) (.app (qt_pr (word_cs ok)) (.cons (by decide) .nil))
  | .name n, ok => name_pr ok
  | .join a b, ok => by
    have ok2 : a.ok = true ∧ b.ok = true := by simpa [Ex.ok] using ok
    exact .app (by decide +kernel) (.cons (by decide) (.app (ex_pr a ok2.1) (.cons (by decide) (.cons (by decide) (.app (ex_pr b ok2.2) (.cons (by decide) .nil))))))
  | .turn a, ok => .app (by decide +kernel) (.cons (by decide) (.app (ex_pr a ok) (.cons (by decide) .nil)))
  | .rest a, ok => .app (by decide +kernel) (.cons (by decide) (.app (ex_pr a ok) (.cons (by decide) .nil)))
  | .first a, ok => .app (by decide +kernel) (.cons (by decide) (.app (ex_pr a ok) (.cons (by decide) .nil)))
  | .many, _ => by show Prs (cs "many"); decide +kernel
  | .last, _ => by show Prs (cs "last"); decide +kernel
theorem cn_pr : ∀ c : Cn, c.ok = true → Prs (cnT c)
  | .same a b, ok => by
    have ok2 : a.ok = true ∧ b.ok = true := by simpa [Cn.ok] using ok
    exact .app (by decide +kernel) (.cons (by decide) (.app (ex_pr a ok2.1) (.cons (by decide) (.cons (by decide) (.app (ex_pr b ok2.2) (.cons (by decide) .nil))))))
  | .ahead a b, ok => by
    have ok2 : a.ok = true ∧ b.ok = true := by simpa [Cn.ok] using ok
    exact .app (by decide +kernel) (.cons (by decide) (.app (ex_pr a ok2.1) (.cons (by decide) (.cons (by decide) (.app (ex_pr b ok2.2) (.cons (by decide) .nil))))))
  | .inn a b, ok => by
    have ok2 : a.ok = true ∧ b.ok = true := by simpa [Cn.ok] using ok
    exact .app (by decide +kernel) (.cons (by decide) (.app (ex_pr a ok2.1) (.cons (by decide) (.cons (by decide) (.app (ex_pr b ok2.2) (.cons (by decide) .nil))))))
  | .not c, ok => .app (by decide +kernel) (.cons (by decide) (.app (cn_pr c ok) (.cons (by decide) .nil)))
theorem blk_pr (h : Nat) : Prs (blk h) := fun c m => by
  have := List.eq_of_mem_replicate m
  omega
mutual
theorem st_pr : ∀ (h : Nat) (s : V6.St), s.ok = true → ∀ l ∈ stL h s, Prs l
  | h, .say e, ok, l, m => by
    rw [stL, List.mem_singleton] at m
    subst m
    exact .app (blk_pr h) (.app (by decide +kernel) (ex_pr e ok))
  | h, .let_ x e, ok, l, m => by
    have ok2 : nameX x = true ∧ e.ok = true := by simpa [St.ok] using ok
    rw [stL, List.mem_singleton] at m
    subst m
    exact .app (blk_pr h) (.app (by decide +kernel) (.app (name_pr ok2.1) (.cons (by decide) (ex_pr e ok2.2))))
  | h, .each x B, ok, l, m => by
    have ok2 : nameX x = true ∧ B.ok = true := by simpa [St.ok] using ok
    rw [stL] at m
    rcases List.mem_cons.mp m with rfl | m
    · exact .app (blk_pr h) (.app (by decide +kernel) (name_pr ok2.1))
    · rcases List.mem_append.mp m with m | m
      · exact bd_pr (h + 1) B ok2.2 l m
      · rw [List.mem_singleton] at m
        subst m
        exact .app (blk_pr h) (by decide +kernel)
  | h, .if_ c A B, ok, l, m => by
    have ok2 : c.ok = true ∧ A.ok = true ∧ B.ok = true := by simpa [St.ok] using ok
    rw [stL] at m
    rcases List.mem_cons.mp m with rfl | m
    · exact .app (blk_pr h) (.app (by decide +kernel) (cn_pr c ok2.1))
    · rcases List.mem_append.mp m with m | m
      · exact bd_pr (h + 1) A ok2.2.1 l m
      · rcases List.mem_cons.mp m with rfl | m
        · exact .app (blk_pr h) (by decide +kernel)
        · rcases List.mem_append.mp m with m | m
          · exact bd_pr (h + 1) B ok2.2.2 l m
          · rw [List.mem_singleton] at m
            subst m
            exact .app (blk_pr h) (by decide +kernel)
theorem bd_pr : ∀ (h : Nat) (B : V6.Bd), B.ok = true → ∀ l ∈ bdL h B, Prs l
  | h, .nil, ok, l, m => by
    rw [bdL] at m
    cases m
  | h, .cons s B, ok, l, m => by
    have ok2 : s.ok = true ∧ B.ok = true := by simpa [Bd.ok] using ok
    rw [bdL] at m
    rcases List.mem_append.mp m with m | m
    · exact st_pr h s ok2.1 l m
    · exact bd_pr h B ok2.2 l m
end
theorem qt_len : ∀ w : List Nat, (qt w).length ≤ 2 * w.length
  | [] => Nat.le_refl _
  | c :: w => by
    have := qt_len w
    rw [qt]
    split
    · simp only [List.length_cons]; omega
    · simp only [List.length_cons]; omega
theorem name_len {n : Str} (h : nameX n = true) : (cs n).length ≤ 8 := by
  unfold nameX lettersX at h
  simp only [Bool.and_eq_true, decide_eq_true_eq] at h
  rw [show (cs n).length = n.length from Array.length_toList]
  exact h.1.1.2
theorem ex_len : ∀ e : Ex, e.ok = true → (exT e).length ≤ 100 * e.cnt
  | .text w, ok => by
    have h1 := qt_len (cs w)
    have h2 := wx_len (show wordX w = true from ok)
    rw [show w.length = (cs w).length from Array.length_toList.symm] at h2
    simp only [exT, Ex.cnt, List.length_cons, List.length_append, List.length_nil]
    omega
  | .name n, ok => by
    have := name_len ok
    simp only [exT, Ex.cnt]
    omega
  | .join a b, ok => by
    have ok2 : a.ok = true ∧ b.ok = true := by simpa [Ex.ok] using ok
    have h1 := ex_len a ok2.1
    have h2 := ex_len b ok2.2
    have k : (cs "join").length = 4 := by decide +kernel
    simp only [exT, Ex.cnt, List.length_cons, List.length_append, List.length_nil, k]
    omega
  | .turn a, ok => by
    have h1 := ex_len a ok
    have k : (cs "turn").length = 4 := by decide +kernel
    simp only [exT, Ex.cnt, List.length_cons, List.length_append, List.length_nil, k]
    omega
  | .rest a, ok => by
    have h1 := ex_len a ok
    have k : (cs "rest").length = 4 := by decide +kernel
    simp only [exT, Ex.cnt, List.length_cons, List.length_append, List.length_nil, k]
    omega
  | .first a, ok => by
    have h1 := ex_len a ok
    have k : (cs "first").length = 5 := by decide +kernel
    simp only [exT, Ex.cnt, List.length_cons, List.length_append, List.length_nil, k]
    omega
  | .many, _ => by
    have k : (cs "many").length = 4 := by decide +kernel
    simp only [exT, Ex.cnt, k]
    omega
  | .last, _ => by
    have k : (cs "last").length = 4 := by decide +kernel
    simp only [exT, Ex.cnt, k]
    omega
theorem cn_len : ∀ c : Cn, c.ok = true → (cnT c).length ≤ 100 * c.cnt
  | .same a b, ok => by
    have ok2 : a.ok = true ∧ b.ok = true := by simpa [Cn.ok] using ok
    have h1 := ex_len a ok2.1
    have h2 := ex_len b ok2.2
    have k : (cs "same").length = 4 := by decide +kernel
    simp only [cnT, Cn.cnt, List.length_cons, List.length_append, List.length_nil, k]
    omega
  | .ahead a b, ok => by
    have ok2 : a.ok = true ∧ b.ok = true := by simpa [Cn.ok] using ok
    have h1 := ex_len a ok2.1
    have h2 := ex_len b ok2.2
    have k : (cs "ahead").length = 5 := by decide +kernel
    simp only [cnT, Cn.cnt, List.length_cons, List.length_append, List.length_nil, k]
    omega
  | .inn a b, ok => by
    have ok2 : a.ok = true ∧ b.ok = true := by simpa [Cn.ok] using ok
    have h1 := ex_len a ok2.1
    have h2 := ex_len b ok2.2
    have k : (cs "in").length = 2 := by decide +kernel
    simp only [cnT, Cn.cnt, List.length_cons, List.length_append, List.length_nil, k]
    omega
  | .not c, ok => by
    have h1 := cn_len c ok
    have k : (cs "not").length = 3 := by decide +kernel
    simp only [cnT, Cn.cnt, List.length_cons, List.length_append, List.length_nil, k]
    omega
end V9

set_option maxHeartbeats 4000000
/-! V4k: != of an instance whose class has an own __eq__ and no own __ne__. -/
namespace V4
open PySem PySem.Spec PyProof.Rows L2 V1 V2 V3
/-- its __ne__ is object's -/
def neB (K : PySem.W.Frag) (C : Addr) : Bool := decide (PySem.W.findIn K (.ref C) "__ne__" = some (some (.builtin "object.__ne__"))) && decide (PySem.W.mroIn K C (.type "object") = some true)
structure NeD (K : PySem.W.Frag) (C : Addr) : Prop where
  ne : PySem.W.findIn K (.ref C) "__ne__" = some (some (.builtin "object.__ne__"))
  ob : PySem.W.mroIn K C (.type "object") = some true
theorem neD_of {K : PySem.W.Frag} {C : Addr} (h : neB K C = true) : NeD K C :=
  let z := Bool.and_eq_true_iff.mp h
  ⟨of_decide_eq_true z.1, of_decide_eq_true z.2⟩
section
variable {prog : Program} {w : World} {A : Around} {E : Value → Shared → Prop} {s : Shared} {K : PySem.W.Frag} {x C f : Addr} {ox : Obj} {od : Option Obj} {u : Value}
/-- what object.__ne__ does: the own __eq__ the other way round -/
theorem objNe_own {Q : Fin → Shared → Prop} (hX : K.In s.heap) (J : PySem.W.InstAt s.heap x ox C od) (hs : PySem.W.findIn K (.ref C) "__eq__" = some (some (.ref f))) (hf : PySem.W.isFn K (.ref f) = true) (room : A.units < cLine)
    (h : wpAny (model prog w) A (call (.ref f) [.ref x, u]) (fun v s' => ∃ b, v = .bool b ∧ Q (.done (.ret (.bool (!b)))) s') E s) : wpAny (model prog w) A (Builtin.«object.__ne__» ⟨[.ref x, u], []⟩) Q E s := by
  have eq : wpAny (model prog w) A (callSpecialIfBound? (.ref x) "__eq__" [u]) (fun r s' => ∃ b, r = some (.bool b) ∧ Q (.done (.ret (.bool (!b)))) s') E s :=
    PySem.W.ifBound_K hX J hs hf (wpAny_mono h (fun v s' z => let ⟨b, e, q⟩ := z; ⟨b, congrArg some e, q⟩) fun _ _ e => e)
  unfold Builtin.«object.__ne__»
  repeat (first
    | with_reducible refine wpAny_cRoomFor room ?_
    | (refine wpAny_bind (m := callSpecialIfBound? (.ref x) (Str.ofString "__eq__") [u]) (wpAny_mono eq (fun r s' hr => ?_) fun _ _ e => e)
       obtain ⟨b, rfl, hq⟩ := hr
       refine wpAny_bind (m := truthy (.bool b)) (wpAny_truthy_bool ?_)
       exact wpAny_pure hq)
    | wp_step)
/-- x != u by it -/
theorem ne_own {Q : Value → Shared → Prop} {tb : Value} (room : A.units + 1 < cLine) (hX : K.In s.heap) (J : PySem.W.InstAt s.heap x ox C od) (hb : PySem.W.Looks (model prog w) s.heap (typeOf u) tb) (hn : PySem.W.notFirst K C tb = true)
    (no : PySem.W.findIn K (.ref C) "__ne__" = some (some (.builtin "object.__ne__"))) (ob : PySem.W.mroIn K C (.type "object") = some true) (hs : PySem.W.findIn K (.ref C) "__eq__" = some (some (.ref f))) (hf : PySem.W.isFn K (.ref f) = true)
    (h : wpAny (model prog w) A.in1 (call (.ref f) [.ref x, u]) (fun v s' => ∃ b, v = .bool b ∧ Q (.bool (!b)) s') E s) : wpAny (model prog w) A (richCompare .NotEq (.ref x) u) Q E s := by
  have body : wpAny (model prog w) A (call (.builtin "object.__ne__") [.ref x, u]) (fun v s' => ∃ b : Bool, v = .bool b ∧ Q (.bool b) s') E s :=
    wpAny_call (codeAny_call_builtin PySem.F.cmp_object.ne.plain PySem.F.cmpEntry_ne (PySem.W.check_slot PySem.F.cmpKind_ne PySem.F.cmpSplit_ne (J.type.andThen (PySem.W.looks_mroIn hX ob)) (PySem.F.cmpArgs_ne _ _)
      (objNe_own hX J hs hf room (wpAny_mono h (fun v s' ⟨b, e, q⟩ => ⟨b, e, _, rfl, q⟩) fun _ _ e => e))))
  have bound : wpAny (model prog w) A (callSpecialIfBound? (.ref x) "__ne__" [u]) (fun r s' => ∃ b : Bool, r = some (.bool b) ∧ Q (.bool b) s') E s := by
    simp only [callSpecialIfBound?, bindSpecialIfBound?]
    refine wpAny_holding (wpAny_bind (wpAny_bind (wpAny_bind (J.type.here ((PySem.W.looks_findIn hX no).here ?_)))))
    have go : wpAny (model prog w) A (call (.builtin "object.__ne__") ([.ref x] ++ [u]) >>= fun v => pure (some v)) (fun r s' => ∃ b : Bool, r = some (.bool b) ∧ Q (.bool b) s') E s :=
      wpAny_bind (wpAny_mono body (fun v s' ⟨b, e, q⟩ => wpAny_pure ⟨b, congrArg some e, q⟩) fun _ _ e => e)
    refine wpAny_bind (wpAny_askSetting (wpAny_ite ?_))
    split
    · exact wpAny_bind (wpAny_of_eq (PySem.F.cmp_object.ne.bind _) (wpAny_pure (by exact go)))
    · exact wpAny_tryCatch (wpAny_bind (wpAny_of_eq (PySem.F.cmp_object.ne.bind _) (wpAny_pure (by exact go))))
  have tried : wpAny (model prog w) A (tryCompare (.ref x) "__ne__" u) (fun r s' => ∃ b : Bool, r = some (.bool b) ∧ Q (.bool b) s') E s := by
    unfold tryCompare
    refine wpAny_bind (wpAny_mono bound (fun r s' ⟨b, e, q⟩ => ?_) fun _ _ e => e)
    subst e
    exact wpAny_pure ⟨b, rfl, q⟩
  have last : ∀ r s', (∃ b : Bool, r = some (.bool b) ∧ Q (.bool b) s') → ∃ b : Bool, r = some (Value.bool b) ∧ Q (.bool b) s' := fun _ _ z => z
  simp only [richCompare, PySem.cmpInfo_NotEq, oneThing_ref]
  refine wpAny_holding (wpAny_bind (wpAny_cRoomFor (Nat.lt_of_succ_lt room) ?_))
  refine wpAny_bind (J.type.here (wpAny_bind (hb.here ?_)))
  have sub : (Value.ref C != tb) = true → PySem.W.subIn K tb (.ref C) = some false := fun q => by
    rcases Bool.or_eq_true_iff.mp hn with e | e
    · rw [beq_iff_eq.mp e] at q
      simp at q
    · exact beq_iff_eq.mp e
  split
  · rename_i q
    refine wpAny_bind ((PySem.W.looks_subIn hX (sub (by simpa using q))).here ?_)
    simp only [Bool.false_eq_true, if_false]
    refine wpAny_bind (wpAny_mono tried (fun r s' ⟨b, e, z⟩ => ?_) fun _ _ e => e)
    subst e
    exact wpAny_pure z
  · refine wpAny_bind (wpAny_pure ?_)
    simp only [Bool.false_eq_true, if_false]
    refine wpAny_bind (wpAny_mono tried (fun r s' ⟨b, e, z⟩ => ?_) fun _ _ e => e)
    subst e
    exact wpAny_pure z
end
/-- x != y by x's own == -/
def rOwnNe (K : PySem.W.Frag) (C : Addr) (sp : Sp) (E : XK) : R2 := fun x y H Q => ∃ a dx fs t, x = .ref a ∧ H a = some (.ins C dx fs) ∧ TyX K H y t ∧ PySem.W.notFirst K C t = true ∧ sp [.ref a, y] H (fun v H' => ∃ b, v = .bl b ∧ Q (.bl (!b)) H') E
theorem op_ownNe {X : Cx} {CX : CXT} {C f : Addr} {fd : FuncData} {ps : List Str} {sp : Sp} {E : XK} {n : Nat} (F : FnOk X.prog X.w X.K X.mg X.base CX n f fd ps sp) (no : NeD X.K C) (ic : C8.InsC X.K C)
    (hs : PySem.W.findIn X.K (.ref C) "__eq__" = some (some (.ref f))) (hf : PySem.W.isFn X.K (.ref f) = true) (hb : Binds X.K fd ps []) (hx : Passes CX X E) (hr : Room (n + 1) X.A) : OpR X (compareOp .NotEq) (rOwnNe X.K C sp E) := by
  intro pins s σ H x y v u Q I rx ry hq
  obtain ⟨a, dx, fs, t, rfl, ha, ty, nf, h⟩ := hq
  cases rx
  show wpAny (model X.prog X.w) X.A (richCompare .NotEq (.ref a) u) (EP X pins σ Q) X.xe s
  obtain ⟨P, Z, p, _⟩ := kit_of I ry ty
  obtain ⟨mA, J, _⟩ := ins_get I.hok ha
  obtain ⟨od, J, _⟩ := J.look
  refine ne_own (tb := t) (by have := hr.un; omega) I.kIn J (Z.ty (model X.prog X.w) s.heap I.kIn p) nf no.ne ic.hm hs hf ?_
  have len := F.len _ _ _ _ h
  have both : Vals [V.ref a, y] [Value.ref a, u] := .cons rfl (.cons ry .nil)
  have env : Env0 X.prog X.w X.K X.mg X.base X.A.in1 X.stack s H := ⟨I.env0.frames, I.env0.mod, I.env0.bs, I.env0.bsz, I.env0.funs, I.env0.frf, I.env0.hok, I.env0.bare⟩
  have bound := hb s [.ref a, u] I.kIn (by simpa using len)
  simp only [List.append_nil] at bound
  refine wpAny_call (codeAny_mono (F.run X.A.in1 X.stack s H ⟨[.ref a, u], []⟩ [.ref a, u] [.ref a, y] _ E hr.in1 env bound both h) fun r s' hq => ?_)
  match r, hq with
  | .error e, hq => exact hx pins σ H s e s' I hq
  | .ok (.ret w), hq =>
    obtain ⟨z, H', I', rz, b, ez, q⟩ := I.after hq
    subst ez
    cases rz
    exact ⟨b, rfl, .bl (!b), H', I', rfl, q⟩
  | .ok .next, hq => exact hq.elim
  | .ok .brk, hq => exact hq.elim
  | .ok .cont, hq => exact hq.elim
end V4


set_option maxHeartbeats 0
namespace K07
open PySem PySem.Spec PyProof.Rows L2 V1
def top (i : Nat) : Stmt := PySem.Challenge.pw_turnedtalk_k07_programs_judged.main.body.getD i (.Pass ⟨0, 0, 0, 0⟩)
abbrev s_is_tuple_of : Stmt := top 3
def d_is_tuple_of : He.DefD := ⟨("is_tuple_of", none), "is_tuple_of", "is_tuple_of", defArgs s_is_tuple_of, defBody s_is_tuple_of, defScope s_is_tuple_of, [], []⟩
abbrev s_is_word : Stmt := top 4
def d_is_word : He.DefD := ⟨("is_word", none), "is_word", "is_word", defArgs s_is_word, defBody s_is_word, defScope s_is_word, [], []⟩
abbrev s_is_row : Stmt := top 5
def d_is_row : He.DefD := ⟨("is_row", none), "is_row", "is_row", defArgs s_is_row, defBody s_is_row, defScope s_is_row, [], []⟩
abbrev s_has_letters : Stmt := top 20
def d_has_letters : He.DefD := ⟨("has_letters", none), "has_letters", "has_letters", defArgs s_has_letters, defBody s_has_letters, defScope s_has_letters, [], []⟩
abbrev s_is_name : Stmt := top 21
def d_is_name : He.DefD := ⟨("is_name", none), "is_name", "is_name", defArgs s_is_name, defBody s_is_name, defScope s_is_name, [], []⟩
abbrev s_has_form : Stmt := top 22
def d_has_form : He.DefD := ⟨("has_form", none), "has_form", "has_form", defArgs s_has_form, defBody s_has_form, defScope s_has_form, [], []⟩
abbrev s_is_right : Stmt := top 23
def d_is_right : He.DefD := ⟨("is_right", none), "is_right", "is_right", defArgs s_is_right, defBody s_is_right, defScope s_is_right, [], []⟩
abbrev s_inner_ones : Stmt := top 24
def d_inner_ones : He.DefD := ⟨("inner_ones", none), "inner_ones", "inner_ones", defArgs s_inner_ones, defBody s_inner_ones, defScope s_inner_ones, [], []⟩
abbrev s_is_program : Stmt := top 25
def d_is_program : He.DefD := ⟨("is_program", none), "is_program", "is_program", defArgs s_is_program, defBody s_is_program, defScope s_is_program, [], []⟩
abbrev s_told_by : Stmt := top 27
def d_told_by : He.DefD := ⟨("told_by", none), "told_by", "told_by", defArgs s_told_by, defBody s_told_by, defScope s_told_by, [], []⟩
abbrev s_holds : Stmt := top 28
def d_holds : He.DefD := ⟨("holds", none), "holds", "holds", defArgs s_holds, defBody s_holds, defScope s_holds, [], []⟩
abbrev s_said_by : Stmt := top 29
def d_said_by : He.DefD := ⟨("said_by", none), "said_by", "said_by", defArgs s_said_by, defBody s_said_by, defScope s_said_by, [], []⟩
abbrev s_said_by_one : Stmt := top 30
def d_said_by_one : He.DefD := ⟨("said_by_one", none), "said_by_one", "said_by_one", defArgs s_said_by_one, defBody s_said_by_one, defScope s_said_by_one, [], []⟩
abbrev s_part_text : Stmt := top 32
def d_part_text : He.DefD := ⟨("part_text", none), "part_text", "part_text", defArgs s_part_text, defBody s_part_text, defScope s_part_text, [], []⟩
abbrev s_body_lines : Stmt := top 33
def d_body_lines : He.DefD := ⟨("body_lines", none), "body_lines", "body_lines", defArgs s_body_lines, defBody s_body_lines, defScope s_body_lines, [], []⟩
abbrev s_statement_lines : Stmt := top 34
def d_statement_lines : He.DefD := ⟨("statement_lines", none), "statement_lines", "statement_lines", defArgs s_statement_lines, defBody s_statement_lines, defScope s_statement_lines, [], []⟩
abbrev s_program_text : Stmt := top 35
def d_program_text : He.DefD := ⟨("program_text", none), "program_text", "program_text", defArgs s_program_text, defBody s_program_text, defScope s_program_text, [], []⟩
abbrev s_is_row_and_word : Stmt := top 38
def d_is_row_and_word : He.DefD := ⟨("is_row_and_word", none), "is_row_and_word", "is_row_and_word", defArgs s_is_row_and_word, defBody s_is_row_and_word, defScope s_is_row_and_word, [], []⟩
abbrev s_check_pairs : Stmt := top 39
def d_check_pairs : He.DefD := ⟨("check_pairs", none), "check_pairs", "check_pairs", defArgs s_check_pairs, defBody s_check_pairs, defScope s_check_pairs, [], []⟩
abbrev s__law_hand : Stmt := top 43
def d__law_hand : He.DefD := ⟨("_law_hand", none), "_law_hand", "_law_hand", defArgs s__law_hand, defBody s__law_hand, defScope s__law_hand, [], []⟩
abbrev s__law_draw : Stmt := top 44
def d__law_draw : He.DefD := ⟨("_law_draw", none), "_law_draw", "_law_draw", defArgs s__law_draw, defBody s__law_draw, defScope s__law_draw, [], []⟩
abbrev s__law_pick : Stmt := top 45
def d__law_pick : He.DefD := ⟨("_law_pick", none), "_law_pick", "_law_pick", defArgs s__law_pick, defBody s__law_pick, defScope s__law_pick, [], []⟩
abbrev s__law_is : Stmt := top 46
def d__law_is : He.DefD := ⟨("_law_is", none), "_law_is", "_law_is", defArgs s__law_is, defBody s__law_is, defScope s__law_is, [], []⟩
abbrev s__law_signs : Stmt := top 47
def d__law_signs : He.DefD := ⟨("_law_signs", none), "_law_signs", "_law_signs", defArgs s__law_signs, defBody s__law_signs, defScope s__law_signs, [], []⟩
abbrev s__law_word : Stmt := top 48
def d__law_word : He.DefD := ⟨("_law_word", none), "_law_word", "_law_word", defArgs s__law_word, defBody s__law_word, defScope s__law_word, [], []⟩
abbrev s__law_name : Stmt := top 49
def d__law_name : He.DefD := ⟨("_law_name", none), "_law_name", "_law_name", defArgs s__law_name, defBody s__law_name, defScope s__law_name, [], []⟩
abbrev s__law_e : Stmt := top 50
def d__law_e : He.DefD := ⟨("_law_e", none), "_law_e", "_law_e", defArgs s__law_e, defBody s__law_e, defScope s__law_e, [], []⟩
abbrev s__law_c : Stmt := top 51
def d__law_c : He.DefD := ⟨("_law_c", none), "_law_c", "_law_c", defArgs s__law_c, defBody s__law_c, defScope s__law_c, [], []⟩
abbrev s__law_statement : Stmt := top 52
def d__law_statement : He.DefD := ⟨("_law_statement", none), "_law_statement", "_law_statement", defArgs s__law_statement, defBody s__law_statement, defScope s__law_statement, [], []⟩
abbrev s__law_body : Stmt := top 53
def d__law_body : He.DefD := ⟨("_law_body", none), "_law_body", "_law_body", defArgs s__law_body, defBody s__law_body, defScope s__law_body, [], []⟩
abbrev s__law_program : Stmt := top 54
def d__law_program : He.DefD := ⟨("_law_program", none), "_law_program", "_law_program", defArgs s__law_program, defBody s__law_program, defScope s__law_program, [], []⟩
abbrev s__law_is_word : Stmt := top 55
def d__law_is_word : He.DefD := ⟨("_law_is_word", none), "_law_is_word", "_law_is_word", defArgs s__law_is_word, defBody s__law_is_word, defScope s__law_is_word, [], []⟩
abbrev s__law_is_name : Stmt := top 56
def d__law_is_name : He.DefD := ⟨("_law_is_name", none), "_law_is_name", "_law_is_name", defArgs s__law_is_name, defBody s__law_is_name, defScope s__law_is_name, [], []⟩
abbrev s__law_sort : Stmt := top 57
def d__law_sort : He.DefD := ⟨("_law_sort", none), "_law_sort", "_law_sort", defArgs s__law_sort, defBody s__law_sort, defScope s__law_sort, [], []⟩
abbrev s__law_e_size : Stmt := top 58
def d__law_e_size : He.DefD := ⟨("_law_e_size", none), "_law_e_size", "_law_e_size", defArgs s__law_e_size, defBody s__law_e_size, defScope s__law_e_size, [], []⟩
abbrev s__law_both : Stmt := top 59
def d__law_both : He.DefD := ⟨("_law_both", none), "_law_both", "_law_both", defArgs s__law_both, defBody s__law_both, defScope s__law_both, [], []⟩
abbrev s__law_c_size : Stmt := top 60
def d__law_c_size : He.DefD := ⟨("_law_c_size", none), "_law_c_size", "_law_c_size", defArgs s__law_c_size, defBody s__law_c_size, defScope s__law_c_size, [], []⟩
abbrev s__law_statement_size : Stmt := top 61
def d__law_statement_size : He.DefD := ⟨("_law_statement_size", none), "_law_statement_size", "_law_statement_size", defArgs s__law_statement_size, defBody s__law_statement_size, defScope s__law_statement_size, [], []⟩
abbrev s__law_body_size : Stmt := top 62
def d__law_body_size : He.DefD := ⟨("_law_body_size", none), "_law_body_size", "_law_body_size", defArgs s__law_body_size, defBody s__law_body_size, defScope s__law_body_size, [], []⟩
abbrev s__law_is_program : Stmt := top 63
def d__law_is_program : He.DefD := ⟨("_law_is_program", none), "_law_is_program", "_law_is_program", defArgs s__law_is_program, defBody s__law_is_program, defScope s__law_is_program, [], []⟩
abbrev s__law_odd : Stmt := top 64
def d__law_odd : He.DefD := ⟨("_law_odd", none), "_law_odd", "_law_odd", defArgs s__law_odd, defBody s__law_odd, defScope s__law_odd, [], []⟩
abbrev s__law_spoilt : Stmt := top 65
def d__law_spoilt : He.DefD := ⟨("_law_spoilt", none), "_law_spoilt", "_law_spoilt", defArgs s__law_spoilt, defBody s__law_spoilt, defScope s__law_spoilt, [], []⟩
abbrev s__law_part : Stmt := top 66
def d__law_part : He.DefD := ⟨("_law_part", none), "_law_part", "_law_part", defArgs s__law_part, defBody s__law_part, defScope s__law_part, [], []⟩
abbrev s__law_deep : Stmt := top 67
def d__law_deep : He.DefD := ⟨("_law_deep", none), "_law_deep", "_law_deep", defArgs s__law_deep, defBody s__law_deep, defScope s__law_deep, [], []⟩
abbrev s__law_inner : Stmt := top 68
def d__law_inner : He.DefD := ⟨("_law_inner", none), "_law_inner", "_law_inner", defArgs s__law_inner, defBody s__law_inner, defScope s__law_inner, [], []⟩
abbrev s__law_large : Stmt := top 69
def d__law_large : He.DefD := ⟨("_law_large", none), "_law_large", "_law_large", defArgs s__law_large, defBody s__law_large, defScope s__law_large, [], []⟩
abbrev s__law_nearly : Stmt := top 70
def d__law_nearly : He.DefD := ⟨("_law_nearly", none), "_law_nearly", "_law_nearly", defArgs s__law_nearly, defBody s__law_nearly, defScope s__law_nearly, [], []⟩
abbrev s__law_made : Stmt := top 71
def d__law_made : He.DefD := ⟨("_law_made", none), "_law_made", "_law_made", defArgs s__law_made, defBody s__law_made, defScope s__law_made, [], []⟩
abbrev s__law_text_word : Stmt := top 72
def d__law_text_word : He.DefD := ⟨("_law_text_word", none), "_law_text_word", "_law_text_word", defArgs s__law_text_word, defBody s__law_text_word, defScope s__law_text_word, [], []⟩
abbrev s__law_is_judged : Stmt := top 73
def d__law_is_judged : He.DefD := ⟨("_law_is_judged", none), "_law_is_judged", "_law_is_judged", defArgs s__law_is_judged, defBody s__law_is_judged, defScope s__law_is_judged, [], []⟩
abbrev s_law : Stmt := top 74
def d_law : He.DefD := ⟨("law", none), "law", "law", defArgs s_law, defBody s_law, defScope s_law, [], []⟩
abbrev s_BadTable__init__ : Stmt := inClass (top 8) 0
def d_BadTable__init__ : He.DefD := ⟨("BadTable", some "__init__"), "__init__", "BadTable.__init__", defArgs s_BadTable__init__, defBody s_BadTable__init__, defScope s_BadTable__init__, [], []⟩
abbrev s_Program__init__ : Stmt := inClass (top 31) 0
def d_Program__init__ : He.DefD := ⟨("Program", some "__init__"), "__init__", "Program.__init__", defArgs s_Program__init__, defBody s_Program__init__, defScope s_Program__init__, [], []⟩
abbrev s_Program__eq__ : Stmt := inClass (top 31) 1
def d_Program__eq__ : He.DefD := ⟨("Program", some "__eq__"), "__eq__", "Program.__eq__", defArgs s_Program__eq__, defBody s_Program__eq__, defScope s_Program__eq__, [], []⟩
abbrev s_Programword : Stmt := inClass (top 31) 2
def d_Programword : He.DefD := ⟨("Program", some "word"), "word", "Program.word", defArgs s_Programword, defBody s_Programword, defScope s_Programword, [], []⟩
abbrev s_Table__init__ : Stmt := inClass (top 40) 0
def d_Table__init__ : He.DefD := ⟨("Table", some "__init__"), "__init__", "Table.__init__", defArgs s_Table__init__, defBody s_Table__init__, defScope s_Table__init__, [], []⟩
abbrev s_Table__eq__ : Stmt := inClass (top 40) 1
def d_Table__eq__ : He.DefD := ⟨("Table", some "__eq__"), "__eq__", "Table.__eq__", defArgs s_Table__eq__, defBody s_Table__eq__, defScope s_Table__eq__, [], []⟩
abbrev s_Tableword : Stmt := inClass (top 40) 2
def d_Tableword : He.DefD := ⟨("Table", some "word"), "word", "Table.word", defArgs s_Tableword, defBody s_Tableword, defScope s_Tableword, [], []⟩
abbrev s_Voice__init__ : Stmt := inClass (top 41) 0
def d_Voice__init__ : He.DefD := ⟨("Voice", some "__init__"), "__init__", "Voice.__init__", defArgs s_Voice__init__, defBody s_Voice__init__, defScope s_Voice__init__, [], []⟩
abbrev s_Voiceword : Stmt := inClass (top 41) 1
def d_Voiceword : He.DefD := ⟨("Voice", some "word"), "word", "Voice.word", defArgs s_Voiceword, defBody s_Voiceword, defScope s_Voiceword, [], []⟩
def fn : List He.DefD := [d_is_tuple_of, d_is_word, d_is_row, d_has_letters, d_is_name, d_has_form, d_is_right, d_inner_ones, d_is_program, d_told_by, d_holds, d_said_by, d_said_by_one, d_part_text, d_body_lines, d_statement_lines, d_program_text, d_is_row_and_word, d_check_pairs, d__law_hand, d__law_draw, d__law_pick, d__law_is, d__law_signs, d__law_word, d__law_name, d__law_e, d__law_c, d__law_statement, d__law_body, d__law_program, d__law_is_word, d__law_is_name, d__law_sort, d__law_e_size, d__law_both, d__law_c_size, d__law_statement_size, d__law_body_size, d__law_is_program, d__law_odd, d__law_spoilt, d__law_part, d__law_deep, d__law_inner, d__law_large, d__law_nearly, d__law_made, d__law_text_word, d__law_is_judged, d_law, d_BadTable__init__, d_Program__init__, d_Program__eq__, d_Programword, d_Table__init__, d_Table__eq__, d_Tableword, d_Voice__init__, d_Voiceword]
def fa0 : List He.Fa := [.int "MOST_SIGNS" 40, .int "MOST_WORDS" 400, .glo "is_tuple_of", .glo "is_word", .glo "is_row", .glo "TalkError", .glo "BadTable", .glo "NoRow", .glo "BadProgram", .glo "NoProgram", .int "MOST_DEEP" 20, .int "MOST_PARTS" 500, .int "MOST_EACHES" 2, .int "MOST_NAME" 8, .glo "FORMS", .glo "BARE", .str "BLANKS" "  ", .glo "has_letters", .glo "is_name", .glo "has_form"]
def fa1 : List He.Fa := [.glo "is_right", .glo "inner_ones", .glo "is_program", .glo "told_by", .glo "holds", .glo "said_by", .glo "said_by_one", .glo "Program", .glo "part_text", .glo "body_lines", .glo "statement_lines", .glo "program_text", .int "MOST_PAIRS" 200, .glo "is_row_and_word", .glo "check_pairs", .glo "Table", .glo "Voice", .glo "_law_hand", .glo "_law_draw", .glo "_law_pick"]
def fa2 : List He.Fa := [.glo "_law_is", .glo "_law_signs", .glo "_law_word", .glo "_law_name", .glo "_law_e", .glo "_law_c", .glo "_law_statement", .glo "_law_body", .glo "_law_program", .glo "_law_is_word", .glo "_law_is_name", .glo "_law_sort", .glo "_law_e_size", .glo "_law_both", .glo "_law_c_size", .glo "_law_statement_size", .glo "_law_body_size", .glo "_law_is_program", .glo "_law_odd", .glo "_law_spoilt"]
def fa3 : List He.Fa := [.glo "_law_part", .glo "_law_deep", .glo "_law_inner", .glo "_law_large", .glo "_law_nearly", .glo "_law_made", .glo "_law_text_word", .glo "_law_is_judged", .glo "law", .free "ValueError", .free "all", .free "any", .free "bool", .free "enumerate", .free "int", .free "isinstance", .free "len", .free "list", .free "max", .free "range"]
def fa4 : List He.Fa := [.free "str", .free "tuple", .free "zip", .meth "BadTable" "__init__", .noat "BadTable" "part", .exc "NoRow", .exc "BadProgram", .exc "NoProgram", .exc "TalkError", .cls "Program", .noat "Program" "statements", .mkr "Program", .meth "Program" "__init__", .meth "Program" "__eq__", .meth "Program" "word", .cls "Table", .noat "Table" "_beside", .noat "Table" "other", .noat "Table" "pairs", .mkr "Table"]
def fa5 : List He.Fa := [.meth "Table" "__init__", .meth "Table" "__eq__", .meth "Table" "word", .cls "Voice", .noat "Voice" "telling", .mkr "Voice", .meth "Voice" "__init__", .meth "Voice" "word"]
def fa : List He.Fa := fa0 ++ (fa1 ++ (fa2 ++ (fa3 ++ (fa4 ++ (fa5)))))
def errs : List Str := ["BadTable", "NoRow", "BadProgram", "NoProgram"]
def plainC : List Str := ["Program", "Table", "Voice"]
def exB0 (K : PySem.W.Frag) : Bool :=
  oexB K (He.ga K "TalkError") veB && (errs.all (fun x => oexB K (He.ga K x) (.ref (He.ga K "TalkError") :: veB)) && (decide ((He.ga K "TalkError" :: errs.map (He.ga K)).Nodup) && clsAttrB K))
def exI (K : PySem.W.Frag) : Bool := plainC.all fun x => V2.insB K (He.ga K x)
def exK (K : PySem.W.Frag) : Bool := plainC.all fun x => V3.kindB K (He.ga K x) && plainC.all fun y => (x == y) || (decide (PySem.W.kitOne K (.ref (He.ga K x)) (.ref (He.ga K y)) = some false) && PySem.W.notFirst K (He.ga K x) (.ref (He.ga K y)))
def exB1 (K : PySem.W.Frag) : Bool := exB0 K && (exI K && exK K)
def lamN : List Str := ["_law_is_judged", "law"]
def formsL : List (Str × Str × List Str) := [("say", "statement", ["e"]), ("let", "statement", ["name", "e"]), ("if", "statement", ["c", "body", "body"]), ("each", "statement", ["name", "body"]), ("text", "e", ["word"]), ("name", "e", ["name"]), ("join", "e", ["e", "e"]), ("turn", "e", ["e"]), ("rest", "e", ["e"]), ("first", "e", ["e"]), ("many", "e", []), ("last", "e", []), ("same", "c", ["e", "e"]), ("ahead", "c", ["e", "e"]), ("in", "c", ["e", "e"]), ("not", "c", ["c"])]
def hashL (w : World) : List Int := formsL.map fun p => hashStr w p.1
def exB2 (K : PySem.W.Frag) : Bool := exB1 K && ((lamN.all fun x => V4.lamB K (He.ga K x)) && decide ((lamN.map fun x => (V4.pairOf K (He.ga K x)).2).Nodup))
def exB (K : PySem.W.Frag) : Bool := exB2 K && (V5.formsB K (He.ga K "FORMS") formsL && V5.strsB K (He.ga K "BARE") ["many", "last"])
def emB (g : Addr → Option Obj) (K : PySem.W.Frag) : Bool := lamN.all fun x => V4.emptyT g (V4.pairOf K (He.ga K x)).2
abbrev AlE : Type := He.AlD × (Bool × (Bool × List Int))
def obsE (g : Addr → Option Obj) : AlE := (He.obsD fa fn (He.frG g (V4.asT g 4)), (exB (He.frG g (V4.asT g 4)), (emB g (He.frG g (V4.asT g 4)), V5.hashesOf (He.frG g (V4.asT g 4)) (He.ga (He.frG g (V4.asT g 4)) "FORMS"))))
def hk : PySem.W.Hook where
  α := AlE
  obs := fun s => obsE s.heap.get?
  val := fun w => (He.valD fn, (true, (true, hashL w)))
  says := fun w h => ∃ K : PySem.W.Frag, K.In h ∧ He.SaysD fa fn K ∧ (exB K = true ∧ V5.hashesOf K (He.ga K "FORMS") = hashL w ∧ ∀ x ∈ lamN, h.get? (V4.pairOf K (He.ga K x)).2 = some { cls := .none, data := .fields #[] })
  of := fun _ _ e => ⟨_, He.frG_in, congrArg (fun z : AlE => z.1) e, congrArg (fun z : AlE => z.2.1) e, congrArg (fun z : AlE => z.2.2.2) e, fun x hx => V4.emptyT_is (List.all_eq_true.mp (show emB _ _ = true from congrArg (fun z : AlE => z.2.2.1) e) x hx)⟩
  keeps := fun _ _ _ ⟨K, inK, c, x, hh, t⟩ k => ⟨K, PySem.W.Frag.In.keeps inK k, c, x, hh, fun y hy => k _ _ (t y hy)⟩
theorem obsE_eq {g : Addr → Option Obj} {s : Shared} (h : ∀ a, g a = s.heap.get? a) : obsE g = hk.obs s := by
  have same : g = s.heap.get? := funext h
  rw [same] <;> rfl
abbrev R : PySem.W.OpenRow := PySem.W.OpenLaw.row PySem.Challenge.rw_turnedtalk_k07_programs_judged
def ob (s : PySem.W.SharedT) : AlE := obsE (HandSHeadRun.getT s)
theorem ob_eq (s : PySem.W.SharedT) : ob s = hk.obs s.abs := obsE_eq (HandSHeadRun.getT_eq s)
def nm0 : List PySem.Str := ["MOST_SIGNS", "MOST_WORDS", "is_tuple_of", "is_word", "is_row", "TalkError", "BadTable", "NoRow", "BadProgram", "NoProgram", "MOST_DEEP", "MOST_PARTS", "MOST_EACHES", "MOST_NAME", "FORMS", "BARE", "BLANKS", "has_letters", "is_name", "has_form", "is_right", "inner_ones", "is_program", "told_by", "holds"]
def nm1 : List PySem.Str := ["said_by", "said_by_one", "Program", "part_text", "body_lines", "statement_lines", "program_text", "MOST_PAIRS", "is_row_and_word", "check_pairs", "Table", "Voice", "_law_hand", "_law_draw", "_law_pick", "_law_is", "_law_signs", "_law_word", "_law_name", "_law_e", "_law_c", "_law_statement", "_law_body", "_law_program", "_law_is_word"]
def nm2 : List PySem.Str := ["_law_is_name", "_law_sort", "_law_e_size", "_law_both", "_law_c_size", "_law_statement_size", "_law_body_size", "_law_is_program", "_law_odd", "_law_spoilt", "_law_part", "_law_deep", "_law_inner", "_law_large", "_law_nearly", "_law_made", "_law_text_word", "_law_is_judged"]
def names : List PySem.Str := nm0 ++ (nm1 ++ (nm2))
theorem run1 (w : World) : HandSHeadRun.RunEq R (PySem.W.view R.prog [74]) hk ob 60000 names (V3.wHab "special-get-raises" true w) := by
  intro os
  kernel_rfl
theorem run0 (w : World) : HandSHeadRun.RunEq R (PySem.W.view R.prog [74]) hk ob 60000 names (V3.wHab "special-get-raises" false w) := by
  intro os
  kernel_rfl
theorem run (w : World) : HandSHeadRun.RunEq R (PySem.W.view R.prog [74]) hk ob 60000 names w := V3.run_hab (p := fun w => HandSHeadRun.RunEq R (PySem.W.view R.prog [74]) hk ob 60000 names w) "special-get-raises" run1 run0 w
theorem exB_2 {K : PySem.W.Frag} (h : exB K = true) : exB2 K = true := (Bool.and_eq_true_iff.mp h).1
theorem exB_1 {K : PySem.W.Frag} (h : exB2 K = true) : exB1 K = true := (Bool.and_eq_true_iff.mp h).1
theorem lam_at {K : PySem.W.Frag} (h : exB2 K = true) {x : Str} (hx : x ∈ lamN) : V4.LamD K (He.ga K x) := V4.lamD_of (List.all_eq_true.mp (Bool.and_eq_true_iff.mp (Bool.and_eq_true_iff.mp h).2).1 x hx)
theorem tabs_nd {K : PySem.W.Frag} (h : exB2 K = true) : (lamN.map fun x => (V4.pairOf K (He.ga K x)).2).Nodup := of_decide_eq_true (Bool.and_eq_true_iff.mp (Bool.and_eq_true_iff.mp h).2).2
theorem forms_at {K : PySem.W.Frag} {w : World} (h : exB K = true) (hh : V5.hashesOf K (He.ga K "FORMS") = hashL w) : V5.Forms K w (He.ga K "FORMS") formsL := V5.forms_of ((Bool.and_eq_true_iff.mp (Bool.and_eq_true_iff.mp h).2).1) hh (by decide +kernel)
theorem BARE_at {K : PySem.W.Frag} (h : exB K = true) (H : L2.Hp) : SqT K H (He.ga K "BARE") ((["many", "last"] : List Str).map V.str) := V5.strsB_of ((Bool.and_eq_true_iff.mp (Bool.and_eq_true_iff.mp h).2).2) H
structure Tx (K : PySem.W.Frag) (w : World) (mg : Str → Option Value) : Prop where
  c : He.SaysD fa fn K
  ex : exB1 K = true
  forms : V5.Forms K w (He.ga K "FORMS") formsL
  sBARE : ∀ H : L2.Hp, SqT K H (He.ga K "BARE") ((["many", "last"] : List Str).map V.str)
  lam : ∀ x ∈ lamN, V4.LamD K (He.ga K x)
  nd : (lamN.map fun x => (V4.pairOf K (He.ga K x)).2).Nodup
  h : ∃ h : Heap, K.In h ∧ h.Ns mainGlobals mg
section
variable {K : PySem.W.Frag} {w : World} {mg : Str → Option Value}
theorem Tx.glo (T : Tx K w mg) (i : Nat) {x : Str} (e : fa[i]? = some (.glo x)) : mg x = some (.ref (He.ga K x)) := by
  obtain ⟨h, X, G⟩ := T.h
  exact He.glo_ok X G (T.c.fact i e)
theorem Tx.free (T : Tx K w mg) (i : Nat) {x : Str} (e : fa[i]? = some (.free x)) : mg x = none := by
  obtain ⟨h, X, G⟩ := T.h
  exact He.free_ok X G (T.c.fact i e)
theorem Tx.int (T : Tx K w mg) (i : Nat) {x : Str} {n : Int} (e : fa[i]? = some (.int x n)) : ∃ t, mg x = some (.int n t) := by
  obtain ⟨h, X, G⟩ := T.h
  exact He.int_ok X G (T.c.fact i e)
theorem Tx.noat (T : Tx K w mg) (i : Nat) {x f : Str} (e : fa[i]? = some (.noat x f)) : PySem.W.findIn K (.ref (He.ga K x)) f = some none := He.noat_ok (T.c.fact i e)
theorem Tx.exq (T : Tx K w mg) (i : Nat) {x : Str} (e : fa[i]? = some (.exc x)) : PySem.W.excIn K (He.ga K x) He.veBase "ValueError.__new__" = true ∧ PySem.W.keepIn K (.ref (He.ga K x)) = true := by
  have z := He.exc_ok (T.c.fact i e)
  exact ⟨z.1, z.2.1⟩
end
end K07

set_option maxHeartbeats 4000000
namespace V2
open PySem PySem.Spec PyProof.Rows L2 V1
def fromTo (lo hi : Int) : PyData → Bool
  | .int n => decide (lo ≤ n) && decide (n ≤ hi)
  | _ => false
def tupOf (lo hi : Int) : PyData → Bool
  | .tuple xs => decide (lo ≤ (xs.length : Int)) && decide ((xs.length : Int) ≤ hi)
  | _ => false
theorem fromTo_int {lo hi : Int} {d : PyData} (h : fromTo lo hi d = true) : ∃ n, d = .int n ∧ lo ≤ n ∧ n ≤ hi := by
  cases d with
  | int n =>
    have z : decide (lo ≤ n) = true ∧ decide (n ≤ hi) = true := by simpa [fromTo] using h
    exact ⟨n, rfl, of_decide_eq_true z.1, of_decide_eq_true z.2⟩
  | _ => cases h
theorem tupOf_tup {lo hi : Int} {d : PyData} (h : tupOf lo hi d = true) : ∃ xs, d = .tuple xs ∧ lo ≤ (xs.length : Int) ∧ (xs.length : Int) ≤ hi := by
  cases d with
  | tuple xs =>
    have z : decide (lo ≤ (xs.length : Int)) = true ∧ decide ((xs.length : Int) ≤ hi) = true := by simpa [tupOf] using h
    exact ⟨xs, rfl, of_decide_eq_true z.1, of_decide_eq_true z.2⟩
  | _ => cases h
theorem isInt_int {d : PyData} (h : isInt d = true) : ∃ n, d = .int n := by
  cases d with
  | int n => exact ⟨n, rfl⟩
  | _ => cases h
theorem isTup_tup {d : PyData} (h : isTup d = true) : ∃ n, d = .tuple n := by
  cases d with
  | tuple n => exact ⟨n, rfl⟩
  | _ => cases h
theorem Dq.int_inv {H : Hp} {v : V} {n : Int} (h : Dq H v (.int n)) : v = .int n := by
  cases h
  rfl
theorem Dq.tup_inv {H : Hp} {v : V} {ds : List PyData} (h : Dq H v (.tuple ds)) : ∃ a vs, v = .ref a ∧ H a = some (.tup vs) ∧ DqAll H vs ds := by
  cases h with
  | tup e r => exact ⟨_, _, rfl, e, r⟩
end V2
namespace K07
open PySem PySem.Spec PyProof.Rows L2 V1 V2 V3 V6
open Evl (pss_cut tCut sq_of st_of)
abbrev K [k : CurK] : PySem.W.Frag := k.K
section
variable [CurK]
def spTupOf : Sp := fun vs H Q _ => ∃ v d lo hi, vs = [v, .int lo, .int hi] ∧ Dx H v d ∧ Q (.bl (tupOf lo hi d)) H
theorem scTupOf : FnScope ["thing", "least", "most"] ["thing", "least", "most"] (defScope s_is_tuple_of) := ⟨rfl, rfl, rfl, by decide +kernel, rfl, by decide +kernel, by decide +kernel⟩
end
section
variable [CurK] {P : Program} {w : World} {mg : Str → Option Value} {base : Heap}
theorem ok_tupOf (T : Tx K w mg) : Has P w K mg base CX0 1 "is_tuple_of" ["thing", "least", "most"] spTupOf := by
  obtain ⟨fd, F⟩ := T.c.def_ 0 (d := d_is_tuple_of) rfl
  refine ⟨fd, F.ok scTupOf (fun vs H Q E h => ?_) (fun cdv A outer s H vs Q E hr h => ?_), FunD.bindsN F fun _ _ _ _ _ _ us hl => match us, hl with | [_, _, _], _ => rfl, F.kp, (T.glo 2 rfl)⟩
  · obtain ⟨v, d, lo, hi, rfl, _⟩ := h
    rfl
  · refine ⟨_, PSs.nox (pss_one (ps_ret (pe_and (pe_callB call_isi (by rfl) (T.free 75 rfl) (by decide +kernel) (pa_cons (pv 0) (pa_cons (pe_bltn (v := .ty "tuple") (by rfl) (T.free 81 rfl) (by decide +kernel) rfl) pa_nil))) (pe_one (pe_chain op_le op_le (pv 1) (pe_callB call_len (by rfl) (T.free 76 rfl) PySem.boot_len (pa_cons (pv 0) pa_nil)) (pv 2)))))), ?_⟩
    obtain ⟨v, d, lo, hi, rfl, hd, hQ⟩ := h
    refine isx_go (kx_tup d) (fun Q q => ⟨v, rfl, q⟩) hd ⟨_, rfl, ite2 (fun e => ?_) (fun e => ?_)⟩
    · obtain ⟨xs, rfl⟩ := isTup_tup e
      obtain ⟨a, vs, rfl, hv, hr⟩ := Dx.tup_inv hd
      have len := dxAll_len hr
      refine ⟨_, rfl, _, rfl, _, _, rfl, .inr ⟨vs, st_of hv, rfl⟩, lo, _, rfl, rfl, _, rfl, ite2 (fun e1 => ?_) (fun e1 => ?_)⟩
      · refine ⟨_, rfl, _, hi, rfl, rfl, ?_⟩
        rw [len] at e1 ⊢
        have z : tupOf lo hi (.tuple xs) = decide ((xs.length : Int) ≤ hi) := by
          show (decide (lo ≤ (xs.length : Int)) && _) = _
          rw [e1, Bool.true_and]
        rw [z] at hQ
        exact hQ
      · rw [len] at e1
        have z : tupOf lo hi (.tuple xs) = false := by
          show (decide (lo ≤ (xs.length : Int)) && _) = _
          rw [Bool.eq_false_iff.mpr e1, Bool.false_and]
        rw [z] at hQ
        exact hQ
    · cases d <;> first | exact hQ | exact absurd rfl e
end
section
variable [CurK]
/-- texts of this shape are short enough to be asked for their length -/
def shortD : PyData → Prop
  | .str x => x.length ≤ 12000000
  | _ => True
def spWord : Sp := fun vs H Q _ => ∃ v d, vs = [v] ∧ Dx H v d ∧ shortD d ∧ Q (.bl (wordD d)) H
def spRow : Sp := fun vs H Q _ => ∃ v d, vs = [v] ∧ Dx H v d ∧ (∀ ds, d = .tuple ds → ∀ x ∈ ds, shortD x) ∧ ∀ H', Same H H' → Q (.bl (rowD d)) H'
end
theorem scWord : FnScope ["thing"] ["thing"] (defScope s_is_word) := ⟨rfl, rfl, rfl, by decide +kernel, rfl, by decide +kernel, by decide +kernel⟩
theorem scRow : FnScope ["thing", "word"] ["thing"] (defScope s_is_row) := ⟨rfl, rfl, rfl, by decide +kernel, rfl, by decide +kernel, by decide +kernel⟩
section
variable [CurK] {P : Program} {w : World} {mg : Str → Option Value} {base : Heap}
theorem ok_word (T : Tx K w mg) : Has P w K mg base CX0 1 "is_word" ["thing"] spWord := by
  obtain ⟨fd, F⟩ := T.c.def_ 1 (d := d_is_word) rfl
  obtain ⟨tMS, gMS⟩ := (T.int 0 rfl)
  refine ⟨fd, F.ok scWord (fun vs H Q E h => ?_) (fun cdv A outer s H vs Q E hr h => ?_), FunD.bindsN F fun _ _ _ _ _ _ us hl => match us, hl with | [_], _ => rfl, F.kp, (T.glo 3 rfl)⟩
  · obtain ⟨v, d, rfl, _⟩ := h
    rfl
  · refine ⟨_, PSs.nox (pss_one (ps_ret (pe_and (pe_callB call_isi (by rfl) (T.free 75 rfl) (by decide +kernel) (pa_cons (pv 0) (pa_cons (pe_bltn (v := .ty "str") (by rfl) (T.free 80 rfl) (by decide +kernel) rfl) pa_nil))) (pe_and (pe_cmpR op_le (pe_callB call_len (by rfl) (T.free 76 rfl) PySem.boot_len (pa_cons (pv 0) pa_nil)) (pe_glob (v := .int 40) (by rfl) gMS ⟨_, rfl⟩) (nomark _)) (pe_and (pe_m0 PySem.F.slot_str_isascii PySem.F.type_str_isascii mt_isascii (pv 0)) (pe_one (pe_m0 PySem.F.slot_str_isprintable PySem.F.type_str_isprintable mt_isprintable (pv 0)))))))), ?_⟩
    obtain ⟨v, d, rfl, hd, hs, hQ⟩ := h
    refine isx_go (kx_str d) (fun Q q => ⟨v, rfl, q⟩) hd ⟨_, rfl, ite2 (fun e => ?_) (fun e => ?_)⟩
    · cases d with
      | str x =>
        obtain rfl := Dx.str_inv hd
        have hs' : x.length ≤ 12000000 := hs
        refine ⟨_, rfl, _, _, rfl, (show LenV K (.str x) H x.length from ⟨Nat.le_trans hs' (by decide), rfl⟩), _, _, rfl, rfl, _, rfl, ite2 (fun e1 => ?_) (fun e1 => ?_)⟩
        · have l1 : decide (x.length ≤ 40) = true := by
            have z := of_decide_eq_true e1
            exact decide_eq_true (by omega)
          have wx : wordD (.str x) = (Txt.isascii x && Txt.isprintable x) := by
            show (decide (x.length ≤ 40) && _) = _
            rw [l1, Bool.true_and]
          rw [wx] at hQ
          refine ⟨_, rfl, ⟨_, rfl⟩, x, rfl, rfl, trivial, _, rfl, ite2 (fun e2 => ?_) (fun e2 => ?_)⟩
          · rw [e2, Bool.true_and] at hQ
            exact ⟨_, rfl, ⟨_, rfl⟩, x, rfl, rfl, trivial, hQ⟩
          · rw [Bool.eq_false_iff.mpr e2, Bool.false_and] at hQ
            exact hQ
        · have l1 : decide (x.length ≤ 40) = false := by
            refine decide_eq_false fun z => e1 (decide_eq_true ?_)
            omega
          have wx : wordD (.str x) = false := by
            show (decide (x.length ≤ 40) && _) = _
            rw [l1, Bool.false_and]
          rw [wx] at hQ
          exact hQ
      | _ => cases e
    · cases d <;> first | exact hQ | exact absurd rfl e
theorem ok_row (T : Tx K w mg) : Has P w K mg base CX0 2 "is_row" ["thing"] spRow := by
  obtain ⟨fd, F⟩ := T.c.def_ 2 (d := d_is_row) rfl
  have Ht := ok_tupOf (P := P) (w := w) (base := base) T
  have Hw := ok_word (P := P) (w := w) (base := base) T
  obtain ⟨tMW, gMW⟩ := (T.int 1 rfl)
  refine ⟨fd, F.ok scRow (fun vs H Q E h => ?_) (fun cdv A outer s H vs Q E hr h => ?_), FunD.bindsN F fun _ _ _ _ _ _ us hl => match us, hl with | [_], _ => rfl, F.kp, (T.glo 4 rfl)⟩
  · obtain ⟨v, d, rfl, _⟩ := h
    rfl
  · refine ⟨_, PSs.nox (pss_one (ps_ret (pe_and (pe_has Ht (hr.mono (by decide)) pass0 (pa_cons (pv 0) (pa_cons pe_int (pa_cons (pe_glob (v := .int 400) (by rfl) gMW ⟨_, rfl⟩) pa_nil)))) (pe_one (pe_callB (cr_all rfl) (by rfl) (T.free 70 rfl) (by decide +kernel) (pa_cons (pe_lc (own := [("word", 1)]) (g := gName 1) (tt := tYes) (te := tCall spWord [] (fun _ _ _ => False) (tCons (tVar 1) tNil)) (by rfl) scRow.nd (pi_tup (pv 0))
 (blkOk_by (own := [("word", 1)]) (N := ["thing", "word"]) (sc := defScope s_is_row) (by decide +kernel)) (fun _ _ _ _ _ => pg_name (i := 1) scRow.nd rfl (Or.inl rfl)) (fun _ _ _ _ _ => pts_nil) (fun _ _ _ _ _ => (pe_has Hw (hr.mono (by decide)) pass0 (pa_cons (pv 1) pa_nil)))) pa_nil)))))), ?_⟩
    obtain ⟨v, d, rfl, hd, hs, hQ⟩ := h
    refine ⟨v, rfl, v, d, 0, 400, rfl, hd, _, rfl, ite2 (fun e => ?_) (fun e => ?_)⟩
    · obtain ⟨ds, rfl, _, l2⟩ := tupOf_tup e
      have l4 : ds.length ≤ 400 := by omega
      obtain ⟨a, us, rfl, ha, hr'⟩ := Dx.tup_inv hd
      have lu := dxAll_len hr'
      refine ⟨_, rfl, a, rfl, ⟨_, st_of ha⟩, fun D nD => ?_⟩
      refine lc_gen (σ := [some (.ref a), none]) (vs := [1]) (walk_tup (K := K) (a := a) (xs := us)) nD (fun i acc H' => Same H H' ∧ acc = (ds.take i).map fun d => V.bl (wordD d)) ⟨Same.refl H, rfl⟩ (fun i acc H' _ z => st_of (same_delH _ _ (z.1 _ _ ha))) ?_ ?_
      · rintro i acc x H1 H2 hi l e2 ⟨sm, rfl⟩ ⟨rfl, hx⟩
        have di : ds[i]? = some ds[i] := List.getElem?_eq_getElem (by omega)
        have sm' : Same H H2 := sm.trans same_delH
        refine ⟨rfl, ?_⟩
        simp only [tYes, if_true]
        refine ⟨_, rfl, x, ds[i], rfl, Dx.same sm' _ _ (DxAll.at hr' hx di), hs ds rfl _ (List.getElem_mem (by omega)), ?_⟩
        exact lc_put l (by omega) e2 ⟨sm, by rw [List.take_succ, di, List.map_append]; rfl⟩
      · rintro acc H2 l e2 ⟨sm, rfl⟩
        rw [lu, List.take_length] at e2
        refine ⟨D, ds.map wordD, rfl, sq_of (by rw [List.map_map]; exact e2), ?_⟩
        have z : rowD (.tuple ds) = (ds.map wordD).all id := by
          show (decide (ds.length ≤ 400) && ds.all wordD) = _
          rw [decide_eq_true l4, Bool.true_and, List.all_map]
          rfl
        rw [← z]
        exact hQ H2 (sm.trans same_delH)
    · have z : rowD d = false := by
        cases d with
        | tuple ds =>
          have n : ¬ ds.length ≤ 400 := fun h => e (by
            show (decide ((0 : Int) ≤ (ds.length : Int)) && decide ((ds.length : Int) ≤ 400)) = true
            rw [decide_eq_true (by omega), decide_eq_true (by omega)]
            rfl)
          show (decide (ds.length ≤ 400) && _) = false
          rw [decide_eq_false n, Bool.false_and]
        | _ => rfl
      have y := hQ H (Same.refl H)
      rw [z] at y
      exact y
end
section
variable {K : PySem.W.Frag} {mg : Str → Option Value}
theorem Tx.exs (T : Tx K w mg) : ExK K (He.ga K "TalkError") veB ∧ (∀ x ∈ errs, ExK K (He.ga K x) (.ref (He.ga K "TalkError") :: veB)) ∧ (He.ga K "TalkError" :: errs.map (He.ga K)).Nodup ∧ ClsAttr K := by
  have e := T.ex
  unfold exB1 exB0 at e
  simp only [Bool.and_eq_true, List.all_eq_true, decide_eq_true_eq] at e
  exact ⟨exK_of e.1.1, fun x hx => exK_of (e.1.2.1 x hx), e.1.2.2.1, clsAttr_of e.1.2.2.2⟩
theorem Tx.insK (T : Tx K w mg) (i : Nat) {x : Str} (h : plainC[i]? = some x) : InsK K (He.ga K x) := by
  have e := T.ex
  unfold exB1 exI at e
  simp only [Bool.and_eq_true, List.all_eq_true] at e
  exact insK_of (e.2.1 x (List.mem_of_getElem? h))
theorem Tx.kind (T : Tx K w mg) (i : Nat) {x : Str} (h : plainC[i]? = some x) : V3.kindB K (He.ga K x) = true := by
  have e := T.ex
  unfold exB1 exK at e
  simp only [Bool.and_eq_true, List.all_eq_true] at e
  exact (e.2.2 x (List.mem_of_getElem? h)).1
/-- two plain classes: neither holds the other's objects -/
theorem Tx.two (T : Tx K w mg) (i j : Nat) {x y : Str} (h : plainC[i]? = some x) (h' : plainC[j]? = some y) (ne : (x == y) = false) : PySem.W.kitOne K (.ref (He.ga K x)) (.ref (He.ga K y)) = some false ∧ PySem.W.notFirst K (He.ga K x) (.ref (He.ga K y)) = true := by
  have e := T.ex
  unfold exB1 exK at e
  simp only [Bool.and_eq_true, List.all_eq_true] at e
  have z := (e.2.2 x (List.mem_of_getElem? h)).2 y (List.mem_of_getElem? h')
  rw [ne, Bool.false_or, Bool.and_eq_true, decide_eq_true_eq] at z
  exact z
theorem Tx.one (T : Tx K w mg) (i : Nat) {x : Str} (h : errs[i]? = some x) : ExK K (He.ga K x) (.ref (He.ga K "TalkError") :: veB) := T.exs.2.1 x (List.mem_of_getElem? h)
end
theorem Tx.obC [CurK] {mg : Str → Option Value} (T : Tx K w mg) (i : Nat) {x : Str} (h : plainC[i]? = some x) (c : Cls K (He.ga K x)) : ObC (He.ga K x) := obC_of ((T.insK i h).ins c T.exs.2.2.2) (T.kind i h)
end K07

set_option maxHeartbeats 4000000
namespace K07
open PySem PySem.Spec PyProof.Rows L2 V1 V2 V3 V6
open Evl (pss_cut tCut sq_of st_of)
/-- a pair of a row and a word -/
def pairD : PyData → Bool
  | .tuple [a, b] => rowD a && wordD b
  | _ => false
/-- texts within, so deep, are short -/
def shortP : PyData → Prop
  | .tuple ds => ∀ d ∈ ds, shortD d ∧ ∀ es, d = .tuple es → ∀ x ∈ es, shortD x
  | _ => True
def spRw [CurK] : Sp := fun vs H Q _ => ∃ v d, vs = [v] ∧ Dx H v d ∧ shortP d ∧ ∀ H', Same H H' → Q (.bl (pairD d)) H'
theorem scRw : FnScope ["thing"] ["thing"] (defScope s_is_row_and_word) := ⟨rfl, rfl, rfl, by decide +kernel, rfl, by decide +kernel, by decide +kernel⟩
section
variable [CurK] {P : Program} {w : World} {mg : Str → Option Value} {base : Heap}
theorem ok_rw (T : Tx K w mg) : Has P w K mg base CX0 3 "is_row_and_word" ["thing"] spRw := by
  obtain ⟨fd, F⟩ := T.c.def_ 17 (d := d_is_row_and_word) rfl
  have Ht := ok_tupOf (P := P) (w := w) (base := base) T
  have Hw := ok_word (P := P) (w := w) (base := base) T
  have Hr := ok_row (P := P) (w := w) (base := base) T
  refine ⟨fd, F.ok scRw (fun vs H Q E h => ?_) (fun cdv A outer s H vs Q E hr h => ?_), FunD.bindsN F fun _ _ _ _ _ _ us hl => match us, hl with | [_], _ => rfl, F.kp, (T.glo 33 rfl)⟩
  · obtain ⟨v, d, rfl, _⟩ := h
    rfl
  · refine ⟨_, PSs.nox (pss_one (ps_ret (pe_and (pe_has Ht (hr.mono (by decide)) pass0 (pa_cons (pv 0) (pa_cons pe_int (pa_cons pe_int pa_nil)))) (pe_and (pe_has Hr (hr.mono (by decide)) pass0 (pa_cons (pe_ix ix_tup (pv 0) pe_int (fun _ _ => rfl)) pa_nil)) (pe_one (pe_has Hw (hr.mono (by decide)) pass0 (pa_cons (pe_ix ix_tup (pv 0) pe_int (fun _ _ => rfl)) pa_nil))))))), ?_⟩
    obtain ⟨v, d, rfl, hd, hs, hQ⟩ := h
    refine ⟨v, rfl, v, d, 2, 2, rfl, hd, _, rfl, ?_⟩
    cases e : tupOf 2 2 d with
    | false =>
      have z : pairD d = false := by
        match d, e with
        | .tuple [a, b], e => simp [tupOf] at e
        | .tuple [], _ => rfl
        | .tuple [_], _ => rfl
        | .tuple (_ :: _ :: _ :: _), _ => rfl
        | .none, _ | .bool _, _ | .int _, _ | .str _, _ | .list _, _ | .dict _, _ => rfl
      rw [z] at hQ
      exact iteF (hQ H (Same.refl H))
    | true =>
      obtain ⟨xs, rfl, l1, l2⟩ := tupOf_tup e
      have l3 : xs.length = 2 := by omega
      match xs, l3 with
      | [a, b], _ =>
      obtain ⟨p, vs, rfl, hp, hr'⟩ := Dx.tup_inv hd
      cases hr' with | @cons va _ _ _ qa r1 =>
      cases r1 with | @cons vb _ _ _ qb r2 =>
      cases r2
      have sa := hs a List.mem_cons_self
      have sb := hs b (List.mem_cons_of_mem _ List.mem_cons_self)
      have td : pairD (.tuple [a, b]) = (rowD a && wordD b) := rfl
      rw [td] at hQ
      refine iteT ⟨_, rfl, p, _, 0, va, rfl, rfl, st_of hp, rfl, va, a, rfl, qa, sa.2, fun H1 s1 => ⟨_, rfl, ?_⟩⟩
      cases h1 : rowD a with
      | false =>
        rw [h1, Bool.false_and] at hQ
        exact iteF (hQ H1 s1)
      | true =>
        rw [h1, Bool.true_and] at hQ
        exact iteT ⟨_, rfl, p, _, 1, vb, rfl, rfl, st_of (s1 _ _ hp), rfl, vb, b, rfl, Dx.same s1 _ _ qb, sb.1, hQ H1 s1⟩
end
end K07

set_option maxHeartbeats 4000000
namespace K07
open PySem PySem.Spec PyProof.Rows L2 V1 V2 V3 V6
open Evl (pss_cut tCut sq_of st_of)
def txOf : PyData → List Str
  | .tuple ds => ds.map fun d => match d with
    | .str x => x
    | _ => Str.empty
  | _ => []
def rowOf : PyData → List Str
  | .tuple (r :: _) => txOf r
  | _ => []
def okP (ds : List PyData) (i : Nat) : Bool := pairD (ds.getD i .none) && !(decide (0 < i) && rowLe (rowOf (ds.getD i .none)) (rowOf (ds.getD (i - 1) .none)))
theorem row_texts [CurK] {H : Hp} : ∀ {vs : List V} {ds : List PyData}, ds.all wordD = true → DxAll H vs ds → vs = (txOf (.tuple ds)).map V.str
  | _, [], _, .nil => rfl
  | _, d :: ds, h, .cons one more => by
    have z : wordD d = true ∧ ds.all wordD = true := by simpa using h
    cases d with
    | str x =>
      rw [Dx.str_inv one, row_texts z.2 more]
      rfl
    | _ => exact absurd z.1 (by simp [wordD])
theorem pair_inv {d : PyData} (h : pairD d = true) : ∃ ds b, d = .tuple [.tuple ds, b] ∧ ds.all wordD = true ∧ ds.length ≤ 400 ∧ wordD b = true := by
  match d, h with
  | .tuple [a, b], h =>
    have z : rowD a = true ∧ wordD b = true := by simpa [pairD] using h
    cases a with
    | tuple ds =>
      have y : ds.length ≤ 400 ∧ ds.all wordD = true := by simpa [rowD] using z.1
      exact ⟨ds, b, rfl, y.2, y.1, z.2⟩
    | _ => exact absurd z.1 (by simp [rowD])
def spCheck [CurK] : Sp := fun vs H Q E => ∃ a us ds, vs = [.ref a] ∧ H a = some (.tup us) ∧ DxAll H us ds ∧ (∀ d ∈ ds, shortP d) ∧
  ((∀ i, i < ds.length → okP ds i = true) → ∀ H', Same H H' → Q .non H') ∧
  ∀ i, i < ds.length → okP ds i = false → (∀ j, j < i → okP ds j = true) → ∀ d H', H d = none → Same H H' → H' d = some (.xd [("part", .int i)]) → E (.ref (He.ga K "BadTable")) (some d) H'
theorem scCheck : FnScope ["pairs", "at", "pair"] ["pairs"] (defScope s_check_pairs) := ⟨rfl, rfl, rfl, by decide +kernel, rfl, by decide +kernel, by decide +kernel⟩
theorem scBad : FnScope ["self", "part"] ["self", "part"] (defScope s_BadTable__init__) := ⟨rfl, rfl, rfl, by decide +kernel, rfl, by decide +kernel, by decide +kernel⟩
theorem getD_at {ds : List PyData} {i : Nat} (h : i < ds.length) : ds[i]? = some (ds.getD i .none) := by
  rw [List.getElem?_eq_getElem h]
  simp [List.getD, h]
section
variable [CurK] {P : Program} {w : World} {mg : Str → Option Value} {base : Heap}
theorem fldBad (T : Tx K w mg) : Fld P w K mg base "BadTable" "part" := by
  obtain ⟨fd, F⟩ := T.c.def_ 51 (d := d_BadTable__init__) rfl
  exact fld_of F scBad rfl (T.glo 6 rfl) (T.one 0 rfl) rfl rfl (T.noat 84 rfl) (He.meth_ok (T.c.fact 83 rfl)) (by decide) (by decide) (Or.inl rfl) (Or.inl rfl) (fun _ => rfl) (FunD.bindsN F fun _ _ _ _ _ _ us hl => match us, hl with | [_, _], _ => rfl)
theorem ok_check (T : Tx K w mg) : Has P w K mg base (L2.CX P w) 5 "check_pairs" ["pairs"] spCheck := by
  obtain ⟨fd, F⟩ := T.c.def_ 18 (d := d_check_pairs) rfl
  have Hrw := ok_rw (P := P) (w := w) (base := base) T
  refine ⟨fd, F.ok scCheck (fun vs H Q E h => ?_) (fun cdv A outer s H vs Q E hr h => ?_), FunD.bindsN F fun _ _ _ _ _ _ us hl => match us, hl with | [_], _ => rfl, F.kp, (T.glo 34 rfl)⟩
  · obtain ⟨a, us, ds, rfl, _⟩ := h
    rfl
  · refine ⟨_, (pss_one (ps_for (passes_of rfl) rfl (pi_enumT (by rfl) (T.free 73 rfl) (pa_cons (pv 0) pa_nil)) (pg_tup (by rfl) (pgs_cons (pg_name (i := 1) scCheck.nd rfl (Or.inl rfl)) (pgs_cons (pg_name (i := 2) scCheck.nd rfl (Or.inl rfl)) pgs_nil)))
 (pss_cons (ps_if (pt_not (pt_val (pe_has Hrw (hr.mono (by decide)) pass0 (pa_cons (pv 2) pa_nil))))
 (pss_one (ps_raise rfl (takes_of rfl rfl rfl rfl) (pmk_fld (fldBad T) (hr.mono (by decide)) (pa_cons (pv 1) pa_nil))))
 pss_nil)
 (pss_one (ps_if (PW.pt (pw_and (pt_cmpR op_gt (pv 1) pe_int (nomark _)) (pw_and1 (pt_cmpR (op_leTS hr.units0) (pe_ix ix_tup (pv 2) pe_int (fun _ _ => rfl)) (pe_ix ix_tup (pe_ix ix_tup (pv 0) (pe_op op_sub (pv 1) pe_int) (fun _ _ => rfl)) pe_int (fun _ _ => rfl)) (nomark _)))))
 (pss_one (ps_raise rfl (takes_of rfl rfl rfl rfl) (pmk_fld (fldBad T) (hr.mono (by decide)) (pa_cons (pv 1) pa_nil))))
 pss_nil))))), ?_⟩
    obtain ⟨a, us, ds, rfl, ha, hr', sh, hQ, hE⟩ := h
    have len := dxAll_len hr'
    refine ⟨_, rfl, a, us, rfl, st_of ha, ?_⟩
    refine for_it walk_enumT (fun i σ H' => Same H H' ∧ (∃ o1 o2, σ = [some (.ref a), o1, o2]) ∧ ∀ j, j < i → okP ds j = true) ⟨Same.refl H, ⟨_, _, rfl⟩, fun j hj => absurd hj (Nat.not_lt_zero j)⟩ (fun i σ H' _ p => st_of (p.1 _ _ ha)) ?_ (fun σ H' p => hQ (fun i hi => p.2.2 i (by omega)) H' p.1)
    rintro i x σ H1 H2 hi ⟨s1, ⟨o1, o2, rfl⟩, hok⟩ ⟨p, z1, v, rfl, np, rfl, e1, e2⟩
    obtain rfl := Option.some.inj e1
    have hi' : i < ds.length := by omega
    have s2 : Same H (upd H1 p (.tup [.int (i : Nat), v])) := s1.trans (same_new np)
    have ha2 := s2 _ _ ha
    have hv : Dx (upd H1 p (.tup [.int (i : Nat), v])) v (ds.getD i .none) := Dx.same s2 _ _ (DxAll.at hr' e2 (getD_at hi'))
    have ep : upd H1 p (.tup [.int (i : Nat), v]) p = some (.tup [.int (i : Nat), v]) := upd_same
    have boom : okP ds i = false → ∀ Z : L2.Hp, Same H Z → tMkO (He.ga K "BadTable") (spIni K (He.ga K "BadTable") "part") [] (tCons (tVar 1) tNil) [some (.ref a), some (.int (i : Nat)), some v] Z E := fun e Z sz =>
      raise_go (v := .int (i : Nat)) (fun Q q => ⟨_, rfl, q⟩) fun d H' nd sm hd => hE i hi' e hok d H' (fresh_up sz nd) (sz.trans sm) hd
    have shi : shortP (ds.getD i .none) := sh _ (by
      have z : ds.getD i .none = ds[i] := by simp [List.getD, hi']
      rw [z]
      exact List.getElem_mem hi')
    generalize upd H1 p (.tup [.int (i : Nat), v]) = H3 at s2 ha2 hv ep
    refine ⟨p, _, rfl, st_of ep, rfl, ?_⟩
    refine ⟨_, _, rfl, _, _, rfl, rfl, ?_⟩
    have look_ : okP ds i = (pairD (ds.getD i .none) && !(decide (0 < i) && rowLe (rowOf (ds.getD i .none)) (rowOf (ds.getD (i - 1) .none)))) := rfl
    refine ⟨_, rfl, v, _, rfl, hv, shi, fun H4 s4 => ⟨_, rfl, ite2 (fun e => ?_) (fun e => ?_)⟩⟩
    · refine boom ?_ _ (s2.trans s4)
      rw [look_, show pairD (ds.getD i .none) = false by simpa using e, Bool.false_and]
    have e' : pairD (ds.getD i .none) = true := by simpa using e
    obtain ⟨rs, b, hd, ra, rl, wb⟩ := pair_inv e'
    have s24 := s2.trans s4
    have kn : rowOf (ds.getD i .none) = txOf (.tuple rs) := by rw [hd]; rfl
    rw [hd] at hv
    obtain ⟨q, ws, rfl, hq3, hw⟩ := Dx.tup_inv hv
    cases hw with | @cons va _ _ _ qa r1 =>
    cases r1 with | @cons vb _ _ _ qb r2 =>
    cases r2
    obtain ⟨r, ts, rfl, hr3, ht⟩ := Dx.tup_inv qa
    obtain rfl := row_texts ra ht
    have hq := s4 _ _ hq3
    have hr4 := s4 _ _ hr3
    have ha4 := s4 _ _ ha2
    refine ⟨_, rfl, _, _, rfl, rfl, _, rfl, ite2 (fun e1 => ?_) (fun e1 => ?_)⟩
    · have i0 : 0 < i := by
        have z := of_decide_eq_true e1
        omega
      obtain ⟨rs', b', hd', ra', rl', wb'⟩ := pair_inv (Bool.and_eq_true_iff.mp (hok (i - 1) (by omega))).1
      have hj : i - 1 < ds.length := by omega
      have ej : us[i - 1]? = some (us.getD (i - 1) .non) := by
        rw [List.getElem?_eq_getElem (by omega : i - 1 < us.length)]
        simp [List.getD, (by omega : i - 1 < us.length)]
      have hv' : Dx H4 (us.getD (i - 1) .non) (.tuple [.tuple rs', b']) := by
        rw [← hd']
        exact Dx.same s24 _ _ (DxAll.at hr' ej (getD_at hj))
      obtain ⟨q', ws', eq', hq', hw'⟩ := Dx.tup_inv hv'
      rw [eq'] at ej
      cases hw' with | @cons va' _ _ _ qa' r1' =>
      cases r1' with | @cons vb' _ _ _ qb' r2' =>
      cases r2'
      obtain ⟨r', ts', rfl, hr', ht'⟩ := Dx.tup_inv qa'
      obtain rfl := row_texts ra' ht'
      have kn' : rowOf (ds.getD (i - 1) .none) = txOf (.tuple rs') := by rw [hd']; rfl
      have at' : atI us ((i : Int) - 1) = some (.ref q') := by
        have z : ((i : Int) - 1) = ((i - 1 : Nat) : Int) := by omega
        rw [z]
        exact atI_nat ej
      refine ⟨_, rfl, q, _, 0, _, rfl, rfl, st_of hq, rfl, _, rfl, _, rfl, _, _, rfl, rfl, a, us, _, _, rfl, rfl, st_of ha4, at', q', _, 0, _, rfl, rfl, st_of hq', rfl, r, r', _, _, rfl, rfl, st_of hr4, st_of hr', _, rfl, ite2 (fun e2 => ?_) (fun e2 => ?_)⟩
      · refine boom ?_ _ s24
        rw [look_, e', decide_eq_true i0, kn, kn', e2]
        rfl
      · refine ⟨s24, ⟨_, _, rfl⟩, fun j hj => ?_⟩
        by_cases ej : j = i
        · rw [ej, look_, e', decide_eq_true i0, kn, kn', Bool.eq_false_iff.mpr e2]
          rfl
        · exact hok j (by omega)
    · refine ⟨s24, ⟨_, _, rfl⟩, fun j hj => ?_⟩
      by_cases ej : j = i
      · have z : decide (0 < i) = false := by
          refine decide_eq_false fun z => e1 (decide_eq_true ?_)
          omega
        rw [ej, look_, e', z, Bool.false_and]
        rfl
      · exact hok j (by omega)
end
end K07

set_option maxHeartbeats 4000000
namespace K07
open PySem PySem.Spec PyProof.Rows L2 V1 V2 V3 V6
open Evl (pss_cut tCut sq_of st_of)
/-! the order of rows -/
def keyR (r : List Str) : List (List Nat) := r.map fun x => x.cps.toList
theorem str_ext {x y : Str} (h : x.cps.toList = y.cps.toList) : x = y := by
  cases x; cases y
  simp only [Str.mk.injEq]
  exact Array.toList_inj.mp h
theorem keyR_inj : ∀ {r s : List Str}, keyR r = keyR s → r = s
  | [], [], _ => rfl
  | [], _ :: _, h => by cases h
  | _ :: _, [], h => by cases h
  | x :: r, y :: s, h => by
    have z := List.cons.inj h
    rw [str_ext z.1, keyR_inj z.2]
theorem rowLe_key : ∀ r s : List Str, rowLe r s = !decide (keyR s < keyR r)
  | [], s => by
    have z : ¬ keyR s < keyR [] := List.not_lt_nil _
    rw [decide_eq_false z]
    rfl
  | x :: r, [] => by
    have z : keyR [] < keyR (x :: r) := List.nil_lt_cons _ _
    rw [decide_eq_true z]
    rfl
  | x :: r, y :: s => by
    have z : (keyR (y :: s) < keyR (x :: r)) ↔ (y.cps.toList < x.cps.toList ∨ y.cps.toList = x.cps.toList ∧ keyR s < keyR r) := List.cons_lt_cons_iff
    show (if (x == y) = true then rowLe r s else txLe x y) = _
    by_cases e : x = y
    · subst e
      rw [if_pos (beq_self_eq_true x), rowLe_key r s]
      congr 1
      refine decide_eq_decide.mpr ⟨fun h => z.mpr (.inr ⟨rfl, h⟩), fun h => ?_⟩
      rcases z.mp h with q | q
      · exact absurd q (List.lt_irrefl _)
      · exact q.2
    · rw [if_neg (by simpa using e)]
      show (!decide (y.cps.toList < x.cps.toList)) = _
      congr 1
      refine decide_eq_decide.mpr ⟨fun h => z.mpr (.inl h), fun h => ?_⟩
      rcases z.mp h with q | q
      · exact q
      · exact absurd (str_ext q.1).symm e
/-! right pairs -/
abbrev Tp := List (List Str × Str)
def mkR (r : List Str) : PyData := .tuple (r.map .str)
def mkP (t : List Str × Str) : PyData := .tuple [mkR t.1, .str t.2]
def look (ts : Tp) (r : List Str) : Option Str := (ts.find? fun t => decide (t.1 = r)).map (·.2)
def rowK (r : List Str) : List Key := r.map .inr
theorem rowK_v (r : List Str) : (rowK r).map kV = r.map V.str := by
  unfold rowK
  rw [List.map_map]
  rfl
theorem rowK_inj {r s : List Str} (h : rowK r = rowK s) : r = s := List.map_inj_right (fun _ _ => Sum.inr.inj) |>.mp h
structure GoodT (ts : Tp) : Prop where
  ok : ∀ t ∈ ts, (∀ x ∈ t.1, wordX x = true) ∧ t.1.length ≤ 400 ∧ wordX t.2 = true
  up : ts.Pairwise fun s t => keyR s.1 < keyR t.1
theorem words_of {ds : List PyData} (h : ds.all wordD = true) : ∃ r : List Str, ds = r.map .str ∧ ∀ x ∈ r, wordX x = true := by
  induction ds with
  | nil => exact ⟨[], rfl, fun x hx => absurd hx List.not_mem_nil⟩
  | cons d ds ih =>
    have z : wordD d = true ∧ ds.all wordD = true := by simpa using h
    obtain ⟨r, rfl, hr⟩ := ih z.2
    cases d with
    | str x => exact ⟨x :: r, rfl, fun y hy => (List.mem_cons.mp hy).elim (fun q => q ▸ z.1) (hr y)⟩
    | _ => exact absurd z.1 (by simp [wordD])
theorem pair_of {d : PyData} (h : pairD d = true) : ∃ t : List Str × Str, d = mkP t ∧ (∀ x ∈ t.1, wordX x = true) ∧ t.1.length ≤ 400 ∧ wordX t.2 = true := by
  obtain ⟨ds, b, rfl, h1, h2, h3⟩ := pair_inv h
  obtain ⟨r, rfl, hr⟩ := words_of h1
  rw [List.length_map] at h2
  cases b with
  | str x => exact ⟨(r, x), rfl, hr, h2, h3⟩
  | _ => exact absurd h3 (by simp [wordD])
theorem txOf_row (r : List Str) : txOf (mkR r) = r := by
  show (r.map PyData.str).map _ = r
  rw [List.map_map]
  exact (List.map_congr_left fun _ _ => rfl).trans (List.map_id _)
theorem rowOf_p (t : List Str × Str) : rowOf (mkP t) = t.1 := txOf_row t.1
theorem ts_of {ds : List PyData} (ok : ∀ i, i < ds.length → okP ds i = true) : ∃ ts : Tp, ds = ts.map mkP ∧ GoodT ts := by
  have one : ∀ i (hi : i < ds.length), ∃ t, ds[i] = mkP t ∧ (∀ x ∈ t.1, wordX x = true) ∧ t.1.length ≤ 400 ∧ wordX t.2 = true ∧ (∀ h : 0 < i, keyR (rowOf (ds[i - 1]'(by omega))) < keyR t.1) := fun i hi => by
    have z := ok i hi
    have gi : ds.getD i .none = ds[i] := by simp [List.getD, hi]
    unfold okP at z
    simp only [Bool.and_eq_true, Bool.not_eq_true'] at z
    obtain ⟨t, e, h1, h2, h3⟩ := pair_of z.1
    rw [gi] at e
    refine ⟨t, e, h1, h2, h3, fun h => ?_⟩
    have y := z.2
    have gj : ds.getD (i - 1) .none = ds[i - 1]'(by omega) := by simp [List.getD, (by omega : i - 1 < ds.length)]
    rw [decide_eq_true h, Bool.true_and, gi, gj, e, rowOf_p, rowLe_key, Bool.not_eq_false', decide_eq_true_eq] at y
    exact y
  have T : ∃ f : PyData → List Str × Str, ∀ i (hi : i < ds.length), ds[i] = mkP (f ds[i]) ∧ (∀ x ∈ (f ds[i]).1, wordX x = true) ∧ (f ds[i]).1.length ≤ 400 ∧ wordX (f ds[i]).2 = true := by
    refine ⟨fun d => (rowOf d, match d with
      | .tuple [_, .str x] => x
      | _ => Str.empty), fun i hi => ?_⟩
    obtain ⟨t, e, h1, h2, h3, _⟩ := one i hi
    have z : (rowOf (mkP t), t.2) = t := by rw [rowOf_p]
    rw [e]
    refine ⟨(congrArg mkP z).symm, ?_, ?_, h3⟩
    · show ∀ x ∈ rowOf (mkP t), wordX x = true
      rw [rowOf_p]
      exact h1
    · show (rowOf (mkP t)).length ≤ 400
      rw [rowOf_p]
      exact h2
  obtain ⟨f, hf⟩ := T
  refine ⟨ds.map f, ?_, fun t ht => ?_, ?_⟩
  · rw [List.map_map]
    refine (List.map_id'' (fun _ => rfl) ds).symm.trans (List.map_congr_left fun d hd => ?_)
    obtain ⟨i, hi, rfl⟩ := List.getElem_of_mem hd
    exact (hf i hi).1
  · obtain ⟨d, hd, rfl⟩ := List.mem_map.mp ht
    obtain ⟨i, hi, rfl⟩ := List.getElem_of_mem hd
    exact (hf i hi).2
  · rw [List.pairwise_map, List.pairwise_iff_getElem]
    intro i j hi hj hij
    have row : ∀ i (hi : i < ds.length), rowOf ds[i] = (f ds[i]).1 := fun i hi => by
      have z := (hf i hi).1
      generalize f ds[i] = t at z ⊢
      rw [z, rowOf_p]
    obtain ⟨d, rfl⟩ : ∃ d, j = i + 1 + d := ⟨j - (i + 1), by omega⟩
    have step : ∀ k (hk : k + 1 < ds.length), keyR (f (ds[k]'(by omega))).1 < keyR (f ds[k + 1]).1 := fun k hk => by
      obtain ⟨t, e, _, _, _, h⟩ := one (k + 1) hk
      have z := h (by omega)
      have y := row (k + 1) hk
      rw [← row k (by omega), ← y, e, rowOf_p]
      exact z
    induction d with
    | zero => exact step i hj
    | succ d ih => exact List.lt_trans (ih (by omega) (by omega) step) (step (i + 1 + d) hj)
def firstBad (ds : List PyData) : Option Nat := (List.range ds.length).find? fun i => !okP ds i
theorem firstBad_none {ds : List PyData} (h : ∀ i, i < ds.length → okP ds i = true) : firstBad ds = none := by
  unfold firstBad
  rw [List.find?_eq_none]
  intro i hi
  rw [h i (List.mem_range.mp hi)]
  decide
theorem firstBad_some {ds : List PyData} {i : Nat} (hi : i < ds.length) (h : okP ds i = false) (k : ∀ j, j < i → okP ds j = true) : firstBad ds = some i := by
  unfold firstBad
  rw [List.find?_range_eq_some]
  exact ⟨by rw [h]; rfl, List.mem_range.mpr hi, fun j hj => by rw [k j hj]; rfl⟩
/-- which part is wrong -/
def partOf (d1 d2 : PyData) : Option V :=
  if tupOf 0 200 d1 = true then
    match d1 with
    | .tuple ds => match firstBad ds with
      | some i => some (.int (i : Nat))
      | none => if wordD d2 = true then none else some (.str "other")
    | _ => none
  else some (.str "pairs")
mutual
/-- plain data lie at no object's place -/
theorem dq_sameN {H H' : L2.Hp} (e : ∀ b o, H b = some o → (∀ C dx fs, o ≠ .ins C dx fs) → H' b = some o) : ∀ (d : PyData) (v : V), Dq H v d → Dq H' v d
  | .none, _, h => by cases h; exact .non
  | .bool b, _, h => by cases h; exact .bl b
  | .int i, _, h => by cases h; exact .int i
  | .str x, _, h => by cases h; exact .str x
  | .list ds, _, h => by
    cases h with
    | lst at_ low rest => exact .lst (e _ _ at_ (fun _ _ _ z => nomatch z)) low (dqAll_sameN e ds _ rest)
  | .tuple ds, _, h => by
    cases h with
    | tup at_ rest => exact .tup (e _ _ at_ (fun _ _ _ z => nomatch z)) (dqAll_sameN e ds _ rest)
  | .dict ds, _, h => by
    cases h with
    | dct at_ rest => exact .dct (e _ _ at_ (fun _ _ _ z => nomatch z)) (dqKv_sameN e ds _ rest)
theorem dqAll_sameN {H H' : L2.Hp} (e : ∀ b o, H b = some o → (∀ C dx fs, o ≠ .ins C dx fs) → H' b = some o) : ∀ (ds : List PyData) (vs : List V), DqAll H vs ds → DqAll H' vs ds
  | [], _, h => by cases h; exact .nil
  | d :: ds, _, h => by
    cases h with
    | cons one more => exact .cons (dq_sameN e d _ one) (dqAll_sameN e ds _ more)
theorem dqKv_sameN {H H' : L2.Hp} (e : ∀ b o, H b = some o → (∀ C dx fs, o ≠ .ins C dx fs) → H' b = some o) : ∀ (ds : List (PyData × PyData)) (kvs : List (Key × V)), DqKv H kvs ds → DqKv H' kvs ds
  | [], _, h => by cases h; exact .nil
  | (k, d) :: ds, _, h => by
    cases h with
    | cons one more => exact .cons (dq_sameN e d _ one) (dqKv_sameN e ds _ more)
end
theorem dqAt {H : L2.Hp} : ∀ {vs : List V} {ds : List PyData} {j : Nat} {v : V} {d : PyData}, DqAll H vs ds → vs[j]? = some v → ds[j]? = some d → Dq H v d
  | _ :: _, _ :: _, 0, _, _, .cons one _, e, e' => by
    obtain rfl := Option.some.inj e
    obtain rfl := Option.some.inj e'
    exact one
  | _ :: _, _ :: _, j + 1, _, _, .cons _ more, e, e' => dqAt (j := j) more e e'
section
variable [CurK]
/-- at p: a Table of these pairs -/
structure TAt (H : Hp) (p : Addr) (ts : Tp) (o : Str) : Prop where
  ex : ∃ dx a q us kvs, H p = some (.ins (He.ga K "Table") dx [("pairs", .ref a), ("other", .str o), ("_beside", .ref q)]) ∧ H a = some (.tup us) ∧ DqAll H us (ts.map mkP) ∧ H q = some (.dT kvs) ∧ ∀ r, valV kvs (rowK r) = (look ts r).map V.str
def spTab : Sp := fun vs H Q E => ∃ p dx v1 v2 d1 d2, vs = [.ref p, v1, v2] ∧ H p = some (.ins (He.ga K "Table") dx []) ∧ Dx H v1 d1 ∧ Dx H v2 d2 ∧ (∀ ds, d1 = .tuple ds → ∀ d ∈ ds, shortP d) ∧ shortD d2 ∧
  (∀ x, partOf d1 d2 = some x → ∀ d H', H d = none → Same H H' → H' d = some (.xd [("part", x)]) → E (.ref (He.ga K "BadTable")) (some d) H') ∧
  (partOf d1 d2 = none → ∀ ts o, d1 = .tuple (ts.map mkP) → d2 = .str o → GoodT ts → ts.length ≤ 200 → ∀ H', (∀ b o, b ≠ p → H b = some o → H' b = some o) → TAt H' p ts o → Q .non H')
end
theorem scTab : FnScope ["self", "pairs", "other", "row", "word"] ["self", "pairs", "other"] (defScope s_Table__init__) := ⟨rfl, rfl, rfl, by decide +kernel, rfl, by decide +kernel, by decide +kernel⟩
theorem look_app {ts : Tp} {t : List Str × Str} {r : List Str} : look (ts ++ [t]) r = (look ts r).or (if t.1 = r then some t.2 else none) := by
  unfold look
  rw [List.find?_append]
  cases ts.find? fun t => decide (t.1 = r) with
  | some u => rfl
  | none =>
    by_cases e : t.1 = r
    · simp [e]
    · simp [e]
theorem look_none {ts : Tp} {r : List Str} (h : ∀ t ∈ ts, keyR t.1 < keyR r) : look ts r = none := by
  unfold look
  rw [Option.map_eq_none_iff, List.find?_eq_none]
  intro t ht
  have z := h t ht
  simp only [decide_eq_true_eq]
  intro e
  rw [e] at z
  exact List.lt_irrefl _ z
theorem plain_pairs : ∀ ts : Tp, plainAll (ts.map mkP) = true
  | [] => rfl
  | t :: ts => by
    have rw_ : ∀ r : List Str, plainAll (r.map PyData.str) = true := fun r => by
      induction r with
      | nil => rfl
      | cons x r ih => simp [plainAll, V2.plain, ih]
    rw [List.map_cons]
    simp [plainAll, V2.plain, mkP, mkR, rw_, plain_pairs ts]
section
variable [CurK] {P : Program} {w : World} {mg : Str → Option Value} {base : Heap}
theorem ok_tab (T : Tx K w mg) : HasC P w K mg base (L2.CX P w) 6 "Table" ["self", "pairs", "other"] spTab := by
  obtain ⟨fd, F⟩ := T.c.def_ 55 (d := d_Table__init__) rfl
  have Ht := ok_tupOf (P := P) (w := w) (base := base) T
  have Hw := ok_word (P := P) (w := w) (base := base) T
  have Hc := ok_check (P := P) (w := w) (base := base) T
  obtain ⟨tMP, gMP⟩ := (T.int 32 rfl)
  have cS : Cls K (He.ga K "Table") := He.cls_ok (T.c.fact 95 rfl)
  have n1 : NoAttr K (He.ga K "Table") "pairs" := He.noat_ok (T.c.fact 98 rfl)
  have n2 : NoAttr K (He.ga K "Table") "other" := He.noat_ok (T.c.fact 97 rfl)
  have n3 : NoAttr K (He.ga K "Table") "_beside" := He.noat_ok (T.c.fact 96 rfl)
  refine ⟨_, fd, He.mkr_ok (T.c.fact 99 rfl), F.ok scTab (fun vs H Q E h => ?_) (fun cdv A outer s H vs Q E hr h => ?_), FunD.bindsN F fun _ _ _ _ _ _ us hl => match us, hl with | [_, _, _], _ => rfl, (T.glo 35 rfl)⟩
  · obtain ⟨p, dx, v1, v2, d1, d2, rfl, _⟩ := h
    rfl
  · refine ⟨_, (pss_cons (ps_if (pt_not (pt_val (pe_has Ht (hr.mono (by decide)) pass0 (pa_cons (pv 1) (pa_cons pe_int (pa_cons (pe_glob (v := .int 200) (by rfl) gMP ⟨_, rfl⟩) pa_nil))))))
 (pss_one (ps_raise rfl (takes_of rfl rfl rfl rfl) (pmk_fld (fldBad T) (hr.mono (by decide)) (pa_cons pe_str pa_nil))))
 pss_nil)
 (pss_cons (ps_expr (pe_has Hc (hr.mono (by decide)) (passes_call (takes_of rfl rfl rfl rfl) (fun _ _ _ _ h => h)) (pa_cons (pv 1) pa_nil)))
 (pss_cons (ps_if (pt_not (pt_val (pe_has Hw (hr.mono (by decide)) pass0 (pa_cons (pv 2) pa_nil))))
 (pss_one (ps_raise rfl (takes_of rfl rfl rfl rfl) (pmk_fld (fldBad T) (hr.mono (by decide)) (pa_cons pe_str pa_nil))))
 pss_nil)
 (pss_cons (ps_fld (pv 0) (pv 1) (by rfl))
 (pss_cons (ps_fld (pv 0) (pv 2) (by rfl))
 (pss_one (ps_fld (pv 0) (V4.pe_dcT (own := [("row", 3), ("word", 4)]) (g := gTup K 2 (gCons (gName 3) (gCons (gName 4) gNil))) (tk := tVar 3) (tv := tVar 4) rfl hr.units0 scTab.nd (pi_tup (pv 1))
 (blkOk_by (own := [("row", 3), ("word", 4)]) (N := ["self", "pairs", "other", "row", "word"]) (sc := defScope s_Table__init__) (by decide +kernel)) (fun _ _ _ _ _ => pg_tup (by rfl) (pgs_cons (pg_name (i := 3) scTab.nd rfl (Or.inl rfl)) (pgs_cons (pg_name (i := 4) scTab.nd rfl (Or.inl rfl)) pgs_nil))) (fun _ _ _ _ _ => (pv 3)) (fun _ _ _ _ _ => (pv 4))) (by rfl)))))))), ?_⟩
    obtain ⟨p, dx, v1, v2, d1, d2, rfl, hp, hd1, hd2, sh1, sh2, hE, hQ⟩ := h
    refine ⟨_, rfl, v1, d1, 0, 200, rfl, hd1, _, rfl, ite2 (fun e => ?_) (fun e => ?_)⟩
    · have e' : tupOf 0 200 d1 = false := by simpa using e
      refine raise_go (v := .str "pairs") (fun Q q => q) fun d H' nd sm hd => hE (.str "pairs") ?_ d H' nd sm hd
      unfold partOf
      rw [if_neg (by rw [e']; decide)]
    have e1 : tupOf 0 200 d1 = true := by simpa using e
    obtain ⟨ds, rfl, _, l2⟩ := tupOf_tup e1
    obtain ⟨a, us, rfl, ha, hr'⟩ := Dx.tup_inv hd1
    have lus := dxAll_len hr'
    refine ⟨_, rfl, a, us, ds, rfl, ha, hr', sh1 ds rfl, fun good H' sm => ?_, fun i hi bad ok d H' nd sm hd => ?_⟩
    · refine ⟨_, rfl, v2, d2, rfl, Dx.same sm _ _ hd2, sh2, _, rfl, ite2 (fun e => ?_) (fun e => ?_)⟩
      · have e' : wordD d2 = false := by simpa using e
        refine raise_go (v := .str "other") (fun Q q => q) fun d H2 nd sm2 hd => hE (.str "other") ?_ d H2 (fresh_up sm nd) (sm.trans sm2) hd
        unfold partOf
        rw [if_pos e1]
        simp only [firstBad_none good, e']
        rfl
      have e2 : wordD d2 = true := by simpa using e
      obtain ⟨o, rfl⟩ : ∃ o, d2 = .str o := by cases d2 <;> first | exact ⟨_, rfl⟩ | cases e2
      obtain rfl := Dx.str_inv hd2
      obtain ⟨ts, rfl, gt⟩ := ts_of good
      have htu := gt.up
      have hp' := sm _ _ hp
      have hq' : DqAll H us (ts.map mkP) := dqAll_of _ _ (plain_pairs ts) hr'
      have hqq := DqAll.same sm _ _ hq'
      have ha' := sm _ _ ha
      rw [List.length_map] at l2 lus
      have keep : ∀ b o, H' b = some o → (∀ C dx fs, o ≠ .ins C dx fs) → b ≠ p := fun b o e ne z => by
        rw [z, hp'] at e
        exact ne _ _ _ (Option.some.inj e).symm
      refine ⟨_, rfl, _, rfl, p, _, dx, [], rfl, hp', cS, n1, (by show 0 < 1000; decide), _, rfl, _, rfl, p, _, dx, _, rfl, upd_same, cS, n2, (by show 1 < 1000; decide), ?_⟩
      have st2 : ∀ b u, b ≠ p → H' b = some u → upd (upd H' p (.ins (He.ga K "Table") dx (putF "pairs" (.ref a) []))) p (.ins (He.ga K "Table") dx (putF "other" (.str o) (putF "pairs" (.ref a) []))) b = some u := fun b u ne e => by
        rw [upd_ne ne, upd_ne ne]
        exact e
      have ep2 : upd (upd H' p (.ins (He.ga K "Table") dx (putF "pairs" (.ref a) []))) p (.ins (He.ga K "Table") dx (putF "other" (.str o) (putF "pairs" (.ref a) []))) p = some (.ins (He.ga K "Table") dx [("pairs", .ref a), ("other", .str o)]) := upd_same
      generalize upd (upd H' p (.ins (He.ga K "Table") dx (putF "pairs" (.ref a) []))) p (.ins (He.ga K "Table") dx (putF "other" (.str o) (putF "pairs" (.ref a) []))) = H2 at st2 ep2 ⊢
      have qq2 : DqAll H2 us (ts.map mkP) := dqAll_sameN (fun b u e ne => st2 b u (keep b u e ne) e) _ _ hqq
      have ap : a ≠ p := keep a _ ha' fun _ _ _ z => nomatch z
      have ha2 := st2 a _ ap ha'
      refine ⟨_, rfl, a, rfl, ⟨_, st_of ha2⟩, fun D nD => ?_⟩
      have Dp : D ≠ p := fun z => by
        rw [z, ep2] at nD
        cases nD
      refine ⟨ts.length, fun i H3 => Same H2 (delH H3 D) ∧ ∃ kvs, H3 D = some (.dT kvs) ∧ kvs.length ≤ i ∧ ∀ r, valV kvs (rowK r) = (look (ts.take i) r).map V.str,
        ⟨fun b u e => by rw [delH_ne (ne_of_none e nD)]; exact same_new nD _ _ e, [], upd_same, Nat.le_refl _, fun r => by simp [look, valV]⟩, ?_, ?_⟩
      · rintro H3 ⟨sm3, kvs, e3, lk, ind⟩
        refine ⟨⟨us, st_of (same_delH _ _ (sm3 _ _ ha2)), by omega⟩, ?_⟩
        rw [List.take_length] at ind
        have ep3 := same_delH _ _ (sm3 _ _ ep2)
        refine ⟨_, rfl, p, _, dx, _, rfl, ep3, cS, n3, (by show 2 < 1000; decide), ?_⟩
        have up3 : ∀ b u, b ≠ p → H2 b = some u → upd H3 p (.ins (He.ga K "Table") dx (putF "_beside" (.ref D) [("pairs", .ref a), ("other", .str o)])) b = some u := fun b u ne e => by
          rw [upd_ne ne]
          exact same_delH _ _ (sm3 _ _ e)
        have notp : ∀ b u, H2 b = some u → (∀ C dx fs, u ≠ .ins C dx fs) → b ≠ p := fun b u e ne z => by
          rw [z, ep2] at e
          exact ne _ _ _ (Option.some.inj e).symm
        refine hQ ?_ ts o rfl rfl gt (by omega) _ (fun b u ne e => up3 b u ne (st2 b u ne (sm _ _ e))) ⟨dx, a, D, us, kvs, upd_same, up3 a _ ap ha2, dqAll_sameN (fun b u e ne => up3 b u (notp b u e ne) e) _ _ qq2, by rw [upd_ne Dp]; exact e3, ind⟩
        unfold partOf
        rw [if_pos e1]
        simp only [firstBad_none good, e2]
        rfl
      · rintro i H3 hi ⟨sm3, kvs, e3, lk, ind⟩
        have ha3 := same_delH _ _ (sm3 _ _ ha2)
        have hi' : i < us.length := by omega
        refine ⟨⟨us, us[i], st_of ha3, by simp [hi']⟩, ?_⟩
        rintro x H4 ⟨rfl, hx⟩
        have hx := hx us (st_of ha3)
        have dx3 : Dq H2 x (mkP ts[i]) := dqAt qq2 hx (by rw [List.getElem?_map, List.getElem?_eq_getElem hi]; rfl)
        obtain ⟨b, ws, rfl, hb, hw⟩ := V2.Dq.tup_inv dx3
        cases hw with | @cons va _ _ _ qa r1 =>
        cases r1 with | @cons vb _ _ _ qb r2 =>
        cases r2
        obtain ⟨c, cs, rfl, hc, hcs⟩ := V2.Dq.tup_inv qa
        obtain rfl : vb = .str ts[i].2 := by cases qb; rfl
        have tcs : cs = (rowK ts[i].1).map kV := by
          rw [rowK_v]
          have z : ∀ {vs : List V} {r : List Str}, DqAll H2 vs (r.map .str) → vs = r.map V.str := by
            intro vs r
            induction r generalizing vs with
            | nil => intro h; cases h; rfl
            | cons m ms ih => intro h; cases h with | cons one more => cases one; rw [ih more]; rfl
          exact z hcs
        subst tcs
        have hb3 := same_delH _ _ (sm3 _ _ hb)
        have hc3 := same_delH _ _ (sm3 _ _ hc)
        refine ⟨b, _, rfl, st_of hb3, rfl, _, _, rfl, _, _, rfl, rfl, rfl, ?_⟩
        refine ⟨_, rfl, _, rfl, kvs, rowK ts[i].1, c, rfl, hc3, e3, Nat.lt_of_le_of_lt (by omega : kvs.length ≤ 200) (by decide), by rw [delH_upd]; exact sm3, _, upd_same, Nat.le_trans (length_putK kvs _ _) (by omega), fun r => ?_⟩
        have tk : ts.take (i + 1) = ts.take i ++ [ts[i]] := by rw [List.take_succ, List.getElem?_eq_getElem hi]; rfl
        have old : look (ts.take i) ts[i].1 = none := look_none fun t ht => by
          obtain ⟨j, hj, rfl⟩ := List.getElem_of_mem ht
          rw [List.length_take] at hj
          rw [List.getElem_take]
          exact (List.pairwise_iff_getElem.mp htu) j i (by omega) hi (by omega)
        rw [tk, look_app, valV_put, ind r]
        by_cases er : ts[i].1 = r
        · rw [er] at old
          rw [er, if_pos rfl, if_pos rfl, old]
          rfl
        · rw [if_neg er, if_neg fun z => er (rowK_inj z).symm]
          cases look (ts.take i) r <;> rfl
    · refine hE _ ?_ d H' nd sm hd
      unfold partOf
      rw [if_pos e1]
      simp only [firstBad_some hi bad ok]
end
end K07

set_option maxHeartbeats 4000000
namespace K07
open PySem PySem.Spec PyProof.Rows L2 V1 V2 V3 V6
open Evl (pss_cut tCut sq_of st_of)
section
variable {K : PySem.W.Frag} {w : World} {mg : Str → Option Value}
theorem Tx.rai (T : Tx K w mg) (i : Nat) {x : Str} (e : fa[i]? = some (.exc x)) {X : Cx} (hX : X.K = K := by rfl) : Raises X (.ref (He.ga K x)) := by
  have z := He.exc_ok (T.c.fact i e)
  subst hX
  exact raises_own z.2.2.1 z.2.2.2
end
theorem plainAll_of : ∀ {ds : List PyData}, (∀ d ∈ ds, V2.plain d = true) → plainAll ds = true
  | [], _ => rfl
  | d :: ds, h => by
    have h1 := h d List.mem_cons_self
    have h2 := plainAll_of fun x hx => h x (List.mem_cons_of_mem _ hx)
    simp [plainAll, h1, h2]
theorem canLayAll_of : ∀ {ds : List PyData}, (∀ d ∈ ds, d.canLay0 = true) → PyData.canLayAll0 ds = true
  | [], _ => by simp [PyData.canLayAll0]
  | d :: ds, h => by
    have h1 := h d List.mem_cons_self
    have h2 := canLayAll_of fun x hx => h x (List.mem_cons_of_mem _ hx)
    simp [PyData.canLayAll0, h1, h2]
theorem depthAll_le {n : Nat} : ∀ {ds : List PyData}, (∀ d ∈ ds, d.depth ≤ n) → PyData.depthAll ds ≤ n
  | [], _ => by simp [PyData.depthAll]
  | d :: ds, h => by
    have h1 := h d List.mem_cons_self
    have h2 := depthAll_le fun x hx => h x (List.mem_cons_of_mem _ hx)
    simp only [PyData.depthAll]
    omega
theorem shaped_of {d : PyData} (h1 : d.canLay0 = true) (h2 : d.depth ≤ 64) : SeqAt.shaped d = true := by
  unfold SeqAt.shaped
  rw [h1, Bool.true_and]
  exact decide_eq_true h2
theorem word_ok {x : Str} (h : wordX x = true) : PyData.strOk x = true := by
  have z : x.length ≤ 40 ∧ Txt.isascii x = true ∧ Txt.isprintable x = true := by simpa [wordX] using h
  have y : x.cps.all (· < 128) = true := z.2.1
  show x.cps.all (· < 0x110000) = true
  rw [Array.all_eq_true] at y ⊢
  intro i hi
  have := of_decide_eq_true (y i hi)
  exact decide_eq_true (by omega)
theorem eqv_row : ∀ r s : List Str, PyData.eqvAll (r.map PyData.str) (s.map PyData.str) = decide (r = s)
  | [], [] => rfl
  | [], _ :: _ => rfl
  | _ :: _, [] => rfl
  | x :: r, y :: s => by
    rw [List.map_cons, List.map_cons, PyData.eqvAll, eqv_row r s]
    have z : PyData.eqv (.str x) (.str y) = decide (x = y) := by
      simp only [PyData.eqv]
      by_cases e : x = y
      · rw [e]
        simp
      · simp [e]
    rw [z]
    by_cases e1 : x = y
    · by_cases e2 : r = s
      · rw [e1, e2]
        simp
      · rw [decide_eq_false e2, Bool.and_false, decide_eq_false fun q => e2 (List.cons.inj q).2]
    · rw [decide_eq_false e1, Bool.false_and, decide_eq_false fun q => e1 (List.cons.inj q).1]
end K07

set_option maxHeartbeats 4000000
namespace K07
open PySem PySem.Spec PyProof.Rows L2 V1 V2 V3 V6
open Evl (pss_cut tCut sq_of st_of)
/-- at a: the hand: its cells' list, the four numbers -/
structure HandAt (H : Hp) (a : Addr) : Prop where
  ex : ∃ (c : Addr) (cs : List Int) (i1 i2 i3 i4 : Int), H a = some (.lst [.ref c, .int i1, .int i2, .int i3, .int i4]) ∧ (delH H a) c = some (.lst (cs.map V.int)) ∧ 0 ≤ i1 ∧ 0 ≤ i2
theorem HandAt.new {H H' : Hp} {a : Addr} (h : HandAt H a) (e : H' a = H a) (s : Same (delH H a) (delH H' a)) : HandAt H' a := by
  obtain ⟨c, cs, i1, i2, i3, i4, h1, h2, h3⟩ := h.ex
  exact ⟨c, cs, i1, i2, i3, i4, e.trans h1, s _ _ h2, h3⟩
def cellsOf (H : Hp) (a : Addr) : Option V := match H a with
  | some (.lst (x :: _)) => some x
  | _ => none
theorem cellsOf_at {H : Hp} {a : Addr} {x : V} {xs : List V} (h : H a = some (.lst (x :: xs))) : cellsOf H a = some x := by
  unfold cellsOf
  rw [h]
theorem HandAt.cells {H : Hp} {a : Addr} (h : HandAt H a) : ∃ (c : Addr) (cs : List Int), cellsOf H a = some (.ref c) ∧ c ≠ a ∧ H c = some (.lst (cs.map V.int)) := by
  obtain ⟨c, cs, i1, i2, i3, i4, e, e2, _⟩ := h.ex
  have ne : c ≠ a := fun z => by
    rw [z, delH_same] at e2
    cases e2
  exact ⟨c, cs, cellsOf_at e, ne, by rw [delH_ne ne] at e2; exact e2⟩
theorem HandAt.off {H : Hp} {a f c : Addr} (h : HandAt H a) (e : cellsOf H a = some (.ref c)) (nc : c ≠ f) (na : f ≠ a) : HandAt (delH H f) a := by
  obtain ⟨c', cs, i1, i2, i3, i4, e1, e2, p⟩ := h.ex
  rw [cellsOf_at e1] at e
  cases e
  refine ⟨c, cs, i1, i2, i3, i4, by rw [delH_ne (Ne.symm na)]; exact e1, ?_, p⟩
  have ne : c ≠ a := fun z => by
    rw [z, delH_same] at e2
    cases e2
  rw [delH_ne ne] at e2 ⊢
  rw [delH_ne nc]
  exact e2
def spDraw : Sp := fun vs H Q _ => ∃ (a : Addr) (m : Int), vs = [.ref a, .int m] ∧ HandAt H a ∧ 0 < m ∧ m < 1000000000 ∧
  ∀ (H' : Hp) (r : Int), HandAt H' a → delH H' a = delH H a → cellsOf H' a = cellsOf H a → 0 ≤ r → r < m → Q (.int r) H'
def spHand (K : PySem.W.Frag) : Sp := fun vs H Q _ => ∃ (a : Addr) (ns : List Int), vs = [.ref a] ∧ SqL K H a (ns.map V.int) ∧ ns.length ≤ 63 ∧ ∀ (H' : Hp) (p : Addr), Same H H' → H p = none → HandAt H' p → Q (.ref p) H'
theorem scHand : FnScope ["script", "cell"] ["script"] (defScope s__law_hand) := ⟨rfl, rfl, rfl, by decide +kernel, rfl, by decide +kernel, by decide +kernel⟩
theorem scDraw : FnScope ["hand", "many", "cell", "digit", "number"] ["hand", "many"] (defScope s__law_draw) := ⟨rfl, rfl, rfl, by decide +kernel, rfl, by decide +kernel, by decide +kernel⟩
theorem scSome : FnScope ["hand", "things"] ["hand", "things"] (defScope s__law_pick) := ⟨rfl, rfl, rfl, by decide +kernel, rfl, by decide +kernel, by decide +kernel⟩
theorem rest_in (z : Int) {m : Int} (h : 0 < m) : 0 ≤ z % m ∧ z % m < m := ⟨Int.emod_nonneg _ (by omega), Int.emod_lt_of_pos _ h⟩
theorem ix0 {K : PySem.W.Frag} {σ : L2.St} {H : Hp} {Q : VK} {k : Nat} {a : Addr} {xs : List V} {n : Int} {v : V} (h0 : σ[k]? = some (some (.ref a))) (hH : H a = some (.lst xs)) (hv : atI xs n = some v) (q : Q v H) : tOp (rIxL K) (tVar k) (tC (.int n)) σ H Q :=
  ⟨_, h0, a, xs, n, v, rfl, rfl, sq_of hH, hv, q⟩

theorem cut63 (ns : List Int) : cutV (ns.map V.int) none (some 63) = (ns.take 63).map V.int := by
  unfold cutV
  rw [show HT.sIx (ns.map V.int).length (ns.map V.int).length (some 63) = min 63 (ns.map V.int).length from HT.sIx_nat _ _ 63, HT.sIx_none]
  simp [List.map_take, Nat.min_comm]
def teCell : TE := tCB (fun xs H Q => (∃ i, xs = [.int i] ∧ Q (.int i) H) ∨ ∃ k, xs = [.bl k] ∧ Q (.int (if k then 1 else 0)) H) (tCons (tVar 1) tNil)
theorem hand_same {H H' : Hp} {a : Addr} (h : HandAt H a) (s : Same H H') : HandAt H' a := by
  obtain ⟨c, cs, i1, i2, i3, i4, e, _⟩ := h.ex
  exact h.new ((s _ _ e).trans e.symm) (same_del s)
theorem cells_same {H H' : Hp} {a : Addr} (h : HandAt H a) (s : Same H H') : cellsOf H' a = cellsOf H a := by
  obtain ⟨c, cs, i1, i2, i3, i4, e, _⟩ := h.ex
  rw [cellsOf_at e, cellsOf_at (s _ _ e)]
theorem HandAt.held {H : Hp} {a : Addr} (h : HandAt H a) : Held H a := by
  obtain ⟨c, cs, i1, i2, i3, i4, e, _⟩ := h.ex
  exact ⟨_, e⟩
theorem del2_upd {H : Hp} {a f : Addr} {o : HO} : delH (delH (upd H f o) a) f = delH (delH H a) f := by
  funext b
  by_cases e : b = f
  · rw [e, delH_same, delH_same]
  · rw [delH_ne e, delH_ne e]
    by_cases e2 : b = a
    · rw [e2, delH_same, delH_same]
    · rw [delH_ne e2, delH_ne e2, upd_ne e]
theorem tup_off {H : Hp} {a b : Addr} {xs : List V} (h : HandAt H a) (e : H b = some (.tup xs)) : (delH H a) b = some (.tup xs) := by
  have ne : b ≠ a := fun z => by
    obtain ⟨c, cs, i1, i2, i3, i4, e1, _⟩ := h.ex
    rw [z, e1] at e
    cases e
  rw [delH_ne ne]
  exact e
structure Go (a : Addr) (H H' : Hp) : Prop where
  hd : HandAt H' a
  ce : cellsOf H' a = cellsOf H a
  sm : Same (delH H a) (delH H' a)
theorem Go.refl {a : Addr} {H : Hp} (h : HandAt H a) : Go a H H := ⟨h, rfl, Same.refl _⟩
theorem Go.new {a : Addr} {H H' : Hp} (h : HandAt H a) (s : Same H H') : Go a H H' := ⟨hand_same h s, cells_same h s, same_del s⟩
theorem Go.draw {a : Addr} {H H' : Hp} (h1 : HandAt H' a) (h2 : delH H' a = delH H a) (h3 : cellsOf H' a = cellsOf H a) : Go a H H' := ⟨h1, h3, by rw [h2]; exact Same.refl _⟩
theorem Go.trans {a : Addr} {H H1 H2 : Hp} (g : Go a H H1) (g' : Go a H1 H2) : Go a H H2 := ⟨g'.hd, g'.ce.trans g.ce, g.sm.trans g'.sm⟩
theorem Go.at_ {a b : Addr} {H H' : Hp} {o : HO} (g : Go a H H') (h : delH H a b = some o) : delH H' a b = some o := g.sm _ _ h
theorem HandAt.ne_new {H : Hp} {a q : Addr} (h : HandAt H a) (n : H q = none) : q ≠ a := fun z => by
  obtain ⟨o, e⟩ := h.held
  rw [z, e] at n
  cases n
theorem del_comm {H : Hp} {a f : Addr} : delH (delH H a) f = delH (delH H f) a := by
  funext b
  by_cases e : b = f
  · subst e
    rw [delH_same]
    by_cases e2 : b = a
    · rw [e2, delH_same]
    · rw [delH_ne e2, delH_same]
  · by_cases e2 : b = a
    · rw [delH_ne e, e2, delH_same, delH_same]
    · rw [delH_ne e, delH_ne e2, delH_ne e2, delH_ne e]
theorem Go.draw_in {a D c : Addr} {H0 H H' : Hp} (g : Go a H0 (delH H D)) (hc : cellsOf H0 a = some (.ref c)) (cD : c ≠ D) (Da : D ≠ a) (h1 : HandAt H' a) (h2 : delH H' a = delH H a) (h3 : cellsOf H' a = cellsOf H a) : Go a H0 (delH H' D) ∧ H' D = H D := by
  have cel : ∀ {X : Hp}, cellsOf (delH X D) a = cellsOf X a := fun {X} => by
    unfold cellsOf
    rw [delH_ne (Ne.symm Da)]
  have z : cellsOf H' a = some (.ref c) := h3.trans ((cel.symm.trans g.ce).trans hc)
  refine ⟨⟨h1.off z cD Da, cel.trans (z.trans hc.symm), ?_⟩, ?_⟩
  · rw [del_comm, h2, del_comm]
    exact g.sm
  · have y := congrFun h2 D
    rw [delH_ne Da, delH_ne Da] at y
    exact y
theorem pos_of {xs : List Int} {i : Nat} {v : V} (h : (xs.map V.int)[i]? = some v) (p : ∀ x ∈ xs, 0 ≤ x) : ∃ z, v = .int z ∧ 0 ≤ z ∧ z ∈ xs := by
  rw [List.getElem?_map] at h
  obtain ⟨z, hz, rfl⟩ := Option.map_eq_some_iff.mp h
  exact ⟨z, rfl, p z (List.mem_of_getElem? hz), List.mem_of_getElem? hz⟩
section
variable [CurK]
theorem Go.dx {a : Addr} {H H' : Hp} {v : V} {d : PyData} (g : Go a H H') (h : Dx (delH H a) v d) : Dx (delH H' a) v d := Dx.same g.sm _ _ h
structure LD (H0 : Hp) (a f c : Addr) (ds : List PyData) (H : Hp) : Prop where
  hd : HandAt H a
  ce : cellsOf H a = some (.ref c)
  sm : Same (delH H0 a) (delH (delH H a) f)
  at_ : ∃ acc, H f = some (.lst acc) ∧ DxAll (delH (delH H a) f) acc ds
theorem LD.draw {H0 H H' : Hp} {a f c : Addr} {ds : List PyData} (h : LD H0 a f c ds H) (na : f ≠ a) (h1 : HandAt H' a) (h2 : delH H' a = delH H a) (h3 : cellsOf H' a = cellsOf H a) : LD H0 a f c ds H' := by
  obtain ⟨acc, e, d⟩ := h.at_
  refine ⟨h1, h3.trans h.ce, by rw [h2]; exact h.sm, acc, ?_, by rw [h2]; exact d⟩
  have z := congrFun h2 f
  rw [delH_ne na, delH_ne na] at z
  exact z.trans e
theorem LD.new {H0 H H' : Hp} {a f c : Addr} {ds : List PyData} (h : LD H0 a f c ds H) (s : Same H H') : LD H0 a f c ds H' := by
  obtain ⟨acc, e, d⟩ := h.at_
  exact ⟨hand_same h.hd s, (cells_same h.hd s).trans h.ce, h.sm.trans (same_del (same_del s)), acc, s _ _ e, DxAll.same (same_del (same_del s)) _ _ d⟩
theorem LD.put {H0 H : Hp} {a f c : Addr} {ds ds' : List PyData} {acc' : List V} (h : LD H0 a f c ds H) (na : f ≠ a) (nc : c ≠ f) (d : DxAll (delH (delH H a) f) acc' ds') :
    LD H0 a f c ds' (upd H f (.lst acc')) := by
  have o := h.hd.off h.ce nc na
  refine ⟨?_, ?_, ?_, acc', upd_same, ?_⟩
  · have z : HandAt (delH (upd H f (.lst acc')) f) a := by rw [delH_upd]; exact o
    exact hand_same z same_delH
  · have z := h.ce
    unfold cellsOf at z ⊢
    rw [upd_ne (Ne.symm na)]
    exact z
  · rw [del2_upd]
    exact h.sm
  · rw [del2_upd]
    exact d
theorem LD.held {H0 H : Hp} {a f c : Addr} {ds : List PyData} (h : LD H0 a f c ds H) : Held H f := by
  obtain ⟨acc, e, _⟩ := h.at_
  exact ⟨_, e⟩
end
/-- the items of a list, a tuple, a string -/
def ItsOf (H : Hp) (a : Addr) (x : V) (xs : List V) : Prop :=
  (∃ p, x = .ref p ∧ p ≠ a ∧ (H p = some (.lst xs) ∨ H p = some (.tup xs))) ∨ ∃ z : Str, x = .str z ∧ xs = z.cps.toList.map fun c => V.str ⟨#[c]⟩
def spSome : Sp := fun vs H Q _ => ∃ (a : Addr) (x : V) (xs : List V), vs = [.ref a, x] ∧ HandAt H a ∧ ItsOf H a x xs ∧ 0 < xs.length ∧ xs.length < 1000 ∧
  ∀ (H' : Hp) (i : Nat) (v : V), HandAt H' a → delH H' a = delH H a → cellsOf H' a = cellsOf H a → xs[i]? = some v → Q v H'
theorem some_ints {H : Hp} {a q : Addr} {Q : VK} (xs : List Int) (hd : HandAt H a) (nq : H q = none) (px : ∀ x ∈ xs, 0 ≤ x) (l0 : 0 < xs.length) (l1 : xs.length < 1000)
    (k : ∀ H2 (z : Nat), Go a H H2 → ((z : Nat) : Int) ∈ xs → Q (.int ((z : Nat) : Int)) H2) : spSome [.ref a, .ref q] (upd H q (.lst (xs.map V.int))) Q (fun _ _ _ => False) := by
  have s1 := same_new (o := HO.lst (xs.map V.int)) nq
  refine ⟨a, _, _, rfl, hand_same hd s1, .inl ⟨q, rfl, hd.ne_new nq, .inl upd_same⟩, by rw [List.length_map]; exact l0, by rw [List.length_map]; exact l1, fun H2 i v hd2 e2 c2 ev => ?_⟩
  obtain ⟨z, rfl, z0, zm⟩ := pos_of ev px
  obtain ⟨j, rfl⟩ := Int.eq_ofNat_of_zero_le z0
  exact k H2 j ((Go.new hd s1).trans (Go.draw hd2 e2 c2)) zm
theorem some_data [CurK] {H : Hp} {a : Addr} {v : V} {d : PyData} {ds : List PyData} {Q : VK} (hd : HandAt H a) (q : Dx (delH H a) v d) (ed : d = .list ds ∨ d = .tuple ds) (l0 : 0 < ds.length) (l1 : ds.length < 1000)
    (k : ∀ H2 w d, Go a H H2 → d ∈ ds → Dx (delH H2 a) w d → Q w H2) : spSome [.ref a, v] H Q (fun _ _ _ => False) := by
  obtain ⟨p, xs, rfl, at_, rest⟩ : ∃ p xs, v = .ref p ∧ (delH H a p = some (.lst xs) ∨ delH H a p = some (.tup xs)) ∧ DxAll (delH H a) xs ds := by
    rcases ed with rfl | rfl
    · cases q with | lst at_ low rest => exact ⟨_, _, rfl, .inl at_, rest⟩
    · cases q with | tup at_ rest => exact ⟨_, _, rfl, .inr at_, rest⟩
  have na : p ≠ a := fun z => by
    rw [z, delH_same] at at_
    rcases at_ with h | h <;> cases h
  rw [delH_ne na] at at_
  have lr := dxAll_len rest
  refine ⟨a, _, _, rfl, hd, .inl ⟨p, rfl, na, at_⟩, by rw [lr]; exact l0, by rw [lr]; exact l1, fun H2 i w hd2 e2 c2 ev => ?_⟩
  obtain ⟨d, m, z⟩ := DxAll.some rest ev
  exact k H2 w d (Go.draw hd2 e2 c2) m (by rw [e2]; exact z)
theorem cells_del {H : Hp} {a D : Addr} (n : D ≠ a) : cellsOf (delH H D) a = cellsOf H a := by
  unfold cellsOf
  rw [delH_ne (Ne.symm n)]
theorem Go.undel {a D : Addr} {H0 H : Hp} (g : Go a H0 (delH H D)) (n : D ≠ a) : Go a H0 H := ⟨hand_same g.hd same_delH, (cells_del n).symm.trans g.ce, fun b o e => by
  have z := g.sm b o e
  rw [del_comm] at z
  exact same_delH _ _ z⟩
theorem go_cell {a c : Addr} {H H' : Hp} {cs : List Int} (g : Go a H H') (hce : cellsOf H a = some (.ref c)) (nca : c ≠ a) (hc : H c = some (.lst (cs.map V.int))) : cellsOf H' a = some (.ref c) ∧ H' c = some (.lst (cs.map V.int)) :=
  ⟨g.ce.trans hce, same_delH _ _ (g.sm _ _ (by rw [delH_ne nca]; exact hc))⟩

section
variable [CurK] {P : Program} {w : World} {mg : Str → Option Value} {base : Heap}
theorem ok_hand (T : Tx K w mg) : Has P w K mg base CX0 1 "_law_hand" ["script"] (spHand K) := by
  obtain ⟨fd, F⟩ := T.c.def_ 19 (d := d__law_hand) rfl
  refine ⟨fd, F.ok scHand (fun vs H Q E h => ?_) (fun cdv A outer s H vs Q E hr h => ?_), FunD.bindsN F fun _ _ _ _ _ _ us hl => match us, hl with | [_], _ => rfl, F.kp, (T.glo 37 rfl)⟩
  · obtain ⟨a, ns, rfl, _⟩ := h
    rfl
  · refine ⟨_, PSs.nox (pss_one (ps_ret (pe_lst (pa_cons (pe_lc (own := [("cell", 1)]) (g := gName 1) (tt := tYes) (te := teCell) (by rfl) scHand.nd (pi_list (pe_slice sl_list (pv 0) po_none (po_some pe_int)))
 (blkOk_by (own := [("cell", 1)]) (N := ["script", "cell"]) (sc := defScope s__law_hand) (by decide +kernel)) (fun _ _ _ _ _ => pg_name (i := 1) scHand.nd rfl (Or.inl rfl)) (fun _ _ _ _ _ => pts_nil) (fun _ _ _ _ _ => (pe_callTy call_int1 (by rfl) (T.free 74 rfl) (by decide +kernel) (pa_cons (pv 1) pa_nil)))) (pa_cons pe_int (pa_cons pe_int (pa_cons pe_int (pa_cons pe_int pa_nil)))))))), ?_⟩
    obtain ⟨a, ns, rfl, hS, hl, hQ⟩ := h
    refine ⟨_, rfl, 63, rfl, a, _, rfl, hS, fun p np => ?_⟩
    rw [cut63]
    have sp := same_new (o := .lst ((ns.take 63).map V.int)) np
    refine ⟨p, rfl, ⟨_, sq_of upd_same⟩, fun D nD => ?_⟩
    refine lc_gen (σ := [some (.ref a), none]) (vs := [1]) (walk_list (K := K) (a := p) (xs := (ns.take 63).map V.int)) nD (fun i acc H' => Same (upd H p (.lst ((ns.take 63).map V.int))) H' ∧ ∃ cs : List Int, acc = cs.map V.int) ⟨Same.refl _, [], rfl⟩ (fun i acc H' _ z => sq_of (same_delH _ _ (z.1 _ _ upd_same))) ?_ ?_
    · rintro i acc x H1 H2 hi l e ⟨sm, cs, rfl⟩ ⟨rfl, hx⟩
      rw [List.getElem?_map] at hx
      obtain ⟨z, hz, rfl⟩ := Option.map_eq_some_iff.mp hx
      refine ⟨rfl, ?_⟩
      simp only [tYes, if_true]
      have li : i < 1000 := by
        rw [List.length_map, List.length_take] at hi
        omega
      exact ⟨_, rfl, .inl ⟨z, rfl, lc_put l li e ⟨sm, cs ++ [z], by rw [List.map_append]; rfl⟩⟩⟩
    · rintro acc H1 l e ⟨sm, cs, rfl⟩
      have s1 : Same H H1 := fun b o ob => same_delH _ _ (sm _ _ (sp _ _ ob))
      refine ⟨(by show 5 ≤ sizeLine; decide), fun q nq => ?_⟩
      refine hQ _ q (s1.trans (same_new nq)) (fresh_up s1 nq) ⟨D, cs, _, _, _, _, upd_same, ?_, by decide, by decide⟩
      rw [delH_new nq]
      exact e
theorem ok_draw (T : Tx K w mg) : Has P w K mg base CX0 1 "_law_draw" ["hand", "many"] spDraw := by
  obtain ⟨fd, F⟩ := T.c.def_ 20 (d := d__law_draw) rfl
  refine ⟨fd, F.ok scDraw (fun vs H Q E h => ?_) (fun cdv A outer s H vs Q E hr h => ?_), FunD.bindsN F fun _ _ _ _ _ _ us hl => match us, hl with | [_, _], _ => rfl, F.kp, (T.glo 38 rfl)⟩
  · obtain ⟨a, m, rfl, _⟩ := h
    rfl
  · refine ⟨_, PSs.nox (pss_cut (ps_if (PW.pt (pw_and (pt_cmpR op_eq (pe_ix ix_list (pv 0) pe_int (fun _ _ => rfl)) pe_int (nomark _)) (pw_and1 (pt_cmpR op_lt (pe_ix ix_list (pv 0) pe_int (fun _ _ => rfl)) (pe_callB call_len (by rfl) (T.free 76 rfl) PySem.boot_len (pa_cons (pe_ix ix_list (pv 0) pe_int (fun _ _ => rfl)) pa_nil)) (nomark _)))))
 (pss_cons (ps_set (i := 2) scDraw.nd rfl (Or.inl rfl) (pe_ix ix_list (pe_ix ix_list (pv 0) pe_int (fun _ _ => rfl)) (pe_ix ix_list (pv 0) pe_int (fun _ _ => rfl)) (fun _ _ => rfl)))
 (pss_cons (ps_asg (pe_op op_add (pe_ix ix_list (pv 0) pe_int (fun _ _ => rfl)) pe_int) (pg_sub (pv 0) pe_int set_list))
 (pss_cons (ps_asg (pe_op op_mod (pe_callTy call_int1 (by rfl) (T.free 74 rfl) (by decide +kernel) (pa_cons (pe_op op_add (pe_op op_add (pe_op op_mul (pe_ix ix_list (pv 0) pe_int (fun _ _ => rfl)) pe_int) (pe_op op_mul (pv 2) pe_int)) pe_int) pa_nil)) pe_int) (pg_sub (pv 0) pe_int set_list))
 (pss_one (ps_if (pt_cmpR op_ge (pv 2) (pe_op op_pow pe_int pe_int) (nomark _))
 (pss_one (ps_asg (pv 2) (pg_sub (pv 0) pe_int set_list)))
 pss_nil)))))
 pss_nil)
 (pss_cons (ps_if (pt_cmpR op_gt (pe_ix ix_list (pv 0) pe_int (fun _ _ => rfl)) pe_int (nomark _))
 (pss_cons (ps_set (i := 3) scDraw.nd rfl (Or.inl rfl) (pe_op op_mod (pe_callTy call_int1 (by rfl) (T.free 74 rfl) (by decide +kernel) (pa_cons (pe_ix ix_list (pv 0) pe_int (fun _ _ => rfl)) pa_nil)) (pv 1)))
 (pss_cons (ps_asg (pe_op op_fdiv (pe_ix ix_list (pv 0) pe_int (fun _ _ => rfl)) (pv 1)) (pg_sub (pv 0) pe_int set_list))
 (pss_one (ps_ret (pv 3)))))
 pss_nil)
 (pss_cons (ps_asg (pe_op op_add (pe_ix ix_list (pv 0) pe_int (fun _ _ => rfl)) pe_int) (pg_sub (pv 0) pe_int set_list))
 (pss_cons (ps_set (i := 4) scDraw.nd rfl (Or.inl rfl) (pe_op op_mod (pe_callTy call_int1 (by rfl) (T.free 74 rfl) (by decide +kernel) (pa_cons (pe_op op_mul (pe_op op_add (pe_ix ix_list (pv 0) pe_int (fun _ _ => rfl)) (pe_op op_mul pe_int (pe_ix ix_list (pv 0) pe_int (fun _ _ => rfl)))) pe_int) pa_nil)) pe_int))
 (pss_cons (ps_set (i := 4) scDraw.nd rfl (Or.inl rfl) (pe_op op_mod (pe_callTy call_int1 (by rfl) (T.free 74 rfl) (by decide +kernel) (pa_cons (pe_op op_mul (pv 4) (pe_op op_add (pe_op op_fdiv (pv 4) pe_int) pe_int)) pa_nil)) pe_int))
 (pss_cons (ps_set (i := 4) scDraw.nd rfl (Or.inl rfl) (pe_op op_mod (pe_callTy call_int1 (by rfl) (T.free 74 rfl) (by decide +kernel) (pa_cons (pe_op op_mul (pv 4) (pe_op op_add (pe_op op_fdiv (pv 4) pe_int) pe_int)) pa_nil)) pe_int))
 (pss_one (ps_ret (pe_op op_mod (pe_callTy call_int1 (by rfl) (T.free 74 rfl) (by decide +kernel) (pa_cons (pe_op op_fdiv (pv 4) pe_int) pa_nil)) (pv 1)))))))))), ?_⟩
    obtain ⟨a, m, rfl, hd, m0, m1, hQ⟩ := h
    obtain ⟨c, cs, i1, i2, i3, i4, h1, h2, h3, h4⟩ := hd.ex
    refine ⟨fun σ H1 => ∃ (j1 j2 j3 j4 : Int) (v2 : Option V), σ = [some (.ref a), some (.int m), v2, none, none] ∧ H1 a = some (.lst [.ref c, .int j1, .int j2, .int j3, .int j4]) ∧ delH H1 a = delH H a ∧ 0 ≤ j1 ∧ 0 ≤ j2, ?_, ?_⟩
    · -- a new cell is taken
      have hc : H c = some (.lst (cs.map V.int)) := same_delH _ _ h2
      have nca : c ≠ a := fun z => by
        rw [z, delH_same] at h2
        cases h2
      refine ix0 rfl h1 rfl ⟨rfl, _, rfl, ?_⟩
      refine ite2 (fun e2 => ?_) (fun _ => ?_)
      · refine ix0 rfl h1 rfl (ix0 rfl h1 rfl ⟨_, _, rfl, .inl ⟨_, sq_of hc, rfl⟩, _, _, rfl, rfl, _, rfl, ?_⟩)
        refine ite2 (fun e1 => ?_) (fun _ => ?_)
        · have e1' := of_decide_eq_true e1
          rw [List.length_map] at e1'
          obtain ⟨j, rfl⟩ := Int.eq_ofNat_of_zero_le h3
          have hj : j < cs.length := by omega
          have at_ : atI (cs.map V.int) ((j : Nat) : Int) = some (.int cs[j]) := atI_nat (by rw [List.getElem?_map, List.getElem?_eq_getElem hj]; rfl)
          refine ix0 rfl h1 rfl (ix0 rfl h1 rfl ⟨c, _, _, _, rfl, rfl, sq_of hc, at_, ?_⟩)
          refine ix0 rfl h1 rfl ⟨_, _, rfl, rfl, _, rfl, a, _, _, 1, rfl, rfl, h1, rfl, ?_⟩
          refine ix0 rfl upd_same rfl ⟨_, _, rfl, rfl, .inr ⟨by decide, by decide⟩, _, rfl, _, _, rfl, rfl, .inr ⟨by decide, by decide⟩, _, _, rfl, rfl, _, _, rfl, rfl, .inl ⟨_, rfl, _, _, rfl, rfl, (by show (0 : Int) < 2147483629; decide), _, rfl, a, _, _, 3, rfl, rfl, upd_same, rfl, ?_⟩⟩
          rw [upd_upd]
          refine ⟨_, rfl, _, _, rfl, rfl, ⟨by decide, by decide, by decide⟩, _, _, rfl, rfl, _, rfl, ?_⟩
          refine ite2 (fun big => ?_) (fun _ => ?_)
          · refine ⟨_, rfl, _, rfl, a, _, _, 2, rfl, rfl, upd_same, rfl, ?_⟩
            rw [upd_upd]
            refine ⟨_, _, _, _, _, rfl, upd_same, by rw [delH_upd], by omega, ?_⟩
            have b := of_decide_eq_true big
            exact Int.le_trans (by decide) b
          · refine ⟨_, _, _, _, _, rfl, upd_same, by rw [delH_upd], by omega, h4⟩
        · exact ⟨_, _, _, _, _, rfl, h1, rfl, h3, h4⟩
      · exact ⟨_, _, _, _, _, rfl, h1, rfl, h3, h4⟩
    · rintro σ H1 ⟨j1, j2, j3, j4, v2, rfl, g1, g2, g3, g4⟩
      refine ix0 rfl g1 rfl ⟨_, _, rfl, rfl, _, rfl, ?_⟩
      refine ite2 (fun e => ?_) (fun e => ?_)
      · refine ix0 rfl g1 rfl (.inl ⟨_, rfl, _, rfl, _, _, rfl, rfl, m0, ?_⟩)
        refine ix0 rfl g1 rfl ⟨_, rfl, _, _, rfl, rfl, ⟨m0, by omega⟩, _, rfl, a, _, _, 2, rfl, rfl, g1, rfl, _, rfl, ?_⟩
        refine hQ _ _ ⟨c, cs, j1, j2 / m, j3, j4, upd_same, ?_, g3, Int.ediv_nonneg g4 (by omega)⟩ (by rw [delH_upd, g2]) ((cellsOf_at (x := .ref c) upd_same).trans (cellsOf_at h1).symm) (Int.emod_nonneg _ (by omega)) (Int.emod_lt_of_pos _ m0)
        rw [delH_upd, g2]
        exact h2
      · refine ix0 rfl g1 rfl ⟨_, _, rfl, rfl, _, rfl, a, _, _, 4, rfl, rfl, g1, rfl, ?_⟩
        refine ix0 rfl upd_same rfl (ix0 rfl upd_same rfl ⟨_, _, rfl, rfl, .inl ⟨by decide, by decide⟩, _, _, rfl, rfl, _, _, rfl, rfl, .inr ⟨by decide, by decide⟩, .inl ⟨_, rfl, _, _, rfl, rfl, (by show (0 : Int) < 2147483647; decide), ?_⟩⟩)
        have b1 := rest_in ((j3 + 6271 * (j4 + 1)) * 48673) (m := 2147483647) (by decide)
        refine ⟨_, rfl, _, rfl, _, _, rfl, rfl, ⟨by decide, by decide⟩, _, _, rfl, rfl, _, _, rfl, rfl, .inl ⟨by omega, by omega⟩, .inl ⟨_, rfl, _, _, rfl, rfl, (by show (0 : Int) < 2147483647; decide), ?_⟩⟩
        have b2 := fun z : Int => rest_in z (m := 2147483647) (by decide)
        refine ⟨_, rfl, _, rfl, _, _, rfl, rfl, ⟨by decide, by decide⟩, _, _, rfl, rfl, _, _, rfl, rfl, .inl ⟨Int.lt_of_lt_of_le (by decide) (b2 _).1, Int.lt_of_lt_of_le (b2 _).2 (by decide)⟩, .inl ⟨_, rfl, _, _, rfl, rfl, (by show (0 : Int) < 2147483399; decide), ?_⟩⟩
        refine ⟨_, rfl, _, _, rfl, rfl, ⟨by decide, by decide⟩, .inl ⟨_, rfl, _, rfl, _, _, rfl, rfl, m0, ?_⟩⟩
        refine hQ _ _ ⟨c, cs, j1, j2, j3, j4 + 1, upd_same, ?_, g3, g4⟩ (by rw [delH_upd, g2]) ((cellsOf_at (x := .ref c) upd_same).trans (cellsOf_at h1).symm) (Int.emod_nonneg _ (by omega)) (Int.emod_lt_of_pos _ m0)
        rw [delH_upd, g2]
        exact h2
theorem ok_some (T : Tx K w mg) : Has P w K mg base CX0 2 "_law_pick" ["hand", "things"] spSome := by
  obtain ⟨fd, F⟩ := T.c.def_ 21 (d := d__law_pick) rfl
  have Hd := ok_draw (P := P) (w := w) (base := base) T
  refine ⟨fd, F.ok scSome (fun vs H Q E h => ?_) (fun cdv A outer s H vs Q E hr h => ?_), FunD.bindsN F fun _ _ _ _ _ _ us hl => match us, hl with | [_, _], _ => rfl, F.kp, (T.glo 39 rfl)⟩
  · obtain ⟨a, p, xs, rfl, _⟩ := h
    rfl
  · refine ⟨_, PSs.nox (pss_one (ps_ret (pe_ix ix_seq (pv 1) (pe_has Hd (hr.mono (by decide)) pass0 (pa_cons (pv 0) (pa_cons (pe_callB call_len (by rfl) (T.free 76 rfl) PySem.boot_len (pa_cons (pv 1) pa_nil)) pa_nil))) (fun _ _ => rfl)))), ?_⟩
    obtain ⟨a, x, xs, rfl, hd, hp, l0, l1, hQ⟩ := h
    refine ⟨_, rfl, _, rfl, ?_⟩
    rcases hp with ⟨p, rfl, ne, hp⟩ | ⟨z, rfl, rfl⟩
    · refine ⟨_, rfl, _, _, rfl, (show LenV K (.ref p) H xs.length from hp.elim (fun e => .inl ⟨xs, sq_of e, rfl⟩) (fun e => .inr ⟨xs, st_of e, rfl⟩)), a, _, rfl, hd, by omega, by omega, fun H' r hd' e ec r0 r1 => ?_⟩
      obtain ⟨j, rfl⟩ := Int.eq_ofNat_of_zero_le r0
      have hj : j < xs.length := by omega
      have e' : ∀ o, H p = some o → H' p = some o := fun o h => by
        have z := congrFun e p
        rw [delH_ne ne, delH_ne ne] at z
        exact z.trans h
      rcases hp with hp | hp
      · exact .inl ⟨p, xs, _, xs[j], rfl, rfl, sq_of (e' _ hp), atI_nat (List.getElem?_eq_getElem hj), hQ H' j _ hd' e ec (List.getElem?_eq_getElem hj)⟩
      · exact .inr (.inl ⟨p, xs, _, xs[j], rfl, rfl, st_of (e' _ hp), atI_nat (List.getElem?_eq_getElem hj), hQ H' j _ hd' e ec (List.getElem?_eq_getElem hj)⟩)
    · rw [List.length_map] at l0 l1
      have lz : z.length = z.cps.toList.length := by simp [Str.length]
      refine ⟨_, rfl, _, _, rfl, (show LenV K (.str z) H z.length from ⟨Nat.le_of_lt (small1000 (by omega)), rfl⟩), a, _, rfl, hd, by omega, by omega, fun H' r hd' e ec r0 r1 => ?_⟩
      obtain ⟨j, rfl⟩ := Int.eq_ofNat_of_zero_le r0
      have hj : j < z.cps.toList.length := by omega
      exact .inr (.inr ⟨z, _, z.cps.toList[j], rfl, rfl, Nat.le_of_lt (small1000 (by omega)), atI_nat (List.getElem?_eq_getElem hj), hQ H' j _ hd' e ec (by rw [List.getElem?_map, List.getElem?_eq_getElem hj]; rfl)⟩)

end
end K07

set_option maxHeartbeats 4000000
namespace K07
open PySem PySem.Spec PyProof.Rows L2 V1 V2 V3 V6
open Evl (pss_cut tCut sq_of st_of)
theorem walk_zipTT {K : PySem.W.Frag} {a b : Addr} {xs ys : List V} {n : Nat} (hn : n = min xs.length ys.length) : Walk (RZ.ItzT K a b) n (fun H => SqT K H a xs ∧ SqT K H b ys) (YPair (fun i => xs[i]?) (fun i => ys[i]?)) := by
  constructor
  · intro i H hi q
    obtain ⟨g1, g2⟩ : i < xs.length ∧ i < ys.length := by omega
    exact ⟨xs, ys, xs[i], ys[i], q.1, q.2, List.getElem?_eq_getElem g1, List.getElem?_eq_getElem g2⟩
  · exact fun H q => ⟨xs, ys, q.1, q.2, by omega⟩
  · rintro i H v H' hi q ⟨t, x, z, e1, e2, e3, e4, e5⟩
    exact ⟨t, x, z, e1, e2, e3, e4 xs q.1, e5 ys q.2⟩
/-- ints, texts, flags, None, tuples of such, so deep -/
def flatD : Nat → PyData → Bool
  | _, .none => true
  | _, .str _ => true
  | _, .bool _ => true
  | _, .int _ => true
  | n + 1, .tuple ds => decide (ds.length ≤ 900) && ds.all (flatD n)
  | _, _ => false
def spIs : Nat → Sp
  | 0 => fun _ _ _ _ => False
  | n + 1 => fun vs H Q _ => ∃ v u d, vs = [v, u] ∧ Dq H v d ∧ Dq H u d ∧ flatD n d = true ∧ ∀ H', Same H H' → Q (.bl true) H'
theorem scIs : FnScope ["told", "due", "one", "two"] ["told", "due"] (defScope s__law_is) := ⟨rfl, rfl, rfl, by decide +kernel, rfl, by decide +kernel, by decide +kernel⟩
section
variable [CurK] {P : Program} {w : World} {mg : Str → Option Value} {base : Heap}
theorem ok_is (T : Tx K w mg) : ∀ n : Nat, Has P w K mg base CX0 (n + 1) "_law_is" ["told", "due"] (spIs n)
  | 0 => by
    obtain ⟨fd, F⟩ := T.c.def_ 22 (d := d__law_is) rfl
    exact ⟨fd, ⟨fun _ _ _ _ h => h.elim, fun _ _ _ _ _ _ _ _ _ _ _ _ _ h => h.elim⟩, FunD.bindsN F fun _ _ _ _ _ _ us hl => match us, hl with | [_, _], _ => rfl, F.kp, (T.glo 40 rfl)⟩
  | n + 1 => by
    obtain ⟨fd, F⟩ := T.c.def_ 22 (d := d__law_is) rfl
    have Hr := ok_is T n
    refine ⟨fd, F.ok scIs (fun vs H Q E h => ?_) (fun cdv A outer s H vs Q E hr h => ?_), FunD.bindsN F fun _ _ _ _ _ _ us hl => match us, hl with | [_, _], _ => rfl, F.kp, (T.glo 40 rfl)⟩
    · obtain ⟨v, u, d, rfl, _⟩ := h
      rfl
    · refine ⟨_, PSs.nox (pss_cons (ps_if (pt_val (pe_callB call_isiT (by rfl) (T.free 75 rfl) (by decide +kernel) (pa_cons (pv 1) (pa_cons (pe_tup (pa_cons (pe_bltn (v := .ty "tuple") (by rfl) (T.free 81 rfl) (by decide +kernel) rfl) (pa_cons (pe_bltn (v := .ty "list") (by rfl) (T.free 77 rfl) (by decide +kernel) rfl) pa_nil))) pa_nil))))
 (pss_cons (ps_if (PW.pt (pw_or (pt_cmpR op_ne (pe_callB call_isi (by rfl) (T.free 75 rfl) (by decide +kernel) (pa_cons (pv 0) (pa_cons (pe_bltn (v := .ty "tuple") (by rfl) (T.free 81 rfl) (by decide +kernel) rfl) pa_nil))) (pe_callB call_isi (by rfl) (T.free 75 rfl) (by decide +kernel) (pa_cons (pv 1) (pa_cons (pe_bltn (v := .ty "tuple") (by rfl) (T.free 81 rfl) (by decide +kernel) rfl) pa_nil))) (nomark _)) (pw_or1 (pt_not (pt_val (pe_callB call_isiT (by rfl) (T.free 75 rfl) (by decide +kernel) (pa_cons (pv 0) (pa_cons (pe_tup (pa_cons (pe_bltn (v := .ty "tuple") (by rfl) (T.free 81 rfl) (by decide +kernel) rfl) (pa_cons (pe_bltn (v := .ty "list") (by rfl) (T.free 77 rfl) (by decide +kernel) rfl) pa_nil))) pa_nil))))))))
 (pss_one (ps_ret pe_bl))
 pss_nil)
 (pss_one (ps_ret (pe_and (pe_cmpR op_eq (pe_callB call_len (by rfl) (T.free 76 rfl) PySem.boot_len (pa_cons (pv 0) pa_nil)) (pe_callB call_len (by rfl) (T.free 76 rfl) PySem.boot_len (pa_cons (pv 1) pa_nil)) (nomark _)) (pe_one (pe_callB (cr_all rfl) (by rfl) (T.free 70 rfl) (by decide +kernel) (pa_cons (pe_lc (own := [("one", 2), ("two", 3)]) (g := gTup K 2 (gCons (gName 2) (gCons (gName 3) gNil))) (tt := tYes) (te := tCall (spIs n) [] (fun _ _ _ => False) (tCons (tVar 2) (tCons (tVar 3) tNil))) (by rfl) scIs.nd (RZ.pi_zipA (by rfl) (T.free 82 rfl) (pa_cons (pv 0) (pa_cons (pv 1) pa_nil)))
 (blkOk_by (own := [("one", 2), ("two", 3)]) (N := ["told", "due", "one", "two"]) (sc := defScope s__law_is) (by decide +kernel)) (fun _ _ _ _ _ => pg_tup (by rfl) (pgs_cons (pg_name (i := 2) scIs.nd rfl (Or.inl rfl)) (pgs_cons (pg_name (i := 3) scIs.nd rfl (Or.inl rfl)) pgs_nil))) (fun _ _ _ _ _ => pts_nil) (fun _ _ _ _ _ => (pe_has Hr (hr) pass0 (pa_cons (pv 2) (pa_cons (pv 3) pa_nil))))) pa_nil)))))))
 pss_nil)
 (pss_one (ps_ret (pe_and (pe_cmpR op_eq (pe_callB call_isi (by rfl) (T.free 75 rfl) (by decide +kernel) (pa_cons (pv 0) (pa_cons (pe_bltn (v := .ty "bool") (by rfl) (T.free 72 rfl) (by decide +kernel) rfl) pa_nil))) (pe_callB call_isi (by rfl) (T.free 75 rfl) (by decide +kernel) (pa_cons (pv 1) (pa_cons (pe_bltn (v := .ty "bool") (by rfl) (T.free 72 rfl) (by decide +kernel) rfl) pa_nil))) (nomark _)) (pe_one (pe_cmpR op_eq (pv 0) (pv 1) (nomark _))))))), ?_⟩
      obtain ⟨v, u, d, rfl, hv, hu, fl, hQ⟩ := h
      refine isiT_go (kit_tl d) (fun Q q => ⟨u, rfl, q⟩) hu fun p np => ⟨_, rfl, ?_⟩
      have s1 := same_new (o := HO.tup [.ty "tuple", .ty "list"]) np
      have hv1 := Dq.same s1 _ _ hv
      have hu1 := Dq.same s1 _ _ hu
      generalize upd H p (HO.tup [.ty "tuple", .ty "list"]) = H1 at s1 hv1 hu1
      cases d with
      | int i =>
        obtain rfl := Dq.int_inv hv1
        obtain rfl := Dq.int_inv hu1
        refine iteF ?_
        refine ⟨_, rfl, _, .ty "bool", _, _, _, rfl, .ty "bool", dq_ty hv1, kit_ty (kit_bool _), _, rfl, _, .ty "bool", _, _, _, rfl, .ty "bool", dq_ty hu1, kit_ty (kit_bool _), rfl, true, rfl, iteT ?_⟩
        refine ⟨_, rfl, _, rfl, rfl, ?_⟩
        have z : decide (V.int i = V.int i) = true := decide_eq_true rfl
        rw [z]
        exact hQ _ s1
      | str i =>
        cases hv1
        cases hu1
        have hn : ∀ H, Dq H (V.str i) (.str i) := fun H => .str i
        refine iteF ?_
        refine ⟨_, rfl, _, .ty "bool", _, _, _, rfl, .ty "bool", dq_ty (hn _), kit_ty (kit_bool _), _, rfl, _, .ty "bool", _, _, _, rfl, .ty "bool", dq_ty (hn _), kit_ty (kit_bool _), rfl, true, rfl, iteT ?_⟩
        refine ⟨_, rfl, _, rfl, rfl, ?_⟩
        have z : decide (V.str i = V.str i) = true := decide_eq_true rfl
        rw [z]
        exact hQ _ s1
      | bool i =>
        cases hv1
        cases hu1
        have hn : ∀ H, Dq H (V.bl i) (.bool i) := fun H => .bl i
        refine iteF ?_
        refine ⟨_, rfl, _, .ty "bool", _, _, _, rfl, .ty "bool", dq_ty (hn _), kit_ty (kit_bool _), _, rfl, _, .ty "bool", _, _, _, rfl, .ty "bool", dq_ty (hn _), kit_ty (kit_bool _), rfl, true, rfl, iteT ?_⟩
        refine ⟨_, rfl, _, rfl, rfl, ?_⟩
        have z : decide (V.bl i = V.bl i) = true := decide_eq_true rfl
        rw [z]
        exact hQ _ s1
      | none =>
        cases hv1
        cases hu1
        have hn : ∀ H, Dq H V.non .none := fun H => .non
        refine iteF ?_
        refine ⟨_, rfl, _, .ty "bool", _, _, _, rfl, .ty "bool", dq_ty (hn _), kit_ty (kit_bool _), _, rfl, _, .ty "bool", _, _, _, rfl, .ty "bool", dq_ty (hn _), kit_ty (kit_bool _), rfl, true, rfl, iteT ?_⟩
        refine ⟨_, rfl, _, rfl, rfl, ?_⟩
        have z : decide (V.non = V.non) = true := decide_eq_true rfl
        rw [z]
        exact hQ _ s1
      | tuple ds =>
        refine iteT ?_
        refine isi_go (kit_tup _) (fun Q q => ⟨_, rfl, q⟩) hv1 (isi_go (kit_tup _) (fun Q q => ⟨_, rfl, q⟩) hu1 ⟨rfl, false, rfl, iteF ?_⟩)
        refine isiT_go (kit_tl _) (fun Q q => ⟨_, rfl, q⟩) hv1 fun p2 np2 => ⟨true, rfl, iteF ?_⟩
        have s2 := same_new (o := HO.tup [.ty "tuple", .ty "list"]) np2
        have hv2 := Dq.same s2 _ _ hv1
        have hu2 := Dq.same s2 _ _ hu1
        have s12 := s1.trans s2
        generalize upd H1 p2 (HO.tup [.ty "tuple", .ty "list"]) = H2 at s2 hv2 hu2 s12
        obtain ⟨a, vs, rfl, ha, ra⟩ := Dq.tup_inv hv2
        obtain ⟨b, us, rfl, hb, rb⟩ := Dq.tup_inv hu2
        have la := dqAll_len ra
        have lb := dqAll_len rb
        cases n with
        | zero => cases fl
        | succ n =>
        have fl' : ds.length ≤ 900 ∧ ∀ x ∈ ds, flatD n x = true := by simpa [flatD] using fl
        refine ⟨_, rfl, _, _, rfl, .inr ⟨vs, st_of ha, rfl⟩, _, rfl, _, _, rfl, .inr ⟨us, st_of hb, rfl⟩, rfl, true, by rw [la, lb]; simp, iteT ?_⟩
        refine ⟨_, rfl, _, rfl, a, b, vs, us, rfl, .inr ⟨st_of ha, st_of hb, fun D nD => ?_⟩⟩
        have nm : ds.length = min vs.length us.length := by omega
        refine lc_gen (σ := [some (.ref a), some (.ref b), none, none]) (vs := [2, 3]) (walk_zipTT (K := K) (a := a) (b := b) (xs := vs) (ys := us) nm) nD (fun i acc H' => Same H2 H' ∧ acc = (List.replicate i true).map V.bl) ⟨Same.refl _, rfl⟩ (fun i acc H' _ z => ⟨st_of (same_delH _ _ (z.1 _ _ ha)), st_of (same_delH _ _ (z.1 _ _ hb))⟩) ?_ ?_
        · rintro i acc x H3 H4' hi l e ⟨sm, rfl⟩ ⟨t, x1, y1, rfl, nt, rfl, e1, e2⟩
          have di : ds[i]? = some ds[i] := List.getElem?_eq_getElem hi
          have st := same_new (o := HO.tup [x1, y1]) nt
          have e' := st _ _ e
          have sm4 : Same H2 (delH (upd H3 t (HO.tup [x1, y1])) D) := fun b o ob => same_del st _ _ (sm _ _ ob)
          have up4 : Same H2 (upd H3 t (HO.tup [x1, y1])) := sm4.trans same_delH
          have et : upd H3 t (HO.tup [x1, y1]) t = some (.tup [x1, y1]) := upd_same
          generalize upd H3 t (HO.tup [x1, y1]) = H4 at e' sm4 up4 et
          refine ⟨t, _, rfl, st_of et, rfl, _, _, rfl, _, _, rfl, rfl, rfl, ?_⟩
          simp only [tYes, if_true]
          refine ⟨_, rfl, _, rfl, _, _, ds[i], rfl, Dq.same up4 _ _ (dqAt ra e1 di), Dq.same up4 _ _ (dqAt rb e2 di), fl'.2 _ (List.getElem_mem hi), fun H5 s5 => ?_⟩
          refine lc_put l (by omega) (s5 _ _ e') ⟨sm4.trans (same_del s5), ?_⟩
          rw [List.replicate_succ', List.map_append]
          rfl
        · rintro acc H3 l e ⟨sm, rfl⟩
          refine ⟨D, List.replicate ds.length true, rfl, sq_of e, ?_⟩
          have z : (List.replicate ds.length true).all id = true := by simp
          rw [z]
          exact hQ H3 (s12.trans (sm.trans same_delH))
      | _ => cases n <;> cases fl
end
end K07

set_option maxHeartbeats 4000000
namespace K07
open PySem PySem.Spec PyProof.Rows L2 V1 V2 V3 V6
open Evl (pss_cut tCut sq_of st_of)
theorem mul19 {x : Str} (h : PrOk x = true) (l : x.length = 2) : PrOk (Txt.mul x 19) = true ∧ (Txt.mul x 19).length = 38 := mulN h l 19 (by decide)
def rLeTx : R2 := fun x y H Q => ∃ i j, x = .str i ∧ y = .str j ∧ Q (.bl (!decide (j.cps.toList < i.cps.toList))) H
def spSigns : Sp := fun vs H Q _ => vs = [] ∧ Q (.str signs) H
def spLWord : Sp := fun vs H Q _ => ∃ a, vs = [.ref a] ∧ HandAt H a ∧ ∀ H' x, Go a H H' → wordX x = true → Q (.str x) H'
theorem scSigns : FnScope ["first"] [] (defScope s__law_signs) := ⟨rfl, rfl, rfl, by decide +kernel, rfl, by decide +kernel, by decide +kernel⟩
theorem scLWord : FnScope ["hand", "kind", "signs", "k"] ["hand"] (defScope s__law_word) := ⟨rfl, rfl, rfl, by decide +kernel, rfl, by decide +kernel, by decide +kernel⟩
theorem le_one (c d : Nat) : (!decide (([d] : List Nat) < [c])) = decide (c ≤ d) := by
  have z : ([d] < [c]) ↔ d < c := by
    rw [List.cons_lt_cons_iff]
    constructor
    · rintro (h | ⟨_, h⟩)
      · exact h
      · exact absurd h (List.lt_irrefl _)
    · exact .inl
  by_cases h : c ≤ d
  · rw [decide_eq_true h, decide_eq_false fun q => by have := z.mp q; omega]
    rfl
  · rw [decide_eq_false h, decide_eq_true (z.mpr (by omega))]
    rfl
theorem pick_sign {H : Hp} {a : Addr} {Q : VK} {E : XK} (hd : HandAt H a) (k : ∀ H2 z, HandAt H2 a → delH H2 a = delH H a → cellsOf H2 a = cellsOf H a → PrOk (⟨#[z]⟩ : Str) = true → Q (.str ⟨#[z]⟩) H2) : spSome [.ref a, .str signs] H Q E := by
  refine ⟨a, .str signs, _, rfl, hd, .inr ⟨signs, rfl, rfl⟩, (by decide +kernel), (by decide +kernel), fun H6 j v hd6 e6 c6 ev => ?_⟩
  rw [List.getElem?_map] at ev
  obtain ⟨z, hz, rfl⟩ := Option.map_eq_some_iff.mp ev
  exact k H6 z hd6 e6 c6 (signs_pr z (List.mem_of_getElem? hz))
section
variable [CurK] {P : Program} {w : World} {mg : Str → Option Value} {base : Heap}
theorem ok_signs (T : Tx K w mg) : Has P w K mg base CX0 1 "_law_signs" [] spSigns := by
  obtain ⟨fd, F⟩ := T.c.def_ 23 (d := d__law_signs) rfl
  refine ⟨fd, F.ok scSigns (fun vs H Q E h => ?_) (fun cdv A outer s H vs Q E hr h => ?_), FunD.bindsN F fun _ _ _ _ _ _ us hl => match us, hl with | [], _ => rfl, F.kp, (T.glo 41 rfl)⟩
  · obtain ⟨rfl, _⟩ := h
    rfl
  · refine ⟨_, PSs.nox (pss_cons (ps_set (i := 0) scSigns.nd rfl (Or.inl rfl) pe_str)
 (pss_one (ps_ret (pe_op op_add_str (pv 0) pe_str)))), ?_⟩
    obtain ⟨rfl, hQ⟩ := h
    exact ⟨_, rfl, _, _, rfl, rfl, (by decide), hQ⟩
theorem ok_lword (T : Tx K w mg) : Has P w K mg base CX0 3 "_law_word" ["hand"] spLWord := by
  obtain ⟨fd, F⟩ := T.c.def_ 24 (d := d__law_word) rfl
  have Hs := ok_some (P := P) (w := w) (base := base) T
  have Hd := ok_draw (P := P) (w := w) (base := base) T
  have Hg := ok_signs (P := P) (w := w) (base := base) T
  refine ⟨fd, F.ok scLWord (fun vs H Q E h => ?_) (fun cdv A outer s H vs Q E hr h => ?_), FunD.bindsN F fun _ _ _ _ _ _ us hl => match us, hl with | [_], _ => rfl, F.kp, (T.glo 42 rfl)⟩
  · obtain ⟨a, rfl, _⟩ := h
    rfl
  · refine ⟨_, PSs.nox (pss_cons (ps_set (i := 1) scLWord.nd rfl (Or.inl rfl) (pe_has Hd (hr.mono (by decide)) pass0 (pa_cons (pv 0) (pa_cons pe_int pa_nil))))
 (pss_cons (ps_if (pt_cmpR op_lt (pv 1) pe_int (nomark _))
 (pss_one (ps_ret (pe_ix ix_list (pe_lstS (pa_cons pe_str (pa_cons pe_str (pa_cons pe_str (pa_cons pe_str pa_nil))))) (pv 1) (fun _ _ => rfl))))
 pss_nil)
 (pss_cons (ps_set (i := 2) scLWord.nd rfl (Or.inr rfl) (pe_has0 Hg (hr.mono (by decide)) pass0))
 (pss_cons (ps_if (pt_cmpR op_lt (pv 1) pe_int (nomark _))
 (pss_one (ps_ret (pe_join pe_str (pe_lc (own := [("k", 3)]) (g := gName 3) (tt := tYes) (te := tCall spSome [] (fun _ _ _ => False) (tCons (tVar 0) (tCons (tVar 2) tNil))) (by rfl) scLWord.nd (pi_range1 (by rfl) (T.free 79 rfl) (pa_cons (pe_op op_add pe_int (pe_has Hd (hr.mono (by decide)) pass0 (pa_cons (pv 0) (pa_cons pe_int pa_nil)))) pa_nil))
 (blkOk_by (own := [("k", 3)]) (N := ["hand", "kind", "signs", "k"]) (sc := defScope s__law_word) (by decide +kernel)) (fun _ _ _ _ _ => pg_name (i := 3) scLWord.nd rfl (Or.inl rfl)) (fun _ _ _ _ _ => pts_nil) (fun _ _ _ _ _ => (pe_has Hs (hr.mono (by decide)) pass0 (pa_cons (pv 0) (pa_cons (pv 2) pa_nil))))))))
 pss_nil)
 (pss_one (ps_ret (pe_op op_add_str (pe_op V4.op_mulS (pe_op op_add_str (pe_has Hs (hr.mono (by decide)) pass0 (pa_cons (pv 0) (pa_cons (pv 2) pa_nil))) (pe_has Hs (hr.mono (by decide)) pass0 (pa_cons (pv 0) (pa_cons (pv 2) pa_nil)))) pe_int) (pe_ix ix_list (pe_lstS (pa_cons pe_str (pa_cons pe_str (pa_cons pe_str pa_nil)))) (pe_has Hd (hr.mono (by decide)) pass0 (pa_cons (pv 0) (pa_cons pe_int pa_nil))) (fun _ _ => rfl))))))))), ?_⟩
    obtain ⟨a, rfl, hd, hQ⟩ := h
    refine ⟨_, rfl, a, 8, rfl, hd, by decide, by decide, fun H1 r hd1 e1 c1 r0 r1 => ?_⟩
    have g1 := Go.draw hd1 e1 c1
    refine ⟨_, rfl, _, _, rfl, rfl, _, rfl, ite2 (fun e => ?_) (fun _ => ?_)⟩
    · have r4 := of_decide_eq_true e
      refine ⟨(by show 4 ≤ sizeLine; decide), fun q nq _ => ?_⟩
      have g2 := g1.trans (Go.new hd1 (same_new (o := HO.lst [.str "", .str "a", .str "b", .str "ab"]) nq))
      have rs : r = 0 ∨ r = 1 ∨ r = 2 ∨ r = 3 := by omega
      rcases rs with rfl | rfl | rfl | rfl
      · exact ⟨_, rfl, q, _, _, _, rfl, rfl, sq_of upd_same, rfl, hQ _ _ g2 (by decide +kernel)⟩
      · exact ⟨_, rfl, q, _, _, _, rfl, rfl, sq_of upd_same, rfl, hQ _ _ g2 (by decide +kernel)⟩
      · exact ⟨_, rfl, q, _, _, _, rfl, rfl, sq_of upd_same, rfl, hQ _ _ g2 (by decide +kernel)⟩
      · exact ⟨_, rfl, q, _, _, _, rfl, rfl, sq_of upd_same, rfl, hQ _ _ g2 (by decide +kernel)⟩
    refine ⟨rfl, ?_⟩
    refine ⟨_, rfl, _, _, rfl, rfl, _, rfl, ite2 (fun e => ?_) (fun _ => ?_)⟩
    · refine ⟨⟨_, rfl⟩, _, rfl, a, 4, rfl, hd1, by decide, by decide, fun H2 r2 hd2 e2 c2 q0 q1 => ?_⟩
      obtain ⟨m, rfl⟩ := Int.eq_ofNat_of_zero_le q0
      have g2 := g1.trans (Go.draw hd2 e2 c2)
      obtain ⟨c, cs, hce, nca, hc⟩ := hd2.cells
      refine ⟨_, _, rfl, rfl, _, rfl, by omega, by omega, fun D nD => ?_⟩
      rw [show ((1 : Int) + (m : Nat)).toNat = m + 1 by omega]
      have Da : D ≠ a := hd2.ne_new nD
      have cD : c ≠ D := fun z => by
        rw [← z, hc] at nD
        cases nD
      refine lc_gen (σ := [some (.ref a), some (.int r), some (.str signs), none]) (vs := [3]) (walk_range (lo := 0) (n := m + 1)) nD (fun i acc H' => Go a H2 H' ∧ ∃ ys : List Str, acc = ys.map V.str ∧ ∀ y ∈ ys, y.length = 1 ∧ PrOk y = true) ⟨Go.refl hd2, [], rfl, fun _ h => absurd h List.not_mem_nil⟩ (fun _ _ _ _ _ => True.intro) ?_ ?_
      · rintro i acc x H4 H5 hi l e ⟨g4, ys, rfl, hy⟩ ⟨rfl, rfl⟩
        refine ⟨rfl, ?_⟩
        simp only [tYes, if_true]
        refine ⟨_, rfl, _, rfl, pick_sign (E := fun _ _ _ => False) (hand_same g4.hd same_delH) fun H6 z hd6 e6 c6 zo => ?_⟩
        obtain ⟨g6, eD⟩ := g4.draw_in hce cD Da hd6 e6 c6
        exact lc_put l (by omega) (eD.trans e) ⟨g6, ys ++ [⟨#[z]⟩], by rw [List.map_append]; rfl, fun y h => by
          rcases List.mem_append.mp h with h | h
          · exact hy y h
          · simp only [List.mem_cons, List.not_mem_nil, or_false] at h
            rw [h]
            exact ⟨rfl, zo⟩⟩
      · rintro acc H4 l e ⟨g4, ys, rfl, hy⟩
        rw [List.length_map] at l
        obtain ⟨j1, j2⟩ := join_pr hy
        refine ⟨_, D, ys, rfl, rfl, .inl (sq_of e), ?_, hQ H4 _ (g2.trans (g4.undel Da)) (wx (by omega) j1)⟩
        rw [sum_one fun y h => (hy y h).1, show (Str.ofString "").length = 0 from rfl]
        omega
    · refine ⟨_, rfl, _, rfl, pick_sign (E := fun _ _ _ => False) hd1 fun H2 z hd2 e2 c2 zo => ?_⟩
      have g2 := g1.trans (Go.draw hd2 e2 c2)
      refine ⟨_, rfl, _, rfl, pick_sign (E := fun _ _ _ => False) hd2 fun H3 y hd3 e3 c3 yo => ?_⟩
      have g3 := g2.trans (Go.draw hd3 e3 c3)
      obtain ⟨m1, m2⟩ := mul19 (pr_app zo yo) (show ((⟨#[z]⟩ : Str) ++ ⟨#[y]⟩).length = 2 from rfl)
      refine ⟨_, _, rfl, rfl, (by show 2 ≤ sizeLine; decide), _, _, rfl, rfl, by decide, by decide, (by show 2 ≤ 1000; decide), ?_⟩
      generalize Txt.mul ((⟨#[z]⟩ : Str) ++ ⟨#[y]⟩) 19 = x at m1 m2 ⊢
      refine ⟨(by show 3 ≤ sizeLine; decide), fun q nq _ => ?_⟩
      have g4 := g3.trans (Go.new hd3 (same_new (o := HO.lst [.str "", .str "a", .str "ab"]) nq))
      have qa := hd3.ne_new nq
      have eq : upd H3 q (HO.lst [.str "", .str "a", .str "ab"]) q = some (.lst [.str "", .str "a", .str "ab"]) := upd_same
      generalize upd H3 q (HO.lst [.str "", .str "a", .str "ab"]) = H4 at g4 eq ⊢
      refine ⟨_, rfl, a, 3, rfl, g4.hd, by decide, by decide, fun H5 t hd5 e5 c5 t0 t1 => ?_⟩
      have g5 := g4.trans (Go.draw hd5 e5 c5)
      have eq5 : H5 q = some (.lst [.str "", .str "a", .str "ab"]) := by
        have z := congrFun e5 q
        rw [delH_ne qa, delH_ne qa] at z
        exact z.trans eq
      have fin : ∀ y : Str, y.length ≤ 2 → PrOk y = true → ∃ i j, V.str x = .str i ∧ V.str y = .str j ∧ i.length + j.length ≤ sizeLine ∧ Q (.str (i ++ j)) H5 := fun y l p =>
        ⟨x, y, rfl, rfl, Nat.le_trans (by omega : x.length + y.length ≤ 40) (by decide), hQ H5 _ g5 (wx (by rw [len_app]; omega) (pr_app m1 p))⟩
      have ts : t = 0 ∨ t = 1 ∨ t = 2 := by omega
      rcases ts with rfl | rfl | rfl
      · exact ⟨q, _, _, _, rfl, rfl, sq_of eq5, rfl, fin _ (by decide) (by decide +kernel)⟩
      · exact ⟨q, _, _, _, rfl, rfl, sq_of eq5, rfl, fin _ (by decide) (by decide +kernel)⟩
      · exact ⟨q, _, _, _, rfl, rfl, sq_of eq5, rfl, fin _ (by decide) (by decide +kernel)⟩
end
end K07

set_option maxHeartbeats 4000000
namespace V4
open PySem PySem.Spec PyProof.Rows L2
/-- what is not come to -/
theorem ps_no {X : Cx} {st : Stmt} : PS X st (fun _ _ _ => False) := ⟨fun _ _ _ _ _ _ h => h.elim⟩
end V4
namespace K07
open PySem PySem.Spec PyProof.Rows L2 V1 V2 V3 V6
open Evl (pss_cut tCut sq_of st_of)
mutual
/-- all texts within are short -/
def shortA : PyData → Bool
  | .str x => decide (x.length ≤ 12000000)
  | .tuple ds => shortAll ds
  | .list ds => shortAll ds
  | _ => true
def shortAll : List PyData → Bool
  | [] => true
  | d :: ds => shortA d && shortAll ds
end
theorem shortAll_of : ∀ {ds : List PyData}, shortAll ds = true → ∀ d ∈ ds, shortA d = true
  | [], _, d, h => absurd h List.not_mem_nil
  | e :: ds, k, d, h => by
    simp only [shortAll, Bool.and_eq_true] at k
    rcases List.mem_cons.mp h with rfl | h
    · exact k.1
    · exact shortAll_of k.2 d h
theorem all_short : ∀ {ds : List PyData}, (∀ d ∈ ds, shortA d = true) → shortAll ds = true
  | [], _ => rfl
  | d :: ds, h => by
    simp only [shortAll, Bool.and_eq_true]
    exact ⟨h d List.mem_cons_self, all_short fun x hx => h x (List.mem_cons_of_mem _ hx)⟩
theorem shortA_D {d : PyData} (h : shortA d = true) : shortD d := by
  cases d with
  | str x => exact of_decide_eq_true (p := x.length ≤ 12000000) (by simpa [shortA] using h)
  | _ => trivial
theorem at0 {v : V} {us : List V} : atI (v :: us) 0 = some v := atI_nat (j := 0) rfl
theorem at1 {v u : V} {us : List V} : atI (v :: u :: us) 1 = some u := atI_nat (j := 1) rfl
theorem at2 {v u x : V} {us : List V} : atI (v :: u :: x :: us) 2 = some x := atI_nat (j := 2) rfl
theorem at3 {v u x y : V} {us : List V} : atI (v :: u :: x :: y :: us) 3 = some y := atI_nat (j := 3) rfl
def lettersD : PyData → Bool
  | .str x => lettersX x
  | _ => false
/-- at v: an item of the stack -/
def ItAt [CurK] (G H : Hp) (v : V) (x : V6.It) : Prop := ∃ t u, v = .ref t ∧ H t = some (.tup [.str x.1, u, .int ((x.2.2.1 : Nat) : Int), .int ((x.2.2.2 : Nat) : Int)]) ∧ Dx G u x.2.1
structure ItL [CurK] (G H : Hp) (vs : List V) (xs : List V6.It) : Prop where
  len : vs.length = xs.length
  at_ : ∀ (i : Nat) (v : V) (x : V6.It), vs[i]? = some v → xs[i]? = some x → ItAt G H v x
section
variable [CurK]
theorem ItAt.same {G H H' : Hp} {v : V} {x : V6.It} (s : Same H H') (h : ItAt G H v x) : ItAt G H' v x := by
  obtain ⟨t, u, e, e2, d⟩ := h
  exact ⟨t, u, e, s _ _ e2, d⟩
theorem ItL.same {G H H' : Hp} {vs : List V} {xs : List V6.It} (s : Same H H') (h : ItL G H vs xs) : ItL G H' vs xs := ⟨h.len, fun i v x a b => (h.at_ i v x a b).same s⟩
theorem ItL.app {G H : Hp} {vs us : List V} {xs ys : List V6.It} (h : ItL G H vs xs) (k : ItL G H us ys) : ItL G H (vs ++ us) (xs ++ ys) := by
  refine ⟨by rw [List.length_append, List.length_append, h.len, k.len], fun i v x a b => ?_⟩
  by_cases e : i < vs.length
  · rw [List.getElem?_append_left e] at a
    rw [List.getElem?_append_left (by rw [← h.len]; exact e)] at b
    exact h.at_ i v x a b
  · rw [List.getElem?_append_right (by omega)] at a
    rw [List.getElem?_append_right (by rw [← h.len]; omega)] at b
    exact k.at_ _ v x a (by rw [h.len]; exact b)
theorem ItL.one {G H : Hp} {v : V} {x : V6.It} (h : ItAt G H v x) : ItL G H [v] [x] := ⟨rfl, fun i u y a b => by
  cases i with
  | zero => cases a; cases b; exact h
  | succ i => cases a⟩
theorem ItL.last {G H : Hp} {vs : List V} {xs : List V6.It} (h : ItL G H vs xs) (ne : vs ≠ []) : ∃ us v ys x, vs = us ++ [v] ∧ xs = ys ++ [x] ∧ ItL G H us ys ∧ ItAt G H v x := by
  have nx : xs ≠ [] := fun z => ne (by
    have := h.len
    rw [z] at this
    exact List.eq_nil_of_length_eq_zero this)
  have e1 := (List.dropLast_concat_getLast ne).symm
  have e2 := (List.dropLast_concat_getLast nx).symm
  have lv : vs.dropLast.length = xs.dropLast.length := by rw [List.length_dropLast, List.length_dropLast, h.len]
  refine ⟨_, _, _, _, e1, e2, ⟨lv, fun i v x a b => ?_⟩, ?_⟩
  · refine h.at_ i v x ?_ ?_
    · rw [e1, List.getElem?_append_left (List.getElem?_eq_some_iff.mp a).1]
      exact a
    · rw [e2, List.getElem?_append_left (List.getElem?_eq_some_iff.mp b).1]
      exact b
  · refine h.at_ vs.dropLast.length _ _ ?_ ?_
    · rw [List.length_dropLast, ← List.getLast?_eq_getElem?, List.getLast?_eq_some_getLast ne]
    · rw [lv, List.length_dropLast, ← List.getLast?_eq_getElem?, List.getLast?_eq_some_getLast nx]
end
def teInner (K : PySem.W.Frag) : TE := tTup (tCons (tOp (rIxT K) (tVar 5) (tVar 7)) (tCons (tOp (rIxT K) (tVar 1) (tOp (rI0 fun i j => .int (i + j)) (tVar 7) (tC (.int 1)))) (tCons (tOp (rI0 fun i j => .int (i + j)) (tVar 2) (tC (.int 1))) (tCons (tVar 6) tNil))))
def spHasL [CurK] : Sp := fun vs H Q _ => ∃ v d, vs = [v] ∧ Dx H v d ∧ shortD d ∧ Q (.bl (lettersD d)) H
def spName [CurK] : Sp := fun vs H Q _ => ∃ v d, vs = [v] ∧ Dx H v d ∧ shortD d ∧ Q (.bl (nameD d)) H
def spForm [CurK] : Sp := fun vs H Q _ => ∃ v d s, vs = [v, .str s] ∧ Dx H v d ∧ Q (.bl (formD d s)) H
def spRight [CurK] : Sp := fun vs H Q _ => ∃ v d s, ∃ a e : Nat, vs = [.str s, v, .int ((a : Nat) : Int), .int ((e : Nat) : Int)] ∧ Dx H v d ∧ shortA d = true ∧ Q (.bl (rightOf s d a e)) H
def spInner [CurK] : Sp := fun vs H Q _ => ∃ G v d s, ∃ a e : Nat, vs = [.str s, v, .int ((a : Nat) : Int), .int ((e : Nat) : Int)] ∧ Same G H ∧ Dx G v d ∧ rightOf s d a e = true ∧ (innerOf s d a e).length ≤ 100000 ∧ ∀ H' p us, Same H H' → H p = none → H' p = some (.lst us) → ItL G (delH H' p) us (innerOf s d a e) → Q (.ref p) H'
theorem scHasL : FnScope ["thing"] ["thing"] (defScope s_has_letters) := ⟨rfl, rfl, rfl, by decide +kernel, rfl, by decide +kernel, by decide +kernel⟩
theorem scName : FnScope ["thing"] ["thing"] (defScope s_is_name) := ⟨rfl, rfl, rfl, by decide +kernel, rfl, by decide +kernel, by decide +kernel⟩
theorem scForm : FnScope ["thing", "sort", "told", "parts"] ["thing", "sort"] (defScope s_has_form) := ⟨rfl, rfl, rfl, by decide +kernel, rfl, by decide +kernel, by decide +kernel⟩
theorem scRight : FnScope ["sort", "thing", "around", "eaches"] ["sort", "thing", "around", "eaches"] (defScope s_is_right) := ⟨rfl, rfl, rfl, by decide +kernel, rfl, by decide +kernel, by decide +kernel⟩
theorem scInner : FnScope ["sort", "thing", "around", "eaches", "statement", "sorts", "within", "at"] ["sort", "thing", "around", "eaches"] (defScope s_inner_ones) := ⟨rfl, rfl, rfl, by decide +kernel, rfl, by decide +kernel, by decide +kernel⟩
theorem formsL_is : formsL = V6.formsL := by decide +kernel
section
variable [CurK] {P : Program} {w : World} {mg : Str → Option Value} {base : Heap}
theorem ok_hasl (T : Tx K w mg) : Has P w K mg base CX0 1 "has_letters" ["thing"] spHasL := by
  obtain ⟨fd, F⟩ := T.c.def_ 3 (d := d_has_letters) rfl
  obtain ⟨t8, g8⟩ := (T.int 13 rfl)
  refine ⟨fd, F.ok scHasL (fun vs H Q E h => ?_) (fun cdv A outer s H vs Q E hr h => ?_), FunD.bindsN F fun _ _ _ _ _ _ us hl => match us, hl with | [_], _ => rfl, F.kp, (T.glo 17 rfl)⟩
  · obtain ⟨v, d, rfl, _⟩ := h
    rfl
  · refine ⟨_, PSs.nox (pss_cons (ps_if (PW.pt (pw_or (pt_not (pt_val (pe_callB call_isi (by rfl) (T.free 75 rfl) (by decide +kernel) (pa_cons (pv 0) (pa_cons (pe_bltn (v := .ty "str") (by rfl) (T.free 80 rfl) (by decide +kernel) rfl) pa_nil))))) (pw_or1 (pt_not (pt_chain op_le op_le pe_int (pe_callB call_len (by rfl) (T.free 76 rfl) PySem.boot_len (pa_cons (pv 0) pa_nil)) (pe_glob (v := .int 8) (by rfl) g8 ⟨_, rfl⟩))))))
 (pss_one (ps_ret pe_bl))
 pss_nil)
 (pss_one (ps_ret (pe_and (pe_m0 PySem.F.slot_str_isascii PySem.F.type_str_isascii mt_isascii (pv 0)) (pe_and (pe_m0 PySem.F.slot_str_isalpha PySem.F.type_str_isalpha mt_isalpha (pv 0)) (pe_one (pe_m0 PySem.F.slot_str_islower PySem.F.type_str_islower mt_islower (pv 0)))))))), ?_⟩
    obtain ⟨v, d, rfl, hd, sh, hQ⟩ := h
    obtain ⟨ty, tyx, kk⟩ := kx_of (kx_str d) hd
    refine ⟨_, rfl, v, .ty "str", _, _, _, rfl, .ty "str", tyx, kk, _, rfl, ?_⟩
    cases d with
    | str x =>
      obtain rfl := Dx.str_inv hd
      have hs : x.length ≤ 12000000 := sh
      have lx : lettersD (.str x) = ((decide (1 ≤ x.length) && decide (x.length ≤ 8)) && (Txt.isascii x && (Txt.isalpha x && Txt.islower x))) := rfl
      rw [lx] at hQ
      have len : LenV K (.str x) H x.length := ⟨Nat.le_trans hs (by decide), rfl⟩
      refine iteF ⟨_, rfl, _, _, rfl, len, _, _, rfl, rfl, _, rfl, ite2 (fun e1 => ?_) (fun e1 => ?_)⟩
      · have l1 : decide (1 ≤ x.length) = true := decide_eq_true (by have := of_decide_eq_true e1; omega)
        rw [l1, Bool.true_and] at hQ
        refine ⟨_, _, rfl, rfl, _, rfl, ?_⟩
        by_cases e2 : x.length ≤ 8
        · rw [decide_eq_true e2, Bool.true_and] at hQ
          rw [show decide (((x.length : Nat) : Int) ≤ 8) = true from decide_eq_true (by omega)]
          refine iteF ⟨_, rfl, ⟨_, rfl⟩, x, rfl, rfl, trivial, _, rfl, ite2 (fun q => ?_) (fun q => ?_)⟩
          · rw [q, Bool.true_and] at hQ
            refine ⟨_, rfl, ⟨_, rfl⟩, x, rfl, rfl, trivial, _, rfl, ite2 (fun q2 => ?_) (fun q2 => ?_)⟩
            · rw [q2, Bool.true_and] at hQ
              exact ⟨_, rfl, ⟨_, rfl⟩, x, rfl, rfl, trivial, hQ⟩
            · rw [Bool.eq_false_iff.mpr q2, Bool.false_and] at hQ
              exact hQ
          · rw [Bool.eq_false_iff.mpr q, Bool.false_and] at hQ
            exact hQ
        · rw [decide_eq_false e2, Bool.false_and] at hQ
          rw [show decide (((x.length : Nat) : Int) ≤ 8) = false from decide_eq_false (by omega)]
          exact iteT hQ
      · have l1 : decide (1 ≤ x.length) = false := decide_eq_false fun z => e1 (decide_eq_true (by omega))
        rw [l1, Bool.false_and, Bool.false_and] at hQ
        exact ⟨_, rfl, iteT hQ⟩
    | _ => exact iteT (iteT hQ)
theorem ok_name (T : Tx K w mg) : Has P w K mg base CX0 2 "is_name" ["thing"] spName := by
  obtain ⟨fd, F⟩ := T.c.def_ 4 (d := d_is_name) rfl
  have Hl := ok_hasl (P := P) (w := w) (base := base) T
  refine ⟨fd, F.ok scName (fun vs H Q E h => ?_) (fun cdv A outer s H vs Q E hr h => ?_), FunD.bindsN F fun _ _ _ _ _ _ us hl => match us, hl with | [_], _ => rfl, F.kp, (T.glo 18 rfl)⟩
  · obtain ⟨v, d, rfl, _⟩ := h
    rfl
  · refine ⟨_, PSs.nox (pss_one (ps_ret (pe_and (pe_has Hl (hr.mono (by decide)) pass0 (pa_cons (pv 0) pa_nil)) (pe_one (pe_cmpR op_notIn_seq (pv 0) (pe_glob (v := .ref (He.ga K "BARE")) (by rfl) (T.glo 15 rfl) rfl) (by rfl)))))), ?_⟩
    obtain ⟨v, d, rfl, hd, sh, hQ⟩ := h
    refine ⟨_, rfl, v, d, rfl, hd, sh, _, rfl, ite2 (fun e => ?_) (fun e => ?_)⟩
    · cases d with
      | str x =>
        obtain rfl := Dx.str_inv hd
        refine ⟨_, rfl, _, _, rfl, .inr (T.sBARE H), rfl, rfl, ?_⟩
        have q : nameD (.str x) = !inV (V.str x) ((["many", "last"] : List Str).map V.str) := by
          have e' : lettersX x = true := e
          show (lettersX x && !decide (x ∈ [("many" : Str), "last"])) = _
          rw [e', Bool.true_and]
          congr 1
          by_cases m : x ∈ [("many" : Str), "last"]
          · rw [decide_eq_true m]
            simp only [List.mem_cons, List.not_mem_nil, or_false] at m
            rcases m with rfl | rfl <;> decide +kernel
          · rw [decide_eq_false m]
            simp only [List.mem_cons, List.not_mem_nil, or_false, not_or] at m
            simp [inV, eqV, Ne.symm m.1, Ne.symm m.2]
        rw [q] at hQ
        exact hQ
      | _ => cases e
    · have q : nameD d = false := by
        cases d with
        | str x =>
          have e' : lettersX x = false := by simpa [lettersD] using e
          show (lettersX x && _) = false
          rw [e', Bool.false_and]
        | _ => rfl
      rw [q] at hQ
      exact hQ
theorem ok_form (T : Tx K w mg) : Has P w K mg base CX0 1 "has_form" ["thing", "sort"] spForm := by
  obtain ⟨fd, F⟩ := T.c.def_ 5 (d := d_has_form) rfl
  refine ⟨fd, F.ok scForm (fun vs H Q E h => ?_) (fun cdv A outer s H vs Q E hr h => ?_), FunD.bindsN F fun _ _ _ _ _ _ us hl => match us, hl with | [_, _], _ => rfl, F.kp, (T.glo 19 rfl)⟩
  · obtain ⟨v, d, s, rfl, _⟩ := h
    rfl
  · refine ⟨_, PSs.nox (pss_cons (ps_if (PW.pt (pw_or (pt_not (pt_val (pe_callB call_isi (by rfl) (T.free 75 rfl) (by decide +kernel) (pa_cons (pv 0) (pa_cons (pe_bltn (v := .ty "tuple") (by rfl) (T.free 81 rfl) (by decide +kernel) rfl) pa_nil))))) (pw_or (pt_cmpR op_eq (pe_callB call_len (by rfl) (T.free 76 rfl) PySem.boot_len (pa_cons (pv 0) pa_nil)) pe_int (nomark _)) (pw_or1 (pt_not (pt_val (pe_callB call_isi (by rfl) (T.free 75 rfl) (by decide +kernel) (pa_cons (pe_ix ix_tup (pv 0) pe_int (fun _ _ => rfl)) (pa_cons (pe_bltn (v := .ty "str") (by rfl) (T.free 80 rfl) (by decide +kernel) rfl) pa_nil)))))))))
 (pss_one (ps_ret pe_bl))
 pss_nil)
 (pss_cons (ps_if (pt_cmpR V5.op_kNotIn (pe_ix ix_tup (pv 0) pe_int (fun _ _ => rfl)) (pe_glob (v := .ref (He.ga K "FORMS")) (by rfl) (T.glo 14 rfl) rfl) (by rfl))
 (pss_one (ps_ret pe_bl))
 pss_nil)
 (pss_cons (ps_asg (V5.pe_kget (pe_glob (v := .ref (He.ga K "FORMS")) (by rfl) (T.glo 14 rfl) rfl) (pe_ix ix_tup (pv 0) pe_int (fun _ _ => rfl)) (fun _ _ => rfl)) (pg_tup (by rfl) (pgs_cons (pg_name (i := 2) scForm.nd rfl (Or.inl rfl)) (pgs_cons (pg_name (i := 3) scForm.nd rfl (Or.inl rfl)) pgs_nil))))
 (pss_one (ps_ret (pe_and (pe_cmpR op_eq (pv 2) (pv 1) (nomark _)) (pe_one (pe_cmpR op_eq (pe_callB call_len (by rfl) (T.free 76 rfl) PySem.boot_len (pa_cons (pv 0) pa_nil)) (pe_op op_add pe_int (pe_callB call_len (by rfl) (T.free 76 rfl) PySem.boot_len (pa_cons (pv 3) pa_nil))) (nomark _))))))))), ?_⟩
    obtain ⟨v, d, s, rfl, hd, hQ⟩ := h
    obtain ⟨ty, tyx, kk⟩ := kx_of (kx_tup d) hd
    refine ⟨_, rfl, v, .ty "tuple", _, _, _, rfl, .ty "tuple", tyx, kk, _, rfl, ?_⟩
    cases hT : isTup d with
    | false =>
      have z : formD d s = false := by cases d <;> first | rfl | cases hT
      rw [z] at hQ
      exact iteT (iteT hQ)
    | true =>
    obtain ⟨ds, rfl⟩ := isTup_tup hT
    obtain ⟨a, us, rfl, ha, hr'⟩ := Dx.tup_inv hd
    have lu := dxAll_len hr'
    refine iteF ⟨_, rfl, _, _, rfl, .inr ⟨us, st_of ha, rfl⟩, rfl, _, rfl, ite2 (fun e => ?_) (fun e => ?_)⟩
    · have z : ds = [] := List.eq_nil_of_length_eq_zero (by
        have : ((us.length : Nat) : Int) = 0 := by simpa using e
        omega)
      subst z
      exact iteT hQ
    cases hr' with
    | nil => exact (e (by simp)).elim
    | @cons v1 us d1 ds q1 r1 =>
    obtain ⟨ty1, tyx1, kk1⟩ := kx_of (kx_str d1) q1
    refine ⟨_, rfl, a, _, 0, v1, rfl, rfl, st_of ha, at0, _, .ty "str", _, _, _, rfl, .ty "str", tyx1, kk1, _, rfl, ?_⟩
    cases hS : isStr d1 with
    | false =>
      have z : formD (.tuple (d1 :: ds)) s = false := by cases d1 <;> first | rfl | cases hS
      rw [z] at hQ
      exact iteT hQ
    | true =>
    obtain ⟨k, rfl⟩ : ∃ k, d1 = .str k := by cases d1 <;> first | exact ⟨_, rfl⟩ | cases hS
    obtain rfl := Dx.str_inv q1
    obtain ⟨ks, D, look⟩ := T.forms.ex
    have lk := look k
    rw [formsL_is] at lk
    refine iteF ⟨_, rfl, a, _, 0, _, rfl, rfl, st_of ha, at0, _, ks, k, rfl, D, rfl, _, rfl, ?_⟩
    cases hf : V5.lookF V6.formsL k with
    | none =>
      rw [lk.1 hf]
      have z : formD (.tuple (.str k :: ds)) s = false := by
        unfold formD
        simp only [hf]
      rw [z] at hQ
      exact iteT hQ
    | some p =>
      obtain ⟨t, ps⟩ := p
      obtain ⟨u, x, x', gk, ru, h1, h2⟩ := lk.2 t ps hf
      rw [gk]
      have z : formD (.tuple (.str k :: ds)) s = (decide (t = s) && decide (ds.length = ps.length)) := by
        unfold formD
        simp only [hf]
      rw [z] at hQ
      refine iteF ⟨_, rfl, a, _, 0, _, rfl, rfl, st_of ha, at0, _, ks, k, u, _, rfl, D, rfl, gk, ru, ?_⟩
      refine ⟨x, _, rfl, h1 H, rfl, _, _, rfl, _, _, rfl, rfl, ?_⟩
      refine ⟨_, rfl, _, rfl, rfl, _, rfl, ?_⟩
      have dt : decide (V.str t = V.str s) = decide (t = s) := decide_eq_decide.mpr ⟨fun h => V.str.inj h, fun h => congrArg V.str h⟩
      rw [dt]
      cases hc : decide (t = s) with
      | false =>
        rw [hc, Bool.false_and] at hQ
        exact iteF hQ
      | true =>
        rw [hc, Bool.true_and] at hQ
        refine iteT ⟨_, rfl, _, _, rfl, .inr ⟨_, st_of ha, rfl⟩, _, rfl, _, _, rfl, .inr ⟨_, h2 H, rfl⟩, _, _, rfl, rfl, rfl, ?_⟩
        have dl : decide (V.int (((V.str k :: us).length : Nat) : Int) = V.int (1 + (((ps.map V.str).length : Nat) : Int))) = decide (ds.length = ps.length) := by
          rw [List.length_map]
          have lu' : us.length = ds.length := by simpa using lu
          refine decide_eq_decide.mpr ⟨fun h => ?_, fun h => ?_⟩
          · have := V.int.inj h
            rw [List.length_cons] at this
            omega
          · rw [List.length_cons, lu', h]
            congr 1
            omega
        rw [dl]
        exact hQ
theorem ok_right (T : Tx K w mg) : Has P w K mg base CX0 3 "is_right" ["sort", "thing", "around", "eaches"] spRight := by
  obtain ⟨fd, F⟩ := T.c.def_ 6 (d := d_is_right) rfl
  obtain ⟨t20, g20⟩ := (T.int 10 rfl)
  obtain ⟨t2, g2⟩ := (T.int 12 rfl)
  have Hn := ok_name (P := P) (w := w) (base := base) T
  have Hw := ok_word (P := P) (w := w) (base := base) T
  have Hf := ok_form (P := P) (w := w) (base := base) T
  refine ⟨fd, F.ok scRight (fun vs H Q E h => ?_) (fun cdv A outer s H vs Q E hr h => ?_), FunD.bindsN F fun _ _ _ _ _ _ us hl => match us, hl with | [_, _, _, _], _ => rfl, F.kp, (T.glo 20 rfl)⟩
  · obtain ⟨v, d, s, a, e, rfl, _⟩ := h
    rfl
  · refine ⟨_, PSs.nox (pss_cons (ps_if (pt_cmpR op_eq (pv 0) pe_str (nomark _))
 (pss_one (ps_ret (pe_callB call_isi (by rfl) (T.free 75 rfl) (by decide +kernel) (pa_cons (pv 1) (pa_cons (pe_bltn (v := .ty "tuple") (by rfl) (T.free 81 rfl) (by decide +kernel) rfl) pa_nil)))))
 pss_nil)
 (pss_cons (ps_if (pt_cmpR op_eq (pv 0) pe_str (nomark _))
 (pss_one (ps_ret (pe_has Hn (hr.mono (by decide)) pass0 (pa_cons (pv 1) pa_nil))))
 pss_nil)
 (pss_cons (ps_if (pt_cmpR op_eq (pv 0) pe_str (nomark _))
 (pss_one (ps_ret (pe_has Hw (hr.mono (by decide)) pass0 (pa_cons (pv 1) pa_nil))))
 pss_nil)
 (pss_cons (ps_if (PW.pt (pw_or (pt_not (pt_val (pe_has Hf (hr.mono (by decide)) pass0 (pa_cons (pv 1) (pa_cons (pv 0) pa_nil))))) (pw_or1 (pt_cmpR op_ge (pv 2) (pe_glob (v := .int 20) (by rfl) g20 ⟨_, rfl⟩) (nomark _)))))
 (pss_one (ps_ret pe_bl))
 pss_nil)
 (pss_one (ps_ret (pe_or (pe_cmpR op_ne (pe_ix ix_tup (pv 1) pe_int (fun _ _ => rfl)) pe_str (nomark _)) (pe_one (pe_cmpR op_lt (pv 3) (pe_glob (v := .int 2) (by rfl) g2 ⟨_, rfl⟩) (nomark _)))))))))), ?_⟩
    obtain ⟨v, d, s, a, e, rfl, hd, sh, hQ⟩ := h
    have dt : ∀ x : Str, decide (V.str s = V.str x) = decide (s = x) := fun x => decide_eq_decide.mpr ⟨fun h => V.str.inj h, fun h => congrArg V.str h⟩
    refine ⟨_, rfl, rfl, _, rfl, ?_⟩
    rw [dt]
    by_cases e1 : s = "body"
    · rw [decide_eq_true e1]
      unfold rightOf at hQ
      rw [if_pos e1] at hQ
      exact iteT (isx_go (kx_tup d) (fun Q q => ⟨v, rfl, q⟩) hd hQ)
    rw [decide_eq_false e1]
    refine iteF ⟨_, rfl, rfl, _, rfl, ?_⟩
    rw [dt]
    by_cases e2 : s = "name"
    · rw [decide_eq_true e2]
      unfold rightOf at hQ
      rw [if_neg e1, if_pos e2] at hQ
      exact iteT ⟨_, rfl, v, d, rfl, hd, shortA_D sh, hQ⟩
    rw [decide_eq_false e2]
    refine iteF ⟨_, rfl, rfl, _, rfl, ?_⟩
    rw [dt]
    by_cases e3 : s = "word"
    · rw [decide_eq_true e3]
      unfold rightOf at hQ
      rw [if_neg e1, if_neg e2, if_pos e3] at hQ
      exact iteT ⟨_, rfl, v, d, rfl, hd, shortA_D sh, hQ⟩
    rw [decide_eq_false e3]
    unfold rightOf at hQ
    rw [if_neg e1, if_neg e2, if_neg e3] at hQ
    refine iteF ⟨_, rfl, _, rfl, v, d, s, rfl, hd, _, rfl, ?_⟩
    cases hf : formD d s with
    | false =>
      rw [hf, Bool.false_and, Bool.false_and] at hQ
      exact iteT (iteT hQ)
    | true =>
    rw [hf, Bool.true_and] at hQ
    refine iteF ⟨_, rfl, _, _, rfl, rfl, _, rfl, ?_⟩
    by_cases la : a < 20
    · rw [decide_eq_true la, Bool.true_and] at hQ
      rw [show decide ((20 : Int) ≤ ((a : Nat) : Int)) = false from decide_eq_false (by omega)]
      obtain ⟨k, ds, rfl⟩ : ∃ k ds, d = .tuple (.str k :: ds) := by
        unfold formD at hf
        split at hf
        · exact ⟨_, _, rfl⟩
        · cases hf
      obtain ⟨p, us, rfl, ha, hr'⟩ := Dx.tup_inv hd
      cases hr' with | @cons v1 us _ ds q1 r1 =>
      obtain rfl := Dx.str_inv q1
      refine iteF ⟨_, rfl, p, _, 0, _, rfl, rfl, st_of ha, at0, rfl, _, rfl, ?_⟩
      have dk : (!decide (V.str k = V.str "each")) = !decide (kindD (.tuple (.str k :: ds)) = some (Str.ofString "each")) := by
        congr 1
        exact decide_eq_decide.mpr ⟨fun h => congrArg some (V.str.inj h), fun h => congrArg V.str (Option.some.inj h)⟩
      rw [dk]
      cases hc : !decide (kindD (.tuple (.str k :: ds)) = some (Str.ofString "each")) with
      | true =>
        rw [hc, Bool.true_or] at hQ
        exact iteT hQ
      | false =>
        rw [hc, Bool.false_or] at hQ
        refine iteF ⟨_, rfl, _, _, rfl, rfl, ?_⟩
        have de : decide (((e : Nat) : Int) < 2) = decide (e < 2) := decide_eq_decide.mpr ⟨fun h => by omega, fun h => by omega⟩
        have z : Q (.bl (decide (((e : Nat) : Int) < 2))) H := by
          rw [de]
          exact hQ
        exact z
    · rw [decide_eq_false la, Bool.false_and] at hQ
      rw [show decide ((20 : Int) ≤ ((a : Nat) : Int)) = true from decide_eq_true (by omega)]
      exact iteT hQ
end
end K07

set_option maxHeartbeats 4000000
/-! V9f: small rules of texts read sign by sign. -/
namespace V9
open PySem PySem.Spec PyProof.Rows L2 V1 V2 V3 V5
open V8 (cut_at cut_mid)
def most : Nat := 12000000
def chs (ws : List Str) : List Nat := ws.flatMap fun x => x.cps.toList
theorem chs_snoc (ws : List Str) (x : Str) : chs (ws ++ [x]) = chs ws ++ x.cps.toList := by
  unfold chs
  rw [List.flatMap_append]
  simp
theorem chs_len : ∀ ws : List Str, (ws.map (·.length)).sum = (chs ws).length
  | [] => rfl
  | x :: ws => by
    rw [List.map_cons, List.sum_cons, chs_len ws]
    show _ = (x.cps.toList ++ chs ws).length
    rw [List.length_append]
    simp [Str.length]
theorem join_chs (ws : List Str) : Txt.join (Str.ofString "") ws = ⟨(chs ws).toArray⟩ := by
  rw [TL.join_eq]
  induction ws with
  | nil => rfl
  | cons x ws ih =>
    cases ws with
    | nil =>
      show x = ⟨(x.cps.toList ++ []).toArray⟩
      rw [List.append_nil]
    | cons y ws =>
      have z : Str.join (Str.ofString "") (x :: y :: ws) = x ++ Str.ofString "" ++ Str.join (Str.ofString "") (y :: ws) := rfl
      rw [z, ih]
      show (⟨(x.cps ++ #[]) ++ (chs (y :: ws)).toArray⟩ : Str) = ⟨(x.cps.toList ++ chs (y :: ws)).toArray⟩
      simp
theorem str_ne (c e : Nat) : decide ((V.str ⟨#[c]⟩ : V) = V.str ⟨#[e]⟩) = decide (c = e) := by
  by_cases h : c = e
  · rw [h, decide_eq_true rfl, decide_eq_true rfl]
  · rw [decide_eq_false h, decide_eq_false fun z => h (by
      have y := congrArg (fun q : Str => q.cps.toList) (V.str.inj z)
      simpa using y)]
theorem sgn_go {a b : Nat} {σ : L2.St} {H : Hp} {Q : VK} {x : Str} {i : Nat} {l : List Nat} (ha : σ[a]? = some (some (.str x))) (hb : σ[b]? = some (some (.int ((i : Nat) : Int)))) (xl : x.length ≤ most) (h : x.cps.toList.drop i = l) (q : Q (.str ⟨(l.take 1).toArray⟩) H) :
    tSl rSlS (tVar a) (tPart (tVar b)) (tPart (tOp (rI0 fun i j => .int (i + j)) (tVar b) (tC (.int 1)))) σ H Q :=
  ⟨_, ha, _, hb, _, rfl, _, hb, _, _, rfl, rfl, _, rfl, x, rfl, Nat.le_trans xl (by decide), by rw [cut_at h]; exact q⟩
theorem str_nil (e : Nat) : decide ((V.str ⟨#[]⟩ : V) = V.str ⟨#[e]⟩) = false := decide_eq_false fun z => by
  have y := congrArg (fun q : Str => q.cps.toList) (V.str.inj z)
  simp at y
theorem chs_sgn : ∀ acc : List Nat, chs (acc.map fun c => (⟨#[c]⟩ : Str)) = acc
  | [] => rfl
  | c :: acc => by
    show [c] ++ chs _ = c :: acc
    rw [chs_sgn acc]
    rfl
theorem and_go {t u : TT} {σ : L2.St} {H : Hp} {Q : Bool → Hp → Prop} (b1 b2 : Bool) (h1 : ∀ Q : Bool → Hp → Prop, Q b1 H → t σ H Q) (h2 : b1 = true → ∀ Q : Bool → Hp → Prop, Q b2 H → u σ H Q) (q : Q (b1 && b2) H) : tAnd t u σ H Q := h1 _ (by
  cases b1 with
  | false => exact iteF q
  | true => exact iteT (h2 rfl _ q))
theorem hd_eq (l : List Nat) (c : Nat) : decide ((V.str ⟨(l.take 1).toArray⟩ : V) = V.str ⟨#[c]⟩) = decide (l.head? = some c) := by
  cases l with
  | nil => exact (str_nil c).trans (decide_eq_false fun z => by cases z).symm
  | cons e l =>
    refine (str_ne e c).trans ?_
    by_cases h : e = c
    · rw [decide_eq_true h, decide_eq_true (show (e :: l).head? = some c by rw [h]; rfl)]
    · rw [decide_eq_false h, decide_eq_false (show ¬ (e :: l).head? = some c from fun z => h (Option.some.inj z))]
theorem or_go {t u : TT} {σ : L2.St} {H : Hp} {Q : Bool → Hp → Prop} (b1 b2 : Bool) (h1 : ∀ Q : Bool → Hp → Prop, Q b1 H → t σ H Q) (h2 : b1 = false → ∀ Q : Bool → Hp → Prop, Q b2 H → u σ H Q) (q : Q (b1 || b2) H) : tOr t u σ H Q := h1 _ (by
  cases b1 with
  | true => exact iteT q
  | false => exact iteF (h2 rfl _ q))
theorem str_dec (a b : Str) : decide ((V.str a : V) = V.str b) = decide (a = b) := decide_eq_decide.mpr ⟨fun z => V.str.inj z, fun z => by rw [z]⟩
theorem str_eqb (k e : Nat) : eqV (V.str ⟨#[k]⟩) (V.str ⟨#[e]⟩) = decide (k = e) := by
  show ((⟨#[k]⟩ : Str) == ⟨#[e]⟩) = decide (k = e)
  by_cases h : k = e
  · rw [h, decide_eq_true rfl]
    exact beq_self_eq_true _
  · rw [decide_eq_false h]
    refine beq_eq_false_iff_ne.mpr fun y => h ?_
    simpa using congrArg (fun q : Str => q.cps.toList) y
theorem asg_nx {i : Nat} {v : V} {σ : L2.St} {H : Hp} {Q : L2.St → Hp → Prop} (h : Q (σ.set i (some v)) H) : gName i v σ H Q := h
theorem and_seq {c1 c2 : TT} {t u v : TS} {D : Ends} {σ : L2.St} {H : Hp} (b1 b2 : Bool) (h1 : ∀ Q : Bool → Hp → Prop, Q b1 H → c1 σ H Q) (h2 : b1 = true → ∀ Q : Bool → Hp → Prop, Q b2 H → c2 σ H Q) (q : if (b1 && b2) = true then t { D with nx := v D } σ H else u { D with nx := v D } σ H) : tSeq (tIfS (tAnd c1 c2) t u) v D σ H := and_go b1 b2 h1 h2 q
theorem or_seq {c1 c2 : TT} {t u v : TS} {D : Ends} {σ : L2.St} {H : Hp} (b1 b2 : Bool) (h1 : ∀ Q : Bool → Hp → Prop, Q b1 H → c1 σ H Q) (h2 : b1 = false → ∀ Q : Bool → Hp → Prop, Q b2 H → c2 σ H Q) (q : if (b1 || b2) = true then t { D with nx := v D } σ H else u { D with nx := v D } σ H) : tSeq (tIfS (tOr c1 c2) t u) v D σ H := or_go b1 b2 h1 h2 q
/-- a piece of a text -/
theorem cut_to {x : Str} {i n : Nat} {l : List Nat} (h : x.cps.toList.drop i = l) : cutS x (some ((i : Nat) : Int)) (some (((i + n : Nat) : Nat) : Int)) = ⟨(l.take n).toArray⟩ := by
  have z := cut_mid x i (i + n) (by omega)
  rw [h, show i + n - i = n by omega] at z
  exact z
theorem str_eqs (k e : Str) : eqV (V.str k) (V.str e) = decide (k = e) := by
  show (k == e) = decide (k = e)
  by_cases h : k = e
  · rw [h, decide_eq_true rfl]
    exact beq_self_eq_true _
  · rw [decide_eq_false h]
    exact beq_eq_false_iff_ne.mpr h
theorem in_strs (w : Str) : ∀ L : List Str, inV (V.str w) (L.map V.str) = decide (w ∈ L)
  | [] => rfl
  | k :: L => by
    show (eqV (V.str k) (V.str w) || inV (V.str w) (L.map V.str)) = _
    rw [str_eqs, in_strs w L]
    by_cases h : k = w
    · rw [decide_eq_true h, Bool.true_or]
      exact (decide_eq_true (show w ∈ k :: L from h ▸ List.mem_cons_self)).symm
    · rw [decide_eq_false h, Bool.false_or]
      exact decide_eq_decide.mpr ⟨List.mem_cons_of_mem _, fun z => (List.mem_cons.mp z).resolve_left (fun e => h e.symm)⟩
theorem starts_at {x y : Str} {i : Nat} {l : List Nat} (h : x.cps.toList.drop i = l) (hi : i ≤ x.length) : Txt.startswith3 x y ((i : Nat) : Int) = decide (l.take y.length = cs y) := by
  have fi : fromIndex x.length ((i : Nat) : Int) = i := by
    unfold fromIndex
    rw [if_neg (by omega)]
    omega
  unfold Txt.startswith3
  rw [fi, StrLaws.subAt_eq, h]
  have xc : x.cps.toList.length = x.length := Array.length_toList
  have yc : (cs y).length = y.length := Array.length_toList
  by_cases e : l.take y.length = cs y
  · have z := congrArg List.length e
    rw [List.length_take, yc] at z
    have ll : l.length = x.length - i := by rw [← h, List.length_drop, xc]
    rw [decide_eq_true e, decide_eq_true (show i + y.length ≤ x.length by omega), Bool.true_and]
    exact beq_iff_eq.mpr e
  · rw [decide_eq_false e, Bool.and_eq_false_iff]
    exact .inr (beq_eq_false_iff_ne.mpr e)
theorem starts0 (x y : Str) : Txt.startswith x y = decide ((cs x).take y.length = cs y) := by
  unfold Txt.startswith
  rw [StrLaws.subAt_eq, List.drop_zero]
  have xc : x.cps.toList.length = x.length := Array.length_toList
  have yc : (cs y).length = y.length := Array.length_toList
  by_cases e : (cs x).take y.length = cs y
  · have z := congrArg List.length e
    rw [List.length_take, yc, xc] at z
    rw [decide_eq_true e, decide_eq_true (show 0 + y.length ≤ x.length by omega), Bool.true_and]
    exact beq_iff_eq.mpr e
  · rw [decide_eq_false e, Bool.and_eq_false_iff]
    exact .inr (beq_eq_false_iff_ne.mpr e)
end V9

set_option maxHeartbeats 4000000
/-! V9g: None in a tuple of tuples, texts and None; what is ahead of a blank and behind it. -/
namespace V9
open PySem PySem.Spec PyProof.Rows L2 V1 V2 V3 V5
def nonV : V → Bool
  | .non => true
  | _ => false
/-- None, a text, a tuple -/
def NTup (K : PySem.W.Frag) (H : Hp) (x : V) : Prop := x = .non ∨ (∃ z, x = .str z) ∨ ∃ a ys, x = .ref a ∧ SqT K H a ys
def rInN (K : PySem.W.Frag) : R2 := fun x y H Q => x = .non ∧ ∃ p xs, y = .ref p ∧ SqT K H p xs ∧ (∀ z ∈ xs, NTup K H z) ∧ Q (.bl (xs.any nonV)) H
def isNonU (u : Value) : Bool := match u with
  | .none => true
  | _ => false
section
variable {X : Cx}
theorem any_non {K : PySem.W.Frag} {H : Hp} : ∀ {xs : List V} {us : List Value}, Vals xs us → (∀ z ∈ xs, NTup K H z) → us.any isNonU = xs.any nonV
  | _, _, .nil, _ => rfl
  | y :: xs, u :: us, .cons r t, f => by
    rw [List.any_cons, List.any_cons, any_non t fun z m => f z (List.mem_cons_of_mem _ m)]
    congr 1
    rcases f y List.mem_cons_self with rfl | ⟨z, rfl⟩ | ⟨a, ys, rfl, _⟩
    · cases r; rfl
    · obtain ⟨t, rfl⟩ := r; rfl
    · cases r; rfl
theorem op_inN (hu : X.A.units + 64 < cLine) : OpR X (compareOp .In) (rInN X.K) := by
  intro pins s σ H x y v u Q I rx ry h
  obtain ⟨rfl, p, xs, rfl, hq, fs, q⟩ := h
  cases rx
  cases ry
  obtain ⟨its, r, pl, hz⟩ := I.tuple hq
  have go : ∀ {xs : List V} {us : List Value}, Vals xs us → (∀ z ∈ xs, NTup X.K H z) → ∀ w ∈ us, SeqAt.EqAt X.A.in1 s w .none (isNonU w) := by
    intro xs us r
    induction r with
    | nil => exact fun _ w hw => by cases hw
    | @cons y u xs us ry t ih =>
      intro f w hw
      rcases List.mem_cons.mp hw with rfl | hw
      · rcases f y List.mem_cons_self with rfl | ⟨z, rfl⟩ | ⟨a, ys, rfl, hy⟩
        · cases ry
          exact SeqAt.EqAt.same _
        · obtain ⟨t, rfl⟩ := ry
          exact SeqAt.EqAt.str_none _ _
        · cases ry
          obtain ⟨its2, r2, pl2, _⟩ := I.tuple hy
          exact SeqAt.EqAt.tuple_none pl2 (by show X.A.units + 1 < cLine; omega)
      · exact ih (fun z m => f z (List.mem_cons_of_mem _ m)) w hw
  refine SeqAt.in_tupleAt isNonU pl (fun w hw => go r fs w (by simpa using hw)) ⟨.bl _, H, I, rfl, ?_⟩
  rw [show its.toArray.any isNonU = its.any isNonU by simp, any_non r fs]
  exact q
end
theorem cut_sp : ∀ l : List Nat, (32 ∉ l ∧ hdW l = l ∧ tlW l = []) ∨ (32 ∉ hdW l ∧ l = hdW l ++ 32 :: tlW l)
  | [] => .inl ⟨List.not_mem_nil, rfl, rfl⟩
  | c :: l => by
    by_cases h : c = 32
    · subst h
      refine .inr ⟨?_, rfl⟩
      show 32 ∉ ([] : List Nat)
      exact List.not_mem_nil
    · have e1 : hdW (c :: l) = c :: hdW l := by
        unfold hdW
        rw [List.takeWhile_cons, if_pos (decide_eq_true h)]
      have e2 : tlW (c :: l) = tlW l := by
        unfold tlW
        rw [List.dropWhile_cons, if_pos (decide_eq_true h)]
      rw [e1, e2]
      rcases cut_sp l with ⟨a, b, d⟩ | ⟨a, b⟩
      · refine .inl ⟨fun m => ?_, by rw [b], d⟩
        rcases List.mem_cons.mp m with z | m
        · exact h z.symm
        · exact a m
      · refine .inr ⟨fun m => ?_, by rw [List.cons_append, ← b]⟩
        rcases List.mem_cons.mp m with z | m
        · exact h z.symm
        · exact a m
theorem part_sp (x : Str) : (Txt.partition x (Str.ofString " ")).1 = mkS (hdW (cs x)) ∧ (Txt.partition x (Str.ofString " ")).2.2 = mkS (tlW (cs x)) := by
  have sp : (Str.ofString " ") = SX.S [32] := rfl
  have xs : x = SX.S (cs x) := (SX.S_tl x).symm
  rcases cut_sp (cs x) with ⟨a, b, c⟩ | ⟨a, b⟩
  · rw [sp, b, c]
    have z := SX.partition_none (a := cs x) (b := [32]) (by simp) (SX.par_head_none a)
    rw [← xs] at z
    rw [z]
    exact ⟨xs, rfl⟩
  · have z := SX.partition_some (a := cs x) (b := [32]) (p := hdW (cs x)) (q := tlW (cs x)) (by simp) (by
      have y := SX.par_head (c := 32) (sep := []) (p := hdW (cs x)) (tlW (cs x)) a
      rw [List.cons_append, List.nil_append, ← b] at y
      exact y)
    rw [← xs] at z
    rw [sp, z]
    exact ⟨rfl, rfl⟩
section
variable [CurK]
theorem _root_.V3.Dx.sm {H H' : Hp} {v : V} {d : PyData} (h : V3.Dx H v d) (s : Same H H') : V3.Dx H' v d := Dx.same s d v h
end
end V9

set_option maxHeartbeats 4000000
/-! V9h: blanks. -/
namespace V9
open PySem PySem.Spec PyProof.Rows L2 V1 V2 V3 V5
def rMulB : R2 := fun x y H Q => ∃ (z : Str) (n : Int), x = .str z ∧ y = .int n ∧ -1 ≤ n ∧ n ≤ 8000000 ∧ z.length ≤ 2 ∧ Q (.str (Txt.mul z n)) H
theorem op_mulB {X : Cx} : OpR X (binaryOp .Mult) rMulB := by
  rintro pins s σ H x y v u Q I rx ry ⟨z, n, rfl, rfl, n1, n2, zl, q⟩
  obtain ⟨t, rfl⟩ := rx
  obtain ⟨t', rfl⟩ := ry
  refine PySem.SB.mul ⟨?_, fun h1 _ z => ?_, fun h1 _ => ?_⟩ fun t2 k => ⟨.str _, H, I.tok _, ⟨_, rfl⟩, q⟩
  · rw [decide_eq_false (by omega), decide_eq_false (by omega)]
    rfl
  · have h : (2 : Int) ≤ (2 ^ 63 - 1) / n := by
      refine (Int.le_ediv_iff_mul_le (by omega)).mpr ?_
      omega
    omega
  · unfold PySem.Builtin.Str.tooLong
    have h : z.length * n.toNat ≤ 2 * 8000000 := Nat.mul_le_mul zl (by omega)
    have e : sizeLine = 16777216 := by rw [sizeLine_eq]
    simp only [decide_eq_false_iff_not]
    omega
theorem fold_list {c : Array Nat} : ∀ (n : Nat) (acc : Array Nat), ((List.replicate n c).foldl (· ++ ·) acc).toList = acc.toList ++ (List.replicate n c.toList).flatten
  | 0, acc => by simp
  | n + 1, acc => by
    rw [List.replicate_succ, List.foldl_cons, fold_list n, List.replicate_succ, List.flatten_cons, Array.toList_append, List.append_assoc]
theorem blk_flat : ∀ n : Nat, (List.replicate n ([32, 32] : List Nat)).flatten = blk n
  | 0 => rfl
  | n + 1 => by
    rw [List.replicate_succ, List.flatten_cons, blk_flat n]
    unfold blk
    rw [show 2 * (n + 1) = 2 + 2 * n by omega, ← List.replicate_append_replicate]
    rfl
theorem mul_blk (n : Nat) : Txt.mul (Str.ofString "  ") ((n : Nat) : Int) = mkS (blk n) := by
  unfold Txt.mul
  by_cases h0 : ((n : Nat) : Int) < 1
  · obtain rfl : n = 0 := by omega
    rw [if_pos h0]
    rfl
  · rw [if_neg h0]
    by_cases h1 : n = 1
    · subst h1
      rw [if_pos (by rfl)]
      rfl
    · have e : (((n : Nat) : Int) == 1) = false := beq_eq_false_iff_ne.mpr (by omega)
      rw [if_neg (by rw [e]; decide), Int.toNat_natCast]
      have z := fold_list (c := (Str.ofString "  ").cps) n #[]
      rw [show (Str.ofString "  ").cps.toList = [32, 32] from rfl, blk_flat] at z
      have z2 : ((List.replicate n (Str.ofString "  ").cps).foldl (· ++ ·) #[]) = (blk n).toArray := by
        exact Array.toList_inj.mp (by rw [z]; simp)
      show (⟨_⟩ : Str) = ⟨(blk n).toArray⟩
      rw [z2]
theorem mul_neg : Txt.mul (Str.ofString "  ") (-1) = mkS (blk 0) := rfl
/-- of one less than these -/
theorem mul_pred (n : Nat) : Txt.mul (Str.ofString "  ") (((n : Nat) : Int) - 1) = mkS (blk (n - 1)) := by
  cases n with
  | zero => exact mul_neg
  | succ n =>
    rw [show (((n + 1 : Nat) : Nat) : Int) - 1 = ((n : Nat) : Int) by omega]
    exact mul_blk n
theorem mk_app (a b : List Nat) : mkS a ++ mkS b = mkS (a ++ b) := by
  show (⟨a.toArray ++ b.toArray⟩ : Str) = ⟨(a ++ b).toArray⟩
  simp
theorem mk_inj {a b : List Nat} (h : mkS a = mkS b) : a = b := by
  have z := congrArg (fun s : Str => s.cps.toList) h
  simpa [mkS] using z
theorem mk_of (x : Str) : x = mkS (cs x) := (mk_cs x).symm
theorem str_is (x : Str) (l : List Nat) : decide ((V.str x : V) = V.str (mkS l)) = decide (cs x = l) := by
  refine decide_eq_decide.mpr ⟨fun h => ?_, fun h => ?_⟩
  · have z := V.str.inj h
    rw [z]
    simp [mkS]
  · rw [← h, mk_cs]
theorem cut_from (x : Str) (n : Nat) (h : n ≤ x.length) : cutS x (some ((n : Nat) : Int)) none = mkS ((cs x).drop n) := by
  unfold cutS mkS
  have xc : (cs x).length = x.length := Array.length_toList
  congr 1
  have z1 : HT.sIx x.length 0 (some ((n : Nat) : Int)) = n := by
    unfold HT.sIx
    dsimp only
    rw [if_neg (by omega), Int.toNat_natCast]
    exact Nat.min_eq_left h
  have z2 : HT.sIx x.length x.length none = x.length := rfl
  rw [z1, z2, List.take_of_length_le (by rw [List.length_drop, xc]; exact Nat.le_refl _)]
end V9

set_option maxHeartbeats 4000000
/-! V9i: for n, x in enumerate(a list, start=1). -/
namespace V9
open PySem PySem.Spec PyProof.Rows L2 V1 V2 V3 V5
section
variable {M : Model} {A : Around} {env : Env} {E : Value → Shared → Prop} {s : Shared}
/-- a built-in class called with keywords -/
theorem with_type_kw {pos : Pos} {cl : String} {e : Expr} {es : List Expr} {ks : List Keyword} {Q : Value → Shared → Prop}
    (run : wpAny M A (spliced (backTo pos (starEach (e :: es) env))) (fun us s1 => wpAny M A (evalAll ((backToKw pos (keywordEach ks env)).map (·.2)))
      (fun zs s2 => wpAny M A (call (.type cl) us (((backToKw pos (keywordEach ks env)).filterMap (·.1)).zip zs)) Q E s2) E s1) E s)
    (c1 : backTo pos (starEach (e :: es) env) = (false, eval e env) :: backTo pos (starEach es env)) (c2 : (backTo pos (starEach (e :: es) env)).any (·.1) = false)
    (c3 : (backToKw pos (keywordEach ks env)).all (·.1.isSome) = true) (c4 : (backToKw pos (keywordEach ks env)).any (·.1.isNone) = false) :
    wpAny M A (callWith pos (.type cl) [] (backTo pos (starEach (e :: es) env)) (backToKw pos (keywordEach ks env))) Q E s := by
  have args : wpAny M A (evalArgs (.type cl) true (backTo pos (starEach (e :: es) env)) (backToKw pos (keywordEach ks env))) (fun a s1 => wpAny M A (call (.type cl) ([] ++ a.pos) a.kw) Q E s1) E s := by
    rw [c1] at run ⊢
    exact evalArgs_kwB c3 run
  unfold callWith
  refine wpAny_bind (wpAny_holding (wpAny_mono args (fun a s1 h1 => wpAny_bind (wpAny_standAt ?_)) fun _ _ z => z))
  simp only [c2, c4, Bool.or_false]
  refine wpAny_bind (wpAny_pure ?_)
  exact wpAny_bind (wpAny_mono h1 (fun r s2 q => wpAny_bind (wpAny_holding (wpAny_point (wpAny_pure q)))) fun _ _ z => z)
end
theorem draws_endL {prog : Program} {w : World} {A : Around} (hh : A.handled = none) (it t : Addr) (items : Array Value) (i : Nat) (hx : items[i]? = none) :
    Draws prog w A it [it, t] i (fun _ _ => True) (fun j h => j = i ∧ h.IsListIter it t i ∧ h.IsList t items) where
  live := fun _ _ q => let ⟨o, ho, _⟩ := q.2.1; ⟨o, ho⟩
  frame := fun _ _ _ q hk => ⟨q.1, q.2.1.at fun o e => hk it (List.mem_cons_self ..) o e, q.2.2.at fun o e => hk t (List.mem_cons_of_mem _ (List.mem_singleton.mpr rfl)) o e⟩
  item := fun j s Q E hj q _ => absurd q.1 (Nat.ne_of_lt hj)
  done := fun s Q E q hE => wpAny_nextOf_list_end hh q.2.1 q.2.2 hx hE
/-- the list at a, each item in a new pair with its place and one -/
def IteS (K : PySem.W.Frag) (a : Addr) : It :=
  ⟨fun i H => ∃ (xs : List V) (x : V), SqL K H a xs ∧ xs[i]? = some x, fun i H v H' => ∃ T x, v = .ref T ∧ H T = none ∧ H' = upd H T (.tup [.int ((i + 1 : Nat) : Int), x]) ∧ ∀ xs, SqL K H a xs → xs[i]? = some x, fun i H => ∃ xs : List V, SqL K H a xs ∧ xs.length ≤ i⟩
theorem turn_enumS {P : Program} {w : World} {K : PySem.W.Frag} {elts : List Expr} {kk : Nat} {tpos : Pos} (a e it : Addr) :
    Turn P w K (.Tuple elts kk tpos) (IteS K a) [e, it] e (fun i h => (∃ old, IsEnum h e it ((i + 1 : Nat) : Int) old) ∧ h.IsListIter it a i ∧ e ≠ it) where
  mem := List.mem_cons_self ..
  obj := fun i h st b hb => by
    obtain ⟨⟨old, he⟩, ⟨o, ho, hc, hd⟩, _⟩ := st
    rcases List.mem_cons.mp hb with rfl | hb
    · exact ⟨_, he, fun v q => nomatch q⟩
    · obtain rfl := List.mem_singleton.mp hb
      exact ⟨o, ho, fun v q => by rw [hd] at q; cases q⟩
  keep := fun i h h' st k => let ⟨⟨old, he⟩, hi, hne⟩ := st; ⟨⟨old, k e (List.mem_cons_self ..) _ he⟩, hi.at fun o q => k it (List.mem_cons_of_mem _ (List.mem_singleton.mpr rfl)) o q, hne⟩
  item := by
    intro X hP hw hK hc i pins s σ H E I free st hg
    subst hP hw hK
    obtain ⟨⟨old, he⟩, hit, hne⟩ := st
    obtain ⟨xs, x, hq, hx⟩ := hg
    obtain ⟨its, rv, lst, hz⟩ := I.list hq
    obtain ⟨u, hu, ru⟩ := rv.get hx
    have il : i < its.length := by
      obtain ⟨l, _⟩ := List.getElem?_eq_some_iff.mp hu
      exact l
    have lst2 := lst.isList
    have off : a ≠ it := by
      rintro rfl
      obtain ⟨o1, e1, c1, n1, d1⟩ := lst2
      obtain ⟨o2, e2, c2, d2⟩ := hit
      rw [e1] at e2
      cases e2
      rw [d1] at d2
      cases d2
    refine wpAny_pyNext_enum_itemC (n := its.toArray.size) (Draws.list (show X.A.in1.handled = none from I.ok.hd hc) it a off its.toArray) he (And.intro hit lst2) (by simpa using il) hne (fun z => ?_) fun y h1 tk hy out st1 new size old1 => ?_
    · rcases List.mem_cons.mp z with z | z
      · exact hne z
      · obtain rfl := List.mem_singleton.mp z
        obtain ⟨o1, e1, c1, n1, d1⟩ := lst2
        rw [he] at e1
        cases e1
        cases d1
    have ey : y = u := by
      have z : its.toArray[i]? = some u := by simpa using hu
      exact Option.some.inj (hy.symm.trans z)
    subst ey
    refine ⟨_, rfl, wpAny_letOwnedTupleGo_enum (s := { s with heap := h1, toks := tk + 1 }) out fun h2 he2 sb => ?_⟩
    have lt : e < s.heap.objs.size := Heap.lt_size he
    have T2 : h2.get? s.heap.objs.size = some { cls := .type "tuple", data := .seq #[.int ((i + 1 : Nat) : Int) tk, y] } := (sb.2 _ (Nat.ne_of_gt lt)).trans new
    have ob : ObjOk X.prog X.w (upd H s.heap.objs.size (.tup [.int ((i + 1 : Nat) : Int), x])) h2 s.heap.objs.size (.tup [.int ((i + 1 : Nat) : Int), x]) :=
      ⟨by show 2 ≤ sizeLine; decide, [.int ((i + 1 : Nat) : Int) tk, y], .cons ⟨_, rfl⟩ (.cons ru .nil), _, T2, rfl, _, rfl⟩
    have J : Inv X pins σ (upd H s.heap.objs.size (.tup [.int ((i + 1 : Nat) : Int), x])) { s with heap := h2, toks := tk + 1 } :=
      I.turnedNew (ch := [e, it]) (fun b o hb q => (sb.2 b fun z => hb (by simp [z])).trans (old1 b o (fun z => hb (by simp [z])) (fun z => hb (by simp [z])) q)) free (Nat.le_refl _) ob
    refine ⟨.ref s.heap.objs.size, _, J, rfl, ⟨_, x, rfl, I.hok.fresh (Nat.le_refl _), rfl, fun ys hy => by rw [I.list_inj hy hq]; exact hx⟩, ⟨⟨y, ?_⟩, st1.1.at fun o q => (sb.2 it (Ne.symm hne)).trans q, hne⟩, fun b hb => ?_⟩
    · rw [show ((i + 1 + 1 : Nat) : Int) = ((i + 1 : Nat) : Int) + 1 by omega]
      exact he2
    · have z : b < s.heap.objs.size := by
        rcases List.mem_cons.mp hb with rfl | hb
        · exact lt
        · obtain rfl := List.mem_singleton.mp hb
          obtain ⟨_, q, _⟩ := hit
          exact Heap.lt_size q
      rw [upd_ne (Nat.ne_of_lt z)]
      exact (free b hb).1
  done := by
    intro X hP hw hK hc i pins s σ H E I free st hg
    subst hP hw hK
    obtain ⟨⟨old, he⟩, hit, hne⟩ := st
    obtain ⟨xs, hq, hx⟩ := hg
    obtain ⟨its, rv, lst, hz⟩ := I.list hq
    obtain ⟨f0, f1, f2, f3, f4, f5⟩ := free it (List.mem_cons_of_mem _ (List.mem_singleton.mpr rfl))
    have len := rv.length
    have none_ : its.toArray[i]? = none := by simp; omega
    exact wpAny_pyNext_enum_endD (draws_endL (show X.A.in1.handled = none from I.ok.hd hc) it a its.toArray i none_) he ⟨rfl, hit, lst.isList⟩ fun h' eb => ⟨rfl, I.turned (t' := s.toks) (fun b o hb q => eb b o hb q) f0 f1 f3 f4 f5⟩
  self := fun A i s Q E st h => let ⟨⟨_, he⟩, _⟩ := st; wpAny_pyIter_enum he h
def iEnumS (K : PySem.W.Frag) (ta tk : TA) : TI := fun σ H R => ta σ H fun vs H1 => tk σ H1 fun zs H2 => ∃ a xs, vs = [.ref a] ∧ zs = [.int 1] ∧ SqL K H2 a xs ∧ R (IteS K a) H2
theorem pi_enumS {X : Cx} {e : Expr} {kws : List Keyword} {ta tk : TA} {p pos tpos : Pos} {elts : List Expr} {kk : Nat} (hg : Gl X "enumerate") (hm : X.mg "enumerate" = none) (ha : PA X [e] ta) (hk : PK X kws tk)
    (c1 : backTo pos (starEach [e] X.env) = (false, eval e X.env) :: backTo pos (starEach [] X.env) := by rfl) (c2 : (backTo pos (starEach [e] X.env)).any (·.1) = false := by rfl)
    (c3 : (backToKw pos (keywordEach kws X.env)).all (·.1.isSome) = true := by rfl) (c4 : (backToKw pos (keywordEach kws X.env)).any (·.1.isNone) = false := by rfl) (c5 : (backToKw pos (keywordEach kws X.env)).filterMap (·.1) = [Str.ofString "start"] := by rfl) :
    PI X (.Tuple elts kk tpos) (.Call (.Name "enumerate" p) [e] kws pos) (iEnumS X.K ta tk) := by
  constructor
  intro pins s σ H R I h
  refine wpAny_Call_Name_kw (ld_blt I hg hm boot_enumerate (with_type_kw (thn (ha.run pos pins s σ H _ I h) ?_) c1 c2 c3 c4))
  rintro us s1 ⟨_, H1, J, rv, q1⟩
  refine thn (hk.run pos pins s1 σ H1 _ J q1) ?_
  rintro ws s2 ⟨_, H2, J2, rv2, a, xs, rfl, rfl, hq, go⟩
  rw [c5]
  cases rv with
  | cons r more =>
    cases more
    cases r
    cases rv2 with
    | cons r2 more2 =>
      cases more2
      obtain ⟨t, rfl⟩ := r2
      obtain ⟨its, rv3, lst, hz⟩ := J2.list hq
      refine enum_begins_start (begins_list a its.toArray) lst.isList (by decide) (by decide) fun h' he hit hsz old => wpAny_pyIter_enum he ?_
      refine ⟨s2.heap.objs.size + 1, [s2.heap.objs.size + 1, s2.heap.objs.size], _, _, H2, rfl, J2.kept (t' := s2.toks) old, turn_enumS a (s2.heap.objs.size + 1) s2.heap.objs.size, ⟨⟨.none, he⟩, ⟨_, hit, rfl, rfl⟩, Nat.succ_ne_self _⟩, fun b hb => ?_, go⟩
      have le : s2.heap.objs.size ≤ b := by
        rcases List.mem_cons.mp hb with rfl | hb
        · exact Nat.le_succ _
        · exact Nat.le_of_eq (List.mem_singleton.mp hb).symm
      exact J2.fpOk le (J2.hok.fresh le)
theorem walk_enumS {K : PySem.W.Frag} {a : Addr} {xs : List V} : Walk (IteS K a) xs.length (fun H => SqL K H a xs) (YPair (fun i => some (.int ((i + 1 : Nat) : Int))) (fun i => xs[i]?)) :=
  ⟨fun i _ hi q => ⟨xs, xs[i], q, List.getElem?_eq_getElem hi⟩, fun _ q => ⟨xs, q, Nat.le_refl _⟩, fun i _ _ _ _ q y => let ⟨T, x, h1, h2, h3, h4⟩ := y; ⟨T, .int ((i + 1 : Nat) : Int), x, h1, h2, h3, rfl, h4 xs q⟩⟩
end V9

set_option maxHeartbeats 4000000
/-! V9j: a text's lines, and what they make. -/
namespace V9
open PySem PySem.Spec PyProof.Rows L2 V1 V2 V3 V5 V6
/-- the lines that end, and what is behind the last of them -/
def cutL : List Nat → List Nat → List (List Nat) × List Nat
  | acc, [] => ([], acc)
  | acc, c :: l => if c = 10 then (acc :: (cutL [] l).1, (cutL [] l).2) else cutL (acc ++ [c]) l
theorem spl_cut : ∀ (l acc : List Nat), TL.spl [10] 0 acc l = (cutL acc l).1 ++ [(cutL acc l).2]
  | [], acc => by rw [TL.spl_nil]; rfl
  | c :: l, acc => by
    rw [cutL]
    by_cases h : c = 10
    · rw [if_pos h, TL.spl_hit (by rw [h]; rfl)]
      show acc :: TL.spl [10] 0 [] l = _
      rw [spl_cut l []]
      rfl
    · rw [if_neg h, TL.spl_miss (TL.pre_of_head _ _ h)]
      exact spl_cut l _
theorem cut_lens : ∀ (l acc : List Nat), (∀ x ∈ (cutL acc l).1, x.length ≤ acc.length + l.length) ∧ (cutL acc l).1.length ≤ l.length ∧ (cutL acc l).2.length ≤ acc.length + l.length
  | [], acc => ⟨(fun x m => by cases m), Nat.le_refl _, Nat.le_refl _⟩
  | c :: l, acc => by
    rw [cutL]
    split
    · obtain ⟨h1, h2, h3⟩ := cut_lens l []
      rw [List.length_nil] at h1 h3
      refine ⟨fun x m => ?_, ?_, ?_⟩
      · rcases List.mem_cons.mp m with rfl | m
        · omega
        · have := h1 x m
          rw [List.length_cons]
          omega
      · show ((cutL [] l).1.length + 1) ≤ _
        rw [List.length_cons]
        omega
      · show (cutL [] l).2.length ≤ _
        rw [List.length_cons]
        omega
    · obtain ⟨h1, h2, h3⟩ := cut_lens l (acc ++ [c])
      rw [List.length_append, List.length_cons, List.length_nil] at h1 h3
      refine ⟨fun x m => ?_, ?_, ?_⟩
      · have := h1 x m
        rw [List.length_cons]
        omega
      · rw [List.length_cons]
        omega
      · rw [List.length_cons]
        omega
theorem cut_line : ∀ (x acc l : List Nat), 10 ∉ x → cutL acc (x ++ 10 :: l) = ((acc ++ x) :: (cutL [] l).1, (cutL [] l).2)
  | [], acc, l, _ => by
    rw [List.nil_append, cutL, if_pos rfl, List.append_nil]
  | c :: x, acc, l, h => by
    rw [List.cons_append, cutL, if_neg (fun z => h (by rw [z]; exact List.mem_cons_self)), cut_line x _ l (fun m => h (List.mem_cons_of_mem _ m)), List.append_assoc]
    rfl
theorem cut_end : ∀ (ls : List (List Nat)), (∀ x ∈ ls, 10 ∉ x) → cutL [] (endL ls) = (ls, [])
  | [], _ => rfl
  | x :: ls, h => by
    have ih := cut_end ls fun y m => h y (List.mem_cons_of_mem _ m)
    rw [endL, cut_line x [] (endL ls) (h x List.mem_cons_self), ih]
    rfl
def readR (l : List Nat) : Nat ⊕ List PyData := match linesR ([], [[]]) (cutL [] l).1 1 with
  | .inl n => .inl n
  | .inr r => if (cutL [] l).2 = [] ∧ r.1 = [] then .inr (r.2.headD []) else .inl ((cutL [] l).1.length + 1)
theorem read_back (B : V6.Bd) (ok : B.ok = true) : readR (bdT B) = .inr B.ds := by
  unfold readR bdT
  rw [cut_end _ (fun x m h => by have := (bd_pr 0 B ok x m) 10 h; omega)]
  dsimp only
  rw [lines_back B ok 1]
  rfl
theorem linesR_step {r r' : Rd} {ls : List (List Nat)} {i n : Nat} {x : List Nat} (h : ls[i]? = some x) (e : takeR r x = some r') : linesR r (ls.drop i) n = linesR r' (ls.drop (i + 1)) (n + 1) := by
  obtain ⟨hi, hx⟩ := List.getElem?_eq_some_iff.mp h
  rw [List.drop_eq_getElem_cons hi, hx, linesR, e]
theorem linesR_bad {r : Rd} {ls : List (List Nat)} {i n : Nat} {x : List Nat} (h : ls[i]? = some x) (e : takeR r x = none) : linesR r (ls.drop i) n = .inl n := by
  obtain ⟨hi, hx⟩ := List.getElem?_eq_some_iff.mp h
  rw [List.drop_eq_getElem_cons hi, hx, linesR, e]
theorem split_nl (x : Str) : Txt.split x (Str.ofString "\n") = ((cutL [] (cs x)).1 ++ [(cutL [] (cs x)).2]).map mkS := by
  have z := SX.split_S (a := cs x) (b := [10]) (by simp) (by decide)
  rw [spl_cut] at z
  have e : SX.S (cs x) = x := SX.S_tl x
  rw [e] at z
  exact z
end V9

set_option maxHeartbeats 4000000
/-! V9k: e's and c's as what is written of them. -/
namespace V9
open PySem PySem.Spec PyProof.Rows L2 V1 V2 V3 V5 V6
open V8 (tupD tupDs)
theorem quote_at (w : Str) : Txt.replace (Txt.replace w (Str.ofString "~") (Str.ofString "~~")) (Str.ofString "\"") (Str.ofString "~\"") = mkS (qt (cs w)) := by
  refine (mk_cs _).symm.trans ?_
  congr 1
  show (Txt.replace (Txt.replace w ⟨#[126]⟩ (Str.ofString "~~")) ⟨#[34]⟩ (Str.ofString "~\"")).cps.toList = qt w.cps.toList
  rw [V7.replace_at, V7.replace_at, List.flatMap_assoc]
  show w.cps.toList.flatMap (fun x => (V7.rep1 126 [126, 126] x).flatMap (V7.rep1 34 [126, 34])) = _
  induction w.cps.toList with
  | nil => rfl
  | cons c l ih =>
    rw [List.flatMap_cons, ih, qt]
    unfold V7.rep1
    by_cases h1 : c = 126
    · subst h1
      rfl
    · by_cases h2 : c = 34
      · subst h2
        rfl
      · rw [if_neg h1, if_neg (fun z => z.elim h2 h1)]
        show (if c = 34 then [126, 34] else [c]) ++ [] ++ _ = _
        rw [if_neg h2]
        rfl
def Wt (d : PyData) (t : List Nat) (k : Nat) : Prop := (∃ e : Ex, d = e.d ∧ t = exT e ∧ e.ok = true ∧ e.deep = k) ∨ ∃ c : Cn, d = c.d ∧ t = cnT c ∧ c.ok = true ∧ c.deep = k
abbrev plainL : List Str := ["text", "name", "many", "last"]
/-- what stands there is one of four -/
inductive WtI (k : Nat) : PyData → List Nat → Prop where
  | text {w : Str} : wordX w = true → WtI k (.tuple [.str "text", .str w]) (34 :: (qt (cs w) ++ [34]))
  | name {n : Str} : nameX n = true → WtI k (.tuple [.str "name", .str n]) (cs n)
  | bare {b : Str} : b ∈ bareL → WtI k (.tuple [.str b]) (cs b)
  | one {kd : Str} {d : PyData} {t : List Nat} {j : Nat} : kd ∉ plainL → kd.length ≤ 5 → Wt d t j → j < k → WtI k (.tuple [.str kd, d]) (cs kd ++ 40 :: (t ++ [41]))
  | two {kd : Str} {d d2 : PyData} {t t2 : List Nat} {j j2 : Nat} : kd ∉ plainL → kd.length ≤ 5 → Wt d t j → j < k → Wt d2 t2 j2 → j2 < k → WtI k (.tuple [.str kd, d, d2]) (cs kd ++ 40 :: (t ++ 44 :: 32 :: (t2 ++ [41])))
theorem Wt.inv {d : PyData} {t : List Nat} {k : Nat} (h : Wt d t k) : WtI k d t := by
  rcases h with ⟨e, rfl, rfl, ok, dp⟩ | ⟨c, rfl, rfl, ok, dp⟩
  · cases e with
    | text w => exact .text ok
    | name n => exact .name ok
    | join a b =>
      have ok2 : a.ok = true ∧ b.ok = true := by simpa [Ex.ok] using ok
      have dp2 : 1 + max a.deep b.deep = k := dp
      exact .two (by decide +kernel) (by decide +kernel) (.inl ⟨a, rfl, rfl, ok2.1, rfl⟩) (by omega) (.inl ⟨b, rfl, rfl, ok2.2, rfl⟩) (by omega)
    | turn a => exact .one (by decide +kernel) (by decide +kernel) (.inl ⟨a, rfl, rfl, ok, rfl⟩) (by have : 1 + a.deep = k := dp; omega)
    | rest a => exact .one (by decide +kernel) (by decide +kernel) (.inl ⟨a, rfl, rfl, ok, rfl⟩) (by have : 1 + a.deep = k := dp; omega)
    | first a => exact .one (by decide +kernel) (by decide +kernel) (.inl ⟨a, rfl, rfl, ok, rfl⟩) (by have : 1 + a.deep = k := dp; omega)
    | many => exact .bare (by decide +kernel)
    | last => exact .bare (by decide +kernel)
  · cases c with
    | same a b =>
      have ok2 : a.ok = true ∧ b.ok = true := by simpa [Cn.ok] using ok
      have dp2 : 1 + max a.deep b.deep = k := dp
      exact .two (by decide +kernel) (by decide +kernel) (.inl ⟨a, rfl, rfl, ok2.1, rfl⟩) (by omega) (.inl ⟨b, rfl, rfl, ok2.2, rfl⟩) (by omega)
    | ahead a b =>
      have ok2 : a.ok = true ∧ b.ok = true := by simpa [Cn.ok] using ok
      have dp2 : 1 + max a.deep b.deep = k := dp
      exact .two (by decide +kernel) (by decide +kernel) (.inl ⟨a, rfl, rfl, ok2.1, rfl⟩) (by omega) (.inl ⟨b, rfl, rfl, ok2.2, rfl⟩) (by omega)
    | inn a b =>
      have ok2 : a.ok = true ∧ b.ok = true := by simpa [Cn.ok] using ok
      have dp2 : 1 + max a.deep b.deep = k := dp
      exact .two (by decide +kernel) (by decide +kernel) (.inl ⟨a, rfl, rfl, ok2.1, rfl⟩) (by omega) (.inl ⟨b, rfl, rfl, ok2.2, rfl⟩) (by omega)
    | not c => exact .one (by decide +kernel) (by decide +kernel) (.inr ⟨c, rfl, rfl, ok, rfl⟩) (by have : 1 + c.deep = k := dp; omega)
end V9

set_option maxHeartbeats 4000000
/-! V9l: lines moved to the right; how long they are, and how many. -/
namespace V9
open PySem PySem.Spec PyProof.Rows L2 V1 V2 V3 V5 V6
theorem blk_front (h : Nat) : blk (h + 1) = blk 1 ++ blk h := by
  unfold blk
  rw [show 2 * (h + 1) = 2 * 1 + 2 * h by omega, ← List.replicate_append_replicate]
mutual
theorem stL_map : ∀ (s : V6.St) (h : Nat), stL (h + 1) s = (stL h s).map (blk 1 ++ ·)
  | .say e, h => by rw [stL, stL, List.map_cons, List.map_nil, blk_front, List.append_assoc]
  | .let_ n e, h => by rw [stL, stL, List.map_cons, List.map_nil, blk_front, List.append_assoc]
  | .if_ c a b, h => by
    rw [stL, stL, List.map_cons, List.map_append, List.map_cons, List.map_append, List.map_cons, List.map_nil, bdL_map a (h + 1), bdL_map b (h + 1), blk_front, List.append_assoc, List.append_assoc, List.append_assoc]
  | .each n b, h => by
    rw [stL, stL, List.map_cons, List.map_append, List.map_cons, List.map_nil, bdL_map b (h + 1), blk_front, List.append_assoc, List.append_assoc]
theorem bdL_map : ∀ (b : V6.Bd) (h : Nat), bdL (h + 1) b = (bdL h b).map (blk 1 ++ ·)
  | .nil, h => by rw [bdL, bdL, List.map_nil]
  | .cons s b, h => by rw [bdL, bdL, List.map_append, stL_map s h, bdL_map b h]
end
mutual
theorem stL_len : ∀ (s : V6.St) (h : Nat), s.ok = true → (stL h s).length ≤ 3 * s.cnt ∧ ∀ l ∈ stL h s, l.length ≤ 2 * h + 2 * s.deep + 100 * s.cnt
  | .say e, h, ok => by
    have := ex_len e ok
    rw [stL]
    refine ⟨by simp only [List.length_cons, List.length_nil, St.cnt]; omega, fun l m => ?_⟩
    rw [List.mem_singleton.mp m, List.length_append, List.length_append, blk_len, show (cs "say ").length = 4 by decide +kernel]
    simp only [St.cnt, St.deep]
    omega
  | .let_ n e, h, ok => by
    have ok2 : nameX n = true ∧ e.ok = true := by simpa [St.ok] using ok
    have := ex_len e ok2.2
    have := name_len ok2.1
    rw [stL]
    refine ⟨by simp only [List.length_cons, List.length_nil, St.cnt]; omega, fun l m => ?_⟩
    rw [List.mem_singleton.mp m, List.length_append, List.length_append, List.length_append, List.length_cons, blk_len, show (cs "let ").length = 4 by decide +kernel]
    simp only [St.cnt, St.deep]
    omega
  | .if_ c a b, h, ok => by
    have ok2 : c.ok = true ∧ a.ok = true ∧ b.ok = true := by simpa [St.ok] using ok
    have := cn_len c ok2.1
    obtain ⟨a1, a2⟩ := bdL_len a (h + 1) ok2.2.1
    obtain ⟨b1, b2⟩ := bdL_len b (h + 1) ok2.2.2
    rw [stL]
    simp only [St.cnt, St.deep]
    refine ⟨by simp only [List.length_cons, List.length_append, List.length_nil]; omega, fun l m => ?_⟩
    rcases List.mem_cons.mp m with rfl | m
    · rw [List.length_append, List.length_append, blk_len, show (cs "if ").length = 3 by decide +kernel]
      omega
    · rcases List.mem_append.mp m with m | m
      · have := a2 l m
        omega
      · rcases List.mem_cons.mp m with rfl | m
        · rw [List.length_append, blk_len, show (cs "else").length = 4 by decide +kernel]
          omega
        · rcases List.mem_append.mp m with m | m
          · have := b2 l m
            omega
          · rw [List.mem_singleton.mp m, List.length_append, blk_len, show (cs "end").length = 3 by decide +kernel]
            omega
  | .each n b, h, ok => by
    have ok2 : nameX n = true ∧ b.ok = true := by simpa [St.ok] using ok
    have := name_len ok2.1
    obtain ⟨b1, b2⟩ := bdL_len b (h + 1) ok2.2
    rw [stL]
    simp only [St.cnt, St.deep]
    refine ⟨by simp only [List.length_cons, List.length_append, List.length_nil]; omega, fun l m => ?_⟩
    rcases List.mem_cons.mp m with rfl | m
    · rw [List.length_append, List.length_append, blk_len, show (cs "each ").length = 5 by decide +kernel]
      omega
    · rcases List.mem_append.mp m with m | m
      · have := b2 l m
        omega
      · rw [List.mem_singleton.mp m, List.length_append, blk_len, show (cs "end").length = 3 by decide +kernel]
        omega
theorem bdL_len : ∀ (b : V6.Bd) (h : Nat), b.ok = true → (bdL h b).length ≤ 3 * b.cnt ∧ ∀ l ∈ bdL h b, l.length ≤ 2 * h + 2 * b.deep + 100 * b.cnt
  | .nil, h, ok => by
    rw [bdL]
    exact ⟨Nat.zero_le _, fun l m => by cases m⟩
  | .cons s b, h, ok => by
    have ok2 : s.ok = true ∧ b.ok = true := by simpa [Bd.ok] using ok
    obtain ⟨a1, a2⟩ := stL_len s h ok2.1
    obtain ⟨b1, b2⟩ := bdL_len b h ok2.2
    rw [bdL]
    simp only [Bd.cnt, Bd.deep]
    refine ⟨by rw [List.length_append]; omega, fun l m => ?_⟩
    rcases List.mem_append.mp m with m | m
    · have := a2 l m
      omega
    · have := b2 l m
      omega
end
theorem endL_len : ∀ (ls : List (List Nat)), (endL ls).length = (ls.map (·.length)).sum + ls.length
  | [] => rfl
  | l :: ls => by
    rw [endL, List.length_append, List.length_cons, endL_len ls, List.map_cons, List.sum_cons, List.length_cons]
    omega
theorem sum_le {ls : List (List Nat)} {k : Nat} (h : ∀ l ∈ ls, l.length ≤ k) : (ls.map (·.length)).sum ≤ ls.length * k := by
  induction ls with
  | nil => exact Nat.zero_le _
  | cons l ls ih =>
    have h1 := h l List.mem_cons_self
    have h2 := ih fun x m => h x (List.mem_cons_of_mem _ m)
    rw [List.map_cons, List.sum_cons, List.length_cons, Nat.succ_mul]
    omega
end V9

set_option maxHeartbeats 4000000
/-! V9m: programs alike, texts alike. -/
namespace V9
open PySem PySem.Spec PyProof.Rows L2 V1 V2 V3 V5 V6
open V8 (tupD tupDs)
mutual
def stT : PyData → Bool
  | .str x => PyData.strOk x
  | .tuple ds => stTs ds
  | _ => false
def stTs : List PyData → Bool
  | [] => true
  | d :: ds => stT d && stTs ds
end
mutual
theorem st_lay : ∀ d : PyData, stT d = true → d.canLay0 = true
  | .str x, h => by
    have h2 : PyData.strOk x = true := h
    simpa [PyData.canLay0] using h2
  | .tuple ds, h => by
    have z := sts_lay ds h
    simpa [PyData.canLay0] using z
  | .none, h => by cases h
  | .bool _, h => by cases h
  | .int _, h => by cases h
  | .list _, h => by cases h
  | .dict _, h => by cases h
theorem sts_lay : ∀ ds : List PyData, stTs ds = true → PyData.canLayAll0 ds = true
  | [], _ => by simp [PyData.canLayAll0]
  | d :: ds, h => by
    have h2 : stT d = true ∧ stTs ds = true := by simpa [stTs] using h
    simp [PyData.canLayAll0, st_lay d h2.1, sts_lay ds h2.2]
end
mutual
theorem st_eqv : ∀ d e : PyData, stT d = true → stT e = true → (PyData.eqv d e = true ↔ d = e)
  | .str x, .str y, _, _ => by
    simp only [PyData.eqv, PyData.str.injEq, beq_iff_eq]
  | .tuple ds, .tuple es, h, k => by
    have z := sts_eqv ds es h k
    simp only [PyData.eqv, PyData.tuple.injEq]
    exact z
  | .str x, .tuple es, _, _ => by simp [PyData.eqv]
  | .tuple ds, .str y, _, _ => by simp [PyData.eqv]
  | .none, _, h, _ => by cases h
  | .bool _, _, h, _ => by cases h
  | .int _, _, h, _ => by cases h
  | .list _, _, h, _ => by cases h
  | .dict _, _, h, _ => by cases h
  | .str _, .none, _, h => by cases h
  | .str _, .bool _, _, h => by cases h
  | .str _, .int _, _, h => by cases h
  | .str _, .list _, _, h => by cases h
  | .str _, .dict _, _, h => by cases h
  | .tuple _, .none, _, h => by cases h
  | .tuple _, .bool _, _, h => by cases h
  | .tuple _, .int _, _, h => by cases h
  | .tuple _, .list _, _, h => by cases h
  | .tuple _, .dict _, _, h => by cases h
theorem sts_eqv : ∀ ds es : List PyData, stTs ds = true → stTs es = true → (PyData.eqvAll ds es = true ↔ ds = es)
  | [], [], _, _ => by simp [PyData.eqvAll]
  | [], e :: es, _, _ => by simp [PyData.eqvAll]
  | d :: ds, [], _, _ => by simp [PyData.eqvAll]
  | d :: ds, e :: es, h, k => by
    have h2 : stT d = true ∧ stTs ds = true := by simpa [stTs] using h
    have k2 : stT e = true ∧ stTs es = true := by simpa [stTs] using k
    have z1 := st_eqv d e h2.1 k2.1
    have z2 := sts_eqv ds es h2.2 k2.2
    simp only [PyData.eqvAll, Bool.and_eq_true, List.cons.injEq, z1, z2]
end
mutual
theorem st_plain : ∀ d : PyData, stT d = true → V2.plain d = true
  | .str x, _ => rfl
  | .tuple ds, h => by
    have z := sts_plain ds h
    simpa [V2.plain] using z
  | .none, _ => rfl
  | .bool _, _ => rfl
  | .int _, _ => rfl
  | .list _, h => by cases h
  | .dict _, h => by cases h
theorem sts_plain : ∀ ds : List PyData, stTs ds = true → V2.plainAll ds = true
  | [], _ => rfl
  | d :: ds, h => by
    have h2 : stT d = true ∧ stTs ds = true := by simpa [stTs] using h
    simp [V2.plainAll, st_plain d h2.1, sts_plain ds h2.2]
end
theorem prog_dp [CurK] {H : Hp} {v : V} {b : V6.Bd} (h : V3.Dx H v (.tuple b.ds)) (s : stTs b.ds = true) {K : PySem.W.Frag} : Dp K H v (.tuple b.ds) :=
  V2.dq_dp _ _ (st_plain (.tuple b.ds) s) (V3.dq_of _ _ (st_plain (.tuple b.ds) s) h)
theorem low_ok {x : Str} (h : ∀ c ∈ cs x, c ≤ 126) : PyData.strOk x = true := by
  show x.cps.all (· < 0x110000) = true
  rw [← Array.all_toList, List.all_eq_true]
  intro c m
  have := h c m
  exact decide_eq_true (by omega)
theorem word_ok {x : Str} (h : wordX x = true) : PyData.strOk x = true := low_ok fun c m => (word_cs h c m).2
theorem name_ok {x : Str} (h : nameX x = true) : PyData.strOk x = true := low_ok fun c m => by have := (name_cs h c m).2.2; omega
theorem exS : ∀ e : Ex, e.ok = true → stT e.d = true ∧ e.d.depth ≤ e.deep + 1
  | .text w, ok => ⟨by show (_ && (PyData.strOk w && true)) = true; rw [word_ok ok]; decide +kernel, by simp [Ex.d, Ex.deep, PyData.depth, PyData.depthAll]⟩
  | .name w, ok => ⟨by show (_ && (PyData.strOk w && true)) = true; rw [name_ok ok]; decide +kernel, by simp [Ex.d, Ex.deep, PyData.depth, PyData.depthAll]⟩
  | .join a b, ok => by
    have ok2 : a.ok = true ∧ b.ok = true := by simpa [Ex.ok] using ok
    obtain ⟨a1, a2⟩ := exS a ok2.1
    obtain ⟨b1, b2⟩ := exS b ok2.2
    refine ⟨by show (_ && (stT a.d && (stT b.d && true))) = true; rw [a1, b1]; decide +kernel, ?_⟩
    simp only [Ex.d, Ex.deep, PyData.depth, PyData.depthAll]
    omega
  | .turn a, ok => by
    obtain ⟨a1, a2⟩ := exS a ok
    refine ⟨by show (_ && (stT a.d && true)) = true; rw [a1]; decide +kernel, ?_⟩
    simp only [Ex.d, Ex.deep, PyData.depth, PyData.depthAll]
    omega
  | .rest a, ok => by
    obtain ⟨a1, a2⟩ := exS a ok
    refine ⟨by show (_ && (stT a.d && true)) = true; rw [a1]; decide +kernel, ?_⟩
    simp only [Ex.d, Ex.deep, PyData.depth, PyData.depthAll]
    omega
  | .first a, ok => by
    obtain ⟨a1, a2⟩ := exS a ok
    refine ⟨by show (_ && (stT a.d && true)) = true; rw [a1]; decide +kernel, ?_⟩
    simp only [Ex.d, Ex.deep, PyData.depth, PyData.depthAll]
    omega
  | .many, _ => ⟨by decide +kernel, by simp [Ex.d, Ex.deep, PyData.depth, PyData.depthAll]⟩
  | .last, _ => ⟨by decide +kernel, by simp [Ex.d, Ex.deep, PyData.depth, PyData.depthAll]⟩
theorem cnS : ∀ c : Cn, c.ok = true → stT c.d = true ∧ c.d.depth ≤ c.deep + 1
  | .same a b, ok => by
    have ok2 : a.ok = true ∧ b.ok = true := by simpa [Cn.ok] using ok
    obtain ⟨a1, a2⟩ := exS a ok2.1
    obtain ⟨b1, b2⟩ := exS b ok2.2
    refine ⟨by show (_ && (stT a.d && (stT b.d && true))) = true; rw [a1, b1]; decide +kernel, ?_⟩
    simp only [Cn.d, Cn.deep, PyData.depth, PyData.depthAll]
    omega
  | .ahead a b, ok => by
    have ok2 : a.ok = true ∧ b.ok = true := by simpa [Cn.ok] using ok
    obtain ⟨a1, a2⟩ := exS a ok2.1
    obtain ⟨b1, b2⟩ := exS b ok2.2
    refine ⟨by show (_ && (stT a.d && (stT b.d && true))) = true; rw [a1, b1]; decide +kernel, ?_⟩
    simp only [Cn.d, Cn.deep, PyData.depth, PyData.depthAll]
    omega
  | .inn a b, ok => by
    have ok2 : a.ok = true ∧ b.ok = true := by simpa [Cn.ok] using ok
    obtain ⟨a1, a2⟩ := exS a ok2.1
    obtain ⟨b1, b2⟩ := exS b ok2.2
    refine ⟨by show (_ && (stT a.d && (stT b.d && true))) = true; rw [a1, b1]; decide +kernel, ?_⟩
    simp only [Cn.d, Cn.deep, PyData.depth, PyData.depthAll]
    omega
  | .not c, ok => by
    obtain ⟨a1, a2⟩ := cnS c ok
    refine ⟨by show (_ && (stT c.d && true)) = true; rw [a1]; decide +kernel, ?_⟩
    simp only [Cn.d, Cn.deep, PyData.depth, PyData.depthAll]
    omega
mutual
theorem stS : ∀ s : V6.St, s.ok = true → stT s.d = true ∧ s.d.depth ≤ 2 * s.deep + 1
  | .say e, ok => by
    obtain ⟨a1, a2⟩ := exS e ok
    refine ⟨by show (_ && (stT e.d && true)) = true; rw [a1]; decide +kernel, ?_⟩
    simp only [St.d, St.deep, PyData.depth, PyData.depthAll]
    omega
  | .let_ n e, ok => by
    have ok2 : nameX n = true ∧ e.ok = true := by simpa [St.ok] using ok
    obtain ⟨a1, a2⟩ := exS e ok2.2
    refine ⟨by show (_ && (PyData.strOk n && (stT e.d && true))) = true; rw [a1, name_ok ok2.1]; decide +kernel, ?_⟩
    simp only [St.d, St.deep, PyData.depth, PyData.depthAll]
    omega
  | .if_ c a b, ok => by
    have ok2 : c.ok = true ∧ a.ok = true ∧ b.ok = true := by simpa [St.ok] using ok
    obtain ⟨c1, c2⟩ := cnS c ok2.1
    obtain ⟨a1, a2⟩ := bdS a ok2.2.1
    obtain ⟨b1, b2⟩ := bdS b ok2.2.2
    refine ⟨by show (_ && (stT c.d && (stTs a.ds && (stTs b.ds && true)))) = true; rw [a1, b1, c1]; decide +kernel, ?_⟩
    simp only [St.d, St.deep, PyData.depth, PyData.depthAll]
    omega
  | .each n b, ok => by
    have ok2 : nameX n = true ∧ b.ok = true := by simpa [St.ok] using ok
    obtain ⟨b1, b2⟩ := bdS b ok2.2
    refine ⟨by show (_ && (PyData.strOk n && (stTs b.ds && true))) = true; rw [b1, name_ok ok2.1]; decide +kernel, ?_⟩
    simp only [St.d, St.deep, PyData.depth, PyData.depthAll]
    omega
theorem bdS : ∀ b : V6.Bd, b.ok = true → stTs b.ds = true ∧ PyData.depthAll b.ds ≤ 2 * b.deep + 1
  | .nil, ok => ⟨rfl, by simp [Bd.ds, PyData.depthAll]⟩
  | .cons s b, ok => by
    have ok2 : s.ok = true ∧ b.ok = true := by simpa [Bd.ok] using ok
    obtain ⟨a1, a2⟩ := stS s ok2.1
    obtain ⟨b1, b2⟩ := bdS b ok2.2
    refine ⟨by show (stT s.d && stTs b.ds) = true; rw [a1, b1]; rfl, ?_⟩
    simp only [Bd.ds, Bd.deep, PyData.depthAll]
    omega
end
theorem prog_shaped {b : V6.Bd} (ok : b.ok = true) (dp : b.deep ≤ 20) : SeqAt.shaped (.tuple b.ds) = true := by
  obtain ⟨h1, h2⟩ := bdS b ok
  unfold SeqAt.shaped
  rw [st_lay (.tuple b.ds) h1, Bool.true_and]
  refine decide_eq_true ?_
  simp only [PyData.depth]
  omega
/-! ### trees alike -/
theorem ex_inj : ∀ a b : Ex, a.d = b.d → a = b
  | .text w, b, h => by
    cases b <;> simp only [Ex.d, PyData.tuple.injEq, List.cons.injEq, PyData.str.injEq, and_true, true_and, reduceCtorEq, and_false] at h <;> first | exact absurd h.1 (by decide +kernel) | exact absurd h (by decide +kernel) | (rw [h]) | exact h.elim
  | .name w, b, h => by
    cases b <;> simp only [Ex.d, PyData.tuple.injEq, List.cons.injEq, PyData.str.injEq, and_true, true_and, reduceCtorEq, and_false] at h <;> first | exact absurd h.1 (by decide +kernel) | exact absurd h (by decide +kernel) | (rw [h]) | exact h.elim
  | .join x y, b, h => by
    cases b <;> simp only [Ex.d, PyData.tuple.injEq, List.cons.injEq, PyData.str.injEq, and_true, true_and, reduceCtorEq, and_false] at h <;> first | (rw [ex_inj x _ h.1, ex_inj y _ h.2]) | exact absurd h.1 (by decide +kernel) | exact absurd h (by decide +kernel) | exact h.elim
  | .turn x, b, h => by
    cases b <;> simp only [Ex.d, PyData.tuple.injEq, List.cons.injEq, PyData.str.injEq, and_true, true_and, reduceCtorEq, and_false] at h <;> first | (rw [ex_inj x _ h]) | exact absurd h.1 (by decide +kernel) | exact absurd h (by decide +kernel) | exact h.elim
  | .rest x, b, h => by
    cases b <;> simp only [Ex.d, PyData.tuple.injEq, List.cons.injEq, PyData.str.injEq, and_true, true_and, reduceCtorEq, and_false] at h <;> first | (rw [ex_inj x _ h]) | exact absurd h.1 (by decide +kernel) | exact absurd h (by decide +kernel) | exact h.elim
  | .first x, b, h => by
    cases b <;> simp only [Ex.d, PyData.tuple.injEq, List.cons.injEq, PyData.str.injEq, and_true, true_and, reduceCtorEq, and_false] at h <;> first | (rw [ex_inj x _ h]) | exact absurd h.1 (by decide +kernel) | exact absurd h (by decide +kernel) | exact h.elim
  | .many, b, h => by
    cases b <;> simp only [Ex.d, PyData.tuple.injEq, List.cons.injEq, PyData.str.injEq, and_true, true_and, reduceCtorEq, and_false] at h <;> first | rfl | exact absurd h.1 (by decide +kernel) | exact absurd h (by decide +kernel) | exact h.elim
  | .last, b, h => by
    cases b <;> simp only [Ex.d, PyData.tuple.injEq, List.cons.injEq, PyData.str.injEq, and_true, true_and, reduceCtorEq, and_false] at h <;> first | rfl | exact absurd h.1 (by decide +kernel) | exact absurd h (by decide +kernel) | exact h.elim
theorem cn_inj : ∀ a b : Cn, a.d = b.d → a = b
  | .same x y, b, h => by
    cases b <;> simp only [Cn.d, PyData.tuple.injEq, List.cons.injEq, PyData.str.injEq, and_true, true_and, reduceCtorEq, and_false] at h <;> first | (rw [ex_inj x _ h.1, ex_inj y _ h.2]) | exact absurd h.1 (by decide +kernel) | exact absurd h (by decide +kernel) | exact h.elim
  | .ahead x y, b, h => by
    cases b <;> simp only [Cn.d, PyData.tuple.injEq, List.cons.injEq, PyData.str.injEq, and_true, true_and, reduceCtorEq, and_false] at h <;> first | (rw [ex_inj x _ h.1, ex_inj y _ h.2]) | exact absurd h.1 (by decide +kernel) | exact absurd h (by decide +kernel) | exact h.elim
  | .inn x y, b, h => by
    cases b <;> simp only [Cn.d, PyData.tuple.injEq, List.cons.injEq, PyData.str.injEq, and_true, true_and, reduceCtorEq, and_false] at h <;> first | (rw [ex_inj x _ h.1, ex_inj y _ h.2]) | exact absurd h.1 (by decide +kernel) | exact absurd h (by decide +kernel) | exact h.elim
  | .not x, b, h => by
    cases b <;> simp only [Cn.d, PyData.tuple.injEq, List.cons.injEq, PyData.str.injEq, and_true, true_and, reduceCtorEq, and_false] at h <;> first | (rw [cn_inj x _ h]) | exact absurd h.1 (by decide +kernel) | exact absurd h (by decide +kernel) | exact h.elim
mutual
theorem st_inj : ∀ a b : V6.St, a.d = b.d → a = b
  | .say e, b, h => by
    cases b <;> simp only [St.d, PyData.tuple.injEq, List.cons.injEq, PyData.str.injEq, and_true, true_and, reduceCtorEq, and_false] at h <;> first | (rw [ex_inj e _ h]) | exact absurd h.1 (by decide +kernel) | exact absurd h (by decide +kernel) | exact h.elim
  | .let_ n e, b, h => by
    cases b <;> simp only [St.d, PyData.tuple.injEq, List.cons.injEq, PyData.str.injEq, and_true, true_and, reduceCtorEq, and_false] at h <;> first | (rw [h.1, ex_inj e _ h.2]) | exact absurd h.1 (by decide +kernel) | exact absurd h (by decide +kernel) | exact h.elim
  | .if_ c x y, b, h => by
    cases b <;> simp only [St.d, PyData.tuple.injEq, List.cons.injEq, PyData.str.injEq, and_true, true_and, reduceCtorEq, and_false] at h <;> first | (rw [cn_inj c _ h.1, bd_inj x _ h.2.1, bd_inj y _ h.2.2]) | exact absurd h.1 (by decide +kernel) | exact absurd h (by decide +kernel) | exact h.elim
  | .each n x, b, h => by
    cases b <;> simp only [St.d, PyData.tuple.injEq, List.cons.injEq, PyData.str.injEq, and_true, true_and, reduceCtorEq, and_false] at h <;> first | (rw [h.1, bd_inj x _ h.2]) | exact absurd h.1 (by decide +kernel) | exact absurd h (by decide +kernel) | exact h.elim
theorem bd_inj : ∀ a b : V6.Bd, a.ds = b.ds → a = b
  | .nil, .nil, _ => rfl
  | .nil, .cons _ _, h => by simp [Bd.ds] at h
  | .cons _ _, .nil, h => by simp [Bd.ds] at h
  | .cons s x, .cons t y, h => by
    simp only [Bd.ds, List.cons.injEq] at h
    rw [st_inj s t h.1, bd_inj x y h.2]
end
/-- two programs are equal just if their texts are -/
theorem alike {b c : V6.Bd} (ob : b.ok = true) (oc : c.ok = true) : PyData.eqv (.tuple b.ds) (.tuple c.ds) = decide (bdT b = bdT c) := by
  have z := st_eqv (.tuple b.ds) (.tuple c.ds) (bdS b ob).1 (bdS c oc).1
  by_cases h : bdT b = bdT c
  · rw [decide_eq_true h]
    refine z.mpr ?_
    have r1 := read_back b ob
    have r2 := read_back c oc
    rw [h, r2] at r1
    rw [Sum.inr.inj r1]
  · rw [decide_eq_false h]
    cases e : PyData.eqv (.tuple b.ds) (.tuple c.ds) with
    | false => rfl
    | true =>
      have y := z.mp e
      have y2 : b.ds = c.ds := by injection y
      exact absurd (by rw [bd_inj b c y2]) h
/-! ### how long a text is -/
def tot (ls : List (List Nat)) : Nat := (endL ls).length
theorem tot_app (a b : List (List Nat)) : tot (a ++ b) = tot a + tot b := by
  unfold tot
  rw [endL_len, endL_len, endL_len, List.map_append, List.sum_append, List.length_append]
  omega
theorem tot_cons (a : List Nat) (b : List (List Nat)) : tot (a :: b) = a.length + 1 + tot b := by
  unfold tot
  rw [endL, List.length_append, List.length_cons]
  omega
mutual
theorem stL_tot : ∀ (s : V6.St) (h : Nat), s.ok = true → h + s.deep ≤ 22 → tot (stL h s) ≤ 300 * s.cnt
  | .say e, h, ok, hd => by
    have := ex_len e ok
    simp only [St.deep] at hd
    rw [stL, tot_cons, List.length_append, List.length_append, blk_len, show (cs "say ").length = 4 by decide +kernel, show tot [] = 0 from rfl]
    simp only [St.cnt]
    omega
  | .let_ n e, h, ok, hd => by
    have ok2 : nameX n = true ∧ e.ok = true := by simpa [St.ok] using ok
    have := ex_len e ok2.2
    have := name_len ok2.1
    simp only [St.deep] at hd
    rw [stL, tot_cons, List.length_append, List.length_append, List.length_append, List.length_cons, blk_len, show (cs "let ").length = 4 by decide +kernel, show tot [] = 0 from rfl]
    simp only [St.cnt]
    omega
  | .if_ c a b, h, ok, hd => by
    have ok2 : c.ok = true ∧ a.ok = true ∧ b.ok = true := by simpa [St.ok] using ok
    have := cn_len c ok2.1
    simp only [St.deep] at hd
    have a1 := bdL_tot a (h + 1) ok2.2.1 (by omega)
    have b1 := bdL_tot b (h + 1) ok2.2.2 (by omega)
    rw [stL, tot_cons, tot_app, tot_cons, tot_app, tot_cons, List.length_append, List.length_append, List.length_append, List.length_append, blk_len, show (cs "if ").length = 3 by decide +kernel, show (cs "else").length = 4 by decide +kernel, show (cs "end").length = 3 by decide +kernel, show tot [] = 0 from rfl]
    simp only [St.cnt]
    omega
  | .each n b, h, ok, hd => by
    have ok2 : nameX n = true ∧ b.ok = true := by simpa [St.ok] using ok
    have := name_len ok2.1
    simp only [St.deep] at hd
    have b1 := bdL_tot b (h + 1) ok2.2 (by omega)
    rw [stL, tot_cons, tot_app, tot_cons, List.length_append, List.length_append, List.length_append, blk_len, show (cs "each ").length = 5 by decide +kernel, show (cs "end").length = 3 by decide +kernel, show tot [] = 0 from rfl]
    simp only [St.cnt]
    omega
theorem bdL_tot : ∀ (b : V6.Bd) (h : Nat), b.ok = true → h + b.deep ≤ 22 → tot (bdL h b) ≤ 300 * b.cnt
  | .nil, h, _, _ => by
    rw [bdL]
    exact Nat.zero_le _
  | .cons s b, h, ok, hd => by
    have ok2 : s.ok = true ∧ b.ok = true := by simpa [Bd.ok] using ok
    simp only [Bd.deep] at hd
    have a1 := stL_tot s h ok2.1 (by omega)
    have b1 := bdL_tot b h ok2.2 (by omega)
    rw [bdL, tot_app]
    simp only [Bd.cnt]
    omega
end
theorem bdT_len {b : V6.Bd} (ok : b.ok = true) (dp : b.deep ≤ 20) (cn : b.cnt ≤ 600) : (bdT b).length ≤ 180000 := by
  have z := bdL_tot b 0 ok (by omega)
  unfold tot at z
  unfold bdT
  omega
end V9

set_option maxHeartbeats 4000000
/-! V9n: an e or a c that is changed at one place. -/
namespace V9
open PySem PySem.Spec PyProof.Rows L2 V1 V2 V3 V5 V6
/-- an e (or a c) of at most that depth and so many parts -/
def PtK (kd : Bool) (d : PyData) (dp cn : Nat) : Prop := if kd = true then ∃ e : Ex, d = e.d ∧ e.ok = true ∧ e.deep ≤ dp ∧ e.cnt ≤ cn else ∃ c : Cn, d = c.d ∧ c.ok = true ∧ c.deep ≤ dp ∧ c.cnt ≤ cn
theorem PtK.ofE {e : Ex} {dp cn : Nat} (ok : e.ok = true) (h1 : e.deep ≤ dp) (h2 : e.cnt ≤ cn) : PtK true e.d dp cn := ⟨e, rfl, ok, h1, h2⟩
theorem PtK.ofC {c : Cn} {dp cn : Nat} (ok : c.ok = true) (h1 : c.deep ≤ dp) (h2 : c.cnt ≤ cn) : PtK false c.d dp cn := ⟨c, rfl, ok, h1, h2⟩
theorem PtK.ex {d : PyData} {dp cn : Nat} (h : PtK true d dp cn) : ∃ e : Ex, d = e.d ∧ e.ok = true ∧ e.deep ≤ dp ∧ e.cnt ≤ cn := h
theorem PtK.cn {d : PyData} {dp cn : Nat} (h : PtK false d dp cn) : ∃ c : Cn, d = c.d ∧ c.ok = true ∧ c.deep ≤ dp ∧ c.cnt ≤ cn := h
theorem PtK.mono {kd : Bool} {d : PyData} {dp cn dp' cn' : Nat} (h : PtK kd d dp cn) (h1 : dp ≤ dp') (h2 : cn ≤ cn') : PtK kd d dp' cn' := by
  cases kd with
  | true => obtain ⟨e, a, b, c, f⟩ := h.ex; exact ⟨e, a, b, by omega, by omega⟩
  | false => obtain ⟨e, a, b, c, f⟩ := h.cn; exact ⟨e, a, b, by omega, by omega⟩
inductive PtI (dp cn : Nat) : Bool → PyData → Prop where
  | text {w : Str} : wordX w = true → 1 ≤ dp → 1 ≤ cn → PtI dp cn true (.tuple [.str "text", .str w])
  | leaf {k : Str} {rest : List PyData} : k ∈ (["name", "many", "last"] : List Str) → 1 ≤ dp → 1 ≤ cn → PtI dp cn true (.tuple (.str k :: rest))
  | one {k : Str} {x : PyData} {j m : Nat} : k ∈ (["turn", "rest", "first"] : List Str) → PtK true x j m → 1 + j ≤ dp → 1 + m ≤ cn → PtI dp cn true (.tuple [.str k, x])
  | not {x : PyData} {j m : Nat} : PtK false x j m → 1 + j ≤ dp → 1 + m ≤ cn → PtI dp cn false (.tuple [.str "not", x])
  | join {x y : PyData} {j m i l : Nat} : PtK true x j m → PtK true y i l → 1 + j ≤ dp → 1 + i ≤ dp → 1 + m + l ≤ cn → PtI dp cn true (.tuple [.str "join", x, y])
  | rel {k : Str} {x y : PyData} {j m i l : Nat} : k ∈ (["same", "ahead", "in"] : List Str) → PtK true x j m → PtK true y i l → 1 + j ≤ dp → 1 + i ≤ dp → 1 + m + l ≤ cn → PtI dp cn false (.tuple [.str k, x, y])
theorem PtK.inv {kd : Bool} {d : PyData} {dp cn : Nat} (h : PtK kd d dp cn) : PtI dp cn kd d := by
  cases kd with
  | true =>
    obtain ⟨e, rfl, ok, h1, h2⟩ := h.ex
    cases e with
    | text w => exact .text ok h1 h2
    | name n => exact .leaf (by decide +kernel) h1 h2
    | many => exact .leaf (by decide +kernel) h1 h2
    | last => exact .leaf (by decide +kernel) h1 h2
    | join a b =>
      have ok2 : a.ok = true ∧ b.ok = true := by simpa [Ex.ok] using ok
      simp only [Ex.deep, Ex.cnt] at h1 h2
      exact .join (.ofE ok2.1 (Nat.le_refl _) (Nat.le_refl _)) (.ofE ok2.2 (Nat.le_refl _) (Nat.le_refl _)) (by omega) (by omega) (by omega)
    | turn a =>
      simp only [Ex.deep, Ex.cnt] at h1 h2
      exact .one (by decide +kernel) (.ofE (e := a) ok (Nat.le_refl _) (Nat.le_refl _)) h1 h2
    | rest a =>
      simp only [Ex.deep, Ex.cnt] at h1 h2
      exact .one (by decide +kernel) (.ofE (e := a) ok (Nat.le_refl _) (Nat.le_refl _)) h1 h2
    | first a =>
      simp only [Ex.deep, Ex.cnt] at h1 h2
      exact .one (by decide +kernel) (.ofE (e := a) ok (Nat.le_refl _) (Nat.le_refl _)) h1 h2
  | false =>
    obtain ⟨c, rfl, ok, h1, h2⟩ := h.cn
    cases c with
    | same a b =>
      have ok2 : a.ok = true ∧ b.ok = true := by simpa [Cn.ok] using ok
      simp only [Cn.deep, Cn.cnt] at h1 h2
      exact .rel (by decide +kernel) (.ofE ok2.1 (Nat.le_refl _) (Nat.le_refl _)) (.ofE ok2.2 (Nat.le_refl _) (Nat.le_refl _)) (by omega) (by omega) (by omega)
    | ahead a b =>
      have ok2 : a.ok = true ∧ b.ok = true := by simpa [Cn.ok] using ok
      simp only [Cn.deep, Cn.cnt] at h1 h2
      exact .rel (by decide +kernel) (.ofE ok2.1 (Nat.le_refl _) (Nat.le_refl _)) (.ofE ok2.2 (Nat.le_refl _) (Nat.le_refl _)) (by omega) (by omega) (by omega)
    | inn a b =>
      have ok2 : a.ok = true ∧ b.ok = true := by simpa [Cn.ok] using ok
      simp only [Cn.deep, Cn.cnt] at h1 h2
      exact .rel (by decide +kernel) (.ofE ok2.1 (Nat.le_refl _) (Nat.le_refl _)) (.ofE ok2.2 (Nat.le_refl _) (Nat.le_refl _)) (by omega) (by omega) (by omega)
    | not a =>
      simp only [Cn.deep, Cn.cnt] at h1 h2
      exact .not (.ofC (c := a) ok (Nat.le_refl _) (Nat.le_refl _)) h1 h2
theorem PtK.one {k : Str} {x : PyData} {j m dp cn : Nat} (hk : k ∈ (["turn", "rest", "first"] : List Str)) (h : PtK true x j m) (h1 : 1 + j ≤ dp) (h2 : 1 + m ≤ cn) : PtK true (.tuple [.str k, x]) dp cn := by
  obtain ⟨e, rfl, ok, a, b⟩ := h.ex
  simp only [List.mem_cons, List.not_mem_nil, or_false] at hk
  rcases hk with rfl | rfl | rfl
  · exact .ofE (e := .turn e) ok (by simp only [Ex.deep]; omega) (by simp only [Ex.cnt]; omega)
  · exact .ofE (e := .rest e) ok (by simp only [Ex.deep]; omega) (by simp only [Ex.cnt]; omega)
  · exact .ofE (e := .first e) ok (by simp only [Ex.deep]; omega) (by simp only [Ex.cnt]; omega)
theorem PtK.not {x : PyData} {j m dp cn : Nat} (h : PtK false x j m) (h1 : 1 + j ≤ dp) (h2 : 1 + m ≤ cn) : PtK false (.tuple [.str "not", x]) dp cn := by
  obtain ⟨e, rfl, ok, a, b⟩ := h.cn
  exact .ofC (c := .not e) ok (by simp only [Cn.deep]; omega) (by simp only [Cn.cnt]; omega)
theorem PtK.join {x y : PyData} {j m i l dp cn : Nat} (h : PtK true x j m) (h' : PtK true y i l) (h1 : 1 + j ≤ dp) (h2 : 1 + i ≤ dp) (h3 : 1 + m + l ≤ cn) : PtK true (.tuple [.str "join", x, y]) dp cn := by
  obtain ⟨e, rfl, ok, a, b⟩ := h.ex
  obtain ⟨f, rfl, ok', a', b'⟩ := h'.ex
  exact .ofE (e := .join e f) (by simp [Ex.ok, ok, ok']) (by simp only [Ex.deep]; omega) (by simp only [Ex.cnt]; omega)
theorem PtK.rel {k : Str} {x y : PyData} {j m i l dp cn : Nat} (hk : k ∈ (["same", "ahead", "in"] : List Str)) (h : PtK true x j m) (h' : PtK true y i l) (h1 : 1 + j ≤ dp) (h2 : 1 + i ≤ dp) (h3 : 1 + m + l ≤ cn) : PtK false (.tuple [.str k, x, y]) dp cn := by
  obtain ⟨e, rfl, ok, a, b⟩ := h.ex
  obtain ⟨f, rfl, ok', a', b'⟩ := h'.ex
  simp only [List.mem_cons, List.not_mem_nil, or_false] at hk
  rcases hk with rfl | rfl | rfl
  · exact .ofC (c := .same e f) (by simp [Cn.ok, ok, ok']) (by simp only [Cn.deep]; omega) (by simp only [Cn.cnt]; omega)
  · exact .ofC (c := .ahead e f) (by simp [Cn.ok, ok, ok']) (by simp only [Cn.deep]; omega) (by simp only [Cn.cnt]; omega)
  · exact .ofC (c := .inn e f) (by simp [Cn.ok, ok, ok']) (by simp only [Cn.deep]; omega) (by simp only [Cn.cnt]; omega)
theorem PtK.text {w : Str} {dp cn : Nat} (h : wordX w = true) (h1 : 1 ≤ dp) (h2 : 1 ≤ cn) : PtK true (.tuple [.str "text", .str w]) dp cn := .ofE (e := .text w) h h1 h2
end V9

set_option maxHeartbeats 4000000
/-! V10a: what is a program: the stack's way, and the trees, for every thing. -/
namespace V10
open PySem PySem.Spec PyProof.Rows L2 V1 V2 V3 V5 V6 V9
theorem lookF_mem {k s : Str} {ps : List Str} (h : V5.lookF V6.formsL k = some (s, ps)) : (k, s, ps) ∈ V6.formsL := by
  unfold V5.lookF at h
  obtain ⟨p, hp, e⟩ := Option.map_eq_some_iff.mp h
  have z := List.find?_some hp
  have m := List.mem_of_find?_eq_some hp
  obtain ⟨k', s', ps'⟩ := p
  cases e
  obtain rfl : k' = k := of_decide_eq_true z
  exact m
theorem formD_inv {d : PyData} {s : Str} (h : formD d s = true) : ∃ k ds ps, d = .tuple (.str k :: ds) ∧ V5.lookF V6.formsL k = some (s, ps) ∧ ds.length = ps.length := by
  unfold formD at h
  split at h
  · rename_i k ds
    cases hf : V5.lookF V6.formsL k with
    | none => simp [hf] at h
    | some p =>
      obtain ⟨t, ps⟩ := p
      simp only [hf, Bool.and_eq_true, decide_eq_true_eq] at h
      exact ⟨k, ds, ps, rfl, by rw [h.1] at hf; exact hf, h.2⟩
  · cases h
/-- a node on the stack -/
theorem node {s : Str} {d : PyData} {a e : Nat} (n1 : s ≠ "body") (n2 : s ≠ "name") (n3 : s ≠ "word") (h : rightOf s d a e = true) : ∃ k ds ps, d = .tuple (.str k :: ds) ∧ (k, s, ps) ∈ V6.formsL ∧ ds.length = ps.length ∧ a < 20 ∧ (k = "each" → e < 2) ∧
    innerOf s d a e = (ps.zip ds).map fun p => (p.1, p.2, a + 1, if k = "each" then e + 1 else e) := by
  unfold rightOf at h
  rw [if_neg n1, if_neg n2, if_neg n3] at h
  simp only [Bool.and_eq_true, decide_eq_true_eq, Bool.or_eq_true, Bool.not_eq_true', decide_eq_false_iff_not] at h
  obtain ⟨k, ds, ps, rfl, h1, h2⟩ := formD_inv h.1.1
  refine ⟨k, ds, ps, rfl, lookF_mem h1, h2, h.1.2, fun z => ?_, ?_⟩
  · rcases h.2 with q | q
    · exact absurd (by rw [z]; rfl) q
    · exact q
  · unfold innerOf
    rw [if_neg n1, if_neg n2, if_neg n3]
    simp only [h1]
theorem split1 {x y : V6.It} {l : List V6.It} {n m : Nat} (h : Good (x :: y :: l) n m) : ∃ n1 m1 n2 m2, Good [x] n1 m1 ∧ Good (y :: l) n2 m2 ∧ n = n1 + n2 ∧ m = m1 + m2 := by
  cases h with | @cons s d a e _ n1 m1 n2 m2 r i g =>
  exact ⟨_, _, n2, m2, .cons r i .nil, g, by omega, by omega⟩
theorem one {s : Str} {d : PyData} {a e n m : Nat} (h : Good [(s, d, a, e)] n m) : ∃ n1 m1, rightOf s d a e = true ∧ Good (innerOf s d a e) n1 m1 ∧ n = V6.cnt s + n1 ∧ m = 1 + m1 := by
  cases h with | @cons _ _ _ _ _ n1 m1 n2 m2 r i g =>
  cases g
  exact ⟨n1, m1, r, i, by omega, by omega⟩
theorem nil0 {n m : Nat} (h : Good [] n m) : n = 0 ∧ m = 0 := by
  cases h
  exact ⟨rfl, rfl⟩
theorem word0 {d : PyData} {a e n m : Nat} (h : Good [("word", d, a, e)] n m) : (∃ w, d = .str w ∧ wordX w = true) ∧ n = 0 := by
  obtain ⟨n1, m1, r, i, rfl, rfl⟩ := one h
  have r' : wordD d = true := r
  obtain ⟨rfl, rfl⟩ := nil0 (show Good [] n1 m1 from i)
  refine ⟨?_, by decide⟩
  cases d with
  | str x => exact ⟨x, rfl, r'⟩
  | _ => cases r'
theorem name0 {d : PyData} {a e n m : Nat} (h : Good [("name", d, a, e)] n m) : (∃ w, d = .str w ∧ nameX w = true) ∧ n = 0 := by
  obtain ⟨n1, m1, r, i, rfl, rfl⟩ := one h
  have r' : nameD d = true := r
  obtain ⟨rfl, rfl⟩ := nil0 (show Good [] n1 m1 from i)
  refine ⟨?_, by decide⟩
  cases d with
  | str x => exact ⟨x, rfl, r'⟩
  | _ => cases r'
abbrev FE : List (Str × Str × List Str) := [("text", "e", ["word"]), ("name", "e", ["name"]), ("join", "e", ["e", "e"]), ("turn", "e", ["e"]), ("rest", "e", ["e"]), ("first", "e", ["e"]), ("many", "e", []), ("last", "e", [])]
abbrev FC : List (Str × Str × List Str) := [("same", "c", ["e", "e"]), ("ahead", "c", ["e", "e"]), ("in", "c", ["e", "e"]), ("not", "c", ["c"])]
abbrev FS : List (Str × Str × List Str) := [("say", "statement", ["e"]), ("let", "statement", ["name", "e"]), ("if", "statement", ["c", "body", "body"]), ("each", "statement", ["name", "body"])]
theorem in_e : ∀ p ∈ V6.formsL, p.2.1 = "e" → p ∈ FE := by decide +kernel
theorem in_c : ∀ p ∈ V6.formsL, p.2.1 = "c" → p ∈ FC := by decide +kernel
theorem in_s : ∀ p ∈ V6.formsL, p.2.1 = "statement" → p ∈ FS := by decide +kernel
theorem ne_each : (∀ p ∈ FE, p.1 ≠ "each") ∧ (∀ p ∈ FC, p.1 ≠ "each") := by decide +kernel
theorem two_of {ds : List PyData} (h : ds.length = 2) : ∃ x y, ds = [x, y] := by
  match ds, h with
  | [x, y], _ => exact ⟨x, y, rfl⟩
theorem one_of {ds : List PyData} (h : ds.length = 1) : ∃ x, ds = [x] := by
  match ds, h with
  | [x], _ => exact ⟨x, rfl⟩
theorem three_of {ds : List PyData} (h : ds.length = 3) : ∃ x y z, ds = [x, y, z] := by
  match ds, h with
  | [x, y, z], _ => exact ⟨x, y, z, rfl⟩
theorem good_e : ∀ (m : Nat) {d : PyData} {a l n : Nat}, Good [("e", d, a, l)] n m → ∃ e : Ex, e.ok = true ∧ d = e.d ∧ a + e.deep ≤ 20 ∧ n = e.cnt := by
  intro m
  induction m using Nat.strongRecOn with
  | ind m ih =>
  intro d a l n h
  obtain ⟨n1, m1, r, i, rfl, rfl⟩ := one h
  obtain ⟨k, ds, ps, rfl, mem, len, la, _, ei⟩ := node (by decide +kernel) (by decide +kernel) (by decide +kernel) r
  rw [ei] at i
  have c1 : V6.cnt "e" = 1 := by decide +kernel
  rw [c1]
  have me := in_e _ mem rfl
  simp only [FE, List.mem_cons, List.not_mem_nil, or_false, Prod.mk.injEq] at me
  rcases me with ⟨rfl, -, rfl⟩ | ⟨rfl, -, rfl⟩ | ⟨rfl, -, rfl⟩ | ⟨rfl, -, rfl⟩ | ⟨rfl, -, rfl⟩ | ⟨rfl, -, rfl⟩ | ⟨rfl, -, rfl⟩ | ⟨rfl, -, rfl⟩
  · obtain ⟨x, rfl⟩ := one_of len
    obtain ⟨⟨w, rfl, ww⟩, rfl⟩ := word0 i
    exact ⟨.text w, ww, rfl, by simp only [Ex.deep]; omega, rfl⟩
  · obtain ⟨x, rfl⟩ := one_of len
    obtain ⟨⟨w, rfl, ww⟩, rfl⟩ := name0 i
    exact ⟨.name w, ww, rfl, by simp only [Ex.deep]; omega, rfl⟩
  · obtain ⟨x, y, rfl⟩ := two_of len
    obtain ⟨n2, m2, n3, m3, g1, g2, rfl, rfl⟩ := split1 i
    obtain ⟨e1, o1, rfl, d1, rfl⟩ := ih m2 (by omega) g1
    obtain ⟨e2, o2, rfl, d2, rfl⟩ := ih m3 (by omega) g2
    exact ⟨.join e1 e2, by simp [Ex.ok, o1, o2], rfl, by simp only [Ex.deep]; omega, by simp only [Ex.cnt]; omega⟩
  · obtain ⟨x, rfl⟩ := one_of len
    obtain ⟨e1, o1, rfl, d1, rfl⟩ := ih m1 (by omega) i
    exact ⟨.turn e1, o1, rfl, by simp only [Ex.deep]; omega, rfl⟩
  · obtain ⟨x, rfl⟩ := one_of len
    obtain ⟨e1, o1, rfl, d1, rfl⟩ := ih m1 (by omega) i
    exact ⟨.rest e1, o1, rfl, by simp only [Ex.deep]; omega, rfl⟩
  · obtain ⟨x, rfl⟩ := one_of len
    obtain ⟨e1, o1, rfl, d1, rfl⟩ := ih m1 (by omega) i
    exact ⟨.first e1, o1, rfl, by simp only [Ex.deep]; omega, rfl⟩
  · obtain rfl : ds = [] := List.eq_nil_of_length_eq_zero len
    obtain ⟨rfl, rfl⟩ := nil0 i
    exact ⟨.many, rfl, rfl, by simp only [Ex.deep]; omega, rfl⟩
  · obtain rfl : ds = [] := List.eq_nil_of_length_eq_zero len
    obtain ⟨rfl, rfl⟩ := nil0 i
    exact ⟨.last, rfl, rfl, by simp only [Ex.deep]; omega, rfl⟩
theorem good_c : ∀ (m : Nat) {d : PyData} {a l n : Nat}, Good [("c", d, a, l)] n m → ∃ e : Cn, e.ok = true ∧ d = e.d ∧ a + e.deep ≤ 20 ∧ n = e.cnt := by
  intro m
  induction m using Nat.strongRecOn with
  | ind m ih =>
  intro d a l n h
  obtain ⟨n1, m1, r, i, rfl, rfl⟩ := one h
  obtain ⟨k, ds, ps, rfl, mem, len, la, _, ei⟩ := node (by decide +kernel) (by decide +kernel) (by decide +kernel) r
  rw [ei] at i
  have c1 : V6.cnt "c" = 1 := by decide +kernel
  rw [c1]
  have me := in_c _ mem rfl
  simp only [FC, List.mem_cons, List.not_mem_nil, or_false, Prod.mk.injEq] at me
  rcases me with ⟨rfl, -, rfl⟩ | ⟨rfl, -, rfl⟩ | ⟨rfl, -, rfl⟩ | ⟨rfl, -, rfl⟩
  · obtain ⟨x, y, rfl⟩ := two_of len
    obtain ⟨n2, m2, n3, m3, g1, g2, rfl, rfl⟩ := split1 i
    obtain ⟨e1, o1, rfl, d1, rfl⟩ := good_e m2 g1
    obtain ⟨e2, o2, rfl, d2, rfl⟩ := good_e m3 g2
    exact ⟨.same e1 e2, by simp [Cn.ok, o1, o2], rfl, by simp only [Cn.deep]; omega, by simp only [Cn.cnt]; omega⟩
  · obtain ⟨x, y, rfl⟩ := two_of len
    obtain ⟨n2, m2, n3, m3, g1, g2, rfl, rfl⟩ := split1 i
    obtain ⟨e1, o1, rfl, d1, rfl⟩ := good_e m2 g1
    obtain ⟨e2, o2, rfl, d2, rfl⟩ := good_e m3 g2
    exact ⟨.ahead e1 e2, by simp [Cn.ok, o1, o2], rfl, by simp only [Cn.deep]; omega, by simp only [Cn.cnt]; omega⟩
  · obtain ⟨x, y, rfl⟩ := two_of len
    obtain ⟨n2, m2, n3, m3, g1, g2, rfl, rfl⟩ := split1 i
    obtain ⟨e1, o1, rfl, d1, rfl⟩ := good_e m2 g1
    obtain ⟨e2, o2, rfl, d2, rfl⟩ := good_e m3 g2
    exact ⟨.inn e1 e2, by simp [Cn.ok, o1, o2], rfl, by simp only [Cn.deep]; omega, by simp only [Cn.cnt]; omega⟩
  · obtain ⟨x, rfl⟩ := one_of len
    obtain ⟨e1, o1, rfl, d1, rfl⟩ := ih m1 (by omega) i
    exact ⟨.not e1, o1, rfl, by simp only [Cn.deep]; omega, rfl⟩
/-- of statements -/
theorem good_list {a l : Nat} : ∀ (ds : List PyData) {n m : Nat}, (∀ m' ≤ m, ∀ {d : PyData} {n' : Nat}, Good [("statement", d, a, l)] n' m' → ∃ s : V6.St, s.ok = true ∧ d = s.d ∧ a + s.deep ≤ 20 ∧ l + s.lps ≤ 2 ∧ n' = s.cnt) → a ≤ 20 → l ≤ 2 →
    Good (ds.map fun x => (("statement" : Str), x, a, l)) n m → ∃ b : Bd, b.ok = true ∧ ds = b.ds ∧ a + b.deep ≤ 20 ∧ l + b.lps ≤ 2 ∧ n = b.cnt
  | [], n, m, _, ha, hl, h => by
    obtain ⟨rfl, rfl⟩ := nil0 h
    exact ⟨.nil, rfl, rfl, by simp only [Bd.deep]; omega, by simp only [Bd.lps]; omega, rfl⟩
  | [x], n, m, hs, ha, hl, h => by
    obtain ⟨s, o, rfl, d1, l1, rfl⟩ := hs m (Nat.le_refl _) h
    exact ⟨.cons s .nil, by simp [Bd.ok, o], by simp [Bd.ds], by simp only [Bd.deep]; omega, by simp only [Bd.lps]; omega, by simp only [Bd.cnt]; omega⟩
  | x :: y :: ds, n, m, hs, ha, hl, h => by
    obtain ⟨n1, m1, n2, m2, g1, g2, rfl, rfl⟩ := split1 h
    obtain ⟨s, o, rfl, d1, l1, rfl⟩ := hs m1 (by omega) g1
    obtain ⟨b, ob, eb, d2, l2, rfl⟩ := good_list (y :: ds) (m := m2) (fun m' le => hs m' (by omega)) ha hl g2
    exact ⟨.cons s b, by simp [Bd.ok, o, ob], by rw [eb]; simp [Bd.ds], by simp only [Bd.deep]; omega, by simp only [Bd.lps]; omega, by simp only [Bd.cnt]⟩
theorem good_s : ∀ (m : Nat) {d : PyData} {a l n : Nat}, l ≤ 2 → Good [("statement", d, a, l)] n m → ∃ s : V6.St, s.ok = true ∧ d = s.d ∧ a + s.deep ≤ 20 ∧ l + s.lps ≤ 2 ∧ n = s.cnt := by
  intro m
  induction m using Nat.strongRecOn with
  | ind m ih =>
  intro d a l n hl h
  obtain ⟨n1, m1, r, i, rfl, rfl⟩ := one h
  obtain ⟨k, ds, ps, rfl, mem, len, la, le, ei⟩ := node (by decide +kernel) (by decide +kernel) (by decide +kernel) r
  rw [ei] at i
  have c1 : V6.cnt "statement" = 1 := by decide +kernel
  rw [c1]
  have body : ∀ {d : PyData} {a l n m' : Nat}, m' ≤ m1 → a ≤ 20 → l ≤ 2 → Good [("body", d, a, l)] n m' → ∃ b : Bd, b.ok = true ∧ d = .tuple b.ds ∧ a + b.deep ≤ 20 ∧ l + b.lps ≤ 2 ∧ n = b.cnt := fun {d a l n m'} lem ha hl g => by
    obtain ⟨n2, m2, r2, i2, rfl, rfl⟩ := one g
    have r' : isTup d = true := r2
    cases d with
    | tuple es =>
      obtain ⟨b, ob, rfl, d1, l1, rfl⟩ := good_list es (m := m2) (fun m'' le {d n'} g'' => ih m'' (by omega) hl g'') ha hl i2
      exact ⟨b, ob, rfl, d1, l1, by rw [show V6.cnt "body" = 0 by decide +kernel]; omega⟩
    | _ => cases r'
  have me := in_s _ mem rfl
  simp only [FS, List.mem_cons, List.not_mem_nil, or_false, Prod.mk.injEq] at me
  rcases me with ⟨rfl, -, rfl⟩ | ⟨rfl, -, rfl⟩ | ⟨rfl, -, rfl⟩ | ⟨rfl, -, rfl⟩
  · obtain ⟨x, rfl⟩ := one_of len
    obtain ⟨e1, o1, rfl, d1, rfl⟩ := good_e m1 i
    exact ⟨.say e1, o1, rfl, by simp only [V6.St.deep]; omega, by simp only [V6.St.lps]; omega, rfl⟩
  · obtain ⟨x, y, rfl⟩ := two_of len
    obtain ⟨n2, m2, n3, m3, g1, g2, rfl, rfl⟩ := split1 i
    obtain ⟨⟨w, rfl, ww⟩, rfl⟩ := name0 g1
    obtain ⟨e2, o2, rfl, d2, rfl⟩ := good_e m3 g2
    exact ⟨.let_ w e2, by simp [V6.St.ok, ww, o2], rfl, by simp only [V6.St.deep]; omega, by simp only [V6.St.lps]; omega, by simp only [V6.St.cnt]; omega⟩
  · obtain ⟨x, y, z, rfl⟩ := three_of len
    rw [if_neg (by decide +kernel)] at i
    obtain ⟨n2, m2, n3, m3, g1, g2, rfl, rfl⟩ := split1 i
    obtain ⟨n4, m4, n5, m5, g3, g4, rfl, rfl⟩ := split1 g2
    obtain ⟨c, o1, rfl, d1, rfl⟩ := good_c m2 g1
    obtain ⟨b1, o2, rfl, d2, l2, rfl⟩ := body (by omega) (by omega) hl g3
    obtain ⟨b2, o3, rfl, d3, l3, rfl⟩ := body (by omega) (by omega) hl g4
    exact ⟨.if_ c b1 b2, by simp [V6.St.ok, o1, o2, o3], rfl, by simp only [V6.St.deep]; omega, by simp only [V6.St.lps]; omega, by simp only [V6.St.cnt]; omega⟩
  · obtain ⟨x, y, rfl⟩ := two_of len
    rw [if_pos rfl] at i
    have l2' := le rfl
    obtain ⟨n2, m2, n3, m3, g1, g2, rfl, rfl⟩ := split1 i
    obtain ⟨⟨w, rfl, ww⟩, rfl⟩ := name0 g1
    obtain ⟨b, o2, rfl, d2, l2, rfl⟩ := body (by omega) (by omega) (by omega) g2
    exact ⟨.each w b, by simp [V6.St.ok, ww, o2], rfl, by simp only [V6.St.deep]; omega, by simp only [V6.St.lps]; omega, by simp only [V6.St.cnt]; omega⟩
/-- a program that may be -/
structure PgOk (b : V6.Bd) : Prop where
  ok : b.ok = true
  dp : b.deep ≤ 20
  lp : b.lps ≤ 2
  cn : b.cnt ≤ 500
def ProgD (d : PyData) : Prop := ∃ b : V6.Bd, PgOk b ∧ d = .tuple b.ds
theorem good_p {d : PyData} {n m : Nat} (h : Good [("body", d, 0, 0)] n m) : ∃ b : V6.Bd, b.ok = true ∧ b.deep ≤ 20 ∧ b.lps ≤ 2 ∧ n = b.cnt ∧ d = .tuple b.ds := by
  obtain ⟨n1, m1, r, i, rfl, rfl⟩ := one h
  have r' : isTup d = true := r
  cases d with
  | tuple es =>
    obtain ⟨b, ob, rfl, d1, l1, rfl⟩ := good_list es (m := m1) (fun m'' le {d n'} g'' => good_s m'' (by omega) g'') (by omega) (by omega) i
    exact ⟨b, ob, by omega, by omega, by rw [show V6.cnt "body" = 0 by decide +kernel]; omega, rfl⟩
  | _ => cases r'
/-- what the stack finds -/
def Runs (xs : List V6.It) (c : Nat) (r : Bool) : Prop := (∀ n m, Good xs n m → r = decide (c + n ≤ 500)) ∧ ((¬ ∃ n m, Good xs n m) → r = false)
theorem runs_prog {d : PyData} {r : Bool} (h : Runs [("body", d, 0, 0)] 0 r) : r = true ↔ ProgD d := by
  constructor
  · intro z
    by_cases g : ∃ n m, Good [(("body" : Str), d, 0, 0)] n m
    · obtain ⟨n, m, g⟩ := g
      obtain ⟨b, ob, d1, l1, rfl, rfl⟩ := good_p g
      have y := h.1 _ _ g
      rw [z] at y
      have y' := of_decide_eq_true y.symm
      exact ⟨b, ⟨ob, d1, l1, by omega⟩, rfl⟩
    · rw [h.2 g] at z
      cases z
  · rintro ⟨b, ok, rfl⟩
    have g := goodP ok.ok ok.dp ok.lp
    rw [h.1 _ _ g]
    have := ok.cn
    exact decide_eq_true (by omega)
theorem runs_nil {c : Nat} {r : Bool} (h : Runs [] c r) : r = decide (c ≤ 500) := h.1 0 0 .nil
theorem runs_bad {l : List V6.It} {s : Str} {d : PyData} {a e c : Nat} {r : Bool} (h : Runs (l ++ [(s, d, a, e)]) c r) (b : rightOf s d a e = false) : r = false := h.2 fun ⟨n, m, g⟩ => by
  obtain ⟨n1, m1, n2, m2, h1, _⟩ := Good.last g
  rw [b] at h1
  cases h1
theorem runs_step {l : List V6.It} {s : Str} {d : PyData} {a e c : Nat} {r : Bool} (h : Runs (l ++ [(s, d, a, e)]) c r) (b : rightOf s d a e = true) : Runs (l ++ innerOf s d a e) (c + V6.cnt s) r := by
  have back : ∀ n m, Good (l ++ innerOf s d a e) n m → ∃ n1 m1 n2 m2, Good l n1 m1 ∧ Good (innerOf s d a e) n2 m2 ∧ n = n1 + n2 := by
    generalize innerOf s d a e = ys
    clear h
    intro n m g
    induction l generalizing n m with
    | nil => exact ⟨0, 0, n, m, .nil, g, by omega⟩
    | cons x l ih =>
      cases g with | @cons s' d' a' e' _ n1 m1 n2 m2 r1 i1 g1 =>
      obtain ⟨n3, m3, n4, m4, g3, g4, rfl⟩ := ih _ _ g1
      exact ⟨_, _, n4, m4, .cons r1 i1 g3, g4, by omega⟩
  constructor
  · intro n m g
    obtain ⟨n1, m1, n2, m2, g1, g2, rfl⟩ := back n m g
    have z := h.1 _ _ (g1.app (.cons b g2 .nil))
    rw [z]
    exact decide_eq_decide.mpr ⟨fun q => by omega, fun q => by omega⟩
  · intro ng
    refine h.2 fun ⟨n, m, g⟩ => ?_
    obtain ⟨n1, m1, n2, m2, h1, h2, h3, _⟩ := Good.last g
    exact ng ⟨_, _, h3.app h2⟩
/-! ### how large -/
mutual
def sz : PyData → Nat
  | .tuple ds => 1 + szs ds
  | .list ds => 1 + szs ds
  | _ => 1
def szs : List PyData → Nat
  | [] => 0
  | d :: ds => sz d + szs ds
end
theorem sz1 (d : PyData) : 1 ≤ sz d := by
  cases d <;> simp only [sz] <;> omega
theorem szs_app : ∀ a b : List PyData, szs (a ++ b) = szs a + szs b
  | [], b => by simp [szs]
  | d :: a, b => by
    rw [List.cons_append, szs, szs, szs_app a b]
    omega
def W : List V6.It → Nat
  | [] => 0
  | x :: l => sz x.2.1 + W l
theorem W_app : ∀ a b : List V6.It, W (a ++ b) = W a + W b
  | [], b => by simp [W]
  | d :: a, b => by
    rw [List.cons_append, W, W, W_app a b]
    omega
theorem W_len : ∀ l : List V6.It, l.length ≤ W l
  | [] => Nat.le_refl _
  | x :: l => by
    have h1 := sz1 x.2.1
    have h2 := W_len l
    rw [List.length_cons, W]
    omega
theorem W_map {s : Str} {a e : Nat} : ∀ ds : List PyData, W (ds.map fun x => (s, x, a, e)) = szs ds
  | [] => rfl
  | d :: ds => by
    rw [List.map_cons, W, szs, W_map ds]
theorem W_zip {a c : Nat} : ∀ (ps : List Str) (ds : List PyData), W ((ps.zip ds).map fun p => (p.1, p.2, a, c)) ≤ szs ds
  | [], ds => Nat.zero_le _
  | p :: ps, [] => Nat.zero_le _
  | p :: ps, d :: ds => by
    have z := W_zip (a := a) (c := c) ps ds
    rw [List.zip_cons_cons, List.map_cons, W, szs]
    exact Nat.add_le_add_left z _
theorem W_inner {s : Str} {d : PyData} {a e : Nat} (r : rightOf s d a e = true) : W (innerOf s d a e) < sz d := by
  by_cases n1 : s = "body"
  · subst n1
    have r' : isTup d = true := r
    cases d with
    | tuple es =>
      show W (es.map fun x => (("statement" : Str), x, a, e)) < _
      rw [W_map, sz]
      omega
    | _ => cases r'
  by_cases n2 : s = "name"
  · subst n2
    have := sz1 d
    exact this
  by_cases n3 : s = "word"
  · subst n3
    have := sz1 d
    exact this
  obtain ⟨k, ds, ps, rfl, mem, len, la, le, ei⟩ := node n1 n2 n3 r
  rw [ei]
  refine Nat.lt_of_le_of_lt (W_zip ps ds) ?_
  simp only [sz, szs]
  omega
end V10

set_option maxHeartbeats 4000000
namespace K07
open PySem PySem.Spec PyProof.Rows L2 V1 V2 V3 V6
open Evl (pss_cut tCut sq_of st_of)
theorem lookF_mem {k s : Str} {ps : List Str} (h : V5.lookF V6.formsL k = some (s, ps)) : (k, s, ps) ∈ V6.formsL := by
  unfold V5.lookF at h
  obtain ⟨p, hp, e⟩ := Option.map_eq_some_iff.mp h
  have z := List.find?_some hp
  have m := List.mem_of_find?_eq_some hp
  obtain ⟨k', s', ps'⟩ := p
  cases e
  obtain rfl : k' = k := of_decide_eq_true z
  exact m
theorem forms_small : ∀ p ∈ V6.formsL, p.2.2.length ≤ 3 ∧ p.1.length ≤ 10 := by decide +kernel
theorem formD_inv {d : PyData} {s : Str} (h : formD d s = true) : ∃ k ds ps, d = .tuple (.str k :: ds) ∧ V5.lookF V6.formsL k = some (s, ps) ∧ ds.length = ps.length := by
  unfold formD at h
  split at h
  · rename_i k ds
    cases hf : V5.lookF V6.formsL k with
    | none => simp [hf] at h
    | some p =>
      obtain ⟨t, ps⟩ := p
      simp only [hf, Bool.and_eq_true, decide_eq_true_eq] at h
      exact ⟨k, ds, ps, rfl, by rw [h.1] at hf; exact hf, h.2⟩
  · cases h
theorem rightOf_node {s : Str} {d : PyData} {a e : Nat} (n1 : s ≠ "body") (n2 : s ≠ "name") (n3 : s ≠ "word") (h : rightOf s d a e = true) : ∃ k ds ps, d = .tuple (.str k :: ds) ∧ V5.lookF V6.formsL k = some (s, ps) ∧ ds.length = ps.length ∧
    innerOf s d a e = (ps.zip ds).map fun p => (p.1, p.2, a + 1, if k = "each" then e + 1 else e) := by
  unfold rightOf at h
  rw [if_neg n1, if_neg n2, if_neg n3] at h
  simp only [Bool.and_eq_true] at h
  obtain ⟨k, ds, ps, rfl, h1, h2⟩ := formD_inv h.1.1
  refine ⟨k, ds, ps, rfl, h1, h2, ?_⟩
  unfold innerOf
  rw [if_neg n1, if_neg n2, if_neg n3]
  simp only [h1]
theorem inner_short {s : Str} {d : PyData} {a e : Nat} (r : rightOf s d a e = true) (h : shortA d = true) : ∀ x ∈ innerOf s d a e, shortA x.2.1 = true := by
  by_cases n1 : s = "body"
  · subst n1
    have r' : isTup d = true := r
    obtain ⟨ds, rfl⟩ := isTup_tup r'
    intro x hx
    obtain ⟨y, hy, rfl⟩ := List.mem_map.mp (show x ∈ ds.map (fun x => (("statement" : Str), x, a, e)) from hx)
    exact shortAll_of h y hy
  by_cases n2 : s = "name"
  · subst n2
    exact fun x hx => absurd (show x ∈ ([] : List V6.It) from hx) List.not_mem_nil
  by_cases n3 : s = "word"
  · subst n3
    exact fun x hx => absurd (show x ∈ ([] : List V6.It) from hx) List.not_mem_nil
  obtain ⟨k, ds, ps, rfl, h1, h2, h3⟩ := rightOf_node n1 n2 n3 r
  rw [h3]
  intro x hx
  obtain ⟨⟨p, y⟩, hp, rfl⟩ := List.mem_map.mp hx
  have m := (List.of_mem_zip hp).2
  have h' : shortAll (.str k :: ds) = true := h
  exact shortAll_of h' y (List.mem_cons_of_mem _ m)
theorem lc_putS {D : Addr} {Pv : Nat → List V → Hp → Prop} {i : Nat} {H : Hp} {acc : List V} {y : V} (l : acc.length ≤ i) (z : i < sizeLine) (e : H D = some (.lst acc)) (p : Pv (i + 1) (acc ++ [y]) (delH H D)) :
    ∃ acc, H D = some (.lst acc) ∧ acc.length < sizeLine ∧ Lc D Pv (i + 1) (upd H D (.lst (acc ++ [y]))) :=
  ⟨acc, e, Nat.lt_of_le_of_lt l z, acc ++ [y], by rw [List.length_append]; simp; omega, upd_same, by rw [delH_upd]; exact p⟩
theorem cnt_in (s : Str) : (if false = true then !inV (V.str s) [V.str "statement", V.str "e", V.str "c"] else inV (V.str s) [V.str "statement", V.str "e", V.str "c"]) = decide (V6.cnt s = 1) := by
  rw [if_neg (by decide)]
  unfold V6.cnt
  by_cases e1 : s = "statement"
  · subst e1
    decide +kernel
  · by_cases e2 : s = "e"
    · subst e2
      decide +kernel
    · by_cases e3 : s = "c"
      · subst e3
        decide +kernel
      · rw [if_neg (by simp [e1, e2, e3])]
        simp [inV, eqV, Ne.symm e1, Ne.symm e2, Ne.symm e3]
theorem cnt_01 (s : Str) : V6.cnt s = 0 ∨ V6.cnt s = 1 := by
  unfold V6.cnt
  split
  · exact .inr rfl
  · exact .inl rfl
open Classical in
noncomputable def progB (d : PyData) : Bool := decide (V10.ProgD d)
open Classical in
theorem progB_is (d : PyData) : progB d = true ↔ V10.ProgD d := by
  unfold progB
  exact ⟨fun h => of_decide_eq_true h, fun h => decide_eq_true h⟩
theorem runs_of (d : PyData) : V10.Runs [("body", d, 0, 0)] 0 (progB d) := by
  constructor
  · intro n m g
    obtain ⟨b, ob, d1, l1, rfl, rfl⟩ := V10.good_p g
    have z : V10.ProgD (.tuple b.ds) ↔ 0 + b.cnt ≤ 500 := ⟨fun ⟨c, oc, e⟩ => by
      have e' : b.ds = c.ds := by
        injection e
      obtain rfl := V9.bd_inj b c e'
      have := oc.cn
      omega, fun q => ⟨b, ⟨ob, d1, l1, by omega⟩, rfl⟩⟩
    cases hb : progB (.tuple b.ds) with
    | true => exact (decide_eq_true (z.mp ((progB_is _).mp hb))).symm
    | false => exact (decide_eq_false fun q => by rw [(progB_is _).mpr (z.mpr q)] at hb; cases hb).symm
  · intro ng
    cases hb : progB d with
    | false => rfl
    | true =>
      obtain ⟨b, ob, rfl⟩ := (progB_is _).mp hb
      exact absurd ⟨_, _, goodP ob.ok ob.dp ob.lp⟩ ng
def spProg [CurK] : Sp := fun vs H Q _ => ∃ v d, vs = [v] ∧ Dx H v d ∧ shortA d = true ∧ V10.sz d ≤ 100000 ∧ ∀ H', Same H H' → Q (.bl (progB d)) H'
def spPInit [CurK] : Sp := fun vs H Q E => ∃ p dx v d, vs = [.ref p, v] ∧ H p = some (.ins (He.ga K "Program") dx []) ∧ Dx H v d ∧ shortA d = true ∧ V10.sz d ≤ 100000 ∧
  (progB d = true → ∀ H', (∀ b o, b ≠ p → H b = some o → H' b = some o) → H' p = some (.ins (He.ga K "Program") dx [("statements", v)]) → Q .non H') ∧ (progB d = false → ∀ H', Same H H' → E (.ref (He.ga K "BadProgram")) none H')
def spVInit [CurK] : Sp := fun vs H Q _ => ∃ p dx v, vs = [.ref p, v] ∧ H p = some (.ins (He.ga K "Voice") dx []) ∧ ∀ H', (∀ b o, b ≠ p → H b = some o → H' b = some o) → H' p = some (.ins (He.ga K "Voice") dx [("telling", v)]) → Q .non H'
theorem scVInit : FnScope ["self", "telling"] ["self", "telling"] (defScope s_Voice__init__) := ⟨rfl, rfl, rfl, by decide +kernel, rfl, by decide +kernel, by decide +kernel⟩
theorem scProg : FnScope ["thing", "waiting", "many", "sort", "one", "around", "eaches"] ["thing"] (defScope s_is_program) := ⟨rfl, rfl, rfl, by decide +kernel, rfl, by decide +kernel, by decide +kernel⟩
theorem scPInit : FnScope ["self", "statements"] ["self", "statements"] (defScope s_Program__init__) := ⟨rfl, rfl, rfl, by decide +kernel, rfl, by decide +kernel, by decide +kernel⟩
section
variable [CurK] {P : Program} {w : World} {mg : Str → Option Value} {base : Heap}
theorem ok_inner (T : Tx K w mg) : Has P w K mg base CX0 1 "inner_ones" ["sort", "thing", "around", "eaches"] spInner := by
  obtain ⟨fd, F⟩ := T.c.def_ 7 (d := d_inner_ones) rfl
  refine ⟨fd, F.ok scInner (fun vs H Q E h => ?_) (fun cdv A outer s H vs Q E hr h => ?_), FunD.bindsN F fun _ _ _ _ _ _ us hl => match us, hl with | [_, _, _, _], _ => rfl, F.kp, (T.glo 21 rfl)⟩
  · obtain ⟨G, v, d, s, a, e, rfl, _⟩ := h
    rfl
  · refine ⟨_, PSs.nox (pss_cons (ps_if (pt_cmpR op_eq (pv 0) pe_str (nomark _))
 (pss_one (ps_ret (pe_lc (own := [("statement", 4)]) (g := gName 4) (tt := tYes) (te := tTup (tCons (tC (.str "statement")) (tCons (tVar 4) (tCons (tVar 2) (tCons (tVar 3) tNil))))) (by rfl) scInner.nd (pi_tup (pv 1))
 (blkOk_by (own := [("statement", 4)]) (N := ["sort", "thing", "around", "eaches", "statement", "sorts", "within", "at"]) (sc := defScope s_inner_ones) (by decide +kernel)) (fun _ _ _ _ _ => pg_name (i := 4) scInner.nd rfl (Or.inl rfl)) (fun _ _ _ _ _ => pts_nil) (fun _ _ _ _ _ => (pe_tup (pa_cons pe_str (pa_cons (pv 4) (pa_cons (pv 2) (pa_cons (pv 3) pa_nil)))))))))
 pss_nil)
 (pss_cons (ps_if (pt_cmpR op_in_seq (pv 0) (pe_tup (pa_cons pe_str (pa_cons pe_str pa_nil))) (by rfl))
 (pss_one (ps_ret (pe_lstS pa_nil)))
 pss_nil)
 (pss_cons (ps_set (i := 5) scInner.nd rfl (Or.inr rfl) (pe_ix ix_tup (V5.pe_kget (pe_glob (v := .ref (He.ga K "FORMS")) (by rfl) (T.glo 14 rfl) rfl) (pe_ix ix_tup (pv 1) pe_int (fun _ _ => rfl)) (fun _ _ => rfl)) pe_int (fun _ _ => rfl)))
 (pss_cut (ps_set (i := 6) scInner.nd rfl (Or.inr rfl) (pe_ifExp (pt_cmpR op_eq (pe_ix ix_tup (pv 1) pe_int (fun _ _ => rfl)) pe_str (nomark _)) (pe_op op_add (pv 3) pe_int) (pv 3)))
 (pss_one (ps_ret (pe_lc (own := [("at", 7)]) (g := gName 7) (tt := tYes) (te := teInner K) (by rfl) scInner.nd (pi_range1 (by rfl) (T.free 79 rfl) (pa_cons (pe_callB call_len (by rfl) (T.free 76 rfl) PySem.boot_len (pa_cons (pv 5) pa_nil)) pa_nil))
 (blkOk_by (own := [("at", 7)]) (N := ["sort", "thing", "around", "eaches", "statement", "sorts", "within", "at"]) (sc := defScope s_inner_ones) (by decide +kernel)) (fun _ _ _ _ _ => pg_name (i := 7) scInner.nd rfl (Or.inl rfl)) (fun _ _ _ _ _ => pts_nil) (fun _ _ _ _ _ => (pe_tup (pa_cons (pe_ix ix_tup (pv 5) (pv 7) (fun _ _ => rfl)) (pa_cons (pe_ix ix_tup (pv 1) (pe_op op_add (pv 7) pe_int) (fun _ _ => rfl)) (pa_cons (pe_op op_add (pv 2) pe_int) (pa_cons (pv 6) pa_nil))))))))))))), ?_⟩
    obtain ⟨G, v, d, s, a, e, rfl, sG, hd, hr1, hln, hQ⟩ := h
    have dt : ∀ x : Str, decide (V.str s = V.str x) = decide (s = x) := fun x => decide_eq_decide.mpr ⟨fun h => V.str.inj h, fun h => congrArg V.str h⟩
    refine ⟨_, rfl, rfl, _, rfl, ?_⟩
    rw [dt]
    by_cases n1 : s = "body"
    · subst n1
      rw [decide_eq_true rfl]
      have r' : isTup d = true := hr1
      obtain ⟨ds, rfl⟩ := isTup_tup r'
      obtain ⟨p, us, rfl, hpG, hus⟩ := Dx.tup_inv hd
      have hp := sG _ _ hpG
      have lu := dxAll_len hus
      have ld : ds.length ≤ 100000 := by
        have z : ((ds.map fun x => (("statement" : Str), x, a, e)) : List V6.It).length ≤ 100000 := hln
        rw [List.length_map] at z
        exact z
      refine iteT ⟨_, rfl, p, rfl, ⟨_, st_of hp⟩, fun D nD => ?_⟩
      refine lc_gen (vs := [4]) (walk_tup (K := K) (a := p) (xs := us)) nD (fun i acc H' => Same H H' ∧ ItL G H' acc ((ds.take i).map fun x => ("statement", x, a, e))) ⟨Same.refl H, ⟨rfl, fun i v x q _ => by cases q⟩⟩ (fun i acc H' _ z => st_of (same_delH _ _ (z.1 _ _ hp))) ?_ ?_
      · rintro i acc x H6 H7 hi l e6 ⟨sm, it⟩ ⟨rfl, hx⟩
        refine ⟨rfl, ?_⟩
        simp only [tYes, if_true]
        refine ⟨_, rfl, _, rfl, _, rfl, (by show 4 ≤ sizeLine; decide), fun t nt => ?_⟩
        have st := same_new (o := HO.tup [.str "statement", x, .int ((a : Nat) : Int), .int ((e : Nat) : Int)]) nt
        have tD : t ≠ D := fun z => by rw [z, e6] at nt; cases nt
        have di : ds[i]? = some ds[i] := List.getElem?_eq_getElem (by omega)
        refine lc_putS l (by rw [sizeLine_eq]; omega) (st _ _ e6) ⟨sm.trans (same_del st), ?_⟩
        rw [List.take_succ, di, List.map_append]
        refine (it.same (same_del st)).app (ItL.one ⟨t, x, rfl, by rw [delH_ne tD]; exact upd_same, DxAll.at hus hx di⟩)
      · rintro acc H6 l e6 ⟨sm, it⟩
        rw [lu, List.take_length] at it
        exact hQ H6 D acc (sm.trans same_delH) nD e6 it
    rw [decide_eq_false n1]
    refine iteF ⟨_, rfl, (by show 2 ≤ sizeLine; decide), fun r nr => ?_⟩
    have s1 := same_new (o := HO.tup [.str "name", .str "word"]) nr
    have er : upd H r (HO.tup [.str "name", .str "word"]) r = some (.tup [.str "name", .str "word"]) := upd_same
    generalize upd H r (HO.tup [.str "name", .str "word"]) = H1 at s1 er ⊢
    refine ⟨r, _, rfl, .inr (st_of er), rfl, by decide +kernel, _, rfl, ?_⟩
    have iv : (if false = true then !inV (V.str s) [V.str "name", V.str "word"] else inV (V.str s) [V.str "name", V.str "word"]) = decide (s = "name" ∨ s = "word") := by
      rw [if_neg (by decide)]
      by_cases e1 : s = "name"
      · subst e1
        decide +kernel
      · by_cases e2 : s = "word"
        · subst e2
          decide +kernel
        · rw [decide_eq_false (by simp [e1, e2])]
          simp [inV, eqV, Ne.symm e1, Ne.symm e2]
    rw [iv]
    by_cases nw : s = "name" ∨ s = "word"
    · rw [decide_eq_true nw]
      refine iteT ⟨(by show 0 ≤ sizeLine; decide), fun D nD low => ?_⟩
      have z : innerOf s d a e = [] := by
        unfold innerOf
        rw [if_neg n1]
        rcases nw with h | h
        · rw [if_pos h]
        · by_cases h' : s = "name"
          · rw [if_pos h']
          · rw [if_neg h', if_pos h]
      refine hQ _ D [] (s1.trans (same_new nD)) (fresh_up s1 nD) upd_same ?_
      rw [z]
      exact ⟨rfl, fun i v x q _ => by cases q⟩
    rw [decide_eq_false nw]
    obtain ⟨k, ds, ps, rfl, h1, h2, h3⟩ := rightOf_node n1 (fun z => nw (.inl z)) (fun z => nw (.inr z)) hr1
    rw [h3] at hQ
    obtain ⟨p, us, rfl, hp0, hr'⟩ := Dx.tup_inv hd
    have hp := s1 _ _ (sG _ _ hp0)
    cases hr' with | @cons v1 us _ _ q1 r1 =>
    obtain rfl := Dx.str_inv q1
    have lu := dxAll_len r1
    have pl : ps.length ≤ 3 := (forms_small _ (lookF_mem h1)).1
    obtain ⟨ks, D0, look⟩ := T.forms.ex
    have lk := look k
    rw [formsL_is] at lk
    obtain ⟨u, x, x', gk, ru, k1, k2⟩ := lk.2 s ps h1
    refine iteF ⟨_, rfl, p, _, 0, _, rfl, rfl, st_of hp, at0, _, ks, k, u, _, rfl, D0, rfl, gk, ru, x, _, 1, _, rfl, rfl, k1 _, at1, ?_⟩
    refine ⟨fun σ H' => H' = H1 ∧ σ = [some (.str s), some (.ref p), some (.int ((a : Nat) : Int)), some (.int ((e : Nat) : Int)), none, some (.ref x'), some (.int ((if k = "each" then e + 1 else e : Nat) : Int)), none], ?_, ?_⟩
    · refine ⟨_, rfl, p, _, 0, _, rfl, rfl, st_of hp, at0, rfl, _, rfl, ?_⟩
      have dk : decide (V.str k = V.str "each") = decide (k = "each") := decide_eq_decide.mpr ⟨fun h => V.str.inj h, fun h => congrArg V.str h⟩
      rw [dk]
      by_cases ke : k = "each"
      · rw [decide_eq_true ke, if_pos ke]
        exact iteT ⟨_, rfl, _, _, rfl, rfl, rfl, rfl⟩
      · rw [decide_eq_false ke, if_neg ke]
        exact iteF ⟨_, rfl, rfl, rfl⟩
    rintro σ H2 ⟨rfl, rfl⟩
    generalize (if k = "each" then e + 1 else e : Nat) = c at hQ ⊢
    refine ⟨_, rfl, _, _, rfl, .inr ⟨_, k2 _, rfl⟩, _, rfl, by rw [List.length_map]; omega, by rw [List.length_map]; omega, fun D nD => ?_⟩
    rw [Int.toNat_natCast, List.length_map]
    refine lc_gen (vs := [7]) (walk_range (lo := 0) (n := ps.length)) nD (fun i acc H' => Same H2 H' ∧ ItL G H' acc (((ps.zip ds).map fun p => (p.1, p.2, a + 1, c)).take i)) ⟨Same.refl H2, ⟨rfl, fun i v x q _ => by cases q⟩⟩ (fun _ _ _ _ _ => True.intro) ?_ ?_
    · rintro i acc y H6 H7 hi l e6 ⟨sm, it⟩ ⟨rfl, rfl⟩
      show gName 7 (V.int (0 + ((i : Nat) : Int))) _ _ _
      rw [Int.zero_add]
      refine ⟨rfl, ?_⟩
      simp only [tYes, if_true]
      have hp7 := (sm.trans same_delH) _ _ hp
      have pi : (ps.map V.str)[i]? = some (.str ps[i]) := by rw [List.getElem?_map, List.getElem?_eq_getElem hi]; rfl
      have di : ds[i]? = some (ds[i]'(by omega)) := List.getElem?_eq_getElem (by omega)
      have ui : us[i]? = some (us[i]'(by omega)) := List.getElem?_eq_getElem (by omega)
      have zi : ((ps.zip ds).map fun p => (p.1, p.2, a + 1, c))[i]? = some (ps[i], ds[i]'(by omega), a + 1, c) := by
        rw [List.getElem?_map, (List.getElem?_zip_eq_some (z := (ps[i], ds[i]'(by omega)))).mpr ⟨List.getElem?_eq_getElem hi, di⟩]
        rfl
      have u1 : atI (V.str k :: us) (((i : Nat) : Int) + 1) = some (us[i]'(by omega)) := atI_nat (j := i + 1) (by rw [List.getElem?_cons_succ]; exact ui)
      refine ⟨_, rfl, _, rfl, x', _, _, _, rfl, rfl, k2 _, atI_nat pi, _, rfl, _, rfl, _, _, rfl, rfl, p, _, _, _, rfl, rfl, st_of hp7, u1, _, rfl, _, _, rfl, rfl, _, rfl, (by show 4 ≤ sizeLine; decide), fun t nt => ?_⟩
      have st := same_new (o := HO.tup [.str ps[i], us[i]'(by omega), .int (((a : Nat) : Int) + 1), .int ((c : Nat) : Int)]) nt
      have tD : t ≠ D := fun z => by rw [z, e6] at nt; cases nt
      refine lc_putS l (by rw [sizeLine_eq]; omega) (st _ _ e6) ⟨sm.trans (same_del st), ?_⟩
      rw [List.take_succ, zi]
      refine (it.same (same_del st)).app (ItL.one ⟨t, us[i]'(by omega), rfl, by rw [delH_ne tD]; exact upd_same, DxAll.at r1 ui di⟩)
    · rintro acc H6 l e6 ⟨sm, it⟩
      rw [List.take_of_length_le (by rw [List.length_map, List.length_zip]; omega)] at it
      exact hQ H6 D acc (s1.trans (sm.trans same_delH)) (fresh_up s1 nD) e6 it
theorem ok_prog (T : Tx K w mg) : Has P w K mg base CX0 4 "is_program" ["thing"] spProg := by
  obtain ⟨fd, F⟩ := T.c.def_ 8 (d := d_is_program) rfl
  have Hri := ok_right (P := P) (w := w) (base := base) T
  have Hin := ok_inner (P := P) (w := w) (base := base) T
  obtain ⟨t500, g500⟩ := (T.int 11 rfl)
  refine ⟨fd, F.ok scProg (fun vs H Q E h => ?_) (fun cdv A outer s H vs Q E hr h => ?_), FunD.bindsN F fun _ _ _ _ _ _ us hl => match us, hl with | [_], _ => rfl, F.kp, (T.glo 22 rfl)⟩
  · obtain ⟨v, d, rfl, _⟩ := h
    rfl
  · refine ⟨_, PSs.nox (pss_cons (ps_set (i := 1) scProg.nd rfl (Or.inl rfl) (pe_lstS (pa_cons (pe_tup (pa_cons pe_str (pa_cons (pv 0) (pa_cons pe_int (pa_cons pe_int pa_nil))))) pa_nil)))
 (pss_cons (ps_set (i := 2) scProg.nd rfl (Or.inl rfl) pe_int)
 (pss_cons (ps_while PassesOwn.never (pt_truth (pv 1) (by intro _; rfl))
 (pss_cons (ps_asg (pe_bm0 PySem.F.plainAttrs_list PySem.F.slot_list_pop PySem.F.type_list_pop mt_pop (pv 1)) (pg_tup (by rfl) (pgs_cons (pg_name (i := 3) scProg.nd rfl (Or.inl rfl)) (pgs_cons (pg_name (i := 4) scProg.nd rfl (Or.inl rfl)) (pgs_cons (pg_name (i := 5) scProg.nd rfl (Or.inl rfl)) (pgs_cons (pg_name (i := 6) scProg.nd rfl (Or.inl rfl)) pgs_nil))))))
 (pss_cons (ps_if (pt_not (pt_val (pe_has Hri (hr.mono (by decide)) pass0 (pa_cons (pv 3) (pa_cons (pv 4) (pa_cons (pv 5) (pa_cons (pv 6) pa_nil)))))))
 (pss_one (ps_ret pe_bl))
 pss_nil)
 (pss_cut (ps_if (pt_cmpR op_in_seq (pv 3) (pe_tup (pa_cons pe_str (pa_cons pe_str (pa_cons pe_str pa_nil)))) (by rfl))
 (pss_one (ps_aug (i := 2) scProg.nd rfl (.inl rfl) pe_int ip_add))
 pss_nil)
 (pss_one (ps_expr (pe_bm PySem.F.plainAttrs_list PySem.F.slot_list_extend PySem.F.type_list_extend mt_extend (pv 1) (pa_cons (pe_has Hin (hr.mono (by decide)) pass0 (pa_cons (pv 3) (pa_cons (pv 4) (pa_cons (pv 5) (pa_cons (pv 6) pa_nil))))) pa_nil))))))))
 (pss_one (ps_ret (pe_cmpR op_le (pv 2) (pe_glob (v := .int 500) (by rfl) g500 ⟨_, rfl⟩) (nomark _))))))), ?_⟩
    obtain ⟨v, d, rfl, hd, sh0, lm, hQ⟩ := h
    have gd := runs_of d
    generalize progB d = r at hQ gd
    refine ⟨_, rfl, (by show 4 ≤ sizeLine; decide), fun q nq => ⟨(by show 1 ≤ sizeLine; decide), fun k nk _ => ?_⟩⟩
    have s1 := same_new (o := HO.tup [.str "body", v, .int 0, .int 0]) nq
    have eq1 : upd H q (HO.tup [.str "body", v, .int 0, .int 0]) q = some (.tup [.str "body", v, .int 0, .int 0]) := upd_same
    generalize upd H q (HO.tup [.str "body", v, .int 0, .int 0]) = H1 at s1 eq1 nk ⊢
    have i1 : ItAt H H1 (.ref q) (("body" : Str), d, 0, 0) := ⟨q, v, rfl, eq1, hd⟩
    have s2 : Same H1 (delH (upd H1 k (HO.lst [.ref q])) k) := fun b o e => by rw [delH_upd, delH_ne (ne_of_none e nk)]; exact e
    have e2 : upd H1 k (HO.lst [.ref q]) k = some (.lst [.ref q]) := upd_same
    generalize upd H1 k (HO.lst [.ref q]) = H2 at s2 e2 ⊢
    refine ⟨fun f σ H' => ∃ us xs c, (∃ o3 o4 o5 o6, σ = [some v, some (.ref k), some (.int ((c : Nat) : Int)), o3, o4, o5, o6]) ∧ H' k = some (.lst us) ∧ Same H1 (delH H' k) ∧ ItL H (delH H' k) us xs ∧ V10.Runs xs c r ∧ V10.W xs ≤ f ∧ f ≤ 100000 ∧ ∀ x ∈ xs, shortA x.2.1 = true, ⟨V10.sz d, [.ref q], _, 0, ⟨_, _, _, _, rfl⟩, e2, s2, ItL.one (i1.same s2), gd, Nat.le_refl _, lm, fun x hx => by rw [List.mem_singleton.mp hx]; exact sh0⟩, ?_⟩
    rintro f σ H3 ⟨us, xs, c, ⟨o3, o4, o5, o6, rfl⟩, e3, s3, it, g, lw, lf, shs⟩
    by_cases em : us = []
    · subst em
      refine ⟨_, rfl, false, .inl ⟨_, sq_of e3, rfl⟩, iteF ⟨_, rfl, _, _, rfl, rfl, ?_⟩⟩
      obtain rfl : xs = [] := List.eq_nil_of_length_eq_zero it.len.symm
      have z : decide (((c : Nat) : Int) ≤ 500) = r := by
        rw [V10.runs_nil g]
        exact decide_eq_decide.mpr ⟨fun q => by omega, fun q => by omega⟩
      have y : Q (.bl (decide (((c : Nat) : Int) ≤ 500))) H3 := by
        rw [z]
        exact hQ H3 (s1.trans (s3.trans same_delH))
      exact y
    obtain ⟨us', v', ys, x, rfl, rfl, it', ix⟩ := it.last em
    obtain ⟨sx, dx, ax, ex⟩ := x
    have sh : shortA dx = true := shs (sx, dx, ax, ex) (List.mem_append_right _ List.mem_cons_self)
    have wl : V10.W ys + V10.sz dx ≤ f := by
      rw [V10.W_app] at lw
      have z : V10.W [(sx, dx, ax, ex)] = V10.sz dx := rfl
      omega
    refine ⟨_, rfl, true, .inl ⟨_, sq_of e3, by simp⟩, iteT ⟨fun σ' H' => ∃ m', m' < f ∧ _, fun _ _ h => h, ?_⟩⟩
    refine ⟨_, rfl, .inl ⟨rfl, _, sq_of e3⟩, k, us' ++ [v'], v', rfl, rfl, e3, by simp, ?_⟩
    rw [List.dropLast_concat]
    have e4 : upd H3 k (HO.lst us') k = some (.lst us') := upd_same
    have s4 : Same H1 (delH (upd H3 k (HO.lst us')) k) := by rw [delH_upd]; exact s3
    have it4 : ItL H (delH (upd H3 k (HO.lst us')) k) us' ys := by rw [delH_upd]; exact it'
    have ix4 : ItAt H (delH (upd H3 k (HO.lst us')) k) v' (sx, dx, ax, ex) := by rw [delH_upd]; exact ix
    generalize upd H3 k (HO.lst us') = H4 at e4 s4 it4 ix4 ⊢
    obtain ⟨t, u, rfl, et, qd⟩ := ix4
    refine ⟨t, _, rfl, st_of (same_delH _ _ et), rfl, _, _, rfl, _, _, rfl, _, _, rfl, _, _, rfl, rfl, ?_⟩
    refine ⟨_, rfl, _, rfl, _, rfl, _, rfl, u, dx, sx, ax, ex, rfl, Dx.same (s1.trans (s4.trans same_delH)) _ _ qd, sh, _, rfl, ?_⟩
    by_cases rr : rightOf sx dx ax ex = true
    case neg =>
      have rf := Bool.eq_false_iff.mpr rr
      rw [rf]
      obtain rfl := V10.runs_bad g rf
      exact iteT (hQ _ (s1.trans (s4.trans same_delH)))
    have gn := V10.runs_step g rr
    have wi := V10.W_inner rr
    have il : (innerOf sx dx ax ex).length ≤ 100000 := Nat.le_trans (V10.W_len _) (by omega)
    rw [rr]
    refine iteF ⟨fun σ H' => σ = [some v, some (.ref k), some (.int ((c + V6.cnt sx : Nat) : Int)), some (.str sx), some u, some (.int ((ax : Nat) : Int)), some (.int ((ex : Nat) : Int))] ∧ H' k = some (.lst us') ∧ Same H1 (delH H' k) ∧ ItL H (delH H' k) us' ys, ?_, ?_⟩
    · refine ⟨_, rfl, (by show 3 ≤ sizeLine; decide), fun r5 nr => ?_⟩
      have s45 := same_new (o := HO.tup [.str "statement", .str "e", .str "c"]) nr
      have e5 := s45 _ _ e4
      have s5 := s4.trans (same_del (a := k) s45)
      have it5 := it4.same (same_del (a := k) s45)
      have er : upd H4 r5 (HO.tup [.str "statement", .str "e", .str "c"]) r5 = some (.tup [.str "statement", .str "e", .str "c"]) := upd_same
      generalize upd H4 r5 (HO.tup [.str "statement", .str "e", .str "c"]) = H5 at e5 s5 er it5 ⊢
      refine ⟨r5, _, rfl, .inr (st_of er), rfl, by decide +kernel, _, rfl, ?_⟩
      rw [cnt_in]
      rcases cnt_01 sx with z | z
      · rw [z]
        exact iteF ⟨rfl, e5, s5, it5⟩
      · rw [z]
        exact iteT ⟨_, rfl, _, _, rfl, rfl, rfl, e5, s5, it5⟩
    · rintro σ H5 ⟨rfl, e5, s5, it5⟩
      have s15 : Same H H5 := s1.trans (s5.trans same_delH)
      refine ⟨_, rfl, .inl ⟨rfl, _, sq_of e5⟩, _, rfl, _, rfl, _, rfl, _, rfl, H, u, dx, sx, ax, ex, rfl, s15, qd, rr, il, fun H6 p us6 s6 np ep it6 => ?_⟩
      have e6 := s6 _ _ e5
      have pk : p ≠ k := fun z => by
        rw [z, e5] at np
        cases np
      have l1 := it5.len
      have l2 := it6.len
      have g1 := V10.W_len ys
      have g2 := V10.W_len (innerOf sx dx ax ex)
      have wa := V10.W_app ys (innerOf sx dx ax ex)
      refine ⟨k, p, us', us6, rfl, rfl, e6, ep, Nat.le_trans (by omega : us'.length + us6.length ≤ 100000) (by decide), V10.W (ys ++ innerOf sx dx ax ex), by omega, us' ++ us6, ys ++ innerOf sx dx ax ex, c + V6.cnt sx, ⟨_, _, _, _, rfl⟩, upd_same, ?_, ?_, gn, Nat.le_refl _, by omega, fun x hx => (List.mem_append.mp hx).elim (fun z => shs x (List.mem_append_left _ z)) (fun z => inner_short rr sh x z)⟩
      · rw [delH_upd]
        exact s5.trans (same_del s6)
      · rw [delH_upd]
        refine (it5.same (same_del s6)).app ⟨it6.len, fun i v x a b => ?_⟩
        obtain ⟨t', u', rfl, et', q'⟩ := it6.at_ i v x a b
        have h6 := same_delH _ _ et'
        refine ⟨t', u', rfl, ?_, q'⟩
        rw [delH_ne fun z => by rw [z, e6] at h6; cases h6]
        exact h6
theorem ok_pinit (T : Tx K w mg) : HasC P w K mg base (L2.CX P w) 6 "Program" ["self", "statements"] spPInit := by
  obtain ⟨fd, F⟩ := T.c.def_ 52 (d := d_Program__init__) rfl
  have Hpr := ok_prog (P := P) (w := w) (base := base) T
  have cS : Cls K (He.ga K "Program") := He.cls_ok (T.c.fact 89 rfl)
  have n1 : NoAttr K (He.ga K "Program") "statements" := He.noat_ok (T.c.fact 90 rfl)
  refine ⟨_, fd, He.mkr_ok (T.c.fact 91 rfl), F.ok scPInit (fun vs H Q E h => ?_) (fun cdv A outer s H vs Q E hr h => ?_), FunD.bindsN F fun _ _ _ _ _ _ us hl => match us, hl with | [_, _], _ => rfl, (T.glo 27 rfl)⟩
  · obtain ⟨p, dx, v, d, rfl, _⟩ := h
    rfl
  · refine ⟨_, (pss_cons (ps_if (pt_not (pt_val (pe_has Hpr (hr.mono (by decide)) pass0 (pa_cons (pv 1) pa_nil))))
 (pss_one (ps_raise rfl (takes_of rfl rfl rfl rfl) (pmk_mk0 PySem.F.excBase_ValueError (T.exq 86 rfl).1 (T.glo 8 rfl) (T.exq 86 rfl).2 (T.rai 86 rfl) (by rfl))))
 pss_nil)
 (pss_one (ps_fld (pv 0) (pv 1) (by rfl)))), ?_⟩
    obtain ⟨p, dx, v, d, rfl, hp, hd, sh, ln, q1, q2⟩ := h
    refine ⟨_, rfl, v, d, rfl, hd, sh, ln, fun H1 s1 => ⟨_, rfl, ?_⟩⟩
    cases hb : progB d with
    | false => exact iteT (q2 hb _ s1)
    | true =>
      refine iteF ⟨_, rfl, _, rfl, p, _, dx, [], rfl, s1 _ _ hp, cS, n1, (by show 0 < 1000; decide), q1 hb _ (fun b o ne e => ?_) upd_same⟩
      rw [upd_ne ne]
      exact s1 _ _ e
theorem ok_vinit (T : Tx K w mg) : HasC P w K mg base CX0 1 "Voice" ["self", "telling"] spVInit := by
  obtain ⟨fd, F⟩ := T.c.def_ 58 (d := d_Voice__init__) rfl
  have cS : Cls K (He.ga K "Voice") := He.cls_ok (T.c.fact 103 rfl)
  have n1 : NoAttr K (He.ga K "Voice") "telling" := He.noat_ok (T.c.fact 104 rfl)
  refine ⟨_, fd, He.mkr_ok (T.c.fact 105 rfl), F.ok scVInit (fun vs H Q E h => ?_) (fun cdv A outer s H vs Q E hr h => ?_), FunD.bindsN F fun _ _ _ _ _ _ us hl => match us, hl with | [_, _], _ => rfl, (T.glo 36 rfl)⟩
  · obtain ⟨p, dx, v, rfl, _⟩ := h
    rfl
  · refine ⟨_, PSs.nox (pss_one (ps_fld (pv 0) (pv 1) (by rfl))), ?_⟩
    obtain ⟨p, dx, v, rfl, hp, hQ⟩ := h
    refine ⟨_, rfl, _, rfl, p, _, dx, [], rfl, hp, cS, n1, (by show 0 < 1000; decide), hQ _ (fun b o ne e => ?_) upd_same⟩
    rw [upd_ne ne]
    exact e
end
end K07

set_option maxHeartbeats 4000000
/-! V6c: what bodies tell, statement by statement; the dict of the names. -/
namespace V6
open PySem PySem.Spec PyProof.Rows L2 V1 V2 V3
mutual
def St.nms : St → List Str
  | .say _ => []
  | .let_ n _ => [n]
  | .if_ _ a b => a.nms ++ b.nms
  | .each n b => n :: b.nms
def Bd.nms : Bd → List Str
  | .nil => []
  | .cons s b => s.nms ++ b.nms
end
def Bd.lst : Bd → List St
  | .nil => []
  | .cons s b => s :: b.lst
def runL (row : List Str) : List St → Mn → Option Str × Mn
  | [], m => (none, m)
  | s :: l, m => match s.run row m with
    | (some x, m') => (some x, m')
    | (none, m') => runL row l m'
theorem Bd.run_lst (row : List Str) : ∀ (b : Bd) (m : Mn), b.run row m = runL row b.lst m
  | .nil, m => by simp only [Bd.run, Bd.lst, runL]
  | .cons s b, m => by
    simp only [Bd.run, Bd.lst, runL]
    cases s.run row m with
    | mk o m' => cases o with
      | none => exact Bd.run_lst row b m'
      | some x => rfl
theorem Bd.ds_lst : ∀ b : Bd, b.ds = b.lst.map St.d
  | .nil => by simp only [Bd.ds, Bd.lst, List.map_nil]
  | .cons s b => by simp only [Bd.ds, Bd.lst, List.map_cons, Bd.ds_lst b]
theorem Bd.ok_lst : ∀ {b : Bd}, b.ok = true → ∀ s ∈ b.lst, s.ok = true
  | .nil, _, s, h => by simp only [Bd.lst] at h; exact absurd h List.not_mem_nil
  | .cons t b, ok, s, h => by
    simp only [Bd.ok, Bool.and_eq_true] at ok
    simp only [Bd.lst] at h
    rcases List.mem_cons.mp h with rfl | h
    · exact ok.1
    · exact Bd.ok_lst ok.2 s h
theorem Bd.deep_lst {n : Nat} : ∀ {b : Bd}, b.deep ≤ n → ∀ s ∈ b.lst, s.deep ≤ n
  | .nil, _, s, h => by simp only [Bd.lst] at h; exact absurd h List.not_mem_nil
  | .cons t b, dp, s, h => by
    simp only [Bd.deep] at dp
    simp only [Bd.lst] at h
    rcases List.mem_cons.mp h with rfl | h
    · omega
    · exact Bd.deep_lst (by omega) s h
theorem Bd.nms_lst : ∀ {b : Bd} {s : St}, s ∈ b.lst → ∀ n ∈ s.nms, n ∈ b.nms
  | .nil, s, h, _, _ => by simp only [Bd.lst] at h; exact absurd h List.not_mem_nil
  | .cons t b, s, h, n, hn => by
    simp only [Bd.lst] at h
    simp only [Bd.nms]
    rcases List.mem_cons.mp h with rfl | h
    · exact List.mem_append_left _ hn
    · exact List.mem_append_right _ (Bd.nms_lst h n hn)
theorem loopE_w {row : List Str} {f : Mn → Option Str × Mn} {n : Str} (hf : ∀ m, Wd row m → Wd row (f m).2 ∧ ∀ x, (f m).1 = some x → wordX x = true) : ∀ (ws : List Str) (m : Mn), (∀ w ∈ ws, wordX w = true) → Wd row m → Wd row (loopE f n ws m).2 ∧ ∀ x, (loopE f n ws m).1 = some x → wordX x = true
  | [], m, _, h => ⟨h, fun x e => by simp [loopE] at e⟩
  | w :: ws, m, hw, h => by
    have z := hf (putM m n w) (h.put (hw w List.mem_cons_self))
    unfold loopE
    cases e : f (putM m n w) with
    | mk o m' =>
      rw [e] at z
      cases o with
      | none => exact loopE_w hf ws m' (fun x hx => hw x (List.mem_cons_of_mem _ hx)) z.1
      | some x => exact z
mutual
theorem runS_w {row : List Str} : ∀ (s : St) (m : Mn), s.ok = true → Wd row m → Wd row (s.run row m).2 ∧ ∀ x, (s.run row m).1 = some x → wordX x = true
  | .say e, m, ok, h => by
    simp only [St.ok] at ok
    simp only [St.run]
    exact ⟨h, fun x q => by cases q; exact val_w h e ok⟩
  | .let_ n e, m, ok, h => by
    simp only [St.ok, Bool.and_eq_true] at ok
    simp only [St.run]
    exact ⟨h.put (val_w h e ok.2), fun x q => by cases q⟩
  | .if_ c a b, m, ok, h => by
    simp only [St.ok, Bool.and_eq_true] at ok
    simp only [St.run]
    split
    · exact runB_w a m ok.2.1 h
    · exact runB_w b m ok.2.2 h
  | .each n b, m, ok, h => by
    simp only [St.ok, Bool.and_eq_true] at ok
    simp only [St.run]
    exact loopE_w (fun m hm => runB_w b m ok.2 hm) row m h.ws h
theorem runB_w {row : List Str} : ∀ (b : Bd) (m : Mn), b.ok = true → Wd row m → Wd row (b.run row m).2 ∧ ∀ x, (b.run row m).1 = some x → wordX x = true
  | .nil, m, ok, h => by
    simp only [Bd.run]
    exact ⟨h, fun x q => by cases q⟩
  | .cons s b, m, ok, h => by
    simp only [Bd.ok, Bool.and_eq_true] at ok
    have z := runS_w s m ok.1 h
    simp only [Bd.run]
    cases e : s.run row m with
    | mk o m' =>
      rw [e] at z
      cases o with
      | none => exact runB_w b m' ok.2 z.1
      | some x => exact z
end
/-- the dict of the names -/
structure KM (kvs : List (Key × V)) (m : Mn) (L : List Str) : Prop where
  at_ : ∀ n : Str, valV kvs (.inr n) = (m n).map V.str
  nd : (kvs.map (·.1)).Nodup
  sub : ∀ p ∈ kvs, ∃ n ∈ L, p.1 = .inr n
theorem len_sub {α : Type} [DecidableEq α] : ∀ (l L : List α), l.Nodup → (∀ x ∈ l, x ∈ L) → l.length ≤ L.length
  | [], _, _, _ => Nat.zero_le _
  | x :: l, L, nd, sub => by
    have z := List.nodup_cons.mp nd
    have m := sub x List.mem_cons_self
    have y := len_sub l (L.erase x) z.2 fun y hy => by
      have ne : y ≠ x := fun q => z.1 (q ▸ hy)
      exact (List.mem_erase_of_ne ne).mpr (sub y (List.mem_cons_of_mem _ hy))
    rw [List.length_erase_of_mem m] at y
    have p : 0 < L.length := List.length_pos_of_mem m
    rw [List.length_cons]
    omega
theorem KM.len {kvs : List (Key × V)} {m : Mn} {L : List Str} (h : KM kvs m L) : kvs.length ≤ L.length := by
  have z := len_sub (kvs.map (·.1)) (L.map (Sum.inr : Str → Key)) h.nd fun k hk => by
    obtain ⟨p, hp, rfl⟩ := List.mem_map.mp hk
    obtain ⟨n, hn, e⟩ := h.sub p hp
    exact List.mem_map.mpr ⟨n, hn, e.symm⟩
  rw [List.length_map, List.length_map] at z
  exact z
theorem KM.nil (L : List Str) : KM [] (fun _ => none) L := ⟨fun _ => rfl, .nil, fun _ h => absurd h List.not_mem_nil⟩
theorem KM.put {kvs : List (Key × V)} {m : Mn} {L : List Str} (h : KM kvs m L) {n w : Str} (hn : n ∈ L) : KM (putK kvs (.inr n) (.str w)) (putM m n w) L := by
  refine ⟨fun k => ?_, ?_, fun p hp => ?_⟩
  · rw [valV_put, h.at_]
    unfold putM
    by_cases e : k = n
    · rw [if_pos e, if_pos (by rw [e])]
      rfl
    · rw [if_neg e, if_neg fun z => e (Sum.inr.inj z)]
  · unfold putK
    split
    · rw [List.map_map]
      have z : ((fun x : Key × V => x.1) ∘ fun kv : Key × V => if kv.1 = .inr n then (kv.1, V.str w) else kv) = fun x => x.1 := by
        funext x
        simp only [Function.comp]
        split <;> rfl
      rw [z]
      exact h.nd
    · rename_i no
      rw [List.map_append]
      refine List.nodup_append.mpr ⟨h.nd, by simp, fun x hx y hy e => no ?_⟩
      simp only [List.map_cons, List.map_nil, List.mem_singleton] at hy
      obtain ⟨q, hq, e2⟩ := List.mem_map.mp hx
      rw [List.any_eq_true]
      exact ⟨q, hq, decide_eq_true (e2.trans (e.trans hy))⟩
  · unfold putK at hp
    split at hp
    · obtain ⟨q, hq, rfl⟩ := List.mem_map.mp hp
      have := h.sub q hq
      split
      · exact this
      · exact this
    · rcases List.mem_append.mp hp with hp | hp
      · exact h.sub p hp
      · rw [List.mem_singleton.mp hp]
        exact ⟨n, hn, rfl⟩
def optV : Option Str → V
  | none => .non
  | some x => .str x
end V6

set_option maxHeartbeats 4000000
namespace K07
open PySem PySem.Spec PyProof.Rows L2 V1 V2 V3 V6 LamX NdefX
open Evl (pss_cut tCut sq_of st_of)
def nameL : List Str := ["a", "b", "a", "b", "x", "each", "join", "lasts"]
theorem name_ok : ∀ x ∈ nameL, nameX x = true := by decide +kernel
def letters : Str := "abcdefghijklmnopqrstuvwxyz"
def spLName : Sp := fun vs H Q _ => ∃ a, vs = [.ref a] ∧ HandAt H a ∧ ∀ H' x, Go a H H' → nameX x = true → Q (.str x) H'
theorem scLName : FnScope ["hand", "kind", "name", "k"] ["hand"] (defScope s__law_name) := ⟨rfl, rfl, rfl, by decide +kernel, rfl, by decide +kernel, by decide +kernel⟩
theorem join_one : ∀ cs : List Nat, Txt.join (Str.ofString "") (cs.map fun c => (⟨#[c]⟩ : Str)) = ⟨cs.toArray⟩ := by
  intro cs
  rw [TL.join_eq]
  induction cs with
  | nil => rfl
  | cons c cs ih =>
    cases cs with
    | nil => rfl
    | cons d cs =>
      show ((⟨#[c]⟩ : Str) ++ Str.ofString "" ++ Str.join (Str.ofString "") ((d :: cs).map fun c => (⟨#[c]⟩ : Str))) = _
      rw [ih]
      show (⟨#[c] ++ #[] ++ (d :: cs).toArray⟩ : Str) = _
      simp
theorem strs_dq (H : L2.Hp) : ∀ ys : List Str, DqAll H (ys.map V.str) (ys.map PyData.str)
  | [] => .nil
  | y :: ys => .cons (.str y) (strs_dq H ys)
def ltC (c : Nat) : Bool := (decide (c < 128) && Unicode.isAlpha c) && (Unicode.isLower c && !(Unicode.isUpper c || Unicode.isTitle c))
theorem letters_c : ∀ c ∈ letters.cps.toList, ltC c = true := by decide +kernel
theorem letters_ok {cs : List Nat} (h : ∀ c ∈ cs, ltC c = true) (l1 : 1 ≤ cs.length) (l8 : cs.length ≤ 8) : lettersX ⟨cs.toArray⟩ = true := by
  have h' : ∀ c ∈ cs, c < 128 ∧ Unicode.isAlpha c = true ∧ Unicode.isLower c = true ∧ (Unicode.isUpper c || Unicode.isTitle c) = false := fun c hc => by
    have := h c hc
    unfold ltC at this
    simp only [Bool.and_eq_true, decide_eq_true_eq, Bool.not_eq_true'] at this
    exact ⟨this.1.1, this.1.2, this.2.1, this.2.2⟩
  have ln : (⟨cs.toArray⟩ : Str).length = cs.length := by show cs.toArray.size = _; simp
  have e1 : Txt.isascii ⟨cs.toArray⟩ = true := by
    show cs.toArray.all (fun x => decide (x < 128)) = true
    rw [List.all_toArray, List.all_eq_true]
    exact fun c hc => decide_eq_true (h' c hc).1
  have e2 : Txt.isalpha ⟨cs.toArray⟩ = true := by
    show (decide ((⟨cs.toArray⟩ : Str).length > 0) && cs.toArray.all Unicode.isAlpha) = true
    rw [ln, decide_eq_true (by omega), Bool.true_and, List.all_toArray, List.all_eq_true]
    exact fun c hc => (h' c hc).2.1
  have e3 : Txt.islower ⟨cs.toArray⟩ = true := by
    show (cs.toArray.any Unicode.isLower && !cs.toArray.any fun c => Unicode.isUpper c || Unicode.isTitle c) = true
    have a1 : cs.toArray.any Unicode.isLower = true := by
      rw [List.any_toArray, List.any_eq_true]
      match cs, l1, h' with
      | c :: cs, _, h' => exact ⟨c, List.mem_cons_self, (h' c List.mem_cons_self).2.2.1⟩
    have a2 : (cs.toArray.any fun c => Unicode.isUpper c || Unicode.isTitle c) = false := by
      rw [List.any_toArray, List.any_eq_false]
      exact fun c hc => by rw [(h' c hc).2.2.2]; decide
    rw [a1, a2]
    rfl
  show ((decide (1 ≤ (⟨cs.toArray⟩ : Str).length) && decide ((⟨cs.toArray⟩ : Str).length ≤ 8)) && (Txt.isascii _ && (Txt.isalpha _ && Txt.islower _))) = true
  rw [e1, e2, e3, ln, decide_eq_true l1, decide_eq_true l8]
  rfl
theorem in_ml (s : Str) : (if false = true then !inV (V.str s) [V.str "many", V.str "last"] else inV (V.str s) [V.str "many", V.str "last"]) = decide (s ∈ [("many" : Str), "last"]) := by
  by_cases e1 : s = "many"
  · subst e1
    decide +kernel
  · by_cases e2 : s = "last"
    · subst e2
      decide +kernel
    · rw [decide_eq_false (fun h => by
        rcases List.mem_cons.mp h with h | h
        · exact e1 h
        · exact e2 (List.mem_singleton.mp h)), if_neg (by decide)]
      simp [inV, eqV, Ne.symm e1, Ne.symm e2]
theorem pick_letter {H : Hp} {a : Addr} {Q : VK} {E : XK} (hd : HandAt H a) (k : ∀ H2 z, HandAt H2 a → delH H2 a = delH H a → cellsOf H2 a = cellsOf H a → ltC z = true → Q (.str ⟨#[z]⟩) H2) : spSome [.ref a, .str letters] H Q E := by
  refine ⟨a, .str letters, _, rfl, hd, .inr ⟨letters, rfl, rfl⟩, (by decide +kernel), (by decide +kernel), fun H6 j v hd6 e6 c6 ev => ?_⟩
  rw [List.getElem?_map] at ev
  obtain ⟨z, hz, rfl⟩ := Option.map_eq_some_iff.mp ev
  exact k H6 z hd6 e6 c6 (letters_c z (List.mem_of_getElem? hz))
section
variable [CurK] {P : Program} {w : World} {mg : Str → Option Value} {base : Heap}
theorem ok_lname (T : Tx K w mg) : Has P w K mg base CX0 3 "_law_name" ["hand"] spLName := by
  obtain ⟨fd, F⟩ := T.c.def_ 25 (d := d__law_name) rfl
  have Hs := ok_some (P := P) (w := w) (base := base) T
  have Hd := ok_draw (P := P) (w := w) (base := base) T
  refine ⟨fd, F.ok scLName (fun vs H Q E h => ?_) (fun cdv A outer s H vs Q E hr h => ?_), FunD.bindsN F fun _ _ _ _ _ _ us hl => match us, hl with | [_], _ => rfl, F.kp, (T.glo 43 rfl)⟩
  · obtain ⟨a, rfl, _⟩ := h
    rfl
  · refine ⟨_, PSs.nox (pss_cons (ps_set (i := 1) scLName.nd rfl (Or.inl rfl) (pe_has Hd (hr.mono (by decide)) pass0 (pa_cons (pv 0) (pa_cons pe_int pa_nil))))
 (pss_cons (ps_if (pt_cmpR op_lt (pv 1) pe_int (nomark _))
 (pss_one (ps_ret (pe_ix ix_list (pe_lstS (pa_cons pe_str (pa_cons pe_str (pa_cons pe_str (pa_cons pe_str (pa_cons pe_str (pa_cons pe_str (pa_cons pe_str (pa_cons pe_str pa_nil))))))))) (pv 1) (fun _ _ => rfl))))
 pss_nil)
 (pss_cons (ps_set (i := 2) scLName.nd rfl (Or.inl rfl) (pe_join pe_str (pe_lc (own := [("k", 3)]) (g := gName 3) (tt := tYes) (te := tCall spSome [] (fun _ _ _ => False) (tCons (tVar 0) (tCons (tC (.str letters)) tNil))) (by rfl) scLName.nd (pi_range1 (by rfl) (T.free 79 rfl) (pa_cons (pe_op op_add pe_int (pe_has Hd (hr.mono (by decide)) pass0 (pa_cons (pv 0) (pa_cons pe_int pa_nil)))) pa_nil))
 (blkOk_by (own := [("k", 3)]) (N := ["hand", "kind", "name", "k"]) (sc := defScope s__law_name) (by decide +kernel)) (fun _ _ _ _ _ => pg_name (i := 3) scLName.nd rfl (Or.inl rfl)) (fun _ _ _ _ _ => pts_nil) (fun _ _ _ _ _ => (pe_has Hs (hr.mono (by decide)) pass0 (pa_cons (pv 0) (pa_cons pe_str pa_nil)))))))
 (pss_one (ps_ret (pe_ifExp (pt_cmpR op_in_seq (pv 2) (pe_lstS (pa_cons pe_str (pa_cons pe_str pa_nil))) (by rfl)) (pe_op op_add_str pe_str (pe_slice sl_str (pv 2) po_none (po_some pe_int))) (pv 2))))))), ?_⟩
    obtain ⟨a, rfl, hd, hQ⟩ := h
    refine ⟨_, rfl, a, 10, rfl, hd, by decide, by decide, fun H1 r hd1 e1 c1 r0 r1 => ?_⟩
    have g1 := Go.draw hd1 e1 c1
    obtain ⟨kd, rfl⟩ := Int.eq_ofNat_of_zero_le r0
    refine ⟨_, rfl, _, _, rfl, rfl, _, rfl, ite2 (fun e => ?_) (fun _ => ?_)⟩
    · have k8 : ((kd : Nat) : Int) < 8 := of_decide_eq_true e
      have il : kd < nameL.length := by show kd < 8; omega
      refine ⟨(by show 8 ≤ sizeLine; decide), fun q nq _ => ?_⟩
      have g2 := g1.trans (Go.new hd1 (same_new (o := HO.lst (nameL.map V.str)) nq))
      exact ⟨_, rfl, q, nameL.map V.str, _, .str nameL[kd], rfl, rfl, sq_of upd_same, atI_nat (by rw [List.getElem?_map, List.getElem?_eq_getElem il]; rfl), hQ _ _ g2 (name_ok _ (List.getElem_mem il))⟩
    · refine ⟨⟨_, rfl⟩, _, rfl, a, 8, rfl, hd1, by decide, by decide, fun H2 r2 hd2 e2 c2 q0 q1 => ?_⟩
      obtain ⟨m, rfl⟩ := Int.eq_ofNat_of_zero_le q0
      have g2 := g1.trans (Go.draw hd2 e2 c2)
      obtain ⟨c, cs, hce, nca, hc⟩ := hd2.cells
      refine ⟨_, _, rfl, rfl, _, rfl, by omega, by omega, fun D nD => ?_⟩
      rw [show ((1 : Int) + (m : Nat)).toNat = m + 1 by omega]
      have Da : D ≠ a := hd2.ne_new nD
      have cD : c ≠ D := fun z => by
        rw [← z, hc] at nD
        cases nD
      refine lc_gen (σ := [some (.ref a), some (.int ((kd : Nat) : Int)), none, none]) (vs := [3]) (walk_range (lo := 0) (n := m + 1)) nD (fun i acc H' => Go a H2 H' ∧ ∃ ys : List Nat, acc = (ys.map fun c => (⟨#[c]⟩ : Str)).map V.str ∧ ys.length = i ∧ ∀ y ∈ ys, ltC y = true) ⟨Go.refl hd2, [], rfl, rfl, fun _ h => absurd h List.not_mem_nil⟩ (fun _ _ _ _ _ => True.intro) ?_ ?_
      · rintro i acc x H4 H5 hi l e ⟨g4, ys, rfl, yl, hy⟩ ⟨rfl, rfl⟩
        refine ⟨rfl, ?_⟩
        simp only [tYes, if_true]
        refine ⟨_, rfl, pick_letter (E := fun _ _ _ => False) (hand_same g4.hd same_delH) fun H6 z hd6 e6 c6 zo => ?_⟩
        obtain ⟨g6, eD⟩ := g4.draw_in hce cD Da hd6 e6 c6
        exact lc_put l (by omega) (eD.trans e) ⟨g6, ys ++ [z], by rw [List.map_append, List.map_append]; rfl, by rw [List.length_append, yl]; rfl, fun y h => by
          rcases List.mem_append.mp h with h | h
          · exact hy y h
          · rw [List.mem_singleton.mp h]
            exact zo⟩
      · rintro acc H4 l e ⟨g4, ys, rfl, yl, hy⟩
        have lx := letters_ok hy (by omega) (by omega)
        have g5 := g2.trans (g4.undel Da)
        refine ⟨_, D, ys.map fun c => (⟨#[c]⟩ : Str), rfl, rfl, .inl (sq_of e), ?_, ?_⟩
        · rw [sum_one fun y h => by obtain ⟨c, _, rfl⟩ := List.mem_map.mp h; rfl, List.length_map, show (Str.ofString "").length = 0 from rfl]
          omega
        · rw [join_one]
          generalize (⟨ys.toArray⟩ : Str) = nm at lx ⊢
          refine ⟨_, rfl, (by show 2 ≤ sizeLine; decide), fun q nq _ => ⟨q, [.str "many", .str "last"], rfl, .inl (sq_of upd_same), rfl, rfl, _, rfl, ?_⟩⟩
          have g6 := g5.trans (Go.new g5.hd (same_new (o := HO.lst [.str "many", .str "last"]) nq))
          rw [in_ml]
          refine ite2 (fun e => ?_) (fun e => ?_)
          · have e' := of_decide_eq_true e
            simp only [List.mem_cons, List.not_mem_nil, or_false] at e'
            rcases e' with rfl | rfl
            · exact ⟨_, rfl, 1, rfl, _, rfl, (by decide), _, _, rfl, rfl, (by decide), hQ _ _ g6 (by decide +kernel)⟩
            · exact ⟨_, rfl, 1, rfl, _, rfl, (by decide), _, _, rfl, rfl, (by decide), hQ _ _ g6 (by decide +kernel)⟩
          · refine ⟨_, rfl, hQ _ _ g6 ?_⟩
            unfold nameX
            rw [lx]
            simpa using e
end
end K07

set_option maxHeartbeats 4000000
namespace K07
open PySem PySem.Spec PyProof.Rows L2 V1 V2 V3 V6 LamX NdefX
open Evl (pss_cut tCut sq_of st_of)
/-- the hand, the room's list, the pool of words -/
structure RmAt (H : L2.Hp) (a rm pl : Addr) (k : Int) (ws : List Str) : Prop where
  hd : HandAt H a
  rmA : H rm = some (.lst [.int k])
  ra : rm ≠ a
  rc : cellsOf H a ≠ some (.ref rm)
  plA : H pl = some (.lst (ws.map V.str))
  pa : pl ≠ a
  pr : pl ≠ rm
/-- all but the hand and the room stays -/
structure Go2 (a rm : Addr) (H H' : L2.Hp) : Prop where
  ce : cellsOf H' a = cellsOf H a
  sm : Same (delH (delH H rm) a) (delH (delH H' rm) a)
section
variable {H H' H2 : L2.Hp} {a rm pl : Addr} {k k' : Int} {ws : List Str}
theorem Go2.refl : Go2 a rm H H := ⟨rfl, Same.refl _⟩
theorem Go2.trans (g : Go2 a rm H H') (g' : Go2 a rm H' H2) : Go2 a rm H H2 := ⟨g'.ce.trans g.ce, g.sm.trans g'.sm⟩
theorem go2_keep {b : Addr} {o : HO} (g : Go a H H') (ne : b ≠ a) (e : H b = some o) : H' b = some o := by
  have y := g.at_ (b := b) (o := o) (by rw [delH_ne ne]; exact e)
  rw [delH_ne ne] at y
  exact y
theorem Go2.of (g : Go a H H') : Go2 a rm H H' := ⟨g.ce, by
  rw [del_comm (a := rm) (f := a), del_comm (a := rm) (f := a)]
  exact same_del g.sm⟩
theorem RmAt.go (h : RmAt H a rm pl k ws) (g : Go a H H') : RmAt H' a rm pl k ws := ⟨g.hd, go2_keep g h.ra h.rmA, h.ra, by rw [g.ce]; exact h.rc, go2_keep g h.pa h.plA, h.pa, h.pr⟩
theorem RmAt.put (h : RmAt H a rm pl k ws) (k' : Int) : RmAt (upd H rm (.lst [.int k'])) a rm pl k' ws ∧ Go2 a rm H (upd H rm (.lst [.int k'])) := by
  obtain ⟨c, cs, i1, i2, i3, i4, e1, e2, p⟩ := h.hd.ex
  have ca : c ≠ a := fun z => by
    rw [z, delH_same] at e2
    cases e2
  have cr : c ≠ rm := fun z => h.rc (by rw [cellsOf_at e1, z])
  have e1' : upd H rm (.lst [.int k']) a = some (.lst [.ref c, .int i1, .int i2, .int i3, .int i4]) := by rw [upd_ne (Ne.symm h.ra)]; exact e1
  have ce : cellsOf (upd H rm (.lst [.int k'])) a = cellsOf H a := (cellsOf_at e1').trans (cellsOf_at e1).symm
  refine ⟨⟨⟨c, cs, i1, i2, i3, i4, e1', ?_, p⟩, upd_same, h.ra, by rw [ce]; exact h.rc, by rw [upd_ne h.pr]; exact h.plA, h.pa, h.pr⟩, ce, by rw [delH_upd]; exact Same.refl _⟩
  rw [delH_ne ca, upd_ne cr]
  rw [delH_ne ca] at e2
  exact e2
theorem RmAt.of2 (h : RmAt H a rm pl k ws) (g : Go2 a rm H H') (hd : HandAt H' a) (e : H' rm = some (.lst [.int k'])) : RmAt H' a rm pl k' ws := by
  refine ⟨hd, e, h.ra, by rw [g.ce]; exact h.rc, ?_, h.pa, h.pr⟩
  have z := g.sm pl _ (by rw [delH_ne h.pa, delH_ne h.pr]; exact h.plA)
  rw [delH_ne h.pa, delH_ne h.pr] at z
  exact z
end
def off2 (H : L2.Hp) (a rm : Addr) : L2.Hp := delH (delH H rm) a
def spE : Nat → Sp
  | 0 => fun _ _ _ _ => False
  | n + 1 => fun vs H Q _ => ∃ a pl rm k dp ws, vs = [.ref a, .ref pl, .ref rm, .int ((dp : Nat) : Int)] ∧ RmAt H a rm pl k ws ∧ 0 < ws.length ∧ ws.length < 1000 ∧ (∀ x ∈ ws, wordX x = true) ∧ 1 ≤ dp ∧ dp ≤ n + 1 ∧
    ∀ H' v (x : Ex) k', RmAt H' a rm pl k' ws → Go2 a rm H H' → Dq (off2 H' a rm) v x.d → x.ok = true → x.deep ≤ dp → k' = k - x.cnt → (k ≤ 1 → k' = k - 1) → min k 1 - dp ≤ k' → Q v H'
theorem e_of {n : Nat} {H : L2.Hp} {a pl rm : Addr} {k : Int} {dp : Nat} {ws : List Str} {z : V} {Q : VK} {E : XK} (ez : z = .int ((dp : Nat) : Int)) (R : RmAt H a rm pl k ws) (l0 : 0 < ws.length) (l1 : ws.length < 1000) (ww : ∀ x ∈ ws, wordX x = true) (d1 : 1 ≤ dp) (d2 : dp ≤ n)
    (hQ : ∀ H' v (x : Ex) k', RmAt H' a rm pl k' ws → Go2 a rm H H' → Dq (off2 H' a rm) v x.d → x.ok = true → x.deep ≤ dp → k' = k - x.cnt → (k ≤ 1 → k' = k - 1) → min k 1 - dp ≤ k' → Q v H') : spE n [.ref a, .ref pl, .ref rm, z] H Q E := by
  subst ez
  cases n with
  | zero => omega
  | succ n => exact ⟨a, pl, rm, k, dp, ws, rfl, R, l0, l1, ww, d1, d2, hQ⟩
theorem and3 {K : PySem.W.Frag} {σ : L2.St} {H : L2.Hp} {rm : Addr} {k c : Int} {dp kd : Nat} {Q : Bool → L2.Hp → Prop} (h2 : σ[2]? = some (some (.ref rm))) (h3 : σ[3]? = some (some (.int ((dp : Nat) : Int)))) (h4 : σ[4]? = some (some (.int ((kd : Nat) : Int)))) (hr : H rm = some (.lst [.int k])) (q : Q (decide (0 < k) && (decide (1 < dp) && decide (((kd : Nat) : Int) < c))) H) :
    tAnd (tTest (tOp (rI0 fun i j => .bl (decide (i > j))) (tOp (rIxL K) (tVar 2) (tC (.int 0))) (tC (.int 0)))) (tAnd (tTest (tOp (rI0 fun i j => .bl (decide (i > j))) (tVar 3) (tC (.int 1)))) (tTest (tOp (rI0 fun i j => .bl (decide (i < j))) (tVar 4) (tC (.int c))))) σ H Q := by
  refine ⟨_, h2, rm, _, _, _, rfl, rfl, sq_of hr, rfl, _, _, rfl, rfl, _, rfl, ?_⟩
  by_cases p1 : 0 < k
  · rw [decide_eq_true p1, Bool.true_and] at q
    rw [show decide (k > 0) = true from decide_eq_true p1]
    refine iteT ⟨_, h3, _, _, rfl, rfl, _, rfl, ?_⟩
    by_cases p2 : 1 < dp
    · rw [decide_eq_true p2, Bool.true_and] at q
      rw [show decide (((dp : Nat) : Int) > 1) = true from decide_eq_true (by omega)]
      exact iteT ⟨_, h4, _, _, rfl, rfl, _, rfl, q⟩
    · rw [decide_eq_false p2, Bool.false_and] at q
      rw [show decide (((dp : Nat) : Int) > 1) = false from decide_eq_false (by omega)]
      exact iteF q
  · rw [decide_eq_false p1, Bool.false_and] at q
    rw [show decide (k > 0) = false from decide_eq_false p1]
    exact iteF q
theorem scE : FnScope ["hand", "pool", "room", "deep", "kind", "first"] ["hand", "pool", "room", "deep"] (defScope s__law_e) := ⟨rfl, rfl, rfl, by decide +kernel, rfl, by decide +kernel, by decide +kernel⟩
section
variable [CurK] {P : Program} {w : World} {mg : Str → Option Value} {base : Heap}
theorem ok_e (T : Tx K w mg) : ∀ n : Nat, Has P w K mg base CX0 (n + 4) "_law_e" ["hand", "pool", "room", "deep"] (spE n)
  | 0 => by
    obtain ⟨fd, F⟩ := T.c.def_ 26 (d := d__law_e) rfl
    exact ⟨fd, ⟨fun _ _ _ _ h => h.elim, fun _ _ _ _ _ _ _ _ _ _ _ _ _ h => h.elim⟩, FunD.bindsN F fun _ _ _ _ _ _ us hl => match us, hl with | [_, _, _, _], _ => rfl, F.kp, (T.glo 44 rfl)⟩
  | n + 1 => by
    obtain ⟨fd, F⟩ := T.c.def_ 26 (d := d__law_e) rfl
    have Hr := ok_e T n
    have Hs := ok_some (P := P) (w := w) (base := base) T
    have Hd := ok_draw (P := P) (w := w) (base := base) T
    have Hn := ok_lname (P := P) (w := w) (base := base) T
    refine ⟨fd, F.ok scE (fun vs H Q E h => ?_) (fun cdv A outer s H vs Q E hr h => ?_), FunD.bindsN F fun _ _ _ _ _ _ us hl => match us, hl with | [_, _, _, _], _ => rfl, F.kp, (T.glo 44 rfl)⟩
    · obtain ⟨a, pl, rm, k, dp, ws, rfl, _⟩ := h
      rfl
    · refine ⟨_, PSs.nox (pss_cons (ps_asg (pe_op op_sub (pe_ix ix_list (pv 2) pe_int (fun _ _ => rfl)) pe_int) (pg_sub (pv 2) pe_int set_list))
 (pss_cons (ps_set (i := 4) scE.nd rfl (Or.inl rfl) (pe_has Hd (hr.mono (by omega)) pass0 (pa_cons (pv 0) (pa_cons pe_int pa_nil))))
 (pss_cons (ps_if (PW.pt (pw_and (pt_cmpR op_gt (pe_ix ix_list (pv 2) pe_int (fun _ _ => rfl)) pe_int (nomark _)) (pw_and (pt_cmpR op_gt (pv 3) pe_int (nomark _)) (pw_and1 (pt_cmpR op_lt (pv 4) pe_int (nomark _))))))
 (pss_cons (ps_set (i := 5) scE.nd rfl (Or.inl rfl) (pe_has Hr (hr.mono (by omega)) pass0 (pa_cons (pv 0) (pa_cons (pv 1) (pa_cons (pv 2) (pa_cons (pe_op op_sub (pv 3) pe_int) pa_nil))))))
 (pss_one (ps_ret (pe_tup (pa_cons pe_str (pa_cons (pv 5) (pa_cons (pe_has Hr (hr.mono (by omega)) pass0 (pa_cons (pv 0) (pa_cons (pv 1) (pa_cons (pv 2) (pa_cons (pe_op op_sub (pv 3) pe_int) pa_nil))))) pa_nil)))))))
 pss_nil)
 (pss_cons (ps_if (PW.pt (pw_and (pt_cmpR op_gt (pe_ix ix_list (pv 2) pe_int (fun _ _ => rfl)) pe_int (nomark _)) (pw_and (pt_cmpR op_gt (pv 3) pe_int (nomark _)) (pw_and1 (pt_cmpR op_lt (pv 4) pe_int (nomark _))))))
 (pss_one (ps_ret (pe_tup (pa_cons (pe_ix ix_list (pe_lstS (pa_cons pe_str (pa_cons pe_str (pa_cons pe_str pa_nil)))) (pe_op op_sub (pv 4) pe_int) (fun _ _ => rfl)) (pa_cons (pe_has Hr (hr.mono (by omega)) pass0 (pa_cons (pv 0) (pa_cons (pv 1) (pa_cons (pv 2) (pa_cons (pe_op op_sub (pv 3) pe_int) pa_nil))))) pa_nil)))))
 pss_nil)
 (pss_cons (ps_if (pt_cmpR op_eq (pv 4) pe_int (nomark _))
 (pss_one (ps_ret (pe_tup (pa_cons pe_str pa_nil))))
 pss_nil)
 (pss_cons (ps_if (PW.pt (pw_or (pt_cmpR op_gt (pv 4) pe_int (nomark _)) (pw_or1 (pt_chain op_lt op_lt pe_int (pv 4) pe_int))))
 (pss_one (ps_ret (pe_tup (pa_cons pe_str pa_nil))))
 pss_nil)
 (pss_cons (ps_if (PW.pt (pw_or (pt_cmpR op_gt (pv 4) pe_int (nomark _)) (pw_or1 (pt_cmpR op_lt (pv 4) pe_int (nomark _)))))
 (pss_one (ps_ret (pe_tup (pa_cons pe_str (pa_cons (pe_has Hs (hr.mono (by omega)) pass0 (pa_cons (pv 0) (pa_cons (pv 1) pa_nil))) pa_nil)))))
 pss_nil)
 (pss_one (ps_ret (pe_tup (pa_cons pe_str (pa_cons (pe_has Hn (hr.mono (by omega)) pass0 (pa_cons (pv 0) pa_nil)) pa_nil)))))))))))), ?_⟩
      obtain ⟨a, pl, rm, k, dp, ws, rfl, R, l0, l1, ww, d1, d2, hQ⟩ := h
      refine ⟨_, rfl, rm, _, _, _, rfl, rfl, sq_of R.rmA, rfl, _, _, rfl, rfl, _, rfl, rm, [.int k], _, 0, rfl, rfl, R.rmA, rfl, ?_⟩
      obtain ⟨R1, g1⟩ := R.put (k - 1)
      show tSeq _ _ _ _ (upd H rm (.lst [.int (k - 1)]))
      generalize upd H rm (.lst [.int (k - 1)]) = H1 at R1 g1 ⊢
      refine ⟨_, rfl, a, 14, rfl, R1.hd, by decide, by decide, fun H2 n2 hd2 e2 c2 q0 q1 => ?_⟩
      have g2a := Go.draw hd2 e2 c2
      have R2 := R1.go g2a
      have g2 := g1.trans (Go2.of (rm := rm) g2a)
      obtain ⟨kd, rfl⟩ := Int.eq_ofNat_of_zero_le q0
      clear e2 c2 q0 g2a R1 g1
      refine and3 rfl rfl rfl R2.rmA ?_
      refine ite2 (fun e => ?_) (fun e3 => ?_)
      · simp only [Bool.and_eq_true, decide_eq_true_eq] at e
        obtain ⟨p1, p2, _⟩ := e
        have ed : ((dp : Nat) : Int) - 1 = ((dp - 1 : Nat) : Int) := by omega
        refine ⟨_, rfl, _, rfl, _, rfl, _, rfl, _, _, rfl, rfl, e_of (dp := dp - 1) (congrArg V.int ed) R2 l0 l1 ww (by omega) (by omega) fun H3 v1 x1 k1 R3 g3 dq1 o1 dd1 kk1 ss1 mm1 => ?_⟩
        refine ⟨_, rfl, _, rfl, _, rfl, _, rfl, _, rfl, _, _, rfl, rfl, e_of (dp := dp - 1) (congrArg V.int ed) R3 l0 l1 ww (by omega) (by omega) fun H4 v2 x2 k2 R4 g4 dq2 o2 dd2 kk2 ss2 mm2 => ⟨(by show 3 ≤ sizeLine; decide), fun t nt => ?_⟩⟩
        have gn := Go.new R4.hd (same_new (o := HO.tup [.str (Str.ofString "join"), v1, v2]) nt)
        have ta := R4.hd.ne_new nt
        have tr : t ≠ rm := fun z => by rw [z, R4.rmA] at nt; cases nt
        have gm := (Go2.of (rm := rm) gn).sm
        refine hQ _ _ (.join x1 x2) k2 (R4.go gn) (g2.trans (g3.trans (g4.trans (Go2.of gn)))) (.tup ?_ (.cons (.str _) (.cons (Dq.same (g4.sm.trans gm) _ _ dq1) (.cons (Dq.same gm _ _ dq2) .nil)))) (by simp [Ex.ok, o1, o2]) (by simp only [Ex.deep]; omega) (by simp only [Ex.cnt]; omega) (by omega) (by omega)
        show delH (delH _ rm) a t = _
        rw [delH_ne ta, delH_ne tr]
        exact upd_same
      refine and3 rfl rfl rfl R2.rmA ?_
      refine ite2 (fun e => ?_) (fun e6 => ?_)
      · simp only [Bool.and_eq_true, decide_eq_true_eq] at e
        obtain ⟨p1, p2, p6⟩ := e
        have p3 : 3 ≤ kd := by
          by_cases z : 3 ≤ kd
          · exact z
          · exact absurd (by simp only [Bool.and_eq_true, decide_eq_true_eq]; exact ⟨p1, p2, by omega⟩) e3
        have ed : ((dp : Nat) : Int) - 1 = ((dp - 1 : Nat) : Int) := by omega
        obtain ⟨f, nm, at_, fd, fo, fp, fc⟩ : ∃ (f : Ex → Ex) (nm : Str), atI [V.str (Str.ofString "turn"), .str (Str.ofString "rest"), .str (Str.ofString "first")] (((kd : Nat) : Int) - 3) = some (.str nm) ∧ (∀ x, (f x).d = .tuple [.str nm, x.d]) ∧ (∀ x, (f x).ok = x.ok) ∧ (∀ x, (f x).deep = 1 + x.deep) ∧ ∀ x, (f x).cnt = 1 + x.cnt := by
          have ks : kd = 3 ∨ kd = 4 ∨ kd = 5 := by omega
          rcases ks with rfl | rfl | rfl
          · exact ⟨.turn, _, rfl, fun _ => rfl, fun _ => rfl, fun _ => rfl, fun _ => rfl⟩
          · exact ⟨.rest, _, rfl, fun _ => rfl, fun _ => rfl, fun _ => rfl, fun _ => rfl⟩
          · exact ⟨.first, _, rfl, fun _ => rfl, fun _ => rfl, fun _ => rfl, fun _ => rfl⟩
        refine ⟨(by show 3 ≤ sizeLine; decide), fun q nq _ => ⟨_, rfl, _, _, rfl, rfl, q, _, _, _, rfl, rfl, sq_of upd_same, at_, ?_⟩⟩
        have gq := Go.new R2.hd (same_new (o := HO.lst [V.str (Str.ofString "turn"), .str (Str.ofString "rest"), .str (Str.ofString "first")]) nq)
        have Rq := R2.go gq
        refine ⟨_, rfl, _, rfl, _, rfl, _, rfl, _, _, rfl, rfl, e_of (dp := dp - 1) (congrArg V.int ed) Rq l0 l1 ww (by omega) (by omega) fun H3 v1 x1 k1 R3 g3 dq1 o1 dd1 kk1 ss1 mm1 => ⟨(by show 2 ≤ sizeLine; decide), fun t nt => ?_⟩⟩
        have gn := Go.new R3.hd (same_new (o := HO.tup [.str nm, v1]) nt)
        have ta := R3.hd.ne_new nt
        have tr : t ≠ rm := fun z => by rw [z, R3.rmA] at nt; cases nt
        have gm := (Go2.of (rm := rm) gn).sm
        refine hQ _ _ (f x1) k1 (R3.go gn) (g2.trans ((Go2.of gq).trans (g3.trans (Go2.of gn)))) ?_ (by rw [fo]; exact o1) (by rw [fp]; omega) (by rw [fc]; omega) (by omega) (by omega)
        rw [fd]
        refine .tup ?_ (.cons (.str _) (.cons (Dq.same gm _ _ dq1) .nil))
        show delH (delH _ rm) a t = _
        rw [delH_ne ta, delH_ne tr]
        exact upd_same
      have leaf : ∀ H' v (x : Ex), Go a H2 H' → Dq (off2 H' a rm) v x.d → x.ok = true → x.deep = 1 → x.cnt = 1 → Q v H' := fun H' v x g dq o1 o2 o3 => hQ H' v x (k - 1) (R2.go g) (g2.trans (Go2.of g)) dq o1 (by omega) (by rw [o3]; rfl) (fun _ => rfl) (by omega)
      have tl : ∀ H3, Go a H2 H3 → ∀ (ss : List Str) (x : Ex), x.d = .tuple (ss.map PyData.str) → x.ok = true → x.deep = 1 → x.cnt = 1 → ∀ t, H3 t = none → Q (.ref t) (upd H3 t (.tup (ss.map V.str))) := fun H3 g ss x ed o1 o2 o3 t nt => by
        have R3 := R2.go g
        have ta := R3.hd.ne_new nt
        have tr : t ≠ rm := fun z => by rw [z, R3.rmA] at nt; cases nt
        refine leaf _ _ x (g.trans (Go.new g.hd (same_new nt))) ?_ o1 o2 o3
        rw [ed]
        refine .tup ?_ (strs_dq _ _)
        show delH (delH _ rm) a t = _
        rw [delH_ne ta, delH_ne tr]
        exact upd_same
      have gr := Go.refl R2.hd
      refine ⟨_, rfl, rfl, _, rfl, ite2 (fun _ => ?_) (fun _ => ?_)⟩
      · exact ⟨(by show 1 ≤ sizeLine; decide), fun t nt => tl H2 gr [Str.ofString "many"] .many rfl rfl rfl rfl t nt⟩
      have some_ok : ∀ {Q' : VK}, (∀ H3 x, Go a H2 H3 → wordX x = true → Q' (.str x) H3) → spSome [.ref a, .ref pl] H2 Q' (fun _ _ _ => False) := fun k => by
        refine ⟨a, .ref pl, ws.map V.str, rfl, R2.hd, .inl ⟨pl, rfl, R2.pa, .inl R2.plA⟩, by rw [List.length_map]; exact l0, by rw [List.length_map]; exact l1, fun H3 i v hd3 e3 c3 ev => ?_⟩
        rw [List.getElem?_map] at ev
        obtain ⟨x, hx, rfl⟩ := Option.map_eq_some_iff.mp ev
        exact k H3 x (Go.draw hd3 e3 c3) (ww x (List.mem_of_getElem? hx))
      refine ⟨_, rfl, _, _, rfl, rfl, _, rfl, ite2 (fun _ => iteT ?_) (fun _ => ?_)⟩
      · exact ⟨(by show 1 ≤ sizeLine; decide), fun t nt => tl H2 gr [Str.ofString "last"] .last rfl rfl rfl rfl t nt⟩
      refine ⟨_, rfl, _, _, rfl, rfl, _, rfl, ite2 (fun _ => ⟨_, _, rfl, rfl, _, rfl, ite2 (fun _ => ?_) (fun _ => ?_)⟩) (fun _ => ⟨_, rfl, iteF ?_⟩)⟩
      · exact ⟨(by show 1 ≤ sizeLine; decide), fun t nt => tl H2 gr [Str.ofString "last"] .last rfl rfl rfl rfl t nt⟩
      · refine ⟨_, rfl, _, _, rfl, rfl, _, rfl, ite2 (fun _ => iteT ?_) (fun _ => ?_)⟩
        · exact ⟨_, rfl, _, rfl, some_ok fun H3 x g hw => ⟨(by show 2 ≤ sizeLine; decide), fun t nt => tl H3 g [Str.ofString "text", x] (.text x) rfl hw rfl rfl t nt⟩⟩
        refine ⟨_, rfl, _, _, rfl, rfl, _, rfl, ite2 (fun _ => ?_) (fun _ => ?_)⟩
        · exact ⟨_, rfl, _, rfl, some_ok fun H3 x g hw => ⟨(by show 2 ≤ sizeLine; decide), fun t nt => tl H3 g [Str.ofString "text", x] (.text x) rfl hw rfl rfl t nt⟩⟩
        exact ⟨_, rfl, a, rfl, R2.hd, fun H3 x g nx => ⟨(by show 2 ≤ sizeLine; decide), fun t nt => tl H3 g [Str.ofString "name", x] (.name x) rfl nx rfl rfl t nt⟩⟩
      · refine ⟨_, rfl, _, _, rfl, rfl, _, rfl, ite2 (fun _ => iteT ?_) (fun _ => ?_)⟩
        · exact ⟨_, rfl, _, rfl, some_ok fun H3 x g hw => ⟨(by show 2 ≤ sizeLine; decide), fun t nt => tl H3 g [Str.ofString "text", x] (.text x) rfl hw rfl rfl t nt⟩⟩
        refine ⟨_, rfl, _, _, rfl, rfl, _, rfl, ite2 (fun _ => ?_) (fun _ => ?_)⟩
        · exact ⟨_, rfl, _, rfl, some_ok fun H3 x g hw => ⟨(by show 2 ≤ sizeLine; decide), fun t nt => tl H3 g [Str.ofString "text", x] (.text x) rfl hw rfl rfl t nt⟩⟩
        exact ⟨_, rfl, a, rfl, R2.hd, fun H3 x g nx => ⟨(by show 2 ≤ sizeLine; decide), fun t nt => tl H3 g [Str.ofString "name", x] (.name x) rfl nx rfl rfl t nt⟩⟩
end
end K07

set_option maxHeartbeats 4000000
namespace K07
open PySem PySem.Spec PyProof.Rows L2 V1 V2 V3 V6 LamX NdefX
open Evl (pss_cut tCut sq_of st_of)
def spC : Nat → Sp
  | 0 => fun _ _ _ _ => False
  | n + 1 => fun vs H Q _ => ∃ a pl rm k dp ws, vs = [.ref a, .ref pl, .ref rm, .int ((dp : Nat) : Int)] ∧ RmAt H a rm pl k ws ∧ 0 < ws.length ∧ ws.length < 1000 ∧ (∀ x ∈ ws, wordX x = true) ∧ 2 ≤ dp ∧ dp ≤ n + 1 ∧
    ∀ H' v (x : Cn) k', RmAt H' a rm pl k' ws → Go2 a rm H H' → Dq (off2 H' a rm) v x.d → x.ok = true → x.deep ≤ dp → k' = k - x.cnt → min k 1 - dp - 1 ≤ k' → Q v H'
theorem c_of {n : Nat} {H : L2.Hp} {a pl rm : Addr} {k : Int} {dp : Nat} {ws : List Str} {z : V} {Q : VK} {E : XK} (ez : z = .int ((dp : Nat) : Int)) (R : RmAt H a rm pl k ws) (l0 : 0 < ws.length) (l1 : ws.length < 1000) (ww : ∀ x ∈ ws, wordX x = true) (d1 : 2 ≤ dp) (d2 : dp ≤ n)
    (hQ : ∀ H' v (x : Cn) k', RmAt H' a rm pl k' ws → Go2 a rm H H' → Dq (off2 H' a rm) v x.d → x.ok = true → x.deep ≤ dp → k' = k - x.cnt → min k 1 - dp - 1 ≤ k' → Q v H') : spC n [.ref a, .ref pl, .ref rm, z] H Q E := by
  subst ez
  cases n with
  | zero => omega
  | succ n => exact ⟨a, pl, rm, k, dp, ws, rfl, R, l0, l1, ww, d1, d2, hQ⟩
theorem and3c {K : PySem.W.Frag} {σ : L2.St} {H : L2.Hp} {rm : Addr} {k c c' : Int} {dp kd : Nat} {Q : Bool → L2.Hp → Prop} (h2 : σ[2]? = some (some (.ref rm))) (h3 : σ[3]? = some (some (.int ((dp : Nat) : Int)))) (h4 : σ[4]? = some (some (.int ((kd : Nat) : Int)))) (hr : H rm = some (.lst [.int k])) (q : Q (decide (((kd : Nat) : Int) < c) && (decide (0 < k) && decide (c' < ((dp : Nat) : Int)))) H) :
    tAnd (tTest (tOp (rI0 fun i j => .bl (decide (i < j))) (tVar 4) (tC (.int c)))) (tAnd (tTest (tOp (rI0 fun i j => .bl (decide (i > j))) (tOp (rIxL K) (tVar 2) (tC (.int 0))) (tC (.int 0)))) (tTest (tOp (rI0 fun i j => .bl (decide (i > j))) (tVar 3) (tC (.int c'))))) σ H Q := by
  refine ⟨_, h4, _, _, rfl, rfl, _, rfl, ?_⟩
  by_cases p1 : ((kd : Nat) : Int) < c
  · rw [decide_eq_true p1, Bool.true_and] at q
    rw [decide_eq_true p1]
    refine iteT ⟨_, h2, rm, _, _, _, rfl, rfl, sq_of hr, rfl, _, _, rfl, rfl, _, rfl, ?_⟩
    by_cases p2 : 0 < k
    · rw [decide_eq_true p2, Bool.true_and] at q
      rw [show decide (k > 0) = true from decide_eq_true p2]
      exact iteT ⟨_, h3, _, _, rfl, rfl, _, rfl, q⟩
    · rw [decide_eq_false p2, Bool.false_and] at q
      rw [show decide (k > 0) = false from decide_eq_false p2]
      exact iteF q
  · rw [decide_eq_false p1, Bool.false_and] at q
    rw [decide_eq_false p1]
    exact iteF q
theorem scC : FnScope ["hand", "pool", "room", "deep", "kind", "first"] ["hand", "pool", "room", "deep"] (defScope s__law_c) := ⟨rfl, rfl, rfl, by decide +kernel, rfl, by decide +kernel, by decide +kernel⟩
section
variable [CurK] {P : Program} {w : World} {mg : Str → Option Value} {base : Heap}
theorem ok_c (T : Tx K w mg) : ∀ n : Nat, Has P w K mg base CX0 (n + 5) "_law_c" ["hand", "pool", "room", "deep"] (spC n)
  | 0 => by
    obtain ⟨fd, F⟩ := T.c.def_ 27 (d := d__law_c) rfl
    exact ⟨fd, ⟨fun _ _ _ _ h => h.elim, fun _ _ _ _ _ _ _ _ _ _ _ _ _ h => h.elim⟩, FunD.bindsN F fun _ _ _ _ _ _ us hl => match us, hl with | [_, _, _, _], _ => rfl, F.kp, (T.glo 45 rfl)⟩
  | n + 1 => by
    obtain ⟨fd, F⟩ := T.c.def_ 27 (d := d__law_c) rfl
    have Hr := ok_c T n
    have He := ok_e (P := P) (w := w) (base := base) T n
    have Hs := ok_some (P := P) (w := w) (base := base) T
    have Hd := ok_draw (P := P) (w := w) (base := base) T
    refine ⟨fd, F.ok scC (fun vs H Q E h => ?_) (fun cdv A outer s H vs Q E hr h => ?_), FunD.bindsN F fun _ _ _ _ _ _ us hl => match us, hl with | [_, _, _, _], _ => rfl, F.kp, (T.glo 45 rfl)⟩
    · obtain ⟨a, pl, rm, k, dp, ws, rfl, _⟩ := h
      rfl
    · refine ⟨_, PSs.nox (pss_cons (ps_asg (pe_op op_sub (pe_ix ix_list (pv 2) pe_int (fun _ _ => rfl)) pe_int) (pg_sub (pv 2) pe_int set_list))
 (pss_cons (ps_set (i := 4) scC.nd rfl (Or.inl rfl) (pe_has Hd (hr.mono (by omega)) pass0 (pa_cons (pv 0) (pa_cons pe_int pa_nil))))
 (pss_cons (ps_if (PW.pt (pw_and (pt_cmpR op_lt (pv 4) pe_int (nomark _)) (pw_and (pt_cmpR op_gt (pe_ix ix_list (pv 2) pe_int (fun _ _ => rfl)) pe_int (nomark _)) (pw_and1 (pt_cmpR op_gt (pv 3) pe_int (nomark _))))))
 (pss_one (ps_ret (pe_tup (pa_cons pe_str (pa_cons (pe_has Hr (hr.mono (by omega)) pass0 (pa_cons (pv 0) (pa_cons (pv 1) (pa_cons (pv 2) (pa_cons (pe_op op_sub (pv 3) pe_int) pa_nil))))) pa_nil)))))
 pss_nil)
 (pss_cons (ps_set (i := 5) scC.nd rfl (Or.inl rfl) (pe_has He (hr.mono (by omega)) pass0 (pa_cons (pv 0) (pa_cons (pv 1) (pa_cons (pv 2) (pa_cons (pe_op op_sub (pv 3) pe_int) pa_nil))))))
 (pss_one (ps_ret (pe_tup (pa_cons (pe_has Hs (hr.mono (by omega)) pass0 (pa_cons (pv 0) (pa_cons (pe_lstS (pa_cons pe_str (pa_cons pe_str (pa_cons pe_str pa_nil)))) pa_nil))) (pa_cons (pv 5) (pa_cons (pe_has He (hr.mono (by omega)) pass0 (pa_cons (pv 0) (pa_cons (pv 1) (pa_cons (pv 2) (pa_cons (pe_op op_sub (pv 3) pe_int) pa_nil))))) pa_nil)))))))))), ?_⟩
      obtain ⟨a, pl, rm, k, dp, ws, rfl, R, l0, l1, ww, d1, d2, hQ⟩ := h
      refine ⟨_, rfl, rm, _, _, _, rfl, rfl, sq_of R.rmA, rfl, _, _, rfl, rfl, _, rfl, rm, [.int k], _, 0, rfl, rfl, R.rmA, rfl, ?_⟩
      obtain ⟨R1, g1⟩ := R.put (k - 1)
      show tSeq _ _ _ _ (upd H rm (.lst [.int (k - 1)]))
      generalize upd H rm (.lst [.int (k - 1)]) = H1 at R1 g1 ⊢
      refine ⟨_, rfl, a, 8, rfl, R1.hd, by decide, by decide, fun H2 n2 hd2 e2 c2 q0 q1 => ?_⟩
      have g2a := Go.draw hd2 e2 c2
      have R2 := R1.go g2a
      have g2 := g1.trans (Go2.of (rm := rm) g2a)
      obtain ⟨kd, rfl⟩ := Int.eq_ofNat_of_zero_le q0
      clear e2 c2 q0 g2a R1 g1
      have ed : ((dp : Nat) : Int) - 1 = ((dp - 1 : Nat) : Int) := by omega
      refine and3c rfl rfl rfl R2.rmA ?_
      refine ite2 (fun e => ?_) (fun e3 => ?_)
      · simp only [Bool.and_eq_true, decide_eq_true_eq] at e
        obtain ⟨_, p1, p2⟩ := e
        refine ⟨_, rfl, _, rfl, _, rfl, _, rfl, _, _, rfl, rfl, c_of (dp := dp - 1) (congrArg V.int ed) R2 l0 l1 ww (by omega) (by omega) fun H3 v1 x1 k1 R3 g3 dq1 o1 dd1 kk1 mm1 => ⟨(by show 2 ≤ sizeLine; decide), fun t nt => ?_⟩⟩
        have gn := Go.new R3.hd (same_new (o := HO.tup [.str (Str.ofString "not"), v1]) nt)
        have ta := R3.hd.ne_new nt
        have tr : t ≠ rm := fun z => by rw [z, R3.rmA] at nt; cases nt
        have gm := (Go2.of (rm := rm) gn).sm
        refine hQ _ _ (.not x1) k1 (R3.go gn) (g2.trans (g3.trans (Go2.of gn))) ?_ o1 (by simp only [Cn.deep]; omega) (by simp only [Cn.cnt]; omega) (by omega)
        refine .tup ?_ (.cons (.str _) (.cons (Dq.same gm _ _ dq1) .nil))
        show delH (delH _ rm) a t = _
        rw [delH_ne ta, delH_ne tr]
        exact upd_same
      · refine ⟨_, rfl, _, rfl, _, rfl, _, rfl, _, _, rfl, rfl, e_of (dp := dp - 1) (congrArg V.int ed) R2 l0 l1 ww (by omega) (by omega) fun H3 v1 x1 k1 R3 g3 dq1 o1 dd1 kk1 ss1 mm1 => ?_⟩
        refine ⟨_, rfl, (by show 3 ≤ sizeLine; decide), fun q nq _ => ?_⟩
        have gq := Go.new R3.hd (same_new (o := HO.lst ([Str.ofString "same", Str.ofString "ahead", Str.ofString "in"].map V.str)) nq)
        have Rq := R3.go gq
        refine ⟨a, .ref q, [Str.ofString "same", Str.ofString "ahead", Str.ofString "in"].map V.str, rfl, Rq.hd, .inl ⟨q, rfl, R3.hd.ne_new nq, .inl upd_same⟩, by decide, by decide, fun H4 i v4 hd4 e4 c4 ev => ?_⟩
        rw [List.getElem?_map] at ev
        obtain ⟨nm, hnm, rfl⟩ := Option.map_eq_some_iff.mp ev
        have g4 := Go.draw hd4 e4 c4
        have R4 := Rq.go g4
        have gg := (Go2.of (rm := rm) gq).trans (Go2.of g4)
        obtain ⟨f, fd, fo, fp, fc⟩ : ∃ (f : Ex → Ex → Cn), (∀ x y, (f x y).d = .tuple [.str nm, x.d, y.d]) ∧ (∀ x y, (f x y).ok = (x.ok && y.ok)) ∧ (∀ x y, (f x y).deep = 1 + max x.deep y.deep) ∧ ∀ x y, (f x y).cnt = 1 + x.cnt + y.cnt := by
          have mm := List.mem_of_getElem? hnm
          simp only [List.mem_cons, List.not_mem_nil, or_false] at mm
          rcases mm with rfl | rfl | rfl
          · exact ⟨.same, fun _ _ => rfl, fun _ _ => rfl, fun _ _ => rfl, fun _ _ => rfl⟩
          · exact ⟨.ahead, fun _ _ => rfl, fun _ _ => rfl, fun _ _ => rfl, fun _ _ => rfl⟩
          · exact ⟨.inn, fun _ _ => rfl, fun _ _ => rfl, fun _ _ => rfl, fun _ _ => rfl⟩
        refine ⟨_, rfl, _, rfl, _, rfl, _, rfl, _, rfl, _, _, rfl, rfl, e_of (dp := dp - 1) (congrArg V.int ed) R4 l0 l1 ww (by omega) (by omega) fun H5 v2 x2 k2 R5 g5 dq2 o2 dd2 kk2 ss2 mm2 => ⟨(by show 3 ≤ sizeLine; decide), fun t nt => ?_⟩⟩
        have gn := Go.new R5.hd (same_new (o := HO.tup [.str nm, v1, v2]) nt)
        have ta := R5.hd.ne_new nt
        have tr : t ≠ rm := fun z => by rw [z, R5.rmA] at nt; cases nt
        have gm := (Go2.of (rm := rm) gn).sm
        refine hQ _ _ (f x1 x2) k2 (R5.go gn) (g2.trans (g3.trans (gg.trans (g5.trans (Go2.of gn))))) ?_ (by rw [fo, o1, o2]; rfl) (by rw [fp]; omega) (by rw [fc]; omega) (by omega)
        rw [fd]
        refine .tup ?_ (.cons (.str _) (.cons (Dq.same (gg.sm.trans (g5.sm.trans gm)) _ _ dq1) (.cons (Dq.same gm _ _ dq2) .nil)))
        show delH (delH _ rm) a t = _
        rw [delH_ne ta, delH_ne tr]
        exact upd_same
end
end K07

set_option maxHeartbeats 4000000
namespace K07
open PySem PySem.Spec PyProof.Rows L2 V1 V2 V3 V6 LamX NdefX
open Evl (pss_cut tCut sq_of st_of)
/-- a body of these statements -/
def bdOf : List V6.St → Bd
  | [] => .nil
  | s :: l => .cons s (bdOf l)
def cntL (l : List V6.St) : Nat := (l.map V6.St.cnt).sum
theorem bdOf_ds : ∀ l : List V6.St, (bdOf l).ds = l.map V6.St.d
  | [] => by simp only [bdOf, Bd.ds, List.map_nil]
  | s :: l => by simp only [bdOf, Bd.ds, List.map_cons, bdOf_ds l]
theorem bdOf_ok : ∀ {l : List V6.St}, (∀ s ∈ l, s.ok = true) → (bdOf l).ok = true
  | [], _ => by simp only [bdOf, Bd.ok]
  | s :: l, h => by simp only [bdOf, Bd.ok, h s List.mem_cons_self, bdOf_ok fun x hx => h x (List.mem_cons_of_mem _ hx), Bool.and_self]
theorem bdOf_deep {n : Nat} : ∀ {l : List V6.St}, (∀ s ∈ l, s.deep ≤ n) → (bdOf l).deep ≤ n
  | [], _ => by simp only [bdOf, Bd.deep]; omega
  | s :: l, h => by
    simp only [bdOf, Bd.deep]
    have h1 := h s List.mem_cons_self
    have h2 := bdOf_deep (n := n) fun x hx => h x (List.mem_cons_of_mem s hx)
    omega
theorem bdOf_lps {n : Nat} : ∀ {l : List V6.St}, (∀ s ∈ l, s.lps ≤ n) → (bdOf l).lps ≤ n
  | [], _ => by simp only [bdOf, Bd.lps]; omega
  | s :: l, h => by
    simp only [bdOf, Bd.lps]
    have h1 := h s List.mem_cons_self
    have h2 := bdOf_lps (n := n) fun x hx => h x (List.mem_cons_of_mem s hx)
    omega
theorem bdOf_cnt : ∀ l : List V6.St, (bdOf l).cnt = cntL l
  | [] => by simp only [bdOf, Bd.cnt, cntL, List.map_nil, List.sum_nil]
  | s :: l => by
    simp only [bdOf, Bd.cnt, bdOf_cnt l, cntL, List.map_cons, List.sum_cons]
theorem cntL_snoc (l : List V6.St) (s : V6.St) : cntL (l ++ [s]) = cntL l + s.cnt := by
  simp [cntL]
mutual
theorem nms_cntS : ∀ s : V6.St, s.nms.length ≤ s.cnt
  | .say e => by simp [V6.St.nms]
  | .let_ n e => by simp only [V6.St.nms, V6.St.cnt, List.length_cons, List.length_nil]; omega
  | .if_ c a b => by
    have h1 := nms_cntB a
    have h2 := nms_cntB b
    simp only [V6.St.nms, V6.St.cnt, List.length_append]
    omega
  | .each n b => by
    have h1 := nms_cntB b
    simp only [V6.St.nms, V6.St.cnt, List.length_cons]
    omega
theorem nms_cntB : ∀ b : Bd, b.nms.length ≤ b.cnt
  | .nil => by simp [Bd.nms]
  | .cons s b => by
    have h1 := nms_cntS s
    have h2 := nms_cntB b
    simp only [Bd.nms, Bd.cnt, List.length_append]
    omega
end
end K07

set_option maxHeartbeats 4000000
namespace K07
open PySem PySem.Spec PyProof.Rows L2 V1 V2 V3 V6 LamX NdefX
open Evl (pss_cut tCut sq_of st_of)
def spS : Nat → Sp
  | 0 => fun _ _ _ _ => False
  | n + 1 => fun vs H Q _ => ∃ a pl rm k dp lo ws, vs = [.ref a, .ref pl, .ref rm, .int ((dp : Nat) : Int), .int ((lo : Nat) : Int)] ∧ RmAt H a rm pl k ws ∧ 0 < ws.length ∧ ws.length < 1000 ∧ (∀ x ∈ ws, wordX x = true) ∧ 2 ≤ dp ∧ dp ≤ n + 1 ∧
    ∀ H' v (x : V6.St) k', RmAt H' a rm pl k' ws → Go2 a rm H H' → Dq (off2 H' a rm) v x.d → x.ok = true → x.deep ≤ dp → x.lps ≤ lo → k' = k - x.cnt → min k 1 - dp - 2 ≤ k' → Q v H'
def spB (n : Nat) : Sp := fun vs H Q _ => ∃ a pl rm k dp lo ws, vs = [.ref a, .ref pl, .ref rm, .int ((dp : Nat) : Int), .int ((lo : Nat) : Int)] ∧ RmAt H a rm pl k ws ∧ 0 < ws.length ∧ ws.length < 1000 ∧ (∀ x ∈ ws, wordX x = true) ∧ 1 ≤ dp ∧ dp ≤ n ∧
    ∀ H' v (l : List V6.St) k', RmAt H' a rm pl k' ws → Go2 a rm H H' → Dq (off2 H' a rm) v (.tuple (l.map V6.St.d)) → (∀ s ∈ l, s.ok = true ∧ s.deep ≤ dp ∧ s.lps ≤ lo) → k' = k - cntL l → min k (-1 - dp) ≤ k' → Q v H'
theorem s_of {n : Nat} {H : L2.Hp} {a pl rm : Addr} {k : Int} {dp lo : Nat} {ws : List Str} {Q : VK} {E : XK} (R : RmAt H a rm pl k ws) (l0 : 0 < ws.length) (l1 : ws.length < 1000) (ww : ∀ x ∈ ws, wordX x = true) (d1 : 2 ≤ dp) (d2 : dp ≤ n)
    (hQ : ∀ H' v (x : V6.St) k', RmAt H' a rm pl k' ws → Go2 a rm H H' → Dq (off2 H' a rm) v x.d → x.ok = true → x.deep ≤ dp → x.lps ≤ lo → k' = k - x.cnt → min k 1 - dp - 2 ≤ k' → Q v H') : spS n [.ref a, .ref pl, .ref rm, .int ((dp : Nat) : Int), .int ((lo : Nat) : Int)] H Q E := by
  cases n with
  | zero => omega
  | succ n => exact ⟨a, pl, rm, k, dp, lo, ws, rfl, R, l0, l1, ww, d1, d2, hQ⟩
theorem scB : FnScope ["hand", "pool", "room", "deep", "loops", "found", "k"] ["hand", "pool", "room", "deep", "loops"] (defScope s__law_body) := ⟨rfl, rfl, rfl, by decide +kernel, rfl, by decide +kernel, by decide +kernel⟩
section
variable [CurK] {P : Program} {w : World} {mg : Str → Option Value} {base : Heap}
theorem ok_body (T : Tx K w mg) (n : Nat) (H1 : Has P w K mg base CX0 (2 * n + 7) "_law_statement" ["hand", "pool", "room", "deep", "loops"] (spS n)) : Has P w K mg base CX0 (2 * n + 8) "_law_body" ["hand", "pool", "room", "deep", "loops"] (spB n) := by
  obtain ⟨fd, F⟩ := T.c.def_ 29 (d := d__law_body) rfl
  have Hd := ok_draw (P := P) (w := w) (base := base) T
  refine ⟨fd, F.ok scB (fun vs H Q E h => ?_) (fun cdv A outer s H vs Q E hr h => ?_), FunD.bindsN F fun _ _ _ _ _ _ us hl => match us, hl with | [_, _, _, _, _], _ => rfl, F.kp, (T.glo 47 rfl)⟩
  · obtain ⟨a, pl, rm, k, dp, lo, ws, rfl, _⟩ := h
    rfl
  · refine ⟨_, PSs.nox (pss_cons (ps_set (i := 5) scB.nd rfl (Or.inl rfl) (pe_tup pa_nil))
 (pss_cons (ps_for PassesOwn.never rfl (pi_range1 (by rfl) (T.free 79 rfl) (pa_cons (pe_has Hd (hr.mono (by omega)) pass0 (pa_cons (pv 0) (pa_cons pe_int pa_nil))) pa_nil)) (pg_name (i := 6) scB.nd rfl (Or.inl rfl))
 (pss_one (ps_if (PW.pt (pw_and (pt_cmpR op_gt (pe_ix ix_list (pv 2) pe_int (fun _ _ => rfl)) pe_int (nomark _)) (pw_and1 (pt_cmpR op_gt (pv 3) pe_int (nomark _)))))
 (pss_one (ps_set (i := 5) scB.nd rfl (Or.inl rfl) (pe_op op_catA (pv 5) (pe_tup (pa_cons (pe_has H1 (hr.mono (by omega)) pass0 (pa_cons (pv 0) (pa_cons (pv 1) (pa_cons (pv 2) (pa_cons (pv 3) (pa_cons (pv 4) pa_nil)))))) pa_nil)))))
 pss_nil)))
 (pss_one (ps_ret (pv 5))))), ?_⟩
    obtain ⟨a, pl, rm, k, dp, lo, ws, rfl, R, l0, l1, ww, d1, d2, hQ⟩ := h
    refine ⟨(by show 0 ≤ sizeLine; decide), fun f nf => ?_⟩
    have sf := same_new (o := HO.tup []) nf
    have ef : upd H f (HO.tup []) f = some (.tup []) := upd_same
    have gf := Go.new R.hd sf
    have fa := R.hd.ne_new nf
    have fr : f ≠ rm := fun z => by rw [z, R.rmA] at nf; cases nf
    generalize upd H f (HO.tup []) = H1' at sf ef gf
    have R1 := R.go gf
    have offAt : ∀ {G : Hp} {t : Addr} {o : HO}, t ≠ a → t ≠ rm → G t = some o → off2 G a rm t = some o := fun ta tr e => by
      show delH (delH _ rm) a _ = _
      rw [delH_ne ta, delH_ne tr]
      exact e
    refine ⟨_, rfl, a, 5, rfl, R1.hd, by decide, by decide, fun H2 r2 hd2 e2 c2 q0 q1 => ?_⟩
    have g2a := Go.draw hd2 e2 c2
    have R2 := R1.go g2a
    have g2 := (Go2.of (rm := rm) gf).trans (Go2.of g2a)
    have ef2 := go2_keep g2a fa ef
    obtain ⟨m, rfl⟩ := Int.eq_ofNat_of_zero_le q0
    clear e2 c2 q0 g2a sf ef gf
    refine ⟨_, rfl, by omega, by omega, ?_⟩
    rw [Int.toNat_natCast]
    refine for_it (walk_range (lo := 0) (n := m)) (fun i σ H' => ∃ f o6 k' l us, σ = [some (.ref a), some (.ref pl), some (.ref rm), some (.int ((dp : Nat) : Int)), some (.int ((lo : Nat) : Int)), some (.ref f), o6] ∧ RmAt H' a rm pl k' ws ∧ Go2 a rm H H' ∧ off2 H' a rm f = some (.tup us) ∧ DqAll (off2 H' a rm) us (l.map V6.St.d) ∧ (∀ s ∈ l, s.ok = true ∧ s.deep ≤ dp ∧ s.lps ≤ lo) ∧ k' = k - cntL l ∧ min k (-1 - dp) ≤ k' ∧ l.length ≤ i)
      ⟨f, _, k, [], [], rfl, R2, g2, offAt fa fr ef2, .nil, fun s h => absurd h List.not_mem_nil, by simp [cntL], by omega, Nat.le_refl _⟩ (fun _ _ _ _ _ => True.intro) ?_ ?_
    · rintro i x σ H3 H4 hi ⟨f, o6, k', l, us, rfl, R3, g3, e3, dq3, hl, kk, kb, ll⟩ ⟨rfl, rfl⟩
      refine ⟨_, rfl, rm, _, _, _, rfl, rfl, sq_of R3.rmA, rfl, _, _, rfl, rfl, _, rfl, ite2 (fun e => ?_) (fun _ => iteF ?_)⟩
      · have p1 : 0 < k' := of_decide_eq_true e
        refine ⟨_, rfl, _, _, rfl, rfl, _, rfl, ite2 (fun e => ?_) (fun _ => ?_)⟩
        · have p2 : 1 < dp := by
            have := of_decide_eq_true e
            omega
          refine ⟨_, rfl, _, rfl, _, rfl, _, rfl, _, rfl, _, rfl, s_of R3 l0 l1 ww p2 d2 fun H5 v s k5 R5 g5 dq5 o5 dd5 lp5 kk5 mm5 => ⟨(by show 1 ≤ sizeLine; decide), fun t nt => ?_⟩⟩
          have s6 := same_new (o := HO.tup [v]) nt
          have gn6 := Go.new R5.hd s6
          have ta := R5.hd.ne_new nt
          have tr : t ≠ rm := fun z => by rw [z, R5.rmA] at nt; cases nt
          have et := offAt ta tr (upd_same : upd H5 t (HO.tup [v]) t = some (.tup [v]))
          have R6 := R5.go gn6
          have gm6 := g5.trans (Go2.of (rm := rm) gn6)
          have gm6' := (Go2.of (rm := rm) gn6).sm
          generalize upd H5 t (HO.tup [v]) = H6 at s6 gn6 et R6 gm6 gm6'
          have e6 := gm6.sm _ _ e3
          have dq6 : DqAll (off2 H6 a rm) (us ++ [v]) ((l ++ [s]).map V6.St.d) := by
            rw [List.map_append]
            exact DqAll.app (DqAll.same gm6.sm _ _ dq3) (.cons (Dq.same gm6' _ _ dq5) .nil)
          have lu : us.length = l.length := by
            have z := dqAll_len dq3
            rw [List.length_map] at z
            exact z
          have hl' : ∀ x ∈ l ++ [s], x.ok = true ∧ x.deep ≤ dp ∧ x.lps ≤ lo := fun x hx => by
            rcases List.mem_append.mp hx with z | z
            · exact hl x z
            · rw [List.mem_singleton.mp z]
              exact ⟨o5, dd5, lp5⟩
          have kk' : k5 = k - cntL (l ++ [s]) := by rw [cntL_snoc]; omega
          have ll' : (l ++ [s]).length ≤ i + 1 := by rw [List.length_append]; simp only [List.length_cons, List.length_nil]; omega
          refine ⟨f, t, us, [v], rfl, rfl, st_of (same_delH _ _ (same_delH _ _ e6)), st_of (same_delH _ _ (same_delH _ _ et)), Nat.le_trans (by simp only [List.length_cons, List.length_nil]; omega : us.length + ([v] : List V).length ≤ 1000) (by decide), fun z => ?_, fun _ z => absurd z (by simp), fun nx _ c nc => ?_⟩
          · subst z
            exact ⟨t, _, k5, l ++ [s], [v], rfl, R6, g3.trans gm6, et, dq6, hl', kk', by omega, ll'⟩
          · have s7 := same_new (o := HO.tup (us ++ [v])) nc
            have gn7 := Go.new R6.hd s7
            have ca := R6.hd.ne_new nc
            have cr : c ≠ rm := fun z => by rw [z, R6.rmA] at nc; cases nc
            exact ⟨c, _, k5, l ++ [s], us ++ [v], rfl, R6.go gn7, g3.trans (gm6.trans (Go2.of gn7)), offAt ca cr upd_same, DqAll.same (Go2.of (rm := rm) gn7).sm _ _ dq6, hl', kk', by omega, ll'⟩
        · exact ⟨f, _, k', l, us, rfl, R3, g3, e3, dq3, hl, kk, kb, by omega⟩
      · exact ⟨f, _, k', l, us, rfl, R3, g3, e3, dq3, hl, kk, kb, by omega⟩
    · rintro σ H3 ⟨f, o6, k', l, us, rfl, R3, g3, e3, dq3, hl, kk, kb, ll⟩
      exact ⟨_, rfl, hQ H3 _ l k' R3 g3 (.tup e3 dq3) hl kk kb⟩
end
end K07

set_option maxHeartbeats 4000000
namespace K07
open PySem PySem.Spec PyProof.Rows L2 V1 V2 V3 V6 LamX NdefX
open Evl (pss_cut tCut sq_of st_of)
theorem b_of {n : Nat} {H : L2.Hp} {a pl rm : Addr} {k : Int} {dp lo : Nat} {ws : List Str} {z z' : V} {Q : VK} {E : XK} (ez : z = .int ((dp : Nat) : Int)) (ez' : z' = .int ((lo : Nat) : Int)) (R : RmAt H a rm pl k ws) (l0 : 0 < ws.length) (l1 : ws.length < 1000) (ww : ∀ x ∈ ws, wordX x = true) (d1 : 1 ≤ dp) (d2 : dp ≤ n)
    (hQ : ∀ H' v (x : Bd) k', RmAt H' a rm pl k' ws → Go2 a rm H H' → Dq (off2 H' a rm) v (.tuple x.ds) → x.ok = true → x.deep ≤ dp → x.lps ≤ lo → k' = k - x.cnt → min k (-1 - dp) ≤ k' → Q v H') : spB n [.ref a, .ref pl, .ref rm, z, z'] H Q E := by
  subst ez ez'
  exact ⟨a, pl, rm, k, dp, lo, ws, rfl, R, l0, l1, ww, d1, d2, fun H' v l k' R' g dq hl kk kb => hQ H' v (bdOf l) k' R' g (by rw [bdOf_ds]; exact dq) (bdOf_ok fun s m => (hl s m).1) (bdOf_deep fun s m => (hl s m).2.1) (bdOf_lps fun s m => (hl s m).2.2) (by rw [bdOf_cnt]; exact kk) kb⟩
theorem and3g {K : PySem.W.Frag} {σ : L2.St} {H : L2.Hp} {rm : Addr} {k c c' : Int} {dp kd j : Nat} {Q : Bool → L2.Hp → Prop} (h2 : σ[2]? = some (some (.ref rm))) (h3 : σ[j]? = some (some (.int ((dp : Nat) : Int)))) (h5 : σ[5]? = some (some (.int ((kd : Nat) : Int)))) (hr : H rm = some (.lst [.int k])) (q : Q (decide (((kd : Nat) : Int) < c) && (decide (0 < k) && decide (c' < ((dp : Nat) : Int)))) H) :
    tAnd (tTest (tOp (rI0 fun i j => .bl (decide (i < j))) (tVar 5) (tC (.int c)))) (tAnd (tTest (tOp (rI0 fun i j => .bl (decide (i > j))) (tOp (rIxL K) (tVar 2) (tC (.int 0))) (tC (.int 0)))) (tTest (tOp (rI0 fun i j => .bl (decide (i > j))) (tVar j) (tC (.int c'))))) σ H Q := by
  refine ⟨_, h5, _, _, rfl, rfl, _, rfl, ?_⟩
  by_cases p1 : ((kd : Nat) : Int) < c
  · rw [decide_eq_true p1, Bool.true_and] at q
    rw [decide_eq_true p1]
    refine iteT ⟨_, h2, rm, _, _, _, rfl, rfl, sq_of hr, rfl, _, _, rfl, rfl, _, rfl, ?_⟩
    by_cases p2 : 0 < k
    · rw [decide_eq_true p2, Bool.true_and] at q
      rw [show decide (k > 0) = true from decide_eq_true p2]
      exact iteT ⟨_, h3, _, _, rfl, rfl, _, rfl, q⟩
    · rw [decide_eq_false p2, Bool.false_and] at q
      rw [show decide (k > 0) = false from decide_eq_false p2]
      exact iteF q
  · rw [decide_eq_false p1, Bool.false_and] at q
    rw [decide_eq_false p1]
    exact iteF q
theorem scS : FnScope ["hand", "pool", "room", "deep", "loops", "kind", "test", "body", "name"] ["hand", "pool", "room", "deep", "loops"] (defScope s__law_statement) := ⟨rfl, rfl, rfl, by decide +kernel, rfl, by decide +kernel, by decide +kernel⟩
section
variable [CurK] {P : Program} {w : World} {mg : Str → Option Value} {base : Heap}
theorem ok_stmt (T : Tx K w mg) (n : Nat) (Hb : Has P w K mg base CX0 (2 * n + 8) "_law_body" ["hand", "pool", "room", "deep", "loops"] (spB n)) : Has P w K mg base CX0 (2 * n + 9) "_law_statement" ["hand", "pool", "room", "deep", "loops"] (spS (n + 1)) := by
  obtain ⟨fd, F⟩ := T.c.def_ 28 (d := d__law_statement) rfl
  have Hc := ok_c (P := P) (w := w) (base := base) T n
  have He := ok_e (P := P) (w := w) (base := base) T n
  have Hn := ok_lname (P := P) (w := w) (base := base) T
  have Hd := ok_draw (P := P) (w := w) (base := base) T
  refine ⟨fd, F.ok scS (fun vs H Q E h => ?_) (fun cdv A outer s H vs Q E hr h => ?_), FunD.bindsN F fun _ _ _ _ _ _ us hl => match us, hl with | [_, _, _, _, _], _ => rfl, F.kp, (T.glo 46 rfl)⟩
  · obtain ⟨a, pl, rm, k, dp, lo, ws, rfl, _⟩ := h
    rfl
  · refine ⟨_, PSs.nox (pss_cons (ps_asg (pe_op op_sub (pe_ix ix_list (pv 2) pe_int (fun _ _ => rfl)) pe_int) (pg_sub (pv 2) pe_int set_list))
 (pss_cons (ps_set (i := 5) scS.nd rfl (Or.inl rfl) (pe_has Hd (hr.mono (by omega)) pass0 (pa_cons (pv 0) (pa_cons pe_int pa_nil))))
 (pss_cons (ps_if (PW.pt (pw_and (pt_cmpR op_lt (pv 5) pe_int (nomark _)) (pw_and (pt_cmpR op_gt (pe_ix ix_list (pv 2) pe_int (fun _ _ => rfl)) pe_int (nomark _)) (pw_and1 (pt_cmpR op_gt (pv 3) pe_int (nomark _))))))
 (pss_cons (ps_set (i := 6) scS.nd rfl (Or.inl rfl) (pe_has Hc (hr.mono (by omega)) pass0 (pa_cons (pv 0) (pa_cons (pv 1) (pa_cons (pv 2) (pa_cons (pe_op op_sub (pv 3) pe_int) pa_nil))))))
 (pss_cons (ps_set (i := 7) scS.nd rfl (Or.inl rfl) (pe_has Hb (hr.mono (by omega)) pass0 (pa_cons (pv 0) (pa_cons (pv 1) (pa_cons (pv 2) (pa_cons (pe_op op_sub (pv 3) pe_int) (pa_cons (pv 4) pa_nil)))))))
 (pss_one (ps_ret (pe_tup (pa_cons pe_str (pa_cons (pv 6) (pa_cons (pv 7) (pa_cons (pe_has Hb (hr.mono (by omega)) pass0 (pa_cons (pv 0) (pa_cons (pv 1) (pa_cons (pv 2) (pa_cons (pe_op op_sub (pv 3) pe_int) (pa_cons (pv 4) pa_nil)))))) pa_nil)))))))))
 pss_nil)
 (pss_cons (ps_if (PW.pt (pw_and (pt_cmpR op_lt (pv 5) pe_int (nomark _)) (pw_and (pt_cmpR op_gt (pe_ix ix_list (pv 2) pe_int (fun _ _ => rfl)) pe_int (nomark _)) (pw_and1 (pt_cmpR op_gt (pv 4) pe_int (nomark _))))))
 (pss_cons (ps_set (i := 8) scS.nd rfl (Or.inl rfl) (pe_has Hn (hr.mono (by omega)) pass0 (pa_cons (pv 0) pa_nil)))
 (pss_one (ps_ret (pe_tup (pa_cons pe_str (pa_cons (pv 8) (pa_cons (pe_has Hb (hr.mono (by omega)) pass0 (pa_cons (pv 0) (pa_cons (pv 1) (pa_cons (pv 2) (pa_cons (pe_op op_sub (pv 3) pe_int) (pa_cons (pe_op op_sub (pv 4) pe_int) pa_nil)))))) pa_nil)))))))
 pss_nil)
 (pss_cons (ps_if (pt_cmpR op_eq (pv 5) pe_int (nomark _))
 (pss_one (ps_ret (pe_tup (pa_cons pe_str (pa_cons (pe_has He (hr.mono (by omega)) pass0 (pa_cons (pv 0) (pa_cons (pv 1) (pa_cons (pv 2) (pa_cons (pe_op op_sub (pv 3) pe_int) pa_nil))))) pa_nil)))))
 pss_nil)
 (pss_cons (ps_set (i := 8) scS.nd rfl (Or.inl rfl) (pe_has Hn (hr.mono (by omega)) pass0 (pa_cons (pv 0) pa_nil)))
 (pss_one (ps_ret (pe_tup (pa_cons pe_str (pa_cons (pv 8) (pa_cons (pe_has He (hr.mono (by omega)) pass0 (pa_cons (pv 0) (pa_cons (pv 1) (pa_cons (pv 2) (pa_cons (pe_op op_sub (pv 3) pe_int) pa_nil))))) pa_nil)))))))))))), ?_⟩
    obtain ⟨a, pl, rm, k, dp, lo, ws, rfl, R, l0, l1, ww, d1, d2, hQ⟩ := h
    refine ⟨_, rfl, rm, _, _, _, rfl, rfl, sq_of R.rmA, rfl, _, _, rfl, rfl, _, rfl, rm, [.int k], _, 0, rfl, rfl, R.rmA, rfl, ?_⟩
    obtain ⟨R1, g1⟩ := R.put (k - 1)
    show tSeq _ _ _ _ (upd H rm (.lst [.int (k - 1)]))
    generalize upd H rm (.lst [.int (k - 1)]) = H1 at R1 g1 ⊢
    refine ⟨_, rfl, a, 12, rfl, R1.hd, by decide, by decide, fun H2 n2 hd2 e2 c2 q0 q1 => ?_⟩
    have g2a := Go.draw hd2 e2 c2
    have R2 := R1.go g2a
    have g2 := g1.trans (Go2.of (rm := rm) g2a)
    obtain ⟨kd, rfl⟩ := Int.eq_ofNat_of_zero_le q0
    clear e2 c2 q0 g2a R1 g1
    have ed : ((dp : Nat) : Int) - 1 = ((dp - 1 : Nat) : Int) := by omega
    refine and3g (j := 3) rfl rfl rfl R2.rmA ?_
    refine ite2 (fun e => ?_) (fun _ => ?_)
    · simp only [Bool.and_eq_true, decide_eq_true_eq] at e
      obtain ⟨_, p1, p2⟩ := e
      refine ⟨_, rfl, _, rfl, _, rfl, _, rfl, _, _, rfl, rfl, c_of (dp := dp - 1) (congrArg V.int ed) R2 l0 l1 ww (by omega) (by omega) fun H3 v3 x3 k3 R3 g3 dq3 o3 dd3 kk3 mm3 => ?_⟩
      refine ⟨_, rfl, _, rfl, _, rfl, _, rfl, _, _, rfl, rfl, _, rfl, b_of (E := fun _ _ _ => False) (dp := dp - 1) (lo := lo) (congrArg V.int ed) rfl R3 l0 l1 ww (by omega) (by omega) fun H4 v4 x4 k4 R4 g4 dq4 o4 dd4 lp4 kk4 mm4 => ?_⟩
      refine ⟨_, rfl, _, rfl, _, rfl, _, rfl, _, rfl, _, rfl, _, _, rfl, rfl, _, rfl, b_of (E := fun _ _ _ => False) (dp := dp - 1) (lo := lo) (congrArg V.int ed) rfl R4 l0 l1 ww (by omega) (by omega) fun H5 v5 x5 k5 R5 g5 dq5 o5 dd5 lp5 kk5 mm5 => ⟨(by show 4 ≤ sizeLine; decide), fun t nt => ?_⟩⟩
      have gn := Go.new R5.hd (same_new (o := HO.tup [.str (Str.ofString "if"), v3, v4, v5]) nt)
      have ta := R5.hd.ne_new nt
      have tr : t ≠ rm := fun z => by rw [z, R5.rmA] at nt; cases nt
      have gm := (Go2.of (rm := rm) gn).sm
      refine hQ _ _ (.if_ x3 x4 x5) k5 (R5.go gn) (g2.trans (g3.trans (g4.trans (g5.trans (Go2.of gn))))) (.tup ?_ (.cons (.str _) (.cons (Dq.same (g4.sm.trans (g5.sm.trans gm)) _ _ dq3) (.cons (Dq.same (g5.sm.trans gm) _ _ dq4) (.cons (Dq.same gm _ _ dq5) .nil))))) (by simp only [V6.St.ok, o3, o4, o5, Bool.and_self]) (by simp only [V6.St.deep]; omega) (by simp only [V6.St.lps]; omega) (by simp only [V6.St.cnt]; omega) (by omega)
      show delH (delH _ rm) a t = _
      rw [delH_ne ta, delH_ne tr]
      exact upd_same
    refine and3g (j := 4) rfl rfl rfl R2.rmA ?_
    refine ite2 (fun e => ?_) (fun _ => ?_)
    · simp only [Bool.and_eq_true, decide_eq_true_eq] at e
      obtain ⟨_, p1, p2⟩ := e
      have el : ((lo : Nat) : Int) - 1 = ((lo - 1 : Nat) : Int) := by omega
      refine ⟨_, rfl, a, rfl, R2.hd, fun H3 nm g3a hn => ?_⟩
      have R3 := R2.go g3a
      have g3 := Go2.of (rm := rm) g3a
      refine ⟨_, rfl, _, rfl, _, rfl, _, rfl, _, rfl, _, _, rfl, rfl, _, rfl, _, _, rfl, rfl, b_of (E := fun _ _ _ => False) (dp := dp - 1) (lo := lo - 1) (congrArg V.int ed) (congrArg V.int el) R3 l0 l1 ww (by omega) (by omega) fun H4 v4 x4 k4 R4 g4 dq4 o4 dd4 lp4 kk4 mm4 => ⟨(by show 3 ≤ sizeLine; decide), fun t nt => ?_⟩⟩
      have gn := Go.new R4.hd (same_new (o := HO.tup [.str (Str.ofString "each"), .str nm, v4]) nt)
      have ta := R4.hd.ne_new nt
      have tr : t ≠ rm := fun z => by rw [z, R4.rmA] at nt; cases nt
      have gm := (Go2.of (rm := rm) gn).sm
      refine hQ _ _ (.each nm x4) k4 (R4.go gn) (g2.trans (g3.trans (g4.trans (Go2.of gn)))) (.tup ?_ (.cons (.str _) (.cons (.str _) (.cons (Dq.same gm _ _ dq4) .nil)))) (by simp only [V6.St.ok, hn, o4, Bool.and_self]) (by simp only [V6.St.deep]; omega) (by simp only [V6.St.lps]; omega) (by simp only [V6.St.cnt]; omega) (by omega)
      show delH (delH _ rm) a t = _
      rw [delH_ne ta, delH_ne tr]
      exact upd_same
    refine ⟨_, rfl, rfl, _, rfl, ite2 (fun _ => ?_) (fun _ => ?_)⟩
    · refine ⟨_, rfl, _, rfl, _, rfl, _, rfl, _, _, rfl, rfl, e_of (dp := dp - 1) (congrArg V.int ed) R2 l0 l1 ww (by omega) (by omega) fun H4 v4 x4 k4 R4 g4 dq4 o4 dd4 kk4 ss4 mm4 => ⟨(by show 2 ≤ sizeLine; decide), fun t nt => ?_⟩⟩
      have gn := Go.new R4.hd (same_new (o := HO.tup [.str (Str.ofString "say"), v4]) nt)
      have ta := R4.hd.ne_new nt
      have tr : t ≠ rm := fun z => by rw [z, R4.rmA] at nt; cases nt
      have gm := (Go2.of (rm := rm) gn).sm
      refine hQ _ _ (.say x4) k4 (R4.go gn) (g2.trans (g4.trans (Go2.of gn))) (.tup ?_ (.cons (.str _) (.cons (Dq.same gm _ _ dq4) .nil))) (by simp only [V6.St.ok, o4]) (by simp only [V6.St.deep]; omega) (by simp only [V6.St.lps]; omega) (by simp only [V6.St.cnt]; omega) (by omega)
      show delH (delH _ rm) a t = _
      rw [delH_ne ta, delH_ne tr]
      exact upd_same
    refine ⟨_, rfl, a, rfl, R2.hd, fun H3 nm g3a hn => ?_⟩
    have R3 := R2.go g3a
    have g3 := Go2.of (rm := rm) g3a
    refine ⟨_, rfl, _, rfl, _, rfl, _, rfl, _, rfl, _, _, rfl, rfl, e_of (dp := dp - 1) (congrArg V.int ed) R3 l0 l1 ww (by omega) (by omega) fun H4 v4 x4 k4 R4 g4 dq4 o4 dd4 kk4 ss4 mm4 => ⟨(by show 3 ≤ sizeLine; decide), fun t nt => ?_⟩⟩
    have gn := Go.new R4.hd (same_new (o := HO.tup [.str (Str.ofString "let"), .str nm, v4]) nt)
    have ta := R4.hd.ne_new nt
    have tr : t ≠ rm := fun z => by rw [z, R4.rmA] at nt; cases nt
    have gm := (Go2.of (rm := rm) gn).sm
    refine hQ _ _ (.let_ nm x4) k4 (R4.go gn) (g2.trans (g3.trans (g4.trans (Go2.of gn)))) (.tup ?_ (.cons (.str _) (.cons (.str _) (.cons (Dq.same gm _ _ dq4) .nil)))) (by simp only [V6.St.ok, hn, o4, Bool.and_self]) (by simp only [V6.St.deep]; omega) (by simp only [V6.St.lps]; omega) (by simp only [V6.St.cnt]; omega) (by omega)
    show delH (delH _ rm) a t = _
    rw [delH_ne ta, delH_ne tr]
    exact upd_same
theorem ok_bodies (T : Tx K w mg) : ∀ n : Nat, Has P w K mg base CX0 (2 * n + 8) "_law_body" ["hand", "pool", "room", "deep", "loops"] (spB n)
  | 0 => by
    refine ok_body T 0 ?_
    obtain ⟨fd, F⟩ := T.c.def_ 28 (d := d__law_statement) rfl
    exact ⟨fd, ⟨fun _ _ _ _ h => h.elim, fun _ _ _ _ _ _ _ _ _ _ _ _ _ h => h.elim⟩, FunD.bindsN F fun _ _ _ _ _ _ us hl => match us, hl with | [_, _, _, _, _], _ => rfl, F.kp, (T.glo 46 rfl)⟩
  | n + 1 => ok_body T (n + 1) (ok_stmt T n (ok_bodies T n))
end
end K07

set_option maxHeartbeats 4000000
namespace K07
open PySem PySem.Spec PyProof.Rows L2 V1 V2 V3 V6 LamX NdefX
open Evl (pss_cut tCut sq_of st_of)
structure BdOk (b : Bd) : Prop where
  ok : b.ok = true
  dp : b.deep ≤ 20
  nm : b.nms.length ≤ 1000
def spPrL : Sp := fun vs H Q _ => ∃ (a pl : Addr) (k : Int) (lo : Nat) (ws : List Str), vs = [.ref a, .ref pl, .int k, .int ((lo : Nat) : Int)] ∧ HandAt H a ∧ H pl = some (.lst (ws.map V.str)) ∧ pl ≠ a ∧ 0 < ws.length ∧ ws.length < 1000 ∧ (∀ x ∈ ws, wordX x = true) ∧ 1 ≤ k ∧ k ≤ 100 ∧ lo ≤ 3 ∧
  ∀ H' v (b : Bd), Go a H H' → Dq (delH H' a) v (.tuple b.ds) → BdOk b → b.lps ≤ lo → b.cnt ≤ 200 → Q v H'
theorem scPrL : FnScope ["hand", "pool", "most", "loops", "room", "deep", "found", "k"] ["hand", "pool", "most", "loops"] (defScope s__law_program) := ⟨rfl, rfl, rfl, by decide +kernel, rfl, by decide +kernel, by decide +kernel⟩
theorem go_of2 {a rm : Addr} {H H1 H' : L2.Hp} (hd : HandAt H' a) (s : Same H H1) (n : H rm = none) (ra : rm ≠ a) (ce : cellsOf H1 a = cellsOf H a) (g : Go2 a rm H1 H') : Go a H H' := ⟨hd, g.ce.trans ce, fun b o e => by
  have ba : b ≠ a := fun z => by rw [z, delH_same] at e; cases e
  rw [delH_ne ba] at e ⊢
  have br : b ≠ rm := ne_of_none e n
  have z := g.sm b o (by rw [delH_ne ba, delH_ne br]; exact s _ _ e)
  rw [delH_ne ba, delH_ne br] at z
  exact z⟩
section
variable [CurK] {P : Program} {w : World} {mg : Str → Option Value} {base : Heap}
theorem ok_prl (T : Tx K w mg) : Has P w K mg base CX0 48 "_law_program" ["hand", "pool", "most", "loops"] spPrL := by
  obtain ⟨fd, F⟩ := T.c.def_ 30 (d := d__law_program) rfl
  have Hd := ok_draw (P := P) (w := w) (base := base) T
  have Hpk := ok_some (P := P) (w := w) (base := base) T
  have H1 := ok_stmt (P := P) (w := w) (base := base) T 19 (ok_bodies T 19)
  have He := ok_e (P := P) (w := w) (base := base) T 19
  refine ⟨fd, F.ok scPrL (fun vs H Q E h => ?_) (fun cdv A outer s H vs Q E hr h => ?_), FunD.bindsN F fun _ _ _ _ _ _ us hl => match us, hl with | [_, _, _, _], _ => rfl, F.kp, (T.glo 48 rfl)⟩
  · obtain ⟨a, pl, k, lo, ws, rfl, _⟩ := h
    rfl
  · refine ⟨_, PSs.nox (pss_cons (ps_set (i := 4) scPrL.nd rfl (Or.inl rfl) (pe_lstS (pa_cons (pv 2) pa_nil)))
 (pss_cons (ps_set (i := 5) scPrL.nd rfl (Or.inl rfl) (pe_has Hpk (hr.mono (by decide)) pass0 (pa_cons (pv 0) (pa_cons (pe_lstS (pa_cons pe_int (pa_cons pe_int (pa_cons pe_int (pa_cons pe_int pa_nil))))) pa_nil))))
 (pss_cons (ps_set (i := 6) scPrL.nd rfl (Or.inl rfl) (pe_tup pa_nil))
 (pss_cons (ps_for PassesOwn.never rfl (pi_range1 (by rfl) (T.free 79 rfl) (pa_cons (pe_op op_add pe_int (pe_has Hd (hr.mono (by decide)) pass0 (pa_cons (pv 0) (pa_cons pe_int pa_nil)))) pa_nil)) (pg_name (i := 7) scPrL.nd rfl (Or.inl rfl))
 (pss_one (ps_if (pt_cmpR op_gt (pe_ix ix_list (pv 4) pe_int (fun _ _ => rfl)) pe_int (nomark _))
 (pss_one (ps_set (i := 6) scPrL.nd rfl (Or.inl rfl) (pe_op op_catA (pv 6) (pe_tup (pa_cons (pe_has H1 (hr.mono (by decide)) pass0 (pa_cons (pv 0) (pa_cons (pv 1) (pa_cons (pv 4) (pa_cons (pv 5) (pa_cons (pv 3) pa_nil)))))) pa_nil)))))
 pss_nil)))
 (pss_cons (ps_if (pt_cmpR op_gt (pe_has Hd (hr.mono (by decide)) pass0 (pa_cons (pv 0) (pa_cons pe_int pa_nil))) pe_int (nomark _))
 (pss_one (ps_set (i := 6) scPrL.nd rfl (Or.inl rfl) (pe_op op_catA (pv 6) (pe_tup (pa_cons (pe_tup (pa_cons pe_str (pa_cons (pe_has He (hr.mono (by decide)) pass0 (pa_cons (pv 0) (pa_cons (pv 1) (pa_cons (pv 4) (pa_cons (pe_op op_sub (pv 5) pe_int) pa_nil))))) pa_nil))) pa_nil)))))
 pss_nil)
 (pss_one (ps_ret (pv 6)))))))), ?_⟩
    obtain ⟨a, pl, k, lo, ws, rfl, hd, hpl, pa, l0, l1, ww, k1, k100, lo2, hQ⟩ := h
    refine ⟨_, rfl, (by show 1 ≤ sizeLine; decide), fun rm nrm _ => ?_⟩
    have s0 := same_new (o := HO.lst [.int k]) nrm
    have ra := hd.ne_new nrm
    have g0 := Go.new hd s0
    have R0 : RmAt (upd H rm (.lst [.int k])) a rm pl k ws := ⟨g0.hd, upd_same, ra, (by
      obtain ⟨c, cs, h1, _, h3⟩ := hd.cells
      rw [g0.ce, h1]
      intro z
      cases z
      rw [nrm] at h3
      cases h3), s0 _ _ hpl, pa, ne_of_none hpl nrm⟩
    have fin : ∀ H' v (b : Bd), HandAt H' a → Go2 a rm (upd H rm (.lst [.int k])) H' → Dq (off2 H' a rm) v (.tuple b.ds) → BdOk b → b.lps ≤ lo → b.cnt ≤ 200 → Q v H' := fun H' v b hd' g dq => hQ H' v b (go_of2 hd' s0 nrm ra g0.ce g) (Dq.same (same_del same_delH) _ _ dq)
    clear hQ g0
    generalize upd H rm (.lst [.int k]) = H0 at s0 R0 fin ⊢
    refine ⟨_, rfl, (by show 4 ≤ sizeLine; decide), fun q nq _ => ?_⟩
    have hR0 := R0.hd
    refine some_ints [14, 14, 6, 3] hR0 nq (by decide) (by decide) (by decide) fun H1' z g1 mz => ?_
    have R1 := R0.go g1
    have dz : z = 14 ∨ z = 6 ∨ z = 3 := by
      simp only [List.mem_cons, List.not_mem_nil, or_false] at mz
      omega
    have d1 : 2 ≤ z := by omega
    have d2 : z ≤ 20 := by omega
    generalize z = dp at d1 d2 ⊢
    have nf0 : True := trivial
    refine ⟨(by show 0 ≤ sizeLine; decide), fun f nf => ?_⟩
    have sf := same_new (o := HO.tup []) nf
    have ef : upd H1' f (HO.tup []) f = some (.tup []) := upd_same
    have gf := Go.new R1.hd sf
    have fa := R1.hd.ne_new nf
    have fr : f ≠ rm := fun z => by rw [z, R1.rmA] at nf; cases nf
    generalize upd H1' f (HO.tup []) = H1b at sf ef gf
    have R1b := R1.go gf
    have offAt : ∀ {G : Hp} {t : Addr} {o : HO}, t ≠ a → t ≠ rm → G t = some o → off2 G a rm t = some o := fun ta tr e => by
      show delH (delH _ rm) a _ = _
      rw [delH_ne ta, delH_ne tr]
      exact e
    refine ⟨_, rfl, a, 8, rfl, R1b.hd, by decide, by decide, fun H2 r2 hd2 e2 c2 q0 q1 => ?_⟩
    have g2a := Go.draw hd2 e2 c2
    have R2 := R1b.go g2a
    have g2 := (Go2.of (rm := rm) g1).trans ((Go2.of (rm := rm) gf).trans (Go2.of g2a))
    have ef2 := go2_keep g2a fa ef
    obtain ⟨m, rfl⟩ := Int.eq_ofNat_of_zero_le q0
    clear e2 c2 q0 g2a sf ef gf
    refine ⟨_, _, rfl, rfl, _, rfl, by omega, by omega, ?_⟩
    rw [show ((1 : Int) + (m : Nat)).toNat = m + 1 by omega]
    refine for_it (walk_range (lo := 0) (n := m + 1)) (fun i σ H' => ∃ f o7 k' l us, σ = [some (.ref a), some (.ref pl), some (.int k), some (.int ((lo : Nat) : Int)), some (.ref rm), some (.int ((dp : Nat) : Int)), some (.ref f), o7] ∧ RmAt H' a rm pl k' ws ∧ Go2 a rm H0 H' ∧ off2 H' a rm f = some (.tup us) ∧ DqAll (off2 H' a rm) us (l.map V6.St.d) ∧ (∀ s ∈ l, s.ok = true ∧ s.deep ≤ dp ∧ s.lps ≤ lo) ∧ k' = k - cntL l ∧ -21 ≤ k' ∧ l.length ≤ i)
      ⟨f, _, k, [], [], rfl, R2, g2, offAt fa fr ef2, .nil, fun s h => absurd h List.not_mem_nil, by simp [cntL], by omega, Nat.le_refl _⟩ (fun _ _ _ _ _ => True.intro) ?_ ?_
    · rintro i x σ H3 H4 hi ⟨f, o7, k', l, us, rfl, R3, g3, e3, dq3, hl, kk, kb, ll⟩ ⟨rfl, rfl⟩
      refine ⟨_, rfl, rm, _, _, _, rfl, rfl, sq_of R3.rmA, rfl, _, _, rfl, rfl, _, rfl, ite2 (fun e => ?_) (fun _ => ?_)⟩
      · have p1 : 0 < k' := of_decide_eq_true e
        refine ⟨_, rfl, _, rfl, _, rfl, _, rfl, _, rfl, _, rfl, s_of (n := 20) (E := fun _ _ _ => False) R3 l0 l1 ww d1 d2 fun H5 v s k5 R5 g5 dq5 o5 dd5 lp5 kk5 mm5 => ⟨(by show 1 ≤ sizeLine; decide), fun t nt => ?_⟩⟩
        have s6 := same_new (o := HO.tup [v]) nt
        have gn6 := Go.new R5.hd s6
        have ta := R5.hd.ne_new nt
        have tr : t ≠ rm := fun z => by rw [z, R5.rmA] at nt; cases nt
        have et := offAt ta tr (upd_same : upd H5 t (HO.tup [v]) t = some (.tup [v]))
        have R6 := R5.go gn6
        have gm6 := g5.trans (Go2.of (rm := rm) gn6)
        have gm6' := (Go2.of (rm := rm) gn6).sm
        generalize upd H5 t (HO.tup [v]) = H6 at s6 gn6 et R6 gm6 gm6'
        have e6 := gm6.sm _ _ e3
        have dq6 : DqAll (off2 H6 a rm) (us ++ [v]) ((l ++ [s]).map V6.St.d) := by
          rw [List.map_append]
          exact DqAll.app (DqAll.same gm6.sm _ _ dq3) (.cons (Dq.same gm6' _ _ dq5) .nil)
        have lu : us.length = l.length := by
          have z := dqAll_len dq3
          rw [List.length_map] at z
          exact z
        have hl' : ∀ x ∈ l ++ [s], x.ok = true ∧ x.deep ≤ dp ∧ x.lps ≤ lo := fun x hx => by
          rcases List.mem_append.mp hx with z | z
          · exact hl x z
          · rw [List.mem_singleton.mp z]
            exact ⟨o5, dd5, lp5⟩
        have kk' : k5 = k - cntL (l ++ [s]) := by rw [cntL_snoc]; omega
        have ll' : (l ++ [s]).length ≤ i + 1 := by rw [List.length_append]; simp only [List.length_cons, List.length_nil]; omega
        refine ⟨f, t, us, [v], rfl, rfl, st_of (same_delH _ _ (same_delH _ _ e6)), st_of (same_delH _ _ (same_delH _ _ et)), Nat.le_trans (by simp only [List.length_cons, List.length_nil]; omega : us.length + ([v] : List V).length ≤ 1000) (by decide), fun z => ?_, fun _ z => absurd z (by simp), fun nx _ c nc => ?_⟩
        · subst z
          exact ⟨t, _, k5, l ++ [s], [v], rfl, R6, g3.trans gm6, et, dq6, hl', kk', by omega, ll'⟩
        · have s7 := same_new (o := HO.tup (us ++ [v])) nc
          have gn7 := Go.new R6.hd s7
          have ca := R6.hd.ne_new nc
          have cr : c ≠ rm := fun z => by rw [z, R6.rmA] at nc; cases nc
          exact ⟨c, _, k5, l ++ [s], us ++ [v], rfl, R6.go gn7, g3.trans (gm6.trans (Go2.of gn7)), offAt ca cr upd_same, DqAll.same (Go2.of (rm := rm) gn7).sm _ _ dq6, hl', kk', by omega, ll'⟩

      · exact ⟨f, _, k', l, us, rfl, R3, g3, e3, dq3, hl, kk, kb, by omega⟩
    · rintro σ H3 ⟨f, o7, k', l, us, rfl, R3, g3, e3, dq3, hl, kk, kb, ll⟩
      have mk : ∀ (l : List V6.St), (∀ s ∈ l, s.ok = true ∧ s.deep ≤ dp ∧ s.lps ≤ lo) → cntL l ≤ 200 → BdOk (bdOf l) ∧ (bdOf l).lps ≤ lo ∧ (bdOf l).cnt ≤ 200 := fun l hl cl => by
        have n1 := nms_cntB (bdOf l)
        rw [bdOf_cnt] at n1 ⊢
        exact ⟨⟨bdOf_ok fun s m => (hl s m).1, Nat.le_trans (bdOf_deep fun s m => (hl s m).2.1) d2, by omega⟩, bdOf_lps fun s m => (hl s m).2.2, cl⟩
      refine ⟨_, rfl, a, 3, rfl, R3.hd, by decide, by decide, fun H5 r5 hd5 e5 c5 _ _ => ⟨_, _, rfl, rfl, _, rfl, ite2 (fun _ => ?_) (fun _ => ?_)⟩⟩
      · have gd := Go.draw hd5 e5 c5
        have R5 := R3.go gd
        have gd2 := Go2.of (rm := rm) gd
        have ed : ((dp : Nat) : Int) - 1 = ((dp - 1 : Nat) : Int) := by omega
        refine ⟨_, rfl, _, rfl, _, rfl, _, rfl, _, rfl, _, _, rfl, rfl, e_of (n := 19) (E := fun _ _ _ => False) (dp := dp - 1) (congrArg V.int ed) R5 l0 l1 ww (by omega) (by omega) fun H6 v x k6 R6 g6 dq6 o6 dd6 kk6 ss6 mm6 => ⟨(by show 2 ≤ sizeLine; decide), fun t nt => ⟨(by show 1 ≤ sizeLine; decide), fun t2 nt2 => ?_⟩⟩⟩
        have s7 := same_new (o := HO.tup [.str (Str.ofString "say"), v]) nt
        have gn7 := Go.new R6.hd s7
        have ta := R6.hd.ne_new nt
        have tr : t ≠ rm := fun z => by rw [z, R6.rmA] at nt; cases nt
        have et := offAt ta tr (upd_same : upd H6 t (HO.tup [.str (Str.ofString "say"), v]) t = some (.tup [.str (Str.ofString "say"), v]))
        have R7 := R6.go gn7
        have gm7 := (Go2.of (rm := rm) gn7)
        generalize upd H6 t (HO.tup [.str (Str.ofString "say"), v]) = H7 at s7 gn7 et R7 gm7 nt2 ⊢
        have s8 := same_new (o := HO.tup [.ref t]) nt2
        have gn8 := Go.new R7.hd s8
        have t2a := R7.hd.ne_new nt2
        have t2r : t2 ≠ rm := fun z => by rw [z, R7.rmA] at nt2; cases nt2
        have et2 := offAt t2a t2r (upd_same : upd H7 t2 (HO.tup [.ref t]) t2 = some (.tup [.ref t]))
        have R8 := R7.go gn8
        have gm8 := (Go2.of (rm := rm) gn8)
        generalize upd H7 t2 (HO.tup [.ref t]) = H8 at s8 gn8 et2 R8 gm8 ⊢
        have g68 := gm7.trans gm8
        have g38 := gd2.trans (g6.trans g68)
        have e8 := g38.sm _ _ e3
        have dq8 : DqAll (off2 H8 a rm) (us ++ [.ref t]) ((l ++ [V6.St.say x]).map V6.St.d) := by
          rw [List.map_append]
          exact DqAll.app (DqAll.same g38.sm _ _ dq3) (.cons (.tup (gm8.sm _ _ et) (.cons (.str _) (.cons (Dq.same g68.sm _ _ dq6) .nil))) .nil)
        have hl' : ∀ y ∈ l ++ [V6.St.say x], y.ok = true ∧ y.deep ≤ dp ∧ y.lps ≤ lo := fun y hy => by
          rcases List.mem_append.mp hy with z | z
          · exact hl y z
          · rw [List.mem_singleton.mp z]
            exact ⟨by simp only [V6.St.ok, o6], by simp only [V6.St.deep]; omega, by simp only [V6.St.lps]; omega⟩
        have lu : us.length = l.length := by
          have z := dqAll_len dq3
          rw [List.length_map] at z
          exact z
        obtain ⟨b1, b2, b3⟩ := mk (l ++ [V6.St.say x]) hl' (by rw [cntL_snoc]; simp only [V6.St.cnt]; omega)
        have g08 := g3.trans g38
        refine ⟨f, t2, us, [.ref t], rfl, rfl, st_of (same_delH _ _ (same_delH _ _ e8)), st_of (same_delH _ _ (same_delH _ _ et2)), Nat.le_trans (by simp only [List.length_cons, List.length_nil]; omega : us.length + ([V.ref t] : List V).length ≤ 1000) (by decide), fun z => ?_, fun _ z => absurd z (by simp), fun nx _ c nc => ?_⟩
        · subst z
          exact ⟨_, rfl, fin H8 _ (bdOf (l ++ [V6.St.say x])) R8.hd g08 (by rw [bdOf_ds]; exact .tup et2 dq8) b1 b2 b3⟩
        · have s9 := same_new (o := HO.tup (us ++ [.ref t])) nc
          have gn9 := Go.new R8.hd s9
          have ca := R8.hd.ne_new nc
          have cr : c ≠ rm := fun z => by rw [z, R8.rmA] at nc; cases nc
          exact ⟨_, rfl, fin _ _ (bdOf (l ++ [V6.St.say x])) gn9.hd (g08.trans (Go2.of gn9)) (by rw [bdOf_ds]; exact .tup (offAt ca cr upd_same) (DqAll.same (Go2.of (rm := rm) gn9).sm _ _ dq8)) b1 b2 b3⟩
      · have gd := Go.draw hd5 e5 c5
        obtain ⟨b1, b2, b3⟩ := mk l hl (by omega)
        have g5 := g3.trans (Go2.of (rm := rm) gd)
        exact ⟨_, rfl, fin H5 _ (bdOf l) hd5 g5 (by rw [bdOf_ds]; exact .tup ((Go2.of (rm := rm) gd).sm _ _ e3) (DqAll.same (Go2.of (rm := rm) gd).sm _ _ dq3)) b1 b2 b3⟩
end
end K07


set_option maxHeartbeats 4000000
namespace K07
open PySem PySem.Spec PyProof.Rows L2 V1 V2 V3 V6 V9 V7 CwR
open Evl (pss_cut tCut sq_of st_of)
section
variable [CurK]
/-- what is written of an e or a c -/
def spPT : Nat → Sp
  | 0 => fun _ _ _ _ => False
  | n + 1 => fun vs H Q _ => ∃ v d t k, vs = [v] ∧ Dx H v d ∧ Wt d t k ∧ k ≤ n ∧ t.length ≤ 200000 ∧ ∀ H', Same H H' → Q (.str (mkS t)) H'
end
theorem cut1 {x : V} {xs : List V} : cutV (x :: xs) (some 1) none = xs := by
  unfold cutV
  have z1 : HT.sIx (x :: xs).length 0 (some 1) = 1 := by
    unfold HT.sIx
    dsimp only
    rw [if_neg (by decide), List.length_cons]
    show min 1 (xs.length + 1) = 1
    omega
  have z2 : HT.sIx (x :: xs).length (x :: xs).length none = xs.length + 1 := rfl
  rw [z1, z2]
  simp
theorem cut1_ne {x : V} {xs : List V} : ¬ (HT.sIx (x :: xs).length 0 (some 1) = 0 ∧ HT.sIx (x :: xs).length (x :: xs).length none = (x :: xs).length) := fun z => by
  have z1 : HT.sIx (x :: xs).length 0 (some 1) = 1 := by
    unfold HT.sIx
    dsimp only
    rw [if_neg (by decide), List.length_cons]
    show min 1 (xs.length + 1) = 1
    omega
  omega
theorem joinL_len (s : List Nat) : ∀ ts : List (List Nat), (ts.map (·.length)).sum ≤ (TL.joinL s ts).length
  | [] => Nat.le_refl _
  | [t] => by simp [TL.joinL]
  | t :: t2 :: ts => by
    have := joinL_len s (t2 :: ts)
    show t.length + ((t2 :: ts).map (·.length)).sum ≤ (t ++ (s ++ TL.joinL s (t2 :: ts))).length
    rw [List.length_append, List.length_append]
    omega
theorem mem_len {ts : List (List Nat)} {t : List Nat} (h : t ∈ ts) : t.length ≤ (ts.map (·.length)).sum := by
  induction ts with
  | nil => cases h
  | cons a ts ih =>
    rw [List.map_cons, List.sum_cons]
    rcases List.mem_cons.mp h with rfl | h
    · omega
    · have := ih h
      omega
/-- the kinds with parts, as lists -/
theorem wt_node {k : Nat} {d : PyData} {t : List Nat} (h : WtI k d t) : (∃ w, wordX w = true ∧ d = .tuple [.str "text", .str w] ∧ t = 34 :: (qt (cs w) ++ [34])) ∨ (∃ n, nameX n = true ∧ d = .tuple [.str "name", .str n] ∧ t = cs n) ∨ (∃ b, b ∈ bareL ∧ d = .tuple [.str b] ∧ t = cs b) ∨
    ∃ (kd : Str) (ds : List PyData) (ts : List (List Nat)), kd ∉ plainL ∧ kd.length ≤ 5 ∧ d = .tuple (.str kd :: ds) ∧ t = cs kd ++ 40 :: (TL.joinL [44, 32] ts ++ [41]) ∧ ds.length = ts.length ∧ 1 ≤ ds.length ∧ ds.length ≤ 2 ∧ ∀ (i : Nat) (d : PyData) (t : List Nat), ds[i]? = some d → ts[i]? = some t → ∃ j, Wt d t j ∧ j < k := by
  cases h with
  | text a => exact .inl ⟨_, a, rfl, rfl⟩
  | name a => exact .inr (.inl ⟨_, a, rfl, rfl⟩)
  | bare a => exact .inr (.inr (.inl ⟨_, a, rfl, rfl⟩))
  | @one kd d t j a b w l =>
    refine .inr (.inr (.inr ⟨kd, [d], [t], a, b, rfl, rfl, rfl, Nat.le_refl _, (by show 1 ≤ 2; decide), fun i d' t' h1 h2 => ?_⟩))
    cases i with
    | zero => cases h1; cases h2; exact ⟨j, w, l⟩
    | succ i => cases h1
  | @two kd d d2 t t2 j j2 a b w l w2 l2 =>
    refine .inr (.inr (.inr ⟨kd, [d, d2], [t, t2], a, b, rfl, by simp [TL.joinL], rfl, (by show 1 ≤ 2; decide), Nat.le_refl _, fun i d' t' h1 h2 => ?_⟩))
    cases i with
    | zero => cases h1; cases h2; exact ⟨j, w, l⟩
    | succ i =>
      cases i with
      | zero => cases h1; cases h2; exact ⟨j2, w2, l2⟩
      | succ i => cases h1
theorem mkS_len (l : List Nat) : (mkS l).length = l.length := by simp [mkS, Str.length]
theorem cs_len (x : Str) : (cs x).length = x.length := Array.length_toList
theorem cs_mk (l : List Nat) : cs (mkS l) = l := by simp [mkS]
theorem scPT : FnScope ["part", "kind", "inner"] ["part"] (defScope s_part_text) := ⟨rfl, rfl, rfl, by decide +kernel, rfl, by decide +kernel, by decide +kernel⟩
theorem rep_len (x y z : Str) (n : Nat) (h : x.length ≤ n) (k : z.length ≤ 2) : (Txt.replace x y z).length ≤ 3 * n + 2 := by
  have a := TK.replace_len x y z
  have b : (x.length + 1) * z.length ≤ (n + 1) * 2 := Nat.mul_le_mul (by omega) k
  omega
section
variable [CurK] {P : Program} {w : World} {mg : Str → Option Value} {base : Heap}
theorem ok_pt (T : Tx K w mg) : ∀ n : Nat, Has P w K mg base CX0 (n + 1) "part_text" ["part"] (spPT n)
  | 0 => by
    obtain ⟨fd, F⟩ := T.c.def_ 13 (d := d_part_text) rfl
    exact ⟨fd, ⟨fun _ _ _ _ h => h.elim, fun _ _ _ _ _ _ _ _ _ _ _ _ _ h => h.elim⟩, FunD.bindsN F fun _ _ _ _ _ _ us hl => match us, hl with | [_], _ => rfl, F.kp, (T.glo 28 rfl)⟩
  | n + 1 => by
    obtain ⟨fd, F⟩ := T.c.def_ 13 (d := d_part_text) rfl
    have Hr := ok_pt T n
    refine ⟨fd, okT F scPT (by decide +kernel) (by decide) (fun vs H Q E h => ?_) (fun cdv A outer s H vs Q E hr h => ?_), FunD.bindsN F fun _ _ _ _ _ _ us hl => match us, hl with | [_], _ => rfl, F.kp, (T.glo 28 rfl)⟩
    · obtain ⟨v, d, t, k, rfl, _⟩ := h
      rfl
    · refine ⟨_, (psst_cons (PST.of (ps_set (i := 1) scPT.nd rfl (Or.inl rfl) (pe_ix ix_tup (pv 0) pe_int (fun _ _ => rfl))))
 (psst_cons (pst_if (pt_cmpR op_eq (pv 1) pe_str (nomark _))
 (psst_one (pst_ret (pet_op op_add_str (pet_op op_add_str (PET.of pe_str) (pet_replT (pet_replC (pe_ix ix_tup (pv 0) pe_int (fun _ _ => rfl))))) (PET.of pe_str))))
 psst_nil)
 (psst_cons (PST.of (ps_if (pt_cmpR op_eq (pv 1) pe_str (nomark _))
 (pss_one (ps_ret (pe_ix ix_tup (pv 0) pe_int (fun _ _ => rfl))))
 pss_nil))
 (psst_cons (PST.of (ps_if (pt_cmpR op_in_seq (pv 1) (pe_glob (v := .ref (He.ga K "BARE")) (by rfl) (T.glo 15 rfl) rfl) (by rfl))
 (pss_one (ps_ret (pv 1)))
 pss_nil))
 (psst_one (PST.of (ps_ret (pe_op op_add_str (pe_op op_add_str (pe_op op_add_str (pv 1) pe_str) (pe_join pe_str (pe_lc (own := [("inner", 2)]) (g := gName 2) (tt := tYes) (te := tCall (spPT n) [] (fun _ _ _ => False) (tCons (tVar 2) tNil)) (by rfl) scPT.nd (pi_tup (pe_slice sl_tup (pv 0) (po_some pe_int) po_none))
 (blkOk_by (own := [("inner", 2)]) (N := ["part", "kind", "inner"]) (sc := defScope s_part_text) (by decide +kernel)) (fun _ _ _ _ _ => pg_name (i := 2) scPT.nd rfl (Or.inl rfl)) (fun _ _ _ _ _ => pts_nil) (fun _ _ _ _ _ => (pe_has Hr (hr) pass0 (pa_cons (pv 2) pa_nil)))))) pe_str)))))))), ?_⟩
      obtain ⟨v, d, t, k, rfl, hd, wt, kn, tl, hQ⟩ := h
      rcases wt_node wt.inv with ⟨w0, ww, rfl, rfl⟩ | ⟨n0, nn, rfl, rfl⟩ | ⟨b, bm, rfl, rfl⟩ | ⟨kd, ds, ts, kp, kl, rfl, rfl, lts, l1, l2, kids⟩
      · obtain ⟨a, us, rfl, ha, r⟩ := Dx.tup_inv hd
        cases r with | @cons v1 _ _ _ q1 r1 =>
        obtain rfl := Dx.str_inv q1
        cases r1 with | @cons v2 _ _ _ q2 r2 =>
        obtain rfl := Dx.str_inv q2
        cases r2
        have l0 := wx_len ww
        have l4 := rep_len w0 (Str.ofString "~") (Str.ofString "~~") 40 l0 (by decide)
        have z2 : (Str.ofString "~~").length = 2 := rfl
        have z3 : (Str.ofString "~\"").length = 2 := rfl
        have ql := qt_len (cs w0)
        rw [cs_len] at ql
        refine ⟨_, rfl, a, _, 0, _, rfl, rfl, st_of ha, at0, ?_⟩
        refine ⟨_, rfl, rfl, _, rfl, ?_⟩
        rw [str_dec, decide_eq_true rfl]
        refine iteT ⟨_, rfl, a, _, 1, _, rfl, rfl, st_of ha, at1, w0, rfl, by rw [z2]; omega, _, rfl, by rw [z3]; omega, ?_⟩
        rw [quote_at]
        refine ⟨_, _, rfl, rfl, by rw [mkS_len, sizeLine_eq]; show 1 + _ ≤ _; omega, _, _, rfl, rfl, by rw [len_app, mkS_len, sizeLine_eq]; show 1 + _ + 1 ≤ _; omega, ?_⟩
        have e : Str.ofString "\"" ++ mkS (qt (cs w0)) ++ Str.ofString "\"" = mkS (34 :: (qt (cs w0) ++ [34])) := by
          rw [show Str.ofString "\"" = mkS [34] from rfl, mk_app, mk_app]
          rfl
        rw [e]
        exact hQ H (Same.refl _)
      · obtain ⟨a, us, rfl, ha, r⟩ := Dx.tup_inv hd
        cases r with | @cons v1 _ _ _ q1 r1 =>
        obtain rfl := Dx.str_inv q1
        cases r1 with | @cons v2 _ _ _ q2 r2 =>
        obtain rfl := Dx.str_inv q2
        cases r2
        refine ⟨_, rfl, a, _, 0, _, rfl, rfl, st_of ha, at0, ?_⟩
        refine ⟨_, rfl, rfl, _, rfl, ?_⟩
        rw [str_dec, decide_eq_false (by decide +kernel)]
        refine iteF ⟨_, rfl, rfl, _, rfl, ?_⟩
        rw [str_dec, decide_eq_true rfl]
        refine iteT ⟨_, rfl, a, _, 1, _, rfl, rfl, st_of ha, at1, ?_⟩
        have z := hQ H (Same.refl _)
        rw [mk_cs] at z
        exact z
      · obtain ⟨a, us, rfl, ha, r⟩ := Dx.tup_inv hd
        cases r with | @cons v1 _ _ _ q1 r1 =>
        obtain rfl := Dx.str_inv q1
        cases r1
        have z := hQ H (Same.refl _)
        rw [mk_cs] at z
        refine ⟨_, rfl, a, _, 0, _, rfl, rfl, st_of ha, at0, ?_⟩
        refine ⟨_, rfl, rfl, _, rfl, ?_⟩
        have b1 : b ≠ Str.ofString "text" := fun e => by rw [e] at bm; exact absurd bm (by decide +kernel)
        have b2 : b ≠ Str.ofString "name" := fun e => by rw [e] at bm; exact absurd bm (by decide +kernel)
        rw [str_dec, decide_eq_false b1]
        refine iteF ⟨_, rfl, rfl, _, rfl, ?_⟩
        rw [str_dec, decide_eq_false b2]
        refine iteF ⟨_, rfl, _, _, rfl, .inr (T.sBARE H), rfl, rfl, _, rfl, ?_⟩
        show if inV (V.str b) ((["many", "last"] : List Str).map V.str) = true then _ else _
        rw [in_strs, decide_eq_true bm]
        exact iteT ⟨_, rfl, z⟩
      · obtain ⟨a, us0, rfl, ha, r⟩ := Dx.tup_inv hd
        cases r with | @cons v1 us _ _ q1 r1 =>
        obtain rfl := Dx.str_inv q1
        have lus := dxAll_len r1
        have nb : ∀ b ∈ plainL, kd ≠ b := fun b m e => kp (by rw [e]; exact m)
        refine ⟨_, rfl, a, _, 0, _, rfl, rfl, st_of ha, at0, ?_⟩
        refine ⟨_, rfl, rfl, _, rfl, ?_⟩
        rw [str_dec, decide_eq_false (nb _ (by decide +kernel))]
        refine iteF ⟨_, rfl, rfl, _, rfl, ?_⟩
        rw [str_dec, decide_eq_false (nb _ (by decide +kernel))]
        refine iteF ⟨_, rfl, _, _, rfl, .inr (T.sBARE H), rfl, rfl, _, rfl, ?_⟩
        show if inV (V.str kd) ((["many", "last"] : List Str).map V.str) = true then _ else _
        rw [in_strs, decide_eq_false (fun m => kp (by
          simp only [List.mem_cons, List.not_mem_nil, or_false] at m ⊢
          rcases m with m | m
          · exact .inr (.inr (.inl m))
          · exact .inr (.inr (.inr m))))]
        have tjl : (TL.joinL [44, 32] ts).length ≤ 200000 := by
          simp only [List.length_append, List.length_cons] at tl
          omega
        have sumj := joinL_len [44, 32] ts
        refine iteF ⟨_, rfl, _, _, rfl, rfl, by show kd.length + 1 ≤ _; rw [sizeLine_eq]; omega, ⟨_, rfl⟩, _, rfl, _, rfl, a, _, rfl, st_of ha, cut1_ne, fun s0 ns0 => ?_⟩
        rw [cut1]
        have s1 := same_new (o := HO.tup us) ns0
        have es0 : upd H s0 (HO.tup us) s0 = some (.tup us) := upd_same
        have r2 := DxAll.same s1 _ _ r1
        generalize upd H s0 (HO.tup us) = H1 at s1 es0 r2 ⊢
        refine ⟨s0, rfl, ⟨_, st_of es0⟩, fun D nD => ?_⟩
        refine lc_gen (σ := [some (.ref a), some (.str kd), none]) (vs := [2]) (walk_tup (K := K) (a := s0) (xs := us)) nD (fun i acc H' => Same H1 H' ∧ acc = (((ts.take i).map mkS).map V.str)) ⟨Same.refl _, rfl⟩ (fun i acc H' _ z => st_of (same_delH _ _ (z.1 _ _ es0))) ?_ ?_
        · rintro i acc x H3 H4 hi l e ⟨sm, rfl⟩ ⟨rfl, hx⟩
          refine ⟨rfl, ?_⟩
          simp only [tYes, if_true]
          have hi2 : i < ds.length := by omega
          have hi3 : i < ts.length := by omega
          have di : ds[i]? = some ds[i] := List.getElem?_eq_getElem hi2
          have ti : ts[i]? = some ts[i] := List.getElem?_eq_getElem hi3
          obtain ⟨j, wj, jk⟩ := kids i _ _ di ti
          have up : Same H1 H4 := sm.trans same_delH
          have ml := mem_len (List.getElem_mem hi3)
          obtain ⟨n, rfl⟩ : ∃ m, n = m + 1 := ⟨n - 1, by omega⟩
          refine ⟨_, rfl, _, ds[i], ts[i], j, rfl, (r2.at hx di).sm up, wj, by omega, by omega, fun H5 s5 => ?_⟩
          refine lc_putS l (by rw [sizeLine_eq]; omega) (s5 _ _ e) ⟨sm.trans (same_del s5), ?_⟩
          rw [List.take_succ, ti, List.map_append, List.map_append]
          rfl
        · rintro acc H3 l e ⟨sm, rfl⟩
          have s3 : Same H1 H3 := sm.trans same_delH
          rw [lus, lts, List.take_length] at e
          refine ⟨_, D, ts.map mkS, rfl, rfl, .inl (sq_of e), ?_, ?_⟩
          · rw [List.map_map, List.length_map, show (Str.ofString ", ").length = 2 from rfl]
            have ee : (ts.map ((fun x : Str => x.length) ∘ mkS)) = ts.map (·.length) := List.map_congr_left fun t _ => mkS_len t
            have ee2 : (List.map ((fun x => x.length) ∘ mkS) ts).sum = (ts.map (·.length)).sum := by rw [← ee]
            rw [ee2]
            omega
          · rw [show Txt.join (Str.ofString ", ") (ts.map mkS) = mkS (TL.joinL [44, 32] ts) from SX.join_S [44, 32] ts]
            refine ⟨_, _, rfl, rfl, ?_, _, _, rfl, rfl, ?_, ?_⟩
            · rw [len_app, mkS_len, sizeLine_eq, show (Str.ofString "(").length = 1 from rfl]
              omega
            · rw [len_app, len_app, mkS_len, sizeLine_eq, show (Str.ofString "(").length = 1 from rfl, show (Str.ofString ")").length = 1 from rfl]
              omega
            · have z : kd ++ Str.ofString "(" ++ mkS (TL.joinL [44, 32] ts) ++ Str.ofString ")" = mkS (cs kd ++ 40 :: (TL.joinL [44, 32] ts ++ [41])) := by
                rw [show Str.ofString "(" = mkS [40] from rfl, show Str.ofString ")" = mkS [41] from rfl]
                conv => lhs; rw [mk_of kd]
                rw [mk_app, mk_app, mk_app]
                simp
              rw [z]
              exact hQ _ (s1.trans s3)
end
end K07

set_option maxHeartbeats 4000000
namespace K07
open PySem PySem.Spec PyProof.Rows L2 V1 V2 V3 V6 V9
open Evl (pss_cut tCut sq_of st_of)
theorem app_mk (x : Str) (l : List Nat) : x ++ mkS l = mkS (cs x ++ l) := by
  rw [← mk_app, mk_cs]
theorem app_cs (x y : Str) : x ++ y = mkS (cs x ++ cs y) := by
  rw [← mk_app, mk_cs, mk_cs]
abbrev vs_ (ls : List (List Nat)) : List V := ls.map fun l => V.str (mkS l)
section
variable [CurK]
def spSL : Nat → Sp
  | 0 => fun _ _ _ _ => False
  | n + 1 => fun vs H Q _ => ∃ v, ∃ s : V6.St, vs = [v] ∧ Dx H v s.d ∧ s.ok = true ∧ s.deep ≤ n + 1 ∧ s.deep ≤ 20 ∧ s.cnt ≤ 600 ∧ ∀ H' p, Same H H' → H p = none → H' p = some (.lst (vs_ (stL 0 s))) → Q (.ref p) H'
def spBL (n : Nat) : Sp := fun vs H Q _ => ∃ v bl, ∃ b : V6.Bd, vs = [v, .str (mkS bl)] ∧ Dx H v (.tuple b.ds) ∧ b.ok = true ∧ b.deep ≤ n ∧ b.deep ≤ 20 ∧ b.cnt ≤ 600 ∧ bl.length ≤ 2 ∧ ∀ H' p, Same H H' → H p = none → H' p = some (.lst (vs_ ((bdL 0 b).map (bl ++ ·)))) → Q (.ref p) H'
end
theorem scSL : FnScope ["statement", "kind", "first", "second"] ["statement"] (defScope s_statement_lines) := ⟨rfl, rfl, rfl, by decide +kernel, rfl, by decide +kernel, by decide +kernel⟩
theorem scBL : FnScope ["body", "blanks", "lines", "statement", "line"] ["body", "blanks"] (defScope s_body_lines) := ⟨rfl, rfl, rfl, by decide +kernel, rfl, by decide +kernel, by decide +kernel⟩
/-- the first statements of a body -/
def bdTake : Nat → V6.Bd → List (List Nat)
  | 0, _ => []
  | _ + 1, .nil => []
  | i + 1, .cons s b => stL 0 s ++ bdTake i b
theorem bd_get : ∀ {b : V6.Bd} {i : Nat} {d : PyData}, b.ds[i]? = some d → ∃ s : V6.St, d = s.d ∧ (b.ok = true → s.ok = true) ∧ s.deep ≤ b.deep ∧ s.cnt ≤ b.cnt ∧ s.lps ≤ b.lps ∧ bdTake (i + 1) b = bdTake i b ++ stL 0 s ∧ (bdTake (i + 1) b).length ≤ (bdL 0 b).length
  | .nil, i, d, h => by cases h
  | .cons s b, 0, d, h => by
    cases h
    refine ⟨s, rfl, fun o => ?_, ?_, ?_, ?_, ?_, ?_⟩
    · have z : s.ok = true ∧ b.ok = true := by simpa [Bd.ok] using o
      exact z.1
    · simp only [Bd.deep]; omega
    · simp only [Bd.cnt]; omega
    · simp only [Bd.lps]; omega
    · rw [bdTake, bdTake, bdTake, List.append_nil, List.nil_append]
    · rw [bdTake, bdTake, bdL, List.append_nil, List.length_append]; omega
  | .cons s b, i + 1, d, h => by
    obtain ⟨x, e, o, dp, c, l, tk, ln⟩ := bd_get (b := b) (i := i) (d := d) h
    refine ⟨x, e, fun o2 => o ?_, ?_, ?_, ?_, ?_, ?_⟩
    · have z : s.ok = true ∧ b.ok = true := by simpa [Bd.ok] using o2
      exact z.2
    · simp only [Bd.deep]; omega
    · simp only [Bd.cnt]; omega
    · simp only [Bd.lps]; omega
    · rw [bdTake, tk, bdTake, List.append_assoc]
    · rw [bdTake, bdL, List.length_append, List.length_append]; omega
theorem bdTake_all : ∀ b : V6.Bd, bdTake b.ds.length b = bdL 0 b
  | .nil => rfl
  | .cons s b => by
    show bdTake (b.ds.length + 1) (.cons s b) = _
    rw [bdTake, bdL, bdTake_all b]
section
variable [CurK] {P : Program} {w : World} {mg : Str → Option Value} {base : Heap}
theorem Tx.blanks (T : Tx K w mg) : ∃ t, mg "BLANKS" = some (.str "  " t) := by
  obtain ⟨h, X, G⟩ := T.h
  exact He.str_ok X G (T.c.fact 16 rfl)
theorem ok_bl (T : Tx K w mg) (n : Nat) (Hs : Has P w K mg base CX0 (2 * n + 24) "statement_lines" ["statement"] (spSL n)) : Has P w K mg base CX0 (2 * n + 25) "body_lines" ["body", "blanks"] (spBL n) := by
  obtain ⟨fd, F⟩ := T.c.def_ 14 (d := d_body_lines) rfl
  refine ⟨fd, F.ok scBL (fun vs H Q E h => ?_) (fun cdv A outer s H vs Q E hr h => ?_), FunD.bindsN F fun _ _ _ _ _ _ us hl => match us, hl with | [_, _], _ => rfl, F.kp, (T.glo 29 rfl)⟩
  · obtain ⟨v, bl, b, rfl, _⟩ := h
    rfl
  · refine ⟨_, PSs.nox (pss_cons (ps_set (i := 2) scBL.nd rfl (Or.inl rfl) (pe_lstS pa_nil))
 (pss_cons (ps_for PassesOwn.never rfl (pi_tup (pv 0)) (pg_name (i := 3) scBL.nd rfl (Or.inl rfl))
 (pss_one (ps_expr (pe_bm PySem.F.plainAttrs_list PySem.F.slot_list_extend PySem.F.type_list_extend mt_extend (pv 2) (pa_cons (pe_lc (own := [("line", 4)]) (g := gName 4) (tt := tYes) (te := tOp (fun x y H Q => ∃ i j, x = .str i ∧ y = .str j ∧ i.length + j.length ≤ sizeLine ∧ Q (.str (i ++ j)) H) (tVar 1) (tVar 4)) (by rfl) scBL.nd (pi_list (pe_has Hs (hr.mono (by omega)) pass0 (pa_cons (pv 3) pa_nil)))
 (blkOk_by (own := [("line", 4)]) (N := ["body", "blanks", "lines", "statement", "line"]) (sc := defScope s_body_lines) (by decide +kernel)) (fun _ _ _ _ _ => pg_name (i := 4) scBL.nd rfl (Or.inl rfl)) (fun _ _ _ _ _ => pts_nil) (fun _ _ _ _ _ => (pe_op op_add_str (pv 1) (pv 4)))) pa_nil)))))
 (pss_one (ps_ret (pv 2))))), ?_⟩
    obtain ⟨v, bl, b, rfl, hd, ok, dp, dp2, cn, bll, hQ⟩ := h
    obtain ⟨a, us, rfl, ha, r⟩ := Dx.tup_inv hd
    have lus := dxAll_len r
    obtain ⟨t1, t2⟩ := bdL_len b 0 ok
    refine ⟨(by show 0 ≤ sizeLine; decide), fun L nL _ => ?_⟩
    have s0 := same_new (o := HO.lst []) nL
    have eL : upd H L (HO.lst []) L = some (.lst []) := upd_same
    generalize upd H L (HO.lst []) = H1 at s0 eL ⊢
    refine ⟨_, rfl, a, rfl, ⟨_, st_of (s0 _ _ ha)⟩, ?_⟩
    refine for_it (walk_tup (K := K) (a := a) (xs := us)) (fun i σ H' => Same H H' ∧ (∃ o3 o4, σ = [some (.ref a), some (.str (mkS bl)), some (.ref L), o3, o4]) ∧ H' L = some (.lst (vs_ ((bdTake i b).map (bl ++ ·))))) ⟨s0, ⟨_, _, rfl⟩, eL⟩ (fun i σ H' _ z => st_of (z.1 _ _ ha)) ?_ ?_
    · rintro i x σ H2 H3 hi ⟨sm, ⟨o3, o4, rfl⟩, eL2⟩ ⟨rfl, hx⟩
      have hi2 : i < b.ds.length := by omega
      have di : b.ds[i]? = some b.ds[i] := List.getElem?_eq_getElem hi2
      obtain ⟨s, es, so, sd, sc, _, tk, ln⟩ := bd_get di
      have dv := (r.at hx di).sm sm
      rw [es] at dv
      obtain ⟨n, rfl⟩ : ∃ m, n = m + 1 := ⟨n - 1, by
        have : 1 ≤ s.deep := by cases s <;> simp only [St.deep] <;> omega
        omega⟩
      obtain ⟨u1, u2⟩ := stL_len s 0 (so ok)
      refine ⟨_, rfl, .inl ⟨rfl, _, sq_of eL2⟩, _, rfl, x, s, rfl, dv, so ok, by omega, by omega, by omega, fun H4 p s4 np ep => ?_⟩
      have smA := sm.trans s4
      have eL4 := s4 _ _ eL2
      refine ⟨p, rfl, ⟨_, sq_of ep⟩, fun D nD => ?_⟩
      refine lc_gen (σ := [some (.ref a), some (.str (mkS bl)), some (.ref L), some x, o4]) (vs := [4]) (walk_list (K := K) (a := p) (xs := vs_ (stL 0 s))) nD (fun i acc H' => Same H4 H' ∧ acc = vs_ (((stL 0 s).take i).map (bl ++ ·))) ⟨Same.refl _, rfl⟩ (fun i acc H' _ z => sq_of (same_delH _ _ (z.1 _ _ ep))) ?_ ?_
      · rintro k acc y H5 H6 hk l e ⟨sm5, rfl⟩ ⟨rfl, hy⟩
        refine ⟨rfl, ?_⟩
        simp only [tYes, if_true]
        rw [List.length_map] at hk
        have ky : (stL 0 s)[k]? = some (stL 0 s)[k] := List.getElem?_eq_getElem hk
        replace hy : (vs_ (stL 0 s))[k]? = some y := hy
        rw [List.getElem?_map, ky] at hy
        obtain rfl := Option.some.inj hy
        have yl := u2 _ (List.getElem_mem hk)
        refine ⟨_, rfl, _, rfl, _, _, rfl, rfl, by rw [mkS_len, mkS_len, sizeLine_eq]; omega, ?_⟩
        rw [mk_app]
        refine lc_putS l (by rw [sizeLine_eq]; omega) e ⟨sm5, ?_⟩
        rw [List.take_succ, ky, vs_, vs_, List.map_append, List.map_append]
        rfl
      · rintro acc H5 l e ⟨sm5, rfl⟩
        have s5 : Same H4 H5 := sm5.trans same_delH
        have eL5 := s5 _ _ eL4
        have ll : (vs_ (stL 0 s)).length = (stL 0 s).length := List.length_map ..
        rw [ll, List.take_length] at e
        refine ⟨L, D, _, _, rfl, rfl, eL5, e, by
          rw [tk, List.length_append] at ln
          rw [List.length_map, List.length_map, List.length_map, List.length_map, sizeLine_eq]
          omega, ?_⟩
        refine ⟨fun c o ec => ?_, ⟨_, _, rfl⟩, ?_⟩
        · rw [upd_ne (ne_of_none ec nL)]
          exact (smA.trans s5) _ _ ec
        · rw [upd_same, tk, vs_, vs_, vs_, List.map_append, List.map_append]
    · rintro σ H2 ⟨sm, ⟨o3, o4, rfl⟩, eL2⟩
      rw [lus, bdTake_all] at eL2
      exact ⟨_, rfl, hQ _ _ sm nL eL2⟩
theorem ok_sl (T : Tx K w mg) : ∀ n : Nat, Has P w K mg base CX0 (2 * n + 24) "statement_lines" ["statement"] (spSL n)
  | 0 => by
    obtain ⟨fd, F⟩ := T.c.def_ 15 (d := d_statement_lines) rfl
    exact ⟨fd, ⟨fun _ _ _ _ h => h.elim, fun _ _ _ _ _ _ _ _ _ _ _ _ _ h => h.elim⟩, FunD.bindsN F fun _ _ _ _ _ _ us hl => match us, hl with | [_], _ => rfl, F.kp, (T.glo 30 rfl)⟩
  | n + 1 => by
    obtain ⟨fd, F⟩ := T.c.def_ 15 (d := d_statement_lines) rfl
    have Hb := ok_bl T n (ok_sl T n)
    have Hp := ok_pt (P := P) (w := w) (base := base) T 21
    obtain ⟨tBL, gBL⟩ := T.blanks
    refine ⟨fd, F.ok scSL (fun vs H Q E h => ?_) (fun cdv A outer s H vs Q E hr h => ?_), FunD.bindsN F fun _ _ _ _ _ _ us hl => match us, hl with | [_], _ => rfl, F.kp, (T.glo 30 rfl)⟩
    · obtain ⟨v, s, rfl, _⟩ := h
      rfl
    · refine ⟨_, PSs.nox (pss_cons (ps_set (i := 1) scSL.nd rfl (Or.inl rfl) (pe_ix ix_tup (pv 0) pe_int (fun _ _ => rfl)))
 (pss_cons (ps_if (pt_cmpR op_eq (pv 1) pe_str (nomark _))
 (pss_one (ps_ret (pe_lstS (pa_cons (pe_op op_add_str pe_str (pe_has Hp (hr.mono (by omega)) pass0 (pa_cons (pe_ix ix_tup (pv 0) pe_int (fun _ _ => rfl)) pa_nil))) pa_nil))))
 pss_nil)
 (pss_cons (ps_if (pt_cmpR op_eq (pv 1) pe_str (nomark _))
 (pss_one (ps_ret (pe_lstS (pa_cons (pe_op op_add_str (pe_op op_add_str (pe_op op_add_str pe_str (pe_ix ix_tup (pv 0) pe_int (fun _ _ => rfl))) pe_str) (pe_has Hp (hr.mono (by omega)) pass0 (pa_cons (pe_ix ix_tup (pv 0) pe_int (fun _ _ => rfl)) pa_nil))) pa_nil))))
 pss_nil)
 (pss_cons (ps_if (pt_cmpR op_eq (pv 1) pe_str (nomark _))
 (pss_one (ps_ret (pe_lstS (pa_cons (pe_op op_add_str pe_str (pe_ix ix_tup (pv 0) pe_int (fun _ _ => rfl))) (StX.pa_star (pe_has Hb (hr.mono (by omega)) pass0 (pa_cons (pe_ix ix_tup (pv 0) pe_int (fun _ _ => rfl)) (pa_cons (pe_glob (v := .str "  ") (by rfl) gBL ⟨_, rfl⟩) pa_nil))) (pa_cons pe_str pa_nil))))))
 pss_nil)
 (pss_cons (ps_set (i := 2) scSL.nd rfl (Or.inl rfl) (pe_has Hb (hr.mono (by omega)) pass0 (pa_cons (pe_ix ix_tup (pv 0) pe_int (fun _ _ => rfl)) (pa_cons (pe_glob (v := .str "  ") (by rfl) gBL ⟨_, rfl⟩) pa_nil))))
 (pss_cons (ps_set (i := 3) scSL.nd rfl (Or.inl rfl) (pe_has Hb (hr.mono (by omega)) pass0 (pa_cons (pe_ix ix_tup (pv 0) pe_int (fun _ _ => rfl)) (pa_cons (pe_glob (v := .str "  ") (by rfl) gBL ⟨_, rfl⟩) pa_nil))))
 (pss_one (ps_ret (pe_lstS (pa_cons (pe_op op_add_str pe_str (pe_has Hp (hr.mono (by omega)) pass0 (pa_cons (pe_ix ix_tup (pv 0) pe_int (fun _ _ => rfl)) pa_nil))) (StX.pa_star (pv 2) (pa_cons pe_str (StX.pa_star (pv 3) (pa_cons pe_str pa_nil)))))))))))))), ?_⟩
      obtain ⟨v, st, rfl, hd, ok, dp, dp2, cn, hQ⟩ := h
      obtain ⟨t1, t2⟩ := stL_len st 0 ok
      have b2 : (Str.ofString "  ") = mkS (blk 1) := rfl
      cases st with
      | say e =>
        have el := ex_len e ok
        have d1 : 1 + e.deep ≤ 20 := dp2
        have c1 : 1 + e.cnt ≤ 600 := cn
        obtain ⟨a, us, rfl, ha, r⟩ := Dx.tup_inv hd
        cases r with | @cons v1 _ _ _ q1 r1 =>
        obtain rfl := Dx.str_inv q1
        cases r1 with | @cons v2 _ _ _ q2 r2 =>
        cases r2
        refine ⟨_, rfl, a, _, 0, _, rfl, rfl, st_of ha, at0, _, rfl, rfl, _, rfl, ?_⟩
        rw [str_dec, decide_eq_true rfl]
        refine iteT ⟨_, rfl, a, _, 1, _, rfl, rfl, st_of ha, at1, v2, e.d, exT e, e.deep, rfl, q2, .inl ⟨e, rfl, rfl, ok, rfl⟩, (show e.deep ≤ 20 by omega), by omega, fun H2 s2 => ?_⟩
        refine ⟨_, _, rfl, rfl, by rw [mkS_len, sizeLine_eq]; show 4 + _ ≤ _; omega, (by show 1 ≤ sizeLine; decide), fun q nq _ => hQ _ q (s2.trans (same_new nq)) (fresh_up s2 nq) ?_⟩
        rw [upd_same, show Str.ofString "say " ++ mkS (exT e) = mkS (cs "say " ++ exT e) from by rw [← mk_app, mk_cs]]
        rfl
      | let_ nm e =>
        have ok2 : nameX nm = true ∧ e.ok = true := by simpa [St.ok] using ok
        have el := ex_len e ok2.2
        have nl := name_len ok2.1
        rw [cs_len] at nl
        have d1 : 1 + e.deep ≤ 20 := dp2
        have c1 : 1 + e.cnt ≤ 600 := cn
        obtain ⟨a, us, rfl, ha, r⟩ := Dx.tup_inv hd
        cases r with | @cons v1 _ _ _ q1 r1 =>
        obtain rfl := Dx.str_inv q1
        cases r1 with | @cons v2 _ _ _ q2 r2 =>
        obtain rfl := Dx.str_inv q2
        cases r2 with | @cons v3 _ _ _ q3 r3 =>
        cases r3
        refine ⟨_, rfl, a, _, 0, _, rfl, rfl, st_of ha, at0, _, rfl, rfl, _, rfl, ?_⟩
        rw [str_dec, decide_eq_false (by decide +kernel)]
        refine iteF ⟨_, rfl, rfl, _, rfl, ?_⟩
        rw [str_dec, decide_eq_true rfl]
        refine iteT ⟨_, rfl, a, _, 1, _, rfl, rfl, st_of ha, at1, _, _, rfl, rfl, by rw [sizeLine_eq]; show 4 + _ ≤ _; omega, _, _, rfl, rfl, by rw [len_app, sizeLine_eq]; show 4 + _ + 1 ≤ _; omega, _, rfl, a, _, 2, _, rfl, rfl, st_of ha, at2, v3, e.d, exT e, e.deep, rfl, q3, .inl ⟨e, rfl, rfl, ok2.2, rfl⟩, (show e.deep ≤ 20 by omega), by omega, fun H2 s2 => ?_⟩
        refine ⟨_, _, rfl, rfl, by rw [len_app, len_app, mkS_len, sizeLine_eq]; show 4 + _ + 1 + _ ≤ _; omega, (by show 1 ≤ sizeLine; decide), fun q nq _ => hQ _ q (s2.trans (same_new nq)) (fresh_up s2 nq) ?_⟩
        have e1 : Str.ofString "let " ++ nm ++ Str.ofString " " ++ mkS (exT e) = mkS (cs "let " ++ (cs nm ++ 32 :: exT e)) := by
          rw [app_cs (Str.ofString "let ") nm, show Str.ofString " " = mkS [32] from rfl, mk_app, mk_app, List.append_assoc, List.append_assoc]
          rfl
        rw [upd_same, e1]
        rfl
      | each nm B =>
        have ok2 : nameX nm = true ∧ B.ok = true := by simpa [St.ok] using ok
        have nl := name_len ok2.1
        rw [cs_len] at nl
        have d1 : 1 + B.deep ≤ n + 1 := dp
        have d2 : 1 + B.deep ≤ 20 := dp2
        have c1 : 1 + B.cnt ≤ 600 := cn
        obtain ⟨t3, t4⟩ := bdL_len B 0 ok2.2
        obtain ⟨a, us, rfl, ha, r⟩ := Dx.tup_inv hd
        cases r with | @cons v1 _ _ _ q1 r1 =>
        obtain rfl := Dx.str_inv q1
        cases r1 with | @cons v2 _ _ _ q2 r2 =>
        obtain rfl := Dx.str_inv q2
        cases r2 with | @cons v3 _ _ _ q3 r3 =>
        cases r3
        refine ⟨_, rfl, a, _, 0, _, rfl, rfl, st_of ha, at0, _, rfl, rfl, _, rfl, ?_⟩
        rw [str_dec, decide_eq_false (by decide +kernel)]
        refine iteF ⟨_, rfl, rfl, _, rfl, ?_⟩
        rw [str_dec, decide_eq_false (by decide +kernel)]
        refine iteF ⟨_, rfl, rfl, _, rfl, ?_⟩
        rw [str_dec, decide_eq_true rfl]
        refine iteT ⟨_, rfl, a, _, 1, _, rfl, rfl, st_of ha, at1, _, _, rfl, rfl, by rw [sizeLine_eq]; show 5 + _ ≤ _; omega, _, rfl, a, _, 2, _, rfl, rfl, st_of ha, at2, v3, blk 1, B, by rw [← b2]; rfl, q3, ok2.2, by omega, by omega, by omega, (by decide), fun H2 p s2 np ep => ?_⟩
        refine ⟨p, _, rfl, .inr (sq_of ep), ?_, fun q nq _ => hQ _ q (s2.trans (same_new nq)) (fresh_up s2 nq) ?_⟩
        · rw [sizeLine_eq]
          simp only [List.length_cons, List.length_append, List.length_map, List.length_nil]
          omega
        · rw [upd_same, show Str.ofString "each " ++ nm = mkS (cs "each " ++ cs nm) from app_cs _ _]
          rw [stL, vs_, vs_, List.map_cons, List.map_append, List.map_cons, List.map_nil, bdL_map B 0]
          rfl
      | if_ c A B =>
        have ok2 : c.ok = true ∧ A.ok = true ∧ B.ok = true := by simpa [St.ok] using ok
        have cl := cn_len c ok2.1
        have d1 : 1 + max c.deep (max A.deep B.deep) ≤ n + 1 := dp
        have d2 : 1 + max c.deep (max A.deep B.deep) ≤ 20 := dp2
        have c1 : 1 + c.cnt + A.cnt + B.cnt ≤ 600 := cn
        obtain ⟨t3, t4⟩ := bdL_len A 0 ok2.2.1
        obtain ⟨t5, t6⟩ := bdL_len B 0 ok2.2.2
        obtain ⟨a, us, rfl, ha, r⟩ := Dx.tup_inv hd
        cases r with | @cons v1 _ _ _ q1 r1 =>
        obtain rfl := Dx.str_inv q1
        cases r1 with | @cons v2 _ _ _ q2 r2 =>
        cases r2 with | @cons v3 _ _ _ q3 r3 =>
        cases r3 with | @cons v4 _ _ _ q4 r4 =>
        cases r4
        refine ⟨_, rfl, a, _, 0, _, rfl, rfl, st_of ha, at0, _, rfl, rfl, _, rfl, ?_⟩
        rw [str_dec, decide_eq_false (by decide +kernel)]
        refine iteF ⟨_, rfl, rfl, _, rfl, ?_⟩
        rw [str_dec, decide_eq_false (by decide +kernel)]
        refine iteF ⟨_, rfl, rfl, _, rfl, ?_⟩
        rw [str_dec, decide_eq_false (by decide +kernel)]
        refine iteF ⟨_, rfl, a, _, 2, _, rfl, rfl, st_of ha, at2, v3, blk 1, A, by rw [← b2]; rfl, q3, ok2.2.1, by omega, by omega, by omega, (by decide), fun H2 p s2 np ep => ?_⟩
        refine ⟨_, rfl, a, _, 3, _, rfl, rfl, st_of (s2 _ _ ha), at3, v4, blk 1, B, by rw [← b2]; rfl, q4.sm s2, ok2.2.2, by omega, by omega, by omega, (by decide), fun H3 p2 s3 np2 ep2 => ?_⟩
        have s23 := s2.trans s3
        refine ⟨_, rfl, a, _, 1, _, rfl, rfl, st_of (s23 _ _ ha), at1, v2, c.d, cnT c, c.deep, rfl, q2.sm s23, .inr ⟨c, rfl, rfl, ok2.1, rfl⟩, (show c.deep ≤ 20 by omega), by omega, fun H4 s4 => ?_⟩
        have s24 := s23.trans s4
        refine ⟨_, _, rfl, rfl, by rw [mkS_len, sizeLine_eq]; show 3 + _ ≤ _; omega, _, rfl, p, _, rfl, .inr (sq_of (s4 _ _ (s3 _ _ ep))), _, rfl, p2, _, rfl, .inr (sq_of (s4 _ _ ep2)), ?_, fun q nq _ => hQ _ q (s24.trans (same_new nq)) (fresh_up s24 nq) ?_⟩
        · rw [sizeLine_eq]
          simp only [List.length_cons, List.length_append, List.length_map, List.length_nil]
          omega
        · rw [upd_same, show Str.ofString "if " ++ mkS (cnT c) = mkS (cs "if " ++ cnT c) from by rw [← mk_app, mk_cs]]
          rw [stL, vs_, vs_, vs_, List.map_cons, List.map_append, List.map_cons, List.map_append, List.map_cons, List.map_nil, bdL_map A 0, bdL_map B 0]
          rfl
end
end K07

set_option maxHeartbeats 4000000
namespace K07
open PySem PySem.Spec PyProof.Rows L2 V1 V2 V3 V6 V9
open V8 (tupD tupDs)
open Evl (pss_cut tCut sq_of st_of)
theorem passF {X : Cx} : Passes (L2.CX X.prog X.w) X (fun _ _ _ => False) := fun _ _ _ _ _ _ _ c => by
  obtain ⟨_, _, _, _, _, _, _, _, _, _, _, _, z⟩ := c
  exact z.elim
open V10 (PgOk)
section
variable [CurK]
def PgAt (H : Hp) (q : Addr) (b : V6.Bd) : Prop := ∃ dx v, H q = some (.ins (He.ga K "Program") dx [("statements", v)]) ∧ Dx H v (.tuple b.ds)
theorem PgAt.same {H H' : Hp} {q : Addr} {b : V6.Bd} (s : Same H H') (h : PgAt H q b) : PgAt H' q b := by
  obtain ⟨dx, v, h1, h2⟩ := h
  exact ⟨dx, v, s _ _ h1, h2.sm s⟩
/-- no program -/
def NoPg (H : Hp) (v : V) : Prop := ∃ t, TyX K H v t ∧ PySem.W.kitOne K t (.ref (He.ga K "Program")) = some false ∧ PySem.W.notFirst K (He.ga K "Program") t = true
def spPX : Sp := fun vs H Q E => (∃ q b, vs = [.ref q] ∧ PgAt H q b ∧ PgOk b ∧ ∀ H', Same H H' → Q (.str (mkS (bdT b))) H') ∨ ∃ v, vs = [v] ∧ NoPg H v ∧ E (.ref (He.ga K "NoProgram")) none H
def spPE : Sp := fun vs H Q _ => (∃ p q b c, vs = [.ref p, .ref q] ∧ PgAt H p b ∧ PgAt H q c ∧ PgOk b ∧ PgOk c ∧ Q (.bl (decide (bdT b = bdT c))) H) ∨ ∃ p v, vs = [.ref p, v] ∧ NoPg H v ∧ Q (.bl false) H
end
theorem scPX : FnScope ["program", "line"] ["program"] (defScope s_program_text) := ⟨rfl, rfl, rfl, by decide +kernel, rfl, by decide +kernel, by decide +kernel⟩
theorem scPE : FnScope ["self", "other"] ["self", "other"] (defScope s_Program__eq__) := ⟨rfl, rfl, rfl, by decide +kernel, rfl, by decide +kernel, by decide +kernel⟩
theorem join_nl : ∀ ls : List (List Nat), Txt.join (Str.ofString "") (ls.map fun l => mkS (l ++ [10])) = mkS (endL ls) := fun ls => by
  rw [join_chs]
  show (⟨_⟩ : Str) = ⟨_⟩
  congr 2
  induction ls with
  | nil => rfl
  | cons l ls ih =>
    rw [List.map_cons]
    show (mkS (l ++ [10])).cps.toList ++ chs _ = _
    rw [ih, endL, show (mkS (l ++ [10])).cps.toList = l ++ [10] from cs_mk _, List.append_assoc]
    rfl
section
variable [CurK] {P : Program} {w : World} {mg : Str → Option Value} {base : Heap}
theorem Tx.cPg (T : Tx K w mg) : Cls K (He.ga K "Program") := He.cls_ok (T.c.fact 89 rfl)
theorem Tx.nSt (T : Tx K w mg) : NoAttr K (He.ga K "Program") "statements" := He.noat_ok (T.c.fact 90 rfl)
theorem ok_ptext (T : Tx K w mg) : Has P w K mg base (L2.CX P w) 66 "program_text" ["program"] spPX := by
  obtain ⟨fd, F⟩ := T.c.def_ 16 (d := d_program_text) rfl
  have Hb := ok_bl (P := P) (w := w) (base := base) T 20 (ok_sl T 20)
  have cS := T.cPg
  have n1 := T.nSt
  have iC := (T.insK 0 (x := "Program") rfl).ins cS T.exs.2.2.2
  refine ⟨fd, F.ok scPX (fun vs H Q E h => ?_) (fun cdv A outer s H vs Q E hr h => ?_), FunD.bindsN F fun _ _ _ _ _ _ us hl => match us, hl with | [_], _ => rfl, F.kp, (T.glo 31 rfl)⟩
  · rcases h with ⟨q, b, rfl, _⟩ | ⟨v, rfl, _⟩ <;> rfl
  · refine ⟨_, (pss_cons (ps_if (pt_not (pt_val (pe_callB call_isi (by rfl) (T.free 75 rfl) (by decide +kernel) (pa_cons (pv 0) (pa_cons (pe_glob (v := .ref (He.ga K "Program")) (by rfl) (T.glo 27 rfl) rfl) pa_nil)))))
 (pss_one (ps_raise rfl (takes_of rfl rfl rfl rfl) (pmk_mk0 PySem.F.excBase_ValueError (T.exq 87 rfl).1 (T.glo 9 rfl) (T.exq 87 rfl).2 (T.rai 87 rfl) (by rfl))))
 pss_nil)
 (pss_one (ps_ret (pe_join pe_str (pe_lc (own := [("line", 1)]) (g := gName 1) (tt := tYes) (te := tOp (fun x y H Q => ∃ i j, x = .str i ∧ y = .str j ∧ i.length + j.length ≤ sizeLine ∧ Q (.str (i ++ j)) H) (tVar 1) (tC (.str "\n"))) (by rfl) scPX.nd (pi_list (pe_has Hb (hr.mono (by decide)) pass0 (pa_cons (L2.pe_fld (pv 0) (by rfl)) (pa_cons pe_str pa_nil))))
 (blkOk_by (own := [("line", 1)]) (N := ["program", "line"]) (sc := defScope s_program_text) (by decide +kernel)) (fun _ _ _ _ _ => pg_name (i := 1) scPX.nd rfl (Or.inl rfl)) (fun _ _ _ _ _ => pts_nil) (fun _ _ _ _ _ => (pe_op op_add_str (pv 1) pe_str))))))), ?_⟩
    rcases h with ⟨q, b, rfl, ⟨dx, v, hp, hv⟩, ok, hQ⟩ | ⟨v, rfl, ⟨t, ty, kn, _⟩, hE⟩
    case inr => exact ⟨_, rfl, _, .ref _, _, _, false, rfl, .own _, ty, kn, _, rfl, iteT hE⟩
    have cn := ok.cn
    have tl := bdT_len ok.ok ok.dp (by omega)
    obtain ⟨t1, t2⟩ := bdL_len b 0 ok.ok
    have dp := ok.dp
    refine ⟨_, rfl, _, .ref _, _, _, true, rfl, .own _, TyX_ins hp iC, iC.me, _, rfl, iteF ⟨⟨_, rfl⟩, ?_⟩⟩
    refine ⟨_, rfl, q, _, dx, _, v, rfl, hp, cS, n1, rfl, v, [], b, rfl, hv, ok.ok, dp, dp, by omega, (by decide), fun H2 p s2 np ep => ?_⟩
    rw [show ((bdL 0 b).map (([] : List Nat) ++ ·)) = bdL 0 b from by simp] at ep
    refine ⟨p, rfl, ⟨_, sq_of ep⟩, fun D nD => ?_⟩
    refine lc_gen (σ := [some (.ref q), none]) (vs := [1]) (walk_list (K := K) (a := p) (xs := vs_ (bdL 0 b))) nD (fun i acc H' => Same H2 H' ∧ acc = ((bdL 0 b).take i).map fun l => V.str (mkS (l ++ [10]))) ⟨Same.refl _, rfl⟩ (fun i acc H' _ z => sq_of (same_delH _ _ (z.1 _ _ ep))) ?_ ?_
    · rintro k acc y H5 H6 hk l e ⟨sm5, rfl⟩ ⟨rfl, hy⟩
      refine ⟨rfl, ?_⟩
      simp only [tYes, if_true]
      rw [List.length_map] at hk
      have ky : (bdL 0 b)[k]? = some (bdL 0 b)[k] := List.getElem?_eq_getElem hk
      replace hy : (vs_ (bdL 0 b))[k]? = some y := hy
      rw [List.getElem?_map, ky] at hy
      obtain rfl := Option.some.inj hy
      have yl := t2 _ (List.getElem_mem hk)
      refine ⟨_, rfl, _, _, rfl, rfl, by rw [mkS_len, sizeLine_eq]; show _ + 1 ≤ _; omega, ?_⟩
      rw [show Str.ofString "\n" = mkS [10] from rfl, mk_app]
      refine lc_putS l (by rw [sizeLine_eq]; omega) e ⟨sm5, ?_⟩
      rw [List.take_succ, ky, List.map_append]
      rfl
    · rintro acc H5 l e ⟨sm5, rfl⟩
      have s5 : Same H2 H5 := sm5.trans same_delH
      rw [show (vs_ (bdL 0 b)).length = (bdL 0 b).length from List.length_map .., List.take_length] at e
      refine ⟨_, D, (bdL 0 b).map fun l => mkS (l ++ [10]), rfl, rfl, .inl (sq_of (by rw [e, List.map_map]; rfl)), ?_, ?_⟩
      · rw [chs_len, show (Str.ofString "").length = 0 from rfl]
        have z := congrArg (fun s : Str => s.cps.toList.length) ((join_chs ((bdL 0 b).map fun l => mkS (l ++ [10]))).symm.trans (join_nl (bdL 0 b)))
        have z2 : (chs ((bdL 0 b).map fun l => mkS (l ++ [10]))).length = (endL (bdL 0 b)).length := by simpa [mkS] using z
        rw [z2]
        unfold bdT at tl
        omega
      · rw [join_nl]
        exact hQ _ (s2.trans s5)
theorem ok_peq (T : Tx K w mg) : ∃ fd, FnOk P w K mg base CX0 1 (He.ma K (He.ga K "Program") "__eq__") fd ["self", "other"] spPE ∧ Binds K fd ["self", "other"] [] := by
  obtain ⟨fd, F⟩ := T.c.def_ 53 (d := d_Program__eq__) rfl
  have cS := T.cPg
  have n1 := T.nSt
  have iC := (T.insK 0 (x := "Program") rfl).ins cS T.exs.2.2.2
  refine ⟨fd, F.ok scPE (fun vs H Q E h => ?_) (fun cdv A outer s H vs Q E hr h => ?_), FunD.bindsN F fun _ _ _ _ _ _ us hl => match us, hl with | [_, _], _ => rfl⟩
  · rcases h with ⟨p, q, b, c, rfl, _⟩ | ⟨p, v, rfl, _⟩ <;> rfl
  · refine ⟨_, PSs.nox (pss_one (ps_ret (pe_and (pe_callB call_isi (by rfl) (T.free 75 rfl) (by decide +kernel) (pa_cons (pv 1) (pa_cons (pe_glob (v := .ref (He.ga K "Program")) (by rfl) (T.glo 27 rfl) rfl) pa_nil))) (pe_one (pe_cmpR (op_eqD hr.units) (L2.pe_fld (pv 0) (by rfl)) (L2.pe_fld (pv 1) (by rfl)) (nomark _)))))), ?_⟩
    rcases h with ⟨p, q, b, c, rfl, ⟨dx, v, hp, hv⟩, ⟨dx', v', hp', hv'⟩, ob, oc, hQ⟩ | ⟨p, v, rfl, ⟨t, ty, kn, _⟩, hQ⟩
    case inr => exact ⟨_, rfl, _, .ref _, _, _, false, rfl, .own _, ty, kn, _, rfl, iteF hQ⟩
    refine ⟨_, rfl, _, .ref _, _, _, true, rfl, .own _, TyX_ins hp' iC, iC.me, _, rfl, iteT ?_⟩
    refine ⟨_, rfl, p, _, dx, _, v, rfl, hp, cS, n1, rfl, _, rfl, q, _, dx', _, v', rfl, hp', cS, n1, rfl, _, _, ?_, ?_, prog_shaped ob.ok ob.dp, prog_shaped oc.ok oc.dp, ?_⟩
    · exact prog_dp hv (bdS b ob.ok).1
    · exact prog_dp hv' (bdS c oc.ok).1
    · rw [alike ob.ok oc.ok]
      exact hQ
end
end K07

set_option maxHeartbeats 4000000
/-! V10b: how large a thing is as an e, a c, a statement, a body. -/
namespace V10
open PySem PySem.Spec PyProof.Rows L2 V1 V2 V3 V5 V6 V9
def lowC (c : Nat) : Bool := decide (97 ≤ c) && decide (c ≤ 122)
theorem low_all : ∀ c, c < 128 → (Unicode.isAlpha c && !(Unicode.isUpper c || Unicode.isTitle c)) = lowC c := by decide +kernel
theorem low_is : ∀ c, c < 128 → lowC c = true → Unicode.isLower c = true := by decide +kernel
theorem letters_low {x : Str} (h : 1 ≤ x.length) : (Txt.isascii x && (Txt.isalpha x && Txt.islower x)) = x.cps.toList.all lowC := by
  have l : x.cps.toList.length = x.length := by simp [Str.length]
  rw [Bool.eq_iff_iff]
  simp only [Bool.and_eq_true]
  constructor
  · rintro ⟨h1, h2, h3⟩
    have a1 : x.cps.all (· < 128) = true := h1
    have a2 : x.cps.all Unicode.isAlpha = true := by
      unfold Txt.isalpha at h2
      exact (Bool.and_eq_true_iff.mp h2).2
    have a3 : (x.cps.any fun c => Unicode.isUpper c || Unicode.isTitle c) = false := by
      unfold Txt.islower at h3
      simpa using (Bool.and_eq_true_iff.mp h3).2
    rw [← Array.all_toList, List.all_eq_true] at a1 a2
    rw [← Array.any_toList, List.any_eq_false] at a3
    rw [List.all_eq_true]
    intro c hc
    have b1 := of_decide_eq_true (a1 c hc)
    have b2 := a2 c hc
    have b3 := a3 c hc
    rw [← low_all c b1, b2, Bool.eq_false_iff.mpr b3]
    rfl
  · intro al
    rw [List.all_eq_true] at al
    have b1 : ∀ c ∈ x.cps.toList, c < 128 := fun c hc => by
      have z := al c hc
      simp only [lowC, Bool.and_eq_true, decide_eq_true_eq] at z
      omega
    have b2 : ∀ c ∈ x.cps.toList, Unicode.isAlpha c = true ∧ (Unicode.isUpper c || Unicode.isTitle c) = false := fun c hc => by
      have z := (low_all c (b1 c hc)).trans (al c hc)
      simpa using z
    refine ⟨?_, ?_, ?_⟩
    · show x.cps.all (· < 128) = true
      rw [← Array.all_toList, List.all_eq_true]
      exact fun c hc => decide_eq_true (b1 c hc)
    · unfold Txt.isalpha
      simp only [Bool.and_eq_true]
      refine ⟨?_, ?_⟩
      · have ne : x.cps.size ≠ 0 := by have : x.cps.size = x.length := rfl; omega
        simpa [Str.length] using Nat.pos_of_ne_zero ne
      · rw [← Array.all_toList, List.all_eq_true]
        exact fun c hc => (b2 c hc).1
    · unfold Txt.islower
      simp only [Bool.and_eq_true]
      refine ⟨?_, ?_⟩
      · rw [← Array.any_toList, List.any_eq_true]
        have ne : x.cps.toList ≠ [] := fun z => by rw [z] at l; simp at l; omega
        obtain ⟨c, cs', e⟩ := List.exists_cons_of_ne_nil ne
        have hc : c ∈ x.cps.toList := by rw [e]; exact List.mem_cons_self
        exact ⟨c, hc, low_is c (b1 c hc) (al c hc)⟩
      · simp only [Bool.not_eq_true']
        rw [← Array.any_toList, List.any_eq_false]
        exact fun c hc => by rw [(b2 c hc).2]; decide
abbrev S2 := Option (Nat × Nat)
abbrev S3 := Option (Nat × Nat × Nat)
def both1 : S2 → S2
  | some p => some (1 + p.1, max 1 (1 + p.2))
  | none => none
def both2 : S2 → S2 → S2
  | some p, some q => some (1 + p.1 + q.1, max (max 1 (1 + p.2)) (1 + q.2))
  | _, _ => none
def eS : PyData → S2
  | .tuple [.str k] => if k = "many" ∨ k = "last" then some (1, 1) else none
  | .tuple [.str k, x] => if k = "text" then (if wordD x = true then some (1, 1) else none) else if k = "name" then (if nameD x = true then some (1, 1) else none) else if k = "turn" ∨ k = "rest" ∨ k = "first" then both1 (eS x) else none
  | .tuple [.str k, x, y] => if k = "join" then both2 (eS x) (eS y) else none
  | _ => none
def cS : PyData → S2
  | .tuple [.str k, x] => if k = "not" then both1 (cS x) else none
  | .tuple [.str k, x, y] => if k = "same" ∨ k = "ahead" ∨ k = "in" then both2 (eS x) (eS y) else none
  | _ => none
def with0 : S2 → S3
  | some p => some (p.1, p.2, 0)
  | none => none
def each3 : S3 → S3
  | some p => some (1 + p.1, 1 + p.2.1, 1 + p.2.2)
  | none => none
def if3 : S2 → S3 → S3 → S3
  | some p, some q, some r => some (1 + p.1 + q.1 + r.1, 1 + max (max p.2 q.2.1) r.2.1, max q.2.2 r.2.2)
  | _, _, _ => none
def add3 : S3 → S3 → S3
  | some p, some q => some (p.1 + q.1, max p.2.1 q.2.1, max p.2.2 q.2.2)
  | _, _ => none
mutual
def sS : PyData → S3
  | .tuple [.str k, x] => if k = "say" then with0 (both1 (eS x)) else none
  | .tuple [.str k, x, y] => if k = "let" then (if nameD x = true then with0 (both1 (eS y)) else none) else if k = "each" then (if nameD x = true then each3 (bS y) else none) else none
  | .tuple [.str k, x, y, z] => if k = "if" then if3 (cS x) (bS y) (bS z) else none
  | _ => none
def bS : PyData → S3
  | .tuple ds => lS ds
  | _ => none
/-- of statements, the last one last -/
def lS : List PyData → S3
  | [] => some (0, 0, 0)
  | d :: ds => match sS d, lS ds with
    | some p, some q => some (p.1 + q.1, max p.2.1 q.2.1, max p.2.2 q.2.2)
    | _, _ => none
end
theorem eS_ok : ∀ e : Ex, e.ok = true → eS e.d = some (e.cnt, e.deep)
  | .text w, ok => by
    have z : wordD (.str w) = true := ok
    simp [Ex.d, eS, z, Ex.cnt, Ex.deep]
  | .name w, ok => by
    have z : nameD (.str w) = true := ok
    rw [Ex.d, eS, if_neg (by decide +kernel), if_pos rfl, if_pos z]
    rfl
  | .join a b, ok => by
    simp only [Ex.ok, Bool.and_eq_true] at ok
    rw [Ex.d, eS, if_pos rfl, eS_ok a ok.1, eS_ok b ok.2]
    exact congrArg some (Prod.ext rfl (show max (max 1 (1 + a.deep)) (1 + b.deep) = 1 + max a.deep b.deep by omega))
  | .turn a, ok => by
    rw [Ex.d, eS, if_neg (by decide +kernel), if_neg (by decide +kernel), if_pos (by decide +kernel), eS_ok a ok]
    exact congrArg some (Prod.ext rfl (show max 1 (1 + a.deep) = 1 + a.deep by omega))
  | .rest a, ok => by
    rw [Ex.d, eS, if_neg (by decide +kernel), if_neg (by decide +kernel), if_pos (by decide +kernel), eS_ok a ok]
    exact congrArg some (Prod.ext rfl (show max 1 (1 + a.deep) = 1 + a.deep by omega))
  | .first a, ok => by
    rw [Ex.d, eS, if_neg (by decide +kernel), if_neg (by decide +kernel), if_pos (by decide +kernel), eS_ok a ok]
    exact congrArg some (Prod.ext rfl (show max 1 (1 + a.deep) = 1 + a.deep by omega))
  | .many, _ => by
    rw [Ex.d, eS, if_pos (by decide +kernel)]
    rfl
  | .last, _ => by
    rw [Ex.d, eS, if_pos (by decide +kernel)]
    rfl
theorem cS_ok : ∀ e : Cn, e.ok = true → cS e.d = some (e.cnt, e.deep)
  | .same a b, ok => by
    simp only [Cn.ok, Bool.and_eq_true] at ok
    rw [Cn.d, cS, if_pos (by decide +kernel), eS_ok a ok.1, eS_ok b ok.2]
    exact congrArg some (Prod.ext rfl (show max (max 1 (1 + a.deep)) (1 + b.deep) = 1 + max a.deep b.deep by omega))
  | .ahead a b, ok => by
    simp only [Cn.ok, Bool.and_eq_true] at ok
    rw [Cn.d, cS, if_pos (by decide +kernel), eS_ok a ok.1, eS_ok b ok.2]
    exact congrArg some (Prod.ext rfl (show max (max 1 (1 + a.deep)) (1 + b.deep) = 1 + max a.deep b.deep by omega))
  | .inn a b, ok => by
    simp only [Cn.ok, Bool.and_eq_true] at ok
    rw [Cn.d, cS, if_pos (by decide +kernel), eS_ok a ok.1, eS_ok b ok.2]
    exact congrArg some (Prod.ext rfl (show max (max 1 (1 + a.deep)) (1 + b.deep) = 1 + max a.deep b.deep by omega))
  | .not a, ok => by
    rw [Cn.d, cS, if_pos (by decide +kernel), cS_ok a ok]
    exact congrArg some (Prod.ext rfl (show max 1 (1 + a.deep) = 1 + a.deep by omega))
mutual
theorem sS_ok : ∀ s : V6.St, s.ok = true → sS s.d = some (s.cnt, s.deep, s.lps)
  | .say e, ok => by
    rw [V6.St.d, sS, if_pos (by decide +kernel), eS_ok e ok]
    exact congrArg some (Prod.ext rfl (Prod.ext (show max 1 (1 + e.deep) = 1 + e.deep by omega) rfl))
  | .let_ x e, ok => by
    simp only [V6.St.ok, Bool.and_eq_true] at ok
    have z : nameD (.str x) = true := ok.1
    rw [V6.St.d, sS, if_pos (by decide +kernel), if_pos z, eS_ok e ok.2]
    exact congrArg some (Prod.ext rfl (Prod.ext (show max 1 (1 + e.deep) = 1 + e.deep by omega) rfl))
  | .if_ c a b, ok => by
    simp only [V6.St.ok, Bool.and_eq_true] at ok
    rw [V6.St.d, sS, if_pos (by decide +kernel), cS_ok c ok.1, bS, bS, lS_ok a ok.2.1, lS_ok b ok.2.2]
    exact congrArg some (Prod.ext rfl (Prod.ext (show 1 + max (max c.deep a.deep) b.deep = 1 + max c.deep (max a.deep b.deep) by omega) rfl))
  | .each x b, ok => by
    simp only [V6.St.ok, Bool.and_eq_true] at ok
    have z : nameD (.str x) = true := ok.1
    rw [V6.St.d, sS, if_neg (by decide +kernel), if_pos (by decide +kernel), if_pos z, bS, lS_ok b ok.2]
    rfl
theorem lS_ok : ∀ b : V6.Bd, b.ok = true → lS b.ds = some (b.cnt, b.deep, b.lps)
  | .nil, _ => by rw [Bd.ds, lS]; rfl
  | .cons s b, ok => by
    simp only [Bd.ok, Bool.and_eq_true] at ok
    rw [Bd.ds, lS, sS_ok s ok.1, lS_ok b ok.2]
    rfl
end
theorem both1_inv {o : S2} {p : Nat × Nat} (h : both1 o = some p) : ∃ q, o = some q ∧ p.1 = 1 + q.1 ∧ p.2 = max 1 (1 + q.2) := by
  cases o with
  | none => cases h
  | some q =>
    cases h
    exact ⟨q, rfl, rfl, rfl⟩
theorem both2_inv {o o' : S2} {p : Nat × Nat} (h : both2 o o' = some p) : ∃ q r, o = some q ∧ o' = some r ∧ p.1 = 1 + q.1 + r.1 ∧ p.2 = max (max 1 (1 + q.2)) (1 + r.2) := by
  cases o with
  | none => cases h
  | some q =>
    cases o' with
    | none => cases h
    | some r =>
      cases h
      exact ⟨q, r, rfl, rfl, rfl, rfl⟩
theorem eS_inv (d : PyData) : ∀ p, eS d = some p → ∃ e : Ex, e.ok = true ∧ d = e.d ∧ p = (e.cnt, e.deep) := by
  fun_induction eS d with
  | case1 k h =>
    rintro p ⟨⟩
    rcases h with rfl | rfl
    · exact ⟨.many, rfl, rfl, rfl⟩
    · exact ⟨.last, rfl, rfl, rfl⟩
  | case2 k h => rintro p ⟨⟩
  | case3 x h =>
    rintro p ⟨⟩
    cases x with
    | str w => exact ⟨.text w, h, rfl, rfl⟩
    | _ => cases h
  | case4 x h => rintro p ⟨⟩
  | case5 x h n1 =>
    rintro p ⟨⟩
    cases x with
    | str w => exact ⟨.name w, h, rfl, rfl⟩
    | _ => cases h
  | case6 x n1 h => rintro p ⟨⟩
  | case7 k x n1 n2 h ih =>
    intro p hp
    obtain ⟨q, hq, e1, e2⟩ := both1_inv hp
    obtain ⟨e, ok, rfl, rfl⟩ := ih q hq
    have pe : p = (1 + e.cnt, 1 + e.deep) := Prod.ext e1 (by rw [e2]; show max 1 (1 + e.deep) = 1 + e.deep; omega)
    rcases h with rfl | rfl | rfl
    · exact ⟨.turn e, ok, rfl, pe⟩
    · exact ⟨.rest e, ok, rfl, pe⟩
    · exact ⟨.first e, ok, rfl, pe⟩
  | case8 k x n1 n2 h => rintro p ⟨⟩
  | case9 x y ih1 ih2 =>
    intro p hp
    obtain ⟨q, r, hq, hr, e1, e2⟩ := both2_inv hp
    obtain ⟨e, ok, rfl, rfl⟩ := ih1 q hq
    obtain ⟨f, of, rfl, rfl⟩ := ih2 r hr
    exact ⟨.join e f, by simp [Ex.ok, ok, of], rfl, Prod.ext e1 (by rw [e2]; show max (max 1 (1 + e.deep)) (1 + f.deep) = 1 + max e.deep f.deep; omega)⟩
  | case10 k x y h => rintro p ⟨⟩
  | case11 d h1 h2 h3 => rintro p ⟨⟩
theorem cS_inv (d : PyData) : ∀ p, cS d = some p → ∃ e : Cn, e.ok = true ∧ d = e.d ∧ p = (e.cnt, e.deep) := by
  fun_induction cS d with
  | case1 x ih =>
    intro p hp
    obtain ⟨q, hq, e1, e2⟩ := both1_inv hp
    obtain ⟨e, ok, rfl, rfl⟩ := ih q hq
    exact ⟨.not e, ok, rfl, Prod.ext e1 (by rw [e2]; show max 1 (1 + e.deep) = 1 + e.deep; omega)⟩
  | case2 k x h => rintro p ⟨⟩
  | case3 k x y h =>
    intro p hp
    obtain ⟨q, r, hq, hr, e1, e2⟩ := both2_inv hp
    obtain ⟨e, ok, rfl, rfl⟩ := eS_inv x q hq
    obtain ⟨f, of, rfl, rfl⟩ := eS_inv y r hr
    have pe : p = (1 + e.cnt + f.cnt, 1 + max e.deep f.deep) := Prod.ext e1 (by rw [e2]; show max (max 1 (1 + e.deep)) (1 + f.deep) = 1 + max e.deep f.deep; omega)
    rcases h with rfl | rfl | rfl
    · exact ⟨.same e f, by simp [Cn.ok, ok, of], rfl, pe⟩
    · exact ⟨.ahead e f, by simp [Cn.ok, ok, of], rfl, pe⟩
    · exact ⟨.inn e f, by simp [Cn.ok, ok, of], rfl, pe⟩
  | case4 k x y h => rintro p ⟨⟩
  | case5 d h1 h2 => rintro p ⟨⟩
theorem name_inv {x : PyData} (h : nameD x = true) : ∃ w, x = .str w ∧ nameX w = true := by
  cases x with
  | str w => exact ⟨w, rfl, h⟩
  | _ => cases h
theorem with0_inv {o : S2} {p : Nat × Nat × Nat} (h : with0 o = some p) : ∃ q, o = some q ∧ p = (q.1, q.2, 0) := by
  cases o with
  | none => cases h
  | some q =>
    cases h
    exact ⟨q, rfl, rfl⟩
mutual
theorem sS_inv : ∀ (d : PyData) (p : Nat × Nat × Nat), sS d = some p → ∃ s : V6.St, s.ok = true ∧ d = s.d ∧ p = (s.cnt, s.deep, s.lps)
  | .tuple [.str k, x], p, h => by
    rw [sS] at h
    by_cases e : k = "say"
    · rw [if_pos e] at h
      obtain ⟨q, hq, rfl⟩ := with0_inv h
      obtain ⟨r, hr, e1, e2⟩ := both1_inv hq
      obtain ⟨f, ok, rfl, rfl⟩ := eS_inv x r hr
      exact ⟨.say f, ok, by rw [e]; rfl, Prod.ext e1 (Prod.ext (by show q.2 = _; rw [e2]; show max 1 (1 + f.deep) = 1 + f.deep; omega) rfl)⟩
    · rw [if_neg e] at h
      cases h
  | .tuple [.str k, x, y], p, h => by
    rw [sS] at h
    by_cases e : k = "let"
    · rw [if_pos e] at h
      by_cases n : nameD x = true
      · rw [if_pos n] at h
        obtain ⟨w, rfl, nw⟩ := name_inv n
        obtain ⟨q, hq, rfl⟩ := with0_inv h
        obtain ⟨r, hr, e1, e2⟩ := both1_inv hq
        obtain ⟨f, ok, rfl, rfl⟩ := eS_inv y r hr
        exact ⟨.let_ w f, by simp [V6.St.ok, nw, ok], by rw [e]; rfl, Prod.ext e1 (Prod.ext (by show q.2 = _; rw [e2]; show max 1 (1 + f.deep) = 1 + f.deep; omega) rfl)⟩
      · rw [if_neg n] at h
        cases h
    · rw [if_neg e] at h
      by_cases e' : k = "each"
      · rw [if_pos e'] at h
        by_cases n : nameD x = true
        · rw [if_pos n] at h
          obtain ⟨w, rfl, nw⟩ := name_inv n
          cases hb : bS y with
          | none =>
            rw [hb] at h
            cases h
          | some q =>
            obtain ⟨b, ob, rfl, rfl⟩ := bS_inv y q hb
            rw [hb] at h
            cases h
            exact ⟨.each w b, by simp [V6.St.ok, nw, ob], by rw [e']; rfl, rfl⟩
        · rw [if_neg n] at h
          cases h
      · rw [if_neg e'] at h
        cases h
  | .tuple [.str k, x, y, z], p, h => by
    rw [sS] at h
    by_cases e : k = "if"
    · rw [if_pos e] at h
      cases hc : cS x with
      | none => rw [hc] at h; cases h
      | some q =>
      cases hy : bS y with
      | none => rw [hc, hy] at h; cases h
      | some r =>
      cases hz : bS z with
      | none => rw [hc, hy, hz] at h; cases h
      | some t =>
      obtain ⟨c, oc, rfl, rfl⟩ := cS_inv x q hc
      obtain ⟨b1, ob1, rfl, rfl⟩ := bS_inv y r hy
      obtain ⟨b2, ob2, rfl, rfl⟩ := bS_inv z t hz
      rw [hc, hy, hz] at h
      cases h
      exact ⟨.if_ c b1 b2, by simp [V6.St.ok, oc, ob1, ob2], by rw [e]; rfl, Prod.ext rfl (Prod.ext (show 1 + max (max c.deep b1.deep) b2.deep = 1 + max c.deep (max b1.deep b2.deep) by omega) rfl)⟩
    · rw [if_neg e] at h
      cases h
  | .none, p, h => by simp [sS] at h
  | .bool _, p, h => by simp [sS] at h
  | .int _, p, h => by simp [sS] at h
  | .str _, p, h => by simp [sS] at h
  | .list _, p, h => by simp [sS] at h
  | .dict _, p, h => by simp [sS] at h
  | .tuple [], p, h => by simp [sS] at h
  | .tuple [.str _], p, h => by simp [sS] at h
  | .tuple (.none :: _), p, h => by simp [sS] at h
  | .tuple (.bool _ :: _), p, h => by simp [sS] at h
  | .tuple (.int _ :: _), p, h => by simp [sS] at h
  | .tuple (.list _ :: _), p, h => by simp [sS] at h
  | .tuple (.tuple _ :: _), p, h => by simp [sS] at h
  | .tuple (.dict _ :: _), p, h => by simp [sS] at h
  | .tuple (.str _ :: _ :: _ :: _ :: _ :: _), p, h => by simp [sS] at h
theorem bS_inv : ∀ (d : PyData) (p : Nat × Nat × Nat), bS d = some p → ∃ b : V6.Bd, b.ok = true ∧ d = .tuple b.ds ∧ p = (b.cnt, b.deep, b.lps)
  | .tuple ds, p, h => by
    rw [bS] at h
    obtain ⟨b, ob, e, hp⟩ := lS_inv ds p h
    exact ⟨b, ob, by rw [e], hp⟩
  | .none, p, h => by simp [bS] at h
  | .bool _, p, h => by simp [bS] at h
  | .int _, p, h => by simp [bS] at h
  | .str _, p, h => by simp [bS] at h
  | .list _, p, h => by simp [bS] at h
  | .dict _, p, h => by simp [bS] at h
theorem lS_inv : ∀ (ds : List PyData) (p : Nat × Nat × Nat), lS ds = some p → ∃ b : V6.Bd, b.ok = true ∧ ds = b.ds ∧ p = (b.cnt, b.deep, b.lps)
  | [], p, h => by
    rw [lS] at h
    cases h
    exact ⟨.nil, rfl, rfl, rfl⟩
  | d :: ds, p, h => by
    rw [lS] at h
    cases hd : sS d with
    | none => rw [hd] at h; cases h
    | some q =>
    cases hl : lS ds with
    | none => rw [hd, hl] at h; cases h
    | some r =>
    obtain ⟨s, os, rfl, rfl⟩ := sS_inv d q hd
    obtain ⟨b, ob, rfl, rfl⟩ := lS_inv ds r hl
    rw [hd, hl] at h
    cases h
    exact ⟨.cons s b, by simp [Bd.ok, os, ob], by simp [Bd.ds], rfl⟩
end
/-- by the sizes -/
def progS (d : PyData) : Bool := match bS d with
  | some p => decide (p.1 ≤ 500) && (decide (p.2.1 ≤ 20) && decide (p.2.2 ≤ 2))
  | none => false
theorem progS_is (d : PyData) : progS d = true ↔ ProgD d := by
  constructor
  · intro h
    unfold progS at h
    cases hb : bS d with
    | none => rw [hb] at h; cases h
    | some p =>
      obtain ⟨b, ob, rfl, rfl⟩ := bS_inv d p hb
      rw [hb] at h
      simp only [Bool.and_eq_true, decide_eq_true_eq] at h
      exact ⟨b, ⟨ob, h.2.1, h.2.2, h.1⟩, rfl⟩
  · rintro ⟨b, ok, rfl⟩
    unfold progS
    rw [bS, lS_ok b ok.ok]
    simp only [Bool.and_eq_true, decide_eq_true_eq]
    exact ⟨ok.cn, ok.dp, ok.lp⟩
theorem add3_none (o : S3) : add3 o none = none := by cases o <;> rfl
theorem lS_cons (d : PyData) (ds : List PyData) : lS (d :: ds) = add3 (sS d) (lS ds) := by
  rw [lS]
  cases sS d <;> cases lS ds <;> rfl
theorem add3_assoc (a b c : S3) : add3 (add3 a b) c = add3 a (add3 b c) := by
  cases a <;> cases b <;> cases c <;> first | rfl | skip
  exact congrArg some (Prod.ext (Nat.add_assoc ..) (Prod.ext (Nat.max_assoc ..) (Nat.max_assoc ..)))
theorem lS_snoc (d : PyData) : ∀ ds : List PyData, lS (ds ++ [d]) = add3 (lS ds) (sS d)
  | [] => by
    rw [List.nil_append, lS_cons, lS]
    cases sS d with
    | none => rfl
    | some p => exact congrArg some (Prod.ext (by simp) (Prod.ext (by simp) (by simp)))
  | e :: ds => by
    rw [List.cons_append, lS_cons, lS_cons, lS_snoc d ds, add3_assoc]
end V10

set_option maxHeartbeats 4000000
/-! V10c: depth of things; sizes added up; sizes on the heap. -/
namespace V10
open PySem PySem.Spec PyProof.Rows L2 V1 V2 V3 V5 V6 V9
mutual
def dp : PyData → Nat
  | .tuple ds => 1 + dps ds
  | .list ds => 1 + dps ds
  | _ => 0
def dps : List PyData → Nat
  | [] => 0
  | d :: ds => max (dp d) (dps ds)
end
theorem dps_mem {d : PyData} : ∀ {ds : List PyData}, d ∈ ds → dp d ≤ dps ds
  | e :: ds, h => by
    rw [dps]
    rcases List.mem_cons.mp h with rfl | h
    · exact Nat.le_max_left _ _
    · exact Nat.le_trans (dps_mem h) (Nat.le_max_right _ _)
theorem dp_mem {d : PyData} {ds : List PyData} (h : d ∈ ds) : dp d + 1 ≤ dp (.tuple ds) := by
  have := dps_mem h
  rw [dp]
  omega
theorem dps_app : ∀ a b : List PyData, dps (a ++ b) = max (dps a) (dps b)
  | [], b => by simp [dps]
  | d :: a, b => by
    rw [List.cons_append, dps, dps, dps_app a b, Nat.max_assoc]
theorem szs_mem {d : PyData} : ∀ {ds : List PyData}, d ∈ ds → sz d ≤ szs ds
  | e :: ds, h => by
    rw [szs]
    rcases List.mem_cons.mp h with rfl | h
    · omega
    · have := szs_mem h
      omega
theorem sz_mem {d : PyData} {ds : List PyData} (h : d ∈ ds) : sz d + 1 ≤ sz (.tuple ds) := by
  have := szs_mem h
  rw [sz]
  omega
theorem len_szs : ∀ ds : List PyData, ds.length ≤ szs ds
  | [] => Nat.le_refl _
  | d :: ds => by
    have h1 := sz1 d
    have h2 := len_szs ds
    rw [List.length_cons, szs]
    omega
theorem len_sz (ds : List PyData) : ds.length + 1 ≤ sz (.tuple ds) := by
  have := len_szs ds
  rw [sz]
  omega
def bothF : Nat × Nat → List S2 → S2
  | acc, [] => some acc
  | _, none :: _ => none
  | acc, some p :: l => bothF (acc.1 + p.1, max acc.2 (1 + p.2)) l
theorem bothF_1 (o : S2) : bothF (1, 1) [o] = both1 o := by
  cases o <;> rfl
theorem bothF_2 (o p : S2) : bothF (1, 1) [o, p] = both2 o p := by
  cases o <;> cases p <;> rfl
def SzV (H : Hp) (u : V) : S2 → Prop
  | none => u = .non
  | some p => ∃ t, u = .ref t ∧ H t = some (.tup [.int ((p.1 : Nat) : Int), .int ((p.2 : Nat) : Int)])
theorem SzV.same {H H' : Hp} (s : Same H H') {u : V} : ∀ {o : S2}, SzV H u o → SzV H' u o
  | none, h => h
  | some p, ⟨t, e, h⟩ => ⟨t, e, s _ _ h⟩
def Sz3 (H : Hp) (u : V) : S3 → Prop
  | none => u = .non
  | some p => ∃ t, u = .ref t ∧ H t = some (.tup [.int ((p.1 : Nat) : Int), .int ((p.2.1 : Nat) : Int), .int ((p.2.2 : Nat) : Int)])
theorem Sz3.same {H H' : Hp} (s : Same H H') {u : V} : ∀ {o : S3}, Sz3 H u o → Sz3 H' u o
  | none, h => h
  | some p, ⟨t, e, h⟩ => ⟨t, e, s _ _ h⟩
structure SzL (H : Hp) (us : List V) (os : List S2) : Prop where
  len : us.length = os.length
  at_ : ∀ (i : Nat) (u : V) (o : S2), us[i]? = some u → os[i]? = some o → SzV H u o
theorem SzL.nil {H : Hp} : SzL H [] [] := ⟨rfl, fun i u o a => by cases a⟩
theorem SzL.same {H H' : Hp} (s : Same H H') {us : List V} {os : List S2} (h : SzL H us os) : SzL H' us os := ⟨h.len, fun i u o a b => (h.at_ i u o a b).same s⟩
theorem SzL.snoc {H : Hp} {us : List V} {os : List S2} {u : V} {o : S2} (h : SzL H us os) (k : SzV H u o) : SzL H (us ++ [u]) (os ++ [o]) := by
  refine ⟨by rw [List.length_append, List.length_append, h.len]; rfl, fun i v p a b => ?_⟩
  by_cases e : i < us.length
  · rw [List.getElem?_append_left e] at a
    rw [List.getElem?_append_left (by rw [← h.len]; exact e)] at b
    exact h.at_ i v p a b
  · rw [List.getElem?_append_right (by omega)] at a
    rw [List.getElem?_append_right (by rw [← h.len]; omega), ← h.len] at b
    generalize i - us.length = j at a b
    cases j with
    | zero => cases a; cases b; exact k
    | succ j => cases a
end V10

set_option maxHeartbeats 4000000
/-! V10d: the sizes by the sort and the parts. -/
namespace V10
open PySem PySem.Spec PyProof.Rows L2 V1 V2 V3 V5 V6 V9
def sortD : PyData → Str
  | .tuple (.str k :: _) => k
  | _ => Str.ofString ""
theorem sort_inv {d : PyData} {k : Str} (h : sortD d = k) (n : k ≠ Str.ofString "") : ∃ rest, d = .tuple (.str k :: rest) := by
  unfold sortD at h
  split at h
  · rename_i j r
    exact ⟨r, by rw [h]⟩
  · exact absurd h.symm n
theorem e_bare {k : Str} (h : k ∈ ([Str.ofString "many", Str.ofString "last"] : List Str)) : ∀ rest : List PyData, eS (.tuple (.str k :: rest)) = if rest.length = 0 then some (1, 1) else none := by
  have h' : k = "many" ∨ k = "last" := by simpa using h
  intro rest
  match rest with
  | [] =>
    rw [eS, if_pos h']
    rfl
  | [x] =>
    rw [eS, if_neg (by rcases h' with rfl | rfl <;> decide +kernel), if_neg (by rcases h' with rfl | rfl <;> decide +kernel), if_neg (by rcases h' with rfl | rfl <;> decide +kernel), if_neg (by simp)]
  | [x, y] =>
    rw [eS, if_neg (by rcases h' with rfl | rfl <;> decide +kernel), if_neg (by simp)]
  | x :: y :: z :: r => simp [eS]
theorem e_two {k : Str} (h : k ∈ ([Str.ofString "text", Str.ofString "name"] : List Str)) : (∀ rest : List PyData, rest.length ≠ 1 → eS (.tuple (.str k :: rest)) = none) ∧ ∀ x, eS (.tuple [.str k, x]) = if (if k = "text" then wordD x else nameD x) = true then some (1, 1) else none := by
  have h' : k = "text" ∨ k = "name" := by simpa using h
  constructor
  · intro rest n
    match rest, n with
    | [], _ => rw [eS, if_neg (by rcases h' with rfl | rfl <;> decide +kernel)]
    | [x], n => exact absurd rfl n
    | [x, y], _ => rw [eS, if_neg (by rcases h' with rfl | rfl <;> decide +kernel)]
    | x :: y :: z :: r, _ => simp [eS]
  · intro x
    rw [eS]
    rcases h' with rfl | rfl
    · rw [if_pos rfl, if_pos rfl]
    · have ne : ¬ (Str.ofString "name" = Str.ofString "text") := by decide +kernel
      rw [if_neg ne, if_pos rfl, if_neg ne]
theorem e_one {k : Str} (h : k ∈ ([Str.ofString "turn", Str.ofString "rest", Str.ofString "first"] : List Str)) : (∀ rest : List PyData, rest.length ≠ 1 → eS (.tuple (.str k :: rest)) = none) ∧ ∀ x, eS (.tuple [.str k, x]) = both1 (eS x) := by
  have h' : k = "turn" ∨ k = "rest" ∨ k = "first" := by simpa using h
  constructor
  · intro rest n
    match rest, n with
    | [], _ => rw [eS, if_neg (by rcases h' with rfl | rfl | rfl <;> decide +kernel)]
    | [x], n => exact absurd rfl n
    | [x, y], _ => rw [eS, if_neg (by rcases h' with rfl | rfl | rfl <;> decide +kernel)]
    | x :: y :: z :: r, _ => simp [eS]
  · intro x
    rw [eS, if_neg (by rcases h' with rfl | rfl | rfl <;> decide +kernel), if_neg (by rcases h' with rfl | rfl | rfl <;> decide +kernel), if_pos h']
theorem e_join : (∀ rest : List PyData, rest.length ≠ 2 → eS (.tuple (.str "join" :: rest)) = none) ∧ ∀ x y, eS (.tuple [.str "join", x, y]) = both2 (eS x) (eS y) := by
  constructor
  · intro rest n
    match rest, n with
    | [], _ => rw [eS, if_neg (by decide +kernel)]
    | [x], _ => rw [eS, if_neg (by decide +kernel), if_neg (by decide +kernel), if_neg (by decide +kernel)]
    | [x, y], n => exact absurd rfl n
    | x :: y :: z :: r, _ => simp [eS]
  · intro x y
    rw [eS, if_pos rfl]
theorem e_else {d : PyData} (h1 : ¬ sortD d ∈ ([Str.ofString "many", Str.ofString "last"] : List Str)) (h2 : ¬ sortD d ∈ ([Str.ofString "text", Str.ofString "name"] : List Str)) (h3 : ¬ sortD d ∈ ([Str.ofString "turn", Str.ofString "rest", Str.ofString "first", Str.ofString "join"] : List Str)) : eS d = none := by
  have g1 : ¬ (sortD d = "many" ∨ sortD d = "last") := by simpa using h1
  have g2 : ¬ (sortD d = "text" ∨ sortD d = "name") := by simpa using h2
  have g3 : ¬ (sortD d = "turn" ∨ sortD d = "rest" ∨ sortD d = "first" ∨ sortD d = "join") := by simpa using h3
  fun_cases eS d with
  | case1 k h => exact absurd h g1
  | case2 k h => rfl
  | case3 x h => exact absurd (.inl rfl) g2
  | case4 x h => rfl
  | case5 x h n => exact absurd (.inr rfl) g2
  | case6 x h n => rfl
  | case7 k x n1 n2 h => exact absurd (by rcases h with h | h | h; exact .inl h; exact .inr (.inl h); exact .inr (.inr (.inl h))) g3
  | case8 k x n1 n2 h => rfl
  | case9 x y => exact absurd (.inr (.inr (.inr rfl))) g3
  | case10 k x y h => rfl
  | case11 => rfl
theorem c_not : (∀ rest : List PyData, rest.length ≠ 1 → cS (.tuple (.str "not" :: rest)) = none) ∧ ∀ x, cS (.tuple [.str "not", x]) = both1 (cS x) := by
  constructor
  · intro rest n
    match rest, n with
    | [], _ => simp [cS]
    | [x], n => exact absurd rfl n
    | [x, y], _ => rw [cS, if_neg (by decide +kernel)]
    | x :: y :: z :: r, _ => simp [cS]
  · intro x
    rw [cS, if_pos rfl]
theorem c_two {k : Str} (h : k ∈ ([Str.ofString "same", Str.ofString "ahead", Str.ofString "in"] : List Str)) : (∀ rest : List PyData, rest.length ≠ 2 → cS (.tuple (.str k :: rest)) = none) ∧ ∀ x y, cS (.tuple [.str k, x, y]) = both2 (eS x) (eS y) := by
  have h' : k = "same" ∨ k = "ahead" ∨ k = "in" := by simpa using h
  constructor
  · intro rest n
    match rest, n with
    | [], _ => simp [cS]
    | [x], _ => rw [cS, if_neg (by rcases h' with rfl | rfl | rfl <;> decide +kernel)]
    | [x, y], n => exact absurd rfl n
    | x :: y :: z :: r, _ => simp [cS]
  · intro x y
    rw [cS, if_pos h']
theorem c_else {d : PyData} (h1 : ¬ sortD d = "not") (h2 : ¬ sortD d ∈ ([Str.ofString "same", Str.ofString "ahead", Str.ofString "in"] : List Str)) : cS d = none := by
  have g2 : ¬ (sortD d = "same" ∨ sortD d = "ahead" ∨ sortD d = "in") := by simpa using h2
  fun_cases cS d with
  | case1 x => exact absurd rfl h1
  | case2 k x h => rfl
  | case3 k x y h => exact absurd h g2
  | case4 k x y h => rfl
  | case5 => rfl
theorem s_say : (∀ rest : List PyData, rest.length ≠ 1 → sS (.tuple (.str "say" :: rest)) = none) ∧ ∀ x, sS (.tuple [.str "say", x]) = with0 (both1 (eS x)) := by
  constructor
  · intro rest n
    match rest, n with
    | [], _ => simp [sS]
    | [x], n => exact absurd rfl n
    | [x, y], _ => rw [sS, if_neg (by decide +kernel), if_neg (by decide +kernel)]
    | [x, y, z], _ => rw [sS, if_neg (by decide +kernel)]
    | x :: y :: z :: u :: r, _ => simp [sS]
  · intro x
    rw [sS, if_pos rfl]
theorem s_let : (∀ rest : List PyData, rest.length ≠ 2 → sS (.tuple (.str "let" :: rest)) = none) ∧ ∀ x y, sS (.tuple [.str "let", x, y]) = if nameD x = true then with0 (both1 (eS y)) else none := by
  constructor
  · intro rest n
    match rest, n with
    | [], _ => simp [sS]
    | [x], _ => rw [sS, if_neg (by decide +kernel)]
    | [x, y], n => exact absurd rfl n
    | [x, y, z], _ => rw [sS, if_neg (by decide +kernel)]
    | x :: y :: z :: u :: r, _ => simp [sS]
  · intro x y
    rw [sS, if_pos rfl]
theorem s_each : (∀ rest : List PyData, rest.length ≠ 2 → sS (.tuple (.str "each" :: rest)) = none) ∧ ∀ x y, sS (.tuple [.str "each", x, y]) = if nameD x = true then each3 (bS y) else none := by
  constructor
  · intro rest n
    match rest, n with
    | [], _ => simp [sS]
    | [x], _ => rw [sS, if_neg (by decide +kernel)]
    | [x, y], n => exact absurd rfl n
    | [x, y, z], _ => rw [sS, if_neg (by decide +kernel)]
    | x :: y :: z :: u :: r, _ => simp [sS]
  · intro x y
    rw [sS, if_neg (by decide +kernel), if_pos rfl]
theorem s_if : (∀ rest : List PyData, rest.length ≠ 3 → sS (.tuple (.str "if" :: rest)) = none) ∧ ∀ x y z, sS (.tuple [.str "if", x, y, z]) = if3 (cS x) (bS y) (bS z) := by
  constructor
  · intro rest n
    match rest, n with
    | [], _ => simp [sS]
    | [x], _ => rw [sS, if_neg (by decide +kernel)]
    | [x, y], _ => rw [sS, if_neg (by decide +kernel), if_neg (by decide +kernel)]
    | [x, y, z], n => exact absurd rfl n
    | x :: y :: z :: u :: r, _ => simp [sS]
  · intro x y z
    rw [sS, if_pos rfl]
theorem s_else {d : PyData} (h1 : ¬ sortD d = "say") (h2 : ¬ sortD d = "let") (h3 : ¬ sortD d = "each") (h4 : ¬ sortD d = "if") : sS d = none := by
  by_cases e : ∃ k rest, d = .tuple (.str k :: rest)
  · obtain ⟨k, rest, rfl⟩ := e
    have g1 : ¬ k = "say" := h1
    have g2 : ¬ k = "let" := h2
    have g3 : ¬ k = "each" := h3
    have g4 : ¬ k = "if" := h4
    match rest with
    | [] => simp [sS]
    | [x] => rw [sS, if_neg g1]
    | [x, y] => rw [sS, if_neg g2, if_neg g3]
    | [x, y, z] => rw [sS, if_neg g4]
    | x :: y :: z :: u :: r => simp [sS]
  · match d, e with
    | .none, _ => simp [sS]
    | .bool _, _ => simp [sS]
    | .int _, _ => simp [sS]
    | .str _, _ => simp [sS]
    | .list _, _ => simp [sS]
    | .dict _, _ => simp [sS]
    | .tuple [], _ => simp [sS]
    | .tuple (.none :: _), _ => simp [sS]
    | .tuple (.bool _ :: _), _ => simp [sS]
    | .tuple (.int _ :: _), _ => simp [sS]
    | .tuple (.list _ :: _), _ => simp [sS]
    | .tuple (.tuple _ :: _), _ => simp [sS]
    | .tuple (.dict _ :: _), _ => simp [sS]
    | .tuple (.str k :: r), e => exact absurd ⟨k, r, rfl⟩ e
end V10

set_option maxHeartbeats 4000000
namespace K07
open PySem PySem.Spec PyProof.Rows L2 V1 V2 V3 V6 V9
open Evl (pss_cut tCut sq_of st_of)
def spLIsWord [CurK] : Sp := fun vs H Q _ => ∃ v d, vs = [v] ∧ Dx H v d ∧ shortD d ∧ ∀ H', Same H H' → Q (.bl (wordD d)) H'
def spLIsName [CurK] : Sp := fun vs H Q _ => ∃ v d, vs = [v] ∧ Dx H v d ∧ shortD d ∧ ∀ H', Same H H' → Q (.bl (nameD d)) H'
open V10 (sortD PgOk)
def spSort [CurK] : Sp := fun vs H Q _ => ∃ v d, vs = [v] ∧ Dx H v d ∧ Q (.str (sortD d)) H
theorem scLIsWord : FnScope ["thing", "sign"] ["thing"] (defScope s__law_is_word) := ⟨rfl, rfl, rfl, by decide +kernel, rfl, by decide +kernel, by decide +kernel⟩
theorem scLIsName : FnScope ["thing", "sign"] ["thing"] (defScope s__law_is_name) := ⟨rfl, rfl, rfl, by decide +kernel, rfl, by decide +kernel, by decide +kernel⟩
theorem scSort : FnScope ["thing"] ["thing"] (defScope s__law_sort) := ⟨rfl, rfl, rfl, by decide +kernel, rfl, by decide +kernel, by decide +kernel⟩
section
variable [CurK] {P : Program} {w : World} {mg : Str → Option Value} {base : Heap}
theorem ok_lisword (T : Tx K w mg) : Has P w K mg base CX0 1 "_law_is_word" ["thing"] spLIsWord := by
  obtain ⟨fd, F⟩ := T.c.def_ 31 (d := d__law_is_word) rfl
  refine ⟨fd, F.ok scLIsWord (fun vs H Q E h => ?_) (fun cdv A outer s H vs Q E hr h => ?_), FunD.bindsN F fun _ _ _ _ _ _ us hl => match us, hl with | [_], _ => rfl, F.kp, (T.glo 49 rfl)⟩
  · obtain ⟨v, d, rfl, _⟩ := h
    rfl
  · refine ⟨_, PSs.nox (pss_one (ps_ret (pe_and (pe_callB call_isi (by rfl) (T.free 75 rfl) (by decide +kernel) (pa_cons (pv 0) (pa_cons (pe_bltn (v := .ty "str") (by rfl) (T.free 80 rfl) (by decide +kernel) rfl) pa_nil))) (pe_and (pe_cmpR op_le (pe_callB call_len (by rfl) (T.free 76 rfl) PySem.boot_len (pa_cons (pv 0) pa_nil)) pe_int (nomark _)) (pe_one (pe_callB (cr_all rfl) (by rfl) (T.free 70 rfl) (by decide +kernel) (pa_cons (pe_lc (own := [("sign", 1)]) (g := gName 1) (tt := tYes) (te := tChain rLeTx rLeTx (tC (.str " ")) (tVar 1) (tC (.str "~"))) (by rfl) scLIsWord.nd (pi_str (pv 0))
 (blkOk_by (own := [("sign", 1)]) (N := ["thing", "sign"]) (sc := defScope s__law_is_word) (by decide +kernel)) (fun _ _ _ _ _ => pg_name (i := 1) scLIsWord.nd rfl (Or.inl rfl)) (fun _ _ _ _ _ => pts_nil) (fun _ _ _ _ _ => (pe_chain op_le_str op_le_str pe_str (pv 1) pe_str))) pa_nil))))))), ?_⟩
    obtain ⟨v, d, rfl, hd, hs, hQ⟩ := h
    refine isx_go (kx_str d) (fun Q q => ⟨v, rfl, q⟩) hd ⟨_, rfl, ite2 (fun e => ?_) (fun e => ?_)⟩
    · cases d with
      | str x =>
        obtain rfl := Dx.str_inv hd
        have hs' : x.length ≤ 12000000 := hs
        have wx' : wordD (.str x) = (decide (x.length ≤ 40) && PrOk x) := wordX_pr x
        refine ⟨_, rfl, _, _, rfl, (show LenV K (.str x) H x.length from ⟨Nat.le_trans hs' (by decide), rfl⟩), _, _, rfl, rfl, _, rfl, ite2 (fun e1 => ?_) (fun e1 => ?_)⟩
        · have l1 : x.length ≤ 40 := by
            have z := of_decide_eq_true e1
            omega
          rw [wx', decide_eq_true l1, Bool.true_and] at hQ
          refine ⟨_, rfl, x, rfl, fun D nD => ?_⟩
          refine lc_gen (σ := [some (.str x), none]) (vs := [1]) (walk_str (z := x)) nD (fun i acc H' => Same H H' ∧ acc = ((x.cps.toList.take i).map prC).map V.bl) ⟨Same.refl H, rfl⟩ (fun _ _ _ _ _ => True.intro) ?_ ?_
          · rintro i acc y H1 H2 hi l e2 ⟨sm, rfl⟩ ⟨rfl, c, hc, rfl⟩
            have hc' : x.cps.toList[i]? = some c := by rw [Array.getElem?_toList]; exact hc
            refine ⟨rfl, ?_⟩
            simp only [tYes, if_true]
            have h1 : (!decide ((⟨#[c]⟩ : Str).cps.toList < (Str.ofString " ").cps.toList)) = decide (32 ≤ c) := le_one 32 c
            have h2 : (!decide ((Str.ofString "~").cps.toList < (⟨#[c]⟩ : Str).cps.toList)) = decide (c ≤ 126) := le_one c 126
            have li : i < 1000 := by have : x.cps.size ≤ 40 := l1; omega
            refine ⟨_, rfl, _, _, rfl, rfl, _, rfl, ?_⟩
            rw [h1]
            refine ite2 (fun z => ⟨_, _, rfl, rfl, ?_⟩) (fun z => ?_)
            · rw [h2]
              have pf : decide (c ≤ 126) = prC c := by unfold prC; rw [z, Bool.true_and]
              rw [pf]
              exact lc_put l (by omega) e2 ⟨sm, by rw [List.take_succ, hc', List.map_append, List.map_append]; rfl⟩
            · have pf : prC c = false := by unfold prC; rw [Bool.eq_false_iff.mpr z, Bool.false_and]
              exact lc_put l (by omega) e2 ⟨sm, by rw [List.take_succ, hc', List.map_append, List.map_append]; show _ = _ ++ [V.bl (prC c)]; rw [pf]⟩
          · rintro acc H2 l e2 ⟨sm, rfl⟩
            rw [List.take_of_length_le (by simp)] at e2
            refine ⟨D, x.cps.toList.map prC, rfl, sq_of e2, ?_⟩
            have z : PrOk x = (x.cps.toList.map prC).all id := by
              unfold PrOk
              rw [List.all_map, ← Array.all_toList]
              rfl
            rw [← z]
            exact hQ H2 (sm.trans same_delH)
        · have l1 : ¬ x.length ≤ 40 := fun z => e1 (decide_eq_true (by omega))
          rw [wx', decide_eq_false l1, Bool.false_and] at hQ
          exact hQ H (Same.refl H)
      | _ => cases e
    · cases d <;> first | exact hQ H (Same.refl H) | exact absurd rfl e
theorem ok_lisname (T : Tx K w mg) : Has P w K mg base CX0 1 "_law_is_name" ["thing"] spLIsName := by
  obtain ⟨fd, F⟩ := T.c.def_ 32 (d := d__law_is_name) rfl
  refine ⟨fd, F.ok scLIsName (fun vs H Q E h => ?_) (fun cdv A outer s H vs Q E hr h => ?_), FunD.bindsN F fun _ _ _ _ _ _ us hl => match us, hl with | [_], _ => rfl, F.kp, (T.glo 50 rfl)⟩
  · obtain ⟨v, d, rfl, _⟩ := h
    rfl
  · refine ⟨_, PSs.nox (pss_cons (ps_if (PW.pt (pw_or (pt_not (pt_val (pe_callB call_isi (by rfl) (T.free 75 rfl) (by decide +kernel) (pa_cons (pv 0) (pa_cons (pe_bltn (v := .ty "str") (by rfl) (T.free 80 rfl) (by decide +kernel) rfl) pa_nil))))) (pw_or (pt_not (pt_chain op_le op_le pe_int (pe_callB call_len (by rfl) (T.free 76 rfl) PySem.boot_len (pa_cons (pv 0) pa_nil)) pe_int)) (pw_or1 (pt_cmpR op_in_seq (pv 0) (pe_lstS (pa_cons pe_str (pa_cons pe_str pa_nil))) (by rfl))))))
 (pss_one (ps_ret pe_bl))
 pss_nil)
 (pss_one (ps_ret (pe_callB (cr_all rfl) (by rfl) (T.free 70 rfl) (by decide +kernel) (pa_cons (pe_lc (own := [("sign", 1)]) (g := gName 1) (tt := tYes) (te := tChain rLeTx rLeTx (tC (.str "a")) (tVar 1) (tC (.str "z"))) (by rfl) scLIsName.nd (pi_str (pv 0))
 (blkOk_by (own := [("sign", 1)]) (N := ["thing", "sign"]) (sc := defScope s__law_is_name) (by decide +kernel)) (fun _ _ _ _ _ => pg_name (i := 1) scLIsName.nd rfl (Or.inl rfl)) (fun _ _ _ _ _ => pts_nil) (fun _ _ _ _ _ => (pe_chain op_le_str op_le_str pe_str (pv 1) pe_str))) pa_nil))))), ?_⟩
    obtain ⟨v, d, rfl, hd, hs, hQ⟩ := h
    obtain ⟨ty, tyx, kk⟩ := kx_of (kx_str d) hd
    refine ⟨_, rfl, v, .ty "str", _, _, _, rfl, .ty "str", tyx, kk, _, rfl, ?_⟩
    cases hS : isStr d with
    | false =>
      have z : nameD d = false := by cases d <;> first | rfl | cases hS
      rw [z] at hQ
      exact iteT (iteT (hQ H (Same.refl H)))
    | true =>
    obtain ⟨x, rfl⟩ : ∃ x, d = .str x := by cases d <;> first | exact ⟨_, rfl⟩ | cases hS
    obtain rfl := Dx.str_inv hd
    have hs' : x.length ≤ 12000000 := hs
    refine iteF ⟨_, rfl, _, _, rfl, (show LenV K (.str x) H x.length from ⟨Nat.le_trans hs' (by decide), rfl⟩), _, _, rfl, rfl, _, rfl, ?_⟩
    have nx : nameD (.str x) = (((decide (1 ≤ x.length) && decide (x.length ≤ 8)) && (Txt.isascii x && (Txt.isalpha x && Txt.islower x))) && !decide (x ∈ [("many" : Str), "last"])) := rfl
    rw [nx] at hQ
    by_cases l1 : 1 ≤ x.length
    case neg =>
      rw [decide_eq_false l1, Bool.false_and, Bool.false_and, Bool.false_and] at hQ
      rw [show decide ((1 : Int) ≤ ((x.length : Nat) : Int)) = false from decide_eq_false (by omega)]
      exact iteF ⟨_, rfl, iteT (hQ H (Same.refl H))⟩
    rw [decide_eq_true l1, Bool.true_and] at hQ
    rw [show decide ((1 : Int) ≤ ((x.length : Nat) : Int)) = true from decide_eq_true (by omega)]
    refine iteT ⟨_, _, rfl, rfl, _, rfl, ?_⟩
    by_cases l8 : x.length ≤ 8
    case neg =>
      rw [decide_eq_false l8, Bool.false_and, Bool.false_and] at hQ
      rw [show decide (((x.length : Nat) : Int) ≤ 8) = false from decide_eq_false (by omega)]
      exact iteT (hQ H (Same.refl H))
    rw [decide_eq_true l8, Bool.true_and, V10.letters_low l1] at hQ
    rw [show decide (((x.length : Nat) : Int) ≤ 8) = true from decide_eq_true (by omega)]
    refine iteF ⟨_, rfl, (by show 2 ≤ sizeLine; decide), fun q nq _ => ⟨q, _, rfl, .inl (sq_of upd_same), rfl, rfl, _, rfl, ?_⟩⟩
    show if inV (V.str x) (([Str.ofString "many", Str.ofString "last"] : List Str).map V.str) = true then _ else _
    rw [in_strs]
    have s1 := same_new (o := HO.lst (([Str.ofString "many", Str.ofString "last"] : List Str).map V.str)) nq
    by_cases m : x ∈ ([Str.ofString "many", Str.ofString "last"] : List Str)
    · rw [decide_eq_true m]
      rw [decide_eq_true m, Bool.not_true, Bool.and_false] at hQ
      exact iteT (hQ _ s1)
    rw [decide_eq_false m, Bool.not_false, Bool.and_true] at hQ
    rw [decide_eq_false m]
    refine iteF ?_
    show tNext _ _ (upd H q (HO.lst (([Str.ofString "many", Str.ofString "last"] : List Str).map V.str)))
    generalize upd H q (HO.lst (([Str.ofString "many", Str.ofString "last"] : List Str).map V.str)) = H0 at s1 ⊢
    refine ⟨_, rfl, x, rfl, fun D nD => ?_⟩
    refine lc_gen (σ := [some (.str x), none]) (vs := [1]) (walk_str (z := x)) nD (fun i acc H' => Same H0 H' ∧ acc = ((x.cps.toList.take i).map V10.lowC).map V.bl) ⟨Same.refl H0, rfl⟩ (fun _ _ _ _ _ => True.intro) ?_ ?_
    · rintro i acc y H1 H2 hi l e2 ⟨sm, rfl⟩ ⟨rfl, c, hc, rfl⟩
      have hc' : x.cps.toList[i]? = some c := by rw [Array.getElem?_toList]; exact hc
      refine ⟨rfl, ?_⟩
      simp only [tYes, if_true]
      have h1 : (!decide ((⟨#[c]⟩ : Str).cps.toList < (Str.ofString "a").cps.toList)) = decide (97 ≤ c) := le_one 97 c
      have h2 : (!decide ((Str.ofString "z").cps.toList < (⟨#[c]⟩ : Str).cps.toList)) = decide (c ≤ 122) := le_one c 122
      have li : i < 1000 := by have : x.cps.size ≤ 8 := l8; omega
      refine ⟨_, rfl, _, _, rfl, rfl, _, rfl, ?_⟩
      rw [h1]
      refine ite2 (fun z => ⟨_, _, rfl, rfl, ?_⟩) (fun z => ?_)
      · rw [h2]
        have pf : decide (c ≤ 122) = V10.lowC c := by unfold V10.lowC; rw [z, Bool.true_and]
        rw [pf]
        exact lc_put l (by omega) e2 ⟨sm, by rw [List.take_succ, hc', List.map_append, List.map_append]; rfl⟩
      · have pf : V10.lowC c = false := by unfold V10.lowC; rw [Bool.eq_false_iff.mpr z, Bool.false_and]
        exact lc_put l (by omega) e2 ⟨sm, by rw [List.take_succ, hc', List.map_append, List.map_append]; show _ = _ ++ [V.bl (V10.lowC c)]; rw [pf]⟩
    · rintro acc H2 l e2 ⟨sm, rfl⟩
      rw [List.take_of_length_le (by simp)] at e2
      refine ⟨D, x.cps.toList.map V10.lowC, rfl, sq_of e2, ?_⟩
      rw [List.all_map]
      exact hQ H2 (s1.trans (sm.trans same_delH))
theorem ok_sort (T : Tx K w mg) : Has P w K mg base CX0 1 "_law_sort" ["thing"] spSort := by
  obtain ⟨fd, F⟩ := T.c.def_ 33 (d := d__law_sort) rfl
  refine ⟨fd, F.ok scSort (fun vs H Q E h => ?_) (fun cdv A outer s H vs Q E hr h => ?_), FunD.bindsN F fun _ _ _ _ _ _ us hl => match us, hl with | [_], _ => rfl, F.kp, (T.glo 51 rfl)⟩
  · obtain ⟨v, d, rfl, _⟩ := h
    rfl
  · refine ⟨_, PSs.nox (pss_cons (ps_if (PW.pt (pw_and (pt_val (pe_callB call_isi (by rfl) (T.free 75 rfl) (by decide +kernel) (pa_cons (pv 0) (pa_cons (pe_bltn (v := .ty "tuple") (by rfl) (T.free 81 rfl) (by decide +kernel) rfl) pa_nil)))) (pw_and (pt_cmpR op_gt (pe_callB call_len (by rfl) (T.free 76 rfl) PySem.boot_len (pa_cons (pv 0) pa_nil)) pe_int (nomark _)) (pw_and1 (pt_val (pe_callB call_isi (by rfl) (T.free 75 rfl) (by decide +kernel) (pa_cons (pe_ix ix_tup (pv 0) pe_int (fun _ _ => rfl)) (pa_cons (pe_bltn (v := .ty "str") (by rfl) (T.free 80 rfl) (by decide +kernel) rfl) pa_nil))))))))
 (pss_one (ps_ret (pe_ix ix_tup (pv 0) pe_int (fun _ _ => rfl))))
 pss_nil)
 (pss_one (ps_ret pe_str))), ?_⟩
    obtain ⟨v, d, rfl, hd, hQ⟩ := h
    obtain ⟨ty, tyx, kk⟩ := kx_of (kx_tup d) hd
    refine ⟨_, rfl, v, .ty "tuple", _, _, _, rfl, .ty "tuple", tyx, kk, _, rfl, ?_⟩
    cases hT : isTup d with
    | false =>
      have z : sortD d = Str.ofString "" := by cases d <;> first | rfl | cases hT
      rw [z] at hQ
      exact iteF (iteF hQ)
    | true =>
    obtain ⟨ds, rfl⟩ := isTup_tup hT
    obtain ⟨a, us, rfl, ha, hr'⟩ := Dx.tup_inv hd
    have lu := dxAll_len hr'
    refine iteT ⟨_, rfl, _, _, rfl, .inr ⟨us, st_of ha, rfl⟩, _, _, rfl, rfl, _, rfl, ?_⟩
    cases hr' with
    | nil => exact iteF (iteF hQ)
    | @cons v1 us d1 ds q1 r1 =>
    rw [show decide ((0 : Int) < ((((v1 :: us).length : Nat)) : Int)) = true from decide_eq_true (by simp only [List.length_cons]; omega)]
    obtain ⟨ty1, tyx1, kk1⟩ := kx_of (kx_str d1) q1
    refine iteT ⟨_, rfl, a, _, 0, v1, rfl, rfl, st_of ha, at0, _, .ty "str", _, _, _, rfl, .ty "str", tyx1, kk1, _, rfl, ?_⟩
    cases hS : isStr d1 with
    | false =>
      have z : sortD (.tuple (d1 :: ds)) = Str.ofString "" := by cases d1 <;> first | rfl | cases hS
      rw [z] at hQ
      exact iteF hQ
    | true =>
    obtain ⟨k, rfl⟩ : ∃ k, d1 = .str k := by cases d1 <;> first | exact ⟨_, rfl⟩ | cases hS
    obtain rfl := Dx.str_inv q1
    exact iteT ⟨_, rfl, a, _, 0, _, rfl, rfl, st_of ha, at0, hQ⟩
end
end K07

set_option maxHeartbeats 4000000
namespace K07
open PySem PySem.Spec PyProof.Rows L2 V1 V2 V3 V6 V9
open V10 (SzV Sz3 SzL bothF both1 both2 eS cS)
open V10 (sortD PgOk)
open Evl (pss_cut tCut sq_of st_of)
def spBoth [CurK] : Sp := fun vs H Q _ => ∃ p us os, vs = [.ref p] ∧ H p = some (.lst us) ∧ SzL H us os ∧ us.length ≤ 1000 ∧ ∀ H' u, Same H H' → SzV H' u (bothF (1, 1) os) → Q u H'
def spES [CurK] : Nat → Sp
  | 0 => fun _ _ _ _ => False
  | n + 1 => fun vs H Q _ => ∃ v d, vs = [v] ∧ Dx H v d ∧ shortA d = true ∧ V10.dp d ≤ n ∧ ∀ H' u, Same H H' → SzV H' u (eS d) → Q u H'
def spCS [CurK] : Nat → Sp
  | 0 => fun _ _ _ _ => False
  | n + 1 => fun vs H Q _ => ∃ v d, vs = [v] ∧ Dx H v d ∧ shortA d = true ∧ V10.dp d ≤ n ∧ ∀ H' u, Same H H' → SzV H' u (cS d) → Q u H'
theorem scBoth : FnScope ["sizes", "many", "deep", "size"] ["sizes"] (defScope s__law_both) := ⟨rfl, rfl, rfl, by decide +kernel, rfl, by decide +kernel, by decide +kernel⟩
theorem scES : FnScope ["thing", "sort", "part"] ["thing"] (defScope s__law_e_size) := ⟨rfl, rfl, rfl, by decide +kernel, rfl, by decide +kernel, by decide +kernel⟩
theorem scCS : FnScope ["thing", "sort", "part"] ["thing"] (defScope s__law_c_size) := ⟨rfl, rfl, rfl, by decide +kernel, rfl, by decide +kernel, by decide +kernel⟩
section
variable [CurK] {P : Program} {w : World} {mg : Str → Option Value} {base : Heap}
theorem ok_both (T : Tx K w mg) : Has P w K mg base CX0 1 "_law_both" ["sizes"] spBoth := by
  obtain ⟨fd, F⟩ := T.c.def_ 35 (d := d__law_both) rfl
  refine ⟨fd, F.ok scBoth (fun vs H Q E h => ?_) (fun cdv A outer s H vs Q E hr h => ?_), FunD.bindsN F fun _ _ _ _ _ _ us hl => match us, hl with | [_], _ => rfl, F.kp, (T.glo 53 rfl)⟩
  · obtain ⟨p, us, os, rfl, _⟩ := h
    rfl
  · refine ⟨_, PSs.nox (pss_cons (ps_asg (pe_tup (pa_cons pe_int (pa_cons pe_int pa_nil))) (pg_tup (by rfl) (pgs_cons (pg_name (i := 1) scBoth.nd rfl (Or.inl rfl)) (pgs_cons (pg_name (i := 2) scBoth.nd rfl (Or.inl rfl)) pgs_nil))))
 (pss_cons (ps_for PassesOwn.never rfl (pi_list (pv 0)) (pg_name (i := 3) scBoth.nd rfl (Or.inl rfl))
 (pss_cons (ps_if (pt_cmpR op_isN (pv 3) pe_non (nomark _))
 (pss_one (ps_ret pe_non))
 pss_nil)
 (pss_one (ps_par (i := 1) (j := 2) rfl scBoth.nd rfl rfl (by decide) rfl rfl (pa_cons (pe_op op_add (pv 1) (pe_ix ix_tup (pv 3) pe_int (fun _ _ => rfl))) (pa_cons (pe_callB (call_max2 rfl) (by rfl) (T.free 78 rfl) (by decide +kernel) (pa_cons (pv 2) (pa_cons (pe_op op_add pe_int (pe_ix ix_tup (pv 3) pe_int (fun _ _ => rfl))) pa_nil))) pa_nil)) (by rfl)))))
 (pss_one (ps_ret (pe_tup (pa_cons (pv 1) (pa_cons (pv 2) pa_nil))))))), ?_⟩
    obtain ⟨p, us, os, rfl, hp, sz, ul, hQ⟩ := h
    refine ⟨(by show 2 ≤ sizeLine; decide), fun t nt => ?_⟩
    have s0 := same_new (o := HO.tup [.int 1, .int 1]) nt
    have e0 : upd H t (HO.tup [.int 1, .int 1]) t = some (.tup [.int 1, .int 1]) := upd_same
    generalize upd H t (HO.tup [.int 1, .int 1]) = H0 at s0 e0 ⊢
    replace hp := s0 _ _ hp
    replace sz := sz.same s0
    refine ⟨t, _, rfl, st_of e0, rfl, _, _, rfl, _, _, rfl, rfl, ?_⟩
    refine ⟨_, rfl, p, rfl, ⟨_, sq_of hp⟩, ?_⟩
    refine for_it (walk_list (K := K) (a := p) (xs := us)) (fun i σ H' => ∃ (m d : Nat) (o3 : Option V), σ = [some (.ref p), some (.int ((m : Nat) : Int)), some (.int ((d : Nat) : Int)), o3] ∧ Same H0 H' ∧ bothF (1, 1) os = bothF (m, d) (os.drop i)) ⟨1, 1, _, rfl, Same.refl H0, rfl⟩ (fun i σ H' _ z => by obtain ⟨_, _, _, _, s, _⟩ := z; exact sq_of (s _ _ hp)) ?_ ?_
    · rintro i x σ H1 H2 hi ⟨m, d, o3, rfl, s1, eb⟩ ⟨rfl, hx⟩
      have oi : os[i]? = some (os[i]'(by rw [← sz.len]; exact hi)) := List.getElem?_eq_getElem _
      have dr : os.drop i = os[i]'(by rw [← sz.len]; exact hi) :: os.drop (i + 1) := List.drop_eq_getElem_cons _
      have zx := (sz.at_ i x _ hx oi).same s1
      rw [dr] at eb
      generalize os[i]'(by rw [← sz.len]; exact hi) = o at zx eb
      refine ⟨_, rfl, rfl, _, rfl, ?_⟩
      cases o with
      | none =>
        obtain rfl : x = .non := zx
        have z : bothF (1, 1) os = none := eb
        rw [z] at hQ
        exact iteT (hQ _ _ (s0.trans s1) rfl)
      | some q =>
        obtain ⟨t2, rfl, e2⟩ := zx
        refine iteF ⟨_, rfl, _, rfl, t2, _, 0, _, rfl, rfl, st_of e2, at0, _, _, rfl, rfl, ?_⟩
        refine ⟨_, rfl, _, rfl, t2, _, 1, _, rfl, rfl, st_of e2, at1, _, _, rfl, rfl, _, _, rfl, _, _, rfl, ?_⟩
        refine ⟨m + q.1, max d (1 + q.2), some (.ref t2), ?_, s1, eb⟩
        have z1 : ((m : Nat) : Int) + ((q.1 : Nat) : Int) = ((m + q.1 : Nat) : Int) := by omega
        have z2 : (if (1 : Int) + ((q.2 : Nat) : Int) > ((d : Nat) : Int) then (1 : Int) + ((q.2 : Nat) : Int) else ((d : Nat) : Int)) = ((max d (1 + q.2) : Nat) : Int) := by
          split <;> omega
        show [some (V.ref p), some (V.int (((m : Nat) : Int) + ((q.1 : Nat) : Int))), some (V.int (if (1 : Int) + ((q.2 : Nat) : Int) > ((d : Nat) : Int) then (1 : Int) + ((q.2 : Nat) : Int) else ((d : Nat) : Int))), some (V.ref t2)] = _
        rw [z1, z2]
    · rintro σ H1 ⟨m, d, o3, rfl, s1, eb⟩
      have z : bothF (1, 1) os = some (m, d) := by rw [eb, List.drop_eq_nil_of_le (by rw [← sz.len]; exact Nat.le_refl _)]; rfl
      rw [z] at hQ
      refine ⟨_, rfl, _, rfl, (by show 2 ≤ sizeLine; decide), fun t3 n3 => ?_⟩
      exact hQ _ _ (s0.trans (s1.trans (same_new n3))) ⟨t3, rfl, upd_same⟩
theorem in_lits {w : Str} {L : List Str} {α : Prop} {β : Prop} (a : w ∈ L → α) (b : ¬ w ∈ L → β) : (if decide (w ∈ L) = true then α else β) := by
  by_cases m : w ∈ L
  · rw [if_pos (decide_eq_true m)]
    exact a m
  · rw [if_neg (by rw [decide_eq_false m]; decide)]
    exact b m
/-- texts of a list, new beside -/
theorem new_lits {H : Hp} {q : Addr} {L : List Str} (nq : H q = none) : Same H (upd H q (.lst (L.map V.str))) := same_new nq
theorem new_at {H : Hp} {p : Addr} {o : HO} (_ : H p = none) : upd H p o p = some o := upd_same
/-- a size stands where no list stands -/
theorem sz_off {H : Hp} {D : Addr} {xs : List V} {u : V} : ∀ {o : V10.S2}, SzV H u o → H D = some (.lst xs) → SzV (delH H D) u o
  | none, h, _ => h
  | some p, ⟨t, e, h⟩, eD => ⟨t, e, by rw [delH_ne fun z => by rw [z, eD] at h; cases h]; exact h⟩
theorem e_kids {k : Str} (m : k ∈ ([Str.ofString "turn", Str.ofString "rest", Str.ofString "first", Str.ofString "join"] : List Str)) (rest : List PyData) : ∃ wn : Nat, (if decide (V.str k = V.str (Str.ofString "join")) = true then (1 : Int) else 0) = ((wn : Nat) : Int) - 1 ∧ (rest.length ≠ wn → eS (.tuple (.str k :: rest)) = none) ∧ (rest.length = wn → bothF (1, 1) (rest.map eS) = eS (.tuple (.str k :: rest))) := by
  by_cases kj : k = Str.ofString "join"
  · subst kj
    refine ⟨2, by rw [decide_eq_true rfl]; rfl, fun n => V10.e_join.1 rest n, fun l => ?_⟩
    obtain ⟨x, y, rfl⟩ := V10.two_of l
    rw [V10.e_join.2 x y]
    exact V10.bothF_2 _ _
  · have m' : k ∈ ([Str.ofString "turn", Str.ofString "rest", Str.ofString "first"] : List Str) := by
      simp only [List.mem_cons, List.not_mem_nil, or_false] at m ⊢
      rcases m with h | h | h | h
      · exact .inl h
      · exact .inr (.inl h)
      · exact .inr (.inr h)
      · exact absurd h kj
    refine ⟨1, by rw [decide_eq_false fun z => kj (V.str.inj z)]; rfl, fun n => (V10.e_one m').1 rest n, fun l => ?_⟩
    obtain ⟨x, rfl⟩ := V10.one_of l
    rw [(V10.e_one m').2 x]
    exact V10.bothF_1 _
theorem ok_es (T : Tx K w mg) : ∀ n : Nat, Has P w K mg base CX0 (n + 2) "_law_e_size" ["thing"] (spES n)
  | 0 => by
    obtain ⟨fd, F⟩ := T.c.def_ 34 (d := d__law_e_size) rfl
    exact ⟨fd, ⟨fun _ _ _ _ h => h.elim, fun _ _ _ _ _ _ _ _ _ _ _ _ _ h => h.elim⟩, FunD.bindsN F fun _ _ _ _ _ _ us hl => match us, hl with | [_], _ => rfl, F.kp, (T.glo 52 rfl)⟩
  | n + 1 => by
    obtain ⟨fd, F⟩ := T.c.def_ 34 (d := d__law_e_size) rfl
    have He := ok_es T n
    have Hso := ok_sort (P := P) (w := w) (base := base) T
    have Hw := ok_lisword (P := P) (w := w) (base := base) T
    have Hn := ok_lisname (P := P) (w := w) (base := base) T
    have Hb := ok_both (P := P) (w := w) (base := base) T
    refine ⟨fd, F.ok scES (fun vs H Q E h => ?_) (fun cdv A outer s H vs Q E hr h => ?_), FunD.bindsN F fun _ _ _ _ _ _ us hl => match us, hl with | [_], _ => rfl, F.kp, (T.glo 52 rfl)⟩
    · obtain ⟨v, d, rfl, _⟩ := h
      rfl
    · refine ⟨_, PSs.nox (pss_cons (ps_set (i := 1) scES.nd rfl (Or.inl rfl) (pe_has Hso (hr.mono (by omega)) pass0 (pa_cons (pv 0) pa_nil)))
 (pss_cons (ps_if (pt_cmpR op_in_seq (pv 1) (pe_lstS (pa_cons pe_str (pa_cons pe_str pa_nil))) (by rfl))
 (pss_one (ps_ret (pe_ifExp (pt_cmpR op_eq (pe_callB call_len (by rfl) (T.free 76 rfl) PySem.boot_len (pa_cons (pv 0) pa_nil)) pe_int (nomark _)) (pe_tup (pa_cons pe_int (pa_cons pe_int pa_nil))) pe_non)))
 pss_nil)
 (pss_cons (ps_if (pt_cmpR op_in_seq (pv 1) (pe_lstS (pa_cons pe_str (pa_cons pe_str pa_nil))) (by rfl))
 (pss_cons (ps_if (PW.pt (pw_or (pt_cmpR op_ne (pe_callB call_len (by rfl) (T.free 76 rfl) PySem.boot_len (pa_cons (pv 0) pa_nil)) pe_int (nomark _)) (pw_or1 (PW.pt (pw_and (pt_cmpR op_eq (pv 1) pe_str (nomark _)) (pw_and1 (pt_not (pt_val (pe_has Hw (hr.mono (by omega)) pass0 (pa_cons (pe_ix ix_tup (pv 0) pe_int (fun _ _ => rfl)) pa_nil))))))))))
 (pss_one (ps_ret pe_non))
 pss_nil)
 (pss_one (ps_ret (pe_ifExp (PW.pt (pw_or (pt_cmpR op_eq (pv 1) pe_str (nomark _)) (pw_or1 (pt_val (pe_has Hn (hr.mono (by omega)) pass0 (pa_cons (pe_ix ix_tup (pv 0) pe_int (fun _ _ => rfl)) pa_nil)))))) (pe_tup (pa_cons pe_int (pa_cons pe_int pa_nil))) pe_non))))
 pss_nil)
 (pss_cons (ps_if (PW.pt (pw_and (pt_cmpR op_in_seq (pv 1) (pe_lstS (pa_cons pe_str (pa_cons pe_str (pa_cons pe_str (pa_cons pe_str pa_nil))))) (by rfl)) (pw_and1 (pt_cmpR op_eq (pe_callB call_len (by rfl) (T.free 76 rfl) PySem.boot_len (pa_cons (pv 0) pa_nil)) (pe_op op_add pe_int (pe_callTy call_int1 (by rfl) (T.free 74 rfl) (by decide +kernel) (pa_cons (pe_cmpR op_eq (pv 1) pe_str (nomark _)) pa_nil))) (nomark _)))))
 (pss_one (ps_ret (pe_has Hb (hr.mono (by omega)) pass0 (pa_cons (pe_lc (own := [("part", 2)]) (g := gName 2) (tt := tYes) (te := tCall (spES n) [] (fun _ _ _ => False) (tCons (tVar 2) tNil)) (by rfl) scES.nd (pi_tup (pe_slice sl_tup (pv 0) (po_some pe_int) po_none))
 (blkOk_by (own := [("part", 2)]) (N := ["thing", "sort", "part"]) (sc := defScope s__law_e_size) (by decide +kernel)) (fun _ _ _ _ _ => pg_name (i := 2) scES.nd rfl (Or.inl rfl)) (fun _ _ _ _ _ => pts_nil) (fun _ _ _ _ _ => (pe_has He (hr) pass0 (pa_cons (pv 2) pa_nil)))) pa_nil))))
 pss_nil)
 (pss_one (ps_ret pe_non)))))), ?_⟩
      obtain ⟨v, d, rfl, hd, sh, dn, hQ⟩ := h
      refine ⟨_, rfl, v, d, rfl, hd, ?_⟩
      refine ⟨_, rfl, (by show 2 ≤ sizeLine; decide), fun q nq _ => ⟨q, _, rfl, .inl (sq_of upd_same), rfl, rfl, _, rfl, ?_⟩⟩
      show if inV (V.str (sortD d)) (([Str.ofString "many", Str.ofString "last"] : List Str).map V.str) = true then _ else _
      rw [in_strs]
      have s1 := new_lits (L := [Str.ofString "many", Str.ofString "last"]) nq
      have hd1 := hd.sm s1
      have small : ∀ {L : List Str} {k : Str}, k ∈ L → ¬ Str.ofString "" ∈ L → k ≠ Str.ofString "" := fun m n z => n (z ▸ m)
      refine in_lits (fun m1 => ?_) (fun m1 => ?_)
      · obtain ⟨rest, ed⟩ := V10.sort_inv rfl (small m1 (by decide +kernel))
        rw [ed, V10.e_bare m1 rest] at hQ
        rw [ed] at hd1
        obtain ⟨a, us, rfl, ha, ra⟩ := Dx.tup_inv hd1
        have lu := dxAll_len ra
        refine ⟨_, rfl, _, _, rfl, .inr ⟨us, st_of ha, rfl⟩, rfl, _, rfl, ?_⟩
        by_cases l0 : rest.length = 0
        · rw [if_pos l0] at hQ
          rw [show decide (V.int ((us.length : Nat) : Int) = V.int 1) = true from decide_eq_true (by rw [lu, List.length_cons, l0]; rfl)]
          refine iteT ⟨(by show 2 ≤ sizeLine; decide), fun t nt => hQ _ _ (s1.trans (same_new nt)) ⟨t, rfl, upd_same⟩⟩
        · rw [if_neg l0] at hQ
          rw [show decide (V.int ((us.length : Nat) : Int) = V.int 1) = false from decide_eq_false fun z => by have := V.int.inj z; rw [lu, List.length_cons] at this; omega]
          exact iteF (hQ _ _ s1 rfl)
      refine ⟨_, rfl, (by show 2 ≤ sizeLine; decide), fun q2 nq2 _ => ⟨q2, _, rfl, .inl (sq_of upd_same), rfl, rfl, _, rfl, ?_⟩⟩
      show if inV (V.str (sortD d)) (([Str.ofString "text", Str.ofString "name"] : List Str).map V.str) = true then _ else _
      rw [in_strs]
      have s2 := s1.trans (new_lits (L := [Str.ofString "text", Str.ofString "name"]) nq2)
      have hd2 := hd.sm s2
      refine in_lits (fun m2 => ?_) (fun m2 => ?_)
      · obtain ⟨rest, ed⟩ := V10.sort_inv rfl (small m2 (by decide +kernel))
        obtain ⟨no, yes⟩ := V10.e_two m2
        rw [ed] at hd2 hQ sh
        obtain ⟨a, us, rfl, ha, ra⟩ := Dx.tup_inv hd2
        have lu := dxAll_len ra
        refine ⟨_, rfl, _, _, rfl, .inr ⟨us, st_of ha, rfl⟩, rfl, _, rfl, ?_⟩
        by_cases l1 : rest.length = 1
        case neg =>
          rw [no rest l1] at hQ
          rw [show (!decide (V.int ((us.length : Nat) : Int) = V.int 2)) = true by rw [decide_eq_false fun z => by have := V.int.inj z; rw [lu, List.length_cons] at this; omega]; rfl]
          exact iteT (iteT (hQ _ _ s2 rfl))
        obtain ⟨x, rfl⟩ := V10.one_of l1
        rw [yes x] at hQ
        rw [show (!decide (V.int ((us.length : Nat) : Int) = V.int 2)) = false by rw [decide_eq_true (by rw [lu]; rfl)]; rfl]
        cases ra with | @cons v1 us _ _ q1 ra =>
        cases ra with | @cons vx _ _ _ q2 ra =>
        cases ra
        have shx : shortD x := shortA_D (shortAll_of (show shortAll [.str (sortD d), x] = true from sh) x (by simp))
        by_cases kt : sortD d = Str.ofString "text"
        · rw [if_pos kt] at hQ
          refine iteF ⟨_, rfl, rfl, _, rfl, ?_⟩
          rw [str_dec, decide_eq_true kt]
          refine iteT ⟨_, rfl, a, _, 1, vx, rfl, rfl, st_of ha, at1, vx, x, rfl, q2, shx, fun H3 s3 => ⟨_, rfl, ?_⟩⟩
          have s23 := s2.trans s3
          cases hw : wordD x with
          | false =>
            rw [hw, if_neg (by decide)] at hQ
            exact iteT (hQ _ _ s23 rfl)
          | true =>
            rw [hw, if_pos rfl] at hQ
            refine iteF ⟨_, rfl, rfl, _, rfl, ?_⟩
            rw [str_dec, decide_eq_true kt]
            refine iteT (iteT ⟨(by show 2 ≤ sizeLine; decide), fun t nt => hQ _ _ (s23.trans (same_new nt)) ⟨t, rfl, upd_same⟩⟩)
        · rw [if_neg kt] at hQ
          refine iteF ⟨_, rfl, rfl, _, rfl, ?_⟩
          rw [str_dec, decide_eq_false kt]
          refine iteF (iteF ⟨_, rfl, rfl, _, rfl, ?_⟩)
          rw [str_dec, decide_eq_false kt]
          refine iteF ⟨_, rfl, a, _, 1, vx, rfl, rfl, st_of ha, at1, vx, x, rfl, q2, shx, fun H3 s3 => ⟨_, rfl, ?_⟩⟩
          have s23 := s2.trans s3
          cases hw : nameD x with
          | false =>
            rw [hw, if_neg (by decide)] at hQ
            exact iteF (hQ _ _ s23 rfl)
          | true =>
            rw [hw, if_pos rfl] at hQ
            exact iteT ⟨(by show 2 ≤ sizeLine; decide), fun t nt => hQ _ _ (s23.trans (same_new nt)) ⟨t, rfl, upd_same⟩⟩
      refine ⟨_, rfl, (by show 4 ≤ sizeLine; decide), fun q3 nq3 _ => ⟨q3, _, rfl, .inl (sq_of upd_same), rfl, rfl, _, rfl, ?_⟩⟩
      show if inV (V.str (sortD d)) (([Str.ofString "turn", Str.ofString "rest", Str.ofString "first", Str.ofString "join"] : List Str).map V.str) = true then _ else _
      rw [in_strs]
      have s3 := s2.trans (new_lits (L := [Str.ofString "turn", Str.ofString "rest", Str.ofString "first", Str.ofString "join"]) nq3)
      have hd3 := hd.sm s3
      refine in_lits (fun m3 => ?_) (fun m3 => iteF ?_)
      · obtain ⟨rest, ed⟩ := V10.sort_inv rfl (small m3 (by decide +kernel))
        rw [ed] at hd3 hQ sh dn
        obtain ⟨a, us, rfl, ha, ra⟩ := Dx.tup_inv hd3
        have lu := dxAll_len ra
        obtain ⟨wn, w1, w2, w3⟩ := e_kids m3 rest
        refine ⟨_, rfl, _, _, rfl, .inr ⟨us, st_of ha, rfl⟩, _, rfl, rfl, .inr ⟨_, rfl, _, _, rfl, rfl, rfl, _, rfl, ?_⟩⟩
        rw [w1]
        by_cases lw : rest.length = wn
        case neg =>
          rw [w2 lw] at hQ
          rw [show decide (V.int ((us.length : Nat) : Int) = V.int (2 + (((wn : Nat) : Int) - 1))) = false from decide_eq_false fun z => by have := V.int.inj z; rw [lu, List.length_cons] at this; omega]
          exact iteF (hQ _ _ s3 rfl)
        rw [show decide (V.int ((us.length : Nat) : Int) = V.int (2 + (((wn : Nat) : Int) - 1))) = true from decide_eq_true (congrArg V.int (by rw [lu, List.length_cons]; omega))]
        rw [← w3 lw] at hQ
        cases ra with | @cons v1 us _ _ q1 ra =>
        refine iteT ⟨_, rfl, _, rfl, a, _, rfl, st_of ha, cut1_ne, fun p0 np0 => ?_⟩
        rw [cut1]
        have s40 := same_new (o := HO.tup us) np0
        have s4 := s3.trans s40
        have r4 := DxAll.same s40 _ _ ra
        have ep := new_at (o := HO.tup us) np0
        have lus : us.length = rest.length := dxAll_len ra
        refine ⟨p0, rfl, ⟨_, st_of ep⟩, fun D nD => ?_⟩
        refine lc_gen (σ := [some (.ref a), some (.str (sortD d)), none]) (vs := [2]) (walk_tup (K := K) (a := p0) (xs := us)) nD (fun i acc H' => Same _ H' ∧ SzL H' acc ((rest.take i).map eS)) ⟨Same.refl _, .nil⟩ (fun i acc H' _ z => st_of (same_delH _ _ (z.1 _ _ ep))) ?_ ?_
        · rintro i acc x H5 H6 hi l e ⟨sm, szl⟩ ⟨rfl, hx⟩
          refine ⟨rfl, ?_⟩
          simp only [tYes, if_true]
          have hi2 : i < rest.length := by omega
          have di : rest[i]? = some rest[i] := List.getElem?_eq_getElem hi2
          have dm := V10.dp_mem (d := rest[i]) (ds := .str (sortD d) :: rest) (List.mem_cons_of_mem _ (List.getElem_mem hi2))
          have shi := shortAll_of (show shortAll (.str (sortD d) :: rest) = true from sh) rest[i] (List.mem_cons_of_mem _ (List.getElem_mem hi2))
          obtain ⟨n, rfl⟩ : ∃ m, n = m + 1 := ⟨n - 1, by omega⟩
          refine ⟨_, rfl, x, rest[i], rfl, (r4.at hx di).sm (sm.trans same_delH), shi, by omega, fun H7 u s7 szu => ?_⟩
          have e7 := s7 _ _ e
          refine lc_putS l (by rw [sizeLine_eq]; omega) e7 ⟨sm.trans (same_del s7), ?_⟩
          rw [List.take_succ, di, List.map_append]
          exact (szl.same (same_del s7)).snoc (sz_off szu e7)
        · rintro acc H5 l e ⟨sm, szl⟩
          rw [lus, List.take_length] at szl
          have la : acc.length = rest.length := by rw [szl.len, List.length_map]
          refine ⟨D, acc, _, rfl, e, szl.same same_delH, by omega, fun H6 u s6 szu => ?_⟩
          exact hQ _ _ (s4.trans (sm.trans (same_delH.trans s6))) szu
      · rw [V10.e_else m1 m2 m3] at hQ
        exact hQ _ _ s3 rfl
theorem ok_cs (T : Tx K w mg) : ∀ n : Nat, Has P w K mg base CX0 (n + 3) "_law_c_size" ["thing"] (spCS n)
  | 0 => by
    obtain ⟨fd, F⟩ := T.c.def_ 36 (d := d__law_c_size) rfl
    exact ⟨fd, ⟨fun _ _ _ _ h => h.elim, fun _ _ _ _ _ _ _ _ _ _ _ _ _ h => h.elim⟩, FunD.bindsN F fun _ _ _ _ _ _ us hl => match us, hl with | [_], _ => rfl, F.kp, (T.glo 54 rfl)⟩
  | n + 1 => by
    obtain ⟨fd, F⟩ := T.c.def_ 36 (d := d__law_c_size) rfl
    have Hc := ok_cs T n
    have He := ok_es (P := P) (w := w) (base := base) T n
    have Hso := ok_sort (P := P) (w := w) (base := base) T
    have Hb := ok_both (P := P) (w := w) (base := base) T
    refine ⟨fd, F.ok scCS (fun vs H Q E h => ?_) (fun cdv A outer s H vs Q E hr h => ?_), FunD.bindsN F fun _ _ _ _ _ _ us hl => match us, hl with | [_], _ => rfl, F.kp, (T.glo 54 rfl)⟩
    · obtain ⟨v, d, rfl, _⟩ := h
      rfl
    · refine ⟨_, PSs.nox (pss_cons (ps_set (i := 1) scCS.nd rfl (Or.inl rfl) (pe_has Hso (hr.mono (by omega)) pass0 (pa_cons (pv 0) pa_nil)))
 (pss_cons (ps_if (PW.pt (pw_and (pt_cmpR op_eq (pv 1) pe_str (nomark _)) (pw_and1 (pt_cmpR op_eq (pe_callB call_len (by rfl) (T.free 76 rfl) PySem.boot_len (pa_cons (pv 0) pa_nil)) pe_int (nomark _)))))
 (pss_one (ps_ret (pe_has Hb (hr.mono (by omega)) pass0 (pa_cons (pe_lstS (pa_cons (pe_has Hc (hr) pass0 (pa_cons (pe_ix ix_tup (pv 0) pe_int (fun _ _ => rfl)) pa_nil)) pa_nil)) pa_nil))))
 pss_nil)
 (pss_cons (ps_if (PW.pt (pw_and (pt_cmpR op_in_seq (pv 1) (pe_lstS (pa_cons pe_str (pa_cons pe_str (pa_cons pe_str pa_nil)))) (by rfl)) (pw_and1 (pt_cmpR op_eq (pe_callB call_len (by rfl) (T.free 76 rfl) PySem.boot_len (pa_cons (pv 0) pa_nil)) pe_int (nomark _)))))
 (pss_one (ps_ret (pe_has Hb (hr.mono (by omega)) pass0 (pa_cons (pe_lc (own := [("part", 2)]) (g := gName 2) (tt := tYes) (te := tCall (spES n) [] (fun _ _ _ => False) (tCons (tVar 2) tNil)) (by rfl) scCS.nd (pi_tup (pe_slice sl_tup (pv 0) (po_some pe_int) po_none))
 (blkOk_by (own := [("part", 2)]) (N := ["thing", "sort", "part"]) (sc := defScope s__law_c_size) (by decide +kernel)) (fun _ _ _ _ _ => pg_name (i := 2) scCS.nd rfl (Or.inl rfl)) (fun _ _ _ _ _ => pts_nil) (fun _ _ _ _ _ => (pe_has He (hr.mono (by omega)) pass0 (pa_cons (pv 2) pa_nil)))) pa_nil))))
 pss_nil)
 (pss_one (ps_ret pe_non))))), ?_⟩
      obtain ⟨v, d, rfl, hd, sh, dn, hQ⟩ := h
      have small : ∀ {L : List Str} {k : Str}, k ∈ L → ¬ Str.ofString "" ∈ L → k ≠ Str.ofString "" := fun m n z => n (z ▸ m)
      refine ⟨_, rfl, v, d, rfl, hd, ?_⟩
      refine ⟨_, rfl, rfl, _, rfl, ?_⟩
      rw [str_dec]
      by_cases kn : sortD d = Str.ofString "not"
      · rw [decide_eq_true kn]
        obtain ⟨rest, ed⟩ := V10.sort_inv kn (by decide +kernel)
        subst ed
        obtain ⟨a, us, rfl, ha, ra⟩ := Dx.tup_inv hd
        have lu := dxAll_len ra
        refine iteT ⟨_, rfl, _, _, rfl, .inr ⟨us, st_of ha, rfl⟩, rfl, _, rfl, ?_⟩
        by_cases l1 : rest.length = 1
        case neg =>
          rw [V10.c_not.1 rest l1] at hQ
          rw [show decide (V.int ((us.length : Nat) : Int) = V.int 2) = false from decide_eq_false fun z => by have := V.int.inj z; rw [lu, List.length_cons] at this; omega]
          refine iteF ⟨_, rfl, (by show 3 ≤ sizeLine; decide), fun q nq _ => ⟨q, _, rfl, .inl (sq_of upd_same), rfl, rfl, _, rfl, ?_⟩⟩
          show if inV (V.str (Str.ofString "not")) (([Str.ofString "same", Str.ofString "ahead", Str.ofString "in"] : List Str).map V.str) = true then _ else _
          rw [in_strs, decide_eq_false (by decide +kernel)]
          exact iteF (iteF (hQ _ _ (new_lits (L := [Str.ofString "same", Str.ofString "ahead", Str.ofString "in"]) nq) rfl))
        obtain ⟨x, rfl⟩ := V10.one_of l1
        rw [V10.c_not.2 x, ← V10.bothF_1] at hQ
        rw [show decide (V.int ((us.length : Nat) : Int) = V.int 2) = true from decide_eq_true (by rw [lu]; rfl)]
        cases ra with | @cons v1 us _ _ q1 ra =>
        cases ra with | @cons vx _ _ _ q2 ra =>
        cases ra
        have dm := V10.dp_mem (d := x) (ds := [.str (Str.ofString "not"), x]) (by simp)
        have shi := shortAll_of (show shortAll [.str (Str.ofString "not"), x] = true from sh) x (by simp)
        obtain ⟨n, rfl⟩ : ∃ m, n = m + 1 := ⟨n - 1, by omega⟩
        refine iteT ⟨_, rfl, a, _, 1, vx, rfl, rfl, st_of ha, at1, vx, x, rfl, q2, shi, by omega, fun H3 u s3 szu => ⟨(by show 1 ≤ sizeLine; decide), fun p np _ => ?_⟩⟩
        have s4 := same_new (o := HO.lst [u]) np
        exact ⟨p, [u], [cS x], rfl, upd_same, SzL.snoc .nil (szu.same s4), (by show 1 ≤ 1000; decide), fun H5 u5 s5 sz5 => hQ _ _ (s3.trans (s4.trans s5)) sz5⟩
      · rw [decide_eq_false kn]
        refine iteF (iteF ⟨_, rfl, (by show 3 ≤ sizeLine; decide), fun q nq _ => ⟨q, _, rfl, .inl (sq_of upd_same), rfl, rfl, _, rfl, ?_⟩⟩)
        show if inV (V.str (sortD d)) (([Str.ofString "same", Str.ofString "ahead", Str.ofString "in"] : List Str).map V.str) = true then _ else _
        rw [in_strs]
        have s1 := new_lits (L := [Str.ofString "same", Str.ofString "ahead", Str.ofString "in"]) nq
        have hd1 := hd.sm s1
        refine in_lits (fun m3 => ?_) (fun m3 => iteF ?_)
        · obtain ⟨rest, ed⟩ := V10.sort_inv rfl (small m3 (by decide +kernel))
          rw [ed] at hd1 hQ sh dn
          obtain ⟨a, us, rfl, ha, ra⟩ := Dx.tup_inv hd1
          have lu := dxAll_len ra
          refine ⟨_, rfl, _, _, rfl, .inr ⟨us, st_of ha, rfl⟩, rfl, _, rfl, ?_⟩
          by_cases lw : rest.length = 2
          case neg =>
            rw [(V10.c_two m3).1 rest lw] at hQ
            rw [show decide (V.int ((us.length : Nat) : Int) = V.int 3) = false from decide_eq_false fun z => by have := V.int.inj z; rw [lu, List.length_cons] at this; omega]
            exact iteF (hQ _ _ s1 rfl)
          rw [show decide (V.int ((us.length : Nat) : Int) = V.int 3) = true from decide_eq_true (congrArg V.int (by rw [lu, List.length_cons, lw]; rfl))]
          have both : bothF (1, 1) (rest.map eS) = cS (.tuple (.str (sortD d) :: rest)) := by
            obtain ⟨x, y, rfl⟩ := V10.two_of lw
            rw [(V10.c_two m3).2 x y]
            exact V10.bothF_2 _ _
          rw [← both] at hQ
          cases ra with | @cons v1 us _ _ q1 ra =>
          refine iteT ⟨_, rfl, _, rfl, a, _, rfl, st_of ha, cut1_ne, fun p0 np0 => ?_⟩
          rw [cut1]
          have s40 := same_new (o := HO.tup us) np0
          have s4 := s1.trans s40
          have r4 := DxAll.same s40 _ _ ra
          have ep := new_at (o := HO.tup us) np0
          have lus : us.length = rest.length := dxAll_len ra
          refine ⟨p0, rfl, ⟨_, st_of ep⟩, fun D nD => ?_⟩
          refine lc_gen (σ := [some (.ref a), some (.str (sortD d)), none]) (vs := [2]) (walk_tup (K := K) (a := p0) (xs := us)) nD (fun i acc H' => Same _ H' ∧ SzL H' acc ((rest.take i).map eS)) ⟨Same.refl _, .nil⟩ (fun i acc H' _ z => st_of (same_delH _ _ (z.1 _ _ ep))) ?_ ?_
          · rintro i acc x H5 H6 hi l e ⟨sm, szl⟩ ⟨rfl, hx⟩
            refine ⟨rfl, ?_⟩
            simp only [tYes, if_true]
            have hi2 : i < rest.length := by omega
            have di : rest[i]? = some rest[i] := List.getElem?_eq_getElem hi2
            have dm := V10.dp_mem (d := rest[i]) (ds := .str (sortD d) :: rest) (List.mem_cons_of_mem _ (List.getElem_mem hi2))
            have shi := shortAll_of (show shortAll (.str (sortD d) :: rest) = true from sh) rest[i] (List.mem_cons_of_mem _ (List.getElem_mem hi2))
            obtain ⟨n, rfl⟩ : ∃ m, n = m + 1 := ⟨n - 1, by omega⟩
            refine ⟨_, rfl, x, rest[i], rfl, (r4.at hx di).sm (sm.trans same_delH), shi, by omega, fun H7 u s7 szu => ?_⟩
            have e7 := s7 _ _ e
            refine lc_putS l (by rw [sizeLine_eq]; omega) e7 ⟨sm.trans (same_del s7), ?_⟩
            rw [List.take_succ, di, List.map_append]
            exact (szl.same (same_del s7)).snoc (sz_off szu e7)
          · rintro acc H5 l e ⟨sm, szl⟩
            rw [lus, List.take_length] at szl
            have la : acc.length = rest.length := by rw [szl.len, List.length_map]
            refine ⟨D, acc, _, rfl, e, szl.same same_delH, by omega, fun H6 u s6 szu => ?_⟩
            exact hQ _ _ (s4.trans (sm.trans (same_delH.trans s6))) szu
        · rw [V10.c_else kn m3] at hQ
          exact hQ _ _ s1 rfl
end
end K07

set_option maxHeartbeats 4000000
namespace K07
open PySem PySem.Spec PyProof.Rows L2 V1 V2 V3 V6 V9
open V10 (SzV Sz3 SzL bothF both1 both2 eS cS sS bS lS with0 each3 if3 add3 progS)
open V10 (sortD PgOk)
open Evl (pss_cut tCut sq_of st_of)
def spSS [CurK] : Nat → Sp
  | 0 => fun _ _ _ _ => False
  | n + 1 => fun vs H Q _ => ∃ v d, vs = [v] ∧ Dx H v d ∧ shortA d = true ∧ V10.dp d ≤ n ∧ ∀ H' u, Same H H' → Sz3 H' u (sS d) → Q u H'
def spBS [CurK] (n : Nat) : Sp := fun vs H Q _ => ∃ v d, vs = [v] ∧ Dx H v d ∧ shortA d = true ∧ V10.dp d ≤ n ∧ ∀ H' u, Same H H' → Sz3 H' u (bS d) → Q u H'
def spIP [CurK] : Sp := fun vs H Q _ => ∃ v d, vs = [v] ∧ Dx H v d ∧ shortA d = true ∧ V10.dp d ≤ 80 ∧ ∀ H', Same H H' → Q (.bl (progS d)) H'
theorem scSS : FnScope ["thing", "sort", "size", "body", "test", "other", "deep"] ["thing"] (defScope s__law_statement_size) := ⟨rfl, rfl, rfl, by decide +kernel, rfl, by decide +kernel, by decide +kernel⟩
theorem scBS : FnScope ["thing", "many", "deep", "loops", "part", "size"] ["thing"] (defScope s__law_body_size) := ⟨rfl, rfl, rfl, by decide +kernel, rfl, by decide +kernel, by decide +kernel⟩
theorem scIP : FnScope ["thing", "size"] ["thing"] (defScope s__law_is_program) := ⟨rfl, rfl, rfl, by decide +kernel, rfl, by decide +kernel, by decide +kernel⟩
section
variable [CurK] {P : Program} {w : World} {mg : Str → Option Value} {base : Heap}
theorem max_int (a b : Nat) : (if ((b : Nat) : Int) > ((a : Nat) : Int) then ((b : Nat) : Int) else ((a : Nat) : Int)) = ((max a b : Nat) : Int) := by
  split <;> omega
theorem ls_none {ds : List PyData} {i : Nat} {x : PyData} (hx : ds[i]? = some x) (h : sS x = none) : lS ds = none := by
  have dr : ds = ds.take i ++ x :: ds.drop (i + 1) := by
    obtain ⟨hi, e⟩ := List.getElem?_eq_some_iff.mp hx
    rw [← e, List.getElem_cons_drop, List.take_append_drop]
  rw [dr]
  generalize ds.take i = l
  induction l with
  | nil => rw [List.nil_append, V10.lS_cons, h]; rfl
  | cons y l ih => rw [List.cons_append, V10.lS_cons, ih, V10.add3_none]
theorem ok_bs (T : Tx K w mg) (n : Nat) (Hss : Has P w K mg base CX0 (2 * n + 4) "_law_statement_size" ["thing"] (spSS n)) : Has P w K mg base CX0 (2 * n + 5) "_law_body_size" ["thing"] (spBS n) := by
  obtain ⟨fd, F⟩ := T.c.def_ 38 (d := d__law_body_size) rfl
  refine ⟨fd, F.ok scBS (fun vs H Q E h => ?_) (fun cdv A outer s H vs Q E hr h => ?_), FunD.bindsN F fun _ _ _ _ _ _ us hl => match us, hl with | [_], _ => rfl, F.kp, (T.glo 56 rfl)⟩
  · obtain ⟨v, d, rfl, _⟩ := h
    rfl
  · refine ⟨_, PSs.nox (pss_cons (ps_if (pt_not (pt_val (pe_callB call_isi (by rfl) (T.free 75 rfl) (by decide +kernel) (pa_cons (pv 0) (pa_cons (pe_bltn (v := .ty "tuple") (by rfl) (T.free 81 rfl) (by decide +kernel) rfl) pa_nil)))))
 (pss_one (ps_ret pe_non))
 pss_nil)
 (pss_cons (ps_asg (pe_tup (pa_cons pe_int (pa_cons pe_int (pa_cons pe_int pa_nil)))) (pg_tup (by rfl) (pgs_cons (pg_name (i := 1) scBS.nd rfl (Or.inl rfl)) (pgs_cons (pg_name (i := 2) scBS.nd rfl (Or.inl rfl)) (pgs_cons (pg_name (i := 3) scBS.nd rfl (Or.inl rfl)) pgs_nil)))))
 (pss_cons (ps_for PassesOwn.never rfl (pi_tup (pv 0)) (pg_name (i := 4) scBS.nd rfl (Or.inl rfl))
 (pss_cons (ps_set (i := 5) scBS.nd rfl (Or.inl rfl) (pe_has Hss (hr) pass0 (pa_cons (pv 4) pa_nil)))
 (pss_cons (ps_if (pt_cmpR op_isN (pv 5) pe_non (nomark _))
 (pss_one (ps_ret pe_non))
 pss_nil)
 (pss_one (ps_par3 (i := 1) (j := 2) (l := 3) rfl scBS.nd rfl rfl rfl (by decide) (by decide) (by decide) rfl rfl rfl (pa_cons (pe_op op_add (pv 1) (pe_ix ix_tup (pv 5) pe_int (fun _ _ => rfl))) (pa_cons (pe_callB (call_max2 rfl) (by rfl) (T.free 78 rfl) (by decide +kernel) (pa_cons (pv 2) (pa_cons (pe_ix ix_tup (pv 5) pe_int (fun _ _ => rfl)) pa_nil))) (pa_cons (pe_callB (call_max2 rfl) (by rfl) (T.free 78 rfl) (by decide +kernel) (pa_cons (pv 3) (pa_cons (pe_ix ix_tup (pv 5) pe_int (fun _ _ => rfl)) pa_nil))) pa_nil))) (by rfl))))))
 (pss_one (ps_ret (pe_tup (pa_cons (pv 1) (pa_cons (pv 2) (pa_cons (pv 3) pa_nil))))))))), ?_⟩
    obtain ⟨v, d, rfl, hd, sh, dn, hQ⟩ := h
    refine isx_go (kx_tup d) (fun Q q => ⟨v, rfl, q⟩) hd ⟨_, rfl, ?_⟩
    cases hT : isTup d with
    | false =>
      have z : bS d = none := by cases d <;> first | rfl | (simp [bS]; done) | cases hT
      rw [z] at hQ
      exact iteT (hQ _ _ (Same.refl H) rfl)
    | true =>
    obtain ⟨ds, rfl⟩ := isTup_tup hT
    obtain ⟨a, us, rfl, ha, ra⟩ := Dx.tup_inv hd
    have lu := dxAll_len ra
    rw [show bS (.tuple ds) = lS ds by rw [bS]] at hQ
    refine iteF ⟨(by show 3 ≤ sizeLine; decide), fun t nt => ?_⟩
    have s0 := same_new (o := HO.tup [.int 0, .int 0, .int 0]) nt
    have e0 : upd H t (HO.tup [.int 0, .int 0, .int 0]) t = some (.tup [.int 0, .int 0, .int 0]) := upd_same
    generalize upd H t (HO.tup [.int 0, .int 0, .int 0]) = H0 at s0 e0 ⊢
    replace ha := s0 _ _ ha
    replace ra := DxAll.same s0 _ _ ra
    refine ⟨t, _, rfl, st_of e0, rfl, _, _, rfl, _, _, rfl, _, _, rfl, rfl, ?_⟩
    refine ⟨_, rfl, a, rfl, ⟨_, st_of ha⟩, ?_⟩
    refine for_it (walk_tup (K := K) (a := a) (xs := us)) (fun i σ H' => ∃ (m d l : Nat) (o4 o5 : Option V), σ = [some (.ref a), some (.int ((m : Nat) : Int)), some (.int ((d : Nat) : Int)), some (.int ((l : Nat) : Int)), o4, o5] ∧ Same H0 H' ∧ lS (ds.take i) = some (m, d, l)) ⟨0, 0, 0, none, none, rfl, Same.refl H0, by rw [List.take_zero, lS]⟩ (fun i σ H' _ z => by obtain ⟨_, _, _, _, _, _, s, _⟩ := z; exact st_of (s _ _ ha)) ?_ ?_
    · rintro i x σ H1 H2 hi ⟨m, d, l, o4, o5, rfl, s1, eb⟩ ⟨rfl, hx⟩
      have hi2 : i < ds.length := by omega
      have di : ds[i]? = some ds[i] := List.getElem?_eq_getElem hi2
      have dm := V10.dp_mem (d := ds[i]) (ds := ds) (List.getElem_mem hi2)
      have shi := shortAll_of (show shortAll ds = true from sh) ds[i] (List.getElem_mem hi2)
      obtain ⟨n, rfl⟩ : ∃ m, n = m + 1 := ⟨n - 1, by omega⟩
      refine ⟨_, rfl, x, ds[i], rfl, (ra.at hx di).sm s1, shi, by omega, fun H7 u s7 szu => ?_⟩
      refine ⟨_, rfl, rfl, _, rfl, ?_⟩
      cases hs : sS ds[i] with
      | none =>
        rw [hs] at szu
        obtain rfl : u = .non := szu
        rw [ls_none di hs] at hQ
        exact iteT (hQ _ _ (s0.trans (s1.trans s7)) rfl)
      | some q =>
        rw [hs] at szu
        obtain ⟨t2, rfl, e2⟩ := szu
        refine iteF ?_
        refine ⟨_, rfl, _, rfl, t2, _, 0, _, rfl, rfl, st_of e2, at0, _, _, rfl, rfl, ?_⟩
        refine ⟨_, rfl, _, rfl, t2, _, 1, _, rfl, rfl, st_of e2, at1, _, _, rfl, ?_⟩
        refine ⟨_, rfl, _, rfl, t2, _, 2, _, rfl, rfl, st_of e2, at2, _, _, rfl, _, _, _, rfl, ?_⟩
        refine ⟨m + q.1, max d q.2.1, max l q.2.2, some x, some (.ref t2), ?_, s1.trans s7, ?_⟩
        · show [some (V.ref a), some (V.int (((m : Nat) : Int) + ((q.1 : Nat) : Int))), some (V.int (if ((q.2.1 : Nat) : Int) > ((d : Nat) : Int) then ((q.2.1 : Nat) : Int) else ((d : Nat) : Int))), some (V.int (if ((q.2.2 : Nat) : Int) > ((l : Nat) : Int) then ((q.2.2 : Nat) : Int) else ((l : Nat) : Int))), some x, some (V.ref t2)] = _
          rw [max_int, max_int, show ((m : Nat) : Int) + ((q.1 : Nat) : Int) = ((m + q.1 : Nat) : Int) by omega]
        · rw [List.take_succ, di]
          show lS (ds.take i ++ [ds[i]]) = _
          rw [V10.lS_snoc, eb, hs]
          rfl
    · rintro σ H1 ⟨m, d, l, o4, o5, rfl, s1, eb⟩
      rw [List.take_of_length_le (by omega)] at eb
      rw [eb] at hQ
      refine ⟨_, rfl, _, rfl, _, rfl, (by show 3 ≤ sizeLine; decide), fun t3 n3 => ?_⟩
      exact hQ _ _ (s0.trans (s1.trans (same_new n3))) ⟨t3, rfl, upd_same⟩
theorem max3_eq (a b c : Nat) : nuMax3 (V.int ((a : Nat) : Int)) (V.int ((b : Nat) : Int)) (V.int ((c : Nat) : Int)) = some (V.int ((max (max a b) c : Nat) : Int)) := by
  have z : ∀ a b : Nat, nuMax2 (V.int ((a : Nat) : Int)) (V.int ((b : Nat) : Int)) = some (V.int ((max a b : Nat) : Int)) := fun a b => by
    show some (if decide (((a : Nat) : Int) < ((b : Nat) : Int)) = true then V.int ((b : Nat) : Int) else V.int ((a : Nat) : Int)) = _
    by_cases h : ((a : Nat) : Int) < ((b : Nat) : Int)
    · rw [if_pos (decide_eq_true h), show max a b = b by omega]
    · rw [if_neg (by rw [decide_eq_false h]; decide), show max a b = a by omega]
  show (nuMax2 _ _).bind _ = _
  rw [z a b]
  exact z _ c
theorem len_no {us : List V} {rest : List PyData} {k : Str} {n : Nat} (lu : us.length = (PyData.str k :: rest).length) (l1 : rest.length ≠ n) : decide (V.int ((us.length : Nat) : Int) = V.int (((n : Nat) : Int) + 1)) = false := decide_eq_false fun z => by
  have := V.int.inj z
  rw [lu, List.length_cons] at this
  omega
theorem len_yes {us : List V} {rest : List PyData} {k : Str} {n : Nat} (lu : us.length = (PyData.str k :: rest).length) (l1 : rest.length = n) : decide (V.int ((us.length : Nat) : Int) = V.int (((n : Nat) : Int) + 1)) = true := decide_eq_true (congrArg V.int (by rw [lu, List.length_cons, l1]; rfl))
/-- None of None, else the size and 0 -/
theorem ret0 {H : Hp} {o : V10.S2} {u : V} {Q : VK} (sz : SzV H u o) (k : ∀ H' v, Same H H' → Sz3 H' v (with0 o) → Q v H') : ∀ {te : TE} {σ : L2.St} , (∀ Q : VK, Q u H → te σ H Q) → (if decide (u = .non) = true then Q .non H else te σ H fun x H1 => (1 ≤ sizeLine ∧ ∀ t, H1 t = none → rCatA K x (.ref t) (upd H1 t (.tup [.int 0])) Q)) := fun {te σ} ht => by
  cases o with
  | none =>
    obtain rfl : u = .non := sz
    exact iteT (k _ _ (Same.refl H) rfl)
  | some q =>
    obtain ⟨t, rfl, et⟩ := sz
    refine iteF (ht _ ⟨(by show 1 ≤ sizeLine; decide), fun t2 n2 => ?_⟩)
    have s2 := same_new (o := HO.tup [.int 0]) n2
    refine ⟨t, t2, _, _, rfl, rfl, st_of (s2 _ _ et), st_of upd_same, (by show 3 ≤ sizeLine; decide), (fun z => by cases z), (fun _ z => by cases z), fun _ _ p np => ?_⟩
    exact k _ _ (s2.trans (same_new np)) ⟨p, rfl, upd_same⟩
theorem ok_ss (T : Tx K w mg) : ∀ n : Nat, Has P w K mg base CX0 (2 * n + 4) "_law_statement_size" ["thing"] (spSS n)
  | 0 => by
    obtain ⟨fd, F⟩ := T.c.def_ 37 (d := d__law_statement_size) rfl
    exact ⟨fd, ⟨fun _ _ _ _ h => h.elim, fun _ _ _ _ _ _ _ _ _ _ _ _ _ h => h.elim⟩, FunD.bindsN F fun _ _ _ _ _ _ us hl => match us, hl with | [_], _ => rfl, F.kp, (T.glo 55 rfl)⟩
  | n + 1 => by
    obtain ⟨fd, F⟩ := T.c.def_ 37 (d := d__law_statement_size) rfl
    have Hbs := ok_bs (P := P) (w := w) (base := base) T n (ok_ss T n)
    have He := ok_es (P := P) (w := w) (base := base) T n
    have Hc := ok_cs (P := P) (w := w) (base := base) T n
    have Hso := ok_sort (P := P) (w := w) (base := base) T
    have Hn := ok_lisname (P := P) (w := w) (base := base) T
    have Hb := ok_both (P := P) (w := w) (base := base) T
    refine ⟨fd, F.ok scSS (fun vs H Q E h => ?_) (fun cdv A outer s H vs Q E hr h => ?_), FunD.bindsN F fun _ _ _ _ _ _ us hl => match us, hl with | [_], _ => rfl, F.kp, (T.glo 55 rfl)⟩
    · obtain ⟨v, d, rfl, _⟩ := h
      rfl
    · refine ⟨_, PSs.nox (pss_cons (ps_set (i := 1) scSS.nd rfl (Or.inl rfl) (pe_has Hso (hr.mono (by omega)) pass0 (pa_cons (pv 0) pa_nil)))
 (pss_cons (ps_if (PW.pt (pw_and (pt_cmpR op_eq (pv 1) pe_str (nomark _)) (pw_and1 (pt_cmpR op_eq (pe_callB call_len (by rfl) (T.free 76 rfl) PySem.boot_len (pa_cons (pv 0) pa_nil)) pe_int (nomark _)))))
 (pss_cons (ps_set (i := 2) scSS.nd rfl (Or.inl rfl) (pe_has Hb (hr.mono (by omega)) pass0 (pa_cons (pe_lstS (pa_cons (pe_has He (hr.mono (by omega)) pass0 (pa_cons (pe_ix ix_tup (pv 0) pe_int (fun _ _ => rfl)) pa_nil)) pa_nil)) pa_nil)))
 (pss_one (ps_ret (pe_ifExp (pt_cmpR op_isN (pv 2) pe_non (nomark _)) pe_non (pe_op op_catA (pv 2) (pe_tup (pa_cons pe_int pa_nil)))))))
 pss_nil)
 (pss_cons (ps_if (PW.pt (pw_and (pt_cmpR op_eq (pv 1) pe_str (nomark _)) (pw_and (pt_cmpR op_eq (pe_callB call_len (by rfl) (T.free 76 rfl) PySem.boot_len (pa_cons (pv 0) pa_nil)) pe_int (nomark _)) (pw_and1 (pt_val (pe_has Hn (hr.mono (by omega)) pass0 (pa_cons (pe_ix ix_tup (pv 0) pe_int (fun _ _ => rfl)) pa_nil)))))))
 (pss_cons (ps_set (i := 2) scSS.nd rfl (Or.inl rfl) (pe_has Hb (hr.mono (by omega)) pass0 (pa_cons (pe_lstS (pa_cons (pe_has He (hr.mono (by omega)) pass0 (pa_cons (pe_ix ix_tup (pv 0) pe_int (fun _ _ => rfl)) pa_nil)) pa_nil)) pa_nil)))
 (pss_one (ps_ret (pe_ifExp (pt_cmpR op_isN (pv 2) pe_non (nomark _)) pe_non (pe_op op_catA (pv 2) (pe_tup (pa_cons pe_int pa_nil)))))))
 pss_nil)
 (pss_cons (ps_if (PW.pt (pw_and (pt_cmpR op_eq (pv 1) pe_str (nomark _)) (pw_and (pt_cmpR op_eq (pe_callB call_len (by rfl) (T.free 76 rfl) PySem.boot_len (pa_cons (pv 0) pa_nil)) pe_int (nomark _)) (pw_and1 (pt_val (pe_has Hn (hr.mono (by omega)) pass0 (pa_cons (pe_ix ix_tup (pv 0) pe_int (fun _ _ => rfl)) pa_nil)))))))
 (pss_cons (ps_set (i := 3) scSS.nd rfl (Or.inl rfl) (pe_has Hbs (hr) pass0 (pa_cons (pe_ix ix_tup (pv 0) pe_int (fun _ _ => rfl)) pa_nil)))
 (pss_one (ps_ret (pe_ifExp (pt_cmpR op_isN (pv 3) pe_non (nomark _)) pe_non (pe_tup (pa_cons (pe_op op_add pe_int (pe_ix ix_tup (pv 3) pe_int (fun _ _ => rfl))) (pa_cons (pe_op op_add pe_int (pe_ix ix_tup (pv 3) pe_int (fun _ _ => rfl))) (pa_cons (pe_op op_add pe_int (pe_ix ix_tup (pv 3) pe_int (fun _ _ => rfl))) pa_nil))))))))
 pss_nil)
 (pss_cons (ps_if (PW.pt (pw_and (pt_cmpR op_eq (pv 1) pe_str (nomark _)) (pw_and1 (pt_cmpR op_eq (pe_callB call_len (by rfl) (T.free 76 rfl) PySem.boot_len (pa_cons (pv 0) pa_nil)) pe_int (nomark _)))))
 (pss_cons (ps_par3 (i := 4) (j := 3) (l := 5) rfl scSS.nd rfl rfl rfl (by decide) (by decide) (by decide) rfl rfl rfl (pa_cons (pe_has Hc (hr.mono (by omega)) pass0 (pa_cons (pe_ix ix_tup (pv 0) pe_int (fun _ _ => rfl)) pa_nil)) (pa_cons (pe_has Hbs (hr) pass0 (pa_cons (pe_ix ix_tup (pv 0) pe_int (fun _ _ => rfl)) pa_nil)) (pa_cons (pe_has Hbs (hr) pass0 (pa_cons (pe_ix ix_tup (pv 0) pe_int (fun _ _ => rfl)) pa_nil)) pa_nil))) (by rfl))
 (pss_cons (ps_if (PW.pt (pw_or (pt_cmpR op_isN (pv 4) pe_non (nomark _)) (pw_or (pt_cmpR op_isN (pv 3) pe_non (nomark _)) (pw_or1 (pt_cmpR op_isN (pv 5) pe_non (nomark _))))))
 (pss_one (ps_ret pe_non))
 pss_nil)
 (pss_cons (ps_set (i := 6) scSS.nd rfl (Or.inl rfl) (pe_op op_add pe_int (pe_callB (call_max3Nu rfl) (by rfl) (T.free 78 rfl) (by decide +kernel) (pa_cons (pe_ix ix_tup (pv 4) pe_int (fun _ _ => rfl)) (pa_cons (pe_ix ix_tup (pv 3) pe_int (fun _ _ => rfl)) (pa_cons (pe_ix ix_tup (pv 5) pe_int (fun _ _ => rfl)) pa_nil))))))
 (pss_one (ps_ret (pe_tup (pa_cons (pe_op op_add (pe_op op_add (pe_op op_add pe_int (pe_ix ix_tup (pv 4) pe_int (fun _ _ => rfl))) (pe_ix ix_tup (pv 3) pe_int (fun _ _ => rfl))) (pe_ix ix_tup (pv 5) pe_int (fun _ _ => rfl))) (pa_cons (pv 6) (pa_cons (pe_callB (call_max2 rfl) (by rfl) (T.free 78 rfl) (by decide +kernel) (pa_cons (pe_ix ix_tup (pv 3) pe_int (fun _ _ => rfl)) (pa_cons (pe_ix ix_tup (pv 5) pe_int (fun _ _ => rfl)) pa_nil))) pa_nil)))))))))
 pss_nil)
 (pss_one (ps_ret pe_non))))))), ?_⟩
      obtain ⟨v, d, rfl, hd, sh, dn, hQ⟩ := h
      refine ⟨_, rfl, v, d, rfl, hd, ?_⟩
      refine ⟨_, rfl, rfl, _, rfl, ?_⟩
      rw [str_dec]
      have part : ∀ {k : Str} {rest : List PyData} {x : PyData}, d = .tuple (.str k :: rest) → x ∈ rest → V10.dp x + 1 ≤ n ∧ shortA x = true := fun {k rest x} e m => by
        subst e
        have := V10.dp_mem (d := x) (ds := .str k :: rest) (List.mem_cons_of_mem _ m)
        exact ⟨by omega, shortAll_of (show shortAll (.str k :: rest) = true from sh) x (List.mem_cons_of_mem _ m)⟩
      by_cases ks : sortD d = Str.ofString "say"
      · rw [decide_eq_true ks]
        obtain ⟨rest, ed⟩ := V10.sort_inv ks (by decide +kernel)
        rw [ed] at hd
        obtain ⟨a, us, rfl, ha, ra⟩ := Dx.tup_inv hd
        have lu := dxAll_len ra
        refine iteT ⟨_, rfl, _, _, rfl, .inr ⟨us, st_of ha, rfl⟩, rfl, _, rfl, ?_⟩
        by_cases l1 : rest.length = 1
        case neg =>
          rw [ed, V10.s_say.1 rest l1] at hQ
          rw [show decide (V.int ((us.length : Nat) : Int) = V.int 2) = false from len_no lu l1]
          refine iteF ⟨_, rfl, rfl, _, rfl, ?_⟩
          rw [str_dec, decide_eq_false (by first | assumption | exact fun z => absurd (ks.symm.trans z) (by decide +kernel))]
          refine iteF (iteF ⟨_, rfl, rfl, _, rfl, ?_⟩)
          rw [str_dec, decide_eq_false (by first | assumption | exact fun z => absurd (ks.symm.trans z) (by decide +kernel))]
          refine iteF (iteF ⟨_, rfl, rfl, _, rfl, ?_⟩)
          rw [str_dec, decide_eq_false (by first | assumption | exact fun z => absurd (ks.symm.trans z) (by decide +kernel))]
          exact iteF (iteF (hQ _ _ (Same.refl H) rfl))
        rw [show decide (V.int ((us.length : Nat) : Int) = V.int 2) = true from len_yes lu l1]
        obtain ⟨x, rfl⟩ := V10.one_of l1
        rw [ed, V10.s_say.2 x, ← V10.bothF_1] at hQ
        obtain ⟨dx, shx⟩ := part ed (x := x) (by simp)
        cases ra with | @cons v1 us _ _ q1 ra =>
        cases ra with | @cons vx _ _ _ q2 ra =>
        cases ra
        obtain ⟨n, rfl⟩ : ∃ m, n = m + 1 := ⟨n - 1, by omega⟩
        refine iteT ⟨_, rfl, a, _, 1, vx, rfl, rfl, st_of ha, at1, vx, x, rfl, q2, shx, by omega, fun H3 u s3 szu => ⟨(by show 1 ≤ sizeLine; decide), fun p np _ => ?_⟩⟩
        have s4 := same_new (o := HO.lst [u]) np
        refine ⟨p, [u], [eS x], rfl, upd_same, SzL.snoc .nil (szu.same s4), (by show 1 ≤ 1000; decide), fun H5 u5 s5 sz5 => ?_⟩
        exact ⟨_, rfl, rfl, _, rfl, ret0 sz5 (fun H6 v6 s6 z6 => hQ _ _ (s3.trans (s4.trans (s5.trans s6))) z6) (fun Q q => ⟨_, rfl, q⟩)⟩
      rw [decide_eq_false ks]
      have nsay := ks
      clear ks
      refine iteF (iteF ⟨_, rfl, rfl, _, rfl, ?_⟩)
      rw [str_dec]
      by_cases ks : sortD d = Str.ofString "let"
      · rw [decide_eq_true ks]
        obtain ⟨rest, ed⟩ := V10.sort_inv ks (by decide +kernel)
        rw [ed] at hd
        obtain ⟨a, us, rfl, ha, ra⟩ := Dx.tup_inv hd
        have lu := dxAll_len ra
        refine iteT ⟨_, rfl, _, _, rfl, .inr ⟨us, st_of ha, rfl⟩, rfl, _, rfl, ?_⟩
        by_cases l1 : rest.length = 2
        case neg =>
          rw [ed, V10.s_let.1 rest l1] at hQ
          rw [show decide (V.int ((us.length : Nat) : Int) = V.int 3) = false from len_no lu l1]
          refine iteF (iteF ⟨_, rfl, rfl, _, rfl, ?_⟩)
          rw [str_dec, decide_eq_false (by first | assumption | exact fun z => absurd (ks.symm.trans z) (by decide +kernel))]
          refine iteF (iteF ⟨_, rfl, rfl, _, rfl, ?_⟩)
          rw [str_dec, decide_eq_false (by first | assumption | exact fun z => absurd (ks.symm.trans z) (by decide +kernel))]
          exact iteF (iteF (hQ _ _ (Same.refl H) rfl))
        rw [show decide (V.int ((us.length : Nat) : Int) = V.int 3) = true from len_yes lu l1]
        obtain ⟨x, y, rfl⟩ := V10.two_of l1
        rw [ed, V10.s_let.2 x y] at hQ
        obtain ⟨dx, shx⟩ := part ed (x := x) (by simp)
        obtain ⟨dy, shy⟩ := part ed (x := y) (by simp)
        cases ra with | @cons v1 us _ _ q1 ra =>
        cases ra with | @cons vx us _ _ q2 ra =>
        cases ra with | @cons vy _ _ _ q3 ra =>
        cases ra
        obtain ⟨n, rfl⟩ : ∃ m, n = m + 1 := ⟨n - 1, by omega⟩
        refine iteT ⟨_, rfl, a, _, 1, vx, rfl, rfl, st_of ha, at1, vx, x, rfl, q2, shortA_D shx, fun H2 s2 => ⟨_, rfl, ?_⟩⟩
        cases nx : nameD x with
        | false =>
          rw [nx, if_neg (by decide)] at hQ
          refine iteF ⟨_, rfl, rfl, _, rfl, ?_⟩
          rw [str_dec, decide_eq_false (by first | assumption | exact fun z => absurd (ks.symm.trans z) (by decide +kernel))]
          refine iteF (iteF ⟨_, rfl, rfl, _, rfl, ?_⟩)
          rw [str_dec, decide_eq_false (by first | assumption | exact fun z => absurd (ks.symm.trans z) (by decide +kernel))]
          exact iteF (iteF (hQ _ _ s2 rfl))
        | true =>
        rw [nx, if_pos rfl, ← V10.bothF_1] at hQ
        refine iteT ⟨_, rfl, a, _, 2, vy, rfl, rfl, st_of (s2 _ _ ha), at2, vy, y, rfl, q3.sm s2, shy, by omega, fun H3 u s3 szu => ⟨(by show 1 ≤ sizeLine; decide), fun p np _ => ?_⟩⟩
        have s4 := same_new (o := HO.lst [u]) np
        refine ⟨p, [u], [eS y], rfl, upd_same, SzL.snoc .nil (szu.same s4), (by show 1 ≤ 1000; decide), fun H5 u5 s5 sz5 => ?_⟩
        exact ⟨_, rfl, rfl, _, rfl, ret0 sz5 (fun H6 v6 s6 z6 => hQ _ _ (s2.trans (s3.trans (s4.trans (s5.trans s6)))) z6) (fun Q q => ⟨_, rfl, q⟩)⟩
      rw [decide_eq_false ks]
      have nlet := ks
      clear ks
      refine iteF (iteF ⟨_, rfl, rfl, _, rfl, ?_⟩)
      rw [str_dec]
      by_cases ks : sortD d = Str.ofString "each"
      · rw [decide_eq_true ks]
        obtain ⟨rest, ed⟩ := V10.sort_inv ks (by decide +kernel)
        rw [ed] at hd
        obtain ⟨a, us, rfl, ha, ra⟩ := Dx.tup_inv hd
        have lu := dxAll_len ra
        refine iteT ⟨_, rfl, _, _, rfl, .inr ⟨us, st_of ha, rfl⟩, rfl, _, rfl, ?_⟩
        by_cases l1 : rest.length = 2
        case neg =>
          rw [ed, V10.s_each.1 rest l1] at hQ
          rw [show decide (V.int ((us.length : Nat) : Int) = V.int 3) = false from len_no lu l1]
          refine iteF (iteF ⟨_, rfl, rfl, _, rfl, ?_⟩)
          rw [str_dec, decide_eq_false (by first | assumption | exact fun z => absurd (ks.symm.trans z) (by decide +kernel))]
          exact iteF (iteF (hQ _ _ (Same.refl H) rfl))
        rw [show decide (V.int ((us.length : Nat) : Int) = V.int 3) = true from len_yes lu l1]
        obtain ⟨x, y, rfl⟩ := V10.two_of l1
        rw [ed, V10.s_each.2 x y] at hQ
        obtain ⟨dx, shx⟩ := part ed (x := x) (by simp)
        obtain ⟨dy, shy⟩ := part ed (x := y) (by simp)
        cases ra with | @cons v1 us _ _ q1 ra =>
        cases ra with | @cons vx us _ _ q2 ra =>
        cases ra with | @cons vy _ _ _ q3 ra =>
        cases ra
        refine iteT ⟨_, rfl, a, _, 1, vx, rfl, rfl, st_of ha, at1, vx, x, rfl, q2, shortA_D shx, fun H2 s2 => ⟨_, rfl, ?_⟩⟩
        cases nx : nameD x with
        | false =>
          rw [nx, if_neg (by decide)] at hQ
          refine iteF ⟨_, rfl, rfl, _, rfl, ?_⟩
          rw [str_dec, decide_eq_false (by first | assumption | exact fun z => absurd (ks.symm.trans z) (by decide +kernel))]
          exact iteF (iteF (hQ _ _ s2 rfl))
        | true =>
        rw [nx, if_pos rfl] at hQ
        refine iteT ⟨_, rfl, a, _, 2, vy, rfl, rfl, st_of (s2 _ _ ha), at2, vy, y, rfl, q3.sm s2, shy, by omega, fun H3 u s3 szu => ⟨_, rfl, rfl, _, rfl, ?_⟩⟩
        cases hb : bS y with
        | none =>
          rw [hb] at szu hQ
          obtain rfl : u = .non := szu
          exact iteT (hQ _ _ (s2.trans s3) rfl)
        | some q =>
          rw [hb] at szu hQ
          obtain ⟨t, rfl, et⟩ := szu
          refine iteF ⟨_, rfl, t, _, 0, _, rfl, rfl, st_of et, at0, _, _, rfl, rfl, ?_⟩
          refine ⟨_, rfl, t, _, 1, _, rfl, rfl, st_of et, at1, _, _, rfl, rfl, ?_⟩
          refine ⟨_, rfl, t, _, 2, _, rfl, rfl, st_of et, at2, _, _, rfl, rfl, ?_⟩
          refine ⟨(by show 3 ≤ sizeLine; decide), fun t2 n2 => hQ _ _ (s2.trans (s3.trans (same_new n2))) ⟨t2, rfl, ?_⟩⟩
          rw [upd_same]
          show some (HO.tup [V.int (1 + ((q.1 : Nat) : Int)), V.int (1 + ((q.2.1 : Nat) : Int)), V.int (1 + ((q.2.2 : Nat) : Int))]) = some (HO.tup [V.int ((1 + q.1 : Nat) : Int), V.int ((1 + q.2.1 : Nat) : Int), V.int ((1 + q.2.2 : Nat) : Int)])
          have z : ∀ k : Nat, (1 : Int) + ((k : Nat) : Int) = ((1 + k : Nat) : Int) := fun k => by omega
          rw [z, z, z]
      rw [decide_eq_false ks]
      have neach := ks
      clear ks
      refine iteF (iteF ⟨_, rfl, rfl, _, rfl, ?_⟩)
      rw [str_dec]
      by_cases ks : sortD d = Str.ofString "if"
      · rw [decide_eq_true ks]
        obtain ⟨rest, ed⟩ := V10.sort_inv ks (by decide +kernel)
        rw [ed] at hd
        obtain ⟨a, us, rfl, ha, ra⟩ := Dx.tup_inv hd
        have lu := dxAll_len ra
        refine iteT ⟨_, rfl, _, _, rfl, .inr ⟨us, st_of ha, rfl⟩, rfl, _, rfl, ?_⟩
        by_cases l1 : rest.length = 3
        case neg =>
          rw [ed, V10.s_if.1 rest l1] at hQ
          rw [show decide (V.int ((us.length : Nat) : Int) = V.int 4) = false from len_no lu l1]
          exact iteF (hQ _ _ (Same.refl H) rfl)
        rw [show decide (V.int ((us.length : Nat) : Int) = V.int 4) = true from len_yes lu l1]
        obtain ⟨x, y, z, rfl⟩ : ∃ x y z, rest = [x, y, z] := by
          match rest, l1 with
          | [x, y, z], _ => exact ⟨x, y, z, rfl⟩
        rw [ed, V10.s_if.2 x y z] at hQ
        obtain ⟨dx, shx⟩ := part ed (x := x) (by simp)
        obtain ⟨dy, shy⟩ := part ed (x := y) (by simp)
        obtain ⟨dz, shz⟩ := part ed (x := z) (by simp)
        cases ra with | @cons v1 us _ _ q1 ra =>
        cases ra with | @cons vx us _ _ q2 ra =>
        cases ra with | @cons vy us _ _ q3 ra =>
        cases ra with | @cons vz _ _ _ q4 ra =>
        cases ra
        obtain ⟨n, rfl⟩ : ∃ m, n = m + 1 := ⟨n - 1, by omega⟩
        refine iteT ⟨_, rfl, a, _, 1, vx, rfl, rfl, st_of ha, at1, vx, x, rfl, q2, shx, by omega, fun H2 u2 s2 z2 => ?_⟩
        refine ⟨_, rfl, a, _, 2, vy, rfl, rfl, st_of (s2 _ _ ha), at2, vy, y, rfl, q3.sm s2, shy, by omega, fun H3 u3 s3 z3 => ?_⟩
        have s23 := s2.trans s3
        refine ⟨_, rfl, a, _, 3, vz, rfl, rfl, st_of (s23 _ _ ha), at3, vz, z, rfl, q4.sm s23, shz, by omega, fun H4 u4 s4 z4 => ?_⟩
        have st := s23.trans s4
        replace z2 := z2.same (s3.trans s4)
        replace z3 := z3.same s4
        refine ⟨_, _, _, rfl, _, rfl, rfl, _, rfl, ?_⟩
        cases hx : cS x with
        | none =>
          rw [hx] at z2 hQ
          obtain rfl : u2 = .non := z2
          exact iteT (iteT (hQ _ _ st rfl))
        | some p =>
        rw [hx] at z2 hQ
        obtain ⟨t2, rfl, e2⟩ := z2
        refine iteF ⟨_, rfl, rfl, _, rfl, ?_⟩
        cases hy : bS y with
        | none =>
          rw [hy] at z3 hQ
          obtain rfl : u3 = .non := z3
          exact iteT (iteT (hQ _ _ st rfl))
        | some q =>
        rw [hy] at z3 hQ
        obtain ⟨t3, rfl, e3⟩ := z3
        refine iteF ⟨_, rfl, rfl, _, rfl, ?_⟩
        cases hz : bS z with
        | none =>
          rw [hz] at z4 hQ
          obtain rfl : u4 = .non := z4
          exact iteT (hQ _ _ st rfl)
        | some r =>
        rw [hz] at z4 hQ
        obtain ⟨t4, rfl, e4⟩ := z4
        refine iteF ?_
        refine ⟨_, rfl, t2, _, 1, _, rfl, rfl, st_of e2, at1, ?_⟩
        refine ⟨_, rfl, t3, _, 1, _, rfl, rfl, st_of e3, at1, ?_⟩
        refine ⟨_, rfl, t4, _, 1, _, rfl, rfl, st_of e4, at1, ?_⟩
        refine ⟨_, _, _, _, rfl, max3_eq _ _ _, _, _, rfl, rfl, ?_⟩
        refine ⟨_, rfl, t2, _, 0, _, rfl, rfl, st_of e2, at0, _, _, rfl, rfl, ?_⟩
        refine ⟨_, rfl, t3, _, 0, _, rfl, rfl, st_of e3, at0, _, _, rfl, rfl, ?_⟩
        refine ⟨_, rfl, t4, _, 0, _, rfl, rfl, st_of e4, at0, _, _, rfl, rfl, ?_⟩
        refine ⟨_, rfl, _, rfl, t3, _, 2, _, rfl, rfl, st_of e3, at2, ?_⟩
        refine ⟨_, rfl, t4, _, 2, _, rfl, rfl, st_of e4, at2, _, _, rfl, ?_⟩
        refine ⟨(by show 3 ≤ sizeLine; decide), fun t5 n5 => hQ _ _ (st.trans (same_new n5)) ⟨t5, rfl, ?_⟩⟩
        rw [upd_same]
        show some (HO.tup [V.int (1 + ((p.1 : Nat) : Int) + ((q.1 : Nat) : Int) + ((r.1 : Nat) : Int)), V.int (1 + ((max (max p.2 q.2.1) r.2.1 : Nat) : Int)), V.int (if ((r.2.2 : Nat) : Int) > ((q.2.2 : Nat) : Int) then ((r.2.2 : Nat) : Int) else ((q.2.2 : Nat) : Int))]) = some (HO.tup [V.int ((1 + p.1 + q.1 + r.1 : Nat) : Int), V.int ((1 + max (max p.2 q.2.1) r.2.1 : Nat) : Int), V.int ((max q.2.2 r.2.2 : Nat) : Int)])
        rw [max_int, show (1 : Int) + ((p.1 : Nat) : Int) + ((q.1 : Nat) : Int) + ((r.1 : Nat) : Int) = ((1 + p.1 + q.1 + r.1 : Nat) : Int) by omega, show (1 : Int) + ((max (max p.2 q.2.1) r.2.1 : Nat) : Int) = ((1 + max (max p.2 q.2.1) r.2.1 : Nat) : Int) by omega]
      rw [decide_eq_false ks]
      rw [V10.s_else nsay nlet neach ks] at hQ
      exact iteF (iteF (hQ _ _ (Same.refl H) rfl))
theorem ok_lip (T : Tx K w mg) (Hbs : Has P w K mg base CX0 165 "_law_body_size" ["thing"] (spBS 80)) : Has P w K mg base CX0 180 "_law_is_program" ["thing"] spIP := by
  obtain ⟨fd, F⟩ := T.c.def_ 39 (d := d__law_is_program) rfl
  refine ⟨fd, F.ok scIP (fun vs H Q E h => ?_) (fun cdv A outer s H vs Q E hr h => ?_), FunD.bindsN F fun _ _ _ _ _ _ us hl => match us, hl with | [_], _ => rfl, F.kp, (T.glo 57 rfl)⟩
  · obtain ⟨v, d, rfl, _⟩ := h
    rfl
  · refine ⟨_, PSs.nox (pss_cons (ps_set (i := 1) scIP.nd rfl (Or.inl rfl) (pe_has Hbs (hr.mono (by omega)) pass0 (pa_cons (pv 0) pa_nil)))
 (pss_one (ps_ret (pe_and (pe_cmpR op_notN (pv 1) pe_non (nomark _)) (pe_and (pe_cmpR op_le (pe_ix ix_tup (pv 1) pe_int (fun _ _ => rfl)) pe_int (nomark _)) (pe_and (pe_cmpR op_le (pe_ix ix_tup (pv 1) pe_int (fun _ _ => rfl)) pe_int (nomark _)) (pe_one (pe_cmpR op_le (pe_ix ix_tup (pv 1) pe_int (fun _ _ => rfl)) pe_int (nomark _))))))))), ?_⟩
    obtain ⟨v, d, rfl, hd, sh, dn, hQ⟩ := h
    refine ⟨_, rfl, v, d, rfl, hd, sh, dn, fun H1 u s1 szu => ?_⟩
    unfold progS at hQ
    cases hb : bS d with
    | none =>
      rw [hb] at szu hQ
      obtain rfl : u = .non := szu
      exact ⟨_, rfl, rfl, _, rfl, iteF (hQ _ s1)⟩
    | some q =>
      rw [hb] at szu hQ
      obtain ⟨t, rfl, et⟩ := szu
      refine ⟨_, rfl, rfl, _, rfl, iteT ?_⟩
      refine ⟨_, rfl, t, _, 0, _, rfl, rfl, st_of et, at0, _, _, rfl, rfl, _, rfl, ?_⟩
      have z : ∀ (a b : Nat), decide (((a : Nat) : Int) ≤ ((b : Nat) : Int)) = decide (a ≤ b) := fun a b => by
        by_cases h : a ≤ b
        · rw [decide_eq_true h, decide_eq_true (Int.ofNat_le.mpr h)]
        · rw [decide_eq_false h, decide_eq_false fun q => h (Int.ofNat_le.mp q)]
      have z1 : decide (((q.1 : Nat) : Int) ≤ 500) = decide (q.1 ≤ 500) := z _ 500
      have z2 : decide (((q.2.1 : Nat) : Int) ≤ 20) = decide (q.2.1 ≤ 20) := z _ 20
      have z3 : decide (((q.2.2 : Nat) : Int) ≤ 2) = decide (q.2.2 ≤ 2) := z _ 2
      dsimp only at hQ
      rw [z1]
      cases b1 : decide (q.1 ≤ 500) with
      | false =>
        rw [b1] at hQ
        exact iteF (hQ _ s1)
      | true =>
      rw [b1, Bool.true_and] at hQ
      refine iteT ⟨_, rfl, t, _, 1, _, rfl, rfl, st_of et, at1, _, _, rfl, rfl, _, rfl, ?_⟩
      rw [z2]
      cases b2 : decide (q.2.1 ≤ 20) with
      | false =>
        rw [b2] at hQ
        exact iteF (hQ _ s1)
      | true =>
      rw [b2, Bool.true_and] at hQ
      refine iteT ⟨_, rfl, t, _, 2, _, rfl, rfl, st_of et, at2, _, _, rfl, rfl, ?_⟩
      rw [← z3] at hQ
      exact hQ _ s1
end
end K07

set_option maxHeartbeats 4000000
/-! V10e: tuple * k, k from 0 on. -/
namespace V10
open PySem PySem.Spec PyProof.Rows L2 V1 V2 V3 V5 V6 V9
theorem tuple_mul1 (l : Addr) (items : Array Value) (n : Nat) (dd : Option Addr) (sl : Array (Option Value)) (u : Tok) :
    Meets (Builtin.«tuple.__mul__» ⟨[.ref l, .int 1 u], []⟩) (fun _ R s => s.heap.get? l = some { cls := .type "tuple", dict := dd, data := .seq items n, slots := sl } ∧ R (.ok (.ret (Value.ref l))) s) :=
  .of_wp fun prog w A R s h => by
    obtain ⟨hp, g, d, tk, os⟩ := s
    obtain ⟨hl, h⟩ := h
    have f1 := AutoSeq1.idx_int
    wp_walk using wpAny_loadPart' hl
    exact ⟨_, rfl, h⟩
theorem tuple_mul0 (l : Addr) (items : Array Value) (n : Nat) (dd : Option Addr) (sl : Array (Option Value)) (u : Tok) (ne : items.isEmpty = false) :
    Meets (Builtin.«tuple.__mul__» ⟨[.ref l, .int 0 u], []⟩) (fun _ R s => s.heap.get? l = some { cls := .type "tuple", dict := dd, data := .seq items n, slots := sl } ∧
      R (.ok (.ret (Value.ref s.heap.objs.size))) { s with heap := s.heap.push { cls := Value.type "tuple", data := Data.seq #[] }, toks := s.toks }) :=
  .of_wp fun prog w A R s h => by
    obtain ⟨hp, g, d, tk, os⟩ := s
    obtain ⟨hl, h⟩ := h
    have f1 := AutoSeq1.idx_int
    wp_walk using wpAny_loadPart' hl
    exact ⟨_, rfl, h⟩
section
variable {X : Cx}
/-- t * k, of a tuple that is not empty -/
def rRepU (K : PySem.W.Frag) : R2 := fun x y H Q => ∃ l k xs, x = .ref l ∧ y = .int k ∧ SqT K H l xs ∧ xs ≠ [] ∧ 0 ≤ k ∧ k ≤ 3000 ∧ xs.length ≤ 300 ∧ (k = 1 → Q (.ref l) H) ∧ (k ≠ 1 → ∀ p, H p = none → Q (.ref p) (upd H p (.tup (List.replicate k.toNat xs).flatten)))
theorem op_repU : OpR X (binaryOp .Mult) (rRepU X.K) := by
  intro pins s σ H x y v u Q I rx ry h
  obtain ⟨l, k, xs, rfl, rfl, hT, hne, h1, h2, hz, q1, q⟩ := h
  cases rx
  obtain ⟨t, rfl⟩ := ry
  obtain ⟨its, r, ⟨⟨cls, dd, data, sl⟩, ho, hc, n, hd⟩, hs⟩ := I.tuple hT
  simp only at hc hd
  subst hc hd
  have hle : its.length = xs.length := r.length.symm
  have hn : its ≠ [] := fun e => hne (by
    rw [e] at hle
    exact List.eq_nil_of_length_eq_zero hle.symm)
  have hi : its.toArray.isEmpty = false := by
    cases its with
    | nil => exact absurd rfl hn
    | cons a b => rfl
  by_cases k1 : k = 1
  · subst k1
    exact wpAny_binaryOp_repeat_ref (T := "tuple") (U := "int") (by decide) ⟨_, ho, rfl⟩ (fun s' => typeIs_int s' 1 t) noFill_tuple_mul F.fills_int_mul F.slot_int_rmul repeat_tuple F.slot_int_index.lookup
      (call_meets F.slot_int_rmul (typeIs_int s 1 t) F.entry_int_rmul (F.args_int_rmul_2 _ _) (int_rmul_tuple 1 t l its.toArray n dd sl)
        ⟨ho, rfl, ⟨_, ho, rfl⟩, call_meets F.slot_tuple_mul ⟨_, ho, rfl⟩ F.entry_tuple_mul (F.args_tuple_mul_2 _ _) (tuple_mul1 l its.toArray n dd sl t) ⟨ho, ⟨.ref l, H, I, rfl, q1 rfl⟩⟩⟩)
  by_cases k0 : k = 0
  · subst k0
    refine wpAny_binaryOp_repeat_ref (T := "tuple") (U := "int") (by decide) ⟨_, ho, rfl⟩ (fun s' => typeIs_int s' 0 t) noFill_tuple_mul F.fills_int_mul F.slot_int_rmul repeat_tuple F.slot_int_index.lookup
      (call_meets F.slot_int_rmul (typeIs_int s 0 t) F.entry_int_rmul (F.args_int_rmul_2 _ _) (int_rmul_tuple 0 t l its.toArray n dd sl)
        ⟨ho, rfl, ⟨_, ho, rfl⟩, call_meets F.slot_tuple_mul ⟨_, ho, rfl⟩ F.entry_tuple_mul (F.args_tuple_mul_2 _ _) (tuple_mul0 l its.toArray n dd sl t hi) ⟨ho, ?_⟩⟩)
    refine ⟨.ref s.heap.objs.size, _, I.laid (t' := s.toks) (o := .tup []) (fun b ob q => Heap.get?_push_of_some _ q) (Nat.le_refl _) ?_, rfl, q (by decide) _ (I.hok.fresh (Nat.le_refl _))⟩
    exact ⟨by decide, _, .nil, IsTup.new _ _⟩
  have hsz0 : its.toArray.size = xs.length := by rw [List.size_toArray, hle]
  have hm : ((its.toArray.size : Nat) : Int) * k ≤ 900000 := by
    rw [hsz0]
    have a1 : ((xs.length : Nat) : Int) * k ≤ 300 * k := Int.mul_le_mul_of_nonneg_right (by omega) (by omega)
    omega
  have flen : (List.replicate k.toNat its).flatten.length ≤ sizeLine := by
    rw [PyProof.Rows.lm_len_rep_flat, hle, sizeLine_eq]
    have a1 : k.toNat * xs.length ≤ 3000 * 300 := Nat.mul_le_mul (by omega) hz
    omega
  have c0 : (decide (k < -(2 ^ 63)) || decide (k ≥ 2 ^ 63)) = false := by
    rw [decide_eq_false (by omega), decide_eq_false (by omega)] <;> rfl
  have c1 : (its.toArray.isEmpty || k == 1) = false := by
    rw [hi, Bool.false_or]
    exact beq_eq_false_iff_ne.mpr (by omega)
  have c2 : (decide (k ≤ 0) || its.toArray.isEmpty) = false := by
    rw [hi, Bool.or_false]
    exact decide_eq_false (by omega)
  have c4 : Builtin.Tuple.tupleTooMany (((its.toArray.size : Nat) : Int) * k) = false := by
    unfold Builtin.Tuple.tupleTooMany
    rw [sizeLine_eq]
    exact decide_eq_false (by omega)
  refine wpAny_binaryOp_repeat_ref (T := "tuple") (U := "int") (by decide) ⟨_, ho, rfl⟩ (fun s' => typeIs_int s' k t) noFill_tuple_mul F.fills_int_mul F.slot_int_rmul repeat_tuple F.slot_int_index.lookup
    (call_meets F.slot_int_rmul (typeIs_int s k t) F.entry_int_rmul (F.args_int_rmul_2 _ _) (int_rmul_tuple k t l its.toArray n dd sl)
      ⟨ho, rfl, ⟨_, ho, rfl⟩, call_meets F.slot_tuple_mul ⟨_, ho, rfl⟩ F.entry_tuple_mul (F.args_tuple_mul_2 _ _) (tuple_mulW l its.toArray n dd sl k t c0 c1 c2 (by omega) c4 (by rw [size_rep, List.size_toArray]; exact flen)) ⟨ho, ?_⟩⟩)
  rw [size_rep]
  refine ⟨.ref s.heap.objs.size, _, I.laid (t' := s.toks) (o := .tup (List.replicate k.toNat xs).flatten) (fun b ob q => Heap.get?_push_of_some _ q) (Nat.le_refl _) ?_, rfl, q k1 _ (I.hok.fresh (Nat.le_refl _))⟩
  exact ⟨by rw [PyProof.Rows.lm_len_rep_flat, sizeLine_eq]; have a1 : k.toNat * xs.length ≤ 3000 * 300 := Nat.mul_le_mul (by omega) hz; omega, _, r.rep k.toNat, IsTup.new _ _⟩
end
end V10
namespace V2
open PySem PySem.Spec PyProof.Rows L2 V1
/-- list(x), the new place not that of the modules -/
theorem call_list_low {X : Cx} : CallR X (.type "list") (fun xs H Q => ∃ p ys, xs = [.ref p] ∧ (SqL X.K H p ys ∨ SqT X.K H p ys) ∧ ∀ l, H l = none → (l == sysModules) = false → Q (.ref l) (upd H l (.lst ys))) := by
  rintro pins s σ H xs us Q I r ⟨p, ys, rfl, hq, q⟩
  obtain ⟨u, rfl, rx⟩ := vals1 r
  cases rx
  have src : ∃ (zs : List Value) (T : String) (o : Obj) (n : Nat), Vals ys zs ∧ ys.length ≤ sizeLine ∧ (T = "list" ∨ T = "tuple") ∧ s.heap.get? p = some o ∧ o.cls = .type T ∧ o.data = .seq zs.toArray n := by
    rcases hq with hq | hq
    · obtain ⟨zs, w, pl, z⟩ := I.list hq
      obtain ⟨o, e, c, n, d⟩ := pl.isList
      exact ⟨zs, _, o, n, w, z, .inl rfl, e, c, d⟩
    · obtain ⟨zs, w, pl, z⟩ := I.tuple hq
      obtain ⟨o, e, c, n, d⟩ := pl
      exact ⟨zs, _, o, n, w, z, .inr rfl, e, c, d⟩
  obtain ⟨zs, T, o, n, w, z, hT, e, c, d⟩ := src
  have lz := w.length
  refine call_list_seq p hT e c d (fun h1 c1 kp eh => ?_) (by simp only [List.size_toArray]; omega)
  exact ⟨.ref s.heap.objs.size, _, I.laid (o := .lst ys) (t' := s.toks) kp (Nat.le_refl _) ⟨z, zs, c1, w, eh⟩, rfl, q _ (I.hok.fresh (Nat.le_refl _)) (beq_eq_false_iff_ne.mpr (Nat.ne_of_gt I.big))⟩
end V2

set_option maxHeartbeats 4000000
namespace K07
open PySem PySem.Spec PyProof.Rows L2 V1 V2 V3 V6 V9
open V10 (dp dps sz szs)
open V10 (sortD PgOk)
open Evl (pss_cut tCut sq_of st_of)
theorem shortA_R {d : PyData} (h : shortA d = true) : ∀ ds, d = .tuple ds → ∀ x ∈ ds, shortD x := fun ds e x hx => by
  subst e
  exact shortA_D (shortAll_of h x hx)
theorem shortA_P {d : PyData} (h : shortA d = true) : shortP d := by
  cases d with
  | tuple ds => exact fun d hd => ⟨shortA_D (shortAll_of h d hd), shortA_R (shortAll_of h d hd)⟩
  | _ => trivial
theorem shortA_Ps {d : PyData} (h : shortA d = true) : ∀ ds, d = .tuple ds → ∀ x ∈ ds, shortP x := fun ds e x hx => by
  subst e
  exact shortA_P (shortAll_of h x hx)
/-- bounds of a thing -/
structure Bo (d : PyData) (n m : Nat) : Prop where
  sh : shortA d = true
  dp : V10.dp d ≤ n
  sz : V10.sz d ≤ m
/-- bounds of things in a row -/
structure BoL (ds : List PyData) (n m : Nat) : Prop where
  sh : shortAll ds = true
  dp : V10.dps ds ≤ n
  sz : V10.szs ds ≤ m
theorem Bo.mono {d : PyData} {n m n' m' : Nat} (h : Bo d n m) (a : n ≤ n') (b : m ≤ m') : Bo d n' m' := ⟨h.sh, Nat.le_trans h.dp a, Nat.le_trans h.sz b⟩
theorem BoL.mono {d : List PyData} {n m n' m' : Nat} (h : BoL d n m) (a : n ≤ n') (b : m ≤ m') : BoL d n' m' := ⟨h.sh, Nat.le_trans h.dp a, Nat.le_trans h.sz b⟩
theorem BoL.nil {n : Nat} : BoL [] n 0 := ⟨rfl, Nat.zero_le _, Nat.zero_le _⟩
theorem BoL.cons {d : PyData} {ds : List PyData} {n m k : Nat} (h : Bo d n m) (g : BoL ds n k) : BoL (d :: ds) n (m + k) := ⟨by
  rw [shortAll, h.sh, g.sh]
  rfl, by
  have h1 := h.dp
  have h2 := g.dp
  rw [dps]
  omega, by
  have h1 := h.sz
  have h2 := g.sz
  rw [szs]
  omega⟩
theorem shortAll_app : ∀ a b : List PyData, shortAll (a ++ b) = (shortAll a && shortAll b)
  | [], b => rfl
  | d :: a, b => by rw [List.cons_append, shortAll, shortAll, shortAll_app a b, Bool.and_assoc]
theorem BoL.app {ds es : List PyData} {n m k : Nat} (h : BoL ds n m) (g : BoL es n k) : BoL (ds ++ es) n (m + k) := ⟨by
  rw [shortAll_app, h.sh, g.sh]
  rfl, by
  have h1 := h.dp
  have h2 := g.dp
  rw [V10.dps_app]
  omega, by
  have h1 := h.sz
  have h2 := g.sz
  rw [V10.szs_app]
  omega⟩
theorem BoL.tup {ds : List PyData} {n m : Nat} (h : BoL ds n m) : Bo (.tuple ds) (n + 1) (m + 1) := ⟨h.sh, by
  have := h.dp
  rw [V10.dp]
  omega, by
  have := h.sz
  rw [V10.sz]
  omega⟩
theorem BoL.lst {ds : List PyData} {n m : Nat} (h : BoL ds n m) : Bo (.list ds) (n + 1) (m + 1) := ⟨h.sh, by
  have := h.dp
  rw [V10.dp]
  omega, by
  have := h.sz
  rw [V10.sz]
  omega⟩
theorem Bo.parts {ds : List PyData} {n m : Nat} (h : Bo (.tuple ds) n m) : ∃ n' m', n = n' + 1 ∧ m = m' + 1 ∧ BoL ds n' m' := by
  have h1 := h.dp
  have h2 := h.sz
  rw [V10.dp] at h1
  rw [V10.sz] at h2
  exact ⟨n - 1, m - 1, by omega, by omega, h.sh, by omega, by omega⟩
/-- a row is two rows -/
theorem BoL.split {a b : List PyData} {n m : Nat} (h : BoL (a ++ b) n m) : ∃ m1 m2, m1 + m2 = m ∧ BoL a n m1 ∧ BoL b n m2 := by
  have h1 := h.dp
  have h2 := h.sz
  have h3 := h.sh
  rw [V10.dps_app] at h1
  rw [V10.szs_app] at h2
  rw [shortAll_app, Bool.and_eq_true] at h3
  exact ⟨szs a, m - szs a, by omega, ⟨h3.1, by omega, Nat.le_refl _⟩, h3.2, by omega, by omega⟩
theorem BoL.one {d : PyData} {n m : Nat} (h : BoL [d] n m) : Bo d n m := by
  have h1 := h.dp
  have h2 := h.sz
  have h3 := h.sh
  rw [dps, dps] at h1
  rw [szs, szs] at h2
  rw [shortAll, Bool.and_eq_true] at h3
  exact ⟨h3.1, by omega, by omega⟩
/-- what stands ahead of a place, there, and behind it -/
theorem BoL.at_ {ds : List PyData} {n m i : Nat} (h : BoL ds n m) {d : PyData} (e : ds[i]? = some d) : ∃ m1 m2 m3, m1 + m2 + m3 = m ∧ BoL (ds.take i) n m1 ∧ Bo d n m2 ∧ BoL (ds.drop (i + 1)) n m3 := by
  obtain ⟨hi, rfl⟩ := List.getElem?_eq_some_iff.mp e
  have dr : ds = ds.take i ++ ([ds[i]] ++ ds.drop (i + 1)) := by
    rw [List.singleton_append, List.getElem_cons_drop, List.take_append_drop]
  rw [dr] at h
  obtain ⟨m1, k, e1, b1, h⟩ := h.split
  obtain ⟨m2, m3, e2, b2, b3⟩ := h.split
  exact ⟨m1, m2, m3, by omega, b1, b2.one, b3⟩
theorem BoL.cut {ds : List PyData} {n m : Nat} (i : Nat) (h : BoL ds n m) : ∃ m1 m2, m1 + m2 = m ∧ BoL (ds.take i) n m1 ∧ BoL (ds.drop i) n m2 := by
  rw [← List.take_append_drop i ds] at h
  exact h.split
theorem BoL.len {ds : List PyData} {n m : Nat} (h : BoL ds n m) : ds.length ≤ m := Nat.le_trans (V10.len_szs ds) h.sz
theorem BoL.rep {ds : List PyData} {n m : Nat} (h : BoL ds n m) : ∀ k : Nat, BoL (List.replicate k ds).flatten n (k * m)
  | 0 => by
    rw [Nat.zero_mul]
    exact .nil
  | k + 1 => by
    rw [List.replicate_succ, List.flatten_cons, Nat.succ_mul, Nat.add_comm]
    exact h.app (h.rep k)
theorem Bo.of {d : PyData} {n m : Nat} (h : (shortA d && (decide (V10.dp d ≤ n) && decide (V10.sz d ≤ m))) = true) : Bo d n m := by
  simp only [Bool.and_eq_true, decide_eq_true_eq] at h
  exact ⟨h.1, h.2.1, h.2.2⟩
def boB (n m : Nat) (d : PyData) : Bool := shortA d && (decide (V10.dp d ≤ n) && decide (V10.sz d ≤ m))
section
variable [CurK]
def TbV (H : Hp) (v : V) : Prop := ∃ q dx fs, v = .ref q ∧ H q = some (.ins (He.ga K "Table") dx fs)
/-- a thing that is an object is a table, or the program of no statement -/
def TopK (H : Hp) (v : V) (d : PyData) : Prop := d = objD → TbV H v ∨ ∃ q, v = .ref q ∧ PgAt H q .nil
theorem TopK.of {H : Hp} {v : V} {d : PyData} (h : d ≠ objD) : TopK H v d := fun e => absurd e h
theorem TopK.same {H H' : Hp} {v : V} {d : PyData} (s : Same H H') (h : TopK H v d) : TopK H' v d := fun e => by
  rcases h e with ⟨q, dx, fs, rfl, e⟩ | ⟨q, rfl, e⟩
  · exact .inl ⟨q, dx, fs, rfl, s _ _ e⟩
  · exact .inr ⟨q, rfl, e.same s⟩
end
end K07

set_option maxHeartbeats 4000000
namespace K07
open PySem PySem.Spec PyProof.Rows L2 V1 V2 V3 V6 V9
open V4 (MkL held_ne)
open V10 (sortD PgOk)
open Evl (pss_cut tCut sq_of st_of)
section
variable [CurK] {σ : L2.St} {H0 : Hp} {a : Addr} {d : PyData} {ds es : List PyData} {te t1 t2 : TE} {ta : TA}
/-- a value and what is known of it as a whole -/
def MkV (H0 : Hp) (a : Addr) (te : TE) (σ : L2.St) (d : PyData) : Prop := ∀ H, Same H0 H → ∀ Q : VK, (∀ v H', Same H H' → Dx (delH H' a) v d → TopK (delH H' a) v d → Q v H') → te σ H Q
def Tops (H : Hp) (xs : List V) (ds : List PyData) : Prop := ∀ (i : Nat) (v : V) (d : PyData), xs[i]? = some v → ds[i]? = some d → TopK H v d
def MkVA (H0 : Hp) (a : Addr) (ta : TA) (σ : L2.St) (ds : List PyData) : Prop := ∀ H, Same H0 H → ∀ Q : List V → Hp → Prop, (∀ vs H', Same H H' → DxAll (delH H' a) vs ds → Tops (delH H' a) vs ds → Q vs H') → ta σ H Q
def MkT (H0 : Hp) (a : Addr) (te : TE) (σ : L2.St) (ds : List PyData) : Prop := ∀ H, Same H0 H → ∀ Q : VK, (∀ p xs H', Same H H' → p ≠ a → H' p = some (.lst xs) → DxAll (delH H' a) xs ds → Tops (delH H' a) xs ds → Q (.ref p) H') → te σ H Q
theorem Tops.same {H H' : Hp} (s : Same H H') {xs : List V} (h : Tops H xs ds) : Tops H' xs ds := fun i v d e1 e2 => (h i v d e1 e2).same s
theorem set_go {te : TE} {i : Nat} {rest : TS} {D : Ends} {σ : L2.St} {H : Hp} (h : te σ H (fun v H' => rest D (σ.set i (some v)) H')) : tSeq (tAsg te (gName i)) rest D σ H := h
theorem mkv_of (h : MkY H0 a te σ d) (ne : d ≠ objD) : MkV H0 a te σ d := fun H s Q k => h H s Q fun v H' s' q => k v H' s' q (.of ne)
theorem mkva_nil : MkVA H0 a tNil σ [] := fun H _ _ k => k [] H (Same.refl H) .nil fun i v d e => by cases e
theorem mkva_cons (h : MkV H0 a te σ d) (r : MkVA H0 a ta σ ds) : MkVA H0 a (tCons te ta) σ (d :: ds) := fun H s _ k => h H s _ fun v H1 s1 q1 t1 => r H1 (s.trans s1) _ fun vs H2 s2 q2 t2 =>
  k (v :: vs) H2 (s1.trans s2) (.cons (Dx.same (same_del s2) d v q1) q2) fun i u e h1 h2 => by
    cases i with
    | zero => cases h1; cases h2; exact t1.same (same_del s2)
    | succ i => exact t2 i u e h1 h2
theorem mkt_lst (ha : Held H0 a) (r : MkVA H0 a ta σ ds) (hz : ds.length ≤ 1000) : MkT H0 a (tLstS ta) σ ds := fun H s _ k => r H s _ fun vs H1 s1 q1 t1 =>
  ⟨Nat.le_of_lt (small1000 (by rw [dxAll_len q1]; exact hz)), fun p n low => k p vs _ (s1.trans (same_new n)) (held_ne ((ha.same s).same s1) n) upd_same (DxAll.same (same_del (same_new n)) ds vs q1) (t1.same (same_del (same_new n)))⟩
theorem mkt_of (h : MkY H0 a te σ (.list ds)) (ne : ∀ d ∈ ds, d ≠ objD) : MkT H0 a te σ ds := fun H s Q k => V4.mkl_of h H s Q fun p xs H' s' na e r => k p xs H' s' na e r fun i v d _ h2 => .of (ne d (List.mem_of_getElem? h2))
theorem mkt_var {i : Nat} {p : Addr} {xs : List V} (na : p ≠ a) (e : H0 p = some (.lst xs)) (r : DxAll (delH H0 a) xs ds) (t : Tops (delH H0 a) xs ds) (hv : σ[i]? = some (some (.ref p))) : MkT H0 a (tVar i) σ ds := fun H s Q k =>
  ⟨_, hv, k p xs H (Same.refl H) na (s _ _ e) (DxAll.same (same_del s) _ _ r) (t.same (same_del s))⟩
theorem mkt_cat (ha : Held H0 a) (h1 : MkT H0 a t1 σ ds) (h2 : MkT H0 a t2 σ es) (l : ds.length + es.length ≤ 5000) : MkT H0 a (tOp rCat t1 t2) σ (ds ++ es) := fun H s Q k =>
  h1 H s _ fun p xs H1 s1 na e1 r1 p1 => h2 H1 (s.trans s1) _ fun q ys H2 s2 nb e2 r2 p2 => by
    have l1 := dxAll_len r1
    have l2 := dxAll_len r2
    refine ⟨p, q, xs, ys, rfl, rfl, s2 _ _ e1, e2, by rw [sizeLine_eq]; omega, fun c nc => ?_⟩
    refine k c _ _ ((s1.trans s2).trans (same_new nc)) (held_ne (ha.same (s.trans (s1.trans s2))) nc) upd_same (DxAll.same (same_del (same_new nc)) _ _ (DxAll.app (DxAll.same (same_del s2) _ _ r1) r2)) fun i v d h1 h2 => ?_
    refine TopK.same (same_del (same_new nc)) ?_
    by_cases il : i < xs.length
    · rw [List.getElem?_append_left il] at h1
      rw [List.getElem?_append_left (by omega)] at h2
      exact (p1 i v d h1 h2).same (same_del s2)
    · rw [List.getElem?_append_right (by omega)] at h1
      rw [List.getElem?_append_right (by omega), ← l1] at h2
      exact p2 _ v d h1 h2
end
section
variable [CurK]
/-- a Table is made, or not, the arguments being there -/
theorem tab_fin {H : Hp} {Qa : Addr → Hp → Prop} {E : XK} {v1 v2 : V} {d1 d2 : PyData} (h1 : Dx H v1 d1) (h2 : Dx H v2 d2) (sh1 : shortA d1 = true) (sh2 : shortA d2 = true)
    (bad : ∀ x, partOf d1 d2 = some x → ∀ d H', H d = none → Same H H' → H' d = some (.xd [("part", x)]) → E (.ref (He.ga K "BadTable")) (some d) H')
    (good : partOf d1 d2 = none → ∀ ts o, d1 = .tuple (ts.map mkP) → d2 = .str o → GoodT ts → ts.length ≤ 200 → ∀ p H', Same H H' → H p = none → TAt H' p ts o → Qa p H') :
    ∀ p dx, H p = none → H dx = none → dx ≠ p → spTab [.ref p, v1, v2] (upd (upd H dx (.own p)) p (.ins (He.ga K "Table") dx [])) (fun v H2 => v = .non ∧ Qa p H2) E := fun p dx np nd ne => by
  have sm : Same H (upd (upd H dx (.own p)) p (.ins (He.ga K "Table") dx [])) := fun b o e => by
    rw [upd_ne (ne_of_none e np), upd_ne (ne_of_none e nd)]
    exact e
  refine ⟨p, dx, v1, v2, d1, d2, rfl, upd_same, Dx.same sm _ _ h1, Dx.same sm _ _ h2, shortA_Ps sh1, shortA_D sh2, fun x hx d H' nd' s' hd => bad x hx d H' (fresh_up sm nd') (sm.trans s') hd, fun hx ts o e1 e2 gt ln H' st ta => ⟨rfl, good hx ts o e1 e2 gt ln p H' (fun b u e => ?_) np ta⟩⟩
  exact st b u (ne_of_none e np) (sm _ _ e)
def teTable : TE := tMake (He.ga K "Table") spTab [] (fun _ _ _ => False) (tCons (tTup tNil) (tCons (tC (.str (Str.ofString ""))) tNil))
def teProg0 : TE := tMake (He.ga K "Program") spPInit [] (fun _ _ _ => False) (tCons (tTup tNil) tNil)
def odd0 : List PyData := [.none, .bool true, .int 0, .int 7, .str (Str.ofString ""), .str (Str.ofString "many"), .str (Str.ofString "last"), .str (Str.ofString "abcdefgh"), .str (Str.ofString "abcdefghi"), .str (Str.ofString "A"), .str (Str.ofString "a1"), .str (Txt.mul (Str.ofString "x") 41), .str (Txt.mul (Str.ofString "x") 40), .str (Str.ofString "a\n"), .str (Str.ofString "say")]
def odd1 : List PyData := [.tuple [], .list [], .dict [], .tuple [.str (Str.ofString "say")], .tuple [.str (Str.ofString "many")], .tuple [.str (Str.ofString "last"), .str (Str.ofString "a")], .tuple [.str (Str.ofString "many"), .int 1], .tuple [.str (Str.ofString "name"), .str (Str.ofString "last")], .tuple [.str (Str.ofString "text"), .str (Str.ofString "a")], .tuple [.str (Str.ofString "text"), .int 1]]
def odd2 : List PyData := [.tuple [.str (Str.ofString "let"), .str (Str.ofString "a")], .tuple [.str (Str.ofString "say"), .tuple [.str (Str.ofString "many")]], .tuple [.str (Str.ofString "not"), .tuple [.str (Str.ofString "many")]], .tuple [.str (Str.ofString "same"), .tuple [.str (Str.ofString "many")], .tuple [.str (Str.ofString "last")]], .tuple [.tuple [.tuple [.str (Str.ofString "a")]]], .tuple [.str (Str.ofString "name")]]
def odd3 : List PyData := [objD, objD, .list [.tuple [.str (Str.ofString "say"), .tuple [.str (Str.ofString "many")]]], .tuple [.tuple [.str (Str.ofString "say")]]]
def te0 : TE := (tLstS (tCons (tC .non) (tCons (tC (.bl true)) (tCons (tC (.int 0)) (tCons (tC (.int 7)) (tCons (tC (.str (Str.ofString ""))) (tCons (tC (.str (Str.ofString "many"))) (tCons (tC (.str (Str.ofString "last"))) (tCons (tC (.str (Str.ofString "abcdefgh"))) (tCons (tC (.str (Str.ofString "abcdefghi"))) (tCons (tC (.str (Str.ofString "A"))) (tCons (tC (.str (Str.ofString "a1"))) (tCons (tOp V4.rMulS (tC (.str (Str.ofString "x"))) (tC (.int 41))) (tCons (tOp V4.rMulS (tC (.str (Str.ofString "x"))) (tC (.int 40))) (tCons (tC (.str (Str.ofString "a\n"))) (tCons (tC (.str (Str.ofString "say"))) tNil))))))))))))))))
def te1 : TE := (tLstS (tCons (tTup tNil) (tCons (tLstS tNil) (tCons tDNewK (tCons (tTup (tCons (tC (.str (Str.ofString "say"))) tNil)) (tCons (tTup (tCons (tC (.str (Str.ofString "many"))) tNil)) (tCons (tTup (tCons (tC (.str (Str.ofString "last"))) (tCons (tC (.str (Str.ofString "a"))) tNil))) (tCons (tTup (tCons (tC (.str (Str.ofString "many"))) (tCons (tC (.int 1)) tNil))) (tCons (tTup (tCons (tC (.str (Str.ofString "name"))) (tCons (tC (.str (Str.ofString "last"))) tNil))) (tCons (tTup (tCons (tC (.str (Str.ofString "text"))) (tCons (tC (.str (Str.ofString "a"))) tNil))) (tCons (tTup (tCons (tC (.str (Str.ofString "text"))) (tCons (tC (.int 1)) tNil))) tNil)))))))))))
def te2 : TE := (tLstS (tCons (tTup (tCons (tC (.str (Str.ofString "let"))) (tCons (tC (.str (Str.ofString "a"))) tNil))) (tCons (tTup (tCons (tC (.str (Str.ofString "say"))) (tCons (tTup (tCons (tC (.str (Str.ofString "many"))) tNil)) tNil))) (tCons (tTup (tCons (tC (.str (Str.ofString "not"))) (tCons (tTup (tCons (tC (.str (Str.ofString "many"))) tNil)) tNil))) (tCons (tTup (tCons (tC (.str (Str.ofString "same"))) (tCons (tTup (tCons (tC (.str (Str.ofString "many"))) tNil)) (tCons (tTup (tCons (tC (.str (Str.ofString "last"))) tNil)) tNil)))) (tCons (tTup (tCons (tTup (tCons (tTup (tCons (tC (.str (Str.ofString "a"))) tNil)) tNil)) tNil)) (tCons (tTup (tCons (tC (.str (Str.ofString "name"))) tNil)) tNil)))))))
end
theorem odds_bo : ∀ d ∈ odd0 ++ odd1 ++ odd2 ++ odd3, boB 5 20 d = true := by decide +kernel
def isObj : PyData → Bool
  | .dict (_ :: _) => true
  | _ => false
theorem no_obj {ds : List PyData} (h : (ds.all fun d => !isObj d) = true) : ∀ d ∈ ds, d ≠ objD := fun d m e => by
  rw [List.all_eq_true] at h
  have z := h d m
  rw [e] at z
  cases z
def spOdd [CurK] : Sp := fun vs H Q _ => ∃ a, vs = [.ref a] ∧ HandAt H a ∧ ∀ H' v d, Go a H H' → Dx (delH H' a) v d → TopK (delH H' a) v d → Bo d 5 20 → Q v H'
theorem scOdd : FnScope ["hand", "first", "second", "third"] ["hand"] (defScope s__law_odd) := ⟨rfl, rfl, rfl, by decide +kernel, rfl, by decide +kernel, by decide +kernel⟩
section
variable [CurK] {P : Program} {w : World} {mg : Str → Option Value} {base : Heap} {σ : L2.St}
theorem mkv_tab {H0 : Hp} {a : Addr} (T : Tx K w mg) (ha : Held H0 a) : MkV H0 a teTable σ objD := fun H s0 Q q => by
  refine ⟨by show 0 ≤ sizeLine; decide, fun p1 n1 => ?_⟩
  have s1 := same_new (o := HO.tup []) n1
  have h1 : Dx (upd H p1 (HO.tup [])) (.ref p1) (.tuple []) := .tup upd_same .nil
  generalize upd H p1 (HO.tup []) = H1 at h1 s1
  refine tab_fin (Qa := fun p H' => Q (.ref p) H') h1 (.str (Str.ofString "")) (by decide +kernel) (by decide +kernel) (fun x hx => ?_) (fun _ ts o _ _ _ _ p H' sm np ta => ?_)
  · have z : partOf (.tuple []) (.str (Str.ofString "")) = none := by
      unfold partOf
      rw [if_pos (by decide +kernel)]
      simp only [show firstBad [] = none from rfl]
      rw [if_pos (by decide +kernel)]
    rw [z] at hx
    cases hx
  · obtain ⟨dx, b, q', us, kvs, hp, _⟩ := ta.ex
    have hp' := ((ha.same s0).same s1).off np hp
    exact q _ _ (s1.trans sm) (.ob hp' (T.obC 1 (x := "Table") rfl (He.cls_ok (T.c.fact 95 rfl)))) fun _ => .inl ⟨p, dx, _, rfl, hp'⟩
theorem mkv_prog {H0 : Hp} {a : Addr} (T : Tx K w mg) (ha : Held H0 a) : MkV H0 a teProg0 σ objD := fun H s0 Q q => by
  refine ⟨by show 0 ≤ sizeLine; decide, fun p1 n1 => ?_⟩
  have s1 := same_new (o := HO.tup []) n1
  have e1 : upd H p1 (HO.tup []) p1 = some (.tup []) := upd_same
  generalize upd H p1 (HO.tup []) = H1 at e1 s1
  intro p dx np nd ne
  have sm : Same H1 (upd (upd H1 dx (.own p)) p (.ins (He.ga K "Program") dx [])) := fun b o e => by
    rw [upd_ne (ne_of_none e np), upd_ne (ne_of_none e nd)]
    exact e
  have z0 : progB (.tuple []) = true := (progB_is _).mpr ⟨.nil, ⟨rfl, by decide, by decide, by decide⟩, by simp [Bd.ds]⟩
  refine ⟨p, dx, .ref p1, .tuple [], rfl, upd_same, .tup (sm _ _ e1) .nil, by decide +kernel, by decide +kernel, fun _ H' st hp => ⟨rfl, ?_⟩, fun z => ?_⟩
  · have s2 : Same H1 H' := fun b o e => st b o (ne_of_none e np) (sm _ _ e)
    have ha' := (ha.same s0).same (s1.trans s2)
    have nH : H p = none := fresh_up s1 np
    have pa : p ≠ a := fun z => by
      obtain ⟨o, e⟩ := ha.same s0
      rw [← z, nH] at e
      cases e
    have p1a : p1 ≠ a := fun z => by
      obtain ⟨o, e⟩ := ha.same s0
      rw [← z, n1] at e
      cases e
    have hp' : delH H' a p = some (.ins (He.ga K "Program") dx [("statements", .ref p1)]) := by rw [delH_ne pa]; exact hp
    have h1' : delH H' a p1 = some (.tup []) := by rw [delH_ne p1a]; exact s2 _ _ e1
    exact q _ _ (s1.trans s2) (.ob hp' (T.obC 0 (x := "Program") rfl (He.cls_ok (T.c.fact 89 rfl)))) fun _ => .inr ⟨p, rfl, dx, .ref p1, hp', .tup h1' .nil⟩
  · rw [z0] at z
    cases z
variable {H0 : Hp} {a : Addr}
theorem mk_0 (ha : Held H0 a) : MkT H0 a te0 σ odd0 := mkt_of (V4.mky_lst ha (V4.mkya_cons (V4.mky_of ha (mkx_of mkn_non)) (V4.mkya_cons (V4.mky_of ha (mkx_of (mkn_bl true))) (V4.mkya_cons (V4.mky_of ha (mkx_of (mkn_int 0))) (V4.mkya_cons (V4.mky_of ha (mkx_of (mkn_int 7))) (V4.mkya_cons (V4.mky_of ha (mkx_of (mkn_str _))) (V4.mkya_cons (V4.mky_of ha (mkx_of (mkn_str _))) (V4.mkya_cons (V4.mky_of ha (mkx_of (mkn_str _))) (V4.mkya_cons (V4.mky_of ha (mkx_of (mkn_str _))) (V4.mkya_cons (V4.mky_of ha (mkx_of (mkn_str _))) (V4.mkya_cons (V4.mky_of ha (mkx_of (mkn_str _))) (V4.mkya_cons (V4.mky_of ha (mkx_of (mkn_str _))) (V4.mkya_cons (V4.mky_of ha (V4.mkx_mulS _ 41 (by decide) (by decide) (by decide))) (V4.mkya_cons (V4.mky_of ha (V4.mkx_mulS _ 40 (by decide) (by decide) (by decide))) (V4.mkya_cons (V4.mky_of ha (mkx_of (mkn_str _))) (V4.mkya_cons (V4.mky_of ha (mkx_of (mkn_str _))) V4.mkya_nil))))))))))))))) (by show 15 ≤ 1000; decide)) (no_obj (by decide +kernel))
theorem mk_1 (ha : Held H0 a) : MkT H0 a te1 σ odd1 := mkt_of (V4.mky_lst ha (V4.mkya_cons (V4.mky_tup ha V4.mkya_nil (Nat.zero_le _)) (V4.mkya_cons (V4.mky_lst ha V4.mkya_nil (Nat.zero_le _)) (V4.mkya_cons (V4.mky_of ha (mkx_of mkn_dict0)) (V4.mkya_cons (V4.mky_tup ha (V4.mkya_cons (V4.mky_of ha (mkx_of (mkn_str _))) V4.mkya_nil) (by show 1 ≤ 1000; decide)) (V4.mkya_cons (V4.mky_tup ha (V4.mkya_cons (V4.mky_of ha (mkx_of (mkn_str _))) V4.mkya_nil) (by show 1 ≤ 1000; decide)) (V4.mkya_cons (V4.mky_tup ha (V4.mkya_cons (V4.mky_of ha (mkx_of (mkn_str _))) (V4.mkya_cons (V4.mky_of ha (mkx_of (mkn_str _))) V4.mkya_nil)) (by show 2 ≤ 1000; decide)) (V4.mkya_cons (V4.mky_tup ha (V4.mkya_cons (V4.mky_of ha (mkx_of (mkn_str _))) (V4.mkya_cons (V4.mky_of ha (mkx_of (mkn_int 1))) V4.mkya_nil)) (by show 2 ≤ 1000; decide)) (V4.mkya_cons (V4.mky_tup ha (V4.mkya_cons (V4.mky_of ha (mkx_of (mkn_str _))) (V4.mkya_cons (V4.mky_of ha (mkx_of (mkn_str _))) V4.mkya_nil)) (by show 2 ≤ 1000; decide)) (V4.mkya_cons (V4.mky_tup ha (V4.mkya_cons (V4.mky_of ha (mkx_of (mkn_str _))) (V4.mkya_cons (V4.mky_of ha (mkx_of (mkn_str _))) V4.mkya_nil)) (by show 2 ≤ 1000; decide)) (V4.mkya_cons (V4.mky_tup ha (V4.mkya_cons (V4.mky_of ha (mkx_of (mkn_str _))) (V4.mkya_cons (V4.mky_of ha (mkx_of (mkn_int 1))) V4.mkya_nil)) (by show 2 ≤ 1000; decide)) V4.mkya_nil)))))))))) (by show 10 ≤ 1000; decide)) (no_obj (by decide +kernel))
theorem mk_2 (ha : Held H0 a) : MkT H0 a te2 σ odd2 := mkt_of (V4.mky_lst ha (V4.mkya_cons (V4.mky_tup ha (V4.mkya_cons (V4.mky_of ha (mkx_of (mkn_str _))) (V4.mkya_cons (V4.mky_of ha (mkx_of (mkn_str _))) V4.mkya_nil)) (by show 2 ≤ 1000; decide)) (V4.mkya_cons (V4.mky_tup ha (V4.mkya_cons (V4.mky_of ha (mkx_of (mkn_str _))) (V4.mkya_cons (V4.mky_tup ha (V4.mkya_cons (V4.mky_of ha (mkx_of (mkn_str _))) V4.mkya_nil) (by show 1 ≤ 1000; decide)) V4.mkya_nil)) (by show 2 ≤ 1000; decide)) (V4.mkya_cons (V4.mky_tup ha (V4.mkya_cons (V4.mky_of ha (mkx_of (mkn_str _))) (V4.mkya_cons (V4.mky_tup ha (V4.mkya_cons (V4.mky_of ha (mkx_of (mkn_str _))) V4.mkya_nil) (by show 1 ≤ 1000; decide)) V4.mkya_nil)) (by show 2 ≤ 1000; decide)) (V4.mkya_cons (V4.mky_tup ha (V4.mkya_cons (V4.mky_of ha (mkx_of (mkn_str _))) (V4.mkya_cons (V4.mky_tup ha (V4.mkya_cons (V4.mky_of ha (mkx_of (mkn_str _))) V4.mkya_nil) (by show 1 ≤ 1000; decide)) (V4.mkya_cons (V4.mky_tup ha (V4.mkya_cons (V4.mky_of ha (mkx_of (mkn_str _))) V4.mkya_nil) (by show 1 ≤ 1000; decide)) V4.mkya_nil))) (by show 3 ≤ 1000; decide)) (V4.mkya_cons (V4.mky_tup ha (V4.mkya_cons (V4.mky_tup ha (V4.mkya_cons (V4.mky_tup ha (V4.mkya_cons (V4.mky_of ha (mkx_of (mkn_str _))) V4.mkya_nil) (by show 1 ≤ 1000; decide)) V4.mkya_nil) (by show 1 ≤ 1000; decide)) V4.mkya_nil) (by show 1 ≤ 1000; decide)) (V4.mkya_cons (V4.mky_tup ha (V4.mkya_cons (V4.mky_of ha (mkx_of (mkn_str _))) V4.mkya_nil) (by show 1 ≤ 1000; decide)) V4.mkya_nil)))))) (by show 6 ≤ 1000; decide)) (no_obj (by decide +kernel))
theorem ok_odd (T : Tx K w mg) : Has P w K mg base (L2.CX P w) 10 "_law_odd" ["hand"] spOdd := by
  obtain ⟨fd, F⟩ := T.c.def_ 40 (d := d__law_odd) rfl
  have Hs := ok_some (P := P) (w := w) (base := base) T
  have Htab := ok_tab (P := P) (w := w) (base := base) T
  have Hpi := ok_pinit (P := P) (w := w) (base := base) T
  refine ⟨fd, F.ok scOdd (fun vs H Q E h => ?_) (fun cdv A outer s H vs Q E hr h => ?_), FunD.bindsN F fun _ _ _ _ _ _ us hl => match us, hl with | [_], _ => rfl, F.kp, (T.glo 58 rfl)⟩
  · obtain ⟨a, rfl, _⟩ := h
    rfl
  · refine ⟨_, PSs.nox (pss_cons (ps_set (i := 1) scOdd.nd rfl (Or.inl rfl) (pe_lstS (pa_cons pe_non (pa_cons pe_bl (pa_cons pe_int (pa_cons pe_int (pa_cons pe_str (pa_cons pe_str (pa_cons pe_str (pa_cons pe_str (pa_cons pe_str (pa_cons pe_str (pa_cons pe_str (pa_cons (pe_op V4.op_mulS pe_str pe_int) (pa_cons (pe_op V4.op_mulS pe_str pe_int) (pa_cons pe_str (pa_cons pe_str pa_nil)))))))))))))))))
 (pss_cons (ps_set (i := 2) scOdd.nd rfl (Or.inl rfl) (pe_lstS (pa_cons (pe_tup pa_nil) (pa_cons (pe_lstS pa_nil) (pa_cons pe_dnewK (pa_cons (pe_tup (pa_cons pe_str pa_nil)) (pa_cons (pe_tup (pa_cons pe_str pa_nil)) (pa_cons (pe_tup (pa_cons pe_str (pa_cons pe_str pa_nil))) (pa_cons (pe_tup (pa_cons pe_str (pa_cons pe_int pa_nil))) (pa_cons (pe_tup (pa_cons pe_str (pa_cons pe_str pa_nil))) (pa_cons (pe_tup (pa_cons pe_str (pa_cons pe_str pa_nil))) (pa_cons (pe_tup (pa_cons pe_str (pa_cons pe_int pa_nil))) pa_nil))))))))))))
 (pss_cons (ps_set (i := 3) scOdd.nd rfl (Or.inl rfl) (pe_lstS (pa_cons (pe_tup (pa_cons pe_str (pa_cons pe_str pa_nil))) (pa_cons (pe_tup (pa_cons pe_str (pa_cons (pe_tup (pa_cons pe_str pa_nil)) pa_nil))) (pa_cons (pe_tup (pa_cons pe_str (pa_cons (pe_tup (pa_cons pe_str pa_nil)) pa_nil))) (pa_cons (pe_tup (pa_cons pe_str (pa_cons (pe_tup (pa_cons pe_str pa_nil)) (pa_cons (pe_tup (pa_cons pe_str pa_nil)) pa_nil)))) (pa_cons (pe_tup (pa_cons (pe_tup (pa_cons (pe_tup (pa_cons pe_str pa_nil)) pa_nil)) pa_nil)) (pa_cons (pe_tup (pa_cons pe_str pa_nil)) pa_nil))))))))
 (pss_one (ps_ret (pe_has Hs (hr.mono (by decide)) pass0 (pa_cons (pv 0) (pa_cons (pe_op op_cat (pe_op op_cat (pe_op op_cat (pv 1) (pv 2)) (pv 3)) (pe_lstS (pa_cons (pe_hasC Hpi (hr.mono (by decide)) passF (pa_cons (pe_tup pa_nil) pa_nil)) (pa_cons (pe_hasC Htab (hr.mono (by decide)) passF (pa_cons (pe_tup pa_nil) (pa_cons pe_str pa_nil))) (pa_cons (pe_lstS (pa_cons (pe_tup (pa_cons pe_str (pa_cons (pe_tup (pa_cons pe_str pa_nil)) pa_nil))) pa_nil)) (pa_cons (pe_tup (pa_cons (pe_tup (pa_cons pe_str pa_nil)) pa_nil)) pa_nil)))))) pa_nil)))))))), ?_⟩
    obtain ⟨a, rfl, hd, hQ⟩ := h
    have ha := hd.held
    refine set_go (te := te0) (mk_0 ha H (Same.refl H) _ fun p1 x1 H1 s1 n1 e1 r1 t1 => ?_)
    refine set_go (te := te1) (mk_1 (ha.same s1) H1 (Same.refl H1) _ fun p2 x2 H2 s2 n2 e2 r2 t2 => ?_)
    refine set_go (te := te2) (mk_2 (ha.same (s1.trans s2)) H2 (Same.refl H2) _ fun p3 x3 H3 s3 n3 e3 r3 t3 => ?_)
    have h3 := ha.same (s1.trans (s2.trans s3))
    have s23 := s2.trans s3
    refine ⟨_, rfl, mkt_cat (σ := [some (.ref a), some (.ref p1), some (.ref p2), some (.ref p3)]) h3 (mkt_cat h3 (mkt_cat h3 (mkt_var n1 (s23 _ _ e1) (DxAll.same (same_del s23) _ _ r1) (t1.same (same_del s23)) rfl) (mkt_var n2 (s3 _ _ e2) (DxAll.same (same_del s3) _ _ r2) (t2.same (same_del s3)) rfl) (by decide)) (mkt_var n3 e3 r3 t3 rfl) (by decide)) (mkt_lst h3 (mkva_cons (mkv_prog T h3) (mkva_cons (mkv_tab T h3) (mkva_cons (mkv_of (V4.mky_lst h3 (V4.mkya_cons (V4.mky_tup h3 (V4.mkya_cons (V4.mky_of h3 (mkx_of (mkn_str _))) (V4.mkya_cons (V4.mky_tup h3 (V4.mkya_cons (V4.mky_of h3 (mkx_of (mkn_str _))) V4.mkya_nil) (by show 1 ≤ 1000; decide)) V4.mkya_nil)) (by show 2 ≤ 1000; decide)) V4.mkya_nil) (by show 1 ≤ 1000; decide)) (by intro z; cases z)) (mkva_cons (mkv_of (V4.mky_tup h3 (V4.mkya_cons (V4.mky_tup h3 (V4.mkya_cons (V4.mky_of h3 (mkx_of (mkn_str _))) V4.mkya_nil) (by show 1 ≤ 1000; decide)) V4.mkya_nil) (by show 1 ≤ 1000; decide)) (by intro z; cases z)) mkva_nil)))) (by decide)) (by decide) H3 (Same.refl H3) _ fun p xs H4 s4 na e4 r4 t4 => ?_⟩
    have g4 := Go.new hd (s1.trans (s23.trans s4))
    have lv := dxAll_len r4
    refine ⟨a, _, _, rfl, g4.hd, .inl ⟨p, rfl, na, .inl e4⟩, by rw [lv]; decide, by rw [lv]; decide, fun H5 i v hd5 e5 c5 ev => ?_⟩
    have g5 := Go.draw hd5 e5 c5
    have il := (List.getElem?_eq_some_iff.mp ev).1
    rw [lv] at il
    have ed := List.getElem?_eq_getElem il
    exact hQ H5 v _ (g4.trans g5) (g5.dx (DxAll.at r4 ev ed)) ((t4 i v _ ev ed).same g5.sm) (.of (odds_bo _ (List.getElem_mem il)))
end
end K07

set_option maxHeartbeats 1000000
namespace K07
open PySem PySem.Spec PyProof.Rows L2 V1 V2 V3 V6 V9
open V4 (MkL held_ne)
open V10 (sortD PgOk)
open Evl (pss_cut tCut sq_of st_of)
theorem go_at {a b : Addr} {H H' : Hp} {o : HO} (g : Go a H H') (ne : b ≠ a) (e : H b = some o) : H' b = some o := by
  have z := g.sm b o (by rw [delH_ne ne]; exact e)
  rw [delH_ne ne] at z
  exact z
section
variable [CurK]
/-- a new tuple beside the hand -/
theorem dx_new {H : Hp} {a t : Addr} {vs : List V} {ds : List PyData} (hd : HandAt H a) (nt : H t = none) (r : DxAll (delH H a) vs ds) : Dx (delH (upd H t (.tup vs)) a) (.ref t) (.tuple ds) := by
  refine .tup ?_ (DxAll.same (same_del (same_new nt)) _ _ r)
  rw [delH_ne (hd.ne_new nt)]
  exact upd_same
theorem cat_go {H : Hp} {a : Addr} {v u : V} {ds es : List PyData} {Q : VK} (hd : HandAt H a) (hv : Dx (delH H a) v (.tuple ds)) (hu : Dx (delH H a) u (.tuple es)) (l : ds.length + es.length ≤ 50000) (k : ∀ H' v', Go a H H' → Dx (delH H' a) v' (.tuple (ds ++ es)) → Q v' H') : rCatA K v u H Q := by
  obtain ⟨p, xs, rfl, hp, rx⟩ := Dx.tup_inv hv
  obtain ⟨q, ys, rfl, hq, ry⟩ := Dx.tup_inv hu
  have l1 := dxAll_len rx
  have l2 := dxAll_len ry
  refine ⟨p, q, xs, ys, rfl, rfl, st_of (same_delH _ _ hp), st_of (same_delH _ _ hq), Nat.le_trans (by omega : xs.length + ys.length ≤ 50000) (by decide), fun z => ?_, fun _ z => ?_, fun _ _ t nt => ?_⟩
  · subst z
    cases rx
    exact k _ _ (Go.refl hd) hu
  · subst z
    cases ry
    rw [List.append_nil] at k
    exact k _ _ (Go.refl hd) hv
  · exact k _ _ (Go.new hd (same_new nt)) (dx_new hd nt (rx.app ry))
theorem slL_go {H : Hp} {a : Addr} {v : V} {ds : List PyData} {i : Nat} {Q : VK} (hd : HandAt H a) (hv : Dx (delH H a) v (.tuple ds)) (l : i < ds.length) (k : ∀ H' v', Go a H H' → Dx (delH H' a) v' (.tuple (ds.take i)) → Q v' H') : rSlA K v none (some ((i : Nat) : Int)) H Q := by
  obtain ⟨p, xs, rfl, hp, rx⟩ := Dx.tup_inv hv
  have l1 := dxAll_len rx
  have s0 : HT.sIx xs.length 0 none = 0 := rfl
  have s1 : HT.sIx xs.length xs.length (some ((i : Nat) : Int)) = i := by
    unfold HT.sIx
    dsimp only
    rw [if_neg (by omega), Int.toNat_natCast]
    omega
  refine ⟨p, xs, rfl, st_of (same_delH _ _ hp), fun z => ?_, fun _ t nt => ?_⟩
  · rw [s1] at z
    omega
  · refine k _ _ (Go.new hd (same_new nt)) (dx_new hd nt ?_)
    unfold cutV
    rw [s0, s1]
    exact rx.take i
theorem slR_go {H : Hp} {a : Addr} {v : V} {ds : List PyData} {i : Nat} {Q : VK} (hd : HandAt H a) (hv : Dx (delH H a) v (.tuple ds)) (l : i < ds.length) (k : ∀ H' v', Go a H H' → Dx (delH H' a) v' (.tuple (ds.drop (i + 1))) → Q v' H') : rSlA K v (some (((i : Nat) : Int) + 1)) none H Q := by
  obtain ⟨p, xs, rfl, hp, rx⟩ := Dx.tup_inv hv
  have l1 := dxAll_len rx
  have s0 : HT.sIx xs.length xs.length none = xs.length := rfl
  have s1 : HT.sIx xs.length 0 (some (((i : Nat) : Int) + 1)) = i + 1 := by
    unfold HT.sIx
    dsimp only
    rw [if_neg (by omega)]
    omega
  refine ⟨p, xs, rfl, st_of (same_delH _ _ hp), fun z => ?_, fun _ t nt => ?_⟩
  · rw [s1] at z
    omega
  · refine k _ _ (Go.new hd (same_new nt)) (dx_new hd nt ?_)
    unfold cutV
    rw [s0, s1, show xs.length - (i + 1) = (xs.drop (i + 1)).length from (List.length_drop ..).symm, List.take_length]
    exact rx.drop (i + 1)
theorem slF_go {H : Hp} {a : Addr} {v : V} {ds : List PyData} {i : Nat} {Q : VK} (hd : HandAt H a) (hv : Dx (delH H a) v (.tuple ds)) (l : i < ds.length) (k : ∀ H' v', Go a H H' → Dx (delH H' a) v' (.tuple (ds.drop i)) → Q v' H') : rSlA K v (some ((i : Nat) : Int)) none H Q := by
  obtain ⟨p, xs, rfl, hp, rx⟩ := Dx.tup_inv hv
  have l1 := dxAll_len rx
  have s0 : HT.sIx xs.length xs.length none = xs.length := rfl
  have s1 : HT.sIx xs.length 0 (some ((i : Nat) : Int)) = i := by
    unfold HT.sIx
    dsimp only
    rw [if_neg (by omega), Int.toNat_natCast]
    omega
  refine ⟨p, xs, rfl, st_of (same_delH _ _ hp), fun z => ?_, fun _ t nt => ?_⟩
  · rw [s1] at z
    have z0 : i = 0 := z.1
    subst z0
    rw [List.drop_zero] at k
    exact k _ _ (Go.refl hd) hv
  · refine k _ _ (Go.new hd (same_new nt)) (dx_new hd nt ?_)
    unfold cutV
    rw [s0, s1, show xs.length - i = (xs.drop i).length from (List.length_drop ..).symm, List.take_length]
    exact rx.drop i
def spSpo (n : Nat) : Sp := fun vs H Q _ => ∃ (a : Addr) (v : V) (d : PyData) (k m : Nat), vs = [.ref a, v, .int ((n : Nat) : Int)] ∧ HandAt H a ∧ Dx (delH H a) v d ∧ Bo d k m ∧ m ≤ 20000 ∧
  ∀ H' v' d', Go a H H' → Dx (delH H' a) v' d' → TopK (delH H' a) v' d' → Bo d' (k + 5) (2 * m + 20) → Q v' H'
end
theorem scSpo : FnScope ["hand", "thing", "left", "kind", "at"] ["hand", "thing", "left"] (defScope s__law_spoilt) := ⟨rfl, rfl, rfl, by decide +kernel, rfl, by decide +kernel, by decide +kernel⟩
section
variable [CurK] {P : Program} {w : World} {mg : Str → Option Value} {base : Heap}
theorem spo_core (T : Tx K w mg) (n : Nat) (spR : Sp) (Hr : Has P w K mg base (L2.CX P w) (n + 11) "_law_spoilt" ["hand", "thing", "left"] spR) (hR : ∀ m, n = m + 1 → ∀ vs H Q E, spSpo m vs H Q E → spR vs H Q E) : Has P w K mg base (L2.CX P w) (n + 12) "_law_spoilt" ["hand", "thing", "left"] (spSpo n) := by
  obtain ⟨fd, F⟩ := T.c.def_ 41 (d := d__law_spoilt) rfl
  have Hd := ok_draw (P := P) (w := w) (base := base) T
  have Hod := ok_odd (P := P) (w := w) (base := base) T
  refine ⟨fd, F.ok scSpo (fun vs H Q E h => ?_) (fun cdv A outer s H vs Q E hr h => ?_), FunD.bindsN F fun _ _ _ _ _ _ us hl => match us, hl with | [_, _, _], _ => rfl, F.kp, (T.glo 59 rfl)⟩
  · obtain ⟨a, v, d, k, m, rfl, _⟩ := h
    rfl
  · refine ⟨_, PSs.nox (pss_cons (ps_set (i := 3) scSpo.nd rfl (Or.inl rfl) (pe_has Hd (hr.mono (by omega)) pass0 (pa_cons (pv 0) (pa_cons pe_int pa_nil))))
 (pss_cons (ps_if (PW.pt (pw_or (pt_not (pt_val (pe_callB call_isi (by rfl) (T.free 75 rfl) (by decide +kernel) (pa_cons (pv 1) (pa_cons (pe_bltn (v := .ty "tuple") (by rfl) (T.free 81 rfl) (by decide +kernel) rfl) pa_nil))))) (pw_or (pt_cmpR op_eq (pe_callB call_len (by rfl) (T.free 76 rfl) PySem.boot_len (pa_cons (pv 1) pa_nil)) pe_int (nomark _)) (pw_or (pt_cmpR op_eq (pv 2) pe_int (nomark _)) (pw_or1 (pt_cmpR op_eq (pv 3) pe_int (nomark _)))))))
 (pss_one (ps_ret (pe_has Hod (hr.mono (by omega)) passF (pa_cons (pv 0) pa_nil))))
 pss_nil)
 (pss_cons (ps_set (i := 4) scSpo.nd rfl (Or.inl rfl) (pe_has Hd (hr.mono (by omega)) pass0 (pa_cons (pv 0) (pa_cons (pe_callB call_len (by rfl) (T.free 76 rfl) PySem.boot_len (pa_cons (pv 1) pa_nil)) pa_nil))))
 (pss_cons (ps_if (pt_cmpR op_eq (pv 3) pe_int (nomark _))
 (pss_one (ps_ret (pe_ix ix_list (pe_lstS (pa_cons (pe_op op_catA (pe_slice sl_tupA (pv 1) po_none (po_some (pv 4))) (pe_slice sl_tupA (pv 1) (po_some (pe_op op_add (pv 4) pe_int)) po_none)) (pa_cons (pe_callTy call_list_low (by rfl) (T.free 77 rfl) (by decide +kernel) (pa_cons (pv 1) pa_nil)) (pa_cons (pe_op op_catA (pv 1) (pe_tup (pa_cons (pe_ix ix_tup (pv 1) (pv 4) (fun _ _ => rfl)) pa_nil))) pa_nil)))) (pe_has Hd (hr.mono (by omega)) pass0 (pa_cons (pv 0) (pa_cons pe_int pa_nil))) (fun _ _ => rfl))))
 pss_nil)
 (pss_cons (ps_if (pt_cmpR op_eq (pv 3) pe_int (nomark _))
 (pss_one (ps_ret (pe_op op_catA (pe_op op_catA (pe_slice sl_tupA (pv 1) po_none (po_some (pv 4))) (pe_tup (pa_cons (pe_has Hod (hr.mono (by omega)) passF (pa_cons (pv 0) pa_nil)) pa_nil))) (pe_slice sl_tupA (pv 1) (po_some (pv 4)) po_none))))
 pss_nil)
 (pss_one (ps_ret (pe_op op_catA (pe_op op_catA (pe_slice sl_tupA (pv 1) po_none (po_some (pv 4))) (pe_tup (pa_cons (pe_has Hr (hr.mono (by omega)) passF (pa_cons (pv 0) (pa_cons (pe_ix ix_tup (pv 1) (pv 4) (fun _ _ => rfl)) (pa_cons (pe_op op_sub (pv 2) pe_int) pa_nil)))) pa_nil))) (pe_slice sl_tupA (pv 1) (po_some (pe_op op_add (pv 4) pe_int)) po_none))))))))), ?_⟩
    obtain ⟨a, v, d, k, m, rfl, hd, hv, bo, mm, hQ⟩ := h
    refine ⟨_, rfl, a, 12, rfl, hd, by decide, by decide, fun H1 kn hd1 e1 c1 k0 k12 => ?_⟩
    have g1 := Go.draw hd1 e1 c1
    obtain ⟨j, rfl⟩ := Int.eq_ofNat_of_zero_le k0
    have hv1 := g1.dx hv
    have odd : ∀ {H2 : L2.Hp} {E' : XK}, Go a H H2 → spOdd [.ref a] H2 (fun v' H' => Q v' H') E' := fun {H2 E'} g => ⟨a, rfl, g.hd, fun H3 v3 d3 g3 q3 t3 b3 => hQ H3 v3 d3 (g.trans g3) q3 t3 (b3.mono (by omega) (by omega))⟩
    obtain ⟨ty, tyx, kk⟩ := kx_of (kx_tup d) (hv1.sm same_delH)
    refine ⟨_, rfl, v, .ty "tuple", _, _, _, rfl, .ty "tuple", tyx, kk, _, rfl, ?_⟩
    cases hT : isTup d with
    | false => exact iteT (iteT ⟨_, rfl, odd (E' := fun _ _ _ => False) g1⟩)
    | true =>
    obtain ⟨ds, rfl⟩ := isTup_tup hT
    obtain ⟨t, us, rfl, ht, r⟩ := Dx.tup_inv hv1
    have lu : us.length = ds.length := dxAll_len r
    have ht' := same_delH _ _ ht
    obtain ⟨k', m', rfl, rfl, bl⟩ := bo.parts
    have dl := bl.len
    refine iteF ⟨_, rfl, _, _, rfl, .inr ⟨_, st_of ht', rfl⟩, rfl, _, rfl, ?_⟩
    by_cases l0 : ds.length = 0
    · rw [decide_eq_true (show V.int ((us.length : Nat) : Int) = V.int 0 by rw [lu, l0]; rfl)]
      exact iteT (iteT ⟨_, rfl, odd (E' := fun _ _ _ => False) g1⟩)
    rw [decide_eq_false (show ¬ V.int ((us.length : Nat) : Int) = V.int 0 from fun z => l0 (by have := V.int.inj z; omega))]
    refine iteF ⟨_, rfl, rfl, _, rfl, ?_⟩
    by_cases n0 : n = 0
    · rw [decide_eq_true (show V.int ((n : Nat) : Int) = V.int 0 by rw [n0]; rfl)]
      exact iteT (iteT ⟨_, rfl, odd (E' := fun _ _ _ => False) g1⟩)
    rw [decide_eq_false (show ¬ V.int ((n : Nat) : Int) = V.int 0 from fun z => n0 (by have := V.int.inj z; omega))]
    refine iteF ⟨_, rfl, rfl, _, rfl, ?_⟩
    by_cases j0 : j = 0
    · rw [decide_eq_true (show V.int ((j : Nat) : Int) = V.int 0 by rw [j0]; rfl)]
      exact iteT ⟨_, rfl, odd (E' := fun _ _ _ => False) g1⟩
    rw [decide_eq_false (show ¬ V.int ((j : Nat) : Int) = V.int 0 from fun z => j0 (by have := V.int.inj z; omega))]
    refine iteF ?_
    refine ⟨_, rfl, _, rfl, _, _, rfl, .inr ⟨_, st_of ht', rfl⟩, a, us.length, rfl, hd1, by omega, by omega, fun H2 i2 hd2 e2 c2 p0 p1 => ?_⟩
    have g2 := g1.trans (Go.draw hd2 e2 c2)
    obtain ⟨i, rfl⟩ := Int.eq_ofNat_of_zero_le p0
    have il : i < ds.length := by omega
    replace hv1 := (Go.draw hd2 e2 c2).dx hv1
    replace r := DxAll.same (Go.draw hd2 e2 c2).sm _ _ r
    replace ht := (Go.draw hd2 e2 c2).sm _ _ ht
    have ht' := same_delH _ _ ht
    clear e1 c1 e2 c2 hd1 g1
    have ev : us[i]? = some (us[i]'(by omega)) := List.getElem?_eq_getElem (by omega)
    have es : ds[i]? = some ds[i] := List.getElem?_eq_getElem il
    generalize us[i]'(by omega) = vh at ev
    generalize ds[i] = x at es
    have dh : Dx (delH H2 a) vh x := r.at ev es
    obtain ⟨m1, m2, m3, em, b1, b2, b3⟩ := bl.at_ es
    have taken : ds.take i ++ x :: ds.drop (i + 1) = ds := by
      obtain ⟨hi, rfl⟩ := List.getElem?_eq_some_iff.mp es
      rw [List.getElem_cons_drop, List.take_append_drop]
    have ta : t ≠ a := fun z => by rw [z, delH_same] at ht; cases ht
    refine ⟨_, rfl, rfl, _, rfl, ?_⟩
    by_cases j1 : j = 1
    · rw [decide_eq_true (show V.int ((j : Nat) : Int) = V.int 1 by rw [j1]; rfl)]
      refine iteT ⟨_, rfl, _, rfl, _, rfl, slL_go hd2 hv1 il fun H3 v3 g3 d3 => ⟨_, rfl, _, rfl, _, _, rfl, rfl, _, rfl, ?_⟩⟩
      refine slR_go g3.hd (g3.dx hv1) il fun H4 v4 g4 d4 => cat_go g4.hd (g4.dx d3) d4 (by rw [List.length_take, List.length_drop]; omega) fun H5 v5 g5 d5 => ?_
      have g25 := g3.trans (g4.trans g5)
      have h5 := go_at g25 ta ht'
      refine ⟨_, rfl, t, us, rfl, .inr (st_of h5), fun l nl low => ?_⟩
      have g6 := Go.new g5.hd (same_new (o := HO.lst us) nl)
      have e6 : delH (upd H5 l (HO.lst us)) a l = some (.lst us) := by
        rw [delH_ne (g5.hd.ne_new nl)]
        exact upd_same
      have g26 := g25.trans g6
      generalize upd H5 l (HO.lst us) = H6 at g6 g26 e6 ⊢
      have d6 : Dx (delH H6 a) (.ref l) (.list ds) := .lst e6 low (DxAll.same g26.sm _ _ r)
      refine ⟨_, rfl, _, rfl, _, rfl, t, us, _, vh, rfl, rfl, st_of (go_at g26 ta ht'), atI_nat ev, (by show 1 ≤ sizeLine; decide), fun q nq => ?_⟩
      have g7 := Go.new g6.hd (same_new (o := HO.tup [vh]) nq)
      have d7 := dx_new g6.hd nq (.cons (g26.dx dh) .nil)
      have g27 := g26.trans g7
      refine cat_go g7.hd (g27.dx hv1) d7 (by simp only [List.length_cons, List.length_nil]; omega) fun H8 v8 g8 d8 => ?_
      refine ⟨(by show 3 ≤ sizeLine; decide), fun L nL _ => ?_⟩
      have g9 := Go.new g8.hd (same_new (o := HO.lst [v5, .ref l, v8]) nL)
      have e9 : upd H8 L (HO.lst [v5, .ref l, v8]) L = some (.lst [v5, .ref l, v8]) := upd_same
      have La := g8.hd.ne_new nL
      generalize upd H8 L (HO.lst [v5, .ref l, v8]) = H9 at g9 e9 ⊢
      refine ⟨_, rfl, a, 3, rfl, g9.hd, by decide, by decide, fun H10 r0 hd10 e10 c10 r1 r2 => ?_⟩
      have g10 := Go.draw hd10 e10 c10
      obtain ⟨rn, rfl⟩ := Int.eq_ofNat_of_zero_le r1
      have e10' := sq_of (K := K) (go_at g10 La e9)
      have gE := g9.trans g10
      have gA := g2.trans (g27.trans (g8.trans gE))
      have bT := (b1.app b3).tup
      have bX := (bl.app (BoL.cons b2 .nil)).tup
      have r3 : rn = 0 ∨ rn = 1 ∨ rn = 2 := by omega
      rcases r3 with rfl | rfl | rfl
      · exact ⟨L, _, 0, v5, rfl, rfl, e10', at0, hQ _ _ _ gA (((g6.trans g7).trans (g8.trans gE)).dx d5) (.of (by intro z; cases z)) (bT.mono (by omega) (by omega))⟩
      · exact ⟨L, _, 1, .ref l, rfl, rfl, e10', at1, hQ _ _ _ gA ((g7.trans (g8.trans gE)).dx d6) (.of (by intro z; cases z)) (bl.lst.mono (by omega) (by omega))⟩
      · exact ⟨L, _, 2, v8, rfl, rfl, e10', at2, hQ _ _ _ gA (gE.dx d8) (.of (by intro z; cases z)) (bX.mono (by omega) (by omega))⟩
    rw [decide_eq_false (show ¬ V.int ((j : Nat) : Int) = V.int 1 from fun z => j1 (by have := V.int.inj z; omega))]
    refine iteF ⟨_, rfl, rfl, _, rfl, ?_⟩
    by_cases j2 : j = 2
    · rw [decide_eq_true (show V.int ((j : Nat) : Int) = V.int 2 by rw [j2]; rfl)]
      refine iteT ⟨_, rfl, _, rfl, _, rfl, slL_go hd2 hv1 il fun H3 v3 g3 d3 => ⟨_, rfl, a, rfl, g3.hd, fun H4 v4 d4' g4 d4 t4 b4 => ⟨(by show 1 ≤ sizeLine; decide), fun q nq => ?_⟩⟩⟩
      have g5 := Go.new g4.hd (same_new (o := HO.tup [v4]) nq)
      have d5 := dx_new g4.hd nq (.cons d4 .nil)
      refine cat_go g5.hd ((g4.trans g5).dx d3) d5 (by rw [List.length_take]; simp only [List.length_cons, List.length_nil]; omega) fun H6 v6 g6 d6 => ?_
      have g36 := g3.trans (g4.trans (g5.trans g6))
      refine ⟨_, rfl, _, rfl, _, rfl, slF_go g6.hd (g36.dx hv1) il fun H7 v7 g7 d7 => cat_go g7.hd (g7.dx d6) d7 (by rw [List.length_append, List.length_take, List.length_drop]; simp only [List.length_cons, List.length_nil]; omega) fun H8 v8 g8 d8 => ?_⟩
      obtain ⟨n1, n2, en, c1, c2⟩ := bl.cut i
      have b4' : Bo d4' (k' + 5) 20 := b4.mono (by omega) (by omega)
      have bT := ((c1.mono (Nat.le_add_right _ 5) (Nat.le_refl _)).app (BoL.cons b4' .nil)).app (c2.mono (Nat.le_add_right _ 5) (Nat.le_refl _))
      exact hQ _ _ _ (g2.trans (g36.trans (g7.trans g8))) d8 (.of (by intro z; cases z)) (bT.tup.mono (by omega) (by omega))
    rw [decide_eq_false (show ¬ V.int ((j : Nat) : Int) = V.int 2 from fun z => j2 (by have := V.int.inj z; omega))]
    obtain ⟨n, rfl⟩ : ∃ m, n = m + 1 := ⟨n - 1, by omega⟩
    refine iteF ⟨_, rfl, _, rfl, _, rfl, slL_go hd2 hv1 il fun H3 v3 g3 d3 => ?_⟩
    refine ⟨_, rfl, _, rfl, _, rfl, t, us, _, vh, rfl, rfl, st_of (go_at g3 ta ht'), atI_nat ev, _, rfl, _, _, rfl, rfl, hR n rfl _ _ _ _ ?_⟩
    refine ⟨a, vh, x, k', m2, by show [V.ref a, vh, V.int (((n + 1 : Nat) : Int) - 1)] = _; rw [show ((n + 1 : Nat) : Int) - 1 = ((n : Nat) : Int) by omega], g3.hd, g3.dx dh, b2, by omega, fun H4 v4 d4' g4 d4 t4 b4 => ⟨(by show 1 ≤ sizeLine; decide), fun q nq => ?_⟩⟩
    have g5 := Go.new g4.hd (same_new (o := HO.tup [v4]) nq)
    have d5 := dx_new g4.hd nq (.cons d4 .nil)
    refine cat_go g5.hd ((g4.trans g5).dx d3) d5 (by rw [List.length_take]; simp only [List.length_cons, List.length_nil]; omega) fun H6 v6 g6 d6 => ?_
    have g36 := g3.trans (g4.trans (g5.trans g6))
    refine ⟨_, rfl, _, rfl, _, _, rfl, rfl, _, rfl, slR_go g6.hd (g36.dx hv1) il fun H7 v7 g7 d7 => cat_go g7.hd (g7.dx d6) d7 (by rw [List.length_append, List.length_take, List.length_drop]; simp only [List.length_cons, List.length_nil]; omega) fun H8 v8 g8 d8 => ?_⟩
    have bT := ((b1.mono (Nat.le_add_right _ 5) (Nat.le_refl _)).app (BoL.cons b4 .nil)).app (b3.mono (Nat.le_add_right _ 5) (Nat.le_refl _))
    exact hQ _ _ _ (g2.trans (g36.trans (g7.trans g8))) d8 (.of (by intro z; cases z)) (bT.tup.mono (by omega) (by omega))
theorem ok_spo (T : Tx K w mg) : ∀ n : Nat, Has P w K mg base (L2.CX P w) (n + 12) "_law_spoilt" ["hand", "thing", "left"] (spSpo n)
  | 0 => by
    obtain ⟨fd, F⟩ := T.c.def_ 41 (d := d__law_spoilt) rfl
    exact spo_core T 0 (fun _ _ _ _ => False) ⟨fd, ⟨fun _ _ _ _ h => h.elim, fun _ _ _ _ _ _ _ _ _ _ _ _ _ h => h.elim⟩, FunD.bindsN F fun _ _ _ _ _ _ us hl => match us, hl with | [_, _, _], _ => rfl, F.kp, (T.glo 59 rfl)⟩ fun m z => by cases z
  | n + 1 => spo_core T (n + 1) (spSpo n) (ok_spo T n) fun m z vs H Q E h => by cases z; exact h
end
end K07

set_option maxHeartbeats 1000000
namespace K07
open PySem PySem.Spec PyProof.Rows L2 V1 V2 V3 V6 V9
open V4 (MkL held_ne)
open V10 (sortD PgOk)
open Evl (pss_cut tCut sq_of st_of)
def spPart [CurK] : Sp := fun vs H Q _ => ∃ (a : Addr) (n : Nat), vs = [.ref a, .int ((n : Nat) : Int)] ∧ HandAt H a ∧ 1 ≤ n ∧ n ≤ 30 ∧ ∀ H' v d, Go a H H' → Dx (delH H' a) v d → isTup d = true → Bo d n (4 * n + 4) → Q v H'
theorem scPart : FnScope ["hand", "deep", "part", "k"] ["hand", "deep"] (defScope s__law_part) := ⟨rfl, rfl, rfl, by decide +kernel, rfl, by decide +kernel, by decide +kernel⟩
section
variable [CurK] {P : Program} {w : World} {mg : Str → Option Value} {base : Heap}
/-- a tuple of few parts, one of them given -/
theorem Bo.two {x : PyData} {n m k j : Nat} {ds : List PyData} (h : BoL ds n m) (a : n + 1 ≤ k) (b : m + 1 ≤ j) : Bo (.tuple ds) k j := h.tup.mono a b
theorem bo_str {x : Str} (h : x.length ≤ 12000000) {n : Nat} : Bo (.str x) n 1 := ⟨by rw [shortA]; exact decide_eq_true h, Nat.zero_le _, Nat.le_refl _⟩
theorem ok_part (T : Tx K w mg) : Has P w K mg base CX0 4 "_law_part" ["hand", "deep"] spPart := by
  obtain ⟨fd, F⟩ := T.c.def_ 42 (d := d__law_part) rfl
  have Hs := ok_some (P := P) (w := w) (base := base) T
  refine ⟨fd, F.ok scPart (fun vs H Q E h => ?_) (fun cdv A outer s H vs Q E hr h => ?_), FunD.bindsN F fun _ _ _ _ _ _ us hl => match us, hl with | [_, _], _ => rfl, F.kp, (T.glo 60 rfl)⟩
  · obtain ⟨a, n, rfl, _⟩ := h
    rfl
  · refine ⟨_, PSs.nox (pss_cons (ps_set (i := 2) scPart.nd rfl (Or.inl rfl) (pe_tup (pa_cons pe_str pa_nil)))
 (pss_cons (ps_for PassesOwn.never rfl (pi_range1 (by rfl) (T.free 79 rfl) (pa_cons (pe_op op_sub (pv 1) pe_int) pa_nil)) (pg_name (i := 3) scPart.nd rfl (Or.inl rfl))
 (pss_one (ps_set (i := 2) scPart.nd rfl (Or.inl rfl) (pe_has Hs (hr.mono (by decide)) pass0 (pa_cons (pv 0) (pa_cons (pe_lstS (pa_cons (pe_tup (pa_cons pe_str (pa_cons (pv 2) (pa_cons (pe_tup (pa_cons pe_str pa_nil)) pa_nil)))) (pa_cons (pe_tup (pa_cons pe_str (pa_cons (pe_tup (pa_cons pe_str pa_nil)) (pa_cons (pv 2) pa_nil)))) (pa_cons (pe_tup (pa_cons pe_str (pa_cons (pv 2) pa_nil))) (pa_cons (pe_tup (pa_cons pe_str (pa_cons (pv 2) pa_nil))) pa_nil))))) pa_nil))))))
 (pss_one (ps_ret (pv 2))))), ?_⟩
    obtain ⟨a, n, rfl, hd, n1, n30, hQ⟩ := h
    refine ⟨(by show 1 ≤ sizeLine; decide), fun q nq => ?_⟩
    have g1 := Go.new hd (same_new (o := HO.tup [.str (Str.ofString "last")]) nq)
    have d1 := dx_new hd nq (.cons (.str (Str.ofString "last")) .nil)
    generalize upd H q (HO.tup [.str (Str.ofString "last")]) = H1 at g1 d1 ⊢
    refine ⟨_, rfl, _, _, rfl, rfl, _, rfl, by omega, by omega, ?_⟩
    rw [show (((n : Nat) : Int) - 1).toNat = n - 1 by omega]
    refine for_it (walk_range (lo := 0) (n := n - 1)) (fun i σ H' => ∃ v d o3, σ = [some (.ref a), some (.int ((n : Nat) : Int)), some v, o3] ∧ Go a H H' ∧ Dx (delH H' a) v d ∧ isTup d = true ∧ Bo d (i + 1) (4 * i + 4)) ⟨_, _, _, rfl, g1, d1, rfl, .of (by decide +kernel)⟩ (fun _ _ _ _ _ => True.intro) ?_ ?_
    · rintro i x σ H3 H4 hi ⟨v, d, o3, rfl, g3, hv, it, bo⟩ ⟨rfl, rfl⟩
      have ha := g3.hd.held
      have M : MkY H4 a _ [some (.ref a), some (.int ((n : Nat) : Int)), some v, some (.int (0 + ((i : Nat) : Int)))] (.list [.tuple [.str (Str.ofString "join"), d, .tuple [.str (Str.ofString "many")]], .tuple [.str (Str.ofString "join"), .tuple [.str (Str.ofString "many")], d], .tuple [.str (Str.ofString "turn"), d], .tuple [.str (Str.ofString "first"), d]]) := V4.mky_lst ha (V4.mkya_cons (V4.mky_tup ha (V4.mkya_cons (V4.mky_of ha (mkx_of (mkn_str _))) (V4.mkya_cons (V4.mky_var (i := 2) hv rfl) (V4.mkya_cons (V4.mky_tup ha (V4.mkya_cons (V4.mky_of ha (mkx_of (mkn_str _))) V4.mkya_nil) (by show 1 ≤ 1000; decide)) V4.mkya_nil))) (by show 3 ≤ 1000; decide)) (V4.mkya_cons (V4.mky_tup ha (V4.mkya_cons (V4.mky_of ha (mkx_of (mkn_str _))) (V4.mkya_cons (V4.mky_tup ha (V4.mkya_cons (V4.mky_of ha (mkx_of (mkn_str _))) V4.mkya_nil) (by show 1 ≤ 1000; decide)) (V4.mkya_cons (V4.mky_var (i := 2) hv rfl) V4.mkya_nil))) (by show 3 ≤ 1000; decide)) (V4.mkya_cons (V4.mky_tup ha (V4.mkya_cons (V4.mky_of ha (mkx_of (mkn_str _))) (V4.mkya_cons (V4.mky_var (i := 2) hv rfl) V4.mkya_nil)) (by show 2 ≤ 1000; decide)) (V4.mkya_cons (V4.mky_tup ha (V4.mkya_cons (V4.mky_of ha (mkx_of (mkn_str _))) (V4.mkya_cons (V4.mky_var (i := 2) hv rfl) V4.mkya_nil)) (by show 2 ≤ 1000; decide)) V4.mkya_nil)))) (by show 4 ≤ 1000; decide)
      refine ⟨_, rfl, M H4 (Same.refl H4) _ fun u H5 s5 q5 => ?_⟩
      have g5 := g3.trans (Go.new g3.hd s5)
      refine some_data g5.hd q5 (.inl rfl) (by show 0 < 4; decide) (by show 4 < 1000; decide) fun H6 w6 e g6 me d6 => ?_
      have b0 : Bo (.tuple [.str (Str.ofString "many")]) (i + 1) 2 := (Bo.of (n := 1) (m := 2) (by decide +kernel)).mono (by omega) (by omega)
      have st : ∀ {x : Str}, x.length ≤ 12000000 → Bo (.str x) (i + 1) 1 := fun h => bo_str h
      have bo' : Bo d (i + 1) (4 * i + 4) := bo
      refine ⟨w6, e, _, rfl, g5.trans g6, d6, ?_, ?_⟩
      · simp only [List.mem_cons, List.not_mem_nil, or_false] at me
        rcases me with rfl | rfl | rfl | rfl <;> rfl
      · simp only [List.mem_cons, List.not_mem_nil, or_false] at me
        rcases me with rfl | rfl | rfl | rfl
        · exact (BoL.cons (st (by decide)) (.cons bo' (.cons b0 .nil))).tup.mono (by omega) (by omega)
        · exact (BoL.cons (st (by decide)) (.cons b0 (.cons bo' .nil))).tup.mono (by omega) (by omega)
        · exact (BoL.cons (st (by decide)) (.cons bo' .nil)).tup.mono (by omega) (by omega)
        · exact (BoL.cons (st (by decide)) (.cons bo' .nil)).tup.mono (by omega) (by omega)
    · rintro σ H3 ⟨v, d, o3, rfl, g3, hv, it, bo⟩
      exact ⟨_, rfl, hQ _ _ _ g3 hv it (bo.mono (by omega) (by omega))⟩
end
end K07

set_option maxHeartbeats 1000000
namespace K07
open PySem PySem.Spec PyProof.Rows L2 V1 V2 V3 V6 V9
open V4 (MkL held_ne)
open V10 (sortD PgOk)
open Evl (pss_cut tCut sq_of st_of)
def spInn [CurK] : Sp := fun vs H Q _ => ∃ (a : Addr), vs = [.ref a] ∧ HandAt H a ∧ ∀ H' v d, Go a H H' → Dx (delH H' a) v d → isTup d = true → Bo d 45 400 → Q v H'
def spDeep [CurK] : Sp := fun vs H Q _ => ∃ (a : Addr), vs = [.ref a] ∧ HandAt H a ∧ ∀ H' v d, Go a H H' → Dx (delH H' a) v d → isTup d = true → Bo d 45 400 → Q v H'
theorem scInn : FnScope ["hand", "found", "k", "test"] ["hand"] (defScope s__law_inner) := ⟨rfl, rfl, rfl, by decide +kernel, rfl, by decide +kernel, by decide +kernel⟩
theorem scDeep : FnScope ["hand", "deep", "bodies", "way", "rest", "part", "found", "nots", "test", "k", "kind"] ["hand"] (defScope s__law_deep) := ⟨rfl, rfl, rfl, by decide +kernel, rfl, by decide +kernel, by decide +kernel⟩
def testD : PyData := .tuple [.str (Str.ofString "in"), .tuple [.str (Str.ofString "last")], .tuple [.str (Str.ofString "many")]]
section
variable [CurK] {P : Program} {w : World} {mg : Str → Option Value} {base : Heap}
theorem test_bo {n : Nat} : Bo testD (n + 2) 6 := (Bo.of (n := 2) (m := 6) (by decide +kernel)).mono (by omega) (by omega)
theorem st_bo {x : Str} {n : Nat} (h : (decide (x.length ≤ 12000000)) = true) : Bo (.str x) n 1 := bo_str (of_decide_eq_true h)
theorem nil_bo {n : Nat} : Bo (.tuple []) (n + 1) 1 := (Bo.of (n := 1) (m := 1) (by decide +kernel)).mono (by omega) (by omega)
theorem one_bo {x : Str} {n : Nat} (h : (decide (x.length ≤ 12000000)) = true) : Bo (.tuple [.str x]) (n + 1) 2 := (BoL.cons (st_bo h) .nil).tup
theorem set1_go {te : TE} {i : Nat} {D : Ends} {σ : L2.St} {H : Hp} (h : te σ H (fun v H' => D.nx (σ.set i (some v)) H')) : tAsg te (gName i) D σ H := h
theorem ok_inn (T : Tx K w mg) : Has P w K mg base CX0 4 "_law_inner" ["hand"] spInn := by
  obtain ⟨fd, F⟩ := T.c.def_ 44 (d := d__law_inner) rfl
  have Hs := ok_some (P := P) (w := w) (base := base) T
  have Hd := ok_draw (P := P) (w := w) (base := base) T
  refine ⟨fd, F.ok scInn (fun vs H Q E h => ?_) (fun cdv A outer s H vs Q E hr h => ?_), FunD.bindsN F fun _ _ _ _ _ _ us hl => match us, hl with | [_], _ => rfl, F.kp, (T.glo 62 rfl)⟩
  · obtain ⟨a, rfl, _⟩ := h
    rfl
  · refine ⟨_, PSs.nox (pss_cons (ps_set (i := 1) scInn.nd rfl (Or.inl rfl) (pe_tup (pa_cons (pe_tup (pa_cons pe_str (pa_cons (pe_tup (pa_cons pe_str pa_nil)) pa_nil))) pa_nil)))
 (pss_cons (ps_for PassesOwn.never rfl (pi_range1 (by rfl) (T.free 79 rfl) (pa_cons (pe_op op_add pe_int (pe_has Hd (hr.mono (by decide)) pass0 (pa_cons (pv 0) (pa_cons pe_int pa_nil)))) pa_nil)) (pg_name (i := 2) scInn.nd rfl (Or.inl rfl))
 (pss_cons (ps_set (i := 3) scInn.nd rfl (Or.inl rfl) (pe_tup (pa_cons pe_str (pa_cons (pe_tup (pa_cons pe_str pa_nil)) (pa_cons (pe_tup (pa_cons pe_str pa_nil)) pa_nil)))))
 (pss_one (ps_set (i := 1) scInn.nd rfl (Or.inl rfl) (pe_has Hs (hr.mono (by decide)) pass0 (pa_cons (pv 0) (pa_cons (pe_lstS (pa_cons (pe_tup (pa_cons (pe_tup (pa_cons pe_str (pa_cons (pv 3) (pa_cons (pv 1) (pa_cons (pe_tup pa_nil) pa_nil))))) pa_nil)) (pa_cons (pe_tup (pa_cons (pe_tup (pa_cons pe_str (pa_cons (pv 3) (pa_cons (pe_tup pa_nil) (pa_cons (pv 1) pa_nil))))) pa_nil)) pa_nil))) pa_nil)))))))
 (pss_one (ps_ret (pv 1))))), ?_⟩
    obtain ⟨a, rfl, hd, hQ⟩ := h
    have ha := hd.held
    have M0 : MkY H a _ [some (.ref a), none, none, none] (.tuple [.tuple [.str (Str.ofString "say"), .tuple [.str (Str.ofString "many")]]]) := V4.mky_tup ha (V4.mkya_cons (V4.mky_tup ha (V4.mkya_cons (V4.mky_of ha (mkx_of (mkn_str _))) (V4.mkya_cons (V4.mky_tup ha (V4.mkya_cons (V4.mky_of ha (mkx_of (mkn_str _))) V4.mkya_nil) (by show 1 ≤ 1000; decide)) V4.mkya_nil)) (by show 2 ≤ 1000; decide)) V4.mkya_nil) (by show 1 ≤ 1000; decide)
    refine set_go (M0 H (Same.refl H) _ fun v0 H3 s3 d3 => ?_)
    have g3 := Go.new hd s3
    refine ⟨_, rfl, a, 3, rfl, g3.hd, by decide, by decide, fun H4 r hd4 e4 c4 r0 r3 => ⟨_, _, rfl, rfl, ?_⟩⟩
    have g4 := Go.draw hd4 e4 c4
    obtain ⟨rn, rfl⟩ := Int.eq_ofNat_of_zero_le r0
    refine ⟨_, rfl, by omega, by omega, ?_⟩
    rw [show ((16 : Int) + ((rn : Nat) : Int)).toNat = 16 + rn by omega]
    have dB := g4.dx d3
    refine for_it (walk_range (lo := 0) (n := 16 + rn)) (fun i σ H' => ∃ v d o2 o3, σ = [some (.ref a), some v, o2, o3] ∧ Go a H H' ∧ Dx (delH H' a) v d ∧ isTup d = true ∧ Bo d (2 * i + 3) (10 * i + 5)) ⟨_, _, _, _, rfl, g3.trans g4, dB, rfl, .of (by decide +kernel)⟩ (fun _ _ _ _ _ => True.intro) ?_ ?_
    · rintro i x σ H5 H6 hi ⟨v, d, o2, o3, rfl, g5, hv, it, bo⟩ ⟨rfl, rfl⟩
      have hb := g5.hd.held
      have M1 : MkY H6 a _ [some (.ref a), some v, some (.int (0 + ((i : Nat) : Int))), o3] testD := V4.mky_tup hb (V4.mkya_cons (V4.mky_of hb (mkx_of (mkn_str _))) (V4.mkya_cons (V4.mky_tup hb (V4.mkya_cons (V4.mky_of hb (mkx_of (mkn_str _))) V4.mkya_nil) (by show 1 ≤ 1000; decide)) (V4.mkya_cons (V4.mky_tup hb (V4.mkya_cons (V4.mky_of hb (mkx_of (mkn_str _))) V4.mkya_nil) (by show 1 ≤ 1000; decide)) V4.mkya_nil))) (by show 3 ≤ 1000; decide)
      refine set_go (M1 H6 (Same.refl H6) _ fun vt H7 s7 ht => ?_)
      have g7 := Go.new g5.hd s7
      have ha := g7.hd.held
      replace hv := g7.dx hv
      have M : MkY H7 a _ [some (.ref a), some v, some (.int (0 + ((i : Nat) : Int))), some vt] (.list [.tuple [.tuple [.str (Str.ofString "if"), testD, d, .tuple []]], .tuple [.tuple [.str (Str.ofString "if"), testD, .tuple [], d]]]) := V4.mky_lst ha (V4.mkya_cons (V4.mky_tup ha (V4.mkya_cons (V4.mky_tup ha (V4.mkya_cons (V4.mky_of ha (mkx_of (mkn_str _))) (V4.mkya_cons (V4.mky_var (i := 3) ht rfl) (V4.mkya_cons (V4.mky_var (i := 1) hv rfl) (V4.mkya_cons (V4.mky_tup ha V4.mkya_nil (Nat.zero_le _)) V4.mkya_nil)))) (by show 4 ≤ 1000; decide)) V4.mkya_nil) (by show 1 ≤ 1000; decide)) (V4.mkya_cons (V4.mky_tup ha (V4.mkya_cons (V4.mky_tup ha (V4.mkya_cons (V4.mky_of ha (mkx_of (mkn_str _))) (V4.mkya_cons (V4.mky_var (i := 3) ht rfl) (V4.mkya_cons (V4.mky_tup ha V4.mkya_nil (Nat.zero_le _)) (V4.mkya_cons (V4.mky_var (i := 1) hv rfl) V4.mkya_nil)))) (by show 4 ≤ 1000; decide)) V4.mkya_nil) (by show 1 ≤ 1000; decide)) V4.mkya_nil)) (by show 2 ≤ 1000; decide)
      refine ⟨_, rfl, M H7 (Same.refl H7) _ fun u H8 s8 q8 => ?_⟩
      have g8 := Go.new g7.hd s8
      refine some_data g8.hd q8 (.inl rfl) (by show 0 < 2; decide) (by show 2 < 1000; decide) fun H9 w9 e g9 me d9 => ?_
      have sI : Bo (.str (Str.ofString "if")) (2 * i + 3) 1 := st_bo (by decide)
      have tI : Bo testD (2 * i + 3) 6 := test_bo (n := 2 * i + 1)
      have nI : Bo (.tuple []) (2 * i + 3) 1 := nil_bo (n := 2 * i + 2)
      refine ⟨w9, e, _, _, rfl, g5.trans (g7.trans (g8.trans g9)), d9, ?_, ?_⟩
      · simp only [List.mem_cons, List.not_mem_nil, or_false] at me
        rcases me with rfl | rfl <;> rfl
      · simp only [List.mem_cons, List.not_mem_nil, or_false] at me
        rcases me with rfl | rfl
        · exact (BoL.cons ((BoL.cons sI (.cons tI (.cons bo (.cons nI .nil)))).tup) .nil).tup.mono (by omega) (by omega)
        · exact (BoL.cons ((BoL.cons sI (.cons tI (.cons nI (.cons bo .nil)))).tup) .nil).tup.mono (by omega) (by omega)
    · rintro σ H5 ⟨v, d, o2, o3, rfl, g5, hv, it, bo⟩
      exact ⟨_, rfl, hQ _ _ _ g5 hv it (bo.mono (by omega) (by omega))⟩
/-- what stands when the one statement is made -/
def MidD (a : Addr) (H : Hp) (bn : Nat) (σ : L2.St) (H' : Hp) : Prop := ∃ o1 o3 o4 o5 v d o7 o8 o9 o10, σ = [some (.ref a), o1, some (.int ((bn : Nat) : Int)), o3, o4, o5, some v, o7, o8, o9, o10] ∧ Go a H H' ∧ Dx (delH H' a) v d ∧ isTup d = true ∧ Bo d 28 240
def MidN (a : Addr) (H : Hp) (bn rn : Nat) (σ : L2.St) (H' : Hp) : Prop := ∃ (nn : Nat) (o1 o3 o5 o6 o8 o9 o10 : Option V), σ = [some (.ref a), o1, some (.int ((bn : Nat) : Int)), o3, some (.int ((rn : Nat) : Int)), o5, o6, some (.int ((nn : Nat) : Int)), o8, o9, o10] ∧ Go a H H' ∧ nn + 2 ≤ rn
/-- what stands when the test is made -/
def MidT (a : Addr) (H : Hp) (bn rn nn : Nat) (σ : L2.St) (H' : Hp) : Prop := ∃ v d o1 o3 o5 o6 o9 o10, σ = [some (.ref a), o1, some (.int ((bn : Nat) : Int)), o3, some (.int ((rn : Nat) : Int)), o5, o6, some (.int ((nn : Nat) : Int)), some v, o9, o10] ∧ Go a H H' ∧ Dx (delH H' a) v d ∧ Bo d (rn - nn) 130
theorem ok_deep (T : Tx K w mg) : Has P w K mg base CX0 6 "_law_deep" ["hand"] spDeep := by
  obtain ⟨fd, F⟩ := T.c.def_ 43 (d := d__law_deep) rfl
  have Hs := ok_some (P := P) (w := w) (base := base) T
  have Hd := ok_draw (P := P) (w := w) (base := base) T
  have Hp := ok_part (P := P) (w := w) (base := base) T
  refine ⟨fd, F.ok scDeep (fun vs H Q E h => ?_) (fun cdv A outer s H vs Q E hr h => ?_), FunD.bindsN F fun _ _ _ _ _ _ us hl => match us, hl with | [_], _ => rfl, F.kp, (T.glo 61 rfl)⟩
  · obtain ⟨a, rfl, _⟩ := h
    rfl
  · refine ⟨_, PSs.nox (pss_cons (ps_set (i := 1) scDeep.nd rfl (Or.inl rfl) (pe_op op_add pe_int (pe_has Hd (hr.mono (by decide)) pass0 (pa_cons (pv 0) (pa_cons pe_int pa_nil)))))
 (pss_cons (ps_set (i := 2) scDeep.nd rfl (Or.inl rfl) (pe_has Hd (hr.mono (by decide)) pass0 (pa_cons (pv 0) (pa_cons pe_int pa_nil))))
 (pss_cons (ps_set (i := 3) scDeep.nd rfl (Or.inl rfl) (pe_has Hd (hr.mono (by decide)) pass0 (pa_cons (pv 0) (pa_cons pe_int pa_nil))))
 (pss_cons (ps_set (i := 4) scDeep.nd rfl (Or.inl rfl) (pe_op op_sub (pe_op op_sub (pv 1) (pv 2)) pe_int))
 (pss_cut (ps_if (pt_cmpR op_eq (pv 3) pe_int (nomark _))
 (pss_cons (ps_set (i := 5) scDeep.nd rfl (Or.inl rfl) (pe_has Hp (hr.mono (by decide)) pass0 (pa_cons (pv 0) (pa_cons (pv 4) pa_nil))))
 (pss_one (ps_set (i := 6) scDeep.nd rfl (Or.inl rfl) (pe_tup (pa_cons (pe_has Hs (hr.mono (by decide)) pass0 (pa_cons (pv 0) (pa_cons (pe_lstS (pa_cons (pe_tup (pa_cons pe_str (pa_cons (pv 5) pa_nil))) (pa_cons (pe_tup (pa_cons pe_str (pa_cons pe_str (pa_cons (pv 5) pa_nil)))) pa_nil))) pa_nil))) pa_nil)))))
 (pss_cut (ps_set (i := 7) scDeep.nd rfl (Or.inl rfl) (pe_ifExp (pt_cmpR op_eq (pv 3) pe_int (nomark _)) (pe_has Hd (hr.mono (by decide)) pass0 (pa_cons (pv 0) (pa_cons (pe_op op_sub (pv 4) pe_int) pa_nil))) pe_int))
 (pss_cons (ps_set (i := 8) scDeep.nd rfl (Or.inl rfl) (pe_tup (pa_cons pe_str (pa_cons (pe_has Hp (hr.mono (by decide)) pass0 (pa_cons (pv 0) (pa_cons (pe_op op_sub (pe_op op_sub (pv 4) pe_int) (pv 7)) pa_nil))) (pa_cons (pe_tup (pa_cons pe_str pa_nil)) pa_nil)))))
 (pss_cut (ps_if (pt_cmpR op_eq (pe_has Hd (hr.mono (by decide)) pass0 (pa_cons (pv 0) (pa_cons pe_int pa_nil))) pe_int (nomark _))
 (pss_one (ps_set (i := 8) scDeep.nd rfl (Or.inl rfl) (pe_tup (pa_cons pe_str (pa_cons (pe_tup (pa_cons pe_str pa_nil)) (pa_cons (pe_has Hp (hr.mono (by decide)) pass0 (pa_cons (pv 0) (pa_cons (pe_op op_sub (pe_op op_sub (pv 4) pe_int) (pv 7)) pa_nil))) pa_nil))))))
 pss_nil)
 (pss_cons (ps_for PassesOwn.never rfl (pi_range1 (by rfl) (T.free 79 rfl) (pa_cons (pv 7) pa_nil)) (pg_name (i := 9) scDeep.nd rfl (Or.inl rfl))
 (pss_one (ps_set (i := 8) scDeep.nd rfl (Or.inl rfl) (pe_tup (pa_cons pe_str (pa_cons (pv 8) pa_nil))))))
 (pss_one (ps_set (i := 6) scDeep.nd rfl (Or.inl rfl) (pe_tup (pa_cons (pe_tup (pa_cons pe_str (pa_cons (pv 8) (pa_cons (pe_tup pa_nil) (pa_cons (pe_tup pa_nil) pa_nil))))) pa_nil)))))))))
 (pss_cons (ps_for PassesOwn.never rfl (pi_range1 (by rfl) (T.free 79 rfl) (pa_cons (pv 2) pa_nil)) (pg_name (i := 9) scDeep.nd rfl (Or.inl rfl))
 (pss_cons (ps_set (i := 8) scDeep.nd rfl (Or.inl rfl) (pe_tup (pa_cons pe_str (pa_cons (pe_tup (pa_cons pe_str pa_nil)) (pa_cons (pe_tup (pa_cons pe_str pa_nil)) pa_nil)))))
 (pss_cons (ps_set (i := 10) scDeep.nd rfl (Or.inl rfl) (pe_has Hd (hr.mono (by decide)) pass0 (pa_cons (pv 0) (pa_cons pe_int pa_nil))))
 (pss_one (ps_if (pt_cmpR op_eq (pv 10) pe_int (nomark _))
 (pss_one (ps_set (i := 6) scDeep.nd rfl (Or.inl rfl) (pe_tup (pa_cons (pe_tup (pa_cons pe_str (pa_cons pe_str (pa_cons (pv 6) pa_nil)))) pa_nil))))
 (pss_one (ps_if (pt_cmpR op_lt (pv 10) pe_int (nomark _))
 (pss_one (ps_set (i := 6) scDeep.nd rfl (Or.inl rfl) (pe_tup (pa_cons (pe_tup (pa_cons pe_str (pa_cons (pv 8) (pa_cons (pv 6) (pa_cons (pe_tup pa_nil) pa_nil))))) pa_nil))))
 (pss_one (ps_set (i := 6) scDeep.nd rfl (Or.inl rfl) (pe_tup (pa_cons (pe_tup (pa_cons pe_str (pa_cons (pe_tup (pa_cons pe_str pa_nil)) pa_nil))) (pa_cons (pe_tup (pa_cons pe_str (pa_cons (pv 8) (pa_cons (pe_tup pa_nil) (pa_cons (pv 6) pa_nil))))) pa_nil))))))))))))
 (pss_one (ps_ret (pv 6))))))))), ?_⟩
    obtain ⟨a, rfl, hd, hQ⟩ := h
    refine ⟨_, rfl, a, 9, rfl, hd, by decide, by decide, fun H1 r hd1 e1 c1 r0 r9 => ⟨_, _, rfl, rfl, ?_⟩⟩
    have g1 := Go.draw hd1 e1 c1
    obtain ⟨dn, rfl⟩ := Int.eq_ofNat_of_zero_le r0
    refine ⟨_, rfl, a, 9, rfl, hd1, by decide, by decide, fun H2 r hd2 e2 c2 b0 b9 => ?_⟩
    have g2 := g1.trans (Go.draw hd2 e2 c2)
    obtain ⟨bn, rfl⟩ := Int.eq_ofNat_of_zero_le b0
    refine ⟨_, rfl, a, 3, rfl, hd2, by decide, by decide, fun H3 r hd3 e3 c3 w0 w3 => ?_⟩
    have g3 := g2.trans (Go.draw hd3 e3 c3)
    obtain ⟨wn, rfl⟩ := Int.eq_ofNat_of_zero_le w0
    clear e1 c1 e2 c2 e3 c3 hd1 hd2 g1 g2
    refine ⟨_, rfl, _, rfl, _, _, rfl, rfl, _, _, rfl, rfl, ?_⟩
    obtain ⟨rn, er, rn1, rn2⟩ : ∃ rn : Nat, (16 : Int) + ((dn : Nat) : Int) - ((bn : Nat) : Int) - 1 = ((rn : Nat) : Int) ∧ 7 ≤ rn ∧ rn ≤ 23 := ⟨15 + dn - bn, by omega, by omega, by omega⟩
    dsimp only
    rw [er]
    refine ⟨MidD a H bn, ?_, ?_⟩
    · refine ⟨_, rfl, rfl, _, rfl, ?_⟩
      by_cases w0 : wn = 0
      · rw [decide_eq_true (show V.int ((wn : Nat) : Int) = V.int 0 by rw [w0]; rfl)]
        refine iteT ⟨_, rfl, _, rfl, a, rn, rfl, hd3, by omega, by omega, fun H4 v4 d4 g4 hv it b4 => ?_⟩
        have ha := g4.hd.held
        have M : MkY H4 a _ [some (.ref a), some (.int (16 + ((dn : Nat) : Int))), some (.int ((bn : Nat) : Int)), some (.int ((wn : Nat) : Int)), some (.int ((rn : Nat) : Int)), some v4, none, none, none, none, none] (.list [.tuple [.str (Str.ofString "say"), d4], .tuple [.str (Str.ofString "let"), .str (Str.ofString "a"), d4]]) := V4.mky_lst ha (V4.mkya_cons (V4.mky_tup ha (V4.mkya_cons (V4.mky_of ha (mkx_of (mkn_str _))) (V4.mkya_cons (V4.mky_var (i := 5) hv rfl) V4.mkya_nil)) (by show 2 ≤ 1000; decide)) (V4.mkya_cons (V4.mky_tup ha (V4.mkya_cons (V4.mky_of ha (mkx_of (mkn_str _))) (V4.mkya_cons (V4.mky_of ha (mkx_of (mkn_str _))) (V4.mkya_cons (V4.mky_var (i := 5) hv rfl) V4.mkya_nil))) (by show 3 ≤ 1000; decide)) V4.mkya_nil)) (by show 2 ≤ 1000; decide)
        refine ⟨_, rfl, M H4 (Same.refl H4) _ fun u H5 s5 q5 => ?_⟩
        have g5 := Go.new g4.hd s5
        refine some_data g5.hd q5 (.inl rfl) (by show 0 < 2; decide) (by show 2 < 1000; decide) fun H6 w6 e g6 me d6 => ⟨(by show 1 ≤ sizeLine; decide), fun t nt => ?_⟩
        have g7 := Go.new g6.hd (same_new (o := HO.tup [w6]) nt)
        have d7 := dx_new g6.hd nt (.cons d6 .nil)
        have be : Bo e (rn + 1) (4 * rn + 4 + 3) := by
          have b4' : Bo d4 rn (4 * rn + 4) := b4
          simp only [List.mem_cons, List.not_mem_nil, or_false] at me
          rcases me with rfl | rfl
          · exact (BoL.cons (st_bo (by decide)) (.cons b4' .nil)).tup.mono (by omega) (by omega)
          · exact (BoL.cons (st_bo (by decide)) (.cons (st_bo (by decide)) (.cons b4' .nil))).tup.mono (by omega) (by omega)
        exact ⟨_, _, _, _, _, _, _, _, _, _, rfl, g3.trans (g4.trans (g5.trans (g6.trans g7))), d7, rfl, (BoL.cons be .nil).tup.mono (by omega) (by omega)⟩
      · rw [decide_eq_false (show ¬ V.int ((wn : Nat) : Int) = V.int 0 from fun z => w0 (by have := V.int.inj z; omega))]
        refine iteF ⟨MidN a H bn rn, ?_, ?_⟩
        · refine ⟨_, rfl, rfl, _, rfl, ?_⟩
          by_cases w1 : wn = 1
          · rw [decide_eq_true (show V.int ((wn : Nat) : Int) = V.int 1 by rw [w1]; rfl)]
            refine iteT ⟨_, rfl, _, rfl, _, _, rfl, rfl, a, _, rfl, hd3, by omega, by omega, fun H4 r hd4 e4 c4 n0 n1 => ?_⟩
            obtain ⟨nn, rfl⟩ := Int.eq_ofNat_of_zero_le n0
            exact ⟨nn, _, _, _, _, _, _, _, rfl, g3.trans (Go.draw hd4 e4 c4), by omega⟩
          · rw [decide_eq_false (show ¬ V.int ((wn : Nat) : Int) = V.int 1 from fun z => w1 (by have := V.int.inj z; omega))]
            exact iteF ⟨0, _, _, _, _, _, _, _, rfl, g3, by omega⟩
        rintro σ H4 ⟨nn, o1, o3, o5, o6, o8, o9, o10, rfl, g4, nr⟩
        have ej : ((rn : Nat) : Int) - 1 - ((nn : Nat) : Int) = ((rn - 1 - nn : Nat) : Int) := by omega
        have pj : ∀ {H4 : L2.Hp} {Q : VK}, HandAt H4 a → (∀ H' v d, Go a H4 H' → Dx (delH H' a) v d → Bo d (rn - 1 - nn) (4 * (rn - 1 - nn) + 4) → Q v H') → spPart [.ref a, .int (((rn : Nat) : Int) - 1 - ((nn : Nat) : Int))] H4 Q (fun _ _ _ => False) := fun {H4 Q} hd k => ⟨a, rn - 1 - nn, by rw [ej], hd, by omega, by omega, fun H' v d g hv _ b => k H' v d g hv b⟩
        refine ⟨_, rfl, _, rfl, _, _, rfl, rfl, _, rfl, _, _, rfl, rfl, pj g4.hd fun H5 v5 d5 g5 hv5 b5 => ⟨(by show 1 ≤ sizeLine; decide), fun t nt => ⟨(by show 3 ≤ sizeLine; decide), fun q nq => ?_⟩⟩⟩
        have g6 := Go.new g5.hd (same_new (o := HO.tup [.str (Str.ofString "many")]) nt)
        have d6 := dx_new g5.hd nt (.cons (.str (Str.ofString "many")) .nil)
        generalize upd H5 t (HO.tup [.str (Str.ofString "many")]) = H6 at g6 d6 nq ⊢
        have g7 := Go.new g6.hd (same_new (o := HO.tup [.str (Str.ofString "same"), v5, .ref t]) nq)
        have d7 := dx_new g6.hd nq (.cons (.str (Str.ofString "same")) (.cons (g6.dx hv5) (.cons d6 .nil)))
        generalize upd H6 q (HO.tup [.str (Str.ofString "same"), v5, .ref t]) = H7 at g7 d7 ⊢
        have g47 := g4.trans (g5.trans (g6.trans g7))
        have mb : Bo (.tuple [.str (Str.ofString "many")]) (rn - 1 - nn) 2 := (Bo.of (n := 1) (m := 2) (by decide +kernel)).mono (by omega) (by omega)
        refine ⟨MidT a H bn rn nn, ?_, ?_⟩
        · refine ⟨_, rfl, a, 2, rfl, g7.hd, by decide, by decide, fun H8 r hd8 e8 c8 n0 n1 => ⟨rfl, _, rfl, ite2 (fun _ => ?_) (fun _ => ?_)⟩⟩
          · have g8 := Go.draw hd8 e8 c8
            refine ⟨(by show 1 ≤ sizeLine; decide), fun t nt => ?_⟩
            have g9 := Go.new g8.hd (same_new (o := HO.tup [.str (Str.ofString "many")]) nt)
            have d9 := dx_new g8.hd nt (.cons (.str (Str.ofString "many")) .nil)
            generalize upd H8 t (HO.tup [.str (Str.ofString "many")]) = H9 at g9 d9 ⊢
            refine ⟨_, rfl, _, rfl, _, _, rfl, rfl, _, rfl, _, _, rfl, rfl, pj g9.hd fun H10 v10 d10 g10 hv10 b10 => ⟨(by show 3 ≤ sizeLine; decide), fun q nq => ?_⟩⟩
            have g11 := Go.new g10.hd (same_new (o := HO.tup [.str (Str.ofString "ahead"), .ref t, v10]) nq)
            have d11 := dx_new g10.hd nq (.cons (.str (Str.ofString "ahead")) (.cons (g10.dx d9) (.cons hv10 .nil)))
            exact ⟨_, _, _, _, _, _, _, _, rfl, g47.trans (g8.trans (g9.trans (g10.trans g11))), d11, (BoL.cons (st_bo (by decide)) (.cons mb (.cons b10 .nil))).tup.mono (by omega) (by omega)⟩
          · have g8 := Go.draw hd8 e8 c8
            exact ⟨_, _, _, _, _, _, _, _, rfl, g47.trans g8, g8.dx d7, (BoL.cons (st_bo (by decide)) (.cons b5 (.cons mb .nil))).tup.mono (by omega) (by omega)⟩
        rintro σ H8 ⟨v, d, o1, o3, o5, o6, o9, o10, rfl, g8, dv, bo⟩
        refine ⟨_, rfl, _, rfl, by omega, by omega, ?_⟩
        rw [Int.toNat_natCast]
        refine for_it (walk_range (lo := 0) (n := nn)) (fun i σ H' => ∃ v d o1 o3 o5 o6 o9 o10, σ = [some (.ref a), o1, some (.int ((bn : Nat) : Int)), o3, some (.int ((rn : Nat) : Int)), o5, o6, some (.int ((nn : Nat) : Int)), some v, o9, o10] ∧ Go a H H' ∧ Dx (delH H' a) v d ∧ Bo d (rn - nn + i) (130 + 2 * i)) ⟨v, d, _, _, _, _, _, _, rfl, g8, dv, bo⟩ (fun _ _ _ _ _ => True.intro) ?_ ?_
        · rintro i x σ H9 H10 hi ⟨v, d, o1, o3, o5, o6, o9, o10, rfl, g9, dv, bo⟩ ⟨rfl, rfl⟩
          refine ⟨_, rfl, (by show 2 ≤ sizeLine; decide), fun t nt => ?_⟩
          have d11 := dx_new g9.hd nt (.cons (.str (Str.ofString "not")) (.cons dv .nil))
          exact ⟨_, _, _, _, _, _, _, _, rfl, g9.trans (Go.new g9.hd (same_new nt)), d11, (BoL.cons (st_bo (by decide)) (.cons bo .nil)).tup.mono (by omega) (by omega)⟩
        · rintro σ H9 ⟨v, d, o1, o3, o5, o6, o9, o10, rfl, g9, dv, bo⟩
          have ha := g9.hd.held
          have M : MkY H9 a _ [some (.ref a), o1, some (.int ((bn : Nat) : Int)), o3, some (.int ((rn : Nat) : Int)), o5, o6, some (.int ((nn : Nat) : Int)), some v, o9, o10] (.tuple [.tuple [.str (Str.ofString "if"), d, .tuple [], .tuple []]]) := V4.mky_tup ha (V4.mkya_cons (V4.mky_tup ha (V4.mkya_cons (V4.mky_of ha (mkx_of (mkn_str _))) (V4.mkya_cons (V4.mky_var (i := 8) dv rfl) (V4.mkya_cons (V4.mky_tup ha V4.mkya_nil (Nat.zero_le _)) (V4.mkya_cons (V4.mky_tup ha V4.mkya_nil (Nat.zero_le _)) V4.mkya_nil)))) (by show 4 ≤ 1000; decide)) V4.mkya_nil) (by show 1 ≤ 1000; decide)
          refine set1_go (M H9 (Same.refl H9) _ fun u H11 s11 q11 => ?_)
          refine ⟨_, _, _, _, _, _, _, _, _, _, rfl, g9.trans (Go.new g9.hd s11), q11, rfl, ?_⟩
          have bo' : Bo d 24 200 := bo.mono (by omega) (by omega)
          exact (BoL.cons ((BoL.cons (st_bo (by decide)) (.cons bo' (.cons nil_bo (.cons nil_bo .nil)))).tup) .nil).tup.mono (by omega) (by omega)
    rintro σ H4 ⟨o1, o3, o4, o5, v, d, o7, o8, o9, o10, rfl, g4, dv, it, bo⟩
    refine ⟨_, rfl, _, rfl, by omega, by omega, ?_⟩
    rw [Int.toNat_natCast]
    refine for_it (walk_range (lo := 0) (n := bn)) (fun i σ H' => ∃ o1 o3 o4 o5 v d o7 o8 o9 o10, σ = [some (.ref a), o1, some (.int ((bn : Nat) : Int)), o3, o4, o5, some v, o7, o8, o9, o10] ∧ Go a H H' ∧ Dx (delH H' a) v d ∧ isTup d = true ∧ Bo d (28 + 2 * i) (240 + 14 * i)) ⟨_, _, _, _, v, d, _, _, _, _, rfl, g4, dv, it, bo⟩ (fun _ _ _ _ _ => True.intro) ?_ ?_
    · rintro i x σ H5 H6 hi ⟨o1, o3, o4, o5, v, d, o7, o8, o9, o10, rfl, g5, dv, it, bo⟩ ⟨rfl, rfl⟩
      have hb := g5.hd.held
      have M1 : MkY H6 a _ [some (.ref a), o1, some (.int ((bn : Nat) : Int)), o3, o4, o5, some v, o7, o8, some (.int (0 + ((i : Nat) : Int))), o10] testD := V4.mky_tup hb (V4.mkya_cons (V4.mky_of hb (mkx_of (mkn_str _))) (V4.mkya_cons (V4.mky_tup hb (V4.mkya_cons (V4.mky_of hb (mkx_of (mkn_str _))) V4.mkya_nil) (by show 1 ≤ 1000; decide)) (V4.mkya_cons (V4.mky_tup hb (V4.mkya_cons (V4.mky_of hb (mkx_of (mkn_str _))) V4.mkya_nil) (by show 1 ≤ 1000; decide)) V4.mkya_nil))) (by show 3 ≤ 1000; decide)
      refine set_go (M1 H6 (Same.refl H6) _ fun vt H7 s7 ht => ?_)
      have g7 := Go.new g5.hd s7
      replace dv := g7.dx dv
      refine ⟨_, rfl, a, 5, rfl, g7.hd, by decide, by decide, fun H8 r hd8 e8 c8 n0 n1 => ?_⟩
      have g8 := Go.draw hd8 e8 c8
      replace dv := g8.dx dv
      replace ht := g8.dx ht
      have ha := hd8.held
      have gA := g5.trans (g7.trans g8)
      have tI : Bo testD (28 + 2 * i) 6 := (test_bo (n := 0)).mono (by omega) (by omega)
      have nI : Bo (.tuple []) (28 + 2 * i) 1 := (nil_bo (n := 0)).mono (by omega) (by omega)
      have oI : Bo (.tuple [.str (Str.ofString "many")]) (28 + 2 * i) 2 := (Bo.of (n := 1) (m := 2) (by decide +kernel)).mono (by omega) (by omega)
      refine ⟨_, rfl, rfl, _, rfl, ite2 (fun _ => ?_) (fun _ => ?_)⟩
      · have M : MkY H8 a _ [some (.ref a), o1, some (.int ((bn : Nat) : Int)), o3, o4, o5, some v, o7, some vt, some (.int (0 + ((i : Nat) : Int))), some (.int r)] (.tuple [.tuple [.str (Str.ofString "each"), .str (Str.ofString "c"), d]]) := V4.mky_tup ha (V4.mkya_cons (V4.mky_tup ha (V4.mkya_cons (V4.mky_of ha (mkx_of (mkn_str _))) (V4.mkya_cons (V4.mky_of ha (mkx_of (mkn_str _))) (V4.mkya_cons (V4.mky_var (i := 6) dv rfl) V4.mkya_nil))) (by show 3 ≤ 1000; decide)) V4.mkya_nil) (by show 1 ≤ 1000; decide)
        refine set1_go (M H8 (Same.refl H8) _ fun u H9 s9 q9 => ?_)
        refine ⟨_, _, _, _, _, _, _, _, _, _, rfl, gA.trans (Go.new hd8 s9), q9, rfl, ?_⟩
        exact (BoL.cons ((BoL.cons (st_bo (by decide)) (.cons (st_bo (by decide)) (.cons bo .nil))).tup) .nil).tup.mono (by omega) (by omega)
      · refine ⟨_, rfl, _, _, rfl, rfl, _, rfl, ite2 (fun _ => ?_) (fun _ => ?_)⟩
        · have M : MkY H8 a _ [some (.ref a), o1, some (.int ((bn : Nat) : Int)), o3, o4, o5, some v, o7, some vt, some (.int (0 + ((i : Nat) : Int))), some (.int r)] (.tuple [.tuple [.str (Str.ofString "if"), testD, d, .tuple []]]) := V4.mky_tup ha (V4.mkya_cons (V4.mky_tup ha (V4.mkya_cons (V4.mky_of ha (mkx_of (mkn_str _))) (V4.mkya_cons (V4.mky_var (i := 8) ht rfl) (V4.mkya_cons (V4.mky_var (i := 6) dv rfl) (V4.mkya_cons (V4.mky_tup ha V4.mkya_nil (Nat.zero_le _)) V4.mkya_nil)))) (by show 4 ≤ 1000; decide)) V4.mkya_nil) (by show 1 ≤ 1000; decide)
          refine set1_go (M H8 (Same.refl H8) _ fun u H9 s9 q9 => ?_)
          refine ⟨_, _, _, _, _, _, _, _, _, _, rfl, gA.trans (Go.new hd8 s9), q9, rfl, ?_⟩
          exact (BoL.cons ((BoL.cons (st_bo (by decide)) (.cons tI (.cons bo (.cons nI .nil)))).tup) .nil).tup.mono (by omega) (by omega)
        · have M : MkY H8 a _ [some (.ref a), o1, some (.int ((bn : Nat) : Int)), o3, o4, o5, some v, o7, some vt, some (.int (0 + ((i : Nat) : Int))), some (.int r)] (.tuple [.tuple [.str (Str.ofString "say"), .tuple [.str (Str.ofString "many")]], .tuple [.str (Str.ofString "if"), testD, .tuple [], d]]) := V4.mky_tup ha (V4.mkya_cons (V4.mky_tup ha (V4.mkya_cons (V4.mky_of ha (mkx_of (mkn_str _))) (V4.mkya_cons (V4.mky_tup ha (V4.mkya_cons (V4.mky_of ha (mkx_of (mkn_str _))) V4.mkya_nil) (by show 1 ≤ 1000; decide)) V4.mkya_nil)) (by show 2 ≤ 1000; decide)) (V4.mkya_cons (V4.mky_tup ha (V4.mkya_cons (V4.mky_of ha (mkx_of (mkn_str _))) (V4.mkya_cons (V4.mky_var (i := 8) ht rfl) (V4.mkya_cons (V4.mky_tup ha V4.mkya_nil (Nat.zero_le _)) (V4.mkya_cons (V4.mky_var (i := 6) dv rfl) V4.mkya_nil)))) (by show 4 ≤ 1000; decide)) V4.mkya_nil)) (by show 2 ≤ 1000; decide)
          refine set1_go (M H8 (Same.refl H8) _ fun u H9 s9 q9 => ?_)
          refine ⟨_, _, _, _, _, _, _, _, _, _, rfl, gA.trans (Go.new hd8 s9), q9, rfl, ?_⟩
          exact (BoL.cons ((BoL.cons (st_bo (by decide)) (.cons oI .nil)).tup.mono (n' := 29 + 2 * i) (by omega) (Nat.le_refl _)) (.cons ((BoL.cons (st_bo (by decide)) (.cons tI (.cons nI (.cons bo .nil)))).tup.mono (by omega) (Nat.le_refl _)) .nil)).tup.mono (by omega) (by omega)
    · rintro σ H5 ⟨o1, o3, o4, o5, v, d, o7, o8, o9, o10, rfl, g5, dv, it, bo⟩
      exact ⟨_, rfl, hQ _ _ _ g5 dv it (bo.mono (by omega) (by omega))⟩
end
end K07

set_option maxHeartbeats 1000000
namespace K07
open PySem PySem.Spec PyProof.Rows L2 V1 V2 V3 V6 V9
open V4 (MkL held_ne)
open V10 (sortD PgOk)
open Evl (pss_cut tCut sq_of st_of)
def spLg [CurK] : Sp := fun vs H Q _ => ∃ (a : Addr), vs = [.ref a] ∧ HandAt H a ∧ ∀ H' v d, Go a H H' → Dx (delH H' a) v d → isTup d = true → Bo d 10 11000 → Q v H'
def spNear [CurK] : Sp := fun vs H Q _ => ∃ (a : Addr), vs = [.ref a] ∧ HandAt H a ∧ ∀ H' v d, Go a H H' → Dx (delH H' a) v d → isTup d = true → Bo d 10 30 → Q v H'
theorem scLg : FnScope ["hand", "kind", "found", "extra", "at"] ["hand"] (defScope s__law_large) := ⟨rfl, rfl, rfl, by decide +kernel, rfl, by decide +kernel, by decide +kernel⟩
theorem scNear : FnScope ["hand", "name", "word", "first", "second", "third"] ["hand"] (defScope s__law_nearly) := ⟨rfl, rfl, rfl, by decide +kernel, rfl, by decide +kernel, by decide +kernel⟩
def nearN : List Str := [(Str.ofString "abcdefgh"), (Str.ofString "abcdefghi"), (Str.ofString "many"), (Str.ofString "last"), (Str.ofString "manys"), (Str.ofString "a"), (Str.ofString ""), (Str.ofString "zzzzzzzz"), (Str.ofString "zzzzzzzzz"), (Str.ofString "A"), (Str.ofString "a1"), (Str.ofString "{")]
def nearW : List Str := [(Txt.mul (Str.ofString "x") 40), (Txt.mul (Str.ofString "x") 41), (Txt.mul (Str.ofString "x") 39 ++ Str.ofString "\n"), (Txt.mul (Str.ofString "~") 40), (Str.ofString ""), (Txt.mul (Str.ofString " ") 40), (Txt.mul (Str.ofString " ") 41), (Str.ofString "~~\n")]
def nearA (x w : Str) : List PyData := [.tuple [.tuple [.str (Str.ofString "let"), (.str x), .tuple [.str (Str.ofString "last")]], .tuple [.str (Str.ofString "say"), .tuple [.str (Str.ofString "name"), .str (Str.ofString "a")]]], .tuple [.tuple [.str (Str.ofString "each"), (.str x), .tuple []]], .tuple [.tuple [.str (Str.ofString "say"), .tuple [.str (Str.ofString "name"), (.str x)]]]]
def nearB (x w : Str) : List PyData := [.tuple [.tuple [.str (Str.ofString "say"), .tuple [.str (Str.ofString "text"), (.str w)]]], .tuple [.tuple [.str (Str.ofString "if"), .tuple [.str (Str.ofString "in"), .tuple [.str (Str.ofString "text"), (.str w)], .tuple [.str (Str.ofString "name"), .str (Str.ofString "a")]], .tuple [], .tuple []]]]
def nearC (x w : Str) : List PyData := [.tuple [.tuple [.str (Str.ofString "each"), .str (Str.ofString "a"), .tuple [.tuple [.str (Str.ofString "let"), .str (Str.ofString "b"), .tuple [.str (Str.ofString "join"), .tuple [.str (Str.ofString "text"), (.str w)], .tuple [.str (Str.ofString "many")]]]]]], .tuple [.tuple [.str (Str.ofString "each"), .str (Str.ofString "b"), .tuple [.tuple [.str (Str.ofString "each"), (.str x), .tuple []]]]]]
theorem near_bo : ∀ x ∈ nearN, ∀ w ∈ nearW, ∀ d ∈ nearA x w ++ nearB x w ++ nearC x w, (boB 10 30 d && isTup d) = true := by decide +kernel
section
variable [CurK]
theorem slL_any {H : Hp} {a : Addr} {v : V} {ds : List PyData} {i : Nat} {Q : VK} (hd : HandAt H a) (hv : Dx (delH H a) v (.tuple ds)) (l : i ≤ ds.length) (k : ∀ H' v', Go a H H' → Dx (delH H' a) v' (.tuple (ds.take i)) → Q v' H') : rSlA K v none (some ((i : Nat) : Int)) H Q := by
  by_cases e : i < ds.length
  · exact slL_go hd hv e k
  obtain ⟨p, xs, rfl, hp, rx⟩ := Dx.tup_inv hv
  have l1 := dxAll_len rx
  have s0 : HT.sIx xs.length 0 none = 0 := rfl
  have s1 : HT.sIx xs.length xs.length (some ((i : Nat) : Int)) = xs.length := by
    unfold HT.sIx
    dsimp only
    rw [if_neg (by omega), Int.toNat_natCast]
    omega
  refine ⟨p, xs, rfl, st_of (same_delH _ _ hp), fun z => ?_, fun z t nt => absurd ⟨s0, s1⟩ z⟩
  rw [List.take_of_length_le (by omega)] at k
  exact k _ _ (Go.refl hd) hv
theorem slF_any {H : Hp} {a : Addr} {v : V} {ds : List PyData} {i : Nat} {Q : VK} (hd : HandAt H a) (hv : Dx (delH H a) v (.tuple ds)) (l : i ≤ ds.length) (k : ∀ H' v', Go a H H' → Dx (delH H' a) v' (.tuple (ds.drop i)) → Q v' H') : rSlA K v (some ((i : Nat) : Int)) none H Q := by
  by_cases e : i < ds.length
  · exact slF_go hd hv e k
  obtain ⟨p, xs, rfl, hp, rx⟩ := Dx.tup_inv hv
  have l1 := dxAll_len rx
  have s0 : HT.sIx xs.length xs.length none = xs.length := rfl
  have s1 : HT.sIx xs.length 0 (some ((i : Nat) : Int)) = i := by
    unfold HT.sIx
    dsimp only
    rw [if_neg (by omega), Int.toNat_natCast]
    omega
  refine ⟨p, xs, rfl, st_of (same_delH _ _ hp), fun z => ?_, fun _ t nt => ?_⟩
  · rw [s1] at z
    have z0 : i = 0 := z.1
    subst z0
    rw [List.drop_zero] at k
    exact k _ _ (Go.refl hd) hv
  · refine k _ _ (Go.new hd (same_new nt)) (dx_new hd nt ?_)
    unfold cutV
    rw [s0, s1, show xs.length - i = (xs.drop i).length from (List.length_drop ..).symm, List.take_length]
    exact rx.drop i
theorem rep_go {H : Hp} {a : Addr} {v : V} {ds : List PyData} {n : Nat} {Q : VK} (hd : HandAt H a) (hv : Dx (delH H a) v (.tuple ds)) (ne : ds ≠ []) (l : ds.length ≤ 300) (n3 : n ≤ 3000) (k : ∀ H' v', Go a H H' → Dx (delH H' a) v' (.tuple (List.replicate n ds).flatten) → Q v' H') : V10.rRepU K v (.int ((n : Nat) : Int)) H Q := by
  obtain ⟨p, xs, rfl, hp, rx⟩ := Dx.tup_inv hv
  have l1 := dxAll_len rx
  refine ⟨p, ((n : Nat) : Int), xs, rfl, rfl, st_of (same_delH _ _ hp), fun z => ne (List.eq_nil_of_length_eq_zero (by rw [← l1, z]; rfl)), by omega, by omega, by omega, fun z => ?_, fun _ t nt => ?_⟩
  · obtain rfl : n = 1 := by omega
    rw [show (List.replicate 1 ds).flatten = ds by simp] at k
    exact k _ _ (Go.refl hd) hv
  · refine k _ _ (Go.new hd (same_new nt)) (dx_new hd nt ?_)
    rw [Int.toNat_natCast]
    exact V4.DxAll.rep rx n
theorem mkx_addS {σ : L2.St} {t1 t2 : TE} {x y : Str} (h1 : MkX t1 σ (.str x)) (h2 : MkX t2 σ (.str y)) (l : x.length + y.length ≤ 1000) : MkX (tOp (fun x y H Q => ∃ i j, x = .str i ∧ y = .str j ∧ i.length + j.length ≤ sizeLine ∧ Q (.str (i ++ j)) H) t1 t2) σ (.str (x ++ y)) := fun H Q k =>
  h1 H _ fun v H1 s1 q1 => by
    obtain rfl := Dx.str_inv q1
    refine h2 H1 _ fun u H2 s2 q2 => ?_
    obtain rfl := Dx.str_inv q2
    exact ⟨x, y, rfl, rfl, Nat.le_of_lt (small1000 l), k _ H2 (s1.trans s2) (.str _)⟩
end
section
variable [CurK] {P : Program} {w : World} {mg : Str → Option Value} {base : Heap}
theorem ok_near (T : Tx K w mg) : Has P w K mg base CX0 4 "_law_nearly" ["hand"] spNear := by
  obtain ⟨fd, F⟩ := T.c.def_ 46 (d := d__law_nearly) rfl
  have Hs := ok_some (P := P) (w := w) (base := base) T
  refine ⟨fd, F.ok scNear (fun vs H Q E h => ?_) (fun cdv A outer s H vs Q E hr h => ?_), FunD.bindsN F fun _ _ _ _ _ _ us hl => match us, hl with | [_], _ => rfl, F.kp, (T.glo 64 rfl)⟩
  · obtain ⟨a, rfl, _⟩ := h
    rfl
  · refine ⟨_, PSs.nox (pss_cons (ps_set (i := 1) scNear.nd rfl (Or.inl rfl) (pe_has Hs (hr.mono (by decide)) pass0 (pa_cons (pv 0) (pa_cons (pe_lstS (pa_cons pe_str (pa_cons pe_str (pa_cons pe_str (pa_cons pe_str (pa_cons pe_str (pa_cons pe_str (pa_cons pe_str (pa_cons pe_str (pa_cons pe_str (pa_cons pe_str (pa_cons pe_str (pa_cons pe_str pa_nil))))))))))))) pa_nil))))
 (pss_cons (ps_set (i := 2) scNear.nd rfl (Or.inl rfl) (pe_has Hs (hr.mono (by decide)) pass0 (pa_cons (pv 0) (pa_cons (pe_lstS (pa_cons (pe_op V4.op_mulS pe_str pe_int) (pa_cons (pe_op V4.op_mulS pe_str pe_int) (pa_cons (pe_op op_add_str (pe_op V4.op_mulS pe_str pe_int) pe_str) (pa_cons (pe_op V4.op_mulS pe_str pe_int) (pa_cons pe_str (pa_cons (pe_op V4.op_mulS pe_str pe_int) (pa_cons (pe_op V4.op_mulS pe_str pe_int) (pa_cons pe_str pa_nil))))))))) pa_nil))))
 (pss_cons (ps_set (i := 3) scNear.nd rfl (Or.inl rfl) (pe_lstS (pa_cons (pe_tup (pa_cons (pe_tup (pa_cons pe_str (pa_cons (pv 1) (pa_cons (pe_tup (pa_cons pe_str pa_nil)) pa_nil)))) (pa_cons (pe_tup (pa_cons pe_str (pa_cons (pe_tup (pa_cons pe_str (pa_cons pe_str pa_nil))) pa_nil))) pa_nil))) (pa_cons (pe_tup (pa_cons (pe_tup (pa_cons pe_str (pa_cons (pv 1) (pa_cons (pe_tup pa_nil) pa_nil)))) pa_nil)) (pa_cons (pe_tup (pa_cons (pe_tup (pa_cons pe_str (pa_cons (pe_tup (pa_cons pe_str (pa_cons (pv 1) pa_nil))) pa_nil))) pa_nil)) pa_nil)))))
 (pss_cons (ps_set (i := 4) scNear.nd rfl (Or.inl rfl) (pe_lstS (pa_cons (pe_tup (pa_cons (pe_tup (pa_cons pe_str (pa_cons (pe_tup (pa_cons pe_str (pa_cons (pv 2) pa_nil))) pa_nil))) pa_nil)) (pa_cons (pe_tup (pa_cons (pe_tup (pa_cons pe_str (pa_cons (pe_tup (pa_cons pe_str (pa_cons (pe_tup (pa_cons pe_str (pa_cons (pv 2) pa_nil))) (pa_cons (pe_tup (pa_cons pe_str (pa_cons pe_str pa_nil))) pa_nil)))) (pa_cons (pe_tup pa_nil) (pa_cons (pe_tup pa_nil) pa_nil))))) pa_nil)) pa_nil))))
 (pss_cons (ps_set (i := 5) scNear.nd rfl (Or.inl rfl) (pe_lstS (pa_cons (pe_tup (pa_cons (pe_tup (pa_cons pe_str (pa_cons pe_str (pa_cons (pe_tup (pa_cons (pe_tup (pa_cons pe_str (pa_cons pe_str (pa_cons (pe_tup (pa_cons pe_str (pa_cons (pe_tup (pa_cons pe_str (pa_cons (pv 2) pa_nil))) (pa_cons (pe_tup (pa_cons pe_str pa_nil)) pa_nil)))) pa_nil)))) pa_nil)) pa_nil)))) pa_nil)) (pa_cons (pe_tup (pa_cons (pe_tup (pa_cons pe_str (pa_cons pe_str (pa_cons (pe_tup (pa_cons (pe_tup (pa_cons pe_str (pa_cons (pv 1) (pa_cons (pe_tup pa_nil) pa_nil)))) pa_nil)) pa_nil)))) pa_nil)) pa_nil))))
 (pss_one (ps_ret (pe_has Hs (hr.mono (by decide)) pass0 (pa_cons (pv 0) (pa_cons (pe_op op_cat (pe_op op_cat (pv 3) (pv 4)) (pv 5)) pa_nil)))))))))), ?_⟩
    obtain ⟨a, rfl, hd, hQ⟩ := h
    have ha := hd.held
    have M1 : MkY H a _ [some (.ref a), none, none, none, none, none] (.list (nearN.map PyData.str)) := V4.mky_lst ha (V4.mkya_cons (V4.mky_of ha (mkx_of (mkn_str _))) (V4.mkya_cons (V4.mky_of ha (mkx_of (mkn_str _))) (V4.mkya_cons (V4.mky_of ha (mkx_of (mkn_str _))) (V4.mkya_cons (V4.mky_of ha (mkx_of (mkn_str _))) (V4.mkya_cons (V4.mky_of ha (mkx_of (mkn_str _))) (V4.mkya_cons (V4.mky_of ha (mkx_of (mkn_str _))) (V4.mkya_cons (V4.mky_of ha (mkx_of (mkn_str _))) (V4.mkya_cons (V4.mky_of ha (mkx_of (mkn_str _))) (V4.mkya_cons (V4.mky_of ha (mkx_of (mkn_str _))) (V4.mkya_cons (V4.mky_of ha (mkx_of (mkn_str _))) (V4.mkya_cons (V4.mky_of ha (mkx_of (mkn_str _))) (V4.mkya_cons (V4.mky_of ha (mkx_of (mkn_str _))) V4.mkya_nil)))))))))))) (by show 12 ≤ 1000; decide)
    refine ⟨_, rfl, M1 H (Same.refl H) _ fun v1 H1 s1 q1 => ?_⟩
    have g1 := Go.new hd s1
    refine some_data g1.hd q1 (.inl rfl) (by decide) (by decide) fun H2 u2 e2 g2 m2 d2 => ?_
    obtain ⟨x, mx, rfl⟩ := List.mem_map.mp m2
    obtain rfl := Dx.str_inv d2
    clear d2 m2
    replace ha := g2.hd.held
    have M2 : MkY H2 a _ [some (.ref a), some (.str x), none, none, none, none] (.list (nearW.map PyData.str)) := V4.mky_lst ha (V4.mkya_cons (V4.mky_of ha (V4.mkx_mulS _ 40 (by decide) (by decide) (by decide))) (V4.mkya_cons (V4.mky_of ha (V4.mkx_mulS _ 41 (by decide) (by decide) (by decide))) (V4.mkya_cons (V4.mky_of ha (mkx_addS (V4.mkx_mulS _ 39 (by decide) (by decide) (by decide)) (mkx_of (mkn_str _)) (by decide +kernel))) (V4.mkya_cons (V4.mky_of ha (V4.mkx_mulS _ 40 (by decide) (by decide) (by decide))) (V4.mkya_cons (V4.mky_of ha (mkx_of (mkn_str _))) (V4.mkya_cons (V4.mky_of ha (V4.mkx_mulS _ 40 (by decide) (by decide) (by decide))) (V4.mkya_cons (V4.mky_of ha (V4.mkx_mulS _ 41 (by decide) (by decide) (by decide))) (V4.mkya_cons (V4.mky_of ha (mkx_of (mkn_str _))) V4.mkya_nil)))))))) (by show 8 ≤ 1000; decide)
    refine ⟨_, rfl, M2 H2 (Same.refl H2) _ fun v3 H3 s3 q3 => ?_⟩
    have g3 := Go.new g2.hd s3
    refine some_data g3.hd q3 (.inl rfl) (by decide) (by decide) fun H4 u4 e4 g4 m4 d4 => ?_
    obtain ⟨w, mw, rfl⟩ := List.mem_map.mp m4
    obtain rfl := Dx.str_inv d4
    clear d4 m4
    replace ha := g4.hd.held
    have MA : MkY H4 a _ [some (.ref a), some (.str x), some (.str w), none, none, none] (.list (nearA x w)) := V4.mky_lst ha (V4.mkya_cons (V4.mky_tup ha (V4.mkya_cons (V4.mky_tup ha (V4.mkya_cons (V4.mky_of ha (mkx_of (mkn_str _))) (V4.mkya_cons (V4.mky_var (i := 1) (Dx.str x) rfl) (V4.mkya_cons (V4.mky_tup ha (V4.mkya_cons (V4.mky_of ha (mkx_of (mkn_str _))) V4.mkya_nil) (by show 1 ≤ 1000; decide)) V4.mkya_nil))) (by show 3 ≤ 1000; decide)) (V4.mkya_cons (V4.mky_tup ha (V4.mkya_cons (V4.mky_of ha (mkx_of (mkn_str _))) (V4.mkya_cons (V4.mky_tup ha (V4.mkya_cons (V4.mky_of ha (mkx_of (mkn_str _))) (V4.mkya_cons (V4.mky_of ha (mkx_of (mkn_str _))) V4.mkya_nil)) (by show 2 ≤ 1000; decide)) V4.mkya_nil)) (by show 2 ≤ 1000; decide)) V4.mkya_nil)) (by show 2 ≤ 1000; decide)) (V4.mkya_cons (V4.mky_tup ha (V4.mkya_cons (V4.mky_tup ha (V4.mkya_cons (V4.mky_of ha (mkx_of (mkn_str _))) (V4.mkya_cons (V4.mky_var (i := 1) (Dx.str x) rfl) (V4.mkya_cons (V4.mky_tup ha V4.mkya_nil (Nat.zero_le _)) V4.mkya_nil))) (by show 3 ≤ 1000; decide)) V4.mkya_nil) (by show 1 ≤ 1000; decide)) (V4.mkya_cons (V4.mky_tup ha (V4.mkya_cons (V4.mky_tup ha (V4.mkya_cons (V4.mky_of ha (mkx_of (mkn_str _))) (V4.mkya_cons (V4.mky_tup ha (V4.mkya_cons (V4.mky_of ha (mkx_of (mkn_str _))) (V4.mkya_cons (V4.mky_var (i := 1) (Dx.str x) rfl) V4.mkya_nil)) (by show 2 ≤ 1000; decide)) V4.mkya_nil)) (by show 2 ≤ 1000; decide)) V4.mkya_nil) (by show 1 ≤ 1000; decide)) V4.mkya_nil))) (by show 3 ≤ 1000; decide)
    refine set_go (V4.mkl_of MA H4 (Same.refl H4) _ fun p5 x5 H5 s5 n5 e5 r5 => ?_)
    have g5 := Go.new g4.hd s5
    replace ha := g5.hd.held
    have MB : MkY H5 a _ [some (.ref a), some (.str x), some (.str w), some (.ref p5), none, none] (.list (nearB x w)) := V4.mky_lst ha (V4.mkya_cons (V4.mky_tup ha (V4.mkya_cons (V4.mky_tup ha (V4.mkya_cons (V4.mky_of ha (mkx_of (mkn_str _))) (V4.mkya_cons (V4.mky_tup ha (V4.mkya_cons (V4.mky_of ha (mkx_of (mkn_str _))) (V4.mkya_cons (V4.mky_var (i := 2) (Dx.str w) rfl) V4.mkya_nil)) (by show 2 ≤ 1000; decide)) V4.mkya_nil)) (by show 2 ≤ 1000; decide)) V4.mkya_nil) (by show 1 ≤ 1000; decide)) (V4.mkya_cons (V4.mky_tup ha (V4.mkya_cons (V4.mky_tup ha (V4.mkya_cons (V4.mky_of ha (mkx_of (mkn_str _))) (V4.mkya_cons (V4.mky_tup ha (V4.mkya_cons (V4.mky_of ha (mkx_of (mkn_str _))) (V4.mkya_cons (V4.mky_tup ha (V4.mkya_cons (V4.mky_of ha (mkx_of (mkn_str _))) (V4.mkya_cons (V4.mky_var (i := 2) (Dx.str w) rfl) V4.mkya_nil)) (by show 2 ≤ 1000; decide)) (V4.mkya_cons (V4.mky_tup ha (V4.mkya_cons (V4.mky_of ha (mkx_of (mkn_str _))) (V4.mkya_cons (V4.mky_of ha (mkx_of (mkn_str _))) V4.mkya_nil)) (by show 2 ≤ 1000; decide)) V4.mkya_nil))) (by show 3 ≤ 1000; decide)) (V4.mkya_cons (V4.mky_tup ha V4.mkya_nil (Nat.zero_le _)) (V4.mkya_cons (V4.mky_tup ha V4.mkya_nil (Nat.zero_le _)) V4.mkya_nil)))) (by show 4 ≤ 1000; decide)) V4.mkya_nil) (by show 1 ≤ 1000; decide)) V4.mkya_nil)) (by show 2 ≤ 1000; decide)
    refine set_go (V4.mkl_of MB H5 (Same.refl H5) _ fun p6 x6 H6 s6 n6 e6 r6 => ?_)
    have g6 := Go.new g5.hd s6
    replace ha := g6.hd.held
    have MC : MkY H6 a _ [some (.ref a), some (.str x), some (.str w), some (.ref p5), some (.ref p6), none] (.list (nearC x w)) := V4.mky_lst ha (V4.mkya_cons (V4.mky_tup ha (V4.mkya_cons (V4.mky_tup ha (V4.mkya_cons (V4.mky_of ha (mkx_of (mkn_str _))) (V4.mkya_cons (V4.mky_of ha (mkx_of (mkn_str _))) (V4.mkya_cons (V4.mky_tup ha (V4.mkya_cons (V4.mky_tup ha (V4.mkya_cons (V4.mky_of ha (mkx_of (mkn_str _))) (V4.mkya_cons (V4.mky_of ha (mkx_of (mkn_str _))) (V4.mkya_cons (V4.mky_tup ha (V4.mkya_cons (V4.mky_of ha (mkx_of (mkn_str _))) (V4.mkya_cons (V4.mky_tup ha (V4.mkya_cons (V4.mky_of ha (mkx_of (mkn_str _))) (V4.mkya_cons (V4.mky_var (i := 2) (Dx.str w) rfl) V4.mkya_nil)) (by show 2 ≤ 1000; decide)) (V4.mkya_cons (V4.mky_tup ha (V4.mkya_cons (V4.mky_of ha (mkx_of (mkn_str _))) V4.mkya_nil) (by show 1 ≤ 1000; decide)) V4.mkya_nil))) (by show 3 ≤ 1000; decide)) V4.mkya_nil))) (by show 3 ≤ 1000; decide)) V4.mkya_nil) (by show 1 ≤ 1000; decide)) V4.mkya_nil))) (by show 3 ≤ 1000; decide)) V4.mkya_nil) (by show 1 ≤ 1000; decide)) (V4.mkya_cons (V4.mky_tup ha (V4.mkya_cons (V4.mky_tup ha (V4.mkya_cons (V4.mky_of ha (mkx_of (mkn_str _))) (V4.mkya_cons (V4.mky_of ha (mkx_of (mkn_str _))) (V4.mkya_cons (V4.mky_tup ha (V4.mkya_cons (V4.mky_tup ha (V4.mkya_cons (V4.mky_of ha (mkx_of (mkn_str _))) (V4.mkya_cons (V4.mky_var (i := 1) (Dx.str x) rfl) (V4.mkya_cons (V4.mky_tup ha V4.mkya_nil (Nat.zero_le _)) V4.mkya_nil))) (by show 3 ≤ 1000; decide)) V4.mkya_nil) (by show 1 ≤ 1000; decide)) V4.mkya_nil))) (by show 3 ≤ 1000; decide)) V4.mkya_nil) (by show 1 ≤ 1000; decide)) V4.mkya_nil)) (by show 2 ≤ 1000; decide)
    refine set_go (V4.mkl_of MC H6 (Same.refl H6) _ fun p7 x7 H7 s7 n7 e7 r7 => ?_)
    have g7 := Go.new g6.hd s7
    have s67 := s6.trans s7
    have h7 := g7.hd.held
    refine ⟨_, rfl, V4.mkl_cat (σ := [some (.ref a), some (.str x), some (.str w), some (.ref p5), some (.ref p6), some (.ref p7)]) (ds := nearA x w ++ nearB x w) (es := nearC x w) h7 (V4.mkl_cat (ds := nearA x w) (es := nearB x w) h7 (V4.mkl_var n5 (s67 _ _ e5) (DxAll.same (same_del s67) _ _ r5) rfl) (V4.mkl_var n6 (s7 _ _ e6) (DxAll.same (same_del s7) _ _ r6) rfl) (by show 3 + 2 ≤ 5000; decide)) (V4.mkl_var n7 e7 r7 rfl) (by show 5 + 2 ≤ 5000; decide) H7 (Same.refl H7) _ fun p xs H8 s8 na e8 r8 => ?_⟩
    have g8 := Go.new g7.hd s8
    have lv : xs.length = 7 := dxAll_len r8
    refine ⟨a, _, _, rfl, g8.hd, .inl ⟨p, rfl, na, .inl e8⟩, by omega, by omega, fun H9 i v hd9 e9 c9 ev => ?_⟩
    have g9 := Go.draw hd9 e9 c9
    obtain ⟨d, md, dv⟩ := DxAll.some r8 ev
    have z := near_bo x mx w mw d md
    rw [Bool.and_eq_true] at z
    exact hQ H9 v d (g1.trans (g2.trans (g3.trans (g4.trans (g5.trans (g6.trans (g7.trans (g8.trans g9)))))))) (g9.dx dv) z.2 (.of z.1)
theorem cutD_drop {ds : List PyData} {k : Nat} : V4.cutD ds (some ((k : Nat) : Int)) none = ds.drop k := by
  unfold V4.cutD
  rw [HT.sIx_none, HT.sIx_nat]
  by_cases h : k ≤ ds.length
  · rw [Nat.min_eq_left h]
    exact List.take_of_length_le (by rw [List.length_drop]; omega)
  · rw [Nat.min_eq_right (by omega), List.drop_of_length_le (by omega), List.drop_of_length_le (by omega)]
    simp
theorem op_set {R : R2} {t1 t2 : TE} {i : Nat} {rest : TS} {D : Ends} {σ : L2.St} {H : Hp} (h : t1 σ H (fun x H1 => t2 σ H1 fun y H2 => R x y H2 (fun v H' => rest D (σ.set i (some v)) H'))) : tSeq (tAsg (tOp R t1 t2) (gName i)) rest D σ H := h
theorem ok_lg (T : Tx K w mg) : Has P w K mg base CX0 4 "_law_large" ["hand"] spLg := by
  obtain ⟨fd, F⟩ := T.c.def_ 45 (d := d__law_large) rfl
  have Hd := ok_draw (P := P) (w := w) (base := base) T
  refine ⟨fd, F.ok scLg (fun vs H Q E h => ?_) (fun cdv A outer s H vs Q E hr h => ?_), FunD.bindsN F fun _ _ _ _ _ _ us hl => match us, hl with | [_], _ => rfl, F.kp, (T.glo 63 rfl)⟩
  · obtain ⟨a, rfl, _⟩ := h
    rfl
  · refine ⟨_, PSs.nox (pss_cons (ps_set (i := 1) scLg.nd rfl (Or.inl rfl) (pe_has Hd (hr.mono (by decide)) pass0 (pa_cons (pv 0) (pa_cons pe_int pa_nil))))
 (pss_cons (ps_set (i := 2) scLg.nd rfl (Or.inl rfl) (pe_op V10.op_repU (pe_tup (pa_cons (pe_tup (pa_cons pe_str (pa_cons (pe_tup (pa_cons pe_str pa_nil)) pa_nil))) pa_nil)) (pe_ix ix_list (pe_lstS (pa_cons pe_int (pa_cons pe_int (pa_cons pe_int (pa_cons pe_int (pa_cons pe_int (pa_cons pe_int (pa_cons pe_int (pa_cons pe_int pa_nil))))))))) (pv 1) (fun _ _ => rfl))))
 (pss_cons (ps_set (i := 3) scLg.nd rfl (Or.inl rfl) (pe_op V10.op_repU (pe_tup (pa_cons (pe_tup (pa_cons pe_str (pa_cons pe_str (pa_cons (pe_tup pa_nil) pa_nil)))) pa_nil)) (pe_has Hd (hr.mono (by decide)) pass0 (pa_cons (pv 0) (pa_cons pe_int pa_nil)))))
 (pss_cons (ps_set (i := 4) scLg.nd rfl (Or.inl rfl) (pe_has Hd (hr.mono (by decide)) pass0 (pa_cons (pv 0) (pa_cons (pe_op op_add (pe_callB call_len (by rfl) (T.free 76 rfl) PySem.boot_len (pa_cons (pv 2) pa_nil)) pe_int) pa_nil))))
 (pss_cons (ps_set (i := 2) scLg.nd rfl (Or.inl rfl) (pe_op op_catA (pe_op op_catA (pe_slice sl_tupA (pv 2) po_none (po_some (pv 4))) (pv 3)) (pe_slice sl_tupA (pv 2) (po_some (pv 4)) po_none)))
 (pss_cons (ps_if (pt_cmpR op_eq (pe_has Hd (hr.mono (by decide)) pass0 (pa_cons (pv 0) (pa_cons pe_int pa_nil))) pe_int (nomark _))
 (pss_one (ps_ret (pe_tup (pa_cons (pe_tup (pa_cons pe_str (pa_cons (pe_tup (pa_cons pe_str (pa_cons (pe_tup (pa_cons pe_str (pa_cons (pe_tup (pa_cons pe_str pa_nil)) (pa_cons (pe_tup (pa_cons pe_str pa_nil)) pa_nil)))) pa_nil))) (pa_cons (pe_slice sl_tupA (pv 2) po_none (po_some (pv 4))) (pa_cons (pe_slice sl_tupA (pv 2) (po_some (pv 4)) po_none) pa_nil))))) pa_nil))))
 pss_nil)
 (pss_one (ps_ret (pv 2))))))))), ?_⟩
    obtain ⟨a, rfl, hd, hQ⟩ := h
    refine ⟨_, rfl, a, 8, rfl, hd, by decide, by decide, fun H1 r hd1 e1 c1 r0 r8 => ?_⟩
    have g1 := Go.draw hd1 e1 c1
    obtain ⟨kn, rfl⟩ := Int.eq_ofNat_of_zero_le r0
    have ha := hd1.held
    have M1 : MkY H1 a _ [some (.ref a), some (.int ((kn : Nat) : Int)), none, none, none] (.tuple [.tuple [.str (Str.ofString "say"), .tuple [.str (Str.ofString "many")]]]) := V4.mky_tup ha (V4.mkya_cons (V4.mky_tup ha (V4.mkya_cons (V4.mky_of ha (mkx_of (mkn_str _))) (V4.mkya_cons (V4.mky_tup ha (V4.mkya_cons (V4.mky_of ha (mkx_of (mkn_str _))) V4.mkya_nil) (by show 1 ≤ 1000; decide)) V4.mkya_nil)) (by show 2 ≤ 1000; decide)) V4.mkya_nil) (by show 1 ≤ 1000; decide)
    refine op_set (M1 H1 (Same.refl H1) _ fun v2 H2 s2 d2 => ?_)
    have g2 := Go.new hd1 s2
    refine ⟨(by show 8 ≤ sizeLine; decide), fun L nL _ => ?_⟩
    have g3 := Go.new g2.hd (same_new (o := HO.lst [.int 249, .int 250, .int 250, .int 251, .int 2500, .int 249, .int 250, .int 248]) nL)
    obtain ⟨c, hc, c1, c2⟩ : ∃ c : Nat, ([.int 249, .int 250, .int 250, .int 251, .int 2500, .int 249, .int 250, .int 248] : List V)[kn]? = some (.int ((c : Nat) : Int)) ∧ 1 ≤ c ∧ c ≤ 2500 := by
      rcases (show kn = 0 ∨ kn = 1 ∨ kn = 2 ∨ kn = 3 ∨ kn = 4 ∨ kn = 5 ∨ kn = 6 ∨ kn = 7 by omega) with rfl | rfl | rfl | rfl | rfl | rfl | rfl | rfl
      · exact ⟨249, rfl, by decide, by decide⟩
      · exact ⟨250, rfl, by decide, by decide⟩
      · exact ⟨250, rfl, by decide, by decide⟩
      · exact ⟨251, rfl, by decide, by decide⟩
      · exact ⟨2500, rfl, by decide, by decide⟩
      · exact ⟨249, rfl, by decide, by decide⟩
      · exact ⟨250, rfl, by decide, by decide⟩
      · exact ⟨248, rfl, by decide, by decide⟩
    refine ⟨_, rfl, L, _, _, _, rfl, rfl, sq_of upd_same, atI_nat hc, ?_⟩
    generalize upd H2 L (HO.lst [.int 249, .int 250, .int 250, .int 251, .int 2500, .int 249, .int 250, .int 248]) = H3 at g3 ⊢
    refine rep_go g3.hd (g3.dx d2) (by simp) (by decide) (by omega) fun H4 v4 g4 d4 => ?_
    have b4 : BoL (List.replicate c ([.tuple [.str (Str.ofString "say"), .tuple [.str (Str.ofString "many")]]] : List PyData)).flatten 3 (c * 4) := BoL.rep ⟨by decide +kernel, by decide +kernel, by decide +kernel⟩ c
    generalize (List.replicate c ([.tuple [.str (Str.ofString "say"), .tuple [.str (Str.ofString "many")]]] : List PyData)).flatten = ds at d4 b4
    replace ha := g4.hd.held
    have M5 : MkY H4 a _ [some (.ref a), some (.int ((kn : Nat) : Int)), some v4, none, none] (.tuple [.tuple [.str (Str.ofString "each"), .str (Str.ofString "a"), .tuple []]]) := V4.mky_tup ha (V4.mkya_cons (V4.mky_tup ha (V4.mkya_cons (V4.mky_of ha (mkx_of (mkn_str _))) (V4.mkya_cons (V4.mky_of ha (mkx_of (mkn_str _))) (V4.mkya_cons (V4.mky_tup ha V4.mkya_nil (Nat.zero_le _)) V4.mkya_nil))) (by show 3 ≤ 1000; decide)) V4.mkya_nil) (by show 1 ≤ 1000; decide)
    refine op_set (M5 H4 (Same.refl H4) _ fun v5 H5 s5 d5 => ?_)
    have g5 := Go.new g4.hd s5
    refine ⟨_, rfl, a, 3, rfl, g5.hd, by decide, by decide, fun H6 r hd6 e6 c6 n0 n1 => ?_⟩
    obtain ⟨en, rfl⟩ := Int.eq_ofNat_of_zero_le n0
    have g6 := Go.draw hd6 e6 c6
    refine rep_go g6.hd (g6.dx d5) (by simp) (by decide) (by omega) fun H7 v7 g7 d7 => ?_
    have b7 : BoL (List.replicate en ([.tuple [.str (Str.ofString "each"), .str (Str.ofString "a"), .tuple []]] : List PyData)).flatten 3 (en * 4) := BoL.rep ⟨by decide +kernel, by decide +kernel, by decide +kernel⟩ en
    generalize (List.replicate en ([.tuple [.str (Str.ofString "each"), .str (Str.ofString "a"), .tuple []]] : List PyData)).flatten = es at d7 b7
    have g47 := g5.trans (g6.trans g7)
    replace d4 := g47.dx d4
    obtain ⟨p, us, rfl, hp, rp⟩ := Dx.tup_inv d4
    have lu := dxAll_len rp
    have ld := b4.len
    have le := b7.len
    refine ⟨_, rfl, _, rfl, _, _, rfl, .inr ⟨us, st_of (same_delH _ _ hp), rfl⟩, _, _, rfl, rfl, a, _, rfl, g7.hd, by omega, by omega, fun H8 r hd8 e8 c8 n0 n1 => ?_⟩
    obtain ⟨i, rfl⟩ := Int.eq_ofNat_of_zero_le n0
    have g8 := Go.draw hd8 e8 c8
    replace d4 := g8.dx d4
    have il : i ≤ ds.length := by omega
    refine ⟨_, rfl, _, rfl, _, rfl, slL_any g8.hd d4 il fun H9 v9 g9 d9 => ⟨_, rfl, cat_go g9.hd d9 ((g8.trans g9).dx d7) (by rw [List.length_take]; omega) fun H10 v10 g10 d10 => ⟨_, rfl, _, rfl, _, rfl, slF_any g10.hd ((g9.trans g10).dx d4) il fun H11 v11 g11 d11 => cat_go g11.hd (g11.dx d10) d11 (by rw [List.length_append, List.length_take, List.length_drop]; omega) fun H12 v12 g12 d12 => ?_⟩⟩⟩
    have gA := g1.trans (g2.trans (g3.trans (g4.trans (g47.trans (g8.trans (g9.trans (g10.trans (g11.trans g12))))))))
    have bF : BoL (ds.take i ++ es ++ ds.drop i) 3 10020 := by
      obtain ⟨m1, m2, em, b1, b2⟩ := b4.cut i
      exact ((b1.app b7).app b2).mono (Nat.le_refl _) (by omega)
    generalize ds.take i ++ es ++ ds.drop i = fs at d12 bF
    refine ⟨_, rfl, a, 3, rfl, g12.hd, by decide, by decide, fun H13 r hd13 e13 c13 n0 n1 => ⟨rfl, _, rfl, ite2 (fun _ => ?_) (fun _ => ?_)⟩⟩
    · have g13 := Go.draw hd13 e13 c13
      replace d12 := g13.dx d12
      replace ha := g13.hd.held
      have M : MkY H13 a _ [some (.ref a), some (.int ((kn : Nat) : Int)), some v12, some v7, some (.int ((i : Nat) : Int))] (.tuple [.tuple [.str (Str.ofString "if"), .tuple [.str (Str.ofString "not"), .tuple [.str (Str.ofString "same"), .tuple [.str (Str.ofString "many")], .tuple [.str (Str.ofString "last")]]], .tuple (V4.cutD fs none (some ((i : Nat) : Int))), .tuple (V4.cutD fs (some ((i : Nat) : Int)) none)]]) := V4.mky_tup ha (V4.mkya_cons (V4.mky_tup ha (V4.mkya_cons (V4.mky_of ha (mkx_of (mkn_str _))) (V4.mkya_cons (V4.mky_tup ha (V4.mkya_cons (V4.mky_of ha (mkx_of (mkn_str _))) (V4.mkya_cons (V4.mky_tup ha (V4.mkya_cons (V4.mky_of ha (mkx_of (mkn_str _))) (V4.mkya_cons (V4.mky_tup ha (V4.mkya_cons (V4.mky_of ha (mkx_of (mkn_str _))) V4.mkya_nil) (by show 1 ≤ 1000; decide)) (V4.mkya_cons (V4.mky_tup ha (V4.mkya_cons (V4.mky_of ha (mkx_of (mkn_str _))) V4.mkya_nil) (by show 1 ≤ 1000; decide)) V4.mkya_nil))) (by show 3 ≤ 1000; decide)) V4.mkya_nil)) (by show 2 ≤ 1000; decide)) (V4.mkya_cons (V4.mky_cut (tl := tNoPart) (th := tPart (tVar 4)) ha (V4.mky_var (i := 2) d12 rfl) (fun H Q q => q) (fun H Q q => ⟨_, rfl, _, rfl, q⟩)) (V4.mkya_cons (V4.mky_cut (tl := tPart (tVar 4)) (th := tNoPart) ha (V4.mky_var (i := 2) d12 rfl) (fun H Q q => ⟨_, rfl, _, rfl, q⟩) (fun H Q q => q)) V4.mkya_nil)))) (by show 4 ≤ 1000; decide)) V4.mkya_nil) (by show 1 ≤ 1000; decide)
      refine M H13 (Same.refl H13) _ fun u H14 s14 d14 => ?_
      rw [V4.cutD_take, cutD_drop] at d14
      obtain ⟨m1, m2, em, b1, b2⟩ := bF.cut i
      have tb : Bo (.tuple [.str (Str.ofString "not"), .tuple [.str (Str.ofString "same"), .tuple [.str (Str.ofString "many")], .tuple [.str (Str.ofString "last")]]]) 4 8 := .of (by decide +kernel)
      exact hQ _ _ _ (gA.trans (g13.trans (Go.new g13.hd s14))) d14 rfl ((BoL.cons (BoL.cons (st_bo (by decide)) (.cons tb (.cons b1.tup (.cons b2.tup .nil)))).tup .nil).tup.mono (by omega) (by omega))
    · have g13 := Go.draw hd13 e13 c13
      exact ⟨_, rfl, hQ _ _ _ (gA.trans g13) (g13.dx d12) rfl (bF.tup.mono (by omega) (by omega))⟩
end
end K07

set_option maxHeartbeats 1000000
namespace K07
open PySem PySem.Spec PyProof.Rows L2 V1 V2 V3 V6 V9
open V10 (sortD PgOk)
open Evl (pss_cut tCut sq_of st_of)
def clX (k : String) : TS := tRet (tTup (tCons (tC (.str (Str.ofString k))) (tCons (tC .non) tNil)))
def clT (k : String) : TS := tRet (tC (.str (Str.ofString k)))
section
variable {K : PySem.W.Frag} {w : World} {mg : Str → Option Value}
theorem Tx.exm (T : Tx K w mg) (i j : Nat) {x y : Str} (hx : errs[i]? = some x) (hy : errs[j]? = some y) : PySem.W.exmOne K (.ref (He.ga K x)) (.ref (He.ga K y)) = some (decide (i = j)) := by
  obtain ⟨hE, hA, nd, cA⟩ := T.exs
  rw [(T.one i hx).exm (T.one j hy) rfl]
  obtain ⟨n1, n2⟩ := List.nodup_cons.mp nd
  have ne : He.ga K "TalkError" ≠ He.ga K y := fun z => n1 (List.mem_map.mpr ⟨y, List.mem_of_getElem? hy, z.symm⟩)
  have z : ((Value.ref (He.ga K "TalkError") :: veB).contains (Value.ref (He.ga K y))) = false := by
    rw [List.contains_cons]
    have z1 : (Value.ref (He.ga K y) == Value.ref (He.ga K "TalkError")) = false := by simpa using Ne.symm ne
    rw [z1]
    rfl
  rw [z, Bool.or_false]
  by_cases e : i = j
  · subst e
    have exy : x = y := Option.some.inj (hx.symm.trans hy)
    rw [exy, decide_eq_true rfl, decide_eq_true rfl]
  · rw [decide_eq_false e]
    have ne2 : He.ga K x ≠ He.ga K y := fun q => by
      have a1 : (errs.map (He.ga K))[i]? = some (He.ga K x) := by rw [List.getElem?_map, hx]; rfl
      have a2 : (errs.map (He.ga K))[j]? = some (He.ga K y) := by rw [List.getElem?_map, hy]; rfl
      rw [q] at a1
      have li := (List.getElem?_eq_some_iff.mp a1).1
      exact e ((List.getElem?_inj li n2).mp (a1.trans a2.symm))
    rw [decide_eq_false ne2]
end
section
variable [CurK]
/-- what making a program comes to -/
def spMade : Sp := fun vs H Q _ => ∃ v d, vs = [v] ∧ Dx H v d ∧ shortA d = true ∧ V10.sz d ≤ 100000 ∧
  (progB d = true → ∀ t p dx H', Same H H' → H' t = some (.tup [.str (Str.ofString "made"), .ref p]) → H' p = some (.ins (He.ga K "Program") dx [("statements", v)]) → Q (.ref t) H') ∧
  (progB d = false → ∀ t H', Same H H' → H' t = some (.tup [.str (Str.ofString "bad"), .non]) → Q (.ref t) H')
def spTW : Sp := fun vs H Q _ => (∃ q b, vs = [.ref q] ∧ PgAt H q b ∧ PgOk b ∧ ∀ H', Same H H' → Q (.str (Str.ofString "told")) H') ∨ ∃ v, vs = [v] ∧ NoPg H v ∧ ∀ H', Same H H' → Q (.str (Str.ofString "refused")) H'
end
theorem scMade : FnScope ["thing"] ["thing"] (defScope s__law_made) := ⟨rfl, rfl, rfl, by decide +kernel, rfl, by decide +kernel, by decide +kernel⟩
theorem scTW : FnScope ["thing"] ["thing"] (defScope s__law_text_word) := ⟨rfl, rfl, rfl, by decide +kernel, rfl, by decide +kernel, by decide +kernel⟩
section
variable [CurK] {P : Program} {w : World} {mg : Str → Option Value} {base : Heap}
theorem nopg_of (T : Tx K w mg) {H : L2.Hp} {v : V} {d : PyData} (h : Dx H v d) (ne : d ≠ objD) : NoPg H v := by
  have i := T.insK 0 (x := "Program") rfl
  have z1 := i.no _ (tyName_mem d)
  have z2 := i.nf _ (tyName_mem d)
  cases h with
  | non => exact ⟨_, .base .non, z1, z2⟩
  | bl b => exact ⟨_, .base (.bl b), z1, z2⟩
  | int i => exact ⟨_, .base (.int i), z1, z2⟩
  | str x => exact ⟨_, .base (.str x), z1, z2⟩
  | lst e _ _ => exact ⟨_, .base (.lst e), z1, z2⟩
  | tup e _ => exact ⟨_, .base (.tup e), z1, z2⟩
  | dct e _ => exact ⟨_, .base (.dK e), z1, z2⟩
  | ob e ok => exact absurd rfl ne
theorem nopg_tab (T : Tx K w mg) {H : L2.Hp} {v : V} (h : TbV H v) : NoPg H v := by
  obtain ⟨q, dx, fs, rfl, e⟩ := h
  have cS : Cls K (He.ga K "Table") := He.cls_ok (T.c.fact 95 rfl)
  have iC := (T.insK 1 (x := "Table") rfl).ins cS T.exs.2.2.2
  exact ⟨_, TyX_ins e iC, (T.two 1 0 (x := "Table") (y := "Program") rfl rfl (by decide)).1, (T.two 0 1 (x := "Program") (y := "Table") rfl rfl (by decide)).2⟩
theorem nopg_voice (T : Tx K w mg) {H : L2.Hp} {q dx : Addr} {fs : List (Str × V)} (e : H q = some (.ins (He.ga K "Voice") dx fs)) : NoPg H (.ref q) := by
  have cS : Cls K (He.ga K "Voice") := He.cls_ok (T.c.fact 103 rfl)
  have iC := (T.insK 2 (x := "Voice") rfl).ins cS T.exs.2.2.2
  exact ⟨_, TyX_ins e iC, (T.two 2 0 (x := "Voice") (y := "Program") rfl rfl (by decide)).1, (T.two 0 2 (x := "Program") (y := "Voice") rfl rfl (by decide)).2⟩
theorem ok_made (T : Tx K w mg) : Has P w K mg base CX0 8 "_law_made" ["thing"] spMade := by
  obtain ⟨fd, F⟩ := T.c.def_ 47 (d := d__law_made) rfl
  have Hpi := ok_pinit (P := P) (w := w) (base := base) T
  refine ⟨fd, F.ok scMade (fun vs H Q E h => ?_) (fun cdv A outer s H vs Q E hr h => ?_), FunD.bindsN F fun _ _ _ _ _ _ us hl => match us, hl with | [_], _ => rfl, F.kp, (T.glo 65 rfl)⟩
  · obtain ⟨v, d, rfl, _⟩ := h
    rfl
  · refine ⟨_, PSs.nox (pss_one (ps_try_cl (tb := fun W => tRet (tTup (tCons (tC (.str "made")) (tCons (tMakeS (He.ga K "Program") spPInit (WE W) (tCons (tVar 0) tNil)) tNil)))) (Wout := fun _ _ _ _ => False) (l := [(.ref (He.ga K "BadProgram"), none, fun _ _ _ => clX "bad"), (.ref (He.ga K "TalkError"), none, fun _ _ _ => clX "else")]) rfl rfl scMade.nd L2.takes0
 (fun W pn xe tk _ => pss_one (ps_ret (pe_tup (pa_cons pe_str (pa_cons (pe_hasCS Hpi (hr.mono (by decide)) (fun σ => passAt tk σ) (pa_cons (pv 0) pa_nil)) pa_nil)))))
 (.plain (c := .ref (He.ga K "BadProgram")) (ts := fun _ _ _ => clX "bad") ⟨rfl, by decide, .inl (T.glo 8 rfl)⟩ (fun a oe cls d pn hz hf => (pss_one (ps_ret (pe_tup (pa_cons pe_str (pa_cons pe_non pa_nil))))))
 (.plain (c := .ref (He.ga K "TalkError")) (ts := fun _ _ _ => clX "else") ⟨rfl, by decide, .inl (T.glo 5 rfl)⟩ (fun a oe cls d pn hz hf => (pss_one (ps_ret (pe_tup (pa_cons pe_str (pa_cons pe_non pa_nil))))))
 .nil)))), ?_⟩
    obtain ⟨v, d, rfl, hd, sh, sz, hG, hB⟩ := h
    refine ⟨_, rfl, ?_⟩
    intro p dx np nd ne
    have sm : Same H (upd (upd H dx (.own p)) p (.ins (He.ga K "Program") dx [])) := fun b o e => by
      rw [upd_ne (ne_of_none e np), upd_ne (ne_of_none e nd)]
      exact e
    refine ⟨p, dx, v, d, rfl, upd_same, hd.sm sm, sh, sz, fun hb H' st hp => ⟨rfl, ?_⟩, fun hb H' s' => ?_⟩
    · have s2 : Same H H' := fun b o e => st b o (ne_of_none e np) (sm _ _ e)
      exact ⟨(by show 2 ≤ sizeLine; decide), fun t nt => hG hb t p dx _ (s2.trans (same_new nt)) upd_same (same_new nt _ _ hp)⟩
    · exact wCl_take (T.exm 2 2 rfl rfl) fun a na => ⟨(by show 2 ≤ sizeLine; decide), fun t nt => hB hb t _ (sm.trans (s'.trans (same_new nt))) upd_same⟩
theorem ok_tw (T : Tx K w mg) : Has P w K mg base CX0 68 "_law_text_word" ["thing"] spTW := by
  obtain ⟨fd, F⟩ := T.c.def_ 48 (d := d__law_text_word) rfl
  obtain ⟨fP, GP, bP, kP, gP⟩ := ok_ptext (P := P) (w := w) (base := base) T
  refine ⟨fd, F.ok scTW (fun vs H Q E h => ?_) (fun cdv A outer s H vs Q E hr h => ?_), FunD.bindsN F fun _ _ _ _ _ _ us hl => match us, hl with | [_], _ => rfl, F.kp, (T.glo 66 rfl)⟩
  · rcases h with ⟨q, b, rfl, _⟩ | ⟨v, rfl, _⟩ <;> rfl
  · refine ⟨_, PSs.nox (pss_one (ps_try_cl (tb := fun W => tRet (tIf (tB (tCB (rIsi K) (tCons (tCallS spPX (WE W) (tCons (tVar 0) tNil)) (tCons (tC (.ty "str")) tNil)))) (tC (.str (Str.ofString "told"))) (tC (.str (Str.ofString "none"))))) (Wout := fun _ _ _ _ => False) (l := [(.ref (He.ga K "NoProgram"), none, fun _ _ _ => clT "refused"), (.ref (He.ga K "TalkError"), none, fun _ _ _ => clT "else")]) rfl rfl scTW.nd L2.takes0
 (fun W pn xe tk _ => pss_one (ps_ret (pe_ifExp (pt_val (pe_callB call_isi (by rfl) (T.free 75 rfl) (by decide +kernel) (pa_cons (pe_callS GP (hr.mono (by decide)) rfl gP kP bP (fun σ => passAt tk σ) (pa_cons (pv 0) pa_nil)) (pa_cons (pe_bltn (v := .ty "str") (by rfl) (T.free 80 rfl) (by decide +kernel) rfl) pa_nil)))) pe_str pe_str)))
 (.plain (c := .ref (He.ga K "NoProgram")) (ts := fun _ _ _ => clT "refused") ⟨rfl, by decide, .inl (T.glo 9 rfl)⟩ (fun a oe cls d pn hz hf => (pss_one (ps_ret pe_str)))
 (.plain (c := .ref (He.ga K "TalkError")) (ts := fun _ _ _ => clT "else") ⟨rfl, by decide, .inl (T.glo 5 rfl)⟩ (fun a oe cls d pn hz hf => (pss_one (ps_ret pe_str)))
 .nil)))), ?_⟩
    rcases h with ⟨q, b, rfl, pg, ok, hQ⟩ | ⟨v, rfl, np, hQ⟩
    · exact ⟨_, rfl, .inl ⟨q, b, rfl, pg, ok, fun H' s => ⟨_, .ty "str", _, _, _, rfl, .ty "str", .base (.str _), by kernel_rfl, _, rfl, iteT (hQ _ s)⟩⟩⟩
    · exact ⟨_, rfl, .inr ⟨v, rfl, np, wCl_take (T.exm 3 3 rfl rfl) fun a na => hQ _ (Same.refl _)⟩⟩
end
end K07

set_option maxHeartbeats 1000000
namespace K07
open PySem PySem.Spec PyProof.Rows L2 V1 V2 V3 V6 V9 LamX
open V10 (progS)
open V10 (sortD PgOk)
open Evl (pss_cut tCut sq_of st_of)
theorem st_cnt1 (s : V6.St) : 1 ≤ s.cnt := by
  cases s <;> simp only [V6.St.cnt] <;> omega
theorem exF : ∀ (e : Ex) (n : Nat), e.deep ≤ n → flatD n e.d = true
  | e, 0, h => by cases e <;> simp only [Ex.deep] at h <;> omega
  | .text w, n + 1, h => by simp [Ex.d, flatD]
  | .name w, n + 1, h => by simp [Ex.d, flatD]
  | .many, n + 1, h => by simp [Ex.d, flatD]
  | .last, n + 1, h => by simp [Ex.d, flatD]
  | .join a b, n + 1, h => by
    simp only [Ex.deep] at h
    simp [Ex.d, flatD, exF a n (by omega), exF b n (by omega)]
  | .turn a, n + 1, h => by
    simp only [Ex.deep] at h
    simp [Ex.d, flatD, exF a n (by omega)]
  | .rest a, n + 1, h => by
    simp only [Ex.deep] at h
    simp [Ex.d, flatD, exF a n (by omega)]
  | .first a, n + 1, h => by
    simp only [Ex.deep] at h
    simp [Ex.d, flatD, exF a n (by omega)]
theorem cnF : ∀ (e : Cn) (n : Nat), e.deep ≤ n → flatD n e.d = true
  | e, 0, h => by cases e <;> simp only [Cn.deep] at h <;> omega
  | .same a b, n + 1, h => by
    simp only [Cn.deep] at h
    simp [Cn.d, flatD, exF a n (by omega), exF b n (by omega)]
  | .ahead a b, n + 1, h => by
    simp only [Cn.deep] at h
    simp [Cn.d, flatD, exF a n (by omega), exF b n (by omega)]
  | .inn a b, n + 1, h => by
    simp only [Cn.deep] at h
    simp [Cn.d, flatD, exF a n (by omega), exF b n (by omega)]
  | .not a, n + 1, h => by
    simp only [Cn.deep] at h
    simp [Cn.d, flatD, cnF a n (by omega)]
theorem bd_ds_len : ∀ b : V6.Bd, b.ds.length ≤ b.cnt
  | .nil => Nat.le_refl _
  | .cons s b => by
    have h1 := st_cnt1 s
    have h2 := bd_ds_len b
    simp only [Bd.ds, Bd.cnt, List.length_cons]
    omega
mutual
theorem stF : ∀ (s : V6.St) (n : Nat), 2 * s.deep ≤ n → s.cnt ≤ 900 → flatD n s.d = true
  | .say e, n, h, c => by
    simp only [V6.St.deep] at h
    obtain ⟨n, rfl⟩ : ∃ i, n = i + 1 := ⟨n - 1, by omega⟩
    simp [V6.St.d, flatD, exF e n (by omega)]
  | .let_ x e, n, h, c => by
    simp only [V6.St.deep] at h
    obtain ⟨n, rfl⟩ : ∃ i, n = i + 1 := ⟨n - 1, by omega⟩
    simp [V6.St.d, flatD, exF e n (by omega)]
  | .if_ t a b, n, h, c => by
    simp only [V6.St.deep] at h
    simp only [V6.St.cnt] at c
    obtain ⟨n, rfl⟩ : ∃ i, n = i + 1 + 1 := ⟨n - 2, by omega⟩
    have l1 := bd_ds_len a
    have l2 := bd_ds_len b
    have f1 := bdF a n (by omega) (by omega)
    have f2 := bdF b n (by omega) (by omega)
    have f3 := cnF t (n + 1) (by omega)
    simp only [V6.St.d, flatD, List.all_cons, List.all_nil, f1, f2, f3, Bool.and_true, Bool.true_and, List.length_cons, List.length_nil]
    simp only [decide_eq_true (show a.ds.length ≤ 900 by omega), decide_eq_true (show b.ds.length ≤ 900 by omega)]
    rfl
  | .each x b, n, h, c => by
    simp only [V6.St.deep] at h
    simp only [V6.St.cnt] at c
    obtain ⟨n, rfl⟩ : ∃ i, n = i + 1 + 1 := ⟨n - 2, by omega⟩
    have l2 := bd_ds_len b
    have f2 := bdF b n (by omega) (by omega)
    simp only [V6.St.d, flatD, List.all_cons, List.all_nil, f2, Bool.and_true, Bool.true_and, List.length_cons, List.length_nil]
    simp only [decide_eq_true (show b.ds.length ≤ 900 by omega)]
    rfl
theorem bdF : ∀ (b : V6.Bd) (n : Nat), 2 * b.deep ≤ n → b.cnt ≤ 900 → b.ds.all (flatD n) = true
  | .nil, n, h, c => by simp only [Bd.ds, List.all_nil]
  | .cons s b, n, h, c => by
    simp only [Bd.deep] at h
    simp only [Bd.cnt] at c
    simp only [Bd.ds, List.all_cons, stF s n (by omega) (by omega), bdF b n (by omega) (by omega), Bool.and_self]
end
theorem _root_.V10.PgOk.flat {b : V6.Bd} (h : PgOk b) : flatD 41 (.tuple b.ds) = true := by
  have h1 := h.dp
  have h2 := h.cn
  have l := bd_ds_len b
  have f := bdF b 40 (by omega) (by omega)
  simp only [flatD, f, Bool.and_true]
  exact decide_eq_true (by omega)
theorem _root_.V10.PgOk.plain {b : V6.Bd} (h : PgOk b) : V2.plain (.tuple b.ds) = true := st_plain (.tuple b.ds) (bdS b h.ok).1
/-- the tables of the defs that make lambdas, and what those are called -/
def tsK (K : PySem.W.Frag) : List (Addr × Str) := lamN.map fun x => ((V4.pairOf K (He.ga K x)).2, (x ++ ".<locals>.") ++ "<lambda>")
theorem ts_uniq {K : PySem.W.Frag} {w : World} {mg : Str → Option Value} (T : Tx K w mg) {x : Str} (hx : x ∈ lamN) : ∀ p ∈ tsK K, p.1 = (V4.pairOf K (He.ga K x)).2 → p.2 = (x ++ ".<locals>.") ++ "<lambda>" := by
  intro p hp e
  obtain ⟨y, hy, rfl⟩ := List.mem_map.mp hp
  have nd := T.nd
  have z : y = x := by
    simp only [lamN, List.mem_cons, List.not_mem_nil, or_false] at hx hy
    simp only [lamN, List.map_cons, List.map_nil, List.nodup_cons, List.mem_cons, List.not_mem_nil, or_false] at nd
    rcases hx with rfl | rfl <;> rcases hy with rfl | rfl
    · rfl
    · exact absurd e.symm nd.1
    · exact absurd e nd.1
    · rfl
  rw [z]
section
variable [CurK]
def spIJ : Sp := fun vs H Q _ => ∃ v d, vs = [v] ∧ Dx H v d ∧ TopK H v d ∧ Bo d 80 45000 ∧ Tabs (tsK K) H ∧ ∀ H', ExtN H H' → Tabs (tsK K) H' → Q (.bl true) H'
theorem PgAt.ext {H H' : Hp} {q : Addr} {b : V6.Bd} (e : ExtN H H') (h : PgAt H q b) : PgAt H' q b := by
  obtain ⟨dx, v, h1, h2⟩ := h
  exact ⟨dx, v, e _ _ h1 (fun ps y => nomatch y), V4.dx_ext e _ _ h2⟩
end
theorem endL_app : ∀ a b : List (List Nat), (endL (a ++ b)).length = (endL a).length + (endL b).length
  | [], b => by simp [endL]
  | l :: a, b => by
    rw [List.cons_append, endL, endL]
    simp only [List.length_append, List.length_cons, endL_app a b]
    omega
theorem stL_pos (s : V6.St) : 1 ≤ (endL (stL 0 s)).length := by
  cases s <;> simp only [stL, List.cons_append, endL, List.length_append, List.length_cons] <;> omega
theorem bdT_less (s : V6.St) (b : V6.Bd) : bdT (.cons s b) ≠ bdT b := fun z => by
  have h := congrArg List.length z
  unfold bdT at h
  rw [bdL, endL_app] at h
  have := stL_pos s
  omega
theorem _root_.V10.PgOk.rest {s : V6.St} {b : V6.Bd} (h : PgOk (.cons s b)) : PgOk b := by
  obtain ⟨h1, h2, h3, h4⟩ := h
  simp only [Bd.ok, Bool.and_eq_true] at h1
  simp only [Bd.deep] at h2
  simp only [Bd.lps] at h3
  simp only [Bd.cnt] at h4
  exact ⟨h1.2, by omega, by omega, by omega⟩
def sayLast : V6.Bd := .cons (.say .last) .nil
theorem last_ok : PgOk sayLast := ⟨by decide, by decide, by decide, by decide⟩
theorem last_ne : bdT .nil ≠ bdT sayLast := fun z => by
  have h := congrArg List.length z
  unfold sayLast bdT at h
  rw [bdL, bdL, endL_app] at h
  have := stL_pos (.say .last)
  simp only [endL, List.length_nil] at h
  omega
theorem scIJ : FnScope ["thing", "found", "other", "some"] ["thing"] (defScope s__law_is_judged) := ⟨rfl, rfl, rfl, by decide +kernel, rfl, by decide +kernel, by decide +kernel⟩
theorem nf_own {K : PySem.W.Frag} : PySem.W.notFirst K (He.ga K "Program") (.ref (He.ga K "Program")) = true := by simp [PySem.W.notFirst]
theorem nil_ok : PgOk .nil := ⟨rfl, by decide, by decide, by decide⟩
section
variable [CurK] {P : Program} {w : World} {mg : Str → Option Value} {base : Heap}
theorem mk_go {H : L2.Hp} {v : V} {b : V6.Bd} {R : VK} {E : XK} {p dx : Addr} (dv : Dx H v (.tuple b.ds)) (ok : PgOk b) (bo : Bo (.tuple b.ds) 80 45000) (np : H p = none) (nd : H dx = none) (ne : dx ≠ p) (k : ∀ H', Same H H' → PgAt H' p b → R .non H') : spPInit [V.ref p, v] (upd (upd H dx (.own p)) p (.ins (He.ga K "Program") dx [])) R E := by
  have dv2 : Dx (upd (upd H dx (.own p)) p (.ins (He.ga K "Program") dx [])) v (.tuple b.ds) := dv.sm fun c o e => by
    rw [upd_ne (ne_of_none e np), upd_ne (ne_of_none e nd)]
    exact e
  have hb : progB (.tuple b.ds) = true := (progB_is _).mpr ⟨b, ok, rfl⟩
  refine ⟨p, dx, v, _, rfl, upd_same, dv2, bo.sh, Nat.le_trans bo.sz (by decide), fun _ H3 k3 e3 => ?_, fun z => absurd (hb.symm.trans z) (by decide)⟩
  have s3 : Same H H3 := fun c o e => k3 c o (ne_of_none e np) (by
    rw [upd_ne (ne_of_none e np), upd_ne (ne_of_none e nd)]
    exact e)
  exact k H3 s3 ⟨dx, v, e3, dv.sm s3⟩
/-- a table of no pair is made -/
theorem tab_go {σ : L2.St} {H : L2.Hp} {Q : VK} (k : ∀ p H', Same H H' → TbV H' (.ref p) → Q (.ref p) H') : teTable σ H Q := by
  refine ⟨by show 0 ≤ sizeLine; decide, fun p1 n1 => ?_⟩
  have s1 := same_new (o := HO.tup []) n1
  have h1 : Dx (upd H p1 (HO.tup [])) (.ref p1) (.tuple []) := .tup upd_same .nil
  generalize upd H p1 (HO.tup []) = H1 at h1 s1
  refine tab_fin (Qa := fun p H' => Q (.ref p) H') h1 (.str (Str.ofString "")) (by decide +kernel) (by decide +kernel) (fun x hx => ?_) (fun _ ts o _ _ _ _ p H' sm np ta => ?_)
  · have z : partOf (.tuple []) (.str (Str.ofString "")) = none := by
      unfold partOf
      rw [if_pos (by decide +kernel)]
      simp only [show firstBad [] = none from rfl]
      rw [if_pos (by decide +kernel)]
    rw [z] at hx
    cases hx
  · obtain ⟨dx, b, q', us, kvs, hp, _⟩ := ta.ex
    exact k p H' (s1.trans sm) ⟨p, dx, _, rfl, hp⟩
/-- compared with what is no program, or another one -/
theorem eq_no {H : L2.Hp} {p : Addr} {b : V6.Bd} {x : V} {Q : VK} {E : XK} (pg : PgAt H p b) (h : NoPg H x) (k : Q (.bl false) H) : rOwnE K (He.ga K "Program") spPE E (.ref p) x H Q := by
  obtain ⟨dx, v, hp, dv⟩ := id pg
  obtain ⟨t, ty, kn, nf⟩ := id h
  exact ⟨p, dx, _, t, rfl, hp, ty, nf, .inr ⟨p, x, rfl, h, _, rfl, k⟩⟩
theorem eq_pg (T : Tx K w mg) {H : L2.Hp} {p q : Addr} {b c : V6.Bd} {Q : VK} {E : XK} (pg : PgAt H p b) (pc : PgAt H q c) (ob : PgOk b) (oc : PgOk c) (k : Q (.bl (decide (bdT b = bdT c))) H) : rOwnE K (He.ga K "Program") spPE E (.ref p) (.ref q) H Q := by
  have iC := (T.insK 0 (x := "Program") rfl).ins T.cPg T.exs.2.2.2
  obtain ⟨dx, v, hp, dv⟩ := id pg
  obtain ⟨dx', v', hp', dv'⟩ := id pc
  exact ⟨p, dx, _, _, rfl, hp, TyX_ins hp' iC, nf_own, .inl ⟨p, q, b, c, rfl, pg, pc, ob, oc, _, rfl, k⟩⟩
/-- what stands when the other statements are made -/
def MidO (v : V) (t : Addr) (b : V6.Bd) (H4 : L2.Hp) (σ : L2.St) (H' : L2.Hp) : Prop := ∃ u c, σ = [some v, some (.ref t), some u, none] ∧ Same H4 H' ∧ Dx H' u (.tuple c.ds) ∧ PgOk c ∧ bdT b ≠ bdT c ∧ Bo (.tuple c.ds) 80 45000
theorem ok_ij (T : Tx K w mg) (TB : TabB base mg (V4.pairOf K (He.ga K "_law_is_judged")).1 (V4.pairOf K (He.ga K "_law_is_judged")).2) : Has P w K mg base (L2.CX P w) 181 "_law_is_judged" ["thing"] spIJ := by
  obtain ⟨fd, F⟩ := T.c.def_ 49 (d := d__law_is_judged) rfl
  have Hm := ok_made (P := P) (w := w) (base := base) T
  have Hip := ok_lip (P := P) (w := w) (base := base) T (ok_bs (P := P) (w := w) (base := base) T 80 (ok_ss T 80))
  have Htw := ok_tw (P := P) (w := w) (base := base) T
  have His := ok_is (P := P) (w := w) (base := base) T 42
  have Hpi := ok_pinit (P := P) (w := w) (base := base) T
  have Htab := ok_tab (P := P) (w := w) (base := base) T
  have Hv := ok_vinit (P := P) (w := w) (base := base) T
  obtain ⟨fe, Fe, be⟩ := ok_peq (P := P) (w := w) (base := base) T
  have cS := T.cPg
  have n1 := T.nSt
  have iC := (T.insK 0 (x := "Program") rfl).ins cS T.exs.2.2.2
  have LD := T.lam "_law_is_judged" (by decide)
  have mem : ((V4.pairOf K (He.ga K "_law_is_judged")).2, (("_law_is_judged" : Str) ++ ".<locals>.") ++ "<lambda>") ∈ tsK K := List.mem_map.mpr ⟨"_law_is_judged", by decide, rfl⟩
  have uniq := ts_uniq T (x := "_law_is_judged") (by decide)
  refine ⟨fd, V4.okC F LD scIJ (fun vs H Q E h => ?_) (fun A outer s H vs Q E hr h => ?_), FunD.bindsN F fun _ _ _ _ _ _ us hl => match us, hl with | [_], _ => rfl, F.kp, (T.glo 67 rfl)⟩
  · obtain ⟨v, d, rfl, _⟩ := h
    rfl
  · refine ⟨_, PSs.nox (pss_cons (ps_set (i := 1) scIJ.nd rfl (Or.inr rfl) (pe_has Hm (hr.mono (by decide)) pass0 (pa_cons (pv 0) pa_nil)))
 (pss_cons (ps_if (pt_not (pt_val (pe_has Hip (hr.mono (by decide)) pass0 (pa_cons (pv 0) pa_nil))))
 (pss_one (ps_ret (pe_and (pe_cmpR op_eq (pe_ix ix_tup (pv 1) pe_int (fun _ _ => rfl)) pe_str (nomark _)) (pe_one (pe_cmpR op_eq (pe_has Htw (hr.mono (by decide)) pass0 (pa_cons (pv 0) pa_nil)) (pe_ix ix_list (pe_lstS (pa_cons pe_str (pa_cons pe_str pa_nil))) (pe_callTy call_int1 (by rfl) (T.free 74 rfl) (by decide +kernel) (pa_cons (pe_callB call_isi (by rfl) (T.free 75 rfl) (by decide +kernel) (pa_cons (pv 0) (pa_cons (pe_glob (v := .ref (He.ga K "Program")) (by rfl) (T.glo 27 rfl) rfl) pa_nil))) pa_nil)) (fun _ _ => rfl)) (nomark _))))))
 pss_nil)
 (pss_cons (ps_if (PW.pt (pw_or (pt_cmpR op_ne (pe_ix ix_tup (pv 1) pe_int (fun _ _ => rfl)) pe_str (nomark _)) (pw_or (pt_not (pt_val (pe_has His (hr.mono (by decide)) pass0 (pa_cons (L2.pe_fld (pe_ix ix_tup (pv 1) pe_int (fun _ _ => rfl)) (by rfl)) (pa_cons (pv 0) pa_nil))))) (pw_or1 (pt_cmpR op_ne (pe_has Htw (hr.mono (by decide)) pass0 (pa_cons (pe_ix ix_tup (pv 1) pe_int (fun _ _ => rfl)) pa_nil)) pe_str (nomark _))))))
 (pss_one (ps_ret pe_bl))
 pss_nil)
 (pss_cut (ps_set (i := 2) scIJ.nd rfl (Or.inl rfl) (pe_ifExp (pt_cmpR op_gt (pe_callB call_len (by rfl) (T.free 76 rfl) PySem.boot_len (pa_cons (pv 0) pa_nil)) pe_int (nomark _)) (pe_slice sl_tup (pv 0) (po_some pe_int) po_none) (pe_tup (pa_cons (pe_tup (pa_cons pe_str (pa_cons (pe_tup (pa_cons pe_str pa_nil)) pa_nil))) pa_nil))))
 (pss_cons (ps_set (i := 3) scIJ.nd rfl (Or.inl rfl) (pe_lstS (pa_cons (pv 0) (pa_cons (pe_callTy call_list_low (by rfl) (T.free 77 rfl) (by decide +kernel) (pa_cons (pv 0) pa_nil)) (pa_cons (pe_hasC Htab (hr.mono (by decide)) passF (pa_cons (pe_tup pa_nil) (pa_cons pe_str pa_nil))) (pa_cons (pe_hasC Hv (hr.mono (by decide)) pass0 (pa_cons (V4.pe_lamV (ts := tsK K) TB rfl mem uniq (by show ∀ y ∈ (_ : List (Str × NameKind)), y.2 = .free → (defScope s__law_is_judged).names.lookup y.1 = some .cell ∨ (defScope s__law_is_judged).names.lookup y.1 = some .free; decide +kernel)) pa_nil)) (pa_cons pe_non (pa_cons (pe_hasC Hpi (hr.mono (by decide)) passF (pa_cons (pv 2) pa_nil)) pa_nil))))))))
 (pss_one (ps_ret (pe_and (pe_cmpR (op_ownE Fe (He.meth_ok (T.c.fact 93 (f := .meth "Program" "__eq__") rfl)).at_ (He.meth_ok (T.c.fact 93 (f := .meth "Program" "__eq__") rfl)).fn be pass0 (hr.mono (by decide))) (pe_ix ix_tup (pv 1) pe_int (fun _ _ => rfl)) (pe_hasC Hpi (hr.mono (by decide)) passF (pa_cons (pv 0) pa_nil)) (nomark _)) (pe_one (pe_not (pe_callB (cr_any rfl) (by rfl) (T.free 71 rfl) (by decide +kernel) (pa_cons (pe_lc (own := [("other", 2)]) (g := gName 2) (tt := tYes) (te := tOp (rOwnE K (He.ga K "Program") spPE (fun _ _ _ => False)) (tOp (rIxT K) (tVar 1) (tC (.int 1))) (tVar 2)) (by rfl) scIJ.nd (pi_list (pv 3))
 (blkOk_by (own := [("other", 2)]) (N := ["thing", "found", "other", "some"]) (sc := defScope s__law_is_judged) (by decide +kernel)) (fun _ _ _ _ _ => pg_name (i := 2) scIJ.nd rfl (Or.inl rfl)) (fun _ _ _ _ _ => pts_nil) (fun _ _ _ _ _ => (pe_cmpR (op_ownE Fe (He.meth_ok (T.c.fact 93 (f := .meth "Program" "__eq__") rfl)).at_ (He.meth_ok (T.c.fact 93 (f := .meth "Program" "__eq__") rfl)).fn be pass0 (hr.mono (by decide))) (pe_ix ix_tup (pv 1) pe_int (fun _ _ => rfl)) (pv 2) (nomark _)))) pa_nil)))))))))))), ?_⟩
    obtain ⟨v, d, rfl, hd, tk, bo, ht, hQ⟩ := h
    refine ⟨_, rfl, v, d, rfl, hd, bo.sh, Nat.le_trans bo.sz (by decide), fun hb t p dx H1 s1 et ep => ?_, fun hb t H1 s1 et => ?_⟩
    · refine ⟨_, rfl, v, d, rfl, hd.sm s1, bo.sh, bo.dp, fun H2 s2 => ?_⟩
      have ps : progS d = true := (V10.progS_is d).mpr ((progB_is d).mp hb)
      rw [ps]
      obtain ⟨b, ok, rfl⟩ := (progB_is d).mp hb
      have s12 := s1.trans s2
      have et2 := s2 _ _ et
      have ep2 := s2 _ _ ep
      have hd2 := hd.sm s12
      have dq2 := dq_of _ _ ok.plain hd2
      have pg2 : PgAt H2 p b := ⟨dx, v, ep2, hd2⟩
      refine ⟨_, rfl, iteF ?_⟩
      refine ⟨_, rfl, t, _, 0, _, rfl, rfl, st_of et2, at0, rfl, _, rfl, ?_⟩
      rw [show (!decide ((V.str (Str.ofString "made") : V) = V.str (Str.ofString "made"))) = false by rw [decide_eq_true rfl]; rfl]
      refine iteF ⟨_, rfl, t, _, 1, _, rfl, rfl, st_of et2, at1, p, _, dx, _, v, rfl, ep2, cS, n1, rfl, _, rfl, _, _, _, rfl, dq2, dq2, ok.flat, fun H3 s3 => ⟨_, rfl, iteF ?_⟩⟩
      refine ⟨_, rfl, t, _, 1, _, rfl, rfl, st_of (s3 _ _ et2), at1, .inl ⟨p, b, rfl, pg2.same s3, ok, fun H4 s4 => ⟨rfl, _, rfl, ?_⟩⟩⟩
      rw [show (!decide ((V.str (Str.ofString "told") : V) = V.str (Str.ofString "told"))) = false by rw [decide_eq_true rfl]; rfl]
      refine iteF ?_
      have s34 := s3.trans s4
      have s14 := s12.trans s34
      have et4 := s34 _ _ et2
      have pg4 := pg2.same s34
      have hd4 := hd2.sm s34
      have ht4 := V4.tabs_same ht s14
      clear et2 ep2 hd2 dq2 pg2 s3 s4 s34 s12 s1 s2 et ep
      obtain ⟨a, us, rfl, ha, ra⟩ := Dx.tup_inv hd4
      have lu := dxAll_len ra
      refine ⟨MidO (.ref a) t b H4, ?_, ?_⟩
      · refine ⟨_, rfl, _, _, rfl, .inr ⟨us, st_of ha, rfl⟩, _, _, rfl, rfl, _, rfl, ?_⟩
        cases b with
        | nil =>
          rw [Bd.ds] at lu
          rw [show decide ((0 : Int) < ((us.length : Nat) : Int)) = false from decide_eq_false (by rw [lu]; decide)]
          refine iteF ⟨(by show 1 ≤ sizeLine; decide), fun t1 m1 => ⟨(by show 2 ≤ sizeLine; decide), fun t2 m2 => ⟨(by show 1 ≤ sizeLine; decide), fun t3 m3 => ?_⟩⟩⟩
          have q1 := same_new (o := HO.tup [.str (Str.ofString "last")]) m1
          have d1 : Dx (upd H4 t1 (HO.tup [.str (Str.ofString "last")])) (.ref t1) (.tuple [.str (Str.ofString "last")]) := .tup upd_same (.cons (.str _) .nil)
          generalize upd H4 t1 (HO.tup [.str (Str.ofString "last")]) = G1 at q1 d1 m2 m3 ⊢
          have q2 := same_new (o := HO.tup [.str (Str.ofString "say"), .ref t1]) m2
          have d2 : Dx (upd G1 t2 (HO.tup [.str (Str.ofString "say"), .ref t1])) (.ref t2) (.tuple [.str (Str.ofString "say"), .tuple [.str (Str.ofString "last")]]) := .tup upd_same (.cons (.str _) (.cons (d1.sm q2) .nil))
          generalize upd G1 t2 (HO.tup [.str (Str.ofString "say"), .ref t1]) = G2 at q2 d2 m3 ⊢
          have q3 := same_new (o := HO.tup [.ref t2]) m3
          have d3 : Dx (upd G2 t3 (HO.tup [.ref t2])) (.ref t3) (.tuple [.tuple [.str (Str.ofString "say"), .tuple [.str (Str.ofString "last")]]]) := .tup upd_same (.cons (d2.sm q3) .nil)
          exact ⟨.ref t3, sayLast, rfl, q1.trans (q2.trans q3), d3, last_ok, last_ne, (Bo.of (d := .tuple [.tuple [.str (Str.ofString "say"), .tuple [.str (Str.ofString "last")]]]) (n := 80) (m := 45000) (by decide +kernel))⟩
        | cons s1 b1 =>
          rw [Bd.ds] at lu ra bo
          rw [show decide ((0 : Int) < ((us.length : Nat) : Int)) = true from decide_eq_true (by rw [lu, List.length_cons]; omega)]
          cases ra with | @cons v1 us _ _ q1 r1 =>
          refine iteT ⟨_, rfl, _, rfl, a, _, rfl, st_of ha, cut1_ne, fun p0 np0 => ?_⟩
          rw [cut1]
          have s0 := same_new (o := HO.tup us) np0
          obtain ⟨k', m', ek, em, bl⟩ := bo.parts
          obtain ⟨m1, m2, e12, _, b2⟩ := (show BoL ([s1.d] ++ b1.ds) k' m' from bl).split
          exact ⟨.ref p0, b1, rfl, s0, .tup upd_same (DxAll.same s0 _ _ r1), ok.rest, bdT_less s1 b1, b2.tup.mono (by omega) (by omega)⟩
      rintro σ H5 ⟨u, c, rfl, s5, du, oc, ne, bc⟩
      have ha5 := s5 _ _ ha
      refine ⟨_, rfl, _, rfl, a, us, rfl, .inr (st_of ha5), fun l nl low => ?_⟩
      have s6 := same_new (o := HO.lst us) nl
      have dl : Dx (upd H5 l (HO.lst us)) (.ref l) (.list b.ds) := .lst upd_same low (DxAll.same (s5.trans s6) _ _ ra)
      generalize upd H5 l (HO.lst us) = H6 at s6 dl ⊢
      refine ⟨(by show 0 ≤ sizeLine; decide), fun p1 np1 => ?_⟩
      have s7 := same_new (o := HO.tup []) np1
      have h7 : Dx (upd H6 p1 (HO.tup [])) (.ref p1) (.tuple []) := .tup upd_same .nil
      generalize upd H6 p1 (HO.tup []) = H7 at h7 s7 ⊢
      refine tab_fin h7 (.str (Str.ofString "")) (by decide +kernel) (by decide +kernel) (fun x hx => ?_) (fun _ ts o _ _ _ _ p5 H8 s8 np8 ta => ?_)
      · have z : partOf (.tuple []) (.str (Str.ofString "")) = none := by
          unfold partOf
          rw [if_pos (by decide +kernel)]
          simp only [show firstBad [] = none from rfl]
          rw [if_pos (by decide +kernel)]
        rw [z] at hx
        cases hx
      obtain ⟨dxt, _, _, _, _, et8, _⟩ := ta.ex
      have s48 := s5.trans (s6.trans (s7.trans s8))
      refine ⟨V4.tabs_same ht4 s48, fun H9 f eN t9 nf => ?_⟩
      intro p2 dx2 np2 nd2 ne2
      have sm2 : Same H9 (upd (upd H9 dx2 (.own p2)) p2 (.ins (He.ga K "Voice") dx2 [])) := fun b o e => by
        rw [upd_ne (ne_of_none e np2), upd_ne (ne_of_none e nd2)]
        exact e
      refine ⟨p2, dx2, .ref f, rfl, upd_same, fun H10 st10 e10 => ⟨rfl, ?_⟩⟩
      have s10 : Same H9 H10 := fun b o e => st10 b o (ne_of_none e np2) (sm2 _ _ e)
      have x410 : ExtN H4 H10 := ((V4.ext_of s48).trans eN).trans (V4.ext_of s10)
      have x510 : ExtN H5 H10 := ((V4.ext_of (s6.trans (s7.trans s8))).trans eN).trans (V4.ext_of s10)
      have x610 : ExtN H6 H10 := ((V4.ext_of (s7.trans s8)).trans eN).trans (V4.ext_of s10)
      have x810 : ExtN H8 H10 := eN.trans (V4.ext_of s10)
      have et10 := x810 _ _ et8 (fun ps y => nomatch y)
      have tabs10 := V4.tabs_same t9 s10
      refine ⟨_, rfl, ?_⟩
      intro p3 dx3 np3 nd3 ne3
      refine mk_go (V4.dx_ext x510 _ _ du) oc bc np3 nd3 ne3 fun H11 s11 pg3 => ⟨rfl, ?_⟩
      refine ⟨(by show 6 ≤ sizeLine; decide), fun L nL _ => ?_⟩
      have s12 := same_new (o := HO.lst [.ref a, .ref l, .ref p5, .ref p2, .non, .ref p3]) nL
      have eL : upd H11 L (HO.lst [.ref a, .ref l, .ref p5, .ref p2, .non, .ref p3]) L = some (.lst [.ref a, .ref l, .ref p5, .ref p2, .non, .ref p3]) := upd_same
      generalize upd H11 L (HO.lst [.ref a, .ref l, .ref p5, .ref p2, .non, .ref p3]) = H12 at s12 eL ⊢
      have s1012 := s11.trans s12
      have x12 := x410.trans (V4.ext_of s1012)
      have et12 := x12 _ _ et4 (fun ps y => nomatch y)
      have pg12 := pg4.ext x12
      have dv12 := V4.dx_ext x12 _ _ hd4
      have dl12 := (V4.dx_ext x610 _ _ dl).sm s1012
      have pt12 : ∀ H', Same H12 H' → NoPg H' (.ref p5) := fun H' s => nopg_tab T ⟨p5, dxt, _, rfl, s _ _ (s1012 _ _ et10)⟩
      have pv12 : ∀ H', Same H12 H' → NoPg H' (.ref p2) := fun H' s => nopg_voice T (s _ _ (s1012 _ _ e10))
      have pg3' := pg3.same s12
      have tabs12 := V4.tabs_same tabs10 s1012
      have xA : ExtN H H12 := (V4.ext_of s14).trans x12
      clear x12 x410 x510 x610 x810 et10 et8 s1012 s11 s12 s10 sm2 st10 t9 eN nf s48 s5 s6 s7 s8 e10 tabs10 nL np3 nd3 ne3 np2 nd2 ne2 nl np1 np8
      refine ⟨_, rfl, t, _, 1, _, rfl, rfl, st_of et12, at1, _, rfl, ?_⟩
      intro p4 dx4 np4 nd4 ne4
      refine mk_go dv12 ok bo np4 nd4 ne4 fun H13 s13 pg13 => ⟨rfl, ?_⟩
      refine eq_pg T (pg12.same s13) pg13 ok ok ⟨_, rfl, ?_⟩
      rw [show decide (bdT b = bdT b) = true from decide_eq_true rfl]
      have et13 := s13 _ _ et12
      have eL13 := s13 _ _ eL
      refine iteT ⟨_, rfl, L, rfl, ⟨_, sq_of eL13⟩, fun D nD => ?_⟩
      have items : ∀ x ∈ [V.ref a, V.ref l, V.ref p5, V.ref p2, V.non, V.ref p3], (∀ H', Same H13 H' → NoPg H' x) ∨ x = .ref p3 := fun x hx => by
        simp only [List.mem_cons, List.not_mem_nil, or_false] at hx
        rcases hx with rfl | rfl | rfl | rfl | rfl | rfl
        · exact .inl fun H' s => nopg_of T (dv12.sm (s13.trans s)) (by intro z; cases z)
        · exact .inl fun H' s => nopg_of T (dl12.sm (s13.trans s)) (by intro z; cases z)
        · exact .inl fun H' s => pt12 H' (s13.trans s)
        · exact .inl fun H' s => pv12 H' (s13.trans s)
        · exact .inl fun H' s => nopg_of T .non (by intro z; cases z)
        · exact .inr rfl
      have pgF := pg12.same s13
      have pcF := pg3'.same s13
      refine lc_gen (σ := [some (.ref a), some (.ref t), some u, some (.ref L)]) (vs := [2]) (walk_list (K := K) (a := L) (xs := [V.ref a, V.ref l, V.ref p5, V.ref p2, V.non, V.ref p3])) nD (fun i acc H' => Same H13 H' ∧ acc = (List.replicate i false).map V.bl) ⟨Same.refl H13, rfl⟩ (fun i acc H' _ z => sq_of (same_delH _ _ (z.1 _ _ eL13))) ?_ ?_
      · rintro i acc x H14 H15 hi le e14 ⟨sm, rfl⟩ ⟨rfl, hx⟩
        have sm' := sm.trans same_delH
        refine ⟨rfl, ?_⟩
        simp only [tYes, if_true]
        refine ⟨_, rfl, t, _, 1, _, rfl, rfl, st_of (sm' _ _ et13), at1, _, rfl, ?_⟩
        have fin : ∃ acc', H15 D = some (.lst acc') ∧ acc'.length < sizeLine ∧ Lc D (fun i acc H' => Same H13 H' ∧ acc = (List.replicate i false).map V.bl) (i + 1) (upd H15 D (.lst (acc' ++ [V.bl false]))) := lc_put le (by have : i < 6 := hi; omega) e14 ⟨sm, by rw [List.replicate_succ', List.map_append]; rfl⟩
        rcases items x (List.mem_of_getElem? hx) with np | rfl
        · exact eq_no (pgF.same sm') (np _ sm') fin
        · refine eq_pg T (pgF.same sm') (pcF.same sm') ok oc ?_
          rw [decide_eq_false ne]
          exact fin
      · rintro acc H14 le e14 ⟨sm, rfl⟩
        have sm' : Same H13 H14 := sm.trans same_delH
        refine ⟨D, List.replicate 6 false, rfl, sq_of e14, _, rfl, ?_⟩
        exact hQ _ (xA.trans (V4.ext_of (s13.trans sm'))) (V4.tabs_same tabs12 (s13.trans sm'))
    · refine ⟨_, rfl, v, d, rfl, hd.sm s1, bo.sh, bo.dp, fun H2 s2 => ?_⟩
      have s12 := s1.trans s2
      have ps : progS d = false := by
        cases e : progS d with
        | false => rfl
        | true => rw [(progB_is d).mpr ((V10.progS_is d).mp e)] at hb; cases hb
      rw [ps]
      refine ⟨_, rfl, iteT ?_⟩
      refine ⟨_, rfl, t, _, 0, _, rfl, rfl, st_of (s2 _ _ et), at0, rfl, _, rfl, ?_⟩
      rw [show decide ((V.str (Str.ofString "bad") : V) = V.str (Str.ofString "bad")) = true from decide_eq_true rfl]
      have key : (∀ H', Same H2 H' → NoPg H' v) ∨ ∃ q, v = .ref q ∧ PgAt H2 q .nil := by
        by_cases e : d = objD
        · rcases tk e with tb | ⟨q, rfl, pg⟩
          · exact .inl fun H' s => nopg_tab T (by obtain ⟨q, dx, fs, rfl, e⟩ := tb; exact ⟨q, dx, fs, rfl, s _ _ (s12 _ _ e)⟩)
          · exact .inr ⟨q, rfl, pg.same s12⟩
        · exact .inl fun H' s => nopg_of T (hd.sm (s12.trans s)) e
      rcases key with np | ⟨q, rfl, pg⟩
      · refine iteT ⟨_, rfl, .inr ⟨v, rfl, np _ (Same.refl _), fun H3 s3 => ⟨(by show 2 ≤ sizeLine; decide), fun L nL _ => ?_⟩⟩⟩
        have s4 := same_new (o := HO.lst [.str (Str.ofString "refused"), .str (Str.ofString "told")]) nL
        obtain ⟨ty, h1, h2, h3⟩ := np _ (s3.trans s4)
        refine ⟨_, rfl, v, .ref _, _, _, false, rfl, .own _, h1, h2, .inr ⟨false, rfl, L, _, 0, _, rfl, rfl, sq_of upd_same, at0, rfl, ?_⟩⟩
        have sA := s12.trans (s3.trans s4)
        exact hQ _ (V4.ext_of sA) (V4.tabs_same ht sA)
      · refine iteT ⟨_, rfl, .inl ⟨q, .nil, rfl, pg, nil_ok, fun H3 s3 => ⟨(by show 2 ≤ sizeLine; decide), fun L nL _ => ?_⟩⟩⟩
        have s4 := same_new (o := HO.lst [.str (Str.ofString "refused"), .str (Str.ofString "told")]) nL
        obtain ⟨dp, vp, eq, dvp⟩ := pg
        refine ⟨_, rfl, .ref q, .ref _, _, _, true, rfl, .own _, TyX_ins (s4 _ _ (s3 _ _ eq)) iC, iC.me, .inr ⟨true, rfl, L, _, 1, _, rfl, rfl, sq_of upd_same, at1, rfl, ?_⟩⟩
        have sA := s12.trans (s3.trans s4)
        exact hQ _ (V4.ext_of sA) (V4.tabs_same ht sA)
end
end K07

set_option maxHeartbeats 1000000
namespace K07
open PySem PySem.Spec PyProof.Rows L2 V1 V2 V3 V6 V9 LamX
open V10 (sortD PgOk)
open Evl (pss_cut tCut sq_of st_of)
abbrev lawSl : List Str := ["script", "hand", "pool", "statements", "k", "deep", "thing"]
theorem scLaw : FnScope lawSl ["script"] (defScope s_law) := ⟨rfl, rfl, rfl, by decide +kernel, rfl, by decide +kernel, by decide +kernel⟩
def spLaw (K : PySem.W.Frag) : Sp := fun vs H Q _ => ∃ (a : Addr) (ns : List Int), vs = [.ref a] ∧ SqL K H a (ns.map V.int) ∧ ns.length ≤ 63 ∧ Tabs (tsK K) H ∧ ∀ H', Q (.bl true) H'
/-- the hand stays, what is beside it is kept -/
structure Gx (a : Addr) (H H' : L2.Hp) : Prop where
  hd : HandAt H' a
  ce : cellsOf H' a = cellsOf H a
  sm : ExtN (delH H a) (delH H' a)
theorem Gx.of {a : Addr} {H H' : L2.Hp} (g : Go a H H') : Gx a H H' := ⟨g.hd, g.ce, V4.ext_of g.sm⟩
theorem Gx.trans {a : Addr} {H H1 H2 : L2.Hp} (g : Gx a H H1) (g' : Gx a H1 H2) : Gx a H H2 := ⟨g'.hd, g'.ce.trans g.ce, g.sm.trans g'.sm⟩
theorem Gx.ext {a : Addr} {H H' : L2.Hp} (hd : HandAt H a) (e : ExtN H H') : Gx a H H' := by
  obtain ⟨c, cs, i1, i2, i3, i4, h1, h2, h3⟩ := hd.ex
  have h1' := V4.ext_lst e h1
  exact ⟨⟨c, cs, i1, i2, i3, i4, h1', V4.ext_lst (V4.ext_del e) h2, h3⟩, (cellsOf_at h1').trans (cellsOf_at h1).symm, V4.ext_del e⟩
theorem gx_lst {a D : Addr} {H H' : L2.Hp} {xs : List V} (g : Gx a H H') (ne : D ≠ a) (e : H D = some (.lst xs)) : H' D = some (.lst xs) := by
  have z := V4.ext_lst g.sm (by rw [delH_ne ne]; exact e)
  rw [delH_ne ne] at z
  exact z
section
variable {K : PySem.W.Frag} {H H' : L2.Hp} {a : Addr}
theorem tabs_go (t : Tabs (tsK K) H) (hd : HandAt H a) (s : Same (delH H a) (delH H' a)) : Tabs (tsK K) H' := by
  obtain ⟨c, cs, i1, i2, i3, i4, h1, _⟩ := hd.ex
  intro p hp
  obtain ⟨ps, e1, e2, e3⟩ := t p hp
  have na : ∀ (b : Addr) (o : HO), H b = some o → (∀ xs, o ≠ .lst xs) → b ≠ a := fun b o e n z => by
    rw [z, h1] at e
    exact n _ (Option.some.inj e).symm
  have up : ∀ (b : Addr) (o : HO), H b = some o → (∀ xs, o ≠ .lst xs) → H' b = some o := fun b o e n => by
    have z := s b o (by rw [delH_ne (na b o e n)]; exact e)
    exact same_delH _ _ z
  refine ⟨ps, up _ _ e1 (fun xs z => nomatch z), e2, fun pos cv hc => ?_⟩
  obtain ⟨c', r1, r2⟩ := e3 pos cv hc
  exact ⟨c', r1, up _ _ r2 (fun xs z => by unfold CodeO at z; cases z)⟩
theorem go_off {a D c : Addr} {H H' : L2.Hp} (g : Go a H H') (hc : cellsOf H' a = some (.ref c)) (cD : c ≠ D) (Da : D ≠ a) : Go a (delH H D) (delH H' D) := ⟨g.hd.off hc cD Da, (cells_del Da).trans (g.ce.trans (cells_del Da).symm), by
  rw [del_comm (a := D) (f := a), del_comm (a := D) (f := a)]
  exact same_del g.sm⟩
end
theorem nx_len {x : Str} (h : nameX x = true) : x.length ≤ 8 := by
  have z := V9.name_len h
  simpa [V9.cs, Str.length] using z
section
variable [CurK]
theorem exBo : ∀ e : Ex, e.ok = true → Bo e.d e.deep (4 * e.cnt)
  | .text w, ok => by
    have z : wordX w = true := ok
    have l := wx_len z
    exact (BoL.cons (st_bo (x := Str.ofString "text") (by decide)) (.cons (bo_str (x := w) (n := 0) (by omega)) .nil)).tup.mono (Nat.le_refl _) (by show 3 ≤ 4; decide)
  | .name w, ok => by
    have z : nameX w = true := ok
    have l := nx_len z
    exact (BoL.cons (st_bo (x := Str.ofString "name") (by decide)) (.cons (bo_str (x := w) (n := 0) (by omega)) .nil)).tup.mono (Nat.le_refl _) (by show 3 ≤ 4; decide)
  | .many, ok => (Bo.of (n := 1) (m := 2) (by decide +kernel)).mono (Nat.le_refl _) (by decide)
  | .last, ok => (Bo.of (n := 1) (m := 2) (by decide +kernel)).mono (Nat.le_refl _) (by decide)
  | .join x y, ok => by
    simp only [Ex.ok, Bool.and_eq_true] at ok
    have h1 := exBo x ok.1
    have h2 := exBo y ok.2
    exact (BoL.cons (st_bo (n := max x.deep y.deep) (by decide)) (.cons (h1.mono (by omega) (Nat.le_refl _)) (.cons (h2.mono (by omega) (Nat.le_refl _)) .nil))).tup.mono (by simp only [Ex.deep]; omega) (by simp only [Ex.cnt]; omega)
  | .turn x, ok => (BoL.cons (st_bo (by decide)) (.cons (exBo x ok) .nil)).tup.mono (by simp only [Ex.deep]; omega) (by simp only [Ex.cnt]; omega)
  | .rest x, ok => (BoL.cons (st_bo (by decide)) (.cons (exBo x ok) .nil)).tup.mono (by simp only [Ex.deep]; omega) (by simp only [Ex.cnt]; omega)
  | .first x, ok => (BoL.cons (st_bo (by decide)) (.cons (exBo x ok) .nil)).tup.mono (by simp only [Ex.deep]; omega) (by simp only [Ex.cnt]; omega)
theorem cnBo : ∀ e : Cn, e.ok = true → Bo e.d e.deep (4 * e.cnt)
  | .same x y, ok => by
    simp only [Cn.ok, Bool.and_eq_true] at ok
    exact (BoL.cons (st_bo (n := max x.deep y.deep) (by decide)) (.cons ((exBo x ok.1).mono (by omega) (Nat.le_refl _)) (.cons ((exBo y ok.2).mono (by omega) (Nat.le_refl _)) .nil))).tup.mono (by simp only [Cn.deep]; omega) (by simp only [Cn.cnt]; omega)
  | .ahead x y, ok => by
    simp only [Cn.ok, Bool.and_eq_true] at ok
    exact (BoL.cons (st_bo (n := max x.deep y.deep) (by decide)) (.cons ((exBo x ok.1).mono (by omega) (Nat.le_refl _)) (.cons ((exBo y ok.2).mono (by omega) (Nat.le_refl _)) .nil))).tup.mono (by simp only [Cn.deep]; omega) (by simp only [Cn.cnt]; omega)
  | .inn x y, ok => by
    simp only [Cn.ok, Bool.and_eq_true] at ok
    exact (BoL.cons (st_bo (n := max x.deep y.deep) (by decide)) (.cons ((exBo x ok.1).mono (by omega) (Nat.le_refl _)) (.cons ((exBo y ok.2).mono (by omega) (Nat.le_refl _)) .nil))).tup.mono (by simp only [Cn.deep]; omega) (by simp only [Cn.cnt]; omega)
  | .not x, ok => (BoL.cons (st_bo (by decide)) (.cons (cnBo x ok) .nil)).tup.mono (by simp only [Cn.deep]; omega) (by simp only [Cn.cnt]; omega)
mutual
theorem stBo : ∀ s : V6.St, s.ok = true → Bo s.d (2 * s.deep) (4 * s.cnt)
  | .say e, ok => (BoL.cons (st_bo (by decide)) (.cons (exBo e ok) .nil)).tup.mono (by simp only [V6.St.deep]; omega) (by simp only [V6.St.cnt]; omega)
  | .let_ x e, ok => by
    simp only [V6.St.ok, Bool.and_eq_true] at ok
    have l := nx_len ok.1
    exact (BoL.cons (st_bo (by decide)) (.cons (bo_str (by omega)) (.cons (exBo e ok.2) .nil))).tup.mono (by simp only [V6.St.deep]; omega) (by simp only [V6.St.cnt]; omega)
  | .if_ c x y, ok => by
    simp only [V6.St.ok, Bool.and_eq_true] at ok
    have h1 := (bdBo x ok.2.1).tup
    have h2 := (bdBo y ok.2.2).tup
    have h3 := cnBo c ok.1
    exact (BoL.cons (st_bo (n := 2 * max c.deep (max x.deep y.deep) + 1) (by decide)) (.cons (h3.mono (by omega) (Nat.le_refl _)) (.cons (h1.mono (by omega) (Nat.le_refl _)) (.cons (h2.mono (by omega) (Nat.le_refl _)) .nil)))).tup.mono (by simp only [V6.St.deep]; omega) (by simp only [V6.St.cnt]; omega)
  | .each x y, ok => by
    simp only [V6.St.ok, Bool.and_eq_true] at ok
    have l := nx_len ok.1
    exact (BoL.cons (st_bo (by decide)) (.cons (bo_str (by omega)) (.cons (bdBo y ok.2).tup .nil))).tup.mono (by simp only [V6.St.deep]; omega) (by simp only [V6.St.cnt]; omega)
theorem bdBo : ∀ b : V6.Bd, b.ok = true → BoL b.ds (2 * b.deep) (4 * b.cnt)
  | .nil, _ => by
    rw [Bd.ds]
    exact BoL.nil.mono (Nat.le_refl _) (Nat.zero_le _)
  | .cons s b, ok => by
    simp only [Bd.ok, Bool.and_eq_true] at ok
    rw [Bd.ds]
    exact (BoL.cons ((stBo s ok.1).mono (by simp only [Bd.deep]; omega) (Nat.le_refl _)) ((bdBo b ok.2).mono (by simp only [Bd.deep]; omega) (Nat.le_refl _))).mono (Nat.le_refl _) (by simp only [Bd.cnt]; omega)
end
end
section
variable [CurK] {P : Program} {w : World} {mg : Str → Option Value}
theorem TopK.ext {H H' : L2.Hp} {v : V} {d : PyData} (s : ExtN H H') (h : TopK H v d) : TopK H' v d := fun e => by
  rcases h e with ⟨q, dx, fs, rfl, e⟩ | ⟨q, rfl, e⟩
  · exact .inl ⟨q, dx, fs, rfl, s _ _ e (fun ps y => nomatch y)⟩
  · exact .inr ⟨q, rfl, e.ext s⟩
theorem ok_law (T : Tx K w mg) : ∃ fd, (∀ base : Heap, (∀ x ∈ lamN, TabB base mg (V4.pairOf K (He.ga K x)).1 (V4.pairOf K (He.ga K x)).2) → LawOk P w K mg base (He.ga K "law") fd "script" (spLaw K)) ∧ ∀ (s : Shared) (u : Value), BindsTo s fd ⟨[u], []⟩ [("script", u)] := by
  obtain ⟨fd, F⟩ := T.c.def_ 50 (d := d_law) rfl
  have bind := FunD.bindsA (ps := ["script"]) F fun _ _ _ _ _ _ us hl => match us, hl with | [_], _ => rfl
  refine ⟨fd, fun base TBs => ?_, fun s u => bind s [u] rfl⟩
  have TB := TBs "law" (by decide)
  have Hh := ok_hand (P := P) (w := w) (base := base) T
  have Hd := ok_draw (P := P) (w := w) (base := base) T
  have Hw := ok_lword (P := P) (w := w) (base := base) T
  have Hpr := ok_prl (P := P) (w := w) (base := base) T
  have Hij := ok_ij (P := P) (w := w) (base := base) T (TBs "_law_is_judged" (by decide))
  have Hdp := ok_deep (P := P) (w := w) (base := base) T
  have Hne := ok_near (P := P) (w := w) (base := base) T
  have Hod := ok_odd (P := P) (w := w) (base := base) T
  have Hlg := ok_lg (P := P) (w := w) (base := base) T
  have Hin := ok_inn (P := P) (w := w) (base := base) T
  have Hs20 := ok_spo (P := P) (w := w) (base := base) T 20
  have Hs24 := ok_spo (P := P) (w := w) (base := base) T 24
  have Htw := ok_tw (P := P) (w := w) (base := base) T
  have Hv := ok_vinit (P := P) (w := w) (base := base) T
  have LD := T.lam "law" (by decide)
  have mem : ((V4.pairOf K (He.ga K "law")).2, (("law" : Str) ++ ".<locals>.") ++ "<lambda>") ∈ tsK K := List.mem_map.mpr ⟨"law", by decide, rfl⟩
  have uniq := ts_uniq T (x := "law") (by decide)
  refine V4.lawOkC (k := 200) F LD scLaw ⟨rfl, by decide, by decide⟩ fun s H v0 Q hr gd h => ?_
  refine ⟨_, PSs.nox (pss_cons (ps_set (i := 1) scLaw.nd rfl (Or.inr rfl) (pe_has Hh (hr.mono (by decide)) pass0 (pa_cons (pv 0) pa_nil)))
 (pss_cons (ps_set (i := 2) scLaw.nd rfl (Or.inl rfl) (pe_op op_cat (pe_lc (own := [("k", 4)]) (g := gName 4) (tt := tYes) (te := tCall spLWord [] (fun _ _ _ => False) (tCons (tVar 1) tNil)) (by rfl) scLaw.nd (pi_range1 (by rfl) (T.free 79 rfl) (pa_cons pe_int pa_nil))
 (blkOk_by (own := [("k", 4)]) (N := lawSl) (sc := defScope s_law) (by decide +kernel)) (fun _ _ _ _ _ => pg_name (i := 4) scLaw.nd rfl (Or.inl rfl)) (fun _ _ _ _ _ => pts_nil) (fun _ _ _ _ _ => (pe_has Hw (hr.mono (by decide)) pass0 (pa_cons (pv 1) pa_nil)))) (pe_lstS (pa_cons pe_str (pa_cons pe_str pa_nil)))))
 (pss_cons (ps_set (i := 3) scLaw.nd rfl (Or.inl rfl) (pe_has Hpr (hr.mono (by decide)) pass0 (pa_cons (pv 1) (pa_cons (pv 2) (pa_cons (pe_op op_add pe_int (pe_has Hd (hr.mono (by decide)) pass0 (pa_cons (pv 1) (pa_cons pe_int pa_nil)))) (pa_cons (pe_has Hd (hr.mono (by decide)) pass0 (pa_cons (pv 1) (pa_cons pe_int pa_nil))) pa_nil))))))
 (pss_cons (ps_if (pt_not (pt_val (pe_has Hij (hr.mono (by decide)) passF (pa_cons (pv 3) pa_nil))))
 (pss_one (ps_ret pe_bl))
 pss_nil)
 (pss_cons (ps_for PassesOwn.never rfl (pi_range1 (by rfl) (T.free 79 rfl) (pa_cons pe_int pa_nil)) (pg_name (i := 4) scLaw.nd rfl (Or.inl rfl))
 (pss_one (ps_if (pt_not (pt_val (pe_has Hij (hr.mono (by decide)) passF (pa_cons (pe_has Hs20 (hr.mono (by decide)) passF (pa_cons (pv 1) (pa_cons (pv 3) (pa_cons pe_int pa_nil)))) pa_nil))))
 (pss_one (ps_ret pe_bl))
 pss_nil)))
 (pss_cons (ps_set (i := 5) scLaw.nd rfl (Or.inl rfl) (pe_has Hdp (hr.mono (by decide)) pass0 (pa_cons (pv 1) pa_nil)))
 (pss_cons (ps_for PassesOwn.never rfl (pi_range1 (by rfl) (T.free 79 rfl) (pa_cons pe_int pa_nil)) (pg_name (i := 4) scLaw.nd rfl (Or.inl rfl))
 (pss_one (ps_if (pt_not (pt_val (pe_has Hij (hr.mono (by decide)) passF (pa_cons (pe_has Hne (hr.mono (by decide)) pass0 (pa_cons (pv 1) pa_nil)) pa_nil))))
 (pss_one (ps_ret pe_bl))
 pss_nil)))
 (pss_cons (ps_for PassesOwn.never rfl (pi_list (pe_lstS (pa_cons (pe_has Hod (hr.mono (by decide)) passF (pa_cons (pv 1) pa_nil)) (pa_cons (pv 5) (pa_cons (pe_has Hlg (hr.mono (by decide)) pass0 (pa_cons (pv 1) pa_nil)) (pa_cons (pe_has Hs24 (hr.mono (by decide)) passF (pa_cons (pv 1) (pa_cons (pv 5) (pa_cons pe_int pa_nil)))) (pa_cons (pe_has Hin (hr.mono (by decide)) pass0 (pa_cons (pv 1) pa_nil)) pa_nil))))))) (pg_name (i := 6) scLaw.nd rfl (Or.inl rfl))
 (pss_one (ps_if (pt_not (pt_val (pe_has Hij (hr.mono (by decide)) passF (pa_cons (pv 6) pa_nil))))
 (pss_one (ps_ret pe_bl))
 pss_nil)))
 (pss_one (ps_ret (pe_and (pe_cmpR op_eq (pe_has Htw (hr.mono (by decide)) pass0 (pa_cons (pe_hasC Hv (hr.mono (by decide)) pass0 (pa_cons (V4.pe_lamV (ts := tsK K) TB rfl mem uniq (by show ∀ y ∈ (_ : List (Str × NameKind)), y.2 = .free → (defScope s_law).names.lookup y.1 = some .cell ∨ (defScope s_law).names.lookup y.1 = some .free; decide +kernel)) pa_nil)) pa_nil)) pe_str (nomark _)) (pe_one (pe_cmpR op_eq (pe_has Htw (hr.mono (by decide)) pass0 (pa_cons (pv 3) pa_nil)) pe_str (nomark _)))))))))))))), ?_⟩
  obtain ⟨a0, ns, e0, hS, hl, hT, hQ⟩ := h
  cases e0
  refine ⟨_, rfl, a0, ns, rfl, hS, hl, fun H1 a s1 n1' hd1 => ?_⟩
  refine ⟨3, rfl, by decide, by decide, fun D nD => ?_⟩
  rw [show (3 : Int).toNat = 3 from rfl]
  obtain ⟨c, cs, hce, nca, hc⟩ := hd1.cells
  have Da := hd1.ne_new nD
  have cD : c ≠ D := fun z => by
    rw [← z, hc] at nD
    cases nD
  refine lc_gen (σ := [some (.ref a0), some (.ref a), none, none, none, none, none]) (vs := [4]) (walk_range (lo := 0) (n := 3)) nD (fun i acc H' => Go a H1 H' ∧ ∃ ys : List Str, acc = ys.map V.str ∧ ys.length = i ∧ ∀ y ∈ ys, wordX y = true) ⟨Go.refl hd1, [], rfl, rfl, fun _ h => absurd h List.not_mem_nil⟩ (fun _ _ _ _ _ => True.intro) ?_ ?_
  · rintro i acc x H4 H5 hi l e ⟨g4, ys, rfl, yl, hy⟩ ⟨rfl, hx⟩
    refine ⟨rfl, ?_⟩
    simp only [tYes, if_true]
    have hd4 := hand_same g4.hd same_delH
    refine ⟨_, rfl, a, rfl, hd4, fun H6 z g6 zo => ?_⟩
    have eD := go2_keep g6 Da e
    have c6 : cellsOf H6 a = some (.ref c) := g6.ce.trans ((cells_del Da).symm.trans (g4.ce.trans hce))
    exact lc_put l (by omega) eD ⟨g4.trans (go_off g6 c6 cD Da), ys ++ [z], by rw [List.map_append]; rfl, by rw [List.length_append, yl]; rfl, fun y h => by
      rcases List.mem_append.mp h with h | h
      · exact hy y h
      · rw [List.mem_singleton.mp h]
        exact zo⟩
  rintro acc H3 l3 e3 ⟨g3, ys, rfl, yl, hy⟩
  have g3 := g3.undel Da
  refine ⟨(by show 2 ≤ sizeLine; decide), fun q4 n4 _ => ?_⟩
  have s4 := same_new (o := HO.lst [.str (Str.ofString "many"), .str (Str.ofString "~")]) n4
  have e4 : upd H3 q4 (HO.lst [.str (Str.ofString "many"), .str (Str.ofString "~")]) q4 = some (.lst [.str (Str.ofString "many"), .str (Str.ofString "~")]) := upd_same
  have e3' := s4 _ _ e3
  have g4 := g3.trans (Go.new g3.hd s4)
  generalize upd H3 q4 (HO.lst [.str (Str.ofString "many"), .str (Str.ofString "~")]) = H4 at e4 e3' g4
  refine ⟨D, q4, _, _, rfl, rfl, e3', e4, Nat.le_trans (by rw [List.length_map]; simp only [List.length_cons, List.length_nil]; omega : (ys.map V.str).length + ([.str (Str.ofString "many"), .str (Str.ofString "~")] : List V).length ≤ 1000) (by decide), fun pl npl => ?_⟩
  have pa := g4.hd.ne_new npl
  obtain ⟨ws, ew, wl, ww⟩ : ∃ ws : List Str, ys.map V.str ++ [.str (Str.ofString "many"), .str (Str.ofString "~")] = ws.map V.str ∧ ws.length = 5 ∧ ∀ x ∈ ws, wordX x = true := by
    refine ⟨ys ++ [Str.ofString "many", Str.ofString "~"], by rw [List.map_append]; rfl, by rw [List.length_append, yl]; rfl, fun x hx => ?_⟩
    rcases List.mem_append.mp hx with z | z
    · exact hy x z
    · simp only [List.mem_cons, List.not_mem_nil, or_false] at z
      rcases z with rfl | rfl <;> decide +kernel
  rw [ew]
  have s5 := same_new (o := HO.lst (ws.map V.str)) npl
  have e5 : upd H4 pl (HO.lst (ws.map V.str)) pl = some (.lst (ws.map V.str)) := upd_same
  have g5 := g4.trans (Go.new g4.hd s5)
  generalize upd H4 pl (HO.lst (ws.map V.str)) = H5 at s5 e5 g5
  have hd5 := g5.hd
  have hT5 : Tabs (tsK K) H5 := tabs_go (V4.tabs_same hT s1) hd1 g5.sm
  clear g5 g4 g3 s5 s4 e4 e3 e3' l3 hy yl ew n4 npl nD hce hc cD hd1 s1 hT
  refine ⟨_, rfl, _, rfl, _, rfl, a, 57, rfl, hd5, by decide, by decide, fun H6 r6 hd6 e6 c6 p0 p1 => ⟨_, _, rfl, rfl, ?_⟩⟩
  have g6 := Go.draw hd6 e6 c6
  refine ⟨_, rfl, a, 4, rfl, hd6, by decide, by decide, fun H7 r7 hd7 e7 c7 o0 o1 => ?_⟩
  have g7 := g6.trans (Go.draw hd7 e7 c7)
  obtain ⟨lo, rfl⟩ := Int.eq_ofNat_of_zero_le o0
  refine ⟨a, pl, _, lo, ws, rfl, hd7, go_at g7 pa e5, pa, by omega, by omega, ww, by omega, by omega, by omega, fun H8 v b g8 dq8 bo lp ct => ?_⟩
  have g58 := g7.trans g8
  have dv8 := dx_of _ _ dq8
  have bS : Bo (.tuple b.ds) 41 801 := (bdBo b bo.ok).tup.mono (by have := bo.dp; omega) (by omega)
  have hT8 := tabs_go hT5 hd5 g58.sm
  have hd8 := g58.hd
  clear g58 g8 g7 g6 e6 c6 e7 c7 hT5 hd5 dq8 bo lp ct ww e5 pa wl hd6 hd7
  have tup_ne : ∀ {d : PyData}, isTup d = true → d ≠ objD := fun h e => by
    subst e
    cases h
  refine ⟨_, rfl, v, _, rfl, dv8.sm same_delH, .of (by intro z; cases z), bS.mono (by decide) (by decide), hT8, fun H9 x9 t9 => ⟨true, rfl, iteF ?_⟩⟩
  have g9 := Gx.ext hd8 x9
  refine ⟨6, rfl, by decide, by decide, ?_⟩
  rw [show (6 : Int).toNat = 6 from rfl]
  refine for_it (walk_range (lo := 0) (n := 6)) (fun i σ H' => ∃ o4, σ = [some (.ref a0), some (.ref a), some (.ref pl), some v, o4, none, none] ∧ Gx a H8 H' ∧ Tabs (tsK K) H') ⟨_, rfl, g9, t9⟩ (fun _ _ _ _ _ => True.intro) ?_ ?_
  · rintro i x σ HA HB hi ⟨o4, rfl, gA, tA⟩ ⟨rfl, rfl⟩
    refine ⟨_, rfl, _, rfl, a, v, _, 41, 801, rfl, gA.hd, V4.dx_ext gA.sm _ _ dv8, bS, by decide, fun HC u d gC du tk bC => ?_⟩
    have tC := tabs_go tA gA.hd gC.sm
    exact ⟨u, d, rfl, du.sm same_delH, tk.same same_delH, bC.mono (by decide) (by decide), tC, fun HD xD tD => ⟨true, rfl, iteF ⟨_, rfl, gA.trans ((Gx.of gC).trans (Gx.ext gC.hd xD)), tD⟩⟩⟩
  rintro σ HA ⟨o4, rfl, gA, tA⟩
  refine ⟨_, rfl, a, rfl, gA.hd, fun HB vd dd gB dvd itd bd => ?_⟩
  have tB := tabs_go tA gA.hd gB.sm
  have g8B := gA.trans (Gx.of gB)
  have hdB := gB.hd
  refine ⟨6, rfl, by decide, by decide, ?_⟩
  rw [show (6 : Int).toNat = 6 from rfl]
  refine for_it (walk_range (lo := 0) (n := 6)) (fun i σ H' => ∃ o4, σ = [some (.ref a0), some (.ref a), some (.ref pl), some v, o4, some vd, none] ∧ Gx a HB H' ∧ Tabs (tsK K) H') ⟨_, rfl, Gx.of (Go.refl hdB), tB⟩ (fun _ _ _ _ _ => True.intro) ?_ ?_
  · rintro i x σ HC HD hi ⟨o4, rfl, gC, tC⟩ ⟨rfl, rfl⟩
    refine ⟨_, rfl, a, rfl, gC.hd, fun HE u d gE du it bE => ?_⟩
    have tE := tabs_go tC gC.hd gE.sm
    exact ⟨u, d, rfl, du.sm same_delH, .of (tup_ne it), bE.mono (by decide) (by decide), tE, fun HF xF tF => ⟨true, rfl, iteF ⟨_, rfl, gC.trans ((Gx.of gE).trans (Gx.ext gE.hd xF)), tF⟩⟩⟩
  rintro σ HC ⟨o4, rfl, gC, tC⟩
  have dvC := V4.dx_ext gC.sm _ _ dvd
  have hdC := gC.hd
  have dsC := V4.dx_ext (g8B.trans gC).sm _ _ dv8
  clear gC g8B gB gA hdB tB tA g9 t9 x9 hT8 hd8 dvd dv8
  refine ⟨_, rfl, a, rfl, hdC, fun G1 u1 d1 g1 q1 k1 b1 => ⟨_, rfl, ?_⟩⟩
  refine ⟨_, rfl, a, rfl, g1.hd, fun G2 u2 d2 g2 q2 i2 b2 => ?_⟩
  have g12 := g1.trans g2
  refine ⟨_, rfl, _, rfl, a, vd, dd, 45, 400, rfl, g2.hd, g12.dx dvC, bd, by decide, fun G3 u3 d3 g3 q3 k3 b3 => ?_⟩
  have g13 := g12.trans g3
  refine ⟨_, rfl, a, rfl, g3.hd, fun G4 u4 d4 g4 q4 i4 b4 => ⟨(by show 5 ≤ sizeLine; decide), fun L nL _ => ?_⟩⟩
  have s5 := same_new (o := HO.lst [u1, vd, u2, u3, u4]) nL
  have eL : upd G4 L (HO.lst [u1, vd, u2, u3, u4]) L = some (.lst [u1, vd, u2, u3, u4]) := upd_same
  have g5 := Go.new g4.hd s5
  have La := g4.hd.ne_new nL
  generalize upd G4 L (HO.lst [u1, vd, u2, u3, u4]) = G5 at s5 eL g5 ⊢
  have gC5 := g13.trans (g4.trans g5)
  have t5 := tabs_go tC hdC gC5.sm
  have items : ∀ x ∈ [u1, vd, u2, u3, u4], ∃ d, Dx (delH G5 a) x d ∧ TopK (delH G5 a) x d ∧ Bo d 80 45000 := fun x hx => by
    simp only [List.mem_cons, List.not_mem_nil, or_false] at hx
    rcases hx with rfl | rfl | rfl | rfl | rfl
    · exact ⟨d1, ((g2.trans g3).trans (g4.trans g5)).dx q1, k1.same ((g2.trans g3).trans (g4.trans g5)).sm, b1.mono (by decide) (by decide)⟩
    · exact ⟨dd, gC5.dx dvC, .of (tup_ne itd), bd.mono (by decide) (by decide)⟩
    · exact ⟨d2, (g3.trans (g4.trans g5)).dx q2, .of (tup_ne i2), b2.mono (by decide) (by decide)⟩
    · exact ⟨d3, (g4.trans g5).dx q3, k3.same (g4.trans g5).sm, b3.mono (by decide) (by decide)⟩
    · exact ⟨d4, g5.dx q4, .of (tup_ne i4), b4.mono (by decide) (by decide)⟩
  have hd5 := g5.hd
  have ds5 := gC5.dx dsC
  clear g13 g12 g1 g2 g3 g4 g5 gC5 q1 q2 q3 q4 k1 k3 dvC dsC tC hdC
  refine ⟨L, rfl, ⟨_, sq_of eL⟩, for_it (walk_list (K := K) (a := L) (xs := [u1, vd, u2, u3, u4])) (fun i σ H' => ∃ o6, σ = [some (.ref a0), some (.ref a), some (.ref pl), some v, o4, some vd, o6] ∧ Gx a G5 H' ∧ Tabs (tsK K) H') ⟨_, rfl, Gx.of (Go.refl hd5), t5⟩ (fun i σ H' _ z => by
    obtain ⟨o6, _, g, _⟩ := z
    exact sq_of (gx_lst g La eL)) ?_ ?_⟩
  · rintro i x σ HA HB hi ⟨o6, rfl, gA, tA⟩ ⟨rfl, hx⟩
    obtain ⟨d, dx, tk, bx⟩ := items x (List.mem_of_getElem? hx)
    exact ⟨_, rfl, x, d, rfl, (V4.dx_ext gA.sm _ _ dx).sm same_delH, (tk.ext gA.sm).same same_delH, bx, tA, fun HC xC tC => ⟨true, rfl, iteF ⟨_, rfl, gA.trans (Gx.ext gA.hd xC), tC⟩⟩⟩
  rintro σ HA ⟨o6, rfl, gA, tA⟩
  have dvA := (V4.dx_ext gA.sm _ _ ds5).sm same_delH
  refine ⟨tA, fun HB f eN tB nf => ?_⟩
  intro p2 dx2 np2 nd2 ne2
  have sm2 : Same HB (upd (upd HB dx2 (.own p2)) p2 (.ins (He.ga K "Voice") dx2 [])) := fun b o e => by
    rw [upd_ne (ne_of_none e np2), upd_ne (ne_of_none e nd2)]
    exact e
  refine ⟨p2, dx2, .ref f, rfl, upd_same, fun HC stC eC => ⟨rfl, ?_⟩⟩
  have sC : Same HB HC := fun b o e => stC b o (ne_of_none e np2) (sm2 _ _ e)
  have dvC := (V4.dx_ext eN _ _ dvA).sm sC
  refine .inr ⟨.ref p2, rfl, nopg_voice T eC, fun HD sD => ⟨rfl, _, rfl, ?_⟩⟩
  rw [show decide ((V.str (Str.ofString "refused") : V) = V.str (Str.ofString "refused")) = true from decide_eq_true rfl]
  refine iteT ⟨_, rfl, .inr ⟨v, rfl, nopg_of T (dvC.sm sD) (by intro z; cases z), fun HE sE => ⟨rfl, ?_⟩⟩⟩
  rw [show decide ((V.str (Str.ofString "refused") : V) = V.str (Str.ofString "refused")) = true from decide_eq_true rfl]
  exact hQ _
end
end K07

set_option maxHeartbeats 0
open PySem PySem.W PySem.Calls PyProof.Rows
theorem PySem.Challenge.cw_turnedtalk_k07_programs_judged_holds : PySem.Challenge.rw_turnedtalk_k07_programs_judged.Holds := by
  w_on; o_law
  refine HandSHeadRun.head_any (r := OpenLaw.row PySem.Challenge.rw_turnedtalk_k07_programs_judged) (q := view (OpenLaw.row PySem.Challenge.rw_turnedtalk_k07_programs_judged).prog [74]) (H := K07.hk) (ob := K07.ob) (M := 60000) (loose := K07.names)
    (d := HandSHeadRun.topDef (OpenLaw.row PySem.Challenge.rw_turnedtalk_k07_programs_judged).prog 74) (kwd := []) K07.ob_eq
    (by kernel_rfl) (fun s => by kernel_rfl) K07.run (by kernel_rfl) (by kernel_rfl) (by kernel_rfl) (by rfl) (by first | assumption | decide +kernel) (by decide +kernel) ⟨rfl, rfl, rfl, rfl, rfl, by decide +kernel⟩ ?hw ?hc
  case hw => w_witness2
  case hc =>
    refine V4.walk_lawT (l := PySem.Challenge.rw_turnedtalk_k07_programs_judged) (n := 63) (x := "script") rfl (by decide) (by kernel_rfl) ?F
    intro w mg fa h Y G hmg0
    obtain ⟨K, KX, c, ex, hh, tabs⟩ := Y
    have hmg : mg ("law" : PySem.Str) = some (.ref fa) := by
      have e : (HandSHeadRun.topDef (OpenLaw.row PySem.Challenge.rw_turnedtalk_k07_programs_judged).prog 74).name = ("law" : PySem.Str) := by kernel_rfl
      rw [← e]
      exact hmg0
    have T : K07.Tx K w mg := ⟨c, K07.exB_1 (K07.exB_2 ex), K07.forms_at ex hh, fun H => K07.BARE_at ex H, fun x hx => K07.lam_at (K07.exB_2 ex) hx, K07.tabs_nd (K07.exB_2 ex), h, KX, G⟩
    cases hmg.symm.trans (T.glo 68 rfl)
    letI : V3.CurK := ⟨K⟩
    obtain ⟨fd, ok, bind⟩ := K07.ok_law (P := (PySem.Challenge.rw_turnedtalk_k07_programs_judged).prog) (w := w) T
    refine ⟨K, fd, K07.spLaw K, K07.lamN.map fun x => V4.pairOf K (He.ga K x), KX, fun p hp => ?_, fun p hp => ?_, fun p hp => ?_, bind, fun H a ns hl ht hS => ⟨a, ns, rfl, hS, hl, fun p hp => ?_, fun _ => rfl⟩, fun base _ _ hb => ok base fun x hx => hb _ (List.mem_map.mpr ⟨x, hx, rfl⟩)⟩
    · obtain ⟨x, hx, rfl⟩ := List.mem_map.mp hp
      exact tabs x hx
    · obtain ⟨x, hx, rfl⟩ := List.mem_map.mp hp
      exact (T.lam x hx).off
    · obtain ⟨x, hx, rfl⟩ := List.mem_map.mp hp
      exact (T.lam x hx).hd _ KX
    · obtain ⟨x, hx, rfl⟩ := List.mem_map.mp hp
      exact LamX.TabS.nil (ht _ (List.mem_map.mpr ⟨x, hx, rfl⟩))

