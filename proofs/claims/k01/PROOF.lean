import PyProof.Rows.All
import Wide.All
import OpenK.AllK
import Wide.FinOn
import KE.KStateDown
import HandS.ForMost
import HandS.Exc
import HandS.ExcInit
import HandS.ExcField
import HandS.ExcIs
import HandS.ExcValue
import HandS.IsInst
import HandS.Defaults
import HandS.TryMany
import HandS.Wide
import PyProof.ReprRoads
import KE.KExcIs
import HandS.HeadEnd
import HandS.HeadHook1
import HandS.HeadHook2
import HandS.Evl
import HandS.ExcOwn
import HandS.WordsExc
import KE.GoesEnum
import HandS.Walk
import HandS.Deep
import HandS.OwnEq
import HandS.Codes
import HandS.Small
import PyProof.AutoSeq1
import HandS.TupLe
import HandS.Lambda
import HandS.EndTab
import HandS.Head2
import HandS.Head0
import HandS.Head1
import HandS.SetFor
import PyProof.StrBlock2
import HandS.Style
import HandS.TupMul
import HandS.TupAny
import HandS.Dict
import HandS.More
import HandS.DictComp
import HandS.SortOrd
import KE.KSortTupAny
import HandS.StrMore
import HandS.Text
import HandS.Conv
import HandS.Zip
import HandS.SortRule
import PySem.Challenge.RW_turnedtalk_k01_tables
set_option Elab.async false
set_option linter.all false
set_option maxRecDepth 100000
set_option maxHeartbeats 4000000
/-! V1: data with dicts, repr -/
namespace V1
open PySem PySem.Spec PyProof.Rows L2
def keyD : Key → PyData
  | .inl i => .int i
  | .inr x => .str x
mutual
/-- a value of the abstract heap is this data: scalars, tracked lists, tuples, dicts -/
inductive Dq (H : Hp) : V → PyData → Prop
  | non : Dq H .non .none
  | bl (b : Bool) : Dq H (.bl b) (.bool b)
  | int (i : Int) : Dq H (.int i) (.int i)
  | str (x : Str) : Dq H (.str x) (.str x)
  | lst {a : Addr} {xs : List V} {ds : List PyData} (at_ : H a = some (.lst xs)) (low : (a == sysModules) = false) (rest : DqAll H xs ds) : Dq H (.ref a) (.list ds)
  | tup {a : Addr} {xs : List V} {ds : List PyData} (at_ : H a = some (.tup xs)) (rest : DqAll H xs ds) : Dq H (.ref a) (.tuple ds)
  | dct {a : Addr} {kvs : List (Key × V)} {ds : List (PyData × PyData)} (at_ : H a = some (.dK kvs)) (rest : DqKv H kvs ds) : Dq H (.ref a) (.dict ds)
inductive DqAll (H : Hp) : List V → List PyData → Prop
  | nil : DqAll H [] []
  | cons {v : V} {vs : List V} {d : PyData} {ds : List PyData} (one : Dq H v d) (more : DqAll H vs ds) : DqAll H (v :: vs) (d :: ds)
inductive DqKv (H : Hp) : List (Key × V) → List (PyData × PyData) → Prop
  | nil : DqKv H [] []
  | cons {k : Key} {v : V} {kvs : List (Key × V)} {d : PyData} {ds : List (PyData × PyData)} (one : Dq H v d) (more : DqKv H kvs ds) : DqKv H ((k, v) :: kvs) ((keyD k, d) :: ds)
end
section
variable {H H' : Hp}
mutual
theorem Dq.same (e : Same H H') : ∀ (d : PyData) (v : V), Dq H v d → Dq H' v d
  | .none, _, h => by cases h; exact .non
  | .bool b, _, h => by cases h; exact .bl b
  | .int i, _, h => by cases h; exact .int i
  | .str x, _, h => by cases h; exact .str x
  | .list ds, _, h => by
    cases h with
    | lst at_ low rest => exact .lst (e _ _ at_) low (DqAll.same e ds _ rest)
  | .tuple ds, _, h => by
    cases h with
    | tup at_ rest => exact .tup (e _ _ at_) (DqAll.same e ds _ rest)
  | .dict ds, _, h => by
    cases h with
    | dct at_ rest => exact .dct (e _ _ at_) (DqKv.same e ds _ rest)
theorem DqAll.same (e : Same H H') : ∀ (ds : List PyData) (vs : List V), DqAll H vs ds → DqAll H' vs ds
  | [], _, h => by cases h; exact .nil
  | d :: ds, _, h => by
    cases h with
    | cons one more => exact .cons (Dq.same e d _ one) (DqAll.same e ds _ more)
theorem DqKv.same (e : Same H H') : ∀ (ds : List (PyData × PyData)) (kvs : List (Key × V)), DqKv H kvs ds → DqKv H' kvs ds
  | [], _, h => by cases h; exact .nil
  | (k, d) :: ds, _, h => by
    cases h with
    | cons one more => exact .cons (Dq.same e d _ one) (DqKv.same e ds _ more)
end
end
section
variable {X : Cx} {pins : List (Addr × Obj)} {σ : L2.St} {H : Hp} {s : Shared}
theorem key_reads {h : Heap} {k : Key} {u : Value} (e : keyIs k u = true) : Reads h u (keyD k) [] := by
  rcases keyIs_shape e with ⟨i, t, rfl, rfl⟩ | ⟨x, t, rfl, rfl⟩
  · exact .int i t
  · exact .str x t
theorem keys_read {P : Program} {w : World} {h : Heap} {H : Hp} : ∀ {es : List DictEntry} {us : List (Key × Value)} {kvs : List (Key × V)} {ds : List (PyData × PyData)}, Pairs (mixKind P w) es us → KV kvs us → DqKv H kvs ds →
    ReadsAll h (es.map (·.key)) (ds.map (·.1)) []
  | _, _, _, _, .nil, r, q => by
    cases r
    cases q
    exact .nil
  | _, _, _, _, .cons he hv more, r, q => by
    cases r with
    | cons r1 r2 =>
      cases q with
      | cons one more' =>
        have z := r1.1
        dsimp only at z
        have h1 := key_reads (h := h) he
        rw [← z] at h1
        exact .cons h1 (keys_read more r2 more')
mutual
theorem Dq.reads (I : Inv X pins σ H s) : ∀ (d : PyData) (v : V) (u : Value), Dq H v d → RelV v u → ∃ as, Reads s.heap u d as ∧ sysModules ∉ as
  | .none, _, _, h, r => by
    cases h
    cases r
    exact ⟨_, .none, List.not_mem_nil⟩
  | .bool b, _, _, h, r => by
    cases h
    cases r
    exact ⟨_, .bool b, List.not_mem_nil⟩
  | .int i, _, _, h, r => by
    cases h
    obtain ⟨t, rfl⟩ := r
    exact ⟨_, .int i t, List.not_mem_nil⟩
  | .str x, _, _, h, r => by
    cases h
    obtain ⟨t, rfl⟩ := r
    exact ⟨_, .str x t, List.not_mem_nil⟩
  | .list ds, _, _, h, r => by
    cases h with
    | lst at_ low rest =>
      cases r
      obtain ⟨_, its, n, rv, ho⟩ := I.hok _ _ at_
      obtain ⟨as, hr, hno⟩ := DqAll.reads I ds _ its rest rv
      refine ⟨_, Reads.list (vs := its.toArray) ho rfl rfl hr, fun hm => ?_⟩
      rcases List.mem_cons.mp hm with e | hm
      · rw [← e] at low
        exact absurd low (by decide)
      · exact hno hm
  | .tuple ds, _, _, h, r => by
    cases h with
    | tup at_ rest =>
      cases r
      obtain ⟨_, its, rv, o, ho, hc, n, hd⟩ := I.hok _ _ at_
      obtain ⟨as, hr, hno⟩ := DqAll.reads I ds _ its rest rv
      exact ⟨_, Reads.tuple ho hc hd hr, hno⟩
  | .dict ds, _, _, h, r => by
    cases h with
    | dct at_ rest =>
      cases r
      obtain ⟨_, low, us, rkv, o, es, ep, ho, hx, hd, _, hp, _⟩ := I.hok _ _ at_
      obtain ⟨as, hr, hno⟩ := DqKv.reads I ds _ us es.toList rest rkv hp
      have hk := keys_read (h := s.heap) hp rkv rest
      refine ⟨_, Reads.dict ho hx.1 hd hk hr, fun hm => ?_⟩
      rcases List.mem_cons.mp hm with e | hm
      · rw [← e] at low
        exact absurd low (by decide)
      · exact hno (by simpa using hm)
theorem DqAll.reads (I : Inv X pins σ H s) : ∀ (ds : List PyData) (vs : List V) (us : List Value), DqAll H vs ds → Vals vs us → ∃ as, ReadsAll s.heap us ds as ∧ sysModules ∉ as
  | [], _, _, h, r => by
    cases h
    cases r
    exact ⟨_, .nil, List.not_mem_nil⟩
  | d :: ds, _, _, h, r => by
    cases h with
    | cons one more =>
      cases r with
      | cons r1 r2 =>
        obtain ⟨as, q1, n1⟩ := Dq.reads I d _ _ one r1
        obtain ⟨bs, q2, n2⟩ := DqAll.reads I ds _ _ more r2
        refine ⟨_, .cons q1 q2, fun hm => ?_⟩
        rcases List.mem_append.mp hm with z | z
        · exact n1 z
        · exact n2 z
theorem DqKv.reads (I : Inv X pins σ H s) : ∀ (ds : List (PyData × PyData)) (kvs : List (Key × V)) (us : List (Key × Value)) (es : List DictEntry), DqKv H kvs ds → KV kvs us → Pairs (mixKind X.prog X.w) es us →
    ∃ as, ReadsAll s.heap (es.map (·.val)) (ds.map (·.2)) as ∧ sysModules ∉ as
  | [], _, _, _, h, r, p => by
    cases h
    cases r
    cases p
    exact ⟨_, .nil, List.not_mem_nil⟩
  | (k, d) :: ds, _, _, _, h, r, p => by
    cases h with
    | cons one more =>
      cases r with
      | cons r1 r2 =>
        cases p with
        | cons he hv hp =>
          have r3 := r1.2
          dsimp only at r3
          rw [← hv] at r3
          obtain ⟨as, q1, n1⟩ := Dq.reads I d _ _ one r3
          obtain ⟨bs, q2, n2⟩ := DqKv.reads I ds _ _ _ more r2 hp
          refine ⟨_, .cons q1 q2, fun hm => ?_⟩
          rcases List.mem_append.mp hm with z | z
          · exact n1 z
          · exact n2 z
end
end
/-! ### repr(x), x data; nothing is being shown meanwhile (gd) -/
section
variable {X : Cx}
theorem call_repr (gd : X.A.guards = some []) (hu : X.A.units + 64 < cLine) :
    CallR X (.builtin "repr") (fun xs H Q => ∃ (v : V) (d : PyData), xs = [v] ∧ Dq H v d ∧ d.showable = true ∧ d.depth ≤ 60 ∧ d.shown.length ≤ sizeLine ∧ Q (.str d.shown) H) := by
  intro pins s σ H xs us Q I r h
  obtain ⟨v, d, rfl, hd, hs, hn, hz, q⟩ := h
  cases r with
  | @cons _ u _ _ ru rn =>
    cases rn
    obtain ⟨as, hr, hno⟩ := Dq.reads I d v u hd ru
    have fin : ∀ h' (t : Tok) tk, (∀ b o, s.heap.get? b = some o → h'.get? b = some o) → EP X pins σ Q (.str d.shown t) { s with heap := h', toks := tk } :=
      fun h' t tk k => ⟨.str d.shown, H, I.kept k, ⟨_, rfl⟩, q⟩
    cases hr with
    | none => exact PySem.P.repr_of_none (fin s.heap _ _ fun _ _ z => z)
    | bool b => exact PySem.P.repr_of_bool (fin s.heap _ _ fun _ _ z => z)
    | int i t => exact PySem.P.repr_of_int (of_decide_eq_true (by simpa [PyData.showable] using hs)) (fin s.heap _ _ fun _ _ z => z)
    | str x t => exact PySem.P.repr_of_str (fin s.heap _ _ fun _ _ z => z) (by simpa [PyData.shown] using hz)
    | list h1 h2 h3 h4 => exact repr_of_reads' (.list h1 h2 h3 h4) hs (fun _ => hno) gd (by omega) (fun _ _ z => z) fin hz
    | tuple h1 h2 h3 h4 => exact repr_of_reads' (.tuple h1 h2 h3 h4) hs (fun _ => hno) gd (by omega) (fun _ _ z => z) fin hz
    | dict h1 h2 h3 h4 h5 => exact repr_of_reads' (.dict h1 h2 h3 h4 h5) hs (fun _ => hno) gd (by omega) (fun _ _ z => z) fin hz
end
end V1

set_option maxHeartbeats 4000000
/-! V1: exceptions as values: made, asked for their class, their field read -/
namespace V1
open PySem PySem.Spec PyProof.Rows L2
def veB : List Value := [.type "ValueError", .type "Exception", .type "BaseException", .type "object"]
/-- the object at C is an exception class over ValueError's maker, its further bases bm -/
def clsB (K : PySem.W.Frag) (C : Addr) (bm : List Value) : Bool := match K.lookup C with
  | some ⟨.type "type", _, .cls cd, sl⟩ => (match sl.toList with
    | [_, _, _, _, some (.builtin n), _] => decide (cd.mro = .ref C :: bm) && (n == "ValueError.__new__" && (cd.hasDict && (!cd.hasDel)))
    | _ => false)
  | _ => false
def oexB (K : PySem.W.Frag) (C : Addr) (bm : List Value) : Bool :=
  clsB K C bm && (decide (PySem.W.findIn K (.ref C) "__setattr__" = some (some (.builtin "object.__setattr__"))) &&
    (decide (PySem.W.findIn K (.ref C) "__getattribute__" = some (some (.builtin "BaseException.__getattribute__"))) &&
      (decide (PySem.W.findIn K (.ref C) "__getattr__" = some none) && (decide (PySem.W.findIn K (.ref C) "__class__" = some (some (.builtin "object.__class__"))) && PySem.W.keepIn K (.ref C)))))
/-- what isinstance asks of object.__class__ -/
def clsAttrB (K : PySem.W.Frag) : Bool := decide (PySem.W.specialIn K (.builtin "object.__class__") "__get__" = some (some (.builtin "getset_descriptor.__get__"))) && decide (PySem.W.takesIn K (.builtin "object.__class__") = some true)
structure ExK (K : PySem.W.Frag) (C : Addr) (bm : List Value) : Prop where
  cls : ∃ nm q N bs sn sub ab col dd k0 k1 k2 k3 k5, K.lookup C = some (excClassObj nm q C N bs bm true sn sub ab col dd k0 k1 k2 k3 k5 "ValueError.__new__")
  sa : PySem.W.findIn K (.ref C) "__setattr__" = some (some (.builtin "object.__setattr__"))
  ga : PySem.W.findIn K (.ref C) "__getattribute__" = some (some (.builtin "BaseException.__getattribute__"))
  gg : PySem.W.findIn K (.ref C) "__getattr__" = some none
  cl : PySem.W.findIn K (.ref C) "__class__" = some (some (.builtin "object.__class__"))
  kp : PySem.W.keepIn K (.ref C) = true
structure ClsAttr (K : PySem.W.Frag) : Prop where
  gs : PySem.W.specialIn K (.builtin "object.__class__") "__get__" = some (some (.builtin "getset_descriptor.__get__"))
  tk : PySem.W.takesIn K (.builtin "object.__class__") = some true
theorem clsAttr_of {K : PySem.W.Frag} (h : clsAttrB K = true) : ClsAttr K := ⟨of_decide_eq_true (Bool.and_eq_true_iff.mp h).1, of_decide_eq_true (Bool.and_eq_true_iff.mp h).2⟩
theorem exK_of {K : PySem.W.Frag} {C : Addr} {bm : List Value} (h : oexB K C bm = true) : ExK K C bm := by
  unfold oexB at h
  simp only [Bool.and_eq_true, decide_eq_true_eq] at h
  obtain ⟨h1, h2, h3, h4, h5, h6⟩ := h
  refine ⟨?_, h2, h3, h4, h5, h6⟩
  unfold clsB at h1
  split at h1
  · rename_i dd cd sl lk
    split at h1
    · rename_i k0 k1 k2 k3 n k5 hs
      simp only [Bool.and_eq_true, decide_eq_true_eq, beq_iff_eq, Bool.not_eq_true'] at h1
      obtain ⟨g1, g2, g3, g4⟩ := h1
      obtain ⟨nm, bs, mro, ns, qn, hd, sn, sb, ab, col, del⟩ := cd
      dsimp only at g1 g3 g4
      subst g1 g2 g3 g4
      obtain ⟨sl⟩ := sl
      dsimp only at hs
      subst hs
      exact ⟨nm, qn, ns, bs, sn, sb, ab, col, dd, k0, k1, k2, k3, k5, lk⟩
    · cases h1
  · cases h1
section
variable {K : PySem.W.Frag} {C D : Addr} {bm : List Value}
theorem ExK.clsIn (T : ExK K C bm) : ∃ cd, PySem.W.clsIn K C = some cd ∧ cd.mro = .ref C :: bm ∧ cd.hasDict = true := by
  obtain ⟨nm, q, N, bs, sn, sub, ab, col, dd, k0, k1, k2, k3, k5, e⟩ := T.cls
  unfold PySem.W.clsIn
  rw [e]
  exact ⟨_, rfl, rfl, rfl⟩
theorem ExK.isCls (T : ExK K C bm) : (PySem.W.clsIn K C).isSome = true := by
  obtain ⟨cd, e, _⟩ := T.clsIn
  rw [e] <;> rfl
theorem ExK.hasDict (T : ExK K C bm) : PySem.W.hasDictIn K C = true := by
  obtain ⟨cd, e, _, h⟩ := T.clsIn
  unfold PySem.W.hasDictIn
  rw [e]
  simpa using h
theorem ExK.ty (T : ExK K C bm) : PySem.W.typeIn K (.ref C) = some (.type "type") := by
  obtain ⟨nm, q, N, bs, sn, sub, ab, col, dd, k0, k1, k2, k3, k5, e⟩ := T.cls
  show (K.lookup C).map (·.cls) = _
  rw [e] <;> rfl
theorem ExK.mro (T : ExK K C bm) (v : Value) : PySem.W.mroIn K C v = some ((Value.ref C :: bm).contains v) := by
  obtain ⟨cd, e, h, _⟩ := T.clsIn
  unfold PySem.W.mroIn
  rw [e, Option.bind_some, h] <;> rfl
theorem ExK.sub (T : ExK K C bm) (v : Value) : PySem.W.subIn K (.ref C) v = some ((Value.ref C :: bm).contains v) := T.mro v
/-- isinstance of the class's objects -/
theorem ExK.kit (T : ExK K C bm) (T' : ExK K D bm') : PySem.W.kitOne K (.ref C) (.ref D) = some (decide (C = D) || bm.contains (.ref D)) := by
  unfold PySem.W.kitOne
  by_cases e : C = D
  · subst e
    rw [if_pos (by simp)]
    simp
  · have ne : ¬ ((Value.ref C == Value.ref D) = true) := by simpa using e
    rw [if_neg ne]
    show (if ((PySem.W.clsIn K D).isSome && PySem.W.typeIn K (.ref D) == some (.type "type")) = true then PySem.W.subIn K (.ref C) (.ref D) else none) = _
    rw [T'.isCls, T'.ty, if_pos (by simp), T.sub, List.contains_cons]
    have e2 : ¬ D = C := fun z => e z.symm
    simp [e, e2]
theorem ExK.kitT (T : ExK K C bm) {n : String} (hm : PySem.W.kitMeta n = true) : PySem.W.kitOne K (.ref C) (.type n) = some (bm.contains (.type n)) := by
  unfold PySem.W.kitOne
  rw [if_neg (show ¬ ((Value.ref C == Value.type n) = true) from by simp)]
  show (if PySem.W.kitMeta n = true then PySem.W.subIn K (.ref C) (.type n) else none) = _
  rw [if_pos hm, T.sub, List.contains_cons]
  simp
/-- an except clause's class -/
theorem ExK.exm (T : ExK K C bm) (T' : ExK K D bm') (hb : (Value.ref D :: bm').contains (.type "BaseException") = true) : PySem.W.exmOne K (.ref C) (.ref D) = some (decide (C = D) || bm.contains (.ref D)) := by
  have h1 : PySem.W.subIn K (.ref D) (.type "BaseException") = some true := by rw [T'.sub, hb]
  have h2 : PySem.W.subIn K (.ref C) (.ref D) = some (decide (C = D) || bm.contains (.ref D)) := by
    rw [T.sub, List.contains_cons]
    by_cases e : C = D
    · subst e; simp
    · have e2 : ¬ D = C := fun z => e z.symm
      simp [e, e2]
  exact PySem.W.exm_ref h1 T'.hasDict T'.ty h2
theorem ExK.oex (T : ExK K C bm) (hr : PySem.HandSPX.refsVE bm = true) (hb : (Value.ref C :: bm).contains (.type "BaseException") = true) : OexC K C := by
  obtain ⟨nm, q, N, bs, sn, sub, ab, col, dd, k0, k1, k2, k3, k5, e⟩ := T.cls
  exact ⟨⟨nm, q, N, bs, bm, sn, sub, ab, col, dd, k0, k1, k2, k3, k5, e, hr⟩, T.sa, by rw [T.sub, hb], T.ty, T.kp⟩
end
/-- at a stands an exception of the class at C; its own fields fs, if it has a dict of them -/
def IsEx (H : Hp) (a C : Addr) : Option (List (Str × V)) → Prop
  | none => H a = some (ExO (.ref C) a)
  | some fs => ∃ dx, H a = some (exo a C (some dx)) ∧ H dx = some (exd dx fs)
theorem IsEx.same {H H' : Hp} {a C : Addr} {o : Option (List (Str × V))} (e : Same H H') (h : IsEx H a C o) : IsEx H' a C o := by
  cases o with
  | none => exact e _ _ h
  | some fs =>
    obtain ⟨dx, h1, h2⟩ := h
    exact ⟨dx, e _ _ h1, e _ _ h2⟩
section
variable {X : Cx} {pins : List (Addr × Obj)} {σ : L2.St} {H : Hp} {s : Shared} {a C : Addr} {o : Option (List (Str × V))}
theorem IsEx.inst (I : Inv X pins σ H s) (h : IsEx H a C o) : ∃ oe od, PySem.W.InstAt s.heap a oe C od ∧ ∀ fs, o = some fs → ∃ (od' : Obj) (mA : Str → Option Value), od = some od' ∧ (∀ n, PySem.W.lookIn n od' = some (mA n)) ∧ ∀ f, RelO (fs.lookup f) (mA f) := by
  cases o with
  | none =>
    obtain ⟨⟨oe, vs, he, hz, hd, _⟩, _, _⟩ := I.hok a _ h
    refine ⟨oe, none, ⟨he, hz.1, by unfold PySem.W.notCls; rw [hd] <;> rfl, by rw [hz.2]; exact True.intro⟩, fun fs z => nomatch z⟩
  | some fs =>
    obtain ⟨dx, h1, h2⟩ := h
    obtain ⟨t1, he⟩ := exo_at I.hok h1
    obtain ⟨mA, hns, rel⟩ := exd_at I.hok h2
    obtain ⟨od, ho, hl⟩ := lookIn_ns hns
    refine ⟨_, some od, ⟨he, rfl, rfl, ho⟩, fun fs' z => ?_⟩
    cases z
    exact ⟨od, mA, rfl, fun n => hl n, rel⟩
end
/-! ### isinstance(e, c) -/
def rIsiX (K : PySem.W.Frag) : List V → Hp → VK → Prop := fun xs H Q => ∃ (a C : Addr) (o : Option (List (Str × V))) (bm : List Value) (c : V) (u : Value) (b : Bool), xs = [.ref a, c] ∧ IsEx H a C o ∧ ExK K C bm ∧ ClsAttr K ∧
  (Value.ref C :: bm).contains (.type "BaseException") = true ∧ (Value.ref C :: bm).contains (.type "object") = true ∧ ClsV c u ∧ PySem.W.kitOne K (.ref C) u = some b ∧ Q (.bl b) H
theorem call_isiX {X : Cx} : CallR X (.builtin "isinstance") (rIsiX X.K) := by
  intro pins s σ H xs us Q I r h
  obtain ⟨a, C, o, bm, c, u, b, rfl, hx, T, cA, hB, hO, k, e, q⟩ := h
  obtain ⟨w1, w2, rfl, r1, r2⟩ := vals2 r
  obtain rfl : w1 = Value.ref a := r1
  have e2 := k.eq r2
  subst e2
  obtain ⟨oe, od, J, _⟩ := hx.inst I
  exact PySem.W.kia_one (PySem.W.kitx_exc T.isCls T.ga T.gg (by rw [T.sub, hB]) T.cl cA.gs cA.tk (by rw [T.mro, hO])) I.kIn J e (fun z => nomatch z) fun tk => ⟨.bl b, H, I.tok tk, rfl, q⟩
/-! ### e.f of such -/
def tEf (K : PySem.W.Frag) (f : Str) (te : TE) : TE := fun σ H Q => te σ H fun x H1 => ∃ (a C : Addr) (fs : List (Str × V)) (bm : List Value) (v : V), x = .ref a ∧ IsEx H1 a C (some fs) ∧ ExK K C bm ∧ (Value.ref C :: bm).contains (.type "BaseException") = true ∧
  PySem.W.findIn K (.ref C) f = some none ∧ fs.lookup f = some v ∧ Q v H1
theorem pe_ef {X : Cx} {e : Expr} {te : TE} {pos : Pos} {n : Str} (he : PE X e te) (hb : attributeBase e n X.env (eval e X.env) = eval e X.env := by rfl) : PE X (.Attribute e n pos) (tEf X.K n te) := by
  refine ⟨fun pins s σ H Q I h => ?_⟩
  refine attr_of hb (thn (he.run pins s σ H _ I h) fun u s1 hh => ?_)
  obtain ⟨x, H1, J1, rx, a, C, fs, bm, v, rfl, hx, T, hB, hno, hl, q⟩ := hh
  obtain rfl : u = Value.ref a := rx
  obtain ⟨oe, od, J, hf⟩ := hx.inst J1
  obtain ⟨od', mA, rfl, look, rel⟩ := hf fs rfl
  obtain ⟨u, hu, ru⟩ := RelO.some_of (v := v) (o := mA n) (by rw [← hl]; exact rel n)
  exact HandSPX.exc_get J1.kIn J T.ga T.gg (by rw [T.sub, hB]) (PySem.W.findObj_own T.hasDict hno rfl (by rw [look, hu])) (handed_of ru) ⟨v, H1, J1.tok _, ru, q⟩
/-! ### C(e, ..) with an own __init__, kept as a value -/
def tMkV (C : Addr) (sp : Sp) (dvs : List V) (ta : TA) : TE := fun σ H Q => ta σ H fun vs H1 => vs.length ≤ 1000 ∧ ∀ a, H1 a = none → sp (.ref a :: (vs ++ dvs)) (upd H1 a (exo a C none)) (fun v H2 => v = .non ∧ Q (.ref a) H2) (fun _ _ _ => False)
theorem pe_mkV {X : Cx} {CX : CXT} {x : Str} {C fI : Addr} {k : Nat} {fd : FuncData} {ps : List Str} {sp : Sp} {ds : List Value} {dvs : List V} {e : Expr} {es : List Expr} {ta : TA} {p pos : Pos} (T : OexC X.K C)
    (iC : PySem.W.findIn X.K (.ref C) "__init__" = some (some (.ref fI))) (tI : PySem.W.typeIn X.K (.ref fI) = some (.type "function"))
    (F1 : FnOk X.prog X.w X.K X.mg X.base CX k fI fd ps sp) (hr : Room (k + 1) X.A) (hb : Binds X.K fd ps ds) (hd : Vals dvs ds) (hx : Passes CX X (fun _ _ _ => False)) (hg : Gl X x) (hm : X.mg x = some (.ref C)) (ha : PA X (e :: es) ta)
    (hdb : (x == ("__debug__" : Str)) = false := by decide) (he : starEach (e :: es) X.env = (false, eval e X.env) :: starEach es X.env := by rfl) (hpl : (backTo pos (starEach es X.env)).any (·.1) = false := by rfl) :
    PE X (.Call (.Name x p) (e :: es) [] pos) (tMkV C sp dvs ta) := by
  refine ⟨fun pins s σ H Q I h => ?_⟩
  obtain ⟨nm, q, N, bs, bm, sn, sub, ab, col, dd, k0, k1, k2, k3, k5, hC, hbm⟩ := T.cls
  refine wpAny_Call_Name_kw (ld_glob I hg hm ?_ hdb)
  refine PySem.W.callWith_K (h₀ := X.base) I.ok.mod.kin T.kC (thn (ha.run pos pins s σ H _ I h) fun us st hh => ⟨hh.choose_spec.choose_spec.1.kIn, ?_⟩) he hpl
  obtain ⟨vs, H1, J, rv, hz, qq⟩ := hh
  show wpAny _ _ (call (.ref C) us) _ _ _
  obtain ⟨hp, g, dr, tk, os⟩ := st
  let n := hp.objs.size
  have nn : H1 (n + 1) = none := J.hok.fresh (Nat.le_succ n)
  have go := qq (n + 1) nn
  let hp2 := (hp.push (PySem.W.kdv_tup us)).push (PySem.HandSPX.excO C n)
  have kk : ∀ b ob, hp.get? b = some ob → hp2.get? b = some ob := fun b ob z => Heap.get?_push_of_some _ (Heap.get?_push_of_some _ z)
  have top : hp2.get? (n + 1) = some (PySem.HandSPX.excO C n) := by
    show ((hp.push (PySem.W.kdv_tup us)).push (PySem.HandSPX.excO C hp.objs.size)).get? (hp.objs.size + 1) = _
    heap_get
  have J2 : Inv X pins σ (upd H1 (n + 1) (exo (n + 1) C none)) ⟨hp2, g, dr, tk, os⟩ := J.laid (t' := tk) (a := n + 1) (h' := hp2) kk (Nat.le_succ n) (exo_ok top)
  have rr : Vals (V.ref (n + 1) :: (vs ++ dvs)) (Value.ref (n + 1) :: (us ++ ds)) := .cons rfl (rv.append hd)
  have len : (Value.ref (n + 1) :: us ++ ds).length = ps.length := (rr.length.symm.trans (F1.len _ _ _ _ go))
  have short : us.length ≤ sizeLine := by
    have z := Paired.length rv
    rw [sizeLine_eq]
    omega
  refine wpAny_call (PySem.HandSPX.call_own F.excBase_ValueError (fun Y => PySem.HandSPX.refsVE_contains Y bm hbm) (J.kIn _ _ hC) (PySem.W.looks_findIn J.kIn iC) (fun self => PySem.W.bind_fn J.kIn self tI) short
    (codeAny_mono (F1.run _ X.stack _ _ ⟨Value.ref (n + 1) :: us, []⟩ (Value.ref (n + 1) :: (us ++ ds)) _ _ (fun _ _ _ => False) (hr.make C us []) (J2.env0.make C us []) (hb _ (Value.ref (n + 1) :: us) J2.kIn len) rr go) fun r s' hq => ?_))
  cases r with
  | error er => exact hx pins σ _ _ er s' J2 hq
  | ok fl =>
    cases fl with
    | ret u =>
      obtain ⟨v, H2, o2, b2, un2, ok2, rv2, ev, qv⟩ := hq
      subst ev
      refine ⟨rv2, .ref (n + 1), H2, ?_, rfl, qv⟩
      obtain ⟨h', g', d', t', os'⟩ := s'
      exact J.call' (ch := []) o2 (Un.trans (Un.laid kk (Nat.le_succ n) nn) un2) ok2 b2 (fun b z => absurd z (by simp))
    | next => exact False.elim hq
    | brk => exact False.elim hq
    | cont => exact False.elim hq
/-! ### C(), an own exception class without own __init__ -/
def tMk0 (C : Addr) : TE := fun _ H Q => ∀ a, H a = none → Q (.ref a) (upd H a (ExO (.ref C) a))
theorem pe_mk0 {X : Cx} {C : Addr} {bmB : List Value} {B newId initId : String} {x : Str} {p pos : Pos} (F : ExcBaseFacts B newId initId bmB) (q : PySem.W.excIn X.K C bmB newId = true) (gC : X.mg x = some (.ref C)) (kC : PySem.W.keepIn X.K (.ref C) = true) (hg : Gl X x)
    (hdb : (x == ("__debug__" : Str)) = false := by decide) : PE X (.Call (.Name x p) [] [] pos) (tMk0 C) := by
  refine ⟨fun pins s σ H Q I h => ?_⟩
  refine wpAny_Call_Name_kw (ld_glob I hg gC ?_ hdb)
  refine PySem.W.callWith_K0 I.kIn kC ?_
  obtain ⟨bm, N, nm, qn, bs, hdct, sn, sub, ab, col, dd, k0, k1, k2, k3, k5, mN, hC, hN, hni, T⟩ := exc_obj I.kIn q
  refine wpAny_call_exc_subT F T hC hN hni (fun h' a hm => ?_) (Nat.zero_le _)
  have hn : H a = none := I.hok.gone hm.new
  obtain ⟨t, ht, _, _⟩ := hm.there
  exact ⟨.ref a, _, I.laidN hm.keeps hm.new hn (exO_ok ht ⟨rfl, rfl⟩ rfl rfl rfl (show 4 < 6 by decide)), rfl, h a hn⟩
end V1

set_option maxHeartbeats 4000000
/-! V1: try with any number of except clauses, each with or without a name -/
namespace V1
open PySem PySem.Spec PyProof.Rows L2
/-- a clause: its class, the slot of its name if it has one, its suite's reading -/
abbrev Cl : Type := Value × Option Nat × (Addr → Value → Option Addr → TS)
/-- where a suite's ends lead once the clause's name is let go of -/
def offD (i : Nat) (D : Ends) : Ends := { nx := fun σ H => D.nx (σ.set i none) H, rt := D.rt, bk := fun σ H => D.bk (σ.set i none) H, ct := fun σ H => D.ct (σ.set i none) H }
def suiteD (D : Ends) (a : Addr) (cls : Value) (d : Option Addr) (ts : Addr → Value → Option Addr → TS) (σ : L2.St) (H : Hp) : Option Nat → Prop
  | none => ts a cls d D σ H
  | some i => ts a cls d (offD i D) (σ.set i (some (.ref a))) H
/-- what the clauses wish of an exception that leaves the body -/
def wCl (K : PySem.W.Frag) (Wout : WX) (D : Ends) : List Cl → WX
  | [] => Wout
  | (c, o, ts) :: more => fun cls d σ H => ∃ yes, PySem.W.exmOne K cls c = some yes ∧ (yes = true → ∀ a, H a = none → suiteD D a cls d ts σ H o) ∧ (yes = false → wCl K Wout D more cls d σ H)
inductive Hds (X : Cx) : List ExceptHandler → List Cl → Prop
  | nil : Hds X [] []
  | plain {x : Str} {c : Value} {ts : Addr → Value → Option Addr → TS} {st : Stmt} {sts : List Stmt} {p1 p2 : Pos} {hds : List ExceptHandler} {l : List Cl} (nm : Names X x c)
      (su : ∀ (a : Addr) (oe : Obj) (cls : Value) (d : Option Addr) (pn : List (Addr × Obj)), Zc cls d oe → (∃ vs, oe.data = .fields vs) → PSs (X.suite a ((a, oe) :: pn)) (st :: sts) (ts a cls d)) (more : Hds X hds l) :
      Hds X (.ExceptHandler (some (.Name x p1)) none (st :: sts) p2 :: hds) ((c, none, ts) :: l)
  | named {x n : Str} {i : Nat} {c : Value} {ts : Addr → Value → Option Addr → TS} {st : Stmt} {sts : List Stmt} {p1 p2 : Pos} {hds : List ExceptHandler} {l : List Cl} (at_ : X.N[i]? = some n) (loc : X.env.kindOf n = some .local) (nm : Names X x c)
      (su : ∀ (a : Addr) (oe : Obj) (cls : Value) (d : Option Addr) (pn : List (Addr × Obj)), Zc cls d oe → (∃ vs, oe.data = .fields vs) → PSs (X.suite a ((a, oe) :: pn)) (st :: sts) (ts a cls d)) (more : Hds X hds l) :
      Hds X (.ExceptHandler (some (.Name x p1)) (some n) (st :: sts) p2 :: hds) ((c, some i, ts) :: l)
/-- an exception of the body that was met: all that the clauses may lean on -/
theorem ps_try_cl {X : Cx} {body : List Stmt} {hd : ExceptHandler} {hds : List ExceptHandler} {l : List Cl} {pos : Pos} {tb : WX → TS} {Wout : WX} (stk : X.stack = X.env :: X.outer) (fr : X.env.frame = some X.env.locals) (nd : X.N.Nodup) (tk : Takes X Wout)
    (hb : ∀ (W : WX) (pn : List (Addr × Obj)) (xe : Value → Shared → Prop), Takes (X.tr pn xe) W → PassesOwn (model X.prog X.w) X.A X.env xe → PSs (X.tr pn xe) body (tb W))
    (cl : Hds X (hd :: hds) l) : PS X (.Try body (hd :: hds) [] [] pos) (fun D σ H => tb (wCl X.K Wout D l) D σ H) := by
  refine ⟨fun pins s σ H D I go => ?_⟩
  have ok := I.ok
  have frames : X.A.frames = some (X.env :: X.outer) := by
    rw [ok.frames, stk]
  refine wpAny_Try_except ?_
  refine wpAny_mono ((hb (wCl X.K Wout D l) (X.pn ++ pins) (fun e z1 => wpAny (model X.prog X.w) X.A (noteFrame e X.env)
    (fun _ z2 => wpAny (model X.prog X.w) X.A (setFlight e none) (fun _ z3 => wpAny (model X.prog X.w) X.A (handleBy e X.env (hd :: hds)) (SP X pins D) X.xe z3) X.xe z2) X.xe z1)
    (fun u sE met => ?_) PassesOwn.looking).run [] s σ H D (I.toTry _) go) (fun f s1 out => ?_) (fun _ _ he => he)
  · obtain ⟨a, B, sI, pins', σ', H', cls, d, rfl, J', nb, up, sky, na, os, ag, wish⟩ := met
    have J : Inv X pins σ' H' sI := J'.ofTry ok
    have air : Sky B (X.env :: X.outer) a (Zc cls d) X.env.locals sE.heap := by
      rw [← stk]
      exact sky
    show wpAny (model X.prog X.w) X.A (noteFrame (.ref a) X.env) _ _ _
    refine Sky.land Zc.steady frames fr air fun h3 fl up3 => ?_
    have J3 : Inv X pins σ' H' { sE with heap := h3 } := J.landed nb fl.1 (up.trans up3) os ag
    obtain ⟨oe, vs, there, zc, dat⟩ := fl.there
    have off : a ∉ frs (X.env :: X.outer) := fun hm => by
      obtain ⟨_, ob, eo, hnf⟩ := fl.2.2.1.mem hm
      rw [there] at eo
      cases eo
      exact hnf _ dat
    have offL : a ≠ X.env.locals := fun z => off (List.mem_filterMap.mpr ⟨X.env, List.mem_cons_self, by rw [fr, z]⟩)
    have offF : a ∉ X.fs := fun hm => by
      obtain ⟨en, hen, q⟩ := List.mem_filterMap.mp hm
      exact off (List.mem_filterMap.mpr ⟨en, List.mem_cons_of_mem _ hen, q⟩)
    have S3 := J3.suite there dat na offL offF
    -- one clause's test
    have ask : ∀ {x : Str} {c : Value} {p1 : Pos} {Q : Value → Shared → Prop} {E : Value → Shared → Prop}, Names X x c → Q c { sE with heap := h3 } →
        wpAny (model X.prog X.w) (X.A.mark (some (.ref a))) (eval (.Name x p1) X.env) Q E { sE with heap := h3 } := fun {x c p1 Q E} nm q => by
      obtain ⟨g, nodebug, m | ⟨m, bv, notname⟩⟩ := nm
      · exact ld_glob (X := X.suite a ((a, oe) :: (X.pn ++ pins))) S3 g m q nodebug
      · exact ld_blt (X := X.suite a ((a, oe) :: (X.pn ++ pins))) S3 g m bv q notname nodebug
    have typ : PySem.W.Looks (model X.prog X.w) h3 (typeOf (.ref a)) cls := fun _ _ _ z k q => wpAny_typeOf_ref (k _ _ there) (by rw [zc.1]; exact q)
    have through : ∀ {hs : List ExceptHandler} {ls : List Cl}, Hds X hs ls → wCl X.K Wout D ls cls d σ' H' →
        wpAny (model X.prog X.w) X.A (handleBy (.ref a) X.env hs) (SP X pins D) X.xe { sE with heap := h3 } := by
      intro hs ls hk
      induction hk with
      | nil =>
        intro w
        refine wpAny_handleBy_nil ?_
        obtain ⟨_, _, _, ob, us, T, _, _, e1, _, e3, e4, _⟩ := id fl
        unfold PySem.passOn
        refine wpAny_bind (wpAny_field e1 e3 e4 ?_)
        rw [if_neg (show ¬ ((Value.ref T == Value.none) = true) from by simp)]
        have last : wpAny (model X.prog X.w) X.A (setFlight (.ref a) X.env.frame) (fun _ z => wpAny (model X.prog X.w) X.A (throw (.ref a) : Sem Flow) (SP X pins D) X.xe z) X.xe { sE with heap := h3 } := by
          rw [fr]
          refine HandSPX.setFlight_upZ fl fun h4 held up4 => wpAny_throw (tk _ _ ?_)
          refine ⟨a, B, sI, pins, σ', H', cls, d, rfl, J, nb, (up.trans up3).trans up4, .inr (.inr ?_), na, os, ag, w⟩
          rw [stk]
          exact held
        first
          | exact wpAny_bind (wpAny_pure (wpAny_bind last))
          | exact wpAny_bind last
      | @plain x c ts st sts p1 p2 hs2 ls2 nm su more ih =>
        intro w
        obtain ⟨yes, hy, onYes, onNo⟩ := w
        refine wpAny_handleBy_cons (codeAny_handlers_test ?_) (by intro q; cases q)
        refine ask nm ((PySem.W.exm_one (M := model X.prog X.w) J3.kIn typ hy).here ?_)
        cases yes with
        | false => exact ih (onNo rfl)
        | true =>
          refine codeAny_handlers_suite ?_
          refine HandSPX.lands_againZ fl fun h4 fl4 up4 => ?_
          have J4 : Inv X pins σ' H' { sE with heap := h4 } := J.landed nb fl4.1 ((up.trans up3).trans up4) os ag
          obtain ⟨oe4, vs4, th4, zc4, dat4⟩ := fl4.there
          refine wpAny_mono ((su a oe4 cls d (X.pn ++ pins) zc4 ⟨_, dat4⟩).run [] _ _ H' _ (J4.suite th4 dat4 na offL offF) (onYes rfl a na)) (fun f s6 out => ?_) (fun _ _ z => False.elim z)
          cases f with
          | next => exact let ⟨_, _, S6, q6⟩ := out; ⟨_, _, S6.unsuite ok, q6⟩
          | brk => exact let ⟨_, _, S6, q6⟩ := out; ⟨_, _, S6.unsuite ok, q6⟩
          | cont => exact let ⟨_, _, S6, q6⟩ := out; ⟨_, _, S6.unsuite ok, q6⟩
          | ret u => exact let ⟨_, _, _, S6, r6, q6⟩ := out; ⟨_, _, _, S6.unsuite ok, r6, q6⟩
      | @named x n i c ts st sts p1 p2 hs2 ls2 at_ loc nm su more ih =>
        intro w
        obtain ⟨yes, hy, onYes, onNo⟩ := w
        refine wpAny_handleBy_cons (codeAny_handlers_test ?_) (by intro q; cases q)
        refine ask nm ((PySem.W.exm_one (M := model X.prog X.w) J3.kIn typ hy).here ?_)
        cases yes with
        | false => exact ih (onNo rfl)
        | true =>
          refine codeAny_handlers_suite_as ?_
          refine HandSPX.lands_againZ fl fun h4 fl4 up4 => ?_
          have J4 : Inv X pins σ' H' { sE with heap := h4 } := J.landed nb fl4.1 ((up.trans up3).trans up4) os ag
          obtain ⟨oe4, vs4, th4, zc4, dat4⟩ := fl4.there
          refine store_ok (X := X.suite a ((a, oe4) :: (X.pn ++ pins))) (v := .ref a) (J4.suite th4 dat4 na offL offF) nd at_ (.inl loc) rfl (fun s5 S5 => ?_) (.inr loc)
          refine wpAny_mono ((su a oe4 cls d (X.pn ++ pins) zc4 ⟨_, dat4⟩).run [] s5 _ H' _ S5 (onYes rfl a na)) (fun f s6 out => ?_) (fun _ _ z => False.elim z)
          have gone : ∀ {σ6 : L2.St} {H6 : Hp} {Q : Shared → Prop}, Inv (X.suite a ((a, oe4) :: (X.pn ++ pins))) [] σ6 H6 s6 → (∀ s7, Inv X pins (σ6.set i none) H6 s7 → Q s7) →
              wpAny (model X.prog X.w) X.A (do bindName X.env n .none; unbindBehindTheSuite X.env n p2) (fun _ s7 => Q s7) X.xe s6 := fun S6 hq => gone_ok (S6.unsuite ok) nd at_ loc hq
          cases f with
          | next => exact let ⟨_, _, S6, q6⟩ := out; gone S6 fun s7 J7 => ⟨_, _, J7, q6⟩
          | brk => exact let ⟨_, _, S6, q6⟩ := out; gone S6 fun s7 J7 => ⟨_, _, J7, q6⟩
          | cont => exact let ⟨_, _, S6, q6⟩ := out; gone S6 fun s7 J7 => ⟨_, _, J7, q6⟩
          | ret u => exact let ⟨_, _, _, S6, r6, q6⟩ := out; gone S6 fun s7 J7 => ⟨_, _, _, J7, r6, q6⟩
    exact through cl wish
  · cases f with
    | next => exact let ⟨_, _, J, q⟩ := out; wpAny_execs_nil ⟨_, _, J.ofTry ok, q⟩
    | brk => exact let ⟨_, _, J, q⟩ := out; ⟨_, _, J.ofTry ok, q⟩
    | cont => exact let ⟨_, _, J, q⟩ := out; ⟨_, _, J.ofTry ok, q⟩
    | ret u => exact let ⟨_, _, _, J, r, q⟩ := out; ⟨_, _, _, J.ofTry ok, r, q⟩
end V1

set_option maxHeartbeats 4000000
/-! V1: the law's own def, run at the caller of all (nothing is being shown there), and the end over a head by facts -/
namespace V1
open PySem PySem.Spec PyProof.Rows L2
section
variable {P : Program} {w : World} {K : PySem.W.Frag} {mg : Str → Option Value} {base : Heap} {k : Nat} {f : Addr} {fd : FuncData} {x : Str} {sp : Sp}
/-- the law's def keeps sp, called where nothing is being shown; nothing leaves it -/
def LawOk (P : Program) (w : World) (K : PySem.W.Frag) (mg : Str → Option Value) (base : Heap) (f : Addr) (fd : FuncData) (x : Str) (sp : Sp) : Prop :=
  ∀ (s : Shared) (H : Hp) (u : Value) (v : V) (Q : VK), Env0 P w K mg base callerA [] s H → BindsTo s fd ⟨[u], []⟩ [(x, u)] → RelV v u → sp [v] H Q (fun _ _ _ => False) →
    codeAny (model P w) callerA (.call (.ref f) ⟨[u], []⟩) (CR CX0 [] P w H s Q (fun _ _ _ => False)) s
theorem lawOk_of {name qual : Str} {params : Arguments} {body : List Stmt} {scope : Scope} {N : List Str} (F : FunD K name qual params body scope [] [] f fd) (S : FnScope N [x] scope)
    (room : Room (k + 1) callerA)
    (go : ∀ (cdv : Value) (s : Shared) (H : Hp) (v : V) (Q : VK), Room k (callerA.deeper (envOfC qual scope s.heap.objs.size f cdv)) → (callerA.deeper (envOfC qual scope s.heap.objs.size f cdv)).guards = some [] → sp [v] H Q (fun _ _ _ => False) →
      ∃ t, PSs (cxOf CX0 P w K mg base N qual scope f cdv callerA [] s H (fun _ _ _ => False)) body t ∧ t { nx := fun _ H' => Q .non H', rt := Q } (start N [v]) H) :
    LawOk P w K mg base f fd x sp := by
  intro s H u v Q e0 bind rv hs
  obtain ⟨oc, od, dV, kV, doc, pm, an, cdv, ct, osl, rfl, lk, cd, _, _⟩ := F.ex
  have inK : K.In s.heap := e0.mod.kin.keeps fun b o e => (e0.bs b o e).1
  have free : s.heap.NoLimit := e0.mod.nolimit.keeps fun b o e => (e0.bs b o e).1
  have kinds : ∀ y ∈ [(x, u)], scope.names.lookup y.1 = some .local ∨ (scope.names.lookup y.1 = some .cell ∧ ((cellsFrom (s.heap.objs.size + 1) scope.names []).lookup y.1).isSome = true) := by
    intro y hy
    obtain rfl := List.mem_singleton.mp hy
    rcases S.par x (List.mem_singleton.mpr rfl) with q | q
    · exact .inl q
    · exact .inr ⟨q, PySem.W.cellsFrom_some _ _ _ (.inl q)⟩
  refine codeAny_call_function room.depth (inK _ _ lk) rfl S.co S.gen rfl (PySem.W.codeRec_of inK cd) (bind _ _ _ _ ?_)
  refine wpAny_newFunctionEnv_cells S.kind kinds fun env he s1 z => ?_
  subst he
  refine ⟨free.keeps z.toInCall.keep, codeAny_func ?_⟩
  obtain ⟨t, ht, hq⟩ := go cdv s H v Q (room.deeper _) rfl hs
  have I : Inv (cxOf CX0 P w K mg base N qual scope f cdv callerA [] s H (fun _ _ _ => False)) [] (start N [v]) H s1 := inv_start (us := [u]) (ps := [x]) S room.hd e0 rfl (.cons rv .nil) z
  refine wpAny_mono (ht.run [] s1 _ H _ I hq) (fun fl s' out => ?_) fun _ _ z => z
  cases fl with
  | ret u' => exact let ⟨v', _, H', J, r', q⟩ := out; ⟨v', H', J.os, J.bare, J.base, J.hok, r', q⟩
  | next => exact let ⟨_, H', J, q⟩ := out; ⟨.non, H', J.os, J.bare, J.base, J.hok, rfl, q⟩
  | brk => exact let ⟨_, _, _, q⟩ := out; q.elim
  | cont => exact let ⟨_, _, _, q⟩ := out; q.elim
end
/-- from the state at the claim's call -/
theorem law_run {P : Program} {w : World} {K : PySem.W.Frag} {mg mb : Str → Option Value} {fa a : Addr} {fd : FuncData} {x : Str} {sp : Sp} {s : Shared} {vs : List Value} {ns : List Int}
    (KX : K.In s.heap) (gl : s.heap.Ns mainGlobals mg) (bl : s.heap.Ns builtinsNs mb) (boot : ∀ y : Str, y ≠ "__name__" → mb y = bootBuiltins y) (free : s.heap.NoLimit) (gens : s.gens = #[])
    (ha : s.heap.get? a = some { cls := .type "list", data := .seq vs.toArray }) (hints : IntsAre vs ns) (short : ns.length ≤ sizeLine)
    (F : ∀ base : Heap, K.In base → base.Ns mainGlobals mg → LawOk P w K mg base fa fd x sp) (bind : ∀ (s : Shared) (u : Value), BindsTo s fd ⟨[u], []⟩ [(x, u)])
    (hs : ∀ H : Hp, Only H → SqL K H a (ns.map V.int) → sp [.ref a] H (fun v _ => v = .bl true) (fun _ _ _ => False)) :
    codeAny (model P w) callerA (.call (.ref fa) ⟨[.ref a], []⟩) (fun r s' => r = .ok (.ret (.bool true)) ∧ OldK s.heap s'.heap ∧ s'.os = s.os ∧ AllBare s'.gens) s := by
  have rel := vals_ints hints
  have count := hints.length
  let ob : Obj := { cls := .type "list", data := .seq vs.toArray }
  have main : ∀ H : Hp, Only H → SqL K H a (ns.map V.int) → HOk P w H s.heap → (∀ b, H b ≠ none → b = a) → (H a ≠ none → K.lookup a = none) →
      codeAny (model P w) callerA (.call (.ref fa) ⟨[.ref a], []⟩) (fun r s' => r = .ok (.ret (.bool true)) ∧ OldK s.heap s'.heap ∧ s'.os = s.os ∧ AllBare s'.gens) s := by
    intro H only seq hok just notK
    let B := hidT s.heap H
    have noDict : ∀ {b : Addr} {o : Obj} {es : Array DictEntry} {ep : Nat}, s.heap.get? b = some o → o.data = .dict es ep → H b = none := fun {b o es ep} e d => by
      cases q : H b with
      | none => rfl
      | some _ =>
        obtain rfl : b = a := just b (by rw [q]; simp)
        rw [ha] at e
        cases e
        cases (show Data.seq vs.toArray _ = Data.dict es ep from d)
    have space : ∀ {b : Addr} {m : Str → Option Value}, s.heap.Ns b m → B.Ns b m := fun {b m} ⟨o, es, ep, e, d, r⟩ => ⟨o, es, ep, hidT_get e (noDict e d), d, r⟩
    have KB : K.In B := fun b o e => hidT_get (KX b o e) (by
      cases q : H b with
      | none => rfl
      | some _ =>
        obtain rfl : b = a := just b (by rw [q]; simp)
        rw [notK (by rw [q]; simp)] at e
        cases e)
    have M : Mod K mg B := ⟨KB, space gl, ⟨mb, space bl, boot⟩, let ⟨mc, h1, h2⟩ := free; ⟨mc, space h1, h2⟩⟩
    have e0 : Env0 P w K mg B callerA [] s H := ⟨rfl, M, fun b o e => of_hidT e, Nat.le_of_eq (hidT_size _ _), trivial, fun b hb => absurd (show b ∈ ([] : List Addr) from hb) List.not_mem_nil, hok, .of_eq gens⟩
    refine codeAny_mono (F B KB (space gl) s H (.ref a) (.ref a) _ e0 (bind s (.ref a)) rfl (hs H only seq)) fun r s' out => ?_
    cases r with
    | error e => exact False.elim out
    | ok fl =>
      cases fl with
      | next => exact False.elim out
      | brk => exact False.elim out
      | cont => exact False.elim out
      | ret u =>
        obtain ⟨v, H', os, bare, un, hok', rv, q⟩ := out
        obtain rfl : v = .bl true := q
        obtain rfl : u = Value.bool true := rv
        refine ⟨rfl, OldK.of_keep fun b o e => ?_, os, bare⟩
        cases q : H b with
        | none => exact un.keep b o e q (fun z => absurd (show b ∈ ([] : List Addr) from z) List.not_mem_nil) List.not_mem_nil
        | some _ =>
          rcases only b with z | ⟨o2, xs, z⟩
          · rw [q] at z
            cases z
          · obtain ⟨g1, _⟩ := hok b _ z
            obtain ⟨g2, _⟩ := hok' b _ (un.frzs b o2 _ z)
            rw [e] at g1
            cases g1
            exact g2
  cases lk : K.lookup a with
  | some o =>
    have e := KX a o lk
    rw [ha] at e
    cases e
    exact main (fun _ => none) (fun _ => .inl rfl) (.inr ⟨_, vs.toArray, _, lk, rfl, rfl, rfl, by rw [List.size_toArray, count]; exact short, by simpa using rel⟩) (fun b u z => nomatch (show (none : Option HO) = some u from z)) (fun b z => absurd rfl z) fun z => absurd rfl z
  | none =>
    let H1 : Hp := fun b => if b = a then some (.frz ob (.lst (ns.map V.int))) else none
    have atA : H1 a = some (.frz ob (.lst (ns.map V.int))) := if_pos rfl
    have offA : ∀ {b : Addr}, b ≠ a → H1 b = none := fun hb => if_neg hb
    refine main H1 (fun b => ?_) (.inl (.inr ⟨ob, atA⟩)) (fun b u z => ?_) (fun b z => ?_) fun _ => lk
    · by_cases hb : b = a
      · exact .inr ⟨_, _, by rw [hb]; exact atA⟩
      · exact .inl (offA hb)
    · by_cases hb : b = a
      · subst hb
        cases atA.symm.trans z
        exact ⟨ha, by rw [List.length_map]; exact short, vs, _, rel, ha⟩
      · exact nomatch (offA hb).symm.trans z
    · by_cases hb : b = a
      · exact hb
      · exact absurd (offA hb) z
theorem walk_law {l : PySem.W.OpenLaw} {n : Nat} {q : Program} {loose : List Str} {XP : (Str → Option Value) → Heap → Prop} {YP : World → Heap → Prop} {d : DefRec} {x : Str} (hn : l.most = some n) (hz : n ≤ sizeLine) (noDfl : d.params.defaults = [])
    (F : ∀ (w : World) (mg : Str → Option Value) (fa : Addr) (h : Heap), YP w h → h.Ns mainGlobals mg → mg d.name = some (.ref fa) → ∃ (K : PySem.W.Frag) (fd : FuncData) (sp : Sp), K.In h ∧ (∀ (s : Shared) (u : Value), BindsTo s fd ⟨[u], []⟩ [(x, u)]) ∧
      (∀ (H : Hp) (a : Addr) (ns : List Int), ns.length ≤ n → Only H → SqL K H a (ns.map V.int) → sp [.ref a] H (fun v _ => v = .bl true) fun _ _ _ => False) ∧
      ∀ base : Heap, K.In base → base.Ns mainGlobals mg → LawOk l.prog w K mg base fa fd x sp) :
    PySem.W.WalkO q loose XP YP l.row.toRowW d [] (fun f vs => PySem.call f vs) := by
  refine Att.attach_call hn noDfl fun w s₀ s₁ mg mb fa o pm cd doc a vs ns G Y ho hd hcd hmg hobj hints short gens => ?_
  obtain ⟨K, fd, sp, KX, bind, hs, hF⟩ := F w mg fa _ Y G.T.g hmg
  exact law_run KX G.T.g G.T.b G.T.builtins G.T.nolimit gens hobj hints (Nat.le_trans short hz) hF bind fun H only seq => hs H a ns short only seq
end V1

set_option maxHeartbeats 4000000
/-! V1e: what K00's files had in the namespace V1, for other laws -/
namespace V1
open PySem PySem.Spec PyProof.Rows L2
/-- the def that the module's name x stands for keeps sp -/
def Has (P : Program) (w : World) (K : PySem.W.Frag) (mg : Str → Option Value) (base : Heap) (CX : CXT) (k : Nat) (x : Str) (ps : List Str) (sp : Sp) : Prop :=
  ∃ fd, FnOk P w K mg base CX k (He.ga K x) fd ps sp ∧ Binds K fd ps [] ∧ PySem.W.keepIn K (.ref (He.ga K x)) = true ∧ mg x = some (.ref (He.ga K x))
theorem pe_has {X : Cx} {CX : CXT} {k : Nat} {x : Str} {ps : List Str} {sp : Sp} {E : XK} {e : Expr} {es : List Expr} {t : TA} {p pos : Pos} (h : Has X.prog X.w X.K X.mg X.base CX k x ps sp) (hr : Room k X.A) (hx : Passes CX X E) (ha : PA X (e :: es) t) (hg : Gl X x := by rfl)
    (hdb : (x == ("__debug__" : Str)) = false := by decide) (he : starEach (e :: es) X.env = (false, eval e X.env) :: starEach es X.env := by rfl) (hpl : (backTo pos (starEach es X.env)).any (·.1) = false := by rfl) :
    PE X (.Call (.Name x p) (e :: es) [] pos) (tCall sp [] E t) := by
  obtain ⟨fd, F, b, kp, g⟩ := h
  exact pe_call F hr hg g kp b .nil hx ha hdb he hpl
theorem pe_has0 {X : Cx} {CX : CXT} {k : Nat} {x : Str} {ps : List Str} {sp : Sp} {E : XK} {p pos : Pos} (h : Has X.prog X.w X.K X.mg X.base CX k x ps sp) (hr : Room k X.A) (hx : Passes CX X E) (hg : Gl X x := by rfl)
    (hdb : (x == ("__debug__" : Str)) = false := by decide) : PE X (.Call (.Name x p) [] [] pos) (tCall sp [] E tNil) := by
  obtain ⟨fd, F, b, kp, g⟩ := h
  exact pe_call0 F hr hg g kp b .nil hx hdb
theorem delH_upd {H : Hp} {a : Addr} {o : HO} : delH (upd H a o) a = delH H a := by
  funext b
  by_cases e : b = a
  · rw [e, delH_same, delH_same]
  · rw [delH_ne e, delH_ne e, upd_ne e]
theorem delH_updN {H : Hp} {a p : Addr} {o : HO} (h : p ≠ a) : delH (upd H p o) a = upd (delH H a) p o := by
  funext b
  by_cases e : b = a
  · rw [e, delH_same, upd_ne (Ne.symm h), delH_same]
  · rw [delH_ne e]
    by_cases z : b = p
    · rw [z, upd_same, upd_same]
    · rw [upd_ne z, upd_ne z, delH_ne e]
theorem same_new {H : Hp} {p : Addr} {o : HO} (h : H p = none) : Same H (upd H p o) := fun b x e => by
  rw [upd_ne (ne_of_none e h)]
  exact e
theorem same_delH {H : Hp} {a : Addr} : Same (delH H a) H := fun b o e => by
  by_cases z : b = a
  · rw [z, delH_same] at e
    cases e
  · rw [delH_ne z] at e
    exact e
theorem same_del {H H' : Hp} {a : Addr} (h : Same H H') : Same (delH H a) (delH H' a) := fun b o e => by
  by_cases z : b = a
  · rw [z, delH_same] at e
    cases e
  · rw [delH_ne z] at e ⊢
    exact h b o e
end V1
namespace V1
open PySem PySem.Spec PyProof.Rows L2
/-- [..], its place told not to be the table of modules -/
def tLstS (t : TA) : TE := fun σ H Q => t σ H fun xs H1 => xs.length ≤ sizeLine ∧ ∀ p, H1 p = none → (p == sysModules) = false → Q (.ref p) (upd H1 p (.lst xs))
theorem pe_lstS {X : Cx} {es : List Expr} {t : TA} {pos : Pos} (h : PA X es t) : PE X (.List es pos) (tLstS t) := by
  constructor
  intro pins s σ H Q I hq
  apply wpAny_List_spliced
  apply thn (h.run pos pins s σ H _ I hq)
  rintro us s1 ⟨xs, H1, J, rv, z, q⟩
  have lenU : us.length ≤ sizeLine := rv.length ▸ z
  refine ⟨lenU, .ref s1.heap.objs.size, _, ?_, rfl, q _ (J.hok.fresh (Nat.le_refl _)) (beq_eq_false_iff_ne.mpr (Nat.ne_of_gt J.big))⟩
  exact J.laid (o := .lst xs) (t' := s1.toks) (fun _ _ e => Heap.get?_push_of_some _ e) (Nat.le_refl _) ⟨z, us, 0, rv, Heap.get?_push_size _ rfl⟩
/-- the hand at a stands -/
def Held (H : Hp) (a : Addr) : Prop := ∃ o, H a = some o
theorem Held.same {H H' : Hp} {a : Addr} (h : Held H a) (s : Same H H') : Held H' a := let ⟨o, e⟩ := h; ⟨o, s _ _ e⟩
theorem Held.off {H H' : Hp} {a p : Addr} {o : HO} (h : Held H a) (n : H p = none) (e : H' p = some o) : (delH H' a) p = some o := by
  obtain ⟨u, hu⟩ := h
  rw [delH_ne (Ne.symm (ne_of_none hu n))]
  exact e
/-- te makes this data beside what stands at a -/
def Mk (te : TE) (σ : L2.St) (a : Addr) (d : PyData) : Prop := ∀ H, Held H a → ∀ Q : VK, (∀ v H', Same H H' → Dq (delH H' a) v d → Q v H') → te σ H Q
def MkA (ta : TA) (σ : L2.St) (a : Addr) (ds : List PyData) : Prop := ∀ H, Held H a → ∀ Q : List V → Hp → Prop, (∀ vs H', Same H H' → DqAll (delH H' a) vs ds → Q vs H') → ta σ H Q
section
variable {σ : L2.St} {a : Addr} {d : PyData} {ds : List PyData} {te : TE} {ta : TA}
theorem mk_non : Mk (tC .non) σ a .none := fun H _ _ k => k _ H (Same.refl H) .non
theorem mk_bl (b : Bool) : Mk (tC (.bl b)) σ a (.bool b) := fun H _ _ k => k _ H (Same.refl H) (.bl b)
theorem mk_int (i : Int) : Mk (tC (.int i)) σ a (.int i) := fun H _ _ k => k _ H (Same.refl H) (.int i)
theorem mk_str (x : Str) : Mk (tC (.str x)) σ a (.str x) := fun H _ _ k => k _ H (Same.refl H) (.str x)
theorem mka_nil : MkA tNil σ a [] := fun H _ _ k => k [] H (Same.refl H) .nil
theorem mka_cons (h : Mk te σ a d) (r : MkA ta σ a ds) : MkA (tCons te ta) σ a (d :: ds) := fun H hh _ k => h H hh _ fun v H1 s1 q1 => r H1 (hh.same s1) _ fun vs H2 s2 q2 => k (v :: vs) H2 (s1.trans s2) (.cons (Dq.same (same_del s2) d v q1) q2)
theorem dqAll_len {H : Hp} : ∀ {vs : List V} {ds : List PyData}, DqAll H vs ds → vs.length = ds.length
  | _, [], .nil => rfl
  | _, _ :: _, .cons _ m => congrArg (· + 1) (dqAll_len m)
theorem mk_tup (r : MkA ta σ a ds) (hz : ds.length ≤ 1000) : Mk (tTup ta) σ a (.tuple ds) := fun H hh _ k => r H hh _ fun vs H1 s1 q1 =>
  ⟨Nat.le_of_lt (small1000 (by rw [dqAll_len q1]; exact hz)), fun p n => k _ _ (s1.trans (same_new n)) (.tup ((hh.same s1).off n upd_same) (DqAll.same (same_del (same_new n)) ds vs q1))⟩
theorem mk_lst (r : MkA ta σ a ds) (hz : ds.length ≤ 1000) : Mk (tLstS ta) σ a (.list ds) := fun H hh _ k => r H hh _ fun vs H1 s1 q1 =>
  ⟨Nat.le_of_lt (small1000 (by rw [dqAll_len q1]; exact hz)), fun p n low => k _ _ (s1.trans (same_new n)) (.lst ((hh.same s1).off n upd_same) low (DqAll.same (same_del (same_new n)) ds vs q1))⟩
theorem mk_dict0 : Mk tDNewK σ a (.dict []) := fun H hh _ k p n => k _ _ (same_new n) (.dct (hh.off n upd_same) .nil)
/-- a written dict of one text key and an int -/
theorem mk_dict1 (x : Str) (i : Int) : Mk (tDisp [(tC (.str x), tC (.int i))]) σ a (.dict [(.str x, .int i)]) := fun H hh _ k p n =>
  ⟨upd_same, [(.inr x, .int i)], rfl, (by show 1 ≤ 15; decide), by
    rw [upd_upd]
    exact k _ _ (same_new n) (.dct (kvs := [(.inr x, .int i)]) (hh.off n upd_same) (.cons (k := .inr x) (.int i) .nil))⟩
theorem DqAll.get {H : Hp} : ∀ {vs : List V} {ds : List PyData} {j : Nat} {d : PyData}, DqAll H vs ds → ds[j]? = some d → ∃ v, vs[j]? = some v ∧ Dq H v d
  | _, _ :: _, 0, _, .cons one _, e => ⟨_, rfl, by
    obtain rfl := Option.some.inj e
    exact one⟩
  | _, _ :: _, j + 1, _, .cons _ more, e => DqAll.get (j := j) more e
/-- an item of a written list of data, its place from an int -/
theorem mk_pick {K : PySem.W.Frag} {ti : TE} {H : Hp} {Q : VK} {j : Nat} (r : MkA ta σ a ds) (hz : ds.length ≤ 1000) (hh : Held H a) (hi : ∀ H1, Same H H1 → ∀ Q : VK, Q (.int j) H1 → ti σ H1 Q) (hj : j < ds.length)
    (k : ∀ v H', Same H H' → Dq (delH H' a) v ds[j] → Q v H') : tOp (rIxL K) (tLstS ta) ti σ H Q := r H hh _ fun vs H1 s1 q1 =>
  ⟨Nat.le_of_lt (small1000 (by rw [dqAll_len q1]; exact hz)), fun p n _ => by
    obtain ⟨v, hv, dv⟩ := DqAll.get q1 (List.getElem?_eq_getElem hj)
    have s2 := s1.trans (same_new (o := .lst vs) n)
    exact hi _ s2 _ ⟨p, vs, j, v, rfl, rfl, .inl (.inl upd_same), atI_nat hv, k v _ s2 (Dq.same (same_del (same_new n)) _ v dv)⟩⟩
end
structure Good (d : PyData) (b n : Nat) : Prop where
  sh : d.showable = true
  dp : d.depth ≤ b
  ln : d.shown.length ≤ n
theorem Good.mono {d : PyData} {b n b' n' : Nat} (h : Good d b n) (h1 : b ≤ b') (h2 : n ≤ n') : Good d b' n' := ⟨h.sh, Nat.le_trans h.dp h1, Nat.le_trans h.ln h2⟩
theorem good_int {i : Int} (h0 : 0 ≤ i) (h : i < 10 ^ 6) : Good (.int i) 0 6 := by
  refine ⟨?_, Nat.le_refl _, toString_length_le h0 (by decide) h⟩
  have z : i.natAbs < 2 ^ 20 := by omega
  have e : i.natAbs.log2 < 1920 := by
    by_cases hz : i.natAbs = 0
    · rw [hz]
      decide
    · exact Nat.lt_trans ((Nat.log2_lt hz).mpr z) (by decide)
  simpa [PyData.showable] using e
theorem good_list2 {d e : PyData} {b c n m : Nat} (hd : Good d b n) (he : Good e c m) : Good (.list [d, e]) (max b c + 1) (n + m + 4) := by
  refine ⟨?_, ?_, ?_⟩
  · simp only [PyData.showable, PyData.showableAll, hd.sh, he.sh, Bool.and_self]
  · simp only [PyData.depth, PyData.depthAll]
    have h1 := hd.dp
    have h2 := he.dp
    omega
  · have q : (PyData.list [d, e]).shown = ((((Str.ofString "[" ++ Str.ofString "") ++ d.shown) ++ Str.ofString ", ") ++ e.shown) ++ Str.ofString "]" := by
      simp only [PyData.shown, PyData.shownAll]
      rfl
    rw [q]
    simp only [strLen_append]
    have h1 := hd.ln
    have h2 := he.ln
    have k1 : (Str.ofString "[").length = 1 := by decide
    have k2 : (Str.ofString "").length = 0 := by decide
    have k3 : (Str.ofString ", ").length = 2 := by decide
    have k4 : (Str.ofString "]").length = 1 := by decide
    omega
theorem good_tup2 {d e : PyData} {b c n m : Nat} (hd : Good d b n) (he : Good e c m) : Good (.tuple [d, e]) (max b c + 1) (n + m + 4) := by
  refine ⟨?_, ?_, ?_⟩
  · simp only [PyData.showable, PyData.showableAll, hd.sh, he.sh, Bool.and_self]
  · simp only [PyData.depth, PyData.depthAll]
    have h1 := hd.dp
    have h2 := he.dp
    omega
  · have q : (PyData.tuple [d, e]).shown = (Str.ofString "(" ++ Str.join ", " [d.shown, e.shown]) ++ Str.ofString ")" := by
      simp only [PyData.shown, PyData.shownAll]
      rfl
    rw [q]
    simp only [strLen_append]
    have h1 := hd.ln
    have h2 := he.ln
    have j := join_length_add [d.shown, e.shown] (by simp)
    have p : piled [d.shown, e.shown] = d.shown.length + 2 + (e.shown.length + 2) := by simp [piled]
    have k1 : (Str.ofString "(").length = 1 := by decide
    have k2 : (Str.ofString ")").length = 1 := by decide
    omega
end V1
namespace V1
open PySem PySem.Spec PyProof.Rows L2
/-- an exception's class, and its fields if it has some -/
abbrev Kd : Type := Addr × Option (List (Str × V))
inductive ExAll (H : Hp) : List V → List Kd → Prop
  | nil : ExAll H [] []
  | cons {a : Addr} {k : Kd} {vs : List V} {ks : List Kd} (one : IsEx H a k.1 k.2) (more : ExAll H vs ks) : ExAll H (.ref a :: vs) (k :: ks)
theorem ExAll.same {H H' : Hp} (e : Same H H') : ∀ {vs : List V} {ks : List Kd}, ExAll H vs ks → ExAll H' vs ks
  | _, _, .nil => .nil
  | _, _, .cons one more => .cons (one.same e) (more.same e)
theorem ExAll.len {H : Hp} : ∀ {vs : List V} {ks : List Kd}, ExAll H vs ks → vs.length = ks.length
  | _, _, .nil => rfl
  | _, _, .cons _ more => congrArg (· + 1) more.len
theorem ExAll.app {H : Hp} : ∀ {vs us : List V} {ks ls : List Kd}, ExAll H vs ks → ExAll H us ls → ExAll H (vs ++ us) (ks ++ ls)
  | _, _, _, _, .nil, h => h
  | _, _, _, _, .cons one more, h => .cons one (more.app h)
theorem ExAll.get {H : Hp} : ∀ {vs : List V} {ks : List Kd} {j : Nat} {k : Kd}, ExAll H vs ks → ks[j]? = some k → ∃ a, vs[j]? = some (.ref a) ∧ IsEx H a k.1 k.2
  | _, _, 0, _, .cons one _, e => ⟨_, rfl, by
    obtain rfl := Option.some.inj e
    exact one⟩
  | _, _, j + 1, _, .cons _ more, e => more.get (j := j) e
/-- te makes an exception of this kind -/
def MkE (te : TE) (σ : L2.St) (k : Kd) : Prop := ∀ (H : Hp) (Q : VK), (∀ a H', Same H H' → IsEx H' a k.1 k.2 → Q (.ref a) H') → te σ H Q
def MkEs (ta : TA) (σ : L2.St) (ks : List Kd) : Prop := ∀ (H : Hp) (Q : List V → Hp → Prop), (∀ vs H', Same H H' → ExAll H' vs ks → Q vs H') → ta σ H Q
section
variable {σ : L2.St} {k : Kd} {ks ls : List Kd} {te : TE} {ta tb : TA}
theorem mke_nil : MkEs tNil σ [] := fun H _ q => q [] H (Same.refl H) .nil
theorem mke_cons (h : MkE te σ k) (r : MkEs ta σ ks) : MkEs (tCons te ta) σ (k :: ks) := fun H _ q => h H _ fun a H1 s1 e1 => r H1 _ fun vs H2 s2 e2 => q _ H2 (s1.trans s2) (.cons (e1.same s2) e2)
theorem mke_bare (C : Addr) : MkE (tMk0 C) σ (C, none) := fun H _ q a n => q a _ (same_new n) upd_same
/-- a list of them -/
def MkEL (te : TE) (σ : L2.St) (ks : List Kd) : Prop := ∀ (H : Hp) (Q : VK), (∀ p vs H', Same H H' → H p = none → H' p = some (.lst vs) → ExAll H' vs ks → Q (.ref p) H') → te σ H Q
theorem fresh_up {H H' : Hp} {p : Addr} (s : Same H H') (n : H' p = none) : H p = none := by
  cases e : H p with
  | none => rfl
  | some o =>
    rw [s p o e] at n
    cases n
theorem mkel_lst (r : MkEs ta σ ks) (hz : ks.length ≤ 1000) : MkEL (tLst ta) σ ks := fun H _ q => r H _ fun vs H1 s1 e1 =>
  ⟨Nat.le_of_lt (small1000 (by rw [e1.len]; exact hz)), fun p n => q p vs _ (s1.trans (same_new n)) (fresh_up s1 n) upd_same (e1.same (same_new n))⟩
theorem mkel_go {H : Hp} {Q : VK} (r : MkEs ta σ ks) (hz : ks.length ≤ 1000) (q : ∀ p vs H', Same H H' → H p = none → H' p = some (.lst vs) → ExAll H' vs ks → Q (.ref p) H') : tLst ta σ H Q := mkel_lst r hz H Q q
theorem q_mkel {H : Hp} {D : Ends} {tz : TS} {i : Nat} (r : MkEs ta σ ks) (hz : ks.length ≤ 1000) (k : ∀ p vs H', Same H H' → H p = none → H' p = some (.lst vs) → ExAll H' vs ks → tz D (σ.set i (some (.ref p))) H') :
    tSeq (tAsg (tLst ta) (gName i)) tz D σ H := by
  show tLst ta σ H fun v H' => tz D (σ.set i (some v)) H'
  exact mkel_lst r hz H _ k
/-- a list of what is told wherever G holds -/
def Bs (ta : TA) (σ : L2.St) (G : Hp → Prop) (vs : List V) : Prop := ∀ H, G H → ∀ Q : List V → Hp → Prop, Q vs H → ta σ H Q
theorem bs_nil {G : Hp → Prop} : Bs tNil σ G [] := fun H _ _ q => q
theorem bs_cons {G : Hp → Prop} {v : V} {vs : List V} (h : ∀ H, G H → ∀ Q : VK, Q v H → te σ H Q) (r : Bs ta σ G vs) : Bs (tCons te ta) σ G (v :: vs) := fun H g _ q => h H g _ (r H g _ q)
theorem q_bs {H : Hp} {D : Ends} {tz : TS} {i : Nat} {G : Hp → Prop} {vs : List V} (b : Bs ta σ G vs) (g : G H) (hz : vs.length ≤ 1000) (k : ∀ p H', Same H H' → H p = none → H' p = some (.lst vs) → tz D (σ.set i (some (.ref p))) H') :
    tSeq (tAsg (tLst ta) (gName i)) tz D σ H := by
  show tLst ta σ H fun v H' => tz D (σ.set i (some v)) H'
  exact b H g _ ⟨Nat.le_of_lt (small1000 hz), fun p n => k p _ (same_new n) n upd_same⟩
theorem r_bs {H : Hp} {Q : VK} {G : Hp → Prop} {vs : List V} (b : Bs ta σ G vs) (g : G H) (hz : vs.length ≤ 1000) (k : ∀ p H', Same H H' → H p = none → H' p = some (.lst vs) → Q (.ref p) H') : tLst ta σ H Q := b H g _ ⟨Nat.le_of_lt (small1000 hz), fun p n => k p _ (same_new n) n upd_same⟩
theorem cat_go {H : Hp} {Q : VK} {x y : Addr} {xs ys : List V} (hx : H x = some (.lst xs)) (hy : H y = some (.lst ys)) (hz : xs.length + ys.length ≤ 1000) (k : ∀ p H', Same H H' → H p = none → H' p = some (.lst (xs ++ ys)) → Q (.ref p) H') : rCat (.ref x) (.ref y) H Q :=
  ⟨x, y, xs, ys, rfl, rfl, hx, hy, Nat.le_of_lt (small1000 hz), fun p n => k p _ (same_new n) n upd_same⟩
theorem mkel_cat {t1 t2 : TE} (h1 : MkEL t1 σ ks) (h2 : MkEL t2 σ ls) (hz : ks.length + ls.length ≤ 1000) : MkEL (tOp rCat t1 t2) σ (ks ++ ls) := fun H _ q => h1 H _ fun p vs H1 s1 _ e1 x1 => h2 H1 _ fun p2 us H2 s2 _ e2 x2 =>
  ⟨p, p2, vs, us, rfl, rfl, s2 _ _ e1, e2, Nat.le_of_lt (small1000 (by rw [x1.len, x2.len]; exact hz)), fun p3 n => q p3 _ _ ((s1.trans s2).trans (same_new n)) (fresh_up (s1.trans s2) n) upd_same (((x1.same s2).app x2).same (same_new n))⟩
theorem mkel_var {i : Nat} {p : Addr} {vs : List V} {H0 : Hp} (h0 : σ[i]? = some (some (.ref p))) (e : H0 p = some (.lst vs)) (x : ExAll H0 vs ks) : ∀ (H : Hp), Same H0 H → ∀ Q : VK, (∀ H', Same H H' → H' p = some (.lst vs) → ExAll H' vs ks → Q (.ref p) H') → tVar i σ H Q :=
  fun H s Q q => ⟨_, h0, q H (Same.refl H) (s _ _ e) (x.same s)⟩
end
/-- __init__(self, f): self.f = f -/
def spIni (K : PySem.W.Frag) (C : Addr) (f : Str) : Sp := fun vs H Q _ => ∃ (a : Addr) (v : V), vs = [.ref a, v] ∧ H a = some (exo a C none) ∧ ∀ dx, H dx = none → dx ≠ a → Q .non (upd (upd H dx (exd dx [(f, v)])) a (exo a C (some dx)))
theorem mke_field {K : PySem.W.Frag} {σ : L2.St} {C : Addr} {f : Str} {v : V} {ta : TA} (ha : ∀ (H : Hp) (Q : List V → Hp → Prop), Q [v] H → ta σ H Q) : MkE (tMkV C (spIni K C f) [] ta) σ (C, some [(f, v)]) := fun H _ q => ha H _
  ⟨by show 1 ≤ 1000; decide, fun a n => ⟨a, v, rfl, upd_same, fun dx nd ne => by
    have nd' : H dx = none := by
      rw [upd_ne ne] at nd
      exact nd
    refine ⟨rfl, q a _ (fun b o e => ?_) ⟨dx, upd_same, ?_⟩⟩
    · rw [upd_ne (ne_of_none e n), upd_ne (ne_of_none e nd'), upd_ne (ne_of_none e n)]
      exact e
    · rw [upd_ne ne, upd_same]⟩⟩
end V1
namespace V1
open PySem PySem.Spec PyProof.Rows L2
theorem wCl_take {K : PySem.W.Frag} {W : WX} {D : Ends} {c cls : Value} {o : Option Nat} {ts : Addr → Value → Option Addr → TS} {l : List Cl} {d : Option Addr} {σ : L2.St} {H : Hp} (h : PySem.W.exmOne K cls c = some true) (k : ∀ a, H a = none → suiteD D a cls d ts σ H o) :
    wCl K W D ((c, o, ts) :: l) cls d σ H := ⟨true, h, fun _ => k, (fun z => nomatch z)⟩
theorem wCl_skip {K : PySem.W.Frag} {W : WX} {D : Ends} {c cls : Value} {o : Option Nat} {ts : Addr → Value → Option Addr → TS} {l : List Cl} {d : Option Addr} {σ : L2.St} {H : Hp} (h : PySem.W.exmOne K cls c = some false) (k : wCl K W D l cls d σ H) :
    wCl K W D ((c, o, ts) :: l) cls d σ H := ⟨false, h, (fun z => nomatch z), fun _ => k⟩
/-- raise C(e), C's __init__ keeping its one field -/
theorem raise_go {K : PySem.W.Frag} {σ : L2.St} {H : Hp} {C : Addr} {f : Str} {v : V} {ta : TA} {Q : XK} (ha : ∀ Q : List V → Hp → Prop, Q [v] H → ta σ H Q) (k : ∀ d H', H d = none → Same H H' → H' d = some (.xd [(f, v)]) → Q (.ref C) (some d) H') :
    tMkO C (spIni K C f) [] ta σ H Q := ha _ ⟨by show 1 ≤ 1000; decide, fun a n => ⟨a, v, rfl, upd_same, fun dx nd ne => by
  have nd' : H dx = none := by
    rw [upd_ne ne] at nd
    exact nd
  refine ⟨rfl, dx, [(f, v)], upd_same, ?_, nd', k dx _ nd' (fun b o e => ?_) upd_same⟩
  · rw [upd_ne ne, upd_same]
  · rw [upd_ne (ne_of_none e nd'), del_ne (ne_of_none e n), upd_ne (ne_of_none e n), upd_ne (ne_of_none e nd'), upd_ne (ne_of_none e n)]
    exact e⟩⟩
end V1

set_option maxHeartbeats 4000000
/-! V2: for i, x in enumerate(tuple) -/
namespace V2
open PySem PySem.Spec PyProof.Rows L2 V1
open AutoSeq1 (wpAny_loadPart')
theorem enum_tup_new (t : Addr) (items : Array Value) :
    Meets (Builtin.«enumerate.__new__» ⟨[.type "enumerate", .ref t], []⟩) (fun _ R s => s.heap.IsTuple t items ∧
      R (.ok (.ret (.ref (s.heap.objs.size + 1))))
        { s with heap := (s.heap.push { cls := .type "tuple_iterator", data := .fields #[.ref t, .int 0 0] }).push { cls := .type "enumerate", data := .fields #[.none, .bool false, .ref s.heap.objs.size, rawInt 0, .none, .none] } }) :=
  .of_wp fun prog w A R s hh => by
    obtain ⟨hp, g, d, tk, os⟩ := s
    obtain ⟨ht, go⟩ := hh
    have sub := sub_enumerate
    have size : (hp.push { cls := .type "tuple_iterator", data := .fields #[.ref t, .int 0 0] }).objs.size = hp.objs.size + 1 := Heap.size_push ..
    rw [← size] at go
    have begin_ : ∀ {A' : Around} {E : Value → Shared → Prop} {Q : Value → Shared → Prop}, Q (.ref hp.objs.size) ⟨hp.push { cls := .type "tuple_iterator", data := .fields #[.ref t, .int 0 0] }, g, d, tk, os⟩ →
        wpAny (model prog w) A' (pyIter (.ref t)) Q E ⟨hp, g, d, tk, os⟩ := fun q => (begins_tuple t items).iter prog w _ _ ⟨hp, g, d, tk, os⟩ _ ht q
    wp_walk using begin_
    refine wpAny_stack_any fun st => wpAny_pure ?_
    split
    · rename_i c _ _ _ _ _
      cases (c == Value.type "enumerate")
      all_goals
        wp_walk using begin_
        exact ⟨_, rfl, go⟩
    · wp_walk using begin_
      exact ⟨_, rfl, go⟩
section
variable {prog : Program} {w : World} {A : Around} {E : Value → Shared → Prop} {s : Shared}
theorem enum_tup {t : Addr} {items : Array Value} {Q : Value → Shared → Prop} (ht : s.heap.IsTuple t items)
    (k : ∀ h', IsEnum h' (s.heap.objs.size + 1) s.heap.objs.size 0 .none → h'.IsTupleIter s.heap.objs.size t 0 → (∀ b o, s.heap.get? b = some o → h'.get? b = some o) → Q (.ref (s.heap.objs.size + 1)) { s with heap := h' }) :
    wpAny (model prog w) A (call (.type "enumerate") [.ref t]) Q E s := by
  refine callType_new F.called_enumerate (by decide) (F.typeCall_enumerate_1 _) (F.newCall_enumerate_1 _) (fun obj => F.args_object_init_2 obj _) F.entry_enumerate_new (enum_tup_new t items) ⟨ht, ?_⟩
  let itO : Obj := { cls := .type "tuple_iterator", data := .fields #[.ref t, .int 0 0] }
  let enO : Obj := { cls := .type "enumerate", data := .fields #[.none, .bool false, .ref s.heap.objs.size, rawInt 0, .none, .none] }
  have size : (s.heap.push itO).objs.size = s.heap.objs.size + 1 := Heap.size_push ..
  have en : ((s.heap.push itO).push enO).get? (s.heap.objs.size + 1) = some enO := by
    have z := Heap.get?_push_size (s.heap.push itO) (o := enO) rfl
    rwa [size] at z
  have old : ∀ b o, s.heap.get? b = some o → ((s.heap.push itO).push enO).get? b = some o := fun b o e => Heap.get?_push_of_some _ (Heap.get?_push_of_some _ e)
  exact ⟨⟨_, en, rfl⟩, k _ en ⟨itO, Heap.get?_push_of_some _ (Heap.get?_push_size _ rfl), rfl, rfl⟩ old⟩
end
theorem draws_end {prog : Program} {w : World} {A : Around} (hh : A.handled = none) (it t : Addr) (items : Array Value) (i : Nat) (hx : items[i]? = none) :
    Draws prog w A it [it, t] i (fun _ _ => True) (fun j h => j = i ∧ h.IsTupleIter it t i ∧ h.IsTuple t items) where
  live := fun _ _ st => let ⟨o, ho, _⟩ := st.2.1; ⟨o, ho⟩
  frame := fun _ _ _ st hk => ⟨st.1, st.2.1.at fun o e => hk it (List.mem_cons_self ..) o e, st.2.2.at fun o e => hk t (List.mem_cons_of_mem _ (List.mem_singleton.mpr rfl)) o e⟩
  item := fun j s Q E hj st _ => absurd st.1 (Nat.ne_of_lt hj)
  done := fun s Q E st hE => wpAny_nextOf_tuple_end hh st.2.1 st.2.2 hx hE
/-- the tuple at a, each item in a new pair with its place -/
def Itu (K : PySem.W.Frag) (a : Addr) : It :=
  ⟨fun i H => ∃ (xs : List V) (x : V), SqT K H a xs ∧ xs[i]? = some x, fun i H v H' => ∃ T x, v = .ref T ∧ H T = none ∧ H' = upd H T (.tup [.int (i : Nat), x]) ∧ ∀ xs, SqT K H a xs → xs[i]? = some x, fun i H => ∃ xs : List V, SqT K H a xs ∧ xs.length ≤ i⟩
theorem turn_enumT {P : Program} {w : World} {K : PySem.W.Frag} {elts : List Expr} {kk : Nat} {tpos : Pos} (a e it : Addr) :
    Turn P w K (.Tuple elts kk tpos) (Itu K a) [e, it] e (fun i h => (∃ old, IsEnum h e it ((i : Nat) : Int) old) ∧ h.IsTupleIter it a i ∧ e ≠ it) where
  mem := List.mem_cons_self ..
  obj := fun i h st b hb => by
    obtain ⟨⟨old, he⟩, ⟨o, ho, hc, hd⟩, _⟩ := st
    rcases List.mem_cons.mp hb with rfl | hb
    · exact ⟨_, he, fun v q => nomatch q⟩
    · obtain rfl := List.mem_singleton.mp hb
      exact ⟨o, ho, fun v q => by rw [hd] at q; cases q⟩
  keep := fun i h h' st k => let ⟨⟨old, he⟩, hi, hne⟩ := st; ⟨⟨old, k e (List.mem_cons_self ..) _ he⟩, hi.at fun o q => k it (List.mem_cons_of_mem _ (List.mem_singleton.mpr rfl)) o q, hne⟩
  item := by
    intro X hP hw hK hc i pins s σ H E I free st hg
    subst hP hw hK
    obtain ⟨⟨old, he⟩, hit, hne⟩ := st
    obtain ⟨xs, x, hq, hx⟩ := hg
    obtain ⟨its, rv, tup, hz⟩ := I.tuple hq
    obtain ⟨u, hu, ru⟩ := rv.get hx
    have len := rv.length
    have il : i < its.length := by
      obtain ⟨l, _⟩ := List.getElem?_eq_some_iff.mp hu
      exact l
    have off : a ≠ it := by
      rintro rfl
      obtain ⟨o1, e1, c1, n1, d1⟩ := tup
      obtain ⟨o2, e2, c2, d2⟩ := hit
      rw [e1] at e2
      cases e2
      rw [d1] at d2
      cases d2
    refine wpAny_pyNext_enum_itemD (n := its.toArray.size) (Draws.tuple (show X.A.in1.handled = none from I.ok.hd hc) it a off its.toArray) he (And.intro hit tup) (by simpa using il) hne (fun z => ?_) fun y h1 tk hy out st1 new size old1 => ?_
    · rcases List.mem_cons.mp z with z | z
      · exact hne z
      · obtain rfl := List.mem_singleton.mp z
        obtain ⟨o1, e1, c1, n1, d1⟩ := tup
        rw [he] at e1
        cases e1
        cases d1
    have ey : y = u := by
      have z : its.toArray[i]? = some u := by simpa using hu
      exact Option.some.inj (hy.symm.trans z)
    subst ey
    refine ⟨_, rfl, wpAny_letOwnedTupleGo_enum (s := { s with heap := h1, toks := tk + 1 }) out fun h2 he2 sb => ?_⟩
    have lt : e < s.heap.objs.size := Heap.lt_size he
    have T2 : h2.get? s.heap.objs.size = some { cls := .type "tuple", data := .seq #[.int i tk, y] } := (sb.2 _ (Nat.ne_of_gt lt)).trans new
    have ob : ObjOk X.prog X.w (upd H s.heap.objs.size (.tup [.int (i : Nat), x])) h2 s.heap.objs.size (.tup [.int (i : Nat), x]) :=
      ⟨by show 2 ≤ sizeLine; decide, [.int i tk, y], .cons ⟨_, rfl⟩ (.cons ru .nil), _, T2, rfl, _, rfl⟩
    have J : Inv X pins σ (upd H s.heap.objs.size (.tup [.int (i : Nat), x])) { s with heap := h2, toks := tk + 1 } :=
      I.turnedNew (ch := [e, it]) (fun b o hb q => (sb.2 b fun z => hb (by simp [z])).trans (old1 b o (fun z => hb (by simp [z])) (fun z => hb (by simp [z])) q)) free (Nat.le_refl _) ob
    refine ⟨.ref s.heap.objs.size, _, J, rfl, ⟨_, x, rfl, I.hok.fresh (Nat.le_refl _), rfl, fun ys hy => by rw [I.tuple_inj hy hq]; exact hx⟩, ⟨⟨y, ?_⟩, st1.1.at fun o q => (sb.2 it (Ne.symm hne)).trans q, hne⟩, fun b hb => ?_⟩
    · rw [show ((i + 1 : Nat) : Int) = (i : Int) + 1 by omega]
      exact he2
    · have z : b < s.heap.objs.size := by
        rcases List.mem_cons.mp hb with rfl | hb
        · exact lt
        · obtain rfl := List.mem_singleton.mp hb
          obtain ⟨_, q, _⟩ := hit
          exact Heap.lt_size q
      rw [upd_ne (Nat.ne_of_lt z)]
      exact (free b hb).1
  done := by
    intro X hP hw hK hc i pins s σ H E I free st hg
    subst hP hw hK
    obtain ⟨⟨old, he⟩, hit, hne⟩ := st
    obtain ⟨xs, hq, hx⟩ := hg
    obtain ⟨its, rv, tup, hz⟩ := I.tuple hq
    obtain ⟨f0, f1, f2, f3, f4, f5⟩ := free it (List.mem_cons_of_mem _ (List.mem_singleton.mpr rfl))
    have len := rv.length
    have none_ : its.toArray[i]? = none := by simp; omega
    exact wpAny_pyNext_enum_endD (draws_end (show X.A.in1.handled = none from I.ok.hd hc) it a its.toArray i none_) he ⟨rfl, hit, tup⟩ fun h' eb => ⟨rfl, I.turned (t' := s.toks) (fun b o hb q => eb b o hb q) f0 f1 f3 f4 f5⟩
  self := fun A i s Q E st h => let ⟨⟨_, he⟩, _⟩ := st; wpAny_pyIter_enum he h
def iEnumT (K : PySem.W.Frag) (ta : TA) : TI := fun σ H R => ta σ H fun vs H1 => ∃ a xs, vs = [.ref a] ∧ SqT K H1 a xs ∧ R (Itu K a) H1
theorem pi_enumT {X : Cx} {e : Expr} {ta : TA} {p pos tpos : Pos} {elts : List Expr} {kk : Nat} (hg : Gl X "enumerate") (hm : X.mg "enumerate" = none) (ha : PA X [e] ta) (hs : starEach [e] X.env = [(false, eval e X.env)] := by rfl) :
    PI X (.Tuple elts kk tpos) (.Call (.Name "enumerate" p) [e] [] pos) (iEnumT X.K ta) := by
  constructor
  intro pins s σ H R I h
  refine Call_ (ld_blt I hg hm boot_enumerate (PyProof.Rows.callWith_type1 (thn (ha.run pos pins s σ H _ I h) ?_) hs rfl))
  rintro us s1 ⟨_, H1, J, rv, a, xs, rfl, hq, go⟩
  cases rv with
  | cons r more =>
    cases more
    cases r
    obtain ⟨its, rv2, tup, hz⟩ := J.tuple hq
    refine enum_tup tup fun h' he hit old => wpAny_pyIter_enum he ?_
    refine ⟨s1.heap.objs.size + 1, [s1.heap.objs.size + 1, s1.heap.objs.size], _, _, H1, rfl, J.kept (t' := s1.toks) old, turn_enumT a (s1.heap.objs.size + 1) s1.heap.objs.size, ⟨⟨.none, he⟩, hit, Nat.succ_ne_self _⟩, fun b hb => ?_, go⟩
    have le : s1.heap.objs.size ≤ b := by
      rcases List.mem_cons.mp hb with rfl | hb
      · exact Nat.le_succ _
      · exact Nat.le_of_eq (List.mem_singleton.mp hb).symm
    exact J.fpOk le (J.hok.fresh le)
theorem walk_enumT {K : PySem.W.Frag} {a : Addr} {xs : List V} : Walk (Itu K a) xs.length (fun H => SqT K H a xs) (YPair (fun i => some (.int (i : Nat))) (fun i => xs[i]?)) :=
  ⟨fun i _ hi q => ⟨xs, xs[i], q, List.getElem?_eq_getElem hi⟩, fun _ q => ⟨xs, q, Nat.le_refl _⟩, fun i _ _ _ _ q y => let ⟨T, x, h1, h2, h3, h4⟩ := y; ⟨T, .int (i : Nat), x, h1, h2, h3, rfl, h4 xs q⟩⟩
end V2

set_option maxHeartbeats 4000000
/-! V2: data asked for its kind; data as the library's; in, == over data -/
namespace V2
open PySem PySem.Spec PyProof.Rows L2 V1
def tyName : PyData → String
  | .none => "NoneType"
  | .bool _ => "bool"
  | .int _ => "int"
  | .str _ => "str"
  | .list _ => "list"
  | .tuple _ => "tuple"
  | .dict _ => "dict"
theorem dq_ty {K : PySem.W.Frag} {H : Hp} {v : V} {d : PyData} (h : Dq H v d) : TyX K H v (.type (tyName d)) := by
  cases h with
  | non => exact .base .non
  | bl b => exact .base (.bl b)
  | int i => exact .base (.int i)
  | str x => exact .base (.str x)
  | lst e _ _ => exact .base (.lst e)
  | tup e _ => exact .base (.tup e)
  | dct e _ => exact .base (.dK e)
def isInt : PyData → Bool
  | .int _ => true
  | _ => false
def isBool : PyData → Bool
  | .bool _ => true
  | _ => false
def isStr : PyData → Bool
  | .str _ => true
  | _ => false
def isTup : PyData → Bool
  | .tuple _ => true
  | _ => false
def isLst : PyData → Bool
  | .list _ => true
  | _ => false
theorem kit_int (d : PyData) : kitB (tyName d) "int" = some (isInt d || isBool d) := by cases d <;> kernel_rfl
theorem kit_bool (d : PyData) : kitB (tyName d) "bool" = some (isBool d) := by cases d <;> kernel_rfl
theorem kit_str (d : PyData) : kitB (tyName d) "str" = some (isStr d) := by cases d <;> kernel_rfl
theorem kit_tup (d : PyData) : kitB (tyName d) "tuple" = some (isTup d) := by cases d <;> kernel_rfl
theorem kit_lst (d : PyData) : kitB (tyName d) "list" = some (isLst d) := by cases d <;> kernel_rfl
section
variable {K : PySem.W.Frag} {σ : L2.St} {H : Hp} {Q : VK} {te : TE} {v : V} {d : PyData} {n : String} {b : Bool}
theorem isi_go (hb : kitB (tyName d) n = some b) (ht : ∀ Q : VK, Q v H → te σ H Q) (hd : Dq H v d) (q : Q (.bl b) H) : tCB (rIsi K) (tCons te (tCons (tC (.ty n)) tNil)) σ H Q :=
  ht _ ⟨v, .ty n, _, _, b, rfl, .ty n, dq_ty hd, kit_ty hb, q⟩
/-- isinstance(x, (tuple, list)) -/
theorem isiT_go {n1 n2 : String} (hb : PySem.W.kitAny K (.type (tyName d)) [.type n1, .type n2] = some b) (ht : ∀ Q : VK, Q v H → te σ H Q) (hd : Dq H v d) (q : ∀ p, H p = none → Q (.bl b) (upd H p (.tup [.ty n1, .ty n2]))) :
    tCB (rIsiT K) (tCons te (tCons (tTup (tCons (tC (.ty n1)) (tCons (tC (.ty n2)) tNil))) tNil)) σ H Q :=
  ht _ ⟨(by show 2 ≤ sizeLine; decide), fun p np => ⟨v, p, _, _, _, b, rfl, upd_same, .cons (.ty n1) (.cons (.ty n2) .nil), dq_ty (Dq.same (same_new np) d v hd), hb, q p np⟩⟩
theorem kit_tl (d : PyData) : PySem.W.kitAny K (.type (tyName d)) [.type "tuple", .type "list"] = some (isTup d || isLst d) := by
  have h1 := kit_ty (K := K) (kit_tup d)
  have h2 := kit_ty (K := K) (kit_lst d)
  show (match PySem.W.kitOne K (.type (tyName d)) (.type "tuple") with
    | some true => some true
    | some false => (match PySem.W.kitOne K (.type (tyName d)) (.type "list") with
      | some true => some true
      | some false => some false
      | none => none)
    | none => none) = _
  rw [h1, h2]
  cases isTup d <;> cases isLst d <;> rfl
end
/-! data without dicts, as the library's == and in read it -/
mutual
def plain : PyData → Bool
  | .none | .bool _ | .int _ | .str _ => true
  | .list xs | .tuple xs => plainAll xs
  | .dict _ => false
def plainAll : List PyData → Bool
  | [] => true
  | x :: xs => plain x && plainAll xs
end
section
variable {K : PySem.W.Frag} {H : Hp}
mutual
theorem dq_dp : ∀ (d : PyData) (v : V), plain d = true → Dq H v d → Dp K H v d
  | .none, _, _, h => by cases h; exact .non
  | .bool b, _, _, h => by cases h; exact .bl b
  | .int i, _, _, h => by cases h; exact .int i
  | .str x, _, _, h => by cases h; exact .str x
  | .list ds, _, p, h => by
    cases h with
    | lst e _ r => exact .lst (.inl (.inl e)) (dqAll_dp ds _ (by simpa [plain] using p) r)
  | .tuple ds, _, p, h => by
    cases h with
    | tup e r => exact .tup (.inl (.inl e)) (dqAll_dp ds _ (by simpa [plain] using p) r)
  | .dict _, _, p, _ => by simp [plain] at p
theorem dqAll_dp : ∀ (ds : List PyData) (vs : List V), plainAll ds = true → DqAll H vs ds → DpAll K H vs ds
  | [], _, _, h => by cases h; exact .nil
  | d :: ds, _, p, h => by
    cases h with
    | cons one more =>
      have p' : plain d = true ∧ plainAll ds = true := by simpa [plainAll] using p
      exact .cons (dq_dp d _ p'.1 one) (dqAll_dp ds _ p'.2 more)
end
end
/-- x in t, t a tuple of data -/
def rInT (K : PySem.W.Frag) (neg : Bool) : R2 := fun x y H Q => ∃ d ds, Dp K H x d ∧ Dp K H y (.tuple ds) ∧ SeqAt.shaped d = true ∧ SeqAt.shaped (.tuple ds) = true ∧ Q (.bl (neg.xor (ds.any fun z => PyData.eqv z d))) H
section
variable {X : Cx}
theorem op_inT (hu : X.A.units + 70 < cLine) : OpR X (compareOp .In) (rInT X.K false) := by
  rintro pins s σ H x y v u Q I rx ry ⟨d, ds, hd, he, sd, se, q⟩
  obtain ⟨as, r1⟩ := Dp.reads I d x v hd rx
  obtain ⟨bs, r2⟩ := Dp.reads I (.tuple ds) y u he ry
  have dep : d.depth ≤ 64 := by
    have z : (d.canLay0 && decide (d.depth ≤ 64)) = true := sd
    simp only [Bool.and_eq_true, decide_eq_true_eq] at z
    exact z.2
  exact SeqAt.in_tuple_reads r2 r1 (by simpa [PyData.canLay0] using SeqAt.canLay_of_shaped se) (SeqAt.canLay_of_shaped sd) (by omega) ⟨.bl _, H, I, rfl, by simpa using q⟩
theorem op_notInT (hu : X.A.units + 70 < cLine) : OpR X (compareOp .NotIn) (rInT X.K true) := by
  rintro pins s σ H x y v u Q I rx ry ⟨d, ds, hd, he, sd, se, q⟩
  obtain ⟨as, r1⟩ := Dp.reads I d x v hd rx
  obtain ⟨bs, r2⟩ := Dp.reads I (.tuple ds) y u he ry
  have dep : d.depth ≤ 64 := by
    have z : (d.canLay0 && decide (d.depth ≤ 64)) = true := sd
    simp only [Bool.and_eq_true, decide_eq_true_eq] at z
    exact z.2
  exact SeqAt.notIn_tuple_reads r2 r1 (by simpa [PyData.canLay0] using SeqAt.canLay_of_shaped se) (SeqAt.canLay_of_shaped sd) (by omega) ⟨.bl _, H, I, rfl, by simpa using q⟩
end
end V2

set_option maxHeartbeats 4000000
/-! V2c: exceptions of one field; the own == -/
namespace V2
open PySem PySem.Spec PyProof.Rows L2 V1
open Evl (pss_cut tCut sq_of st_of)
section
variable {P : Program} {w : World} {K : PySem.W.Frag} {mg : Str → Option Value} {base : Heap}
theorem ok_init {name qual : Str} {params : Arguments} {body : List Stmt} {scope : Scope} {C fI : Addr} {fd : FuncData} {f : Str} {p1 p2 p3 p4 : Pos} (F : FunD K name qual params body scope [] [] fI fd) (S : FnScope ["self", f] ["self", f] scope)
    (hb : body = [.Assign [.Attribute (.Name "self" p1) f p2] (.Name f p3) p4]) (hC : OexC K C) (no : PySem.W.findIn K (.ref C) f = some none) (hf : (f == ("__debug__" : Str)) = false) (hf2 : (f == ("__classdict__" : Str)) = false)
    (v0 : Vis scope "self") (v1 : Vis scope f) (sw : ∀ env : Env, swapsWith (.Name f p3) (some (.Attribute (.Name "self" p1) f p2)) p4.line env = pure false) : FnOk P w K mg base CX0 1 fI fd ["self", f] (spIni K C f) := by
  subst hb
  refine F.ok S (fun vs H Q E h => ?_) (fun cdv A outer s H vs Q E hr h => ?_)
  · obtain ⟨a, v, rfl, _⟩ := h
    rfl
  · refine ⟨_, PSs.nox (pss_one (ps_ost (pe_var (i := 0) rfl v0) (pe_var (i := 1) rfl v1 hf hf2) (sw _))), ?_⟩
    obtain ⟨a, v, rfl, e, hQ⟩ := h
    exact ⟨v, rfl, _, rfl, a, C, rfl, hC, no, .inl ⟨e, fun dx n ne => hQ dx n ne⟩⟩
structure Fld (P : Program) (w : World) (K : PySem.W.Frag) (mg : Str → Option Value) (base : Heap) (x f : Str) : Prop where
  gC : mg x = some (.ref (He.ga K x))
  oex : OexC K (He.ga K x)
  no : PySem.W.findIn K (.ref (He.ga K x)) f = some none
  init : ∃ fI fd, PySem.W.findIn K (.ref (He.ga K x)) "__init__" = some (some (.ref fI)) ∧ PySem.W.typeIn K (.ref fI) = some (.type "function") ∧ FnOk P w K mg base CX0 1 fI fd ["self", f] (spIni K (He.ga K x) f) ∧ Binds K fd ["self", f] []
theorem pe_fld {X : Cx} {x f : Str} {e : Expr} {es : List Expr} {ta : TA} {p pos : Pos} (h : Fld X.prog X.w X.K X.mg X.base x f) (hr : Room 2 X.A) (ha : PA X (e :: es) ta) (hg : Gl X x := by rfl) (hdb : (x == ("__debug__" : Str)) = false := by decide)
    (he : starEach (e :: es) X.env = (false, eval e X.env) :: starEach es X.env := by rfl) (hpl : (backTo pos (starEach es X.env)).any (·.1) = false := by rfl) :
    PE X (.Call (.Name x p) (e :: es) [] pos) (tMkV (He.ga X.K x) (spIni X.K (He.ga X.K x) f) [] ta) := by
  obtain ⟨fI, fd, h1, h2, h3, h4⟩ := h.init
  exact pe_mkV h.oex h1 h2 h3 hr h4 .nil pass0 hg h.gC ha hdb he hpl
theorem pmk_fld {X : Cx} {x f : Str} {e : Expr} {es : List Expr} {ta : TA} {p pos : Pos} (h : Fld X.prog X.w X.K X.mg X.base x f) (hr : Room 2 X.A) (ha : PA X (e :: es) ta) (hg : Gl X x := by rfl) (hdb : (x == ("__debug__" : Str)) = false := by decide)
    (he : starEach (e :: es) X.env = (false, eval e X.env) :: starEach es X.env := by rfl) (hpl : (backTo pos (starEach es X.env)).any (·.1) = false := by rfl) :
    PMk X (.Call (.Name x p) (e :: es) [] pos) (tMkO (He.ga X.K x) (spIni X.K (He.ga X.K x) f) [] ta) := by
  obtain ⟨fI, fd, h1, h2, h3, h4⟩ := h.init
  exact pmk_oex h.oex h1 h2 h3 hr h4 .nil pass0 hg h.gC ha hdb he hpl
theorem meth_ty {K : PySem.W.Frag} {C f : Addr} {m : Str} (h : Meth K C m f) : PySem.W.typeIn K (.ref f) = some (.type "function") := eq_of_beq h.fn
theorem fld_of {x f : Str} {name qual : Str} {params : Arguments} {body : List Stmt} {scope : Scope} {fI : Addr} {fd : FuncData} {bm : List Value} {p1 p2 p3 p4 : Pos}
    (F : FunD K name qual params body scope [] [] fI fd) (S : FnScope ["self", f] ["self", f] scope) (hb : body = [.Assign [.Attribute (.Name "self" p1) f p2] (.Name f p3) p4])
    (gC : mg x = some (.ref (He.ga K x))) (E : ExK K (He.ga K x) bm) (hr : PySem.HandSPX.refsVE bm = true) (hbe : (Value.ref (He.ga K x) :: bm).contains (.type "BaseException") = true)
    (no : PySem.W.findIn K (.ref (He.ga K x)) f = some none) (m : Meth K (He.ga K x) "__init__" fI) (hf : (f == ("__debug__" : Str)) = false) (hf2 : (f == ("__classdict__" : Str)) = false)
    (v0 : Vis scope "self") (v1 : Vis scope f) (sw : ∀ env : Env, swapsWith (.Name f p3) (some (.Attribute (.Name "self" p1) f p2)) p4.line env = pure false) (b : Binds K fd ["self", f] []) : Fld P w K mg base x f :=
  ⟨gC, E.oex hr hbe, no, fI, fd, m.at_, meth_ty m, ok_init F S hb (E.oex hr hbe) no hf hf2 v0 v1 sw, b⟩
end
def tyNames : List String := ["NoneType", "bool", "int", "str", "list", "tuple", "dict"]
/-- what isinstance and == ask of a plain class -/
def insB (K : PySem.W.Frag) (C : Addr) : Bool :=
  decide (PySem.W.findIn K (.ref C) "__class__" = some (some (.builtin "object.__class__"))) && (decide (PySem.W.mroIn K C (.type "object") = some true) && (decide (PySem.W.kitOne K (.ref C) (.ref C) = some true) &&
    tyNames.all fun n => decide (PySem.W.kitOne K (.type n) (.ref C) = some false) && PySem.W.notFirst K C (.type n)))
structure InsK (K : PySem.W.Frag) (C : Addr) : Prop where
  ha : PySem.W.findIn K (.ref C) "__class__" = some (some (.builtin "object.__class__"))
  hm : PySem.W.mroIn K C (.type "object") = some true
  me : PySem.W.kitOne K (.ref C) (.ref C) = some true
  no : ∀ n ∈ tyNames, PySem.W.kitOne K (.type n) (.ref C) = some false
  nf : ∀ n ∈ tyNames, PySem.W.notFirst K C (.type n) = true
theorem insK_of {K : PySem.W.Frag} {C : Addr} (h : insB K C = true) : InsK K C := by
  unfold insB at h
  simp only [Bool.and_eq_true, List.all_eq_true, decide_eq_true_eq] at h
  exact ⟨h.1, h.2.1, h.2.2.1, fun n hn => (h.2.2.2 n hn).1, fun n hn => (h.2.2.2 n hn).2⟩
theorem tyName_mem (d : PyData) : tyName d ∈ tyNames := by cases d <;> simp [tyName, tyNames]
theorem InsK.ins {K : PySem.W.Frag} {C : Addr} (h : InsK K C) (c : Cls K C) (a : ClsAttr K) : C8.InsC K C := ⟨c, h.ha, a.1, a.2, h.hm, h.me⟩
section
variable {K : PySem.W.Frag} {σ : L2.St} {H : Hp} {Q : VK} {te : TE} {v : V} {d : PyData} {C : Addr}
theorem TyX_ins {a dx : Addr} {fs : List (Str × V)} (e : H a = some (.ins C dx fs)) (c : C8.InsC K C) : TyX K H (.ref a) (.ref C) := .base (.ins e c.cl c.ha c.hn c.htk c.hm)
/-- isinstance(x, C), C a plain class: data -/
theorem isiC_no (i : InsK K C) (ht : ∀ Q : VK, Q v H → te σ H Q) (hd : Dq H v d) (q : Q (.bl false) H) : tCB (rIsi K) (tCons te (tCons (tC (.ref C)) tNil)) σ H Q :=
  ht _ ⟨v, .ref C, _, _, false, rfl, .own C, dq_ty hd, i.no _ (tyName_mem d), q⟩
theorem isiC_yes {a dx : Addr} {fs : List (Str × V)} (i : C8.InsC K C) (ht : ∀ Q : VK, Q (.ref a) H → te σ H Q) (e : H a = some (.ins C dx fs)) (q : Q (.bl true) H) : tCB (rIsi K) (tCons te (tCons (tC (.ref C)) tNil)) σ H Q :=
  ht _ ⟨.ref a, .ref C, _, _, true, rfl, .own C, TyX_ins e i, i.me, q⟩
end
/-- x == y by x's own == -/
def rOwnE (K : PySem.W.Frag) (C : Addr) (sp : Sp) (E : XK) : R2 := fun x y H Q => ∃ a dx fs t, x = .ref a ∧ H a = some (.ins C dx fs) ∧ TyX K H y t ∧ PySem.W.notFirst K C t = true ∧ sp [.ref a, y] H (fun v H' => ∃ b, v = .bl b ∧ Q (.bl b) H') E
section
variable {X : Cx} {pins : List (Addr × Obj)} {σ : L2.St} {H : Hp} {s : Shared}
theorem op_ownE {CX : CXT} {C f : Addr} {fd : FuncData} {ps : List Str} {sp : Sp} {E : XK} {n : Nat} (F : FnOk X.prog X.w X.K X.mg X.base CX n f fd ps sp)
    (hs : PySem.W.findIn X.K (.ref C) "__eq__" = some (some (.ref f))) (hf : PySem.W.isFn X.K (.ref f) = true) (hb : Binds X.K fd ps []) (hx : Passes CX X E) (hr : Room n X.A) : OpR X (compareOp .Eq) (rOwnE X.K C sp E) := by
  intro pins s σ H x y v u Q I rx ry hq
  obtain ⟨a, dx, fs, t, rfl, ha, ty, nf, h⟩ := hq
  cases rx
  show wpAny (model X.prog X.w) X.A (richCompare .Eq (.ref a) u) (EP X pins σ Q) X.xe s
  obtain ⟨P, Z, p, _⟩ := kit_of I ry ty
  obtain ⟨mA, J, _⟩ := ins_get I.hok ha
  obtain ⟨od, J, _⟩ := J.look
  obtain ⟨m, hF⟩ := I.fr
  refine PySem.W.cmp_K (op := .Eq) (tb := t) hr.units0 hF I.ok.mod.kin J (Z.ty (model X.prog X.w) s.heap I.kIn p) nf hs hf ?_
  have hl := F.len _ _ _ _ h
  have r2 : Vals [V.ref a, y] [Value.ref a, u] := .cons rfl (.cons ry .nil)
  refine wpAny_call (codeAny_mono (F.run X.A X.stack s H ⟨[.ref a, u], []⟩ [.ref a, u] [.ref a, y] _ E hr I.env0 (by
    have := hb s [.ref a, u] I.kIn (by simpa using hl)
    simpa using this) r2 h) fun r s' hq => ?_)
  cases r with
  | error e => exact hx pins σ H s e s' I hq
  | ok fl =>
    cases fl with
    | ret w =>
      obtain ⟨z, H', I', rz, b, ez, q⟩ := I.after hq
      subst ez
      cases rz
      exact ⟨.bl b, H', I', rfl, q⟩
    | next => exact False.elim hq
    | brk => exact False.elim hq
    | cont => exact False.elim hq
end
end V2

set_option maxHeartbeats 4000000
/-! V2d: raise X() of a bare own class; comprehensions that make lists of data -/
namespace V2
open PySem PySem.Spec PyProof.Rows L2 V1
theorem pmk_mk0 {X : Cx} {C : Addr} {bmB : List Value} {B newId initId : String} {x : Str} {p pos : Pos} (F : ExcBaseFacts B newId initId bmB) (q : PySem.W.excIn X.K C bmB newId = true) (gC : X.mg x = some (.ref C)) (kC : PySem.W.keepIn X.K (.ref C) = true)
    (r : Raises X (.ref C)) (hg : Gl X x) (hdb : (x == ("__debug__" : Str)) = false := by decide) : PMk X (.Call (.Name x p) [] [] pos) (fun _ H Q => Q (.ref C) none H) := by
  intro pins s σ H Q I h
  refine wpAny_Call_Name_kw (ld_glob I hg gC ?_ hdb)
  refine PySem.W.callWith_K0 I.kIn kC ?_
  obtain ⟨bm, N, nm, qn, bs, hdct, sn, sub, ab, col, dd, k0, k1, k2, k3, k5, mN, hC, hN, hni, T⟩ := exc_obj I.kIn q
  refine wpAny_call_exc_subT F T hC hN hni (fun h' a hm => ?_) (Nat.zero_le _)
  exact mk_of I hm r h (I.hok.gone hm.new)
theorem DqAll.app {H : Hp} : ∀ {vs us : List V} {ds es : List PyData}, DqAll H vs ds → DqAll H us es → DqAll H (vs ++ us) (ds ++ es)
  | _, _, _, _, .nil, h => h
  | _, _, _, _, .cons one more, h => .cons one (DqAll.app more h)
theorem same_delD {H H' : Hp} {D : Addr} (h : Same H H') (n : H D = none) : Same H (delH H' D) := fun b o e => by
  rw [delH_ne (ne_of_none e n)]
  exact h b o e
/-- the list at D has come to acc, behind i turns; Pv tells of the heap without it -/
def Lc (D : Addr) (Pv : Nat → List V → Hp → Prop) (i : Nat) (H : Hp) : Prop := ∃ acc, acc.length ≤ i ∧ H D = some (.lst acc) ∧ Pv i acc (delH H D)
theorem lc_put {D : Addr} {Pv : Nat → List V → Hp → Prop} {i : Nat} {H : Hp} {acc : List V} {y : V} (l : acc.length ≤ i) (z : i < 1000) (e : H D = some (.lst acc)) (p : Pv (i + 1) (acc ++ [y]) (delH H D)) :
    ∃ acc, H D = some (.lst acc) ∧ acc.length < sizeLine ∧ Lc D Pv (i + 1) (upd H D (.lst (acc ++ [y]))) :=
  ⟨acc, e, Nat.lt_of_le_of_lt l (small1000 (by omega)), acc ++ [y], by rw [List.length_append]; simp; omega, upd_same, by rw [delH_upd]; exact p⟩
theorem lc_skip {D : Addr} {Pv : Nat → List V → Hp → Prop} {i : Nat} {H : Hp} {acc : List V} (l : acc.length ≤ i) (e : H D = some (.lst acc)) (p : Pv (i + 1) acc (delH H D)) : Lc D Pv (i + 1) H := ⟨acc, by omega, e, p⟩
theorem lc_gen {J : It} {n : Nat} {G : Hp → Prop} {Y : Nat → Hp → V → Hp → Prop} (w : Walk J n G Y) {g : TG} {tt : TT} {te : TE} {vs : List Nat} {σ : L2.St} {H1 : Hp} {D : Addr} {Qd : Hp → Prop} (nD : H1 D = none) (Pv : Nat → List V → Hp → Prop) (h0 : Pv 0 [] H1)
    (hG : ∀ i acc H, i ≤ n → Pv i acc (delH H D) → G H)
    (hs : ∀ i acc x H H', i < n → acc.length ≤ i → H D = some (.lst acc) → Pv i acc (delH H D) → Y i H x H' → g x (wipe σ vs) H' fun σ2 H2 => wipe σ2 vs = wipe σ vs ∧ tt σ2 H2 fun b H3 =>
      if b = true then te σ2 H3 fun y H4 => ∃ acc, H4 D = some (.lst acc) ∧ acc.length < sizeLine ∧ Lc D Pv (i + 1) (upd H4 D (.lst (acc ++ [y]))) else Lc D Pv (i + 1) H3)
    (hd : ∀ acc H, acc.length ≤ n → H D = some (.lst acc) → Pv n acc (delH H D) → Qd H) :
    ∃ W : Nat → Nat → Hp → Prop, (∃ m, W 0 m (upd H1 D (.lst []))) ∧ ∀ i m H, W i m H →
      (J.stop i H ∧ Qd H) ∨ (J.go i H ∧ ∃ Nx : Hp → Prop, (∀ H', Nx H' → ∃ m', m' < m ∧ W (i + 1) m' H') ∧ ∀ x H', J.yld i H x H' → g x (wipe σ vs) H' fun σ2 H2 => wipe σ2 vs = wipe σ vs ∧ tt σ2 H2 fun b H3 =>
        if b = true then te σ2 H3 fun y H4 => ∃ acc, H4 D = some (.lst acc) ∧ acc.length < sizeLine ∧ Nx (upd H4 D (.lst (acc ++ [y]))) else Nx H3) :=
  lc_it (σ := σ) w (Lc D Pv) ⟨[], Nat.le_refl _, upd_same, by rw [delH_new nD]; exact h0⟩ (fun i H hi ⟨acc, _, _, p⟩ => hG i acc H hi p) (fun i x H H' hi ⟨acc, l, e, p⟩ y => hs i acc x H H' hi l e p y) (fun H ⟨acc, l, e, p⟩ => hd acc H l e p)
/-- [.. for i in range(n)], no test, each item data made anew -/
theorem lc_rows {K : PySem.W.Frag} {n : Nat} (hz : n ≤ 1000) {te : TE} {i0 : Nat} {vs : List Nat} {σ : L2.St} {H1 : Hp} {D : Addr} {Qd : Hp → Prop} {lo : Int} (f : Nat → PyData) (nD : H1 D = none)
    (hw : ∀ x : V, wipe ((wipe σ vs).set i0 (some x)) vs = wipe σ vs)
    (mk : ∀ i, i < n → ∀ H, Same H1 (delH H D) → (∃ o, H D = some o) → ∀ Q : VK, (∀ v H', Same H H' → Dq (delH H' D) v (f i) → Q v H') → te ((wipe σ vs).set i0 (some (.int (lo + (i : Nat))))) H Q)
    (hd : ∀ us H, H D = some (.lst us) → Same H1 H → DqAll H us ((List.range n).map f) → Qd H) :
    ∃ W : Nat → Nat → Hp → Prop, (∃ m, W 0 m (upd H1 D (.lst []))) ∧ ∀ i m H, W i m H →
      ((Itr lo n).stop i H ∧ Qd H) ∨ ((Itr lo n).go i H ∧ ∃ Nx : Hp → Prop, (∀ H', Nx H' → ∃ m', m' < m ∧ W (i + 1) m' H') ∧ ∀ x H', (Itr lo n).yld i H x H' → gName i0 x (wipe σ vs) H' fun σ2 H2 => wipe σ2 vs = wipe σ vs ∧ tYes σ2 H2 fun b H3 =>
        if b = true then te σ2 H3 fun y H4 => ∃ acc, H4 D = some (.lst acc) ∧ acc.length < sizeLine ∧ Nx (upd H4 D (.lst (acc ++ [y]))) else Nx H3) := by
  refine lc_gen (σ := σ) walk_range nD (fun i acc H => Same H1 H ∧ DqAll H acc ((List.range i).map f)) ⟨Same.refl _, .nil⟩ (fun _ _ _ _ _ => True.intro) ?_ (fun acc H _ e p => hd acc H e (fun b o q => same_delH _ _ (p.1 _ _ q)) (DqAll.same same_delH _ _ p.2))
  rintro i acc x H H' hi l e ⟨sm, p⟩ ⟨rfl, rfl⟩
  refine ⟨hw _, ?_⟩
  simp only [tYes, if_true]
  refine mk i hi H' sm ⟨_, e⟩ _ fun v H2 s2 q2 => ?_
  refine lc_put l (by omega) (s2 _ _ e) ⟨fun b o q => ?_, ?_⟩
  · exact same_del s2 _ _ (sm _ _ q)
  · rw [List.range_succ, List.map_append]
    exact DqAll.app (DqAll.same (same_del s2) _ _ p) (.cons q2 .nil)
end V2

set_option maxHeartbeats 4000000
/-! V2e: C(..) of a plain class within try; isinstance of the caught exception that has a field -/
namespace V2
open PySem PySem.Spec PyProof.Rows L2 V1
def HasC (P : Program) (w : World) (K : PySem.W.Frag) (mg : Str → Option Value) (base : Heap) (CX : CXT) (k : Nat) (x : Str) (ps : List Str) (sp : Sp) : Prop :=
  ∃ fI fd, Mk K (He.ga K x) fI ∧ FnOk P w K mg base CX k fI fd ps sp ∧ Binds K fd ps [] ∧ mg x = some (.ref (He.ga K x))
theorem pe_hasC {X : Cx} {CX : CXT} {k : Nat} {x : Str} {ps : List Str} {sp : Sp} {E : XK} {e : Expr} {es : List Expr} {t : TA} {p pos : Pos} (h : HasC X.prog X.w X.K X.mg X.base CX k x ps sp) (hr : Room (k + 1) X.A) (hx : Passes CX X E) (ha : PA X (e :: es) t) (hg : Gl X x := by rfl)
    (hdb : (x == ("__debug__" : Str)) = false := by decide) (he : starEach (e :: es) X.env = (false, eval e X.env) :: starEach es X.env := by rfl) (hpl : (backTo pos (starEach es X.env)).any (·.1) = false := by rfl) :
    PE X (.Call (.Name x p) (e :: es) [] pos) (tMake (He.ga X.K x) sp [] E t) := by
  obtain ⟨fI, fd, M, F, b, g⟩ := h
  exact pe_make M F hr hg g b .nil hx ha hdb he hpl
/-- C(..), what it lets out by the slots -/
def tMakeS (C : Addr) (sp : Sp) (E : L2.St → XK) (t : TA) : TE := fun σ H Q => tMake C sp [] (E σ) t σ H Q
theorem pe_hasCS {X : Cx} {CX : CXT} {k : Nat} {x : Str} {ps : List Str} {sp : Sp} {E : L2.St → XK} {e : Expr} {es : List Expr} {t : TA} {p pos : Pos} (h : HasC X.prog X.w X.K X.mg X.base CX k x ps sp) (hr : Room (k + 1) X.A) (hx : ∀ σ, PassesAt CX X σ (E σ)) (ha : PA X (e :: es) t) (hg : Gl X x := by rfl)
    (hdb : (x == ("__debug__" : Str)) = false := by decide) (he : starEach (e :: es) X.env = (false, eval e X.env) :: starEach es X.env := by rfl) (hpl : (backTo pos (starEach es X.env)).any (·.1) = false := by rfl) :
    PE X (.Call (.Name x p) (e :: es) [] pos) (tMakeS (He.ga X.K x) sp E t) := by
  obtain ⟨fI, fd, M, F, b, g⟩ := h
  constructor
  intro pins s σ H Q I h
  refine wpAny_Call_Name_kw (ld_glob I hg g ?_ hdb)
  refine PySem.W.callWith_K (h₀ := X.base) I.ok.mod.kin M.kp (thn (ha.run pos pins s σ H _ I h) fun us t1 hh => ?_) he hpl
  obtain ⟨vs, H1, J, rv, q⟩ := hh
  refine ⟨J.kIn, ?_⟩
  have q1 := q (t1.heap.objs.size + 1) t1.heap.objs.size (J.hok.fresh (Nat.le_succ _)) (J.hok.fresh (Nat.le_refl _)) (Nat.ne_of_lt (Nat.lt_succ_self _))
  rw [List.append_nil] at q1
  have J2 := Inv.made (C := He.ga X.K x) J
  have rv2 : Vals (V.ref (t1.heap.objs.size + 1) :: vs) (Value.ref (t1.heap.objs.size + 1) :: us) := .cons rfl rv
  have ln : (Value.ref (t1.heap.objs.size + 1) :: us).length = ps.length := rv2.length.symm.trans (F.len _ _ _ _ q1)
  have bd := b _ (Value.ref (t1.heap.objs.size + 1) :: us) J2.kIn (by rw [List.append_nil]; exact ln)
  rw [List.append_nil] at bd
  refine wpAny_call (make_map (f := fI) J.kIn M.makes M.init (beq_iff_eq.mp M.fn) (codeAny_mono (F.run _ X.stack _ _ ⟨Value.ref (t1.heap.objs.size + 1) :: us, []⟩ _ _ _ (E σ) (hr.make (He.ga X.K x) us [])
    (J2.env0.make (He.ga X.K x) us []) bd rv2 q1) fun r s' hq => ?_))
  match r, hq with
  | .error e, hq => exact hx σ pins _ _ e s' J2 hq
  | .ok (.ret u), hq =>
    obtain ⟨z, H', J3, rz, ez, q3⟩ := J2.after hq
    subst ez
    exact ⟨rz, ⟨V.ref (t1.heap.objs.size + 1), H', J3, rfl, q3⟩⟩
  | .ok .next, hq => exact False.elim hq
  | .ok .brk, hq => exact False.elim hq
  | .ok .cont, hq => exact False.elim hq
/-- isinstance(e, c), e the caught exception, with its dict -/
def rIsXd (K : PySem.W.Frag) (a C : Addr) (cls : Value) (d : Option Addr) : List V → Hp → VK → Prop := fun xs H Q => cls = .ref C ∧ ∃ (c : V) (u : Value) (b : Bool) (dd : Addr) (fs : List (Str × V)), xs = [.ref a, c] ∧ ClsV c u ∧ PySem.W.kitOne K (.ref C) u = some b ∧ d = some dd ∧ H dd = some (.xd fs) ∧ Q (.bl b) H
theorem call_isXd {X : Cx} {a C : Addr} {oe : Obj} {cls : Value} {d : Option Addr} {pn : List (Addr × Obj)} {bm : List Value} (T : ExK X.K C bm) (cA : ClsAttr X.K) (hB : (Value.ref C :: bm).contains (.type "BaseException") = true) (hO : (Value.ref C :: bm).contains (.type "object") = true)
    (hz : Zc cls d oe) (hf : ∃ vs, oe.data = .fields vs) : CallR (X.suite a ((a, oe) :: pn)) (.builtin "isinstance") (rIsXd X.K a C cls d) := by
  intro pins s σ H xs us Q I r h
  obtain ⟨rfl, c, u, b, dd, fs, rfl, k, e, rfl, ea, q⟩ := h
  obtain ⟨w1, w2, rfl, r1, r2⟩ := vals2 r
  obtain rfl : w1 = Value.ref a := r1
  have e2 := k.eq r2
  subst e2
  obtain ⟨ha, _⟩ := I.pin (a, oe) (List.mem_append_left _ List.mem_cons_self)
  obtain ⟨vs, hd⟩ := hf
  have hx : ObjOk X.prog X.w H s.heap dd (.xd fs) := I.hok dd _ ea
  obtain ⟨mA, hns, hr⟩ := hx
  obtain ⟨od, ho, hl⟩ := lookIn_ns hns
  have J : PySem.W.InstAt s.heap a oe C (some od) := ⟨ha, hz.1, by unfold PySem.W.notCls; rw [hd] <;> rfl, by rw [hz.2]; exact ho⟩
  exact PySem.W.kia_one (PySem.W.kitx_exc T.isCls T.ga T.gg (by rw [T.sub, hB]) T.cl cA.gs cA.tk (by rw [T.mro, hO])) I.kIn J e (fun z => nomatch z) fun tk => ⟨.bl b, H, I.tok tk, rfl, q⟩
end V2

set_option maxHeartbeats 4000000
/-! V2f: data at new places only (beside a hand, beside a list that will change) -/
namespace V2
open PySem PySem.Spec PyProof.Rows L2 V1
/-- H, but only what is new behind H0 -/
def newH (H0 H : Hp) : Hp := fun b => match H0 b with
  | none => H b
  | some _ => none
theorem newH_at {H0 H : Hp} {b : Addr} (n : H0 b = none) : newH H0 H b = H b := by
  unfold newH
  rw [n]
theorem newH_old {H0 H : Hp} {b : Addr} {o : HO} (n : H0 b = some o) : newH H0 H b = none := by
  unfold newH
  rw [n]
theorem newH_some {H0 H : Hp} {b : Addr} {o : HO} (h : newH H0 H b = some o) : H0 b = none ∧ H b = some o := by
  cases e : H0 b with
  | none => exact ⟨rfl, by rw [newH_at e] at h; exact h⟩
  | some u =>
    rw [newH_old e] at h
    cases h
theorem newH_sub {H0 H : Hp} : Same (newH H0 H) H := fun _ _ e => (newH_some e).2
theorem newH_up {H0 H H' : Hp} (s : Same H H') : Same (newH H0 H) (newH H0 H') := fun b o e => by
  obtain ⟨n, h⟩ := newH_some e
  rw [newH_at n]
  exact s _ _ h
theorem newH_on {H0 H1 H : Hp} (s : Same H0 H1) : Same (newH H1 H) (newH H0 H) := fun b o e => by
  obtain ⟨n, h⟩ := newH_some e
  have z : H0 b = none := by
    cases q : H0 b with
    | none => rfl
    | some u =>
      rw [s _ _ q] at n
      cases n
  rw [newH_at z]
  exact h
theorem newH_off {H0 H : Hp} {a : Addr} (h : Held H0 a) : Same (newH H0 H) (delH H a) := fun b o e => by
  obtain ⟨n, q⟩ := newH_some e
  obtain ⟨u, hu⟩ := h
  rw [delH_ne (Ne.symm (ne_of_none hu n))]
  exact q
theorem newH_off2 {H0 H : Hp} {a f : Addr} (h : Held H0 a) (hf : Held H0 f) : Same (newH H0 H) (delH (delH H a) f) := fun b o e => by
  obtain ⟨n, q⟩ := newH_some e
  obtain ⟨u, hu⟩ := hf
  rw [delH_ne (Ne.symm (ne_of_none hu n))]
  exact newH_off h b o e
/-- te makes this data at new places -/
def MkN (te : TE) (σ : L2.St) (d : PyData) : Prop := ∀ H, ∀ Q : VK, (∀ v H', Same H H' → Dq (newH H H') v d → Q v H') → te σ H Q
def MkNA (ta : TA) (σ : L2.St) (ds : List PyData) : Prop := ∀ H, ∀ Q : List V → Hp → Prop, (∀ vs H', Same H H' → DqAll (newH H H') vs ds → Q vs H') → ta σ H Q
section
variable {σ : L2.St} {d : PyData} {ds : List PyData} {te : TE} {ta : TA}
theorem mkn_non : MkN (tC .non) σ .none := fun H _ k => k _ H (Same.refl H) .non
theorem mkn_bl (b : Bool) : MkN (tC (.bl b)) σ (.bool b) := fun H _ k => k _ H (Same.refl H) (.bl b)
theorem mkn_int (i : Int) : MkN (tC (.int i)) σ (.int i) := fun H _ k => k _ H (Same.refl H) (.int i)
theorem mkn_str (x : Str) : MkN (tC (.str x)) σ (.str x) := fun H _ k => k _ H (Same.refl H) (.str x)
theorem mkna_nil : MkNA tNil σ [] := fun H _ k => k [] H (Same.refl H) .nil
theorem mkna_cons (h : MkN te σ d) (r : MkNA ta σ ds) : MkNA (tCons te ta) σ (d :: ds) := fun H _ k => h H _ fun v H1 s1 q1 => r H1 _ fun vs H2 s2 q2 =>
  k (v :: vs) H2 (s1.trans s2) (.cons (Dq.same (newH_up s2) d v q1) (DqAll.same (newH_on s1) ds vs q2))
theorem mkn_tup (r : MkNA ta σ ds) (hz : ds.length ≤ 1000) : MkN (tTup ta) σ (.tuple ds) := fun H _ k => r H _ fun vs H1 s1 q1 =>
  ⟨Nat.le_of_lt (small1000 (by rw [dqAll_len q1]; exact hz)), fun p n => k _ _ (s1.trans (same_new n)) (.tup (by rw [newH_at (fresh_up s1 n)]; exact upd_same) (DqAll.same (newH_up (same_new n)) ds vs q1))⟩
theorem mkn_lst (r : MkNA ta σ ds) (hz : ds.length ≤ 1000) : MkN (tLstS ta) σ (.list ds) := fun H _ k => r H _ fun vs H1 s1 q1 =>
  ⟨Nat.le_of_lt (small1000 (by rw [dqAll_len q1]; exact hz)), fun p n low => k _ _ (s1.trans (same_new n)) (.lst (by rw [newH_at (fresh_up s1 n)]; exact upd_same) low (DqAll.same (newH_up (same_new n)) ds vs q1))⟩
theorem mkn_dict0 : MkN tDNewK σ (.dict []) := fun H _ k p n => k _ _ (same_new n) (.dct (by rw [newH_at n]; exact upd_same) .nil)
end
end V2

set_option maxHeartbeats 4000000
/-! V2g: data made beside a hand at a and a list at f, from the heap H0 on (old data may be within) -/
namespace V2
open PySem PySem.Spec PyProof.Rows L2 V1
def MkR (H0 : Hp) (a f : Addr) (te : TE) (σ : L2.St) (d : PyData) : Prop := ∀ H, Same H0 H → ∀ Q : VK, (∀ v H', Same H H' → Dq (delH (delH H' a) f) v d → Q v H') → te σ H Q
def MkRA (H0 : Hp) (a f : Addr) (ta : TA) (σ : L2.St) (ds : List PyData) : Prop := ∀ H, Same H0 H → ∀ Q : List V → Hp → Prop, (∀ vs H', Same H H' → DqAll (delH (delH H' a) f) vs ds → Q vs H') → ta σ H Q
section
variable {H0 : Hp} {a f : Addr} {σ : L2.St} {d : PyData} {ds : List PyData} {te : TE} {ta : TA}
theorem mkr_new (ha : Held H0 a) (hf : Held H0 f) (h : MkN te σ d) : MkR H0 a f te σ d := fun H s Q k => h H Q fun v H' s' q => k v H' s' (Dq.same (newH_off2 (ha.same s) (hf.same s)) _ _ q)
theorem mkra_nil : MkRA H0 a f tNil σ [] := fun H _ _ k => k [] H (Same.refl H) .nil
theorem mkra_cons (h : MkR H0 a f te σ d) (r : MkRA H0 a f ta σ ds) : MkRA H0 a f (tCons te ta) σ (d :: ds) := fun H s _ k => h H s _ fun v H1 s1 q1 => r H1 (s.trans s1) _ fun vs H2 s2 q2 =>
  k (v :: vs) H2 (s1.trans s2) (.cons (Dq.same (same_del (same_del s2)) d v q1) q2)
theorem mkr_lst (ha : Held H0 a) (hf : Held H0 f) (r : MkRA H0 a f ta σ ds) (hz : ds.length ≤ 1000) : MkR H0 a f (tLstS ta) σ (.list ds) := fun H s _ k => r H s _ fun vs H1 s1 q1 =>
  ⟨Nat.le_of_lt (small1000 (by rw [dqAll_len q1]; exact hz)), fun p n low => k _ _ (s1.trans (same_new n)) (.lst (by
    obtain ⟨u, hu⟩ := ha.same (s.trans s1)
    obtain ⟨w, hw⟩ := hf.same (s.trans s1)
    rw [delH_ne (Ne.symm (ne_of_none hw n)), delH_ne (Ne.symm (ne_of_none hu n))]
    exact upd_same) low (DqAll.same (same_del (same_del (same_new n))) ds vs q1))⟩
/-- what stands already -/
theorem mkr_old {v : V} (h : Dq (delH (delH H0 a) f) v d) (ht : ∀ H, Same H0 H → ∀ Q : VK, Q v H → te σ H Q) : MkR H0 a f te σ d := fun H s Q k => ht H s Q (k v H (Same.refl H) (Dq.same (same_del (same_del s)) _ _ h))
end
end V2

set_option maxHeartbeats 4000000
/-! V3a: data with objects of plain classes in it: the shape of an object is objD, a dict that no dict has -/
namespace V3
open PySem PySem.Spec PyProof.Rows L2 V1 V2
class CurK where
  K : PySem.W.Frag
abbrev K [k : CurK] : PySem.W.Frag := k.K
def kindNames : List String := ["int", "bool", "str", "tuple", "list", "dict"]
/-- what more is asked of a plain class: its objects are of no built-in kind -/
def kindB (K : PySem.W.Frag) (C : Addr) : Bool := kindNames.all fun n => decide (PySem.W.kitOne K (.ref C) (.type n) = some false)
structure ObC [CurK] (C : Addr) : Prop where
  ins : C8.InsC K C
  no : ∀ n ∈ kindNames, PySem.W.kitOne K (.ref C) (.type n) = some false
theorem obC_of [CurK] {C : Addr} (i : C8.InsC K C) (h : kindB K C = true) : ObC C := ⟨i, fun n hn => by
  unfold kindB at h
  rw [List.all_eq_true] at h
  exact of_decide_eq_true (h n hn)⟩
def objD : PyData := .dict [(.none, .none)]
mutual
inductive Dx [CurK] (H : Hp) : V → PyData → Prop
  | non : Dx H .non .none
  | bl (b : Bool) : Dx H (.bl b) (.bool b)
  | int (i : Int) : Dx H (.int i) (.int i)
  | str (x : Str) : Dx H (.str x) (.str x)
  | lst {a : Addr} {xs : List V} {ds : List PyData} (at_ : H a = some (.lst xs)) (low : (a == sysModules) = false) (rest : DxAll H xs ds) : Dx H (.ref a) (.list ds)
  | tup {a : Addr} {xs : List V} {ds : List PyData} (at_ : H a = some (.tup xs)) (rest : DxAll H xs ds) : Dx H (.ref a) (.tuple ds)
  | dct {a : Addr} {kvs : List (Key × V)} {ds : List (PyData × PyData)} (at_ : H a = some (.dK kvs)) (rest : DxKv H kvs ds) : Dx H (.ref a) (.dict ds)
  | ob {a C dx : Addr} {fs : List (Str × V)} (at_ : H a = some (.ins C dx fs)) (ok : ObC C) : Dx H (.ref a) objD
inductive DxAll [CurK] (H : Hp) : List V → List PyData → Prop
  | nil : DxAll H [] []
  | cons {v : V} {vs : List V} {d : PyData} {ds : List PyData} (one : Dx H v d) (more : DxAll H vs ds) : DxAll H (v :: vs) (d :: ds)
inductive DxKv [CurK] (H : Hp) : List (Key × V) → List (PyData × PyData) → Prop
  | nil : DxKv H [] []
  | cons {k : Key} {v : V} {kvs : List (Key × V)} {d : PyData} {ds : List (PyData × PyData)} (one : Dx H v d) (more : DxKv H kvs ds) : DxKv H ((k, v) :: kvs) ((keyD k, d) :: ds)
end
section
variable [CurK] {H H' : Hp}
mutual
theorem Dx.same (e : Same H H') : ∀ (d : PyData) (v : V), Dx H v d → Dx H' v d
  | .none, _, h => by cases h; exact .non
  | .bool b, _, h => by cases h; exact .bl b
  | .int i, _, h => by cases h; exact .int i
  | .str x, _, h => by cases h; exact .str x
  | .list ds, _, h => by
    cases h with
    | lst at_ low rest => exact .lst (e _ _ at_) low (DxAll.same e ds _ rest)
  | .tuple ds, _, h => by
    cases h with
    | tup at_ rest => exact .tup (e _ _ at_) (DxAll.same e ds _ rest)
  | .dict ds, _, h => by
    cases h with
    | dct at_ rest => exact .dct (e _ _ at_) (DxKv.same e ds _ rest)
    | ob at_ ok => exact .ob (e _ _ at_) ok
theorem DxAll.same (e : Same H H') : ∀ (ds : List PyData) (vs : List V), DxAll H vs ds → DxAll H' vs ds
  | [], _, h => by cases h; exact .nil
  | d :: ds, _, h => by
    cases h with
    | cons one more => exact .cons (Dx.same e d _ one) (DxAll.same e ds _ more)
theorem DxKv.same (e : Same H H') : ∀ (ds : List (PyData × PyData)) (kvs : List (Key × V)), DxKv H kvs ds → DxKv H' kvs ds
  | [], _, h => by cases h; exact .nil
  | (k, d) :: ds, _, h => by
    cases h with
    | cons one more => exact .cons (Dx.same e d _ one) (DxKv.same e ds _ more)
end
/-! plain data are such data -/
mutual
theorem dx_of : ∀ (d : PyData) (v : V), Dq H v d → Dx H v d
  | .none, _, h => by cases h; exact .non
  | .bool b, _, h => by cases h; exact .bl b
  | .int i, _, h => by cases h; exact .int i
  | .str x, _, h => by cases h; exact .str x
  | .list ds, _, h => by
    cases h with
    | lst at_ low rest => exact .lst at_ low (dxAll_of ds _ rest)
  | .tuple ds, _, h => by
    cases h with
    | tup at_ rest => exact .tup at_ (dxAll_of ds _ rest)
  | .dict ds, _, h => by
    cases h with
    | dct at_ rest => exact .dct at_ (dxKv_of ds _ rest)
theorem dxAll_of : ∀ (ds : List PyData) (vs : List V), DqAll H vs ds → DxAll H vs ds
  | [], _, h => by cases h; exact .nil
  | d :: ds, _, h => by
    cases h with
    | cons one more => exact .cons (dx_of d _ one) (dxAll_of ds _ more)
theorem dxKv_of : ∀ (ds : List (PyData × PyData)) (kvs : List (Key × V)), DqKv H kvs ds → DxKv H kvs ds
  | [], _, h => by cases h; exact .nil
  | (k, d) :: ds, _, h => by
    cases h with
    | cons one more => exact .cons (dx_of d _ one) (dxKv_of ds _ more)
end
/-! such data without dicts have no objects either -/
mutual
theorem dq_of : ∀ (d : PyData) (v : V), V2.plain d = true → Dx H v d → Dq H v d
  | .none, _, _, h => by cases h; exact .non
  | .bool b, _, _, h => by cases h; exact .bl b
  | .int i, _, _, h => by cases h; exact .int i
  | .str x, _, _, h => by cases h; exact .str x
  | .list ds, _, p, h => by
    cases h with
    | lst at_ low rest => exact .lst at_ low (dqAll_of ds _ (by simpa [V2.plain] using p) rest)
  | .tuple ds, _, p, h => by
    cases h with
    | tup at_ rest => exact .tup at_ (dqAll_of ds _ (by simpa [V2.plain] using p) rest)
  | .dict ds, _, p, h => by simp [V2.plain] at p
theorem dqAll_of : ∀ (ds : List PyData) (vs : List V), plainAll ds = true → DxAll H vs ds → DqAll H vs ds
  | [], _, _, h => by cases h; exact .nil
  | d :: ds, _, p, h => by
    cases h with
    | cons one more =>
      have p' : V2.plain d = true ∧ plainAll ds = true := by simpa [plainAll] using p
      exact .cons (dq_of d _ p'.1 one) (dqAll_of ds _ p'.2 more)
end
theorem Dx.int_inv {v : V} {n : Int} (h : Dx H v (.int n)) : v = .int n := by
  cases h
  rfl
theorem Dx.str_inv {v : V} {n : Str} (h : Dx H v (.str n)) : v = .str n := by
  cases h
  rfl
theorem Dx.bool_inv {v : V} {n : Bool} (h : Dx H v (.bool n)) : v = .bl n := by
  cases h
  rfl
theorem Dx.none_inv {v : V} (h : Dx H v .none) : v = .non := by
  cases h
  rfl
theorem Dx.tup_inv {v : V} {ds : List PyData} (h : Dx H v (.tuple ds)) : ∃ a vs, v = .ref a ∧ H a = some (.tup vs) ∧ DxAll H vs ds := by
  cases h with
  | tup e r => exact ⟨_, _, rfl, e, r⟩
theorem Dx.lst_inv {v : V} {ds : List PyData} (h : Dx H v (.list ds)) : ∃ a vs, v = .ref a ∧ H a = some (.lst vs) ∧ (a == sysModules) = false ∧ DxAll H vs ds := by
  cases h with
  | lst e l r => exact ⟨_, _, rfl, e, l, r⟩
theorem dxAll_len : ∀ {vs : List V} {ds : List PyData}, DxAll H vs ds → vs.length = ds.length
  | _, _, .nil => rfl
  | _, _, .cons _ more => by rw [List.length_cons, List.length_cons, dxAll_len more]
theorem DxAll.at : ∀ {vs : List V} {ds : List PyData} {j : Nat} {v : V} {d : PyData}, DxAll H vs ds → vs[j]? = some v → ds[j]? = some d → Dx H v d
  | _ :: _, _ :: _, 0, _, _, .cons one _, e, e' => by
    obtain rfl := Option.some.inj e
    obtain rfl := Option.some.inj e'
    exact one
  | _ :: _, _ :: _, j + 1, _, _, .cons _ more, e, e' => DxAll.at (j := j) more e e'
theorem DxAll.some : ∀ {vs : List V} {ds : List PyData} {i : Nat} {v : V}, DxAll H vs ds → vs[i]? = some v → ∃ d, d ∈ ds ∧ Dx H v d
  | _, _, 0, _, .cons one _, h => ⟨_, List.mem_cons_self, Option.some.inj h ▸ one⟩
  | _, _, i + 1, _, .cons _ more, h => by
    obtain ⟨d, m, q⟩ := DxAll.some (i := i) more h
    exact ⟨d, List.mem_cons_of_mem _ m, q⟩
theorem DxAll.take : ∀ {vs : List V} {ds : List PyData} (n : Nat), DxAll H vs ds → DxAll H (vs.take n) (ds.take n)
  | _, _, 0, _ => by
    rw [List.take_zero, List.take_zero]
    exact .nil
  | _, _, _ + 1, .nil => .nil
  | _, _, n + 1, .cons one more => .cons one (DxAll.take n more)
theorem DxAll.drop : ∀ {vs : List V} {ds : List PyData} (n : Nat), DxAll H vs ds → DxAll H (vs.drop n) (ds.drop n)
  | _, _, 0, h => h
  | _, _, _ + 1, .nil => .nil
  | _, _, n + 1, .cons _ more => DxAll.drop n more
theorem DxAll.app : ∀ {vs us : List V} {ds es : List PyData}, DxAll H vs ds → DxAll H us es → DxAll H (vs ++ us) (ds ++ es)
  | _, _, _, _, .nil, h => h
  | _, _, _, _, .cons one more, h => .cons one (DxAll.app more h)
theorem DxAll.insAt {vs : List V} {ds : List PyData} {v : V} {d : PyData} (h : DxAll H vs ds) (hv : Dx H v d) (i : Nat) : DxAll H (vs.take i ++ [v] ++ vs.drop i) (ds.take i ++ [d] ++ ds.drop i) :=
  DxAll.app (DxAll.app (DxAll.take i h) (.cons hv .nil)) (DxAll.drop i h)
theorem DxAll.erase : ∀ {vs : List V} {ds : List PyData} (n : Nat), DxAll H vs ds → DxAll H (vs.eraseIdx n) (ds.eraseIdx n)
  | _, _, _, .nil => .nil
  | _, _, 0, .cons _ more => more
  | _, _, n + 1, .cons one more => .cons one (DxAll.erase n more)
theorem DxAll.put {v : V} {d : PyData} (hv : Dx H v d) : ∀ {vs : List V} {ds : List PyData} (n : Nat), DxAll H vs ds → DxAll H (vs.set n v) (ds.set n d)
  | _, _, _, .nil => .nil
  | _, _, 0, .cons _ more => .cons hv more
  | _, _, n + 1, .cons one more => .cons one (DxAll.put hv n more)
end
/-! the kind of such data -/
section
variable [CurK] {σ : L2.St} {H : Hp} {Q : VK} {te : TE} {v : V} {d : PyData} {n n1 n2 : String} {b b1 b2 : Bool}
/-- the answers of isinstance for this shape -/
def KindIs (d : PyData) (n : String) (b : Bool) : Prop := kitB (tyName d) n = some b ∧ n ∈ kindNames ∧ (d = objD → b = false)
theorem kx_of (k : KindIs d n b) (h : Dx H v d) : ∃ t, TyX K H v t ∧ PySem.W.kitOne K t (.type n) = some b := by
  obtain ⟨k1, k2, k3⟩ := k
  have z := kit_ty (K := K) k1
  cases h with
  | non => exact ⟨_, .base .non, z⟩
  | bl b => exact ⟨_, .base (.bl b), z⟩
  | int i => exact ⟨_, .base (.int i), z⟩
  | str x => exact ⟨_, .base (.str x), z⟩
  | lst e _ _ => exact ⟨_, .base (.lst e), z⟩
  | tup e _ => exact ⟨_, .base (.tup e), z⟩
  | dct e _ => exact ⟨_, .base (.dK e), z⟩
  | ob e ok => exact ⟨_, TyX_ins e ok.ins, by rw [k3 rfl]; exact ok.no _ k2⟩
theorem kx_tup (d : PyData) : KindIs d "tuple" (isTup d) := ⟨kit_tup d, by decide, fun e => by rw [e]; rfl⟩
theorem kx_lst (d : PyData) : KindIs d "list" (isLst d) := ⟨kit_lst d, by decide, fun e => by rw [e]; rfl⟩
theorem kx_int (d : PyData) : KindIs d "int" (isInt d || isBool d) := ⟨kit_int d, by decide, fun e => by rw [e]; rfl⟩
theorem kx_bool (d : PyData) : KindIs d "bool" (isBool d) := ⟨kit_bool d, by decide, fun e => by rw [e]; rfl⟩
theorem kx_str (d : PyData) : KindIs d "str" (isStr d) := ⟨kit_str d, by decide, fun e => by rw [e]; rfl⟩
theorem isx_go (hb : KindIs d n b) (ht : ∀ Q : VK, Q v H → te σ H Q) (hd : Dx H v d) (q : Q (.bl b) H) : tCB (rIsi K) (tCons te (tCons (tC (.ty n)) tNil)) σ H Q := by
  obtain ⟨t, ty, k⟩ := kx_of hb hd
  exact ht _ ⟨v, .ty n, _, _, b, rfl, .ty n, ty, k, q⟩
/-- isinstance(x, (T1, T2)) -/
theorem isxT_go (h1 : KindIs d n1 b1) (h2 : KindIs d n2 b2) (ht : ∀ Q : VK, Q v H → te σ H Q) (hd : Dx H v d) (q : ∀ p, H p = none → Q (.bl (b1 || b2)) (upd H p (.tup [.ty n1, .ty n2]))) :
    tCB (rIsiT K) (tCons te (tCons (tTup (tCons (tC (.ty n1)) (tCons (tC (.ty n2)) tNil))) tNil)) σ H Q :=
  ht _ ⟨(by show 2 ≤ sizeLine; decide), fun p np => by
    have hd' := Dx.same (same_new (o := HO.tup [.ty n1, .ty n2]) np) d v hd
    have z : ∃ t, TyX K (upd H p (.tup [.ty n1, .ty n2])) v t ∧ PySem.W.kitOne K t (.type n1) = some b1 ∧ PySem.W.kitOne K t (.type n2) = some b2 := by
      obtain ⟨k1, k2, k3⟩ := h1
      obtain ⟨m1, m2, m3⟩ := h2
      have z1 := kit_ty (K := K) k1
      have z2 := kit_ty (K := K) m1
      cases hd' with
      | non => exact ⟨_, .base .non, z1, z2⟩
      | bl b => exact ⟨_, .base (.bl b), z1, z2⟩
      | int i => exact ⟨_, .base (.int i), z1, z2⟩
      | str x => exact ⟨_, .base (.str x), z1, z2⟩
      | lst e _ _ => exact ⟨_, .base (.lst e), z1, z2⟩
      | tup e _ => exact ⟨_, .base (.tup e), z1, z2⟩
      | dct e _ => exact ⟨_, .base (.dK e), z1, z2⟩
      | ob e ok => exact ⟨_, TyX_ins e ok.ins, by rw [k3 rfl]; exact ok.no _ k2, by rw [m3 rfl]; exact ok.no _ m2⟩
    obtain ⟨t, ty, e1, e2⟩ := z
    refine ⟨v, p, _, _, _, b1 || b2, rfl, upd_same, .cons (.ty n1) (.cons (.ty n2) .nil), ty, ?_, q p np⟩
    show (match PySem.W.kitOne K t (.type n1) with
      | Option.some true => Option.some true
      | Option.some false => (match PySem.W.kitOne K t (.type n2) with
        | Option.some true => Option.some true
        | Option.some false => Option.some false
        | Option.none => Option.none)
      | Option.none => Option.none) = _
    rw [e1, e2]
    cases b1 <;> cases b2 <;> rfl⟩
end
/-! made at new places; made beside a hand -/
def MkX [CurK] (te : TE) (σ : L2.St) (d : PyData) : Prop := ∀ H, ∀ Q : VK, (∀ v H', Same H H' → Dx (newH H H') v d → Q v H') → te σ H Q
def MkXA [CurK] (ta : TA) (σ : L2.St) (ds : List PyData) : Prop := ∀ H, ∀ Q : List V → Hp → Prop, (∀ vs H', Same H H' → DxAll (newH H H') vs ds → Q vs H') → ta σ H Q
def MkY [CurK] (H0 : Hp) (a : Addr) (te : TE) (σ : L2.St) (d : PyData) : Prop := ∀ H, Same H0 H → ∀ Q : VK, (∀ v H', Same H H' → Dx (delH H' a) v d → Q v H') → te σ H Q
def MkYA [CurK] (H0 : Hp) (a : Addr) (ta : TA) (σ : L2.St) (ds : List PyData) : Prop := ∀ H, Same H0 H → ∀ Q : List V → Hp → Prop, (∀ vs H', Same H H' → DxAll (delH H' a) vs ds → Q vs H') → ta σ H Q
section
variable [CurK] {σ : L2.St} {d : PyData} {ds : List PyData} {te : TE} {ta : TA}
theorem mkx_of (h : MkN te σ d) : MkX te σ d := fun H Q k => h H Q fun v H' s q => k v H' s (dx_of d v q)
theorem mkxa_nil : MkXA tNil σ [] := fun H _ k => k [] H (Same.refl H) .nil
theorem mkxa_cons (h : MkX te σ d) (r : MkXA ta σ ds) : MkXA (tCons te ta) σ (d :: ds) := fun H _ k => h H _ fun v H1 s1 q1 => r H1 _ fun vs H2 s2 q2 =>
  k (v :: vs) H2 (s1.trans s2) (.cons (Dx.same (newH_up s2) d v q1) (DxAll.same (newH_on s1) ds vs q2))
theorem mkx_tup (r : MkXA ta σ ds) (hz : ds.length ≤ 1000) : MkX (tTup ta) σ (.tuple ds) := fun H _ k => r H _ fun vs H1 s1 q1 =>
  ⟨Nat.le_of_lt (small1000 (by rw [dxAll_len q1]; exact hz)), fun p n => k _ _ (s1.trans (same_new n)) (.tup (by rw [newH_at (fresh_up s1 n)]; exact upd_same) (DxAll.same (newH_up (same_new n)) ds vs q1))⟩
theorem mkx_lst (r : MkXA ta σ ds) (hz : ds.length ≤ 1000) : MkX (tLstS ta) σ (.list ds) := fun H _ k => r H _ fun vs H1 s1 q1 =>
  ⟨Nat.le_of_lt (small1000 (by rw [dxAll_len q1]; exact hz)), fun p n low => k _ _ (s1.trans (same_new n)) (.lst (by rw [newH_at (fresh_up s1 n)]; exact upd_same) low (DxAll.same (newH_up (same_new n)) ds vs q1))⟩
end
end V3

set_option maxHeartbeats 4000000
/-! V3b: xs.extend(t), t a tuple; more of data made beside a hand -/
namespace V3
open PySem PySem.Spec PyProof.Rows L2 V1 V2
open AutoSeq1
theorem extend_tup (l : Addr) (xs : Array Value) (n : Nat) (b : Addr) (o : Obj) (ys : Array Value) (m : Nat) (hc : o.cls = .type "tuple") (hd : o.data = .seq ys m) (h0 : ¬(!xs.isEmpty && Builtin.List.listTooLong (xs.size + ys.size)) = true) (h1 : xs.size ≤ sizeLine) (h2 : xs.size + ys.size ≤ sizeLine + 1) :
    Meets (Builtin.«list.extend» ⟨[.ref l, .ref b], []⟩) (fun _ R s => s.heap.get? l = some { cls := .type "list", dict := none, data := .seq xs n, slots := #[] } ∧ s.heap.get? b = some o ∧
      R (.ok (.ret Value.none)) { s with heap := s.heap.update l (Obj.mapSeq fun x => x ++ ys), toks := s.toks }) :=
  .of_wp fun prog w A R s hh => by
    obtain ⟨hp, g, dr, tk, os⟩ := s
    obtain ⟨hl, hb, go⟩ := hh
    have i1 := idx_int
    have i2 := AutoSeq1.sub_tuple_tuple
    have i3 := AutoSeq1.sub_list_list
    have i4 := AutoSeq1.sub_tuple_list
    have i5 := AutoSeq1.sub_list_tuple
    have lim : (xs ++ ys).size ≤ sizeLine + 1 := by
      rw [Array.size_append]
      exact h2
    obtain ⟨cls, dict, data, slots⟩ := o
    dsimp only at hc hd
    subst hc hd
    wp_walk using (wpAny_updateSeq hl rfl (hz := h1) (_hz' := lim)), wpAny_loadPart' hl, wpAny_loadPart' hb
    exact ⟨_, rfl, go⟩
def rExtT (K : PySem.W.Frag) : V → List V → Hp → VK → Prop := fun x vs H Q => ∃ l b xs zs, x = .ref l ∧ vs = [.ref b] ∧ H l = some (.lst xs) ∧ SqT K H b zs ∧ xs.length + zs.length ≤ sizeLine ∧ Q .non (upd H l (.lst (xs ++ zs)))
theorem mt_extT {X : Cx} : MtM X "list.extend" (rExtT X.K) := by
  rintro pins s σ H x vs v us Q I rx rv ⟨l, b, xs, zs, rfl, rfl, hH, hB, hz, q⟩
  cases rx
  obtain ⟨u, rfl, ru⟩ := rv.one
  cases ru
  obtain ⟨z, its, n, r, hl, e⟩ := I.lstM hH
  obtain ⟨ys, ry, ⟨o, eo, co, m, d⟩, _⟩ := I.tuple hB
  have ly := ry.length
  have lx := r.length
  have small : its.toArray.size + ys.toArray.size ≤ sizeLine := by
    simp only [List.size_toArray]
    omega
  refine call_meets F.slot_list_extend ⟨_, e, rfl⟩ F.entry_list_extend (F.args_list_extend_2 _ _)
    (extend_tup l its.toArray n b o ys.toArray m co d (by rw [notLongL small, Bool.and_false]; exact Bool.false_ne_true) (by omega) (by omega)) ⟨e, eo, .non, _, I.lset (its' := its ++ ys) hH e (by simp) (r.append ry) (by rw [List.length_append]; omega), rfl, q⟩
end V3

set_option maxHeartbeats 4000000
/-! V3c: order of two tuples of texts -/
namespace V3
open PySem PySem.Spec PyProof.Rows L2 V1 V2
/-- which of two texts comes first -/
def txLe (x y : Str) : Bool := !decide (y.cps.toList < x.cps.toList)
def txLt (x y : Str) : Bool := decide (x.cps.toList < y.cps.toList)
def rowLe : List Str → List Str → Bool
  | [], _ => true
  | _ :: _, [] => false
  | x :: xs, y :: ys => if (x == y) = true then rowLe xs ys else txLe x y
def rowLt : List Str → List Str → Bool
  | _, [] => false
  | [], _ :: _ => true
  | x :: xs, y :: ys => if (x == y) = true then rowLt xs ys else txLt x y
theorem lex_row (r : Str → Str → Bool) (z : Nat → Nat → Bool) (f : List Str → List Str → Bool) (hz : ∀ a b, z (a + 1) (b + 1) = z a b) (f0 : ∀ ys : List Str, f [] ys = z 0 ys.length) (f1 : ∀ x xs, f (x :: xs) [] = z (xs.length + 1) 0)
    (f2 : ∀ x xs y ys, f (x :: xs) (y :: ys) = if (x == y) = true then f xs ys else r x y) :
    ∀ (pre pre' ns ms : List Str), pre.length = pre'.length → Ob.lexAt (fun j => (pre ++ ns).getD j Str.empty == (pre' ++ ms).getD j Str.empty) (fun j => r ((pre ++ ns).getD j Str.empty) ((pre' ++ ms).getD j Str.empty)) (z ns.length ms.length) pre.length (min ns.length ms.length) = f ns ms
  | pre, pre', [], ms, _ => by
    rw [List.length_nil, Nat.zero_min, f0]
    rfl
  | pre, pre', n :: ns, [], _ => by
    rw [List.length_nil, Nat.min_zero, f1]
    rfl
  | pre, pre', n :: ns, m :: ms, e => by
    have h1 : (pre ++ n :: ns).getD pre.length Str.empty = n := by simp [List.getD]
    have h2 : (pre' ++ m :: ms).getD pre.length Str.empty = m := by rw [e]; simp [List.getD]
    have ih := lex_row r z f hz f0 f1 f2 (pre ++ [n]) (pre' ++ [m]) ns ms (by simp [e])
    rw [List.append_assoc, List.append_assoc, List.length_append] at ih
    rw [List.length_cons, List.length_cons, Nat.succ_min_succ, Ob.lexAt_succ, f2, hz]
    simp only [h1, h2]
    by_cases q : (n == m) = true
    · rw [if_pos q, if_pos q]
      exact ih
    · rw [if_neg q, if_neg q]
section
variable {X : Cx} {pins : List (Addr × Obj)} {σ : L2.St} {H : Hp} {s : Shared}
theorem texts_at {us : List Value} {ns : List Str} (r : Vals (ns.map V.str) us) (j : Nat) (h : j < us.toArray.size) : ∃ t, us.toArray[j] = Value.str (ns.getD j Str.empty) t := by
  have hj : j < ns.length := by
    have z := r.length
    rw [List.length_map] at z
    rw [List.size_toArray] at h
    omega
  obtain ⟨w, hw, rw'⟩ := r.get (i := j) (x := .str ns[j]) (by rw [List.getElem?_map, List.getElem?_eq_getElem hj]; rfl)
  obtain ⟨t, rfl⟩ := rw'
  refine ⟨t, ?_⟩
  have z : us[j]? = some us[j] := List.getElem?_eq_getElem (by simpa using h)
  rw [z] at hw
  rw [List.getElem_toArray, Option.some.inj hw]
  simp [List.getD, hj]
def rLeTS (K : PySem.W.Frag) : R2 := fun x y H Q => ∃ (a b : Addr) (ns ms : List Str), x = .ref a ∧ y = .ref b ∧ SqT K H a (ns.map V.str) ∧ SqT K H b (ms.map V.str) ∧ Q (.bl (rowLe ns ms)) H
theorem op_leTS (hu : X.A.units < cLine) : OpR X (compareOp .LtE) (rLeTS X.K) := by
  rintro pins s σ H x y v u Q I rx ry ⟨a, b, ns, ms, rfl, rfl, ha, hb, q⟩
  cases rx
  cases ry
  obtain ⟨us, r1, p1, _⟩ := I.tuple ha
  obtain ⟨ws, r2, p2, _⟩ := I.tuple hb
  have l1 : us.toArray.size = ns.length := by rw [List.size_toArray, ← r1.length, List.length_map]
  have l2 : ws.toArray.size = ms.length := by rw [List.size_toArray, ← r2.length, List.length_map]
  have key := lex_row txLe (fun a b => decide (a ≤ b)) rowLe (fun a b => by simp) (fun ys => by simp [rowLe]) (fun x xs => by simp [rowLe]) (fun _ _ _ _ => rfl) [] [] ns ms rfl
  have cmp := Ob.RcOp.tuples_le (A := X.A) (s := s) (e := fun j => ns.getD j Str.empty == ms.getD j Str.empty) (r := fun j => txLe (ns.getD j Str.empty) (ms.getD j Str.empty)) p1 p2 hu
    (fun j g1 g2 => by
      obtain ⟨t, z1⟩ := texts_at r1 j g1
      obtain ⟨t', z2⟩ := texts_at r2 j g2
      rw [z1, z2]
      exact SeqAt.EqAt.str_str _ _ _ _)
    (fun j g1 g2 _ => by
      obtain ⟨t, z1⟩ := texts_at r1 j g1
      obtain ⟨t', z2⟩ := texts_at r2 j g2
      rw [z1, z2]
      exact fun P w E Q k => PySem.P.le_str (by simpa [txLe] using k))
  rw [l1, l2] at cmp
  have last : wpAny (model X.prog X.w) X.A (compareOp .LtE (.ref a) (.ref b)) (EP X pins σ Q) X.xe s := cmp X.prog X.w X.xe (EP X pins σ Q) ⟨.bl _, H, I, rfl, by
    have k2 := key
    simp only [List.nil_append, List.length_nil] at k2
    rw [k2]
    exact q⟩
  exact last
def rLtTS (K : PySem.W.Frag) : R2 := fun x y H Q => ∃ (a b : Addr) (ns ms : List Str), x = .ref a ∧ y = .ref b ∧ SqT K H a (ns.map V.str) ∧ SqT K H b (ms.map V.str) ∧ Q (.bl (rowLt ns ms)) H
theorem op_ltTS (hu : X.A.units < cLine) : OpR X (compareOp .Lt) (rLtTS X.K) := by
  rintro pins s σ H x y v u Q I rx ry ⟨a, b, ns, ms, rfl, rfl, ha, hb, q⟩
  cases rx
  cases ry
  obtain ⟨us, r1, p1, _⟩ := I.tuple ha
  obtain ⟨ws, r2, p2, _⟩ := I.tuple hb
  have l1 : us.toArray.size = ns.length := by rw [List.size_toArray, ← r1.length, List.length_map]
  have l2 : ws.toArray.size = ms.length := by rw [List.size_toArray, ← r2.length, List.length_map]
  have key := lex_row txLt (fun a b => decide (a < b)) rowLt (fun a b => by simp) (fun ys => by cases ys <;> simp [rowLt]) (fun x xs => by simp [rowLt]) (fun _ _ _ _ => rfl) [] [] ns ms rfl
  have cmp := Ob.RcOp.tuples_lt (A := X.A) (s := s) (e := fun j => ns.getD j Str.empty == ms.getD j Str.empty) (r := fun j => txLt (ns.getD j Str.empty) (ms.getD j Str.empty)) p1 p2 hu
    (fun j g1 g2 => by
      obtain ⟨t, z1⟩ := texts_at r1 j g1
      obtain ⟨t', z2⟩ := texts_at r2 j g2
      rw [z1, z2]
      exact SeqAt.EqAt.str_str _ _ _ _)
    (fun j g1 g2 _ => by
      obtain ⟨t, z1⟩ := texts_at r1 j g1
      obtain ⟨t', z2⟩ := texts_at r2 j g2
      rw [z1, z2]
      exact fun P w E Q k => PyProof.Rows.lt_str k)
  rw [l1, l2] at cmp
  have last : wpAny (model X.prog X.w) X.A (compareOp .Lt (.ref a) (.ref b)) (EP X pins σ Q) X.xe s := cmp X.prog X.w X.xe (EP X pins σ Q) ⟨.bl _, H, I, rfl, by
    have k2 := key
    simp only [List.nil_append, List.length_nil] at k2
    rw [k2]
    exact q⟩
  exact last
end
end V3

set_option maxHeartbeats 4000000
/-! V3d: a head whose top asks the world for one habit: told apart, two kernel runs -/
namespace V3
open PySem PySem.W
/-- the habits f, but for this row -/
def hab (row : String) (b : Bool) (f : String → Bool) : String → Bool := fun s => match decide (s = row) with
  | true => b
  | false => f s
theorem hab_eq (row : String) (f : String → Bool) : hab row (f row) f = f := by
  funext s
  unfold hab
  by_cases e : s = row
  · rw [decide_eq_true e, e]
  · rw [decide_eq_false e]
def wHab (row : String) (b : Bool) (w : World) : World := ⟨w.draws, { w.params with followText := hab row b w.params.followText }⟩
theorem wHab_eq (row : String) (w : World) : wHab row (w.params.followText row) w = w := by
  unfold wHab
  rw [hab_eq]
theorem run_hab {p : World → Prop} (row : String) (h1 : ∀ w, p (wHab row true w)) (h0 : ∀ w, p (wHab row false w)) (w : World) : p w := by
  rw [← wHab_eq row w]
  cases w.params.followText row
  · exact h0 w
  · exact h1 w
end V3

set_option maxHeartbeats 4000000
/-! V4a: defs that make lambdas: their code objects and tables, by one look of the kernel; the law's own def among them; the end. -/
namespace V4
open PySem PySem.Spec PyProof.Rows L2 V1 V2 V3 LamX
section
variable {K : PySem.W.Frag} {f : Addr}
/-- the code object of the def at f, and the table of the codes made in it -/
def pairOf (K : PySem.W.Frag) (f : Addr) : Addr × Addr := match K.lookup f with
  | some ⟨_, _, .func fd, _⟩ => match fd.code with
    | .ref c => match K.lookup c with
      | some ⟨_, _, .fields vs, _⟩ => match (vs[11]? : Option Value) with
        | some (Value.ref p) => (c, p)
        | _ => (c, c)
      | _ => (c, c)
    | _ => (f, f)
  | _ => (f, f)
def txtB : Value → Bool
  | .str _ _ => true
  | _ => false
def intB : Value → Bool
  | .int _ _ => true
  | _ => false
def boolB : Value → Bool
  | .bool _ => true
  | _ => false
def headB (K : PySem.W.Frag) (p : Addr × Addr) : Bool := match K.lookup p.1 with
  | some ⟨cl, _, .fields vs, _⟩ => (decide (cl = .type "code") && decide (vs[11]? = some (.ref p.2))) && (txtB (vs.getD 18 .none) && (intB (vs.getD 7 .none) && (boolB (vs.getD 9 .none) && (intB (vs.getD 10 .none) && (!(p.1 == p.2) && (K.lookup p.2).isNone)))))
  | _ => false
def lamB (K : PySem.W.Frag) (f : Addr) : Bool := match K.lookup f with
  | some ⟨_, _, .func fd, _⟩ => decide (fd.code = .ref (pairOf K f).1) && headB K (pairOf K f)
  | _ => false
structure LamD (K : PySem.W.Frag) (f : Addr) : Prop where
  code : ∀ (o : Obj) (fd : FuncData), K.lookup f = some o → o.data = .func fd → fd.code = .ref (pairOf K f).1
  hd : ∀ h : Heap, K.In h → PySem.W.CodeHd h (pairOf K f).1 (pairOf K f).2
  off : K.lookup (pairOf K f).2 = none
theorem txtB_is {v : Value} (h : txtB v = true) : ∃ x t, v = .str x t := by
  cases v <;> first | exact ⟨_, _, rfl⟩ | cases h
theorem intB_is {v : Value} (h : intB v = true) : ∃ x t, v = .int x t := by
  cases v <;> first | exact ⟨_, _, rfl⟩ | cases h
theorem boolB_is {v : Value} (h : boolB v = true) : ∃ x, v = .bool x := by
  cases v <;> first | exact ⟨_, rfl⟩ | cases h
theorem headB_hd {p : Addr × Addr} (h : headB K p = true) : (∀ g : Heap, K.In g → PySem.W.CodeHd g p.1 p.2) ∧ K.lookup p.2 = none := by
  unfold headB at h
  split at h
  · rename_i cl od vs sl e
    simp only [Bool.and_eq_true, decide_eq_true_eq, Bool.not_eq_true', beq_eq_false_iff_ne, ne_eq, Option.isNone_iff_eq_none] at h
    obtain ⟨⟨e1, e2⟩, e3, e4, e5, e6, e7, e8⟩ := h
    obtain ⟨x1, t1, e3⟩ := txtB_is e3
    obtain ⟨x2, t2, e4⟩ := intB_is e4
    obtain ⟨x3, e5⟩ := boolB_is e5
    obtain ⟨x4, t4, e6⟩ := intB_is e6
    have e11 : vs.getD 11 .none = .ref p.2 := by
      rw [Array.getD_eq_getD_getElem?, e2]
      rfl
    exact ⟨fun g hg => ⟨_, vs, x1, t1, x2, t2, x3, x4, t4, hg _ _ e, e1, rfl, e2, e11, e3, e4, e5, e6, e7⟩, e8⟩
  · cases h
theorem lamD_of (h : lamB K f = true) : LamD K f := by
  unfold lamB at h
  split at h
  · rename_i oc od fd sl e
    obtain ⟨h1, h2⟩ := Bool.and_eq_true_iff.mp h
    refine ⟨fun o fd' e' d => ?_, (headB_hd h2).1, (headB_hd h2).2⟩
    rw [e] at e'
    cases e'
    cases d
    exact of_decide_eq_true h1
  · cases h
end
/-- a table without a code stands at p -/
def emptyT (g : Addr → Option Obj) (p : Addr) : Bool := match g p with
  | some ⟨.none, none, .fields ⟨[]⟩, ⟨[]⟩⟩ => true
  | _ => false
theorem emptyT_is {g : Addr → Option Obj} {p : Addr} (h : emptyT g p = true) : g p = some { cls := .none, data := .fields #[] } := by
  unfold emptyT at h
  split at h
  · assumption
  · cases h
/-- what is reached in so many steps, but such tables -/
def asT (g : Addr → Option Obj) (n : Nat) : List Addr := (He.asD g n).filter fun a => !emptyT g a
section
variable {P : Program} {w : World} {K : PySem.W.Frag} {mg : Str → Option Value} {base : Heap} {x qual : Str} {params : Arguments} {body : List Stmt} {scope : Scope} {dvs : List V} {kws : List (Str × V)} {f : Addr} {fd : FuncData}
/-- a def of which the code object is known -/
theorem okC {CX : CXT} {N ps : List Str} {k : Nat} {sp : Sp} (F : FunD K x qual params body scope dvs kws f fd) (T : LamD K f) (S : FnScope N ps scope) (len : ∀ vs H Q E, sp vs H Q E → vs.length = ps.length)
    (go : ∀ (A : Around) (outer : List Env) (s : Shared) (H : Hp) (vs : List V) (Q : VK) (E : XK), Room k (A.deeper (envOfC qual scope s.heap.objs.size f (.ref (pairOf K f).1))) → sp vs H Q E →
      ∃ t, PSs (cxOf CX P w K mg base N qual scope f (.ref (pairOf K f).1) A outer s H E) body t ∧ t { nx := fun _ H' => Q .non H', rt := Q } (start N vs) H) : FnOk P w K mg base CX (k + 1) f fd ps sp := by
  obtain ⟨oc, od, dV, kV, doc, pm, an, cdv, ct, osl, rfl, lk, cd, _, _⟩ := F.ex
  obtain rfl : cdv = .ref (pairOf K f).1 := T.code _ _ lk rfl
  exact fn_of lk cd S len go
end
section
variable {P : Program} {w : World} {K : PySem.W.Frag} {mg : Str → Option Value} {base : Heap} {k : Nat} {f : Addr} {fd : FuncData} {x : Str} {sp : Sp}
theorem lawOkC {name qual : Str} {params : Arguments} {body : List Stmt} {scope : Scope} {N : List Str} (F : FunD K name qual params body scope [] [] f fd) (T : LamD K f) (S : FnScope N [x] scope)
    (room : Room (k + 1) callerA)
    (go : ∀ (s : Shared) (H : Hp) (v : V) (Q : VK), Room k (callerA.deeper (envOfC qual scope s.heap.objs.size f (.ref (pairOf K f).1))) → (callerA.deeper (envOfC qual scope s.heap.objs.size f (.ref (pairOf K f).1))).guards = some [] → sp [v] H Q (fun _ _ _ => False) →
      ∃ t, PSs (cxOf CX0 P w K mg base N qual scope f (.ref (pairOf K f).1) callerA [] s H (fun _ _ _ => False)) body t ∧ t { nx := fun _ H' => Q .non H', rt := Q } (start N [v]) H) :
    LawOk P w K mg base f fd x sp := by
  intro s H u v Q e0 bind rv hs
  obtain ⟨oc, od, dV, kV, doc, pm, an, cdv, ct, osl, rfl, lk, cd, _, _⟩ := F.ex
  obtain rfl : cdv = .ref (pairOf K f).1 := T.code _ _ lk rfl
  have inK : K.In s.heap := e0.mod.kin.keeps fun b o e => (e0.bs b o e).1
  have free : s.heap.NoLimit := e0.mod.nolimit.keeps fun b o e => (e0.bs b o e).1
  have kinds : ∀ y ∈ [(x, u)], scope.names.lookup y.1 = some .local ∨ (scope.names.lookup y.1 = some .cell ∧ ((cellsFrom (s.heap.objs.size + 1) scope.names []).lookup y.1).isSome = true) := by
    intro y hy
    obtain rfl := List.mem_singleton.mp hy
    rcases S.par x (List.mem_singleton.mpr rfl) with q | q
    · exact .inl q
    · exact .inr ⟨q, PySem.W.cellsFrom_some _ _ _ (.inl q)⟩
  refine codeAny_call_function room.depth (inK _ _ lk) rfl S.co S.gen rfl (PySem.W.codeRec_of inK cd) (bind _ _ _ _ ?_)
  refine wpAny_newFunctionEnv_cells S.kind kinds fun env he s1 z => ?_
  subst he
  refine ⟨free.keeps z.toInCall.keep, codeAny_func ?_⟩
  obtain ⟨t, ht, hq⟩ := go s H v Q (room.deeper _) rfl hs
  have I : Inv (cxOf CX0 P w K mg base N qual scope f (.ref (pairOf K f).1) callerA [] s H (fun _ _ _ => False)) [] (start N [v]) H s1 := inv_start (us := [u]) (ps := [x]) S room.hd e0 rfl (.cons rv .nil) z
  refine wpAny_mono (ht.run [] s1 _ H _ I hq) (fun fl s' out => ?_) fun _ _ z => z
  cases fl with
  | ret u' => exact let ⟨v', _, H', J, r', q⟩ := out; ⟨v', H', J.os, J.bare, J.base, J.hok, r', q⟩
  | next => exact let ⟨_, H', J, q⟩ := out; ⟨.non, H', J.os, J.bare, J.base, J.hok, rfl, q⟩
  | brk => exact let ⟨_, _, _, q⟩ := out; q.elim
  | cont => exact let ⟨_, _, _, q⟩ := out; q.elim
end
/-- what may stand in the heap at the claim's call: the script, and tables without a code -/
def OnlyT (ts : List Addr) (H : Hp) : Prop := ∀ b, H b = none ∨ b ∈ ts ∨ ∃ o xs, H b = some (.frz o (.lst xs))
theorem law_runT {P : Program} {w : World} {K : PySem.W.Frag} {mg mb : Str → Option Value} {fa a : Addr} {fd : FuncData} {x : Str} {sp : Sp} {s : Shared} {vs : List Value} {ns : List Int} {cs : List (Addr × Addr)}
    (KX : K.In s.heap) (gl : s.heap.Ns mainGlobals mg) (bl : s.heap.Ns builtinsNs mb) (boot : ∀ y : Str, y ≠ "__name__" → mb y = bootBuiltins y) (free : s.heap.NoLimit) (gens : s.gens = #[])
    (hT : ∀ p ∈ cs, s.heap.get? p.2 = some { cls := .none, data := .fields #[] }) (nT : ∀ p ∈ cs, K.lookup p.2 = none) (cod : ∀ p ∈ cs, PySem.W.CodeHd s.heap p.1 p.2) (bmain : ∃ (bm : Addr) (ob : Obj), mg "__builtins__" = some (.ref bm) ∧ bm ≠ builtinsNs ∧ s.heap.get? bm = some ob ∧ ob.cls = .type "module" ∧ ob.dict = some builtinsNs ∧ ob.data = .plain)
    (ha : s.heap.get? a = some { cls := .type "list", data := .seq vs.toArray }) (hints : IntsAre vs ns) (short : ns.length ≤ sizeLine)
    (F : ∀ base : Heap, K.In base → base.Ns mainGlobals mg → (∀ p ∈ cs, TabB base mg p.1 p.2) → LawOk P w K mg base fa fd x sp) (bind : ∀ (s : Shared) (u : Value), BindsTo s fd ⟨[u], []⟩ [(x, u)])
    (hs : ∀ H : Hp, (∀ p ∈ cs, H p.2 = some (.tbl #[])) → SqL K H a (ns.map V.int) → sp [.ref a] H (fun v _ => v = .bl true) (fun _ _ _ => False)) :
    codeAny (model P w) callerA (.call (.ref fa) ⟨[.ref a], []⟩) (fun r s' => r = .ok (.ret (.bool true)) ∧ OldK s.heap s'.heap ∧ s'.os = s.os ∧ AllBare s'.gens) s := by
  have rel := vals_ints hints
  have count := hints.length
  let ob : Obj := { cls := .type "list", data := .seq vs.toArray }
  let ts : List Addr := cs.map (·.2)
  have inT : ∀ p ∈ cs, p.2 ∈ ts := fun p hp => List.mem_map.mpr ⟨p, hp, rfl⟩
  have empty : ∀ b ∈ ts, s.heap.get? b = some { cls := .none, data := .fields #[] } := fun b hb => by
    obtain ⟨p, hp, rfl⟩ := List.mem_map.mp hb
    exact hT p hp
  have aOff : a ∉ ts := fun z => by
    have e := empty a z
    rw [ha] at e
    cases (show Data.seq vs.toArray _ = Data.fields #[] from congrArg Obj.data (Option.some.inj e))
  have main : ∀ H : Hp, (∀ p ∈ cs, H p.2 = some (.tbl #[])) → OnlyT ts H → SqL K H a (ns.map V.int) → HOk P w H s.heap → (∀ b, H b ≠ none → b = a ∨ b ∈ ts) → (H a ≠ none → K.lookup a = none) →
      codeAny (model P w) callerA (.call (.ref fa) ⟨[.ref a], []⟩) (fun r s' => r = .ok (.ret (.bool true)) ∧ OldK s.heap s'.heap ∧ s'.os = s.os ∧ AllBare s'.gens) s := by
    intro H tb only seq hok just notK
    let B := hidT s.heap H
    -- what has other data than the script and the empty tables is not tracked
    have clear : ∀ {b : Addr} {o : Obj}, s.heap.get? b = some o → (∀ us n, o.data ≠ .seq us n) → o.data ≠ .fields #[] → H b = none := fun {b o} e n1 n2 => by
      cases q : H b with
      | none => rfl
      | some _ =>
        rcases just b (by rw [q]; simp) with z | z
        · rw [z, ha] at e
          cases e
          exact (n1 _ _ rfl).elim
        · rw [empty b z] at e
          cases e
          exact (n2 rfl).elim
    have space : ∀ {b : Addr} {m : Str → Option Value}, s.heap.Ns b m → B.Ns b m := fun {b m} ⟨o, es, ep, e, d, r⟩ => ⟨o, es, ep, hidT_get e (clear e (fun us n z => by rw [d] at z; cases z) (fun z => by rw [d] at z; cases z)), d, r⟩
    have KB : K.In B := fun b o e => hidT_get (KX b o e) (by
      cases q : H b with
      | none => rfl
      | some _ =>
        rcases just b (by rw [q]; simp) with z | z
        · rw [z] at e q
          rw [notK (by rw [q]; simp)] at e
          cases e
        · obtain ⟨p, hp, rfl⟩ := List.mem_map.mp z
          rw [nT p hp] at e
          cases e)
    have M : Mod K mg B := ⟨KB, space gl, ⟨mb, space bl, boot⟩, let ⟨mc, h1, h2⟩ := free; ⟨mc, space h1, h2⟩⟩
    have TB : ∀ p ∈ cs, TabB B mg p.1 p.2 := fun p hp => by
      have e0 := hT p hp
      obtain ⟨bm, o1, b1, b2, b3, b4, b5, b6⟩ := bmain
      refine ⟨?_, ⟨bm, o1, b1, b2, fun z => ?_, fun z => ?_, hidT_get b3 (clear b3 (fun us n z => by rw [b6] at z; cases z) (fun z => by rw [b6] at z; cases z)), b4, b5, b6⟩, fun z => ?_⟩
      · obtain ⟨o, us, file, tf, flags, tg, inF, text, tt, e1, r1, r2, r3, rest⟩ := cod p hp
        refine ⟨o, us, file, tf, flags, tg, inF, text, tt, hidT_get e1 (clear e1 (fun us n z => ?_) fun z => ?_), r1, r2, r3, rest⟩
        · rw [r2] at z
          cases z
        · rw [r2] at z
          cases z
          simp at r3
      · obtain ⟨o, es, ep, e, d, _⟩ := gl
        rw [z, e] at b3
        cases b3
        rw [d] at b6
        cases b6
      · rw [z, e0] at b3
        cases b3
        cases b6
      · obtain ⟨o, es, ep, e, d, _⟩ := gl
        rw [z, e0] at e
        cases e
        cases d
    have e0 : Env0 P w K mg B callerA [] s H := ⟨rfl, M, fun b o e => of_hidT e, Nat.le_of_eq (hidT_size _ _), trivial, fun b hb => absurd (show b ∈ ([] : List Addr) from hb) List.not_mem_nil, hok, .of_eq gens⟩
    refine codeAny_mono (F B KB (space gl) TB s H (.ref a) (.ref a) _ e0 (bind s (.ref a)) rfl (hs H tb seq)) fun r s' out => ?_
    cases r with
    | error e => exact False.elim out
    | ok fl =>
      cases fl with
      | next => exact False.elim out
      | brk => exact False.elim out
      | cont => exact False.elim out
      | ret u =>
        obtain ⟨v, H', os, bare, un, hok', rv, q⟩ := out
        obtain rfl : v = .bl true := q
        obtain rfl : u = Value.bool true := rv
        have same : ∀ b o, b ∉ ts → s.heap.get? b = some o → s'.heap.get? b = some o := fun b o nb e => by
          cases q : H b with
          | none => exact un.keep b o e q (fun z => absurd (show b ∈ ([] : List Addr) from z) List.not_mem_nil) List.not_mem_nil
          | some _ =>
            rcases only b with z | z | ⟨o2, xs, z⟩
            · rw [q] at z
              cases z
            · exact absurd z nb
            · obtain ⟨g1, _⟩ := hok b _ z
              obtain ⟨g2, _⟩ := hok' b _ (un.frzs b o2 _ z)
              rw [e] at g1
              cases g1
              exact g2
        have grown : ∀ p ∈ cs, ∃ more : Array Value, s'.heap.get? p.2 = some { cls := .none, data := .fields more } := fun p hp => by
          obtain ⟨more, z⟩ := un.tbls p.2 #[] (tb p hp)
          exact ⟨_, hok' p.2 _ z⟩
        refine ⟨rfl, ⟨fun b o e => ?_, fun b o e => ?_⟩, os, bare⟩
        · by_cases hb : b ∈ ts
          · obtain ⟨p, hp, rfl⟩ := List.mem_map.mp hb
            obtain ⟨more, hm⟩ := grown p hp
            rw [hT p hp] at e
            cases e
            refine .inr (.inl ⟨((cod p hp).tab (hT p hp)).isCodeTable, rfl, #[], more, rfl, ?_⟩)
            rw [Array.empty_append]
            exact hm
          · exact .inl (same b o hb e)
        · by_cases hb : b ∈ ts
          · obtain ⟨p, hp, rfl⟩ := List.mem_map.mp hb
            exact let ⟨_, hm⟩ := grown p hp; ⟨_, hm⟩
          · exact ⟨o, same b o hb e⟩
  let H0 : Hp := fun b => if b ∈ ts then some (.tbl #[]) else none
  have in0 : ∀ {b : Addr}, b ∈ ts → H0 b = some (.tbl #[]) := fun hb => if_pos hb
  have off0 : ∀ {b : Addr}, b ∉ ts → H0 b = none := fun hb => if_neg hb
  cases lk : K.lookup a with
  | some o =>
    have e := KX a o lk
    rw [ha] at e
    cases e
    refine main H0 (fun p hp => in0 (inT p hp)) (fun b => ?_) (.inr ⟨_, vs.toArray, _, lk, rfl, rfl, rfl, by rw [List.size_toArray, count]; exact short, by simpa using rel⟩) (fun b u z => ?_) (fun b z => ?_) fun z => absurd (off0 aOff) z
    · by_cases hb : b ∈ ts
      · exact .inr (.inl hb)
      · exact .inl (off0 hb)
    · by_cases hb : b ∈ ts
      · cases (in0 hb).symm.trans z
        exact empty b hb
      · exact nomatch (off0 hb).symm.trans z
    · by_cases hb : b ∈ ts
      · exact .inr hb
      · exact absurd (off0 hb) z
  | none =>
    let H1 : Hp := fun b => if b = a then some (.frz ob (.lst (ns.map V.int))) else H0 b
    have atA : H1 a = some (.frz ob (.lst (ns.map V.int))) := if_pos rfl
    have offA : ∀ {b : Addr}, b ≠ a → H1 b = H0 b := fun hb => if_neg hb
    have ne : ∀ {b : Addr}, b ∈ ts → b ≠ a := fun hb z => aOff (z ▸ hb)
    refine main H1 (fun p hp => (offA (ne (inT p hp))).trans (in0 (inT p hp))) (fun b => ?_) (.inl (.inr ⟨ob, atA⟩)) (fun b u z => ?_) (fun b z => ?_) fun _ => lk
    · by_cases hb : b = a
      · exact .inr (.inr ⟨_, _, by rw [hb]; exact atA⟩)
      · by_cases ht : b ∈ ts
        · exact .inr (.inl ht)
        · exact .inl ((offA hb).trans (off0 ht))
    · by_cases hb : b = a
      · subst hb
        cases atA.symm.trans z
        exact ⟨ha, by rw [List.length_map]; exact short, vs, _, rel, ha⟩
      · have z1 := (offA hb).symm.trans z
        by_cases ht : b ∈ ts
        · cases (in0 ht).symm.trans z1
          exact empty b ht
        · exact nomatch (off0 ht).symm.trans z1
    · by_cases hb : b = a
      · exact .inl hb
      · by_cases ht : b ∈ ts
        · exact .inr ht
        · exact absurd ((offA hb).trans (off0 ht)) z
theorem walk_lawT {l : PySem.W.OpenLaw} {n : Nat} {q : Program} {loose : List Str} {XP : (Str → Option Value) → Heap → Prop} {YP : World → Heap → Prop} {d : DefRec} {x : Str} (hn : l.most = some n) (hz : n ≤ sizeLine) (noDfl : d.params.defaults = [])
    (F : ∀ (w : World) (mg : Str → Option Value) (fa : Addr) (h : Heap), YP w h → h.Ns mainGlobals mg → mg d.name = some (.ref fa) → ∃ (K : PySem.W.Frag) (fd : FuncData) (sp : Sp) (cs : List (Addr × Addr)), K.In h ∧ (∀ p ∈ cs, h.get? p.2 = some { cls := .none, data := .fields #[] }) ∧ (∀ p ∈ cs, K.lookup p.2 = none) ∧
      (∀ p ∈ cs, PySem.W.CodeHd h p.1 p.2) ∧ (∀ (s : Shared) (u : Value), BindsTo s fd ⟨[u], []⟩ [(x, u)]) ∧
      (∀ (H : Hp) (a : Addr) (ns : List Int), ns.length ≤ n → (∀ p ∈ cs, H p.2 = some (.tbl #[])) → SqL K H a (ns.map V.int) → sp [.ref a] H (fun v _ => v = .bl true) fun _ _ _ => False) ∧
      ∀ base : Heap, K.In base → base.Ns mainGlobals mg → (∀ p ∈ cs, TabB base mg p.1 p.2) → LawOk l.prog w K mg base fa fd x sp) :
    PySem.W.WalkO q loose XP YP l.row.toRowW d [] (fun f vs => PySem.call f vs) := by
  refine Att.attach_call hn noDfl fun w s₀ s₁ mg mb fa o pm cd doc a vs ns G Y ho hd hcd hmg hobj hints short gens => ?_
  obtain ⟨K, fd, sp, cs, KX, hT, nT, cod, bind, hs, hF⟩ := F w mg fa _ Y G.T.g hmg
  exact law_runT KX G.T.g G.T.b G.T.builtins G.T.nolimit gens hT nT cod G.T.bmain hobj hints (Nat.le_trans short hz) hF bind fun H tb seq => hs H a ns short tb seq
end V4

set_option maxHeartbeats 4000000
/-! V4k: != of an instance whose class has an own __eq__ and no own __ne__. -/
namespace V4
open PySem PySem.Spec PyProof.Rows L2 V1 V2 V3
/-- its __ne__ is object's -/
def neB (K : PySem.W.Frag) (C : Addr) : Bool := decide (PySem.W.findIn K (.ref C) "__ne__" = some (some (.builtin "object.__ne__"))) && decide (PySem.W.mroIn K C (.type "object") = some true)
structure NeD (K : PySem.W.Frag) (C : Addr) : Prop where
  ne : PySem.W.findIn K (.ref C) "__ne__" = some (some (.builtin "object.__ne__"))
  ob : PySem.W.mroIn K C (.type "object") = some true
theorem neD_of {K : PySem.W.Frag} {C : Addr} (h : neB K C = true) : NeD K C :=
  let z := Bool.and_eq_true_iff.mp h
  ⟨of_decide_eq_true z.1, of_decide_eq_true z.2⟩
section
variable {prog : Program} {w : World} {A : Around} {E : Value → Shared → Prop} {s : Shared} {K : PySem.W.Frag} {x C f : Addr} {ox : Obj} {od : Option Obj} {u : Value}
/-- what object.__ne__ does: the own __eq__ the other way round -/
theorem objNe_own {Q : Fin → Shared → Prop} (hX : K.In s.heap) (J : PySem.W.InstAt s.heap x ox C od) (hs : PySem.W.findIn K (.ref C) "__eq__" = some (some (.ref f))) (hf : PySem.W.isFn K (.ref f) = true) (room : A.units < cLine)
    (h : wpAny (model prog w) A (call (.ref f) [.ref x, u]) (fun v s' => ∃ b, v = .bool b ∧ Q (.done (.ret (.bool (!b)))) s') E s) : wpAny (model prog w) A (Builtin.«object.__ne__» ⟨[.ref x, u], []⟩) Q E s := by
  have eq : wpAny (model prog w) A (callSpecialIfBound? (.ref x) "__eq__" [u]) (fun r s' => ∃ b, r = some (.bool b) ∧ Q (.done (.ret (.bool (!b)))) s') E s :=
    PySem.W.ifBound_K hX J hs hf (wpAny_mono h (fun v s' z => let ⟨b, e, q⟩ := z; ⟨b, congrArg some e, q⟩) fun _ _ e => e)
  unfold Builtin.«object.__ne__»
  repeat (first
    | with_reducible refine wpAny_cRoomFor room ?_
    | (refine wpAny_bind (m := callSpecialIfBound? (.ref x) (Str.ofString "__eq__") [u]) (wpAny_mono eq (fun r s' hr => ?_) fun _ _ e => e)
       obtain ⟨b, rfl, hq⟩ := hr
       refine wpAny_bind (m := truthy (.bool b)) (wpAny_truthy_bool ?_)
       exact wpAny_pure hq)
    | wp_step)
/-- x != u by it -/
theorem ne_own {Q : Value → Shared → Prop} {tb : Value} (room : A.units + 1 < cLine) (hX : K.In s.heap) (J : PySem.W.InstAt s.heap x ox C od) (hb : PySem.W.Looks (model prog w) s.heap (typeOf u) tb) (hn : PySem.W.notFirst K C tb = true)
    (no : PySem.W.findIn K (.ref C) "__ne__" = some (some (.builtin "object.__ne__"))) (ob : PySem.W.mroIn K C (.type "object") = some true) (hs : PySem.W.findIn K (.ref C) "__eq__" = some (some (.ref f))) (hf : PySem.W.isFn K (.ref f) = true)
    (h : wpAny (model prog w) A.in1 (call (.ref f) [.ref x, u]) (fun v s' => ∃ b, v = .bool b ∧ Q (.bool (!b)) s') E s) : wpAny (model prog w) A (richCompare .NotEq (.ref x) u) Q E s := by
  have body : wpAny (model prog w) A (call (.builtin "object.__ne__") [.ref x, u]) (fun v s' => ∃ b : Bool, v = .bool b ∧ Q (.bool b) s') E s :=
    wpAny_call (codeAny_call_builtin PySem.F.cmp_object.ne.plain PySem.F.cmpEntry_ne (PySem.W.check_slot PySem.F.cmpKind_ne PySem.F.cmpSplit_ne (J.type.andThen (PySem.W.looks_mroIn hX ob)) (PySem.F.cmpArgs_ne _ _)
      (objNe_own hX J hs hf room (wpAny_mono h (fun v s' ⟨b, e, q⟩ => ⟨b, e, _, rfl, q⟩) fun _ _ e => e))))
  have bound : wpAny (model prog w) A (callSpecialIfBound? (.ref x) "__ne__" [u]) (fun r s' => ∃ b : Bool, r = some (.bool b) ∧ Q (.bool b) s') E s := by
    simp only [callSpecialIfBound?, bindSpecialIfBound?]
    refine wpAny_holding (wpAny_bind (wpAny_bind (wpAny_bind (J.type.here ((PySem.W.looks_findIn hX no).here ?_)))))
    have go : wpAny (model prog w) A (call (.builtin "object.__ne__") ([.ref x] ++ [u]) >>= fun v => pure (some v)) (fun r s' => ∃ b : Bool, r = some (.bool b) ∧ Q (.bool b) s') E s :=
      wpAny_bind (wpAny_mono body (fun v s' ⟨b, e, q⟩ => wpAny_pure ⟨b, congrArg some e, q⟩) fun _ _ e => e)
    refine wpAny_bind (wpAny_askSetting (wpAny_ite ?_))
    split
    · exact wpAny_bind (wpAny_of_eq (PySem.F.cmp_object.ne.bind _) (wpAny_pure (by exact go)))
    · exact wpAny_tryCatch (wpAny_bind (wpAny_of_eq (PySem.F.cmp_object.ne.bind _) (wpAny_pure (by exact go))))
  have tried : wpAny (model prog w) A (tryCompare (.ref x) "__ne__" u) (fun r s' => ∃ b : Bool, r = some (.bool b) ∧ Q (.bool b) s') E s := by
    unfold tryCompare
    refine wpAny_bind (wpAny_mono bound (fun r s' ⟨b, e, q⟩ => ?_) fun _ _ e => e)
    subst e
    exact wpAny_pure ⟨b, rfl, q⟩
  have last : ∀ r s', (∃ b : Bool, r = some (.bool b) ∧ Q (.bool b) s') → ∃ b : Bool, r = some (Value.bool b) ∧ Q (.bool b) s' := fun _ _ z => z
  simp only [richCompare, PySem.cmpInfo_NotEq, oneThing_ref]
  refine wpAny_holding (wpAny_bind (wpAny_cRoomFor (Nat.lt_of_succ_lt room) ?_))
  refine wpAny_bind (J.type.here (wpAny_bind (hb.here ?_)))
  have sub : (Value.ref C != tb) = true → PySem.W.subIn K tb (.ref C) = some false := fun q => by
    rcases Bool.or_eq_true_iff.mp hn with e | e
    · rw [beq_iff_eq.mp e] at q
      simp at q
    · exact beq_iff_eq.mp e
  split
  · rename_i q
    refine wpAny_bind ((PySem.W.looks_subIn hX (sub (by simpa using q))).here ?_)
    simp only [Bool.false_eq_true, if_false]
    refine wpAny_bind (wpAny_mono tried (fun r s' ⟨b, e, z⟩ => ?_) fun _ _ e => e)
    subst e
    exact wpAny_pure z
  · refine wpAny_bind (wpAny_pure ?_)
    simp only [Bool.false_eq_true, if_false]
    refine wpAny_bind (wpAny_mono tried (fun r s' ⟨b, e, z⟩ => ?_) fun _ _ e => e)
    subst e
    exact wpAny_pure z
end
/-- x != y by x's own == -/
def rOwnNe (K : PySem.W.Frag) (C : Addr) (sp : Sp) (E : XK) : R2 := fun x y H Q => ∃ a dx fs t, x = .ref a ∧ H a = some (.ins C dx fs) ∧ TyX K H y t ∧ PySem.W.notFirst K C t = true ∧ sp [.ref a, y] H (fun v H' => ∃ b, v = .bl b ∧ Q (.bl (!b)) H') E
theorem op_ownNe {X : Cx} {CX : CXT} {C f : Addr} {fd : FuncData} {ps : List Str} {sp : Sp} {E : XK} {n : Nat} (F : FnOk X.prog X.w X.K X.mg X.base CX n f fd ps sp) (no : NeD X.K C) (ic : C8.InsC X.K C)
    (hs : PySem.W.findIn X.K (.ref C) "__eq__" = some (some (.ref f))) (hf : PySem.W.isFn X.K (.ref f) = true) (hb : Binds X.K fd ps []) (hx : Passes CX X E) (hr : Room (n + 1) X.A) : OpR X (compareOp .NotEq) (rOwnNe X.K C sp E) := by
  intro pins s σ H x y v u Q I rx ry hq
  obtain ⟨a, dx, fs, t, rfl, ha, ty, nf, h⟩ := hq
  cases rx
  show wpAny (model X.prog X.w) X.A (richCompare .NotEq (.ref a) u) (EP X pins σ Q) X.xe s
  obtain ⟨P, Z, p, _⟩ := kit_of I ry ty
  obtain ⟨mA, J, _⟩ := ins_get I.hok ha
  obtain ⟨od, J, _⟩ := J.look
  refine ne_own (tb := t) (by have := hr.un; omega) I.kIn J (Z.ty (model X.prog X.w) s.heap I.kIn p) nf no.ne ic.hm hs hf ?_
  have len := F.len _ _ _ _ h
  have both : Vals [V.ref a, y] [Value.ref a, u] := .cons rfl (.cons ry .nil)
  have env : Env0 X.prog X.w X.K X.mg X.base X.A.in1 X.stack s H := ⟨I.env0.frames, I.env0.mod, I.env0.bs, I.env0.bsz, I.env0.funs, I.env0.frf, I.env0.hok, I.env0.bare⟩
  have bound := hb s [.ref a, u] I.kIn (by simpa using len)
  simp only [List.append_nil] at bound
  refine wpAny_call (codeAny_mono (F.run X.A.in1 X.stack s H ⟨[.ref a, u], []⟩ [.ref a, u] [.ref a, y] _ E hr.in1 env bound both h) fun r s' hq => ?_)
  match r, hq with
  | .error e, hq => exact hx pins σ H s e s' I hq
  | .ok (.ret w), hq =>
    obtain ⟨z, H', I', rz, b, ez, q⟩ := I.after hq
    subst ez
    cases rz
    exact ⟨b, rfl, .bl (!b), H', I', rfl, q⟩
  | .ok .next, hq => exact hq.elim
  | .ok .brk, hq => exact hq.elim
  | .ok .cont, hq => exact hq.elim
end V4

set_option maxHeartbeats 0
namespace K01
open PySem PySem.Spec PyProof.Rows L2 V1
def top (i : Nat) : Stmt := PySem.Challenge.pw_turnedtalk_k01_tables.main.body.getD i (.Pass ⟨0, 0, 0, 0⟩)
abbrev s_is_tuple_of : Stmt := top 3
def d_is_tuple_of : He.DefD := ⟨("is_tuple_of", none), "is_tuple_of", "is_tuple_of", defArgs s_is_tuple_of, defBody s_is_tuple_of, defScope s_is_tuple_of, [], []⟩
abbrev s_is_word : Stmt := top 4
def d_is_word : He.DefD := ⟨("is_word", none), "is_word", "is_word", defArgs s_is_word, defBody s_is_word, defScope s_is_word, [], []⟩
abbrev s_is_row : Stmt := top 5
def d_is_row : He.DefD := ⟨("is_row", none), "is_row", "is_row", defArgs s_is_row, defBody s_is_row, defScope s_is_row, [], []⟩
abbrev s_is_row_and_word : Stmt := top 13
def d_is_row_and_word : He.DefD := ⟨("is_row_and_word", none), "is_row_and_word", "is_row_and_word", defArgs s_is_row_and_word, defBody s_is_row_and_word, defScope s_is_row_and_word, [], []⟩
abbrev s_check_pairs : Stmt := top 14
def d_check_pairs : He.DefD := ⟨("check_pairs", none), "check_pairs", "check_pairs", defArgs s_check_pairs, defBody s_check_pairs, defScope s_check_pairs, [], []⟩
abbrev s_has_letters : Stmt := top 24
def d_has_letters : He.DefD := ⟨("has_letters", none), "has_letters", "has_letters", defArgs s_has_letters, defBody s_has_letters, defScope s_has_letters, [], []⟩
abbrev s_is_name : Stmt := top 25
def d_is_name : He.DefD := ⟨("is_name", none), "is_name", "is_name", defArgs s_is_name, defBody s_is_name, defScope s_is_name, [], []⟩
abbrev s_has_form : Stmt := top 26
def d_has_form : He.DefD := ⟨("has_form", none), "has_form", "has_form", defArgs s_has_form, defBody s_has_form, defScope s_has_form, [], []⟩
abbrev s_is_right : Stmt := top 27
def d_is_right : He.DefD := ⟨("is_right", none), "is_right", "is_right", defArgs s_is_right, defBody s_is_right, defScope s_is_right, [], []⟩
abbrev s_inner_ones : Stmt := top 28
def d_inner_ones : He.DefD := ⟨("inner_ones", none), "inner_ones", "inner_ones", defArgs s_inner_ones, defBody s_inner_ones, defScope s_inner_ones, [], []⟩
abbrev s_is_program : Stmt := top 29
def d_is_program : He.DefD := ⟨("is_program", none), "is_program", "is_program", defArgs s_is_program, defBody s_is_program, defScope s_is_program, [], []⟩
abbrev s_told_by : Stmt := top 31
def d_told_by : He.DefD := ⟨("told_by", none), "told_by", "told_by", defArgs s_told_by, defBody s_told_by, defScope s_told_by, [], []⟩
abbrev s_holds : Stmt := top 32
def d_holds : He.DefD := ⟨("holds", none), "holds", "holds", defArgs s_holds, defBody s_holds, defScope s_holds, [], []⟩
abbrev s_said_by : Stmt := top 33
def d_said_by : He.DefD := ⟨("said_by", none), "said_by", "said_by", defArgs s_said_by, defBody s_said_by, defScope s_said_by, [], []⟩
abbrev s_said_by_one : Stmt := top 34
def d_said_by_one : He.DefD := ⟨("said_by_one", none), "said_by_one", "said_by_one", defArgs s_said_by_one, defBody s_said_by_one, defScope s_said_by_one, [], []⟩
abbrev s__law_hand : Stmt := top 37
def d__law_hand : He.DefD := ⟨("_law_hand", none), "_law_hand", "_law_hand", defArgs s__law_hand, defBody s__law_hand, defScope s__law_hand, [], []⟩
abbrev s__law_draw : Stmt := top 38
def d__law_draw : He.DefD := ⟨("_law_draw", none), "_law_draw", "_law_draw", defArgs s__law_draw, defBody s__law_draw, defScope s__law_draw, [], []⟩
abbrev s__law_pick : Stmt := top 39
def d__law_pick : He.DefD := ⟨("_law_pick", none), "_law_pick", "_law_pick", defArgs s__law_pick, defBody s__law_pick, defScope s__law_pick, [], []⟩
abbrev s__law_is : Stmt := top 40
def d__law_is : He.DefD := ⟨("_law_is", none), "_law_is", "_law_is", defArgs s__law_is, defBody s__law_is, defScope s__law_is, [], []⟩
abbrev s__law_signs : Stmt := top 41
def d__law_signs : He.DefD := ⟨("_law_signs", none), "_law_signs", "_law_signs", defArgs s__law_signs, defBody s__law_signs, defScope s__law_signs, [], []⟩
abbrev s__law_word : Stmt := top 42
def d__law_word : He.DefD := ⟨("_law_word", none), "_law_word", "_law_word", defArgs s__law_word, defBody s__law_word, defScope s__law_word, [], []⟩
abbrev s__law_is_word : Stmt := top 43
def d__law_is_word : He.DefD := ⟨("_law_is_word", none), "_law_is_word", "_law_is_word", defArgs s__law_is_word, defBody s__law_is_word, defScope s__law_is_word, [], []⟩
abbrev s__law_is_row : Stmt := top 44
def d__law_is_row : He.DefD := ⟨("_law_is_row", none), "_law_is_row", "_law_is_row", defArgs s__law_is_row, defBody s__law_is_row, defScope s__law_is_row, [], []⟩
abbrev s__law_row : Stmt := top 45
def d__law_row : He.DefD := ⟨("_law_row", none), "_law_row", "_law_row", defArgs s__law_row, defBody s__law_row, defScope s__law_row, [], []⟩
abbrev s__law_odd : Stmt := top 46
def d__law_odd : He.DefD := ⟨("_law_odd", none), "_law_odd", "_law_odd", defArgs s__law_odd, defBody s__law_odd, defScope s__law_odd, [], []⟩
abbrev s__law_rising : Stmt := top 47
def d__law_rising : He.DefD := ⟨("_law_rising", none), "_law_rising", "_law_rising", defArgs s__law_rising, defBody s__law_rising, defScope s__law_rising, [], []⟩
abbrev s__law_bent : Stmt := top 48
def d__law_bent : He.DefD := ⟨("_law_bent", none), "_law_bent", "_law_bent", defArgs s__law_bent, defBody s__law_bent, defScope s__law_bent, [], []⟩
abbrev s__law_part : Stmt := top 49
def d__law_part : He.DefD := ⟨("_law_part", none), "_law_part", "_law_part", defArgs s__law_part, defBody s__law_part, defScope s__law_part, [], []⟩
abbrev s__law_made : Stmt := top 50
def d__law_made : He.DefD := ⟨("_law_made", none), "_law_made", "_law_made", defArgs s__law_made, defBody s__law_made, defScope s__law_made, [], []⟩
abbrev s__law_beside : Stmt := top 51
def d__law_beside : He.DefD := ⟨("_law_beside", none), "_law_beside", "_law_beside", defArgs s__law_beside, defBody s__law_beside, defScope s__law_beside, [], []⟩
abbrev s__law_told : Stmt := top 52
def d__law_told : He.DefD := ⟨("_law_told", none), "_law_told", "_law_told", defArgs s__law_told, defBody s__law_told, defScope s__law_told, [], []⟩
abbrev s__law_tells : Stmt := top 53
def d__law_tells : He.DefD := ⟨("_law_tells", none), "_law_tells", "_law_tells", defArgs s__law_tells, defBody s__law_tells, defScope s__law_tells, [], []⟩
abbrev s__law_alone : Stmt := top 54
def d__law_alone : He.DefD := ⟨("_law_alone", none), "_law_alone", "_law_alone", defArgs s__law_alone, defBody s__law_alone, defScope s__law_alone, [], []⟩
abbrev s_law : Stmt := top 55
def d_law : He.DefD := ⟨("law", none), "law", "law", defArgs s_law, defBody s_law, defScope s_law, [], []⟩
abbrev s_BadTable__init__ : Stmt := inClass (top 8) 0
def d_BadTable__init__ : He.DefD := ⟨("BadTable", some "__init__"), "__init__", "BadTable.__init__", defArgs s_BadTable__init__, defBody s_BadTable__init__, defScope s_BadTable__init__, [], []⟩
abbrev s_Table__init__ : Stmt := inClass (top 15) 0
def d_Table__init__ : He.DefD := ⟨("Table", some "__init__"), "__init__", "Table.__init__", defArgs s_Table__init__, defBody s_Table__init__, defScope s_Table__init__, [], []⟩
abbrev s_Table__eq__ : Stmt := inClass (top 15) 1
def d_Table__eq__ : He.DefD := ⟨("Table", some "__eq__"), "__eq__", "Table.__eq__", defArgs s_Table__eq__, defBody s_Table__eq__, defScope s_Table__eq__, [], []⟩
abbrev s_Tableword : Stmt := inClass (top 15) 2
def d_Tableword : He.DefD := ⟨("Table", some "word"), "word", "Table.word", defArgs s_Tableword, defBody s_Tableword, defScope s_Tableword, [], []⟩
abbrev s_Voice__init__ : Stmt := inClass (top 16) 0
def d_Voice__init__ : He.DefD := ⟨("Voice", some "__init__"), "__init__", "Voice.__init__", defArgs s_Voice__init__, defBody s_Voice__init__, defScope s_Voice__init__, [], []⟩
abbrev s_Voiceword : Stmt := inClass (top 16) 1
def d_Voiceword : He.DefD := ⟨("Voice", some "word"), "word", "Voice.word", defArgs s_Voiceword, defBody s_Voiceword, defScope s_Voiceword, [], []⟩
abbrev s_Program__init__ : Stmt := inClass (top 35) 0
def d_Program__init__ : He.DefD := ⟨("Program", some "__init__"), "__init__", "Program.__init__", defArgs s_Program__init__, defBody s_Program__init__, defScope s_Program__init__, [], []⟩
abbrev s_Program__eq__ : Stmt := inClass (top 35) 1
def d_Program__eq__ : He.DefD := ⟨("Program", some "__eq__"), "__eq__", "Program.__eq__", defArgs s_Program__eq__, defBody s_Program__eq__, defScope s_Program__eq__, [], []⟩
abbrev s_Programword : Stmt := inClass (top 35) 2
def d_Programword : He.DefD := ⟨("Program", some "word"), "word", "Program.word", defArgs s_Programword, defBody s_Programword, defScope s_Programword, [], []⟩
def fn : List He.DefD := [d_is_tuple_of, d_is_word, d_is_row, d_is_row_and_word, d_check_pairs, d_has_letters, d_is_name, d_has_form, d_is_right, d_inner_ones, d_is_program, d_told_by, d_holds, d_said_by, d_said_by_one, d__law_hand, d__law_draw, d__law_pick, d__law_is, d__law_signs, d__law_word, d__law_is_word, d__law_is_row, d__law_row, d__law_odd, d__law_rising, d__law_bent, d__law_part, d__law_made, d__law_beside, d__law_told, d__law_tells, d__law_alone, d_law, d_BadTable__init__, d_Table__init__, d_Table__eq__, d_Tableword, d_Voice__init__, d_Voiceword, d_Program__init__, d_Program__eq__, d_Programword]
def fa0 : List He.Fa := [.int "MOST_SIGNS" 40, .int "MOST_WORDS" 400, .glo "is_tuple_of", .glo "is_word", .glo "is_row", .glo "TalkError", .glo "BadTable", .glo "NoRow", .glo "BadProgram", .int "MOST_PAIRS" 200, .glo "is_row_and_word", .glo "check_pairs", .glo "Table", .glo "Voice", .int "MOST_DEEP" 20, .int "MOST_PARTS" 500, .int "MOST_EACHES" 2, .int "MOST_NAME" 8, .glo "FORMS", .glo "BARE"]
def fa1 : List He.Fa := [.glo "has_letters", .glo "is_name", .glo "has_form", .glo "is_right", .glo "inner_ones", .glo "is_program", .glo "told_by", .glo "holds", .glo "said_by", .glo "said_by_one", .glo "Program", .glo "_law_hand", .glo "_law_draw", .glo "_law_pick", .glo "_law_is", .glo "_law_signs", .glo "_law_word", .glo "_law_is_word", .glo "_law_is_row", .glo "_law_row"]
def fa2 : List He.Fa := [.glo "_law_odd", .glo "_law_rising", .glo "_law_bent", .glo "_law_part", .glo "_law_made", .glo "_law_beside", .glo "_law_told", .glo "_law_tells", .glo "_law_alone", .glo "law", .free "ValueError", .free "all", .free "any", .free "bool", .free "enumerate", .free "int", .free "isinstance", .free "len", .free "list", .free "range"]
def fa3 : List He.Fa := [.free "sorted", .free "str", .free "tuple", .free "zip", .meth "BadTable" "__init__", .noat "BadTable" "part", .exc "NoRow", .exc "BadProgram", .exc "TalkError", .cls "Table", .noat "Table" "_beside", .noat "Table" "other", .noat "Table" "pairs", .mkr "Table", .meth "Table" "__init__", .meth "Table" "__eq__", .meth "Table" "word", .cls "Voice", .noat "Voice" "telling", .mkr "Voice"]
def fa4 : List He.Fa := [.meth "Voice" "__init__", .meth "Voice" "word", .cls "Program", .noat "Program" "statements", .mkr "Program", .meth "Program" "__init__", .meth "Program" "__eq__", .meth "Program" "word"]
def fa : List He.Fa := fa0 ++ (fa1 ++ (fa2 ++ (fa3 ++ (fa4))))
def errs : List Str := ["BadTable", "NoRow", "BadProgram"]
def plainC : List Str := ["Table", "Voice", "Program"]
def exB0 (K : PySem.W.Frag) : Bool :=
  oexB K (He.ga K "TalkError") veB && (errs.all (fun x => oexB K (He.ga K x) (.ref (He.ga K "TalkError") :: veB)) && (decide ((He.ga K "TalkError" :: errs.map (He.ga K)).Nodup) && clsAttrB K))
def exI (K : PySem.W.Frag) : Bool := plainC.all fun x => V2.insB K (He.ga K x)
def exK (K : PySem.W.Frag) : Bool := plainC.all fun x => V3.kindB K (He.ga K x) && plainC.all fun y => (x == y) || (decide (PySem.W.kitOne K (.ref (He.ga K x)) (.ref (He.ga K y)) = some false) && PySem.W.notFirst K (He.ga K x) (.ref (He.ga K y)))
def exB1 (K : PySem.W.Frag) : Bool := exB0 K && (exI K && exK K)
def lamN : List Str := ["_law_alone"]
def neN : List Str := ["Table"]
def exB (K : PySem.W.Frag) : Bool := exB1 K && ((neN.all fun x => V4.neB K (He.ga K x)) && ((lamN.all fun x => V4.lamB K (He.ga K x)) && decide ((lamN.map fun x => (V4.pairOf K (He.ga K x)).2).Nodup)))
def emB (g : Addr → Option Obj) (K : PySem.W.Frag) : Bool := lamN.all fun x => V4.emptyT g (V4.pairOf K (He.ga K x)).2
abbrev AlE : Type := He.AlD × (Bool × Bool)
def obsE (g : Addr → Option Obj) : AlE := (He.obsD fa fn (He.frG g (V4.asT g 4)), (exB (He.frG g (V4.asT g 4)), emB g (He.frG g (V4.asT g 4))))
def hk : PySem.W.Hook where
  α := AlE
  obs := fun s => obsE s.heap.get?
  val := fun _ => (He.valD fn, (true, true))
  says := fun _ h => ∃ K : PySem.W.Frag, K.In h ∧ He.SaysD fa fn K ∧ (exB K = true ∧ ∀ x ∈ lamN, h.get? (V4.pairOf K (He.ga K x)).2 = some { cls := .none, data := .fields #[] })
  of := fun _ _ e => ⟨_, He.frG_in, congrArg (fun z : AlE => z.1) e, congrArg (fun z : AlE => z.2.1) e, fun x hx => V4.emptyT_is (List.all_eq_true.mp (show emB _ _ = true from congrArg (fun z : AlE => z.2.2) e) x hx)⟩
  keeps := fun _ _ _ ⟨K, inK, c, x, t⟩ k => ⟨K, PySem.W.Frag.In.keeps inK k, c, x, fun y hy => k _ _ (t y hy)⟩
theorem obsE_eq {g : Addr → Option Obj} {s : Shared} (h : ∀ a, g a = s.heap.get? a) : obsE g = hk.obs s := by
  have same : g = s.heap.get? := funext h
  rw [same] <;> rfl
abbrev R : PySem.W.OpenRow := PySem.W.OpenLaw.row PySem.Challenge.rw_turnedtalk_k01_tables
def ob (s : PySem.W.SharedT) : AlE := obsE (HandSHeadRun.getT s)
theorem ob_eq (s : PySem.W.SharedT) : ob s = hk.obs s.abs := obsE_eq (HandSHeadRun.getT_eq s)
def nm0 : List PySem.Str := ["MOST_SIGNS", "MOST_WORDS", "is_tuple_of", "is_word", "is_row", "TalkError", "BadTable", "NoRow", "BadProgram", "MOST_PAIRS", "is_row_and_word", "check_pairs", "Table", "Voice", "MOST_DEEP", "MOST_PARTS", "MOST_EACHES", "MOST_NAME", "FORMS", "BARE", "has_letters", "is_name", "has_form", "is_right", "inner_ones"]
def nm1 : List PySem.Str := ["is_program", "told_by", "holds", "said_by", "said_by_one", "Program", "_law_hand", "_law_draw", "_law_pick", "_law_is", "_law_signs", "_law_word", "_law_is_word", "_law_is_row", "_law_row", "_law_odd", "_law_rising", "_law_bent", "_law_part", "_law_made", "_law_beside", "_law_told", "_law_tells", "_law_alone"]
def names : List PySem.Str := nm0 ++ (nm1)
theorem run1 (w : World) : HandSHeadRun.RunEq R (PySem.W.view R.prog [55]) hk ob 60000 names (V3.wHab "special-get-raises" true w) := by
  intro os
  kernel_rfl
theorem run0 (w : World) : HandSHeadRun.RunEq R (PySem.W.view R.prog [55]) hk ob 60000 names (V3.wHab "special-get-raises" false w) := by
  intro os
  kernel_rfl
theorem run (w : World) : HandSHeadRun.RunEq R (PySem.W.view R.prog [55]) hk ob 60000 names w := V3.run_hab (p := fun w => HandSHeadRun.RunEq R (PySem.W.view R.prog [55]) hk ob 60000 names w) "special-get-raises" run1 run0 w
theorem exB_1 {K : PySem.W.Frag} (h : exB K = true) : exB1 K = true := (Bool.and_eq_true_iff.mp h).1
theorem lam_at {K : PySem.W.Frag} (h : exB K = true) {x : Str} (hx : x ∈ lamN) : V4.LamD K (He.ga K x) := V4.lamD_of (List.all_eq_true.mp (Bool.and_eq_true_iff.mp (Bool.and_eq_true_iff.mp (Bool.and_eq_true_iff.mp h).2).2).1 x hx)
theorem ne_at {K : PySem.W.Frag} (h : exB K = true) {x : Str} (hx : x ∈ neN) : V4.NeD K (He.ga K x) := V4.neD_of (List.all_eq_true.mp (Bool.and_eq_true_iff.mp (Bool.and_eq_true_iff.mp h).2).1 x hx)
theorem tabs_nd {K : PySem.W.Frag} (h : exB K = true) : (lamN.map fun x => (V4.pairOf K (He.ga K x)).2).Nodup := of_decide_eq_true (Bool.and_eq_true_iff.mp (Bool.and_eq_true_iff.mp (Bool.and_eq_true_iff.mp h).2).2).2
structure Tx (K : PySem.W.Frag) (mg : Str → Option Value) : Prop where
  c : He.SaysD fa fn K
  ex : exB1 K = true
  ne : ∀ x ∈ neN, V4.NeD K (He.ga K x)
  lam : ∀ x ∈ lamN, V4.LamD K (He.ga K x)
  nd : (lamN.map fun x => (V4.pairOf K (He.ga K x)).2).Nodup
  h : ∃ h : Heap, K.In h ∧ h.Ns mainGlobals mg
section
variable {K : PySem.W.Frag} {mg : Str → Option Value}
theorem Tx.glo (T : Tx K mg) (i : Nat) {x : Str} (e : fa[i]? = some (.glo x)) : mg x = some (.ref (He.ga K x)) := by
  obtain ⟨h, X, G⟩ := T.h
  exact He.glo_ok X G (T.c.fact i e)
theorem Tx.free (T : Tx K mg) (i : Nat) {x : Str} (e : fa[i]? = some (.free x)) : mg x = none := by
  obtain ⟨h, X, G⟩ := T.h
  exact He.free_ok X G (T.c.fact i e)
theorem Tx.int (T : Tx K mg) (i : Nat) {x : Str} {n : Int} (e : fa[i]? = some (.int x n)) : ∃ t, mg x = some (.int n t) := by
  obtain ⟨h, X, G⟩ := T.h
  exact He.int_ok X G (T.c.fact i e)
theorem Tx.noat (T : Tx K mg) (i : Nat) {x f : Str} (e : fa[i]? = some (.noat x f)) : PySem.W.findIn K (.ref (He.ga K x)) f = some none := He.noat_ok (T.c.fact i e)
theorem Tx.exq (T : Tx K mg) (i : Nat) {x : Str} (e : fa[i]? = some (.exc x)) : PySem.W.excIn K (He.ga K x) He.veBase "ValueError.__new__" = true ∧ PySem.W.keepIn K (.ref (He.ga K x)) = true := by
  have z := He.exc_ok (T.c.fact i e)
  exact ⟨z.1, z.2.1⟩
end
end K01

set_option maxHeartbeats 4000000
/-! V4b: len(set(t)), t a tuple of ints -/
namespace V4
open PySem PySem.Spec PyProof.Rows L2 V1 V2 V3
def tLenSetT (K : PySem.W.Frag) (ta : TE) : TE := fun σ H Q => ta σ H fun x H1 => ∃ (l : Addr) (ns : List Int), x = .ref l ∧ SqT K H1 l (ns.map V.int) ∧ ns.length ≤ 1000 ∧ ∀ c : Nat, c ≤ ns.length → Q (.int (c : Nat)) H1
theorem pe_lenSetT {X : Cx} {a : Expr} {ta : TE} {p p2 q pos : Pos} (hg : Gl X "len") (hm : X.mg "len" = none) (hg2 : Gl X "set") (hm2 : X.mg "set" = none) (ha : PE X a ta) (calm : X.calm = true := by rfl)
    (na : starEach [a] X.env = (false, eval a X.env) :: starEach [] X.env := by rfl) : PE X (.Call (.Name "len" p) [.Call (.Name "set" p2) [a] [] q] [] pos) (tLenSetT X.K ta) := by
  refine ⟨fun pins s σ H Q I h => Call_ (ld_blt I hg hm boot_len ?_)⟩
  refine PyProof.Rows.callWith_builtin1 (PyProof.Rows.args_cons (Call_ (ld_blt I hg2 hm2 boot_set ?_)) rfl) rfl rfl
  refine PyProof.Rows.callWith_type1 (PyProof.Rows.args_cons (thn (ha.run pins s σ H _ I h) ?_) na) na rfl
  rintro v s1 ⟨x, H1, J, rx, l, ns, rfl, hq, hz, k⟩
  refine PyProof.Rows.args_nil ?_
  cases rx
  obtain ⟨its, r, pl, _⟩ := J.tuple hq
  have small : ns.length + 1 < scanBound := by
    unfold scanBound
    omega
  refine call_set_tupI ns (J.ok.hd calm) pl (by simpa using r.ints) small fun g tk c hS hc kp => ?_
  refine PyProof.Rows.args_nil ?_
  obtain ⟨o, es, ep, t, ho, ex, dat, _, _, _, _, fit, cnt, _⟩ := hS
  have J2 : Inv X pins σ H1 { s1 with heap := g, toks := tk } := J.kept kp
  exact call_len_set ho ex dat fit (by omega) ⟨.int (c : Nat), H1, J2.tok _, ⟨_, by rw [cnt]⟩, k c hc⟩
end V4

set_option maxHeartbeats 4000000
/-! V4c: a text so often; isinstance of the caught exception, with a dict or without -/
namespace V4
open PySem PySem.Spec PyProof.Rows L2 V1 V2 V3
def rMulS : R2 := fun x y H Q => ∃ (z : Str) (n : Int), x = .str z ∧ y = .int n ∧ 1 ≤ n ∧ n ≤ 10000 ∧ z.length ≤ 1000 ∧ Q (.str (Txt.mul z n)) H
theorem op_mulS {X : Cx} : OpR X (binaryOp .Mult) rMulS := by
  rintro pins s σ H x y v u Q I rx ry ⟨z, n, rfl, rfl, n1, n2, zl, q⟩
  obtain ⟨t, rfl⟩ := rx
  obtain ⟨t', rfl⟩ := ry
  refine PySem.SB.mul ⟨?_, fun _ _ z => ?_, fun _ _ => ?_⟩ fun t2 k => ⟨.str _, H, I.tok _, ⟨_, rfl⟩, q⟩
  · rw [decide_eq_false (by omega), decide_eq_false (by omega)]
    rfl
  · have h : (1000 : Int) ≤ (2 ^ 63 - 1) / n := by
      refine (Int.le_ediv_iff_mul_le (by omega)).mpr ?_
      omega
    omega
  · unfold PySem.Builtin.Str.tooLong
    have h : z.length * n.toNat ≤ 1000 * 10000 := Nat.mul_le_mul zl (by omega)
    have e : sizeLine = 16777216 := by rw [sizeLine_eq]
    simp only [decide_eq_false_iff_not]
    omega
/-- the caught exception: its class, and its dict if it has one -/
def ExIs (H : Hp) (C : Addr) (cls : Value) (d : Option Addr) : Prop := cls = .ref C ∧ (d = none ∨ ∃ dd fs, d = some dd ∧ H dd = some (.xd fs))
def rIsO (K : PySem.W.Frag) (a : Addr) (cls : Value) (d : Option Addr) : List V → Hp → VK → Prop := fun xs H Q => ∃ (C : Addr) (bm : List Value) (c : V) (u : Value) (b : Bool), xs = [.ref a, c] ∧ ExIs H C cls d ∧ ClsV c u ∧ ExK K C bm ∧ ClsAttr K ∧ (Value.ref C :: bm).contains (.type "BaseException") = true ∧ (Value.ref C :: bm).contains (.type "object") = true ∧
  PySem.W.kitOne K (.ref C) u = some b ∧ Q (.bl b) H
theorem call_isO {X : Cx} {a : Addr} {oe : Obj} {cls : Value} {d : Option Addr} {pn : List (Addr × Obj)} (hz : Zc cls d oe) (hf : ∃ vs, oe.data = .fields vs) : CallR (X.suite a ((a, oe) :: pn)) (.builtin "isinstance") (rIsO X.K a cls d) := by
  intro pins s σ H xs us Q I r h
  obtain ⟨C, bm, c, u, b, rfl, ⟨rfl, hd⟩, k, T, cA, hB, hO, e, q⟩ := h
  rcases hd with rfl | ⟨dd, fs, rfl, hx⟩
  · obtain ⟨w1, w2, rfl, r1, r2⟩ := vals2 r
    obtain rfl : w1 = Value.ref a := r1
    have e2 := k.eq r2
    subst e2
    obtain ⟨ha, _⟩ := I.pin (a, oe) (List.mem_append_left _ List.mem_cons_self)
    obtain ⟨vs, hdt⟩ := hf
    have J : PySem.W.InstAt s.heap a oe C none := ⟨ha, hz.1, by unfold PySem.W.notCls; rw [hdt] <;> rfl, by rw [show oe.dict = none from hz.2] <;> trivial⟩
    exact PySem.W.kia_one (PySem.W.kitx_exc T.isCls T.ga T.gg (by rw [T.sub, hB]) T.cl cA.gs cA.tk (by rw [T.mro, hO])) I.kIn J e (fun z => nomatch z) fun tk => ⟨.bl b, H, I.tok tk, rfl, q⟩
  · exact call_isXd T cA hB hO hz hf pins s σ H _ _ Q I r ⟨rfl, c, u, b, dd, fs, rfl, k, e, rfl, hx, q⟩
end V4

set_option maxHeartbeats 4000000
/-! V4d: t[::-1] of a tuple; data made beside a hand -/
namespace V4
open PySem PySem.Spec PyProof.Rows L2 V1 V2 V3
section
variable {prog : Program} {w : World} {A : Around} {E : Value → Shared → Prop} {s : Shared}
theorem back_adjust (n : Nat) : Builtin.Slice.sliceAdjust none none (-1) (n : Int) = ((n : Int) - 1, -1) := by
  unfold Builtin.Slice.sliceAdjust
  simp
theorem back_places (n : Nat) : Builtin.Slice.slicePlaces ((n : Int) - 1) (-1) (-1) = n := by
  unfold Builtin.Slice.slicePlaces
  simp
  omega
theorem fm_map {α β : Type} {f : α → Option β} {g : α → β} : ∀ {l : List α}, (∀ m ∈ l, f m = some (g m)) → l.filterMap f = l.map g
  | [], _ => rfl
  | m :: l, h => by
    rw [List.filterMap_cons, h m List.mem_cons_self, List.map_cons, fm_map fun x hx => h x (List.mem_cons_of_mem _ hx)]
theorem back_pick (xs : Array Value) : ((List.range xs.size).filterMap fun (m : Nat) => xs[((xs.size : Int) - 1 + (m : Int) * (-1)).toNat]?).toArray = xs.toList.reverse.toArray := by
  congr 1
  have e : ∀ m ∈ List.range xs.size, xs[((xs.size : Int) - 1 + (m : Int) * (-1)).toNat]? = some (xs.toList.reverse.getD m .none) := by
    intro m hm
    have hm' := List.mem_range.mp hm
    have h1 : ((xs.size : Int) - 1 + (m : Int) * (-1)).toNat = xs.size - 1 - m := by omega
    rw [h1]
    have h2 : xs.size - 1 - m < xs.size := by omega
    rw [List.getD_eq_getElem?_getD, List.getElem?_reverse (by simpa using hm')]
    simp [h2]
  rw [fm_map e]
  refine List.ext_getElem (by simp) fun i h1 h2 => ?_
  simp at h1
  simp [List.getD, h1]
theorem back_applied {sl : Addr} {vs : Value} {n : Nat} {Q : Int × Int × Nat → Shared → Prop} (hs : s.heap.IsSliceOf sl .none .none vs) (ps : IsPart vs (some (-1))) (h : Q ((n : Int) - 1, -1, n) s) :
    wpAny (model prog w) A (Builtin.Slice.sliceApplied (.ref sl) (pure (n : Int))) Q E s := by
  obtain ⟨os, hos, hcs, hds⟩ := id hs
  unfold Builtin.Slice.sliceApplied Builtin.Slice.sliceFields
  refine wpAny_bind (wpAny_bind (wpAny_field hos hds (x := .none) rfl (wpAny_bind (wpAny_field hos hds (x := .none) rfl (wpAny_bind (wpAny_field hos hds (x := vs) rfl (wpAny_pure ?_)))))))
  refine wpAny_bind (HT.slicePart_ ps ?_)
  show wpAny _ _ (if ((-1 : Int) == 0) = true then _ else _) _ _ s
  rw [if_neg (by decide)]
  refine wpAny_bind (HT.slicePart_ .none (wpAny_bind (HT.slicePart_ .none (wpAny_bind (wpAny_pure ?_)))))
  show wpAny _ _ (match Builtin.Slice.sliceAdjust none none (-1) (n : Int) with | (lo, hi) => pure (lo, (-1 : Int), Builtin.Slice.slicePlaces lo hi (-1))) _ _ s
  rw [back_adjust n]
  show wpAny _ _ (pure ((n : Int) - 1, (-1 : Int), Builtin.Slice.slicePlaces ((n : Int) - 1) (-1) (-1))) _ _ s
  rw [back_places]
  exact wpAny_pure h
theorem getItem_tuple_back {t sl : Addr} {items : Array Value} {vs : Value} {Q : Value → Shared → Prop} (ht : IsTup s.heap t items) (hs : s.heap.IsSliceOf sl .none .none vs) (ps : IsPart vs (some (-1)))
    (h : Q (.ref s.heap.objs.size) { s with heap := s.heap.push { cls := .type "tuple", data := .seq items.toList.reverse.toArray } }) (small : items.size ≤ sizeLine) : wpAny (model prog w) A (getItem (.ref t) (.ref sl)) Q E s := by
  have fits : sizeOk (.seq items.toList.reverse.toArray) := by
    show items.toList.reverse.toArray.size ≤ sizeLine
    simp
    exact small
  obtain ⟨os, hos, hcs, hds⟩ := id hs
  have kind : s.TypeIs (.ref sl) "slice" := ⟨os, hos, hcs⟩
  unfold getItem
  try with_reducible refine wpAny_holding ?_
  first | refine wpAny_bind (wpAny_pure ?_) | skip
  refine wpAny_bind (wpAny_sequenceKey ht.typeIs (by decide) (wpAny_bind (wpAny_callSpecial?_slot (name := Str.ofString "__getitem__") ht.typeIs PyProof.Rows.slot_tuple_getitem (wpAny_call_entry PyProof.Rows.slot_tuple_getitem ht.typeIs entry_tuple_getitem ?_ (args_tuple_getitem _ _)))))
  show wpAny _ _ (Builtin.Tuple.tupleItemsOf (.ref t) >>= _) _ _ s
  refine wpAny_bind (tupleItemsOf_ ht (wpAny_bind (wpAny_typeOf kind ?_)))
  rw [if_pos (by decide)]
  refine wpAny_bind (back_applied hs ps ?_)
  have part : ¬ ((((items.size : Int) - 1) == 0 && (-1 : Int) == 1 && items.size == items.size) = true) := by
    rw [show ((-1 : Int) == 1) = false from rfl, Bool.and_false, Bool.false_and]
    decide
  show wpAny _ _ (if (((items.size : Int) - 1) == 0 && (-1 : Int) == 1 && items.size == items.size) = true then _ else _) _ _ s
  rw [if_neg part, back_pick]
  first
    | exact wpAny_bind (m := Builtin.Tuple.tupleExact _) (wpAny_newObj_type (wpAny_pure ⟨_, rfl, wpAny_pure h⟩) fits)
    | exact wpAny_bind (m := Builtin.Tuple.tupleExact _) (wpAny_newObj_type (wpAny_bind (wpAny_pure (wpAny_pure ⟨_, rfl, wpAny_pure h⟩))) fits)
    | exact wpAny_bind (wpAny_bind (m := Builtin.Tuple.tupleExact _) (wpAny_newObj_type (wpAny_pure (wpAny_pure ⟨_, rfl, wpAny_pure h⟩)) fits))
    | exact wpAny_bind (wpAny_bind (m := Builtin.Tuple.tupleExact _) (wpAny_newObj_type (wpAny_pure ⟨_, rfl, wpAny_pure h⟩) fits))
end
/-- t[::-1] -/
def tBackT (K : PySem.W.Frag) (te : TE) : TE := fun σ H Q => te σ H fun x H1 => ∃ a xs, x = .ref a ∧ SqT K H1 a xs ∧ ∀ p, H1 p = none → Q (.ref p) (upd H1 p (.tup xs.reverse))
theorem pe_backT {X : Cx} {e : Expr} {te : TE} {k : Nat} {p1 p2 p3 pos : Pos} (he : PE X e te) : PE X (.Subscript e (.Slice none none (some (.UnaryOp .USub (.Constant (.int 1) k p1) p2)) p3) pos) (tBackT X.K te) := by
  refine ⟨fun pins s σ H Q I h => Subscript_ (thn (he.run pins s σ H _ I h) ?_)⟩
  rintro v s1 ⟨x, H1, I1, r1, a, xs, rfl, hx, q⟩
  cases r1
  have step : PO X (some (.UnaryOp .USub (.Constant (.int 1) k p1) p2)) (tPart (tUn (rU fun i => .int (-i)) (tC (.int 1)))) := po_some (pe_un un_neg pe_int)
  refine wpAny_Slice (thn (po_none.run pins s1 σ H1 (fun o H2 => o = none ∧ H2 = H1) I1 ⟨rfl, rfl⟩) ?_)
  rintro vl s2 ⟨l, H2, I2, pl, rfl, rfl⟩
  cases pl
  refine thn (po_none.run pins s2 σ H2 (fun o H3 => o = none ∧ H3 = H2) I2 ⟨rfl, rfl⟩) ?_
  rintro vu s3 ⟨u, H3, I3, pu, rfl, rfl⟩
  cases pu
  refine thn (step.run pins s3 σ H3 (fun o H4 => o = some (-1) ∧ H4 = H3) I3 ⟨1, rfl, -1, rfl, rfl, rfl⟩) ?_
  rintro vs s4 ⟨o, H4, I4, ps, rfl, rfl⟩
  have I5 : Inv X pins σ H4 { s4 with heap := s4.heap.push { cls := .type "slice", data := .fields #[.none, .none, vs] } } := I4.kept (t' := s4.toks) fun b ob q => Heap.get?_push_of_some _ q
  obtain ⟨its, r, ht, hz⟩ := I5.tuple hx
  have len := r.length
  show wpAny (model X.prog X.w) X.A (subscriptTail e (.Slice none none (some (.UnaryOp .USub (.Constant (.int 1) k p1) p2)) p3) (.ref a) (.ref s4.heap.objs.size)) (EP X pins σ Q) X.xe { s4 with heap := s4.heap.push { cls := .type "slice", data := .fields #[.none, .none, vs] } }
  refine tail_any (ops := [.ref a, .ref s4.heap.objs.size]) ht.typeIs PyProof.Rows.slot_tuple_getitem.lookup ?_ (by with_unfolding_all rfl)
  refine getItem_tuple_back ht (Heap.IsSliceOf.new _ .none .none vs) ps ?_ (by rw [List.size_toArray]; omega)
  refine ⟨.ref _, _, I5.laid (t' := s4.toks) (o := .tup xs.reverse) (fun b ob q => Heap.get?_push_of_some _ q) (Nat.le_refl _) ?_, rfl, q _ (I5.hok.fresh (Nat.le_refl _))⟩
  exact ⟨by rw [List.length_reverse]; exact hz, _, r.reverse, IsTup.new _ _⟩
end V4

set_option maxHeartbeats 4000000
/-! V4e: data made beside a hand: of old and new parts; how long their texts are -/
namespace V4
open PySem PySem.Spec PyProof.Rows L2 V1 V2 V3
open Evl (sq_of st_of)
theorem DxAll.rep [CurK] {H : Hp} {vs : List V} {ds : List PyData} (h : DxAll H vs ds) : ∀ n : Nat, DxAll H (List.replicate n vs).flatten (List.replicate n ds).flatten
  | 0 => .nil
  | n + 1 => by
    rw [List.replicate_succ, List.replicate_succ, List.flatten_cons, List.flatten_cons]
    exact DxAll.app h (DxAll.rep h n)
theorem DxAll.snoc [CurK] {H : Hp} {v : V} {d : PyData} : ∀ {vs : List V} {ds : List PyData}, DxAll H vs ds → Dx H v d → DxAll H (vs ++ [v]) (ds ++ [d])
  | _, _, h, hv => DxAll.app h (.cons hv .nil)
theorem DxAll.back [CurK] {H : Hp} : ∀ {vs : List V} {ds : List PyData}, DxAll H vs ds → DxAll H vs.reverse ds.reverse
  | _, _, .nil => .nil
  | _, _, .cons one more => by
    rw [List.reverse_cons, List.reverse_cons]
    exact DxAll.snoc (DxAll.back more) one
/-- a part of a list, as a slice takes it -/
def cutD (ds : List PyData) (lo hi : Option Int) : List PyData := (ds.drop (HT.sIx ds.length 0 lo)).take (HT.sIx ds.length ds.length hi - HT.sIx ds.length 0 lo)
section
variable [CurK] {σ : L2.St} {H0 : Hp} {a : Addr} {d : PyData} {ds es : List PyData} {te t1 t2 : TE} {ta : TA}
theorem mky_of (ha : Held H0 a) (h : MkX te σ d) : MkY H0 a te σ d := fun H s Q k => h H Q fun v H' s' q => k v H' s' (Dx.same (newH_off (ha.same s)) _ _ q)
theorem mkya_nil : MkYA H0 a tNil σ [] := fun H _ _ k => k [] H (Same.refl H) .nil
theorem mkya_cons (h : MkY H0 a te σ d) (r : MkYA H0 a ta σ ds) : MkYA H0 a (tCons te ta) σ (d :: ds) := fun H s _ k => h H s _ fun v H1 s1 q1 => r H1 (s.trans s1) _ fun vs H2 s2 q2 =>
  k (v :: vs) H2 (s1.trans s2) (.cons (Dx.same (same_del s2) d v q1) q2)
theorem mky_tup (ha : Held H0 a) (r : MkYA H0 a ta σ ds) (hz : ds.length ≤ 1000) : MkY H0 a (tTup ta) σ (.tuple ds) := fun H s _ k => r H s _ fun vs H1 s1 q1 =>
  ⟨Nat.le_of_lt (small1000 (by rw [dxAll_len q1]; exact hz)), fun p n => k _ _ (s1.trans (same_new n)) (.tup (((ha.same s).same s1).off n upd_same) (DxAll.same (same_del (same_new n)) ds vs q1))⟩
theorem mky_lst (ha : Held H0 a) (r : MkYA H0 a ta σ ds) (hz : ds.length ≤ 1000) : MkY H0 a (tLstS ta) σ (.list ds) := fun H s _ k => r H s _ fun vs H1 s1 q1 =>
  ⟨Nat.le_of_lt (small1000 (by rw [dxAll_len q1]; exact hz)), fun p n low => k _ _ (s1.trans (same_new n)) (.lst (((ha.same s).same s1).off n upd_same) low (DxAll.same (same_del (same_new n)) ds vs q1))⟩
theorem mky_var {i : Nat} {v : V} (h : Dx (delH H0 a) v d) (hv : σ[i]? = some (some v)) : MkY H0 a (tVar i) σ d := fun H s Q k => ⟨v, hv, k v H (Same.refl H) (Dx.same (same_del s) _ _ h)⟩
theorem tup_at {H : Hp} {v : V} (h : Dx (delH H a) v (.tuple ds)) : ∃ p xs, v = .ref p ∧ H p = some (.tup xs) ∧ DxAll (delH H a) xs ds ∧ xs.length = ds.length := by
  obtain ⟨p, xs, rfl, e, r⟩ := Dx.tup_inv h
  exact ⟨p, xs, rfl, same_delH _ _ e, r, dxAll_len r⟩
theorem lst_at {H : Hp} {v : V} (h : Dx (delH H a) v (.list ds)) : ∃ p xs, v = .ref p ∧ H p = some (.lst xs) ∧ DxAll (delH H a) xs ds ∧ xs.length = ds.length := by
  obtain ⟨p, xs, rfl, e, _, r⟩ := Dx.lst_inv h
  exact ⟨p, xs, rfl, same_delH _ _ e, r, dxAll_len r⟩
/-- t + u, neither empty -/
theorem mky_cat (ha : Held H0 a) (h1 : MkY H0 a t1 σ (.tuple ds)) (h2 : MkY H0 a t2 σ (.tuple es)) (n1 : ds ≠ []) (n2 : es ≠ []) (l : ds.length + es.length ≤ 5000) : MkY H0 a (tOp (rCatT K) t1 t2) σ (.tuple (ds ++ es)) := fun H s Q k =>
  h1 H s _ fun v H1 s1 q1 => h2 H1 (s.trans s1) _ fun u H2 s2 q2 => by
    obtain ⟨p, xs, rfl, e1, r1, l1⟩ := tup_at (Dx.same (same_del s2) _ _ q1)
    obtain ⟨q, ys, rfl, e2, r2, l2⟩ := tup_at q2
    refine ⟨p, q, xs, ys, rfl, rfl, st_of e1, st_of e2, fun z => n1 (List.length_eq_zero_iff.mp (by rw [← l1, z]; rfl)), by rw [sizeLine_eq]; omega, fun z => absurd (List.length_eq_zero_iff.mp (by rw [← l2, z]; rfl)) n2, fun _ c nc => ?_⟩
    exact k _ _ ((s1.trans s2).trans (same_new nc)) (.tup ((((ha.same s).same s1).same s2).off nc upd_same) (DxAll.same (same_del (same_new nc)) _ _ (DxAll.app r1 r2)))
/-- t * k -/
theorem mky_rep {n : Nat} (ha : Held H0 a) (h1 : MkY H0 a t1 σ (.tuple ds)) (n1 : ds ≠ []) (k1 : 2 ≤ n) (k2 : n ≤ 1000) (l : ds.length ≤ 1000) : MkY H0 a (tOp (rRepT K) t1 (tC (.int ((n : Nat) : Int)))) σ (.tuple (List.replicate n ds).flatten) := fun H s Q k =>
  h1 H s _ fun v H1 s1 q1 => by
    obtain ⟨p, xs, rfl, e1, r1, l1⟩ := tup_at q1
    refine ⟨p, (n : Int), xs, rfl, rfl, st_of e1, fun z => n1 (List.length_eq_zero_iff.mp (by rw [← l1, z]; rfl)), by omega, by omega, by omega, fun c nc => ?_⟩
    rw [Int.toNat_natCast]
    exact k _ _ (s1.trans (same_new nc)) (.tup (((ha.same s).same s1).off nc upd_same) (DxAll.same (same_del (same_new nc)) _ _ (DxAll.rep r1 n)))
/-- t[::-1] -/
theorem mky_back (ha : Held H0 a) (h1 : MkY H0 a t1 σ (.tuple ds)) : MkY H0 a (tBackT K t1) σ (.tuple ds.reverse) := fun H s Q k =>
  h1 H s _ fun v H1 s1 q1 => by
    obtain ⟨p, xs, rfl, e1, r1, l1⟩ := tup_at q1
    exact ⟨p, xs, rfl, st_of e1, fun c nc => k _ _ (s1.trans (same_new nc)) (.tup (((ha.same s).same s1).off nc upd_same) (DxAll.same (same_del (same_new nc)) _ _ (DxAll.back r1)))⟩
/-- t[lo:hi], its bounds ints or left out -/
theorem mky_cut {tl th : TO} {lo hi : Option Int} (ha : Held H0 a) (h1 : MkY H0 a t1 σ (.tuple ds)) (hl : ∀ (H : Hp) (Q : Option Int → Hp → Prop), Q lo H → tl σ H Q) (hh : ∀ (H : Hp) (Q : Option Int → Hp → Prop), Q hi H → th σ H Q) :
    MkY H0 a (tSl (rSlA K) t1 tl th) σ (.tuple (cutD ds lo hi)) := fun H s Q k =>
  h1 H s _ fun v H1 s1 q1 => hl H1 _ (hh H1 _ (by
    obtain ⟨p, xs, rfl, e1, r1, l1⟩ := tup_at q1
    refine ⟨p, xs, rfl, st_of e1, fun whole => ?_, fun _ c nc => ?_⟩
    · have z : cutD ds lo hi = ds := by
        rw [l1] at whole
        unfold cutD
        rw [whole.1, whole.2]
        simp
      exact k _ _ s1 (by rw [z]; exact q1)
    · refine k _ _ (s1.trans (same_new nc)) (.tup (((ha.same s).same s1).off nc upd_same) (DxAll.same (same_del (same_new nc)) _ _ ?_))
      unfold cutV cutD
      rw [l1]
      exact DxAll.take _ (DxAll.drop _ r1)))
theorem cutD_take {ds : List PyData} {k : Nat} : cutD ds none (some ((k : Nat) : Int)) = ds.take k := by
  unfold cutD
  rw [HT.sIx_none, HT.sIx_nat]
  simp [Nat.min_comm]
theorem cutD_last {ds : List PyData} (h : ds ≠ []) : cutD ds (some (-1)) none = ds.drop (ds.length - 1) := by
  have l := List.length_pos_iff.mpr h
  unfold cutD
  rw [HT.sIx_none]
  have e : HT.sIx ds.length 0 (some (-1)) = ds.length - 1 := by
    unfold HT.sIx
    simp only
    rw [if_pos (by decide)]
    omega
  rw [e]
  exact List.take_of_length_le (by rw [List.length_drop]; omega)
/-- xs + ys of two lists -/
theorem mky_catL (ha : Held H0 a) (h1 : MkY H0 a t1 σ (.list ds)) (h2 : MkY H0 a t2 σ (.list es)) (l : ds.length + es.length ≤ 5000) : ∀ H, Same H0 H → ∀ Q : VK, (∀ p xs H', Same H H' → H p = none → H' p = some (.lst xs) → DxAll (delH H' a) xs (ds ++ es) → Q (.ref p) H') → tOp rCat t1 t2 σ H Q := fun H s Q k =>
  h1 H s _ fun v H1 s1 q1 => h2 H1 (s.trans s1) _ fun u H2 s2 q2 => by
    obtain ⟨p, xs, rfl, e1, r1, l1⟩ := lst_at (Dx.same (same_del s2) _ _ q1)
    obtain ⟨q, ys, rfl, e2, r2, l2⟩ := lst_at q2
    refine ⟨p, q, xs, ys, rfl, rfl, e1, e2, by rw [sizeLine_eq]; omega, fun c nc => ?_⟩
    exact k c _ _ ((s1.trans s2).trans (same_new nc)) (fresh_up (s1.trans s2) nc) upd_same (DxAll.same (same_del (same_new nc)) _ _ (DxAll.app r1 r2))
/-- list(t) -/
theorem mky_listof (ha : Held H0 a) (h1 : MkY H0 a t1 σ (.tuple ds)) : MkY H0 a (tCB (fun xs H Q => ∃ p ys, xs = [.ref p] ∧ (SqL K H p ys ∨ SqT K H p ys) ∧ ∀ l, H l = none → (l == sysModules) = false → Q (.ref l) (upd H l (.lst ys))) (tCons t1 tNil)) σ (.list ds) := fun H s Q k =>
  h1 H s _ fun v H1 s1 q1 => by
    obtain ⟨p, xs, rfl, e1, r1, l1⟩ := tup_at q1
    exact ⟨p, xs, rfl, .inr (st_of e1), fun c nc low => k _ _ (s1.trans (same_new nc)) (.lst (((ha.same s).same s1).off nc upd_same) low (DxAll.same (same_del (same_new nc)) _ _ r1))⟩
theorem mkx_pow19 : MkX (tOp (rI CPow fun i j => V.int (i ^ j.toNat)) (tC (.int 10)) (tC (.int 19))) σ (.int (10 ^ 19)) := fun H Q k => ⟨10, 19, rfl, rfl, ⟨by decide, by decide, by decide⟩, k _ H (Same.refl H) (.int _)⟩
theorem mkx_neg (i : Int) : MkX (tUn (rU fun i => V.int (-i)) (tC (.int i))) σ (.int (-i)) := fun H Q k => ⟨i, rfl, k _ H (Same.refl H) (.int _)⟩
theorem mkx_mulS (z : Str) (n : Int) (h1 : 1 ≤ n) (h2 : n ≤ 10000) (h3 : z.length ≤ 1000) : MkX (tOp rMulS (tC (.str z)) (tC (.int n))) σ (.str (Txt.mul z n)) := fun H Q k => ⟨z, n, rfl, rfl, h1, h2, h3, k _ H (Same.refl H) (.str _)⟩
theorem mkx_dictI (i : Int) (j : Int) : MkX (tDisp [(tC (.int i), tC (.int j))]) σ (.dict [(.int i, .int j)]) := fun H _ k p n =>
  ⟨upd_same, [(.inl i, .int j)], rfl, (by show 1 ≤ 15; decide), by
    rw [upd_upd]
    exact k _ _ (same_new n) (.dct (kvs := [(.inl i, .int j)]) (by rw [newH_at n]; exact upd_same) (.cons (k := .inl i) (.int j) .nil))⟩
theorem mkx_dictS (x y : Str) : MkX (tDisp [(tC (.str x), tC (.str y))]) σ (.dict [(.str x, .str y)]) := fun H _ k p n =>
  ⟨upd_same, [(.inr x, .str y)], rfl, (by show 1 ≤ 15; decide), by
    rw [upd_upd]
    exact k _ _ (same_new n) (.dct (kvs := [(.inr x, .str y)]) (by rw [newH_at n]; exact upd_same) (.cons (k := .inr x) (.str y) .nil))⟩
end
/-! data without objects -/
mutual
def noOb : PyData → Bool
  | .none | .bool _ | .int _ | .str _ => true
  | .list xs | .tuple xs => noObAll xs
  | .dict kvs => noObKv kvs
def noObAll : List PyData → Bool
  | [] => true
  | x :: xs => noOb x && noObAll xs
def noObKv : List (PyData × PyData) → Bool
  | [] => true
  | (.none, _) :: _ => false
  | (_, v) :: r => noOb v && noObKv r
end
mutual
theorem dq_of2 [CurK] {H : Hp} : ∀ (d : PyData) (v : V), noOb d = true → Dx H v d → Dq H v d
  | .none, _, _, h => by cases h; exact .non
  | .bool b, _, _, h => by cases h; exact .bl b
  | .int i, _, _, h => by cases h; exact .int i
  | .str x, _, _, h => by cases h; exact .str x
  | .list ds, _, p, h => by
    cases h with
    | lst at_ low rest => exact .lst at_ low (dqAll_of2 ds _ (by simpa [noOb] using p) rest)
  | .tuple ds, _, p, h => by
    cases h with
    | tup at_ rest => exact .tup at_ (dqAll_of2 ds _ (by simpa [noOb] using p) rest)
  | .dict ds, v, p, h => by
    have p' : noObKv ds = true := by simpa [noOb] using p
    generalize hd : PyData.dict ds = d at h
    cases h with
    | dct at_ rest =>
      cases hd
      exact .dct at_ (dqKv_of2 ds _ p' rest)
    | ob at_ ok =>
      cases hd
      cases p'
    | _ => cases hd
theorem dqAll_of2 [CurK] {H : Hp} : ∀ (ds : List PyData) (vs : List V), noObAll ds = true → DxAll H vs ds → DqAll H vs ds
  | [], _, _, h => by cases h; exact .nil
  | d :: ds, _, p, h => by
    cases h with
    | cons one more =>
      have p' : noOb d = true ∧ noObAll ds = true := by simpa [noObAll] using p
      exact .cons (dq_of2 d _ p'.1 one) (dqAll_of2 ds _ p'.2 more)
theorem dqKv_of2 [CurK] {H : Hp} : ∀ (ds : List (PyData × PyData)) (kvs : List (Key × V)), noObKv ds = true → DxKv H kvs ds → DqKv H kvs ds
  | [], _, _, h => by cases h; exact .nil
  | (k, d) :: ds, _, p, h => by
    cases h with
    | @cons key _ _ _ _ one more =>
      have p' : noOb d = true ∧ noObKv ds = true := by
        cases key with
        | inl i => simpa [noObKv, keyD] using p
        | inr x => simpa [noObKv, keyD] using p
      exact .cons (dq_of2 d _ p'.1 one) (dqKv_of2 ds _ p'.2 more)
end
theorem noObAll_of : ∀ {ds : List PyData}, (∀ d ∈ ds, noOb d = true) → noObAll ds = true
  | [], _ => rfl
  | d :: ds, h => by
    simp only [noObAll, h d List.mem_cons_self, noObAll_of fun x hx => h x (List.mem_cons_of_mem _ hx), Bool.and_self]
section
theorem good_tupN {ds : List PyData} {b n k : Nat} (h : ∀ d ∈ ds, Good d b n) (l : ds.length ≤ k) : Good (.tuple ds) (b + 1) ((n + 2) * k + 3) := by
  have all : ∀ es : List PyData, (∀ d ∈ es, Good d b n) → PyData.showableAll es = true ∧ PyData.depthAll es ≤ b ∧ ((PyData.shownAll es).map (·.length)).sum ≤ n * es.length ∧ (PyData.shownAll es).length = es.length := by
    intro es
    induction es with
    | nil => exact fun _ => ⟨rfl, Nat.zero_le _, Nat.zero_le _, rfl⟩
    | cons e es ih =>
      intro he
      obtain ⟨i1, i2, i3, i4⟩ := ih fun d hd => he d (List.mem_cons_of_mem _ hd)
      have g := he e List.mem_cons_self
      refine ⟨?_, ?_, ?_, ?_⟩
      · simp only [PyData.showableAll, g.sh, i1, Bool.and_self]
      · simp only [PyData.depthAll]
        have := g.dp
        omega
      · simp only [PyData.shownAll, List.map_cons, List.sum_cons, List.length_cons]
        have := g.ln
        rw [Nat.mul_succ]
        omega
      · simp only [PyData.shownAll, List.length_cons, i4]
  obtain ⟨a1, a2, a3, a4⟩ := all ds h
  refine ⟨by simpa only [PyData.showable] using a1, by simp only [PyData.depth]; omega, ?_⟩
  simp only [PyData.shown]
  have z := tupleText_len_le (PyData.shownAll ds)
  rw [a4] at z
  have m1 : n * ds.length ≤ n * k := Nat.mul_le_mul_left n l
  have m2 : (n + 2) * k = n * k + 2 * k := Nat.add_mul n 2 k
  omega
theorem good_lstN {ds : List PyData} {b n k : Nat} (h : ∀ d ∈ ds, Good d b n) (l : ds.length ≤ k) : Good (.list ds) (b + 1) ((n + 2) * k + 3) := by
  have g := good_tupN h l
  have all : ∀ es : List PyData, (∀ d ∈ es, Good d b n) → ((PyData.shownAll es).map (·.length)).sum ≤ n * es.length ∧ (PyData.shownAll es).length = es.length := by
    intro es
    induction es with
    | nil => exact fun _ => ⟨Nat.zero_le _, rfl⟩
    | cons e es ih =>
      intro he
      obtain ⟨i3, i4⟩ := ih fun d hd => he d (List.mem_cons_of_mem _ hd)
      have g := he e List.mem_cons_self
      refine ⟨?_, ?_⟩
      · simp only [PyData.shownAll, List.map_cons, List.sum_cons, List.length_cons]
        have := g.ln
        rw [Nat.mul_succ]
        omega
      · simp only [PyData.shownAll, List.length_cons, i4]
  obtain ⟨a3, a4⟩ := all ds h
  refine ⟨by simpa only [PyData.showable] using g.sh, by simpa only [PyData.depth] using g.dp, ?_⟩
  simp only [PyData.shown]
  have z := listText_len_le (PyData.shownAll ds)
  rw [a4] at z
  have m1 : n * ds.length ≤ n * k := Nat.mul_le_mul_left n l
  have m2 : (n + 2) * k = n * k + 2 * k := Nat.add_mul n 2 k
  omega
/-- data that can be shown, and has no objects -/
structure Shw (d : PyData) : Prop where
  no : noOb d = true
  gd : Good d 50 100000
def shwB (d : PyData) : Bool := noOb d && (d.showable && (decide (d.depth ≤ 50) && decide (d.shown.length ≤ 100000)))
theorem shw_of {d : PyData} (h : shwB d = true) : Shw d := by
  unfold shwB at h
  simp only [Bool.and_eq_true, decide_eq_true_eq] at h
  exact ⟨h.1, h.2.1, h.2.2.1, h.2.2.2⟩
theorem shw_tup {ds : List PyData} {b n k : Nat} (h : ∀ d ∈ ds, noOb d = true ∧ Good d b n) (l : ds.length ≤ k) (hb : b + 1 ≤ 50) (hn : (n + 2) * k + 3 ≤ 100000) : Shw (.tuple ds) :=
  ⟨by simpa only [noOb] using noObAll_of fun d hd => (h d hd).1, (good_tupN (fun d hd => (h d hd).2) l).mono hb hn⟩
theorem shw_lst {ds : List PyData} {b n k : Nat} (h : ∀ d ∈ ds, noOb d = true ∧ Good d b n) (l : ds.length ≤ k) (hb : b + 1 ≤ 50) (hn : (n + 2) * k + 3 ≤ 100000) : Shw (.list ds) :=
  ⟨by simpa only [noOb] using noObAll_of fun d hd => (h d hd).1, (good_lstN (fun d hd => (h d hd).2) l).mono hb hn⟩
end
end V4

set_option maxHeartbeats 4000000
/-! V4f: how often a flag stands in a list; a lambda without parameters handed to a def that catches what it lets out -/
namespace V4
open PySem PySem.Spec PyProof.Rows L2 V1 V2 V3 LamX
def rCntB (K : PySem.W.Frag) : V → List V → Hp → VK → Prop := fun x xs H Q => ∃ (p : Addr) (bs : List Bool) (k : Bool), x = .ref p ∧ xs = [.bl k] ∧ SqL K H p (bs.map V.bl) ∧ Q (.int (bs.count k : Nat)) H
theorem flat_bools : ∀ bs : List Bool, (bs.map V.bl).all flatV = true
  | [] => rfl
  | b :: bs => by
    rw [List.map_cons, List.all_cons, flat_bools bs]
    rfl
theorem cnt_bools {k : Bool} : ∀ {bs : List Bool} {us : List Value}, Vals (bs.map V.bl) us → us.countP (eqU (.bl k)) = bs.count k
  | [], _, .nil => rfl
  | b :: bs, _, .cons r t => by
    cases r
    rw [List.countP_cons, cnt_bools t, List.count_cons]
    have z : eqU (.bl k) (Value.bool b) = (b == k) := by cases b <;> cases k <;> rfl
    rw [z]
theorem mt_countB {X : Cx} : MtR X "list.count" (rCntB X.K) := by
  rintro pins s σ H x xs v us Q I rx rxs ⟨p, bs, k, rfl, rfl, hs, q⟩
  cases rx
  obtain ⟨u, rfl, ru⟩ := rxs.one
  obtain ⟨its, rv, ⟨⟨cls, dd, dat, sl⟩, n, ho, hc, hdn, hd⟩, _⟩ := I.list hs
  simp only at hc hd
  subst hc hd
  refine call_meets PySem.F.slot_list_count ⟨_, ho, rfl⟩ PySem.F.entry_list_count (PySem.F.args_list_count_2 _ _) (SeqAt.list_countAt p its.toArray n dd sl u (eqU (.bl k)))
    ⟨ho, fun y hy => mem_eqAt ru rfl rv (flat_bools bs) y (by simpa using hy), ?_⟩
  refine ⟨.int (bs.count k : Nat), H, I.tok _, ⟨s.toks, ?_⟩, q⟩
  show Value.int ((its.toArray.toList.countP (eqU (.bl k)) : Nat) : Int) s.toks = _
  rw [show its.toArray.toList = its from rfl, cnt_bools rv]
section
variable {X : Cx} {pins : List (Addr × Obj)} {σ : L2.St} {H : Hp} {s : Shared}
/-- the context of the def g that got a lambda -/
abbrev inP (P : Program) (w : World) (K : PySem.W.Frag) (mg : Str → Option Value) (base : Heap) (A : Around) (st : List Env) (Ng : List Str) (x : Str) (sg : Scope) (g : Addr) (cdg : Value) (s : Shared) (H : Hp) : Cx := cxOf C8.CX0 P w K mg base Ng x sg g cdg A st s H C8.E0
abbrev inCx (X : Cx) (Ng : List Str) (x : Str) (sg : Scope) (g : Addr) (cdg : Value) (s : Shared) (H : Hp) : Cx := inP X.prog X.w X.K X.mg X.base X.A X.stack Ng x sg g cdg s H
/-- the def calls what it got: what leaves the lambda goes where the def's clauses wish, by the slots -/
theorem pe_actS {Ng : List Str} {x : Str} {sg : Scope} {g f c' : Addr} {cdg pm ctv : Value} {params : Arguments} {body : Expr} {scope : Scope} {k i : Nat} {nm : Str} {pn : List (Addr × Obj)} {xe : Value → Shared → Prop} {W : WX} {t : XK → TE} {p1 p2 : Pos}
    (I : Inv X pins σ H s) (L : LamS X.env.scope scope) (hf : s.heap.get? f = some (PySem.W.kla_obj "<lambda>" (X.env.qual ++ "<lambda>") params body scope (cloFrom X.env.cells scope.names []) pm c' ctv)) (new : H f = none) (off : f ∉ frs X.stack)
    (bind : bindArgs (PySem.W.kla_fn "<lambda>" (X.env.qual ++ "<lambda>") params body scope (cloFrom X.env.cells scope.names []) pm (.ref c') ctv) ⟨[], []⟩ = pure [])
    (tk : Takes ((inCx X Ng x sg g cdg s H).tr pn xe) W) (room : Room (k + 1) (X.A.deeper (envOfC x sg s.heap.objs.size g cdg)))
    (inner : ∀ (E : XK) (A : Around) (outer : List Env) (s : Shared) (H : Hp), Room k (A.deeper (lamEnv X scope s.heap.objs.size f c')) → PE (lamCx X A outer s H E scope f c') body (t E))
    (at_ : Ng[i]? = some nm) (vis : Vis sg nm) (nd : (nm == ("__debug__" : Str)) = false := by decide) (nc : (nm == ("__classdict__" : Str)) = false := by decide) :
    PE ((inCx X Ng x sg g cdg s H).tr pn xe) (.Call (.Name nm p1) [] [] p2) (fun τ G Q => τ[i]? = some (some (.ref f)) ∧ G c' = some (CodeO c' (X.env.qual ++ "<lambda>")) ∧ t (WE W τ) σ G Q) := by
  refine ⟨fun pins2 s2 τ G Q J ⟨h1, h2, h3⟩ => ?_⟩
  refine wpAny_Call_Name_kw (thn ((pe_var (pos := p1) (i := i) at_ vis nd nc).run pins2 s2 τ G (fun v G' => v = .ref f ∧ G' = G) J ⟨.ref f, h1, rfl, rfl⟩) ?_)
  rintro u s3 ⟨v, G', J3, rv, rfl, rfl⟩
  cases rv
  have there : s3.heap.get? f = some (PySem.W.kla_obj "<lambda>" (X.env.qual ++ "<lambda>") params body scope (cloFrom X.env.cells scope.names []) pm c' ctv) := J3.base.keep f _ hf new off (fun z => nomatch (show f ∈ ([] : List Addr) from z))
  refine PySem.W.callWith_F0 ⟨_, _, _, _, there⟩ ?_
  have un : Un (frs X.stack) [] H G' s.heap s3.heap := J3.base
  obtain ⟨⟨oc, vs, tc, hoc, hdc, hvc⟩, _, _⟩ := J3.hok c' _ h2
  have run : codeAny (model X.prog X.w) (X.A.deeper (envOfC x sg s.heap.objs.size g cdg)) (.call (.ref f) ⟨[], []⟩) (CR (L2.CX X.prog X.w) (envOfC x sg s.heap.objs.size g cdg :: X.stack) X.prog X.w G' s3 Q (WE W τ)) s3 := by
    refine PySem.W.kla_callFunE room.depth there rfl L.co L.gen rfl ⟨c', oc, vs, tc, rfl, hoc, hdc, hvc⟩ ?_
    rw [bind]
    refine wpAny_pure (wpAny_newFunctionEnv (fun y hy => (L.own y hy).2) (fun y hy => absurd hy (by simp)) (fun g1 ns1 sb1 => ⟨J3.nolimit.fresh _ sb1, ?_⟩) L.kind)
    show codeAny _ _ (.expr body (lamEnv X scope s3.heap.objs.size f c')) _ _
    have kp : ∀ b o, s3.heap.get? b = some o → g1.get? b = some o := fun b o e => sb1.extBut b o (Nat.ne_of_lt (Heap.lt_size e)) (Heap.get?_push_of_some _ e)
    have J4 : Inv (lamCx X (X.A.deeper (envOfC x sg s.heap.objs.size g cdg)) (envOfC x sg s.heap.objs.size g cdg :: X.stack) s3 G' (WE W τ) scope f c') [] σ G' { s3 with heap := g1, toks := s3.toks + ([] : List (Str × Value)).length } :=
      lam_start2 I L J3.env0 room.hd un ns1 kp
    refine PySem.W.kla_codeExpr (wpAny_mono ((inner _ _ _ s3 G' (room.deeper _)).run [] _ _ G' Q J4 h3) (fun v s5 out => ?_) fun e s5 out => out)
    exact let ⟨w', G5, J5, r5, q5⟩ := out; ⟨w', G5, J5.os, J5.bare, J5.base, J5.hok, r5, q5⟩
  refine wpAny_call (codeAny_mono run fun r s5 out => ?_)
  match r, out with
  | .error e, out => exact passAt tk τ pins2 G' s3 e s5 J3 out
  | .ok (.ret u), out => exact J3.after out
  | .ok .next, out => exact out.elim
  | .ok .brk, out => exact out.elim
  | .ok .cont, out => exact out.elim
/-- what a def makes of the lambda that it got -/
def GivesP (P : Program) (w : World) (K : PySem.W.Frag) (mg : Str → Option Value) (base : Heap) (A : Around) (st : List Env) (Ng : List Str) (x : Str) (sg : Scope) (g : Addr) (cdg : Value) (bg : List Stmt) (nm : Str) (q : Str) (TT : (XK → Hp → VK → Prop) → Hp → VK → Prop) : Prop :=
  ∀ (f c' : Addr) (s : Shared) (H : Hp) (Q : VK) (tl : XK → Hp → VK → Prop), Room 30 (A.deeper (envOfC x sg s.heap.objs.size g cdg)) →
    (∀ (W : WX) (pn : List (Addr × Obj)) (xe : Value → Shared → Prop) (p1 p2 : Pos), Takes ((inP P w K mg base A st Ng x sg g cdg s H).tr pn xe) W →
      PE ((inP P w K mg base A st Ng x sg g cdg s H).tr pn xe) (.Call (.Name nm p1) [] [] p2) (fun τ G Q => τ[0]? = some (some (.ref f)) ∧ G c' = some (CodeO c' q) ∧ tl (WE W τ) G Q)) →
    H c' = some (CodeO c' q) → TT tl H Q → ∃ t, PSs (inP P w K mg base A st Ng x sg g cdg s H).nox bg t ∧ t { nx := fun _ H' => Q .non H', rt := Q } (L2.start Ng [.ref f]) H
def tLamS (ts : List (Addr × Str)) (TT : (XK → Hp → VK → Prop) → Hp → VK → Prop) (t : XK → TE) : TE := fun σ H Q => Tabs ts H ∧ ∀ H1, ExtN H H1 → Tabs ts H1 → TT (fun E G Q' => t E σ G Q') H1 Q
/-- x(lambda: body) -/
theorem pe_lamS {ts : List (Addr × Str)} {TT : (XK → Hp → VK → Prop) → Hp → VK → Prop} {x nm : Str} {g c P : Addr} {fd : FuncData} {pg : Arguments} {bg : List Stmt} {sg : Scope} {Ng : List Str} {params : Arguments} {body : Expr} {scope : Scope} {t : XK → TE} {p lpos pos : Pos}
    (F : FunD X.K x x pg bg sg [] [] g fd) (bd : L2.Binds X.K fd [nm] []) (hm : X.mg x = some (.ref g)) (Sg : FnScope Ng [nm] sg) (at_ : Ng[0]? = some nm)
    (give : ∀ cdg : Value, GivesP X.prog X.w X.K X.mg X.base X.A X.stack Ng x sg g cdg bg nm (X.env.qual ++ "<lambda>") TT)
    (TB : TabB X.base X.mg c P) (code : X.env.code = .ref c) (mem : (P, X.env.qual ++ "<lambda>") ∈ ts) (uniq : ∀ p ∈ ts, p.1 = P → p.2 = X.env.qual ++ "<lambda>") (room : Room 32 X.A) (L : LamS X.env.scope scope)
    (inner : ∀ (E : XK) (A : Around) (outer : List Env) (s : Shared) (H : Hp) (f c' : Addr), Room 29 (A.deeper (lamEnv X scope s.heap.objs.size f c')) → PE (lamCx X A outer s H E scope f c') body (t E))
    (hg : Gl X x := by rfl) (dfl : defaultsOf params X.env = ([], []) := by rfl)
    (bind : ∀ (q : Str) (cl : List (Str × Addr)) (pm cv ctv : Value), bindArgs (PySem.W.kla_fn "<lambda>" q params body scope cl pm cv ctv) ⟨[], []⟩ = pure [] := by intros; rfl)
    (hdb : (x == ("__debug__" : Str)) = false := by decide) (nd : (nm == ("__debug__" : Str)) = false := by decide) (nc : (nm == ("__classdict__" : Str)) = false := by decide) :
    PE X (.Call (.Name x p) [.Lambda params body scope lpos] [] pos) (tLamS ts TT t) := by
  obtain ⟨oc, od, dV, kV, doc, pm0, an, cdv, ct, osl, rfl, lk, cd, _, _⟩ := F.ex
  have vis : Vis sg nm := (Sg.par nm List.mem_cons_self).elim (fun z => Or.inl z) (fun z => Or.inr (Or.inl z))
  refine ⟨fun pins s σ H Q I ⟨hT, h⟩ => ?_⟩
  refine wpAny_Call_Name_kw (ld_glob I hg hm ?_ hdb)
  refine PySem.W.callWith_K (h₀ := X.base) I.ok.mod.kin F.kp ?_ (by rfl) (by rfl)
  show wpAny _ _ (spliced ((false, eval (.Lambda params body scope lpos) X.env) :: backTo pos (starEach [] X.env))) _ _ s
  refine Calls.spliced_cons (lam_make2 I TB code mem uniq hT dfl (L.has I.ok) fun f c' pm ctv H1 s1 I1 eN T1 hf new off co => Calls.spliced_nil ⟨I1.kIn, ?_⟩)
  have run : codeAny (model X.prog X.w) X.A (.call (.ref g) ⟨[.ref f], []⟩) (CR C8.CX0 X.stack X.prog X.w H1 s1 Q C8.E0) s1 := by
    refine run_ofS (k := 31) (N := Ng) (ps := [nm]) (us := [.ref f]) (vs := [.ref f]) lk cd Sg room I1.env0 (bd s1 [.ref f] I1.kIn rfl) (.cons rfl .nil) rfl fun r31 => ?_
    obtain ⟨t', ht, hq⟩ := give cdv f c' s1 H1 Q (fun E G Q' => t E σ G Q') (r31.mono (by decide)) (fun W pn xe p1 p2 tk => pe_actS (k := 29) (i := 0) I1 L hf new off (bind _ _ _ _ _) tk (r31.mono (by decide)) (fun E A outer s H r => inner E A outer s H f c' r) at_ vis nd nc) co (h H1 eN T1)
    exact ⟨t', ht.nox, hq⟩
  refine wpAny_call (codeAny_mono run fun r s2 out => ?_)
  match r, out with
  | .error e, out => exact (show False from out).elim
  | .ok (.ret u), out => exact I1.after out
  | .ok .next, out => exact out.elim
  | .ok .brk, out => exact out.elim
  | .ok .cont, out => exact out.elim
end
end V4

set_option maxHeartbeats 4000000
/-! V4g: what stays when all but the tables of codes stays -/
namespace V4
open PySem PySem.Spec PyProof.Rows L2 V1 V2 V3 LamX
section
variable [CurK] {H H' : Hp}
mutual
theorem dx_ext (e : ExtN H H') : ∀ (d : PyData) (v : V), Dx H v d → Dx H' v d
  | .none, _, h => by cases h; exact .non
  | .bool b, _, h => by cases h; exact .bl b
  | .int i, _, h => by cases h; exact .int i
  | .str x, _, h => by cases h; exact .str x
  | .list ds, _, h => by
    cases h with
    | lst there low more => exact .lst (e _ _ there fun _ z => nomatch z) low (dxs_ext e ds _ more)
  | .tuple ds, _, h => by
    cases h with
    | tup there more => exact .tup (e _ _ there fun _ z => nomatch z) (dxs_ext e ds _ more)
  | .dict ds, _, h => by
    cases h with
    | dct there more => exact .dct (e _ _ there fun _ z => nomatch z) (dxk_ext e ds _ more)
    | ob there ok => exact .ob (e _ _ there fun _ z => nomatch z) ok
theorem dxs_ext (e : ExtN H H') : ∀ (ds : List PyData) (vs : List V), DxAll H vs ds → DxAll H' vs ds
  | [], _, h => by cases h; exact .nil
  | d :: ds, _, h => by
    cases h with
    | cons one more => exact .cons (dx_ext e d _ one) (dxs_ext e ds _ more)
theorem dxk_ext (e : ExtN H H') : ∀ (ds : List (PyData × PyData)) (kvs : List (Key × V)), DxKv H kvs ds → DxKv H' kvs ds
  | [], _, h => by cases h; exact .nil
  | (k, d) :: ds, _, h => by
    cases h with
    | cons one more => exact .cons (dx_ext e d _ one) (dxk_ext e ds _ more)
end
end
theorem ext_of {H H' : Hp} (s : Same H H') : ExtN H H' := ExtN.of s
theorem ext_del {H H' : Hp} {a : Addr} (e : ExtN H H') : ExtN (delH H a) (delH H' a) := fun b o h n => by
  by_cases z : b = a
  · rw [z, delH_same] at h
    cases h
  · rw [delH_ne z] at h ⊢
    exact e b o h n
theorem ext_lst {H H' : Hp} {p : Addr} {xs : List V} (e : ExtN H H') (h : H p = some (.lst xs)) : H' p = some (.lst xs) := e p _ h fun _ z => nomatch z
theorem ext_tup {H H' : Hp} {p : Addr} {xs : List V} (e : ExtN H H') (h : H p = some (.tup xs)) : H' p = some (.tup xs) := e p _ h fun _ z => nomatch z
/-- tables stay where everything stays -/
theorem tabs_same {ts : List (Addr × Str)} {H H' : Hp} (t : Tabs ts H) (s : Same H H') : Tabs ts H' := t.ext s
theorem tabS_del {H : Hp} {p a : Addr} {q : Str} (h : TabS H p q) (n : H a ≠ none → ∃ xs, H a = some (.lst xs)) : True := trivial
end V4

set_option maxHeartbeats 4000000
/-! V4h: {k: v for a target in a walk}, its keys tuples of ints and texts. -/
namespace V4
open PySem PySem.Spec PyProof.Rows L2 V1 V2 V3
section
variable {X : Cx}
/-- so many turns, each with one store -/
def TurnsT (J : It) (g : TG) (tk tv : TE) (vs : List Nat) (σ : L2.St) (D : Addr) (n : Nat) (W : Nat → Hp → Prop) : Prop :=
  ∀ i H', i < n → W i H' → J.go i H' ∧ ∀ x H2, J.yld i H' x H2 → g x (wipe σ vs) H2 fun σ2 H3 => wipe σ2 vs = wipe σ vs ∧ tk σ2 H3 fun y H4 => tv σ2 H4 fun z H5 =>
    ∃ kvs k b, y = .ref b ∧ H5 b = some (.tup (k.map kV)) ∧ H5 D = some (.dT kvs) ∧ kvs.length < sizeLine ∧ W (i + 1) (upd H5 D (.dT (putK kvs k z)))
def tDcT (wi : TI) (g : TG) (tk tv : TE) (vs : List Nat) : TE := fun σ H Q => wi σ H fun J H1 => ∀ D, H1 D = none →
  ∃ (n : Nat) (W : Nat → Hp → Prop), W 0 (upd H1 D (.dT [])) ∧ (∀ H', W n H' → J.stop n H' ∧ Q (.ref D) H') ∧ TurnsT J g tk tv vs σ D n W
/-- the store of such a comprehension -/
theorem storeT {Y : Cx} {pins : List (Addr × Obj)} {σ : L2.St} {H : Hp} {s : Shared} {E : Value → Shared → Prop} {D b : Addr} {kvs : List (List Key × V)} {k : List Key} {v : V} {r : Value} {Q : Unit → Shared → Prop}
    (room : Y.A.units < cLine) (I : Inv Y pins σ H s) (eb : H b = some (.tup (k.map kV))) (eD : H D = some (.dT kvs)) (z : kvs.length < sizeLine) (rv : RelV v r)
    (h : ∀ s', Inv Y pins σ (upd H D (.dT (putK kvs k v))) s' → Q () s') : wpAny (model Y.prog Y.w) Y.A (dictSet D (.ref b) r) Q E s := by
  obtain ⟨_, low, xs, rel, dd⟩ := dt_of I.hok eD
  have lx : xs.length ≤ sizeLine := Paired.length rel ▸ Nat.le_of_lt z
  have ly : (putK kvs k v).length ≤ sizeLine := Nat.le_trans (length_putK kvs k v) z
  refine wpAny_dictSet_heap (knd := tupleKind (mixKind Y.prog Y.w)) (hsz := lx) room (key_of I.hok eb) dd fun g ⟨ob, es, ep, g1, g2, g3, g4, _, g6⟩ sb => h _ ?_
  have mu : Mut (H D) := by
    rw [eD]
    trivial
  refine d_write I mu sb ⟨ob, g1⟩ ⟨ly, low, _, (rel.put k eb rv).keeps fun c ys ec => ?_, ob, es, ep, g1, g2, g3, g4, g6⟩
  have cD : c ≠ D := fun q => by
    rw [q, eD] at ec
    cases ec
  rw [upd_ne cD]
  exact ec
/-- one turn of it, in its block -/
theorem turnT {Y : Cx} {tg kx vx : Expr} {J : It} {fp : List Addr} {it : Addr} {tn : Nat → Heap → Prop} {g : TG} {tk tv : TE} {vs : List Nat} {σ : L2.St} {D : Addr} {n : Nat} {W : Nat → Hp → Prop} (calm : Y.calm = true) (room : Y.A.units < cLine) (no : Y.xe = fun _ _ => False)
    (T : Turn Y.prog Y.w Y.K tg J fp it tn) (pg : PG Y tg g) (pk : PE Y kx tk) (pv : PE Y vx tv) (stat : ∀ {σ' H' s'}, Inv Y [] σ' H' s' → (∀ b ∈ fp, H' b = none) → ∀ b ∈ fp, FpOk Y [] H' b) (tt : TurnsT J g tk tv vs σ D n W)
    {i : Nat} {H' : Hp} {s' : Shared} (hi : i < n) (I : Inv Y [] (wipe σ vs) H' s') (st : tn i s'.heap) (nf : ∀ b ∈ fp, H' b = none) (w : W i H') :
    wpAny (model Y.prog Y.w) Y.A (pyNext (.ref it)) (fun r s1 => ∃ u, r = some u ∧ wpAny (model Y.prog Y.w) Y.A (letOwnedTupleGo tg (.ref it) u) (fun _ s2 =>
      wpAny (model Y.prog Y.w) Y.A (assign tg Y.env u) (fun _ s3 => wpAny (model Y.prog Y.w) Y.A (eval kx Y.env) (fun kv s4 => wpAny (model Y.prog Y.w) Y.A (eval vx Y.env) (fun vv s5 =>
        wpAny (model Y.prog Y.w) Y.A (dictSet D kv vv) (fun _ s6 => ∃ H6, Inv Y [] (wipe σ vs) H6 s6 ∧ tn (i + 1) s6.heap ∧ (∀ b ∈ fp, H6 b = none) ∧ W (i + 1) H6)
        (fun _ _ => False) s5) (fun _ _ => False) s4) (fun _ _ => False) s3) (fun _ _ => False) s2) (fun _ _ => False) s1) (fun _ _ => False) s' := by
  obtain ⟨go, step⟩ := tt i H' hi w
  refine thnF (T.item Y rfl rfl rfl calm i [] s' _ H' (fun _ _ => False) I (stat I nf) st go) fun r s1 ⟨u, er, q⟩ => ⟨u, er, thnF q fun _ s2 ⟨x, H2, I2, rx, y2, st2, n2⟩ => ?_⟩
  have Ip := I2.pinned (stat I2 n2) (T.obj _ _ st2)
  have a1 := pg.run _ s2 _ H2 x u _ Ip rx (step x H2 y2)
  rw [no] at a1
  refine thnF a1 fun _ s3 ⟨σ3, H3, I3, e3, q3⟩ => ?_
  have a2 := pk.run _ s3 σ3 H3 _ I3 q3
  rw [no] at a2
  refine thnF a2 fun kv s4 ⟨y, H4, I4, r4, q4⟩ => ?_
  have a3 := pv.run _ s4 σ3 H4 _ I4 q4
  rw [no] at a3
  refine thnF a3 fun vv s5 ⟨z, H5, I5, r5, kvs, k, b, ey, eb, eD, lz, w'⟩ => ?_
  subst ey
  obtain rfl : kv = Value.ref b := r4
  refine storeT room I5 eb eD lz r5 fun s6 I6 => ?_
  have held : ∀ c ∈ fp, ∀ o, s2.heap.get? c = some o → s6.heap.get? c = some o ∧ upd H5 D (.dT (putK kvs k z)) c = none := fun c hc o eo =>
    let pin := I6.pin (c, o) (List.mem_append_right _ (List.mem_append_right _ (mem_pinsAt hc eo)))
    ⟨pin.1, pin.2.1⟩
  refine ⟨_, I6.unpinned.weak (by rw [← e3, wipe_length]) fun j v ev => ?_, T.keep _ _ _ st2 fun c hc o eo => (held c hc o eo).1, fun c hc => ?_, w'⟩
  · rw [← e3] at ev
    exact (wipe_some ev).1
  · obtain ⟨o, eo, _⟩ := T.obj _ _ st2 c hc
    exact (held c hc o eo).2
theorem pe_dcT {kx vx tg iter : Expr} {scope : Scope} {own : List (Str × Nat)} {pos : Pos} {wi : TI} {g : TG} {tk tv : TE} (hc : X.calm = true) (room : X.A.units < cLine) (hN : X.N.Nodup) (hi : PI X tg iter wi) (ok : BlkOk X.N X.env.scope scope own)
    (hg : ∀ (s : Shared) (H : Hp) (C : Addr) (cl : List (Str × Addr)) (fp : List Addr), PG (X.blk s H scope (compEnvC scope cl C X.env) fp) tg g)
    (hk : ∀ (s : Shared) (H : Hp) (C : Addr) (cl : List (Str × Addr)) (fp : List Addr), PE (X.blk s H scope (compEnvC scope cl C X.env) fp) kx tk)
    (hv : ∀ (s : Shared) (H : Hp) (C : Addr) (cl : List (Str × Addr)) (fp : List Addr), PE (X.blk s H scope (compEnvC scope cl C X.env) fp) vx tv) (hs : ∀ x, foldedSetIterable iter X.env x = pure x := by intro _; rfl) :
    PE X (.DictComp kx vx [⟨tg, iter, [], 0⟩] scope pos) (tDcT wi g tk tv (own.map (·.2))) := by
  refine ⟨fun pins s σ H Q I h => ?_⟩
  rw [arm_eval_DictComp]
  have clo : ∀ y ∈ scope.names, y.2 = .free → ∃ c, X.env.cells.lookup y.1 = some c := fun y hy e => (ok.free y hy e).elim (fun z => I.ok.has _ (.inl z)) fun z => I.ok.has _ (.inr z)
  refine wpAny_comprehension_free (use := none) rfl hs (closure_ok clo) ok.kind (fun y hy e => (ok.uniq y hy).trans (congrArg some e)) (thn (hi.run pins s σ H _ I h) fun xv s1 hx => thn hx fun itv s2 got => ?_)
  obtain ⟨it, fp, tn, J, H2, rfl, I2, T, st2, f2, q⟩ := got
  refine wpAny_newObj_type (newEnv_comp ?_)
  -- the dict's place, and the heap with it
  obtain ⟨D, eD⟩ : ∃ D, D = s2.heap.objs.size := ⟨_, rfl⟩
  obtain ⟨n, W, w0, stop, tt⟩ := q D (I2.hok.fresh (Nat.le_of_eq eD.symm))
  obtain ⟨s3, e3⟩ : ∃ s3 : Shared, s3 = { s2 with heap := s2.heap.push { cls := .type "dict", data := .dict #[] } } := ⟨_, rfl⟩
  have heap3 : s3.heap = s2.heap.push { cls := .type "dict", data := .dict #[] } := congrArg Shared.heap e3
  have I3 : Inv X pins σ (upd H2 D (.dT [])) s3 := by
    rw [e3, eD]
    exact I2.laid (t' := s2.toks) (fun _ _ z => Heap.get?_push_of_some _ z) (Nat.le_refl _) (dt_empty s2.heap I2.big)
  have inFp : ∀ b ∈ fp, b < s2.heap.objs.size := fun b hb => (T.obj _ _ st2 b hb).elim fun o z => Heap.lt_size z.1
  have f3 : ∀ b ∈ fp, FpOk X pins (upd H2 D (.dT [])) b ∧ b < s3.heap.objs.size := fun b hb => by
    have lt := inFp b hb
    refine ⟨⟨?_, (f2 b hb).2⟩, by rw [heap3, Heap.size_push]; exact Nat.lt_succ_of_lt lt⟩
    rw [upd_ne (by rw [eD]; exact Nat.ne_of_lt lt)]
    exact (f2 b hb).1
  have I4 := block_start I3 ok hN f3
  have pg := hg s3 (upd H2 D (.dT [])) s3.heap.objs.size (cellsFrom (s3.heap.objs.size + 1) scope.names (cloFrom X.env.cells scope.names [])) fp
  have pk := hk s3 (upd H2 D (.dT [])) s3.heap.objs.size (cellsFrom (s3.heap.objs.size + 1) scope.names (cloFrom X.env.cells scope.names [])) fp
  have pv := hv s3 (upd H2 D (.dT [])) s3.heap.objs.size (cellsFrom (s3.heap.objs.size + 1) scope.names (cloFrom X.env.cells scope.names [])) fp
  have nf3 : ∀ b ∈ fp, (upd H2 D (.dT [])) b = none := fun b hb => (f3 b hb).1.1
  obtain ⟨ce, ece⟩ : ∃ ce, ce = compEnvC scope (cellsFrom (s3.heap.objs.size + 1) scope.names (cloFrom X.env.cells scope.names [])) s3.heap.objs.size X.env := ⟨_, rfl⟩
  obtain ⟨s4, e4⟩ : ∃ s4 : Shared, s4 = { s3 with heap := pushCells (s3.heap.push { cls := .type "dict", data := .dict #[] }) scope.names } := ⟨_, rfl⟩
  have place : ce.locals = s3.heap.objs.size := congrArg Env.locals ece
  rw [← ece, ← e4] at I4
  rw [← ece] at pg pk pv
  have st4 : tn 0 s4.heap := T.keep _ _ _ st2 fun b _ o e => by
    rw [e4]
    refine pushCells_keeps _ _ _ _ (Heap.get?_push_of_some _ ?_)
    rw [heap3]
    exact Heap.get?_push_of_some _ e
  have stat : ∀ {σ' : L2.St} {H' : Hp} {s' : Shared}, Inv (X.blk s3 (upd H2 D (.dT [])) scope ce fp) [] σ' H' s' → (∀ b ∈ fp, H' b = none) → ∀ b ∈ fp, FpOk (X.blk s3 (upd H2 D (.dT [])) scope ce fp) [] H' b := fun {σ' H' s'} I' hn b hb => by
    refine ⟨hn b hb, (I'.ok.exf b hb).1, I'.ok.exfs b hb, .inl hb, fun x c e => (I'.ok.exf b hb).2 x c e, fun p hp => ?_⟩
    cases (show p ∈ ([] : List (Addr × Obj)) ++ [] from hp)
  have loop : codeAny (model X.prog X.w) X.A (.compLoop (.DictComp kx vx [⟨tg, iter, [], 0⟩] scope pos) 0 (.ref it) (.ref D) ce) (compPost (model X.prog X.w) X.A X.xe none (fun v s' => ∃ y H', Inv X pins σ H' s' ∧ RelV y v ∧ Q y H') (.ref D) s3.heap.objs.size) s4 := by
    refine compLoop_anyD (fun left s' => ∃ i H', i + left = n ∧ Inv (X.blk s3 (upd H2 D (.dT [])) scope ce fp) [] (wipe σ (own.map (·.2))) H' s' ∧ tn i s'.heap ∧ (∀ b ∈ fp, H' b = none) ∧ W i H') ?_ n ⟨0, _, Nat.zero_add n, I4, st4, nf3, w0⟩
    rintro left s5 ⟨i, H5, il, I5, st5, n5, w5⟩
    cases left with
    | zero =>
      obtain rfl : i = n := il
      obtain ⟨halt, q5⟩ := stop H5 w5
      refine thnF (T.done (X.blk s3 (upd H2 D (.dT [])) scope ce fp) rfl rfl rfl hc i [] s5 _ H5 (fun _ _ => False) I5 (stat I5 n5) st5 halt) fun r s6 ⟨er, I6⟩ => ?_
      subst er
      have I7 : Inv X pins σ H5 s6 := I3.call' (ch := fp) I6.os I6.base I6.hok I6.bare fun b hb => ⟨(f3 b hb).1.2.2.2.1, (f3 b hb).1.2.1, (f3 b hb).1.2.2.2.2.1, (f3 b hb).1.2.2.2.2.2⟩
      have gone : H5 s3.heap.objs.size = none := by
        rw [← place]
        exact I6.free
      obtain ⟨m, hn, _⟩ := I6.loc
      have hn : s6.heap.Ns s3.heap.objs.size m := by
        rw [← place]
        exact hn
      obtain ⟨f0, f1, f2, f3, f4, f5⟩ := I3.fpOk (H' := H5) (Nat.le_refl _) gone
      exact ⟨m, hn, fun g sb => ⟨.ref D, H5, I7.turned (t' := s6.toks) (fun b o hb e => (sb.2 b hb).trans e) f0 f1 f3 f4 f5, rfl, q5⟩⟩
    | succ left =>
      refine thnF (turnT (Y := X.blk s3 (upd H2 D (.dT [])) scope ce fp) hc room rfl T pg pk pv stat tt (by omega) I5 st5 n5 w5) fun r s6 ⟨u, er, q6⟩ => ?_
      subst er
      refine thnF q6 fun _ s7 q7 => thnF q7 fun _ s8 q8 => wpAny_pure ?_
      rw [if_pos rfl]
      exact thnF q8 fun kv s9 q9 => thnF q9 fun vv s10 q10 => thnF q10 fun _ s11 ⟨H6, I6, st6, n6, w6⟩ => ⟨left, Nat.lt_succ_self left, i + 1, H6, by omega, I6, st6, n6, w6⟩
  have all := codeAny_compStart_dict loop (T.self X.A 0 _ _ _ st4 loop)
  subst e4 ece e3 eD
  exact all
end
end V4

set_option maxHeartbeats 4000000
/-! V4i: a lambda as a value. -/
namespace V4
open PySem PySem.Spec PyProof.Rows L2 V1 V2 V3 LamX
def tLamV (ts : List (Addr × Str)) : TE := fun _ H Q => Tabs ts H ∧ ∀ H1 f, ExtN H H1 → Tabs ts H1 → H1 f = none → Q (.ref f) H1
theorem pe_lamV {X : Cx} {ts : List (Addr × Str)} {c P : Addr} {params : Arguments} {body : Expr} {scope : Scope} {pos : Pos} (TB : TabB X.base X.mg c P) (code : X.env.code = .ref c) (mem : (P, X.env.qual ++ "<lambda>") ∈ ts)
    (uniq : ∀ p ∈ ts, p.1 = P → p.2 = X.env.qual ++ "<lambda>") (fr : ∀ y ∈ scope.names, y.2 = .free → X.env.scope.names.lookup y.1 = some .cell ∨ X.env.scope.names.lookup y.1 = some .free) (dfl : defaultsOf params X.env = ([], []) := by rfl) : PE X (.Lambda params body scope pos) (tLamV ts) :=
  ⟨fun pins s σ H Q I ⟨hT, h⟩ => lam_make2 I TB code mem uniq hT dfl (fun y hy e => (fr y hy e).elim (fun z => I.ok.has _ (.inl z)) fun z => I.ok.has _ (.inr z)) fun f c' pm ctv H1 s1 I1 eN T1 hf new off co => ⟨.ref f, H1, I1, rfl, h H1 f eN T1 new⟩⟩
end V4

set_option maxHeartbeats 4000000
/-! V4l: o.m(..) within try: what it lets out by the slots. -/
namespace V4
open PySem PySem.Spec PyProof.Rows L2 V1 V2 V3
def tMethE (C : Addr) (m : Str) (sp : Sp) (E : L2.St → XK) (ta : TE) (t : TA) : TE := fun σ H Q => tMeth C m sp [] (E σ) ta t σ H Q
theorem pe_methE {X : Cx} {CX : CXT} {k : Nat} {C f : Addr} {m : Str} {fd : FuncData} {ps : List Str} {sp : Sp} {E : L2.St → XK} {o e : Expr} {es : List Expr} {ta : TE} {t : TA} {apos pos : Pos} {pl : Sem Bool} (he : PE X o ta) (c : Cls X.K C) (hm : Meth X.K C m f)
    (F : FnOk X.prog X.w X.K X.mg X.base CX k f fd ps sp) (hr : Room k X.A) (hb : Binds X.K fd ps []) (hx : ∀ σ, PassesAt CX X σ (E σ)) (ha : PA X (e :: es) t)
    (st : starEach (e :: es) X.env = (false, eval e X.env) :: starEach es X.env := by rfl) (pn : (backTo pos (starEach es X.env)).any (·.1) = false := by rfl)
    (ev : eval (.Call (.Attribute o m apos) (e :: es) [] pos) X.env = (do let ov ← eval o X.env; standAt apos.atName; let (g, first) ← holding [ov] (getMethod ov m pl); callWith pos g first (backTo pos (starEach (e :: es) X.env)) (backToKw pos (keywordEach [] X.env))) := by rfl) :
    PE X (.Call (.Attribute o m apos) (e :: es) [] pos) (tMethE C m sp E ta t) := by
  constructor
  intro pins s σ H Q I h
  refine PySem.W.methodCall_KW (pl := pl) (thn (he.run pins s σ H _ I h) fun u s1 hh => ?_) ev
  obtain ⟨x, H1, J, rx, a, dx, fs, rfl, ea, l, q⟩ := hh
  cases rx
  refine getmeth_ok J ea c hm l (PySem.W.callWith_K (first := [.ref a]) (h₀ := X.base) I.ok.mod.kin hm.kp (thn (ha.run pos pins s1 σ H1 _ J q) fun us s2 gg => ?_) st pn)
  obtain ⟨vs, H2, J2, r, q2⟩ := gg
  rw [List.append_nil] at q2
  exact ⟨J2.kIn, run_fnS (us := .ref a :: us) (vs := .ref a :: vs) F hr hb (hx σ) J2 (.cons rfl r) q2⟩
end V4

set_option maxHeartbeats 4000000
/-! V4m: lists of data that are cut and put together, and tuples made of them. -/
namespace V4
open PySem PySem.Spec PyProof.Rows L2 V1 V2 V3
open Evl (sq_of st_of)
section
variable [CurK] {σ : L2.St} {H0 : Hp} {a : Addr} {ds es : List PyData} {te t1 t2 : TE}
/-- a list of these data comes -/
def MkL (H0 : Hp) (a : Addr) (te : TE) (σ : L2.St) (ds : List PyData) : Prop := ∀ H, Same H0 H → ∀ Q : VK, (∀ p xs H', Same H H' → p ≠ a → H' p = some (.lst xs) → DxAll (delH H' a) xs ds → Q (.ref p) H') → te σ H Q
theorem held_ne {H : Hp} {p : Addr} (ha : Held H a) (n : H p = none) : p ≠ a := fun z => by
  obtain ⟨o, e⟩ := ha
  rw [z, e] at n
  cases n
theorem mkl_var {i : Nat} {p : Addr} {xs : List V} (na : p ≠ a) (e : H0 p = some (.lst xs)) (r : DxAll (delH H0 a) xs ds) (hv : σ[i]? = some (some (.ref p))) : MkL H0 a (tVar i) σ ds := fun H s Q k =>
  ⟨_, hv, k p xs H (Same.refl H) na (s _ _ e) (DxAll.same (same_del s) _ _ r)⟩
theorem mkl_of (h : MkY H0 a te σ (.list ds)) : MkL H0 a te σ ds := fun H s Q k => h H s _ fun v H1 s1 q1 => by
  obtain ⟨p, xs, rfl, e, r⟩ : ∃ p xs, v = .ref p ∧ delH H1 a p = some (.lst xs) ∧ DxAll (delH H1 a) xs ds := by
    cases q1 with
    | lst e low r => exact ⟨_, _, rfl, e, r⟩
  have ne : p ≠ a := fun z => by
    rw [z, delH_same] at e
    cases e
  exact k p xs H1 s1 ne (by rw [delH_ne ne] at e; exact e) r
theorem mkl_cut {tl th : TO} {lo hi : Option Int} (ha : Held H0 a) (h1 : MkL H0 a t1 σ ds) (hl : ∀ (H : Hp) (Q : Option Int → Hp → Prop), Q lo H → tl σ H Q) (hh : ∀ (H : Hp) (Q : Option Int → Hp → Prop), Q hi H → th σ H Q) :
    MkL H0 a (tSl (rSlL K) t1 tl th) σ (cutD ds lo hi) := fun H s Q k =>
  h1 H s _ fun p xs H1 s1 na e1 r1 => hl H1 _ (hh H1 _ ⟨p, xs, rfl, sq_of e1, fun c nc => k c _ _ (s1.trans (same_new nc)) (held_ne ((ha.same s).same s1) nc) upd_same (DxAll.same (same_del (same_new nc)) _ _ (by
    unfold cutV cutD
    rw [dxAll_len r1]
    exact DxAll.take _ (DxAll.drop _ r1)))⟩)
theorem mkl_cat (ha : Held H0 a) (h1 : MkL H0 a t1 σ ds) (h2 : MkL H0 a t2 σ es) (l : ds.length + es.length ≤ 5000) : MkL H0 a (tOp rCat t1 t2) σ (ds ++ es) := fun H s Q k =>
  h1 H s _ fun p xs H1 s1 na e1 r1 => h2 H1 (s.trans s1) _ fun q ys H2 s2 nb e2 r2 => by
    have l1 := dxAll_len r1
    have l2 := dxAll_len r2
    refine ⟨p, q, xs, ys, rfl, rfl, s2 _ _ e1, e2, by rw [sizeLine_eq]; omega, fun c nc => ?_⟩
    exact k c _ _ ((s1.trans s2).trans (same_new nc)) (held_ne (ha.same (s.trans (s1.trans s2))) nc) upd_same (DxAll.same (same_del (same_new nc)) _ _ (DxAll.app (DxAll.same (same_del s2) _ _ r1) r2))
/-- tuple(xs) of a list -/
theorem mky_tupof (ha : Held H0 a) (h1 : MkL H0 a t1 σ ds) : MkY H0 a (tCB (fun xs H Q => ∃ p ys, xs = [.ref p] ∧ ((SqL K H p ys ∧ ∀ l, H l = none → Q (.ref l) (upd H l (.tup ys))) ∨ (SqT K H p ys ∧ Q (.ref p) H))) (tCons t1 tNil)) σ (.tuple ds) := fun H s Q k =>
  h1 H s _ fun p xs H1 s1 na e1 r1 => ⟨p, xs, rfl, .inl ⟨sq_of e1, fun c nc => k _ _ (s1.trans (same_new nc)) (.tup (((ha.same s).same s1).off nc upd_same) (DxAll.same (same_del (same_new nc)) _ _ r1))⟩⟩
/-- xs[i], there -/
theorem mky_ixL {ti : TE} {n : Nat} (h1 : MkL H0 a t1 σ ds) (hi : ∀ (H : Hp) (Q : VK), Q (.int ((n : Nat) : Int)) H → ti σ H Q) (hn : n < ds.length) : MkY H0 a (tOp (rIxL K) t1 ti) σ ds[n] := fun H s Q k =>
  h1 H s _ fun p xs H1 s1 na e1 r1 => by
    have lx := dxAll_len r1
    have hx : xs[n]? = some (xs[n]'(by omega)) := List.getElem?_eq_getElem (by omega)
    exact hi _ _ ⟨p, xs, _, xs[n]'(by omega), rfl, rfl, sq_of e1, atI_nat hx, k _ H1 s1 (DxAll.at r1 hx (List.getElem?_eq_getElem hn))⟩
end
end V4

set_option maxHeartbeats 4000000
/-! V4n: tuples of texts, compared within a sort, whatever kind the sort takes them for. -/
namespace V4
open PySem PySem.Spec PyProof.Rows L2 V1 V2 V3
/-- a tuple of these texts stands there -/
def TxT (h : Heap) (v : Value) (r : List Str) : Prop := ∃ a us, v = .ref a ∧ h.IsTuple a us.toArray ∧ Vals (r.map V.str) us
section
variable {A : Around} {s : Shared} {a b : Addr} {us ws : List Value} {r q : List Str} {prog : Program} {w : World}
theorem eq_at (r1 : Vals (r.map V.str) us) (r2 : Vals (q.map V.str) ws) : ∀ j (h1 : j < us.toArray.size) (h2 : j < ws.toArray.size), SeqAt.EqAt A s us.toArray[j] ws.toArray[j] (r.getD j Str.empty == q.getD j Str.empty) := fun j g1 g2 => by
  obtain ⟨t, z1⟩ := texts_at r1 j g1
  obtain ⟨t', z2⟩ := texts_at r2 j g2
  rw [z1, z2]
  exact SeqAt.EqAt.str_str _ _ _ _
theorem lt_at (r1 : Vals (r.map V.str) us) (r2 : Vals (q.map V.str) ws) : ∀ j (h1 : j < us.toArray.size) (h2 : j < ws.toArray.size), (r.getD j Str.empty == q.getD j Str.empty) = false → Ob.RcOp .Lt A s us.toArray[j] ws.toArray[j] (txLt (r.getD j Str.empty) (q.getD j Str.empty)) := fun j g1 g2 _ => by
  obtain ⟨t, z1⟩ := texts_at r1 j g1
  obtain ⟨t', z2⟩ := texts_at r2 j g2
  rw [z1, z2]
  exact fun P w E Q k => PyProof.Rows.lt_str k
theorem lex_rows (r1 : Vals (r.map V.str) us) (r2 : Vals (q.map V.str) ws) : Ob.lexAt (fun j => r.getD j Str.empty == q.getD j Str.empty) (fun j => txLt (r.getD j Str.empty) (q.getD j Str.empty)) (decide (us.toArray.size < ws.toArray.size)) 0 (min us.toArray.size ws.toArray.size) = rowLt r q := by
  have l1 : us.toArray.size = r.length := by rw [List.size_toArray, ← r1.length, List.length_map]
  have l2 : ws.toArray.size = q.length := by rw [List.size_toArray, ← r2.length, List.length_map]
  have key := lex_row txLt (fun a b => decide (a < b)) rowLt (fun a b => by simp) (fun ys => by cases ys <;> simp [rowLt]) (fun x xs => by simp [rowLt]) (fun _ _ _ _ => rfl) [] [] r q rfl
  simp only [List.nil_append, List.length_nil] at key
  rw [l1, l2]
  exact key
/-- taken for things of any kinds -/
theorem lt_general {v u : Value} {Q : Bool → Shared → Prop} {E : Value → Shared → Prop} (h1 : TxT s.heap v r) (h2 : TxT s.heap u q) (room : A.units < cLine) (h : Q (rowLt r q) s) : wpAny (model prog w) A (keyLt' general' v u) Q E s := by
  obtain ⟨a, us, rfl, p1, r1⟩ := h1
  obtain ⟨b, ws, rfl, p2, r2⟩ := h2
  have cmp := Ob.RcOp.tuples_lt (A := A) (s := s) p1 p2 room (eq_at r1 r2) (lt_at r1 r2)
  rw [lex_rows r1 r2] at cmp
  exact PySem.W.kat_one _ _ (cmp prog w E (PySem.W.BoolBack Q) h)
/-- taken for things of one kind -/
theorem lt_one {v u : Value} {Q : Bool → Shared → Prop} {E : Value → Shared → Prop} (h1 : TxT s.heap v r) (h2 : TxT s.heap u q) (room : A.units + 1 < cLine) (h : Q (rowLt r q) s) : wpAny (model prog w) A (keyLt' oneType' v u) Q E s := by
  obtain ⟨a, us, rfl, p1, r1⟩ := h1
  obtain ⟨b, ws, rfl, p2, r2⟩ := h2
  obtain ⟨⟨cls, dd, data, sl⟩, ho, hc, n, hd⟩ := id p1
  obtain ⟨⟨cls2, dd2, data2, sl2⟩, ho2, hc2, n2, hd2⟩ := id p2
  simp only at hc hd hc2 hd2
  subst hc hd hc2 hd2
  rw [keyLt'_oneType, oneLt'_eq]
  simp only [if_true]
  refine wpAny_bind (wpAny_cRoomFor (Nat.lt_of_succ_lt room) ?_)
  refine wpAny_bind (wpAny_callSpecialIfBound?_slot (T := "tuple") ⟨_, ho, rfl⟩ PySem.F.slot_tuple_lt (call_meets PySem.F.slot_tuple_lt ⟨_, ho, rfl⟩ PySem.F.entry_tuple_lt (PySem.F.args_tuple_lt_2 _ _) (Ob.tuple_ltAt a b us.toArray ws.toArray n n2 dd dd2 sl sl2 _ _) ⟨ho, ho2, eq_at r1 r2, lt_at r1 r2, ?_⟩))
  rw [lex_rows r1 r2]
  exact wpAny_truthy_bool h
/-- which comes first, what the lengths give being f -/
def gl : List Str → List Str → Bool → Bool
  | x :: r, y :: q, f => if (x == y) = true then gl r q f else txLt x y
  | _, _, f => f
theorem gl_len : ∀ r q : List Str, gl r q (decide (r.length < q.length)) = rowLt r q
  | [], [] => rfl
  | [], _ :: _ => rfl
  | _ :: _, [] => rfl
  | x :: r, y :: q => by
    show (if (x == y) = true then gl r q (decide (r.length + 1 < q.length + 1)) else txLt x y) = if (x == y) = true then rowLt r q else txLt x y
    rw [show decide (r.length + 1 < q.length + 1) = decide (r.length < q.length) from decide_eq_decide.mpr (by omega), gl_len r q]
theorem lex_go {k fin : Bool} {Q : Bool → Shared → Prop} : ∀ {r q : List Str} {us ws : List Value} (i : Nat), Vals (r.map V.str) us → Vals (q.map V.str) ws → Q (gl r q fin) s → PySem.W.KatLex prog w A k fin Q (us.zip ws) i s
  | [], _, _, _, i, .nil, _, h => h
  | _ :: _, [], _, _, i, .cons _ _, .nil, h => h
  | x :: r, y :: q, u :: us, v :: ws, i, .cons a1 r1, .cons a2 r2, h => by
    obtain ⟨t, rfl⟩ := a1
    obtain ⟨t', rfl⟩ := a2
    refine PySem.W.kat_cons (SeqAt.EqAt.str_str x t y t' prog w (fun _ _ => False) _ ?_)
    have h' : Q (if (x == y) = true then gl r q fin else txLt x y) s := h
    refine PySem.W.kat_go (fun e => PySem.W.kat_yes ?_) (fun e => PySem.W.kat_no ?_)
    · rw [if_pos e] at h'
      exact lex_go (i + 1) r1 r2 h'
    · rw [if_neg (by rw [e]; decide)] at h'
      exact PyProof.Rows.oneLt_any_str h'
/-- taken for tuples -/
theorem lt_tuples {k : Bool} {v u : Value} {Q : Bool → Shared → Prop} {E : Value → Shared → Prop} (h1 : TxT s.heap v r) (h2 : TxT s.heap u q) (h : Q (rowLt r q) s) : wpAny (model prog w) A (keyLt' (tuples' k) v u) Q E s := by
  obtain ⟨a, us, rfl, p1, r1⟩ := h1
  obtain ⟨b, ws, rfl, p2, r2⟩ := h2
  obtain ⟨o1, e1, c1, n1, d1⟩ := p1
  obtain ⟨o2, e2, c2, n2, d2⟩ := p2
  refine PySem.W.kat_lt e1 d1 e2 d2 (lex_go 0 r1 r2 ?_)
  have l1 : us.toArray.size = r.length := by rw [List.size_toArray, ← r1.length, List.length_map]
  have l2 : ws.toArray.size = q.length := by rw [List.size_toArray, ← r2.length, List.length_map]
  rw [l1, l2, gl_len]
  exact h
end
section
variable {M : Model} {A : Around} {s : Shared} {prog : Program} {w : World}
theorem firsts_go : ∀ vs : List Value, (∀ v ∈ vs, ∃ r, TxT s.heap v r) → ∃ fs : List (Option Value), fs.length = vs.length ∧ (∀ f ∈ fs, f = none ∨ ∃ x t, f = some (.str x t)) ∧ ∀ (E : Value → Shared → Prop) (Q : List (Option Value) → Shared → Prop), Q fs s → wpAny M A (vs.mapM firstOfTuple') Q E s
  | [], _ => ⟨[], rfl, fun _ h => absurd h List.not_mem_nil, fun E Q h => by rw [List.mapM_nil]; exact wpAny_pure h⟩
  | v :: vs, hv => by
    obtain ⟨r, a, us, rfl, p, rv⟩ := hv v List.mem_cons_self
    obtain ⟨fs, ln, ok, go⟩ := firsts_go vs fun v h => hv v (List.mem_cons_of_mem _ h)
    obtain ⟨o, eo, co, n, dn⟩ := p
    refine ⟨us.toArray[0]? :: fs, by rw [List.length_cons, ln, List.length_cons], fun f hf => ?_, fun E Q h => ?_⟩
    · rcases List.mem_cons.mp hf with rfl | hf
      · cases r with
        | nil => cases rv; exact .inl rfl
        | cons x r =>
          cases rv with | cons a1 _ =>
          obtain ⟨t, rfl⟩ := a1
          exact .inr ⟨x, t, rfl⟩
      · exact ok f hf
    · rw [List.mapM_cons]
      refine wpAny_bind ?_
      rw [PySem.W.kas_first_eq]
      refine wpAny_bind (PySem.W.Looks.here (show PySem.W.Looks M s.heap (typeOf (.ref a)) o.cls from (PySem.W.Looks.ld eo).andThen .now) ?_)
      rw [co, if_neg (by first | decide | simp)]
      refine wpAny_bind (listItems_at eo dn (wpAny_pure ?_))
      exact wpAny_bind (go E (fun bs s' => wpAny M A (pure (us.toArray[0]? :: bs)) Q E s') (wpAny_pure h))
theorem somes : ∀ {fs : List (Option Value)}, (∀ f ∈ fs, f = none ∨ ∃ x t, f = some (.str x t)) → (∀ f ∈ fs, f.isSome = true) → ∃ gs : List Value, fs = gs.map some ∧ ∀ g ∈ gs, ∃ x t, g = .str x t
  | [], _, _ => ⟨[], rfl, fun _ h => absurd h List.not_mem_nil⟩
  | f :: fs, h, k => by
    obtain ⟨gs, rfl, hg⟩ := somes (fs := fs) (fun f hf => h f (List.mem_cons_of_mem _ hf)) fun f hf => k f (List.mem_cons_of_mem _ hf)
    rcases h f List.mem_cons_self with rfl | ⟨x, t, rfl⟩
    · exact absurd (k none List.mem_cons_self) (by decide)
    · exact ⟨.str x t :: gs, rfl, fun g hg' => (List.mem_cons.mp hg').elim (fun e => ⟨x, t, e⟩) (hg g)⟩
theorem kinds {vs : List Value} (ne : 0 < vs.length) (hv : ∀ v ∈ vs, ∃ r, TxT s.heap v r) : ∃ κ, (κ = tuples' true ∨ κ = general' ∨ κ = oneType') ∧ ∀ (Q : SortKind → Shared → Prop) (E : Value → Shared → Prop), Q κ s → wpAny M A (keyKind' vs.toArray) Q E s := by
  obtain ⟨fs, ln, ok, go⟩ := firsts_go (M := M) (A := A) vs hv
  by_cases all : ∀ f ∈ fs, f.isSome = true
  · obtain ⟨gs, rfl, hg⟩ := somes ok all
    rw [List.length_map] at ln
    refine ⟨tuples' true, .inl rfl, fun Q E h => ?_⟩
    rw [kat_kind_eq, List.mapM_toArray, map_eq_pure_bind]
    refine wpAny_bind (wpAny_bind (go E _ (wpAny_pure ?_)))
    have c1 : ((gs.map some).toArray.all fun x => x.isSome) = true := by simp
    rw [if_pos c1]
    refine wpAny_bind (wpAny_rule ?_)
    have c2 : ((gs.map some).toArray.filterMap id) = gs.toArray := by simp
    rw [c2, oneTypeOnly'_eq, List.mapM_toArray, map_eq_pure_bind]
    refine wpAny_bind (wpAny_bind (wpAny_bind (PySem.W.kas_mapM (r := Value.type "str") _ (fun v m Q' hq => ?_) (wpAny_pure ?_))))
    · obtain ⟨x, t, rfl⟩ := hg v m
      exact (PySem.W.Looks.of_pure (h := s.heap) (M := M) rfl : PySem.W.Looks M s.heap (typeOf (.str x t)) (.type "str")).here hq
    · have c3 : ((gs.map fun _ => Value.type "str").toArray.all fun x => x == Value.type "str") = true := by
        simp only [List.all_toArray, List.all_map, List.all_eq_true]
        intro _ _
        rfl
      have c4 : (gs.map fun _ => Value.type "str").toArray[0]? = some (.type "str") := by
        obtain ⟨g, gr, rfl⟩ : ∃ g gr, gs = g :: gr := by
          match gs, ln with
          | [], ln => simp at ln; omega
          | g :: gr, _ => exact ⟨g, gr, rfl⟩
        simp
      rw [c4]
      simp only [c3, if_true]
      have c5 : (some (Value.type "str")).any (fun x => x != Value.type "tuple") = true := by first | rfl | decide | simp
      refine wpAny_pure (wpAny_pure ?_)
      rw [c5]
      exact h
  · have c1 : ¬ (fs.toArray.all fun x => x.isSome) = true := by
      simpa using all
    by_cases first : (fs.toArray[0]?.bind id).isSome = true
    · refine ⟨general', .inr (.inl rfl), fun Q E h => ?_⟩
      rw [kat_kind_eq, List.mapM_toArray, map_eq_pure_bind]
      refine wpAny_bind (wpAny_bind (go E _ (wpAny_pure ?_)))
      rw [if_neg c1, if_pos first]
      exact wpAny_pure h
    · refine ⟨oneType', .inr (.inr rfl), fun Q E h => ?_⟩
      rw [kat_kind_eq, List.mapM_toArray, map_eq_pure_bind]
      refine wpAny_bind (wpAny_bind (go E _ (wpAny_pure ?_)))
      rw [if_neg c1, if_neg first]
      rw [oneTypeOnly'_eq, List.mapM_toArray, map_eq_pure_bind]
      refine wpAny_bind (wpAny_bind (wpAny_bind (PySem.W.kas_mapM (r := Value.type "tuple") _ (fun v m Q' hq => ?_) (wpAny_pure ?_))))
      · obtain ⟨r, a, us, rfl, p, rv⟩ := hv v m
        obtain ⟨o, eo, co, n, dn⟩ := p
        have lk : PySem.W.Looks M s.heap (typeOf (.ref a)) o.cls := (PySem.W.Looks.ld eo).andThen .now
        rw [co] at lk
        exact lk.here hq
      · have c3 : ((vs.map fun _ => Value.type "tuple").toArray.all fun x => x == Value.type "tuple") = true := by
          simp only [List.all_toArray, List.all_map, List.all_eq_true]
          intro _ _
          rfl
        have c4 : (vs.map fun _ => Value.type "tuple").toArray[0]? = some (.type "tuple") := by
          obtain ⟨g, gr, rfl⟩ : ∃ g gr, vs = g :: gr := by
            match vs, ne with
            | g :: gr, _ => exact ⟨g, gr, rfl⟩
          simp
        rw [c4]
        simp only [c3, if_true]
        exact wpAny_pure (wpAny_pure h)
end
end V4

set_option maxHeartbeats 4000000
namespace V2
open PySem PySem.Spec PyProof.Rows L2 V1
def fromTo (lo hi : Int) : PyData → Bool
  | .int n => decide (lo ≤ n) && decide (n ≤ hi)
  | _ => false
def tupOf (lo hi : Int) : PyData → Bool
  | .tuple xs => decide (lo ≤ (xs.length : Int)) && decide ((xs.length : Int) ≤ hi)
  | _ => false
theorem fromTo_int {lo hi : Int} {d : PyData} (h : fromTo lo hi d = true) : ∃ n, d = .int n ∧ lo ≤ n ∧ n ≤ hi := by
  cases d with
  | int n =>
    have z : decide (lo ≤ n) = true ∧ decide (n ≤ hi) = true := by simpa [fromTo] using h
    exact ⟨n, rfl, of_decide_eq_true z.1, of_decide_eq_true z.2⟩
  | _ => cases h
theorem tupOf_tup {lo hi : Int} {d : PyData} (h : tupOf lo hi d = true) : ∃ xs, d = .tuple xs ∧ lo ≤ (xs.length : Int) ∧ (xs.length : Int) ≤ hi := by
  cases d with
  | tuple xs =>
    have z : decide (lo ≤ (xs.length : Int)) = true ∧ decide ((xs.length : Int) ≤ hi) = true := by simpa [tupOf] using h
    exact ⟨xs, rfl, of_decide_eq_true z.1, of_decide_eq_true z.2⟩
  | _ => cases h
theorem isInt_int {d : PyData} (h : isInt d = true) : ∃ n, d = .int n := by
  cases d with
  | int n => exact ⟨n, rfl⟩
  | _ => cases h
theorem isTup_tup {d : PyData} (h : isTup d = true) : ∃ n, d = .tuple n := by
  cases d with
  | tuple n => exact ⟨n, rfl⟩
  | _ => cases h
theorem Dq.int_inv {H : Hp} {v : V} {n : Int} (h : Dq H v (.int n)) : v = .int n := by
  cases h
  rfl
theorem Dq.tup_inv {H : Hp} {v : V} {ds : List PyData} (h : Dq H v (.tuple ds)) : ∃ a vs, v = .ref a ∧ H a = some (.tup vs) ∧ DqAll H vs ds := by
  cases h with
  | tup e r => exact ⟨_, _, rfl, e, r⟩
end V2
namespace K01
open PySem PySem.Spec PyProof.Rows L2 V1 V2 V3
open Evl (pss_cut tCut sq_of st_of)
abbrev K [k : CurK] : PySem.W.Frag := k.K
section
variable [CurK]
def spTupOf : Sp := fun vs H Q _ => ∃ v d lo hi, vs = [v, .int lo, .int hi] ∧ Dx H v d ∧ Q (.bl (tupOf lo hi d)) H
theorem scTupOf : FnScope ["thing", "least", "most"] ["thing", "least", "most"] (defScope s_is_tuple_of) := ⟨rfl, rfl, rfl, by decide +kernel, rfl, by decide +kernel, by decide +kernel⟩
end
section
variable [CurK] {P : Program} {w : World} {mg : Str → Option Value} {base : Heap}
theorem ok_tupOf (T : Tx K mg) : Has P w K mg base CX0 1 "is_tuple_of" ["thing", "least", "most"] spTupOf := by
  obtain ⟨fd, F⟩ := T.c.def_ 0 (d := d_is_tuple_of) rfl
  refine ⟨fd, F.ok scTupOf (fun vs H Q E h => ?_) (fun cdv A outer s H vs Q E hr h => ?_), FunD.bindsN F fun _ _ _ _ _ _ us hl => match us, hl with | [_, _, _], _ => rfl, F.kp, (T.glo 2 rfl)⟩
  · obtain ⟨v, d, lo, hi, rfl, _⟩ := h
    rfl
  · refine ⟨_, PSs.nox (pss_one (ps_ret (pe_and (pe_callB call_isi (by rfl) (T.free 56 rfl) (by decide +kernel) (pa_cons (pv 0) (pa_cons (pe_bltn (v := .ty "tuple") (by rfl) (T.free 62 rfl) (by decide +kernel) rfl) pa_nil))) (pe_one (pe_chain op_le op_le (pv 1) (pe_callB call_len (by rfl) (T.free 57 rfl) PySem.boot_len (pa_cons (pv 0) pa_nil)) (pv 2)))))), ?_⟩
    obtain ⟨v, d, lo, hi, rfl, hd, hQ⟩ := h
    refine isx_go (kx_tup d) (fun Q q => ⟨v, rfl, q⟩) hd ⟨_, rfl, ite2 (fun e => ?_) (fun e => ?_)⟩
    · obtain ⟨xs, rfl⟩ := isTup_tup e
      obtain ⟨a, vs, rfl, hv, hr⟩ := Dx.tup_inv hd
      have len := dxAll_len hr
      refine ⟨_, rfl, _, rfl, _, _, rfl, .inr ⟨vs, st_of hv, rfl⟩, lo, _, rfl, rfl, _, rfl, ite2 (fun e1 => ?_) (fun e1 => ?_)⟩
      · refine ⟨_, rfl, _, hi, rfl, rfl, ?_⟩
        rw [len] at e1 ⊢
        have z : tupOf lo hi (.tuple xs) = decide ((xs.length : Int) ≤ hi) := by
          show (decide (lo ≤ (xs.length : Int)) && _) = _
          rw [e1, Bool.true_and]
        rw [z] at hQ
        exact hQ
      · rw [len] at e1
        have z : tupOf lo hi (.tuple xs) = false := by
          show (decide (lo ≤ (xs.length : Int)) && _) = _
          rw [Bool.eq_false_iff.mpr e1, Bool.false_and]
        rw [z] at hQ
        exact hQ
    · cases d <;> first | exact hQ | exact absurd rfl e
end
/-- a word: of at most 40 signs, from the blank to the tilde -/
def wordX (x : Str) : Bool := decide (x.length ≤ 40) && (Txt.isascii x && Txt.isprintable x)
def wordD : PyData → Bool
  | .str x => wordX x
  | _ => false
def rowD : PyData → Bool
  | .tuple ds => decide (ds.length ≤ 400) && ds.all wordD
  | _ => false
section
variable [CurK]
/-- texts of this shape are short enough to be asked for their length -/
def shortD : PyData → Prop
  | .str x => x.length ≤ 10000
  | _ => True
def spWord : Sp := fun vs H Q _ => ∃ v d, vs = [v] ∧ Dx H v d ∧ shortD d ∧ Q (.bl (wordD d)) H
def spRow : Sp := fun vs H Q _ => ∃ v d, vs = [v] ∧ Dx H v d ∧ (∀ ds, d = .tuple ds → ∀ x ∈ ds, shortD x) ∧ ∀ H', Same H H' → Q (.bl (rowD d)) H'
end
theorem scWord : FnScope ["thing"] ["thing"] (defScope s_is_word) := ⟨rfl, rfl, rfl, by decide +kernel, rfl, by decide +kernel, by decide +kernel⟩
theorem scRow : FnScope ["thing", "word"] ["thing"] (defScope s_is_row) := ⟨rfl, rfl, rfl, by decide +kernel, rfl, by decide +kernel, by decide +kernel⟩
section
variable [CurK] {P : Program} {w : World} {mg : Str → Option Value} {base : Heap}
theorem ok_word (T : Tx K mg) : Has P w K mg base CX0 1 "is_word" ["thing"] spWord := by
  obtain ⟨fd, F⟩ := T.c.def_ 1 (d := d_is_word) rfl
  obtain ⟨tMS, gMS⟩ := (T.int 0 rfl)
  refine ⟨fd, F.ok scWord (fun vs H Q E h => ?_) (fun cdv A outer s H vs Q E hr h => ?_), FunD.bindsN F fun _ _ _ _ _ _ us hl => match us, hl with | [_], _ => rfl, F.kp, (T.glo 3 rfl)⟩
  · obtain ⟨v, d, rfl, _⟩ := h
    rfl
  · refine ⟨_, PSs.nox (pss_one (ps_ret (pe_and (pe_callB call_isi (by rfl) (T.free 56 rfl) (by decide +kernel) (pa_cons (pv 0) (pa_cons (pe_bltn (v := .ty "str") (by rfl) (T.free 61 rfl) (by decide +kernel) rfl) pa_nil))) (pe_and (pe_cmpR op_le (pe_callB call_len (by rfl) (T.free 57 rfl) PySem.boot_len (pa_cons (pv 0) pa_nil)) (pe_glob (v := .int 40) (by rfl) gMS ⟨_, rfl⟩) (nomark _)) (pe_and (pe_m0 PySem.F.slot_str_isascii PySem.F.type_str_isascii mt_isascii (pv 0)) (pe_one (pe_m0 PySem.F.slot_str_isprintable PySem.F.type_str_isprintable mt_isprintable (pv 0)))))))), ?_⟩
    obtain ⟨v, d, rfl, hd, hs, hQ⟩ := h
    refine isx_go (kx_str d) (fun Q q => ⟨v, rfl, q⟩) hd ⟨_, rfl, ite2 (fun e => ?_) (fun e => ?_)⟩
    · cases d with
      | str x =>
        obtain rfl := Dx.str_inv hd
        have hs' : x.length ≤ 10000 := hs
        refine ⟨_, rfl, _, _, rfl, (show LenV K (.str x) H x.length from ⟨Nat.le_trans hs' (by decide), rfl⟩), _, _, rfl, rfl, _, rfl, ite2 (fun e1 => ?_) (fun e1 => ?_)⟩
        · have l1 : decide (x.length ≤ 40) = true := by
            have z := of_decide_eq_true e1
            exact decide_eq_true (by omega)
          have wx : wordD (.str x) = (Txt.isascii x && Txt.isprintable x) := by
            show (decide (x.length ≤ 40) && _) = _
            rw [l1, Bool.true_and]
          rw [wx] at hQ
          refine ⟨_, rfl, ⟨_, rfl⟩, x, rfl, rfl, trivial, _, rfl, ite2 (fun e2 => ?_) (fun e2 => ?_)⟩
          · rw [e2, Bool.true_and] at hQ
            exact ⟨_, rfl, ⟨_, rfl⟩, x, rfl, rfl, trivial, hQ⟩
          · rw [Bool.eq_false_iff.mpr e2, Bool.false_and] at hQ
            exact hQ
        · have l1 : decide (x.length ≤ 40) = false := by
            refine decide_eq_false fun z => e1 (decide_eq_true ?_)
            omega
          have wx : wordD (.str x) = false := by
            show (decide (x.length ≤ 40) && _) = _
            rw [l1, Bool.false_and]
          rw [wx] at hQ
          exact hQ
      | _ => cases e
    · cases d <;> first | exact hQ | exact absurd rfl e
theorem ok_row (T : Tx K mg) : Has P w K mg base CX0 2 "is_row" ["thing"] spRow := by
  obtain ⟨fd, F⟩ := T.c.def_ 2 (d := d_is_row) rfl
  have Ht := ok_tupOf (P := P) (w := w) (base := base) T
  have Hw := ok_word (P := P) (w := w) (base := base) T
  obtain ⟨tMW, gMW⟩ := (T.int 1 rfl)
  refine ⟨fd, F.ok scRow (fun vs H Q E h => ?_) (fun cdv A outer s H vs Q E hr h => ?_), FunD.bindsN F fun _ _ _ _ _ _ us hl => match us, hl with | [_], _ => rfl, F.kp, (T.glo 4 rfl)⟩
  · obtain ⟨v, d, rfl, _⟩ := h
    rfl
  · refine ⟨_, PSs.nox (pss_one (ps_ret (pe_and (pe_has Ht (hr.mono (by decide)) pass0 (pa_cons (pv 0) (pa_cons pe_int (pa_cons (pe_glob (v := .int 400) (by rfl) gMW ⟨_, rfl⟩) pa_nil)))) (pe_one (pe_callB (cr_all rfl) (by rfl) (T.free 51 rfl) (by decide +kernel) (pa_cons (pe_lc (own := [("word", 1)]) (g := gName 1) (tt := tYes) (te := tCall spWord [] (fun _ _ _ => False) (tCons (tVar 1) tNil)) (by rfl) scRow.nd (pi_tup (pv 0))
 (blkOk_by (own := [("word", 1)]) (N := ["thing", "word"]) (sc := defScope s_is_row) (by decide +kernel)) (fun _ _ _ _ _ => pg_name (i := 1) scRow.nd rfl (Or.inl rfl)) (fun _ _ _ _ _ => pts_nil) (fun _ _ _ _ _ => (pe_has Hw (hr.mono (by decide)) pass0 (pa_cons (pv 1) pa_nil)))) pa_nil)))))), ?_⟩
    obtain ⟨v, d, rfl, hd, hs, hQ⟩ := h
    refine ⟨v, rfl, v, d, 0, 400, rfl, hd, _, rfl, ite2 (fun e => ?_) (fun e => ?_)⟩
    · obtain ⟨ds, rfl, _, l2⟩ := tupOf_tup e
      have l4 : ds.length ≤ 400 := by omega
      obtain ⟨a, us, rfl, ha, hr'⟩ := Dx.tup_inv hd
      have lu := dxAll_len hr'
      refine ⟨_, rfl, a, rfl, ⟨_, st_of ha⟩, fun D nD => ?_⟩
      refine lc_gen (σ := [some (.ref a), none]) (vs := [1]) (walk_tup (K := K) (a := a) (xs := us)) nD (fun i acc H' => Same H H' ∧ acc = (ds.take i).map fun d => V.bl (wordD d)) ⟨Same.refl H, rfl⟩ (fun i acc H' _ z => st_of (same_delH _ _ (z.1 _ _ ha))) ?_ ?_
      · rintro i acc x H1 H2 hi l e2 ⟨sm, rfl⟩ ⟨rfl, hx⟩
        have di : ds[i]? = some ds[i] := List.getElem?_eq_getElem (by omega)
        have sm' : Same H H2 := sm.trans same_delH
        refine ⟨rfl, ?_⟩
        simp only [tYes, if_true]
        refine ⟨_, rfl, x, ds[i], rfl, Dx.same sm' _ _ (DxAll.at hr' hx di), hs ds rfl _ (List.getElem_mem (by omega)), ?_⟩
        exact lc_put l (by omega) e2 ⟨sm, by rw [List.take_succ, di, List.map_append]; rfl⟩
      · rintro acc H2 l e2 ⟨sm, rfl⟩
        rw [lu, List.take_length] at e2
        refine ⟨D, ds.map wordD, rfl, sq_of (by rw [List.map_map]; exact e2), ?_⟩
        have z : rowD (.tuple ds) = (ds.map wordD).all id := by
          show (decide (ds.length ≤ 400) && ds.all wordD) = _
          rw [decide_eq_true l4, Bool.true_and, List.all_map]
          rfl
        rw [← z]
        exact hQ H2 (sm.trans same_delH)
    · have z : rowD d = false := by
        cases d with
        | tuple ds =>
          have n : ¬ ds.length ≤ 400 := fun h => e (by
            show (decide ((0 : Int) ≤ (ds.length : Int)) && decide ((ds.length : Int) ≤ 400)) = true
            rw [decide_eq_true (by omega), decide_eq_true (by omega)]
            rfl)
          show (decide (ds.length ≤ 400) && _) = false
          rw [decide_eq_false n, Bool.false_and]
        | _ => rfl
      have y := hQ H (Same.refl H)
      rw [z] at y
      exact y
end
section
variable {K : PySem.W.Frag} {mg : Str → Option Value}
theorem Tx.exs (T : Tx K mg) : ExK K (He.ga K "TalkError") veB ∧ (∀ x ∈ errs, ExK K (He.ga K x) (.ref (He.ga K "TalkError") :: veB)) ∧ (He.ga K "TalkError" :: errs.map (He.ga K)).Nodup ∧ ClsAttr K := by
  have e := T.ex
  unfold exB1 exB0 at e
  simp only [Bool.and_eq_true, List.all_eq_true, decide_eq_true_eq] at e
  exact ⟨exK_of e.1.1, fun x hx => exK_of (e.1.2.1 x hx), e.1.2.2.1, clsAttr_of e.1.2.2.2⟩
theorem Tx.insK (T : Tx K mg) (i : Nat) {x : Str} (h : plainC[i]? = some x) : InsK K (He.ga K x) := by
  have e := T.ex
  unfold exB1 exI at e
  simp only [Bool.and_eq_true, List.all_eq_true] at e
  exact insK_of (e.2.1 x (List.mem_of_getElem? h))
theorem Tx.kind (T : Tx K mg) (i : Nat) {x : Str} (h : plainC[i]? = some x) : V3.kindB K (He.ga K x) = true := by
  have e := T.ex
  unfold exB1 exK at e
  simp only [Bool.and_eq_true, List.all_eq_true] at e
  exact (e.2.2 x (List.mem_of_getElem? h)).1
/-- two plain classes: neither holds the other's objects -/
theorem Tx.two (T : Tx K mg) (i j : Nat) {x y : Str} (h : plainC[i]? = some x) (h' : plainC[j]? = some y) (ne : (x == y) = false) : PySem.W.kitOne K (.ref (He.ga K x)) (.ref (He.ga K y)) = some false ∧ PySem.W.notFirst K (He.ga K x) (.ref (He.ga K y)) = true := by
  have e := T.ex
  unfold exB1 exK at e
  simp only [Bool.and_eq_true, List.all_eq_true] at e
  have z := (e.2.2 x (List.mem_of_getElem? h)).2 y (List.mem_of_getElem? h')
  rw [ne, Bool.false_or, Bool.and_eq_true, decide_eq_true_eq] at z
  exact z
theorem Tx.one (T : Tx K mg) (i : Nat) {x : Str} (h : errs[i]? = some x) : ExK K (He.ga K x) (.ref (He.ga K "TalkError") :: veB) := T.exs.2.1 x (List.mem_of_getElem? h)
end
theorem Tx.obC [CurK] {mg : Str → Option Value} (T : Tx K mg) (i : Nat) {x : Str} (h : plainC[i]? = some x) (c : Cls K (He.ga K x)) : ObC (He.ga K x) := obC_of ((T.insK i h).ins c T.exs.2.2.2) (T.kind i h)
end K01

set_option maxHeartbeats 4000000
namespace K01
open PySem PySem.Spec PyProof.Rows L2 V1 V2 V3
open Evl (pss_cut tCut sq_of st_of)
/-- a pair of a row and a word -/
def pairD : PyData → Bool
  | .tuple [a, b] => rowD a && wordD b
  | _ => false
/-- texts within, so deep, are short -/
def shortP : PyData → Prop
  | .tuple ds => ∀ d ∈ ds, shortD d ∧ ∀ es, d = .tuple es → ∀ x ∈ es, shortD x
  | _ => True
def spRw [CurK] : Sp := fun vs H Q _ => ∃ v d, vs = [v] ∧ Dx H v d ∧ shortP d ∧ ∀ H', Same H H' → Q (.bl (pairD d)) H'
theorem scRw : FnScope ["thing"] ["thing"] (defScope s_is_row_and_word) := ⟨rfl, rfl, rfl, by decide +kernel, rfl, by decide +kernel, by decide +kernel⟩
section
variable [CurK] {P : Program} {w : World} {mg : Str → Option Value} {base : Heap}
theorem ok_rw (T : Tx K mg) : Has P w K mg base CX0 3 "is_row_and_word" ["thing"] spRw := by
  obtain ⟨fd, F⟩ := T.c.def_ 3 (d := d_is_row_and_word) rfl
  have Ht := ok_tupOf (P := P) (w := w) (base := base) T
  have Hw := ok_word (P := P) (w := w) (base := base) T
  have Hr := ok_row (P := P) (w := w) (base := base) T
  refine ⟨fd, F.ok scRw (fun vs H Q E h => ?_) (fun cdv A outer s H vs Q E hr h => ?_), FunD.bindsN F fun _ _ _ _ _ _ us hl => match us, hl with | [_], _ => rfl, F.kp, (T.glo 10 rfl)⟩
  · obtain ⟨v, d, rfl, _⟩ := h
    rfl
  · refine ⟨_, PSs.nox (pss_one (ps_ret (pe_and (pe_has Ht (hr.mono (by decide)) pass0 (pa_cons (pv 0) (pa_cons pe_int (pa_cons pe_int pa_nil)))) (pe_and (pe_has Hr (hr.mono (by decide)) pass0 (pa_cons (pe_ix ix_tup (pv 0) pe_int (fun _ _ => rfl)) pa_nil)) (pe_one (pe_has Hw (hr.mono (by decide)) pass0 (pa_cons (pe_ix ix_tup (pv 0) pe_int (fun _ _ => rfl)) pa_nil))))))), ?_⟩
    obtain ⟨v, d, rfl, hd, hs, hQ⟩ := h
    refine ⟨v, rfl, v, d, 2, 2, rfl, hd, _, rfl, ?_⟩
    cases e : tupOf 2 2 d with
    | false =>
      have z : pairD d = false := by
        match d, e with
        | .tuple [a, b], e => simp [tupOf] at e
        | .tuple [], _ => rfl
        | .tuple [_], _ => rfl
        | .tuple (_ :: _ :: _ :: _), _ => rfl
        | .none, _ | .bool _, _ | .int _, _ | .str _, _ | .list _, _ | .dict _, _ => rfl
      rw [z] at hQ
      exact iteF (hQ H (Same.refl H))
    | true =>
      obtain ⟨xs, rfl, l1, l2⟩ := tupOf_tup e
      have l3 : xs.length = 2 := by omega
      match xs, l3 with
      | [a, b], _ =>
      obtain ⟨p, vs, rfl, hp, hr'⟩ := Dx.tup_inv hd
      cases hr' with | @cons va _ _ _ qa r1 =>
      cases r1 with | @cons vb _ _ _ qb r2 =>
      cases r2
      have sa := hs a List.mem_cons_self
      have sb := hs b (List.mem_cons_of_mem _ List.mem_cons_self)
      have td : pairD (.tuple [a, b]) = (rowD a && wordD b) := rfl
      rw [td] at hQ
      refine iteT ⟨_, rfl, p, _, 0, va, rfl, rfl, st_of hp, rfl, va, a, rfl, qa, sa.2, fun H1 s1 => ⟨_, rfl, ?_⟩⟩
      cases h1 : rowD a with
      | false =>
        rw [h1, Bool.false_and] at hQ
        exact iteF (hQ H1 s1)
      | true =>
        rw [h1, Bool.true_and] at hQ
        exact iteT ⟨_, rfl, p, _, 1, vb, rfl, rfl, st_of (s1 _ _ hp), rfl, vb, b, rfl, Dx.same s1 _ _ qb, sb.1, hQ H1 s1⟩
end
end K01

set_option maxHeartbeats 4000000
namespace K01
open PySem PySem.Spec PyProof.Rows L2 V1 V2 V3
open Evl (pss_cut tCut sq_of st_of)
def txOf : PyData → List Str
  | .tuple ds => ds.map fun d => match d with
    | .str x => x
    | _ => Str.empty
  | _ => []
def rowOf : PyData → List Str
  | .tuple (r :: _) => txOf r
  | _ => []
def okP (ds : List PyData) (i : Nat) : Bool := pairD (ds.getD i .none) && !(decide (0 < i) && rowLe (rowOf (ds.getD i .none)) (rowOf (ds.getD (i - 1) .none)))
theorem row_texts [CurK] {H : Hp} : ∀ {vs : List V} {ds : List PyData}, ds.all wordD = true → DxAll H vs ds → vs = (txOf (.tuple ds)).map V.str
  | _, [], _, .nil => rfl
  | _, d :: ds, h, .cons one more => by
    have z : wordD d = true ∧ ds.all wordD = true := by simpa using h
    cases d with
    | str x =>
      rw [Dx.str_inv one, row_texts z.2 more]
      rfl
    | _ => exact absurd z.1 (by simp [wordD])
theorem pair_inv {d : PyData} (h : pairD d = true) : ∃ ds b, d = .tuple [.tuple ds, b] ∧ ds.all wordD = true ∧ ds.length ≤ 400 ∧ wordD b = true := by
  match d, h with
  | .tuple [a, b], h =>
    have z : rowD a = true ∧ wordD b = true := by simpa [pairD] using h
    cases a with
    | tuple ds =>
      have y : ds.length ≤ 400 ∧ ds.all wordD = true := by simpa [rowD] using z.1
      exact ⟨ds, b, rfl, y.2, y.1, z.2⟩
    | _ => exact absurd z.1 (by simp [rowD])
def spCheck [CurK] : Sp := fun vs H Q E => ∃ a us ds, vs = [.ref a] ∧ H a = some (.tup us) ∧ DxAll H us ds ∧ (∀ d ∈ ds, shortP d) ∧
  ((∀ i, i < ds.length → okP ds i = true) → ∀ H', Same H H' → Q .non H') ∧
  ∀ i, i < ds.length → okP ds i = false → (∀ j, j < i → okP ds j = true) → ∀ d H', H d = none → Same H H' → H' d = some (.xd [("part", .int i)]) → E (.ref (He.ga K "BadTable")) (some d) H'
theorem scCheck : FnScope ["pairs", "at", "pair"] ["pairs"] (defScope s_check_pairs) := ⟨rfl, rfl, rfl, by decide +kernel, rfl, by decide +kernel, by decide +kernel⟩
theorem scBad : FnScope ["self", "part"] ["self", "part"] (defScope s_BadTable__init__) := ⟨rfl, rfl, rfl, by decide +kernel, rfl, by decide +kernel, by decide +kernel⟩
theorem getD_at {ds : List PyData} {i : Nat} (h : i < ds.length) : ds[i]? = some (ds.getD i .none) := by
  rw [List.getElem?_eq_getElem h]
  simp [List.getD, h]
section
variable [CurK] {P : Program} {w : World} {mg : Str → Option Value} {base : Heap}
theorem fldBad (T : Tx K mg) : Fld P w K mg base "BadTable" "part" := by
  obtain ⟨fd, F⟩ := T.c.def_ 34 (d := d_BadTable__init__) rfl
  exact fld_of F scBad rfl (T.glo 6 rfl) (T.one 0 rfl) rfl rfl (T.noat 65 rfl) (He.meth_ok (T.c.fact 64 rfl)) (by decide) (by decide) (Or.inl rfl) (Or.inl rfl) (fun _ => rfl) (FunD.bindsN F fun _ _ _ _ _ _ us hl => match us, hl with | [_, _], _ => rfl)
theorem ok_check (T : Tx K mg) : Has P w K mg base (L2.CX P w) 5 "check_pairs" ["pairs"] spCheck := by
  obtain ⟨fd, F⟩ := T.c.def_ 4 (d := d_check_pairs) rfl
  have Hrw := ok_rw (P := P) (w := w) (base := base) T
  refine ⟨fd, F.ok scCheck (fun vs H Q E h => ?_) (fun cdv A outer s H vs Q E hr h => ?_), FunD.bindsN F fun _ _ _ _ _ _ us hl => match us, hl with | [_], _ => rfl, F.kp, (T.glo 11 rfl)⟩
  · obtain ⟨a, us, ds, rfl, _⟩ := h
    rfl
  · refine ⟨_, (pss_one (ps_for (passes_of rfl) rfl (pi_enumT (by rfl) (T.free 54 rfl) (pa_cons (pv 0) pa_nil)) (pg_tup (by rfl) (pgs_cons (pg_name (i := 1) scCheck.nd rfl (Or.inl rfl)) (pgs_cons (pg_name (i := 2) scCheck.nd rfl (Or.inl rfl)) pgs_nil)))
 (pss_cons (ps_if (pt_not (pt_val (pe_has Hrw (hr.mono (by decide)) pass0 (pa_cons (pv 2) pa_nil))))
 (pss_one (ps_raise rfl (takes_of rfl rfl rfl rfl) (pmk_fld (fldBad T) (hr.mono (by decide)) (pa_cons (pv 1) pa_nil))))
 pss_nil)
 (pss_one (ps_if (PW.pt (pw_and (pt_cmpR op_gt (pv 1) pe_int (nomark _)) (pw_and1 (pt_cmpR (op_leTS hr.units0) (pe_ix ix_tup (pv 2) pe_int (fun _ _ => rfl)) (pe_ix ix_tup (pe_ix ix_tup (pv 0) (pe_op op_sub (pv 1) pe_int) (fun _ _ => rfl)) pe_int (fun _ _ => rfl)) (nomark _)))))
 (pss_one (ps_raise rfl (takes_of rfl rfl rfl rfl) (pmk_fld (fldBad T) (hr.mono (by decide)) (pa_cons (pv 1) pa_nil))))
 pss_nil))))), ?_⟩
    obtain ⟨a, us, ds, rfl, ha, hr', sh, hQ, hE⟩ := h
    have len := dxAll_len hr'
    refine ⟨_, rfl, a, us, rfl, st_of ha, ?_⟩
    refine for_it walk_enumT (fun i σ H' => Same H H' ∧ (∃ o1 o2, σ = [some (.ref a), o1, o2]) ∧ ∀ j, j < i → okP ds j = true) ⟨Same.refl H, ⟨_, _, rfl⟩, fun j hj => absurd hj (Nat.not_lt_zero j)⟩ (fun i σ H' _ p => st_of (p.1 _ _ ha)) ?_ (fun σ H' p => hQ (fun i hi => p.2.2 i (by omega)) H' p.1)
    rintro i x σ H1 H2 hi ⟨s1, ⟨o1, o2, rfl⟩, hok⟩ ⟨p, z1, v, rfl, np, rfl, e1, e2⟩
    obtain rfl := Option.some.inj e1
    have hi' : i < ds.length := by omega
    have s2 : Same H (upd H1 p (.tup [.int (i : Nat), v])) := s1.trans (same_new np)
    have ha2 := s2 _ _ ha
    have hv : Dx (upd H1 p (.tup [.int (i : Nat), v])) v (ds.getD i .none) := Dx.same s2 _ _ (DxAll.at hr' e2 (getD_at hi'))
    have ep : upd H1 p (.tup [.int (i : Nat), v]) p = some (.tup [.int (i : Nat), v]) := upd_same
    have boom : okP ds i = false → ∀ Z : L2.Hp, Same H Z → tMkO (He.ga K "BadTable") (spIni K (He.ga K "BadTable") "part") [] (tCons (tVar 1) tNil) [some (.ref a), some (.int (i : Nat)), some v] Z E := fun e Z sz =>
      raise_go (v := .int (i : Nat)) (fun Q q => ⟨_, rfl, q⟩) fun d H' nd sm hd => hE i hi' e hok d H' (fresh_up sz nd) (sz.trans sm) hd
    have shi : shortP (ds.getD i .none) := sh _ (by
      have z : ds.getD i .none = ds[i] := by simp [List.getD, hi']
      rw [z]
      exact List.getElem_mem hi')
    generalize upd H1 p (.tup [.int (i : Nat), v]) = H3 at s2 ha2 hv ep
    refine ⟨p, _, rfl, st_of ep, rfl, ?_⟩
    refine ⟨_, _, rfl, _, _, rfl, rfl, ?_⟩
    have look_ : okP ds i = (pairD (ds.getD i .none) && !(decide (0 < i) && rowLe (rowOf (ds.getD i .none)) (rowOf (ds.getD (i - 1) .none)))) := rfl
    refine ⟨_, rfl, v, _, rfl, hv, shi, fun H4 s4 => ⟨_, rfl, ite2 (fun e => ?_) (fun e => ?_)⟩⟩
    · refine boom ?_ _ (s2.trans s4)
      rw [look_, show pairD (ds.getD i .none) = false by simpa using e, Bool.false_and]
    have e' : pairD (ds.getD i .none) = true := by simpa using e
    obtain ⟨rs, b, hd, ra, rl, wb⟩ := pair_inv e'
    have s24 := s2.trans s4
    have kn : rowOf (ds.getD i .none) = txOf (.tuple rs) := by rw [hd]; rfl
    rw [hd] at hv
    obtain ⟨q, ws, rfl, hq3, hw⟩ := Dx.tup_inv hv
    cases hw with | @cons va _ _ _ qa r1 =>
    cases r1 with | @cons vb _ _ _ qb r2 =>
    cases r2
    obtain ⟨r, ts, rfl, hr3, ht⟩ := Dx.tup_inv qa
    obtain rfl := row_texts ra ht
    have hq := s4 _ _ hq3
    have hr4 := s4 _ _ hr3
    have ha4 := s4 _ _ ha2
    refine ⟨_, rfl, _, _, rfl, rfl, _, rfl, ite2 (fun e1 => ?_) (fun e1 => ?_)⟩
    · have i0 : 0 < i := by
        have z := of_decide_eq_true e1
        omega
      obtain ⟨rs', b', hd', ra', rl', wb'⟩ := pair_inv (Bool.and_eq_true_iff.mp (hok (i - 1) (by omega))).1
      have hj : i - 1 < ds.length := by omega
      have ej : us[i - 1]? = some (us.getD (i - 1) .non) := by
        rw [List.getElem?_eq_getElem (by omega : i - 1 < us.length)]
        simp [List.getD, (by omega : i - 1 < us.length)]
      have hv' : Dx H4 (us.getD (i - 1) .non) (.tuple [.tuple rs', b']) := by
        rw [← hd']
        exact Dx.same s24 _ _ (DxAll.at hr' ej (getD_at hj))
      obtain ⟨q', ws', eq', hq', hw'⟩ := Dx.tup_inv hv'
      rw [eq'] at ej
      cases hw' with | @cons va' _ _ _ qa' r1' =>
      cases r1' with | @cons vb' _ _ _ qb' r2' =>
      cases r2'
      obtain ⟨r', ts', rfl, hr', ht'⟩ := Dx.tup_inv qa'
      obtain rfl := row_texts ra' ht'
      have kn' : rowOf (ds.getD (i - 1) .none) = txOf (.tuple rs') := by rw [hd']; rfl
      have at' : atI us ((i : Int) - 1) = some (.ref q') := by
        have z : ((i : Int) - 1) = ((i - 1 : Nat) : Int) := by omega
        rw [z]
        exact atI_nat ej
      refine ⟨_, rfl, q, _, 0, _, rfl, rfl, st_of hq, rfl, _, rfl, _, rfl, _, _, rfl, rfl, a, us, _, _, rfl, rfl, st_of ha4, at', q', _, 0, _, rfl, rfl, st_of hq', rfl, r, r', _, _, rfl, rfl, st_of hr4, st_of hr', _, rfl, ite2 (fun e2 => ?_) (fun e2 => ?_)⟩
      · refine boom ?_ _ s24
        rw [look_, e', decide_eq_true i0, kn, kn', e2]
        rfl
      · refine ⟨s24, ⟨_, _, rfl⟩, fun j hj => ?_⟩
        by_cases ej : j = i
        · rw [ej, look_, e', decide_eq_true i0, kn, kn', Bool.eq_false_iff.mpr e2]
          rfl
        · exact hok j (by omega)
    · refine ⟨s24, ⟨_, _, rfl⟩, fun j hj => ?_⟩
      by_cases ej : j = i
      · have z : decide (0 < i) = false := by
          refine decide_eq_false fun z => e1 (decide_eq_true ?_)
          omega
        rw [ej, look_, e', z, Bool.false_and]
        rfl
      · exact hok j (by omega)
end
end K01

set_option maxHeartbeats 4000000
namespace K01
open PySem PySem.Spec PyProof.Rows L2 V1 V2 V3
open Evl (pss_cut tCut sq_of st_of)
/-! the order of rows -/
def keyR (r : List Str) : List (List Nat) := r.map fun x => x.cps.toList
theorem str_ext {x y : Str} (h : x.cps.toList = y.cps.toList) : x = y := by
  cases x; cases y
  simp only [Str.mk.injEq]
  exact Array.toList_inj.mp h
theorem keyR_inj : ∀ {r s : List Str}, keyR r = keyR s → r = s
  | [], [], _ => rfl
  | [], _ :: _, h => by cases h
  | _ :: _, [], h => by cases h
  | x :: r, y :: s, h => by
    have z := List.cons.inj h
    rw [str_ext z.1, keyR_inj z.2]
theorem rowLe_key : ∀ r s : List Str, rowLe r s = !decide (keyR s < keyR r)
  | [], s => by
    have z : ¬ keyR s < keyR [] := List.not_lt_nil _
    rw [decide_eq_false z]
    rfl
  | x :: r, [] => by
    have z : keyR [] < keyR (x :: r) := List.nil_lt_cons _ _
    rw [decide_eq_true z]
    rfl
  | x :: r, y :: s => by
    have z : (keyR (y :: s) < keyR (x :: r)) ↔ (y.cps.toList < x.cps.toList ∨ y.cps.toList = x.cps.toList ∧ keyR s < keyR r) := List.cons_lt_cons_iff
    show (if (x == y) = true then rowLe r s else txLe x y) = _
    by_cases e : x = y
    · subst e
      rw [if_pos (beq_self_eq_true x), rowLe_key r s]
      congr 1
      refine decide_eq_decide.mpr ⟨fun h => z.mpr (.inr ⟨rfl, h⟩), fun h => ?_⟩
      rcases z.mp h with q | q
      · exact absurd q (List.lt_irrefl _)
      · exact q.2
    · rw [if_neg (by simpa using e)]
      show (!decide (y.cps.toList < x.cps.toList)) = _
      congr 1
      refine decide_eq_decide.mpr ⟨fun h => z.mpr (.inl h), fun h => ?_⟩
      rcases z.mp h with q | q
      · exact q
      · exact absurd (str_ext q.1).symm e
/-! right pairs -/
abbrev Tp := List (List Str × Str)
def mkR (r : List Str) : PyData := .tuple (r.map .str)
def mkP (t : List Str × Str) : PyData := .tuple [mkR t.1, .str t.2]
def look (ts : Tp) (r : List Str) : Option Str := (ts.find? fun t => decide (t.1 = r)).map (·.2)
def rowK (r : List Str) : List Key := r.map .inr
theorem rowK_v (r : List Str) : (rowK r).map kV = r.map V.str := by
  unfold rowK
  rw [List.map_map]
  rfl
theorem rowK_inj {r s : List Str} (h : rowK r = rowK s) : r = s := List.map_inj_right (fun _ _ => Sum.inr.inj) |>.mp h
structure GoodT (ts : Tp) : Prop where
  ok : ∀ t ∈ ts, (∀ x ∈ t.1, wordX x = true) ∧ t.1.length ≤ 400 ∧ wordX t.2 = true
  up : ts.Pairwise fun s t => keyR s.1 < keyR t.1
theorem words_of {ds : List PyData} (h : ds.all wordD = true) : ∃ r : List Str, ds = r.map .str ∧ ∀ x ∈ r, wordX x = true := by
  induction ds with
  | nil => exact ⟨[], rfl, fun x hx => absurd hx List.not_mem_nil⟩
  | cons d ds ih =>
    have z : wordD d = true ∧ ds.all wordD = true := by simpa using h
    obtain ⟨r, rfl, hr⟩ := ih z.2
    cases d with
    | str x => exact ⟨x :: r, rfl, fun y hy => (List.mem_cons.mp hy).elim (fun q => q ▸ z.1) (hr y)⟩
    | _ => exact absurd z.1 (by simp [wordD])
theorem pair_of {d : PyData} (h : pairD d = true) : ∃ t : List Str × Str, d = mkP t ∧ (∀ x ∈ t.1, wordX x = true) ∧ t.1.length ≤ 400 ∧ wordX t.2 = true := by
  obtain ⟨ds, b, rfl, h1, h2, h3⟩ := pair_inv h
  obtain ⟨r, rfl, hr⟩ := words_of h1
  rw [List.length_map] at h2
  cases b with
  | str x => exact ⟨(r, x), rfl, hr, h2, h3⟩
  | _ => exact absurd h3 (by simp [wordD])
theorem txOf_row (r : List Str) : txOf (mkR r) = r := by
  show (r.map PyData.str).map _ = r
  rw [List.map_map]
  exact (List.map_congr_left fun _ _ => rfl).trans (List.map_id _)
theorem rowOf_p (t : List Str × Str) : rowOf (mkP t) = t.1 := txOf_row t.1
theorem ts_of {ds : List PyData} (ok : ∀ i, i < ds.length → okP ds i = true) : ∃ ts : Tp, ds = ts.map mkP ∧ GoodT ts := by
  have one : ∀ i (hi : i < ds.length), ∃ t, ds[i] = mkP t ∧ (∀ x ∈ t.1, wordX x = true) ∧ t.1.length ≤ 400 ∧ wordX t.2 = true ∧ (∀ h : 0 < i, keyR (rowOf (ds[i - 1]'(by omega))) < keyR t.1) := fun i hi => by
    have z := ok i hi
    have gi : ds.getD i .none = ds[i] := by simp [List.getD, hi]
    unfold okP at z
    simp only [Bool.and_eq_true, Bool.not_eq_true'] at z
    obtain ⟨t, e, h1, h2, h3⟩ := pair_of z.1
    rw [gi] at e
    refine ⟨t, e, h1, h2, h3, fun h => ?_⟩
    have y := z.2
    have gj : ds.getD (i - 1) .none = ds[i - 1]'(by omega) := by simp [List.getD, (by omega : i - 1 < ds.length)]
    rw [decide_eq_true h, Bool.true_and, gi, gj, e, rowOf_p, rowLe_key, Bool.not_eq_false', decide_eq_true_eq] at y
    exact y
  have T : ∃ f : PyData → List Str × Str, ∀ i (hi : i < ds.length), ds[i] = mkP (f ds[i]) ∧ (∀ x ∈ (f ds[i]).1, wordX x = true) ∧ (f ds[i]).1.length ≤ 400 ∧ wordX (f ds[i]).2 = true := by
    refine ⟨fun d => (rowOf d, match d with
      | .tuple [_, .str x] => x
      | _ => Str.empty), fun i hi => ?_⟩
    obtain ⟨t, e, h1, h2, h3, _⟩ := one i hi
    have z : (rowOf (mkP t), t.2) = t := by rw [rowOf_p]
    rw [e]
    refine ⟨(congrArg mkP z).symm, ?_, ?_, h3⟩
    · show ∀ x ∈ rowOf (mkP t), wordX x = true
      rw [rowOf_p]
      exact h1
    · show (rowOf (mkP t)).length ≤ 400
      rw [rowOf_p]
      exact h2
  obtain ⟨f, hf⟩ := T
  refine ⟨ds.map f, ?_, fun t ht => ?_, ?_⟩
  · rw [List.map_map]
    refine (List.map_id'' (fun _ => rfl) ds).symm.trans (List.map_congr_left fun d hd => ?_)
    obtain ⟨i, hi, rfl⟩ := List.getElem_of_mem hd
    exact (hf i hi).1
  · obtain ⟨d, hd, rfl⟩ := List.mem_map.mp ht
    obtain ⟨i, hi, rfl⟩ := List.getElem_of_mem hd
    exact (hf i hi).2
  · rw [List.pairwise_map, List.pairwise_iff_getElem]
    intro i j hi hj hij
    have row : ∀ i (hi : i < ds.length), rowOf ds[i] = (f ds[i]).1 := fun i hi => by
      have z := (hf i hi).1
      generalize f ds[i] = t at z ⊢
      rw [z, rowOf_p]
    obtain ⟨d, rfl⟩ : ∃ d, j = i + 1 + d := ⟨j - (i + 1), by omega⟩
    have step : ∀ k (hk : k + 1 < ds.length), keyR (f (ds[k]'(by omega))).1 < keyR (f ds[k + 1]).1 := fun k hk => by
      obtain ⟨t, e, _, _, _, h⟩ := one (k + 1) hk
      have z := h (by omega)
      have y := row (k + 1) hk
      rw [← row k (by omega), ← y, e, rowOf_p]
      exact z
    induction d with
    | zero => exact step i hj
    | succ d ih => exact List.lt_trans (ih (by omega) (by omega) step) (step (i + 1 + d) hj)
def firstBad (ds : List PyData) : Option Nat := (List.range ds.length).find? fun i => !okP ds i
theorem firstBad_none {ds : List PyData} (h : ∀ i, i < ds.length → okP ds i = true) : firstBad ds = none := by
  unfold firstBad
  rw [List.find?_eq_none]
  intro i hi
  rw [h i (List.mem_range.mp hi)]
  decide
theorem firstBad_some {ds : List PyData} {i : Nat} (hi : i < ds.length) (h : okP ds i = false) (k : ∀ j, j < i → okP ds j = true) : firstBad ds = some i := by
  unfold firstBad
  rw [List.find?_range_eq_some]
  exact ⟨by rw [h]; rfl, List.mem_range.mpr hi, fun j hj => by rw [k j hj]; rfl⟩
/-- which part is wrong -/
def partOf (d1 d2 : PyData) : Option V :=
  if tupOf 0 200 d1 = true then
    match d1 with
    | .tuple ds => match firstBad ds with
      | some i => some (.int (i : Nat))
      | none => if wordD d2 = true then none else some (.str "other")
    | _ => none
  else some (.str "pairs")
mutual
/-- plain data lie at no object's place -/
theorem dq_sameN {H H' : L2.Hp} (e : ∀ b o, H b = some o → (∀ C dx fs, o ≠ .ins C dx fs) → H' b = some o) : ∀ (d : PyData) (v : V), Dq H v d → Dq H' v d
  | .none, _, h => by cases h; exact .non
  | .bool b, _, h => by cases h; exact .bl b
  | .int i, _, h => by cases h; exact .int i
  | .str x, _, h => by cases h; exact .str x
  | .list ds, _, h => by
    cases h with
    | lst at_ low rest => exact .lst (e _ _ at_ (fun _ _ _ z => nomatch z)) low (dqAll_sameN e ds _ rest)
  | .tuple ds, _, h => by
    cases h with
    | tup at_ rest => exact .tup (e _ _ at_ (fun _ _ _ z => nomatch z)) (dqAll_sameN e ds _ rest)
  | .dict ds, _, h => by
    cases h with
    | dct at_ rest => exact .dct (e _ _ at_ (fun _ _ _ z => nomatch z)) (dqKv_sameN e ds _ rest)
theorem dqAll_sameN {H H' : L2.Hp} (e : ∀ b o, H b = some o → (∀ C dx fs, o ≠ .ins C dx fs) → H' b = some o) : ∀ (ds : List PyData) (vs : List V), DqAll H vs ds → DqAll H' vs ds
  | [], _, h => by cases h; exact .nil
  | d :: ds, _, h => by
    cases h with
    | cons one more => exact .cons (dq_sameN e d _ one) (dqAll_sameN e ds _ more)
theorem dqKv_sameN {H H' : L2.Hp} (e : ∀ b o, H b = some o → (∀ C dx fs, o ≠ .ins C dx fs) → H' b = some o) : ∀ (ds : List (PyData × PyData)) (kvs : List (Key × V)), DqKv H kvs ds → DqKv H' kvs ds
  | [], _, h => by cases h; exact .nil
  | (k, d) :: ds, _, h => by
    cases h with
    | cons one more => exact .cons (dq_sameN e d _ one) (dqKv_sameN e ds _ more)
end
theorem dqAt {H : L2.Hp} : ∀ {vs : List V} {ds : List PyData} {j : Nat} {v : V} {d : PyData}, DqAll H vs ds → vs[j]? = some v → ds[j]? = some d → Dq H v d
  | _ :: _, _ :: _, 0, _, _, .cons one _, e, e' => by
    obtain rfl := Option.some.inj e
    obtain rfl := Option.some.inj e'
    exact one
  | _ :: _, _ :: _, j + 1, _, _, .cons _ more, e, e' => dqAt (j := j) more e e'
section
variable [CurK]
/-- at p: a Table of these pairs -/
structure TAt (H : Hp) (p : Addr) (ts : Tp) (o : Str) : Prop where
  ex : ∃ dx a q us kvs, H p = some (.ins (He.ga K "Table") dx [("pairs", .ref a), ("other", .str o), ("_beside", .ref q)]) ∧ H a = some (.tup us) ∧ DqAll H us (ts.map mkP) ∧ H q = some (.dT kvs) ∧ ∀ r, valV kvs (rowK r) = (look ts r).map V.str
def spTab : Sp := fun vs H Q E => ∃ p dx v1 v2 d1 d2, vs = [.ref p, v1, v2] ∧ H p = some (.ins (He.ga K "Table") dx []) ∧ Dx H v1 d1 ∧ Dx H v2 d2 ∧ (∀ ds, d1 = .tuple ds → ∀ d ∈ ds, shortP d) ∧ shortD d2 ∧
  (∀ x, partOf d1 d2 = some x → ∀ d H', H d = none → Same H H' → H' d = some (.xd [("part", x)]) → E (.ref (He.ga K "BadTable")) (some d) H') ∧
  (partOf d1 d2 = none → ∀ ts o, d1 = .tuple (ts.map mkP) → d2 = .str o → GoodT ts → ts.length ≤ 200 → ∀ H', (∀ b o, b ≠ p → H b = some o → H' b = some o) → TAt H' p ts o → Q .non H')
end
theorem scTab : FnScope ["self", "pairs", "other", "row", "word"] ["self", "pairs", "other"] (defScope s_Table__init__) := ⟨rfl, rfl, rfl, by decide +kernel, rfl, by decide +kernel, by decide +kernel⟩
theorem look_app {ts : Tp} {t : List Str × Str} {r : List Str} : look (ts ++ [t]) r = (look ts r).or (if t.1 = r then some t.2 else none) := by
  unfold look
  rw [List.find?_append]
  cases ts.find? fun t => decide (t.1 = r) with
  | some u => rfl
  | none =>
    by_cases e : t.1 = r
    · simp [e]
    · simp [e]
theorem look_none {ts : Tp} {r : List Str} (h : ∀ t ∈ ts, keyR t.1 < keyR r) : look ts r = none := by
  unfold look
  rw [Option.map_eq_none_iff, List.find?_eq_none]
  intro t ht
  have z := h t ht
  simp only [decide_eq_true_eq]
  intro e
  rw [e] at z
  exact List.lt_irrefl _ z
theorem plain_pairs : ∀ ts : Tp, plainAll (ts.map mkP) = true
  | [] => rfl
  | t :: ts => by
    have rw_ : ∀ r : List Str, plainAll (r.map PyData.str) = true := fun r => by
      induction r with
      | nil => rfl
      | cons x r ih => simp [plainAll, V2.plain, ih]
    rw [List.map_cons]
    simp [plainAll, V2.plain, mkP, mkR, rw_, plain_pairs ts]
section
variable [CurK] {P : Program} {w : World} {mg : Str → Option Value} {base : Heap}
theorem ok_tab (T : Tx K mg) : HasC P w K mg base (L2.CX P w) 6 "Table" ["self", "pairs", "other"] spTab := by
  obtain ⟨fd, F⟩ := T.c.def_ 35 (d := d_Table__init__) rfl
  have Ht := ok_tupOf (P := P) (w := w) (base := base) T
  have Hw := ok_word (P := P) (w := w) (base := base) T
  have Hc := ok_check (P := P) (w := w) (base := base) T
  obtain ⟨tMP, gMP⟩ := (T.int 9 rfl)
  have cS : Cls K (He.ga K "Table") := He.cls_ok (T.c.fact 69 rfl)
  have n1 : NoAttr K (He.ga K "Table") "pairs" := He.noat_ok (T.c.fact 72 rfl)
  have n2 : NoAttr K (He.ga K "Table") "other" := He.noat_ok (T.c.fact 71 rfl)
  have n3 : NoAttr K (He.ga K "Table") "_beside" := He.noat_ok (T.c.fact 70 rfl)
  refine ⟨_, fd, He.mkr_ok (T.c.fact 73 rfl), F.ok scTab (fun vs H Q E h => ?_) (fun cdv A outer s H vs Q E hr h => ?_), FunD.bindsN F fun _ _ _ _ _ _ us hl => match us, hl with | [_, _, _], _ => rfl, (T.glo 12 rfl)⟩
  · obtain ⟨p, dx, v1, v2, d1, d2, rfl, _⟩ := h
    rfl
  · refine ⟨_, (pss_cons (ps_if (pt_not (pt_val (pe_has Ht (hr.mono (by decide)) pass0 (pa_cons (pv 1) (pa_cons pe_int (pa_cons (pe_glob (v := .int 200) (by rfl) gMP ⟨_, rfl⟩) pa_nil))))))
 (pss_one (ps_raise rfl (takes_of rfl rfl rfl rfl) (pmk_fld (fldBad T) (hr.mono (by decide)) (pa_cons pe_str pa_nil))))
 pss_nil)
 (pss_cons (ps_expr (pe_has Hc (hr.mono (by decide)) (passes_call (takes_of rfl rfl rfl rfl) (fun _ _ _ _ h => h)) (pa_cons (pv 1) pa_nil)))
 (pss_cons (ps_if (pt_not (pt_val (pe_has Hw (hr.mono (by decide)) pass0 (pa_cons (pv 2) pa_nil))))
 (pss_one (ps_raise rfl (takes_of rfl rfl rfl rfl) (pmk_fld (fldBad T) (hr.mono (by decide)) (pa_cons pe_str pa_nil))))
 pss_nil)
 (pss_cons (ps_fld (pv 0) (pv 1) (by rfl))
 (pss_cons (ps_fld (pv 0) (pv 2) (by rfl))
 (pss_one (ps_fld (pv 0) (V4.pe_dcT (own := [("row", 3), ("word", 4)]) (g := gTup K 2 (gCons (gName 3) (gCons (gName 4) gNil))) (tk := tVar 3) (tv := tVar 4) rfl hr.units0 scTab.nd (pi_tup (pv 1))
 (blkOk_by (own := [("row", 3), ("word", 4)]) (N := ["self", "pairs", "other", "row", "word"]) (sc := defScope s_Table__init__) (by decide +kernel)) (fun _ _ _ _ _ => pg_tup (by rfl) (pgs_cons (pg_name (i := 3) scTab.nd rfl (Or.inl rfl)) (pgs_cons (pg_name (i := 4) scTab.nd rfl (Or.inl rfl)) pgs_nil))) (fun _ _ _ _ _ => (pv 3)) (fun _ _ _ _ _ => (pv 4))) (by rfl)))))))), ?_⟩
    obtain ⟨p, dx, v1, v2, d1, d2, rfl, hp, hd1, hd2, sh1, sh2, hE, hQ⟩ := h
    refine ⟨_, rfl, v1, d1, 0, 200, rfl, hd1, _, rfl, ite2 (fun e => ?_) (fun e => ?_)⟩
    · have e' : tupOf 0 200 d1 = false := by simpa using e
      refine raise_go (v := .str "pairs") (fun Q q => q) fun d H' nd sm hd => hE (.str "pairs") ?_ d H' nd sm hd
      unfold partOf
      rw [if_neg (by rw [e']; decide)]
    have e1 : tupOf 0 200 d1 = true := by simpa using e
    obtain ⟨ds, rfl, _, l2⟩ := tupOf_tup e1
    obtain ⟨a, us, rfl, ha, hr'⟩ := Dx.tup_inv hd1
    have lus := dxAll_len hr'
    refine ⟨_, rfl, a, us, ds, rfl, ha, hr', sh1 ds rfl, fun good H' sm => ?_, fun i hi bad ok d H' nd sm hd => ?_⟩
    · refine ⟨_, rfl, v2, d2, rfl, Dx.same sm _ _ hd2, sh2, _, rfl, ite2 (fun e => ?_) (fun e => ?_)⟩
      · have e' : wordD d2 = false := by simpa using e
        refine raise_go (v := .str "other") (fun Q q => q) fun d H2 nd sm2 hd => hE (.str "other") ?_ d H2 (fresh_up sm nd) (sm.trans sm2) hd
        unfold partOf
        rw [if_pos e1]
        simp only [firstBad_none good, e']
        rfl
      have e2 : wordD d2 = true := by simpa using e
      obtain ⟨o, rfl⟩ : ∃ o, d2 = .str o := by cases d2 <;> first | exact ⟨_, rfl⟩ | cases e2
      obtain rfl := Dx.str_inv hd2
      obtain ⟨ts, rfl, gt⟩ := ts_of good
      have htu := gt.up
      have hp' := sm _ _ hp
      have hq' : DqAll H us (ts.map mkP) := dqAll_of _ _ (plain_pairs ts) hr'
      have hqq := DqAll.same sm _ _ hq'
      have ha' := sm _ _ ha
      rw [List.length_map] at l2 lus
      have keep : ∀ b o, H' b = some o → (∀ C dx fs, o ≠ .ins C dx fs) → b ≠ p := fun b o e ne z => by
        rw [z, hp'] at e
        exact ne _ _ _ (Option.some.inj e).symm
      refine ⟨_, rfl, _, rfl, p, _, dx, [], rfl, hp', cS, n1, (by show 0 < 1000; decide), _, rfl, _, rfl, p, _, dx, _, rfl, upd_same, cS, n2, (by show 1 < 1000; decide), ?_⟩
      have st2 : ∀ b u, b ≠ p → H' b = some u → upd (upd H' p (.ins (He.ga K "Table") dx (putF "pairs" (.ref a) []))) p (.ins (He.ga K "Table") dx (putF "other" (.str o) (putF "pairs" (.ref a) []))) b = some u := fun b u ne e => by
        rw [upd_ne ne, upd_ne ne]
        exact e
      have ep2 : upd (upd H' p (.ins (He.ga K "Table") dx (putF "pairs" (.ref a) []))) p (.ins (He.ga K "Table") dx (putF "other" (.str o) (putF "pairs" (.ref a) []))) p = some (.ins (He.ga K "Table") dx [("pairs", .ref a), ("other", .str o)]) := upd_same
      generalize upd (upd H' p (.ins (He.ga K "Table") dx (putF "pairs" (.ref a) []))) p (.ins (He.ga K "Table") dx (putF "other" (.str o) (putF "pairs" (.ref a) []))) = H2 at st2 ep2 ⊢
      have qq2 : DqAll H2 us (ts.map mkP) := dqAll_sameN (fun b u e ne => st2 b u (keep b u e ne) e) _ _ hqq
      have ap : a ≠ p := keep a _ ha' fun _ _ _ z => nomatch z
      have ha2 := st2 a _ ap ha'
      refine ⟨_, rfl, a, rfl, ⟨_, st_of ha2⟩, fun D nD => ?_⟩
      have Dp : D ≠ p := fun z => by
        rw [z, ep2] at nD
        cases nD
      refine ⟨ts.length, fun i H3 => Same H2 (delH H3 D) ∧ ∃ kvs, H3 D = some (.dT kvs) ∧ kvs.length ≤ i ∧ ∀ r, valV kvs (rowK r) = (look (ts.take i) r).map V.str,
        ⟨fun b u e => by rw [delH_ne (ne_of_none e nD)]; exact same_new nD _ _ e, [], upd_same, Nat.le_refl _, fun r => by simp [look, valV]⟩, ?_, ?_⟩
      · rintro H3 ⟨sm3, kvs, e3, lk, ind⟩
        refine ⟨⟨us, st_of (same_delH _ _ (sm3 _ _ ha2)), by omega⟩, ?_⟩
        rw [List.take_length] at ind
        have ep3 := same_delH _ _ (sm3 _ _ ep2)
        refine ⟨_, rfl, p, _, dx, _, rfl, ep3, cS, n3, (by show 2 < 1000; decide), ?_⟩
        have up3 : ∀ b u, b ≠ p → H2 b = some u → upd H3 p (.ins (He.ga K "Table") dx (putF "_beside" (.ref D) [("pairs", .ref a), ("other", .str o)])) b = some u := fun b u ne e => by
          rw [upd_ne ne]
          exact same_delH _ _ (sm3 _ _ e)
        have notp : ∀ b u, H2 b = some u → (∀ C dx fs, u ≠ .ins C dx fs) → b ≠ p := fun b u e ne z => by
          rw [z, ep2] at e
          exact ne _ _ _ (Option.some.inj e).symm
        refine hQ ?_ ts o rfl rfl gt (by omega) _ (fun b u ne e => up3 b u ne (st2 b u ne (sm _ _ e))) ⟨dx, a, D, us, kvs, upd_same, up3 a _ ap ha2, dqAll_sameN (fun b u e ne => up3 b u (notp b u e ne) e) _ _ qq2, by rw [upd_ne Dp]; exact e3, ind⟩
        unfold partOf
        rw [if_pos e1]
        simp only [firstBad_none good, e2]
        rfl
      · rintro i H3 hi ⟨sm3, kvs, e3, lk, ind⟩
        have ha3 := same_delH _ _ (sm3 _ _ ha2)
        have hi' : i < us.length := by omega
        refine ⟨⟨us, us[i], st_of ha3, by simp [hi']⟩, ?_⟩
        rintro x H4 ⟨rfl, hx⟩
        have hx := hx us (st_of ha3)
        have dx3 : Dq H2 x (mkP ts[i]) := dqAt qq2 hx (by rw [List.getElem?_map, List.getElem?_eq_getElem hi]; rfl)
        obtain ⟨b, ws, rfl, hb, hw⟩ := V2.Dq.tup_inv dx3
        cases hw with | @cons va _ _ _ qa r1 =>
        cases r1 with | @cons vb _ _ _ qb r2 =>
        cases r2
        obtain ⟨c, cs, rfl, hc, hcs⟩ := V2.Dq.tup_inv qa
        obtain rfl : vb = .str ts[i].2 := by cases qb; rfl
        have tcs : cs = (rowK ts[i].1).map kV := by
          rw [rowK_v]
          have z : ∀ {vs : List V} {r : List Str}, DqAll H2 vs (r.map .str) → vs = r.map V.str := by
            intro vs r
            induction r generalizing vs with
            | nil => intro h; cases h; rfl
            | cons m ms ih => intro h; cases h with | cons one more => cases one; rw [ih more]; rfl
          exact z hcs
        subst tcs
        have hb3 := same_delH _ _ (sm3 _ _ hb)
        have hc3 := same_delH _ _ (sm3 _ _ hc)
        refine ⟨b, _, rfl, st_of hb3, rfl, _, _, rfl, _, _, rfl, rfl, rfl, ?_⟩
        refine ⟨_, rfl, _, rfl, kvs, rowK ts[i].1, c, rfl, hc3, e3, Nat.lt_of_le_of_lt (by omega : kvs.length ≤ 200) (by decide), by rw [delH_upd]; exact sm3, _, upd_same, Nat.le_trans (length_putK kvs _ _) (by omega), fun r => ?_⟩
        have tk : ts.take (i + 1) = ts.take i ++ [ts[i]] := by rw [List.take_succ, List.getElem?_eq_getElem hi]; rfl
        have old : look (ts.take i) ts[i].1 = none := look_none fun t ht => by
          obtain ⟨j, hj, rfl⟩ := List.getElem_of_mem ht
          rw [List.length_take] at hj
          rw [List.getElem_take]
          exact (List.pairwise_iff_getElem.mp htu) j i (by omega) hi (by omega)
        rw [tk, look_app, valV_put, ind r]
        by_cases er : ts[i].1 = r
        · rw [er] at old
          rw [er, if_pos rfl, if_pos rfl, old]
          rfl
        · rw [if_neg er, if_neg fun z => er (rowK_inj z).symm]
          cases look (ts.take i) r <;> rfl
    · refine hE _ ?_ d H' nd sm hd
      unfold partOf
      rw [if_pos e1]
      simp only [firstBad_some hi bad ok]
end
end K01

set_option maxHeartbeats 4000000
namespace K01
open PySem PySem.Spec PyProof.Rows L2 V1 V2 V3
open Evl (pss_cut tCut sq_of st_of)
section
variable {K : PySem.W.Frag} {mg : Str → Option Value}
theorem Tx.rai (T : Tx K mg) (i : Nat) {x : Str} (e : fa[i]? = some (.exc x)) {X : Cx} (hX : X.K = K := by rfl) : Raises X (.ref (He.ga K x)) := by
  have z := He.exc_ok (T.c.fact i e)
  subst hX
  exact raises_own z.2.2.1 z.2.2.2
end
section
variable [CurK]
theorem TAt.same {H H' : Hp} {p : Addr} {ts : Tp} {o : Str} (s : Same H H') (h : TAt H p ts o) : TAt H' p ts o := by
  obtain ⟨dx, a, q, us, kvs, h1, h2, h3, h4, h5⟩ := h.ex
  exact ⟨dx, a, q, us, kvs, s _ _ h1, s _ _ h2, DqAll.same s _ _ h3, s _ _ h4, h5⟩
def spTWord : Sp := fun vs H Q E => ∃ p ts o v d, vs = [.ref p, v] ∧ TAt H p ts o ∧ Dx H v d ∧ (∀ ds, d = .tuple ds → ∀ x ∈ ds, shortD x) ∧
  (rowD d = false → ∀ H', Same H H' → E (.ref (He.ga K "NoRow")) none H') ∧ (rowD d = true → ∀ H', Same H H' → Q (.str ((look ts (txOf d)).getD o)) H')
def spTEq : Sp := fun vs H Q _ => ∃ p ts o y, vs = [.ref p, y] ∧ TAt H p ts o ∧ GoodT ts ∧
  ((∃ d, Dx H y d ∧ d ≠ objD ∧ Q (.bl false) H) ∨ (∃ a dx fs C, y = .ref a ∧ H a = some (.ins C dx fs) ∧ C8.InsC K C ∧ PySem.W.kitOne K (.ref C) (.ref (He.ga K "Table")) = some false ∧ Q (.bl false) H) ∨
    ∃ q ts' o', y = .ref q ∧ TAt H q ts' o' ∧ GoodT ts' ∧ Q (.bl (decide (ts = ts') && decide (o = o'))) H)
end
theorem scTWord : FnScope ["self", "row"] ["self", "row"] (defScope s_Tableword) := ⟨rfl, rfl, rfl, by decide +kernel, rfl, by decide +kernel, by decide +kernel⟩
theorem scTEq : FnScope ["self", "other"] ["self", "other"] (defScope s_Table__eq__) := ⟨rfl, rfl, rfl, by decide +kernel, rfl, by decide +kernel, by decide +kernel⟩
theorem plainAll_of : ∀ {ds : List PyData}, (∀ d ∈ ds, V2.plain d = true) → plainAll ds = true
  | [], _ => rfl
  | d :: ds, h => by
    have h1 := h d List.mem_cons_self
    have h2 := plainAll_of fun x hx => h x (List.mem_cons_of_mem _ hx)
    simp [plainAll, h1, h2]
theorem canLayAll_of : ∀ {ds : List PyData}, (∀ d ∈ ds, d.canLay0 = true) → PyData.canLayAll0 ds = true
  | [], _ => by simp [PyData.canLayAll0]
  | d :: ds, h => by
    have h1 := h d List.mem_cons_self
    have h2 := canLayAll_of fun x hx => h x (List.mem_cons_of_mem _ hx)
    simp [PyData.canLayAll0, h1, h2]
theorem depthAll_le {n : Nat} : ∀ {ds : List PyData}, (∀ d ∈ ds, d.depth ≤ n) → PyData.depthAll ds ≤ n
  | [], _ => by simp [PyData.depthAll]
  | d :: ds, h => by
    have h1 := h d List.mem_cons_self
    have h2 := depthAll_le fun x hx => h x (List.mem_cons_of_mem _ hx)
    simp only [PyData.depthAll]
    omega
theorem shaped_of {d : PyData} (h1 : d.canLay0 = true) (h2 : d.depth ≤ 64) : SeqAt.shaped d = true := by
  unfold SeqAt.shaped
  rw [h1, Bool.true_and]
  exact decide_eq_true h2
theorem word_ok {x : Str} (h : wordX x = true) : PyData.strOk x = true := by
  have z : x.length ≤ 40 ∧ Txt.isascii x = true ∧ Txt.isprintable x = true := by simpa [wordX] using h
  have y : x.cps.all (· < 128) = true := z.2.1
  show x.cps.all (· < 0x110000) = true
  rw [Array.all_eq_true] at y ⊢
  intro i hi
  have := of_decide_eq_true (y i hi)
  exact decide_eq_true (by omega)
theorem pairs_shaped {ts : Tp} (g : GoodT ts) : SeqAt.shaped (.tuple (ts.map mkP)) = true := by
  have row1 : ∀ r : List Str, (∀ x ∈ r, wordX x = true) → (mkR r).canLay0 = true ∧ (mkR r).depth ≤ 2 := fun r hr => by
    refine ⟨?_, ?_⟩
    · show PyData.canLayAll0 _ = true
      refine canLayAll_of fun d hd => ?_
      obtain ⟨x, hx, rfl⟩ := List.mem_map.mp hd
      simp [PyData.canLay0, word_ok (hr x hx)]
    · have z : PyData.depthAll (r.map PyData.str) ≤ 1 := depthAll_le fun d hd => by
        obtain ⟨l, _, rfl⟩ := List.mem_map.mp hd
        simp [PyData.depth]
      show (PyData.tuple (r.map PyData.str)).depth ≤ 2
      simp only [PyData.depth]
      omega
  refine shaped_of ?_ ?_
  · show PyData.canLayAll0 _ = true
    refine canLayAll_of fun d hd => ?_
    obtain ⟨t, ht, rfl⟩ := List.mem_map.mp hd
    simp [mkP, PyData.canLay0, PyData.canLayAll0, (row1 t.1 (g.ok t ht).1).1, word_ok (g.ok t ht).2.2]
  · have z : PyData.depthAll (ts.map mkP) ≤ 4 := depthAll_le fun d hd => by
      obtain ⟨t, ht, rfl⟩ := List.mem_map.mp hd
      have := (row1 t.1 (g.ok t ht).1).2
      simp only [mkP, PyData.depth, PyData.depthAll]
      omega
    simp only [PyData.depth]
    omega
theorem eqv_row : ∀ r s : List Str, PyData.eqvAll (r.map PyData.str) (s.map PyData.str) = decide (r = s)
  | [], [] => rfl
  | [], _ :: _ => rfl
  | _ :: _, [] => rfl
  | x :: r, y :: s => by
    rw [List.map_cons, List.map_cons, PyData.eqvAll, eqv_row r s]
    have z : PyData.eqv (.str x) (.str y) = decide (x = y) := by
      simp only [PyData.eqv]
      by_cases e : x = y
      · rw [e]
        simp
      · simp [e]
    rw [z]
    by_cases e1 : x = y
    · by_cases e2 : r = s
      · rw [e1, e2]
        simp
      · rw [decide_eq_false e2, Bool.and_false, decide_eq_false fun q => e2 (List.cons.inj q).2]
    · rw [decide_eq_false e1, Bool.false_and, decide_eq_false fun q => e1 (List.cons.inj q).1]
theorem eqv_pairs : ∀ ts us : Tp, PyData.eqvAll (ts.map mkP) (us.map mkP) = decide (ts = us)
  | [], [] => rfl
  | [], _ :: _ => rfl
  | _ :: _, [] => rfl
  | (r, x) :: ts, (s, y) :: us => by
    rw [List.map_cons, List.map_cons, PyData.eqvAll, eqv_pairs ts us]
    have z : PyData.eqv (mkP (r, x)) (mkP (s, y)) = decide ((r, x) = (s, y)) := by
      show PyData.eqv (.tuple [.tuple (r.map .str), .str x]) (.tuple [.tuple (s.map .str), .str y]) = _
      simp only [PyData.eqv, PyData.eqvAll, eqv_row, Bool.and_true]
      by_cases e1 : r = s
      · by_cases e2 : x = y
        · rw [e1, e2]
          simp
        · simp [e2]
      · simp [e1]
    rw [z]
    by_cases e1 : (r, x) = (s, y)
    · by_cases e2 : ts = us
      · rw [e1, e2]
        simp
      · rw [decide_eq_false e2, Bool.and_false, decide_eq_false fun q => e2 (List.cons.inj q).2]
    · rw [decide_eq_false e1, Bool.false_and, decide_eq_false fun q => e1 (List.cons.inj q).1]
section
variable [CurK] {H : L2.Hp} {v : V} {d : PyData} {C : Addr}
/-- isinstance(x, C), C a plain class: data that are no object -/
theorem kxC_no (i : InsK K C) (hd : Dx H v d) (ne : d ≠ objD) : ∃ t, TyX K H v t ∧ PySem.W.kitOne K t (.ref C) = some false ∧ PySem.W.notFirst K C t = true := by
  have z := i.no _ (tyName_mem d)
  have y := i.nf _ (tyName_mem d)
  cases hd with
  | non => exact ⟨_, .base .non, z, y⟩
  | bl b => exact ⟨_, .base (.bl b), z, y⟩
  | int i => exact ⟨_, .base (.int i), z, y⟩
  | str x => exact ⟨_, .base (.str x), z, y⟩
  | lst e _ _ => exact ⟨_, .base (.lst e), z, y⟩
  | tup e _ => exact ⟨_, .base (.tup e), z, y⟩
  | dct e _ => exact ⟨_, .base (.dK e), z, y⟩
  | ob e ok => exact absurd rfl ne
end
section
variable [CurK] {P : Program} {w : World} {mg : Str → Option Value} {base : Heap}
theorem ok_tword (T : Tx K mg) : ∃ fd, FnOk P w K mg base (L2.CX P w) 3 (He.ma K (He.ga K "Table") "word") fd ["self", "row"] spTWord ∧ Binds K fd ["self", "row"] [] := by
  obtain ⟨fd, F⟩ := T.c.def_ 37 (d := d_Tableword) rfl
  have Hr := ok_row (P := P) (w := w) (base := base) T
  refine ⟨fd, F.ok scTWord (fun vs H Q E h => ?_) (fun cdv A outer s H vs Q E hr h => ?_), FunD.bindsN F fun _ _ _ _ _ _ us hl => match us, hl with | [_, _], _ => rfl⟩
  · obtain ⟨p, ts, o, v, d, rfl, _⟩ := h
    rfl
  · have hu : (A.deeper (envOfC d_Tableword.qual d_Tableword.scope s.heap.objs.size (He.fAd K d_Tableword.at_) cdv)).units + 1 < cLine := by
      have := hr.un
      omega
    refine ⟨_, (pss_cons (ps_if (pt_not (pt_val (pe_has Hr (hr.mono (by decide)) pass0 (pa_cons (pv 1) pa_nil))))
 (pss_one (ps_raise rfl (takes_of rfl rfl rfl rfl) (pmk_mk0 PySem.F.excBase_ValueError (T.exq 66 rfl).1 (T.glo 7 rfl) (T.exq 66 rfl).2 (T.rai 66 rfl) (by rfl))))
 pss_nil)
 (pss_one (ps_ret (pe_dget2 hu (L2.pe_fld (pv 0) (by rfl)) (pv 1) (L2.pe_fld (pv 0) (by rfl)) ⟨by rfl, by rfl, by rfl, by rfl⟩)))), ?_⟩
    obtain ⟨p, ts, o, v, d, rfl, ta, hd, sh, hE, hQ⟩ := h
    have cS : Cls K (He.ga K "Table") := He.cls_ok (T.c.fact 69 rfl)
    have n2 : NoAttr K (He.ga K "Table") "other" := He.noat_ok (T.c.fact 71 rfl)
    have n3 : NoAttr K (He.ga K "Table") "_beside" := He.noat_ok (T.c.fact 70 rfl)
    refine ⟨_, rfl, v, d, rfl, hd, sh, fun H1 s1 => ⟨_, rfl, ite2 (fun e => ?_) (fun e => ?_)⟩⟩
    · exact hE (by simpa using e) H1 s1
    have e1 : rowD d = true := by simpa using e
    obtain ⟨dx, a, q, us, kvs, hp, ha, hu', hq, ind⟩ := (ta.same s1).ex
    obtain ⟨ds, rfl, al⟩ : ∃ ds, d = .tuple ds ∧ ds.all wordD = true := by
      cases d with
      | tuple ds =>
        have z : ds.length ≤ 400 ∧ ds.all wordD = true := by simpa [rowD] using e1
        exact ⟨ds, rfl, z.2⟩
      | _ => cases e1
    obtain ⟨c, cs, rfl, hc, hcs⟩ := Dx.tup_inv (Dx.same s1 _ _ hd)
    have ecs : cs = (rowK (txOf (.tuple ds))).map kV := by
      rw [rowK_v]
      exact row_texts al hcs
    rw [ecs] at hc
    refine ⟨_, rfl, p, _, dx, _, _, rfl, hp, cS, n3, rfl, q, rfl, .inr ⟨kvs, .inl hq⟩, _, rfl, _, rfl, p, _, dx, _, _, rfl, hp, cS, n2, rfl, _, DGet.t hq hc, ?_⟩
    rw [ind]
    have z := hQ e1 H1 s1
    cases hk : look ts (txOf (.tuple ds)) with
    | none => rw [hk] at z; exact z
    | some x => rw [hk] at z; exact z
theorem ok_teq (T : Tx K mg) : ∃ fd, FnOk P w K mg base CX0 1 (He.ma K (He.ga K "Table") "__eq__") fd ["self", "other"] spTEq ∧ Binds K fd ["self", "other"] [] := by
  obtain ⟨fd, F⟩ := T.c.def_ 36 (d := d_Table__eq__) rfl
  refine ⟨fd, F.ok scTEq (fun vs H Q E h => ?_) (fun cdv A outer s H vs Q E hr h => ?_), FunD.bindsN F fun _ _ _ _ _ _ us hl => match us, hl with | [_, _], _ => rfl⟩
  · obtain ⟨p, ts, o, y, rfl, _⟩ := h
    rfl
  · refine ⟨_, PSs.nox (pss_one (ps_ret (pe_and (pe_callB call_isi (by rfl) (T.free 56 rfl) (by decide +kernel) (pa_cons (pv 1) (pa_cons (pe_glob (v := .ref (He.ga K "Table")) (by rfl) (T.glo 12 rfl) rfl) pa_nil))) (pe_and (pe_cmpR (op_eqD hr.units) (L2.pe_fld (pv 0) (by rfl)) (L2.pe_fld (pv 1) (by rfl)) (nomark _)) (pe_one (pe_cmpR op_eq (L2.pe_fld (pv 0) (by rfl)) (L2.pe_fld (pv 1) (by rfl)) (nomark _))))))), ?_⟩
    obtain ⟨p, ts, o, y, rfl, ta, gt, h⟩ := h
    obtain ⟨dx, a, q, us, kvs, hp, ha, hu, hq, ind⟩ := ta.ex
    have cS : Cls K (He.ga K "Table") := He.cls_ok (T.c.fact 69 rfl)
    have n1 : NoAttr K (He.ga K "Table") "pairs" := He.noat_ok (T.c.fact 72 rfl)
    have n2 : NoAttr K (He.ga K "Table") "other" := He.noat_ok (T.c.fact 71 rfl)
    have iF := T.insK 0 (x := "Table") rfl
    have iC := iF.ins cS T.exs.2.2.2
    rcases h with ⟨d, hd, ne, hQ⟩ | ⟨a2, dx2, fs2, C2, rfl, e2, i2, k2, hQ⟩ | ⟨p2, ts', o', rfl, ta', gt', hQ⟩
    · obtain ⟨t, ty, kk, _⟩ := kxC_no iF hd ne
      exact ⟨_, rfl, y, .ref _, _, _, false, rfl, .own _, ty, kk, _, rfl, iteF hQ⟩
    · exact ⟨_, rfl, _, .ref _, _, _, false, rfl, .own _, TyX_ins e2 i2, k2, _, rfl, iteF hQ⟩
    · obtain ⟨dx', a', q', us', kvs', hp', ha', hu', hq', ind'⟩ := ta'.ex
      refine ⟨_, rfl, _, .ref _, _, _, true, rfl, .own _, TyX_ins hp' iC, iC.me, _, rfl, iteT ?_⟩
      have d1 : Dp K H (.ref a) (.tuple (ts.map mkP)) := dq_dp _ _ (by simp only [V2.plain]; exact plain_pairs ts) (.tup ha hu)
      have d1' : Dp K H (.ref a') (.tuple (ts'.map mkP)) := dq_dp _ _ (by simp only [V2.plain]; exact plain_pairs ts') (.tup ha' hu')
      refine ⟨_, rfl, p, _, dx, _, _, rfl, hp, cS, n1, rfl, _, rfl, p2, _, dx', _, _, rfl, hp', cS, n1, rfl, _, _, d1, d1', pairs_shaped gt, pairs_shaped gt', _, rfl, ?_⟩
      have z : PyData.eqv (.tuple (ts.map mkP)) (.tuple (ts'.map mkP)) = decide (ts = ts') := by
        simp only [PyData.eqv]
        exact eqv_pairs ts ts'
      rw [z]
      cases hc : decide (ts = ts') with
      | false =>
        rw [hc, Bool.false_and] at hQ
        exact iteF hQ
      | true =>
        rw [hc, Bool.true_and] at hQ
        have e : decide (V.str o = V.str o') = decide (o = o') := decide_eq_decide.mpr ⟨fun h => V.str.inj h, fun h => congrArg V.str h⟩
        refine iteT ⟨_, rfl, p, _, dx, _, _, rfl, hp, cS, n2, rfl, _, rfl, p2, _, dx', _, _, rfl, hp', cS, n2, rfl, rfl, ?_⟩
        rw [e]
        exact hQ
end
end K01

set_option maxHeartbeats 4000000
namespace V4
open PySem PySem.Spec PyProof.Rows L2
/-- what is not come to -/
theorem ps_no {X : Cx} {st : Stmt} : PS X st (fun _ _ _ => False) := ⟨fun _ _ _ _ _ _ h => h.elim⟩
end V4
namespace K01
open PySem PySem.Spec PyProof.Rows L2 V1 V2 V3
open Evl (pss_cut tCut sq_of st_of)
/-! a Program of no statements, a Voice -/
def spRight0 : Sp := fun vs H Q _ => ∃ a, vs = [.str "body", .ref a, .int 0, .int 0] ∧ H a = some (.tup []) ∧ Q (.bl true) H
def spInner0 : Sp := fun vs H Q _ => ∃ a, vs = [.str "body", .ref a, .int 0, .int 0] ∧ H a = some (.tup []) ∧ ∀ H' p, Same H H' → H' p = some (.lst []) → Q (.ref p) H'
def spProg0 : Sp := fun vs H Q _ => ∃ a, vs = [.ref a] ∧ H a = some (.tup []) ∧ ∀ H', Same H H' → Q (.bl true) H'
def spPInit [CurK] : Sp := fun vs H Q _ => ∃ p dx a, vs = [.ref p, .ref a] ∧ H p = some (.ins (He.ga K "Program") dx []) ∧ H a = some (.tup []) ∧ ∀ H', (∀ b o, b ≠ p → H b = some o → H' b = some o) → H' p = some (.ins (He.ga K "Program") dx [("statements", .ref a)]) → Q .non H'
def spVInit [CurK] : Sp := fun vs H Q _ => ∃ p dx v, vs = [.ref p, v] ∧ H p = some (.ins (He.ga K "Voice") dx []) ∧ ∀ H', (∀ b o, b ≠ p → H b = some o → H' b = some o) → H' p = some (.ins (He.ga K "Voice") dx [("telling", v)]) → Q .non H'
theorem scRight : FnScope ["sort", "thing", "around", "eaches"] ["sort", "thing", "around", "eaches"] (defScope s_is_right) := ⟨rfl, rfl, rfl, by decide +kernel, rfl, by decide +kernel, by decide +kernel⟩
theorem scInner : FnScope ["sort", "thing", "around", "eaches", "statement", "sorts", "within", "at"] ["sort", "thing", "around", "eaches"] (defScope s_inner_ones) := ⟨rfl, rfl, rfl, by decide +kernel, rfl, by decide +kernel, by decide +kernel⟩
theorem scProg : FnScope ["thing", "waiting", "many", "sort", "one", "around", "eaches"] ["thing"] (defScope s_is_program) := ⟨rfl, rfl, rfl, by decide +kernel, rfl, by decide +kernel, by decide +kernel⟩
theorem scPInit : FnScope ["self", "statements"] ["self", "statements"] (defScope s_Program__init__) := ⟨rfl, rfl, rfl, by decide +kernel, rfl, by decide +kernel, by decide +kernel⟩
theorem scVInit : FnScope ["self", "telling"] ["self", "telling"] (defScope s_Voice__init__) := ⟨rfl, rfl, rfl, by decide +kernel, rfl, by decide +kernel, by decide +kernel⟩
section
variable [CurK] {P : Program} {w : World} {mg : Str → Option Value} {base : Heap}
theorem ok_right (T : Tx K mg) : Has P w K mg base CX0 1 "is_right" ["sort", "thing", "around", "eaches"] spRight0 := by
  obtain ⟨fd, F⟩ := T.c.def_ 8 (d := d_is_right) rfl
  refine ⟨fd, F.ok scRight (fun vs H Q E h => ?_) (fun cdv A outer s H vs Q E hr h => ?_), FunD.bindsN F fun _ _ _ _ _ _ us hl => match us, hl with | [_, _, _, _], _ => rfl, F.kp, (T.glo 23 rfl)⟩
  · obtain ⟨a, rfl, _⟩ := h
    rfl
  · refine ⟨_, PSs.nox (pss_cons (ps_if (pt_cmpR op_eq (pv 0) pe_str (nomark _))
 (pss_one (ps_ret (pe_callB call_isi (by rfl) (T.free 56 rfl) (by decide +kernel) (pa_cons (pv 1) (pa_cons (pe_bltn (v := .ty "tuple") (by rfl) (T.free 62 rfl) (by decide +kernel) rfl) pa_nil)))))
 pss_nil)
 (pss_cons V4.ps_no
 (pss_cons V4.ps_no
 (pss_cons V4.ps_no
 (pss_one V4.ps_no))))), ?_⟩
    obtain ⟨a, rfl, ha, hQ⟩ := h
    refine ⟨_, rfl, rfl, _, rfl, iteT ?_⟩
    exact isx_go (kx_tup (.tuple [])) (fun Q q => ⟨_, rfl, q⟩) (.tup ha .nil) hQ
theorem ok_inner (T : Tx K mg) : Has P w K mg base CX0 1 "inner_ones" ["sort", "thing", "around", "eaches"] spInner0 := by
  obtain ⟨fd, F⟩ := T.c.def_ 9 (d := d_inner_ones) rfl
  refine ⟨fd, F.ok scInner (fun vs H Q E h => ?_) (fun cdv A outer s H vs Q E hr h => ?_), FunD.bindsN F fun _ _ _ _ _ _ us hl => match us, hl with | [_, _, _, _], _ => rfl, F.kp, (T.glo 24 rfl)⟩
  · obtain ⟨a, rfl, _⟩ := h
    rfl
  · refine ⟨_, PSs.nox (pss_cons (ps_if (pt_cmpR op_eq (pv 0) pe_str (nomark _))
 (pss_one (ps_ret (pe_lc (own := [("statement", 4)]) (g := gName 4) (tt := tYes) (te := tTup (tCons (tC (.str "statement")) (tCons (tVar 4) (tCons (tVar 2) (tCons (tVar 3) tNil))))) (by rfl) scInner.nd (pi_tup (pv 1))
 (blkOk_by (own := [("statement", 4)]) (N := ["sort", "thing", "around", "eaches", "statement", "sorts", "within", "at"]) (sc := defScope s_inner_ones) (by decide +kernel)) (fun _ _ _ _ _ => pg_name (i := 4) scInner.nd rfl (Or.inl rfl)) (fun _ _ _ _ _ => pts_nil) (fun _ _ _ _ _ => (pe_tup (pa_cons pe_str (pa_cons (pv 4) (pa_cons (pv 2) (pa_cons (pv 3) pa_nil)))))))))
 pss_nil)
 (pss_cons V4.ps_no
 (pss_cons V4.ps_no
 (pss_cons V4.ps_no
 (pss_one V4.ps_no))))), ?_⟩
    obtain ⟨a, rfl, ha, hQ⟩ := h
    refine ⟨_, rfl, rfl, _, rfl, iteT ?_⟩
    refine ⟨_, rfl, a, rfl, ⟨_, st_of ha⟩, fun D nD => ?_⟩
    refine lc_gen (vs := [4]) (walk_tup (K := K) (a := a) (xs := [])) nD (fun i acc H' => Same H H' ∧ acc = []) ⟨Same.refl H, rfl⟩ (fun i acc H' _ z => st_of (same_delH _ _ (z.1 _ _ ha))) ?_ ?_
    · rintro i acc x H1 H2 hi
      exact absurd hi (Nat.not_lt_zero i)
    · rintro acc H2 l e2 ⟨sm, rfl⟩
      exact hQ H2 D (sm.trans same_delH) e2
theorem ok_prog (T : Tx K mg) : Has P w K mg base CX0 2 "is_program" ["thing"] spProg0 := by
  obtain ⟨fd, F⟩ := T.c.def_ 10 (d := d_is_program) rfl
  have Hri := ok_right (P := P) (w := w) (base := base) T
  have Hin := ok_inner (P := P) (w := w) (base := base) T
  obtain ⟨tMA, gMA⟩ := (T.int 15 rfl)
  refine ⟨fd, F.ok scProg (fun vs H Q E h => ?_) (fun cdv A outer s H vs Q E hr h => ?_), FunD.bindsN F fun _ _ _ _ _ _ us hl => match us, hl with | [_], _ => rfl, F.kp, (T.glo 25 rfl)⟩
  · obtain ⟨a, rfl, _⟩ := h
    rfl
  · refine ⟨_, PSs.nox (pss_cons (ps_set (i := 1) scProg.nd rfl (Or.inl rfl) (pe_lstS (pa_cons (pe_tup (pa_cons pe_str (pa_cons (pv 0) (pa_cons pe_int (pa_cons pe_int pa_nil))))) pa_nil)))
 (pss_cons (ps_set (i := 2) scProg.nd rfl (Or.inl rfl) pe_int)
 (pss_cons (ps_while PassesOwn.never (pt_truth (pv 1) (by intro _; rfl))
 (pss_cons (ps_asg (pe_bm0 PySem.F.plainAttrs_list PySem.F.slot_list_pop PySem.F.type_list_pop mt_pop (pv 1)) (pg_tup (by rfl) (pgs_cons (pg_name (i := 3) scProg.nd rfl (Or.inl rfl)) (pgs_cons (pg_name (i := 4) scProg.nd rfl (Or.inl rfl)) (pgs_cons (pg_name (i := 5) scProg.nd rfl (Or.inl rfl)) (pgs_cons (pg_name (i := 6) scProg.nd rfl (Or.inl rfl)) pgs_nil))))))
 (pss_cons (ps_if (pt_not (pt_val (pe_has Hri (hr.mono (by decide)) pass0 (pa_cons (pv 3) (pa_cons (pv 4) (pa_cons (pv 5) (pa_cons (pv 6) pa_nil)))))))
 (pss_one (ps_ret pe_bl))
 pss_nil)
 (pss_cons (ps_if (pt_cmpR op_in_seq (pv 3) (pe_tup (pa_cons pe_str (pa_cons pe_str (pa_cons pe_str pa_nil)))) (by rfl))
 (pss_one V4.ps_no)
 pss_nil)
 (pss_one (ps_expr (pe_bm PySem.F.plainAttrs_list PySem.F.slot_list_extend PySem.F.type_list_extend mt_extend (pv 1) (pa_cons (pe_has Hin (hr.mono (by decide)) pass0 (pa_cons (pv 3) (pa_cons (pv 4) (pa_cons (pv 5) (pa_cons (pv 6) pa_nil))))) pa_nil))))))))
 (pss_one (ps_ret (pe_cmpR op_le (pv 2) (pe_glob (v := .int 500) (by rfl) gMA ⟨_, rfl⟩) (nomark _))))))), ?_⟩
    obtain ⟨a, rfl, ha, hQ⟩ := h
    refine ⟨_, rfl, (by show 4 ≤ sizeLine; decide), fun q nq => ⟨(by show 1 ≤ sizeLine; decide), fun k nk _ => ?_⟩⟩
    have s1 := same_new (o := HO.tup [.str "body", .ref a, .int 0, .int 0]) nq
    have eq1 : upd H q (HO.tup [.str "body", .ref a, .int 0, .int 0]) q = some (.tup [.str "body", .ref a, .int 0, .int 0]) := upd_same
    generalize upd H q (HO.tup [.str "body", .ref a, .int 0, .int 0]) = H1 at s1 eq1 nk ⊢
    have s2 : Same H1 (delH (upd H1 k (HO.lst [.ref q])) k) := fun b o e => by rw [delH_upd, delH_ne (ne_of_none e nk)]; exact e
    have e2 : upd H1 k (HO.lst [.ref q]) k = some (.lst [.ref q]) := upd_same
    generalize upd H1 k (HO.lst [.ref q]) = H2 at s2 e2 ⊢
    refine ⟨fun m σ H' => (m = 1 ∧ (∃ o3 o4 o5 o6, σ = [some (.ref a), some (.ref k), some (.int 0), o3, o4, o5, o6]) ∧ H' k = some (.lst [.ref q]) ∧ Same H1 (delH H' k)) ∨ (m = 0 ∧ (∃ o3 o4 o5 o6, σ = [some (.ref a), some (.ref k), some (.int 0), o3, o4, o5, o6]) ∧ H' k = some (.lst []) ∧ Same H1 (delH H' k)), ⟨1, .inl ⟨rfl, ⟨_, _, _, _, rfl⟩, e2, s2⟩⟩, ?_⟩
    rintro m σ H3 (⟨rfl, ⟨o3, o4, o5, o6, rfl⟩, e3, s3⟩ | ⟨rfl, ⟨o3, o4, o5, o6, rfl⟩, e3, s3⟩)
    · refine ⟨_, rfl, true, .inl ⟨_, sq_of e3, rfl⟩, iteT ⟨fun σ' H' => ∃ m', m' < 1 ∧ _, fun _ _ h => h, ?_⟩⟩
      refine ⟨_, rfl, .inl ⟨rfl, _, sq_of e3⟩, k, [.ref q], .ref q, rfl, rfl, e3, by simp, ?_⟩
      have e4 : upd H3 k (HO.lst ([.ref q] : List V).dropLast) k = some (.lst []) := upd_same
      have s4 : Same H1 (delH (upd H3 k (HO.lst ([.ref q] : List V).dropLast)) k) := by rw [delH_upd]; exact s3
      generalize upd H3 k (HO.lst ([.ref q] : List V).dropLast) = H4 at e4 s4 ⊢
      have up : Same H1 H4 := s4.trans same_delH
      refine ⟨q, _, rfl, st_of (up _ _ eq1), rfl, _, _, rfl, _, _, rfl, _, _, rfl, _, _, rfl, rfl, ?_⟩
      refine ⟨_, rfl, _, rfl, _, rfl, _, rfl, a, rfl, up _ _ (s1 _ _ ha), _, rfl, iteF ?_⟩
      refine ⟨_, rfl, (by show 3 ≤ sizeLine; decide), fun r nr => ?_⟩
      have e5 := same_new (o := HO.tup [.str "statement", .str "e", .str "c"]) nr _ _ e4
      have s5 := s4.trans (same_del (same_new (o := HO.tup [.str "statement", .str "e", .str "c"]) nr))
      have er : upd H4 r (HO.tup [.str "statement", .str "e", .str "c"]) r = some (.tup [.str "statement", .str "e", .str "c"]) := upd_same
      generalize upd H4 r (HO.tup [.str "statement", .str "e", .str "c"]) = H5 at e5 s5 er ⊢
      refine ⟨r, _, rfl, .inr (st_of er), rfl, by decide +kernel, _, rfl, ?_⟩
      rw [show (if false = true then !inV (V.str "body") [V.str "statement", V.str "e", V.str "c"] else inV (V.str "body") [V.str "statement", V.str "e", V.str "c"]) = false by decide +kernel]
      refine iteF ?_
      refine ⟨_, rfl, .inl ⟨rfl, _, sq_of e5⟩, _, rfl, _, rfl, _, rfl, _, rfl, a, rfl, (s5.trans same_delH) _ _ (s1 _ _ ha), fun H6 p s6 ep => ?_⟩
      exact ⟨k, p, [], [], rfl, rfl, s6 _ _ e5, ep, by decide, 0, by decide, .inr ⟨rfl, ⟨_, _, _, _, rfl⟩, upd_same, by rw [delH_upd]; exact s5.trans (same_del s6)⟩⟩
    · refine ⟨_, rfl, false, .inl ⟨_, sq_of e3, rfl⟩, iteF ⟨_, rfl, _, _, rfl, rfl, ?_⟩⟩
      exact hQ H3 ((s1.trans s3).trans same_delH)
theorem ok_pinit (T : Tx K mg) : HasC P w K mg base (L2.CX P w) 4 "Program" ["self", "statements"] spPInit := by
  obtain ⟨fd, F⟩ := T.c.def_ 40 (d := d_Program__init__) rfl
  have Hpr := ok_prog (P := P) (w := w) (base := base) T
  have cS : Cls K (He.ga K "Program") := He.cls_ok (T.c.fact 82 rfl)
  have n1 : NoAttr K (He.ga K "Program") "statements" := He.noat_ok (T.c.fact 83 rfl)
  refine ⟨_, fd, He.mkr_ok (T.c.fact 84 rfl), F.ok scPInit (fun vs H Q E h => ?_) (fun cdv A outer s H vs Q E hr h => ?_), FunD.bindsN F fun _ _ _ _ _ _ us hl => match us, hl with | [_, _], _ => rfl, (T.glo 30 rfl)⟩
  · obtain ⟨p, dx, a, rfl, _⟩ := h
    rfl
  · refine ⟨_, (pss_cons (ps_if (pt_not (pt_val (pe_has Hpr (hr.mono (by decide)) pass0 (pa_cons (pv 1) pa_nil))))
 (pss_one (ps_raise rfl (takes_of rfl rfl rfl rfl) (pmk_mk0 PySem.F.excBase_ValueError (T.exq 67 rfl).1 (T.glo 8 rfl) (T.exq 67 rfl).2 (T.rai 67 rfl) (by rfl))))
 pss_nil)
 (pss_one (ps_fld (pv 0) (pv 1) (by rfl)))), ?_⟩
    obtain ⟨p, dx, a, rfl, hp, ha, hQ⟩ := h
    refine ⟨_, rfl, a, rfl, ha, fun H1 s1 => ⟨_, rfl, iteF ?_⟩⟩
    refine ⟨_, rfl, _, rfl, p, _, dx, [], rfl, s1 _ _ hp, cS, n1, (by show 0 < 1000; decide), hQ _ (fun b o ne e => ?_) upd_same⟩
    rw [upd_ne ne]
    exact s1 _ _ e
theorem ok_vinit (T : Tx K mg) : HasC P w K mg base CX0 1 "Voice" ["self", "telling"] spVInit := by
  obtain ⟨fd, F⟩ := T.c.def_ 38 (d := d_Voice__init__) rfl
  have cS : Cls K (He.ga K "Voice") := He.cls_ok (T.c.fact 77 rfl)
  have n1 : NoAttr K (He.ga K "Voice") "telling" := He.noat_ok (T.c.fact 78 rfl)
  refine ⟨_, fd, He.mkr_ok (T.c.fact 79 rfl), F.ok scVInit (fun vs H Q E h => ?_) (fun cdv A outer s H vs Q E hr h => ?_), FunD.bindsN F fun _ _ _ _ _ _ us hl => match us, hl with | [_, _], _ => rfl, (T.glo 13 rfl)⟩
  · obtain ⟨p, dx, v, rfl, _⟩ := h
    rfl
  · refine ⟨_, PSs.nox (pss_one (ps_fld (pv 0) (pv 1) (by rfl))), ?_⟩
    obtain ⟨p, dx, v, rfl, hp, hQ⟩ := h
    refine ⟨_, rfl, _, rfl, p, _, dx, [], rfl, hp, cS, n1, (by show 0 < 1000; decide), hQ _ (fun b o ne e => ?_) upd_same⟩
    rw [upd_ne ne]
    exact e
end
end K01

set_option maxHeartbeats 4000000
namespace K01
open PySem PySem.Spec PyProof.Rows L2 V1 V2 V3
open Evl (pss_cut tCut sq_of st_of)
/-- at a: the hand: its cells' list, the four numbers -/
structure HandAt (H : Hp) (a : Addr) : Prop where
  ex : ∃ (c : Addr) (cs : List Int) (i1 i2 i3 i4 : Int), H a = some (.lst [.ref c, .int i1, .int i2, .int i3, .int i4]) ∧ (delH H a) c = some (.lst (cs.map V.int)) ∧ 0 ≤ i1 ∧ 0 ≤ i2
theorem HandAt.new {H H' : Hp} {a : Addr} (h : HandAt H a) (e : H' a = H a) (s : Same (delH H a) (delH H' a)) : HandAt H' a := by
  obtain ⟨c, cs, i1, i2, i3, i4, h1, h2, h3⟩ := h.ex
  exact ⟨c, cs, i1, i2, i3, i4, e.trans h1, s _ _ h2, h3⟩
def cellsOf (H : Hp) (a : Addr) : Option V := match H a with
  | some (.lst (x :: _)) => some x
  | _ => none
theorem cellsOf_at {H : Hp} {a : Addr} {x : V} {xs : List V} (h : H a = some (.lst (x :: xs))) : cellsOf H a = some x := by
  unfold cellsOf
  rw [h]
theorem HandAt.cells {H : Hp} {a : Addr} (h : HandAt H a) : ∃ (c : Addr) (cs : List Int), cellsOf H a = some (.ref c) ∧ c ≠ a ∧ H c = some (.lst (cs.map V.int)) := by
  obtain ⟨c, cs, i1, i2, i3, i4, e, e2, _⟩ := h.ex
  have ne : c ≠ a := fun z => by
    rw [z, delH_same] at e2
    cases e2
  exact ⟨c, cs, cellsOf_at e, ne, by rw [delH_ne ne] at e2; exact e2⟩
theorem HandAt.off {H : Hp} {a f c : Addr} (h : HandAt H a) (e : cellsOf H a = some (.ref c)) (nc : c ≠ f) (na : f ≠ a) : HandAt (delH H f) a := by
  obtain ⟨c', cs, i1, i2, i3, i4, e1, e2, p⟩ := h.ex
  rw [cellsOf_at e1] at e
  cases e
  refine ⟨c, cs, i1, i2, i3, i4, by rw [delH_ne (Ne.symm na)]; exact e1, ?_, p⟩
  have ne : c ≠ a := fun z => by
    rw [z, delH_same] at e2
    cases e2
  rw [delH_ne ne] at e2 ⊢
  rw [delH_ne nc]
  exact e2
def spDraw : Sp := fun vs H Q _ => ∃ (a : Addr) (m : Int), vs = [.ref a, .int m] ∧ HandAt H a ∧ 0 < m ∧ m < 1000000000 ∧
  ∀ (H' : Hp) (r : Int), HandAt H' a → delH H' a = delH H a → cellsOf H' a = cellsOf H a → 0 ≤ r → r < m → Q (.int r) H'
def spHand (K : PySem.W.Frag) : Sp := fun vs H Q _ => ∃ (a : Addr) (ns : List Int), vs = [.ref a] ∧ SqL K H a (ns.map V.int) ∧ ns.length ≤ 63 ∧ ∀ (H' : Hp) (p : Addr), Same H H' → H p = none → HandAt H' p → Q (.ref p) H'
theorem scHand : FnScope ["script", "cell"] ["script"] (defScope s__law_hand) := ⟨rfl, rfl, rfl, by decide +kernel, rfl, by decide +kernel, by decide +kernel⟩
theorem scDraw : FnScope ["hand", "many", "cell", "digit", "number"] ["hand", "many"] (defScope s__law_draw) := ⟨rfl, rfl, rfl, by decide +kernel, rfl, by decide +kernel, by decide +kernel⟩
theorem scSome : FnScope ["hand", "things"] ["hand", "things"] (defScope s__law_pick) := ⟨rfl, rfl, rfl, by decide +kernel, rfl, by decide +kernel, by decide +kernel⟩
theorem rest_in (z : Int) {m : Int} (h : 0 < m) : 0 ≤ z % m ∧ z % m < m := ⟨Int.emod_nonneg _ (by omega), Int.emod_lt_of_pos _ h⟩
theorem ix0 {K : PySem.W.Frag} {σ : L2.St} {H : Hp} {Q : VK} {k : Nat} {a : Addr} {xs : List V} {n : Int} {v : V} (h0 : σ[k]? = some (some (.ref a))) (hH : H a = some (.lst xs)) (hv : atI xs n = some v) (q : Q v H) : tOp (rIxL K) (tVar k) (tC (.int n)) σ H Q :=
  ⟨_, h0, a, xs, n, v, rfl, rfl, sq_of hH, hv, q⟩

theorem cut63 (ns : List Int) : cutV (ns.map V.int) none (some 63) = (ns.take 63).map V.int := by
  unfold cutV
  rw [show HT.sIx (ns.map V.int).length (ns.map V.int).length (some 63) = min 63 (ns.map V.int).length from HT.sIx_nat _ _ 63, HT.sIx_none]
  simp [List.map_take, Nat.min_comm]
def teCell : TE := tCB (fun xs H Q => (∃ i, xs = [.int i] ∧ Q (.int i) H) ∨ ∃ k, xs = [.bl k] ∧ Q (.int (if k then 1 else 0)) H) (tCons (tVar 1) tNil)
theorem hand_same {H H' : Hp} {a : Addr} (h : HandAt H a) (s : Same H H') : HandAt H' a := by
  obtain ⟨c, cs, i1, i2, i3, i4, e, _⟩ := h.ex
  exact h.new ((s _ _ e).trans e.symm) (same_del s)
theorem cells_same {H H' : Hp} {a : Addr} (h : HandAt H a) (s : Same H H') : cellsOf H' a = cellsOf H a := by
  obtain ⟨c, cs, i1, i2, i3, i4, e, _⟩ := h.ex
  rw [cellsOf_at e, cellsOf_at (s _ _ e)]
theorem HandAt.held {H : Hp} {a : Addr} (h : HandAt H a) : Held H a := by
  obtain ⟨c, cs, i1, i2, i3, i4, e, _⟩ := h.ex
  exact ⟨_, e⟩
theorem del2_upd {H : Hp} {a f : Addr} {o : HO} : delH (delH (upd H f o) a) f = delH (delH H a) f := by
  funext b
  by_cases e : b = f
  · rw [e, delH_same, delH_same]
  · rw [delH_ne e, delH_ne e]
    by_cases e2 : b = a
    · rw [e2, delH_same, delH_same]
    · rw [delH_ne e2, delH_ne e2, upd_ne e]
theorem tup_off {H : Hp} {a b : Addr} {xs : List V} (h : HandAt H a) (e : H b = some (.tup xs)) : (delH H a) b = some (.tup xs) := by
  have ne : b ≠ a := fun z => by
    obtain ⟨c, cs, i1, i2, i3, i4, e1, _⟩ := h.ex
    rw [z, e1] at e
    cases e
  rw [delH_ne ne]
  exact e
structure Go (a : Addr) (H H' : Hp) : Prop where
  hd : HandAt H' a
  ce : cellsOf H' a = cellsOf H a
  sm : Same (delH H a) (delH H' a)
theorem Go.refl {a : Addr} {H : Hp} (h : HandAt H a) : Go a H H := ⟨h, rfl, Same.refl _⟩
theorem Go.new {a : Addr} {H H' : Hp} (h : HandAt H a) (s : Same H H') : Go a H H' := ⟨hand_same h s, cells_same h s, same_del s⟩
theorem Go.draw {a : Addr} {H H' : Hp} (h1 : HandAt H' a) (h2 : delH H' a = delH H a) (h3 : cellsOf H' a = cellsOf H a) : Go a H H' := ⟨h1, h3, by rw [h2]; exact Same.refl _⟩
theorem Go.trans {a : Addr} {H H1 H2 : Hp} (g : Go a H H1) (g' : Go a H1 H2) : Go a H H2 := ⟨g'.hd, g'.ce.trans g.ce, g.sm.trans g'.sm⟩
theorem Go.at_ {a b : Addr} {H H' : Hp} {o : HO} (g : Go a H H') (h : delH H a b = some o) : delH H' a b = some o := g.sm _ _ h
theorem HandAt.ne_new {H : Hp} {a q : Addr} (h : HandAt H a) (n : H q = none) : q ≠ a := fun z => by
  obtain ⟨o, e⟩ := h.held
  rw [z, e] at n
  cases n
theorem del_comm {H : Hp} {a f : Addr} : delH (delH H a) f = delH (delH H f) a := by
  funext b
  by_cases e : b = f
  · subst e
    rw [delH_same]
    by_cases e2 : b = a
    · rw [e2, delH_same]
    · rw [delH_ne e2, delH_same]
  · by_cases e2 : b = a
    · rw [delH_ne e, e2, delH_same, delH_same]
    · rw [delH_ne e, delH_ne e2, delH_ne e2, delH_ne e]
theorem Go.draw_in {a D c : Addr} {H0 H H' : Hp} (g : Go a H0 (delH H D)) (hc : cellsOf H0 a = some (.ref c)) (cD : c ≠ D) (Da : D ≠ a) (h1 : HandAt H' a) (h2 : delH H' a = delH H a) (h3 : cellsOf H' a = cellsOf H a) : Go a H0 (delH H' D) ∧ H' D = H D := by
  have cel : ∀ {X : Hp}, cellsOf (delH X D) a = cellsOf X a := fun {X} => by
    unfold cellsOf
    rw [delH_ne (Ne.symm Da)]
  have z : cellsOf H' a = some (.ref c) := h3.trans ((cel.symm.trans g.ce).trans hc)
  refine ⟨⟨h1.off z cD Da, cel.trans (z.trans hc.symm), ?_⟩, ?_⟩
  · rw [del_comm, h2, del_comm]
    exact g.sm
  · have y := congrFun h2 D
    rw [delH_ne Da, delH_ne Da] at y
    exact y
theorem pos_of {xs : List Int} {i : Nat} {v : V} (h : (xs.map V.int)[i]? = some v) (p : ∀ x ∈ xs, 0 ≤ x) : ∃ z, v = .int z ∧ 0 ≤ z ∧ z ∈ xs := by
  rw [List.getElem?_map] at h
  obtain ⟨z, hz, rfl⟩ := Option.map_eq_some_iff.mp h
  exact ⟨z, rfl, p z (List.mem_of_getElem? hz), List.mem_of_getElem? hz⟩
section
variable [CurK]
theorem Go.dx {a : Addr} {H H' : Hp} {v : V} {d : PyData} (g : Go a H H') (h : Dx (delH H a) v d) : Dx (delH H' a) v d := Dx.same g.sm _ _ h
structure LD (H0 : Hp) (a f c : Addr) (ds : List PyData) (H : Hp) : Prop where
  hd : HandAt H a
  ce : cellsOf H a = some (.ref c)
  sm : Same (delH H0 a) (delH (delH H a) f)
  at_ : ∃ acc, H f = some (.lst acc) ∧ DxAll (delH (delH H a) f) acc ds
theorem LD.draw {H0 H H' : Hp} {a f c : Addr} {ds : List PyData} (h : LD H0 a f c ds H) (na : f ≠ a) (h1 : HandAt H' a) (h2 : delH H' a = delH H a) (h3 : cellsOf H' a = cellsOf H a) : LD H0 a f c ds H' := by
  obtain ⟨acc, e, d⟩ := h.at_
  refine ⟨h1, h3.trans h.ce, by rw [h2]; exact h.sm, acc, ?_, by rw [h2]; exact d⟩
  have z := congrFun h2 f
  rw [delH_ne na, delH_ne na] at z
  exact z.trans e
theorem LD.new {H0 H H' : Hp} {a f c : Addr} {ds : List PyData} (h : LD H0 a f c ds H) (s : Same H H') : LD H0 a f c ds H' := by
  obtain ⟨acc, e, d⟩ := h.at_
  exact ⟨hand_same h.hd s, (cells_same h.hd s).trans h.ce, h.sm.trans (same_del (same_del s)), acc, s _ _ e, DxAll.same (same_del (same_del s)) _ _ d⟩
theorem LD.put {H0 H : Hp} {a f c : Addr} {ds ds' : List PyData} {acc' : List V} (h : LD H0 a f c ds H) (na : f ≠ a) (nc : c ≠ f) (d : DxAll (delH (delH H a) f) acc' ds') :
    LD H0 a f c ds' (upd H f (.lst acc')) := by
  have o := h.hd.off h.ce nc na
  refine ⟨?_, ?_, ?_, acc', upd_same, ?_⟩
  · have z : HandAt (delH (upd H f (.lst acc')) f) a := by rw [delH_upd]; exact o
    exact hand_same z same_delH
  · have z := h.ce
    unfold cellsOf at z ⊢
    rw [upd_ne (Ne.symm na)]
    exact z
  · rw [del2_upd]
    exact h.sm
  · rw [del2_upd]
    exact d
theorem LD.held {H0 H : Hp} {a f c : Addr} {ds : List PyData} (h : LD H0 a f c ds H) : Held H f := by
  obtain ⟨acc, e, _⟩ := h.at_
  exact ⟨_, e⟩
end
/-- the items of a list, a tuple, a string -/
def ItsOf (H : Hp) (a : Addr) (x : V) (xs : List V) : Prop :=
  (∃ p, x = .ref p ∧ p ≠ a ∧ (H p = some (.lst xs) ∨ H p = some (.tup xs))) ∨ ∃ z : Str, x = .str z ∧ xs = z.cps.toList.map fun c => V.str ⟨#[c]⟩
def spSome : Sp := fun vs H Q _ => ∃ (a : Addr) (x : V) (xs : List V), vs = [.ref a, x] ∧ HandAt H a ∧ ItsOf H a x xs ∧ 0 < xs.length ∧ xs.length < 1000 ∧
  ∀ (H' : Hp) (i : Nat) (v : V), HandAt H' a → delH H' a = delH H a → cellsOf H' a = cellsOf H a → xs[i]? = some v → Q v H'
theorem some_ints {H : Hp} {a q : Addr} {Q : VK} (xs : List Int) (hd : HandAt H a) (nq : H q = none) (px : ∀ x ∈ xs, 0 ≤ x) (l0 : 0 < xs.length) (l1 : xs.length < 1000)
    (k : ∀ H2 (z : Nat), Go a H H2 → ((z : Nat) : Int) ∈ xs → Q (.int ((z : Nat) : Int)) H2) : spSome [.ref a, .ref q] (upd H q (.lst (xs.map V.int))) Q (fun _ _ _ => False) := by
  have s1 := same_new (o := HO.lst (xs.map V.int)) nq
  refine ⟨a, _, _, rfl, hand_same hd s1, .inl ⟨q, rfl, hd.ne_new nq, .inl upd_same⟩, by rw [List.length_map]; exact l0, by rw [List.length_map]; exact l1, fun H2 i v hd2 e2 c2 ev => ?_⟩
  obtain ⟨z, rfl, z0, zm⟩ := pos_of ev px
  obtain ⟨j, rfl⟩ := Int.eq_ofNat_of_zero_le z0
  exact k H2 j ((Go.new hd s1).trans (Go.draw hd2 e2 c2)) zm
theorem some_data [CurK] {H : Hp} {a : Addr} {v : V} {d : PyData} {ds : List PyData} {Q : VK} (hd : HandAt H a) (q : Dx (delH H a) v d) (ed : d = .list ds ∨ d = .tuple ds) (l0 : 0 < ds.length) (l1 : ds.length < 1000)
    (k : ∀ H2 w d, Go a H H2 → d ∈ ds → Dx (delH H2 a) w d → Q w H2) : spSome [.ref a, v] H Q (fun _ _ _ => False) := by
  obtain ⟨p, xs, rfl, at_, rest⟩ : ∃ p xs, v = .ref p ∧ (delH H a p = some (.lst xs) ∨ delH H a p = some (.tup xs)) ∧ DxAll (delH H a) xs ds := by
    rcases ed with rfl | rfl
    · cases q with | lst at_ low rest => exact ⟨_, _, rfl, .inl at_, rest⟩
    · cases q with | tup at_ rest => exact ⟨_, _, rfl, .inr at_, rest⟩
  have na : p ≠ a := fun z => by
    rw [z, delH_same] at at_
    rcases at_ with h | h <;> cases h
  rw [delH_ne na] at at_
  have lr := dxAll_len rest
  refine ⟨a, _, _, rfl, hd, .inl ⟨p, rfl, na, at_⟩, by rw [lr]; exact l0, by rw [lr]; exact l1, fun H2 i w hd2 e2 c2 ev => ?_⟩
  obtain ⟨d, m, z⟩ := DxAll.some rest ev
  exact k H2 w d (Go.draw hd2 e2 c2) m (by rw [e2]; exact z)
theorem cells_del {H : Hp} {a D : Addr} (n : D ≠ a) : cellsOf (delH H D) a = cellsOf H a := by
  unfold cellsOf
  rw [delH_ne (Ne.symm n)]
theorem Go.undel {a D : Addr} {H0 H : Hp} (g : Go a H0 (delH H D)) (n : D ≠ a) : Go a H0 H := ⟨hand_same g.hd same_delH, (cells_del n).symm.trans g.ce, fun b o e => by
  have z := g.sm b o e
  rw [del_comm] at z
  exact same_delH _ _ z⟩
theorem go_cell {a c : Addr} {H H' : Hp} {cs : List Int} (g : Go a H H') (hce : cellsOf H a = some (.ref c)) (nca : c ≠ a) (hc : H c = some (.lst (cs.map V.int))) : cellsOf H' a = some (.ref c) ∧ H' c = some (.lst (cs.map V.int)) :=
  ⟨g.ce.trans hce, same_delH _ _ (g.sm _ _ (by rw [delH_ne nca]; exact hc))⟩

section
variable [CurK] {P : Program} {w : World} {mg : Str → Option Value} {base : Heap}
theorem ok_hand (T : Tx K mg) : Has P w K mg base CX0 1 "_law_hand" ["script"] (spHand K) := by
  obtain ⟨fd, F⟩ := T.c.def_ 15 (d := d__law_hand) rfl
  refine ⟨fd, F.ok scHand (fun vs H Q E h => ?_) (fun cdv A outer s H vs Q E hr h => ?_), FunD.bindsN F fun _ _ _ _ _ _ us hl => match us, hl with | [_], _ => rfl, F.kp, (T.glo 31 rfl)⟩
  · obtain ⟨a, ns, rfl, _⟩ := h
    rfl
  · refine ⟨_, PSs.nox (pss_one (ps_ret (pe_lst (pa_cons (pe_lc (own := [("cell", 1)]) (g := gName 1) (tt := tYes) (te := teCell) (by rfl) scHand.nd (pi_list (pe_slice sl_list (pv 0) po_none (po_some pe_int)))
 (blkOk_by (own := [("cell", 1)]) (N := ["script", "cell"]) (sc := defScope s__law_hand) (by decide +kernel)) (fun _ _ _ _ _ => pg_name (i := 1) scHand.nd rfl (Or.inl rfl)) (fun _ _ _ _ _ => pts_nil) (fun _ _ _ _ _ => (pe_callTy call_int1 (by rfl) (T.free 55 rfl) (by decide +kernel) (pa_cons (pv 1) pa_nil)))) (pa_cons pe_int (pa_cons pe_int (pa_cons pe_int (pa_cons pe_int pa_nil)))))))), ?_⟩
    obtain ⟨a, ns, rfl, hS, hl, hQ⟩ := h
    refine ⟨_, rfl, 63, rfl, a, _, rfl, hS, fun p np => ?_⟩
    rw [cut63]
    have sp := same_new (o := .lst ((ns.take 63).map V.int)) np
    refine ⟨p, rfl, ⟨_, sq_of upd_same⟩, fun D nD => ?_⟩
    refine lc_gen (σ := [some (.ref a), none]) (vs := [1]) (walk_list (K := K) (a := p) (xs := (ns.take 63).map V.int)) nD (fun i acc H' => Same (upd H p (.lst ((ns.take 63).map V.int))) H' ∧ ∃ cs : List Int, acc = cs.map V.int) ⟨Same.refl _, [], rfl⟩ (fun i acc H' _ z => sq_of (same_delH _ _ (z.1 _ _ upd_same))) ?_ ?_
    · rintro i acc x H1 H2 hi l e ⟨sm, cs, rfl⟩ ⟨rfl, hx⟩
      rw [List.getElem?_map] at hx
      obtain ⟨z, hz, rfl⟩ := Option.map_eq_some_iff.mp hx
      refine ⟨rfl, ?_⟩
      simp only [tYes, if_true]
      have li : i < 1000 := by
        rw [List.length_map, List.length_take] at hi
        omega
      exact ⟨_, rfl, .inl ⟨z, rfl, lc_put l li e ⟨sm, cs ++ [z], by rw [List.map_append]; rfl⟩⟩⟩
    · rintro acc H1 l e ⟨sm, cs, rfl⟩
      have s1 : Same H H1 := fun b o ob => same_delH _ _ (sm _ _ (sp _ _ ob))
      refine ⟨(by show 5 ≤ sizeLine; decide), fun q nq => ?_⟩
      refine hQ _ q (s1.trans (same_new nq)) (fresh_up s1 nq) ⟨D, cs, _, _, _, _, upd_same, ?_, by decide, by decide⟩
      rw [delH_new nq]
      exact e
theorem ok_draw (T : Tx K mg) : Has P w K mg base CX0 1 "_law_draw" ["hand", "many"] spDraw := by
  obtain ⟨fd, F⟩ := T.c.def_ 16 (d := d__law_draw) rfl
  refine ⟨fd, F.ok scDraw (fun vs H Q E h => ?_) (fun cdv A outer s H vs Q E hr h => ?_), FunD.bindsN F fun _ _ _ _ _ _ us hl => match us, hl with | [_, _], _ => rfl, F.kp, (T.glo 32 rfl)⟩
  · obtain ⟨a, m, rfl, _⟩ := h
    rfl
  · refine ⟨_, PSs.nox (pss_cut (ps_if (PW.pt (pw_and (pt_cmpR op_eq (pe_ix ix_list (pv 0) pe_int (fun _ _ => rfl)) pe_int (nomark _)) (pw_and1 (pt_cmpR op_lt (pe_ix ix_list (pv 0) pe_int (fun _ _ => rfl)) (pe_callB call_len (by rfl) (T.free 57 rfl) PySem.boot_len (pa_cons (pe_ix ix_list (pv 0) pe_int (fun _ _ => rfl)) pa_nil)) (nomark _)))))
 (pss_cons (ps_set (i := 2) scDraw.nd rfl (Or.inl rfl) (pe_ix ix_list (pe_ix ix_list (pv 0) pe_int (fun _ _ => rfl)) (pe_ix ix_list (pv 0) pe_int (fun _ _ => rfl)) (fun _ _ => rfl)))
 (pss_cons (ps_asg (pe_op op_add (pe_ix ix_list (pv 0) pe_int (fun _ _ => rfl)) pe_int) (pg_sub (pv 0) pe_int set_list))
 (pss_cons (ps_asg (pe_op op_mod (pe_callTy call_int1 (by rfl) (T.free 55 rfl) (by decide +kernel) (pa_cons (pe_op op_add (pe_op op_add (pe_op op_mul (pe_ix ix_list (pv 0) pe_int (fun _ _ => rfl)) pe_int) (pe_op op_mul (pv 2) pe_int)) pe_int) pa_nil)) pe_int) (pg_sub (pv 0) pe_int set_list))
 (pss_one (ps_if (pt_cmpR op_ge (pv 2) (pe_op op_pow pe_int pe_int) (nomark _))
 (pss_one (ps_asg (pv 2) (pg_sub (pv 0) pe_int set_list)))
 pss_nil)))))
 pss_nil)
 (pss_cons (ps_if (pt_cmpR op_gt (pe_ix ix_list (pv 0) pe_int (fun _ _ => rfl)) pe_int (nomark _))
 (pss_cons (ps_set (i := 3) scDraw.nd rfl (Or.inl rfl) (pe_op op_mod (pe_callTy call_int1 (by rfl) (T.free 55 rfl) (by decide +kernel) (pa_cons (pe_ix ix_list (pv 0) pe_int (fun _ _ => rfl)) pa_nil)) (pv 1)))
 (pss_cons (ps_asg (pe_op op_fdiv (pe_ix ix_list (pv 0) pe_int (fun _ _ => rfl)) (pv 1)) (pg_sub (pv 0) pe_int set_list))
 (pss_one (ps_ret (pv 3)))))
 pss_nil)
 (pss_cons (ps_asg (pe_op op_add (pe_ix ix_list (pv 0) pe_int (fun _ _ => rfl)) pe_int) (pg_sub (pv 0) pe_int set_list))
 (pss_cons (ps_set (i := 4) scDraw.nd rfl (Or.inl rfl) (pe_op op_mod (pe_callTy call_int1 (by rfl) (T.free 55 rfl) (by decide +kernel) (pa_cons (pe_op op_mul (pe_op op_add (pe_ix ix_list (pv 0) pe_int (fun _ _ => rfl)) (pe_op op_mul pe_int (pe_ix ix_list (pv 0) pe_int (fun _ _ => rfl)))) pe_int) pa_nil)) pe_int))
 (pss_cons (ps_set (i := 4) scDraw.nd rfl (Or.inl rfl) (pe_op op_mod (pe_callTy call_int1 (by rfl) (T.free 55 rfl) (by decide +kernel) (pa_cons (pe_op op_mul (pv 4) (pe_op op_add (pe_op op_fdiv (pv 4) pe_int) pe_int)) pa_nil)) pe_int))
 (pss_cons (ps_set (i := 4) scDraw.nd rfl (Or.inl rfl) (pe_op op_mod (pe_callTy call_int1 (by rfl) (T.free 55 rfl) (by decide +kernel) (pa_cons (pe_op op_mul (pv 4) (pe_op op_add (pe_op op_fdiv (pv 4) pe_int) pe_int)) pa_nil)) pe_int))
 (pss_one (ps_ret (pe_op op_mod (pe_callTy call_int1 (by rfl) (T.free 55 rfl) (by decide +kernel) (pa_cons (pe_op op_fdiv (pv 4) pe_int) pa_nil)) (pv 1)))))))))), ?_⟩
    obtain ⟨a, m, rfl, hd, m0, m1, hQ⟩ := h
    obtain ⟨c, cs, i1, i2, i3, i4, h1, h2, h3, h4⟩ := hd.ex
    refine ⟨fun σ H1 => ∃ (j1 j2 j3 j4 : Int) (v2 : Option V), σ = [some (.ref a), some (.int m), v2, none, none] ∧ H1 a = some (.lst [.ref c, .int j1, .int j2, .int j3, .int j4]) ∧ delH H1 a = delH H a ∧ 0 ≤ j1 ∧ 0 ≤ j2, ?_, ?_⟩
    · -- a new cell is taken
      have hc : H c = some (.lst (cs.map V.int)) := same_delH _ _ h2
      have nca : c ≠ a := fun z => by
        rw [z, delH_same] at h2
        cases h2
      refine ix0 rfl h1 rfl ⟨rfl, _, rfl, ?_⟩
      refine ite2 (fun e2 => ?_) (fun _ => ?_)
      · refine ix0 rfl h1 rfl (ix0 rfl h1 rfl ⟨_, _, rfl, .inl ⟨_, sq_of hc, rfl⟩, _, _, rfl, rfl, _, rfl, ?_⟩)
        refine ite2 (fun e1 => ?_) (fun _ => ?_)
        · have e1' := of_decide_eq_true e1
          rw [List.length_map] at e1'
          obtain ⟨j, rfl⟩ := Int.eq_ofNat_of_zero_le h3
          have hj : j < cs.length := by omega
          have at_ : atI (cs.map V.int) ((j : Nat) : Int) = some (.int cs[j]) := atI_nat (by rw [List.getElem?_map, List.getElem?_eq_getElem hj]; rfl)
          refine ix0 rfl h1 rfl (ix0 rfl h1 rfl ⟨c, _, _, _, rfl, rfl, sq_of hc, at_, ?_⟩)
          refine ix0 rfl h1 rfl ⟨_, _, rfl, rfl, _, rfl, a, _, _, 1, rfl, rfl, h1, rfl, ?_⟩
          refine ix0 rfl upd_same rfl ⟨_, _, rfl, rfl, .inr ⟨by decide, by decide⟩, _, rfl, _, _, rfl, rfl, .inr ⟨by decide, by decide⟩, _, _, rfl, rfl, _, _, rfl, rfl, .inl ⟨_, rfl, _, _, rfl, rfl, (by show (0 : Int) < 2147483629; decide), _, rfl, a, _, _, 3, rfl, rfl, upd_same, rfl, ?_⟩⟩
          rw [upd_upd]
          refine ⟨_, rfl, _, _, rfl, rfl, ⟨by decide, by decide, by decide⟩, _, _, rfl, rfl, _, rfl, ?_⟩
          refine ite2 (fun big => ?_) (fun _ => ?_)
          · refine ⟨_, rfl, _, rfl, a, _, _, 2, rfl, rfl, upd_same, rfl, ?_⟩
            rw [upd_upd]
            refine ⟨_, _, _, _, _, rfl, upd_same, by rw [delH_upd], by omega, ?_⟩
            have b := of_decide_eq_true big
            exact Int.le_trans (by decide) b
          · refine ⟨_, _, _, _, _, rfl, upd_same, by rw [delH_upd], by omega, h4⟩
        · exact ⟨_, _, _, _, _, rfl, h1, rfl, h3, h4⟩
      · exact ⟨_, _, _, _, _, rfl, h1, rfl, h3, h4⟩
    · rintro σ H1 ⟨j1, j2, j3, j4, v2, rfl, g1, g2, g3, g4⟩
      refine ix0 rfl g1 rfl ⟨_, _, rfl, rfl, _, rfl, ?_⟩
      refine ite2 (fun e => ?_) (fun e => ?_)
      · refine ix0 rfl g1 rfl (.inl ⟨_, rfl, _, rfl, _, _, rfl, rfl, m0, ?_⟩)
        refine ix0 rfl g1 rfl ⟨_, rfl, _, _, rfl, rfl, ⟨m0, by omega⟩, _, rfl, a, _, _, 2, rfl, rfl, g1, rfl, _, rfl, ?_⟩
        refine hQ _ _ ⟨c, cs, j1, j2 / m, j3, j4, upd_same, ?_, g3, Int.ediv_nonneg g4 (by omega)⟩ (by rw [delH_upd, g2]) ((cellsOf_at (x := .ref c) upd_same).trans (cellsOf_at h1).symm) (Int.emod_nonneg _ (by omega)) (Int.emod_lt_of_pos _ m0)
        rw [delH_upd, g2]
        exact h2
      · refine ix0 rfl g1 rfl ⟨_, _, rfl, rfl, _, rfl, a, _, _, 4, rfl, rfl, g1, rfl, ?_⟩
        refine ix0 rfl upd_same rfl (ix0 rfl upd_same rfl ⟨_, _, rfl, rfl, .inl ⟨by decide, by decide⟩, _, _, rfl, rfl, _, _, rfl, rfl, .inr ⟨by decide, by decide⟩, .inl ⟨_, rfl, _, _, rfl, rfl, (by show (0 : Int) < 2147483647; decide), ?_⟩⟩)
        have b1 := rest_in ((j3 + 6271 * (j4 + 1)) * 48673) (m := 2147483647) (by decide)
        refine ⟨_, rfl, _, rfl, _, _, rfl, rfl, ⟨by decide, by decide⟩, _, _, rfl, rfl, _, _, rfl, rfl, .inl ⟨by omega, by omega⟩, .inl ⟨_, rfl, _, _, rfl, rfl, (by show (0 : Int) < 2147483647; decide), ?_⟩⟩
        have b2 := fun z : Int => rest_in z (m := 2147483647) (by decide)
        refine ⟨_, rfl, _, rfl, _, _, rfl, rfl, ⟨by decide, by decide⟩, _, _, rfl, rfl, _, _, rfl, rfl, .inl ⟨Int.lt_of_lt_of_le (by decide) (b2 _).1, Int.lt_of_lt_of_le (b2 _).2 (by decide)⟩, .inl ⟨_, rfl, _, _, rfl, rfl, (by show (0 : Int) < 2147483399; decide), ?_⟩⟩
        refine ⟨_, rfl, _, _, rfl, rfl, ⟨by decide, by decide⟩, .inl ⟨_, rfl, _, rfl, _, _, rfl, rfl, m0, ?_⟩⟩
        refine hQ _ _ ⟨c, cs, j1, j2, j3, j4 + 1, upd_same, ?_, g3, g4⟩ (by rw [delH_upd, g2]) ((cellsOf_at (x := .ref c) upd_same).trans (cellsOf_at h1).symm) (Int.emod_nonneg _ (by omega)) (Int.emod_lt_of_pos _ m0)
        rw [delH_upd, g2]
        exact h2
theorem ok_some (T : Tx K mg) : Has P w K mg base CX0 2 "_law_pick" ["hand", "things"] spSome := by
  obtain ⟨fd, F⟩ := T.c.def_ 17 (d := d__law_pick) rfl
  have Hd := ok_draw (P := P) (w := w) (base := base) T
  refine ⟨fd, F.ok scSome (fun vs H Q E h => ?_) (fun cdv A outer s H vs Q E hr h => ?_), FunD.bindsN F fun _ _ _ _ _ _ us hl => match us, hl with | [_, _], _ => rfl, F.kp, (T.glo 33 rfl)⟩
  · obtain ⟨a, p, xs, rfl, _⟩ := h
    rfl
  · refine ⟨_, PSs.nox (pss_one (ps_ret (pe_ix ix_seq (pv 1) (pe_has Hd (hr.mono (by decide)) pass0 (pa_cons (pv 0) (pa_cons (pe_callB call_len (by rfl) (T.free 57 rfl) PySem.boot_len (pa_cons (pv 1) pa_nil)) pa_nil))) (fun _ _ => rfl)))), ?_⟩
    obtain ⟨a, x, xs, rfl, hd, hp, l0, l1, hQ⟩ := h
    refine ⟨_, rfl, _, rfl, ?_⟩
    rcases hp with ⟨p, rfl, ne, hp⟩ | ⟨z, rfl, rfl⟩
    · refine ⟨_, rfl, _, _, rfl, (show LenV K (.ref p) H xs.length from hp.elim (fun e => .inl ⟨xs, sq_of e, rfl⟩) (fun e => .inr ⟨xs, st_of e, rfl⟩)), a, _, rfl, hd, by omega, by omega, fun H' r hd' e ec r0 r1 => ?_⟩
      obtain ⟨j, rfl⟩ := Int.eq_ofNat_of_zero_le r0
      have hj : j < xs.length := by omega
      have e' : ∀ o, H p = some o → H' p = some o := fun o h => by
        have z := congrFun e p
        rw [delH_ne ne, delH_ne ne] at z
        exact z.trans h
      rcases hp with hp | hp
      · exact .inl ⟨p, xs, _, xs[j], rfl, rfl, sq_of (e' _ hp), atI_nat (List.getElem?_eq_getElem hj), hQ H' j _ hd' e ec (List.getElem?_eq_getElem hj)⟩
      · exact .inr (.inl ⟨p, xs, _, xs[j], rfl, rfl, st_of (e' _ hp), atI_nat (List.getElem?_eq_getElem hj), hQ H' j _ hd' e ec (List.getElem?_eq_getElem hj)⟩)
    · rw [List.length_map] at l0 l1
      have lz : z.length = z.cps.toList.length := by simp [Str.length]
      refine ⟨_, rfl, _, _, rfl, (show LenV K (.str z) H z.length from ⟨Nat.le_of_lt (small1000 (by omega)), rfl⟩), a, _, rfl, hd, by omega, by omega, fun H' r hd' e ec r0 r1 => ?_⟩
      obtain ⟨j, rfl⟩ := Int.eq_ofNat_of_zero_le r0
      have hj : j < z.cps.toList.length := by omega
      exact .inr (.inr ⟨z, _, z.cps.toList[j], rfl, rfl, Nat.le_of_lt (small1000 (by omega)), atI_nat (List.getElem?_eq_getElem hj), hQ H' j _ hd' e ec (by rw [List.getElem?_map, List.getElem?_eq_getElem hj]; rfl)⟩)

end
end K01

set_option maxHeartbeats 4000000
namespace K01
open PySem PySem.Spec PyProof.Rows L2 V1 V2 V3
open Evl (pss_cut tCut sq_of st_of)
theorem walk_zipTT {K : PySem.W.Frag} {a b : Addr} {xs ys : List V} {n : Nat} (hn : n = min xs.length ys.length) : Walk (RZ.ItzT K a b) n (fun H => SqT K H a xs ∧ SqT K H b ys) (YPair (fun i => xs[i]?) (fun i => ys[i]?)) := by
  constructor
  · intro i H hi q
    obtain ⟨g1, g2⟩ : i < xs.length ∧ i < ys.length := by omega
    exact ⟨xs, ys, xs[i], ys[i], q.1, q.2, List.getElem?_eq_getElem g1, List.getElem?_eq_getElem g2⟩
  · exact fun H q => ⟨xs, ys, q.1, q.2, by omega⟩
  · rintro i H v H' hi q ⟨t, x, z, e1, e2, e3, e4, e5⟩
    exact ⟨t, x, z, e1, e2, e3, e4 xs q.1, e5 ys q.2⟩
/-- ints, texts, flags, None, tuples of such, so deep -/
def flatD : Nat → PyData → Bool
  | _, .none => true
  | _, .str _ => true
  | _, .bool _ => true
  | _, .int _ => true
  | n + 1, .tuple ds => decide (ds.length ≤ 900) && ds.all (flatD n)
  | _, _ => false
def spIs : Nat → Sp
  | 0 => fun _ _ _ _ => False
  | n + 1 => fun vs H Q _ => ∃ v u d, vs = [v, u] ∧ Dq H v d ∧ Dq H u d ∧ flatD n d = true ∧ ∀ H', Same H H' → Q (.bl true) H'
theorem scIs : FnScope ["told", "due", "one", "two"] ["told", "due"] (defScope s__law_is) := ⟨rfl, rfl, rfl, by decide +kernel, rfl, by decide +kernel, by decide +kernel⟩
section
variable [CurK] {P : Program} {w : World} {mg : Str → Option Value} {base : Heap}
theorem ok_is (T : Tx K mg) : ∀ n : Nat, Has P w K mg base CX0 (n + 1) "_law_is" ["told", "due"] (spIs n)
  | 0 => by
    obtain ⟨fd, F⟩ := T.c.def_ 18 (d := d__law_is) rfl
    exact ⟨fd, ⟨fun _ _ _ _ h => h.elim, fun _ _ _ _ _ _ _ _ _ _ _ _ _ h => h.elim⟩, FunD.bindsN F fun _ _ _ _ _ _ us hl => match us, hl with | [_, _], _ => rfl, F.kp, (T.glo 34 rfl)⟩
  | n + 1 => by
    obtain ⟨fd, F⟩ := T.c.def_ 18 (d := d__law_is) rfl
    have Hr := ok_is T n
    refine ⟨fd, F.ok scIs (fun vs H Q E h => ?_) (fun cdv A outer s H vs Q E hr h => ?_), FunD.bindsN F fun _ _ _ _ _ _ us hl => match us, hl with | [_, _], _ => rfl, F.kp, (T.glo 34 rfl)⟩
    · obtain ⟨v, u, d, rfl, _⟩ := h
      rfl
    · refine ⟨_, PSs.nox (pss_cons (ps_if (pt_val (pe_callB call_isiT (by rfl) (T.free 56 rfl) (by decide +kernel) (pa_cons (pv 1) (pa_cons (pe_tup (pa_cons (pe_bltn (v := .ty "tuple") (by rfl) (T.free 62 rfl) (by decide +kernel) rfl) (pa_cons (pe_bltn (v := .ty "list") (by rfl) (T.free 58 rfl) (by decide +kernel) rfl) pa_nil))) pa_nil))))
 (pss_cons (ps_if (PW.pt (pw_or (pt_cmpR op_ne (pe_callB call_isi (by rfl) (T.free 56 rfl) (by decide +kernel) (pa_cons (pv 0) (pa_cons (pe_bltn (v := .ty "tuple") (by rfl) (T.free 62 rfl) (by decide +kernel) rfl) pa_nil))) (pe_callB call_isi (by rfl) (T.free 56 rfl) (by decide +kernel) (pa_cons (pv 1) (pa_cons (pe_bltn (v := .ty "tuple") (by rfl) (T.free 62 rfl) (by decide +kernel) rfl) pa_nil))) (nomark _)) (pw_or1 (pt_not (pt_val (pe_callB call_isiT (by rfl) (T.free 56 rfl) (by decide +kernel) (pa_cons (pv 0) (pa_cons (pe_tup (pa_cons (pe_bltn (v := .ty "tuple") (by rfl) (T.free 62 rfl) (by decide +kernel) rfl) (pa_cons (pe_bltn (v := .ty "list") (by rfl) (T.free 58 rfl) (by decide +kernel) rfl) pa_nil))) pa_nil))))))))
 (pss_one (ps_ret pe_bl))
 pss_nil)
 (pss_one (ps_ret (pe_and (pe_cmpR op_eq (pe_callB call_len (by rfl) (T.free 57 rfl) PySem.boot_len (pa_cons (pv 0) pa_nil)) (pe_callB call_len (by rfl) (T.free 57 rfl) PySem.boot_len (pa_cons (pv 1) pa_nil)) (nomark _)) (pe_one (pe_callB (cr_all rfl) (by rfl) (T.free 51 rfl) (by decide +kernel) (pa_cons (pe_lc (own := [("one", 2), ("two", 3)]) (g := gTup K 2 (gCons (gName 2) (gCons (gName 3) gNil))) (tt := tYes) (te := tCall (spIs n) [] (fun _ _ _ => False) (tCons (tVar 2) (tCons (tVar 3) tNil))) (by rfl) scIs.nd (RZ.pi_zipA (by rfl) (T.free 63 rfl) (pa_cons (pv 0) (pa_cons (pv 1) pa_nil)))
 (blkOk_by (own := [("one", 2), ("two", 3)]) (N := ["told", "due", "one", "two"]) (sc := defScope s__law_is) (by decide +kernel)) (fun _ _ _ _ _ => pg_tup (by rfl) (pgs_cons (pg_name (i := 2) scIs.nd rfl (Or.inl rfl)) (pgs_cons (pg_name (i := 3) scIs.nd rfl (Or.inl rfl)) pgs_nil))) (fun _ _ _ _ _ => pts_nil) (fun _ _ _ _ _ => (pe_has Hr (hr) pass0 (pa_cons (pv 2) (pa_cons (pv 3) pa_nil))))) pa_nil)))))))
 pss_nil)
 (pss_one (ps_ret (pe_and (pe_cmpR op_eq (pe_callB call_isi (by rfl) (T.free 56 rfl) (by decide +kernel) (pa_cons (pv 0) (pa_cons (pe_bltn (v := .ty "bool") (by rfl) (T.free 53 rfl) (by decide +kernel) rfl) pa_nil))) (pe_callB call_isi (by rfl) (T.free 56 rfl) (by decide +kernel) (pa_cons (pv 1) (pa_cons (pe_bltn (v := .ty "bool") (by rfl) (T.free 53 rfl) (by decide +kernel) rfl) pa_nil))) (nomark _)) (pe_one (pe_cmpR op_eq (pv 0) (pv 1) (nomark _))))))), ?_⟩
      obtain ⟨v, u, d, rfl, hv, hu, fl, hQ⟩ := h
      refine isiT_go (kit_tl d) (fun Q q => ⟨u, rfl, q⟩) hu fun p np => ⟨_, rfl, ?_⟩
      have s1 := same_new (o := HO.tup [.ty "tuple", .ty "list"]) np
      have hv1 := Dq.same s1 _ _ hv
      have hu1 := Dq.same s1 _ _ hu
      generalize upd H p (HO.tup [.ty "tuple", .ty "list"]) = H1 at s1 hv1 hu1
      cases d with
      | int i =>
        obtain rfl := Dq.int_inv hv1
        obtain rfl := Dq.int_inv hu1
        refine iteF ?_
        refine ⟨_, rfl, _, .ty "bool", _, _, _, rfl, .ty "bool", dq_ty hv1, kit_ty (kit_bool _), _, rfl, _, .ty "bool", _, _, _, rfl, .ty "bool", dq_ty hu1, kit_ty (kit_bool _), rfl, true, rfl, iteT ?_⟩
        refine ⟨_, rfl, _, rfl, rfl, ?_⟩
        have z : decide (V.int i = V.int i) = true := decide_eq_true rfl
        rw [z]
        exact hQ _ s1
      | str i =>
        cases hv1
        cases hu1
        have hn : ∀ H, Dq H (V.str i) (.str i) := fun H => .str i
        refine iteF ?_
        refine ⟨_, rfl, _, .ty "bool", _, _, _, rfl, .ty "bool", dq_ty (hn _), kit_ty (kit_bool _), _, rfl, _, .ty "bool", _, _, _, rfl, .ty "bool", dq_ty (hn _), kit_ty (kit_bool _), rfl, true, rfl, iteT ?_⟩
        refine ⟨_, rfl, _, rfl, rfl, ?_⟩
        have z : decide (V.str i = V.str i) = true := decide_eq_true rfl
        rw [z]
        exact hQ _ s1
      | bool i =>
        cases hv1
        cases hu1
        have hn : ∀ H, Dq H (V.bl i) (.bool i) := fun H => .bl i
        refine iteF ?_
        refine ⟨_, rfl, _, .ty "bool", _, _, _, rfl, .ty "bool", dq_ty (hn _), kit_ty (kit_bool _), _, rfl, _, .ty "bool", _, _, _, rfl, .ty "bool", dq_ty (hn _), kit_ty (kit_bool _), rfl, true, rfl, iteT ?_⟩
        refine ⟨_, rfl, _, rfl, rfl, ?_⟩
        have z : decide (V.bl i = V.bl i) = true := decide_eq_true rfl
        rw [z]
        exact hQ _ s1
      | none =>
        cases hv1
        cases hu1
        have hn : ∀ H, Dq H V.non .none := fun H => .non
        refine iteF ?_
        refine ⟨_, rfl, _, .ty "bool", _, _, _, rfl, .ty "bool", dq_ty (hn _), kit_ty (kit_bool _), _, rfl, _, .ty "bool", _, _, _, rfl, .ty "bool", dq_ty (hn _), kit_ty (kit_bool _), rfl, true, rfl, iteT ?_⟩
        refine ⟨_, rfl, _, rfl, rfl, ?_⟩
        have z : decide (V.non = V.non) = true := decide_eq_true rfl
        rw [z]
        exact hQ _ s1
      | tuple ds =>
        refine iteT ?_
        refine isi_go (kit_tup _) (fun Q q => ⟨_, rfl, q⟩) hv1 (isi_go (kit_tup _) (fun Q q => ⟨_, rfl, q⟩) hu1 ⟨rfl, false, rfl, iteF ?_⟩)
        refine isiT_go (kit_tl _) (fun Q q => ⟨_, rfl, q⟩) hv1 fun p2 np2 => ⟨true, rfl, iteF ?_⟩
        have s2 := same_new (o := HO.tup [.ty "tuple", .ty "list"]) np2
        have hv2 := Dq.same s2 _ _ hv1
        have hu2 := Dq.same s2 _ _ hu1
        have s12 := s1.trans s2
        generalize upd H1 p2 (HO.tup [.ty "tuple", .ty "list"]) = H2 at s2 hv2 hu2 s12
        obtain ⟨a, vs, rfl, ha, ra⟩ := Dq.tup_inv hv2
        obtain ⟨b, us, rfl, hb, rb⟩ := Dq.tup_inv hu2
        have la := dqAll_len ra
        have lb := dqAll_len rb
        cases n with
        | zero => cases fl
        | succ n =>
        have fl' : ds.length ≤ 900 ∧ ∀ x ∈ ds, flatD n x = true := by simpa [flatD] using fl
        refine ⟨_, rfl, _, _, rfl, .inr ⟨vs, st_of ha, rfl⟩, _, rfl, _, _, rfl, .inr ⟨us, st_of hb, rfl⟩, rfl, true, by rw [la, lb]; simp, iteT ?_⟩
        refine ⟨_, rfl, _, rfl, a, b, vs, us, rfl, .inr ⟨st_of ha, st_of hb, fun D nD => ?_⟩⟩
        have nm : ds.length = min vs.length us.length := by omega
        refine lc_gen (σ := [some (.ref a), some (.ref b), none, none]) (vs := [2, 3]) (walk_zipTT (K := K) (a := a) (b := b) (xs := vs) (ys := us) nm) nD (fun i acc H' => Same H2 H' ∧ acc = (List.replicate i true).map V.bl) ⟨Same.refl _, rfl⟩ (fun i acc H' _ z => ⟨st_of (same_delH _ _ (z.1 _ _ ha)), st_of (same_delH _ _ (z.1 _ _ hb))⟩) ?_ ?_
        · rintro i acc x H3 H4' hi l e ⟨sm, rfl⟩ ⟨t, x1, y1, rfl, nt, rfl, e1, e2⟩
          have di : ds[i]? = some ds[i] := List.getElem?_eq_getElem hi
          have st := same_new (o := HO.tup [x1, y1]) nt
          have e' := st _ _ e
          have sm4 : Same H2 (delH (upd H3 t (HO.tup [x1, y1])) D) := fun b o ob => same_del st _ _ (sm _ _ ob)
          have up4 : Same H2 (upd H3 t (HO.tup [x1, y1])) := sm4.trans same_delH
          have et : upd H3 t (HO.tup [x1, y1]) t = some (.tup [x1, y1]) := upd_same
          generalize upd H3 t (HO.tup [x1, y1]) = H4 at e' sm4 up4 et
          refine ⟨t, _, rfl, st_of et, rfl, _, _, rfl, _, _, rfl, rfl, rfl, ?_⟩
          simp only [tYes, if_true]
          refine ⟨_, rfl, _, rfl, _, _, ds[i], rfl, Dq.same up4 _ _ (dqAt ra e1 di), Dq.same up4 _ _ (dqAt rb e2 di), fl'.2 _ (List.getElem_mem hi), fun H5 s5 => ?_⟩
          refine lc_put l (by omega) (s5 _ _ e') ⟨sm4.trans (same_del s5), ?_⟩
          rw [List.replicate_succ', List.map_append]
          rfl
        · rintro acc H3 l e ⟨sm, rfl⟩
          refine ⟨D, List.replicate ds.length true, rfl, sq_of e, ?_⟩
          have z : (List.replicate ds.length true).all id = true := by simp
          rw [z]
          exact hQ H3 (s12.trans (sm.trans same_delH))
      | _ => cases n <;> cases fl
end
end K01

set_option maxHeartbeats 4000000
namespace K01
open PySem PySem.Spec PyProof.Rows L2 V1 V2 V3
open Evl (pss_cut tCut sq_of st_of)
def prC (c : Nat) : Bool := decide (32 ≤ c) && decide (c ≤ 126)
def signs : Str := " !\"#$&'()*+,-./0123456789:;<=>?@ABCDEFGHIJKLMNOPQRSTUVWXYZ[\\]^_`abcdefghijklmnopqrstuvwxyz{|}~"
def PrOk (x : Str) : Bool := x.cps.all prC
theorem asc_low : ∀ c, c < 128 → Unicode.isPrintable c = prC c := by decide +kernel
theorem asc_c (c : Nat) : (decide (c < 128) && Unicode.isPrintable c) = prC c := by
  by_cases h : c < 128
  · rw [decide_eq_true h, Bool.true_and, asc_low c h]
  · rw [decide_eq_false h, Bool.false_and]
    unfold prC
    rw [decide_eq_false (by omega : ¬ c ≤ 126), Bool.and_false]
theorem wordX_pr (x : Str) : wordX x = (decide (x.length ≤ 40) && PrOk x) := by
  unfold wordX PrOk
  congr 1
  show (x.cps.all (· < 128) && x.cps.all Unicode.isPrintable) = _
  rw [← Array.all_toList, ← Array.all_toList, ← Array.all_toList]
  induction x.cps.toList with
  | nil => rfl
  | cons c cs ih =>
    rw [List.all_cons, List.all_cons, List.all_cons, ← ih, ← asc_c c]
    cases decide (c < 128) <;> cases Unicode.isPrintable c <;> simp
theorem pr_app {a b : Str} (h : PrOk a = true) (k : PrOk b = true) : PrOk (a ++ b) = true := by
  unfold PrOk at h k ⊢
  show (a.cps ++ b.cps).all _ = true
  rw [Array.all_append, h, k]
  rfl
theorem len_app (a b : Str) : (a ++ b).length = a.length + b.length := by
  show (a.cps ++ b.cps).size = _
  rw [Array.size_append]
  rfl
theorem join_pr : ∀ {ys : List Str}, (∀ y ∈ ys, y.length = 1 ∧ PrOk y = true) → PrOk (Txt.join (Str.ofString "") ys) = true ∧ (Txt.join (Str.ofString "") ys).length = ys.length := fun {ys} h => by
  rw [TL.join_eq]
  induction ys with
  | nil => exact ⟨by decide +kernel, rfl⟩
  | cons y ys ih =>
    have h1 := h y List.mem_cons_self
    cases ys with
    | nil => exact ⟨h1.2, h1.1⟩
    | cons z ys =>
      have h2 := ih fun x hx => h x (List.mem_cons_of_mem _ hx)
      refine ⟨pr_app (pr_app h1.2 (by decide +kernel)) h2.1, ?_⟩
      show (y ++ Str.ofString "" ++ Str.join (Str.ofString "") (z :: ys)).length = _
      rw [len_app, len_app, h1.1, h2.2, show (Str.ofString "").length = 0 from rfl]
      simp only [List.length_cons]
      omega
theorem sum_one : ∀ {ys : List Str}, (∀ y ∈ ys, y.length = 1) → (ys.map (·.length)).sum = ys.length
  | [], _ => rfl
  | y :: ys, h => by
    rw [List.map_cons, List.sum_cons, h y List.mem_cons_self, sum_one fun z hz => h z (List.mem_cons_of_mem _ hz), List.length_cons]
    omega
theorem signs_pr : ∀ z ∈ signs.cps.toList, PrOk (⟨#[z]⟩ : Str) = true := by decide +kernel
theorem fold_pr {c : Array Nat} (h : c.all prC = true) : ∀ (n : Nat) (acc : Array Nat), acc.all prC = true → ((List.replicate n c).foldl (· ++ ·) acc).all prC = true ∧ ((List.replicate n c).foldl (· ++ ·) acc).size = acc.size + n * c.size
  | 0, acc, k => ⟨k, by simp⟩
  | n + 1, acc, k => by
    rw [List.replicate_succ, List.foldl_cons]
    obtain ⟨h1, h2⟩ := fold_pr h n (acc ++ c) (by rw [Array.all_append, k, h]; rfl)
    refine ⟨h1, ?_⟩
    rw [h2, Array.size_append, Nat.succ_mul]
    omega
theorem mul19 {x : Str} (h : PrOk x = true) (l : x.length = 2) : PrOk (Txt.mul x 19) = true ∧ (Txt.mul x 19).length = 38 := by
  have m : Txt.mul x 19 = ⟨(List.replicate 19 x.cps).foldl (· ++ ·) #[]⟩ := by
    unfold Txt.mul
    rw [if_neg (by decide), if_neg (by rw [l]; decide)]
    rfl
  obtain ⟨h1, h2⟩ := fold_pr (c := x.cps) h 19 #[] (by simp)
  rw [m]
  refine ⟨h1, ?_⟩
  show ((List.replicate 19 x.cps).foldl (· ++ ·) #[]).size = 38
  rw [h2, show x.cps.size = 2 from l]
  rfl
def rLeTx : R2 := fun x y H Q => ∃ i j, x = .str i ∧ y = .str j ∧ Q (.bl (!decide (j.cps.toList < i.cps.toList))) H
def spSigns : Sp := fun vs H Q _ => vs = [] ∧ Q (.str signs) H
def spLIsWord [CurK] : Sp := fun vs H Q _ => ∃ v d, vs = [v] ∧ Dx H v d ∧ shortD d ∧ ∀ H', Same H H' → Q (.bl (wordD d)) H'
def spLWord : Sp := fun vs H Q _ => ∃ a, vs = [.ref a] ∧ HandAt H a ∧ ∀ H' x, Go a H H' → wordX x = true → Q (.str x) H'
theorem scSigns : FnScope ["first"] [] (defScope s__law_signs) := ⟨rfl, rfl, rfl, by decide +kernel, rfl, by decide +kernel, by decide +kernel⟩
theorem scLWord : FnScope ["hand", "kind", "signs", "k"] ["hand"] (defScope s__law_word) := ⟨rfl, rfl, rfl, by decide +kernel, rfl, by decide +kernel, by decide +kernel⟩
theorem scLIsWord : FnScope ["thing", "sign"] ["thing"] (defScope s__law_is_word) := ⟨rfl, rfl, rfl, by decide +kernel, rfl, by decide +kernel, by decide +kernel⟩
theorem le_one (c d : Nat) : (!decide (([d] : List Nat) < [c])) = decide (c ≤ d) := by
  have z : ([d] < [c]) ↔ d < c := by
    rw [List.cons_lt_cons_iff]
    constructor
    · rintro (h | ⟨_, h⟩)
      · exact h
      · exact absurd h (List.lt_irrefl _)
    · exact .inl
  by_cases h : c ≤ d
  · rw [decide_eq_true h, decide_eq_false fun q => by have := z.mp q; omega]
    rfl
  · rw [decide_eq_false h, decide_eq_true (z.mpr (by omega))]
    rfl
theorem pick_sign {H : Hp} {a : Addr} {Q : VK} {E : XK} (hd : HandAt H a) (k : ∀ H2 z, HandAt H2 a → delH H2 a = delH H a → cellsOf H2 a = cellsOf H a → PrOk (⟨#[z]⟩ : Str) = true → Q (.str ⟨#[z]⟩) H2) : spSome [.ref a, .str signs] H Q E := by
  refine ⟨a, .str signs, _, rfl, hd, .inr ⟨signs, rfl, rfl⟩, (by decide +kernel), (by decide +kernel), fun H6 j v hd6 e6 c6 ev => ?_⟩
  rw [List.getElem?_map] at ev
  obtain ⟨z, hz, rfl⟩ := Option.map_eq_some_iff.mp ev
  exact k H6 z hd6 e6 c6 (signs_pr z (List.mem_of_getElem? hz))
theorem wx {x : Str} (l : x.length ≤ 40) (p : PrOk x = true) : wordX x = true := by
  rw [wordX_pr, decide_eq_true l, p]
  rfl
section
variable [CurK] {P : Program} {w : World} {mg : Str → Option Value} {base : Heap}
theorem ok_signs (T : Tx K mg) : Has P w K mg base CX0 1 "_law_signs" [] spSigns := by
  obtain ⟨fd, F⟩ := T.c.def_ 19 (d := d__law_signs) rfl
  refine ⟨fd, F.ok scSigns (fun vs H Q E h => ?_) (fun cdv A outer s H vs Q E hr h => ?_), FunD.bindsN F fun _ _ _ _ _ _ us hl => match us, hl with | [], _ => rfl, F.kp, (T.glo 35 rfl)⟩
  · obtain ⟨rfl, _⟩ := h
    rfl
  · refine ⟨_, PSs.nox (pss_cons (ps_set (i := 0) scSigns.nd rfl (Or.inl rfl) pe_str)
 (pss_one (ps_ret (pe_op op_add_str (pv 0) pe_str)))), ?_⟩
    obtain ⟨rfl, hQ⟩ := h
    exact ⟨_, rfl, _, _, rfl, rfl, (by decide), hQ⟩
theorem ok_lword (T : Tx K mg) : Has P w K mg base CX0 3 "_law_word" ["hand"] spLWord := by
  obtain ⟨fd, F⟩ := T.c.def_ 20 (d := d__law_word) rfl
  have Hs := ok_some (P := P) (w := w) (base := base) T
  have Hd := ok_draw (P := P) (w := w) (base := base) T
  have Hg := ok_signs (P := P) (w := w) (base := base) T
  refine ⟨fd, F.ok scLWord (fun vs H Q E h => ?_) (fun cdv A outer s H vs Q E hr h => ?_), FunD.bindsN F fun _ _ _ _ _ _ us hl => match us, hl with | [_], _ => rfl, F.kp, (T.glo 36 rfl)⟩
  · obtain ⟨a, rfl, _⟩ := h
    rfl
  · refine ⟨_, PSs.nox (pss_cons (ps_set (i := 1) scLWord.nd rfl (Or.inl rfl) (pe_has Hd (hr.mono (by decide)) pass0 (pa_cons (pv 0) (pa_cons pe_int pa_nil))))
 (pss_cons (ps_if (pt_cmpR op_lt (pv 1) pe_int (nomark _))
 (pss_one (ps_ret (pe_ix ix_list (pe_lstS (pa_cons pe_str (pa_cons pe_str (pa_cons pe_str (pa_cons pe_str pa_nil))))) (pv 1) (fun _ _ => rfl))))
 pss_nil)
 (pss_cons (ps_set (i := 2) scLWord.nd rfl (Or.inr rfl) (pe_has0 Hg (hr.mono (by decide)) pass0))
 (pss_cons (ps_if (pt_cmpR op_lt (pv 1) pe_int (nomark _))
 (pss_one (ps_ret (pe_join pe_str (pe_lc (own := [("k", 3)]) (g := gName 3) (tt := tYes) (te := tCall spSome [] (fun _ _ _ => False) (tCons (tVar 0) (tCons (tVar 2) tNil))) (by rfl) scLWord.nd (pi_range1 (by rfl) (T.free 59 rfl) (pa_cons (pe_op op_add pe_int (pe_has Hd (hr.mono (by decide)) pass0 (pa_cons (pv 0) (pa_cons pe_int pa_nil)))) pa_nil))
 (blkOk_by (own := [("k", 3)]) (N := ["hand", "kind", "signs", "k"]) (sc := defScope s__law_word) (by decide +kernel)) (fun _ _ _ _ _ => pg_name (i := 3) scLWord.nd rfl (Or.inl rfl)) (fun _ _ _ _ _ => pts_nil) (fun _ _ _ _ _ => (pe_has Hs (hr.mono (by decide)) pass0 (pa_cons (pv 0) (pa_cons (pv 2) pa_nil))))))))
 pss_nil)
 (pss_one (ps_ret (pe_op op_add_str (pe_op V4.op_mulS (pe_op op_add_str (pe_has Hs (hr.mono (by decide)) pass0 (pa_cons (pv 0) (pa_cons (pv 2) pa_nil))) (pe_has Hs (hr.mono (by decide)) pass0 (pa_cons (pv 0) (pa_cons (pv 2) pa_nil)))) pe_int) (pe_ix ix_list (pe_lstS (pa_cons pe_str (pa_cons pe_str (pa_cons pe_str pa_nil)))) (pe_has Hd (hr.mono (by decide)) pass0 (pa_cons (pv 0) (pa_cons pe_int pa_nil))) (fun _ _ => rfl))))))))), ?_⟩
    obtain ⟨a, rfl, hd, hQ⟩ := h
    refine ⟨_, rfl, a, 8, rfl, hd, by decide, by decide, fun H1 r hd1 e1 c1 r0 r1 => ?_⟩
    have g1 := Go.draw hd1 e1 c1
    refine ⟨_, rfl, _, _, rfl, rfl, _, rfl, ite2 (fun e => ?_) (fun _ => ?_)⟩
    · have r4 := of_decide_eq_true e
      refine ⟨(by show 4 ≤ sizeLine; decide), fun q nq _ => ?_⟩
      have g2 := g1.trans (Go.new hd1 (same_new (o := HO.lst [.str "", .str "a", .str "b", .str "ab"]) nq))
      have rs : r = 0 ∨ r = 1 ∨ r = 2 ∨ r = 3 := by omega
      rcases rs with rfl | rfl | rfl | rfl
      · exact ⟨_, rfl, q, _, _, _, rfl, rfl, sq_of upd_same, rfl, hQ _ _ g2 (by decide +kernel)⟩
      · exact ⟨_, rfl, q, _, _, _, rfl, rfl, sq_of upd_same, rfl, hQ _ _ g2 (by decide +kernel)⟩
      · exact ⟨_, rfl, q, _, _, _, rfl, rfl, sq_of upd_same, rfl, hQ _ _ g2 (by decide +kernel)⟩
      · exact ⟨_, rfl, q, _, _, _, rfl, rfl, sq_of upd_same, rfl, hQ _ _ g2 (by decide +kernel)⟩
    refine ⟨rfl, ?_⟩
    refine ⟨_, rfl, _, _, rfl, rfl, _, rfl, ite2 (fun e => ?_) (fun _ => ?_)⟩
    · refine ⟨⟨_, rfl⟩, _, rfl, a, 4, rfl, hd1, by decide, by decide, fun H2 r2 hd2 e2 c2 q0 q1 => ?_⟩
      obtain ⟨m, rfl⟩ := Int.eq_ofNat_of_zero_le q0
      have g2 := g1.trans (Go.draw hd2 e2 c2)
      obtain ⟨c, cs, hce, nca, hc⟩ := hd2.cells
      refine ⟨_, _, rfl, rfl, _, rfl, by omega, by omega, fun D nD => ?_⟩
      rw [show ((1 : Int) + (m : Nat)).toNat = m + 1 by omega]
      have Da : D ≠ a := hd2.ne_new nD
      have cD : c ≠ D := fun z => by
        rw [← z, hc] at nD
        cases nD
      refine lc_gen (σ := [some (.ref a), some (.int r), some (.str signs), none]) (vs := [3]) (walk_range (lo := 0) (n := m + 1)) nD (fun i acc H' => Go a H2 H' ∧ ∃ ys : List Str, acc = ys.map V.str ∧ ∀ y ∈ ys, y.length = 1 ∧ PrOk y = true) ⟨Go.refl hd2, [], rfl, fun _ h => absurd h List.not_mem_nil⟩ (fun _ _ _ _ _ => True.intro) ?_ ?_
      · rintro i acc x H4 H5 hi l e ⟨g4, ys, rfl, hy⟩ ⟨rfl, rfl⟩
        refine ⟨rfl, ?_⟩
        simp only [tYes, if_true]
        refine ⟨_, rfl, _, rfl, pick_sign (E := fun _ _ _ => False) (hand_same g4.hd same_delH) fun H6 z hd6 e6 c6 zo => ?_⟩
        obtain ⟨g6, eD⟩ := g4.draw_in hce cD Da hd6 e6 c6
        exact lc_put l (by omega) (eD.trans e) ⟨g6, ys ++ [⟨#[z]⟩], by rw [List.map_append]; rfl, fun y h => by
          rcases List.mem_append.mp h with h | h
          · exact hy y h
          · simp only [List.mem_cons, List.not_mem_nil, or_false] at h
            rw [h]
            exact ⟨rfl, zo⟩⟩
      · rintro acc H4 l e ⟨g4, ys, rfl, hy⟩
        rw [List.length_map] at l
        obtain ⟨j1, j2⟩ := join_pr hy
        refine ⟨_, D, ys, rfl, rfl, .inl (sq_of e), ?_, hQ H4 _ (g2.trans (g4.undel Da)) (wx (by omega) j1)⟩
        rw [sum_one fun y h => (hy y h).1, show (Str.ofString "").length = 0 from rfl]
        omega
    · refine ⟨_, rfl, _, rfl, pick_sign (E := fun _ _ _ => False) hd1 fun H2 z hd2 e2 c2 zo => ?_⟩
      have g2 := g1.trans (Go.draw hd2 e2 c2)
      refine ⟨_, rfl, _, rfl, pick_sign (E := fun _ _ _ => False) hd2 fun H3 y hd3 e3 c3 yo => ?_⟩
      have g3 := g2.trans (Go.draw hd3 e3 c3)
      obtain ⟨m1, m2⟩ := mul19 (pr_app zo yo) (show ((⟨#[z]⟩ : Str) ++ ⟨#[y]⟩).length = 2 from rfl)
      refine ⟨_, _, rfl, rfl, (by show 2 ≤ sizeLine; decide), _, _, rfl, rfl, by decide, by decide, (by show 2 ≤ 1000; decide), ?_⟩
      generalize Txt.mul ((⟨#[z]⟩ : Str) ++ ⟨#[y]⟩) 19 = x at m1 m2 ⊢
      refine ⟨(by show 3 ≤ sizeLine; decide), fun q nq _ => ?_⟩
      have g4 := g3.trans (Go.new hd3 (same_new (o := HO.lst [.str "", .str "a", .str "ab"]) nq))
      have qa := hd3.ne_new nq
      have eq : upd H3 q (HO.lst [.str "", .str "a", .str "ab"]) q = some (.lst [.str "", .str "a", .str "ab"]) := upd_same
      generalize upd H3 q (HO.lst [.str "", .str "a", .str "ab"]) = H4 at g4 eq ⊢
      refine ⟨_, rfl, a, 3, rfl, g4.hd, by decide, by decide, fun H5 t hd5 e5 c5 t0 t1 => ?_⟩
      have g5 := g4.trans (Go.draw hd5 e5 c5)
      have eq5 : H5 q = some (.lst [.str "", .str "a", .str "ab"]) := by
        have z := congrFun e5 q
        rw [delH_ne qa, delH_ne qa] at z
        exact z.trans eq
      have fin : ∀ y : Str, y.length ≤ 2 → PrOk y = true → ∃ i j, V.str x = .str i ∧ V.str y = .str j ∧ i.length + j.length ≤ sizeLine ∧ Q (.str (i ++ j)) H5 := fun y l p =>
        ⟨x, y, rfl, rfl, Nat.le_trans (by omega : x.length + y.length ≤ 40) (by decide), hQ H5 _ g5 (wx (by rw [len_app]; omega) (pr_app m1 p))⟩
      have ts : t = 0 ∨ t = 1 ∨ t = 2 := by omega
      rcases ts with rfl | rfl | rfl
      · exact ⟨q, _, _, _, rfl, rfl, sq_of eq5, rfl, fin _ (by decide) (by decide +kernel)⟩
      · exact ⟨q, _, _, _, rfl, rfl, sq_of eq5, rfl, fin _ (by decide) (by decide +kernel)⟩
      · exact ⟨q, _, _, _, rfl, rfl, sq_of eq5, rfl, fin _ (by decide) (by decide +kernel)⟩
theorem ok_lisword (T : Tx K mg) : Has P w K mg base CX0 1 "_law_is_word" ["thing"] spLIsWord := by
  obtain ⟨fd, F⟩ := T.c.def_ 21 (d := d__law_is_word) rfl
  refine ⟨fd, F.ok scLIsWord (fun vs H Q E h => ?_) (fun cdv A outer s H vs Q E hr h => ?_), FunD.bindsN F fun _ _ _ _ _ _ us hl => match us, hl with | [_], _ => rfl, F.kp, (T.glo 37 rfl)⟩
  · obtain ⟨v, d, rfl, _⟩ := h
    rfl
  · refine ⟨_, PSs.nox (pss_one (ps_ret (pe_and (pe_callB call_isi (by rfl) (T.free 56 rfl) (by decide +kernel) (pa_cons (pv 0) (pa_cons (pe_bltn (v := .ty "str") (by rfl) (T.free 61 rfl) (by decide +kernel) rfl) pa_nil))) (pe_and (pe_cmpR op_le (pe_callB call_len (by rfl) (T.free 57 rfl) PySem.boot_len (pa_cons (pv 0) pa_nil)) pe_int (nomark _)) (pe_one (pe_callB (cr_all rfl) (by rfl) (T.free 51 rfl) (by decide +kernel) (pa_cons (pe_lc (own := [("sign", 1)]) (g := gName 1) (tt := tYes) (te := tChain rLeTx rLeTx (tC (.str " ")) (tVar 1) (tC (.str "~"))) (by rfl) scLIsWord.nd (pi_str (pv 0))
 (blkOk_by (own := [("sign", 1)]) (N := ["thing", "sign"]) (sc := defScope s__law_is_word) (by decide +kernel)) (fun _ _ _ _ _ => pg_name (i := 1) scLIsWord.nd rfl (Or.inl rfl)) (fun _ _ _ _ _ => pts_nil) (fun _ _ _ _ _ => (pe_chain op_le_str op_le_str pe_str (pv 1) pe_str))) pa_nil))))))), ?_⟩
    obtain ⟨v, d, rfl, hd, hs, hQ⟩ := h
    refine isx_go (kx_str d) (fun Q q => ⟨v, rfl, q⟩) hd ⟨_, rfl, ite2 (fun e => ?_) (fun e => ?_)⟩
    · cases d with
      | str x =>
        obtain rfl := Dx.str_inv hd
        have hs' : x.length ≤ 10000 := hs
        have wx' : wordD (.str x) = (decide (x.length ≤ 40) && PrOk x) := wordX_pr x
        refine ⟨_, rfl, _, _, rfl, (show LenV K (.str x) H x.length from ⟨Nat.le_trans hs' (by decide), rfl⟩), _, _, rfl, rfl, _, rfl, ite2 (fun e1 => ?_) (fun e1 => ?_)⟩
        · have l1 : x.length ≤ 40 := by
            have z := of_decide_eq_true e1
            omega
          rw [wx', decide_eq_true l1, Bool.true_and] at hQ
          refine ⟨_, rfl, x, rfl, fun D nD => ?_⟩
          refine lc_gen (σ := [some (.str x), none]) (vs := [1]) (walk_str (z := x)) nD (fun i acc H' => Same H H' ∧ acc = ((x.cps.toList.take i).map prC).map V.bl) ⟨Same.refl H, rfl⟩ (fun _ _ _ _ _ => True.intro) ?_ ?_
          · rintro i acc y H1 H2 hi l e2 ⟨sm, rfl⟩ ⟨rfl, c, hc, rfl⟩
            have hc' : x.cps.toList[i]? = some c := by rw [Array.getElem?_toList]; exact hc
            refine ⟨rfl, ?_⟩
            simp only [tYes, if_true]
            have h1 : (!decide ((⟨#[c]⟩ : Str).cps.toList < (Str.ofString " ").cps.toList)) = decide (32 ≤ c) := le_one 32 c
            have h2 : (!decide ((Str.ofString "~").cps.toList < (⟨#[c]⟩ : Str).cps.toList)) = decide (c ≤ 126) := le_one c 126
            have li : i < 1000 := by have : x.cps.size ≤ 40 := l1; omega
            refine ⟨_, rfl, _, _, rfl, rfl, _, rfl, ?_⟩
            rw [h1]
            refine ite2 (fun z => ⟨_, _, rfl, rfl, ?_⟩) (fun z => ?_)
            · rw [h2]
              have pf : decide (c ≤ 126) = prC c := by unfold prC; rw [z, Bool.true_and]
              rw [pf]
              exact lc_put l (by omega) e2 ⟨sm, by rw [List.take_succ, hc', List.map_append, List.map_append]; rfl⟩
            · have pf : prC c = false := by unfold prC; rw [Bool.eq_false_iff.mpr z, Bool.false_and]
              exact lc_put l (by omega) e2 ⟨sm, by rw [List.take_succ, hc', List.map_append, List.map_append]; show _ = _ ++ [V.bl (prC c)]; rw [pf]⟩
          · rintro acc H2 l e2 ⟨sm, rfl⟩
            rw [List.take_of_length_le (by simp)] at e2
            refine ⟨D, x.cps.toList.map prC, rfl, sq_of e2, ?_⟩
            have z : PrOk x = (x.cps.toList.map prC).all id := by
              unfold PrOk
              rw [List.all_map, ← Array.all_toList]
              rfl
            rw [← z]
            exact hQ H2 (sm.trans same_delH)
        · have l1 : ¬ x.length ≤ 40 := fun z => e1 (decide_eq_true (by omega))
          rw [wx', decide_eq_false l1, Bool.false_and] at hQ
          exact hQ H (Same.refl H)
      | _ => cases e
    · cases d <;> first | exact hQ H (Same.refl H) | exact absurd rfl e
end
end K01

set_option maxHeartbeats 4000000
namespace K01
open PySem PySem.Spec PyProof.Rows L2 V1 V2 V3
open Evl (pss_cut tCut sq_of st_of)
/-- a row of words -/
structure RowL (r : List Str) : Prop where
  ok : ∀ x ∈ r, wordX x = true
  ln : r.length ≤ 400
/-- what goes on within a list that is being built -/
theorem Go.in_ {a D c : Addr} {H0 H H' : Hp} {o : HO} (g : Go a H0 (delH H D)) (hc : cellsOf H0 a = some (.ref c)) (cD : c ≠ D) (Da : D ≠ a) (g' : Go a H H') (eD : H D = some o) : Go a H0 (delH H' D) ∧ H' D = some o := by
  have z : cellsOf H' a = some (.ref c) := g'.ce.trans (((cells_del Da).symm.trans g.ce).trans hc)
  refine ⟨⟨g'.hd.off z cD Da, ((cells_del Da).trans z).trans hc.symm, fun b u e => ?_⟩, ?_⟩
  · have e1 := g.sm b u e
    have ba : b ≠ a := fun q => by rw [q, delH_same] at e1; cases e1
    rw [delH_ne ba] at e1 ⊢
    have bD : b ≠ D := fun q => by rw [q, delH_same] at e1; cases e1
    rw [delH_ne bD] at e1 ⊢
    have e2 := g'.sm b u (by rw [delH_ne ba]; exact e1)
    rw [delH_ne ba] at e2
    exact e2
  · have e2 := g'.sm D o (by rw [delH_ne Da]; exact eD)
    rw [delH_ne Da] at e2
    exact e2
def spLRow : Sp := fun vs H Q _ => ∃ a, vs = [.ref a] ∧ HandAt H a ∧ ∀ H' p (r : List Str), Go a H H' → p ≠ a → H' p = some (.tup (r.map V.str)) → RowL r → Q (.ref p) H'
theorem scLIsRow : FnScope ["thing", "word"] ["thing"] (defScope s__law_is_row) := ⟨rfl, rfl, rfl, by decide +kernel, rfl, by decide +kernel, by decide +kernel⟩
theorem scLRow : FnScope ["hand", "k"] ["hand"] (defScope s__law_row) := ⟨rfl, rfl, rfl, by decide +kernel, rfl, by decide +kernel, by decide +kernel⟩
section
variable [CurK] {P : Program} {w : World} {mg : Str → Option Value} {base : Heap}
theorem ok_lisrow (T : Tx K mg) : Has P w K mg base CX0 2 "_law_is_row" ["thing"] spRow := by
  obtain ⟨fd, F⟩ := T.c.def_ 22 (d := d__law_is_row) rfl
  have Hiw := ok_lisword (P := P) (w := w) (base := base) T
  refine ⟨fd, F.ok scLIsRow (fun vs H Q E h => ?_) (fun cdv A outer s H vs Q E hr h => ?_), FunD.bindsN F fun _ _ _ _ _ _ us hl => match us, hl with | [_], _ => rfl, F.kp, (T.glo 38 rfl)⟩
  · obtain ⟨v, d, rfl, _⟩ := h
    rfl
  · refine ⟨_, PSs.nox (pss_one (ps_ret (pe_and (pe_callB call_isi (by rfl) (T.free 56 rfl) (by decide +kernel) (pa_cons (pv 0) (pa_cons (pe_bltn (v := .ty "tuple") (by rfl) (T.free 62 rfl) (by decide +kernel) rfl) pa_nil))) (pe_and (pe_cmpR op_le (pe_callB call_len (by rfl) (T.free 57 rfl) PySem.boot_len (pa_cons (pv 0) pa_nil)) pe_int (nomark _)) (pe_one (pe_callB (cr_all rfl) (by rfl) (T.free 51 rfl) (by decide +kernel) (pa_cons (pe_lc (own := [("word", 1)]) (g := gName 1) (tt := tYes) (te := tCall spLIsWord [] (fun _ _ _ => False) (tCons (tVar 1) tNil)) (by rfl) scLIsRow.nd (pi_tup (pv 0))
 (blkOk_by (own := [("word", 1)]) (N := ["thing", "word"]) (sc := defScope s__law_is_row) (by decide +kernel)) (fun _ _ _ _ _ => pg_name (i := 1) scLIsRow.nd rfl (Or.inl rfl)) (fun _ _ _ _ _ => pts_nil) (fun _ _ _ _ _ => (pe_has Hiw (hr.mono (by decide)) pass0 (pa_cons (pv 1) pa_nil)))) pa_nil))))))), ?_⟩
    obtain ⟨v, d, rfl, hd, hs, hQ⟩ := h
    refine isx_go (kx_tup d) (fun Q q => ⟨v, rfl, q⟩) hd ⟨_, rfl, ite2 (fun e => ?_) (fun e => ?_)⟩
    · obtain ⟨ds, rfl⟩ := isTup_tup e
      obtain ⟨a, us, rfl, ha, hr'⟩ := Dx.tup_inv hd
      have lu := dxAll_len hr'
      refine ⟨_, rfl, _, _, rfl, .inr ⟨us, st_of ha, rfl⟩, _, _, rfl, rfl, _, rfl, ite2 (fun e1 => ?_) (fun e1 => ?_)⟩
      · have l4 : ds.length ≤ 400 := by
          have z := of_decide_eq_true e1
          omega
        refine ⟨_, rfl, a, rfl, ⟨_, st_of ha⟩, fun D nD => ?_⟩
        refine lc_gen (σ := [some (.ref a), none]) (vs := [1]) (walk_tup (K := K) (a := a) (xs := us)) nD (fun i acc H' => Same H H' ∧ acc = (ds.take i).map fun d => V.bl (wordD d)) ⟨Same.refl H, rfl⟩ (fun i acc H' _ z => st_of (same_delH _ _ (z.1 _ _ ha))) ?_ ?_
        · rintro i acc x H1 H2 hi l e2 ⟨sm, rfl⟩ ⟨rfl, hx⟩
          have di : ds[i]? = some ds[i] := List.getElem?_eq_getElem (by omega)
          refine ⟨rfl, ?_⟩
          simp only [tYes, if_true]
          refine ⟨_, rfl, x, ds[i], rfl, Dx.same (sm.trans same_delH) _ _ (DxAll.at hr' hx di), hs ds rfl _ (List.getElem_mem (by omega)), fun H5 s5 => ?_⟩
          exact lc_put l (by omega) (s5 _ _ e2) ⟨sm.trans (same_del s5), by rw [List.take_succ, di, List.map_append]; rfl⟩
        · rintro acc H2 l e2 ⟨sm, rfl⟩
          rw [lu, List.take_length] at e2
          refine ⟨D, ds.map wordD, rfl, sq_of (by rw [List.map_map]; exact e2), ?_⟩
          have z : rowD (.tuple ds) = (ds.map wordD).all id := by
            show (decide (ds.length ≤ 400) && ds.all wordD) = _
            rw [decide_eq_true l4, Bool.true_and, List.all_map]
            rfl
          rw [← z]
          exact hQ H2 (sm.trans same_delH)
      · have z : rowD (.tuple ds) = false := by
          show (decide (ds.length ≤ 400) && _) = false
          rw [decide_eq_false fun q => e1 (decide_eq_true (by omega)), Bool.false_and]
        rw [z] at hQ
        exact hQ H (Same.refl H)
    · have z : rowD d = false := by cases d <;> first | rfl | exact absurd rfl e
      rw [z] at hQ
      exact hQ H (Same.refl H)
theorem ok_lrow (T : Tx K mg) : Has P w K mg base CX0 4 "_law_row" ["hand"] spLRow := by
  obtain ⟨fd, F⟩ := T.c.def_ 23 (d := d__law_row) rfl
  have Hw := ok_lword (P := P) (w := w) (base := base) T
  have Hd := ok_draw (P := P) (w := w) (base := base) T
  refine ⟨fd, F.ok scLRow (fun vs H Q E h => ?_) (fun cdv A outer s H vs Q E hr h => ?_), FunD.bindsN F fun _ _ _ _ _ _ us hl => match us, hl with | [_], _ => rfl, F.kp, (T.glo 39 rfl)⟩
  · obtain ⟨a, rfl, _⟩ := h
    rfl
  · refine ⟨_, PSs.nox (pss_cons (ps_if (pt_cmpR op_eq (pe_has Hd (hr.mono (by decide)) pass0 (pa_cons (pv 0) (pa_cons pe_int pa_nil))) pe_int (nomark _))
 (pss_one (ps_ret (pe_op op_catT (pe_callTy call_tuple_of (by rfl) (T.free 62 rfl) (by decide +kernel) (pa_cons (pe_lc (own := [("k", 1)]) (g := gName 1) (tt := tYes) (te := tCall spLWord [] (fun _ _ _ => False) (tCons (tVar 0) tNil)) (by rfl) scLRow.nd (pi_range1 (by rfl) (T.free 59 rfl) (pa_cons pe_int pa_nil))
 (blkOk_by (own := [("k", 1)]) (N := ["hand", "k"]) (sc := defScope s__law_row) (by decide +kernel)) (fun _ _ _ _ _ => pg_name (i := 1) scLRow.nd rfl (Or.inl rfl)) (fun _ _ _ _ _ => pts_nil) (fun _ _ _ _ _ => (pe_has Hw (hr.mono (by decide)) pass0 (pa_cons (pv 0) pa_nil)))) pa_nil)) (pe_op op_repT (pe_tup (pa_cons pe_str pa_nil)) (pe_ix ix_list (pe_lstS (pa_cons pe_int (pa_cons pe_int pa_nil))) (pe_has Hd (hr.mono (by decide)) pass0 (pa_cons (pv 0) (pa_cons pe_int pa_nil))) (fun _ _ => rfl))))))
 pss_nil)
 (pss_one (ps_ret (pe_callTy call_tuple_of (by rfl) (T.free 62 rfl) (by decide +kernel) (pa_cons (pe_lc (own := [("k", 1)]) (g := gName 1) (tt := tYes) (te := tCall spLWord [] (fun _ _ _ => False) (tCons (tVar 0) tNil)) (by rfl) scLRow.nd (pi_range1 (by rfl) (T.free 59 rfl) (pa_cons (pe_has Hd (hr.mono (by decide)) pass0 (pa_cons (pv 0) (pa_cons pe_int pa_nil))) pa_nil))
 (blkOk_by (own := [("k", 1)]) (N := ["hand", "k"]) (sc := defScope s__law_row) (by decide +kernel)) (fun _ _ _ _ _ => pg_name (i := 1) scLRow.nd rfl (Or.inl rfl)) (fun _ _ _ _ _ => pts_nil) (fun _ _ _ _ _ => (pe_has Hw (hr.mono (by decide)) pass0 (pa_cons (pv 0) pa_nil)))) pa_nil))))), ?_⟩
    obtain ⟨a, rfl, hd, hQ⟩ := h
    refine ⟨_, rfl, a, 20, rfl, hd, by decide, by decide, fun H1 r hd1 e1 c1 r0 r1 => ⟨rfl, _, rfl, ite2 (fun _ => ?_) (fun _ => ?_)⟩⟩
    · have g1 := Go.draw hd1 e1 c1
      obtain ⟨c, cs, hce, nca, hc⟩ := hd1.cells
      refine ⟨2, rfl, by decide, by decide, fun D nD => ?_⟩
      rw [show (2 : Int).toNat = 2 from rfl]
      have Da : D ≠ a := hd1.ne_new nD
      have cD : c ≠ D := fun z => by
        rw [← z, hc] at nD
        cases nD
      refine lc_gen (σ := [some (.ref a), none]) (vs := [1]) (walk_range (lo := 0) (n := 2)) nD (fun i acc H' => Go a H1 H' ∧ ∃ ys : List Str, acc = ys.map V.str ∧ ys.length = i ∧ ∀ y ∈ ys, wordX y = true) ⟨Go.refl hd1, [], rfl, rfl, fun _ h => absurd h List.not_mem_nil⟩ (fun _ _ _ _ _ => True.intro) ?_ ?_
      · rintro i acc x H4 H5 hi l e ⟨g4, ys, rfl, ly, hy⟩ ⟨rfl, rfl⟩
        refine ⟨rfl, ?_⟩
        simp only [tYes, if_true]
        refine ⟨_, rfl, a, rfl, hand_same g4.hd same_delH, fun H6 x g6 wx => ?_⟩
        obtain ⟨g7, eD⟩ := g4.in_ hce cD Da g6 e
        exact lc_put l (by omega) eD ⟨g7, ys ++ [x], by rw [List.map_append]; rfl, by rw [List.length_append, ly]; rfl, fun y h => (List.mem_append.mp h).elim (hy y) fun h => by rw [List.mem_singleton.mp h]; exact wx⟩
      · rintro acc H4 l e ⟨g4, ys, rfl, ly, hy⟩
        have g5 := g1.trans (g4.undel Da)
        refine ⟨D, _, rfl, .inl ⟨sq_of e, fun t nt => ?_⟩⟩
        have g6 := g5.trans (Go.new g5.hd (same_new (o := HO.tup (ys.map V.str)) nt))
        have et : upd H4 t (HO.tup (ys.map V.str)) t = some (.tup (ys.map V.str)) := upd_same
        generalize upd H4 t (HO.tup (ys.map V.str)) = H5 at g6 et ⊢
        refine ⟨(by show 1 ≤ sizeLine; decide), fun u nu => ⟨(by show 2 ≤ sizeLine; decide), fun q nq _ => ?_⟩⟩
        have s1 := same_new (o := HO.tup [.str "a"]) nu
        have eu : upd H5 u (HO.tup [.str "a"]) u = some (.tup [.str "a"]) := upd_same
        have g7 := g6.trans (Go.new g6.hd s1)
        have et7 := s1 _ _ et
        generalize upd H5 u (HO.tup [.str "a"]) = H6 at g7 eu et7 nq ⊢
        have s2 := same_new (o := HO.lst [.int 397, .int 398]) nq
        have eq : upd H6 q (HO.lst [.int 397, .int 398]) q = some (.lst [.int 397, .int 398]) := upd_same
        have g8 := g7.trans (Go.new g7.hd s2)
        have eu8 := s2 _ _ eu
        have et8 := s2 _ _ et7
        generalize upd H6 q (HO.lst [.int 397, .int 398]) = H7 at g8 eq eu8 et8 ⊢
        refine ⟨_, rfl, a, 2, rfl, g8.hd, by decide, by decide, fun H8 z hd8 e8 c8 z0 z1 => ?_⟩
        have g9 := g8.trans (Go.draw hd8 e8 c8)
        have at9 : ∀ b o, b ≠ a → H7 b = some o → H8 b = some o := fun b o ne e => by
          have y := congrFun e8 b
          rw [delH_ne ne, delH_ne ne] at y
          exact y.trans e
        have eq9 := at9 q _ (g7.hd.ne_new nq) eq
        have eu9 := at9 u _ (g6.hd.ne_new nu) eu8
        have et9 := at9 t _ (g5.hd.ne_new nt) et8
        have fin : ∀ n : Nat, n = 397 ∨ n = 398 → ∀ Q' : VK, (∀ p H9, Go a H H9 → p ≠ a → H9 p = some (.tup ((ys ++ List.replicate n (Str.ofString "a")).map V.str)) → Q' (.ref p) H9) → rRepT K (.ref u) (.int (n : Nat)) H8 fun y H2 => rCatT K (.ref t) y H2 Q' := fun n hn Q' k => by
          refine ⟨u, _, _, rfl, rfl, st_of eu9, by simp, by omega, by omega, by decide, fun p np => ?_⟩
          have fl : (List.replicate (((n : Nat) : Int).toNat) [V.str "a"]).flatten = List.replicate n (V.str "a") := by
            rw [Int.toNat_natCast]
            simp
          rw [fl]
          have s3 := same_new (o := HO.tup (List.replicate n (V.str "a"))) np
          refine ⟨t, p, _, _, rfl, rfl, st_of (s3 _ _ et9), st_of upd_same, fun z => ?_, ?_, fun z => ?_, fun _ p2 np2 => ?_⟩
          · have := congrArg List.length z
            rw [List.length_map, ly] at this
            cases this
          · rw [List.length_map, List.length_replicate, ly]
            exact Nat.le_trans (by omega : 2 + n ≤ 1000) (by decide)
          · have := congrArg List.length z
            rw [List.length_replicate, List.length_nil] at this
            omega
          · have gz := (g9.trans (Go.new g9.hd s3))
            refine k p2 _ (gz.trans (Go.new gz.hd (same_new np2))) (gz.hd.ne_new np2) ?_
            rw [upd_same, List.map_append, List.map_replicate]
        have rl : ∀ n : Nat, n = 397 ∨ n = 398 → RowL (ys ++ List.replicate n (Str.ofString "a")) := fun n hn => by
          refine ⟨fun x hx => ?_, by rw [List.length_append, List.length_replicate, ly]; omega⟩
          rcases List.mem_append.mp hx with h | h
          · exact hy x h
          · rw [(List.mem_replicate.mp h).2]
            decide +kernel
        have zs : z = 0 ∨ z = 1 := by omega
        rcases zs with rfl | rfl
        · exact ⟨q, _, _, _, rfl, rfl, sq_of eq9, rfl, fin 397 (.inl rfl) _ fun p H9 g pa e => hQ H9 p _ g pa e (rl 397 (.inl rfl))⟩
        · exact ⟨q, _, _, _, rfl, rfl, sq_of eq9, rfl, fin 398 (.inr rfl) _ fun p H9 g pa e => hQ H9 p _ g pa e (rl 398 (.inr rfl))⟩
    · have g0 := Go.draw hd1 e1 c1
      refine ⟨_, rfl, a, 6, rfl, hd1, by decide, by decide, fun H2 r2 hd2 e2 c2 q0 q1 => ?_⟩
      have g1 := g0.trans (Go.draw hd2 e2 c2)
      obtain ⟨m, rfl⟩ := Int.eq_ofNat_of_zero_le q0
      obtain ⟨c, cs, hce, nca, hc⟩ := hd2.cells
      refine ⟨_, rfl, by omega, by omega, fun D nD => ?_⟩
      rw [Int.toNat_natCast]
      have Da : D ≠ a := hd2.ne_new nD
      have cD : c ≠ D := fun z => by
        rw [← z, hc] at nD
        cases nD
      refine lc_gen (σ := [some (.ref a), none]) (vs := [1]) (walk_range (lo := 0) (n := m)) nD (fun i acc H' => Go a H2 H' ∧ ∃ ys : List Str, acc = ys.map V.str ∧ ys.length = i ∧ ∀ y ∈ ys, wordX y = true) ⟨Go.refl hd2, [], rfl, rfl, fun _ h => absurd h List.not_mem_nil⟩ (fun _ _ _ _ _ => True.intro) ?_ ?_
      · rintro i acc x H4 H5 hi l e ⟨g4, ys, rfl, ly, hy⟩ ⟨rfl, rfl⟩
        refine ⟨rfl, ?_⟩
        simp only [tYes, if_true]
        refine ⟨_, rfl, a, rfl, hand_same g4.hd same_delH, fun H6 x g6 wx => ?_⟩
        obtain ⟨g7, eD⟩ := g4.in_ hce cD Da g6 e
        exact lc_put l (by omega) eD ⟨g7, ys ++ [x], by rw [List.map_append]; rfl, by rw [List.length_append, ly]; rfl, fun y h => (List.mem_append.mp h).elim (hy y) fun h => by rw [List.mem_singleton.mp h]; exact wx⟩
      · rintro acc H4 l e ⟨g4, ys, rfl, ly, hy⟩
        have g5 := g1.trans (g4.undel Da)
        refine ⟨D, _, rfl, .inl ⟨sq_of e, fun t nt => ?_⟩⟩
        exact hQ _ t ys (g5.trans (Go.new g5.hd (same_new nt))) (g5.hd.ne_new nt) upd_same ⟨hy, by omega⟩
end
end K01

set_option maxHeartbeats 4000000
namespace V2
open PySem PySem.Spec PyProof.Rows L2 V1
/-- a callee that raises nothing here -/
theorem passF {X : Cx} : Passes (L2.CX X.prog X.w) X (fun _ _ _ => False) := fun _ _ _ _ _ _ _ c => by
  obtain ⟨_, _, _, _, _, _, _, _, _, _, _, _, z⟩ := c
  exact z.elim
end V2
namespace K01
open PySem PySem.Spec PyProof.Rows L2 V1 V2 V3
open Evl (pss_cut tCut sq_of st_of)
mutual
/-- all texts within are short -/
def shortA : PyData → Bool
  | .str x => decide (x.length ≤ 10000)
  | .tuple ds => shortAll ds
  | .list ds => shortAll ds
  | _ => true
def shortAll : List PyData → Bool
  | [] => true
  | d :: ds => shortA d && shortAll ds
end
theorem shortAll_of : ∀ {ds : List PyData}, shortAll ds = true → ∀ d ∈ ds, shortA d = true
  | [], _, d, h => absurd h List.not_mem_nil
  | e :: ds, k, d, h => by
    have z : shortA e = true ∧ shortAll ds = true := by simpa [shortAll] using k
    rcases List.mem_cons.mp h with rfl | h
    · exact z.1
    · exact shortAll_of z.2 d h
theorem all_short : ∀ {ds : List PyData}, (∀ d ∈ ds, shortA d = true) → shortAll ds = true
  | [], _ => rfl
  | e :: ds, k => by
    simp only [shortAll, k e List.mem_cons_self, all_short fun d h => k d (List.mem_cons_of_mem _ h), Bool.and_self]
theorem shortA_D {d : PyData} (h : shortA d = true) : shortD d := by
  cases d with
  | str x => exact of_decide_eq_true (p := x.length ≤ 10000) (by simpa [shortA] using h)
  | _ => trivial
theorem shortA_R {d : PyData} (h : shortA d = true) : ∀ ds, d = .tuple ds → ∀ x ∈ ds, shortD x := fun ds e x hx => by
  subst e
  exact shortA_D (shortAll_of h x hx)
theorem shortA_P {d : PyData} (h : shortA d = true) : shortP d := by
  cases d with
  | tuple ds => exact fun d hd => ⟨shortA_D (shortAll_of h d hd), shortA_R (shortAll_of h d hd)⟩
  | _ => trivial
theorem shortA_Ps {d : PyData} (h : shortA d = true) : ∀ ds, d = .tuple ds → ∀ x ∈ ds, shortP x := fun ds e x hx => by
  subst e
  exact shortA_P (shortAll_of h x hx)
section
variable [CurK]
/-- a Table is made, or not, the arguments being there -/
theorem tab_fin {H : Hp} {Qa : Addr → Hp → Prop} {E : XK} {v1 v2 : V} {d1 d2 : PyData} (h1 : Dx H v1 d1) (h2 : Dx H v2 d2) (sh1 : shortA d1 = true) (sh2 : shortA d2 = true)
    (bad : ∀ x, partOf d1 d2 = some x → ∀ d H', H d = none → Same H H' → H' d = some (.xd [("part", x)]) → E (.ref (He.ga K "BadTable")) (some d) H')
    (good : partOf d1 d2 = none → ∀ ts o, d1 = .tuple (ts.map mkP) → d2 = .str o → GoodT ts → ts.length ≤ 200 → ∀ p H', Same H H' → H p = none → TAt H' p ts o → Qa p H') :
    ∀ p dx, H p = none → H dx = none → dx ≠ p → spTab [.ref p, v1, v2] (upd (upd H dx (.own p)) p (.ins (He.ga K "Table") dx [])) (fun v H2 => v = .non ∧ Qa p H2) E := fun p dx np nd ne => by
  have sm : Same H (upd (upd H dx (.own p)) p (.ins (He.ga K "Table") dx [])) := fun b o e => by
    rw [upd_ne (ne_of_none e np), upd_ne (ne_of_none e nd)]
    exact e
  refine ⟨p, dx, v1, v2, d1, d2, rfl, upd_same, Dx.same sm _ _ h1, Dx.same sm _ _ h2, shortA_Ps sh1, shortA_D sh2, fun x hx d H' nd' s' hd => bad x hx d H' (fresh_up sm nd') (sm.trans s') hd, fun hx ts o e1 e2 gt ln H' st ta => ⟨rfl, good hx ts o e1 e2 gt ln p H' (fun b u e => ?_) np ta⟩⟩
  exact st b u (ne_of_none e np) (sm _ _ e)
def teTable : TE := tMake (He.ga K "Table") spTab [] (fun _ _ _ => False) (tCons (tTup tNil) (tCons (tC (.str (Str.ofString ""))) tNil))
def odd0 : List PyData := [.none, .bool true, .int 0, .int 7, .list [], .dict [], .list [.str (Str.ofString "a")]]
def odd1 : List PyData := [.tuple [.str (Str.ofString "a"), .int 1], .tuple [.tuple [.str (Str.ofString "a")]], .tuple [.str (Str.ofString "a"), .none], .tuple [.str (Str.ofString "a"), .str (Txt.mul (Str.ofString "x") 41)]]
def odd2 : List PyData := [.tuple (List.replicate 401 [.str (Str.ofString "a")]).flatten, .tuple [.str (Str.ofString "a\n")], .str (Txt.mul (Str.ofString "x") 41), objD]
def te0 : TE := (tLstS (tCons (tC .non) (tCons (tC (.bl true)) (tCons (tC (.int 0)) (tCons (tC (.int 7)) (tCons (tLstS tNil) (tCons tDNewK (tCons (tLstS (tCons (tC (.str (Str.ofString "a"))) tNil)) tNil))))))))
def te1 : TE := (tLstS (tCons (tTup (tCons (tC (.str (Str.ofString "a"))) (tCons (tC (.int 1)) tNil))) (tCons (tTup (tCons (tTup (tCons (tC (.str (Str.ofString "a"))) tNil)) tNil)) (tCons (tTup (tCons (tC (.str (Str.ofString "a"))) (tCons (tC .non) tNil))) (tCons (tTup (tCons (tC (.str (Str.ofString "a"))) (tCons (tOp V4.rMulS (tC (.str (Str.ofString "x"))) (tC (.int 41))) tNil))) tNil)))))
def te2 : TE := (tLstS (tCons (tOp (rRepT K) (tTup (tCons (tC (.str (Str.ofString "a"))) tNil)) (tC (.int 401))) (tCons (tTup (tCons (tC (.str (Str.ofString "a\n"))) tNil)) (tCons (tOp V4.rMulS (tC (.str (Str.ofString "x"))) (tC (.int 41))) (tCons teTable tNil)))))
end
theorem odds_short : (∀ d ∈ odd0, shortA d = true) ∧ (∀ d ∈ odd1, shortA d = true) ∧ ∀ d ∈ odd2, shortA d = true := by decide +kernel
def spOdd [CurK] : Sp := fun vs H Q _ => ∃ a, vs = [.ref a] ∧ HandAt H a ∧ ∀ H' v d, Go a H H' → Dx (delH H' a) v d → shortA d = true → Q v H'
theorem scOdd : FnScope ["hand", "kind"] ["hand"] (defScope s__law_odd) := ⟨rfl, rfl, rfl, by decide +kernel, rfl, by decide +kernel, by decide +kernel⟩
section
variable [CurK] {P : Program} {w : World} {mg : Str → Option Value} {base : Heap} {σ : L2.St}
theorem mkx_tab (T : Tx K mg) : MkX teTable σ objD := fun H Q q => by
  refine ⟨by show 0 ≤ sizeLine; decide, fun p1 n1 => ?_⟩
  have s1 := same_new (o := HO.tup []) n1
  have h1 : Dx (upd H p1 (HO.tup [])) (.ref p1) (.tuple []) := .tup upd_same .nil
  generalize upd H p1 (HO.tup []) = H1 at h1 s1
  refine tab_fin (Qa := fun p H' => Q (.ref p) H') h1 (.str (Str.ofString "")) (by decide +kernel) (by decide +kernel) (fun x hx => ?_) (fun _ ts o _ _ _ _ p H' sm np ta => ?_)
  · have z : partOf (.tuple []) (.str (Str.ofString "")) = none := by
      unfold partOf
      rw [if_pos (by decide +kernel)]
      simp only [show firstBad [] = none from rfl]
      rw [if_pos (by decide +kernel)]
    rw [z] at hx
    cases hx
  · obtain ⟨dx, a, q', us, kvs, hp, _⟩ := ta.ex
    have hp' := (newH_at (H := H') (fresh_up s1 np)).trans hp
    exact q _ _ (s1.trans sm) (.ob hp' (T.obC 0 (x := "Table") rfl (He.cls_ok (T.c.fact 69 rfl))))
variable {H0 : Hp} {a : Addr}
theorem mk_0 (ha : Held H0 a) : MkY H0 a te0 σ (.list odd0) := V4.mky_lst ha (V4.mkya_cons (V4.mky_of ha (mkx_of mkn_non)) (V4.mkya_cons (V4.mky_of ha (mkx_of (mkn_bl true))) (V4.mkya_cons (V4.mky_of ha (mkx_of (mkn_int 0))) (V4.mkya_cons (V4.mky_of ha (mkx_of (mkn_int 7))) (V4.mkya_cons (V4.mky_lst ha V4.mkya_nil (Nat.zero_le _)) (V4.mkya_cons (V4.mky_of ha (mkx_of mkn_dict0)) (V4.mkya_cons (V4.mky_lst ha (V4.mkya_cons (V4.mky_of ha (mkx_of (mkn_str _))) V4.mkya_nil) (by show 1 ≤ 1000; decide)) V4.mkya_nil))))))) (by show 7 ≤ 1000; decide)
theorem mk_1 (ha : Held H0 a) : MkY H0 a te1 σ (.list odd1) := V4.mky_lst ha (V4.mkya_cons (V4.mky_tup ha (V4.mkya_cons (V4.mky_of ha (mkx_of (mkn_str _))) (V4.mkya_cons (V4.mky_of ha (mkx_of (mkn_int 1))) V4.mkya_nil)) (by show 2 ≤ 1000; decide)) (V4.mkya_cons (V4.mky_tup ha (V4.mkya_cons (V4.mky_tup ha (V4.mkya_cons (V4.mky_of ha (mkx_of (mkn_str _))) V4.mkya_nil) (by show 1 ≤ 1000; decide)) V4.mkya_nil) (by show 1 ≤ 1000; decide)) (V4.mkya_cons (V4.mky_tup ha (V4.mkya_cons (V4.mky_of ha (mkx_of (mkn_str _))) (V4.mkya_cons (V4.mky_of ha (mkx_of mkn_non)) V4.mkya_nil)) (by show 2 ≤ 1000; decide)) (V4.mkya_cons (V4.mky_tup ha (V4.mkya_cons (V4.mky_of ha (mkx_of (mkn_str _))) (V4.mkya_cons (V4.mky_of ha (V4.mkx_mulS _ 41 (by decide) (by decide) (by decide))) V4.mkya_nil)) (by show 2 ≤ 1000; decide)) V4.mkya_nil)))) (by show 4 ≤ 1000; decide)
theorem mk_2 (T : Tx K mg) (ha : Held H0 a) : MkY H0 a te2 σ (.list odd2) := V4.mky_lst ha (V4.mkya_cons (V4.mky_rep (n := 401) ha (V4.mky_tup ha (V4.mkya_cons (V4.mky_of ha (mkx_of (mkn_str _))) V4.mkya_nil) (by show 1 ≤ 1000; decide)) (by first | assumption | simp) (by decide) (by decide) (by decide)) (V4.mkya_cons (V4.mky_tup ha (V4.mkya_cons (V4.mky_of ha (mkx_of (mkn_str _))) V4.mkya_nil) (by show 1 ≤ 1000; decide)) (V4.mkya_cons (V4.mky_of ha (V4.mkx_mulS _ 41 (by decide) (by decide) (by decide))) (V4.mkya_cons (V4.mky_of ha (mkx_tab T)) V4.mkya_nil)))) (by show 4 ≤ 1000; decide)
theorem ix_odd {te ti : TE} {ds : List PyData} {Q : VK} {n : Nat} (m : MkY H0 a te σ (.list ds)) (hi : ∀ H (Q : VK), Q (.int ((n : Nat) : Int)) H → ti σ H Q) (hn : n < ds.length) (k : ∀ v H', Same H0 H' → Dx (delH H' a) v ds[n] → Q v H') : tOp (rIxL K) te ti σ H0 Q :=
  m H0 (Same.refl _) _ fun v H' s q => by
    obtain ⟨p, xs, rfl, e, r, l⟩ := V4.lst_at q
    have hx : xs[n]? = some (xs[n]'(by omega)) := List.getElem?_eq_getElem (by omega)
    exact hi _ _ ⟨p, xs, _, xs[n]'(by omega), rfl, rfl, sq_of e, atI_nat hx, k _ H' s (DxAll.at r hx (List.getElem?_eq_getElem hn))⟩
theorem ok_odd (T : Tx K mg) : Has P w K mg base (L2.CX P w) 10 "_law_odd" ["hand"] spOdd := by
  obtain ⟨fd, F⟩ := T.c.def_ 24 (d := d__law_odd) rfl
  have Hd := ok_draw (P := P) (w := w) (base := base) T
  have Htab := ok_tab (P := P) (w := w) (base := base) T
  refine ⟨fd, F.ok scOdd (fun vs H Q E h => ?_) (fun cdv A outer s H vs Q E hr h => ?_), FunD.bindsN F fun _ _ _ _ _ _ us hl => match us, hl with | [_], _ => rfl, F.kp, (T.glo 40 rfl)⟩
  · obtain ⟨a, rfl, _⟩ := h
    rfl
  · refine ⟨_, PSs.nox (pss_cons (ps_set (i := 1) scOdd.nd rfl (Or.inl rfl) (pe_has Hd (hr.mono (by decide)) pass0 (pa_cons (pv 0) (pa_cons pe_int pa_nil))))
 (pss_cons (ps_if (pt_cmpR op_lt (pv 1) pe_int (nomark _))
 (pss_one (ps_ret (pe_ix ix_list (pe_lstS (pa_cons pe_non (pa_cons pe_bl (pa_cons pe_int (pa_cons pe_int (pa_cons (pe_lstS pa_nil) (pa_cons pe_dnewK (pa_cons (pe_lstS (pa_cons pe_str pa_nil)) pa_nil)))))))) (pv 1) (fun _ _ => rfl))))
 pss_nil)
 (pss_cons (ps_if (pt_cmpR op_lt (pv 1) pe_int (nomark _))
 (pss_one (ps_ret (pe_ix ix_list (pe_lstS (pa_cons (pe_tup (pa_cons pe_str (pa_cons pe_int pa_nil))) (pa_cons (pe_tup (pa_cons (pe_tup (pa_cons pe_str pa_nil)) pa_nil)) (pa_cons (pe_tup (pa_cons pe_str (pa_cons pe_non pa_nil))) (pa_cons (pe_tup (pa_cons pe_str (pa_cons (pe_op V4.op_mulS pe_str pe_int) pa_nil))) pa_nil))))) (pe_op op_sub (pv 1) pe_int) (fun _ _ => rfl))))
 pss_nil)
 (pss_one (ps_ret (pe_ix ix_list (pe_lstS (pa_cons (pe_op op_repT (pe_tup (pa_cons pe_str pa_nil)) pe_int) (pa_cons (pe_tup (pa_cons pe_str pa_nil)) (pa_cons (pe_op V4.op_mulS pe_str pe_int) (pa_cons (pe_hasC Htab (hr.mono (by decide)) passF (pa_cons (pe_tup pa_nil) (pa_cons pe_str pa_nil))) pa_nil))))) (pe_op op_sub (pv 1) pe_int) (fun _ _ => rfl))))))), ?_⟩
    obtain ⟨a, rfl, hd, hQ⟩ := h
    refine ⟨_, rfl, a, 15, rfl, hd, by decide, by decide, fun H1 r hd1 e1 c1 r0 r1 => ?_⟩
    obtain ⟨j, rfl⟩ := Int.eq_ofNat_of_zero_le r0
    have g1 := Go.draw hd1 e1 c1
    refine ⟨_, rfl, _, _, rfl, rfl, _, rfl, ite2 (fun e => ?_) (fun e => ?_)⟩
    · have z := of_decide_eq_true e
      have lj : j < odd0.length := by show j < 7; omega
      exact ix_odd (te := te0) (mk_0 hd1.held) (fun H Q q => ⟨_, rfl, q⟩) lj fun v H' s q => hQ H' v _ (g1.trans (Go.new hd1 s)) q (odds_short.1 _ (List.getElem_mem lj))
    have z0 : ¬ ((j : Nat) : Int) < 7 := fun z => e (decide_eq_true z)
    refine ⟨_, rfl, _, _, rfl, rfl, _, rfl, ite2 (fun e2 => ?_) (fun e2 => ?_)⟩
    · have z := of_decide_eq_true e2
      have lj : j - 7 < odd1.length := by show j - 7 < 4; omega
      exact ix_odd (te := te1) (n := j - 7) (mk_1 hd1.held) (fun H Q q => ⟨_, rfl, _, _, rfl, rfl, by show Q (V.int (((j : Nat) : Int) - 7)) H; rw [show ((j : Nat) : Int) - 7 = ((j - 7 : Nat) : Int) by omega]; exact q⟩) lj fun v H' s q => hQ H' v _ (g1.trans (Go.new hd1 s)) q (odds_short.2.1 _ (List.getElem_mem lj))
    · have z : ¬ ((j : Nat) : Int) < 11 := fun z => e2 (decide_eq_true z)
      have lj : j - 11 < odd2.length := by show j - 11 < 4; omega
      exact ix_odd (te := te2) (n := j - 11) (mk_2 T hd1.held) (fun H Q q => ⟨_, rfl, _, _, rfl, rfl, by show Q (V.int (((j : Nat) : Int) - 11)) H; rw [show ((j : Nat) : Int) - 11 = ((j - 11 : Nat) : Int) by omega]; exact q⟩) lj fun v H' s q => hQ H' v _ (g1.trans (Go.new hd1 s)) q (odds_short.2.2 _ (List.getElem_mem lj))
end
end K01

set_option maxHeartbeats 4000000
namespace K01
open PySem PySem.Spec PyProof.Rows L2 V1 V2 V3
open Evl (pss_cut tCut sq_of st_of)
theorem rowLt_key : ∀ r s : List Str, rowLt r s = decide (keyR r < keyR s)
  | r, [] => by
    have z : ¬ keyR r < keyR [] := List.not_lt_nil _
    rw [decide_eq_false z]
    cases r <;> rfl
  | [], y :: s => by
    have z : keyR [] < keyR (y :: s) := List.nil_lt_cons _ _
    rw [decide_eq_true z]
    rfl
  | x :: r, y :: s => by
    have z : (keyR (x :: r) < keyR (y :: s)) ↔ (x.cps.toList < y.cps.toList ∨ x.cps.toList = y.cps.toList ∧ keyR r < keyR s) := List.cons_lt_cons_iff
    show (if (x == y) = true then rowLt r s else txLt x y) = _
    by_cases e : x = y
    · subst e
      rw [if_pos (beq_self_eq_true x), rowLt_key r s]
      refine decide_eq_decide.mpr ⟨fun h => z.mpr (.inr ⟨rfl, h⟩), fun h => ?_⟩
      rcases z.mp h with q | q
      · exact absurd q (List.lt_irrefl _)
      · exact q.2
    · rw [if_neg (by simpa using e)]
      show decide (x.cps.toList < y.cps.toList) = _
      refine decide_eq_decide.mpr ⟨fun h => z.mpr (.inl h), fun h => ?_⟩
      rcases z.mp h with q | q
      · exact q
      · exact absurd (str_ext q.1) e
theorem lt_le (r s : List Str) : (!rowLt r s) = rowLe s r := by rw [rowLt_key, rowLe_key]
def spPart [CurK] : Sp := fun vs H Q _ => ∃ v1 v2 d1 d2, vs = [v1, v2] ∧ Dx H v1 d1 ∧ Dx H v2 d2 ∧ shortA d1 = true ∧ shortA d2 = true ∧ ∀ H', Same H H' → Q ((partOf d1 d2).getD .non) H'
theorem scPart : FnScope ["pairs", "other", "ahead", "k", "pair"] ["pairs", "other"] (defScope s__law_part) := ⟨rfl, rfl, rfl, by decide +kernel, rfl, by decide +kernel, by decide +kernel⟩
section
variable [CurK] {P : Program} {w : World} {mg : Str → Option Value} {base : Heap}
theorem ok_part (T : Tx K mg) : Has P w K mg base CX0 3 "_law_part" ["pairs", "other"] spPart := by
  obtain ⟨fd, F⟩ := T.c.def_ 27 (d := d__law_part) rfl
  have Hir := ok_lisrow (P := P) (w := w) (base := base) T
  have Hiw := ok_lisword (P := P) (w := w) (base := base) T
  refine ⟨fd, F.ok scPart (fun vs H Q E h => ?_) (fun cdv A outer s H vs Q E hr h => ?_), FunD.bindsN F fun _ _ _ _ _ _ us hl => match us, hl with | [_, _], _ => rfl, F.kp, (T.glo 43 rfl)⟩
  · obtain ⟨v1, v2, d1, d2, rfl, _⟩ := h
    rfl
  · refine ⟨_, PSs.nox (pss_cons (ps_if (PW.pt (pw_or (pt_not (pt_val (pe_callB call_isi (by rfl) (T.free 56 rfl) (by decide +kernel) (pa_cons (pv 0) (pa_cons (pe_bltn (v := .ty "tuple") (by rfl) (T.free 62 rfl) (by decide +kernel) rfl) pa_nil))))) (pw_or1 (pt_cmpR op_gt (pe_callB call_len (by rfl) (T.free 57 rfl) PySem.boot_len (pa_cons (pv 0) pa_nil)) pe_int (nomark _)))))
 (pss_one (ps_ret pe_str))
 pss_nil)
 (pss_cons (ps_set (i := 2) scPart.nd rfl (Or.inl rfl) pe_non)
 (pss_cons (ps_for PassesOwn.never rfl (pi_range1 (by rfl) (T.free 59 rfl) (pa_cons (pe_callB call_len (by rfl) (T.free 57 rfl) PySem.boot_len (pa_cons (pv 0) pa_nil)) pa_nil)) (pg_name (i := 3) scPart.nd rfl (Or.inl rfl))
 (pss_cons (ps_set (i := 4) scPart.nd rfl (Or.inl rfl) (pe_ix ix_tup (pv 0) (pv 3) (fun _ _ => rfl)))
 (pss_cons (ps_if (PW.pt (pw_or (pt_not (pt_val (pe_callB call_isi (by rfl) (T.free 56 rfl) (by decide +kernel) (pa_cons (pv 4) (pa_cons (pe_bltn (v := .ty "tuple") (by rfl) (T.free 62 rfl) (by decide +kernel) rfl) pa_nil))))) (pw_or (pt_cmpR op_ne (pe_callB call_len (by rfl) (T.free 57 rfl) PySem.boot_len (pa_cons (pv 4) pa_nil)) pe_int (nomark _)) (pw_or (pt_not (pt_val (pe_has Hir (hr.mono (by decide)) pass0 (pa_cons (pe_ix ix_tup (pv 4) pe_int (fun _ _ => rfl)) pa_nil)))) (pw_or1 (pt_not (pt_val (pe_has Hiw (hr.mono (by decide)) pass0 (pa_cons (pe_ix ix_tup (pv 4) pe_int (fun _ _ => rfl)) pa_nil)))))))))
 (pss_one (ps_ret (pv 3)))
 pss_nil)
 (pss_cons (ps_if (PW.pt (pw_and (pt_cmpR op_notN (pv 2) pe_non (nomark _)) (pw_and1 (pt_not (pt_cmpR (V3.op_ltTS hr.units0) (pv 2) (pe_ix ix_tup (pv 4) pe_int (fun _ _ => rfl)) (nomark _))))))
 (pss_one (ps_ret (pv 3)))
 pss_nil)
 (pss_one (ps_set (i := 2) scPart.nd rfl (Or.inl rfl) (pe_ix ix_tup (pv 4) pe_int (fun _ _ => rfl))))))))
 (pss_one (ps_ret (pe_ifExp (pt_val (pe_has Hiw (hr.mono (by decide)) pass0 (pa_cons (pv 1) pa_nil))) pe_non pe_str)))))), ?_⟩
    obtain ⟨v1, v2, d1, d2, rfl, hd1, hd2, sh1, sh2, hQ⟩ := h
    obtain ⟨ty, tyx, kk⟩ := kx_of (kx_tup d1) hd1
    refine ⟨_, rfl, v1, .ty "tuple", _, _, _, rfl, .ty "tuple", tyx, kk, _, rfl, ?_⟩
    cases hT : isTup d1 with
    | false =>
      have z : partOf d1 d2 = some (.str "pairs") := by
        unfold partOf
        rw [if_neg]
        cases d1 <;> first | (cases hT; done) | simp [tupOf]
      rw [z] at hQ
      exact iteT (iteT (hQ H (Same.refl H)))
    | true =>
    obtain ⟨ds, rfl⟩ := isTup_tup hT
    obtain ⟨a, us, rfl, ha, hr'⟩ := Dx.tup_inv hd1
    have lu := dxAll_len hr'
    refine iteF ⟨_, rfl, _, _, rfl, .inr ⟨us, st_of ha, rfl⟩, _, _, rfl, rfl, _, rfl, ite2 (fun e => ?_) (fun e => ?_)⟩
    · have z : partOf (.tuple ds) d2 = some (.str "pairs") := by
        have q := of_decide_eq_true e
        unfold partOf
        rw [if_neg]
        intro y
        obtain ⟨xs, h1, _, h2⟩ := tupOf_tup y
        cases h1
        omega
      rw [z] at hQ
      exact hQ H (Same.refl H)
    have l2 : ds.length ≤ 200 := by
      have q : ¬ (200 : Int) < (us.length : Int) := fun z => e (decide_eq_true z)
      omega
    have e1 : tupOf 0 200 (.tuple ds) = true := by
      show (decide ((0 : Int) ≤ (ds.length : Int)) && decide ((ds.length : Int) ≤ 200)) = true
      rw [decide_eq_true (by omega), decide_eq_true (by omega)]
      rfl
    have part : partOf (.tuple ds) d2 = match firstBad ds with
        | some i => some (.int (i : Nat))
        | none => if wordD d2 = true then none else some (.str "other") := by
      unfold partOf
      exact if_pos e1
    refine ⟨_, rfl, _, _, rfl, .inr ⟨us, st_of ha, rfl⟩, _, rfl, by omega, by omega, ?_⟩
    rw [Int.toNat_natCast]
    refine for_it (walk_range (lo := 0) (n := us.length)) (fun i σ H' => Same H H' ∧ (∃ o2 o3 o4, σ = [some (.ref a), some v2, some o2, o3, o4] ∧ ((i = 0 ∧ o2 = .non) ∨ (0 < i ∧ ∃ r, o2 = .ref r ∧ H' r = some (.tup ((rowOf (ds.getD (i - 1) .none)).map V.str))))) ∧ ∀ j, j < i → okP ds j = true) ⟨Same.refl H, ⟨_, _, _, rfl, .inl ⟨rfl, rfl⟩⟩, fun j hj => absurd hj (Nat.not_lt_zero j)⟩ (fun _ _ _ _ _ => True.intro) ?_ ?_
    · rintro i x σ H1 H2 hi ⟨s1, ⟨o2, o3, o4, rfl, hah⟩, hok⟩ ⟨rfl, rfl⟩
      show gName 3 (V.int (0 + ((i : Nat) : Int))) _ _ _
      rw [Int.zero_add]
      have hi' : i < ds.length := by omega
      have bad : okP ds i = false → ∀ Z, Same H Z → Q (.int ((i : Nat) : Int)) Z := fun b Z sz => by
        have z := hQ Z sz
        rw [part, firstBad_some hi' b hok] at z
        exact z
      have hx : us[i]? = some us[i] := List.getElem?_eq_getElem hi
      have hv : Dx H2 us[i] (ds.getD i .none) := Dx.same s1 _ _ (DxAll.at hr' hx (getD_at hi'))
      have shi : shortA (ds.getD i .none) = true := shortAll_of (by simpa [shortA] using sh1) _ (by
        have z : ds.getD i .none = ds[i] := by simp [List.getD, hi']
        rw [z]
        exact List.getElem_mem hi')
      have look_ : okP ds i = (pairD (ds.getD i .none) && !(decide (0 < i) && rowLe (rowOf (ds.getD i .none)) (rowOf (ds.getD (i - 1) .none)))) := rfl
      refine ⟨_, rfl, _, rfl, a, us, _, us[i], rfl, rfl, st_of (s1 _ _ ha), atI_nat hx, ?_⟩
      generalize us[i] = u at hv
      generalize hdi : ds.getD i .none = di at hv shi look_
      obtain ⟨ty, tyx, kk⟩ := kx_of (kx_tup di) hv
      refine ⟨_, rfl, u, .ty "tuple", _, _, _, rfl, .ty "tuple", tyx, kk, _, rfl, ?_⟩
      cases hT : isTup di with
      | false =>
        refine iteT (iteT ⟨_, rfl, bad ?_ _ s1⟩)
        rw [look_, show pairD di = false from by (cases di <;> first | rfl | cases hT), Bool.false_and]
      | true =>
      obtain ⟨es, rfl⟩ := isTup_tup hT
      obtain ⟨q, ws, rfl, hq, hw⟩ := Dx.tup_inv hv
      have lw := dxAll_len hw
      refine iteF ⟨_, rfl, _, _, rfl, .inr ⟨ws, st_of hq, rfl⟩, rfl, _, rfl, ite2 (fun e => ?_) (fun e => ?_)⟩
      · refine iteT ⟨_, rfl, bad ?_ _ s1⟩
        have ne : es.length ≠ 2 := fun z => by
          rw [lw, z] at e
          simp at e
        have z : pairD (.tuple es) = false := by
          match es, ne with
          | [a, b], ne => exact absurd rfl ne
          | [], _ => rfl
          | [_], _ => rfl
          | _ :: _ :: _ :: _, _ => rfl
        rw [look_, z, Bool.false_and]
      have l3 : es.length = 2 := by
        have z : ((ws.length : Nat) : Int) = 2 := by simpa using e
        omega
      match es, l3 with
      | [x1, x2], _ =>
      cases hw with | @cons va _ _ _ qa r1 =>
      cases r1 with | @cons vb _ _ _ qb r2 =>
      cases r2
      have sx := shortAll_of (ds := [x1, x2]) (by simpa [shortA] using shi)
      have s1x := sx x1 List.mem_cons_self
      have s2x := sx x2 (List.mem_cons_of_mem _ List.mem_cons_self)
      have pd : pairD (.tuple [x1, x2]) = (rowD x1 && wordD x2) := rfl
      refine ⟨_, rfl, q, _, 0, va, rfl, rfl, st_of hq, rfl, va, x1, rfl, qa, shortA_R s1x, fun H3 s3 => ⟨_, rfl, ite2 (fun e1 => ?_) (fun e1 => ?_)⟩⟩
      · refine iteT ⟨_, rfl, bad ?_ _ (s1.trans s3)⟩
        rw [look_, pd, show rowD x1 = false by simpa using e1, Bool.false_and, Bool.false_and]
      have r1 : rowD x1 = true := by simpa using e1
      refine ⟨_, rfl, q, _, 1, vb, rfl, rfl, st_of (s3 _ _ hq), rfl, vb, x2, rfl, Dx.same s3 _ _ qb, shortA_D s2x, fun H4 s4 => ⟨_, rfl, ite2 (fun e2 => ?_) (fun e2 => ?_)⟩⟩
      · refine ⟨_, rfl, bad ?_ _ ((s1.trans s3).trans s4)⟩
        rw [look_, pd, show wordD x2 = false by simpa using e2, Bool.and_false, Bool.false_and]
      have w2 : wordD x2 = true := by simpa using e2
      have s14 := (s1.trans s3).trans s4
      have s24 := s3.trans s4
      rw [pd, r1, w2, Bool.and_self, Bool.true_and] at look_
      obtain ⟨es1, rfl, al⟩ : ∃ ds, x1 = .tuple ds ∧ ds.all wordD = true := by
        cases x1 with
        | tuple ds =>
          have z : ds.length ≤ 400 ∧ ds.all wordD = true := by simpa [rowD] using r1
          exact ⟨ds, rfl, z.2⟩
        | _ => cases r1
      obtain ⟨r2, ts, rfl, hr2, ht⟩ := Dx.tup_inv (Dx.same s24 _ _ qa)
      obtain rfl := row_texts al ht
      have kn : rowOf (.tuple [.tuple es1, x2]) = txOf (.tuple es1) := rfl
      rw [kn] at look_
      have fin : okP ds i = true → ∀ j, j < i + 1 → okP ds j = true := fun ok j hj => by
        by_cases e : j = i
        · rw [e]
          exact ok
        · exact hok j (by omega)
      rcases hah with ⟨i0, rfl⟩ | ⟨i0, r, rfl, er⟩
      · have ok : okP ds i = true := by rw [look_, decide_eq_false (by omega : ¬ 0 < i)]; rfl
        refine ⟨_, rfl, rfl, _, rfl, ?_⟩
        rw [show (!decide (V.non = V.non)) = false by simp]
        refine iteF (iteF ⟨_, rfl, q, _, 0, _, rfl, rfl, st_of (s24 _ _ hq), rfl, s14, ⟨_, _, _, rfl, .inr ⟨Nat.succ_pos i, r2, rfl, ?_⟩⟩, fin ok⟩)
        rw [Nat.add_sub_cancel, hdi, kn]
        exact hr2
      · refine ⟨_, rfl, rfl, _, rfl, ?_⟩
        rw [show (!decide (V.ref r = V.non)) = true by simp]
        refine iteT ⟨_, rfl, _, rfl, q, _, 0, _, rfl, rfl, st_of (s24 _ _ hq), rfl, r, r2, _, _, rfl, rfl, st_of (s24 _ _ er), st_of hr2, _, rfl, ?_⟩
        refine ite2 (fun e3 => ?_) (fun e3 => ?_)
        all_goals rw [lt_le] at e3
        · refine ⟨_, rfl, bad ?_ _ s14⟩
          rw [look_, decide_eq_true i0, e3]
          rfl
        · have ok : okP ds i = true := by rw [look_, decide_eq_true i0, Bool.eq_false_iff.mpr e3]; rfl
          refine ⟨_, rfl, q, _, 0, _, rfl, rfl, st_of (s24 _ _ hq), rfl, s14, ⟨_, _, _, rfl, .inr ⟨Nat.succ_pos i, r2, rfl, ?_⟩⟩, fin ok⟩
          rw [Nat.add_sub_cancel, hdi, kn]
          exact hr2
    · rintro σ H1 ⟨s1, ⟨o2, o3, o4, rfl, _⟩, hok⟩
      have fb : firstBad ds = none := firstBad_none fun i hi => hok i (by omega)
      rw [part, fb] at hQ
      refine ⟨_, rfl, v2, d2, rfl, Dx.same s1 _ _ hd2, shortA_D sh2, fun H2 s2 => ⟨_, rfl, ite2 (fun e => ?_) (fun e => ?_)⟩⟩
      · rw [if_pos e] at hQ
        exact hQ H2 (s1.trans s2)
      · rw [if_neg e] at hQ
        exact hQ H2 (s1.trans s2)
end
end K01

set_option maxHeartbeats 4000000
namespace K01
open PySem PySem.Spec PyProof.Rows L2 V1 V2 V3
open Evl (pss_cut tCut sq_of st_of)
def clB (K : PySem.W.Frag) : Addr → Value → Option Addr → TS := fun a cls d => tRet (tTup (tCons (tC (.str "bad")) (tCons (tXf a cls d (He.ga K "BadTable") "part" (tVar 2)) tNil)))
def clE : TS := tRet (tTup (tCons (tC (.str "else")) (tCons (tC .non) tNil)))
def clN : TS := tRet (tTup (tCons (tC (.str "none")) (tCons (tC .non) tNil)))
def spBeside : Sp := fun vs H Q _ => ∃ a us ts o v r, vs = [.ref a, .str o, v] ∧ H a = some (.tup us) ∧ DqAll H us (ts.map mkP) ∧ GoodT ts ∧ Dq H v (mkR r) ∧ (∀ x ∈ r, wordX x = true) ∧ Q (.str ((look ts r).getD o)) H
/-- what making a Table comes to -/
def spMade [CurK] : Sp := fun vs H Q _ => ∃ v1 v2 d1 d2, vs = [v1, v2] ∧ Dx H v1 d1 ∧ Dx H v2 d2 ∧ shortA d1 = true ∧ shortA d2 = true ∧
  (∀ x, partOf d1 d2 = some x → ∀ t H', Same H H' → H t = none → H' t = some (.tup [.str "bad", x]) → Q (.ref t) H') ∧
  (partOf d1 d2 = none → ∀ ts o, d1 = .tuple (ts.map mkP) → d2 = .str o → GoodT ts → ts.length ≤ 200 → ∀ t p H', Same H H' → H t = none → H' t = some (.tup [.str "made", .ref p]) → TAt H' p ts o → Q (.ref t) H')
def toldD (ts : Tp) (o : Str) (d : PyData) : PyData := if rowD d = true then .tuple [.str "told", .str ((look ts (txOf d)).getD o)] else .tuple [.str "none", .none]
def spTold [CurK] : Sp := fun vs H Q _ => ∃ p ts o v d, vs = [.ref p, v] ∧ TAt H p ts o ∧ Dx H v d ∧ shortA d = true ∧ ∀ t H', Same H H' → Dq H' (.ref t) (toldD ts o d) → Q (.ref t) H'
theorem scBeside : FnScope ["pairs", "other", "row", "pair"] ["pairs", "other", "row"] (defScope s__law_beside) := ⟨rfl, rfl, rfl, by decide +kernel, rfl, by decide +kernel, by decide +kernel⟩
theorem scMade : FnScope ["pairs", "other", "error"] ["pairs", "other"] (defScope s__law_made) := ⟨rfl, rfl, rfl, by decide +kernel, rfl, by decide +kernel, by decide +kernel⟩
theorem scTold : FnScope ["house", "row"] ["house", "row"] (defScope s__law_told) := ⟨rfl, rfl, rfl, by decide +kernel, rfl, by decide +kernel, by decide +kernel⟩
section
variable [CurK] {P : Program} {w : World} {mg : Str → Option Value} {base : Heap}
theorem Tx.xf (T : Tx K mg) (i : Nat) {x : Str} (h : errs[i]? = some x) : XfC K (He.ga K x) := by
  have E := T.one i h
  exact ⟨E.ga, E.gg, by rw [E.sub]; rfl, E.hasDict⟩
theorem look_cons {t : List Str × Str} {ts : Tp} {r : List Str} : look (t :: ts) r = if t.1 = r then some t.2 else look ts r := by
  unfold look
  rw [List.find?_cons]
  by_cases e : t.1 = r
  · simp [e]
  · simp [e]
theorem row_shaped {r : List Str} (h : ∀ x ∈ r, wordX x = true) : SeqAt.shaped (mkR r) = true := by
  refine shaped_of ?_ ?_
  · show PyData.canLayAll0 _ = true
    refine canLayAll_of fun d hd => ?_
    obtain ⟨x, hx, rfl⟩ := List.mem_map.mp hd
    simp [PyData.canLay0, word_ok (h x hx)]
  · have z : PyData.depthAll (r.map PyData.str) ≤ 1 := depthAll_le fun d hd => by
      obtain ⟨l, _, rfl⟩ := List.mem_map.mp hd
      simp [PyData.depth]
    show (PyData.tuple (r.map PyData.str)).depth ≤ 64
    simp only [PyData.depth]
    omega
theorem row_plain (r : List Str) : V2.plain (mkR r) = true := by
  show V2.plain (.tuple (r.map PyData.str)) = true
  simp only [V2.plain]
  refine plainAll_of fun d hd => ?_
  obtain ⟨x, _, rfl⟩ := List.mem_map.mp hd
  simp [V2.plain]
theorem ok_beside (T : Tx K mg) : Has P w K mg base CX0 1 "_law_beside" ["pairs", "other", "row"] spBeside := by
  obtain ⟨fd, F⟩ := T.c.def_ 29 (d := d__law_beside) rfl
  refine ⟨fd, F.ok scBeside (fun vs H Q E h => ?_) (fun cdv A outer s H vs Q E hr h => ?_), FunD.bindsN F fun _ _ _ _ _ _ us hl => match us, hl with | [_, _, _], _ => rfl, F.kp, (T.glo 45 rfl)⟩
  · obtain ⟨a, us, ts, o, v, r, rfl, _⟩ := h
    rfl
  · refine ⟨_, PSs.nox (pss_cons (ps_for PassesOwn.never rfl (pi_tup (pv 0)) (pg_name (i := 3) scBeside.nd rfl (Or.inl rfl))
 (pss_one (ps_if (pt_cmpR (op_eqD hr.units) (pe_ix ix_tup (pv 3) pe_int (fun _ _ => rfl)) (pv 2) (nomark _))
 (pss_one (ps_ret (pe_ix ix_tup (pv 3) pe_int (fun _ _ => rfl))))
 pss_nil)))
 (pss_one (ps_ret (pv 1)))), ?_⟩
    obtain ⟨a, us, ts, o, v, r, rfl, ha, hu, gt, hv, hr', hQ⟩ := h
    have lu : us.length = ts.length := by
      have z := dqAll_len hu
      rw [List.length_map] at z
      exact z
    refine ⟨_, rfl, a, rfl, ⟨_, st_of ha⟩, for_it walk_tup (fun i σ H' => H' = H ∧ (∃ o3, σ = [some (.ref a), some (.str o), some v, o3]) ∧ look (ts.drop i) r = look ts r) ⟨rfl, ⟨_, rfl⟩, rfl⟩ (fun i σ H' _ z => by rw [z.1]; exact st_of ha) ?_ ?_⟩
    · rintro i x σ H1 H2 hi ⟨rfl, ⟨o3, rfl⟩, lk⟩ ⟨rfl, hx⟩
      have hi' : i < ts.length := by omega
      have dx := dqAt hu hx (by rw [List.getElem?_map, List.getElem?_eq_getElem hi']; rfl : (ts.map mkP)[i]? = some (mkP ts[i]))
      rw [List.drop_eq_getElem_cons hi', look_cons] at lk
      have ok := gt.ok _ (List.getElem_mem hi')
      generalize ts[i] = t at dx lk ok
      obtain ⟨q, ws, rfl, hq, hw⟩ := V2.Dq.tup_inv dx
      cases hw with | @cons va _ _ _ qa r1 =>
      cases r1 with | @cons vb _ _ _ qb r2 =>
      cases r2
      obtain rfl : vb = .str t.2 := by cases qb; rfl
      have e1 : Dp K _ va (mkR t.1) := dq_dp _ _ (row_plain t.1) qa
      have e2 : Dp K _ v (mkR r) := dq_dp _ _ (row_plain r) hv
      refine ⟨_, rfl, q, _, 0, va, rfl, rfl, st_of hq, rfl, _, rfl, _, _, e1, e2, row_shaped ok.1, row_shaped hr', _, rfl, ?_⟩
      have z : PyData.eqv (mkR t.1) (mkR r) = decide (t.1 = r) := by
        show PyData.eqv (.tuple (t.1.map .str)) (.tuple (r.map .str)) = _
        simp only [PyData.eqv]
        exact eqv_row t.1 r
      rw [z]
      refine ite2 (fun c => ?_) (fun c => ?_)
      · rw [if_pos (of_decide_eq_true c)] at lk
        rw [← lk] at hQ
        exact ⟨_, rfl, q, _, 1, _, rfl, rfl, st_of hq, rfl, hQ⟩
      · rw [if_neg fun y => c (decide_eq_true y)] at lk
        exact ⟨rfl, ⟨_, rfl⟩, lk⟩
    · rintro σ H1 ⟨rfl, ⟨o3, rfl⟩, lk⟩
      rw [List.drop_of_length_le (by omega)] at lk
      rw [← lk] at hQ
      exact ⟨_, rfl, hQ⟩
theorem ok_made (T : Tx K mg) : Has P w K mg base CX0 9 "_law_made" ["pairs", "other"] spMade := by
  obtain ⟨fd, F⟩ := T.c.def_ 28 (d := d__law_made) rfl
  have Hs := ok_tab (P := P) (w := w) (base := base) T
  refine ⟨fd, F.ok scMade (fun vs H Q E h => ?_) (fun cdv A outer s H vs Q E hr h => ?_), FunD.bindsN F fun _ _ _ _ _ _ us hl => match us, hl with | [_, _], _ => rfl, F.kp, (T.glo 44 rfl)⟩
  · obtain ⟨v1, v2, d1, d2, rfl, _⟩ := h
    rfl
  · refine ⟨_, PSs.nox (pss_one (ps_try_cl (tb := fun W => tRet (tTup (tCons (tC (.str "made")) (tCons (tMakeS (He.ga K "Table") spTab (WE W) (tCons (tVar 0) (tCons (tVar 1) tNil))) tNil)))) (Wout := fun _ _ _ _ => False) (l := [(.ref (He.ga K "BadTable"), some 2, clB K), (.ref (He.ga K "TalkError"), none, fun _ _ _ => clE)]) rfl rfl scMade.nd takes0
 (fun W pn xe tk _ => pss_one (ps_ret (pe_tup (pa_cons pe_str (pa_cons (pe_hasCS Hs (hr.mono (by decide)) (fun σ => passAt tk σ) (pa_cons (pv 0) (pa_cons (pv 1) pa_nil))) pa_nil)))))
 (.named (i := 2) (c := .ref (He.ga K "BadTable")) (ts := clB K) rfl rfl ⟨rfl, by decide, .inl (T.glo 6 rfl)⟩ (fun a oe cls d pn hz hf => (pss_one (ps_ret (pe_tup (pa_cons pe_str (pa_cons (pe_xf (T.xf 0 rfl) (T.noat 65 rfl) hz hf (pv 2)) pa_nil))))))
 (.plain (c := .ref (He.ga K "TalkError")) (ts := fun _ _ _ => clE) ⟨rfl, by decide, .inl (T.glo 5 rfl)⟩ (fun a oe cls d pn hz hf => (pss_one (ps_ret (pe_tup (pa_cons pe_str (pa_cons pe_non pa_nil)))))) .nil)))), ?_⟩
    obtain ⟨v1, v2, d1, d2, rfl, h1, h2, sh1, sh2, hB, hG⟩ := h
    refine ⟨_, rfl, _, rfl, ?_⟩
    refine tab_fin h1 h2 sh1 sh2 (fun x hx d H' nd sm hd => ?_) (fun hx ts o e1 e2 gt ln p H' sm np ta => ?_)
    · have E := T.one 0 (x := "BadTable") rfl
      have em : PySem.W.exmOne K (.ref (He.ga K "BadTable")) (.ref (He.ga K "BadTable")) = some true := by
        rw [E.exm E rfl, decide_eq_true rfl, Bool.true_or]
      refine wCl_take em fun a na => ?_
      refine ⟨_, rfl, rfl, rfl, d, _, x, rfl, hd, (by simp [List.lookup]), (by show 2 ≤ sizeLine; decide), fun t nt => ?_⟩
      exact hB x hx t _ (sm.trans (same_new nt)) (fresh_up sm nt) upd_same
    · refine ⟨(by show 2 ≤ sizeLine; decide), fun t nt => ?_⟩
      exact hG hx ts o e1 e2 gt ln t p _ (sm.trans (same_new nt)) (fresh_up sm nt) upd_same (ta.same (same_new nt))
theorem ok_told (T : Tx K mg) : Has P w K mg base CX0 6 "_law_told" ["house", "row"] spTold := by
  obtain ⟨fd, F⟩ := T.c.def_ 30 (d := d__law_told) rfl
  have cT : Cls K (He.ga K "Table") := He.cls_ok (T.c.fact 69 rfl)
  have mW := He.meth_ok (T.c.fact 76 (f := .meth "Table" "word") rfl)
  obtain ⟨fdW, FW, bW⟩ := ok_tword (P := P) (w := w) (base := base) T
  refine ⟨fd, F.ok scTold (fun vs H Q E h => ?_) (fun cdv A outer s H vs Q E hr h => ?_), FunD.bindsN F fun _ _ _ _ _ _ us hl => match us, hl with | [_, _], _ => rfl, F.kp, (T.glo 46 rfl)⟩
  · obtain ⟨p, ts, o, v, d, rfl, _⟩ := h
    rfl
  · refine ⟨_, PSs.nox (pss_one (ps_try_cl (tb := fun W => tRet (tTup (tCons (tC (.str "told")) (tCons (V4.tMethE (He.ga K "Table") "word" spTWord (WE W) (tVar 0) (tCons (tVar 1) tNil)) tNil)))) (Wout := fun _ _ _ _ => False) (l := [(.ref (He.ga K "NoRow"), none, fun _ _ _ => clN), (.ref (He.ga K "TalkError"), none, fun _ _ _ => clE)]) rfl rfl scTold.nd takes0
 (fun W pn xe tk _ => pss_one (ps_ret (pe_tup (pa_cons pe_str (pa_cons (V4.pe_methE (pv 0) cT mW FW (hr.mono (by decide)) bW (fun σ => passAt tk σ) (pa_cons (pv 1) pa_nil)) pa_nil)))))
 (.plain (c := .ref (He.ga K "NoRow")) (ts := fun _ _ _ => clN) ⟨rfl, by decide, .inl (T.glo 7 rfl)⟩ (fun a oe cls d pn hz hf => (pss_one (ps_ret (pe_tup (pa_cons pe_str (pa_cons pe_non pa_nil))))))
 (.plain (c := .ref (He.ga K "TalkError")) (ts := fun _ _ _ => clE) ⟨rfl, by decide, .inl (T.glo 5 rfl)⟩ (fun a oe cls d pn hz hf => (pss_one (ps_ret (pe_tup (pa_cons pe_str (pa_cons pe_non pa_nil)))))) .nil)))), ?_⟩
    obtain ⟨p, ts, o, v, d, rfl, ta, hd, sh, hQ⟩ := h
    obtain ⟨dx, a, q, us, kvs, hp, _⟩ := ta.ex
    refine ⟨_, rfl, p, dx, _, rfl, hp, rfl, _, rfl, p, ts, o, v, d, rfl, ta, hd, shortA_R sh, fun e H' sm => ?_, fun e H' sm => ?_⟩
    · have E := T.one 1 (x := "NoRow") rfl
      have em : PySem.W.exmOne K (.ref (He.ga K "NoRow")) (.ref (He.ga K "NoRow")) = some true := by
        rw [E.exm E rfl, decide_eq_true rfl, Bool.true_or]
      refine wCl_take em fun a na => ⟨(by show 2 ≤ sizeLine; decide), fun t nt => hQ t _ (sm.trans (same_new nt)) ?_⟩
      unfold toldD
      rw [if_neg (by rw [e]; decide)]
      exact .tup upd_same (.cons (.str _) (.cons .non .nil))
    · refine ⟨(by show 2 ≤ sizeLine; decide), fun t nt => hQ t _ (sm.trans (same_new nt)) ?_⟩
      unfold toldD
      rw [if_pos e]
      exact .tup upd_same (.cons (.str _) (.cons (.str _) .nil))
end
end K01

set_option maxHeartbeats 4000000
namespace K01
open PySem PySem.Spec PyProof.Rows L2 V1 V2 V3 LamX
open Evl (pss_cut tCut sq_of st_of)
/-- the tables of the defs that make lambdas, and what those are called -/
def tsK (K : PySem.W.Frag) : List (Addr × Str) := lamN.map fun x => ((V4.pairOf K (He.ga K x)).2, (x ++ ".<locals>.") ++ "<lambda>")
section
variable [CurK]
/-- what is no Table -/
def NoTab (H : Hp) (x : V) : Prop := (∃ d, Dx H x d ∧ d ≠ objD) ∨ ∃ a dx fs C, x = .ref a ∧ H a = some (.ins C dx fs) ∧ C8.InsC K C ∧ PySem.W.kitOne K (.ref C) (.ref (He.ga K "Table")) = some false ∧ PySem.W.notFirst K (He.ga K "Table") (.ref C) = true
theorem NoTab.same {H H' : Hp} {x : V} (h : NoTab H x) (s : Same H H') : NoTab H' x := by
  rcases h with ⟨d, hd, ne⟩ | ⟨a, dx, fs, C, rfl, e, i, k, n⟩
  · exact .inl ⟨d, Dx.same s _ _ hd, ne⟩
  · exact .inr ⟨a, dx, fs, C, rfl, s _ _ e, i, k, n⟩
theorem TAt.ext {H H' : Hp} {p : Addr} {ts : Tp} {o : Str} (e : ExtN H H') (h : TAt H p ts o) : TAt H' p ts o := by
  obtain ⟨dx, a, q, us, kvs, h1, h2, h3, h4, h5⟩ := h.ex
  have d : Dx H' (.ref a) (.tuple (ts.map mkP)) := V4.dx_ext e _ _ (.tup h2 (dxAll_of _ _ h3))
  obtain ⟨a', us', ea, e2, r⟩ := Dx.tup_inv d
  cases ea
  have z := e _ _ h2 fun ps y => nomatch y
  rw [e2] at z
  cases z
  exact ⟨dx, a, q, us, kvs, e _ _ h1 (fun ps y => nomatch y), e2, dqAll_of _ _ (plain_pairs ts) r, e _ _ h4 (fun ps y => nomatch y), h5⟩
def spAlone : Sp := fun vs H Q _ => ∃ p ts o v, vs = [.ref p, v, .str o] ∧ TAt H p ts o ∧ GoodT ts ∧ Dq H v (.tuple (ts.map mkP)) ∧ Tabs (tsK K) H ∧ ∀ H', ExtN H H' → Tabs (tsK K) H' → Q (.bl true) H'
end
theorem scAlone : FnScope ["table", "pairs", "other", "some", "thing"] ["table", "pairs", "other"] (defScope s__law_alone) := ⟨rfl, rfl, rfl, by decide +kernel, rfl, by decide +kernel, by decide +kernel⟩
section
variable [CurK] {P : Program} {w : World} {mg : Str → Option Value} {base : Heap}
theorem no_ty (T : Tx K mg) {H : Hp} {x : V} (h : NoTab H x) : ∃ t, TyX K H x t ∧ PySem.W.notFirst K (He.ga K "Table") t = true ∧ ∀ p ts o Q E, TAt H p ts o → GoodT ts → Q (.bl false) H → spTEq [.ref p, x] H Q E := by
  rcases h with ⟨d, hd, ne⟩ | ⟨a, dx, fs, C, rfl, e, i, k, n⟩
  · obtain ⟨t, ty, kk, nf⟩ := kxC_no (T.insK 0 (x := "Table") rfl) hd ne
    exact ⟨t, ty, nf, fun p ts o Q E ta gt q => ⟨p, ts, o, x, rfl, ta, gt, .inl ⟨d, hd, ne, q⟩⟩⟩
  · exact ⟨.ref C, TyX_ins e i, n, fun p ts o Q E ta gt q => ⟨p, ts, o, _, rfl, ta, gt, .inr (.inl ⟨a, dx, fs, C, rfl, e, i, k, q⟩)⟩⟩
theorem eq_no (T : Tx K mg) {H : Hp} {x : V} {p : Addr} {ts : Tp} {o : Str} {Q : VK} {E : XK} (ta : TAt H p ts o) (gt : GoodT ts) (h : NoTab H x) (k : Q (.bl false) H) : rOwnE K (He.ga K "Table") spTEq E (.ref p) x H Q := by
  obtain ⟨t, ty, nf, sp⟩ := no_ty T h
  obtain ⟨dx, a, q, us, kvs, hp, _⟩ := ta.ex
  exact ⟨p, dx, _, t, rfl, hp, ty, nf, sp p ts o _ E ta gt ⟨false, rfl, k⟩⟩
theorem ne_no (T : Tx K mg) {H : Hp} {x : V} {p : Addr} {ts : Tp} {o : Str} {Q : VK} {E : XK} (ta : TAt H p ts o) (gt : GoodT ts) (h : NoTab H x) (k : Q (.bl true) H) : V4.rOwnNe K (He.ga K "Table") spTEq E (.ref p) x H Q := by
  obtain ⟨t, ty, nf, sp⟩ := no_ty T h
  obtain ⟨dx, a, q, us, kvs, hp, _⟩ := ta.ex
  exact ⟨p, dx, _, t, rfl, hp, ty, nf, sp p ts o _ E ta gt ⟨false, rfl, k⟩⟩
theorem ok_alone (T : Tx K mg) (TB : TabB base mg (V4.pairOf K (He.ga K "_law_alone")).1 (V4.pairOf K (He.ga K "_law_alone")).2) : Has P w K mg base CX0 8 "_law_alone" ["table", "pairs", "other"] spAlone := by
  obtain ⟨fd, F⟩ := T.c.def_ 32 (d := d__law_alone) rfl
  have Hp := ok_pinit (P := P) (w := w) (base := base) T
  have Hv := ok_vinit (P := P) (w := w) (base := base) T
  obtain ⟨fdE, Fe, be⟩ := ok_teq (P := P) (w := w) (base := base) T
  have iT := (T.insK 0 (x := "Table") rfl).ins (He.cls_ok (T.c.fact 69 rfl)) T.exs.2.2.2
  have LD := T.lam "_law_alone" (by decide)
  have mem : ((V4.pairOf K (He.ga K "_law_alone")).2, (("_law_alone" : Str) ++ ".<locals>.") ++ "<lambda>") ∈ tsK K := List.mem_map.mpr ⟨"_law_alone", by decide, rfl⟩
  have uniq : ∀ p ∈ tsK K, p.1 = (V4.pairOf K (He.ga K "_law_alone")).2 → p.2 = (("_law_alone" : Str) ++ ".<locals>.") ++ "<lambda>" := fun p hp _ => by
    obtain ⟨y, hy, rfl⟩ := List.mem_map.mp hp
    simp only [lamN, List.mem_cons, List.not_mem_nil, or_false] at hy
    rw [hy]
  refine ⟨fd, V4.okC F LD scAlone (fun vs H Q E h => ?_) (fun A outer s H vs Q E hr h => ?_), FunD.bindsN F fun _ _ _ _ _ _ us hl => match us, hl with | [_, _, _], _ => rfl, F.kp, (T.glo 48 rfl)⟩
  · obtain ⟨p, ts, o, v, rfl, _⟩ := h
    rfl
  · refine ⟨_, PSs.nox (pss_cons (ps_set (i := 3) scAlone.nd rfl (Or.inl rfl) (pe_lstS (pa_cons (pe_hasC Hp (hr.mono (by decide)) passF (pa_cons (pe_tup pa_nil) pa_nil)) (pa_cons (pe_hasC Hv (hr.mono (by decide)) pass0 (pa_cons (V4.pe_lamV (ts := tsK K) TB rfl mem uniq (by show ∀ y ∈ (_ : List (Str × NameKind)), y.2 = .free → (defScope s__law_alone).names.lookup y.1 = some .cell ∨ (defScope s__law_alone).names.lookup y.1 = some .free; decide +kernel)) pa_nil)) (pa_cons (pe_tup (pa_cons (pv 1) (pa_cons (pv 2) pa_nil))) (pa_cons (pv 1) (pa_cons pe_non (pa_cons (pv 2) pa_nil))))))))
 (pss_one (ps_ret (pe_and (pe_not (pe_callB (cr_any rfl) (by rfl) (T.free 52 rfl) (by decide +kernel) (pa_cons (pe_lc (own := [("thing", 4)]) (g := gName 4) (tt := tYes) (te := tOp (rOwnE K (He.ga K "Table") spTEq (fun _ _ _ => False)) (tVar 0) (tVar 4)) (by rfl) scAlone.nd (pi_list (pv 3))
 (blkOk_by (own := [("thing", 4)]) (N := ["table", "pairs", "other", "some", "thing"]) (sc := defScope s__law_alone) (by decide +kernel)) (fun _ _ _ _ _ => pg_name (i := 4) scAlone.nd rfl (Or.inl rfl)) (fun _ _ _ _ _ => pts_nil) (fun _ _ _ _ _ => (pe_cmpR (op_ownE Fe (He.meth_ok (T.c.fact 75 (f := .meth "Table" "__eq__") rfl)).at_ (He.meth_ok (T.c.fact 75 (f := .meth "Table" "__eq__") rfl)).fn be pass0 (hr.mono (by decide))) (pv 0) (pv 4) (nomark _)))) pa_nil))) (pe_one (pe_callB (cr_all rfl) (by rfl) (T.free 51 rfl) (by decide +kernel) (pa_cons (pe_lc (own := [("thing", 4)]) (g := gName 4) (tt := tYes) (te := tOp (V4.rOwnNe K (He.ga K "Table") spTEq (fun _ _ _ => False)) (tVar 0) (tVar 4)) (by rfl) scAlone.nd (pi_list (pv 3))
 (blkOk_by (own := [("thing", 4)]) (N := ["table", "pairs", "other", "some", "thing"]) (sc := defScope s__law_alone) (by decide +kernel)) (fun _ _ _ _ _ => pg_name (i := 4) scAlone.nd rfl (Or.inl rfl)) (fun _ _ _ _ _ => pts_nil) (fun _ _ _ _ _ => (pe_cmpR (V4.op_ownNe Fe (T.ne "Table" (by decide)) iT (He.meth_ok (T.c.fact 75 (f := .meth "Table" "__eq__") rfl)).at_ (He.meth_ok (T.c.fact 75 (f := .meth "Table" "__eq__") rfl)).fn be pass0 (hr.mono (by decide))) (pv 0) (pv 4) (nomark _)))) pa_nil))))))), ?_⟩
    obtain ⟨p, ts, o, v, rfl, ta, gt, hv, ht, hQ⟩ := h
    have hd : Dx H v (.tuple (ts.map mkP)) := dx_of _ _ hv
    refine ⟨(by show 0 ≤ sizeLine; decide), fun u nu => ?_⟩
    have s1 := same_new (o := HO.tup []) nu
    have eu : upd H u (HO.tup []) u = some (.tup []) := upd_same
    generalize upd H u (HO.tup []) = H1 at s1 eu ⊢
    intro p1 dx1 np1 nd1 ne1
    have sm1 : Same H1 (upd (upd H1 dx1 (.own p1)) p1 (.ins (He.ga K "Program") dx1 [])) := fun b o e => by
      rw [upd_ne (ne_of_none e np1), upd_ne (ne_of_none e nd1)]
      exact e
    refine ⟨p1, dx1, u, rfl, upd_same, sm1 _ _ eu, fun H2 st2 e2 => ⟨rfl, ?_⟩⟩
    have s12 : Same H H2 := s1.trans fun b o e => st2 b o (ne_of_none e np1) (sm1 _ _ e)
    refine ⟨V4.tabs_same ht s12, fun H3 f eN t3 nf => ?_⟩
    have x3 : ExtN H H3 := (ExtN.of s12).trans eN
    have e3 := eN _ _ e2 fun ps y => nomatch y
    intro p2 dx2 np2 nd2 ne2
    have sm2 : Same H3 (upd (upd H3 dx2 (.own p2)) p2 (.ins (He.ga K "Voice") dx2 [])) := fun b o e => by
      rw [upd_ne (ne_of_none e np2), upd_ne (ne_of_none e nd2)]
      exact e
    refine ⟨p2, dx2, .ref f, rfl, upd_same, fun H4 st4 e4 => ⟨rfl, ?_⟩⟩
    have s34 : Same H3 H4 := fun b o e => st4 b o (ne_of_none e np2) (sm2 _ _ e)
    refine ⟨_, rfl, _, rfl, (by show 2 ≤ sizeLine; decide), fun t nt => ⟨_, rfl, _, rfl, (by show 6 ≤ sizeLine; decide), fun l nl _ => ?_⟩⟩
    have s5 := same_new (o := HO.tup [v, .str o]) nt
    have et : upd H4 t (HO.tup [v, .str o]) t = some (.tup [v, .str o]) := upd_same
    generalize upd H4 t (HO.tup [v, .str o]) = H5 at s5 et nl ⊢
    have s6 := same_new (o := HO.lst [.ref p1, .ref p2, .ref t, v, .non, .str o]) nl
    have el : upd H5 l (HO.lst [.ref p1, .ref p2, .ref t, v, .non, .str o]) l = some (.lst [.ref p1, .ref p2, .ref t, v, .non, .str o]) := upd_same
    generalize upd H5 l (HO.lst [.ref p1, .ref p2, .ref t, v, .non, .str o]) = H6 at s6 el ⊢
    have s46 := s5.trans s6
    have s36 := s34.trans s46
    have x6 : ExtN H H6 := x3.trans (ExtN.of s36)
    have ta6 := ta.ext x6
    have t6 := V4.tabs_same t3 s36
    have d6 := V4.dx_ext x6 _ _ hd
    have items : ∀ x ∈ [V.ref p1, V.ref p2, V.ref t, v, V.non, V.str o], NoTab H6 x := fun x hx => by
      simp only [List.mem_cons, List.not_mem_nil, or_false] at hx
      rcases hx with rfl | rfl | rfl | rfl | rfl | rfl
      · exact .inr ⟨p1, dx1, _, _, rfl, s36 _ _ e3, (T.insK 2 (x := "Program") rfl).ins (He.cls_ok (T.c.fact 82 rfl)) T.exs.2.2.2, (T.two 2 0 (x := "Program") (y := "Table") rfl rfl (by decide)).1, (T.two 0 2 (x := "Table") (y := "Program") rfl rfl (by decide)).2⟩
      · exact .inr ⟨p2, dx2, _, _, rfl, s46 _ _ e4, (T.insK 1 (x := "Voice") rfl).ins (He.cls_ok (T.c.fact 77 rfl)) T.exs.2.2.2, (T.two 1 0 (x := "Voice") (y := "Table") rfl rfl (by decide)).1, (T.two 0 1 (x := "Table") (y := "Voice") rfl rfl (by decide)).2⟩
      · exact .inl ⟨.tuple [.tuple (ts.map mkP), .str o], .tup (s6 _ _ et) (.cons d6 (.cons (.str o) .nil)), fun z => nomatch z⟩
      · exact .inl ⟨_, d6, fun z => nomatch z⟩
      · exact .inl ⟨_, .non, fun z => nomatch z⟩
      · exact .inl ⟨_, .str o, fun z => nomatch z⟩
    clear s1 eu np1 nd1 ne1 sm1 st2 s12 eN x3 np2 nd2 ne2 sm2 st4 s34 nt nl s5 et s6 s46 s36 e3 e4 e2 t3 nf nu
    refine ⟨_, rfl, l, rfl, ⟨_, sq_of el⟩, fun D nD => ?_⟩
    refine lc_gen (σ := [some (.ref p), some v, some (.str o), some (.ref l), none]) (vs := [4]) (walk_list (K := K) (a := l) (xs := [.ref p1, .ref p2, .ref t, v, .non, .str o])) nD (fun i acc H' => Same H6 H' ∧ acc = (List.replicate i false).map V.bl) ⟨Same.refl H6, rfl⟩ (fun i acc H' _ z => sq_of (same_delH _ _ (z.1 _ _ el))) ?_ ?_
    · rintro i acc x H7 H8 hi le e7 ⟨sm, rfl⟩ ⟨rfl, hx⟩
      have sm8 := sm.trans same_delH
      refine ⟨rfl, ?_⟩
      simp only [tYes, if_true]
      refine ⟨_, rfl, _, rfl, eq_no T (ta6.same sm8) gt ((items x (List.mem_of_getElem? hx)).same sm8) ?_⟩
      exact lc_put le (by have : i < 6 := hi; omega) e7 ⟨sm, by rw [List.replicate_succ', List.map_append]; rfl⟩
    · rintro acc H7 le e7 ⟨sm, rfl⟩
      have sm7 : Same H6 H7 := sm.trans same_delH
      refine ⟨D, List.replicate 6 false, rfl, sq_of e7, ?_⟩
      refine ⟨_, rfl, _, rfl, iteT ?_⟩
      refine ⟨_, rfl, l, rfl, ⟨_, sq_of (sm7 _ _ el)⟩, fun D2 nD2 => ?_⟩
      refine lc_gen (σ := [some (.ref p), some v, some (.str o), some (.ref l), none]) (vs := [4]) (walk_list (K := K) (a := l) (xs := [.ref p1, .ref p2, .ref t, v, .non, .str o])) nD2 (fun i acc H' => Same H7 H' ∧ acc = (List.replicate i true).map V.bl) ⟨Same.refl H7, rfl⟩ (fun i acc H' _ z => sq_of (same_delH _ _ (z.1 _ _ (sm7 _ _ el)))) ?_ ?_
      · rintro i acc x H8 H9 hi le e8 ⟨sm, rfl⟩ ⟨rfl, hx⟩
        have sm9 := sm7.trans (sm.trans same_delH)
        refine ⟨rfl, ?_⟩
        simp only [tYes, if_true]
        refine ⟨_, rfl, _, rfl, ne_no T (ta6.same sm9) gt ((items x (List.mem_of_getElem? hx)).same sm9) ?_⟩
        exact lc_put le (by have : i < 6 := hi; omega) e8 ⟨sm, by rw [List.replicate_succ', List.map_append]; rfl⟩
      · rintro acc H8 le8 e8 ⟨sm, rfl⟩
        have sm8 := sm7.trans (sm.trans same_delH)
        exact ⟨D2, List.replicate 6 true, rfl, sq_of e8, hQ H8 (x6.trans (ExtN.of sm8)) (V4.tabs_same t6 sm8)⟩
end
end K01

set_option maxHeartbeats 4000000
namespace V2
open PySem PySem.Spec PyProof.Rows L2 V1
theorem call_list_low {X : Cx} : CallR X (.type "list") (fun xs H Q => ∃ p ys, xs = [.ref p] ∧ (SqL X.K H p ys ∨ SqT X.K H p ys) ∧ ∀ l, H l = none → (l == sysModules) = false → Q (.ref l) (upd H l (.lst ys))) := by
  rintro pins s σ H xs us Q I r ⟨p, ys, rfl, hq, q⟩
  obtain ⟨u, rfl, rx⟩ := vals1 r
  cases rx
  have src : ∃ (zs : List Value) (T : String) (o : Obj) (n : Nat), Vals ys zs ∧ ys.length ≤ sizeLine ∧ (T = "list" ∨ T = "tuple") ∧ s.heap.get? p = some o ∧ o.cls = .type T ∧ o.data = .seq zs.toArray n := by
    rcases hq with hq | hq
    · obtain ⟨zs, w, pl, z⟩ := I.list hq
      obtain ⟨o, e, c, n, d⟩ := pl.isList
      exact ⟨zs, _, o, n, w, z, .inl rfl, e, c, d⟩
    · obtain ⟨zs, w, pl, z⟩ := I.tuple hq
      obtain ⟨o, e, c, n, d⟩ := pl
      exact ⟨zs, _, o, n, w, z, .inr rfl, e, c, d⟩
  obtain ⟨zs, T, o, n, w, z, hT, e, c, d⟩ := src
  have lz := w.length
  refine call_list_seq p hT e c d (fun h1 c1 kp eh => ?_) (by simp only [List.size_toArray]; omega)
  exact ⟨.ref s.heap.objs.size, _, I.laid (o := .lst ys) (t' := s.toks) kp (Nat.le_refl _) ⟨z, zs, c1, w, eh⟩, rfl, q _ (I.hok.fresh (Nat.le_refl _)) (beq_eq_false_iff_ne.mpr (Nat.ne_of_gt I.big))⟩
end V2
namespace K01
open PySem PySem.Spec PyProof.Rows L2 V1 V2 V3
open Evl (pss_cut tCut sq_of st_of)
section
variable [CurK] {σ : L2.St} {H0 : Hp} {a : Addr}
theorem mky_catA {t1 t2 : TE} {ds es : List PyData} (ha : Held H0 a) (h1 : MkY H0 a t1 σ (.tuple ds)) (h2 : MkY H0 a t2 σ (.tuple es)) (n2 : es ≠ []) (l : ds.length + es.length ≤ 5000) : MkY H0 a (tOp (rCatA K) t1 t2) σ (.tuple (ds ++ es)) := fun H s Q k =>
  h1 H s _ fun v H1 s1 q1 => h2 H1 (s.trans s1) _ fun u H2 s2 q2 => by
    obtain ⟨p, xs, rfl, e1, r1, l1⟩ := V4.tup_at q1
    obtain ⟨q, ys, rfl, e2, r2, l2⟩ := V4.tup_at q2
    have e1' := s2 _ _ e1
    have r1' := DxAll.same (same_del s2) _ _ r1
    have ny : ys ≠ [] := fun z => n2 (by
      rw [z] at l2
      exact List.eq_nil_of_length_eq_zero l2.symm)
    refine ⟨p, q, xs, ys, rfl, rfl, st_of e1', st_of e2, Nat.le_trans (by omega : xs.length + ys.length ≤ 5000) (by decide), fun z => ?_, fun _ z => absurd z ny, fun nx _ c nc => ?_⟩
    · have z2 : ds = [] := by
        rw [z] at l1
        exact List.eq_nil_of_length_eq_zero l1.symm
      exact k _ H2 (s1.trans s2) (by rw [z2, List.nil_append]; exact q2)
    · have sn := same_new (o := HO.tup (xs ++ ys)) nc
      have na : c ≠ a := fun z => by
        obtain ⟨o, e⟩ := ha.same (s.trans (s1.trans s2))
        rw [z, e] at nc
        cases nc
      refine k _ _ ((s1.trans s2).trans sn) (.tup (by rw [delH_ne na]; exact upd_same) ?_)
      exact DxAll.app (DxAll.same (same_del sn) _ _ r1') (DxAll.same (same_del sn) _ _ r2)
def teRow : TE := tLstS (tCons (tVar 5) (tCons (tVar 5) (tCons (tSl (rSlA K) (tVar 5) (tPart (tC (.int 1))) tNoPart) (tCons (tOp (rCatA K) (tVar 5) (tTup (tCons (tC (.str (Str.ofString "a"))) tNil))) (tCons (tSl (rSlA K) (tVar 5) tNoPart (tPart (tUn (rU fun i => V.int (-i)) (tC (.int 1))))) tNil)))))
def rowM (r : List Str) : List PyData := [mkR r, mkR r, .tuple (V4.cutD (r.map .str) (some (1 : Int)) none), .tuple (r.map .str ++ [.str (Str.ofString "a")]), .tuple (V4.cutD (r.map .str) none (some (-1)))]
theorem mk_row {r : List Str} {v : V} (ha : Held H0 a) (hv : Dx (delH H0 a) v (mkR r)) (h5 : σ[5]? = some (some v)) (l : r.length ≤ 400) : MkY H0 a teRow σ (.list (rowM r)) :=
  V4.mky_lst ha (V4.mkya_cons (V4.mky_var hv h5) (V4.mkya_cons (V4.mky_var hv h5) (V4.mkya_cons (V4.mky_cut (lo := some (1 : Int)) (hi := none) ha (V4.mky_var hv h5) (fun _ _ q => ⟨_, rfl, q⟩) (fun _ _ q => q)) (V4.mkya_cons (mky_catA ha (V4.mky_var hv h5) (V4.mky_tup ha (V4.mkya_cons (V4.mky_of ha (mkx_of (mkn_str _))) V4.mkya_nil) (by show 1 ≤ 1000; decide)) (by simp) (by rw [List.length_map]; simp only [List.length_cons, List.length_nil]; omega)) (V4.mkya_cons (V4.mky_cut (lo := none) (hi := some (-1)) ha (V4.mky_var hv h5) (fun _ _ q => q) (fun _ _ q => ⟨1, rfl, -1, rfl, q⟩)) V4.mkya_nil))))) (by show 5 ≤ 1000; decide)
theorem rowM_ok {r : List Str} (h : ∀ x ∈ r, wordX x = true) (l : r.length ≤ 400) : ∀ d ∈ rowM r, ∃ r' : List Str, d = mkR r' ∧ (∀ x ∈ r', wordX x = true) ∧ r'.length ≤ 401 := by
  have cut : ∀ lo hi, ∃ r' : List Str, PyData.tuple (V4.cutD (r.map .str) lo hi) = mkR r' ∧ (∀ x ∈ r', wordX x = true) ∧ r'.length ≤ 401 := fun lo hi => by
    unfold V4.cutD
    generalize HT.sIx (r.map PyData.str).length 0 lo = i
    generalize HT.sIx (r.map PyData.str).length (r.map PyData.str).length hi = j
    refine ⟨(r.drop i).take (j - i), ?_, fun x hx => h x (List.mem_of_mem_drop (List.mem_of_mem_take hx)), ?_⟩
    · unfold mkR
      rw [List.map_take, List.map_drop]
    · rw [List.length_take, List.length_drop]
      omega
  intro d hd
  simp only [rowM, List.mem_cons, List.not_mem_nil, or_false] at hd
  rcases hd with rfl | rfl | rfl | rfl | rfl
  · exact ⟨r, rfl, h, by omega⟩
  · exact ⟨r, rfl, h, by omega⟩
  · exact cut _ _
  · refine ⟨r ++ [Str.ofString "a"], ?_, fun x hx => ?_, by rw [List.length_append]; simp only [List.length_cons, List.length_nil]; omega⟩
    · unfold mkR
      rw [List.map_append]
      rfl
    · rcases List.mem_append.mp hx with q | q
      · exact h x q
      · rw [List.mem_singleton.mp q]
        decide +kernel
  · exact cut _ _
theorem row_short {r : List Str} (h : ∀ x ∈ r, wordX x = true) : shortAll (r.map PyData.str) = true := all_short fun d hd => by
  obtain ⟨x, hx, rfl⟩ := List.mem_map.mp hd
  have z : x.length ≤ 40 ∧ Txt.isascii x = true ∧ Txt.isprintable x = true := by simpa [wordX] using h x hx
  simp only [shortA, decide_eq_true_eq]
  omega
def MA (a p b : Addr) (H : Hp) (o : Str) (σ : L2.St) (H' : Hp) : Prop := ∃ o4 v o6, ∃ r : List Str, σ = [some (.ref a), some (.ref p), some (.ref b), some (.str o), o4, some v, o6] ∧ Go a H H' ∧ Dx (delH H' a) v (mkR r) ∧ (∀ x ∈ r, wordX x = true) ∧ r.length ≤ 401
def MB (a p b : Addr) (H : Hp) (o : Str) (σ : L2.St) (H' : Hp) : Prop := ∃ o4 v o6 d, σ = [some (.ref a), some (.ref p), some (.ref b), some (.str o), o4, some v, o6] ∧ Go a H H' ∧ Dx (delH H' a) v d ∧ shortA d = true
def MC (a p b : Addr) (H : Hp) (ts : Tp) (o : Str) (σ : L2.St) (H' : Hp) : Prop := ∃ o4 v u d, σ = [some (.ref a), some (.ref p), some (.ref b), some (.str o), o4, some v, some u] ∧ Go a H H' ∧ Dx (delH H' a) v d ∧ shortA d = true ∧ Dq H' u (toldD ts o d)
def spTells : Sp := fun vs H Q _ => ∃ a p b ts o, vs = [.ref a, .ref p, .ref b, .str o] ∧ HandAt H a ∧ TAt (delH H a) p ts o ∧ GoodT ts ∧ ts.length ≤ 200 ∧ Dx (delH H a) (.ref b) (.tuple (ts.map mkP)) ∧ ∀ H', Go a H H' → Q (.bl true) H'
end
theorem scTells : FnScope ["hand", "table", "pairs", "other", "k", "row", "due"] ["hand", "table", "pairs", "other"] (defScope s__law_tells) := ⟨rfl, rfl, rfl, by decide +kernel, rfl, by decide +kernel, by decide +kernel⟩
section
variable [CurK] {P : Program} {w : World} {mg : Str → Option Value} {base : Heap}
theorem ok_tells (T : Tx K mg) : Has P w K mg base (L2.CX P w) 14 "_law_tells" ["hand", "table", "pairs", "other"] spTells := by
  obtain ⟨fd, F⟩ := T.c.def_ 31 (d := d__law_tells) rfl
  have Hrw := ok_lrow (P := P) (w := w) (base := base) T
  have Hd := ok_draw (P := P) (w := w) (base := base) T
  have Hs := ok_some (P := P) (w := w) (base := base) T
  have Ho := ok_odd (P := P) (w := w) (base := base) T
  have Hir := ok_lisrow (P := P) (w := w) (base := base) T
  have Hbe := ok_beside (P := P) (w := w) (base := base) T
  have Hto := ok_told (P := P) (w := w) (base := base) T
  have His := ok_is (P := P) (w := w) (base := base) T 3
  refine ⟨fd, F.ok scTells (fun vs H Q E h => ?_) (fun cdv A outer s H vs Q E hr h => ?_), FunD.bindsN F fun _ _ _ _ _ _ us hl => match us, hl with | [_, _, _, _], _ => rfl, F.kp, (T.glo 47 rfl)⟩
  · obtain ⟨a, p, b, ts, o, rfl, _⟩ := h
    rfl
  · refine ⟨_, PSs.nox (pss_cons (ps_for PassesOwn.never rfl (pi_range1 (by rfl) (T.free 59 rfl) (pa_cons pe_int pa_nil)) (pg_name (i := 4) scTells.nd rfl (Or.inl rfl))
 (pss_cons (ps_set (i := 5) scTells.nd rfl (Or.inl rfl) (pe_has Hrw (hr.mono (by decide)) pass0 (pa_cons (pv 0) pa_nil)))
 (pss_cut (ps_if (PW.pt (pw_and (pt_cmpR op_gt (pe_callB call_len (by rfl) (T.free 57 rfl) PySem.boot_len (pa_cons (pv 2) pa_nil)) pe_int (nomark _)) (pw_and1 (pt_cmpR op_eq (pe_has Hd (hr.mono (by decide)) pass0 (pa_cons (pv 0) (pa_cons pe_int pa_nil))) pe_int (nomark _)))))
 (pss_cons (ps_set (i := 5) scTells.nd rfl (Or.inl rfl) (pe_ix ix_tup (pe_has Hs (hr.mono (by decide)) pass0 (pa_cons (pv 0) (pa_cons (pv 2) pa_nil))) pe_int (fun _ _ => rfl)))
 (pss_one (ps_set (i := 5) scTells.nd rfl (Or.inl rfl) (pe_has Hs (hr.mono (by decide)) pass0 (pa_cons (pv 0) (pa_cons (pe_lstS (pa_cons (pv 5) (pa_cons (pv 5) (pa_cons (pe_slice sl_tupA (pv 5) (po_some pe_int) po_none) (pa_cons (pe_op op_catA (pv 5) (pe_tup (pa_cons pe_str pa_nil))) (pa_cons (pe_slice sl_tupA (pv 5) po_none (po_some (pe_un un_neg pe_int))) pa_nil)))))) pa_nil))))))
 pss_nil)
 (pss_cut (ps_set (i := 5) scTells.nd rfl (Or.inl rfl) (pe_has Hs (hr.mono (by decide)) pass0 (pa_cons (pv 0) (pa_cons (pe_lstS (pa_cons (pv 5) (pa_cons (pv 5) (pa_cons (pv 5) (pa_cons (pv 5) (pa_cons (pe_has Ho (hr.mono (by decide)) passF (pa_cons (pv 0) pa_nil)) (pa_cons (pe_callTy call_list_low (by rfl) (T.free 58 rfl) (by decide +kernel) (pa_cons (pv 5) pa_nil)) (pa_cons pe_str pa_nil)))))))) pa_nil))))
 (pss_cons (ps_set (i := 6) scTells.nd rfl (Or.inl rfl) (pe_tup (pa_cons pe_str (pa_cons pe_non pa_nil))))
 (pss_cut (ps_if (pt_val (pe_has Hir (hr.mono (by decide)) pass0 (pa_cons (pv 5) pa_nil)))
 (pss_one (ps_set (i := 6) scTells.nd rfl (Or.inl rfl) (pe_tup (pa_cons pe_str (pa_cons (pe_has Hbe (hr.mono (by decide)) pass0 (pa_cons (pv 2) (pa_cons (pv 3) (pa_cons (pv 5) pa_nil)))) pa_nil)))))
 pss_nil)
 (pss_one (ps_if (pt_not (pt_val (pe_has His (hr.mono (by decide)) pass0 (pa_cons (pe_has Hto (hr.mono (by decide)) pass0 (pa_cons (pv 1) (pa_cons (pv 5) pa_nil))) (pa_cons (pv 6) pa_nil)))))
 (pss_one (ps_ret pe_bl))
 pss_nil))))))))
 (pss_one (ps_ret pe_bl))), ?_⟩
    obtain ⟨a, p, b, ts, o, rfl, hd, ta, gt, l2, hb, hQ⟩ := h
    refine ⟨5, rfl, by decide, by decide, ?_⟩
    rw [show (5 : Int).toNat = 5 from rfl]
    refine for_it (walk_range (lo := 0) (n := 5)) (fun i σ H' => (∃ o4 o5 o6, σ = [some (.ref a), some (.ref p), some (.ref b), some (.str o), o4, o5, o6]) ∧ Go a H H') ⟨⟨_, _, _, rfl⟩, Go.refl hd⟩ (fun _ _ _ _ _ => True.intro) ?_ (fun σ H' z => hQ H' z.2)
    rintro i x σ H1 H2 hi ⟨⟨o4, o5, o6, rfl⟩, g1⟩ ⟨rfl, rfl⟩
    refine ⟨_, rfl, a, rfl, g1.hd, fun H3 q r g3 qa e3 rl => ?_⟩
    have g13 := g1.trans g3
    have er : Dx (delH H3 a) (.ref q) (mkR r) := .tup (by rw [delH_ne qa]; exact e3) (by
      have z : ∀ (G : Hp) (ys : List Str), DxAll G (ys.map V.str) (ys.map PyData.str) := fun G ys => by
        induction ys with
        | nil => exact .nil
        | cons y ys ih => exact .cons (.str y) ih
      exact z _ r)
    have ln := rl.ln
    have start : MA a p b H o [some (.ref a), some (.ref p), some (.ref b), some (.str o), some (.int (0 + (i : Nat))), some (.ref q), o6] H3 := ⟨_, _, _, r, rfl, g13, er, rl.ok, by omega⟩
    refine ⟨MA a p b H o, ?_, fun σ4 H4 mA => ⟨MB a p b H o, ?_, fun σ5 H5 mB => ?_⟩⟩
    · obtain ⟨b', us, eb, hbt, hus⟩ := Dx.tup_inv (g13.dx hb)
      cases eb
      have lus := dxAll_len hus
      rw [List.length_map] at lus
      refine ⟨_, rfl, _, _, rfl, .inr ⟨us, st_of (same_delH _ _ hbt), rfl⟩, _, _, rfl, rfl, _, rfl, ite2 (fun e => ?_) (fun e => iteF start)⟩
      have e0 := of_decide_eq_true e
      refine ⟨_, rfl, a, 2, rfl, g13.hd, by decide, by decide, fun H5 r2 hd5 e5 c5 r0 r1 => ⟨rfl, _, rfl, ite2 (fun _ => ?_) (fun _ => ?_)⟩⟩
      · have g15 := g13.trans (Go.draw hd5 e5 c5)
        refine ⟨_, rfl, _, rfl, some_data hd5 (g15.dx hb) (.inr rfl) (by rw [List.length_map]; omega) (by rw [List.length_map]; omega) fun H6 w d g6 m6 q6 => ?_⟩
        obtain ⟨t, ht, rfl⟩ := List.mem_map.mp m6
        obtain ⟨q2, ws, rfl, hq2, hw⟩ := Dx.tup_inv q6
        cases hw with | @cons va _ _ _ qa' r1 =>
        cases r1 with | @cons vb _ _ _ qb r2' =>
        cases r2'
        obtain ⟨k1, k2, k3⟩ := gt.ok t ht
        refine ⟨q2, _, 0, va, rfl, rfl, st_of (same_delH _ _ hq2), rfl, ?_⟩
        refine ⟨_, rfl, mk_row g6.hd.held qa' rfl k2 H6 (Same.refl H6) _ fun v7 H7 s7 q7 => some_data (hand_same g6.hd s7) q7 (.inl rfl) (by show 0 < 5; decide) (by show 5 < 1000; decide) fun H8 w8 d8 g8 m8 q8 => ?_⟩
        obtain ⟨r', rfl, hr', lr'⟩ := rowM_ok k1 k2 d8 m8
        exact ⟨_, _, _, r', rfl, (g15.trans g6).trans ((Go.new g6.hd s7).trans g8), q8, hr', lr'⟩
      · exact ⟨_, _, _, r, rfl, g13.trans (Go.draw hd5 e5 c5), (Go.draw hd5 e5 c5).dx er, rl.ok, by omega⟩
    · obtain ⟨o4, v, o6', r, rfl, g4, hv, hr', lr⟩ := mA
      refine ⟨_, rfl, _, rfl, _, rfl, _, rfl, _, rfl, _, rfl, a, rfl, g4.hd, fun H5 w d5 g5 q5 sh5 => ?_⟩
      have hv5 := g5.dx hv
      obtain ⟨q', ys, rfl, hq', hys⟩ := Dx.tup_inv hv5
      refine ⟨_, rfl, q', ys, rfl, .inr (st_of (same_delH _ _ hq')), fun l nl low => ⟨(by show 7 ≤ sizeLine; decide), fun m nm mlow => ?_⟩⟩
      have la := g5.hd.ne_new nl
      have s6 := same_new (o := HO.lst ys) nl
      have el : Dx (delH (upd H5 l (HO.lst ys)) a) (.ref l) (.list (r.map .str)) := .lst (by rw [delH_ne la]; exact upd_same) low (DxAll.same (same_del s6) _ _ hys)
      have g6 := (g4.trans g5).trans (Go.new g5.hd s6)
      have hv6 := Dx.same (same_del s6) _ _ hv5
      have q6 := Dx.same (same_del s6) _ _ q5
      generalize upd H5 l (HO.lst ys) = H6 at el g6 hv6 q6 nm ⊢
      have ma := g6.hd.ne_new nm
      have s7 := same_new (o := HO.lst [.ref q', .ref q', .ref q', .ref q', w, .ref l, .str "a"]) nm
      have em : Dx (delH (upd H6 m (HO.lst [.ref q', .ref q', .ref q', .ref q', w, .ref l, .str "a"])) a) (.ref m) (.list [mkR r, mkR r, mkR r, mkR r, d5, .list (r.map .str), .str "a"]) := by
        have k1 := Dx.same (same_del s7) _ _ hv6
        exact .lst (by rw [delH_ne ma]; exact upd_same) mlow (.cons k1 (.cons k1 (.cons k1 (.cons k1 (.cons (Dx.same (same_del s7) _ _ q6) (.cons (Dx.same (same_del s7) _ _ el) (.cons (.str _) .nil)))))))
      have g7 := g6.trans (Go.new g6.hd s7)
      generalize upd H6 m (HO.lst [.ref q', .ref q', .ref q', .ref q', w, .ref l, .str "a"]) = H7 at em g7 ⊢
      refine some_data g7.hd em (.inl rfl) (by show 0 < 7; decide) (by show 7 < 1000; decide) fun H8 w8 d8 g8 m8 q8 => ⟨_, _, _, d8, rfl, g7.trans g8, q8, ?_⟩
      have rs : shortA (mkR r) = true := by
        show shortA (.tuple (r.map PyData.str)) = true
        simp only [shortA]
        exact row_short hr'
      simp only [List.mem_cons, List.not_mem_nil, or_false] at m8
      rcases m8 with rfl | rfl | rfl | rfl | rfl | rfl | rfl
      · exact rs
      · exact rs
      · exact rs
      · exact rs
      · exact sh5
      · simp only [shortA]
        exact row_short hr'
      · decide +kernel
    · obtain ⟨o4, v, o6, d, rfl, g5, hv, sh⟩ := mB
      refine ⟨(by show 2 ≤ sizeLine; decide), fun t nt => ?_⟩
      have s6 := same_new (o := HO.tup [.str "none", .non]) nt
      have et : upd H5 t (HO.tup [.str "none", .non]) t = some (.tup [.str "none", .non]) := upd_same
      have g6 := g5.trans (Go.new g5.hd s6)
      have hv6 := Dx.same (same_del s6) _ _ hv
      generalize upd H5 t (HO.tup [.str "none", .non]) = H6 at s6 et g6 hv6 ⊢
      refine ⟨MC a p b H ts o, ?_, fun σ7 H7 mC => ?_⟩
      · refine ⟨_, rfl, v, d, rfl, Dx.same same_delH _ _ hv6, shortA_R sh, fun H7 s7 => ⟨_, rfl, ite2 (fun e => ?_) (fun e => ?_)⟩⟩
        · obtain ⟨ds, rfl, al⟩ : ∃ ds, d = .tuple ds ∧ ds.all wordD = true := by
            cases d with
            | tuple ds =>
              have z : ds.length ≤ 400 ∧ ds.all wordD = true := by simpa [rowD] using e
              exact ⟨ds, rfl, z.2⟩
            | _ => cases e
          obtain ⟨r', rfl, hr'⟩ := words_of al
          have g7 := g6.trans (Go.new g6.hd s7)
          have hv7 := Dx.same (same_del s7) _ _ hv6
          obtain ⟨b', us, eb, hbt, hus⟩ := Dx.tup_inv (Dx.same same_delH _ _ (g7.dx hb))
          cases eb
          refine ⟨_, rfl, _, rfl, _, rfl, b, us, ts, o, v, r', rfl, hbt, dqAll_of _ _ (plain_pairs ts) hus, gt, dq_of (mkR r') _ (row_plain r') (Dx.same same_delH _ _ hv7), hr', (by show 2 ≤ sizeLine; decide), fun t2 nt2 => ?_⟩
          have s8 := same_new (o := HO.tup [.str "told", .str ((look ts r').getD o)]) nt2
          refine ⟨_, v, _, _, rfl, g7.trans (Go.new g7.hd s8), Dx.same (same_del s8) _ _ hv7, sh, ?_⟩
          unfold toldD
          rw [if_pos e, show txOf (.tuple (r'.map PyData.str)) = r' from txOf_row r']
          exact .tup upd_same (.cons (.str _) (.cons (.str _) .nil))
        · refine ⟨_, v, _, d, rfl, g6.trans (Go.new g6.hd s7), Dx.same (same_del s7) _ _ hv6, sh, ?_⟩
          unfold toldD
          rw [if_neg e]
          exact .tup (s7 _ _ et) (.cons (.str _) (.cons .non .nil))
      · obtain ⟨o4', v', u, d', rfl, g7, hv7, sh', hu⟩ := mC
        refine ⟨_, rfl, _, rfl, p, ts, o, v', d', rfl, TAt.same same_delH (ta.same g7.sm), Dx.same same_delH _ _ hv7, sh', fun t2 H8 s8 dq => ⟨_, rfl, _, u, toldD ts o d', rfl, dq, Dq.same s8 _ _ hu, ?_, fun H9 s9 => ⟨_, rfl, iteF ⟨⟨_, _, _, rfl⟩, g7.trans (Go.new g7.hd (s8.trans s9))⟩⟩⟩⟩
        unfold toldD
        split <;> rfl
end
end K01

set_option maxHeartbeats 4000000
namespace K01
open PySem PySem.Spec PyProof.Rows L2 V1 V2 V3
open Evl (pss_cut tCut sq_of st_of)
theorem swo_rows {α : Type} (k : α → List Str) : SrtO.Swo fun x y => rowLt (k x) (k y) := by
  refine ⟨fun x y h => ?_, fun x y z h1 h2 => ?_⟩
  · simp only [rowLt_key, decide_eq_true_eq, decide_eq_false_iff_not] at h ⊢
    exact fun q => List.lt_irrefl _ (List.lt_trans h q)
  · simp only [rowLt_key, decide_eq_false_iff_not] at h1 h2 ⊢
    intro h
    rcases Decidable.em (keyR (k y) < keyR (k x)) with q | q
    · exact h1 q
    · have q1 : keyR (k x) ≤ keyR (k y) := List.not_lt.mp q
      have q2 : keyR (k y) ≤ keyR (k z) := List.not_lt.mp h2
      exact List.not_lt.mpr (List.le_trans q1 q2) h
theorem rows_sortable {prog : Program} {w : World} {A : Around} {s : Shared} {a : Addr} {vs : List Value} {k : Value → List Str} (ne : 0 < vs.length) (room : A.units + 1 < cLine) (hp : ∀ v ∈ vs, V4.TxT s.heap v (k v)) (ha : ∀ o, s.heap.get? a = some o → o.cls ≠ .type "tuple") :
    SrtO.SortableO prog w A s a vs fun v u => rowLt (k v) (k u) := by
  intro h' keep
  have hp' : ∀ v ∈ vs, V4.TxT h' v (k v) := fun v m => by
    obtain ⟨b, us, rfl, ⟨o, e, c, n, d⟩, rv⟩ := hp v m
    exact ⟨b, us, rfl, ⟨o, keep b o (fun z => by subst z; exact ha o e c) e, c, n, d⟩, rv⟩
  obtain ⟨κ, hk, go⟩ := V4.kinds (M := model prog w) (A := A) (s := { s with heap := h' }) ne fun v m => ⟨k v, hp' v m⟩
  refine ⟨κ, go, fun p q m1 m2 => ?_⟩
  have t1 := hp' _ m1
  have t2 := hp' _ m2
  rcases hk with rfl | rfl | rfl
  · exact V4.lt_tuples (s := { s with heap := h' }) t1 t2 ⟨rfl, rfl⟩
  · exact V4.lt_general (s := { s with heap := h' }) t1 t2 (Nat.lt_of_succ_lt room) ⟨rfl, rfl⟩
  · exact V4.lt_one (s := { s with heap := h' }) t1 t2 room ⟨rfl, rfl⟩
/-- sorted(xs), xs a list of tuples of texts -/
def rSortR (K : PySem.W.Frag) : List V → Hp → VK → Prop := fun vs H Q => ∃ (a : Addr) (xs : List V) (k : V → List Str), vs = [V.ref a] ∧ SqL K H a xs ∧ (∀ x ∈ xs, ∃ t, x = V.ref t ∧ H t = some (.tup ((k x).map V.str))) ∧
  ∀ ys p, ys.Perm xs → ys.Pairwise (fun x y => rowLt (k y) (k x) = false) → H p = none → Q (.ref p) (upd H p (.lst ys))
theorem cr_sortR {X : Cx} (room : X.A.units + 4 < cLine) : CallR X (.builtin "sorted") (rSortR X.K) := by
  rintro pins s σ H vs us Q I r ⟨a, xs, k, rfl, hs, hx, q⟩
  obtain ⟨its, rv, hl, hz⟩ := I.list hs
  obtain ⟨u, rfl, ru⟩ := vals1 r
  cases ru
  obtain ⟨e1, e2⟩ := refs_back rv fun x m => (hx x m).elim fun t z => ⟨t, z.1⟩
  have all : ∀ v ∈ its, V4.TxT s.heap v (k (backV v)) := fun v hv => by
    obtain ⟨t, rfl⟩ := e2 v hv
    obtain ⟨t', e, ht⟩ := hx _ (by rw [e1]; exact List.mem_map.mpr ⟨_, hv, rfl⟩ : V.ref t ∈ xs)
    cases e
    obtain ⟨_, its2, r2, o, ho, hc, n, hd⟩ := I.hok _ _ ht
    exact ⟨t, its2, rfl, ⟨o, ho, hc, n, hd⟩, r2⟩
  have line : its.length ≤ sizeLine := by rw [← rv.length]; exact hz
  refine SrtO.sorted_ord (ltv := fun v u => rowLt (k (backV v)) (k (backV u))) (swo_rows fun v => k (backV v)) hl.isList line (fun two h1 b hb kk => ?_) fun out srt stb => ?_
  · refine rows_sortable (s := { s with heap := h1 }) (k := fun v => k (backV v)) (by omega) (by show X.A.units + 1 + 1 + 1 < cLine; omega) (fun v m => ?_) fun o e => ?_
    · obtain ⟨t, ws, e, ⟨o, eo, c, n, d⟩, r2⟩ := all v m
      exact ⟨t, ws, e, ⟨o, (kk _ _ eo).2, c, n, d⟩, r2⟩
    · have z : some o = some _ := e.symm.trans hb
      cases z
      intro c
      exact absurd (Value.type.inj c) (by decide)
  · have refs : ∀ u ∈ out, ∃ a, u = Value.ref a := fun u hu => e2 u (stb.perm.mem_iff.mp hu)
    obtain ⟨n, hn⟩ := PyProof.Rows.sortedAll_at s.heap its out.toArray
    have perm : (out.map backV).Perm xs := by
      rw [e1]
      exact stb.perm.map backV
    refine ⟨.ref (s.heap.objs.size + 1), upd H (s.heap.objs.size + 1) (.lst (out.map backV)), I.laid (t' := s.toks) (fun _ _ e => PyProof.Rows.sortedAll_old e) (Nat.le_succ _) ⟨?_, out, n, vals_back refs, hn⟩, rfl, q _ _ perm ?_ (I.hok.fresh (Nat.le_succ _))⟩
    · rw [perm.length_eq]
      exact hz
    · exact SrtO.srtd_map (lt := fun x y => rowLt (k x) (k y)) srt
end K01

set_option maxHeartbeats 4000000
namespace K01
open PySem PySem.Spec PyProof.Rows L2 V1 V2 V3
open Evl (pss_cut tCut sq_of st_of)
def te200 : TE := tTup (tCons (tCB (fun xs H Q => ∃ i, xs = [.int i] ∧ i.natAbs.log2 < 1920 ∧ Q (.str (toString i)) H) (tCons (tOp (rI0 fun i j => .int (i + j)) (tC (.int 1000)) (tVar 2)) tNil)) tNil)
def tePair : TE := tTup (tCons (tVar 3) (tCons (tCall spLWord [] (fun _ _ _ => False) (tCons (tVar 0) tNil)) tNil))
def spRising [CurK] : Sp := fun vs H Q _ => ∃ a, vs = [.ref a] ∧ HandAt H a ∧ ∀ H' g us ts, Go a H H' → g ≠ a → H' g = some (.lst us) → DxAll (delH H' a) us (ts.map mkP) → GoodT ts → ts.length ≤ 200 → Q (.ref g) H'
theorem LD.go [CurK] {H0 H H' : Hp} {a f c : Addr} {ds : List PyData} (h : LD H0 a f c ds H) (na : f ≠ a) (g : Go a H H') : LD H0 a f c ds H' := by
  obtain ⟨acc, e, d⟩ := h.at_
  have s := same_del (a := f) g.sm
  have e2 := g.sm f _ (by rw [delH_ne na]; exact e)
  rw [delH_ne na] at e2
  exact ⟨g.hd, g.ce.trans h.ce, h.sm.trans s, acc, e2, DxAll.same s _ _ d⟩
theorem LD.Go [CurK] {H0 H : Hp} {a f c : Addr} {ds : List PyData} (h : LD H0 a f c ds H) (c0 : cellsOf H0 a = some (.ref c)) : Go a H0 H := ⟨h.hd, h.ce.trans c0.symm, h.sm.trans same_delH⟩
/-- rows, no two alike, in a list at q -/
def RS [CurK] (a : Addr) (H : Hp) (n : Nat) (σ : L2.St) (H' : Hp) : Prop := ∃ q c o2 o3, ∃ rs : List (List Str), σ = [some (.ref a), some (.ref q), o2, o3] ∧ LD H a q c (rs.map mkR) H' ∧ q ≠ a ∧ c ≠ q ∧ (q == sysModules) = false ∧ rs.Nodup ∧ (∀ r ∈ rs, RowL r) ∧ rs.length ≤ n ∧ cellsOf H a = some (.ref c)
/-- after that: Go, and the list -/
def RT [CurK] (a : Addr) (H : Hp) (σ : L2.St) (H' : Hp) : Prop := ∃ q o2 o3, ∃ rs : List (List Str), σ = [some (.ref a), some (.ref q), o2, o3] ∧ Go a H H' ∧ q ≠ a ∧ (∃ vs, H' q = some (.lst vs) ∧ DxAll (delH H' a) vs (rs.map mkR)) ∧ rs.Nodup ∧ (∀ r ∈ rs, RowL r) ∧ rs.length ≤ 200
theorem rows_shaped {rs : List (List Str)} (h : ∀ r ∈ rs, RowL r) : SeqAt.shaped (.list (rs.map mkR)) = true := by
  have row1 : ∀ r : List Str, (∀ x ∈ r, wordX x = true) → (mkR r).canLay0 = true ∧ (mkR r).depth ≤ 2 := fun r hr => by
    refine ⟨?_, ?_⟩
    · show PyData.canLayAll0 _ = true
      refine canLayAll_of fun d hd => ?_
      obtain ⟨x, hx, rfl⟩ := List.mem_map.mp hd
      simp [PyData.canLay0, word_ok (hr x hx)]
    · have z : PyData.depthAll (r.map PyData.str) ≤ 1 := depthAll_le fun d hd => by
        obtain ⟨l, _, rfl⟩ := List.mem_map.mp hd
        simp [PyData.depth]
      show (PyData.tuple (r.map PyData.str)).depth ≤ 2
      simp only [PyData.depth]
      omega
  refine shaped_of ?_ ?_
  · show PyData.canLayAll0 _ = true
    refine canLayAll_of fun d hd => ?_
    obtain ⟨t, ht, rfl⟩ := List.mem_map.mp hd
    exact (row1 t (h t ht).ok).1
  · have z : PyData.depthAll (rs.map mkR) ≤ 2 := depthAll_le fun d hd => by
      obtain ⟨t, ht, rfl⟩ := List.mem_map.mp hd
      exact (row1 t (h t ht).ok).2
    simp only [PyData.depth]
    omega
theorem eqv_mkR (r s : List Str) : PyData.eqv (mkR r) (mkR s) = decide (r = s) := by
  show PyData.eqv (.tuple (r.map .str)) (.tuple (s.map .str)) = _
  simp only [PyData.eqv]
  exact eqv_row r s
def num (j : Nat) : Str := toString ((1000 : Int) + (0 + (j : Nat)))
def rows200 : List (List Str) := (List.range 200).map fun j => [num j]
theorem rows200_ok : rows200.Nodup ∧ (∀ r ∈ rows200, (∀ x ∈ r, wordX x = true) ∧ r.length ≤ 400) ∧ rows200.length ≤ 200 := by decide +kernel
/-- the texts of a tuple that stands at x -/
def rowAt (H : Hp) : V → List Str
  | .ref t => match H t with
    | some (.tup us) => us.map fun v => match v with
      | .str x => x
      | _ => Str.empty
    | _ => []
  | _ => []
theorem rowAt_of {H : Hp} {t : Addr} {r : List Str} (e : H t = some (.tup (r.map V.str))) : rowAt H (.ref t) = r := by
  simp only [rowAt, e]
  rw [List.map_map]
  exact (List.map_congr_left fun _ _ => rfl).trans (List.map_id _)
theorem row_at [CurK] {G : Hp} {x : V} {r : List Str} (h : Dx G x (mkR r)) : ∃ t, x = .ref t ∧ G t = some (.tup (r.map V.str)) := by
  obtain ⟨t, us, rfl, e, q⟩ := Dx.tup_inv h
  have z : ∀ {vs : List V} {r : List Str}, DxAll G vs (r.map .str) → vs = r.map V.str := by
    intro vs r
    induction r generalizing vs with
    | nil => intro h; cases h; rfl
    | cons m ms ih => intro h; cases h with | cons one more => rw [Dx.str_inv one, ih more]; rfl
  rw [z q] at e
  exact ⟨t, rfl, e⟩
theorem rows_at [CurK] {H : Hp} {a : Addr} : ∀ {vs : List V} {rs : List (List Str)}, DxAll (delH H a) vs (rs.map mkR) → vs.map (rowAt H) = rs ∧ ∀ x ∈ vs, ∃ t, x = .ref t ∧ H t = some (.tup ((rowAt H x).map V.str)) ∧ (delH H a) t = some (.tup ((rowAt H x).map V.str))
  | _, [], .nil => ⟨rfl, fun _ h => absurd h List.not_mem_nil⟩
  | v :: vs, r :: rs, .cons one more => by
    obtain ⟨h1, h2⟩ := rows_at more
    obtain ⟨t, rfl, e⟩ := row_at one
    have e' := same_delH _ _ e
    have k := rowAt_of e'
    refine ⟨by rw [List.map_cons, k, h1], fun x hx => ?_⟩
    rcases List.mem_cons.mp hx with rfl | hx
    · exact ⟨t, rfl, by rw [k]; exact e', by rw [k]; exact e⟩
    · exact h2 x hx
theorem rises {rs : List (List Str)} (nd : rs.Nodup) (h : rs.Pairwise fun x y => rowLt y x = false) : rs.Pairwise fun x y => keyR x < keyR y := by
  refine (List.pairwise_and_iff.mpr ⟨nd, h⟩).imp fun {x y} z => ?_
  have q := z.2
  rw [rowLt_key, decide_eq_false_iff_not] at q
  rcases Decidable.em (keyR x < keyR y) with w | w
  · exact w
  · exact absurd (keyR_inj (List.le_antisymm (List.not_lt.mp q) (List.not_lt.mp w))) z.1
theorem scRising : FnScope ["hand", "rows", "k", "row"] ["hand"] (defScope s__law_rising) := ⟨rfl, rfl, rfl, by decide +kernel, rfl, by decide +kernel, by decide +kernel⟩
section
variable [CurK] {P : Program} {w : World} {mg : Str → Option Value} {base : Heap}
theorem ok_rising (T : Tx K mg) : Has P w K mg base CX0 70 "_law_rising" ["hand"] spRising := by
  obtain ⟨fd, F⟩ := T.c.def_ 25 (d := d__law_rising) rfl
  have Hrw := ok_lrow (P := P) (w := w) (base := base) T
  have Hd := ok_draw (P := P) (w := w) (base := base) T
  have Hw := ok_lword (P := P) (w := w) (base := base) T
  refine ⟨fd, F.ok scRising (fun vs H Q E h => ?_) (fun cdv A outer s H vs Q E hr h => ?_), FunD.bindsN F fun _ _ _ _ _ _ us hl => match us, hl with | [_], _ => rfl, F.kp, (T.glo 41 rfl)⟩
  · obtain ⟨a, rfl, _⟩ := h
    rfl
  · have hu : (A.deeper (envOfC d__law_rising.qual d__law_rising.scope s.heap.objs.size (He.fAd K d__law_rising.at_) cdv)).units + 65 < cLine := by
      have := hr.un
      omega
    have hu4 : (A.deeper (envOfC d__law_rising.qual d__law_rising.scope s.heap.objs.size (He.fAd K d__law_rising.at_) cdv)).units + 4 < cLine := by omega
    refine ⟨_, PSs.nox (pss_cons (ps_set (i := 1) scRising.nd rfl (Or.inl rfl) (pe_lstS pa_nil))
 (pss_cut (ps_for PassesOwn.never rfl (pi_range1 (by rfl) (T.free 59 rfl) (pa_cons (pe_has Hd (hr.mono (by decide)) pass0 (pa_cons (pv 0) (pa_cons pe_int pa_nil))) pa_nil)) (pg_name (i := 2) scRising.nd rfl (Or.inl rfl))
 (pss_cons (ps_set (i := 3) scRising.nd rfl (Or.inl rfl) (pe_has Hrw (hr.mono (by decide)) pass0 (pa_cons (pv 0) pa_nil)))
 (pss_one (ps_if (pt_cmpR (op_notInD hu) (pv 3) (pv 1) (by rfl))
 (pss_one (ps_expr (pe_bm PySem.F.plainAttrs_list PySem.F.slot_list_append PySem.F.type_list_append mt_append (pv 1) (pa_cons (pv 3) pa_nil))))
 pss_nil))))
 (pss_cut (ps_if (pt_cmpR op_eq (pe_has Hd (hr.mono (by decide)) pass0 (pa_cons (pv 0) (pa_cons pe_int pa_nil))) pe_int (nomark _))
 (pss_one (ps_setLc (i := 1) (own := [("k", 2)]) (g := gName 2) (tt := tYes) (te := te200) (by rfl) scRising.nd rfl rfl (by rfl) (pi_range1 (by rfl) (T.free 59 rfl) (pa_cons pe_int pa_nil))
 (blkOk_by (own := [("k", 2)]) (N := ["hand", "rows", "k", "row"]) (sc := defScope s__law_rising) (by decide +kernel)) (fun _ _ _ _ _ => pg_name (i := 2) scRising.nd rfl (Or.inl rfl)) (fun _ _ _ _ _ => pts_nil) (fun _ _ _ _ _ => (pe_tup (pa_cons (pe_callTy call_str_int (by rfl) (T.free 61 rfl) (by decide +kernel) (pa_cons (pe_op op_add pe_int (pv 2)) pa_nil)) pa_nil)))))
 pss_nil)
 (pss_one (ps_ret (pe_lc (own := [("row", 3)]) (g := gName 3) (tt := tYes) (te := tePair) (by rfl) scRising.nd (pi_list (pe_callB (cr_sortR hu4) (by rfl) (T.free 60 rfl) (by decide +kernel) (pa_cons (pv 1) pa_nil)))
 (blkOk_by (own := [("row", 3)]) (N := ["hand", "rows", "k", "row"]) (sc := defScope s__law_rising) (by decide +kernel)) (fun _ _ _ _ _ => pg_name (i := 3) scRising.nd rfl (Or.inl rfl)) (fun _ _ _ _ _ => pts_nil) (fun _ _ _ _ _ => (pe_tup (pa_cons (pv 3) (pa_cons (pe_has Hw (hr.mono (by decide)) pass0 (pa_cons (pv 0) pa_nil)) pa_nil)))))))))), ?_⟩
    obtain ⟨a, rfl, hd, hQ⟩ := h
    refine ⟨(by show 0 ≤ sizeLine; decide), fun q nq low => ?_⟩
    have s1 := same_new (o := HO.lst []) nq
    have qa := hd.ne_new nq
    obtain ⟨c, cs, hce, nca, hc⟩ := hd.cells
    have cq : c ≠ q := fun z => by
      rw [← z, hc] at nq
      cases nq
    have start : RS a H 0 [some (.ref a), some (.ref q), none, none] (upd H q (HO.lst [])) := ⟨q, c, _, _, [], rfl, ⟨hand_same hd s1, (cells_same hd s1).trans hce, fun b o e => by
      have bq : b ≠ q := fun z => by
        rw [z, delH_ne qa, nq] at e
        cases e
      rw [delH_ne bq]
      exact same_del s1 _ _ e, [], upd_same, .nil⟩, qa, cq, low, .nil, fun _ h => absurd h List.not_mem_nil, by decide, hce⟩
    refine ⟨RT a H, ?_, fun σ1 H1 r1 => ⟨RT a H, ?_, fun σ2 H2 r2 => ?_⟩⟩
    · refine ⟨_, rfl, a, 8, rfl, hand_same hd s1, by decide, by decide, fun H2 m hd2 e2 c2 m0 m1 => ?_⟩
      obtain ⟨m, rfl⟩ := Int.eq_ofNat_of_zero_le m0
      refine ⟨_, rfl, by omega, by omega, ?_⟩
      rw [Int.toNat_natCast]
      refine for_it (walk_range (lo := 0) (n := m)) (fun i σ H' => RS a H i σ H') ?_ (fun _ _ _ _ _ => True.intro) ?_ ?_
      · obtain ⟨q', c', p2, p3, rs, e, ld, w⟩ := start
        cases e
        exact ⟨_, _, _, _, rs, rfl, ld.draw w.1 hd2 e2 c2, w⟩
      · rintro i x σ H3 H4 hi ⟨q, c, o2, o3, rs, rfl, ld, qa, cq, low, nd, ok, ln, hce'⟩ ⟨rfl, rfl⟩
        refine ⟨_, rfl, a, rfl, ld.hd, fun H5 p r g5 pa e5 rl => ?_⟩
        have ld5 := ld.go qa g5
        obtain ⟨acc, eq, dq⟩ := ld5.at_
        have dr : Dx (delH H5 a) (.ref p) (mkR r) := .tup (by rw [delH_ne pa]; exact e5) (by
          have z : ∀ (G : Hp) (ys : List Str), DxAll G (ys.map V.str) (ys.map PyData.str) := fun G ys => by
            induction ys with
            | nil => exact .nil
            | cons y ys ih => exact .cons (.str y) ih
          exact z _ r)
        have pq : p ≠ q := fun z => by
          rw [z, eq] at e5
          cases e5
        have pl : V2.plainAll (rs.map mkR) = true := plainAll_of fun d hd => by
          obtain ⟨r', _, rfl⟩ := List.mem_map.mp hd
          exact row_plain r'
        have d1 : Dp K H5 (.ref p) (mkR r) := dq_dp _ _ (row_plain r) (dq_of _ _ (row_plain r) (Dx.same same_delH _ _ dr))
        have d2 : Dp K H5 (.ref q) (.list (rs.map mkR)) := dq_dp _ _ (by simp only [V2.plain]; exact pl) (.lst eq low (dqAll_of _ _ pl (DxAll.same (same_delH.trans same_delH) _ _ dq)))
        refine ⟨_, rfl, _, rfl, mkR r, rs.map mkR, d1, d2, row_shaped rl.ok, rows_shaped ok, _, rfl, ?_⟩
        have any : ((rs.map mkR).any fun z => PyData.eqv z (mkR r)) = decide (r ∈ rs) := by
          rw [List.any_map]
          rw [Bool.eq_iff_iff, List.any_eq_true, decide_eq_true_eq]
          constructor
          · rintro ⟨s, hs, e⟩
            simp only [Function.comp, eqv_mkR, decide_eq_true_eq] at e
            rw [← e]
            exact hs
          · exact fun h => ⟨r, h, by simp [Function.comp, eqv_mkR]⟩
        rw [any]
        refine ite2 (fun e => ?_) (fun e => ?_)
        · have nr : r ∉ rs := by simpa using e
          have la := dxAll_len dq
          rw [List.length_map] at la
          have dr2 : Dx (delH (delH H5 a) q) (.ref p) (mkR r) := .tup (by rw [delH_ne pq, delH_ne pa]; exact e5) (by
            have z : ∀ (G : Hp) (ys : List Str), DxAll G (ys.map V.str) (ys.map PyData.str) := fun G ys => by
              induction ys with
              | nil => exact .nil
              | cons y ys ih => exact .cons (.str y) ih
            exact z _ r)
          refine ⟨_, rfl, .inl ⟨rfl, _, sq_of eq⟩, _, rfl, q, acc, .ref p, rfl, rfl, eq, Nat.lt_of_le_of_lt (by omega : acc.length ≤ 8) (by decide), ?_⟩
          refine ⟨q, c, _, _, rs ++ [r], rfl, ld5.put qa cq ?_, qa, cq, low, ?_, fun s hs => ?_, by rw [List.length_append]; simp only [List.length_cons, List.length_nil]; omega, hce'⟩
          · rw [List.map_append]
            exact DxAll.app dq (.cons dr2 .nil)
          · refine List.nodup_append.mpr ⟨nd, by simp, fun x hx y hy z => nr ?_⟩
            rw [← List.mem_singleton.mp hy, ← z]
            exact hx
          · rcases List.mem_append.mp hs with h | h
            · exact ok s h
            · rw [List.mem_singleton.mp h]
              exact rl
        · exact ⟨q, c, _, _, rs, rfl, ld5, qa, cq, low, nd, ok, by omega, hce'⟩
      · rintro σ H3 ⟨q, c, o2, o3, rs, rfl, ld, qa, cq, low, nd, ok, ln, hce'⟩
        obtain ⟨acc, eq, dq⟩ := ld.at_
        exact ⟨q, _, _, rs, rfl, ld.Go hce', qa, ⟨acc, eq, DxAll.same same_delH _ _ dq⟩, nd, ok, by omega⟩
    · obtain ⟨q, o2, o3, rs, rfl, g, qa, ⟨vs, eq, dq⟩, nd, ok, ln⟩ := r1
      refine ⟨_, rfl, a, 20, rfl, g.hd, by decide, by decide, fun H5 z hd5 e5 c5 z0 z1 => ⟨rfl, _, rfl, ite2 (fun _ => ?_) (fun _ => ?_)⟩⟩
      · have g5 := g.trans (Go.draw hd5 e5 c5)
        refine ⟨200, rfl, by decide, by decide, fun D nD => ?_⟩
        rw [show (200 : Int).toNat = 200 from rfl]
        have Da : D ≠ a := hd5.ne_new nD
        refine lc_gen (σ := [some (.ref a), some (.ref q), o2, o3]) (vs := [2]) (walk_range (lo := 0) (n := 200)) nD (fun i acc H' => Same H5 H' ∧ DxAll (delH H' a) acc ((List.range i).map fun j => mkR [num j])) ⟨Same.refl H5, .nil⟩ (fun _ _ _ _ _ => True.intro) ?_ ?_
        · rintro i acc x H6 H7 hi l e ⟨sm, d⟩ ⟨rfl, rfl⟩
          refine ⟨rfl, ?_⟩
          simp only [tYes, if_true]
          refine ⟨_, rfl, _, _, rfl, rfl, _, rfl, Nat.lt_of_le_of_lt (Nat.log2_le_self _) (by omega), (by show 1 ≤ sizeLine; decide), fun t nt => ?_⟩
          have st := same_new (o := HO.tup [.str (num i)]) nt
          have tD : t ≠ D := fun z => by rw [z, e] at nt; cases nt
          have ta : t ≠ a := by
            have h7 : HandAt H7 a := hand_same hd5 (sm.trans same_delH)
            exact h7.ne_new nt
          refine lc_put l (by omega) (st _ _ e) ⟨sm.trans (same_del st), ?_⟩
          rw [List.range_succ, List.map_append]
          refine DxAll.app (DxAll.same (same_del (same_del st)) _ _ d) (.cons (.tup (xs := [.str (num i)]) ?_ (.cons (.str _) .nil)) .nil)
          rw [delH_ne ta, delH_ne tD]
          exact upd_same
        · rintro acc H6 l e ⟨sm, d⟩
          obtain ⟨k1, k2, k3⟩ := rows200_ok
          have s56 : Same H5 H6 := sm.trans same_delH
          refine ⟨D, _, _, rows200, rfl, g5.trans (Go.new hd5 s56), Da, ⟨acc, e, ?_⟩, k1, fun r hr => ⟨(k2 r hr).1, (k2 r hr).2⟩, k3⟩
          have z : rows200.map mkR = (List.range 200).map fun j => mkR [num j] := by
            unfold rows200
            rw [List.map_map]
            rfl
          rw [z]
          exact DxAll.same (same_del same_delH) _ _ d
      · have eq5 : H5 q = some (.lst vs) := by
          have y := congrFun e5 q
          rw [delH_ne qa, delH_ne qa] at y
          exact y.trans eq
        exact ⟨q, _, _, rs, rfl, g.trans (Go.draw hd5 e5 c5), qa, ⟨vs, eq5, by rw [e5]; exact dq⟩, nd, ok, ln⟩
    · obtain ⟨q, o2, o3, rs, rfl, g, qa, ⟨vs, eq, dq⟩, nd, ok, ln⟩ := r2
      obtain ⟨vk, hx⟩ := rows_at dq
      refine ⟨_, rfl, q, vs, rowAt H2, rfl, sq_of eq, fun x m => (hx x m).elim fun t z => ⟨t, z.1, z.2.1⟩, fun ys p perm pw np => ?_⟩
      have s3 := same_new (o := HO.lst ys) np
      have ep : upd H2 p (HO.lst ys) p = some (.lst ys) := upd_same
      have g3 := g.trans (Go.new g.hd s3)
      generalize upd H2 p (HO.lst ys) = H3 at s3 ep g3 ⊢
      have pa : p ≠ a := g.hd.ne_new np
      have kp : (ys.map (rowAt H2)).Perm rs := by
        rw [← vk]
        exact perm.map _
      have kn : (ys.map (rowAt H2)).Nodup := kp.nodup_iff.mpr nd
      have rise : (ys.map (rowAt H2)).Pairwise fun x y => keyR x < keyR y := rises kn (List.pairwise_map.mpr pw)
      have kl : ys.length ≤ 200 := by
        have z := kp.length_eq
        rw [List.length_map] at z
        omega
      have item : ∀ y ∈ ys, RowL (rowAt H2 y) ∧ Dx (delH H3 a) y (mkR (rowAt H2 y)) := fun y hy => by
        refine ⟨ok _ (kp.mem_iff.mp (List.mem_map.mpr ⟨y, hy, rfl⟩)), ?_⟩
        obtain ⟨t, e, _, e2⟩ := hx y (perm.mem_iff.mp hy)
        rw [e] at e2 ⊢
        refine .tup (same_del s3 _ _ e2) ?_
        have z : ∀ (G : Hp) (ys : List Str), DxAll G (ys.map V.str) (ys.map PyData.str) := fun G ys => by
          induction ys with
          | nil => exact .nil
          | cons y ys ih => exact .cons (.str y) ih
        exact z _ _
      obtain ⟨c, cs, hce, nca, hc⟩ := g3.hd.cells
      refine ⟨p, rfl, ⟨_, sq_of ep⟩, fun D nD => ?_⟩
      have Da : D ≠ a := g3.hd.ne_new nD
      have cD : c ≠ D := fun z => by
        rw [← z, hc] at nD
        cases nD
      refine lc_gen (σ := [some (.ref a), some (.ref q), o2, o3]) (vs := [3]) (walk_list (K := K) (a := p) (xs := ys)) nD (fun i acc H' => Go a H3 H' ∧ ∃ ts : Tp, ts.map (·.1) = (ys.map (rowAt H2)).take i ∧ (∀ t ∈ ts, wordX t.2 = true) ∧ DxAll (delH H' a) acc (ts.map mkP)) ⟨Go.refl g3.hd, [], rfl, fun _ h => absurd h List.not_mem_nil, .nil⟩ (fun i acc H' _ z => sq_of (same_delH _ _ (same_delH _ _ (z.1.sm _ _ (by rw [delH_ne pa]; exact ep))))) ?_ ?_
      · rintro i acc x H4 H5 hi l e ⟨g4, ts, kt, wt, d⟩ ⟨rfl, hx'⟩
        have mx := List.mem_of_getElem? hx'
        refine ⟨rfl, ?_⟩
        simp only [tYes, if_true]
        refine ⟨_, rfl, _, rfl, a, rfl, hand_same g4.hd same_delH, fun H6 w g6 ww => ⟨(by show 2 ≤ sizeLine; decide), fun t nt => ?_⟩⟩
        obtain ⟨g7, eD⟩ := g4.in_ hce cD Da g6 e
        have st := same_new (o := HO.tup [x, .str w]) nt
        have tD : t ≠ D := fun z => by rw [z, eD] at nt; cases nt
        have ta : t ≠ a := g6.hd.ne_new nt
        have sD := same_del (a := D) st
        refine lc_put l (by omega) (st _ _ eD) ⟨g7.trans (Go.new g7.hd sD), ts ++ [(rowAt H2 x, w)], ?_, fun u m => ?_, ?_⟩
        · rw [List.map_append, kt, List.take_succ, List.getElem?_map, hx']
          rfl
        · rcases List.mem_append.mp m with h | h
          · exact wt u h
          · rw [List.mem_singleton.mp h]
            exact ww
        · rw [List.map_append]
          refine DxAll.app (DxAll.same (same_del sD) _ _ (DxAll.same ?_ _ _ d)) (.cons (.tup (xs := [x, .str w]) ?_ (.cons (Dx.same (same_del sD) _ _ (g7.dx (item x mx).2)) (.cons (.str w) .nil))) .nil)
          · rw [del_comm (H := H5), del_comm (H := H6)]
            exact same_del g6.sm
          · rw [delH_ne ta, delH_ne tD]
            exact upd_same
      · rintro acc H6 l e ⟨g6, ts, kt, wt, d⟩
        have g7 := g3.trans (g6.undel Da)
        rw [List.take_of_length_le (by rw [List.length_map]; exact Nat.le_refl _)] at kt
        have lt : ts.length ≤ 200 := by
          have z := congrArg List.length kt
          rw [List.length_map, List.length_map] at z
          omega
        refine hQ H6 D acc ts g7 Da e (DxAll.same (same_del same_delH) _ _ d) ⟨fun t m => ?_, ?_⟩ lt
        · obtain ⟨y, hy, ey⟩ := List.mem_map.mp (by rw [← kt]; exact List.mem_map.mpr ⟨t, m, rfl⟩ : t.1 ∈ ys.map (rowAt H2))
          have z := (item y hy).1
          rw [ey] at z
          exact ⟨z.ok, z.ln, wt t m⟩
        · have z := rise
          rw [← kt] at z
          exact (List.pairwise_map (f := fun t : List Str × Str => t.1)).mp z
end
end K01

set_option maxHeartbeats 4000000
namespace K01
open PySem PySem.Spec PyProof.Rows L2 V1 V2 V3
open Evl (pss_cut tCut sq_of st_of)
def teNum : TE := tTup (tCons (tTup (tCons (tCB (fun xs H Q => ∃ i, xs = [.int i] ∧ i.natAbs.log2 < 1920 ∧ Q (.str (toString i)) H) (tCons (tOp (rI0 fun i j => .int (i + j)) (tC (.int 1000)) (tVar 4)) tNil)) tNil)) (tCons (tC (.str "a")) tNil))
def spBent [CurK] : Sp := fun vs H Q _ => ∃ a g us ts, vs = [.ref a, .ref g] ∧ HandAt H a ∧ g ≠ a ∧ H g = some (.lst us) ∧ DxAll (delH H a) us (ts.map mkP) ∧ GoodT ts ∧ ts.length ≤ 200 ∧ ∀ H' v d, Go a H H' → Dx (delH H' a) v d → shortA d = true → Q v H'
section
variable [CurK] {σ : L2.St} {H0 : Hp} {a : Addr}
theorem mky_listofL {t1 : TE} {ds : List PyData} (ha : Held H0 a) (h1 : V4.MkL H0 a t1 σ ds) : MkY H0 a (tCB (fun xs H Q => ∃ p ys, xs = [.ref p] ∧ (SqL K H p ys ∨ SqT K H p ys) ∧ ∀ l, H l = none → (l == sysModules) = false → Q (.ref l) (upd H l (.lst ys))) (tCons t1 tNil)) σ (.list ds) := fun H s Q k =>
  h1 H s _ fun p xs H1 s1 na e1 r1 => ⟨p, xs, rfl, .inl (sq_of e1), fun c nc low => k _ _ (s1.trans (same_new nc)) (.lst (((ha.same s).same s1).off nc upd_same) low (DxAll.same (same_del (same_new nc)) _ _ r1))⟩
theorem cutD_mem {ds : List PyData} {lo hi : Option Int} {d : PyData} (h : d ∈ V4.cutD ds lo hi) : d ∈ ds := List.mem_of_mem_drop (List.mem_of_mem_take h)
theorem cutD_len (ds : List PyData) (lo hi : Option Int) : (V4.cutD ds lo hi).length ≤ ds.length := by
  unfold V4.cutD
  rw [List.length_take, List.length_drop]
  omega
theorem pairs_short {ts : Tp} (g : GoodT ts) : shortAll (ts.map mkP) = true := all_short fun d hd => by
  obtain ⟨t, ht, rfl⟩ := List.mem_map.mp hd
  obtain ⟨h1, h2, h3⟩ := g.ok t ht
  have w : ∀ x : Str, wordX x = true → x.length ≤ 10000 := fun x h => by
    have z : x.length ≤ 40 ∧ Txt.isascii x = true ∧ Txt.isprintable x = true := by simpa [wordX] using h
    omega
  have rs := row_short h1
  simp [mkP, mkR, shortA, shortAll, rs, w _ h3]
end
theorem scBent : FnScope ["hand", "pairs", "kind", "many", "k", "at", "row", "word", "odd", "part", "other"] ["hand", "pairs"] (defScope s__law_bent) := ⟨rfl, rfl, rfl, by decide +kernel, rfl, by decide +kernel, by decide +kernel⟩
section
variable [CurK] {P : Program} {w : World} {mg : Str → Option Value} {base : Heap}
theorem ok_bent (T : Tx K mg) : Has P w K mg base (L2.CX P w) 14 "_law_bent" ["hand", "pairs"] spBent := by
  obtain ⟨fd, F⟩ := T.c.def_ 26 (d := d__law_bent) rfl
  have Hd := ok_draw (P := P) (w := w) (base := base) T
  have Hs := ok_some (P := P) (w := w) (base := base) T
  have Ho := ok_odd (P := P) (w := w) (base := base) T
  have Hw := ok_lword (P := P) (w := w) (base := base) T
  refine ⟨fd, F.ok scBent (fun vs H Q E h => ?_) (fun cdv A outer s H vs Q E hr h => ?_), FunD.bindsN F fun _ _ _ _ _ _ us hl => match us, hl with | [_, _], _ => rfl, F.kp, (T.glo 42 rfl)⟩
  · obtain ⟨a, g, us, ts, rfl, _⟩ := h
    rfl
  · refine ⟨_, PSs.nox (pss_cons (ps_set (i := 2) scBent.nd rfl (Or.inl rfl) (pe_has Hd (hr.mono (by decide)) pass0 (pa_cons (pv 0) (pa_cons pe_int pa_nil))))
 (pss_cons (ps_if (pt_cmpR op_eq (pv 2) pe_int (nomark _))
 (pss_one (ps_ret (pe_has Hs (hr.mono (by decide)) pass0 (pa_cons (pv 0) (pa_cons (pe_lstS (pa_cons (pe_callTy call_list_low (by rfl) (T.free 58 rfl) (by decide +kernel) (pa_cons (pv 1) pa_nil)) (pa_cons pe_non (pa_cons pe_dnewK (pa_cons pe_str (pa_cons pe_int (pa_cons (pe_tup (pa_cons (pe_tup (pa_cons (pe_op V4.op_mulS pe_str pe_int) pa_nil)) (pa_cons pe_str pa_nil))) pa_nil))))))) pa_nil)))))
 pss_nil)
 (pss_cons (ps_if (pt_cmpR op_eq (pv 2) pe_int (nomark _))
 (pss_cons (ps_set (i := 3) scBent.nd rfl (Or.inl rfl) (pe_op op_add pe_int (pe_has Hd (hr.mono (by decide)) pass0 (pa_cons (pv 0) (pa_cons pe_int pa_nil)))))
 (pss_one (ps_ret (pe_callTy call_tuple_of (by rfl) (T.free 62 rfl) (by decide +kernel) (pa_cons (pe_lc (own := [("k", 4)]) (g := gName 4) (tt := tYes) (te := teNum) (by rfl) scBent.nd (pi_range1 (by rfl) (T.free 59 rfl) (pa_cons (pv 3) pa_nil))
 (blkOk_by (own := [("k", 4)]) (N := ["hand", "pairs", "kind", "many", "k", "at", "row", "word", "odd", "part", "other"]) (sc := defScope s__law_bent) (by decide +kernel)) (fun _ _ _ _ _ => pg_name (i := 4) scBent.nd rfl (Or.inl rfl)) (fun _ _ _ _ _ => pts_nil) (fun _ _ _ _ _ => (pe_tup (pa_cons (pe_tup (pa_cons (pe_callTy call_str_int (by rfl) (T.free 61 rfl) (by decide +kernel) (pa_cons (pe_op op_add pe_int (pv 4)) pa_nil)) pa_nil)) (pa_cons pe_str pa_nil))))) pa_nil)))))
 pss_nil)
 (pss_cons (ps_if (PW.pt (pw_or (pt_cmpR op_eq (pe_callB call_len (by rfl) (T.free 57 rfl) PySem.boot_len (pa_cons (pv 1) pa_nil)) pe_int (nomark _)) (pw_or1 (pt_cmpR op_gt (pv 2) pe_int (nomark _)))))
 (pss_one (ps_ret (pe_callTy call_tuple_of (by rfl) (T.free 62 rfl) (by decide +kernel) (pa_cons (pv 1) pa_nil))))
 pss_nil)
 (pss_cons (ps_set (i := 5) scBent.nd rfl (Or.inl rfl) (pe_has Hd (hr.mono (by decide)) pass0 (pa_cons (pv 0) (pa_cons (pe_callB call_len (by rfl) (T.free 57 rfl) PySem.boot_len (pa_cons (pv 1) pa_nil)) pa_nil))))
 (pss_cons (ps_asg (pe_ix ix_list (pv 1) (pv 5) (fun _ _ => rfl)) (pg_tup (by rfl) (pgs_cons (pg_name (i := 6) scBent.nd rfl (Or.inl rfl)) (pgs_cons (pg_name (i := 7) scBent.nd rfl (Or.inl rfl)) pgs_nil))))
 (pss_cons (ps_if (pt_cmpR op_eq (pv 2) pe_int (nomark _))
 (pss_cons (ps_set (i := 8) scBent.nd rfl (Or.inl rfl) (pe_has Ho (hr.mono (by decide)) passF (pa_cons (pv 0) pa_nil)))
 (pss_cons (ps_set (i := 9) scBent.nd rfl (Or.inl rfl) (pe_has Hs (hr.mono (by decide)) pass0 (pa_cons (pv 0) (pa_cons (pe_lstS (pa_cons (pe_tup (pa_cons (pv 8) (pa_cons (pv 7) pa_nil))) (pa_cons (pe_tup (pa_cons (pv 6) (pa_cons (pv 8) pa_nil))) (pa_cons (pv 8) (pa_cons (pe_lstS (pa_cons (pv 6) (pa_cons (pv 7) pa_nil))) (pa_cons (pe_tup (pa_cons (pv 6) pa_nil)) (pa_cons (pe_tup (pa_cons (pv 6) (pa_cons (pv 7) (pa_cons (pv 7) pa_nil)))) (pa_cons (pe_tup (pa_cons (pv 7) (pa_cons (pv 6) pa_nil))) pa_nil)))))))) pa_nil))))
 (pss_one (ps_ret (pe_callTy call_tuple_of (by rfl) (T.free 62 rfl) (by decide +kernel) (pa_cons (pe_op op_cat (pe_op op_cat (pe_slice sl_list (pv 1) po_none (po_some (pv 5))) (pe_lstS (pa_cons (pv 9) pa_nil))) (pe_slice sl_list (pv 1) (po_some (pe_op op_add (pv 5) pe_int)) po_none)) pa_nil))))))
 pss_nil)
 (pss_cons (ps_if (pt_cmpR op_eq (pv 2) pe_int (nomark _))
 (pss_one (ps_ret (pe_callTy call_tuple_of (by rfl) (T.free 62 rfl) (by decide +kernel) (pa_cons (pe_op op_cat (pe_op op_cat (pe_slice sl_list (pv 1) po_none (po_some (pv 5))) (pe_lstS (pa_cons (pe_ix ix_list (pv 1) (pv 5) (fun _ _ => rfl)) (pa_cons (pe_tup (pa_cons (pv 6) (pa_cons (pe_has Hw (hr.mono (by decide)) pass0 (pa_cons (pv 0) pa_nil)) pa_nil))) pa_nil)))) (pe_slice sl_list (pv 1) (po_some (pe_op op_add (pv 5) pe_int)) po_none)) pa_nil))))
 pss_nil)
 (pss_cons (ps_if (pt_cmpR op_eq (pv 2) pe_int (nomark _))
 (pss_cons (ps_set (i := 10) scBent.nd rfl (Or.inl rfl) (pe_has Hd (hr.mono (by decide)) pass0 (pa_cons (pv 0) (pa_cons (pe_callB call_len (by rfl) (T.free 57 rfl) PySem.boot_len (pa_cons (pv 1) pa_nil)) pa_nil))))
 (pss_one (ps_ret (pe_callTy call_tuple_of (by rfl) (T.free 62 rfl) (by decide +kernel) (pa_cons (pe_op op_cat (pe_op op_cat (pe_slice sl_list (pv 1) po_none (po_some (pv 5))) (pe_lstS (pa_cons (pe_ix ix_list (pv 1) (pv 10) (fun _ _ => rfl)) pa_nil))) (pe_slice sl_list (pv 1) (po_some (pe_op op_add (pv 5) pe_int)) po_none)) pa_nil)))))
 pss_nil)
 (pss_one (ps_ret (pe_callTy call_tuple_of (by rfl) (T.free 62 rfl) (by decide +kernel) (pa_cons (pe_op op_cat (pe_op op_cat (pe_slice sl_list (pv 1) po_none (po_some (pv 5))) (pe_slice sl_list (pv 1) (po_some (pe_op op_add (pv 5) pe_int)) po_none)) (pe_lstS (pa_cons (pe_ix ix_list (pv 1) (pv 5) (fun _ _ => rfl)) pa_nil))) pa_nil))))))))))))), ?_⟩
    obtain ⟨a, g, us, ts, rfl, hd, ga, eg, dg, gt, lt, hQ⟩ := h
    refine ⟨_, rfl, a, 9, rfl, hd, by decide, by decide, fun H1 r hd1 e1 c1 r0 r1 => ?_⟩
    have g1 := Go.draw hd1 e1 c1
    have eg1 : H1 g = some (.lst us) := by
      have y := congrFun e1 g
      rw [delH_ne ga, delH_ne ga] at y
      exact y.trans eg
    have dg1 : DxAll (delH H1 a) us (ts.map mkP) := by rw [e1]; exact dg
    have ps := pairs_short gt
    have lus := dxAll_len dg
    rw [List.length_map] at lus
    refine ⟨_, rfl, rfl, _, rfl, ite2 (fun _ => ?_) (fun _ => ?_)⟩
    · have base : V4.MkL H1 a (tVar 1) [some (.ref a), some (.ref g), some (.int r), none, none, none, none, none, none, none, none] (ts.map mkP) := V4.mkl_var ga eg1 dg1 rfl
      have m := V4.mky_lst hd1.held (V4.mkya_cons (mky_listofL hd1.held base) (V4.mkya_cons (V4.mky_of hd1.held (mkx_of mkn_non)) (V4.mkya_cons (V4.mky_of hd1.held (mkx_of mkn_dict0)) (V4.mkya_cons (V4.mky_of hd1.held (mkx_of (mkn_str (Str.ofString "pairs")))) (V4.mkya_cons (V4.mky_of hd1.held (mkx_of (mkn_int 0))) (V4.mkya_cons (V4.mky_tup hd1.held (V4.mkya_cons (V4.mky_tup hd1.held (V4.mkya_cons (V4.mky_of hd1.held (V4.mkx_mulS (Str.ofString "z") 39 (by decide) (by decide) (by decide))) V4.mkya_nil) (by show 1 ≤ 1000; decide)) (V4.mkya_cons (V4.mky_of hd1.held (mkx_of (mkn_str (Str.ofString "")))) V4.mkya_nil)) (by show 2 ≤ 1000; decide)) V4.mkya_nil)))))) (by show 6 ≤ 1000; decide)
      refine ⟨_, rfl, m H1 (Same.refl H1) _ fun v H2 s2 q2 => some_data (hand_same hd1 s2) q2 (.inl rfl) (by show 0 < 6; decide) (by show 6 < 1000; decide) fun H3 w d g3 md qd => hQ H3 w d ((g1.trans (Go.new hd1 s2)).trans g3) qd ?_⟩
      simp only [List.mem_cons, List.not_mem_nil, or_false] at md
      rcases md with rfl | rfl | rfl | rfl | rfl | rfl
      · simp only [shortA]
        exact ps
      all_goals decide +kernel
    refine ⟨_, rfl, rfl, _, rfl, ite2 (fun _ => ?_) (fun _ => ?_)⟩
    · refine ⟨_, rfl, a, 3, rfl, hd1, by decide, by decide, fun H2 m hd2 e2 c2 m0 m1 => ⟨_, _, rfl, rfl, ?_⟩⟩
      obtain ⟨m, rfl⟩ := Int.eq_ofNat_of_zero_le m0
      have g2 := g1.trans (Go.draw hd2 e2 c2)
      refine ⟨_, rfl, _, rfl, by omega, by omega, fun D nD => ?_⟩
      rw [show ((199 : Int) + (m : Nat)).toNat = 199 + m by omega]
      have Da : D ≠ a := hd2.ne_new nD
      refine lc_gen (vs := [4]) (walk_range (lo := 0) (n := 199 + m)) nD (fun i acc H' => Same H2 H' ∧ ∃ ds, DxAll (delH H' a) acc ds ∧ shortAll ds = true) ⟨Same.refl H2, [], .nil, rfl⟩ (fun _ _ _ _ _ => True.intro) ?_ ?_
      · rintro i acc x H6 H7 hi l e ⟨sm, ds, d, sh⟩ ⟨rfl, rfl⟩
        refine ⟨rfl, ?_⟩
        simp only [tYes, if_true]
        refine ⟨_, rfl, _, _, rfl, rfl, _, rfl, Nat.lt_of_le_of_lt (Nat.log2_le_self _) (by omega), (by show 1 ≤ sizeLine; decide), fun t nt => ⟨(by show 2 ≤ sizeLine; decide), fun t2 nt2 => ?_⟩⟩
        have st := same_new (o := HO.tup [.str (num i)]) nt
        have tD : t ≠ D := fun z => by rw [z, e] at nt; cases nt
        have h7 : HandAt H7 a := hand_same hd2 (sm.trans same_delH)
        have ta : t ≠ a := h7.ne_new nt
        have eD2 := st _ _ e
        have et : upd H7 t (HO.tup [.str (num i)]) t = some (.tup [.str (num i)]) := upd_same
        have sm2 := sm.trans (same_del (a := D) st)
        have d2 := DxAll.same (same_del (same_del (a := D) st)) _ _ d
        have h8 := hand_same h7 st
        have st2 := same_new (o := HO.tup [.ref t, .str "a"]) nt2
        have t2D : t2 ≠ D := fun z => by
          have y : some (HO.lst acc) = none := eD2.symm.trans (z ▸ nt2)
          cases y
        have t2a := h8.ne_new nt2
        have ln : (num i).length ≤ 6 := toString_length_le (by omega) (by decide) (by omega)
        refine lc_put l (by omega) (st2 _ _ eD2) ⟨sm2.trans (same_del st2), ds ++ [.tuple [.tuple [.str (num i)], .str "a"]], DxAll.app (DxAll.same (same_del (same_del st2)) _ _ d2) (.cons (.tup (xs := [.ref t, .str "a"]) (by rw [delH_ne t2a, delH_ne t2D]; exact upd_same) (.cons (.tup (xs := [.str (num i)]) (by rw [delH_ne ta, delH_ne tD]; exact st2 _ _ et) (.cons (.str _) .nil)) (.cons (.str _) .nil))) .nil), all_short fun d hd => ?_⟩
        rcases List.mem_append.mp hd with h | h
        · exact shortAll_of sh d h
        · rw [List.mem_singleton.mp h]
          simp only [shortA, shortAll, Bool.and_true, Bool.and_eq_true, decide_eq_true_eq]
          exact ⟨by omega, by decide⟩
      · rintro acc H6 l e ⟨sm, ds, d, sh⟩
        have g6 := g2.trans (Go.new hd2 (sm.trans same_delH))
        refine ⟨D, _, rfl, .inl ⟨sq_of e, fun t nt => ?_⟩⟩
        have st := same_new (o := HO.tup acc) nt
        have ta := g6.hd.ne_new nt
        refine hQ _ _ (.tuple ds) (g6.trans (Go.new g6.hd st)) (.tup (xs := acc) (by rw [delH_ne ta]; exact upd_same) (DxAll.same ((same_del same_delH).trans (same_del st)) _ _ d)) ?_
        simp only [shortA]
        exact sh
    have whole : ∀ τ : L2.St, τ[1]? = some (some (.ref g)) → MkY H1 a (tCB (fun xs H Q => ∃ p ys, xs = [.ref p] ∧ ((SqL K H p ys ∧ ∀ l, H l = none → Q (.ref l) (upd H l (.tup ys))) ∨ (SqT K H p ys ∧ Q (.ref p) H))) (tCons (tVar 1) tNil)) τ (.tuple (ts.map mkP)) := fun τ h => V4.mky_tupof hd1.held (V4.mkl_var ga eg1 dg1 h)
    have back : ∀ v H', Same H1 H' → Dx (delH H' a) v (.tuple (ts.map mkP)) → Q v H' := fun v H' s q => hQ H' v _ (g1.trans (Go.new hd1 s)) q (by simp only [shortA]; exact ps)
    refine ⟨_, rfl, _, _, rfl, .inl ⟨us, sq_of eg1, rfl⟩, rfl, _, rfl, ite2 (fun _ => iteT (whole _ rfl H1 (Same.refl H1) _ back)) (fun e0 => ⟨_, rfl, _, _, rfl, rfl, _, rfl, ite2 (fun _ => whole _ rfl H1 (Same.refl H1) _ back) (fun e5 => ?_)⟩)⟩
    have pos : 0 < us.length := by
      have z : ¬ ((us.length : Nat) : Int) = 0 := by simpa [dec_int] using e0
      omega
    refine ⟨_, rfl, _, rfl, _, _, rfl, .inl ⟨us, sq_of eg1, rfl⟩, a, _, rfl, hd1, by omega, by omega, fun H2 j hd2 e2 c2 j0 j1 => ?_⟩
    obtain ⟨j, rfl⟩ := Int.eq_ofNat_of_zero_le j0
    have g2 := g1.trans (Go.draw hd2 e2 c2)
    have eg2 : H2 g = some (.lst us) := by
      have y := congrFun e2 g
      rw [delH_ne ga, delH_ne ga] at y
      exact y.trans eg1
    have dg2 : DxAll (delH H2 a) us (ts.map mkP) := by rw [e2]; exact dg1
    have hj : j < ts.length := by omega
    have hx : us[j]? = some (us[j]'(by omega)) := List.getElem?_eq_getElem (by omega)
    have dx := DxAll.at dg2 hx (by rw [List.getElem?_map, List.getElem?_eq_getElem hj]; rfl : (ts.map mkP)[j]? = some (mkP ts[j]))
    have okt := gt.ok _ (List.getElem_mem hj)
    refine ⟨_, rfl, _, rfl, g, us, _, _, rfl, rfl, sq_of eg2, atI_nat hx, ?_⟩
    obtain ⟨q, ws, eq, hq, hw⟩ := Dx.tup_inv dx
    rw [eq]
    cases hw with | @cons va _ _ _ qa r1 =>
    cases r1 with | @cons vb _ _ _ qb r2 =>
    cases r2
    obtain rfl := Dx.str_inv qb
    refine ⟨q, _, rfl, st_of (same_delH _ _ hq), rfl, _, _, rfl, _, _, rfl, rfl, ?_⟩
    refine ⟨_, rfl, rfl, _, rfl, ite2 (fun _ => ?_) (fun _ => ?_)⟩
    · refine ⟨_, rfl, a, rfl, hd2, fun H3 od d3 g3 q3 sh3 => ?_⟩
      have g23 := g2.trans g3
      have eg3 := g3.sm g _ (by rw [delH_ne ga]; exact eg2)
      have h3 := g3.hd.held
      have qa3 := g3.dx qa
      have rs := row_short okt.1
      have ww : wordX ts[j].2 = true := okt.2.2
      have w : ts[j].2.length ≤ 10000 := by
        have z : ts[j].2.length ≤ 40 ∧ Txt.isascii ts[j].2 = true ∧ Txt.isprintable ts[j].2 = true := by simpa [wordX] using ww
        omega
      have mo : ∀ τ : L2.St, τ[8]? = some (some od) → MkY H3 a (tVar 8) τ d3 := fun τ h => V4.mky_var q3 h
      have mr : ∀ τ : L2.St, τ[6]? = some (some va) → MkY H3 a (tVar 6) τ (mkR ts[j].1) := fun τ h => V4.mky_var qa3 h
      have mw : ∀ τ : L2.St, τ[7]? = some (some (.str ts[j].2)) → MkY H3 a (tVar 7) τ (.str ts[j].2) := fun τ h => V4.mky_var (.str _) h
      refine ⟨_, rfl, V4.mky_lst h3 (V4.mkya_cons (V4.mky_tup h3 (V4.mkya_cons (mo _ rfl) (V4.mkya_cons (mw _ rfl) V4.mkya_nil)) (by show 2 ≤ 1000; decide)) (V4.mkya_cons (V4.mky_tup h3 (V4.mkya_cons (mr _ rfl) (V4.mkya_cons (mo _ rfl) V4.mkya_nil)) (by show 2 ≤ 1000; decide)) (V4.mkya_cons (mo _ rfl) (V4.mkya_cons (V4.mky_lst h3 (V4.mkya_cons (mr _ rfl) (V4.mkya_cons (mw _ rfl) V4.mkya_nil)) (by show 2 ≤ 1000; decide)) (V4.mkya_cons (V4.mky_tup h3 (V4.mkya_cons (mr _ rfl) V4.mkya_nil) (by show 1 ≤ 1000; decide)) (V4.mkya_cons (V4.mky_tup h3 (V4.mkya_cons (mr _ rfl) (V4.mkya_cons (mw _ rfl) (V4.mkya_cons (mw _ rfl) V4.mkya_nil))) (by show 3 ≤ 1000; decide)) (V4.mkya_cons (V4.mky_tup h3 (V4.mkya_cons (mw _ rfl) (V4.mkya_cons (mr _ rfl) V4.mkya_nil)) (by show 2 ≤ 1000; decide)) V4.mkya_nil))))))) (by show 7 ≤ 1000; decide) H3 (Same.refl H3) _ fun v4 H4 s4 q4 => some_data (hand_same g3.hd s4) q4 (.inl rfl) (by show 0 < 7; decide) (by show 7 < 1000; decide) fun H5 pv d5 g5 m5 q5 => ?_⟩
      have g45 := (Go.new g3.hd s4).trans g5
      have sh5 : shortA d5 = true := by
        simp only [List.mem_cons, List.not_mem_nil, or_false] at m5
        rcases m5 with rfl | rfl | rfl | rfl | rfl | rfl | rfl <;> simp [mkR, shortA, shortAll, rs, w, sh3]
      have eg5 := g45.sm g _ eg3
      rw [delH_ne ga] at eg5
      have dg5 := DxAll.same g45.sm _ _ (DxAll.same g3.sm _ _ dg2)
      have b2 : ∀ τ : L2.St, τ[1]? = some (some (.ref g)) → V4.MkL H5 a (tVar 1) τ (ts.map mkP) := fun τ h => V4.mkl_var ga eg5 dg5 h
      have hh := g5.hd.held
      have ll : (ts.map mkP).length ≤ 200 := by rw [List.length_map]; exact lt
      have l1 := cutD_len (ts.map mkP) none (some ((j : Nat) : Int))
      have l2 := cutD_len (ts.map mkP) (some ((j : Int) + 1)) none
      refine V4.mky_tupof hh (V4.mkl_cat hh (V4.mkl_cat hh (V4.mkl_cut (lo := none) (hi := some ((j : Nat) : Int)) hh (b2 _ rfl) (fun _ _ q => q) (fun _ _ q => ⟨_, rfl, _, rfl, q⟩)) (V4.mkl_of (V4.mky_lst hh (V4.mkya_cons (V4.mky_var q5 rfl) V4.mkya_nil) (by show 1 ≤ 1000; decide))) (by simp only [List.length_cons, List.length_nil]; omega)) (V4.mkl_cut (lo := some ((j : Int) + 1)) (hi := none) hh (b2 _ rfl) (fun _ _ q => ⟨_, rfl, _, _, rfl, rfl, _, rfl, q⟩) (fun _ _ q => q)) (by rw [List.length_append]; simp only [List.length_cons, List.length_nil]; omega)) H5 (Same.refl H5) _ fun v H' s q => hQ H' v _ ((g23.trans g45).trans (Go.new g5.hd s)) q ?_
      simp only [shortA]
      refine all_short fun d hd' => ?_
      rcases List.mem_append.mp hd' with h | h
      · rcases List.mem_append.mp h with h | h
        · exact shortAll_of ps d (cutD_mem h)
        · rw [List.mem_singleton.mp h]
          exact sh5
      · exact shortAll_of ps d (cutD_mem h)
    refine ⟨_, rfl, rfl, _, rfl, ite2 (fun _ => ?_) (fun _ => ?_)⟩
    · have b2 : ∀ τ : L2.St, τ[1]? = some (some (.ref g)) → V4.MkL H2 a (tVar 1) τ (ts.map mkP) := fun τ h => V4.mkl_var ga eg2 dg2 h
      have hh := hd2.held
      have ll : (ts.map mkP).length ≤ 200 := by rw [List.length_map]; exact lt
      have l1 := cutD_len (ts.map mkP) none (some ((j : Nat) : Int))
      have l2 := cutD_len (ts.map mkP) (some ((j : Int) + 1)) none
      refine V4.mkl_cut (lo := none) (hi := some ((j : Nat) : Int)) hh (b2 _ rfl) (fun _ _ q => q) (fun _ _ q => ⟨_, rfl, _, rfl, q⟩) H2 (Same.refl H2) _ fun p1 xs1 H3 s3 na1 e1 r1 => ?_
      have g3 := g2.trans (Go.new hd2 s3)
      refine ⟨_, rfl, _, rfl, g, us, _, _, rfl, rfl, sq_of (s3 _ _ eg2), atI_nat hx, _, rfl, _, rfl, a, rfl, g3.hd, fun H4 x g4 wx => ⟨(by show 2 ≤ sizeLine; decide), fun t nt => ⟨(by show 2 ≤ sizeLine; decide), fun l nl _ => ?_⟩⟩⟩
      rw [eq]
      have st := same_new (o := HO.tup [va, .str x]) nt
      have et : upd H4 t (HO.tup [va, .str x]) t = some (.tup [va, .str x]) := upd_same
      have g5 := g4.trans (Go.new g4.hd st)
      have ta := g4.hd.ne_new nt
      generalize upd H4 t (HO.tup [va, .str x]) = H5 at st et g5 nl ⊢
      have sl := same_new (o := HO.lst [.ref q, .ref t]) nl
      have el : upd H5 l (HO.lst [.ref q, .ref t]) l = some (.lst [.ref q, .ref t]) := upd_same
      have g6 := g5.trans (Go.new g5.hd sl)
      have et6 := sl _ _ et
      generalize upd H5 l (HO.lst [.ref q, .ref t]) = H6 at sl el g6 et6 ⊢
      have e16 := g6.sm p1 _ (by rw [delH_ne na1]; exact e1)
      rw [delH_ne na1] at e16
      have r16 := DxAll.same g6.sm _ _ r1
      have eg6 := g6.sm g _ (by rw [delH_ne ga]; exact s3 _ _ eg2)
      rw [delH_ne ga] at eg6
      have dg6 := DxAll.same g6.sm _ _ (DxAll.same (same_del s3) _ _ dg2)
      have lx := dxAll_len r1
      refine ⟨p1, l, xs1, _, rfl, rfl, e16, el, Nat.le_trans (by omega : xs1.length + 2 ≤ 1000) (by decide), fun c nc => ?_⟩
      have ca := g6.hd.ne_new nc
      have s7 := same_new (o := HO.lst (xs1 ++ [.ref q, .ref t])) nc
      have ec : upd H6 c (HO.lst (xs1 ++ [.ref q, .ref t])) c = some (.lst (xs1 ++ [.ref q, .ref t])) := upd_same
      have g7 := g6.trans (Go.new g6.hd s7)
      have r17 := DxAll.same (same_del (a := a) s7) _ _ r16
      have eg7 := s7 _ _ eg6
      have dg7 := DxAll.same (same_del (a := a) s7) _ _ dg6
      have et7 := s7 _ _ et6
      generalize upd H6 c (HO.lst (xs1 ++ [.ref q, .ref t])) = H7 at s7 ec g7 r17 eg7 dg7 et7 ⊢
      have hq7 : delH H7 a q = some (.tup [va, .str _]) := g7.sm _ _ (same_del s3 _ _ hq)
      have qa7 := Dx.same g7.sm _ _ (Dx.same (same_del s3) _ _ qa)
      refine V4.mkl_cut (lo := some ((j : Int) + 1)) (hi := none) g7.hd.held (V4.mkl_var ga eg7 dg7 rfl) (fun _ _ q => ⟨_, rfl, _, _, rfl, rfl, _, rfl, q⟩) (fun _ _ q => q) H7 (Same.refl H7) _ fun p2 xs2 H8 s8 na2 e28 r2 => ?_
      have lx2 := dxAll_len r2
      refine ⟨c, p2, _, xs2, rfl, rfl, s8 _ _ ec, e28, Nat.le_trans (by rw [List.length_append]; simp only [List.length_cons, List.length_nil]; omega : (xs1 ++ [V.ref q, V.ref t]).length + xs2.length ≤ 1000) (by decide), fun c2 nc2 => ?_⟩
      have s9 := same_new (o := HO.lst ((xs1 ++ [.ref q, .ref t]) ++ xs2)) nc2
      have g9 := (g7.trans (Go.new g7.hd s8)).trans (Go.new (hand_same g7.hd s8) s9)
      refine ⟨c2, _, rfl, .inl ⟨sq_of upd_same, fun t3 nt3 => ?_⟩⟩
      have s10 := same_new (o := HO.tup ((xs1 ++ [.ref q, .ref t]) ++ xs2)) nt3
      have t3a := g9.hd.ne_new nt3
      have s810 := (s8.trans s9).trans s10
      refine hQ _ (.ref t3) (.tuple ((V4.cutD (ts.map mkP) none (some ((j : Nat) : Int)) ++ [mkP ts[j], .tuple [mkR ts[j].1, .str x]]) ++ V4.cutD (ts.map mkP) (some ((j : Int) + 1)) none)) ((g3.trans g9).trans (Go.new g9.hd s10)) (.tup (xs := (xs1 ++ [.ref q, .ref t]) ++ xs2) (by rw [delH_ne t3a]; exact upd_same) ?_) ?_
      · refine DxAll.app (DxAll.app (DxAll.same (same_del s810) _ _ r17) (.cons ?_ (.cons ?_ .nil))) (DxAll.same (same_del (s9.trans s10)) _ _ r2)
        · exact .tup (same_del s810 _ _ hq7) (.cons (Dx.same (same_del s810) _ _ qa7) (.cons (.str _) .nil))
        · exact .tup (xs := [va, .str x]) (same_del s810 _ _ (by rw [delH_ne ta]; exact et7)) (.cons (Dx.same (same_del s810) _ _ qa7) (.cons (.str _) .nil))
      · simp only [shortA]
        refine all_short fun d hd' => ?_
        rcases List.mem_append.mp hd' with h | h
        · rcases List.mem_append.mp h with h | h
          · exact shortAll_of ps d (cutD_mem h)
          · have rs := row_short okt.1
            have w : x.length ≤ 10000 := by
              have z : x.length ≤ 40 ∧ Txt.isascii x = true ∧ Txt.isprintable x = true := by simpa [wordX] using wx
              omega
            simp only [List.mem_cons, List.not_mem_nil, or_false] at h
            rcases h with rfl | rfl
            · exact shortAll_of ps _ (List.mem_map.mpr ⟨_, List.getElem_mem hj, rfl⟩)
            · simp [mkR, shortA, shortAll, rs, w]
        · exact shortAll_of ps d (cutD_mem h)
    refine ⟨_, rfl, rfl, _, rfl, ite2 (fun _ => ?_) (fun _ => ?_)⟩
    · refine ⟨_, rfl, _, rfl, _, _, rfl, .inl ⟨us, sq_of eg2, rfl⟩, a, _, rfl, hd2, by omega, by omega, fun H3 k hd3 e3 c3 k0 k1 => ?_⟩
      obtain ⟨k, rfl⟩ := Int.eq_ofNat_of_zero_le k0
      have g3 := g2.trans (Go.draw hd3 e3 c3)
      have eg3 : H3 g = some (.lst us) := by
        have y := congrFun e3 g
        rw [delH_ne ga, delH_ne ga] at y
        exact y.trans eg2
      have dg3 : DxAll (delH H3 a) us (ts.map mkP) := by rw [e3]; exact dg2
      have b2 : ∀ τ : L2.St, τ[1]? = some (some (.ref g)) → V4.MkL H3 a (tVar 1) τ (ts.map mkP) := fun τ h => V4.mkl_var ga eg3 dg3 h
      have hh := hd3.held
      have ll : (ts.map mkP).length ≤ 200 := by rw [List.length_map]; exact lt
      have l1 := cutD_len (ts.map mkP) none (some ((j : Nat) : Int))
      have l2 := cutD_len (ts.map mkP) (some ((j : Int) + 1)) none
      have hk2 : k < (ts.map mkP).length := by rw [List.length_map]; omega
      refine V4.mky_tupof hh (V4.mkl_cat hh (V4.mkl_cat hh (V4.mkl_cut (lo := none) (hi := some ((j : Nat) : Int)) hh (b2 _ rfl) (fun _ _ q => q) (fun _ _ q => ⟨_, rfl, _, rfl, q⟩)) (V4.mkl_of (V4.mky_lst hh (V4.mkya_cons (V4.mky_ixL (n := k) (b2 _ rfl) (fun _ _ q => ⟨_, rfl, q⟩) hk2) V4.mkya_nil) (by show 1 ≤ 1000; decide))) (by simp only [List.length_cons, List.length_nil]; omega)) (V4.mkl_cut (lo := some ((j : Int) + 1)) (hi := none) hh (b2 _ rfl) (fun _ _ q => ⟨_, rfl, _, _, rfl, rfl, _, rfl, q⟩) (fun _ _ q => q)) (by rw [List.length_append]; simp only [List.length_cons, List.length_nil]; omega)) H3 (Same.refl H3) _ fun v H' s q => hQ H' v _ (g3.trans (Go.new hd3 s)) q ?_
      simp only [shortA]
      refine all_short fun d hd' => ?_
      rcases List.mem_append.mp hd' with h | h
      · rcases List.mem_append.mp h with h | h
        · exact shortAll_of ps d (cutD_mem h)
        · rw [List.mem_singleton.mp h]
          exact shortAll_of ps _ (List.getElem_mem hk2)
      · exact shortAll_of ps d (cutD_mem h)
    · have b2 : ∀ τ : L2.St, τ[1]? = some (some (.ref g)) → V4.MkL H2 a (tVar 1) τ (ts.map mkP) := fun τ h => V4.mkl_var ga eg2 dg2 h
      have hh := hd2.held
      have ll : (ts.map mkP).length ≤ 200 := by rw [List.length_map]; exact lt
      have l1 := cutD_len (ts.map mkP) none (some ((j : Nat) : Int))
      have l2 := cutD_len (ts.map mkP) (some ((j : Int) + 1)) none
      have hj2 : j < (ts.map mkP).length := by rw [List.length_map]; exact hj
      refine V4.mky_tupof hh (V4.mkl_cat hh (V4.mkl_cat hh (V4.mkl_cut (lo := none) (hi := some ((j : Nat) : Int)) hh (b2 _ rfl) (fun _ _ q => q) (fun _ _ q => ⟨_, rfl, _, rfl, q⟩)) (V4.mkl_cut (lo := some ((j : Int) + 1)) (hi := none) hh (b2 _ rfl) (fun _ _ q => ⟨_, rfl, _, _, rfl, rfl, _, rfl, q⟩) (fun _ _ q => q)) (by omega)) (V4.mkl_of (V4.mky_lst hh (V4.mkya_cons (V4.mky_ixL (n := j) (b2 _ rfl) (fun _ _ q => ⟨_, rfl, q⟩) hj2) V4.mkya_nil) (by show 1 ≤ 1000; decide))) (by rw [List.length_append]; simp only [List.length_cons, List.length_nil]; omega)) H2 (Same.refl H2) _ fun v H' s q => hQ H' v _ (g2.trans (Go.new hd2 s)) q ?_
      simp only [shortA]
      refine all_short fun d hd' => ?_
      rcases List.mem_append.mp hd' with h | h
      · rcases List.mem_append.mp h with h | h
        · exact shortAll_of ps d (cutD_mem h)
        · exact shortAll_of ps d (cutD_mem h)
      · rw [List.mem_singleton.mp h]
        exact shortAll_of ps _ (List.getElem_mem hj2)
end
end K01

set_option maxHeartbeats 4000000
namespace K01
open PySem PySem.Spec PyProof.Rows L2 V1 V2 V3 LamX
open Evl (pss_cut tCut sq_of st_of)
abbrev lawSl : List Str := ["script", "hand", "made", "turn", "good", "pairs", "other", "found", "part", "table", "twin", "one", "two", "due"]
theorem scLaw : FnScope lawSl ["script"] (defScope s_law) := ⟨rfl, rfl, rfl, by decide +kernel, rfl, by decide +kernel, by decide +kernel⟩
def spLaw (K : PySem.W.Frag) : Sp := fun vs H Q _ => ∃ (a : Addr) (ns : List Int), vs = [.ref a] ∧ SqL K H a (ns.map V.int) ∧ ns.length ≤ 63 ∧ Tabs (tsK K) H ∧ ∀ H', Q (.bl true) H'
section
variable {K : PySem.W.Frag} {H H' : Hp} {a : Addr}
theorem hand_ext (h : HandAt H a) (e : ExtN H H') : HandAt H' a ∧ cellsOf H' a = cellsOf H a := by
  obtain ⟨c, cs, i1, i2, i3, i4, h1, h2, h3⟩ := h.ex
  have h1' := V4.ext_lst e h1
  exact ⟨⟨c, cs, i1, i2, i3, i4, h1', V4.ext_lst (V4.ext_del e) h2, h3⟩, (cellsOf_at h1').trans (cellsOf_at h1).symm⟩
theorem hand_not (hd : HandAt H a) {b : Addr} {o : HO} (e : H b = some o) (n : ∀ xs, o ≠ .lst xs) : b ≠ a := fun z => by
  obtain ⟨c, cs, i1, i2, i3, i4, h1, _⟩ := hd.ex
  rw [z, h1] at e
  exact n _ (Option.some.inj e).symm
theorem tabs_go (t : Tabs (tsK K) H) (hd : HandAt H a) (s : Same (delH H a) (delH H' a)) : Tabs (tsK K) H' := by
  intro p hp
  obtain ⟨ps, e1, e2, e3⟩ := t p hp
  have up : ∀ (b : Addr) (o : HO), H b = some o → (∀ xs, o ≠ .lst xs) → H' b = some o := fun b o e n => by
    have z := s b o (by rw [delH_ne (hand_not hd e n)]; exact e)
    exact same_delH _ _ z
  refine ⟨ps, up _ _ e1 (fun xs z => nomatch z), e2, fun pos cv hc => ?_⟩
  obtain ⟨c', r1, r2⟩ := e3 pos cv hc
  exact ⟨c', r1, up _ _ r2 (fun xs z => by unfold CodeO at z; cases z)⟩
end
/-! what partOf says -/
theorem partOf_val {d1 d2 : PyData} {x : V} (h : partOf d1 d2 = some x) : (∃ s, x = .str s) ∨ ∃ n, x = .int n := by
  unfold partOf at h
  split at h
  · split at h
    · split at h
      · exact .inr ⟨_, (Option.some.inj h).symm⟩
      · split at h
        · cases h
        · exact .inl ⟨_, (Option.some.inj h).symm⟩
    · cases h
  · exact .inl ⟨_, (Option.some.inj h).symm⟩
theorem okP_good {ts : Tp} (g : GoodT ts) {i : Nat} (hi : i < ts.length) : okP (ts.map mkP) i = true := by
  have at_ : ∀ j (hj : j < ts.length), (ts.map mkP).getD j .none = mkP ts[j] := fun j hj => by simp [List.getD, hj]
  unfold okP
  have h := g.ok _ (List.getElem_mem hi)
  have r : rowD (mkR ts[i].1) = true := by
    show (decide ((ts[i].1.map PyData.str).length ≤ 400) && (ts[i].1.map PyData.str).all wordD) = true
    rw [List.length_map, decide_eq_true h.2.1, Bool.true_and, List.all_map, List.all_eq_true]
    exact fun x hx => h.1 x hx
  have p : pairD (mkP ts[i]) = true := by
    show (rowD (mkR ts[i].1) && wordX ts[i].2) = true
    rw [r, h.2.2]
    rfl
  rw [at_ i hi, p, Bool.true_and, Bool.not_eq_true', rowOf_p]
  by_cases e : 0 < i
  · rw [at_ (i - 1) (by omega), rowOf_p, rowLe_key]
    have z : keyR ts[i - 1].1 < keyR ts[i].1 := (List.pairwise_iff_getElem.mp g.up) (i - 1) i (by omega) hi (by omega)
    rw [decide_eq_true z, Bool.not_true, Bool.and_false]
  · rw [decide_eq_false e, Bool.false_and]
theorem partOf_good {ts : Tp} {o : Str} (g : GoodT ts) (l : ts.length ≤ 200) (w : wordX o = true) : partOf (.tuple (ts.map mkP)) (.str o) = none := by
  have e1 : tupOf 0 200 (.tuple (ts.map mkP)) = true := by
    show (decide ((0 : Int) ≤ ((ts.map mkP).length : Int)) && decide (((ts.map mkP).length : Int) ≤ 200)) = true
    rw [List.length_map, decide_eq_true (by omega), decide_eq_true (by omega)]
    rfl
  have f : firstBad (ts.map mkP) = none := firstBad_none fun i hi => okP_good g (by rw [List.length_map] at hi; exact hi)
  unfold partOf
  rw [if_pos e1]
  simp only [f]
  rw [if_pos (show wordD (.str o) = true from w)]
theorem firstBad_ok {ds : List PyData} (h : firstBad ds = none) : ∀ i, i < ds.length → okP ds i = true := fun i hi => by
  unfold firstBad at h
  rw [List.find?_eq_none] at h
  have z := h i (List.mem_range.mpr hi)
  simpa using z
theorem partOf_none {d1 d2 : PyData} (h : partOf d1 d2 = none) : ∃ (ts : Tp) (o : Str), d1 = .tuple (ts.map mkP) ∧ d2 = .str o ∧ GoodT ts ∧ ts.length ≤ 200 ∧ wordX o = true := by
  unfold partOf at h
  split at h
  · rename_i e1
    obtain ⟨ds, rfl, _, l2⟩ := tupOf_tup e1
    simp only at h
    split at h
    · cases h
    · rename_i f
      split at h
      · rename_i w
        obtain ⟨ts, rfl, g⟩ := ts_of (firstBad_ok f)
        rw [List.length_map] at l2
        cases d2 with
        | str o => exact ⟨ts, o, rfl, rfl, g, by omega, w⟩
        | _ => cases w
      · cases h
  · cases h
theorem good_drop {ts : Tp} (g : GoodT ts) : GoodT (ts.drop 1) := ⟨fun t h => g.ok t (List.mem_of_mem_drop h), g.up.sublist (List.drop_sublist 1 ts)⟩
theorem cut1 (ts : Tp) : V4.cutD (ts.map mkP) (some 1) none = (ts.drop 1).map mkP := by
  cases ts with
  | nil => rfl
  | cons t ts =>
    unfold V4.cutD HT.sIx
    simp [List.take_of_length_le]
theorem flat_pairs {ts : Tp} (g : GoodT ts) (l : ts.length ≤ 200) (o : Str) : flatD 4 (.tuple [.tuple (ts.map mkP), .str o]) = true := by
  have p : ∀ t ∈ ts, flatD 2 (mkP t) = true := fun t h => by
    have r : flatD 1 (mkR t.1) = true := by
      show (decide ((t.1.map PyData.str).length ≤ 900) && (t.1.map PyData.str).all (flatD 0)) = true
      rw [List.length_map, decide_eq_true (by have := (g.ok t h).2.1; omega), Bool.true_and, List.all_map, List.all_eq_true]
      exact fun _ _ => rfl
    show (decide (2 ≤ 900) && [mkR t.1, .str t.2].all (flatD 1)) = true
    simp [r, flatD]
  have q : flatD 3 (.tuple (ts.map mkP)) = true := by
    show (decide ((ts.map mkP).length ≤ 900) && (ts.map mkP).all (flatD 2)) = true
    rw [List.length_map, decide_eq_true (Nat.le_trans l (by decide)), Bool.true_and, List.all_map, List.all_eq_true]
    exact fun t h => p t h
  show (decide (2 ≤ 900) && [.tuple (ts.map mkP), .str o].all (flatD 3)) = true
  rw [List.all_cons, q]
  rfl
theorem tsInj {ts us : Tp} (h : PyData.tuple (ts.map mkP) = .tuple (us.map mkP)) : ts = us := by
  have z := eqv_pairs ts us
  rw [PyData.tuple.inj h, eqv_pairs us us, decide_eq_true rfl] at z
  exact of_decide_eq_true z.symm
section
variable [CurK]
theorem dq_pairs {H : Hp} {v : V} {ts : Tp} (h : Dx H v (.tuple (ts.map mkP))) : Dq H v (.tuple (ts.map mkP)) := dq_of _ _ (by simp only [V2.plain]; exact plain_pairs ts) h
/-- pairs lie in tuples -/
theorem dq_tups {H H' : Hp} (e : ∀ b xs, H b = some (.tup xs) → H' b = some (.tup xs)) : ∀ {ts : Tp} {us : List V}, DqAll H us (ts.map mkP) → DqAll H' us (ts.map mkP)
  | [], _, h => by cases h; exact .nil
  | t :: ts, _, h => by
    cases h with
    | cons one more =>
      refine .cons ?_ (dq_tups e more)
      obtain ⟨b, ws, rfl, hb, hw⟩ := V2.Dq.tup_inv one
      cases hw with | @cons va _ _ _ qa r1 =>
      cases r1 with | @cons vb _ _ _ qb r2 =>
      cases r2
      obtain ⟨c, cs, rfl, hc, hcs⟩ := V2.Dq.tup_inv qa
      have z : ∀ {vs : List V} {r : List Str}, DqAll H vs (r.map .str) → DqAll H' vs (r.map .str) := by
        intro vs r
        induction r generalizing vs with
        | nil => intro h; cases h; exact .nil
        | cons m ms ih => intro h; cases h with | cons one more => cases one; exact .cons (.str _) (ih more)
      cases qb
      exact .tup (e _ _ hb) (.cons (.tup (e _ _ hc) (z hcs)) (.cons (.str _) .nil))
theorem TAt.del {H : Hp} {a p : Addr} {ts : Tp} {o : Str} (h : TAt H p ts o) (hd : HandAt H a) : TAt (delH H a) p ts o := by
  obtain ⟨dx, b, q, us, kvs, h1, h2, h3, h4, h5⟩ := h.ex
  have up : ∀ {b : Addr} {o : HO}, H b = some o → (∀ xs, o ≠ .lst xs) → delH H a b = some o := fun e n => by
    rw [delH_ne (hand_not hd e n)]
    exact e
  exact ⟨dx, b, q, us, kvs, up h1 (fun xs z => nomatch z), up h2 (fun xs z => nomatch z), dq_tups (fun b xs e => up e fun ys z => nomatch z) h3, up h4 (fun xs z => nomatch z), h5⟩
def BI (a : Addr) (H : Hp) : Prop := HandAt H a ∧ Tabs (tsK K) H
theorem BI.go {a : Addr} {H H' : Hp} (b : BI a H) (g : Go a H H') : BI a H' := ⟨g.hd, tabs_go b.2 b.1 g.sm⟩
theorem BI.new {a : Addr} {H H' : Hp} (b : BI a H) (s : Same H H') : BI a H' := b.go (Go.new b.1 s)
theorem BI.ext {a : Addr} {H H' : Hp} (b : BI a H) (e : ExtN H H') (t : Tabs (tsK K) H') : BI a H' := ⟨(hand_ext b.1 e).1, t⟩
/-- a table, its pairs, its other word -/
def Tri (H : Hp) (v : V) : Prop := ∃ t p b ts o, v = .ref t ∧ H t = some (.tup [.ref p, .ref b, .str o]) ∧ TAt H p ts o ∧ GoodT ts ∧ Dx H (.ref b) (.tuple (ts.map mkP))
theorem Tri.ext {H H' : Hp} {v : V} (e : ExtN H H') (h : Tri H v) : Tri H' v := by
  obtain ⟨t, p, b, ts, o, rfl, h1, h2, h3, h4⟩ := h
  exact ⟨t, p, b, ts, o, rfl, e _ _ h1 (fun ps z => nomatch z), h2.ext e, h3, V4.dx_ext e _ _ h4⟩
def MadeAt (a : Addr) (H : Hp) (m : Addr) (n : Nat) : Prop := m ≠ a ∧ ∃ vs, H m = some (.lst vs) ∧ vs.length = n ∧ ∀ v ∈ vs, Tri (delH H a) v
theorem MadeAt.go {a m : Addr} {n : Nat} {H H' : Hp} (h : MadeAt a H m n) (g : Go a H H') : MadeAt a H' m n := by
  obtain ⟨h1, vs, h2, h3, h4⟩ := h
  have z := g.sm m _ (by rw [delH_ne h1]; exact h2)
  rw [delH_ne h1] at z
  exact ⟨h1, vs, z, h3, fun v hv => (h4 v hv).ext (ExtN.of g.sm)⟩
theorem MadeAt.ext {a m : Addr} {n : Nat} {H H' : Hp} (h : MadeAt a H m n) (e : ExtN H H') : MadeAt a H' m n := by
  obtain ⟨h1, vs, h2, h3, h4⟩ := h
  exact ⟨h1, vs, e _ _ h2 (fun ps z => nomatch z), h3, fun v hv => (h4 v hv).ext (V4.ext_del e)⟩
/-- what stands behind pairs and other -/
def M0 (a : Addr) (i : Nat) (σ : L2.St) (H : Hp) : Prop := ∃ o0 m o3 g v w o7 o8 o9 o10 o11 o12 o13, ∃ us ts0 d1 d2, σ = [o0, some (.ref a), some (.ref m), o3, some (.ref g), some v, some w, o7, o8, o9, o10, o11, o12, o13] ∧ BI a H ∧ MadeAt a H m (3 * i) ∧
  g ≠ a ∧ H g = some (.lst us) ∧ DxAll (delH H a) us (ts0.map mkP) ∧ GoodT ts0 ∧ ts0.length ≤ 200 ∧ Dx (delH H a) v d1 ∧ shortA d1 = true ∧ Dx (delH H a) w d2 ∧ shortA d2 = true
/-- and what was found -/
def Mf (a : Addr) (i : Nat) (σ : L2.St) (H : Hp) : Prop := ∃ o0 m o3 g v w t o8 o9 o10 o11 o12 o13, ∃ us ts0 d1 d2, σ = [o0, some (.ref a), some (.ref m), o3, some (.ref g), some v, some w, some (.ref t), o8, o9, o10, o11, o12, o13] ∧ BI a H ∧ MadeAt a H m (3 * i) ∧
  g ≠ a ∧ H g = some (.lst us) ∧ DxAll (delH H a) us (ts0.map mkP) ∧ GoodT ts0 ∧ ts0.length ≤ 200 ∧ Dx (delH H a) v d1 ∧ shortA d1 = true ∧ Dx (delH H a) w d2 ∧ shortA d2 = true ∧
  ((∃ x, partOf d1 d2 = some x ∧ H t = some (.tup [.str "bad", x])) ∨ (partOf d1 d2 = none ∧ ∃ ts o p, d1 = .tuple (ts.map mkP) ∧ d2 = .str o ∧ GoodT ts ∧ ts.length ≤ 200 ∧ wordX o = true ∧ H t = some (.tup [.str "made", .ref p]) ∧ TAt (delH H a) p ts o))
/-- a table was made -/
def M1 (a : Addr) (i : Nat) (σ : L2.St) (H : Hp) : Prop := ∃ o0 m o3 o4 b o t p o8 o9 o10 o11 o12 o13, ∃ ts : Tp, σ = [o0, some (.ref a), some (.ref m), o3, o4, some (.ref b), some (.str o), some (.ref t), o8, o9, o10, o11, o12, o13] ∧ BI a H ∧ MadeAt a H m (3 * i) ∧
  GoodT ts ∧ ts.length ≤ 200 ∧ wordX o = true ∧ Dx (delH H a) (.ref b) (.tuple (ts.map mkP)) ∧ H t = some (.tup [.str "made", .ref p]) ∧ TAt (delH H a) p ts o
theorem MadeAt.add {a m2 : Addr} {n k : Nat} {H : Hp} {vs ws : List V} (hd : HandAt H a) (nm : H m2 = none) (l : vs.length = n) (tri : ∀ v ∈ vs, Tri (delH H a) v) (l2 : ws.length = k) (tri2 : ∀ v ∈ ws, Tri (delH H a) v) : MadeAt a (upd H m2 (.lst (vs ++ ws))) m2 (n + k) := by
  have e : ExtN (delH H a) (delH (upd H m2 (.lst (vs ++ ws))) a) := ExtN.of (same_del (same_new nm))
  refine ⟨hd.ne_new nm, _, upd_same, by rw [List.length_append, l, l2], fun v hv => ?_⟩
  rcases List.mem_append.mp hv with h | h
  · exact (tri v h).ext e
  · exact (tri2 v h).ext e
theorem tri_at {a t p b : Addr} {H : Hp} {ts : Tp} {o : Str} (hd : HandAt H a) (e : H t = some (.tup [.ref p, .ref b, .str o])) (ta : TAt (delH H a) p ts o) (g : GoodT ts) (d : Dx (delH H a) (.ref b) (.tuple (ts.map mkP))) : Tri (delH H a) (.ref t) :=
  ⟨t, p, b, ts, o, rfl, by rw [delH_ne (hand_not hd e fun ys z => nomatch z)]; exact e, ta, g, d⟩
theorem if_draw {thn : TS} {D : Ends} {σ : L2.St} {H : Hp} {p : Addr} (b : BI p H) (h : σ[1]? = some (some (.ref p))) {m : Int} (m0 : 0 < m) (m1 : m < 1000000000) (yes : ∀ H', Go p H H' → thn D σ H') (no : ∀ H', Go p H H' → D.nx σ H') :
    tIfS (tTest (tOp rEq (tCall spDraw [] (fun _ _ _ => False) (tCons (tVar 1) (tCons (tC (.int m)) tNil))) (tC (.int 0)))) thn tNext D σ H :=
  ⟨_, h, p, m, rfl, b.1, m0, m1, fun H' r h1 h2 h3 r0 r1 => ⟨rfl, _, rfl, ite2 (fun _ => yes H' (Go.draw h1 h2 h3)) (fun _ => no H' (Go.draw h1 h2 h3))⟩⟩
theorem tup_up {a t : Addr} {H H' : Hp} {xs : List V} (hd : HandAt H a) (g : Go a H H') (e : H t = some (.tup xs)) : H' t = some (.tup xs) := by
  have ne := hand_not hd e fun ys z => nomatch z
  have z := g.sm t _ (by rw [delH_ne ne]; exact e)
  rw [delH_ne ne] at z
  exact z
end
theorem nf_own {K : PySem.W.Frag} : PySem.W.notFirst K (He.ga K "Table") (.ref (He.ga K "Table")) = true := by simp [PySem.W.notFirst]
section
variable [CurK] {P : Program} {w : World} {mg : Str → Option Value} {base : Heap}
theorem ok_law (T : Tx K mg) : ∃ fd, (∀ base : Heap, (∀ x ∈ lamN, TabB base mg (V4.pairOf K (He.ga K x)).1 (V4.pairOf K (He.ga K x)).2) → LawOk P w K mg base (He.ga K "law") fd "script" (spLaw K)) ∧ ∀ (s : Shared) (u : Value), BindsTo s fd ⟨[u], []⟩ [("script", u)] := by
  obtain ⟨fd, F⟩ := T.c.def_ 33 (d := d_law) rfl
  have bind := FunD.bindsA (ps := ["script"]) F fun _ _ _ _ _ _ us hl => match us, hl with | [_], _ => rfl
  refine ⟨fd, fun base TBs => ?_, fun s u => bind s [u] rfl⟩
  have Hh := ok_hand (P := P) (w := w) (base := base) T
  have Hri := ok_rising (P := P) (w := w) (base := base) T
  have Hb := ok_bent (P := P) (w := w) (base := base) T
  have Hw := ok_lword (P := P) (w := w) (base := base) T
  have Hd := ok_draw (P := P) (w := w) (base := base) T
  have Ho := ok_odd (P := P) (w := w) (base := base) T
  have Hm := ok_made (P := P) (w := w) (base := base) T
  have Hpt := ok_part (P := P) (w := w) (base := base) T
  have His := ok_is (P := P) (w := w) (base := base) T 5
  have Ht := ok_tells (P := P) (w := w) (base := base) T
  have Hal := ok_alone (P := P) (w := w) (base := base) T (TBs "_law_alone" (by decide))
  have Htab := ok_tab (P := P) (w := w) (base := base) T
  obtain ⟨fe, Fe, be⟩ := ok_teq (P := P) (w := w) (base := base) T
  have cS : Cls K (He.ga K "Table") := He.cls_ok (T.c.fact 69 rfl)
  have n1 : NoAttr K (He.ga K "Table") "pairs" := He.noat_ok (T.c.fact 72 rfl)
  have n2 : NoAttr K (He.ga K "Table") "other" := He.noat_ok (T.c.fact 71 rfl)
  have iT := (T.insK 0 (x := "Table") rfl).ins cS T.exs.2.2.2
  refine lawOk_of (k := 80) F scLaw ⟨rfl, by decide, by decide⟩ fun cdv s H v0 Q hr gd h => ?_
  refine ⟨_, PSs.nox (pss_cons (ps_set (i := 1) scLaw.nd rfl (Or.inl rfl) (pe_has Hh (hr.mono (by decide)) pass0 (pa_cons (pv 0) pa_nil)))
 (pss_cons (ps_set (i := 2) scLaw.nd rfl (Or.inl rfl) (pe_lstS pa_nil))
 (pss_cons (ps_for PassesOwn.never rfl (pi_range1 (by rfl) (T.free 59 rfl) (pa_cons pe_int pa_nil)) (pg_name (i := 3) scLaw.nd rfl (Or.inl rfl))
 (pss_cons (ps_set (i := 4) scLaw.nd rfl (Or.inl rfl) (pe_has Hri (hr.mono (by decide)) pass0 (pa_cons (pv 1) pa_nil)))
 (pss_cons (ps_set (i := 5) scLaw.nd rfl (Or.inl rfl) (pe_has Hb (hr.mono (by decide)) passF (pa_cons (pv 1) (pa_cons (pv 4) pa_nil))))
 (pss_cons (ps_set (i := 6) scLaw.nd rfl (Or.inl rfl) (pe_has Hw (hr.mono (by decide)) pass0 (pa_cons (pv 1) pa_nil)))
 (pss_cut (ps_if (pt_cmpR op_eq (pe_has Hd (hr.mono (by decide)) pass0 (pa_cons (pv 1) (pa_cons pe_int pa_nil))) pe_int (nomark _))
 (pss_one (ps_set (i := 6) scLaw.nd rfl (Or.inl rfl) (pe_has Ho (hr.mono (by decide)) passF (pa_cons (pv 1) pa_nil))))
 pss_nil)
 (pss_cut (ps_set (i := 7) scLaw.nd rfl (Or.inl rfl) (pe_has Hm (hr.mono (by decide)) pass0 (pa_cons (pv 5) (pa_cons (pv 6) pa_nil))))
 (pss_cons (ps_set (i := 8) scLaw.nd rfl (Or.inl rfl) (pe_has Hpt (hr.mono (by decide)) pass0 (pa_cons (pv 5) (pa_cons (pv 6) pa_nil))))
 (pss_cut (ps_if (pt_cmpR op_notN (pv 8) pe_non (nomark _))
 (pss_cons (ps_if (pt_not (pt_val (pe_has His (hr.mono (by decide)) pass0 (pa_cons (pv 7) (pa_cons (pe_tup (pa_cons pe_str (pa_cons (pv 8) pa_nil))) pa_nil)))))
 (pss_one (ps_ret pe_bl))
 pss_nil)
 (pss_cons (ps_par (i := 5) (j := 6) rfl scLaw.nd rfl rfl (by decide) rfl rfl (pa_cons (pe_callTy call_tuple_of (by rfl) (T.free 62 rfl) (by decide +kernel) (pa_cons (pv 4) pa_nil)) (pa_cons pe_str pa_nil)) (by rfl))
 (pss_one (ps_set (i := 7) scLaw.nd rfl (Or.inl rfl) (pe_has Hm (hr.mono (by decide)) pass0 (pa_cons (pv 5) (pa_cons (pv 6) pa_nil)))))))
 pss_nil)
 (pss_cons (ps_if (pt_cmpR op_ne (pe_ix ix_tup (pv 7) pe_int (fun _ _ => rfl)) pe_str (nomark _))
 (pss_one (ps_ret pe_bl))
 pss_nil)
 (pss_cons (ps_set (i := 9) scLaw.nd rfl (Or.inl rfl) (pe_ix ix_tup (pv 7) pe_int (fun _ _ => rfl)))
 (pss_cons (ps_if (PW.pt (pw_or (pt_not (pt_val (pe_has His (hr.mono (by decide)) pass0 (pa_cons (pe_tup (pa_cons (L2.pe_fld (pv 9) (by rfl)) (pa_cons (L2.pe_fld (pv 9) (by rfl)) pa_nil))) (pa_cons (pe_tup (pa_cons (pv 5) (pa_cons (pv 6) pa_nil))) pa_nil))))) (pw_or1 (pt_not (pt_val (pe_has Ht (hr.mono (by decide)) passF (pa_cons (pv 1) (pa_cons (pv 9) (pa_cons (pv 5) (pa_cons (pv 6) pa_nil))))))))))
 (pss_one (ps_ret pe_bl))
 pss_nil)
 (pss_cons (ps_if (pt_not (pt_val (pe_has Hal (hr.mono (by decide)) pass0 (pa_cons (pv 9) (pa_cons (pv 5) (pa_cons (pv 6) pa_nil))))))
 (pss_one (ps_ret pe_bl))
 pss_nil)
 (pss_cons (ps_set (i := 10) scLaw.nd rfl (Or.inl rfl) (pe_has Hw (hr.mono (by decide)) pass0 (pa_cons (pv 1) pa_nil)))
 (pss_cons (ps_set (i := 2) scLaw.nd rfl (Or.inl rfl) (pe_op op_cat (pv 2) (pe_lstS (pa_cons (pe_tup (pa_cons (pv 9) (pa_cons (pv 5) (pa_cons (pv 6) pa_nil)))) (pa_cons (pe_tup (pa_cons (pe_hasC Htab (hr.mono (by decide)) passF (pa_cons (pv 5) (pa_cons (pv 10) pa_nil))) (pa_cons (pv 5) (pa_cons (pv 10) pa_nil)))) pa_nil)))))
 (pss_one (ps_set (i := 2) scLaw.nd rfl (Or.inl rfl) (pe_op op_cat (pv 2) (pe_lstS (pa_cons (pe_tup (pa_cons (pe_hasC Htab (hr.mono (by decide)) passF (pa_cons (pe_slice sl_tupA (pv 5) (po_some pe_int) po_none) (pa_cons (pv 6) pa_nil))) (pa_cons (pe_slice sl_tupA (pv 5) (po_some pe_int) po_none) (pa_cons (pv 6) pa_nil)))) pa_nil)))))))))))))))))))
 (pss_cons (ps_for PassesOwn.never rfl (pi_list (pv 2)) (pg_name (i := 11) scLaw.nd rfl (Or.inl rfl))
 (pss_one (ps_for PassesOwn.never rfl (pi_list (pv 2)) (pg_name (i := 12) scLaw.nd rfl (Or.inl rfl))
 (pss_cut (ps_set (i := 13) scLaw.nd rfl (Or.inl rfl) (pe_and (pe_cmpR (op_eqD hr.units) (pe_ix ix_tup (pv 11) pe_int (fun _ _ => rfl)) (pe_ix ix_tup (pv 12) pe_int (fun _ _ => rfl)) (nomark _)) (pe_one (pe_cmpR op_eq (pe_ix ix_tup (pv 11) pe_int (fun _ _ => rfl)) (pe_ix ix_tup (pv 12) pe_int (fun _ _ => rfl)) (nomark _)))))
 (pss_one (ps_if (pt_not (pt_val (pe_has His (hr.mono (by decide)) pass0 (pa_cons (pe_tup (pa_cons (pe_cmpR (op_ownE Fe (He.meth_ok (T.c.fact 75 (f := .meth "Table" "__eq__") rfl)).at_ (He.meth_ok (T.c.fact 75 (f := .meth "Table" "__eq__") rfl)).fn be pass0 (hr.mono (by decide))) (pe_ix ix_tup (pv 11) pe_int (fun _ _ => rfl)) (pe_ix ix_tup (pv 12) pe_int (fun _ _ => rfl)) (nomark _)) (pa_cons (pe_cmpR (V4.op_ownNe Fe (T.ne "Table" (by decide)) iT (He.meth_ok (T.c.fact 75 (f := .meth "Table" "__eq__") rfl)).at_ (He.meth_ok (T.c.fact 75 (f := .meth "Table" "__eq__") rfl)).fn be pass0 (hr.mono (by decide))) (pe_ix ix_tup (pv 11) pe_int (fun _ _ => rfl)) (pe_ix ix_tup (pv 12) pe_int (fun _ _ => rfl)) (nomark _)) pa_nil))) (pa_cons (pe_tup (pa_cons (pv 13) (pa_cons (pe_not (pv 13)) pa_nil))) pa_nil)))))
 (pss_one (ps_ret pe_bl))
 pss_nil))))))
 (pss_one (ps_ret pe_bl)))))), ?_⟩
  obtain ⟨a0, ns, e0, hS, hl, hT, hQ⟩ := h
  cases e0
  refine ⟨_, rfl, a0, ns, rfl, hS, hl, fun H1 a s1 n1' hd1 => ?_⟩
  have b1 : BI a H1 := ⟨hd1, V4.tabs_same hT s1⟩
  refine ⟨(by show 0 ≤ sizeLine; decide), fun m nm _ => ?_⟩
  have s2 := same_new (o := HO.lst []) nm
  have b2 := b1.new s2
  have m2 : MadeAt a (upd H1 m (HO.lst [])) m 0 := ⟨hd1.ne_new nm, [], upd_same, rfl, fun _ h => absurd h List.not_mem_nil⟩
  generalize upd H1 m (HO.lst []) = H2 at s2 b2 m2 ⊢
  refine ⟨3, rfl, by decide, by decide, ?_⟩
  rw [show (3 : Int).toNat = 3 from rfl]
  refine for_it (walk_range (lo := 0) (n := 3)) (fun i σ H' => BI a H' ∧ ∃ o0 m o3 o4 o5 o6 o7 o8 o9 o10 o11 o12 o13, σ = [o0, some (.ref a), some (.ref m), o3, o4, o5, o6, o7, o8, o9, o10, o11, o12, o13] ∧ MadeAt a H' m (3 * i)) ⟨b2, _, _, _, _, _, _, _, _, _, _, _, _, _, rfl, m2⟩ (fun _ _ _ _ _ => True.intro) ?_ ?_
  · rintro i x σ H3 H4 hi ⟨b3, o0, m, o3, o4, o5, o6, o7, o8, o9, o10, o11, o12, o13, rfl, m3⟩ ⟨rfl, rfl⟩
    refine ⟨_, rfl, a, rfl, b3.1, fun H5 g us ts0 g5 ga eg dg gt0 l0 => ?_⟩
    refine ⟨_, rfl, _, rfl, a, g, us, ts0, rfl, g5.hd, ga, eg, dg, gt0, l0, fun H6 v d1 g6 q1 sh1 => ?_⟩
    refine ⟨_, rfl, a, rfl, g6.hd, fun H7 w g7 ww => ?_⟩
    have eg7 : H7 g = some (.lst us) := by
      have z := (g6.trans g7).sm g _ (by rw [delH_ne ga]; exact eg)
      rw [delH_ne ga] at z
      exact z
    have gg := g5.trans (g6.trans g7)
    have dg7 : DxAll (delH H7 a) us (ts0.map mkP) := DxAll.same (g6.trans g7).sm _ _ dg
    have shw : ∀ x : Str, wordX x = true → shortA (.str x) = true := fun x h => by
      have z : x.length ≤ 40 ∧ Txt.isascii x = true ∧ Txt.isprintable x = true := by simpa [wordX] using h
      simp only [shortA, decide_eq_true_eq]
      omega
    refine ⟨M0 a i, ?_, fun σ8 H8 m0 => ?_⟩
    · refine if_draw (b3.go gg) rfl (by decide) (by decide) (fun H8 g8 => ?_) (fun H8 g8 => ?_)
      · refine ⟨_, rfl, a, rfl, g8.hd, fun H9 u d2 g9 q2 sh2 => ?_⟩
        have g89 := g8.trans g9
        have z := g89.sm g _ (by rw [delH_ne ga]; exact eg7)
        rw [delH_ne ga] at z
        exact ⟨_, _, _, _, _, _, _, _, _, _, _, _, _, us, ts0, d1, d2, rfl, (b3.go gg).go g89, (m3.go gg).go g89, ga, z, DxAll.same g89.sm _ _ dg7, gt0, l0, g89.dx (g7.dx q1), sh1, q2, sh2⟩
      · have z := g8.sm g _ (by rw [delH_ne ga]; exact eg7)
        rw [delH_ne ga] at z
        exact ⟨_, _, _, _, _, _, _, _, _, _, _, _, _, us, ts0, d1, _, rfl, (b3.go gg).go g8, (m3.go gg).go g8, ga, z, DxAll.same g8.sm _ _ dg7, gt0, l0, g8.dx (g7.dx q1), sh1, .str w, shw w ww⟩
    clear q1 sh1 ww gg eg7 dg7 g5 g6 g7 eg dg gt0 l0 ga b3 m3
    refine ⟨Mf a i, ?_, fun σ9 H9 mf => ?_⟩
    · obtain ⟨o0, m, o3, g, v, w, o7, o8, o9, o10, o11, o12, o13, us, ts0, d1, d2, rfl, b, mk, ga, eg, dg, gt0, l0, q1, sh1, q2, sh2⟩ := m0
      refine ⟨_, rfl, _, rfl, v, w, d1, d2, rfl, Dx.same same_delH _ _ q1, Dx.same same_delH _ _ q2, sh1, sh2, fun x hx t H9 s9 nt et => ?_, fun hn ts o e1 e2 gt ln t p H9 s9 nt et ta => ?_⟩
      · have g9 := Go.new b.1 s9
        exact ⟨_, _, _, _, _, _, _, _, _, _, _, _, _, us, ts0, d1, d2, rfl, b.go g9, mk.go g9, ga, s9 _ _ eg, DxAll.same g9.sm _ _ dg, gt0, l0, g9.dx q1, sh1, g9.dx q2, sh2, .inl ⟨x, hx, et⟩⟩
      · have g9 := Go.new b.1 s9
        have wo : wordX o = true := by
          obtain ⟨ts', o', e1', e2', _, _, w'⟩ := partOf_none hn
          rw [e2] at e2'
          cases e2'
          exact w'
        exact ⟨_, _, _, _, _, _, _, _, _, _, _, _, _, us, ts0, d1, d2, rfl, b.go g9, mk.go g9, ga, s9 _ _ eg, DxAll.same g9.sm _ _ dg, gt0, l0, g9.dx q1, sh1, g9.dx q2, sh2, .inr ⟨hn, ts, o, p, e1, e2, gt, ln, wo, et, ta.del g9.hd⟩⟩
    obtain ⟨o0, m, o3, g, v, w, t, o8, o9, o10, o11, o12, o13, us, ts0, d1, d2, rfl, b, mk, ga, eg, dg, gt0, l0, q1, sh1, q2, sh2, how⟩ := mf
    refine ⟨_, rfl, _, rfl, v, w, d1, d2, rfl, Dx.same same_delH _ _ q1, Dx.same same_delH _ _ q2, sh1, sh2, fun H10 s10 => ?_⟩
    have g10 := Go.new b.1 s10
    have b10 := b.go g10
    have mk10 := mk.go g10
    refine ⟨M1 a i, ?_, fun σ11 H11 m1 => ?_⟩
    · rcases how with ⟨x, hx, et⟩ | ⟨hn, ts, o, p, rfl, rfl, gt, ln, wo, et, ta⟩
      · rw [hx]
        have et10 := s10 _ _ et
        obtain ⟨dx, qx, fl, nn⟩ : ∃ dx : PyData, (∀ H : Hp, Dq H x dx) ∧ flatD 4 (.tuple [.str "bad", dx]) = true ∧ (!decide (x = V.non)) = true := by
          rcases partOf_val hx with ⟨s, rfl⟩ | ⟨n, rfl⟩
          · exact ⟨.str s, fun H => .str s, rfl, by simp⟩
          · exact ⟨.int n, fun H => .int n, rfl, by simp⟩
        refine ⟨_, rfl, rfl, _, rfl, ?_⟩
        show (if (!decide (x = V.non)) = true then _ else _)
        rw [nn]
        refine iteT ⟨_, rfl, _, rfl, (by show 2 ≤ sizeLine; decide), fun t2 nt2 => ?_⟩
        have s11 := same_new (o := HO.tup [.str "bad", x]) nt2
        refine ⟨_, _, _, rfl, .tup (s11 _ _ et10) (.cons (.str _) (.cons (qx _) .nil)), .tup upd_same (.cons (.str _) (.cons (qx _) .nil)), fl, fun H12 s12 => ⟨true, rfl, iteF ?_⟩⟩
        have g12 := g10.trans (Go.new g10.hd (s11.trans s12))
        have eg12 : H12 g = some (.lst us) := (s10.trans (s11.trans s12)) _ _ eg
        have dg12 : DxAll (delH H12 a) us (ts0.map mkP) := DxAll.same g12.sm _ _ dg
        refine ⟨_, rfl, g, _, rfl, .inl ⟨sq_of eg12, fun c nc => ?_⟩⟩
        have s13 := same_new (o := HO.tup us) nc
        have ec : upd H12 c (HO.tup us) c = some (.tup us) := upd_same
        have g13 := g12.trans (Go.new g12.hd s13)
        generalize upd H12 c (HO.tup us) = H13 at s13 ec g13 ⊢
        have ca : c ≠ a := hand_not g13.hd ec fun ys z => nomatch z
        have qc : Dx (delH H13 a) (.ref c) (.tuple (ts0.map mkP)) := .tup (by rw [delH_ne ca]; exact ec) (DxAll.same (same_del s13) _ _ dg12)
        refine ⟨_, _, rfl, ?_⟩
        have pg := partOf_good (o := "a") gt0 l0 (by decide +kernel)
        refine ⟨_, rfl, _, rfl, _, _, _, .str "a", rfl, Dx.same same_delH _ _ qc, .str _, by simp only [shortA]; exact pairs_short gt0, by decide +kernel, fun x hx => ?_, fun _ ts o e1 e2 gt ln t p H14 s14 nt et ta => ?_⟩
        · rw [pg] at hx
          cases hx
        · have g14 := g13.trans (Go.new g13.hd s14)
          cases e2
          obtain rfl := tsInj e1
          exact ⟨_, _, _, _, c, _, t, p, _, _, _, _, _, _, _, rfl, b.go g14, mk.go g14, gt, ln, by decide +kernel, (Go.new g13.hd s14).dx qc, et, ta.del g14.hd⟩
      · rw [hn]
        refine ⟨_, rfl, rfl, _, rfl, ?_⟩
        show (if (!decide (V.non = V.non)) = true then _ else _)
        rw [show (!decide (V.non = V.non)) = false by simp]
        obtain ⟨c, us', rfl, _⟩ := Dx.tup_inv q1
        obtain rfl := Dx.str_inv q2
        exact iteF ⟨_, _, _, _, c, o, t, p, _, _, _, _, _, _, ts, rfl, b10, mk10, gt, ln, wo, g10.dx q1, s10 _ _ et, ta.same g10.sm⟩
    clear q1 sh1 q2 sh2 how dg eg gt0 l0 ga mk b mk10 b10 g10 s10
    obtain ⟨o0, m, o3, o4, c, o, t, p, o8, o9, o10, o11, o12, o13, ts, rfl, b, mk, gt, ln, wo, qb, et, ta⟩ := m1
    refine ⟨_, rfl, t, _, 0, _, rfl, rfl, st_of et, rfl, rfl, _, rfl, ?_⟩
    rw [show (!decide (V.str "made" = V.str "made")) = false by simp]
    refine iteF ⟨_, rfl, t, _, 1, _, rfl, rfl, st_of et, rfl, ?_⟩
    obtain ⟨dx, pb, q, us, kvs, hp, ha, hu, hq, ind⟩ := ta.ex
    have hp' := same_delH _ _ hp
    have d1 : Dq H11 (.ref pb) (.tuple (ts.map mkP)) := .tup (same_delH _ _ ha) (dqAll_of _ _ (plain_pairs ts) (DxAll.same same_delH _ _ (dxAll_of _ _ hu)))
    have d2 := dq_pairs (Dx.same same_delH _ _ qb)
    refine ⟨_, rfl, p, _, dx, _, _, rfl, hp', cS, n1, rfl, _, rfl, p, _, dx, _, _, rfl, hp', cS, n2, rfl, (by show 2 ≤ sizeLine; decide), fun t2 nt2 => ⟨_, rfl, _, rfl, (by show 2 ≤ sizeLine; decide), fun t3 nt3 => ?_⟩⟩
    have s2' := same_new (o := HO.tup [.ref pb, .str o]) nt2
    have e2 : upd H11 t2 (HO.tup [.ref pb, .str o]) t2 = some (.tup [.ref pb, .str o]) := upd_same
    generalize upd H11 t2 (HO.tup [.ref pb, .str o]) = H12 at s2' e2 nt3 ⊢
    have s3' := same_new (o := HO.tup [.ref c, .str o]) nt3
    refine ⟨_, _, .tuple [.tuple (ts.map mkP), .str o], rfl, .tup (s3' _ _ e2) (.cons (Dq.same (s2'.trans s3') _ _ d1) (.cons (.str _) .nil)), .tup upd_same (.cons (Dq.same (s2'.trans s3') _ _ d2) (.cons (.str _) .nil)), flat_pairs gt ln o, fun H13 s13 => ⟨true, rfl, iteF ?_⟩⟩
    have g13 := Go.new b.1 (s2'.trans (s3'.trans s13))
    clear nt2 nt3 e2 s2' s3' s13 d1 d2
    refine ⟨_, rfl, _, rfl, _, rfl, _, rfl, a, p, c, ts, o, rfl, g13.hd, ta.same g13.sm, gt, ln, g13.dx qb, fun H14 g14 => ⟨true, rfl, iteF ?_⟩⟩
    have g15 := g13.trans g14
    have b14 := b.go g15
    refine ⟨_, rfl, _, rfl, _, rfl, p, ts, o, _, rfl, (ta.same g15.sm).same same_delH, gt, dq_pairs (Dx.same same_delH _ _ (g15.dx qb)), b14.2, fun H15 e15 t15 => ⟨true, rfl, iteF ?_⟩⟩
    have b15 := b14.ext e15 t15
    have mk15 := (mk.go g15).ext e15
    have ta15 := (ta.same g15.sm).ext (V4.ext_del e15)
    have qb15 := V4.dx_ext (V4.ext_del e15) _ _ (g15.dx qb)
    clear mk b14 g13 g14 g15 e15 t15 b hp ha hu hq ind hp' ta qb et
    refine ⟨_, rfl, a, rfl, b15.1, fun H16 tw g16 ww => ?_⟩
    have b16 := b15.go g16
    have mk16 := mk15.go g16
    have ta16 := ta15.same g16.sm
    have qb16 := g16.dx qb15
    clear b15 mk15 ta15 qb15 g16
    have bad : ∀ {ts : Tp} {o : Str} {x : V}, GoodT ts → ts.length ≤ 200 → wordX o = true → partOf (.tuple (ts.map mkP)) (.str o) = some x → False := fun g l w h => by
      rw [partOf_good g l w] at h
      cases h
    obtain ⟨ma, vs, em, lv, tri⟩ := mk16
    refine ⟨_, rfl, _, rfl, _, rfl, _, rfl, (by show 3 ≤ sizeLine; decide), fun t1 nt1 => ⟨_, rfl, _, rfl, ?_⟩⟩
    have st1 := same_new (o := HO.tup [.ref p, .ref c, .str o]) nt1
    have et1 : upd H16 t1 (HO.tup [.ref p, .ref c, .str o]) t1 = some (.tup [.ref p, .ref c, .str o]) := upd_same
    generalize upd H16 t1 (HO.tup [.ref p, .ref c, .str o]) = H17 at st1 et1 ⊢
    have b17 := b16.new st1
    have qb17 := (Go.new b16.1 st1).dx qb16
    refine tab_fin (Dx.same same_delH _ _ qb17) (.str tw) (by simp only [shortA]; exact pairs_short gt) (shw tw ww) (fun x hx => (bad gt ln ww hx).elim) fun _ ts' o' e1 e2 gt' ln' p2 H18 s18 np2 ta2 => ?_
    cases e2
    obtain rfl := tsInj e1
    have b18 := b17.new s18
    have g18 := Go.new b17.1 s18
    refine ⟨_, rfl, _, rfl, (by show 3 ≤ sizeLine; decide), fun t2 nt2 => ?_⟩
    have st2 := same_new (o := HO.tup [.ref p2, .ref c, .str tw]) nt2
    have et2 : upd H18 t2 (HO.tup [.ref p2, .ref c, .str tw]) t2 = some (.tup [.ref p2, .ref c, .str tw]) := upd_same
    generalize upd H18 t2 (HO.tup [.ref p2, .ref c, .str tw]) = H19 at st2 et2 ⊢
    have g19 := Go.new b18.1 st2
    have b19 := b18.go g19
    refine ⟨(by show 2 ≤ sizeLine; decide), fun l nl _ => ?_⟩
    have s20 := same_new (o := HO.lst [.ref t1, .ref t2]) nl
    have el : upd H19 l (HO.lst [.ref t1, .ref t2]) l = some (.lst [.ref t1, .ref t2]) := upd_same
    generalize upd H19 l (HO.lst [.ref t1, .ref t2]) = H20 at s20 el ⊢
    have g20 := Go.new b19.1 s20
    have b20 := b19.go g20
    have g17 := Go.new b16.1 st1
    have all := g17.trans (g18.trans (g19.trans g20))
    have sm20 : Same H16 H20 := st1.trans (s18.trans (st2.trans s20))
    refine ⟨m, l, vs, _, rfl, rfl, sm20 _ _ em, el, by rw [lv]; show 3 * i + 2 ≤ sizeLine; exact Nat.le_trans (by omega : 3 * i + 2 ≤ 100) (by decide), fun m2 nm2 => ?_⟩
    have mk21 := MadeAt.add (a := a) (k := 2) (ws := [.ref t1, .ref t2]) b20.1 nm2 lv (fun v hv => (tri v hv).ext (ExtN.of all.sm)) rfl (fun v hv => by
      simp only [List.mem_cons, List.not_mem_nil, or_false] at hv
      rcases hv with rfl | rfl
      · exact tri_at b20.1 ((s18.trans (st2.trans s20)) _ _ et1) (ta16.same all.sm) gt (all.dx qb16)
      · exact tri_at b20.1 (s20 _ _ et2) ((ta2.same (st2.trans s20)).del b20.1) gt (all.dx qb16))
    have s21 := same_new (o := HO.lst (vs ++ [.ref t1, .ref t2])) nm2
    have b21 := b20.new s21
    have qb21 := (all.trans (Go.new b20.1 s21)).dx qb16
    generalize upd H20 m2 (HO.lst (vs ++ [.ref t1, .ref t2])) = H21 at mk21 b21 qb21 ⊢
    clear s21 all sm20 g17 b20 g20 el s20 nl b19 g19 et2 st2 nt2 b18 g18 s18 np2 ta2 st1 et1 nt1 b17 qb17 em tri lv b16 ta16 qb16 ma e1
    -- the table of all pairs but the first
    obtain ⟨ma, vs, em, lv, tri⟩ := mk21
    refine ⟨_, rfl, V4.mky_cut (lo := some 1) (hi := none) b21.1.held (V4.mky_var qb21 rfl) (fun _ _ q => ⟨_, rfl, q⟩) (fun _ _ q => q) H21 (Same.refl H21) _ fun v H22 s22 q22 => ⟨_, rfl, ?_⟩⟩
    rw [cut1] at q22
    have gd := good_drop gt
    have ld : (ts.drop 1).length ≤ 200 := by
      rw [List.length_drop]
      omega
    have b22 := b21.new s22
    have g22 := Go.new b21.1 s22
    refine tab_fin (Dx.same same_delH _ _ q22) (.str o) (by simp only [shortA]; exact pairs_short gd) (shw o wo) (fun x hx => (bad gd ld wo hx).elim) fun _ ts' o' e1 e2 gt' ln' p3 H23 s23 np3 ta3 => ?_
    cases e2
    obtain rfl := tsInj e1
    have b23 := b22.new s23
    have g23 := Go.new b22.1 s23
    have qb23 := (g22.trans g23).dx qb21
    refine V4.mky_cut (lo := some 1) (hi := none) b23.1.held (V4.mky_var qb23 rfl) (fun _ _ q => ⟨_, rfl, q⟩) (fun _ _ q => q) H23 (Same.refl H23) _ fun v2 H24 s24 q24 => ⟨_, rfl, ?_⟩
    rw [cut1] at q24
    have b24 := b23.new s24
    have g24 := Go.new b23.1 s24
    obtain ⟨c2, us2, rfl, _⟩ := Dx.tup_inv q24
    refine ⟨(by show 3 ≤ sizeLine; decide), fun t3 nt3 => ?_⟩
    have st3 := same_new (o := HO.tup [.ref p3, .ref c2, .str o]) nt3
    have et3 : upd H24 t3 (HO.tup [.ref p3, .ref c2, .str o]) t3 = some (.tup [.ref p3, .ref c2, .str o]) := upd_same
    generalize upd H24 t3 (HO.tup [.ref p3, .ref c2, .str o]) = H25 at st3 et3 ⊢
    have b25 := b24.new st3
    have g25 := Go.new b24.1 st3
    refine ⟨(by show 1 ≤ sizeLine; decide), fun l nl _ => ?_⟩
    have s26 := same_new (o := HO.lst [.ref t3]) nl
    have el : upd H25 l (HO.lst [.ref t3]) l = some (.lst [.ref t3]) := upd_same
    generalize upd H25 l (HO.lst [.ref t3]) = H26 at s26 el ⊢
    have b26 := b25.new s26
    have g26 := Go.new b25.1 s26
    have all := g22.trans (g23.trans (g24.trans (g25.trans g26)))
    have sm26 : Same H21 H26 := s22.trans (s23.trans (s24.trans (st3.trans s26)))
    refine ⟨m2, l, vs, _, rfl, rfl, sm26 _ _ em, el, by rw [lv]; show 3 * i + 2 + 1 ≤ sizeLine; exact Nat.le_trans (by omega : 3 * i + 2 + 1 ≤ 100) (by decide), fun m3 nm3 => ?_⟩
    have mk27 := MadeAt.add (a := a) (k := 1) (ws := [.ref t3]) b26.1 nm3 lv (fun v hv => (tri v hv).ext (ExtN.of all.sm)) rfl (fun v hv => by
      simp only [List.mem_cons, List.not_mem_nil, or_false] at hv
      subst hv
      exact tri_at b26.1 (s26 _ _ et3) ((ta3.same (s24.trans (st3.trans s26))).del b26.1) gd ((g25.trans g26).dx q24))
    exact ⟨b26.new (same_new nm3), _, _, _, _, _, _, _, _, _, _, _, _, _, rfl, by rw [show 3 * (i + 1) = 3 * i + 2 + 1 by omega]; exact mk27⟩
  · rintro σ H3 ⟨b, o0, m, o3, o4, o5, o6, o7, o8, o9, o10, o11, o12, o13, rfl, ma, vs, em, lv, tri⟩
    refine ⟨_, rfl, m, rfl, ⟨vs, sq_of em⟩, ?_⟩
    refine for_it (walk_list (K := K) (a := m) (xs := vs)) (fun i σ H' => Same H3 H' ∧ ∃ o11 o12 o13, σ = [o0, some (.ref a), some (.ref m), o3, o4, o5, o6, o7, o8, o9, o10, o11, o12, o13]) ⟨Same.refl H3, _, _, _, rfl⟩ (fun i σ H' _ z => sq_of (z.1 _ _ em)) ?_ ?_
    rotate_left
    · intro σ H' _
      exact hQ H'
    rintro i x σ H4 H5 hi ⟨s4, q11, q12, q13, rfl⟩ ⟨rfl, hx⟩
    obtain ⟨t1, p1, c1, ts1, w1, rfl, k1, k2, k3, k4⟩ := (tri x (List.mem_of_getElem? hx)).ext (ExtN.of (same_delH (a := a)))
    refine ⟨_, rfl, m, rfl, ⟨vs, sq_of (s4 _ _ em)⟩, ?_⟩
    refine for_it (walk_list (K := K) (a := m) (xs := vs)) (fun j σ H' => Same H3 H' ∧ ∃ o12 o13, σ = [o0, some (.ref a), some (.ref m), o3, o4, o5, o6, o7, o8, o9, o10, some (.ref t1), o12, o13]) ⟨s4, _, _, rfl⟩ (fun i σ H' _ z => sq_of (z.1 _ _ em)) ?_ (fun σ H' z => ⟨z.1, _, _, _, z.2.choose_spec.choose_spec⟩)
    rintro j y σ H6 H7 hj ⟨s6, q12, q13, rfl⟩ ⟨rfl, hy⟩
    obtain ⟨t2, p2, c2, ts2, w2, rfl, l1, l2, l3, l4⟩ := (tri y (List.mem_of_getElem? hy)).ext (ExtN.of (same_delH (a := a)))
    refine ⟨fun σ H' => Same H3 H' ∧ σ = [o0, some (.ref a), some (.ref m), o3, o4, o5, o6, o7, o8, o9, o10, some (.ref t1), some (.ref t2), some (.bl (decide (ts1 = ts2) && decide (w1 = w2)))], ?_, ?_⟩
    · have pl : ∀ {H : Hp} {c : Addr} {ts : Tp}, Dx H (.ref c) (.tuple (ts.map mkP)) → Dp K H (.ref c) (.tuple (ts.map mkP)) := fun h => dq_dp _ _ (by simp only [V2.plain]; exact plain_pairs _) (dq_pairs h)
      refine ⟨_, rfl, t1, _, 1, _, rfl, rfl, st_of (s6 _ _ k1), rfl, _, rfl, t2, _, 1, _, rfl, rfl, st_of (s6 _ _ l1), rfl, .tuple (ts1.map mkP), .tuple (ts2.map mkP), pl (Dx.same s6 _ _ k4), pl (Dx.same s6 _ _ l4), pairs_shaped k3, pairs_shaped l3, _, rfl, ?_⟩
      have z : PyData.eqv (.tuple (ts1.map mkP)) (.tuple (ts2.map mkP)) = decide (ts1 = ts2) := by
        simp only [PyData.eqv]
        exact eqv_pairs ts1 ts2
      rw [z]
      have e : decide (V.str w1 = V.str w2) = decide (w1 = w2) := decide_eq_decide.mpr ⟨fun h => V.str.inj h, fun h => congrArg V.str h⟩
      by_cases hc : ts1 = ts2
      · rw [decide_eq_true hc, Bool.true_and]
        refine iteT ⟨_, rfl, t1, _, 2, _, rfl, rfl, st_of (s6 _ _ k1), rfl, _, rfl, t2, _, 2, _, rfl, rfl, st_of (s6 _ _ l1), rfl, rfl, ?_⟩
        rw [e]
        exact ⟨s6, rfl⟩
      · rw [decide_eq_false hc, Bool.false_and]
        exact iteF ⟨s6, rfl⟩
    · rintro σ H8 ⟨s8, rfl⟩
      have ta1 := k2.same s8
      have ta2 := l2.same s8
      obtain ⟨dx1, _, _, _, _, hp1, _⟩ := ta1.ex
      obtain ⟨dx2, _, _, _, _, hp2, _⟩ := ta2.ex
      refine ⟨_, rfl, t1, _, 0, _, rfl, rfl, st_of (s8 _ _ k1), rfl, _, rfl, t2, _, 0, _, rfl, rfl, st_of (s8 _ _ l1), rfl, p1, dx1, _, .ref (He.ga K "Table"), rfl, hp1, TyX_ins hp2 iT, nf_own, p1, ts1, w1, _, rfl, ta1, k3, .inr (.inr ⟨p2, ts2, w2, rfl, ta2, l3, _, rfl, ?_⟩)⟩
      refine ⟨_, rfl, t1, _, 0, _, rfl, rfl, st_of (s8 _ _ k1), rfl, _, rfl, t2, _, 0, _, rfl, rfl, st_of (s8 _ _ l1), rfl, p1, dx1, _, .ref (He.ga K "Table"), rfl, hp1, TyX_ins hp2 iT, nf_own, p1, ts1, w1, _, rfl, ta1, k3, .inr (.inr ⟨p2, ts2, w2, rfl, ta2, l3, _, rfl, ?_⟩)⟩
      generalize (decide (ts1 = ts2) && decide (w1 = w2)) = due
      refine ⟨(by show 2 ≤ sizeLine; decide), fun u1 nu1 => ⟨_, rfl, _, rfl, _, rfl, (by show 2 ≤ sizeLine; decide), fun u2 nu2 => ?_⟩⟩
      have s9 := same_new (o := HO.tup [.bl due, .bl !due]) nu1
      have e9 : upd H8 u1 (HO.tup [.bl due, .bl !due]) u1 = some (.tup [.bl due, .bl !due]) := upd_same
      generalize upd H8 u1 (HO.tup [.bl due, .bl !due]) = H9 at s9 e9 nu2 ⊢
      have s10 := same_new (o := HO.tup [.bl due, .bl !due]) nu2
      exact ⟨_, _, .tuple [.bool due, .bool !due], rfl, .tup (s10 _ _ e9) (.cons (.bl _) (.cons (.bl _) .nil)), .tup upd_same (.cons (.bl _) (.cons (.bl _) .nil)), rfl, fun H11 s11 => ⟨true, rfl, iteF ⟨s8.trans (s9.trans (s10.trans s11)), _, _, rfl⟩⟩⟩
end
end K01

set_option maxHeartbeats 0
open PySem PySem.W PySem.Calls PyProof.Rows
theorem PySem.Challenge.cw_turnedtalk_k01_tables_holds : PySem.Challenge.rw_turnedtalk_k01_tables.Holds := by
  w_on; o_law
  refine HandSHeadRun.head_any (r := OpenLaw.row PySem.Challenge.rw_turnedtalk_k01_tables) (q := view (OpenLaw.row PySem.Challenge.rw_turnedtalk_k01_tables).prog [55]) (H := K01.hk) (ob := K01.ob) (M := 60000) (loose := K01.names)
    (d := HandSHeadRun.topDef (OpenLaw.row PySem.Challenge.rw_turnedtalk_k01_tables).prog 55) (kwd := []) K01.ob_eq
    (by kernel_rfl) (fun s => by kernel_rfl) K01.run (by kernel_rfl) (by kernel_rfl) (by kernel_rfl) (by rfl) (by first | assumption | decide +kernel) (by decide +kernel) ⟨rfl, rfl, rfl, rfl, rfl, by decide +kernel⟩ ?hw ?hc
  case hw => w_witness2
  case hc =>
    refine V4.walk_lawT (l := PySem.Challenge.rw_turnedtalk_k01_tables) (n := 63) (x := "script") rfl (by decide) (by kernel_rfl) ?F
    intro w mg fa h Y G hmg0
    obtain ⟨K, KX, c, ex, tabs⟩ := Y
    have hmg : mg ("law" : PySem.Str) = some (.ref fa) := by
      have e : (HandSHeadRun.topDef (OpenLaw.row PySem.Challenge.rw_turnedtalk_k01_tables).prog 55).name = ("law" : PySem.Str) := by kernel_rfl
      rw [← e]
      exact hmg0
    have T : K01.Tx K mg := ⟨c, K01.exB_1 ex, fun x hx => K01.ne_at ex hx, fun x hx => K01.lam_at ex hx, K01.tabs_nd ex, h, KX, G⟩
    cases hmg.symm.trans (T.glo 49 rfl)
    letI : V3.CurK := ⟨K⟩
    obtain ⟨fd, ok, bind⟩ := K01.ok_law (P := (PySem.Challenge.rw_turnedtalk_k01_tables).prog) (w := w) T
    refine ⟨K, fd, K01.spLaw K, K01.lamN.map fun x => V4.pairOf K (He.ga K x), KX, fun p hp => ?_, fun p hp => ?_, fun p hp => ?_, bind, fun H a ns hl ht hS => ⟨a, ns, rfl, hS, hl, fun p hp => ?_, fun _ => rfl⟩, fun base _ _ hb => ok base fun x hx => hb _ (List.mem_map.mpr ⟨x, hx, rfl⟩)⟩
    · obtain ⟨x, hx, rfl⟩ := List.mem_map.mp hp
      exact tabs x hx
    · obtain ⟨x, hx, rfl⟩ := List.mem_map.mp hp
      exact (T.lam x hx).off
    · obtain ⟨x, hx, rfl⟩ := List.mem_map.mp hp
      exact (T.lam x hx).hd _ KX
    · obtain ⟨x, hx, rfl⟩ := List.mem_map.mp hp
      exact LamX.TabS.nil (ht _ (List.mem_map.mpr ⟨x, hx, rfl⟩))

