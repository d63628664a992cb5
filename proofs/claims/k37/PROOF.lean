import PyProof.Rows.All
import Wide.All
import OpenK.AllK
import Wide.FinOn
import KE.KStateDown
import HandS.ForMost
import HandS.Exc
import HandS.ExcInit
import HandS.ExcField
import HandS.ExcIs
import HandS.ExcValue
import HandS.IsInst
import HandS.Defaults
import HandS.TryMany
import HandS.Wide
import PyProof.ReprRoads
import KE.KExcIs
import HandS.HeadEnd
import HandS.HeadHook1
import HandS.HeadHook2
import HandS.Evl
import HandS.ExcOwn
import HandS.WordsExc
import KE.GoesEnum
import HandS.Walk
import HandS.Deep
import HandS.OwnEq
import HandS.Codes
import HandS.Small
import PyProof.AutoSeq1
import HandS.TupLe
import HandS.Lambda
import HandS.EndTab
import HandS.Head2
import HandS.SetFor
import PyProof.StrBlock2
import HandS.Style
import HandS.TupMul
import HandS.TupAny
import HandS.Dict
import HandS.More
import HandS.Head0
import HandS.Head1
import HandS.StrMore
import HandS.Text
import HandS.Zip
import HandS.Conv
import PySem.Challenge.RW_turnedtalk_k37_known_kinds_refused
set_option Elab.async false
set_option linter.all false
set_option maxRecDepth 100000
set_option maxHeartbeats 4000000
/-! V1: data with dicts, repr -/
namespace V1
open PySem PySem.Spec PyProof.Rows L2
def keyD : Key → PyData
  | .inl i => .int i
  | .inr x => .str x
mutual
/-- a value of the abstract heap is this data: scalars, tracked lists, tuples, dicts -/
inductive Dq (H : Hp) : V → PyData → Prop
  | non : Dq H .non .none
  | bl (b : Bool) : Dq H (.bl b) (.bool b)
  | int (i : Int) : Dq H (.int i) (.int i)
  | str (x : Str) : Dq H (.str x) (.str x)
  | lst {a : Addr} {xs : List V} {ds : List PyData} (at_ : H a = some (.lst xs)) (low : (a == sysModules) = false) (rest : DqAll H xs ds) : Dq H (.ref a) (.list ds)
  | tup {a : Addr} {xs : List V} {ds : List PyData} (at_ : H a = some (.tup xs)) (rest : DqAll H xs ds) : Dq H (.ref a) (.tuple ds)
  | dct {a : Addr} {kvs : List (Key × V)} {ds : List (PyData × PyData)} (at_ : H a = some (.dK kvs)) (rest : DqKv H kvs ds) : Dq H (.ref a) (.dict ds)
inductive DqAll (H : Hp) : List V → List PyData → Prop
  | nil : DqAll H [] []
  | cons {v : V} {vs : List V} {d : PyData} {ds : List PyData} (one : Dq H v d) (more : DqAll H vs ds) : DqAll H (v :: vs) (d :: ds)
inductive DqKv (H : Hp) : List (Key × V) → List (PyData × PyData) → Prop
  | nil : DqKv H [] []
  | cons {k : Key} {v : V} {kvs : List (Key × V)} {d : PyData} {ds : List (PyData × PyData)} (one : Dq H v d) (more : DqKv H kvs ds) : DqKv H ((k, v) :: kvs) ((keyD k, d) :: ds)
end
section
variable {H H' : Hp}
mutual
theorem Dq.same (e : Same H H') : ∀ (d : PyData) (v : V), Dq H v d → Dq H' v d
  | .none, _, h => by cases h; exact .non
  | .bool b, _, h => by cases h; exact .bl b
  | .int i, _, h => by cases h; exact .int i
  | .str x, _, h => by cases h; exact .str x
  | .list ds, _, h => by
    cases h with
    | lst at_ low rest => exact .lst (e _ _ at_) low (DqAll.same e ds _ rest)
  | .tuple ds, _, h => by
    cases h with
    | tup at_ rest => exact .tup (e _ _ at_) (DqAll.same e ds _ rest)
  | .dict ds, _, h => by
    cases h with
    | dct at_ rest => exact .dct (e _ _ at_) (DqKv.same e ds _ rest)
theorem DqAll.same (e : Same H H') : ∀ (ds : List PyData) (vs : List V), DqAll H vs ds → DqAll H' vs ds
  | [], _, h => by cases h; exact .nil
  | d :: ds, _, h => by
    cases h with
    | cons one more => exact .cons (Dq.same e d _ one) (DqAll.same e ds _ more)
theorem DqKv.same (e : Same H H') : ∀ (ds : List (PyData × PyData)) (kvs : List (Key × V)), DqKv H kvs ds → DqKv H' kvs ds
  | [], _, h => by cases h; exact .nil
  | (k, d) :: ds, _, h => by
    cases h with
    | cons one more => exact .cons (Dq.same e d _ one) (DqKv.same e ds _ more)
end
end
section
variable {X : Cx} {pins : List (Addr × Obj)} {σ : L2.St} {H : Hp} {s : Shared}
theorem key_reads {h : Heap} {k : Key} {u : Value} (e : keyIs k u = true) : Reads h u (keyD k) [] := by
  rcases keyIs_shape e with ⟨i, t, rfl, rfl⟩ | ⟨x, t, rfl, rfl⟩
  · exact .int i t
  · exact .str x t
theorem keys_read {P : Program} {w : World} {h : Heap} {H : Hp} : ∀ {es : List DictEntry} {us : List (Key × Value)} {kvs : List (Key × V)} {ds : List (PyData × PyData)}, Pairs (mixKind P w) es us → KV kvs us → DqKv H kvs ds →
    ReadsAll h (es.map (·.key)) (ds.map (·.1)) []
  | _, _, _, _, .nil, r, q => by
    cases r
    cases q
    exact .nil
  | _, _, _, _, .cons he hv more, r, q => by
    cases r with
    | cons r1 r2 =>
      cases q with
      | cons one more' =>
        have z := r1.1
        dsimp only at z
        have h1 := key_reads (h := h) he
        rw [← z] at h1
        exact .cons h1 (keys_read more r2 more')
mutual
theorem Dq.reads (I : Inv X pins σ H s) : ∀ (d : PyData) (v : V) (u : Value), Dq H v d → RelV v u → ∃ as, Reads s.heap u d as ∧ sysModules ∉ as
  | .none, _, _, h, r => by
    cases h
    cases r
    exact ⟨_, .none, List.not_mem_nil⟩
  | .bool b, _, _, h, r => by
    cases h
    cases r
    exact ⟨_, .bool b, List.not_mem_nil⟩
  | .int i, _, _, h, r => by
    cases h
    obtain ⟨t, rfl⟩ := r
    exact ⟨_, .int i t, List.not_mem_nil⟩
  | .str x, _, _, h, r => by
    cases h
    obtain ⟨t, rfl⟩ := r
    exact ⟨_, .str x t, List.not_mem_nil⟩
  | .list ds, _, _, h, r => by
    cases h with
    | lst at_ low rest =>
      cases r
      obtain ⟨_, its, n, rv, ho⟩ := I.hok _ _ at_
      obtain ⟨as, hr, hno⟩ := DqAll.reads I ds _ its rest rv
      refine ⟨_, Reads.list (vs := its.toArray) ho rfl rfl hr, fun hm => ?_⟩
      rcases List.mem_cons.mp hm with e | hm
      · rw [← e] at low
        exact absurd low (by decide)
      · exact hno hm
  | .tuple ds, _, _, h, r => by
    cases h with
    | tup at_ rest =>
      cases r
      obtain ⟨_, its, rv, o, ho, hc, n, hd⟩ := I.hok _ _ at_
      obtain ⟨as, hr, hno⟩ := DqAll.reads I ds _ its rest rv
      exact ⟨_, Reads.tuple ho hc hd hr, hno⟩
  | .dict ds, _, _, h, r => by
    cases h with
    | dct at_ rest =>
      cases r
      obtain ⟨_, low, us, rkv, o, es, ep, ho, hx, hd, _, hp, _⟩ := I.hok _ _ at_
      obtain ⟨as, hr, hno⟩ := DqKv.reads I ds _ us es.toList rest rkv hp
      have hk := keys_read (h := s.heap) hp rkv rest
      refine ⟨_, Reads.dict ho hx.1 hd hk hr, fun hm => ?_⟩
      rcases List.mem_cons.mp hm with e | hm
      · rw [← e] at low
        exact absurd low (by decide)
      · exact hno (by simpa using hm)
theorem DqAll.reads (I : Inv X pins σ H s) : ∀ (ds : List PyData) (vs : List V) (us : List Value), DqAll H vs ds → Vals vs us → ∃ as, ReadsAll s.heap us ds as ∧ sysModules ∉ as
  | [], _, _, h, r => by
    cases h
    cases r
    exact ⟨_, .nil, List.not_mem_nil⟩
  | d :: ds, _, _, h, r => by
    cases h with
    | cons one more =>
      cases r with
      | cons r1 r2 =>
        obtain ⟨as, q1, n1⟩ := Dq.reads I d _ _ one r1
        obtain ⟨bs, q2, n2⟩ := DqAll.reads I ds _ _ more r2
        refine ⟨_, .cons q1 q2, fun hm => ?_⟩
        rcases List.mem_append.mp hm with z | z
        · exact n1 z
        · exact n2 z
theorem DqKv.reads (I : Inv X pins σ H s) : ∀ (ds : List (PyData × PyData)) (kvs : List (Key × V)) (us : List (Key × Value)) (es : List DictEntry), DqKv H kvs ds → KV kvs us → Pairs (mixKind X.prog X.w) es us →
    ∃ as, ReadsAll s.heap (es.map (·.val)) (ds.map (·.2)) as ∧ sysModules ∉ as
  | [], _, _, _, h, r, p => by
    cases h
    cases r
    cases p
    exact ⟨_, .nil, List.not_mem_nil⟩
  | (k, d) :: ds, _, _, _, h, r, p => by
    cases h with
    | cons one more =>
      cases r with
      | cons r1 r2 =>
        cases p with
        | cons he hv hp =>
          have r3 := r1.2
          dsimp only at r3
          rw [← hv] at r3
          obtain ⟨as, q1, n1⟩ := Dq.reads I d _ _ one r3
          obtain ⟨bs, q2, n2⟩ := DqKv.reads I ds _ _ _ more r2 hp
          refine ⟨_, .cons q1 q2, fun hm => ?_⟩
          rcases List.mem_append.mp hm with z | z
          · exact n1 z
          · exact n2 z
end
end
/-! ### repr(x), x data; nothing is being shown meanwhile (gd) -/
section
variable {X : Cx}
theorem call_repr (gd : X.A.guards = some []) (hu : X.A.units + 64 < cLine) :
    CallR X (.builtin "repr") (fun xs H Q => ∃ (v : V) (d : PyData), xs = [v] ∧ Dq H v d ∧ d.showable = true ∧ d.depth ≤ 60 ∧ d.shown.length ≤ sizeLine ∧ Q (.str d.shown) H) := by
  intro pins s σ H xs us Q I r h
  obtain ⟨v, d, rfl, hd, hs, hn, hz, q⟩ := h
  cases r with
  | @cons _ u _ _ ru rn =>
    cases rn
    obtain ⟨as, hr, hno⟩ := Dq.reads I d v u hd ru
    have fin : ∀ h' (t : Tok) tk, (∀ b o, s.heap.get? b = some o → h'.get? b = some o) → EP X pins σ Q (.str d.shown t) { s with heap := h', toks := tk } :=
      fun h' t tk k => ⟨.str d.shown, H, I.kept k, ⟨_, rfl⟩, q⟩
    cases hr with
    | none => exact PySem.P.repr_of_none (fin s.heap _ _ fun _ _ z => z)
    | bool b => exact PySem.P.repr_of_bool (fin s.heap _ _ fun _ _ z => z)
    | int i t => exact PySem.P.repr_of_int (of_decide_eq_true (by simpa [PyData.showable] using hs)) (fin s.heap _ _ fun _ _ z => z)
    | str x t => exact PySem.P.repr_of_str (fin s.heap _ _ fun _ _ z => z) (by simpa [PyData.shown] using hz)
    | list h1 h2 h3 h4 => exact repr_of_reads' (.list h1 h2 h3 h4) hs (fun _ => hno) gd (by omega) (fun _ _ z => z) fin hz
    | tuple h1 h2 h3 h4 => exact repr_of_reads' (.tuple h1 h2 h3 h4) hs (fun _ => hno) gd (by omega) (fun _ _ z => z) fin hz
    | dict h1 h2 h3 h4 h5 => exact repr_of_reads' (.dict h1 h2 h3 h4 h5) hs (fun _ => hno) gd (by omega) (fun _ _ z => z) fin hz
end
end V1

set_option maxHeartbeats 4000000
/-! V1: exceptions as values: made, asked for their class, their field read -/
namespace V1
open PySem PySem.Spec PyProof.Rows L2
def veB : List Value := [.type "ValueError", .type "Exception", .type "BaseException", .type "object"]
/-- the object at C is an exception class over ValueError's maker, its further bases bm -/
def clsB (K : PySem.W.Frag) (C : Addr) (bm : List Value) : Bool := match K.lookup C with
  | some ⟨.type "type", _, .cls cd, sl⟩ => (match sl.toList with
    | [_, _, _, _, some (.builtin n), _] => decide (cd.mro = .ref C :: bm) && (n == "ValueError.__new__" && (cd.hasDict && (!cd.hasDel)))
    | _ => false)
  | _ => false
def oexB (K : PySem.W.Frag) (C : Addr) (bm : List Value) : Bool :=
  clsB K C bm && (decide (PySem.W.findIn K (.ref C) "__setattr__" = some (some (.builtin "object.__setattr__"))) &&
    (decide (PySem.W.findIn K (.ref C) "__getattribute__" = some (some (.builtin "BaseException.__getattribute__"))) &&
      (decide (PySem.W.findIn K (.ref C) "__getattr__" = some none) && (decide (PySem.W.findIn K (.ref C) "__class__" = some (some (.builtin "object.__class__"))) && PySem.W.keepIn K (.ref C)))))
/-- what isinstance asks of object.__class__ -/
def clsAttrB (K : PySem.W.Frag) : Bool := decide (PySem.W.specialIn K (.builtin "object.__class__") "__get__" = some (some (.builtin "getset_descriptor.__get__"))) && decide (PySem.W.takesIn K (.builtin "object.__class__") = some true)
structure ExK (K : PySem.W.Frag) (C : Addr) (bm : List Value) : Prop where
  cls : ∃ nm q N bs sn sub ab col dd k0 k1 k2 k3 k5, K.lookup C = some (excClassObj nm q C N bs bm true sn sub ab col dd k0 k1 k2 k3 k5 "ValueError.__new__")
  sa : PySem.W.findIn K (.ref C) "__setattr__" = some (some (.builtin "object.__setattr__"))
  ga : PySem.W.findIn K (.ref C) "__getattribute__" = some (some (.builtin "BaseException.__getattribute__"))
  gg : PySem.W.findIn K (.ref C) "__getattr__" = some none
  cl : PySem.W.findIn K (.ref C) "__class__" = some (some (.builtin "object.__class__"))
  kp : PySem.W.keepIn K (.ref C) = true
structure ClsAttr (K : PySem.W.Frag) : Prop where
  gs : PySem.W.specialIn K (.builtin "object.__class__") "__get__" = some (some (.builtin "getset_descriptor.__get__"))
  tk : PySem.W.takesIn K (.builtin "object.__class__") = some true
theorem clsAttr_of {K : PySem.W.Frag} (h : clsAttrB K = true) : ClsAttr K := ⟨of_decide_eq_true (Bool.and_eq_true_iff.mp h).1, of_decide_eq_true (Bool.and_eq_true_iff.mp h).2⟩
theorem exK_of {K : PySem.W.Frag} {C : Addr} {bm : List Value} (h : oexB K C bm = true) : ExK K C bm := by
  unfold oexB at h
  simp only [Bool.and_eq_true, decide_eq_true_eq] at h
  obtain ⟨h1, h2, h3, h4, h5, h6⟩ := h
  refine ⟨?_, h2, h3, h4, h5, h6⟩
  unfold clsB at h1
  split at h1
  · rename_i dd cd sl lk
    split at h1
    · rename_i k0 k1 k2 k3 n k5 hs
      simp only [Bool.and_eq_true, decide_eq_true_eq, beq_iff_eq, Bool.not_eq_true'] at h1
      obtain ⟨g1, g2, g3, g4⟩ := h1
      obtain ⟨nm, bs, mro, ns, qn, hd, sn, sb, ab, col, del⟩ := cd
      dsimp only at g1 g3 g4
      subst g1 g2 g3 g4
      obtain ⟨sl⟩ := sl
      dsimp only at hs
      subst hs
      exact ⟨nm, qn, ns, bs, sn, sb, ab, col, dd, k0, k1, k2, k3, k5, lk⟩
    · cases h1
  · cases h1
section
variable {K : PySem.W.Frag} {C D : Addr} {bm : List Value}
theorem ExK.clsIn (T : ExK K C bm) : ∃ cd, PySem.W.clsIn K C = some cd ∧ cd.mro = .ref C :: bm ∧ cd.hasDict = true := by
  obtain ⟨nm, q, N, bs, sn, sub, ab, col, dd, k0, k1, k2, k3, k5, e⟩ := T.cls
  unfold PySem.W.clsIn
  rw [e]
  exact ⟨_, rfl, rfl, rfl⟩
theorem ExK.isCls (T : ExK K C bm) : (PySem.W.clsIn K C).isSome = true := by
  obtain ⟨cd, e, _⟩ := T.clsIn
  rw [e] <;> rfl
theorem ExK.hasDict (T : ExK K C bm) : PySem.W.hasDictIn K C = true := by
  obtain ⟨cd, e, _, h⟩ := T.clsIn
  unfold PySem.W.hasDictIn
  rw [e]
  simpa using h
theorem ExK.ty (T : ExK K C bm) : PySem.W.typeIn K (.ref C) = some (.type "type") := by
  obtain ⟨nm, q, N, bs, sn, sub, ab, col, dd, k0, k1, k2, k3, k5, e⟩ := T.cls
  show (K.lookup C).map (·.cls) = _
  rw [e] <;> rfl
theorem ExK.mro (T : ExK K C bm) (v : Value) : PySem.W.mroIn K C v = some ((Value.ref C :: bm).contains v) := by
  obtain ⟨cd, e, h, _⟩ := T.clsIn
  unfold PySem.W.mroIn
  rw [e, Option.bind_some, h] <;> rfl
theorem ExK.sub (T : ExK K C bm) (v : Value) : PySem.W.subIn K (.ref C) v = some ((Value.ref C :: bm).contains v) := T.mro v
/-- isinstance of the class's objects -/
theorem ExK.kit (T : ExK K C bm) (T' : ExK K D bm') : PySem.W.kitOne K (.ref C) (.ref D) = some (decide (C = D) || bm.contains (.ref D)) := by
  unfold PySem.W.kitOne
  by_cases e : C = D
  · subst e
    rw [if_pos (by simp)]
    simp
  · have ne : ¬ ((Value.ref C == Value.ref D) = true) := by simpa using e
    rw [if_neg ne]
    show (if ((PySem.W.clsIn K D).isSome && PySem.W.typeIn K (.ref D) == some (.type "type")) = true then PySem.W.subIn K (.ref C) (.ref D) else none) = _
    rw [T'.isCls, T'.ty, if_pos (by simp), T.sub, List.contains_cons]
    have e2 : ¬ D = C := fun z => e z.symm
    simp [e, e2]
theorem ExK.kitT (T : ExK K C bm) {n : String} (hm : PySem.W.kitMeta n = true) : PySem.W.kitOne K (.ref C) (.type n) = some (bm.contains (.type n)) := by
  unfold PySem.W.kitOne
  rw [if_neg (show ¬ ((Value.ref C == Value.type n) = true) from by simp)]
  show (if PySem.W.kitMeta n = true then PySem.W.subIn K (.ref C) (.type n) else none) = _
  rw [if_pos hm, T.sub, List.contains_cons]
  simp
/-- an except clause's class -/
theorem ExK.exm (T : ExK K C bm) (T' : ExK K D bm') (hb : (Value.ref D :: bm').contains (.type "BaseException") = true) : PySem.W.exmOne K (.ref C) (.ref D) = some (decide (C = D) || bm.contains (.ref D)) := by
  have h1 : PySem.W.subIn K (.ref D) (.type "BaseException") = some true := by rw [T'.sub, hb]
  have h2 : PySem.W.subIn K (.ref C) (.ref D) = some (decide (C = D) || bm.contains (.ref D)) := by
    rw [T.sub, List.contains_cons]
    by_cases e : C = D
    · subst e; simp
    · have e2 : ¬ D = C := fun z => e z.symm
      simp [e, e2]
  exact PySem.W.exm_ref h1 T'.hasDict T'.ty h2
theorem ExK.oex (T : ExK K C bm) (hr : PySem.HandSPX.refsVE bm = true) (hb : (Value.ref C :: bm).contains (.type "BaseException") = true) : OexC K C := by
  obtain ⟨nm, q, N, bs, sn, sub, ab, col, dd, k0, k1, k2, k3, k5, e⟩ := T.cls
  exact ⟨⟨nm, q, N, bs, bm, sn, sub, ab, col, dd, k0, k1, k2, k3, k5, e, hr⟩, T.sa, by rw [T.sub, hb], T.ty, T.kp⟩
end
/-- at a stands an exception of the class at C; its own fields fs, if it has a dict of them -/
def IsEx (H : Hp) (a C : Addr) : Option (List (Str × V)) → Prop
  | none => H a = some (ExO (.ref C) a)
  | some fs => ∃ dx, H a = some (exo a C (some dx)) ∧ H dx = some (exd dx fs)
theorem IsEx.same {H H' : Hp} {a C : Addr} {o : Option (List (Str × V))} (e : Same H H') (h : IsEx H a C o) : IsEx H' a C o := by
  cases o with
  | none => exact e _ _ h
  | some fs =>
    obtain ⟨dx, h1, h2⟩ := h
    exact ⟨dx, e _ _ h1, e _ _ h2⟩
section
variable {X : Cx} {pins : List (Addr × Obj)} {σ : L2.St} {H : Hp} {s : Shared} {a C : Addr} {o : Option (List (Str × V))}
theorem IsEx.inst (I : Inv X pins σ H s) (h : IsEx H a C o) : ∃ oe od, PySem.W.InstAt s.heap a oe C od ∧ ∀ fs, o = some fs → ∃ (od' : Obj) (mA : Str → Option Value), od = some od' ∧ (∀ n, PySem.W.lookIn n od' = some (mA n)) ∧ ∀ f, RelO (fs.lookup f) (mA f) := by
  cases o with
  | none =>
    obtain ⟨⟨oe, vs, he, hz, hd, _⟩, _, _⟩ := I.hok a _ h
    refine ⟨oe, none, ⟨he, hz.1, by unfold PySem.W.notCls; rw [hd] <;> rfl, by rw [hz.2]; exact True.intro⟩, fun fs z => nomatch z⟩
  | some fs =>
    obtain ⟨dx, h1, h2⟩ := h
    obtain ⟨t1, he⟩ := exo_at I.hok h1
    obtain ⟨mA, hns, rel⟩ := exd_at I.hok h2
    obtain ⟨od, ho, hl⟩ := lookIn_ns hns
    refine ⟨_, some od, ⟨he, rfl, rfl, ho⟩, fun fs' z => ?_⟩
    cases z
    exact ⟨od, mA, rfl, fun n => hl n, rel⟩
end
/-! ### isinstance(e, c) -/
def rIsiX (K : PySem.W.Frag) : List V → Hp → VK → Prop := fun xs H Q => ∃ (a C : Addr) (o : Option (List (Str × V))) (bm : List Value) (c : V) (u : Value) (b : Bool), xs = [.ref a, c] ∧ IsEx H a C o ∧ ExK K C bm ∧ ClsAttr K ∧
  (Value.ref C :: bm).contains (.type "BaseException") = true ∧ (Value.ref C :: bm).contains (.type "object") = true ∧ ClsV c u ∧ PySem.W.kitOne K (.ref C) u = some b ∧ Q (.bl b) H
theorem call_isiX {X : Cx} : CallR X (.builtin "isinstance") (rIsiX X.K) := by
  intro pins s σ H xs us Q I r h
  obtain ⟨a, C, o, bm, c, u, b, rfl, hx, T, cA, hB, hO, k, e, q⟩ := h
  obtain ⟨w1, w2, rfl, r1, r2⟩ := vals2 r
  obtain rfl : w1 = Value.ref a := r1
  have e2 := k.eq r2
  subst e2
  obtain ⟨oe, od, J, _⟩ := hx.inst I
  exact PySem.W.kia_one (PySem.W.kitx_exc T.isCls T.ga T.gg (by rw [T.sub, hB]) T.cl cA.gs cA.tk (by rw [T.mro, hO])) I.kIn J e (fun z => nomatch z) fun tk => ⟨.bl b, H, I.tok tk, rfl, q⟩
/-! ### e.f of such -/
def tEf (K : PySem.W.Frag) (f : Str) (te : TE) : TE := fun σ H Q => te σ H fun x H1 => ∃ (a C : Addr) (fs : List (Str × V)) (bm : List Value) (v : V), x = .ref a ∧ IsEx H1 a C (some fs) ∧ ExK K C bm ∧ (Value.ref C :: bm).contains (.type "BaseException") = true ∧
  PySem.W.findIn K (.ref C) f = some none ∧ fs.lookup f = some v ∧ Q v H1
theorem pe_ef {X : Cx} {e : Expr} {te : TE} {pos : Pos} {n : Str} (he : PE X e te) (hb : attributeBase e n X.env (eval e X.env) = eval e X.env := by rfl) : PE X (.Attribute e n pos) (tEf X.K n te) := by
  refine ⟨fun pins s σ H Q I h => ?_⟩
  refine attr_of hb (thn (he.run pins s σ H _ I h) fun u s1 hh => ?_)
  obtain ⟨x, H1, J1, rx, a, C, fs, bm, v, rfl, hx, T, hB, hno, hl, q⟩ := hh
  obtain rfl : u = Value.ref a := rx
  obtain ⟨oe, od, J, hf⟩ := hx.inst J1
  obtain ⟨od', mA, rfl, look, rel⟩ := hf fs rfl
  obtain ⟨u, hu, ru⟩ := RelO.some_of (v := v) (o := mA n) (by rw [← hl]; exact rel n)
  exact HandSPX.exc_get J1.kIn J T.ga T.gg (by rw [T.sub, hB]) (PySem.W.findObj_own T.hasDict hno rfl (by rw [look, hu])) (handed_of ru) ⟨v, H1, J1.tok _, ru, q⟩
/-! ### C(e, ..) with an own __init__, kept as a value -/
def tMkV (C : Addr) (sp : Sp) (dvs : List V) (ta : TA) : TE := fun σ H Q => ta σ H fun vs H1 => vs.length ≤ 1000 ∧ ∀ a, H1 a = none → sp (.ref a :: (vs ++ dvs)) (upd H1 a (exo a C none)) (fun v H2 => v = .non ∧ Q (.ref a) H2) (fun _ _ _ => False)
theorem pe_mkV {X : Cx} {CX : CXT} {x : Str} {C fI : Addr} {k : Nat} {fd : FuncData} {ps : List Str} {sp : Sp} {ds : List Value} {dvs : List V} {e : Expr} {es : List Expr} {ta : TA} {p pos : Pos} (T : OexC X.K C)
    (iC : PySem.W.findIn X.K (.ref C) "__init__" = some (some (.ref fI))) (tI : PySem.W.typeIn X.K (.ref fI) = some (.type "function"))
    (F1 : FnOk X.prog X.w X.K X.mg X.base CX k fI fd ps sp) (hr : Room (k + 1) X.A) (hb : Binds X.K fd ps ds) (hd : Vals dvs ds) (hx : Passes CX X (fun _ _ _ => False)) (hg : Gl X x) (hm : X.mg x = some (.ref C)) (ha : PA X (e :: es) ta)
    (hdb : (x == ("__debug__" : Str)) = false := by decide) (he : starEach (e :: es) X.env = (false, eval e X.env) :: starEach es X.env := by rfl) (hpl : (backTo pos (starEach es X.env)).any (·.1) = false := by rfl) :
    PE X (.Call (.Name x p) (e :: es) [] pos) (tMkV C sp dvs ta) := by
  refine ⟨fun pins s σ H Q I h => ?_⟩
  obtain ⟨nm, q, N, bs, bm, sn, sub, ab, col, dd, k0, k1, k2, k3, k5, hC, hbm⟩ := T.cls
  refine wpAny_Call_Name_kw (ld_glob I hg hm ?_ hdb)
  refine PySem.W.callWith_K (h₀ := X.base) I.ok.mod.kin T.kC (thn (ha.run pos pins s σ H _ I h) fun us st hh => ⟨hh.choose_spec.choose_spec.1.kIn, ?_⟩) he hpl
  obtain ⟨vs, H1, J, rv, hz, qq⟩ := hh
  show wpAny _ _ (call (.ref C) us) _ _ _
  obtain ⟨hp, g, dr, tk, os⟩ := st
  let n := hp.objs.size
  have nn : H1 (n + 1) = none := J.hok.fresh (Nat.le_succ n)
  have go := qq (n + 1) nn
  let hp2 := (hp.push (PySem.W.kdv_tup us)).push (PySem.HandSPX.excO C n)
  have kk : ∀ b ob, hp.get? b = some ob → hp2.get? b = some ob := fun b ob z => Heap.get?_push_of_some _ (Heap.get?_push_of_some _ z)
  have top : hp2.get? (n + 1) = some (PySem.HandSPX.excO C n) := by
    show ((hp.push (PySem.W.kdv_tup us)).push (PySem.HandSPX.excO C hp.objs.size)).get? (hp.objs.size + 1) = _
    heap_get
  have J2 : Inv X pins σ (upd H1 (n + 1) (exo (n + 1) C none)) ⟨hp2, g, dr, tk, os⟩ := J.laid (t' := tk) (a := n + 1) (h' := hp2) kk (Nat.le_succ n) (exo_ok top)
  have rr : Vals (V.ref (n + 1) :: (vs ++ dvs)) (Value.ref (n + 1) :: (us ++ ds)) := .cons rfl (rv.append hd)
  have len : (Value.ref (n + 1) :: us ++ ds).length = ps.length := (rr.length.symm.trans (F1.len _ _ _ _ go))
  have short : us.length ≤ sizeLine := by
    have z := Paired.length rv
    rw [sizeLine_eq]
    omega
  refine wpAny_call (PySem.HandSPX.call_own F.excBase_ValueError (fun Y => PySem.HandSPX.refsVE_contains Y bm hbm) (J.kIn _ _ hC) (PySem.W.looks_findIn J.kIn iC) (fun self => PySem.W.bind_fn J.kIn self tI) short
    (codeAny_mono (F1.run _ X.stack _ _ ⟨Value.ref (n + 1) :: us, []⟩ (Value.ref (n + 1) :: (us ++ ds)) _ _ (fun _ _ _ => False) (hr.make C us []) (J2.env0.make C us []) (hb _ (Value.ref (n + 1) :: us) J2.kIn len) rr go) fun r s' hq => ?_))
  cases r with
  | error er => exact hx pins σ _ _ er s' J2 hq
  | ok fl =>
    cases fl with
    | ret u =>
      obtain ⟨v, H2, o2, b2, un2, ok2, rv2, ev, qv⟩ := hq
      subst ev
      refine ⟨rv2, .ref (n + 1), H2, ?_, rfl, qv⟩
      obtain ⟨h', g', d', t', os'⟩ := s'
      exact J.call' (ch := []) o2 (Un.trans (Un.laid kk (Nat.le_succ n) nn) un2) ok2 b2 (fun b z => absurd z (by simp))
    | next => exact False.elim hq
    | brk => exact False.elim hq
    | cont => exact False.elim hq
/-! ### C(), an own exception class without own __init__ -/
def tMk0 (C : Addr) : TE := fun _ H Q => ∀ a, H a = none → Q (.ref a) (upd H a (ExO (.ref C) a))
theorem pe_mk0 {X : Cx} {C : Addr} {bmB : List Value} {B newId initId : String} {x : Str} {p pos : Pos} (F : ExcBaseFacts B newId initId bmB) (q : PySem.W.excIn X.K C bmB newId = true) (gC : X.mg x = some (.ref C)) (kC : PySem.W.keepIn X.K (.ref C) = true) (hg : Gl X x)
    (hdb : (x == ("__debug__" : Str)) = false := by decide) : PE X (.Call (.Name x p) [] [] pos) (tMk0 C) := by
  refine ⟨fun pins s σ H Q I h => ?_⟩
  refine wpAny_Call_Name_kw (ld_glob I hg gC ?_ hdb)
  refine PySem.W.callWith_K0 I.kIn kC ?_
  obtain ⟨bm, N, nm, qn, bs, hdct, sn, sub, ab, col, dd, k0, k1, k2, k3, k5, mN, hC, hN, hni, T⟩ := exc_obj I.kIn q
  refine wpAny_call_exc_subT F T hC hN hni (fun h' a hm => ?_) (Nat.zero_le _)
  have hn : H a = none := I.hok.gone hm.new
  obtain ⟨t, ht, _, _⟩ := hm.there
  exact ⟨.ref a, _, I.laidN hm.keeps hm.new hn (exO_ok ht ⟨rfl, rfl⟩ rfl rfl rfl (show 4 < 6 by decide)), rfl, h a hn⟩
end V1

set_option maxHeartbeats 4000000
/-! V1: try with any number of except clauses, each with or without a name -/
namespace V1
open PySem PySem.Spec PyProof.Rows L2
/-- a clause: its class, the slot of its name if it has one, its suite's reading -/
abbrev Cl : Type := Value × Option Nat × (Addr → Value → Option Addr → TS)
/-- where a suite's ends lead once the clause's name is let go of -/
def offD (i : Nat) (D : Ends) : Ends := { nx := fun σ H => D.nx (σ.set i none) H, rt := D.rt, bk := fun σ H => D.bk (σ.set i none) H, ct := fun σ H => D.ct (σ.set i none) H }
def suiteD (D : Ends) (a : Addr) (cls : Value) (d : Option Addr) (ts : Addr → Value → Option Addr → TS) (σ : L2.St) (H : Hp) : Option Nat → Prop
  | none => ts a cls d D σ H
  | some i => ts a cls d (offD i D) (σ.set i (some (.ref a))) H
/-- what the clauses wish of an exception that leaves the body -/
def wCl (K : PySem.W.Frag) (Wout : WX) (D : Ends) : List Cl → WX
  | [] => Wout
  | (c, o, ts) :: more => fun cls d σ H => ∃ yes, PySem.W.exmOne K cls c = some yes ∧ (yes = true → ∀ a, H a = none → suiteD D a cls d ts σ H o) ∧ (yes = false → wCl K Wout D more cls d σ H)
inductive Hds (X : Cx) : List ExceptHandler → List Cl → Prop
  | nil : Hds X [] []
  | plain {x : Str} {c : Value} {ts : Addr → Value → Option Addr → TS} {st : Stmt} {sts : List Stmt} {p1 p2 : Pos} {hds : List ExceptHandler} {l : List Cl} (nm : Names X x c)
      (su : ∀ (a : Addr) (oe : Obj) (cls : Value) (d : Option Addr) (pn : List (Addr × Obj)), Zc cls d oe → (∃ vs, oe.data = .fields vs) → PSs (X.suite a ((a, oe) :: pn)) (st :: sts) (ts a cls d)) (more : Hds X hds l) :
      Hds X (.ExceptHandler (some (.Name x p1)) none (st :: sts) p2 :: hds) ((c, none, ts) :: l)
  | named {x n : Str} {i : Nat} {c : Value} {ts : Addr → Value → Option Addr → TS} {st : Stmt} {sts : List Stmt} {p1 p2 : Pos} {hds : List ExceptHandler} {l : List Cl} (at_ : X.N[i]? = some n) (loc : X.env.kindOf n = some .local) (nm : Names X x c)
      (su : ∀ (a : Addr) (oe : Obj) (cls : Value) (d : Option Addr) (pn : List (Addr × Obj)), Zc cls d oe → (∃ vs, oe.data = .fields vs) → PSs (X.suite a ((a, oe) :: pn)) (st :: sts) (ts a cls d)) (more : Hds X hds l) :
      Hds X (.ExceptHandler (some (.Name x p1)) (some n) (st :: sts) p2 :: hds) ((c, some i, ts) :: l)
/-- an exception of the body that was met: all that the clauses may lean on -/
theorem ps_try_cl {X : Cx} {body : List Stmt} {hd : ExceptHandler} {hds : List ExceptHandler} {l : List Cl} {pos : Pos} {tb : WX → TS} {Wout : WX} (stk : X.stack = X.env :: X.outer) (fr : X.env.frame = some X.env.locals) (nd : X.N.Nodup) (tk : Takes X Wout)
    (hb : ∀ (W : WX) (pn : List (Addr × Obj)) (xe : Value → Shared → Prop), Takes (X.tr pn xe) W → PassesOwn (model X.prog X.w) X.A X.env xe → PSs (X.tr pn xe) body (tb W))
    (cl : Hds X (hd :: hds) l) : PS X (.Try body (hd :: hds) [] [] pos) (fun D σ H => tb (wCl X.K Wout D l) D σ H) := by
  refine ⟨fun pins s σ H D I go => ?_⟩
  have ok := I.ok
  have frames : X.A.frames = some (X.env :: X.outer) := by
    rw [ok.frames, stk]
  refine wpAny_Try_except ?_
  refine wpAny_mono ((hb (wCl X.K Wout D l) (X.pn ++ pins) (fun e z1 => wpAny (model X.prog X.w) X.A (noteFrame e X.env)
    (fun _ z2 => wpAny (model X.prog X.w) X.A (setFlight e none) (fun _ z3 => wpAny (model X.prog X.w) X.A (handleBy e X.env (hd :: hds)) (SP X pins D) X.xe z3) X.xe z2) X.xe z1)
    (fun u sE met => ?_) PassesOwn.looking).run [] s σ H D (I.toTry _) go) (fun f s1 out => ?_) (fun _ _ he => he)
  · obtain ⟨a, B, sI, pins', σ', H', cls, d, rfl, J', nb, up, sky, na, os, ag, wish⟩ := met
    have J : Inv X pins σ' H' sI := J'.ofTry ok
    have air : Sky B (X.env :: X.outer) a (Zc cls d) X.env.locals sE.heap := by
      rw [← stk]
      exact sky
    show wpAny (model X.prog X.w) X.A (noteFrame (.ref a) X.env) _ _ _
    refine Sky.land Zc.steady frames fr air fun h3 fl up3 => ?_
    have J3 : Inv X pins σ' H' { sE with heap := h3 } := J.landed nb fl.1 (up.trans up3) os ag
    obtain ⟨oe, vs, there, zc, dat⟩ := fl.there
    have off : a ∉ frs (X.env :: X.outer) := fun hm => by
      obtain ⟨_, ob, eo, hnf⟩ := fl.2.2.1.mem hm
      rw [there] at eo
      cases eo
      exact hnf _ dat
    have offL : a ≠ X.env.locals := fun z => off (List.mem_filterMap.mpr ⟨X.env, List.mem_cons_self, by rw [fr, z]⟩)
    have offF : a ∉ X.fs := fun hm => by
      obtain ⟨en, hen, q⟩ := List.mem_filterMap.mp hm
      exact off (List.mem_filterMap.mpr ⟨en, List.mem_cons_of_mem _ hen, q⟩)
    have S3 := J3.suite there dat na offL offF
    -- one clause's test
    have ask : ∀ {x : Str} {c : Value} {p1 : Pos} {Q : Value → Shared → Prop} {E : Value → Shared → Prop}, Names X x c → Q c { sE with heap := h3 } →
        wpAny (model X.prog X.w) (X.A.mark (some (.ref a))) (eval (.Name x p1) X.env) Q E { sE with heap := h3 } := fun {x c p1 Q E} nm q => by
      obtain ⟨g, nodebug, m | ⟨m, bv, notname⟩⟩ := nm
      · exact ld_glob (X := X.suite a ((a, oe) :: (X.pn ++ pins))) S3 g m q nodebug
      · exact ld_blt (X := X.suite a ((a, oe) :: (X.pn ++ pins))) S3 g m bv q notname nodebug
    have typ : PySem.W.Looks (model X.prog X.w) h3 (typeOf (.ref a)) cls := fun _ _ _ z k q => wpAny_typeOf_ref (k _ _ there) (by rw [zc.1]; exact q)
    have through : ∀ {hs : List ExceptHandler} {ls : List Cl}, Hds X hs ls → wCl X.K Wout D ls cls d σ' H' →
        wpAny (model X.prog X.w) X.A (handleBy (.ref a) X.env hs) (SP X pins D) X.xe { sE with heap := h3 } := by
      intro hs ls hk
      induction hk with
      | nil =>
        intro w
        refine wpAny_handleBy_nil ?_
        obtain ⟨_, _, _, ob, us, T, _, _, e1, _, e3, e4, _⟩ := id fl
        unfold PySem.passOn
        refine wpAny_bind (wpAny_field e1 e3 e4 ?_)
        rw [if_neg (show ¬ ((Value.ref T == Value.none) = true) from by simp)]
        have last : wpAny (model X.prog X.w) X.A (setFlight (.ref a) X.env.frame) (fun _ z => wpAny (model X.prog X.w) X.A (throw (.ref a) : Sem Flow) (SP X pins D) X.xe z) X.xe { sE with heap := h3 } := by
          rw [fr]
          refine HandSPX.setFlight_upZ fl fun h4 held up4 => wpAny_throw (tk _ _ ?_)
          refine ⟨a, B, sI, pins, σ', H', cls, d, rfl, J, nb, (up.trans up3).trans up4, .inr (.inr ?_), na, os, ag, w⟩
          rw [stk]
          exact held
        first
          | exact wpAny_bind (wpAny_pure (wpAny_bind last))
          | exact wpAny_bind last
      | @plain x c ts st sts p1 p2 hs2 ls2 nm su more ih =>
        intro w
        obtain ⟨yes, hy, onYes, onNo⟩ := w
        refine wpAny_handleBy_cons (codeAny_handlers_test ?_) (by intro q; cases q)
        refine ask nm ((PySem.W.exm_one (M := model X.prog X.w) J3.kIn typ hy).here ?_)
        cases yes with
        | false => exact ih (onNo rfl)
        | true =>
          refine codeAny_handlers_suite ?_
          refine HandSPX.lands_againZ fl fun h4 fl4 up4 => ?_
          have J4 : Inv X pins σ' H' { sE with heap := h4 } := J.landed nb fl4.1 ((up.trans up3).trans up4) os ag
          obtain ⟨oe4, vs4, th4, zc4, dat4⟩ := fl4.there
          refine wpAny_mono ((su a oe4 cls d (X.pn ++ pins) zc4 ⟨_, dat4⟩).run [] _ _ H' _ (J4.suite th4 dat4 na offL offF) (onYes rfl a na)) (fun f s6 out => ?_) (fun _ _ z => False.elim z)
          cases f with
          | next => exact let ⟨_, _, S6, q6⟩ := out; ⟨_, _, S6.unsuite ok, q6⟩
          | brk => exact let ⟨_, _, S6, q6⟩ := out; ⟨_, _, S6.unsuite ok, q6⟩
          | cont => exact let ⟨_, _, S6, q6⟩ := out; ⟨_, _, S6.unsuite ok, q6⟩
          | ret u => exact let ⟨_, _, _, S6, r6, q6⟩ := out; ⟨_, _, _, S6.unsuite ok, r6, q6⟩
      | @named x n i c ts st sts p1 p2 hs2 ls2 at_ loc nm su more ih =>
        intro w
        obtain ⟨yes, hy, onYes, onNo⟩ := w
        refine wpAny_handleBy_cons (codeAny_handlers_test ?_) (by intro q; cases q)
        refine ask nm ((PySem.W.exm_one (M := model X.prog X.w) J3.kIn typ hy).here ?_)
        cases yes with
        | false => exact ih (onNo rfl)
        | true =>
          refine codeAny_handlers_suite_as ?_
          refine HandSPX.lands_againZ fl fun h4 fl4 up4 => ?_
          have J4 : Inv X pins σ' H' { sE with heap := h4 } := J.landed nb fl4.1 ((up.trans up3).trans up4) os ag
          obtain ⟨oe4, vs4, th4, zc4, dat4⟩ := fl4.there
          refine store_ok (X := X.suite a ((a, oe4) :: (X.pn ++ pins))) (v := .ref a) (J4.suite th4 dat4 na offL offF) nd at_ (.inl loc) rfl (fun s5 S5 => ?_) (.inr loc)
          refine wpAny_mono ((su a oe4 cls d (X.pn ++ pins) zc4 ⟨_, dat4⟩).run [] s5 _ H' _ S5 (onYes rfl a na)) (fun f s6 out => ?_) (fun _ _ z => False.elim z)
          have gone : ∀ {σ6 : L2.St} {H6 : Hp} {Q : Shared → Prop}, Inv (X.suite a ((a, oe4) :: (X.pn ++ pins))) [] σ6 H6 s6 → (∀ s7, Inv X pins (σ6.set i none) H6 s7 → Q s7) →
              wpAny (model X.prog X.w) X.A (do bindName X.env n .none; unbindBehindTheSuite X.env n p2) (fun _ s7 => Q s7) X.xe s6 := fun S6 hq => gone_ok (S6.unsuite ok) nd at_ loc hq
          cases f with
          | next => exact let ⟨_, _, S6, q6⟩ := out; gone S6 fun s7 J7 => ⟨_, _, J7, q6⟩
          | brk => exact let ⟨_, _, S6, q6⟩ := out; gone S6 fun s7 J7 => ⟨_, _, J7, q6⟩
          | cont => exact let ⟨_, _, S6, q6⟩ := out; gone S6 fun s7 J7 => ⟨_, _, J7, q6⟩
          | ret u => exact let ⟨_, _, _, S6, r6, q6⟩ := out; gone S6 fun s7 J7 => ⟨_, _, _, J7, r6, q6⟩
    exact through cl wish
  · cases f with
    | next => exact let ⟨_, _, J, q⟩ := out; wpAny_execs_nil ⟨_, _, J.ofTry ok, q⟩
    | brk => exact let ⟨_, _, J, q⟩ := out; ⟨_, _, J.ofTry ok, q⟩
    | cont => exact let ⟨_, _, J, q⟩ := out; ⟨_, _, J.ofTry ok, q⟩
    | ret u => exact let ⟨_, _, _, J, r, q⟩ := out; ⟨_, _, _, J.ofTry ok, r, q⟩
end V1

set_option maxHeartbeats 4000000
/-! V1: the law's own def, run at the caller of all (nothing is being shown there), and the end over a head by facts -/
namespace V1
open PySem PySem.Spec PyProof.Rows L2
section
variable {P : Program} {w : World} {K : PySem.W.Frag} {mg : Str → Option Value} {base : Heap} {k : Nat} {f : Addr} {fd : FuncData} {x : Str} {sp : Sp}
/-- the law's def keeps sp, called where nothing is being shown; nothing leaves it -/
def LawOk (P : Program) (w : World) (K : PySem.W.Frag) (mg : Str → Option Value) (base : Heap) (f : Addr) (fd : FuncData) (x : Str) (sp : Sp) : Prop :=
  ∀ (s : Shared) (H : Hp) (u : Value) (v : V) (Q : VK), Env0 P w K mg base callerA [] s H → BindsTo s fd ⟨[u], []⟩ [(x, u)] → RelV v u → sp [v] H Q (fun _ _ _ => False) →
    codeAny (model P w) callerA (.call (.ref f) ⟨[u], []⟩) (CR CX0 [] P w H s Q (fun _ _ _ => False)) s
theorem lawOk_of {name qual : Str} {params : Arguments} {body : List Stmt} {scope : Scope} {N : List Str} (F : FunD K name qual params body scope [] [] f fd) (S : FnScope N [x] scope)
    (room : Room (k + 1) callerA)
    (go : ∀ (cdv : Value) (s : Shared) (H : Hp) (v : V) (Q : VK), Room k (callerA.deeper (envOfC qual scope s.heap.objs.size f cdv)) → (callerA.deeper (envOfC qual scope s.heap.objs.size f cdv)).guards = some [] → sp [v] H Q (fun _ _ _ => False) →
      ∃ t, PSs (cxOf CX0 P w K mg base N qual scope f cdv callerA [] s H (fun _ _ _ => False)) body t ∧ t { nx := fun _ H' => Q .non H', rt := Q } (start N [v]) H) :
    LawOk P w K mg base f fd x sp := by
  intro s H u v Q e0 bind rv hs
  obtain ⟨oc, od, dV, kV, doc, pm, an, cdv, ct, osl, rfl, lk, cd, _, _⟩ := F.ex
  have inK : K.In s.heap := e0.mod.kin.keeps fun b o e => (e0.bs b o e).1
  have free : s.heap.NoLimit := e0.mod.nolimit.keeps fun b o e => (e0.bs b o e).1
  have kinds : ∀ y ∈ [(x, u)], scope.names.lookup y.1 = some .local ∨ (scope.names.lookup y.1 = some .cell ∧ ((cellsFrom (s.heap.objs.size + 1) scope.names []).lookup y.1).isSome = true) := by
    intro y hy
    obtain rfl := List.mem_singleton.mp hy
    rcases S.par x (List.mem_singleton.mpr rfl) with q | q
    · exact .inl q
    · exact .inr ⟨q, PySem.W.cellsFrom_some _ _ _ (.inl q)⟩
  refine codeAny_call_function room.depth (inK _ _ lk) rfl S.co S.gen rfl (PySem.W.codeRec_of inK cd) (bind _ _ _ _ ?_)
  refine wpAny_newFunctionEnv_cells S.kind kinds fun env he s1 z => ?_
  subst he
  refine ⟨free.keeps z.toInCall.keep, codeAny_func ?_⟩
  obtain ⟨t, ht, hq⟩ := go cdv s H v Q (room.deeper _) rfl hs
  have I : Inv (cxOf CX0 P w K mg base N qual scope f cdv callerA [] s H (fun _ _ _ => False)) [] (start N [v]) H s1 := inv_start (us := [u]) (ps := [x]) S room.hd e0 rfl (.cons rv .nil) z
  refine wpAny_mono (ht.run [] s1 _ H _ I hq) (fun fl s' out => ?_) fun _ _ z => z
  cases fl with
  | ret u' => exact let ⟨v', _, H', J, r', q⟩ := out; ⟨v', H', J.os, J.bare, J.base, J.hok, r', q⟩
  | next => exact let ⟨_, H', J, q⟩ := out; ⟨.non, H', J.os, J.bare, J.base, J.hok, rfl, q⟩
  | brk => exact let ⟨_, _, _, q⟩ := out; q.elim
  | cont => exact let ⟨_, _, _, q⟩ := out; q.elim
end
/-- from the state at the claim's call -/
theorem law_run {P : Program} {w : World} {K : PySem.W.Frag} {mg mb : Str → Option Value} {fa a : Addr} {fd : FuncData} {x : Str} {sp : Sp} {s : Shared} {vs : List Value} {ns : List Int}
    (KX : K.In s.heap) (gl : s.heap.Ns mainGlobals mg) (bl : s.heap.Ns builtinsNs mb) (boot : ∀ y : Str, y ≠ "__name__" → mb y = bootBuiltins y) (free : s.heap.NoLimit) (gens : s.gens = #[])
    (ha : s.heap.get? a = some { cls := .type "list", data := .seq vs.toArray }) (hints : IntsAre vs ns) (short : ns.length ≤ sizeLine)
    (F : ∀ base : Heap, K.In base → base.Ns mainGlobals mg → LawOk P w K mg base fa fd x sp) (bind : ∀ (s : Shared) (u : Value), BindsTo s fd ⟨[u], []⟩ [(x, u)])
    (hs : ∀ H : Hp, Only H → SqL K H a (ns.map V.int) → sp [.ref a] H (fun v _ => v = .bl true) (fun _ _ _ => False)) :
    codeAny (model P w) callerA (.call (.ref fa) ⟨[.ref a], []⟩) (fun r s' => r = .ok (.ret (.bool true)) ∧ OldK s.heap s'.heap ∧ s'.os = s.os ∧ AllBare s'.gens) s := by
  have rel := vals_ints hints
  have count := hints.length
  let ob : Obj := { cls := .type "list", data := .seq vs.toArray }
  have main : ∀ H : Hp, Only H → SqL K H a (ns.map V.int) → HOk P w H s.heap → (∀ b, H b ≠ none → b = a) → (H a ≠ none → K.lookup a = none) →
      codeAny (model P w) callerA (.call (.ref fa) ⟨[.ref a], []⟩) (fun r s' => r = .ok (.ret (.bool true)) ∧ OldK s.heap s'.heap ∧ s'.os = s.os ∧ AllBare s'.gens) s := by
    intro H only seq hok just notK
    let B := hidT s.heap H
    have noDict : ∀ {b : Addr} {o : Obj} {es : Array DictEntry} {ep : Nat}, s.heap.get? b = some o → o.data = .dict es ep → H b = none := fun {b o es ep} e d => by
      cases q : H b with
      | none => rfl
      | some _ =>
        obtain rfl : b = a := just b (by rw [q]; simp)
        rw [ha] at e
        cases e
        cases (show Data.seq vs.toArray _ = Data.dict es ep from d)
    have space : ∀ {b : Addr} {m : Str → Option Value}, s.heap.Ns b m → B.Ns b m := fun {b m} ⟨o, es, ep, e, d, r⟩ => ⟨o, es, ep, hidT_get e (noDict e d), d, r⟩
    have KB : K.In B := fun b o e => hidT_get (KX b o e) (by
      cases q : H b with
      | none => rfl
      | some _ =>
        obtain rfl : b = a := just b (by rw [q]; simp)
        rw [notK (by rw [q]; simp)] at e
        cases e)
    have M : Mod K mg B := ⟨KB, space gl, ⟨mb, space bl, boot⟩, let ⟨mc, h1, h2⟩ := free; ⟨mc, space h1, h2⟩⟩
    have e0 : Env0 P w K mg B callerA [] s H := ⟨rfl, M, fun b o e => of_hidT e, Nat.le_of_eq (hidT_size _ _), trivial, fun b hb => absurd (show b ∈ ([] : List Addr) from hb) List.not_mem_nil, hok, .of_eq gens⟩
    refine codeAny_mono (F B KB (space gl) s H (.ref a) (.ref a) _ e0 (bind s (.ref a)) rfl (hs H only seq)) fun r s' out => ?_
    cases r with
    | error e => exact False.elim out
    | ok fl =>
      cases fl with
      | next => exact False.elim out
      | brk => exact False.elim out
      | cont => exact False.elim out
      | ret u =>
        obtain ⟨v, H', os, bare, un, hok', rv, q⟩ := out
        obtain rfl : v = .bl true := q
        obtain rfl : u = Value.bool true := rv
        refine ⟨rfl, OldK.of_keep fun b o e => ?_, os, bare⟩
        cases q : H b with
        | none => exact un.keep b o e q (fun z => absurd (show b ∈ ([] : List Addr) from z) List.not_mem_nil) List.not_mem_nil
        | some _ =>
          rcases only b with z | ⟨o2, xs, z⟩
          · rw [q] at z
            cases z
          · obtain ⟨g1, _⟩ := hok b _ z
            obtain ⟨g2, _⟩ := hok' b _ (un.frzs b o2 _ z)
            rw [e] at g1
            cases g1
            exact g2
  cases lk : K.lookup a with
  | some o =>
    have e := KX a o lk
    rw [ha] at e
    cases e
    exact main (fun _ => none) (fun _ => .inl rfl) (.inr ⟨_, vs.toArray, _, lk, rfl, rfl, rfl, by rw [List.size_toArray, count]; exact short, by simpa using rel⟩) (fun b u z => nomatch (show (none : Option HO) = some u from z)) (fun b z => absurd rfl z) fun z => absurd rfl z
  | none =>
    let H1 : Hp := fun b => if b = a then some (.frz ob (.lst (ns.map V.int))) else none
    have atA : H1 a = some (.frz ob (.lst (ns.map V.int))) := if_pos rfl
    have offA : ∀ {b : Addr}, b ≠ a → H1 b = none := fun hb => if_neg hb
    refine main H1 (fun b => ?_) (.inl (.inr ⟨ob, atA⟩)) (fun b u z => ?_) (fun b z => ?_) fun _ => lk
    · by_cases hb : b = a
      · exact .inr ⟨_, _, by rw [hb]; exact atA⟩
      · exact .inl (offA hb)
    · by_cases hb : b = a
      · subst hb
        cases atA.symm.trans z
        exact ⟨ha, by rw [List.length_map]; exact short, vs, _, rel, ha⟩
      · exact nomatch (offA hb).symm.trans z
    · by_cases hb : b = a
      · exact hb
      · exact absurd (offA hb) z
theorem walk_law {l : PySem.W.OpenLaw} {n : Nat} {q : Program} {loose : List Str} {XP : (Str → Option Value) → Heap → Prop} {YP : World → Heap → Prop} {d : DefRec} {x : Str} (hn : l.most = some n) (hz : n ≤ sizeLine) (noDfl : d.params.defaults = [])
    (F : ∀ (w : World) (mg : Str → Option Value) (fa : Addr) (h : Heap), YP w h → h.Ns mainGlobals mg → mg d.name = some (.ref fa) → ∃ (K : PySem.W.Frag) (fd : FuncData) (sp : Sp), K.In h ∧ (∀ (s : Shared) (u : Value), BindsTo s fd ⟨[u], []⟩ [(x, u)]) ∧
      (∀ (H : Hp) (a : Addr) (ns : List Int), ns.length ≤ n → Only H → SqL K H a (ns.map V.int) → sp [.ref a] H (fun v _ => v = .bl true) fun _ _ _ => False) ∧
      ∀ base : Heap, K.In base → base.Ns mainGlobals mg → LawOk l.prog w K mg base fa fd x sp) :
    PySem.W.WalkO q loose XP YP l.row.toRowW d [] (fun f vs => PySem.call f vs) := by
  refine Att.attach_call hn noDfl fun w s₀ s₁ mg mb fa o pm cd doc a vs ns G Y ho hd hcd hmg hobj hints short gens => ?_
  obtain ⟨K, fd, sp, KX, bind, hs, hF⟩ := F w mg fa _ Y G.T.g hmg
  exact law_run KX G.T.g G.T.b G.T.builtins G.T.nolimit gens hobj hints (Nat.le_trans short hz) hF bind fun H only seq => hs H a ns short only seq
end V1

set_option maxHeartbeats 4000000
/-! V1e: what K00's files had in the namespace V1, for other laws -/
namespace V1
open PySem PySem.Spec PyProof.Rows L2
/-- the def that the module's name x stands for keeps sp -/
def Has (P : Program) (w : World) (K : PySem.W.Frag) (mg : Str → Option Value) (base : Heap) (CX : CXT) (k : Nat) (x : Str) (ps : List Str) (sp : Sp) : Prop :=
  ∃ fd, FnOk P w K mg base CX k (He.ga K x) fd ps sp ∧ Binds K fd ps [] ∧ PySem.W.keepIn K (.ref (He.ga K x)) = true ∧ mg x = some (.ref (He.ga K x))
theorem pe_has {X : Cx} {CX : CXT} {k : Nat} {x : Str} {ps : List Str} {sp : Sp} {E : XK} {e : Expr} {es : List Expr} {t : TA} {p pos : Pos} (h : Has X.prog X.w X.K X.mg X.base CX k x ps sp) (hr : Room k X.A) (hx : Passes CX X E) (ha : PA X (e :: es) t) (hg : Gl X x := by rfl)
    (hdb : (x == ("__debug__" : Str)) = false := by decide) (he : starEach (e :: es) X.env = (false, eval e X.env) :: starEach es X.env := by rfl) (hpl : (backTo pos (starEach es X.env)).any (·.1) = false := by rfl) :
    PE X (.Call (.Name x p) (e :: es) [] pos) (tCall sp [] E t) := by
  obtain ⟨fd, F, b, kp, g⟩ := h
  exact pe_call F hr hg g kp b .nil hx ha hdb he hpl
theorem pe_has0 {X : Cx} {CX : CXT} {k : Nat} {x : Str} {ps : List Str} {sp : Sp} {E : XK} {p pos : Pos} (h : Has X.prog X.w X.K X.mg X.base CX k x ps sp) (hr : Room k X.A) (hx : Passes CX X E) (hg : Gl X x := by rfl)
    (hdb : (x == ("__debug__" : Str)) = false := by decide) : PE X (.Call (.Name x p) [] [] pos) (tCall sp [] E tNil) := by
  obtain ⟨fd, F, b, kp, g⟩ := h
  exact pe_call0 F hr hg g kp b .nil hx hdb
theorem delH_upd {H : Hp} {a : Addr} {o : HO} : delH (upd H a o) a = delH H a := by
  funext b
  by_cases e : b = a
  · rw [e, delH_same, delH_same]
  · rw [delH_ne e, delH_ne e, upd_ne e]
theorem delH_updN {H : Hp} {a p : Addr} {o : HO} (h : p ≠ a) : delH (upd H p o) a = upd (delH H a) p o := by
  funext b
  by_cases e : b = a
  · rw [e, delH_same, upd_ne (Ne.symm h), delH_same]
  · rw [delH_ne e]
    by_cases z : b = p
    · rw [z, upd_same, upd_same]
    · rw [upd_ne z, upd_ne z, delH_ne e]
theorem same_new {H : Hp} {p : Addr} {o : HO} (h : H p = none) : Same H (upd H p o) := fun b x e => by
  rw [upd_ne (ne_of_none e h)]
  exact e
theorem same_delH {H : Hp} {a : Addr} : Same (delH H a) H := fun b o e => by
  by_cases z : b = a
  · rw [z, delH_same] at e
    cases e
  · rw [delH_ne z] at e
    exact e
theorem same_del {H H' : Hp} {a : Addr} (h : Same H H') : Same (delH H a) (delH H' a) := fun b o e => by
  by_cases z : b = a
  · rw [z, delH_same] at e
    cases e
  · rw [delH_ne z] at e ⊢
    exact h b o e
end V1
namespace V1
open PySem PySem.Spec PyProof.Rows L2
/-- [..], its place told not to be the table of modules -/
def tLstS (t : TA) : TE := fun σ H Q => t σ H fun xs H1 => xs.length ≤ sizeLine ∧ ∀ p, H1 p = none → (p == sysModules) = false → Q (.ref p) (upd H1 p (.lst xs))
theorem pe_lstS {X : Cx} {es : List Expr} {t : TA} {pos : Pos} (h : PA X es t) : PE X (.List es pos) (tLstS t) := by
  constructor
  intro pins s σ H Q I hq
  apply wpAny_List_spliced
  apply thn (h.run pos pins s σ H _ I hq)
  rintro us s1 ⟨xs, H1, J, rv, z, q⟩
  have lenU : us.length ≤ sizeLine := rv.length ▸ z
  refine ⟨lenU, .ref s1.heap.objs.size, _, ?_, rfl, q _ (J.hok.fresh (Nat.le_refl _)) (beq_eq_false_iff_ne.mpr (Nat.ne_of_gt J.big))⟩
  exact J.laid (o := .lst xs) (t' := s1.toks) (fun _ _ e => Heap.get?_push_of_some _ e) (Nat.le_refl _) ⟨z, us, 0, rv, Heap.get?_push_size _ rfl⟩
/-- the hand at a stands -/
def Held (H : Hp) (a : Addr) : Prop := ∃ o, H a = some o
theorem Held.same {H H' : Hp} {a : Addr} (h : Held H a) (s : Same H H') : Held H' a := let ⟨o, e⟩ := h; ⟨o, s _ _ e⟩
theorem Held.off {H H' : Hp} {a p : Addr} {o : HO} (h : Held H a) (n : H p = none) (e : H' p = some o) : (delH H' a) p = some o := by
  obtain ⟨u, hu⟩ := h
  rw [delH_ne (Ne.symm (ne_of_none hu n))]
  exact e
/-- te makes this data beside what stands at a -/
def Mk (te : TE) (σ : L2.St) (a : Addr) (d : PyData) : Prop := ∀ H, Held H a → ∀ Q : VK, (∀ v H', Same H H' → Dq (delH H' a) v d → Q v H') → te σ H Q
def MkA (ta : TA) (σ : L2.St) (a : Addr) (ds : List PyData) : Prop := ∀ H, Held H a → ∀ Q : List V → Hp → Prop, (∀ vs H', Same H H' → DqAll (delH H' a) vs ds → Q vs H') → ta σ H Q
section
variable {σ : L2.St} {a : Addr} {d : PyData} {ds : List PyData} {te : TE} {ta : TA}
theorem mk_non : Mk (tC .non) σ a .none := fun H _ _ k => k _ H (Same.refl H) .non
theorem mk_bl (b : Bool) : Mk (tC (.bl b)) σ a (.bool b) := fun H _ _ k => k _ H (Same.refl H) (.bl b)
theorem mk_int (i : Int) : Mk (tC (.int i)) σ a (.int i) := fun H _ _ k => k _ H (Same.refl H) (.int i)
theorem mk_str (x : Str) : Mk (tC (.str x)) σ a (.str x) := fun H _ _ k => k _ H (Same.refl H) (.str x)
theorem mka_nil : MkA tNil σ a [] := fun H _ _ k => k [] H (Same.refl H) .nil
theorem mka_cons (h : Mk te σ a d) (r : MkA ta σ a ds) : MkA (tCons te ta) σ a (d :: ds) := fun H hh _ k => h H hh _ fun v H1 s1 q1 => r H1 (hh.same s1) _ fun vs H2 s2 q2 => k (v :: vs) H2 (s1.trans s2) (.cons (Dq.same (same_del s2) d v q1) q2)
theorem dqAll_len {H : Hp} : ∀ {vs : List V} {ds : List PyData}, DqAll H vs ds → vs.length = ds.length
  | _, [], .nil => rfl
  | _, _ :: _, .cons _ m => congrArg (· + 1) (dqAll_len m)
theorem mk_tup (r : MkA ta σ a ds) (hz : ds.length ≤ 1000) : Mk (tTup ta) σ a (.tuple ds) := fun H hh _ k => r H hh _ fun vs H1 s1 q1 =>
  ⟨Nat.le_of_lt (small1000 (by rw [dqAll_len q1]; exact hz)), fun p n => k _ _ (s1.trans (same_new n)) (.tup ((hh.same s1).off n upd_same) (DqAll.same (same_del (same_new n)) ds vs q1))⟩
theorem mk_lst (r : MkA ta σ a ds) (hz : ds.length ≤ 1000) : Mk (tLstS ta) σ a (.list ds) := fun H hh _ k => r H hh _ fun vs H1 s1 q1 =>
  ⟨Nat.le_of_lt (small1000 (by rw [dqAll_len q1]; exact hz)), fun p n low => k _ _ (s1.trans (same_new n)) (.lst ((hh.same s1).off n upd_same) low (DqAll.same (same_del (same_new n)) ds vs q1))⟩
theorem mk_dict0 : Mk tDNewK σ a (.dict []) := fun H hh _ k p n => k _ _ (same_new n) (.dct (hh.off n upd_same) .nil)
/-- a written dict of one text key and an int -/
theorem mk_dict1 (x : Str) (i : Int) : Mk (tDisp [(tC (.str x), tC (.int i))]) σ a (.dict [(.str x, .int i)]) := fun H hh _ k p n =>
  ⟨upd_same, [(.inr x, .int i)], rfl, (by show 1 ≤ 15; decide), by
    rw [upd_upd]
    exact k _ _ (same_new n) (.dct (kvs := [(.inr x, .int i)]) (hh.off n upd_same) (.cons (k := .inr x) (.int i) .nil))⟩
theorem DqAll.get {H : Hp} : ∀ {vs : List V} {ds : List PyData} {j : Nat} {d : PyData}, DqAll H vs ds → ds[j]? = some d → ∃ v, vs[j]? = some v ∧ Dq H v d
  | _, _ :: _, 0, _, .cons one _, e => ⟨_, rfl, by
    obtain rfl := Option.some.inj e
    exact one⟩
  | _, _ :: _, j + 1, _, .cons _ more, e => DqAll.get (j := j) more e
/-- an item of a written list of data, its place from an int -/
theorem mk_pick {K : PySem.W.Frag} {ti : TE} {H : Hp} {Q : VK} {j : Nat} (r : MkA ta σ a ds) (hz : ds.length ≤ 1000) (hh : Held H a) (hi : ∀ H1, Same H H1 → ∀ Q : VK, Q (.int j) H1 → ti σ H1 Q) (hj : j < ds.length)
    (k : ∀ v H', Same H H' → Dq (delH H' a) v ds[j] → Q v H') : tOp (rIxL K) (tLstS ta) ti σ H Q := r H hh _ fun vs H1 s1 q1 =>
  ⟨Nat.le_of_lt (small1000 (by rw [dqAll_len q1]; exact hz)), fun p n _ => by
    obtain ⟨v, hv, dv⟩ := DqAll.get q1 (List.getElem?_eq_getElem hj)
    have s2 := s1.trans (same_new (o := .lst vs) n)
    exact hi _ s2 _ ⟨p, vs, j, v, rfl, rfl, .inl (.inl upd_same), atI_nat hv, k v _ s2 (Dq.same (same_del (same_new n)) _ v dv)⟩⟩
end
structure Good (d : PyData) (b n : Nat) : Prop where
  sh : d.showable = true
  dp : d.depth ≤ b
  ln : d.shown.length ≤ n
theorem Good.mono {d : PyData} {b n b' n' : Nat} (h : Good d b n) (h1 : b ≤ b') (h2 : n ≤ n') : Good d b' n' := ⟨h.sh, Nat.le_trans h.dp h1, Nat.le_trans h.ln h2⟩
theorem good_int {i : Int} (h0 : 0 ≤ i) (h : i < 10 ^ 6) : Good (.int i) 0 6 := by
  refine ⟨?_, Nat.le_refl _, toString_length_le h0 (by decide) h⟩
  have z : i.natAbs < 2 ^ 20 := by omega
  have e : i.natAbs.log2 < 1920 := by
    by_cases hz : i.natAbs = 0
    · rw [hz]
      decide
    · exact Nat.lt_trans ((Nat.log2_lt hz).mpr z) (by decide)
  simpa [PyData.showable] using e
theorem good_list2 {d e : PyData} {b c n m : Nat} (hd : Good d b n) (he : Good e c m) : Good (.list [d, e]) (max b c + 1) (n + m + 4) := by
  refine ⟨?_, ?_, ?_⟩
  · simp only [PyData.showable, PyData.showableAll, hd.sh, he.sh, Bool.and_self]
  · simp only [PyData.depth, PyData.depthAll]
    have h1 := hd.dp
    have h2 := he.dp
    omega
  · have q : (PyData.list [d, e]).shown = ((((Str.ofString "[" ++ Str.ofString "") ++ d.shown) ++ Str.ofString ", ") ++ e.shown) ++ Str.ofString "]" := by
      simp only [PyData.shown, PyData.shownAll]
      rfl
    rw [q]
    simp only [strLen_append]
    have h1 := hd.ln
    have h2 := he.ln
    have k1 : (Str.ofString "[").length = 1 := by decide
    have k2 : (Str.ofString "").length = 0 := by decide
    have k3 : (Str.ofString ", ").length = 2 := by decide
    have k4 : (Str.ofString "]").length = 1 := by decide
    omega
theorem good_tup2 {d e : PyData} {b c n m : Nat} (hd : Good d b n) (he : Good e c m) : Good (.tuple [d, e]) (max b c + 1) (n + m + 4) := by
  refine ⟨?_, ?_, ?_⟩
  · simp only [PyData.showable, PyData.showableAll, hd.sh, he.sh, Bool.and_self]
  · simp only [PyData.depth, PyData.depthAll]
    have h1 := hd.dp
    have h2 := he.dp
    omega
  · have q : (PyData.tuple [d, e]).shown = (Str.ofString "(" ++ Str.join ", " [d.shown, e.shown]) ++ Str.ofString ")" := by
      simp only [PyData.shown, PyData.shownAll]
      rfl
    rw [q]
    simp only [strLen_append]
    have h1 := hd.ln
    have h2 := he.ln
    have j := join_length_add [d.shown, e.shown] (by simp)
    have p : piled [d.shown, e.shown] = d.shown.length + 2 + (e.shown.length + 2) := by simp [piled]
    have k1 : (Str.ofString "(").length = 1 := by decide
    have k2 : (Str.ofString ")").length = 1 := by decide
    omega
end V1
namespace V1
open PySem PySem.Spec PyProof.Rows L2
/-- an exception's class, and its fields if it has some -/
abbrev Kd : Type := Addr × Option (List (Str × V))
inductive ExAll (H : Hp) : List V → List Kd → Prop
  | nil : ExAll H [] []
  | cons {a : Addr} {k : Kd} {vs : List V} {ks : List Kd} (one : IsEx H a k.1 k.2) (more : ExAll H vs ks) : ExAll H (.ref a :: vs) (k :: ks)
theorem ExAll.same {H H' : Hp} (e : Same H H') : ∀ {vs : List V} {ks : List Kd}, ExAll H vs ks → ExAll H' vs ks
  | _, _, .nil => .nil
  | _, _, .cons one more => .cons (one.same e) (more.same e)
theorem ExAll.len {H : Hp} : ∀ {vs : List V} {ks : List Kd}, ExAll H vs ks → vs.length = ks.length
  | _, _, .nil => rfl
  | _, _, .cons _ more => congrArg (· + 1) more.len
theorem ExAll.app {H : Hp} : ∀ {vs us : List V} {ks ls : List Kd}, ExAll H vs ks → ExAll H us ls → ExAll H (vs ++ us) (ks ++ ls)
  | _, _, _, _, .nil, h => h
  | _, _, _, _, .cons one more, h => .cons one (more.app h)
theorem ExAll.get {H : Hp} : ∀ {vs : List V} {ks : List Kd} {j : Nat} {k : Kd}, ExAll H vs ks → ks[j]? = some k → ∃ a, vs[j]? = some (.ref a) ∧ IsEx H a k.1 k.2
  | _, _, 0, _, .cons one _, e => ⟨_, rfl, by
    obtain rfl := Option.some.inj e
    exact one⟩
  | _, _, j + 1, _, .cons _ more, e => more.get (j := j) e
/-- te makes an exception of this kind -/
def MkE (te : TE) (σ : L2.St) (k : Kd) : Prop := ∀ (H : Hp) (Q : VK), (∀ a H', Same H H' → IsEx H' a k.1 k.2 → Q (.ref a) H') → te σ H Q
def MkEs (ta : TA) (σ : L2.St) (ks : List Kd) : Prop := ∀ (H : Hp) (Q : List V → Hp → Prop), (∀ vs H', Same H H' → ExAll H' vs ks → Q vs H') → ta σ H Q
section
variable {σ : L2.St} {k : Kd} {ks ls : List Kd} {te : TE} {ta tb : TA}
theorem mke_nil : MkEs tNil σ [] := fun H _ q => q [] H (Same.refl H) .nil
theorem mke_cons (h : MkE te σ k) (r : MkEs ta σ ks) : MkEs (tCons te ta) σ (k :: ks) := fun H _ q => h H _ fun a H1 s1 e1 => r H1 _ fun vs H2 s2 e2 => q _ H2 (s1.trans s2) (.cons (e1.same s2) e2)
theorem mke_bare (C : Addr) : MkE (tMk0 C) σ (C, none) := fun H _ q a n => q a _ (same_new n) upd_same
/-- a list of them -/
def MkEL (te : TE) (σ : L2.St) (ks : List Kd) : Prop := ∀ (H : Hp) (Q : VK), (∀ p vs H', Same H H' → H p = none → H' p = some (.lst vs) → ExAll H' vs ks → Q (.ref p) H') → te σ H Q
theorem fresh_up {H H' : Hp} {p : Addr} (s : Same H H') (n : H' p = none) : H p = none := by
  cases e : H p with
  | none => rfl
  | some o =>
    rw [s p o e] at n
    cases n
theorem mkel_lst (r : MkEs ta σ ks) (hz : ks.length ≤ 1000) : MkEL (tLst ta) σ ks := fun H _ q => r H _ fun vs H1 s1 e1 =>
  ⟨Nat.le_of_lt (small1000 (by rw [e1.len]; exact hz)), fun p n => q p vs _ (s1.trans (same_new n)) (fresh_up s1 n) upd_same (e1.same (same_new n))⟩
theorem mkel_go {H : Hp} {Q : VK} (r : MkEs ta σ ks) (hz : ks.length ≤ 1000) (q : ∀ p vs H', Same H H' → H p = none → H' p = some (.lst vs) → ExAll H' vs ks → Q (.ref p) H') : tLst ta σ H Q := mkel_lst r hz H Q q
theorem q_mkel {H : Hp} {D : Ends} {tz : TS} {i : Nat} (r : MkEs ta σ ks) (hz : ks.length ≤ 1000) (k : ∀ p vs H', Same H H' → H p = none → H' p = some (.lst vs) → ExAll H' vs ks → tz D (σ.set i (some (.ref p))) H') :
    tSeq (tAsg (tLst ta) (gName i)) tz D σ H := by
  show tLst ta σ H fun v H' => tz D (σ.set i (some v)) H'
  exact mkel_lst r hz H _ k
/-- a list of what is told wherever G holds -/
def Bs (ta : TA) (σ : L2.St) (G : Hp → Prop) (vs : List V) : Prop := ∀ H, G H → ∀ Q : List V → Hp → Prop, Q vs H → ta σ H Q
theorem bs_nil {G : Hp → Prop} : Bs tNil σ G [] := fun H _ _ q => q
theorem bs_cons {G : Hp → Prop} {v : V} {vs : List V} (h : ∀ H, G H → ∀ Q : VK, Q v H → te σ H Q) (r : Bs ta σ G vs) : Bs (tCons te ta) σ G (v :: vs) := fun H g _ q => h H g _ (r H g _ q)
theorem q_bs {H : Hp} {D : Ends} {tz : TS} {i : Nat} {G : Hp → Prop} {vs : List V} (b : Bs ta σ G vs) (g : G H) (hz : vs.length ≤ 1000) (k : ∀ p H', Same H H' → H p = none → H' p = some (.lst vs) → tz D (σ.set i (some (.ref p))) H') :
    tSeq (tAsg (tLst ta) (gName i)) tz D σ H := by
  show tLst ta σ H fun v H' => tz D (σ.set i (some v)) H'
  exact b H g _ ⟨Nat.le_of_lt (small1000 hz), fun p n => k p _ (same_new n) n upd_same⟩
theorem r_bs {H : Hp} {Q : VK} {G : Hp → Prop} {vs : List V} (b : Bs ta σ G vs) (g : G H) (hz : vs.length ≤ 1000) (k : ∀ p H', Same H H' → H p = none → H' p = some (.lst vs) → Q (.ref p) H') : tLst ta σ H Q := b H g _ ⟨Nat.le_of_lt (small1000 hz), fun p n => k p _ (same_new n) n upd_same⟩
theorem cat_go {H : Hp} {Q : VK} {x y : Addr} {xs ys : List V} (hx : H x = some (.lst xs)) (hy : H y = some (.lst ys)) (hz : xs.length + ys.length ≤ 1000) (k : ∀ p H', Same H H' → H p = none → H' p = some (.lst (xs ++ ys)) → Q (.ref p) H') : rCat (.ref x) (.ref y) H Q :=
  ⟨x, y, xs, ys, rfl, rfl, hx, hy, Nat.le_of_lt (small1000 hz), fun p n => k p _ (same_new n) n upd_same⟩
theorem mkel_cat {t1 t2 : TE} (h1 : MkEL t1 σ ks) (h2 : MkEL t2 σ ls) (hz : ks.length + ls.length ≤ 1000) : MkEL (tOp rCat t1 t2) σ (ks ++ ls) := fun H _ q => h1 H _ fun p vs H1 s1 _ e1 x1 => h2 H1 _ fun p2 us H2 s2 _ e2 x2 =>
  ⟨p, p2, vs, us, rfl, rfl, s2 _ _ e1, e2, Nat.le_of_lt (small1000 (by rw [x1.len, x2.len]; exact hz)), fun p3 n => q p3 _ _ ((s1.trans s2).trans (same_new n)) (fresh_up (s1.trans s2) n) upd_same (((x1.same s2).app x2).same (same_new n))⟩
theorem mkel_var {i : Nat} {p : Addr} {vs : List V} {H0 : Hp} (h0 : σ[i]? = some (some (.ref p))) (e : H0 p = some (.lst vs)) (x : ExAll H0 vs ks) : ∀ (H : Hp), Same H0 H → ∀ Q : VK, (∀ H', Same H H' → H' p = some (.lst vs) → ExAll H' vs ks → Q (.ref p) H') → tVar i σ H Q :=
  fun H s Q q => ⟨_, h0, q H (Same.refl H) (s _ _ e) (x.same s)⟩
end
/-- __init__(self, f): self.f = f -/
def spIni (K : PySem.W.Frag) (C : Addr) (f : Str) : Sp := fun vs H Q _ => ∃ (a : Addr) (v : V), vs = [.ref a, v] ∧ H a = some (exo a C none) ∧ ∀ dx, H dx = none → dx ≠ a → Q .non (upd (upd H dx (exd dx [(f, v)])) a (exo a C (some dx)))
theorem mke_field {K : PySem.W.Frag} {σ : L2.St} {C : Addr} {f : Str} {v : V} {ta : TA} (ha : ∀ (H : Hp) (Q : List V → Hp → Prop), Q [v] H → ta σ H Q) : MkE (tMkV C (spIni K C f) [] ta) σ (C, some [(f, v)]) := fun H _ q => ha H _
  ⟨by show 1 ≤ 1000; decide, fun a n => ⟨a, v, rfl, upd_same, fun dx nd ne => by
    have nd' : H dx = none := by
      rw [upd_ne ne] at nd
      exact nd
    refine ⟨rfl, q a _ (fun b o e => ?_) ⟨dx, upd_same, ?_⟩⟩
    · rw [upd_ne (ne_of_none e n), upd_ne (ne_of_none e nd'), upd_ne (ne_of_none e n)]
      exact e
    · rw [upd_ne ne, upd_same]⟩⟩
end V1
namespace V1
open PySem PySem.Spec PyProof.Rows L2
theorem wCl_take {K : PySem.W.Frag} {W : WX} {D : Ends} {c cls : Value} {o : Option Nat} {ts : Addr → Value → Option Addr → TS} {l : List Cl} {d : Option Addr} {σ : L2.St} {H : Hp} (h : PySem.W.exmOne K cls c = some true) (k : ∀ a, H a = none → suiteD D a cls d ts σ H o) :
    wCl K W D ((c, o, ts) :: l) cls d σ H := ⟨true, h, fun _ => k, (fun z => nomatch z)⟩
theorem wCl_skip {K : PySem.W.Frag} {W : WX} {D : Ends} {c cls : Value} {o : Option Nat} {ts : Addr → Value → Option Addr → TS} {l : List Cl} {d : Option Addr} {σ : L2.St} {H : Hp} (h : PySem.W.exmOne K cls c = some false) (k : wCl K W D l cls d σ H) :
    wCl K W D ((c, o, ts) :: l) cls d σ H := ⟨false, h, (fun z => nomatch z), fun _ => k⟩
/-- raise C(e), C's __init__ keeping its one field -/
theorem raise_go {K : PySem.W.Frag} {σ : L2.St} {H : Hp} {C : Addr} {f : Str} {v : V} {ta : TA} {Q : XK} (ha : ∀ Q : List V → Hp → Prop, Q [v] H → ta σ H Q) (k : ∀ d H', H d = none → Same H H' → H' d = some (.xd [(f, v)]) → Q (.ref C) (some d) H') :
    tMkO C (spIni K C f) [] ta σ H Q := ha _ ⟨by show 1 ≤ 1000; decide, fun a n => ⟨a, v, rfl, upd_same, fun dx nd ne => by
  have nd' : H dx = none := by
    rw [upd_ne ne] at nd
    exact nd
  refine ⟨rfl, dx, [(f, v)], upd_same, ?_, nd', k dx _ nd' (fun b o e => ?_) upd_same⟩
  · rw [upd_ne ne, upd_same]
  · rw [upd_ne (ne_of_none e nd'), del_ne (ne_of_none e n), upd_ne (ne_of_none e n), upd_ne (ne_of_none e nd'), upd_ne (ne_of_none e n)]
    exact e⟩⟩
end V1

set_option maxHeartbeats 4000000
/-! V2: for i, x in enumerate(tuple) -/
namespace V2
open PySem PySem.Spec PyProof.Rows L2 V1
open AutoSeq1 (wpAny_loadPart')
theorem enum_tup_new (t : Addr) (items : Array Value) :
    Meets (Builtin.«enumerate.__new__» ⟨[.type "enumerate", .ref t], []⟩) (fun _ R s => s.heap.IsTuple t items ∧
      R (.ok (.ret (.ref (s.heap.objs.size + 1))))
        { s with heap := (s.heap.push { cls := .type "tuple_iterator", data := .fields #[.ref t, .int 0 0] }).push { cls := .type "enumerate", data := .fields #[.none, .bool false, .ref s.heap.objs.size, rawInt 0, .none, .none] } }) :=
  .of_wp fun prog w A R s hh => by
    obtain ⟨hp, g, d, tk, os⟩ := s
    obtain ⟨ht, go⟩ := hh
    have sub := sub_enumerate
    have size : (hp.push { cls := .type "tuple_iterator", data := .fields #[.ref t, .int 0 0] }).objs.size = hp.objs.size + 1 := Heap.size_push ..
    rw [← size] at go
    have begin_ : ∀ {A' : Around} {E : Value → Shared → Prop} {Q : Value → Shared → Prop}, Q (.ref hp.objs.size) ⟨hp.push { cls := .type "tuple_iterator", data := .fields #[.ref t, .int 0 0] }, g, d, tk, os⟩ →
        wpAny (model prog w) A' (pyIter (.ref t)) Q E ⟨hp, g, d, tk, os⟩ := fun q => (begins_tuple t items).iter prog w _ _ ⟨hp, g, d, tk, os⟩ _ ht q
    wp_walk using begin_
    refine wpAny_stack_any fun st => wpAny_pure ?_
    split
    · rename_i c _ _ _ _ _
      cases (c == Value.type "enumerate")
      all_goals
        wp_walk using begin_
        exact ⟨_, rfl, go⟩
    · wp_walk using begin_
      exact ⟨_, rfl, go⟩
section
variable {prog : Program} {w : World} {A : Around} {E : Value → Shared → Prop} {s : Shared}
theorem enum_tup {t : Addr} {items : Array Value} {Q : Value → Shared → Prop} (ht : s.heap.IsTuple t items)
    (k : ∀ h', IsEnum h' (s.heap.objs.size + 1) s.heap.objs.size 0 .none → h'.IsTupleIter s.heap.objs.size t 0 → (∀ b o, s.heap.get? b = some o → h'.get? b = some o) → Q (.ref (s.heap.objs.size + 1)) { s with heap := h' }) :
    wpAny (model prog w) A (call (.type "enumerate") [.ref t]) Q E s := by
  refine callType_new F.called_enumerate (by decide) (F.typeCall_enumerate_1 _) (F.newCall_enumerate_1 _) (fun obj => F.args_object_init_2 obj _) F.entry_enumerate_new (enum_tup_new t items) ⟨ht, ?_⟩
  let itO : Obj := { cls := .type "tuple_iterator", data := .fields #[.ref t, .int 0 0] }
  let enO : Obj := { cls := .type "enumerate", data := .fields #[.none, .bool false, .ref s.heap.objs.size, rawInt 0, .none, .none] }
  have size : (s.heap.push itO).objs.size = s.heap.objs.size + 1 := Heap.size_push ..
  have en : ((s.heap.push itO).push enO).get? (s.heap.objs.size + 1) = some enO := by
    have z := Heap.get?_push_size (s.heap.push itO) (o := enO) rfl
    rwa [size] at z
  have old : ∀ b o, s.heap.get? b = some o → ((s.heap.push itO).push enO).get? b = some o := fun b o e => Heap.get?_push_of_some _ (Heap.get?_push_of_some _ e)
  exact ⟨⟨_, en, rfl⟩, k _ en ⟨itO, Heap.get?_push_of_some _ (Heap.get?_push_size _ rfl), rfl, rfl⟩ old⟩
end
theorem draws_end {prog : Program} {w : World} {A : Around} (hh : A.handled = none) (it t : Addr) (items : Array Value) (i : Nat) (hx : items[i]? = none) :
    Draws prog w A it [it, t] i (fun _ _ => True) (fun j h => j = i ∧ h.IsTupleIter it t i ∧ h.IsTuple t items) where
  live := fun _ _ st => let ⟨o, ho, _⟩ := st.2.1; ⟨o, ho⟩
  frame := fun _ _ _ st hk => ⟨st.1, st.2.1.at fun o e => hk it (List.mem_cons_self ..) o e, st.2.2.at fun o e => hk t (List.mem_cons_of_mem _ (List.mem_singleton.mpr rfl)) o e⟩
  item := fun j s Q E hj st _ => absurd st.1 (Nat.ne_of_lt hj)
  done := fun s Q E st hE => wpAny_nextOf_tuple_end hh st.2.1 st.2.2 hx hE
/-- the tuple at a, each item in a new pair with its place -/
def Itu (K : PySem.W.Frag) (a : Addr) : It :=
  ⟨fun i H => ∃ (xs : List V) (x : V), SqT K H a xs ∧ xs[i]? = some x, fun i H v H' => ∃ T x, v = .ref T ∧ H T = none ∧ H' = upd H T (.tup [.int (i : Nat), x]) ∧ ∀ xs, SqT K H a xs → xs[i]? = some x, fun i H => ∃ xs : List V, SqT K H a xs ∧ xs.length ≤ i⟩
theorem turn_enumT {P : Program} {w : World} {K : PySem.W.Frag} {elts : List Expr} {kk : Nat} {tpos : Pos} (a e it : Addr) :
    Turn P w K (.Tuple elts kk tpos) (Itu K a) [e, it] e (fun i h => (∃ old, IsEnum h e it ((i : Nat) : Int) old) ∧ h.IsTupleIter it a i ∧ e ≠ it) where
  mem := List.mem_cons_self ..
  obj := fun i h st b hb => by
    obtain ⟨⟨old, he⟩, ⟨o, ho, hc, hd⟩, _⟩ := st
    rcases List.mem_cons.mp hb with rfl | hb
    · exact ⟨_, he, fun v q => nomatch q⟩
    · obtain rfl := List.mem_singleton.mp hb
      exact ⟨o, ho, fun v q => by rw [hd] at q; cases q⟩
  keep := fun i h h' st k => let ⟨⟨old, he⟩, hi, hne⟩ := st; ⟨⟨old, k e (List.mem_cons_self ..) _ he⟩, hi.at fun o q => k it (List.mem_cons_of_mem _ (List.mem_singleton.mpr rfl)) o q, hne⟩
  item := by
    intro X hP hw hK hc i pins s σ H E I free st hg
    subst hP hw hK
    obtain ⟨⟨old, he⟩, hit, hne⟩ := st
    obtain ⟨xs, x, hq, hx⟩ := hg
    obtain ⟨its, rv, tup, hz⟩ := I.tuple hq
    obtain ⟨u, hu, ru⟩ := rv.get hx
    have len := rv.length
    have il : i < its.length := by
      obtain ⟨l, _⟩ := List.getElem?_eq_some_iff.mp hu
      exact l
    have off : a ≠ it := by
      rintro rfl
      obtain ⟨o1, e1, c1, n1, d1⟩ := tup
      obtain ⟨o2, e2, c2, d2⟩ := hit
      rw [e1] at e2
      cases e2
      rw [d1] at d2
      cases d2
    refine wpAny_pyNext_enum_itemD (n := its.toArray.size) (Draws.tuple (show X.A.in1.handled = none from I.ok.hd hc) it a off its.toArray) he (And.intro hit tup) (by simpa using il) hne (fun z => ?_) fun y h1 tk hy out st1 new size old1 => ?_
    · rcases List.mem_cons.mp z with z | z
      · exact hne z
      · obtain rfl := List.mem_singleton.mp z
        obtain ⟨o1, e1, c1, n1, d1⟩ := tup
        rw [he] at e1
        cases e1
        cases d1
    have ey : y = u := by
      have z : its.toArray[i]? = some u := by simpa using hu
      exact Option.some.inj (hy.symm.trans z)
    subst ey
    refine ⟨_, rfl, wpAny_letOwnedTupleGo_enum (s := { s with heap := h1, toks := tk + 1 }) out fun h2 he2 sb => ?_⟩
    have lt : e < s.heap.objs.size := Heap.lt_size he
    have T2 : h2.get? s.heap.objs.size = some { cls := .type "tuple", data := .seq #[.int i tk, y] } := (sb.2 _ (Nat.ne_of_gt lt)).trans new
    have ob : ObjOk X.prog X.w (upd H s.heap.objs.size (.tup [.int (i : Nat), x])) h2 s.heap.objs.size (.tup [.int (i : Nat), x]) :=
      ⟨by show 2 ≤ sizeLine; decide, [.int i tk, y], .cons ⟨_, rfl⟩ (.cons ru .nil), _, T2, rfl, _, rfl⟩
    have J : Inv X pins σ (upd H s.heap.objs.size (.tup [.int (i : Nat), x])) { s with heap := h2, toks := tk + 1 } :=
      I.turnedNew (ch := [e, it]) (fun b o hb q => (sb.2 b fun z => hb (by simp [z])).trans (old1 b o (fun z => hb (by simp [z])) (fun z => hb (by simp [z])) q)) free (Nat.le_refl _) ob
    refine ⟨.ref s.heap.objs.size, _, J, rfl, ⟨_, x, rfl, I.hok.fresh (Nat.le_refl _), rfl, fun ys hy => by rw [I.tuple_inj hy hq]; exact hx⟩, ⟨⟨y, ?_⟩, st1.1.at fun o q => (sb.2 it (Ne.symm hne)).trans q, hne⟩, fun b hb => ?_⟩
    · rw [show ((i + 1 : Nat) : Int) = (i : Int) + 1 by omega]
      exact he2
    · have z : b < s.heap.objs.size := by
        rcases List.mem_cons.mp hb with rfl | hb
        · exact lt
        · obtain rfl := List.mem_singleton.mp hb
          obtain ⟨_, q, _⟩ := hit
          exact Heap.lt_size q
      rw [upd_ne (Nat.ne_of_lt z)]
      exact (free b hb).1
  done := by
    intro X hP hw hK hc i pins s σ H E I free st hg
    subst hP hw hK
    obtain ⟨⟨old, he⟩, hit, hne⟩ := st
    obtain ⟨xs, hq, hx⟩ := hg
    obtain ⟨its, rv, tup, hz⟩ := I.tuple hq
    obtain ⟨f0, f1, f2, f3, f4, f5⟩ := free it (List.mem_cons_of_mem _ (List.mem_singleton.mpr rfl))
    have len := rv.length
    have none_ : its.toArray[i]? = none := by simp; omega
    exact wpAny_pyNext_enum_endD (draws_end (show X.A.in1.handled = none from I.ok.hd hc) it a its.toArray i none_) he ⟨rfl, hit, tup⟩ fun h' eb => ⟨rfl, I.turned (t' := s.toks) (fun b o hb q => eb b o hb q) f0 f1 f3 f4 f5⟩
  self := fun A i s Q E st h => let ⟨⟨_, he⟩, _⟩ := st; wpAny_pyIter_enum he h
def iEnumT (K : PySem.W.Frag) (ta : TA) : TI := fun σ H R => ta σ H fun vs H1 => ∃ a xs, vs = [.ref a] ∧ SqT K H1 a xs ∧ R (Itu K a) H1
theorem pi_enumT {X : Cx} {e : Expr} {ta : TA} {p pos tpos : Pos} {elts : List Expr} {kk : Nat} (hg : Gl X "enumerate") (hm : X.mg "enumerate" = none) (ha : PA X [e] ta) (hs : starEach [e] X.env = [(false, eval e X.env)] := by rfl) :
    PI X (.Tuple elts kk tpos) (.Call (.Name "enumerate" p) [e] [] pos) (iEnumT X.K ta) := by
  constructor
  intro pins s σ H R I h
  refine Call_ (ld_blt I hg hm boot_enumerate (PyProof.Rows.callWith_type1 (thn (ha.run pos pins s σ H _ I h) ?_) hs rfl))
  rintro us s1 ⟨_, H1, J, rv, a, xs, rfl, hq, go⟩
  cases rv with
  | cons r more =>
    cases more
    cases r
    obtain ⟨its, rv2, tup, hz⟩ := J.tuple hq
    refine enum_tup tup fun h' he hit old => wpAny_pyIter_enum he ?_
    refine ⟨s1.heap.objs.size + 1, [s1.heap.objs.size + 1, s1.heap.objs.size], _, _, H1, rfl, J.kept (t' := s1.toks) old, turn_enumT a (s1.heap.objs.size + 1) s1.heap.objs.size, ⟨⟨.none, he⟩, hit, Nat.succ_ne_self _⟩, fun b hb => ?_, go⟩
    have le : s1.heap.objs.size ≤ b := by
      rcases List.mem_cons.mp hb with rfl | hb
      · exact Nat.le_succ _
      · exact Nat.le_of_eq (List.mem_singleton.mp hb).symm
    exact J.fpOk le (J.hok.fresh le)
theorem walk_enumT {K : PySem.W.Frag} {a : Addr} {xs : List V} : Walk (Itu K a) xs.length (fun H => SqT K H a xs) (YPair (fun i => some (.int (i : Nat))) (fun i => xs[i]?)) :=
  ⟨fun i _ hi q => ⟨xs, xs[i], q, List.getElem?_eq_getElem hi⟩, fun _ q => ⟨xs, q, Nat.le_refl _⟩, fun i _ _ _ _ q y => let ⟨T, x, h1, h2, h3, h4⟩ := y; ⟨T, .int (i : Nat), x, h1, h2, h3, rfl, h4 xs q⟩⟩
end V2

set_option maxHeartbeats 4000000
/-! V2: data asked for its kind; data as the library's; in, == over data -/
namespace V2
open PySem PySem.Spec PyProof.Rows L2 V1
def tyName : PyData → String
  | .none => "NoneType"
  | .bool _ => "bool"
  | .int _ => "int"
  | .str _ => "str"
  | .list _ => "list"
  | .tuple _ => "tuple"
  | .dict _ => "dict"
theorem dq_ty {K : PySem.W.Frag} {H : Hp} {v : V} {d : PyData} (h : Dq H v d) : TyX K H v (.type (tyName d)) := by
  cases h with
  | non => exact .base .non
  | bl b => exact .base (.bl b)
  | int i => exact .base (.int i)
  | str x => exact .base (.str x)
  | lst e _ _ => exact .base (.lst e)
  | tup e _ => exact .base (.tup e)
  | dct e _ => exact .base (.dK e)
def isInt : PyData → Bool
  | .int _ => true
  | _ => false
def isBool : PyData → Bool
  | .bool _ => true
  | _ => false
def isStr : PyData → Bool
  | .str _ => true
  | _ => false
def isTup : PyData → Bool
  | .tuple _ => true
  | _ => false
def isLst : PyData → Bool
  | .list _ => true
  | _ => false
theorem kit_int (d : PyData) : kitB (tyName d) "int" = some (isInt d || isBool d) := by cases d <;> kernel_rfl
theorem kit_bool (d : PyData) : kitB (tyName d) "bool" = some (isBool d) := by cases d <;> kernel_rfl
theorem kit_str (d : PyData) : kitB (tyName d) "str" = some (isStr d) := by cases d <;> kernel_rfl
theorem kit_tup (d : PyData) : kitB (tyName d) "tuple" = some (isTup d) := by cases d <;> kernel_rfl
theorem kit_lst (d : PyData) : kitB (tyName d) "list" = some (isLst d) := by cases d <;> kernel_rfl
section
variable {K : PySem.W.Frag} {σ : L2.St} {H : Hp} {Q : VK} {te : TE} {v : V} {d : PyData} {n : String} {b : Bool}
theorem isi_go (hb : kitB (tyName d) n = some b) (ht : ∀ Q : VK, Q v H → te σ H Q) (hd : Dq H v d) (q : Q (.bl b) H) : tCB (rIsi K) (tCons te (tCons (tC (.ty n)) tNil)) σ H Q :=
  ht _ ⟨v, .ty n, _, _, b, rfl, .ty n, dq_ty hd, kit_ty hb, q⟩
/-- isinstance(x, (tuple, list)) -/
theorem isiT_go {n1 n2 : String} (hb : PySem.W.kitAny K (.type (tyName d)) [.type n1, .type n2] = some b) (ht : ∀ Q : VK, Q v H → te σ H Q) (hd : Dq H v d) (q : ∀ p, H p = none → Q (.bl b) (upd H p (.tup [.ty n1, .ty n2]))) :
    tCB (rIsiT K) (tCons te (tCons (tTup (tCons (tC (.ty n1)) (tCons (tC (.ty n2)) tNil))) tNil)) σ H Q :=
  ht _ ⟨(by show 2 ≤ sizeLine; decide), fun p np => ⟨v, p, _, _, _, b, rfl, upd_same, .cons (.ty n1) (.cons (.ty n2) .nil), dq_ty (Dq.same (same_new np) d v hd), hb, q p np⟩⟩
theorem kit_tl (d : PyData) : PySem.W.kitAny K (.type (tyName d)) [.type "tuple", .type "list"] = some (isTup d || isLst d) := by
  have h1 := kit_ty (K := K) (kit_tup d)
  have h2 := kit_ty (K := K) (kit_lst d)
  show (match PySem.W.kitOne K (.type (tyName d)) (.type "tuple") with
    | some true => some true
    | some false => (match PySem.W.kitOne K (.type (tyName d)) (.type "list") with
      | some true => some true
      | some false => some false
      | none => none)
    | none => none) = _
  rw [h1, h2]
  cases isTup d <;> cases isLst d <;> rfl
end
/-! data without dicts, as the library's == and in read it -/
mutual
def plain : PyData → Bool
  | .none | .bool _ | .int _ | .str _ => true
  | .list xs | .tuple xs => plainAll xs
  | .dict _ => false
def plainAll : List PyData → Bool
  | [] => true
  | x :: xs => plain x && plainAll xs
end
section
variable {K : PySem.W.Frag} {H : Hp}
mutual
theorem dq_dp : ∀ (d : PyData) (v : V), plain d = true → Dq H v d → Dp K H v d
  | .none, _, _, h => by cases h; exact .non
  | .bool b, _, _, h => by cases h; exact .bl b
  | .int i, _, _, h => by cases h; exact .int i
  | .str x, _, _, h => by cases h; exact .str x
  | .list ds, _, p, h => by
    cases h with
    | lst e _ r => exact .lst (.inl (.inl e)) (dqAll_dp ds _ (by simpa [plain] using p) r)
  | .tuple ds, _, p, h => by
    cases h with
    | tup e r => exact .tup (.inl (.inl e)) (dqAll_dp ds _ (by simpa [plain] using p) r)
  | .dict _, _, p, _ => by simp [plain] at p
theorem dqAll_dp : ∀ (ds : List PyData) (vs : List V), plainAll ds = true → DqAll H vs ds → DpAll K H vs ds
  | [], _, _, h => by cases h; exact .nil
  | d :: ds, _, p, h => by
    cases h with
    | cons one more =>
      have p' : plain d = true ∧ plainAll ds = true := by simpa [plainAll] using p
      exact .cons (dq_dp d _ p'.1 one) (dqAll_dp ds _ p'.2 more)
end
end
/-- x in t, t a tuple of data -/
def rInT (K : PySem.W.Frag) (neg : Bool) : R2 := fun x y H Q => ∃ d ds, Dp K H x d ∧ Dp K H y (.tuple ds) ∧ SeqAt.shaped d = true ∧ SeqAt.shaped (.tuple ds) = true ∧ Q (.bl (neg.xor (ds.any fun z => PyData.eqv z d))) H
section
variable {X : Cx}
theorem op_inT (hu : X.A.units + 70 < cLine) : OpR X (compareOp .In) (rInT X.K false) := by
  rintro pins s σ H x y v u Q I rx ry ⟨d, ds, hd, he, sd, se, q⟩
  obtain ⟨as, r1⟩ := Dp.reads I d x v hd rx
  obtain ⟨bs, r2⟩ := Dp.reads I (.tuple ds) y u he ry
  have dep : d.depth ≤ 64 := by
    have z : (d.canLay0 && decide (d.depth ≤ 64)) = true := sd
    simp only [Bool.and_eq_true, decide_eq_true_eq] at z
    exact z.2
  exact SeqAt.in_tuple_reads r2 r1 (by simpa [PyData.canLay0] using SeqAt.canLay_of_shaped se) (SeqAt.canLay_of_shaped sd) (by omega) ⟨.bl _, H, I, rfl, by simpa using q⟩
theorem op_notInT (hu : X.A.units + 70 < cLine) : OpR X (compareOp .NotIn) (rInT X.K true) := by
  rintro pins s σ H x y v u Q I rx ry ⟨d, ds, hd, he, sd, se, q⟩
  obtain ⟨as, r1⟩ := Dp.reads I d x v hd rx
  obtain ⟨bs, r2⟩ := Dp.reads I (.tuple ds) y u he ry
  have dep : d.depth ≤ 64 := by
    have z : (d.canLay0 && decide (d.depth ≤ 64)) = true := sd
    simp only [Bool.and_eq_true, decide_eq_true_eq] at z
    exact z.2
  exact SeqAt.notIn_tuple_reads r2 r1 (by simpa [PyData.canLay0] using SeqAt.canLay_of_shaped se) (SeqAt.canLay_of_shaped sd) (by omega) ⟨.bl _, H, I, rfl, by simpa using q⟩
end
end V2

set_option maxHeartbeats 4000000
/-! V2c: exceptions of one field; the own == -/
namespace V2
open PySem PySem.Spec PyProof.Rows L2 V1
open Evl (pss_cut tCut sq_of st_of)
section
variable {P : Program} {w : World} {K : PySem.W.Frag} {mg : Str → Option Value} {base : Heap}
theorem ok_init {name qual : Str} {params : Arguments} {body : List Stmt} {scope : Scope} {C fI : Addr} {fd : FuncData} {f : Str} {p1 p2 p3 p4 : Pos} (F : FunD K name qual params body scope [] [] fI fd) (S : FnScope ["self", f] ["self", f] scope)
    (hb : body = [.Assign [.Attribute (.Name "self" p1) f p2] (.Name f p3) p4]) (hC : OexC K C) (no : PySem.W.findIn K (.ref C) f = some none) (hf : (f == ("__debug__" : Str)) = false) (hf2 : (f == ("__classdict__" : Str)) = false)
    (v0 : Vis scope "self") (v1 : Vis scope f) (sw : ∀ env : Env, swapsWith (.Name f p3) (some (.Attribute (.Name "self" p1) f p2)) p4.line env = pure false) : FnOk P w K mg base CX0 1 fI fd ["self", f] (spIni K C f) := by
  subst hb
  refine F.ok S (fun vs H Q E h => ?_) (fun cdv A outer s H vs Q E hr h => ?_)
  · obtain ⟨a, v, rfl, _⟩ := h
    rfl
  · refine ⟨_, PSs.nox (pss_one (ps_ost (pe_var (i := 0) rfl v0) (pe_var (i := 1) rfl v1 hf hf2) (sw _))), ?_⟩
    obtain ⟨a, v, rfl, e, hQ⟩ := h
    exact ⟨v, rfl, _, rfl, a, C, rfl, hC, no, .inl ⟨e, fun dx n ne => hQ dx n ne⟩⟩
structure Fld (P : Program) (w : World) (K : PySem.W.Frag) (mg : Str → Option Value) (base : Heap) (x f : Str) : Prop where
  gC : mg x = some (.ref (He.ga K x))
  oex : OexC K (He.ga K x)
  no : PySem.W.findIn K (.ref (He.ga K x)) f = some none
  init : ∃ fI fd, PySem.W.findIn K (.ref (He.ga K x)) "__init__" = some (some (.ref fI)) ∧ PySem.W.typeIn K (.ref fI) = some (.type "function") ∧ FnOk P w K mg base CX0 1 fI fd ["self", f] (spIni K (He.ga K x) f) ∧ Binds K fd ["self", f] []
theorem pe_fld {X : Cx} {x f : Str} {e : Expr} {es : List Expr} {ta : TA} {p pos : Pos} (h : Fld X.prog X.w X.K X.mg X.base x f) (hr : Room 2 X.A) (ha : PA X (e :: es) ta) (hg : Gl X x := by rfl) (hdb : (x == ("__debug__" : Str)) = false := by decide)
    (he : starEach (e :: es) X.env = (false, eval e X.env) :: starEach es X.env := by rfl) (hpl : (backTo pos (starEach es X.env)).any (·.1) = false := by rfl) :
    PE X (.Call (.Name x p) (e :: es) [] pos) (tMkV (He.ga X.K x) (spIni X.K (He.ga X.K x) f) [] ta) := by
  obtain ⟨fI, fd, h1, h2, h3, h4⟩ := h.init
  exact pe_mkV h.oex h1 h2 h3 hr h4 .nil pass0 hg h.gC ha hdb he hpl
theorem pmk_fld {X : Cx} {x f : Str} {e : Expr} {es : List Expr} {ta : TA} {p pos : Pos} (h : Fld X.prog X.w X.K X.mg X.base x f) (hr : Room 2 X.A) (ha : PA X (e :: es) ta) (hg : Gl X x := by rfl) (hdb : (x == ("__debug__" : Str)) = false := by decide)
    (he : starEach (e :: es) X.env = (false, eval e X.env) :: starEach es X.env := by rfl) (hpl : (backTo pos (starEach es X.env)).any (·.1) = false := by rfl) :
    PMk X (.Call (.Name x p) (e :: es) [] pos) (tMkO (He.ga X.K x) (spIni X.K (He.ga X.K x) f) [] ta) := by
  obtain ⟨fI, fd, h1, h2, h3, h4⟩ := h.init
  exact pmk_oex h.oex h1 h2 h3 hr h4 .nil pass0 hg h.gC ha hdb he hpl
theorem meth_ty {K : PySem.W.Frag} {C f : Addr} {m : Str} (h : Meth K C m f) : PySem.W.typeIn K (.ref f) = some (.type "function") := eq_of_beq h.fn
theorem fld_of {x f : Str} {name qual : Str} {params : Arguments} {body : List Stmt} {scope : Scope} {fI : Addr} {fd : FuncData} {bm : List Value} {p1 p2 p3 p4 : Pos}
    (F : FunD K name qual params body scope [] [] fI fd) (S : FnScope ["self", f] ["self", f] scope) (hb : body = [.Assign [.Attribute (.Name "self" p1) f p2] (.Name f p3) p4])
    (gC : mg x = some (.ref (He.ga K x))) (E : ExK K (He.ga K x) bm) (hr : PySem.HandSPX.refsVE bm = true) (hbe : (Value.ref (He.ga K x) :: bm).contains (.type "BaseException") = true)
    (no : PySem.W.findIn K (.ref (He.ga K x)) f = some none) (m : Meth K (He.ga K x) "__init__" fI) (hf : (f == ("__debug__" : Str)) = false) (hf2 : (f == ("__classdict__" : Str)) = false)
    (v0 : Vis scope "self") (v1 : Vis scope f) (sw : ∀ env : Env, swapsWith (.Name f p3) (some (.Attribute (.Name "self" p1) f p2)) p4.line env = pure false) (b : Binds K fd ["self", f] []) : Fld P w K mg base x f :=
  ⟨gC, E.oex hr hbe, no, fI, fd, m.at_, meth_ty m, ok_init F S hb (E.oex hr hbe) no hf hf2 v0 v1 sw, b⟩
end
def tyNames : List String := ["NoneType", "bool", "int", "str", "list", "tuple", "dict"]
/-- what isinstance and == ask of a plain class -/
def insB (K : PySem.W.Frag) (C : Addr) : Bool :=
  decide (PySem.W.findIn K (.ref C) "__class__" = some (some (.builtin "object.__class__"))) && (decide (PySem.W.mroIn K C (.type "object") = some true) && (decide (PySem.W.kitOne K (.ref C) (.ref C) = some true) &&
    tyNames.all fun n => decide (PySem.W.kitOne K (.type n) (.ref C) = some false) && PySem.W.notFirst K C (.type n)))
structure InsK (K : PySem.W.Frag) (C : Addr) : Prop where
  ha : PySem.W.findIn K (.ref C) "__class__" = some (some (.builtin "object.__class__"))
  hm : PySem.W.mroIn K C (.type "object") = some true
  me : PySem.W.kitOne K (.ref C) (.ref C) = some true
  no : ∀ n ∈ tyNames, PySem.W.kitOne K (.type n) (.ref C) = some false
  nf : ∀ n ∈ tyNames, PySem.W.notFirst K C (.type n) = true
theorem insK_of {K : PySem.W.Frag} {C : Addr} (h : insB K C = true) : InsK K C := by
  unfold insB at h
  simp only [Bool.and_eq_true, List.all_eq_true, decide_eq_true_eq] at h
  exact ⟨h.1, h.2.1, h.2.2.1, fun n hn => (h.2.2.2 n hn).1, fun n hn => (h.2.2.2 n hn).2⟩
theorem tyName_mem (d : PyData) : tyName d ∈ tyNames := by cases d <;> simp [tyName, tyNames]
theorem InsK.ins {K : PySem.W.Frag} {C : Addr} (h : InsK K C) (c : Cls K C) (a : ClsAttr K) : C8.InsC K C := ⟨c, h.ha, a.1, a.2, h.hm, h.me⟩
section
variable {K : PySem.W.Frag} {σ : L2.St} {H : Hp} {Q : VK} {te : TE} {v : V} {d : PyData} {C : Addr}
theorem TyX_ins {a dx : Addr} {fs : List (Str × V)} (e : H a = some (.ins C dx fs)) (c : C8.InsC K C) : TyX K H (.ref a) (.ref C) := .base (.ins e c.cl c.ha c.hn c.htk c.hm)
/-- isinstance(x, C), C a plain class: data -/
theorem isiC_no (i : InsK K C) (ht : ∀ Q : VK, Q v H → te σ H Q) (hd : Dq H v d) (q : Q (.bl false) H) : tCB (rIsi K) (tCons te (tCons (tC (.ref C)) tNil)) σ H Q :=
  ht _ ⟨v, .ref C, _, _, false, rfl, .own C, dq_ty hd, i.no _ (tyName_mem d), q⟩
theorem isiC_yes {a dx : Addr} {fs : List (Str × V)} (i : C8.InsC K C) (ht : ∀ Q : VK, Q (.ref a) H → te σ H Q) (e : H a = some (.ins C dx fs)) (q : Q (.bl true) H) : tCB (rIsi K) (tCons te (tCons (tC (.ref C)) tNil)) σ H Q :=
  ht _ ⟨.ref a, .ref C, _, _, true, rfl, .own C, TyX_ins e i, i.me, q⟩
end
/-- x == y by x's own == -/
def rOwnE (K : PySem.W.Frag) (C : Addr) (sp : Sp) (E : XK) : R2 := fun x y H Q => ∃ a dx fs t, x = .ref a ∧ H a = some (.ins C dx fs) ∧ TyX K H y t ∧ PySem.W.notFirst K C t = true ∧ sp [.ref a, y] H (fun v H' => ∃ b, v = .bl b ∧ Q (.bl b) H') E
section
variable {X : Cx} {pins : List (Addr × Obj)} {σ : L2.St} {H : Hp} {s : Shared}
theorem op_ownE {CX : CXT} {C f : Addr} {fd : FuncData} {ps : List Str} {sp : Sp} {E : XK} {n : Nat} (F : FnOk X.prog X.w X.K X.mg X.base CX n f fd ps sp)
    (hs : PySem.W.findIn X.K (.ref C) "__eq__" = some (some (.ref f))) (hf : PySem.W.isFn X.K (.ref f) = true) (hb : Binds X.K fd ps []) (hx : Passes CX X E) (hr : Room n X.A) : OpR X (compareOp .Eq) (rOwnE X.K C sp E) := by
  intro pins s σ H x y v u Q I rx ry hq
  obtain ⟨a, dx, fs, t, rfl, ha, ty, nf, h⟩ := hq
  cases rx
  show wpAny (model X.prog X.w) X.A (richCompare .Eq (.ref a) u) (EP X pins σ Q) X.xe s
  obtain ⟨P, Z, p, _⟩ := kit_of I ry ty
  obtain ⟨mA, J, _⟩ := ins_get I.hok ha
  obtain ⟨od, J, _⟩ := J.look
  obtain ⟨m, hF⟩ := I.fr
  refine PySem.W.cmp_K (op := .Eq) (tb := t) hr.units0 hF I.ok.mod.kin J (Z.ty (model X.prog X.w) s.heap I.kIn p) nf hs hf ?_
  have hl := F.len _ _ _ _ h
  have r2 : Vals [V.ref a, y] [Value.ref a, u] := .cons rfl (.cons ry .nil)
  refine wpAny_call (codeAny_mono (F.run X.A X.stack s H ⟨[.ref a, u], []⟩ [.ref a, u] [.ref a, y] _ E hr I.env0 (by
    have := hb s [.ref a, u] I.kIn (by simpa using hl)
    simpa using this) r2 h) fun r s' hq => ?_)
  cases r with
  | error e => exact hx pins σ H s e s' I hq
  | ok fl =>
    cases fl with
    | ret w =>
      obtain ⟨z, H', I', rz, b, ez, q⟩ := I.after hq
      subst ez
      cases rz
      exact ⟨.bl b, H', I', rfl, q⟩
    | next => exact False.elim hq
    | brk => exact False.elim hq
    | cont => exact False.elim hq
end
end V2

set_option maxHeartbeats 4000000
/-! V2d: raise X() of a bare own class; comprehensions that make lists of data -/
namespace V2
open PySem PySem.Spec PyProof.Rows L2 V1
theorem pmk_mk0 {X : Cx} {C : Addr} {bmB : List Value} {B newId initId : String} {x : Str} {p pos : Pos} (F : ExcBaseFacts B newId initId bmB) (q : PySem.W.excIn X.K C bmB newId = true) (gC : X.mg x = some (.ref C)) (kC : PySem.W.keepIn X.K (.ref C) = true)
    (r : Raises X (.ref C)) (hg : Gl X x) (hdb : (x == ("__debug__" : Str)) = false := by decide) : PMk X (.Call (.Name x p) [] [] pos) (fun _ H Q => Q (.ref C) none H) := by
  intro pins s σ H Q I h
  refine wpAny_Call_Name_kw (ld_glob I hg gC ?_ hdb)
  refine PySem.W.callWith_K0 I.kIn kC ?_
  obtain ⟨bm, N, nm, qn, bs, hdct, sn, sub, ab, col, dd, k0, k1, k2, k3, k5, mN, hC, hN, hni, T⟩ := exc_obj I.kIn q
  refine wpAny_call_exc_subT F T hC hN hni (fun h' a hm => ?_) (Nat.zero_le _)
  exact mk_of I hm r h (I.hok.gone hm.new)
theorem DqAll.app {H : Hp} : ∀ {vs us : List V} {ds es : List PyData}, DqAll H vs ds → DqAll H us es → DqAll H (vs ++ us) (ds ++ es)
  | _, _, _, _, .nil, h => h
  | _, _, _, _, .cons one more, h => .cons one (DqAll.app more h)
theorem same_delD {H H' : Hp} {D : Addr} (h : Same H H') (n : H D = none) : Same H (delH H' D) := fun b o e => by
  rw [delH_ne (ne_of_none e n)]
  exact h b o e
/-- the list at D has come to acc, behind i turns; Pv tells of the heap without it -/
def Lc (D : Addr) (Pv : Nat → List V → Hp → Prop) (i : Nat) (H : Hp) : Prop := ∃ acc, acc.length ≤ i ∧ H D = some (.lst acc) ∧ Pv i acc (delH H D)
theorem lc_put {D : Addr} {Pv : Nat → List V → Hp → Prop} {i : Nat} {H : Hp} {acc : List V} {y : V} (l : acc.length ≤ i) (z : i < 1000) (e : H D = some (.lst acc)) (p : Pv (i + 1) (acc ++ [y]) (delH H D)) :
    ∃ acc, H D = some (.lst acc) ∧ acc.length < sizeLine ∧ Lc D Pv (i + 1) (upd H D (.lst (acc ++ [y]))) :=
  ⟨acc, e, Nat.lt_of_le_of_lt l (small1000 (by omega)), acc ++ [y], by rw [List.length_append]; simp; omega, upd_same, by rw [delH_upd]; exact p⟩
theorem lc_skip {D : Addr} {Pv : Nat → List V → Hp → Prop} {i : Nat} {H : Hp} {acc : List V} (l : acc.length ≤ i) (e : H D = some (.lst acc)) (p : Pv (i + 1) acc (delH H D)) : Lc D Pv (i + 1) H := ⟨acc, by omega, e, p⟩
theorem lc_gen {J : It} {n : Nat} {G : Hp → Prop} {Y : Nat → Hp → V → Hp → Prop} (w : Walk J n G Y) {g : TG} {tt : TT} {te : TE} {vs : List Nat} {σ : L2.St} {H1 : Hp} {D : Addr} {Qd : Hp → Prop} (nD : H1 D = none) (Pv : Nat → List V → Hp → Prop) (h0 : Pv 0 [] H1)
    (hG : ∀ i acc H, i ≤ n → Pv i acc (delH H D) → G H)
    (hs : ∀ i acc x H H', i < n → acc.length ≤ i → H D = some (.lst acc) → Pv i acc (delH H D) → Y i H x H' → g x (wipe σ vs) H' fun σ2 H2 => wipe σ2 vs = wipe σ vs ∧ tt σ2 H2 fun b H3 =>
      if b = true then te σ2 H3 fun y H4 => ∃ acc, H4 D = some (.lst acc) ∧ acc.length < sizeLine ∧ Lc D Pv (i + 1) (upd H4 D (.lst (acc ++ [y]))) else Lc D Pv (i + 1) H3)
    (hd : ∀ acc H, acc.length ≤ n → H D = some (.lst acc) → Pv n acc (delH H D) → Qd H) :
    ∃ W : Nat → Nat → Hp → Prop, (∃ m, W 0 m (upd H1 D (.lst []))) ∧ ∀ i m H, W i m H →
      (J.stop i H ∧ Qd H) ∨ (J.go i H ∧ ∃ Nx : Hp → Prop, (∀ H', Nx H' → ∃ m', m' < m ∧ W (i + 1) m' H') ∧ ∀ x H', J.yld i H x H' → g x (wipe σ vs) H' fun σ2 H2 => wipe σ2 vs = wipe σ vs ∧ tt σ2 H2 fun b H3 =>
        if b = true then te σ2 H3 fun y H4 => ∃ acc, H4 D = some (.lst acc) ∧ acc.length < sizeLine ∧ Nx (upd H4 D (.lst (acc ++ [y]))) else Nx H3) :=
  lc_it (σ := σ) w (Lc D Pv) ⟨[], Nat.le_refl _, upd_same, by rw [delH_new nD]; exact h0⟩ (fun i H hi ⟨acc, _, _, p⟩ => hG i acc H hi p) (fun i x H H' hi ⟨acc, l, e, p⟩ y => hs i acc x H H' hi l e p y) (fun H ⟨acc, l, e, p⟩ => hd acc H l e p)
/-- [.. for i in range(n)], no test, each item data made anew -/
theorem lc_rows {K : PySem.W.Frag} {n : Nat} (hz : n ≤ 1000) {te : TE} {i0 : Nat} {vs : List Nat} {σ : L2.St} {H1 : Hp} {D : Addr} {Qd : Hp → Prop} {lo : Int} (f : Nat → PyData) (nD : H1 D = none)
    (hw : ∀ x : V, wipe ((wipe σ vs).set i0 (some x)) vs = wipe σ vs)
    (mk : ∀ i, i < n → ∀ H, Same H1 (delH H D) → (∃ o, H D = some o) → ∀ Q : VK, (∀ v H', Same H H' → Dq (delH H' D) v (f i) → Q v H') → te ((wipe σ vs).set i0 (some (.int (lo + (i : Nat))))) H Q)
    (hd : ∀ us H, H D = some (.lst us) → Same H1 H → DqAll H us ((List.range n).map f) → Qd H) :
    ∃ W : Nat → Nat → Hp → Prop, (∃ m, W 0 m (upd H1 D (.lst []))) ∧ ∀ i m H, W i m H →
      ((Itr lo n).stop i H ∧ Qd H) ∨ ((Itr lo n).go i H ∧ ∃ Nx : Hp → Prop, (∀ H', Nx H' → ∃ m', m' < m ∧ W (i + 1) m' H') ∧ ∀ x H', (Itr lo n).yld i H x H' → gName i0 x (wipe σ vs) H' fun σ2 H2 => wipe σ2 vs = wipe σ vs ∧ tYes σ2 H2 fun b H3 =>
        if b = true then te σ2 H3 fun y H4 => ∃ acc, H4 D = some (.lst acc) ∧ acc.length < sizeLine ∧ Nx (upd H4 D (.lst (acc ++ [y]))) else Nx H3) := by
  refine lc_gen (σ := σ) walk_range nD (fun i acc H => Same H1 H ∧ DqAll H acc ((List.range i).map f)) ⟨Same.refl _, .nil⟩ (fun _ _ _ _ _ => True.intro) ?_ (fun acc H _ e p => hd acc H e (fun b o q => same_delH _ _ (p.1 _ _ q)) (DqAll.same same_delH _ _ p.2))
  rintro i acc x H H' hi l e ⟨sm, p⟩ ⟨rfl, rfl⟩
  refine ⟨hw _, ?_⟩
  simp only [tYes, if_true]
  refine mk i hi H' sm ⟨_, e⟩ _ fun v H2 s2 q2 => ?_
  refine lc_put l (by omega) (s2 _ _ e) ⟨fun b o q => ?_, ?_⟩
  · exact same_del s2 _ _ (sm _ _ q)
  · rw [List.range_succ, List.map_append]
    exact DqAll.app (DqAll.same (same_del s2) _ _ p) (.cons q2 .nil)
end V2

set_option maxHeartbeats 4000000
/-! V2e: C(..) of a plain class within try; isinstance of the caught exception that has a field -/
namespace V2
open PySem PySem.Spec PyProof.Rows L2 V1
def HasC (P : Program) (w : World) (K : PySem.W.Frag) (mg : Str → Option Value) (base : Heap) (CX : CXT) (k : Nat) (x : Str) (ps : List Str) (sp : Sp) : Prop :=
  ∃ fI fd, Mk K (He.ga K x) fI ∧ FnOk P w K mg base CX k fI fd ps sp ∧ Binds K fd ps [] ∧ mg x = some (.ref (He.ga K x))
theorem pe_hasC {X : Cx} {CX : CXT} {k : Nat} {x : Str} {ps : List Str} {sp : Sp} {E : XK} {e : Expr} {es : List Expr} {t : TA} {p pos : Pos} (h : HasC X.prog X.w X.K X.mg X.base CX k x ps sp) (hr : Room (k + 1) X.A) (hx : Passes CX X E) (ha : PA X (e :: es) t) (hg : Gl X x := by rfl)
    (hdb : (x == ("__debug__" : Str)) = false := by decide) (he : starEach (e :: es) X.env = (false, eval e X.env) :: starEach es X.env := by rfl) (hpl : (backTo pos (starEach es X.env)).any (·.1) = false := by rfl) :
    PE X (.Call (.Name x p) (e :: es) [] pos) (tMake (He.ga X.K x) sp [] E t) := by
  obtain ⟨fI, fd, M, F, b, g⟩ := h
  exact pe_make M F hr hg g b .nil hx ha hdb he hpl
/-- C(..), what it lets out by the slots -/
def tMakeS (C : Addr) (sp : Sp) (E : L2.St → XK) (t : TA) : TE := fun σ H Q => tMake C sp [] (E σ) t σ H Q
theorem pe_hasCS {X : Cx} {CX : CXT} {k : Nat} {x : Str} {ps : List Str} {sp : Sp} {E : L2.St → XK} {e : Expr} {es : List Expr} {t : TA} {p pos : Pos} (h : HasC X.prog X.w X.K X.mg X.base CX k x ps sp) (hr : Room (k + 1) X.A) (hx : ∀ σ, PassesAt CX X σ (E σ)) (ha : PA X (e :: es) t) (hg : Gl X x := by rfl)
    (hdb : (x == ("__debug__" : Str)) = false := by decide) (he : starEach (e :: es) X.env = (false, eval e X.env) :: starEach es X.env := by rfl) (hpl : (backTo pos (starEach es X.env)).any (·.1) = false := by rfl) :
    PE X (.Call (.Name x p) (e :: es) [] pos) (tMakeS (He.ga X.K x) sp E t) := by
  obtain ⟨fI, fd, M, F, b, g⟩ := h
  constructor
  intro pins s σ H Q I h
  refine wpAny_Call_Name_kw (ld_glob I hg g ?_ hdb)
  refine PySem.W.callWith_K (h₀ := X.base) I.ok.mod.kin M.kp (thn (ha.run pos pins s σ H _ I h) fun us t1 hh => ?_) he hpl
  obtain ⟨vs, H1, J, rv, q⟩ := hh
  refine ⟨J.kIn, ?_⟩
  have q1 := q (t1.heap.objs.size + 1) t1.heap.objs.size (J.hok.fresh (Nat.le_succ _)) (J.hok.fresh (Nat.le_refl _)) (Nat.ne_of_lt (Nat.lt_succ_self _))
  rw [List.append_nil] at q1
  have J2 := Inv.made (C := He.ga X.K x) J
  have rv2 : Vals (V.ref (t1.heap.objs.size + 1) :: vs) (Value.ref (t1.heap.objs.size + 1) :: us) := .cons rfl rv
  have ln : (Value.ref (t1.heap.objs.size + 1) :: us).length = ps.length := rv2.length.symm.trans (F.len _ _ _ _ q1)
  have bd := b _ (Value.ref (t1.heap.objs.size + 1) :: us) J2.kIn (by rw [List.append_nil]; exact ln)
  rw [List.append_nil] at bd
  refine wpAny_call (make_map (f := fI) J.kIn M.makes M.init (beq_iff_eq.mp M.fn) (codeAny_mono (F.run _ X.stack _ _ ⟨Value.ref (t1.heap.objs.size + 1) :: us, []⟩ _ _ _ (E σ) (hr.make (He.ga X.K x) us [])
    (J2.env0.make (He.ga X.K x) us []) bd rv2 q1) fun r s' hq => ?_))
  match r, hq with
  | .error e, hq => exact hx σ pins _ _ e s' J2 hq
  | .ok (.ret u), hq =>
    obtain ⟨z, H', J3, rz, ez, q3⟩ := J2.after hq
    subst ez
    exact ⟨rz, ⟨V.ref (t1.heap.objs.size + 1), H', J3, rfl, q3⟩⟩
  | .ok .next, hq => exact False.elim hq
  | .ok .brk, hq => exact False.elim hq
  | .ok .cont, hq => exact False.elim hq
/-- isinstance(e, c), e the caught exception, with its dict -/
def rIsXd (K : PySem.W.Frag) (a C : Addr) (cls : Value) (d : Option Addr) : List V → Hp → VK → Prop := fun xs H Q => cls = .ref C ∧ ∃ (c : V) (u : Value) (b : Bool) (dd : Addr) (fs : List (Str × V)), xs = [.ref a, c] ∧ ClsV c u ∧ PySem.W.kitOne K (.ref C) u = some b ∧ d = some dd ∧ H dd = some (.xd fs) ∧ Q (.bl b) H
theorem call_isXd {X : Cx} {a C : Addr} {oe : Obj} {cls : Value} {d : Option Addr} {pn : List (Addr × Obj)} {bm : List Value} (T : ExK X.K C bm) (cA : ClsAttr X.K) (hB : (Value.ref C :: bm).contains (.type "BaseException") = true) (hO : (Value.ref C :: bm).contains (.type "object") = true)
    (hz : Zc cls d oe) (hf : ∃ vs, oe.data = .fields vs) : CallR (X.suite a ((a, oe) :: pn)) (.builtin "isinstance") (rIsXd X.K a C cls d) := by
  intro pins s σ H xs us Q I r h
  obtain ⟨rfl, c, u, b, dd, fs, rfl, k, e, rfl, ea, q⟩ := h
  obtain ⟨w1, w2, rfl, r1, r2⟩ := vals2 r
  obtain rfl : w1 = Value.ref a := r1
  have e2 := k.eq r2
  subst e2
  obtain ⟨ha, _⟩ := I.pin (a, oe) (List.mem_append_left _ List.mem_cons_self)
  obtain ⟨vs, hd⟩ := hf
  have hx : ObjOk X.prog X.w H s.heap dd (.xd fs) := I.hok dd _ ea
  obtain ⟨mA, hns, hr⟩ := hx
  obtain ⟨od, ho, hl⟩ := lookIn_ns hns
  have J : PySem.W.InstAt s.heap a oe C (some od) := ⟨ha, hz.1, by unfold PySem.W.notCls; rw [hd] <;> rfl, by rw [hz.2]; exact ho⟩
  exact PySem.W.kia_one (PySem.W.kitx_exc T.isCls T.ga T.gg (by rw [T.sub, hB]) T.cl cA.gs cA.tk (by rw [T.mro, hO])) I.kIn J e (fun z => nomatch z) fun tk => ⟨.bl b, H, I.tok tk, rfl, q⟩
end V2

set_option maxHeartbeats 4000000
/-! V2f: data at new places only (beside a hand, beside a list that will change) -/
namespace V2
open PySem PySem.Spec PyProof.Rows L2 V1
/-- H, but only what is new behind H0 -/
def newH (H0 H : Hp) : Hp := fun b => match H0 b with
  | none => H b
  | some _ => none
theorem newH_at {H0 H : Hp} {b : Addr} (n : H0 b = none) : newH H0 H b = H b := by
  unfold newH
  rw [n]
theorem newH_old {H0 H : Hp} {b : Addr} {o : HO} (n : H0 b = some o) : newH H0 H b = none := by
  unfold newH
  rw [n]
theorem newH_some {H0 H : Hp} {b : Addr} {o : HO} (h : newH H0 H b = some o) : H0 b = none ∧ H b = some o := by
  cases e : H0 b with
  | none => exact ⟨rfl, by rw [newH_at e] at h; exact h⟩
  | some u =>
    rw [newH_old e] at h
    cases h
theorem newH_sub {H0 H : Hp} : Same (newH H0 H) H := fun _ _ e => (newH_some e).2
theorem newH_up {H0 H H' : Hp} (s : Same H H') : Same (newH H0 H) (newH H0 H') := fun b o e => by
  obtain ⟨n, h⟩ := newH_some e
  rw [newH_at n]
  exact s _ _ h
theorem newH_on {H0 H1 H : Hp} (s : Same H0 H1) : Same (newH H1 H) (newH H0 H) := fun b o e => by
  obtain ⟨n, h⟩ := newH_some e
  have z : H0 b = none := by
    cases q : H0 b with
    | none => rfl
    | some u =>
      rw [s _ _ q] at n
      cases n
  rw [newH_at z]
  exact h
theorem newH_off {H0 H : Hp} {a : Addr} (h : Held H0 a) : Same (newH H0 H) (delH H a) := fun b o e => by
  obtain ⟨n, q⟩ := newH_some e
  obtain ⟨u, hu⟩ := h
  rw [delH_ne (Ne.symm (ne_of_none hu n))]
  exact q
theorem newH_off2 {H0 H : Hp} {a f : Addr} (h : Held H0 a) (hf : Held H0 f) : Same (newH H0 H) (delH (delH H a) f) := fun b o e => by
  obtain ⟨n, q⟩ := newH_some e
  obtain ⟨u, hu⟩ := hf
  rw [delH_ne (Ne.symm (ne_of_none hu n))]
  exact newH_off h b o e
/-- te makes this data at new places -/
def MkN (te : TE) (σ : L2.St) (d : PyData) : Prop := ∀ H, ∀ Q : VK, (∀ v H', Same H H' → Dq (newH H H') v d → Q v H') → te σ H Q
def MkNA (ta : TA) (σ : L2.St) (ds : List PyData) : Prop := ∀ H, ∀ Q : List V → Hp → Prop, (∀ vs H', Same H H' → DqAll (newH H H') vs ds → Q vs H') → ta σ H Q
section
variable {σ : L2.St} {d : PyData} {ds : List PyData} {te : TE} {ta : TA}
theorem mkn_non : MkN (tC .non) σ .none := fun H _ k => k _ H (Same.refl H) .non
theorem mkn_bl (b : Bool) : MkN (tC (.bl b)) σ (.bool b) := fun H _ k => k _ H (Same.refl H) (.bl b)
theorem mkn_int (i : Int) : MkN (tC (.int i)) σ (.int i) := fun H _ k => k _ H (Same.refl H) (.int i)
theorem mkn_str (x : Str) : MkN (tC (.str x)) σ (.str x) := fun H _ k => k _ H (Same.refl H) (.str x)
theorem mkna_nil : MkNA tNil σ [] := fun H _ k => k [] H (Same.refl H) .nil
theorem mkna_cons (h : MkN te σ d) (r : MkNA ta σ ds) : MkNA (tCons te ta) σ (d :: ds) := fun H _ k => h H _ fun v H1 s1 q1 => r H1 _ fun vs H2 s2 q2 =>
  k (v :: vs) H2 (s1.trans s2) (.cons (Dq.same (newH_up s2) d v q1) (DqAll.same (newH_on s1) ds vs q2))
theorem mkn_tup (r : MkNA ta σ ds) (hz : ds.length ≤ 1000) : MkN (tTup ta) σ (.tuple ds) := fun H _ k => r H _ fun vs H1 s1 q1 =>
  ⟨Nat.le_of_lt (small1000 (by rw [dqAll_len q1]; exact hz)), fun p n => k _ _ (s1.trans (same_new n)) (.tup (by rw [newH_at (fresh_up s1 n)]; exact upd_same) (DqAll.same (newH_up (same_new n)) ds vs q1))⟩
theorem mkn_lst (r : MkNA ta σ ds) (hz : ds.length ≤ 1000) : MkN (tLstS ta) σ (.list ds) := fun H _ k => r H _ fun vs H1 s1 q1 =>
  ⟨Nat.le_of_lt (small1000 (by rw [dqAll_len q1]; exact hz)), fun p n low => k _ _ (s1.trans (same_new n)) (.lst (by rw [newH_at (fresh_up s1 n)]; exact upd_same) low (DqAll.same (newH_up (same_new n)) ds vs q1))⟩
theorem mkn_dict0 : MkN tDNewK σ (.dict []) := fun H _ k p n => k _ _ (same_new n) (.dct (by rw [newH_at n]; exact upd_same) .nil)
end
end V2

set_option maxHeartbeats 4000000
/-! V2g: data made beside a hand at a and a list at f, from the heap H0 on (old data may be within) -/
namespace V2
open PySem PySem.Spec PyProof.Rows L2 V1
def MkR (H0 : Hp) (a f : Addr) (te : TE) (σ : L2.St) (d : PyData) : Prop := ∀ H, Same H0 H → ∀ Q : VK, (∀ v H', Same H H' → Dq (delH (delH H' a) f) v d → Q v H') → te σ H Q
def MkRA (H0 : Hp) (a f : Addr) (ta : TA) (σ : L2.St) (ds : List PyData) : Prop := ∀ H, Same H0 H → ∀ Q : List V → Hp → Prop, (∀ vs H', Same H H' → DqAll (delH (delH H' a) f) vs ds → Q vs H') → ta σ H Q
section
variable {H0 : Hp} {a f : Addr} {σ : L2.St} {d : PyData} {ds : List PyData} {te : TE} {ta : TA}
theorem mkr_new (ha : Held H0 a) (hf : Held H0 f) (h : MkN te σ d) : MkR H0 a f te σ d := fun H s Q k => h H Q fun v H' s' q => k v H' s' (Dq.same (newH_off2 (ha.same s) (hf.same s)) _ _ q)
theorem mkra_nil : MkRA H0 a f tNil σ [] := fun H _ _ k => k [] H (Same.refl H) .nil
theorem mkra_cons (h : MkR H0 a f te σ d) (r : MkRA H0 a f ta σ ds) : MkRA H0 a f (tCons te ta) σ (d :: ds) := fun H s _ k => h H s _ fun v H1 s1 q1 => r H1 (s.trans s1) _ fun vs H2 s2 q2 =>
  k (v :: vs) H2 (s1.trans s2) (.cons (Dq.same (same_del (same_del s2)) d v q1) q2)
theorem mkr_lst (ha : Held H0 a) (hf : Held H0 f) (r : MkRA H0 a f ta σ ds) (hz : ds.length ≤ 1000) : MkR H0 a f (tLstS ta) σ (.list ds) := fun H s _ k => r H s _ fun vs H1 s1 q1 =>
  ⟨Nat.le_of_lt (small1000 (by rw [dqAll_len q1]; exact hz)), fun p n low => k _ _ (s1.trans (same_new n)) (.lst (by
    obtain ⟨u, hu⟩ := ha.same (s.trans s1)
    obtain ⟨w, hw⟩ := hf.same (s.trans s1)
    rw [delH_ne (Ne.symm (ne_of_none hw n)), delH_ne (Ne.symm (ne_of_none hu n))]
    exact upd_same) low (DqAll.same (same_del (same_del (same_new n))) ds vs q1))⟩
/-- what stands already -/
theorem mkr_old {v : V} (h : Dq (delH (delH H0 a) f) v d) (ht : ∀ H, Same H0 H → ∀ Q : VK, Q v H → te σ H Q) : MkR H0 a f te σ d := fun H s Q k => ht H s Q (k v H (Same.refl H) (Dq.same (same_del (same_del s)) _ _ h))
end
end V2

set_option maxHeartbeats 4000000
/-! V3a: data with objects of plain classes in it: the shape of an object is objD, a dict that no dict has -/
namespace V3
open PySem PySem.Spec PyProof.Rows L2 V1 V2
class CurK where
  K : PySem.W.Frag
abbrev K [k : CurK] : PySem.W.Frag := k.K
def kindNames : List String := ["int", "bool", "str", "tuple", "list", "dict"]
/-- what more is asked of a plain class: its objects are of no built-in kind -/
def kindB (K : PySem.W.Frag) (C : Addr) : Bool := kindNames.all fun n => decide (PySem.W.kitOne K (.ref C) (.type n) = some false)
structure ObC [CurK] (C : Addr) : Prop where
  ins : C8.InsC K C
  no : ∀ n ∈ kindNames, PySem.W.kitOne K (.ref C) (.type n) = some false
theorem obC_of [CurK] {C : Addr} (i : C8.InsC K C) (h : kindB K C = true) : ObC C := ⟨i, fun n hn => by
  unfold kindB at h
  rw [List.all_eq_true] at h
  exact of_decide_eq_true (h n hn)⟩
def objD : PyData := .dict [(.none, .none)]
mutual
inductive Dx [CurK] (H : Hp) : V → PyData → Prop
  | non : Dx H .non .none
  | bl (b : Bool) : Dx H (.bl b) (.bool b)
  | int (i : Int) : Dx H (.int i) (.int i)
  | str (x : Str) : Dx H (.str x) (.str x)
  | lst {a : Addr} {xs : List V} {ds : List PyData} (at_ : H a = some (.lst xs)) (low : (a == sysModules) = false) (rest : DxAll H xs ds) : Dx H (.ref a) (.list ds)
  | tup {a : Addr} {xs : List V} {ds : List PyData} (at_ : H a = some (.tup xs)) (rest : DxAll H xs ds) : Dx H (.ref a) (.tuple ds)
  | dct {a : Addr} {kvs : List (Key × V)} {ds : List (PyData × PyData)} (at_ : H a = some (.dK kvs)) (rest : DxKv H kvs ds) : Dx H (.ref a) (.dict ds)
  | ob {a C dx : Addr} {fs : List (Str × V)} (at_ : H a = some (.ins C dx fs)) (ok : ObC C) : Dx H (.ref a) objD
inductive DxAll [CurK] (H : Hp) : List V → List PyData → Prop
  | nil : DxAll H [] []
  | cons {v : V} {vs : List V} {d : PyData} {ds : List PyData} (one : Dx H v d) (more : DxAll H vs ds) : DxAll H (v :: vs) (d :: ds)
inductive DxKv [CurK] (H : Hp) : List (Key × V) → List (PyData × PyData) → Prop
  | nil : DxKv H [] []
  | cons {k : Key} {v : V} {kvs : List (Key × V)} {d : PyData} {ds : List (PyData × PyData)} (one : Dx H v d) (more : DxKv H kvs ds) : DxKv H ((k, v) :: kvs) ((keyD k, d) :: ds)
end
section
variable [CurK] {H H' : Hp}
mutual
theorem Dx.same (e : Same H H') : ∀ (d : PyData) (v : V), Dx H v d → Dx H' v d
  | .none, _, h => by cases h; exact .non
  | .bool b, _, h => by cases h; exact .bl b
  | .int i, _, h => by cases h; exact .int i
  | .str x, _, h => by cases h; exact .str x
  | .list ds, _, h => by
    cases h with
    | lst at_ low rest => exact .lst (e _ _ at_) low (DxAll.same e ds _ rest)
  | .tuple ds, _, h => by
    cases h with
    | tup at_ rest => exact .tup (e _ _ at_) (DxAll.same e ds _ rest)
  | .dict ds, _, h => by
    cases h with
    | dct at_ rest => exact .dct (e _ _ at_) (DxKv.same e ds _ rest)
    | ob at_ ok => exact .ob (e _ _ at_) ok
theorem DxAll.same (e : Same H H') : ∀ (ds : List PyData) (vs : List V), DxAll H vs ds → DxAll H' vs ds
  | [], _, h => by cases h; exact .nil
  | d :: ds, _, h => by
    cases h with
    | cons one more => exact .cons (Dx.same e d _ one) (DxAll.same e ds _ more)
theorem DxKv.same (e : Same H H') : ∀ (ds : List (PyData × PyData)) (kvs : List (Key × V)), DxKv H kvs ds → DxKv H' kvs ds
  | [], _, h => by cases h; exact .nil
  | (k, d) :: ds, _, h => by
    cases h with
    | cons one more => exact .cons (Dx.same e d _ one) (DxKv.same e ds _ more)
end
/-! plain data are such data -/
mutual
theorem dx_of : ∀ (d : PyData) (v : V), Dq H v d → Dx H v d
  | .none, _, h => by cases h; exact .non
  | .bool b, _, h => by cases h; exact .bl b
  | .int i, _, h => by cases h; exact .int i
  | .str x, _, h => by cases h; exact .str x
  | .list ds, _, h => by
    cases h with
    | lst at_ low rest => exact .lst at_ low (dxAll_of ds _ rest)
  | .tuple ds, _, h => by
    cases h with
    | tup at_ rest => exact .tup at_ (dxAll_of ds _ rest)
  | .dict ds, _, h => by
    cases h with
    | dct at_ rest => exact .dct at_ (dxKv_of ds _ rest)
theorem dxAll_of : ∀ (ds : List PyData) (vs : List V), DqAll H vs ds → DxAll H vs ds
  | [], _, h => by cases h; exact .nil
  | d :: ds, _, h => by
    cases h with
    | cons one more => exact .cons (dx_of d _ one) (dxAll_of ds _ more)
theorem dxKv_of : ∀ (ds : List (PyData × PyData)) (kvs : List (Key × V)), DqKv H kvs ds → DxKv H kvs ds
  | [], _, h => by cases h; exact .nil
  | (k, d) :: ds, _, h => by
    cases h with
    | cons one more => exact .cons (dx_of d _ one) (dxKv_of ds _ more)
end
/-! such data without dicts have no objects either -/
mutual
theorem dq_of : ∀ (d : PyData) (v : V), V2.plain d = true → Dx H v d → Dq H v d
  | .none, _, _, h => by cases h; exact .non
  | .bool b, _, _, h => by cases h; exact .bl b
  | .int i, _, _, h => by cases h; exact .int i
  | .str x, _, _, h => by cases h; exact .str x
  | .list ds, _, p, h => by
    cases h with
    | lst at_ low rest => exact .lst at_ low (dqAll_of ds _ (by simpa [V2.plain] using p) rest)
  | .tuple ds, _, p, h => by
    cases h with
    | tup at_ rest => exact .tup at_ (dqAll_of ds _ (by simpa [V2.plain] using p) rest)
  | .dict ds, _, p, h => by simp [V2.plain] at p
theorem dqAll_of : ∀ (ds : List PyData) (vs : List V), plainAll ds = true → DxAll H vs ds → DqAll H vs ds
  | [], _, _, h => by cases h; exact .nil
  | d :: ds, _, p, h => by
    cases h with
    | cons one more =>
      have p' : V2.plain d = true ∧ plainAll ds = true := by simpa [plainAll] using p
      exact .cons (dq_of d _ p'.1 one) (dqAll_of ds _ p'.2 more)
end
theorem Dx.int_inv {v : V} {n : Int} (h : Dx H v (.int n)) : v = .int n := by
  cases h
  rfl
theorem Dx.str_inv {v : V} {n : Str} (h : Dx H v (.str n)) : v = .str n := by
  cases h
  rfl
theorem Dx.bool_inv {v : V} {n : Bool} (h : Dx H v (.bool n)) : v = .bl n := by
  cases h
  rfl
theorem Dx.none_inv {v : V} (h : Dx H v .none) : v = .non := by
  cases h
  rfl
theorem Dx.tup_inv {v : V} {ds : List PyData} (h : Dx H v (.tuple ds)) : ∃ a vs, v = .ref a ∧ H a = some (.tup vs) ∧ DxAll H vs ds := by
  cases h with
  | tup e r => exact ⟨_, _, rfl, e, r⟩
theorem Dx.lst_inv {v : V} {ds : List PyData} (h : Dx H v (.list ds)) : ∃ a vs, v = .ref a ∧ H a = some (.lst vs) ∧ (a == sysModules) = false ∧ DxAll H vs ds := by
  cases h with
  | lst e l r => exact ⟨_, _, rfl, e, l, r⟩
theorem dxAll_len : ∀ {vs : List V} {ds : List PyData}, DxAll H vs ds → vs.length = ds.length
  | _, _, .nil => rfl
  | _, _, .cons _ more => by rw [List.length_cons, List.length_cons, dxAll_len more]
theorem DxAll.at : ∀ {vs : List V} {ds : List PyData} {j : Nat} {v : V} {d : PyData}, DxAll H vs ds → vs[j]? = some v → ds[j]? = some d → Dx H v d
  | _ :: _, _ :: _, 0, _, _, .cons one _, e, e' => by
    obtain rfl := Option.some.inj e
    obtain rfl := Option.some.inj e'
    exact one
  | _ :: _, _ :: _, j + 1, _, _, .cons _ more, e, e' => DxAll.at (j := j) more e e'
theorem DxAll.some : ∀ {vs : List V} {ds : List PyData} {i : Nat} {v : V}, DxAll H vs ds → vs[i]? = some v → ∃ d, d ∈ ds ∧ Dx H v d
  | _, _, 0, _, .cons one _, h => ⟨_, List.mem_cons_self, Option.some.inj h ▸ one⟩
  | _, _, i + 1, _, .cons _ more, h => by
    obtain ⟨d, m, q⟩ := DxAll.some (i := i) more h
    exact ⟨d, List.mem_cons_of_mem _ m, q⟩
theorem DxAll.take : ∀ {vs : List V} {ds : List PyData} (n : Nat), DxAll H vs ds → DxAll H (vs.take n) (ds.take n)
  | _, _, 0, _ => by
    rw [List.take_zero, List.take_zero]
    exact .nil
  | _, _, _ + 1, .nil => .nil
  | _, _, n + 1, .cons one more => .cons one (DxAll.take n more)
theorem DxAll.drop : ∀ {vs : List V} {ds : List PyData} (n : Nat), DxAll H vs ds → DxAll H (vs.drop n) (ds.drop n)
  | _, _, 0, h => h
  | _, _, _ + 1, .nil => .nil
  | _, _, n + 1, .cons _ more => DxAll.drop n more
theorem DxAll.app : ∀ {vs us : List V} {ds es : List PyData}, DxAll H vs ds → DxAll H us es → DxAll H (vs ++ us) (ds ++ es)
  | _, _, _, _, .nil, h => h
  | _, _, _, _, .cons one more, h => .cons one (DxAll.app more h)
theorem DxAll.insAt {vs : List V} {ds : List PyData} {v : V} {d : PyData} (h : DxAll H vs ds) (hv : Dx H v d) (i : Nat) : DxAll H (vs.take i ++ [v] ++ vs.drop i) (ds.take i ++ [d] ++ ds.drop i) :=
  DxAll.app (DxAll.app (DxAll.take i h) (.cons hv .nil)) (DxAll.drop i h)
theorem DxAll.erase : ∀ {vs : List V} {ds : List PyData} (n : Nat), DxAll H vs ds → DxAll H (vs.eraseIdx n) (ds.eraseIdx n)
  | _, _, _, .nil => .nil
  | _, _, 0, .cons _ more => more
  | _, _, n + 1, .cons one more => .cons one (DxAll.erase n more)
theorem DxAll.put {v : V} {d : PyData} (hv : Dx H v d) : ∀ {vs : List V} {ds : List PyData} (n : Nat), DxAll H vs ds → DxAll H (vs.set n v) (ds.set n d)
  | _, _, _, .nil => .nil
  | _, _, 0, .cons _ more => .cons hv more
  | _, _, n + 1, .cons one more => .cons one (DxAll.put hv n more)
end
/-! the kind of such data -/
section
variable [CurK] {σ : L2.St} {H : Hp} {Q : VK} {te : TE} {v : V} {d : PyData} {n n1 n2 : String} {b b1 b2 : Bool}
/-- the answers of isinstance for this shape -/
def KindIs (d : PyData) (n : String) (b : Bool) : Prop := kitB (tyName d) n = some b ∧ n ∈ kindNames ∧ (d = objD → b = false)
theorem kx_of (k : KindIs d n b) (h : Dx H v d) : ∃ t, TyX K H v t ∧ PySem.W.kitOne K t (.type n) = some b := by
  obtain ⟨k1, k2, k3⟩ := k
  have z := kit_ty (K := K) k1
  cases h with
  | non => exact ⟨_, .base .non, z⟩
  | bl b => exact ⟨_, .base (.bl b), z⟩
  | int i => exact ⟨_, .base (.int i), z⟩
  | str x => exact ⟨_, .base (.str x), z⟩
  | lst e _ _ => exact ⟨_, .base (.lst e), z⟩
  | tup e _ => exact ⟨_, .base (.tup e), z⟩
  | dct e _ => exact ⟨_, .base (.dK e), z⟩
  | ob e ok => exact ⟨_, TyX_ins e ok.ins, by rw [k3 rfl]; exact ok.no _ k2⟩
theorem kx_tup (d : PyData) : KindIs d "tuple" (isTup d) := ⟨kit_tup d, by decide, fun e => by rw [e]; rfl⟩
theorem kx_lst (d : PyData) : KindIs d "list" (isLst d) := ⟨kit_lst d, by decide, fun e => by rw [e]; rfl⟩
theorem kx_int (d : PyData) : KindIs d "int" (isInt d || isBool d) := ⟨kit_int d, by decide, fun e => by rw [e]; rfl⟩
theorem kx_bool (d : PyData) : KindIs d "bool" (isBool d) := ⟨kit_bool d, by decide, fun e => by rw [e]; rfl⟩
theorem kx_str (d : PyData) : KindIs d "str" (isStr d) := ⟨kit_str d, by decide, fun e => by rw [e]; rfl⟩
theorem isx_go (hb : KindIs d n b) (ht : ∀ Q : VK, Q v H → te σ H Q) (hd : Dx H v d) (q : Q (.bl b) H) : tCB (rIsi K) (tCons te (tCons (tC (.ty n)) tNil)) σ H Q := by
  obtain ⟨t, ty, k⟩ := kx_of hb hd
  exact ht _ ⟨v, .ty n, _, _, b, rfl, .ty n, ty, k, q⟩
/-- isinstance(x, (T1, T2)) -/
theorem isxT_go (h1 : KindIs d n1 b1) (h2 : KindIs d n2 b2) (ht : ∀ Q : VK, Q v H → te σ H Q) (hd : Dx H v d) (q : ∀ p, H p = none → Q (.bl (b1 || b2)) (upd H p (.tup [.ty n1, .ty n2]))) :
    tCB (rIsiT K) (tCons te (tCons (tTup (tCons (tC (.ty n1)) (tCons (tC (.ty n2)) tNil))) tNil)) σ H Q :=
  ht _ ⟨(by show 2 ≤ sizeLine; decide), fun p np => by
    have hd' := Dx.same (same_new (o := HO.tup [.ty n1, .ty n2]) np) d v hd
    have z : ∃ t, TyX K (upd H p (.tup [.ty n1, .ty n2])) v t ∧ PySem.W.kitOne K t (.type n1) = some b1 ∧ PySem.W.kitOne K t (.type n2) = some b2 := by
      obtain ⟨k1, k2, k3⟩ := h1
      obtain ⟨m1, m2, m3⟩ := h2
      have z1 := kit_ty (K := K) k1
      have z2 := kit_ty (K := K) m1
      cases hd' with
      | non => exact ⟨_, .base .non, z1, z2⟩
      | bl b => exact ⟨_, .base (.bl b), z1, z2⟩
      | int i => exact ⟨_, .base (.int i), z1, z2⟩
      | str x => exact ⟨_, .base (.str x), z1, z2⟩
      | lst e _ _ => exact ⟨_, .base (.lst e), z1, z2⟩
      | tup e _ => exact ⟨_, .base (.tup e), z1, z2⟩
      | dct e _ => exact ⟨_, .base (.dK e), z1, z2⟩
      | ob e ok => exact ⟨_, TyX_ins e ok.ins, by rw [k3 rfl]; exact ok.no _ k2, by rw [m3 rfl]; exact ok.no _ m2⟩
    obtain ⟨t, ty, e1, e2⟩ := z
    refine ⟨v, p, _, _, _, b1 || b2, rfl, upd_same, .cons (.ty n1) (.cons (.ty n2) .nil), ty, ?_, q p np⟩
    show (match PySem.W.kitOne K t (.type n1) with
      | Option.some true => Option.some true
      | Option.some false => (match PySem.W.kitOne K t (.type n2) with
        | Option.some true => Option.some true
        | Option.some false => Option.some false
        | Option.none => Option.none)
      | Option.none => Option.none) = _
    rw [e1, e2]
    cases b1 <;> cases b2 <;> rfl⟩
end
/-! made at new places; made beside a hand -/
def MkX [CurK] (te : TE) (σ : L2.St) (d : PyData) : Prop := ∀ H, ∀ Q : VK, (∀ v H', Same H H' → Dx (newH H H') v d → Q v H') → te σ H Q
def MkXA [CurK] (ta : TA) (σ : L2.St) (ds : List PyData) : Prop := ∀ H, ∀ Q : List V → Hp → Prop, (∀ vs H', Same H H' → DxAll (newH H H') vs ds → Q vs H') → ta σ H Q
def MkY [CurK] (H0 : Hp) (a : Addr) (te : TE) (σ : L2.St) (d : PyData) : Prop := ∀ H, Same H0 H → ∀ Q : VK, (∀ v H', Same H H' → Dx (delH H' a) v d → Q v H') → te σ H Q
def MkYA [CurK] (H0 : Hp) (a : Addr) (ta : TA) (σ : L2.St) (ds : List PyData) : Prop := ∀ H, Same H0 H → ∀ Q : List V → Hp → Prop, (∀ vs H', Same H H' → DxAll (delH H' a) vs ds → Q vs H') → ta σ H Q
section
variable [CurK] {σ : L2.St} {d : PyData} {ds : List PyData} {te : TE} {ta : TA}
theorem mkx_of (h : MkN te σ d) : MkX te σ d := fun H Q k => h H Q fun v H' s q => k v H' s (dx_of d v q)
theorem mkxa_nil : MkXA tNil σ [] := fun H _ k => k [] H (Same.refl H) .nil
theorem mkxa_cons (h : MkX te σ d) (r : MkXA ta σ ds) : MkXA (tCons te ta) σ (d :: ds) := fun H _ k => h H _ fun v H1 s1 q1 => r H1 _ fun vs H2 s2 q2 =>
  k (v :: vs) H2 (s1.trans s2) (.cons (Dx.same (newH_up s2) d v q1) (DxAll.same (newH_on s1) ds vs q2))
theorem mkx_tup (r : MkXA ta σ ds) (hz : ds.length ≤ 1000) : MkX (tTup ta) σ (.tuple ds) := fun H _ k => r H _ fun vs H1 s1 q1 =>
  ⟨Nat.le_of_lt (small1000 (by rw [dxAll_len q1]; exact hz)), fun p n => k _ _ (s1.trans (same_new n)) (.tup (by rw [newH_at (fresh_up s1 n)]; exact upd_same) (DxAll.same (newH_up (same_new n)) ds vs q1))⟩
theorem mkx_lst (r : MkXA ta σ ds) (hz : ds.length ≤ 1000) : MkX (tLstS ta) σ (.list ds) := fun H _ k => r H _ fun vs H1 s1 q1 =>
  ⟨Nat.le_of_lt (small1000 (by rw [dxAll_len q1]; exact hz)), fun p n low => k _ _ (s1.trans (same_new n)) (.lst (by rw [newH_at (fresh_up s1 n)]; exact upd_same) low (DxAll.same (newH_up (same_new n)) ds vs q1))⟩
end
end V3

set_option maxHeartbeats 4000000
/-! V3b: xs.extend(t), t a tuple; more of data made beside a hand -/
namespace V3
open PySem PySem.Spec PyProof.Rows L2 V1 V2
open AutoSeq1
theorem extend_tup (l : Addr) (xs : Array Value) (n : Nat) (b : Addr) (o : Obj) (ys : Array Value) (m : Nat) (hc : o.cls = .type "tuple") (hd : o.data = .seq ys m) (h0 : ¬(!xs.isEmpty && Builtin.List.listTooLong (xs.size + ys.size)) = true) (h1 : xs.size ≤ sizeLine) (h2 : xs.size + ys.size ≤ sizeLine + 1) :
    Meets (Builtin.«list.extend» ⟨[.ref l, .ref b], []⟩) (fun _ R s => s.heap.get? l = some { cls := .type "list", dict := none, data := .seq xs n, slots := #[] } ∧ s.heap.get? b = some o ∧
      R (.ok (.ret Value.none)) { s with heap := s.heap.update l (Obj.mapSeq fun x => x ++ ys), toks := s.toks }) :=
  .of_wp fun prog w A R s hh => by
    obtain ⟨hp, g, dr, tk, os⟩ := s
    obtain ⟨hl, hb, go⟩ := hh
    have i1 := idx_int
    have i2 := AutoSeq1.sub_tuple_tuple
    have i3 := AutoSeq1.sub_list_list
    have i4 := AutoSeq1.sub_tuple_list
    have i5 := AutoSeq1.sub_list_tuple
    have lim : (xs ++ ys).size ≤ sizeLine + 1 := by
      rw [Array.size_append]
      exact h2
    obtain ⟨cls, dict, data, slots⟩ := o
    dsimp only at hc hd
    subst hc hd
    wp_walk using (wpAny_updateSeq hl rfl (hz := h1) (_hz' := lim)), wpAny_loadPart' hl, wpAny_loadPart' hb
    exact ⟨_, rfl, go⟩
def rExtT (K : PySem.W.Frag) : V → List V → Hp → VK → Prop := fun x vs H Q => ∃ l b xs zs, x = .ref l ∧ vs = [.ref b] ∧ H l = some (.lst xs) ∧ SqT K H b zs ∧ xs.length + zs.length ≤ sizeLine ∧ Q .non (upd H l (.lst (xs ++ zs)))
theorem mt_extT {X : Cx} : MtM X "list.extend" (rExtT X.K) := by
  rintro pins s σ H x vs v us Q I rx rv ⟨l, b, xs, zs, rfl, rfl, hH, hB, hz, q⟩
  cases rx
  obtain ⟨u, rfl, ru⟩ := rv.one
  cases ru
  obtain ⟨z, its, n, r, hl, e⟩ := I.lstM hH
  obtain ⟨ys, ry, ⟨o, eo, co, m, d⟩, _⟩ := I.tuple hB
  have ly := ry.length
  have lx := r.length
  have small : its.toArray.size + ys.toArray.size ≤ sizeLine := by
    simp only [List.size_toArray]
    omega
  refine call_meets F.slot_list_extend ⟨_, e, rfl⟩ F.entry_list_extend (F.args_list_extend_2 _ _)
    (extend_tup l its.toArray n b o ys.toArray m co d (by rw [notLongL small, Bool.and_false]; exact Bool.false_ne_true) (by omega) (by omega)) ⟨e, eo, .non, _, I.lset (its' := its ++ ys) hH e (by simp) (r.append ry) (by rw [List.length_append]; omega), rfl, q⟩
end V3

set_option maxHeartbeats 4000000
/-! V3c: order of two tuples of texts -/
namespace V3
open PySem PySem.Spec PyProof.Rows L2 V1 V2
/-- which of two texts comes first -/
def txLe (x y : Str) : Bool := !decide (y.cps.toList < x.cps.toList)
def txLt (x y : Str) : Bool := decide (x.cps.toList < y.cps.toList)
def rowLe : List Str → List Str → Bool
  | [], _ => true
  | _ :: _, [] => false
  | x :: xs, y :: ys => if (x == y) = true then rowLe xs ys else txLe x y
def rowLt : List Str → List Str → Bool
  | _, [] => false
  | [], _ :: _ => true
  | x :: xs, y :: ys => if (x == y) = true then rowLt xs ys else txLt x y
theorem lex_row (r : Str → Str → Bool) (z : Nat → Nat → Bool) (f : List Str → List Str → Bool) (hz : ∀ a b, z (a + 1) (b + 1) = z a b) (f0 : ∀ ys : List Str, f [] ys = z 0 ys.length) (f1 : ∀ x xs, f (x :: xs) [] = z (xs.length + 1) 0)
    (f2 : ∀ x xs y ys, f (x :: xs) (y :: ys) = if (x == y) = true then f xs ys else r x y) :
    ∀ (pre pre' ns ms : List Str), pre.length = pre'.length → Ob.lexAt (fun j => (pre ++ ns).getD j Str.empty == (pre' ++ ms).getD j Str.empty) (fun j => r ((pre ++ ns).getD j Str.empty) ((pre' ++ ms).getD j Str.empty)) (z ns.length ms.length) pre.length (min ns.length ms.length) = f ns ms
  | pre, pre', [], ms, _ => by
    rw [List.length_nil, Nat.zero_min, f0]
    rfl
  | pre, pre', n :: ns, [], _ => by
    rw [List.length_nil, Nat.min_zero, f1]
    rfl
  | pre, pre', n :: ns, m :: ms, e => by
    have h1 : (pre ++ n :: ns).getD pre.length Str.empty = n := by simp [List.getD]
    have h2 : (pre' ++ m :: ms).getD pre.length Str.empty = m := by rw [e]; simp [List.getD]
    have ih := lex_row r z f hz f0 f1 f2 (pre ++ [n]) (pre' ++ [m]) ns ms (by simp [e])
    rw [List.append_assoc, List.append_assoc, List.length_append] at ih
    rw [List.length_cons, List.length_cons, Nat.succ_min_succ, Ob.lexAt_succ, f2, hz]
    simp only [h1, h2]
    by_cases q : (n == m) = true
    · rw [if_pos q, if_pos q]
      exact ih
    · rw [if_neg q, if_neg q]
section
variable {X : Cx} {pins : List (Addr × Obj)} {σ : L2.St} {H : Hp} {s : Shared}
theorem texts_at {us : List Value} {ns : List Str} (r : Vals (ns.map V.str) us) (j : Nat) (h : j < us.toArray.size) : ∃ t, us.toArray[j] = Value.str (ns.getD j Str.empty) t := by
  have hj : j < ns.length := by
    have z := r.length
    rw [List.length_map] at z
    rw [List.size_toArray] at h
    omega
  obtain ⟨w, hw, rw'⟩ := r.get (i := j) (x := .str ns[j]) (by rw [List.getElem?_map, List.getElem?_eq_getElem hj]; rfl)
  obtain ⟨t, rfl⟩ := rw'
  refine ⟨t, ?_⟩
  have z : us[j]? = some us[j] := List.getElem?_eq_getElem (by simpa using h)
  rw [z] at hw
  rw [List.getElem_toArray, Option.some.inj hw]
  simp [List.getD, hj]
def rLeTS (K : PySem.W.Frag) : R2 := fun x y H Q => ∃ (a b : Addr) (ns ms : List Str), x = .ref a ∧ y = .ref b ∧ SqT K H a (ns.map V.str) ∧ SqT K H b (ms.map V.str) ∧ Q (.bl (rowLe ns ms)) H
theorem op_leTS (hu : X.A.units < cLine) : OpR X (compareOp .LtE) (rLeTS X.K) := by
  rintro pins s σ H x y v u Q I rx ry ⟨a, b, ns, ms, rfl, rfl, ha, hb, q⟩
  cases rx
  cases ry
  obtain ⟨us, r1, p1, _⟩ := I.tuple ha
  obtain ⟨ws, r2, p2, _⟩ := I.tuple hb
  have l1 : us.toArray.size = ns.length := by rw [List.size_toArray, ← r1.length, List.length_map]
  have l2 : ws.toArray.size = ms.length := by rw [List.size_toArray, ← r2.length, List.length_map]
  have key := lex_row txLe (fun a b => decide (a ≤ b)) rowLe (fun a b => by simp) (fun ys => by simp [rowLe]) (fun x xs => by simp [rowLe]) (fun _ _ _ _ => rfl) [] [] ns ms rfl
  have cmp := Ob.RcOp.tuples_le (A := X.A) (s := s) (e := fun j => ns.getD j Str.empty == ms.getD j Str.empty) (r := fun j => txLe (ns.getD j Str.empty) (ms.getD j Str.empty)) p1 p2 hu
    (fun j g1 g2 => by
      obtain ⟨t, z1⟩ := texts_at r1 j g1
      obtain ⟨t', z2⟩ := texts_at r2 j g2
      rw [z1, z2]
      exact SeqAt.EqAt.str_str _ _ _ _)
    (fun j g1 g2 _ => by
      obtain ⟨t, z1⟩ := texts_at r1 j g1
      obtain ⟨t', z2⟩ := texts_at r2 j g2
      rw [z1, z2]
      exact fun P w E Q k => PySem.P.le_str (by simpa [txLe] using k))
  rw [l1, l2] at cmp
  have last : wpAny (model X.prog X.w) X.A (compareOp .LtE (.ref a) (.ref b)) (EP X pins σ Q) X.xe s := cmp X.prog X.w X.xe (EP X pins σ Q) ⟨.bl _, H, I, rfl, by
    have k2 := key
    simp only [List.nil_append, List.length_nil] at k2
    rw [k2]
    exact q⟩
  exact last
def rLtTS (K : PySem.W.Frag) : R2 := fun x y H Q => ∃ (a b : Addr) (ns ms : List Str), x = .ref a ∧ y = .ref b ∧ SqT K H a (ns.map V.str) ∧ SqT K H b (ms.map V.str) ∧ Q (.bl (rowLt ns ms)) H
theorem op_ltTS (hu : X.A.units < cLine) : OpR X (compareOp .Lt) (rLtTS X.K) := by
  rintro pins s σ H x y v u Q I rx ry ⟨a, b, ns, ms, rfl, rfl, ha, hb, q⟩
  cases rx
  cases ry
  obtain ⟨us, r1, p1, _⟩ := I.tuple ha
  obtain ⟨ws, r2, p2, _⟩ := I.tuple hb
  have l1 : us.toArray.size = ns.length := by rw [List.size_toArray, ← r1.length, List.length_map]
  have l2 : ws.toArray.size = ms.length := by rw [List.size_toArray, ← r2.length, List.length_map]
  have key := lex_row txLt (fun a b => decide (a < b)) rowLt (fun a b => by simp) (fun ys => by cases ys <;> simp [rowLt]) (fun x xs => by simp [rowLt]) (fun _ _ _ _ => rfl) [] [] ns ms rfl
  have cmp := Ob.RcOp.tuples_lt (A := X.A) (s := s) (e := fun j => ns.getD j Str.empty == ms.getD j Str.empty) (r := fun j => txLt (ns.getD j Str.empty) (ms.getD j Str.empty)) p1 p2 hu
    (fun j g1 g2 => by
      obtain ⟨t, z1⟩ := texts_at r1 j g1
      obtain ⟨t', z2⟩ := texts_at r2 j g2
      rw [z1, z2]
      exact SeqAt.EqAt.str_str _ _ _ _)
    (fun j g1 g2 _ => by
      obtain ⟨t, z1⟩ := texts_at r1 j g1
      obtain ⟨t', z2⟩ := texts_at r2 j g2
      rw [z1, z2]
      exact fun P w E Q k => PyProof.Rows.lt_str k)
  rw [l1, l2] at cmp
  have last : wpAny (model X.prog X.w) X.A (compareOp .Lt (.ref a) (.ref b)) (EP X pins σ Q) X.xe s := cmp X.prog X.w X.xe (EP X pins σ Q) ⟨.bl _, H, I, rfl, by
    have k2 := key
    simp only [List.nil_append, List.length_nil] at k2
    rw [k2]
    exact q⟩
  exact last
end
end V3

set_option maxHeartbeats 4000000
/-! V3d: a head whose top asks the world for one habit: told apart, two kernel runs -/
namespace V3
open PySem PySem.W
/-- the habits f, but for this row -/
def hab (row : String) (b : Bool) (f : String → Bool) : String → Bool := fun s => match decide (s = row) with
  | true => b
  | false => f s
theorem hab_eq (row : String) (f : String → Bool) : hab row (f row) f = f := by
  funext s
  unfold hab
  by_cases e : s = row
  · rw [decide_eq_true e, e]
  · rw [decide_eq_false e]
def wHab (row : String) (b : Bool) (w : World) : World := ⟨w.draws, { w.params with followText := hab row b w.params.followText }⟩
theorem wHab_eq (row : String) (w : World) : wHab row (w.params.followText row) w = w := by
  unfold wHab
  rw [hab_eq]
theorem run_hab {p : World → Prop} (row : String) (h1 : ∀ w, p (wHab row true w)) (h0 : ∀ w, p (wHab row false w)) (w : World) : p w := by
  rw [← wHab_eq row w]
  cases w.params.followText row
  · exact h0 w
  · exact h1 w
end V3

set_option maxHeartbeats 4000000
/-! V4a: defs that make lambdas: their code objects and tables, by one look of the kernel; the law's own def among them; the end. -/
namespace V4
open PySem PySem.Spec PyProof.Rows L2 V1 V2 V3 LamX
section
variable {K : PySem.W.Frag} {f : Addr}
/-- the code object of the def at f, and the table of the codes made in it -/
def pairOf (K : PySem.W.Frag) (f : Addr) : Addr × Addr := match K.lookup f with
  | some ⟨_, _, .func fd, _⟩ => match fd.code with
    | .ref c => match K.lookup c with
      | some ⟨_, _, .fields vs, _⟩ => match (vs[11]? : Option Value) with
        | some (Value.ref p) => (c, p)
        | _ => (c, c)
      | _ => (c, c)
    | _ => (f, f)
  | _ => (f, f)
def txtB : Value → Bool
  | .str _ _ => true
  | _ => false
def intB : Value → Bool
  | .int _ _ => true
  | _ => false
def boolB : Value → Bool
  | .bool _ => true
  | _ => false
def headB (K : PySem.W.Frag) (p : Addr × Addr) : Bool := match K.lookup p.1 with
  | some ⟨cl, _, .fields vs, _⟩ => (decide (cl = .type "code") && decide (vs[11]? = some (.ref p.2))) && (txtB (vs.getD 18 .none) && (intB (vs.getD 7 .none) && (boolB (vs.getD 9 .none) && (intB (vs.getD 10 .none) && (!(p.1 == p.2) && (K.lookup p.2).isNone)))))
  | _ => false
def lamB (K : PySem.W.Frag) (f : Addr) : Bool := match K.lookup f with
  | some ⟨_, _, .func fd, _⟩ => decide (fd.code = .ref (pairOf K f).1) && headB K (pairOf K f)
  | _ => false
structure LamD (K : PySem.W.Frag) (f : Addr) : Prop where
  code : ∀ (o : Obj) (fd : FuncData), K.lookup f = some o → o.data = .func fd → fd.code = .ref (pairOf K f).1
  hd : ∀ h : Heap, K.In h → PySem.W.CodeHd h (pairOf K f).1 (pairOf K f).2
  off : K.lookup (pairOf K f).2 = none
theorem txtB_is {v : Value} (h : txtB v = true) : ∃ x t, v = .str x t := by
  cases v <;> first | exact ⟨_, _, rfl⟩ | cases h
theorem intB_is {v : Value} (h : intB v = true) : ∃ x t, v = .int x t := by
  cases v <;> first | exact ⟨_, _, rfl⟩ | cases h
theorem boolB_is {v : Value} (h : boolB v = true) : ∃ x, v = .bool x := by
  cases v <;> first | exact ⟨_, rfl⟩ | cases h
theorem headB_hd {p : Addr × Addr} (h : headB K p = true) : (∀ g : Heap, K.In g → PySem.W.CodeHd g p.1 p.2) ∧ K.lookup p.2 = none := by
  unfold headB at h
  split at h
  · rename_i cl od vs sl e
    simp only [Bool.and_eq_true, decide_eq_true_eq, Bool.not_eq_true', beq_eq_false_iff_ne, ne_eq, Option.isNone_iff_eq_none] at h
    obtain ⟨⟨e1, e2⟩, e3, e4, e5, e6, e7, e8⟩ := h
    obtain ⟨x1, t1, e3⟩ := txtB_is e3
    obtain ⟨x2, t2, e4⟩ := intB_is e4
    obtain ⟨x3, e5⟩ := boolB_is e5
    obtain ⟨x4, t4, e6⟩ := intB_is e6
    have e11 : vs.getD 11 .none = .ref p.2 := by
      rw [Array.getD_eq_getD_getElem?, e2]
      rfl
    exact ⟨fun g hg => ⟨_, vs, x1, t1, x2, t2, x3, x4, t4, hg _ _ e, e1, rfl, e2, e11, e3, e4, e5, e6, e7⟩, e8⟩
  · cases h
theorem lamD_of (h : lamB K f = true) : LamD K f := by
  unfold lamB at h
  split at h
  · rename_i oc od fd sl e
    obtain ⟨h1, h2⟩ := Bool.and_eq_true_iff.mp h
    refine ⟨fun o fd' e' d => ?_, (headB_hd h2).1, (headB_hd h2).2⟩
    rw [e] at e'
    cases e'
    cases d
    exact of_decide_eq_true h1
  · cases h
end
/-- a table without a code stands at p -/
def emptyT (g : Addr → Option Obj) (p : Addr) : Bool := match g p with
  | some ⟨.none, none, .fields ⟨[]⟩, ⟨[]⟩⟩ => true
  | _ => false
theorem emptyT_is {g : Addr → Option Obj} {p : Addr} (h : emptyT g p = true) : g p = some { cls := .none, data := .fields #[] } := by
  unfold emptyT at h
  split at h
  · assumption
  · cases h
/-- what is reached in so many steps, but such tables -/
def asT (g : Addr → Option Obj) (n : Nat) : List Addr := (He.asD g n).filter fun a => !emptyT g a
section
variable {P : Program} {w : World} {K : PySem.W.Frag} {mg : Str → Option Value} {base : Heap} {x qual : Str} {params : Arguments} {body : List Stmt} {scope : Scope} {dvs : List V} {kws : List (Str × V)} {f : Addr} {fd : FuncData}
/-- a def of which the code object is known -/
theorem okC {CX : CXT} {N ps : List Str} {k : Nat} {sp : Sp} (F : FunD K x qual params body scope dvs kws f fd) (T : LamD K f) (S : FnScope N ps scope) (len : ∀ vs H Q E, sp vs H Q E → vs.length = ps.length)
    (go : ∀ (A : Around) (outer : List Env) (s : Shared) (H : Hp) (vs : List V) (Q : VK) (E : XK), Room k (A.deeper (envOfC qual scope s.heap.objs.size f (.ref (pairOf K f).1))) → sp vs H Q E →
      ∃ t, PSs (cxOf CX P w K mg base N qual scope f (.ref (pairOf K f).1) A outer s H E) body t ∧ t { nx := fun _ H' => Q .non H', rt := Q } (start N vs) H) : FnOk P w K mg base CX (k + 1) f fd ps sp := by
  obtain ⟨oc, od, dV, kV, doc, pm, an, cdv, ct, osl, rfl, lk, cd, _, _⟩ := F.ex
  obtain rfl : cdv = .ref (pairOf K f).1 := T.code _ _ lk rfl
  exact fn_of lk cd S len go
end
section
variable {P : Program} {w : World} {K : PySem.W.Frag} {mg : Str → Option Value} {base : Heap} {k : Nat} {f : Addr} {fd : FuncData} {x : Str} {sp : Sp}
theorem lawOkC {name qual : Str} {params : Arguments} {body : List Stmt} {scope : Scope} {N : List Str} (F : FunD K name qual params body scope [] [] f fd) (T : LamD K f) (S : FnScope N [x] scope)
    (room : Room (k + 1) callerA)
    (go : ∀ (s : Shared) (H : Hp) (v : V) (Q : VK), Room k (callerA.deeper (envOfC qual scope s.heap.objs.size f (.ref (pairOf K f).1))) → (callerA.deeper (envOfC qual scope s.heap.objs.size f (.ref (pairOf K f).1))).guards = some [] → sp [v] H Q (fun _ _ _ => False) →
      ∃ t, PSs (cxOf CX0 P w K mg base N qual scope f (.ref (pairOf K f).1) callerA [] s H (fun _ _ _ => False)) body t ∧ t { nx := fun _ H' => Q .non H', rt := Q } (start N [v]) H) :
    LawOk P w K mg base f fd x sp := by
  intro s H u v Q e0 bind rv hs
  obtain ⟨oc, od, dV, kV, doc, pm, an, cdv, ct, osl, rfl, lk, cd, _, _⟩ := F.ex
  obtain rfl : cdv = .ref (pairOf K f).1 := T.code _ _ lk rfl
  have inK : K.In s.heap := e0.mod.kin.keeps fun b o e => (e0.bs b o e).1
  have free : s.heap.NoLimit := e0.mod.nolimit.keeps fun b o e => (e0.bs b o e).1
  have kinds : ∀ y ∈ [(x, u)], scope.names.lookup y.1 = some .local ∨ (scope.names.lookup y.1 = some .cell ∧ ((cellsFrom (s.heap.objs.size + 1) scope.names []).lookup y.1).isSome = true) := by
    intro y hy
    obtain rfl := List.mem_singleton.mp hy
    rcases S.par x (List.mem_singleton.mpr rfl) with q | q
    · exact .inl q
    · exact .inr ⟨q, PySem.W.cellsFrom_some _ _ _ (.inl q)⟩
  refine codeAny_call_function room.depth (inK _ _ lk) rfl S.co S.gen rfl (PySem.W.codeRec_of inK cd) (bind _ _ _ _ ?_)
  refine wpAny_newFunctionEnv_cells S.kind kinds fun env he s1 z => ?_
  subst he
  refine ⟨free.keeps z.toInCall.keep, codeAny_func ?_⟩
  obtain ⟨t, ht, hq⟩ := go s H v Q (room.deeper _) rfl hs
  have I : Inv (cxOf CX0 P w K mg base N qual scope f (.ref (pairOf K f).1) callerA [] s H (fun _ _ _ => False)) [] (start N [v]) H s1 := inv_start (us := [u]) (ps := [x]) S room.hd e0 rfl (.cons rv .nil) z
  refine wpAny_mono (ht.run [] s1 _ H _ I hq) (fun fl s' out => ?_) fun _ _ z => z
  cases fl with
  | ret u' => exact let ⟨v', _, H', J, r', q⟩ := out; ⟨v', H', J.os, J.bare, J.base, J.hok, r', q⟩
  | next => exact let ⟨_, H', J, q⟩ := out; ⟨.non, H', J.os, J.bare, J.base, J.hok, rfl, q⟩
  | brk => exact let ⟨_, _, _, q⟩ := out; q.elim
  | cont => exact let ⟨_, _, _, q⟩ := out; q.elim
end
/-- what may stand in the heap at the claim's call: the script, and tables without a code -/
def OnlyT (ts : List Addr) (H : Hp) : Prop := ∀ b, H b = none ∨ b ∈ ts ∨ ∃ o xs, H b = some (.frz o (.lst xs))
theorem law_runT {P : Program} {w : World} {K : PySem.W.Frag} {mg mb : Str → Option Value} {fa a : Addr} {fd : FuncData} {x : Str} {sp : Sp} {s : Shared} {vs : List Value} {ns : List Int} {cs : List (Addr × Addr)}
    (KX : K.In s.heap) (gl : s.heap.Ns mainGlobals mg) (bl : s.heap.Ns builtinsNs mb) (boot : ∀ y : Str, y ≠ "__name__" → mb y = bootBuiltins y) (free : s.heap.NoLimit) (gens : s.gens = #[])
    (hT : ∀ p ∈ cs, s.heap.get? p.2 = some { cls := .none, data := .fields #[] }) (nT : ∀ p ∈ cs, K.lookup p.2 = none) (cod : ∀ p ∈ cs, PySem.W.CodeHd s.heap p.1 p.2) (bmain : ∃ (bm : Addr) (ob : Obj), mg "__builtins__" = some (.ref bm) ∧ bm ≠ builtinsNs ∧ s.heap.get? bm = some ob ∧ ob.cls = .type "module" ∧ ob.dict = some builtinsNs ∧ ob.data = .plain)
    (ha : s.heap.get? a = some { cls := .type "list", data := .seq vs.toArray }) (hints : IntsAre vs ns) (short : ns.length ≤ sizeLine)
    (F : ∀ base : Heap, K.In base → base.Ns mainGlobals mg → (∀ p ∈ cs, TabB base mg p.1 p.2) → LawOk P w K mg base fa fd x sp) (bind : ∀ (s : Shared) (u : Value), BindsTo s fd ⟨[u], []⟩ [(x, u)])
    (hs : ∀ H : Hp, (∀ p ∈ cs, H p.2 = some (.tbl #[])) → SqL K H a (ns.map V.int) → sp [.ref a] H (fun v _ => v = .bl true) (fun _ _ _ => False)) :
    codeAny (model P w) callerA (.call (.ref fa) ⟨[.ref a], []⟩) (fun r s' => r = .ok (.ret (.bool true)) ∧ OldK s.heap s'.heap ∧ s'.os = s.os ∧ AllBare s'.gens) s := by
  have rel := vals_ints hints
  have count := hints.length
  let ob : Obj := { cls := .type "list", data := .seq vs.toArray }
  let ts : List Addr := cs.map (·.2)
  have inT : ∀ p ∈ cs, p.2 ∈ ts := fun p hp => List.mem_map.mpr ⟨p, hp, rfl⟩
  have empty : ∀ b ∈ ts, s.heap.get? b = some { cls := .none, data := .fields #[] } := fun b hb => by
    obtain ⟨p, hp, rfl⟩ := List.mem_map.mp hb
    exact hT p hp
  have aOff : a ∉ ts := fun z => by
    have e := empty a z
    rw [ha] at e
    cases (show Data.seq vs.toArray _ = Data.fields #[] from congrArg Obj.data (Option.some.inj e))
  have main : ∀ H : Hp, (∀ p ∈ cs, H p.2 = some (.tbl #[])) → OnlyT ts H → SqL K H a (ns.map V.int) → HOk P w H s.heap → (∀ b, H b ≠ none → b = a ∨ b ∈ ts) → (H a ≠ none → K.lookup a = none) →
      codeAny (model P w) callerA (.call (.ref fa) ⟨[.ref a], []⟩) (fun r s' => r = .ok (.ret (.bool true)) ∧ OldK s.heap s'.heap ∧ s'.os = s.os ∧ AllBare s'.gens) s := by
    intro H tb only seq hok just notK
    let B := hidT s.heap H
    -- what has other data than the script and the empty tables is not tracked
    have clear : ∀ {b : Addr} {o : Obj}, s.heap.get? b = some o → (∀ us n, o.data ≠ .seq us n) → o.data ≠ .fields #[] → H b = none := fun {b o} e n1 n2 => by
      cases q : H b with
      | none => rfl
      | some _ =>
        rcases just b (by rw [q]; simp) with z | z
        · rw [z, ha] at e
          cases e
          exact (n1 _ _ rfl).elim
        · rw [empty b z] at e
          cases e
          exact (n2 rfl).elim
    have space : ∀ {b : Addr} {m : Str → Option Value}, s.heap.Ns b m → B.Ns b m := fun {b m} ⟨o, es, ep, e, d, r⟩ => ⟨o, es, ep, hidT_get e (clear e (fun us n z => by rw [d] at z; cases z) (fun z => by rw [d] at z; cases z)), d, r⟩
    have KB : K.In B := fun b o e => hidT_get (KX b o e) (by
      cases q : H b with
      | none => rfl
      | some _ =>
        rcases just b (by rw [q]; simp) with z | z
        · rw [z] at e q
          rw [notK (by rw [q]; simp)] at e
          cases e
        · obtain ⟨p, hp, rfl⟩ := List.mem_map.mp z
          rw [nT p hp] at e
          cases e)
    have M : Mod K mg B := ⟨KB, space gl, ⟨mb, space bl, boot⟩, let ⟨mc, h1, h2⟩ := free; ⟨mc, space h1, h2⟩⟩
    have TB : ∀ p ∈ cs, TabB B mg p.1 p.2 := fun p hp => by
      have e0 := hT p hp
      obtain ⟨bm, o1, b1, b2, b3, b4, b5, b6⟩ := bmain
      refine ⟨?_, ⟨bm, o1, b1, b2, fun z => ?_, fun z => ?_, hidT_get b3 (clear b3 (fun us n z => by rw [b6] at z; cases z) (fun z => by rw [b6] at z; cases z)), b4, b5, b6⟩, fun z => ?_⟩
      · obtain ⟨o, us, file, tf, flags, tg, inF, text, tt, e1, r1, r2, r3, rest⟩ := cod p hp
        refine ⟨o, us, file, tf, flags, tg, inF, text, tt, hidT_get e1 (clear e1 (fun us n z => ?_) fun z => ?_), r1, r2, r3, rest⟩
        · rw [r2] at z
          cases z
        · rw [r2] at z
          cases z
          simp at r3
      · obtain ⟨o, es, ep, e, d, _⟩ := gl
        rw [z, e] at b3
        cases b3
        rw [d] at b6
        cases b6
      · rw [z, e0] at b3
        cases b3
        cases b6
      · obtain ⟨o, es, ep, e, d, _⟩ := gl
        rw [z, e0] at e
        cases e
        cases d
    have e0 : Env0 P w K mg B callerA [] s H := ⟨rfl, M, fun b o e => of_hidT e, Nat.le_of_eq (hidT_size _ _), trivial, fun b hb => absurd (show b ∈ ([] : List Addr) from hb) List.not_mem_nil, hok, .of_eq gens⟩
    refine codeAny_mono (F B KB (space gl) TB s H (.ref a) (.ref a) _ e0 (bind s (.ref a)) rfl (hs H tb seq)) fun r s' out => ?_
    cases r with
    | error e => exact False.elim out
    | ok fl =>
      cases fl with
      | next => exact False.elim out
      | brk => exact False.elim out
      | cont => exact False.elim out
      | ret u =>
        obtain ⟨v, H', os, bare, un, hok', rv, q⟩ := out
        obtain rfl : v = .bl true := q
        obtain rfl : u = Value.bool true := rv
        have same : ∀ b o, b ∉ ts → s.heap.get? b = some o → s'.heap.get? b = some o := fun b o nb e => by
          cases q : H b with
          | none => exact un.keep b o e q (fun z => absurd (show b ∈ ([] : List Addr) from z) List.not_mem_nil) List.not_mem_nil
          | some _ =>
            rcases only b with z | z | ⟨o2, xs, z⟩
            · rw [q] at z
              cases z
            · exact absurd z nb
            · obtain ⟨g1, _⟩ := hok b _ z
              obtain ⟨g2, _⟩ := hok' b _ (un.frzs b o2 _ z)
              rw [e] at g1
              cases g1
              exact g2
        have grown : ∀ p ∈ cs, ∃ more : Array Value, s'.heap.get? p.2 = some { cls := .none, data := .fields more } := fun p hp => by
          obtain ⟨more, z⟩ := un.tbls p.2 #[] (tb p hp)
          exact ⟨_, hok' p.2 _ z⟩
        refine ⟨rfl, ⟨fun b o e => ?_, fun b o e => ?_⟩, os, bare⟩
        · by_cases hb : b ∈ ts
          · obtain ⟨p, hp, rfl⟩ := List.mem_map.mp hb
            obtain ⟨more, hm⟩ := grown p hp
            rw [hT p hp] at e
            cases e
            refine .inr (.inl ⟨((cod p hp).tab (hT p hp)).isCodeTable, rfl, #[], more, rfl, ?_⟩)
            rw [Array.empty_append]
            exact hm
          · exact .inl (same b o hb e)
        · by_cases hb : b ∈ ts
          · obtain ⟨p, hp, rfl⟩ := List.mem_map.mp hb
            exact let ⟨_, hm⟩ := grown p hp; ⟨_, hm⟩
          · exact ⟨o, same b o hb e⟩
  let H0 : Hp := fun b => if b ∈ ts then some (.tbl #[]) else none
  have in0 : ∀ {b : Addr}, b ∈ ts → H0 b = some (.tbl #[]) := fun hb => if_pos hb
  have off0 : ∀ {b : Addr}, b ∉ ts → H0 b = none := fun hb => if_neg hb
  cases lk : K.lookup a with
  | some o =>
    have e := KX a o lk
    rw [ha] at e
    cases e
    refine main H0 (fun p hp => in0 (inT p hp)) (fun b => ?_) (.inr ⟨_, vs.toArray, _, lk, rfl, rfl, rfl, by rw [List.size_toArray, count]; exact short, by simpa using rel⟩) (fun b u z => ?_) (fun b z => ?_) fun z => absurd (off0 aOff) z
    · by_cases hb : b ∈ ts
      · exact .inr (.inl hb)
      · exact .inl (off0 hb)
    · by_cases hb : b ∈ ts
      · cases (in0 hb).symm.trans z
        exact empty b hb
      · exact nomatch (off0 hb).symm.trans z
    · by_cases hb : b ∈ ts
      · exact .inr hb
      · exact absurd (off0 hb) z
  | none =>
    let H1 : Hp := fun b => if b = a then some (.frz ob (.lst (ns.map V.int))) else H0 b
    have atA : H1 a = some (.frz ob (.lst (ns.map V.int))) := if_pos rfl
    have offA : ∀ {b : Addr}, b ≠ a → H1 b = H0 b := fun hb => if_neg hb
    have ne : ∀ {b : Addr}, b ∈ ts → b ≠ a := fun hb z => aOff (z ▸ hb)
    refine main H1 (fun p hp => (offA (ne (inT p hp))).trans (in0 (inT p hp))) (fun b => ?_) (.inl (.inr ⟨ob, atA⟩)) (fun b u z => ?_) (fun b z => ?_) fun _ => lk
    · by_cases hb : b = a
      · exact .inr (.inr ⟨_, _, by rw [hb]; exact atA⟩)
      · by_cases ht : b ∈ ts
        · exact .inr (.inl ht)
        · exact .inl ((offA hb).trans (off0 ht))
    · by_cases hb : b = a
      · subst hb
        cases atA.symm.trans z
        exact ⟨ha, by rw [List.length_map]; exact short, vs, _, rel, ha⟩
      · have z1 := (offA hb).symm.trans z
        by_cases ht : b ∈ ts
        · cases (in0 ht).symm.trans z1
          exact empty b ht
        · exact nomatch (off0 ht).symm.trans z1
    · by_cases hb : b = a
      · exact .inl hb
      · by_cases ht : b ∈ ts
        · exact .inr ht
        · exact absurd ((offA hb).trans (off0 ht)) z
theorem walk_lawT {l : PySem.W.OpenLaw} {n : Nat} {q : Program} {loose : List Str} {XP : (Str → Option Value) → Heap → Prop} {YP : World → Heap → Prop} {d : DefRec} {x : Str} (hn : l.most = some n) (hz : n ≤ sizeLine) (noDfl : d.params.defaults = [])
    (F : ∀ (w : World) (mg : Str → Option Value) (fa : Addr) (h : Heap), YP w h → h.Ns mainGlobals mg → mg d.name = some (.ref fa) → ∃ (K : PySem.W.Frag) (fd : FuncData) (sp : Sp) (cs : List (Addr × Addr)), K.In h ∧ (∀ p ∈ cs, h.get? p.2 = some { cls := .none, data := .fields #[] }) ∧ (∀ p ∈ cs, K.lookup p.2 = none) ∧
      (∀ p ∈ cs, PySem.W.CodeHd h p.1 p.2) ∧ (∀ (s : Shared) (u : Value), BindsTo s fd ⟨[u], []⟩ [(x, u)]) ∧
      (∀ (H : Hp) (a : Addr) (ns : List Int), ns.length ≤ n → (∀ p ∈ cs, H p.2 = some (.tbl #[])) → SqL K H a (ns.map V.int) → sp [.ref a] H (fun v _ => v = .bl true) fun _ _ _ => False) ∧
      ∀ base : Heap, K.In base → base.Ns mainGlobals mg → (∀ p ∈ cs, TabB base mg p.1 p.2) → LawOk l.prog w K mg base fa fd x sp) :
    PySem.W.WalkO q loose XP YP l.row.toRowW d [] (fun f vs => PySem.call f vs) := by
  refine Att.attach_call hn noDfl fun w s₀ s₁ mg mb fa o pm cd doc a vs ns G Y ho hd hcd hmg hobj hints short gens => ?_
  obtain ⟨K, fd, sp, cs, KX, hT, nT, cod, bind, hs, hF⟩ := F w mg fa _ Y G.T.g hmg
  exact law_runT KX G.T.g G.T.b G.T.builtins G.T.nolimit gens hT nT cod G.T.bmain hobj hints (Nat.le_trans short hz) hF bind fun H tb seq => hs H a ns short tb seq
end V4

set_option maxHeartbeats 4000000
/-! V4b: len(set(t)), t a tuple of ints -/
namespace V4
open PySem PySem.Spec PyProof.Rows L2 V1 V2 V3
def tLenSetT (K : PySem.W.Frag) (ta : TE) : TE := fun σ H Q => ta σ H fun x H1 => ∃ (l : Addr) (ns : List Int), x = .ref l ∧ SqT K H1 l (ns.map V.int) ∧ ns.length ≤ 1000 ∧ ∀ c : Nat, c ≤ ns.length → Q (.int (c : Nat)) H1
theorem pe_lenSetT {X : Cx} {a : Expr} {ta : TE} {p p2 q pos : Pos} (hg : Gl X "len") (hm : X.mg "len" = none) (hg2 : Gl X "set") (hm2 : X.mg "set" = none) (ha : PE X a ta) (calm : X.calm = true := by rfl)
    (na : starEach [a] X.env = (false, eval a X.env) :: starEach [] X.env := by rfl) : PE X (.Call (.Name "len" p) [.Call (.Name "set" p2) [a] [] q] [] pos) (tLenSetT X.K ta) := by
  refine ⟨fun pins s σ H Q I h => Call_ (ld_blt I hg hm boot_len ?_)⟩
  refine PyProof.Rows.callWith_builtin1 (PyProof.Rows.args_cons (Call_ (ld_blt I hg2 hm2 boot_set ?_)) rfl) rfl rfl
  refine PyProof.Rows.callWith_type1 (PyProof.Rows.args_cons (thn (ha.run pins s σ H _ I h) ?_) na) na rfl
  rintro v s1 ⟨x, H1, J, rx, l, ns, rfl, hq, hz, k⟩
  refine PyProof.Rows.args_nil ?_
  cases rx
  obtain ⟨its, r, pl, _⟩ := J.tuple hq
  have small : ns.length + 1 < scanBound := by
    unfold scanBound
    omega
  refine call_set_tupI ns (J.ok.hd calm) pl (by simpa using r.ints) small fun g tk c hS hc kp => ?_
  refine PyProof.Rows.args_nil ?_
  obtain ⟨o, es, ep, t, ho, ex, dat, _, _, _, _, fit, cnt, _⟩ := hS
  have J2 : Inv X pins σ H1 { s1 with heap := g, toks := tk } := J.kept kp
  exact call_len_set ho ex dat fit (by omega) ⟨.int (c : Nat), H1, J2.tok _, ⟨_, by rw [cnt]⟩, k c hc⟩
end V4

set_option maxHeartbeats 4000000
/-! V4c: a text so often; isinstance of the caught exception, with a dict or without -/
namespace V4
open PySem PySem.Spec PyProof.Rows L2 V1 V2 V3
def rMulS : R2 := fun x y H Q => ∃ (z : Str) (n : Int), x = .str z ∧ y = .int n ∧ 1 ≤ n ∧ n ≤ 10000 ∧ z.length ≤ 1000 ∧ Q (.str (Txt.mul z n)) H
theorem op_mulS {X : Cx} : OpR X (binaryOp .Mult) rMulS := by
  rintro pins s σ H x y v u Q I rx ry ⟨z, n, rfl, rfl, n1, n2, zl, q⟩
  obtain ⟨t, rfl⟩ := rx
  obtain ⟨t', rfl⟩ := ry
  refine PySem.SB.mul ⟨?_, fun _ _ z => ?_, fun _ _ => ?_⟩ fun t2 k => ⟨.str _, H, I.tok _, ⟨_, rfl⟩, q⟩
  · rw [decide_eq_false (by omega), decide_eq_false (by omega)]
    rfl
  · have h : (1000 : Int) ≤ (2 ^ 63 - 1) / n := by
      refine (Int.le_ediv_iff_mul_le (by omega)).mpr ?_
      omega
    omega
  · unfold PySem.Builtin.Str.tooLong
    have h : z.length * n.toNat ≤ 1000 * 10000 := Nat.mul_le_mul zl (by omega)
    have e : sizeLine = 16777216 := by rw [sizeLine_eq]
    simp only [decide_eq_false_iff_not]
    omega
/-- the caught exception: its class, and its dict if it has one -/
def ExIs (H : Hp) (C : Addr) (cls : Value) (d : Option Addr) : Prop := cls = .ref C ∧ (d = none ∨ ∃ dd fs, d = some dd ∧ H dd = some (.xd fs))
def rIsO (K : PySem.W.Frag) (a : Addr) (cls : Value) (d : Option Addr) : List V → Hp → VK → Prop := fun xs H Q => ∃ (C : Addr) (bm : List Value) (c : V) (u : Value) (b : Bool), xs = [.ref a, c] ∧ ExIs H C cls d ∧ ClsV c u ∧ ExK K C bm ∧ ClsAttr K ∧ (Value.ref C :: bm).contains (.type "BaseException") = true ∧ (Value.ref C :: bm).contains (.type "object") = true ∧
  PySem.W.kitOne K (.ref C) u = some b ∧ Q (.bl b) H
theorem call_isO {X : Cx} {a : Addr} {oe : Obj} {cls : Value} {d : Option Addr} {pn : List (Addr × Obj)} (hz : Zc cls d oe) (hf : ∃ vs, oe.data = .fields vs) : CallR (X.suite a ((a, oe) :: pn)) (.builtin "isinstance") (rIsO X.K a cls d) := by
  intro pins s σ H xs us Q I r h
  obtain ⟨C, bm, c, u, b, rfl, ⟨rfl, hd⟩, k, T, cA, hB, hO, e, q⟩ := h
  rcases hd with rfl | ⟨dd, fs, rfl, hx⟩
  · obtain ⟨w1, w2, rfl, r1, r2⟩ := vals2 r
    obtain rfl : w1 = Value.ref a := r1
    have e2 := k.eq r2
    subst e2
    obtain ⟨ha, _⟩ := I.pin (a, oe) (List.mem_append_left _ List.mem_cons_self)
    obtain ⟨vs, hdt⟩ := hf
    have J : PySem.W.InstAt s.heap a oe C none := ⟨ha, hz.1, by unfold PySem.W.notCls; rw [hdt] <;> rfl, by rw [show oe.dict = none from hz.2] <;> trivial⟩
    exact PySem.W.kia_one (PySem.W.kitx_exc T.isCls T.ga T.gg (by rw [T.sub, hB]) T.cl cA.gs cA.tk (by rw [T.mro, hO])) I.kIn J e (fun z => nomatch z) fun tk => ⟨.bl b, H, I.tok tk, rfl, q⟩
  · exact call_isXd T cA hB hO hz hf pins s σ H _ _ Q I r ⟨rfl, c, u, b, dd, fs, rfl, k, e, rfl, hx, q⟩
end V4

set_option maxHeartbeats 4000000
/-! V4d: t[::-1] of a tuple; data made beside a hand -/
namespace V4
open PySem PySem.Spec PyProof.Rows L2 V1 V2 V3
section
variable {prog : Program} {w : World} {A : Around} {E : Value → Shared → Prop} {s : Shared}
theorem back_adjust (n : Nat) : Builtin.Slice.sliceAdjust none none (-1) (n : Int) = ((n : Int) - 1, -1) := by
  unfold Builtin.Slice.sliceAdjust
  simp
theorem back_places (n : Nat) : Builtin.Slice.slicePlaces ((n : Int) - 1) (-1) (-1) = n := by
  unfold Builtin.Slice.slicePlaces
  simp
  omega
theorem fm_map {α β : Type} {f : α → Option β} {g : α → β} : ∀ {l : List α}, (∀ m ∈ l, f m = some (g m)) → l.filterMap f = l.map g
  | [], _ => rfl
  | m :: l, h => by
    rw [List.filterMap_cons, h m List.mem_cons_self, List.map_cons, fm_map fun x hx => h x (List.mem_cons_of_mem _ hx)]
theorem back_pick (xs : Array Value) : ((List.range xs.size).filterMap fun (m : Nat) => xs[((xs.size : Int) - 1 + (m : Int) * (-1)).toNat]?).toArray = xs.toList.reverse.toArray := by
  congr 1
  have e : ∀ m ∈ List.range xs.size, xs[((xs.size : Int) - 1 + (m : Int) * (-1)).toNat]? = some (xs.toList.reverse.getD m .none) := by
    intro m hm
    have hm' := List.mem_range.mp hm
    have h1 : ((xs.size : Int) - 1 + (m : Int) * (-1)).toNat = xs.size - 1 - m := by omega
    rw [h1]
    have h2 : xs.size - 1 - m < xs.size := by omega
    rw [List.getD_eq_getElem?_getD, List.getElem?_reverse (by simpa using hm')]
    simp [h2]
  rw [fm_map e]
  refine List.ext_getElem (by simp) fun i h1 h2 => ?_
  simp at h1
  simp [List.getD, h1]
theorem back_applied {sl : Addr} {vs : Value} {n : Nat} {Q : Int × Int × Nat → Shared → Prop} (hs : s.heap.IsSliceOf sl .none .none vs) (ps : IsPart vs (some (-1))) (h : Q ((n : Int) - 1, -1, n) s) :
    wpAny (model prog w) A (Builtin.Slice.sliceApplied (.ref sl) (pure (n : Int))) Q E s := by
  obtain ⟨os, hos, hcs, hds⟩ := id hs
  unfold Builtin.Slice.sliceApplied Builtin.Slice.sliceFields
  refine wpAny_bind (wpAny_bind (wpAny_field hos hds (x := .none) rfl (wpAny_bind (wpAny_field hos hds (x := .none) rfl (wpAny_bind (wpAny_field hos hds (x := vs) rfl (wpAny_pure ?_)))))))
  refine wpAny_bind (HT.slicePart_ ps ?_)
  show wpAny _ _ (if ((-1 : Int) == 0) = true then _ else _) _ _ s
  rw [if_neg (by decide)]
  refine wpAny_bind (HT.slicePart_ .none (wpAny_bind (HT.slicePart_ .none (wpAny_bind (wpAny_pure ?_)))))
  show wpAny _ _ (match Builtin.Slice.sliceAdjust none none (-1) (n : Int) with | (lo, hi) => pure (lo, (-1 : Int), Builtin.Slice.slicePlaces lo hi (-1))) _ _ s
  rw [back_adjust n]
  show wpAny _ _ (pure ((n : Int) - 1, (-1 : Int), Builtin.Slice.slicePlaces ((n : Int) - 1) (-1) (-1))) _ _ s
  rw [back_places]
  exact wpAny_pure h
theorem getItem_tuple_back {t sl : Addr} {items : Array Value} {vs : Value} {Q : Value → Shared → Prop} (ht : IsTup s.heap t items) (hs : s.heap.IsSliceOf sl .none .none vs) (ps : IsPart vs (some (-1)))
    (h : Q (.ref s.heap.objs.size) { s with heap := s.heap.push { cls := .type "tuple", data := .seq items.toList.reverse.toArray } }) (small : items.size ≤ sizeLine) : wpAny (model prog w) A (getItem (.ref t) (.ref sl)) Q E s := by
  have fits : sizeOk (.seq items.toList.reverse.toArray) := by
    show items.toList.reverse.toArray.size ≤ sizeLine
    simp
    exact small
  obtain ⟨os, hos, hcs, hds⟩ := id hs
  have kind : s.TypeIs (.ref sl) "slice" := ⟨os, hos, hcs⟩
  unfold getItem
  try with_reducible refine wpAny_holding ?_
  first | refine wpAny_bind (wpAny_pure ?_) | skip
  refine wpAny_bind (wpAny_sequenceKey ht.typeIs (by decide) (wpAny_bind (wpAny_callSpecial?_slot (name := Str.ofString "__getitem__") ht.typeIs PyProof.Rows.slot_tuple_getitem (wpAny_call_entry PyProof.Rows.slot_tuple_getitem ht.typeIs entry_tuple_getitem ?_ (args_tuple_getitem _ _)))))
  show wpAny _ _ (Builtin.Tuple.tupleItemsOf (.ref t) >>= _) _ _ s
  refine wpAny_bind (tupleItemsOf_ ht (wpAny_bind (wpAny_typeOf kind ?_)))
  rw [if_pos (by decide)]
  refine wpAny_bind (back_applied hs ps ?_)
  have part : ¬ ((((items.size : Int) - 1) == 0 && (-1 : Int) == 1 && items.size == items.size) = true) := by
    rw [show ((-1 : Int) == 1) = false from rfl, Bool.and_false, Bool.false_and]
    decide
  show wpAny _ _ (if (((items.size : Int) - 1) == 0 && (-1 : Int) == 1 && items.size == items.size) = true then _ else _) _ _ s
  rw [if_neg part, back_pick]
  first
    | exact wpAny_bind (m := Builtin.Tuple.tupleExact _) (wpAny_newObj_type (wpAny_pure ⟨_, rfl, wpAny_pure h⟩) fits)
    | exact wpAny_bind (m := Builtin.Tuple.tupleExact _) (wpAny_newObj_type (wpAny_bind (wpAny_pure (wpAny_pure ⟨_, rfl, wpAny_pure h⟩))) fits)
    | exact wpAny_bind (wpAny_bind (m := Builtin.Tuple.tupleExact _) (wpAny_newObj_type (wpAny_pure (wpAny_pure ⟨_, rfl, wpAny_pure h⟩)) fits))
    | exact wpAny_bind (wpAny_bind (m := Builtin.Tuple.tupleExact _) (wpAny_newObj_type (wpAny_pure ⟨_, rfl, wpAny_pure h⟩) fits))
end
/-- t[::-1] -/
def tBackT (K : PySem.W.Frag) (te : TE) : TE := fun σ H Q => te σ H fun x H1 => ∃ a xs, x = .ref a ∧ SqT K H1 a xs ∧ ∀ p, H1 p = none → Q (.ref p) (upd H1 p (.tup xs.reverse))
theorem pe_backT {X : Cx} {e : Expr} {te : TE} {k : Nat} {p1 p2 p3 pos : Pos} (he : PE X e te) : PE X (.Subscript e (.Slice none none (some (.UnaryOp .USub (.Constant (.int 1) k p1) p2)) p3) pos) (tBackT X.K te) := by
  refine ⟨fun pins s σ H Q I h => Subscript_ (thn (he.run pins s σ H _ I h) ?_)⟩
  rintro v s1 ⟨x, H1, I1, r1, a, xs, rfl, hx, q⟩
  cases r1
  have step : PO X (some (.UnaryOp .USub (.Constant (.int 1) k p1) p2)) (tPart (tUn (rU fun i => .int (-i)) (tC (.int 1)))) := po_some (pe_un un_neg pe_int)
  refine wpAny_Slice (thn (po_none.run pins s1 σ H1 (fun o H2 => o = none ∧ H2 = H1) I1 ⟨rfl, rfl⟩) ?_)
  rintro vl s2 ⟨l, H2, I2, pl, rfl, rfl⟩
  cases pl
  refine thn (po_none.run pins s2 σ H2 (fun o H3 => o = none ∧ H3 = H2) I2 ⟨rfl, rfl⟩) ?_
  rintro vu s3 ⟨u, H3, I3, pu, rfl, rfl⟩
  cases pu
  refine thn (step.run pins s3 σ H3 (fun o H4 => o = some (-1) ∧ H4 = H3) I3 ⟨1, rfl, -1, rfl, rfl, rfl⟩) ?_
  rintro vs s4 ⟨o, H4, I4, ps, rfl, rfl⟩
  have I5 : Inv X pins σ H4 { s4 with heap := s4.heap.push { cls := .type "slice", data := .fields #[.none, .none, vs] } } := I4.kept (t' := s4.toks) fun b ob q => Heap.get?_push_of_some _ q
  obtain ⟨its, r, ht, hz⟩ := I5.tuple hx
  have len := r.length
  show wpAny (model X.prog X.w) X.A (subscriptTail e (.Slice none none (some (.UnaryOp .USub (.Constant (.int 1) k p1) p2)) p3) (.ref a) (.ref s4.heap.objs.size)) (EP X pins σ Q) X.xe { s4 with heap := s4.heap.push { cls := .type "slice", data := .fields #[.none, .none, vs] } }
  refine tail_any (ops := [.ref a, .ref s4.heap.objs.size]) ht.typeIs PyProof.Rows.slot_tuple_getitem.lookup ?_ (by with_unfolding_all rfl)
  refine getItem_tuple_back ht (Heap.IsSliceOf.new _ .none .none vs) ps ?_ (by rw [List.size_toArray]; omega)
  refine ⟨.ref _, _, I5.laid (t' := s4.toks) (o := .tup xs.reverse) (fun b ob q => Heap.get?_push_of_some _ q) (Nat.le_refl _) ?_, rfl, q _ (I5.hok.fresh (Nat.le_refl _))⟩
  exact ⟨by rw [List.length_reverse]; exact hz, _, r.reverse, IsTup.new _ _⟩
end V4

set_option maxHeartbeats 4000000
/-! V4e: data made beside a hand: of old and new parts; how long their texts are -/
namespace V4
open PySem PySem.Spec PyProof.Rows L2 V1 V2 V3
open Evl (sq_of st_of)
theorem DxAll.rep [CurK] {H : Hp} {vs : List V} {ds : List PyData} (h : DxAll H vs ds) : ∀ n : Nat, DxAll H (List.replicate n vs).flatten (List.replicate n ds).flatten
  | 0 => .nil
  | n + 1 => by
    rw [List.replicate_succ, List.replicate_succ, List.flatten_cons, List.flatten_cons]
    exact DxAll.app h (DxAll.rep h n)
theorem DxAll.snoc [CurK] {H : Hp} {v : V} {d : PyData} : ∀ {vs : List V} {ds : List PyData}, DxAll H vs ds → Dx H v d → DxAll H (vs ++ [v]) (ds ++ [d])
  | _, _, h, hv => DxAll.app h (.cons hv .nil)
theorem DxAll.back [CurK] {H : Hp} : ∀ {vs : List V} {ds : List PyData}, DxAll H vs ds → DxAll H vs.reverse ds.reverse
  | _, _, .nil => .nil
  | _, _, .cons one more => by
    rw [List.reverse_cons, List.reverse_cons]
    exact DxAll.snoc (DxAll.back more) one
/-- a part of a list, as a slice takes it -/
def cutD (ds : List PyData) (lo hi : Option Int) : List PyData := (ds.drop (HT.sIx ds.length 0 lo)).take (HT.sIx ds.length ds.length hi - HT.sIx ds.length 0 lo)
section
variable [CurK] {σ : L2.St} {H0 : Hp} {a : Addr} {d : PyData} {ds es : List PyData} {te t1 t2 : TE} {ta : TA}
theorem mky_of (ha : Held H0 a) (h : MkX te σ d) : MkY H0 a te σ d := fun H s Q k => h H Q fun v H' s' q => k v H' s' (Dx.same (newH_off (ha.same s)) _ _ q)
theorem mkya_nil : MkYA H0 a tNil σ [] := fun H _ _ k => k [] H (Same.refl H) .nil
theorem mkya_cons (h : MkY H0 a te σ d) (r : MkYA H0 a ta σ ds) : MkYA H0 a (tCons te ta) σ (d :: ds) := fun H s _ k => h H s _ fun v H1 s1 q1 => r H1 (s.trans s1) _ fun vs H2 s2 q2 =>
  k (v :: vs) H2 (s1.trans s2) (.cons (Dx.same (same_del s2) d v q1) q2)
theorem mky_tup (ha : Held H0 a) (r : MkYA H0 a ta σ ds) (hz : ds.length ≤ 1000) : MkY H0 a (tTup ta) σ (.tuple ds) := fun H s _ k => r H s _ fun vs H1 s1 q1 =>
  ⟨Nat.le_of_lt (small1000 (by rw [dxAll_len q1]; exact hz)), fun p n => k _ _ (s1.trans (same_new n)) (.tup (((ha.same s).same s1).off n upd_same) (DxAll.same (same_del (same_new n)) ds vs q1))⟩
theorem mky_lst (ha : Held H0 a) (r : MkYA H0 a ta σ ds) (hz : ds.length ≤ 1000) : MkY H0 a (tLstS ta) σ (.list ds) := fun H s _ k => r H s _ fun vs H1 s1 q1 =>
  ⟨Nat.le_of_lt (small1000 (by rw [dxAll_len q1]; exact hz)), fun p n low => k _ _ (s1.trans (same_new n)) (.lst (((ha.same s).same s1).off n upd_same) low (DxAll.same (same_del (same_new n)) ds vs q1))⟩
theorem mky_var {i : Nat} {v : V} (h : Dx (delH H0 a) v d) (hv : σ[i]? = some (some v)) : MkY H0 a (tVar i) σ d := fun H s Q k => ⟨v, hv, k v H (Same.refl H) (Dx.same (same_del s) _ _ h)⟩
theorem tup_at {H : Hp} {v : V} (h : Dx (delH H a) v (.tuple ds)) : ∃ p xs, v = .ref p ∧ H p = some (.tup xs) ∧ DxAll (delH H a) xs ds ∧ xs.length = ds.length := by
  obtain ⟨p, xs, rfl, e, r⟩ := Dx.tup_inv h
  exact ⟨p, xs, rfl, same_delH _ _ e, r, dxAll_len r⟩
theorem lst_at {H : Hp} {v : V} (h : Dx (delH H a) v (.list ds)) : ∃ p xs, v = .ref p ∧ H p = some (.lst xs) ∧ DxAll (delH H a) xs ds ∧ xs.length = ds.length := by
  obtain ⟨p, xs, rfl, e, _, r⟩ := Dx.lst_inv h
  exact ⟨p, xs, rfl, same_delH _ _ e, r, dxAll_len r⟩
/-- t + u, neither empty -/
theorem mky_cat (ha : Held H0 a) (h1 : MkY H0 a t1 σ (.tuple ds)) (h2 : MkY H0 a t2 σ (.tuple es)) (n1 : ds ≠ []) (n2 : es ≠ []) (l : ds.length + es.length ≤ 5000) : MkY H0 a (tOp (rCatT K) t1 t2) σ (.tuple (ds ++ es)) := fun H s Q k =>
  h1 H s _ fun v H1 s1 q1 => h2 H1 (s.trans s1) _ fun u H2 s2 q2 => by
    obtain ⟨p, xs, rfl, e1, r1, l1⟩ := tup_at (Dx.same (same_del s2) _ _ q1)
    obtain ⟨q, ys, rfl, e2, r2, l2⟩ := tup_at q2
    refine ⟨p, q, xs, ys, rfl, rfl, st_of e1, st_of e2, fun z => n1 (List.length_eq_zero_iff.mp (by rw [← l1, z]; rfl)), by rw [sizeLine_eq]; omega, fun z => absurd (List.length_eq_zero_iff.mp (by rw [← l2, z]; rfl)) n2, fun _ c nc => ?_⟩
    exact k _ _ ((s1.trans s2).trans (same_new nc)) (.tup ((((ha.same s).same s1).same s2).off nc upd_same) (DxAll.same (same_del (same_new nc)) _ _ (DxAll.app r1 r2)))
/-- t * k -/
theorem mky_rep {n : Nat} (ha : Held H0 a) (h1 : MkY H0 a t1 σ (.tuple ds)) (n1 : ds ≠ []) (k1 : 2 ≤ n) (k2 : n ≤ 1000) (l : ds.length ≤ 1000) : MkY H0 a (tOp (rRepT K) t1 (tC (.int ((n : Nat) : Int)))) σ (.tuple (List.replicate n ds).flatten) := fun H s Q k =>
  h1 H s _ fun v H1 s1 q1 => by
    obtain ⟨p, xs, rfl, e1, r1, l1⟩ := tup_at q1
    refine ⟨p, (n : Int), xs, rfl, rfl, st_of e1, fun z => n1 (List.length_eq_zero_iff.mp (by rw [← l1, z]; rfl)), by omega, by omega, by omega, fun c nc => ?_⟩
    rw [Int.toNat_natCast]
    exact k _ _ (s1.trans (same_new nc)) (.tup (((ha.same s).same s1).off nc upd_same) (DxAll.same (same_del (same_new nc)) _ _ (DxAll.rep r1 n)))
/-- t[::-1] -/
theorem mky_back (ha : Held H0 a) (h1 : MkY H0 a t1 σ (.tuple ds)) : MkY H0 a (tBackT K t1) σ (.tuple ds.reverse) := fun H s Q k =>
  h1 H s _ fun v H1 s1 q1 => by
    obtain ⟨p, xs, rfl, e1, r1, l1⟩ := tup_at q1
    exact ⟨p, xs, rfl, st_of e1, fun c nc => k _ _ (s1.trans (same_new nc)) (.tup (((ha.same s).same s1).off nc upd_same) (DxAll.same (same_del (same_new nc)) _ _ (DxAll.back r1)))⟩
/-- t[lo:hi], its bounds ints or left out -/
theorem mky_cut {tl th : TO} {lo hi : Option Int} (ha : Held H0 a) (h1 : MkY H0 a t1 σ (.tuple ds)) (hl : ∀ (H : Hp) (Q : Option Int → Hp → Prop), Q lo H → tl σ H Q) (hh : ∀ (H : Hp) (Q : Option Int → Hp → Prop), Q hi H → th σ H Q) :
    MkY H0 a (tSl (rSlA K) t1 tl th) σ (.tuple (cutD ds lo hi)) := fun H s Q k =>
  h1 H s _ fun v H1 s1 q1 => hl H1 _ (hh H1 _ (by
    obtain ⟨p, xs, rfl, e1, r1, l1⟩ := tup_at q1
    refine ⟨p, xs, rfl, st_of e1, fun whole => ?_, fun _ c nc => ?_⟩
    · have z : cutD ds lo hi = ds := by
        rw [l1] at whole
        unfold cutD
        rw [whole.1, whole.2]
        simp
      exact k _ _ s1 (by rw [z]; exact q1)
    · refine k _ _ (s1.trans (same_new nc)) (.tup (((ha.same s).same s1).off nc upd_same) (DxAll.same (same_del (same_new nc)) _ _ ?_))
      unfold cutV cutD
      rw [l1]
      exact DxAll.take _ (DxAll.drop _ r1)))
theorem cutD_take {ds : List PyData} {k : Nat} : cutD ds none (some ((k : Nat) : Int)) = ds.take k := by
  unfold cutD
  rw [HT.sIx_none, HT.sIx_nat]
  simp [Nat.min_comm]
theorem cutD_last {ds : List PyData} (h : ds ≠ []) : cutD ds (some (-1)) none = ds.drop (ds.length - 1) := by
  have l := List.length_pos_iff.mpr h
  unfold cutD
  rw [HT.sIx_none]
  have e : HT.sIx ds.length 0 (some (-1)) = ds.length - 1 := by
    unfold HT.sIx
    simp only
    rw [if_pos (by decide)]
    omega
  rw [e]
  exact List.take_of_length_le (by rw [List.length_drop]; omega)
/-- xs + ys of two lists -/
theorem mky_catL (ha : Held H0 a) (h1 : MkY H0 a t1 σ (.list ds)) (h2 : MkY H0 a t2 σ (.list es)) (l : ds.length + es.length ≤ 5000) : ∀ H, Same H0 H → ∀ Q : VK, (∀ p xs H', Same H H' → H p = none → H' p = some (.lst xs) → DxAll (delH H' a) xs (ds ++ es) → Q (.ref p) H') → tOp rCat t1 t2 σ H Q := fun H s Q k =>
  h1 H s _ fun v H1 s1 q1 => h2 H1 (s.trans s1) _ fun u H2 s2 q2 => by
    obtain ⟨p, xs, rfl, e1, r1, l1⟩ := lst_at (Dx.same (same_del s2) _ _ q1)
    obtain ⟨q, ys, rfl, e2, r2, l2⟩ := lst_at q2
    refine ⟨p, q, xs, ys, rfl, rfl, e1, e2, by rw [sizeLine_eq]; omega, fun c nc => ?_⟩
    exact k c _ _ ((s1.trans s2).trans (same_new nc)) (fresh_up (s1.trans s2) nc) upd_same (DxAll.same (same_del (same_new nc)) _ _ (DxAll.app r1 r2))
/-- list(t) -/
theorem mky_listof (ha : Held H0 a) (h1 : MkY H0 a t1 σ (.tuple ds)) : MkY H0 a (tCB (fun xs H Q => ∃ p ys, xs = [.ref p] ∧ (SqL K H p ys ∨ SqT K H p ys) ∧ ∀ l, H l = none → (l == sysModules) = false → Q (.ref l) (upd H l (.lst ys))) (tCons t1 tNil)) σ (.list ds) := fun H s Q k =>
  h1 H s _ fun v H1 s1 q1 => by
    obtain ⟨p, xs, rfl, e1, r1, l1⟩ := tup_at q1
    exact ⟨p, xs, rfl, .inr (st_of e1), fun c nc low => k _ _ (s1.trans (same_new nc)) (.lst (((ha.same s).same s1).off nc upd_same) low (DxAll.same (same_del (same_new nc)) _ _ r1))⟩
theorem mkx_pow19 : MkX (tOp (rI CPow fun i j => V.int (i ^ j.toNat)) (tC (.int 10)) (tC (.int 19))) σ (.int (10 ^ 19)) := fun H Q k => ⟨10, 19, rfl, rfl, ⟨by decide, by decide, by decide⟩, k _ H (Same.refl H) (.int _)⟩
theorem mkx_neg (i : Int) : MkX (tUn (rU fun i => V.int (-i)) (tC (.int i))) σ (.int (-i)) := fun H Q k => ⟨i, rfl, k _ H (Same.refl H) (.int _)⟩
theorem mkx_mulS (z : Str) (n : Int) (h1 : 1 ≤ n) (h2 : n ≤ 10000) (h3 : z.length ≤ 1000) : MkX (tOp rMulS (tC (.str z)) (tC (.int n))) σ (.str (Txt.mul z n)) := fun H Q k => ⟨z, n, rfl, rfl, h1, h2, h3, k _ H (Same.refl H) (.str _)⟩
theorem mkx_dictI (i : Int) (j : Int) : MkX (tDisp [(tC (.int i), tC (.int j))]) σ (.dict [(.int i, .int j)]) := fun H _ k p n =>
  ⟨upd_same, [(.inl i, .int j)], rfl, (by show 1 ≤ 15; decide), by
    rw [upd_upd]
    exact k _ _ (same_new n) (.dct (kvs := [(.inl i, .int j)]) (by rw [newH_at n]; exact upd_same) (.cons (k := .inl i) (.int j) .nil))⟩
theorem mkx_dictS (x y : Str) : MkX (tDisp [(tC (.str x), tC (.str y))]) σ (.dict [(.str x, .str y)]) := fun H _ k p n =>
  ⟨upd_same, [(.inr x, .str y)], rfl, (by show 1 ≤ 15; decide), by
    rw [upd_upd]
    exact k _ _ (same_new n) (.dct (kvs := [(.inr x, .str y)]) (by rw [newH_at n]; exact upd_same) (.cons (k := .inr x) (.str y) .nil))⟩
end
/-! data without objects -/
mutual
def noOb : PyData → Bool
  | .none | .bool _ | .int _ | .str _ => true
  | .list xs | .tuple xs => noObAll xs
  | .dict kvs => noObKv kvs
def noObAll : List PyData → Bool
  | [] => true
  | x :: xs => noOb x && noObAll xs
def noObKv : List (PyData × PyData) → Bool
  | [] => true
  | (.none, _) :: _ => false
  | (_, v) :: r => noOb v && noObKv r
end
mutual
theorem dq_of2 [CurK] {H : Hp} : ∀ (d : PyData) (v : V), noOb d = true → Dx H v d → Dq H v d
  | .none, _, _, h => by cases h; exact .non
  | .bool b, _, _, h => by cases h; exact .bl b
  | .int i, _, _, h => by cases h; exact .int i
  | .str x, _, _, h => by cases h; exact .str x
  | .list ds, _, p, h => by
    cases h with
    | lst at_ low rest => exact .lst at_ low (dqAll_of2 ds _ (by simpa [noOb] using p) rest)
  | .tuple ds, _, p, h => by
    cases h with
    | tup at_ rest => exact .tup at_ (dqAll_of2 ds _ (by simpa [noOb] using p) rest)
  | .dict ds, v, p, h => by
    have p' : noObKv ds = true := by simpa [noOb] using p
    generalize hd : PyData.dict ds = d at h
    cases h with
    | dct at_ rest =>
      cases hd
      exact .dct at_ (dqKv_of2 ds _ p' rest)
    | ob at_ ok =>
      cases hd
      cases p'
    | _ => cases hd
theorem dqAll_of2 [CurK] {H : Hp} : ∀ (ds : List PyData) (vs : List V), noObAll ds = true → DxAll H vs ds → DqAll H vs ds
  | [], _, _, h => by cases h; exact .nil
  | d :: ds, _, p, h => by
    cases h with
    | cons one more =>
      have p' : noOb d = true ∧ noObAll ds = true := by simpa [noObAll] using p
      exact .cons (dq_of2 d _ p'.1 one) (dqAll_of2 ds _ p'.2 more)
theorem dqKv_of2 [CurK] {H : Hp} : ∀ (ds : List (PyData × PyData)) (kvs : List (Key × V)), noObKv ds = true → DxKv H kvs ds → DqKv H kvs ds
  | [], _, _, h => by cases h; exact .nil
  | (k, d) :: ds, _, p, h => by
    cases h with
    | @cons key _ _ _ _ one more =>
      have p' : noOb d = true ∧ noObKv ds = true := by
        cases key with
        | inl i => simpa [noObKv, keyD] using p
        | inr x => simpa [noObKv, keyD] using p
      exact .cons (dq_of2 d _ p'.1 one) (dqKv_of2 ds _ p'.2 more)
end
theorem noObAll_of : ∀ {ds : List PyData}, (∀ d ∈ ds, noOb d = true) → noObAll ds = true
  | [], _ => rfl
  | d :: ds, h => by
    simp only [noObAll, h d List.mem_cons_self, noObAll_of fun x hx => h x (List.mem_cons_of_mem _ hx), Bool.and_self]
section
theorem good_tupN {ds : List PyData} {b n k : Nat} (h : ∀ d ∈ ds, Good d b n) (l : ds.length ≤ k) : Good (.tuple ds) (b + 1) ((n + 2) * k + 3) := by
  have all : ∀ es : List PyData, (∀ d ∈ es, Good d b n) → PyData.showableAll es = true ∧ PyData.depthAll es ≤ b ∧ ((PyData.shownAll es).map (·.length)).sum ≤ n * es.length ∧ (PyData.shownAll es).length = es.length := by
    intro es
    induction es with
    | nil => exact fun _ => ⟨rfl, Nat.zero_le _, Nat.zero_le _, rfl⟩
    | cons e es ih =>
      intro he
      obtain ⟨i1, i2, i3, i4⟩ := ih fun d hd => he d (List.mem_cons_of_mem _ hd)
      have g := he e List.mem_cons_self
      refine ⟨?_, ?_, ?_, ?_⟩
      · simp only [PyData.showableAll, g.sh, i1, Bool.and_self]
      · simp only [PyData.depthAll]
        have := g.dp
        omega
      · simp only [PyData.shownAll, List.map_cons, List.sum_cons, List.length_cons]
        have := g.ln
        rw [Nat.mul_succ]
        omega
      · simp only [PyData.shownAll, List.length_cons, i4]
  obtain ⟨a1, a2, a3, a4⟩ := all ds h
  refine ⟨by simpa only [PyData.showable] using a1, by simp only [PyData.depth]; omega, ?_⟩
  simp only [PyData.shown]
  have z := tupleText_len_le (PyData.shownAll ds)
  rw [a4] at z
  have m1 : n * ds.length ≤ n * k := Nat.mul_le_mul_left n l
  have m2 : (n + 2) * k = n * k + 2 * k := Nat.add_mul n 2 k
  omega
theorem good_lstN {ds : List PyData} {b n k : Nat} (h : ∀ d ∈ ds, Good d b n) (l : ds.length ≤ k) : Good (.list ds) (b + 1) ((n + 2) * k + 3) := by
  have g := good_tupN h l
  have all : ∀ es : List PyData, (∀ d ∈ es, Good d b n) → ((PyData.shownAll es).map (·.length)).sum ≤ n * es.length ∧ (PyData.shownAll es).length = es.length := by
    intro es
    induction es with
    | nil => exact fun _ => ⟨Nat.zero_le _, rfl⟩
    | cons e es ih =>
      intro he
      obtain ⟨i3, i4⟩ := ih fun d hd => he d (List.mem_cons_of_mem _ hd)
      have g := he e List.mem_cons_self
      refine ⟨?_, ?_⟩
      · simp only [PyData.shownAll, List.map_cons, List.sum_cons, List.length_cons]
        have := g.ln
        rw [Nat.mul_succ]
        omega
      · simp only [PyData.shownAll, List.length_cons, i4]
  obtain ⟨a3, a4⟩ := all ds h
  refine ⟨by simpa only [PyData.showable] using g.sh, by simpa only [PyData.depth] using g.dp, ?_⟩
  simp only [PyData.shown]
  have z := listText_len_le (PyData.shownAll ds)
  rw [a4] at z
  have m1 : n * ds.length ≤ n * k := Nat.mul_le_mul_left n l
  have m2 : (n + 2) * k = n * k + 2 * k := Nat.add_mul n 2 k
  omega
/-- data that can be shown, and has no objects -/
structure Shw (d : PyData) : Prop where
  no : noOb d = true
  gd : Good d 50 100000
def shwB (d : PyData) : Bool := noOb d && (d.showable && (decide (d.depth ≤ 50) && decide (d.shown.length ≤ 100000)))
theorem shw_of {d : PyData} (h : shwB d = true) : Shw d := by
  unfold shwB at h
  simp only [Bool.and_eq_true, decide_eq_true_eq] at h
  exact ⟨h.1, h.2.1, h.2.2.1, h.2.2.2⟩
theorem shw_tup {ds : List PyData} {b n k : Nat} (h : ∀ d ∈ ds, noOb d = true ∧ Good d b n) (l : ds.length ≤ k) (hb : b + 1 ≤ 50) (hn : (n + 2) * k + 3 ≤ 100000) : Shw (.tuple ds) :=
  ⟨by simpa only [noOb] using noObAll_of fun d hd => (h d hd).1, (good_tupN (fun d hd => (h d hd).2) l).mono hb hn⟩
theorem shw_lst {ds : List PyData} {b n k : Nat} (h : ∀ d ∈ ds, noOb d = true ∧ Good d b n) (l : ds.length ≤ k) (hb : b + 1 ≤ 50) (hn : (n + 2) * k + 3 ≤ 100000) : Shw (.list ds) :=
  ⟨by simpa only [noOb] using noObAll_of fun d hd => (h d hd).1, (good_lstN (fun d hd => (h d hd).2) l).mono hb hn⟩
end
end V4

set_option maxHeartbeats 4000000
/-! V4f: how often a flag stands in a list; a lambda without parameters handed to a def that catches what it lets out -/
namespace V4
open PySem PySem.Spec PyProof.Rows L2 V1 V2 V3 LamX
def rCntB (K : PySem.W.Frag) : V → List V → Hp → VK → Prop := fun x xs H Q => ∃ (p : Addr) (bs : List Bool) (k : Bool), x = .ref p ∧ xs = [.bl k] ∧ SqL K H p (bs.map V.bl) ∧ Q (.int (bs.count k : Nat)) H
theorem flat_bools : ∀ bs : List Bool, (bs.map V.bl).all flatV = true
  | [] => rfl
  | b :: bs => by
    rw [List.map_cons, List.all_cons, flat_bools bs]
    rfl
theorem cnt_bools {k : Bool} : ∀ {bs : List Bool} {us : List Value}, Vals (bs.map V.bl) us → us.countP (eqU (.bl k)) = bs.count k
  | [], _, .nil => rfl
  | b :: bs, _, .cons r t => by
    cases r
    rw [List.countP_cons, cnt_bools t, List.count_cons]
    have z : eqU (.bl k) (Value.bool b) = (b == k) := by cases b <;> cases k <;> rfl
    rw [z]
theorem mt_countB {X : Cx} : MtR X "list.count" (rCntB X.K) := by
  rintro pins s σ H x xs v us Q I rx rxs ⟨p, bs, k, rfl, rfl, hs, q⟩
  cases rx
  obtain ⟨u, rfl, ru⟩ := rxs.one
  obtain ⟨its, rv, ⟨⟨cls, dd, dat, sl⟩, n, ho, hc, hdn, hd⟩, _⟩ := I.list hs
  simp only at hc hd
  subst hc hd
  refine call_meets PySem.F.slot_list_count ⟨_, ho, rfl⟩ PySem.F.entry_list_count (PySem.F.args_list_count_2 _ _) (SeqAt.list_countAt p its.toArray n dd sl u (eqU (.bl k)))
    ⟨ho, fun y hy => mem_eqAt ru rfl rv (flat_bools bs) y (by simpa using hy), ?_⟩
  refine ⟨.int (bs.count k : Nat), H, I.tok _, ⟨s.toks, ?_⟩, q⟩
  show Value.int ((its.toArray.toList.countP (eqU (.bl k)) : Nat) : Int) s.toks = _
  rw [show its.toArray.toList = its from rfl, cnt_bools rv]
section
variable {X : Cx} {pins : List (Addr × Obj)} {σ : L2.St} {H : Hp} {s : Shared}
/-- the context of the def g that got a lambda -/
abbrev inP (P : Program) (w : World) (K : PySem.W.Frag) (mg : Str → Option Value) (base : Heap) (A : Around) (st : List Env) (Ng : List Str) (x : Str) (sg : Scope) (g : Addr) (cdg : Value) (s : Shared) (H : Hp) : Cx := cxOf C8.CX0 P w K mg base Ng x sg g cdg A st s H C8.E0
abbrev inCx (X : Cx) (Ng : List Str) (x : Str) (sg : Scope) (g : Addr) (cdg : Value) (s : Shared) (H : Hp) : Cx := inP X.prog X.w X.K X.mg X.base X.A X.stack Ng x sg g cdg s H
/-- the def calls what it got: what leaves the lambda goes where the def's clauses wish, by the slots -/
theorem pe_actS {Ng : List Str} {x : Str} {sg : Scope} {g f c' : Addr} {cdg pm ctv : Value} {params : Arguments} {body : Expr} {scope : Scope} {k i : Nat} {nm : Str} {pn : List (Addr × Obj)} {xe : Value → Shared → Prop} {W : WX} {t : XK → TE} {p1 p2 : Pos}
    (I : Inv X pins σ H s) (L : LamS X.env.scope scope) (hf : s.heap.get? f = some (PySem.W.kla_obj "<lambda>" (X.env.qual ++ "<lambda>") params body scope (cloFrom X.env.cells scope.names []) pm c' ctv)) (new : H f = none) (off : f ∉ frs X.stack)
    (bind : bindArgs (PySem.W.kla_fn "<lambda>" (X.env.qual ++ "<lambda>") params body scope (cloFrom X.env.cells scope.names []) pm (.ref c') ctv) ⟨[], []⟩ = pure [])
    (tk : Takes ((inCx X Ng x sg g cdg s H).tr pn xe) W) (room : Room (k + 1) (X.A.deeper (envOfC x sg s.heap.objs.size g cdg)))
    (inner : ∀ (E : XK) (A : Around) (outer : List Env) (s : Shared) (H : Hp), Room k (A.deeper (lamEnv X scope s.heap.objs.size f c')) → PE (lamCx X A outer s H E scope f c') body (t E))
    (at_ : Ng[i]? = some nm) (vis : Vis sg nm) (nd : (nm == ("__debug__" : Str)) = false := by decide) (nc : (nm == ("__classdict__" : Str)) = false := by decide) :
    PE ((inCx X Ng x sg g cdg s H).tr pn xe) (.Call (.Name nm p1) [] [] p2) (fun τ G Q => τ[i]? = some (some (.ref f)) ∧ G c' = some (CodeO c' (X.env.qual ++ "<lambda>")) ∧ t (WE W τ) σ G Q) := by
  refine ⟨fun pins2 s2 τ G Q J ⟨h1, h2, h3⟩ => ?_⟩
  refine wpAny_Call_Name_kw (thn ((pe_var (pos := p1) (i := i) at_ vis nd nc).run pins2 s2 τ G (fun v G' => v = .ref f ∧ G' = G) J ⟨.ref f, h1, rfl, rfl⟩) ?_)
  rintro u s3 ⟨v, G', J3, rv, rfl, rfl⟩
  cases rv
  have there : s3.heap.get? f = some (PySem.W.kla_obj "<lambda>" (X.env.qual ++ "<lambda>") params body scope (cloFrom X.env.cells scope.names []) pm c' ctv) := J3.base.keep f _ hf new off (fun z => nomatch (show f ∈ ([] : List Addr) from z))
  refine PySem.W.callWith_F0 ⟨_, _, _, _, there⟩ ?_
  have un : Un (frs X.stack) [] H G' s.heap s3.heap := J3.base
  obtain ⟨⟨oc, vs, tc, hoc, hdc, hvc⟩, _, _⟩ := J3.hok c' _ h2
  have run : codeAny (model X.prog X.w) (X.A.deeper (envOfC x sg s.heap.objs.size g cdg)) (.call (.ref f) ⟨[], []⟩) (CR (L2.CX X.prog X.w) (envOfC x sg s.heap.objs.size g cdg :: X.stack) X.prog X.w G' s3 Q (WE W τ)) s3 := by
    refine PySem.W.kla_callFunE room.depth there rfl L.co L.gen rfl ⟨c', oc, vs, tc, rfl, hoc, hdc, hvc⟩ ?_
    rw [bind]
    refine wpAny_pure (wpAny_newFunctionEnv (fun y hy => (L.own y hy).2) (fun y hy => absurd hy (by simp)) (fun g1 ns1 sb1 => ⟨J3.nolimit.fresh _ sb1, ?_⟩) L.kind)
    show codeAny _ _ (.expr body (lamEnv X scope s3.heap.objs.size f c')) _ _
    have kp : ∀ b o, s3.heap.get? b = some o → g1.get? b = some o := fun b o e => sb1.extBut b o (Nat.ne_of_lt (Heap.lt_size e)) (Heap.get?_push_of_some _ e)
    have J4 : Inv (lamCx X (X.A.deeper (envOfC x sg s.heap.objs.size g cdg)) (envOfC x sg s.heap.objs.size g cdg :: X.stack) s3 G' (WE W τ) scope f c') [] σ G' { s3 with heap := g1, toks := s3.toks + ([] : List (Str × Value)).length } :=
      lam_start2 I L J3.env0 room.hd un ns1 kp
    refine PySem.W.kla_codeExpr (wpAny_mono ((inner _ _ _ s3 G' (room.deeper _)).run [] _ _ G' Q J4 h3) (fun v s5 out => ?_) fun e s5 out => out)
    exact let ⟨w', G5, J5, r5, q5⟩ := out; ⟨w', G5, J5.os, J5.bare, J5.base, J5.hok, r5, q5⟩
  refine wpAny_call (codeAny_mono run fun r s5 out => ?_)
  match r, out with
  | .error e, out => exact passAt tk τ pins2 G' s3 e s5 J3 out
  | .ok (.ret u), out => exact J3.after out
  | .ok .next, out => exact out.elim
  | .ok .brk, out => exact out.elim
  | .ok .cont, out => exact out.elim
/-- what a def makes of the lambda that it got -/
def GivesP (P : Program) (w : World) (K : PySem.W.Frag) (mg : Str → Option Value) (base : Heap) (A : Around) (st : List Env) (Ng : List Str) (x : Str) (sg : Scope) (g : Addr) (cdg : Value) (bg : List Stmt) (nm : Str) (q : Str) (TT : (XK → Hp → VK → Prop) → Hp → VK → Prop) : Prop :=
  ∀ (f c' : Addr) (s : Shared) (H : Hp) (Q : VK) (tl : XK → Hp → VK → Prop), Room 30 (A.deeper (envOfC x sg s.heap.objs.size g cdg)) →
    (∀ (W : WX) (pn : List (Addr × Obj)) (xe : Value → Shared → Prop) (p1 p2 : Pos), Takes ((inP P w K mg base A st Ng x sg g cdg s H).tr pn xe) W →
      PE ((inP P w K mg base A st Ng x sg g cdg s H).tr pn xe) (.Call (.Name nm p1) [] [] p2) (fun τ G Q => τ[0]? = some (some (.ref f)) ∧ G c' = some (CodeO c' q) ∧ tl (WE W τ) G Q)) →
    H c' = some (CodeO c' q) → TT tl H Q → ∃ t, PSs (inP P w K mg base A st Ng x sg g cdg s H).nox bg t ∧ t { nx := fun _ H' => Q .non H', rt := Q } (L2.start Ng [.ref f]) H
def tLamS (ts : List (Addr × Str)) (TT : (XK → Hp → VK → Prop) → Hp → VK → Prop) (t : XK → TE) : TE := fun σ H Q => Tabs ts H ∧ ∀ H1, ExtN H H1 → Tabs ts H1 → TT (fun E G Q' => t E σ G Q') H1 Q
/-- x(lambda: body) -/
theorem pe_lamS {ts : List (Addr × Str)} {TT : (XK → Hp → VK → Prop) → Hp → VK → Prop} {x nm : Str} {g c P : Addr} {fd : FuncData} {pg : Arguments} {bg : List Stmt} {sg : Scope} {Ng : List Str} {params : Arguments} {body : Expr} {scope : Scope} {t : XK → TE} {p lpos pos : Pos}
    (F : FunD X.K x x pg bg sg [] [] g fd) (bd : L2.Binds X.K fd [nm] []) (hm : X.mg x = some (.ref g)) (Sg : FnScope Ng [nm] sg) (at_ : Ng[0]? = some nm)
    (give : ∀ cdg : Value, GivesP X.prog X.w X.K X.mg X.base X.A X.stack Ng x sg g cdg bg nm (X.env.qual ++ "<lambda>") TT)
    (TB : TabB X.base X.mg c P) (code : X.env.code = .ref c) (mem : (P, X.env.qual ++ "<lambda>") ∈ ts) (uniq : ∀ p ∈ ts, p.1 = P → p.2 = X.env.qual ++ "<lambda>") (room : Room 32 X.A) (L : LamS X.env.scope scope)
    (inner : ∀ (E : XK) (A : Around) (outer : List Env) (s : Shared) (H : Hp) (f c' : Addr), Room 29 (A.deeper (lamEnv X scope s.heap.objs.size f c')) → PE (lamCx X A outer s H E scope f c') body (t E))
    (hg : Gl X x := by rfl) (dfl : defaultsOf params X.env = ([], []) := by rfl)
    (bind : ∀ (q : Str) (cl : List (Str × Addr)) (pm cv ctv : Value), bindArgs (PySem.W.kla_fn "<lambda>" q params body scope cl pm cv ctv) ⟨[], []⟩ = pure [] := by intros; rfl)
    (hdb : (x == ("__debug__" : Str)) = false := by decide) (nd : (nm == ("__debug__" : Str)) = false := by decide) (nc : (nm == ("__classdict__" : Str)) = false := by decide) :
    PE X (.Call (.Name x p) [.Lambda params body scope lpos] [] pos) (tLamS ts TT t) := by
  obtain ⟨oc, od, dV, kV, doc, pm0, an, cdv, ct, osl, rfl, lk, cd, _, _⟩ := F.ex
  have vis : Vis sg nm := (Sg.par nm List.mem_cons_self).elim (fun z => Or.inl z) (fun z => Or.inr (Or.inl z))
  refine ⟨fun pins s σ H Q I ⟨hT, h⟩ => ?_⟩
  refine wpAny_Call_Name_kw (ld_glob I hg hm ?_ hdb)
  refine PySem.W.callWith_K (h₀ := X.base) I.ok.mod.kin F.kp ?_ (by rfl) (by rfl)
  show wpAny _ _ (spliced ((false, eval (.Lambda params body scope lpos) X.env) :: backTo pos (starEach [] X.env))) _ _ s
  refine Calls.spliced_cons (lam_make2 I TB code mem uniq hT dfl (L.has I.ok) fun f c' pm ctv H1 s1 I1 eN T1 hf new off co => Calls.spliced_nil ⟨I1.kIn, ?_⟩)
  have run : codeAny (model X.prog X.w) X.A (.call (.ref g) ⟨[.ref f], []⟩) (CR C8.CX0 X.stack X.prog X.w H1 s1 Q C8.E0) s1 := by
    refine run_ofS (k := 31) (N := Ng) (ps := [nm]) (us := [.ref f]) (vs := [.ref f]) lk cd Sg room I1.env0 (bd s1 [.ref f] I1.kIn rfl) (.cons rfl .nil) rfl fun r31 => ?_
    obtain ⟨t', ht, hq⟩ := give cdv f c' s1 H1 Q (fun E G Q' => t E σ G Q') (r31.mono (by decide)) (fun W pn xe p1 p2 tk => pe_actS (k := 29) (i := 0) I1 L hf new off (bind _ _ _ _ _) tk (r31.mono (by decide)) (fun E A outer s H r => inner E A outer s H f c' r) at_ vis nd nc) co (h H1 eN T1)
    exact ⟨t', ht.nox, hq⟩
  refine wpAny_call (codeAny_mono run fun r s2 out => ?_)
  match r, out with
  | .error e, out => exact (show False from out).elim
  | .ok (.ret u), out => exact I1.after out
  | .ok .next, out => exact out.elim
  | .ok .brk, out => exact out.elim
  | .ok .cont, out => exact out.elim
end
end V4

set_option maxHeartbeats 4000000
/-! V4g: what stays when all but the tables of codes stays -/
namespace V4
open PySem PySem.Spec PyProof.Rows L2 V1 V2 V3 LamX
section
variable [CurK] {H H' : Hp}
mutual
theorem dx_ext (e : ExtN H H') : ∀ (d : PyData) (v : V), Dx H v d → Dx H' v d
  | .none, _, h => by cases h; exact .non
  | .bool b, _, h => by cases h; exact .bl b
  | .int i, _, h => by cases h; exact .int i
  | .str x, _, h => by cases h; exact .str x
  | .list ds, _, h => by
    cases h with
    | lst there low more => exact .lst (e _ _ there fun _ z => nomatch z) low (dxs_ext e ds _ more)
  | .tuple ds, _, h => by
    cases h with
    | tup there more => exact .tup (e _ _ there fun _ z => nomatch z) (dxs_ext e ds _ more)
  | .dict ds, _, h => by
    cases h with
    | dct there more => exact .dct (e _ _ there fun _ z => nomatch z) (dxk_ext e ds _ more)
    | ob there ok => exact .ob (e _ _ there fun _ z => nomatch z) ok
theorem dxs_ext (e : ExtN H H') : ∀ (ds : List PyData) (vs : List V), DxAll H vs ds → DxAll H' vs ds
  | [], _, h => by cases h; exact .nil
  | d :: ds, _, h => by
    cases h with
    | cons one more => exact .cons (dx_ext e d _ one) (dxs_ext e ds _ more)
theorem dxk_ext (e : ExtN H H') : ∀ (ds : List (PyData × PyData)) (kvs : List (Key × V)), DxKv H kvs ds → DxKv H' kvs ds
  | [], _, h => by cases h; exact .nil
  | (k, d) :: ds, _, h => by
    cases h with
    | cons one more => exact .cons (dx_ext e d _ one) (dxk_ext e ds _ more)
end
end
theorem ext_of {H H' : Hp} (s : Same H H') : ExtN H H' := ExtN.of s
theorem ext_del {H H' : Hp} {a : Addr} (e : ExtN H H') : ExtN (delH H a) (delH H' a) := fun b o h n => by
  by_cases z : b = a
  · rw [z, delH_same] at h
    cases h
  · rw [delH_ne z] at h ⊢
    exact e b o h n
theorem ext_lst {H H' : Hp} {p : Addr} {xs : List V} (e : ExtN H H') (h : H p = some (.lst xs)) : H' p = some (.lst xs) := e p _ h fun _ z => nomatch z
theorem ext_tup {H H' : Hp} {p : Addr} {xs : List V} (e : ExtN H H') (h : H p = some (.tup xs)) : H' p = some (.tup xs) := e p _ h fun _ z => nomatch z
/-- tables stay where everything stays -/
theorem tabs_same {ts : List (Addr × Str)} {H H' : Hp} (t : Tabs ts H) (s : Same H H') : Tabs ts H' := t.ext s
theorem tabS_del {H : Hp} {p a : Addr} {q : Str} (h : TabS H p q) (n : H a ≠ none → ∃ xs, H a = some (.lst xs)) : True := trivial
end V4

set_option maxHeartbeats 0
namespace K37
open PySem PySem.Spec PyProof.Rows L2 V1
def top (i : Nat) : Stmt := PySem.Challenge.pw_turnedtalk_k37_known_kinds_refused.main.body.getD i (.Pass ⟨0, 0, 0, 0⟩)
abbrev s_is_integer : Stmt := top 4
def d_is_integer : He.DefD := ⟨("is_integer", none), "is_integer", "is_integer", defArgs s_is_integer, defBody s_is_integer, defScope s_is_integer, [], []⟩
abbrev s_is_from_to : Stmt := top 5
def d_is_from_to : He.DefD := ⟨("is_from_to", none), "is_from_to", "is_from_to", defArgs s_is_from_to, defBody s_is_from_to, defScope s_is_from_to, [], []⟩
abbrev s_is_tuple_of : Stmt := top 6
def d_is_tuple_of : He.DefD := ⟨("is_tuple_of", none), "is_tuple_of", "is_tuple_of", defArgs s_is_tuple_of, defBody s_is_tuple_of, defScope s_is_tuple_of, [], []⟩
abbrev s_is_word : Stmt := top 7
def d_is_word : He.DefD := ⟨("is_word", none), "is_word", "is_word", defArgs s_is_word, defBody s_is_word, defScope s_is_word, [], []⟩
abbrev s_is_row : Stmt := top 8
def d_is_row : He.DefD := ⟨("is_row", none), "is_row", "is_row", defArgs s_is_row, defBody s_is_row, defScope s_is_row, [], []⟩
abbrev s_is_house : Stmt := top 9
def d_is_house : He.DefD := ⟨("is_house", none), "is_house", "is_house", defArgs s_is_house, defBody s_is_house, defScope s_is_house, [], []⟩
abbrev s_is_order : Stmt := top 10
def d_is_order : He.DefD := ⟨("is_order", none), "is_order", "is_order", defArgs s_is_order, defBody s_is_order, defScope s_is_order, [], []⟩
abbrev s_check_count : Stmt := top 21
def d_check_count : He.DefD := ⟨("check_count", none), "check_count", "check_count", defArgs s_check_count, defBody s_check_count, defScope s_check_count, [], []⟩
abbrev s_is_row_and_word : Stmt := top 23
def d_is_row_and_word : He.DefD := ⟨("is_row_and_word", none), "is_row_and_word", "is_row_and_word", defArgs s_is_row_and_word, defBody s_is_row_and_word, defScope s_is_row_and_word, [], []⟩
abbrev s_is_claim_thing : Stmt := top 25
def d_is_claim_thing : He.DefD := ⟨("is_claim_thing", none), "is_claim_thing", "is_claim_thing", defArgs s_is_claim_thing, defBody s_is_claim_thing, defScope s_is_claim_thing, [], []⟩
abbrev s_counted_claims : Stmt := top 26
def d_counted_claims : He.DefD := ⟨("counted_claims", none), "counted_claims", "counted_claims", defArgs s_counted_claims, defBody s_counted_claims, defScope s_counted_claims, [], []⟩
abbrev s_owned_rows : Stmt := top 27
def d_owned_rows : He.DefD := ⟨("owned_rows", none), "owned_rows", "owned_rows", defArgs s_owned_rows, defBody s_owned_rows, defScope s_owned_rows, [], []⟩
abbrev s_most_claimed : Stmt := top 32
def d_most_claimed : He.DefD := ⟨("most_claimed", none), "most_claimed", "most_claimed", defArgs s_most_claimed, defBody s_most_claimed, defScope s_most_claimed, [], []⟩
abbrev s_voted_row : Stmt := top 33
def d_voted_row : He.DefD := ⟨("voted_row", none), "voted_row", "voted_row", defArgs s_voted_row, defBody s_voted_row, defScope s_voted_row, [], []⟩
abbrev s_is_kind : Stmt := top 38
def d_is_kind : He.DefD := ⟨("is_kind", none), "is_kind", "is_kind", defArgs s_is_kind, defBody s_is_kind, defScope s_is_kind, [], []⟩
abbrev s_many_rows : Stmt := top 39
def d_many_rows : He.DefD := ⟨("many_rows", none), "many_rows", "many_rows", defArgs s_many_rows, defBody s_many_rows, defScope s_many_rows, [], []⟩
abbrev s_rows_of_kind : Stmt := top 40
def d_rows_of_kind : He.DefD := ⟨("rows_of_kind", none), "rows_of_kind", "rows_of_kind", defArgs s_rows_of_kind, defBody s_rows_of_kind, defScope s_rows_of_kind, [], []⟩
abbrev s_least_known : Stmt := top 42
def d_least_known : He.DefD := ⟨("least_known", none), "least_known", "least_known", defArgs s_least_known, defBody s_least_known, defScope s_least_known, [], []⟩
abbrev s__law_purse : Stmt := top 44
def d__law_purse : He.DefD := ⟨("_law_purse", none), "_law_purse", "_law_purse", defArgs s__law_purse, defBody s__law_purse, defScope s__law_purse, [], []⟩
abbrev s__law_part : Stmt := top 45
def d__law_part : He.DefD := ⟨("_law_part", none), "_law_part", "_law_part", defArgs s__law_part, defBody s__law_part, defScope s__law_part, [], []⟩
abbrev s__law_one : Stmt := top 46
def d__law_one : He.DefD := ⟨("_law_one", none), "_law_one", "_law_one", defArgs s__law_one, defBody s__law_one, defScope s__law_one, [], []⟩
abbrev s__law_mixed : Stmt := top 47
def d__law_mixed : He.DefD := ⟨("_law_mixed", none), "_law_mixed", "_law_mixed", defArgs s__law_mixed, defBody s__law_mixed, defScope s__law_mixed, [], []⟩
abbrev s__law_kind : Stmt := top 48
def d__law_kind : He.DefD := ⟨("_law_kind", none), "_law_kind", "_law_kind", defArgs s__law_kind, defBody s__law_kind, defScope s__law_kind, [], []⟩
abbrev s__law_word_of : Stmt := top 49
def d__law_word_of : He.DefD := ⟨("_law_word_of", none), "_law_word_of", "_law_word_of", defArgs s__law_word_of, defBody s__law_word_of, defScope s__law_word_of, [], []⟩
abbrev s__law_deep : Stmt := top 50
def d__law_deep : He.DefD := ⟨("_law_deep", none), "_law_deep", "_law_deep", defArgs s__law_deep, defBody s__law_deep, defScope s__law_deep, [], []⟩
abbrev s__law_bad_order : Stmt := top 51
def d__law_bad_order : He.DefD := ⟨("_law_bad_order", none), "_law_bad_order", "_law_bad_order", defArgs s__law_bad_order, defBody s__law_bad_order, defScope s__law_bad_order, [], []⟩
abbrev s__law_bad_kind : Stmt := top 52
def d__law_bad_kind : He.DefD := ⟨("_law_bad_kind", none), "_law_bad_kind", "_law_bad_kind", defArgs s__law_bad_kind, defBody s__law_bad_kind, defScope s__law_bad_kind, [], []⟩
abbrev s__law_bad_number : Stmt := top 53
def d__law_bad_number : He.DefD := ⟨("_law_bad_number", none), "_law_bad_number", "_law_bad_number", defArgs s__law_bad_number, defBody s__law_bad_number, defScope s__law_bad_number, [], []⟩
abbrev s__law_rows : Stmt := top 54
def d__law_rows : He.DefD := ⟨("_law_rows", none), "_law_rows", "_law_rows", defArgs s__law_rows, defBody s__law_rows, defScope s__law_rows, [], []⟩
abbrev s__law_edges_right : Stmt := top 55
def d__law_edges_right : He.DefD := ⟨("_law_edges_right", none), "_law_edges_right", "_law_edges_right", defArgs s__law_edges_right, defBody s__law_edges_right, defScope s__law_edges_right, [], []⟩
abbrev s_law : Stmt := top 56
def d_law : He.DefD := ⟨("law", none), "law", "law", defArgs s_law, defBody s_law, defScope s_law, [], []⟩
abbrev s_TooMany__init__ : Stmt := inClass (top 13) 0
def d_TooMany__init__ : He.DefD := ⟨("TooMany", some "__init__"), "__init__", "TooMany.__init__", defArgs s_TooMany__init__, defBody s_TooMany__init__, defScope s_TooMany__init__, [], []⟩
abbrev s_AllAhead__init__ : Stmt := inClass (top 41) 0
def d_AllAhead__init__ : He.DefD := ⟨("AllAhead", some "__init__"), "__init__", "AllAhead.__init__", defArgs s_AllAhead__init__, defBody s_AllAhead__init__, defScope s_AllAhead__init__, [], []⟩
abbrev s_AllAheadwrite : Stmt := inClass (top 41) 1
def d_AllAheadwrite : He.DefD := ⟨("AllAhead", some "write"), "write", "AllAhead.write", defArgs s_AllAheadwrite, defBody s_AllAheadwrite, defScope s_AllAheadwrite, [], []⟩
abbrev s_AllAheadtell : Stmt := inClass (top 41) 2
def d_AllAheadtell : He.DefD := ⟨("AllAhead", some "tell"), "tell", "AllAhead.tell", defArgs s_AllAheadtell, defBody s_AllAheadtell, defScope s_AllAheadtell, [], []⟩
def fn : List He.DefD := [d_is_integer, d_is_from_to, d_is_tuple_of, d_is_word, d_is_row, d_is_house, d_is_order, d_check_count, d_is_row_and_word, d_is_claim_thing, d_counted_claims, d_owned_rows, d_most_claimed, d_voted_row, d_is_kind, d_many_rows, d_rows_of_kind, d_least_known, d__law_purse, d__law_part, d__law_one, d__law_mixed, d__law_kind, d__law_word_of, d__law_deep, d__law_bad_order, d__law_bad_kind, d__law_bad_number, d__law_rows, d__law_edges_right, d_law, d_TooMany__init__, d_AllAhead__init__, d_AllAheadwrite, d_AllAheadtell]
def fa0 : List He.Fa := [.int "MOST_SIGNS" 40, .int "MOST_WORDS" 400, .int "MOST_OWNERS" 40, .glo "is_integer", .glo "is_from_to", .glo "is_tuple_of", .glo "is_word", .glo "is_row", .glo "is_house", .glo "is_order", .glo "TalkError", .glo "TooMany", .glo "NoOrder", .glo "NoNumber", .glo "NoHouses", .glo "NoKind", .glo "NoWord", .int "MOST_FAULTS" 8, .glo "check_count", .glo "is_row_and_word"]
def fa1 : List He.Fa := [.glo "is_claim_thing", .glo "counted_claims", .glo "owned_rows", .glo "Wordless", .int "TWO" 2, .glo "most_claimed", .glo "voted_row", .int "LEAST_OF_A_KIND" 2, .int "MOST_OF_A_KIND" 4, .int "MOST_ROWS" 4000, .glo "is_kind", .glo "many_rows", .glo "rows_of_kind", .glo "AllAhead", .glo "least_known", .glo "_law_purse", .glo "_law_part", .glo "_law_one", .glo "_law_mixed", .glo "_law_kind"]
def fa2 : List He.Fa := [.glo "_law_word_of", .glo "_law_deep", .glo "_law_bad_order", .glo "_law_bad_kind", .glo "_law_bad_number", .glo "_law_rows", .glo "_law_edges_right", .glo "law", .free "ValueError", .free "abs", .free "all", .free "bool", .free "enumerate", .free "int", .free "isinstance", .free "len", .free "list", .free "min", .free "range", .free "repr"]
def fa3 : List He.Fa := [.free "set", .free "sorted", .free "str", .free "tuple", .free "zip", .meth "TooMany" "__init__", .noat "TooMany" "most", .exc "NoOrder", .exc "NoNumber", .exc "NoHouses", .exc "NoKind", .exc "NoWord", .exc "TalkError", .cls "AllAhead", .noat "AllAhead" "kind", .noat "AllAhead" "order", .mkr "AllAhead", .meth "AllAhead" "__init__", .meth "AllAhead" "write", .meth "AllAhead" "tell"]
def fa : List He.Fa := fa0 ++ (fa1 ++ (fa2 ++ (fa3)))
def errs : List Str := ["TooMany", "NoOrder", "NoNumber", "NoHouses", "NoKind", "NoWord"]
def plainC : List Str := ["AllAhead"]
def exB0 (K : PySem.W.Frag) : Bool :=
  oexB K (He.ga K "TalkError") veB && (errs.all (fun x => oexB K (He.ga K x) (.ref (He.ga K "TalkError") :: veB)) && (decide ((He.ga K "TalkError" :: errs.map (He.ga K)).Nodup) && clsAttrB K))
def exI (K : PySem.W.Frag) : Bool := plainC.all fun x => V2.insB K (He.ga K x)
def exK (K : PySem.W.Frag) : Bool := plainC.all fun x => V3.kindB K (He.ga K x) && plainC.all fun y => (x == y) || (decide (PySem.W.kitOne K (.ref (He.ga K x)) (.ref (He.ga K y)) = some false) && PySem.W.notFirst K (He.ga K x) (.ref (He.ga K y)))
def exB1 (K : PySem.W.Frag) : Bool := exB0 K && (exI K && exK K)
def lamN : List Str := ["law", "_law_edges_right"]
def exB (K : PySem.W.Frag) : Bool := exB1 K && ((lamN.all fun x => V4.lamB K (He.ga K x)) && decide ((lamN.map fun x => (V4.pairOf K (He.ga K x)).2).Nodup))
def emB (g : Addr → Option Obj) (K : PySem.W.Frag) : Bool := lamN.all fun x => V4.emptyT g (V4.pairOf K (He.ga K x)).2
abbrev AlE : Type := He.AlD × (Bool × Bool)
def obsE (g : Addr → Option Obj) : AlE := (He.obsD fa fn (He.frG g (V4.asT g 4)), (exB (He.frG g (V4.asT g 4)), emB g (He.frG g (V4.asT g 4))))
def hk : PySem.W.Hook where
  α := AlE
  obs := fun s => obsE s.heap.get?
  val := fun _ => (He.valD fn, (true, true))
  says := fun _ h => ∃ K : PySem.W.Frag, K.In h ∧ He.SaysD fa fn K ∧ (exB K = true ∧ ∀ x ∈ lamN, h.get? (V4.pairOf K (He.ga K x)).2 = some { cls := .none, data := .fields #[] })
  of := fun _ _ e => ⟨_, He.frG_in, congrArg (fun z : AlE => z.1) e, congrArg (fun z : AlE => z.2.1) e, fun x hx => V4.emptyT_is (List.all_eq_true.mp (show emB _ _ = true from congrArg (fun z : AlE => z.2.2) e) x hx)⟩
  keeps := fun _ _ _ ⟨K, inK, c, x, t⟩ k => ⟨K, PySem.W.Frag.In.keeps inK k, c, x, fun y hy => k _ _ (t y hy)⟩
theorem obsE_eq {g : Addr → Option Obj} {s : Shared} (h : ∀ a, g a = s.heap.get? a) : obsE g = hk.obs s := by
  have same : g = s.heap.get? := funext h
  rw [same] <;> rfl
abbrev R : PySem.W.OpenRow := PySem.W.OpenLaw.row PySem.Challenge.rw_turnedtalk_k37_known_kinds_refused
def ob (s : PySem.W.SharedT) : AlE := obsE (HandSHeadRun.getT s)
theorem ob_eq (s : PySem.W.SharedT) : ob s = hk.obs s.abs := obsE_eq (HandSHeadRun.getT_eq s)
def nm0 : List PySem.Str := ["MOST_SIGNS", "MOST_WORDS", "MOST_OWNERS", "is_integer", "is_from_to", "is_tuple_of", "is_word", "is_row", "is_house", "is_order", "TalkError", "TooMany", "NoOrder", "NoNumber", "NoHouses", "NoKind", "NoWord", "MOST_FAULTS", "check_count", "is_row_and_word", "is_claim_thing", "counted_claims", "owned_rows", "Wordless", "TWO"]
def nm1 : List PySem.Str := ["most_claimed", "voted_row", "LEAST_OF_A_KIND", "MOST_OF_A_KIND", "MOST_ROWS", "is_kind", "many_rows", "rows_of_kind", "AllAhead", "least_known", "_law_purse", "_law_part", "_law_one", "_law_mixed", "_law_kind", "_law_word_of", "_law_deep", "_law_bad_order", "_law_bad_kind", "_law_bad_number", "_law_rows", "_law_edges_right"]
def names : List PySem.Str := nm0 ++ (nm1)
theorem run (w : World) : HandSHeadRun.RunEq R (PySem.W.view R.prog [56]) hk ob 60000 names w := by
  intro os
  kernel_rfl
theorem exB_1 {K : PySem.W.Frag} (h : exB K = true) : exB1 K = true := (Bool.and_eq_true_iff.mp h).1
theorem lam_at {K : PySem.W.Frag} (h : exB K = true) {x : Str} (hx : x ∈ lamN) : V4.LamD K (He.ga K x) := V4.lamD_of (List.all_eq_true.mp (Bool.and_eq_true_iff.mp (Bool.and_eq_true_iff.mp h).2).1 x hx)
theorem tabs_nd {K : PySem.W.Frag} (h : exB K = true) : (lamN.map fun x => (V4.pairOf K (He.ga K x)).2).Nodup := of_decide_eq_true (Bool.and_eq_true_iff.mp (Bool.and_eq_true_iff.mp h).2).2
structure Tx (K : PySem.W.Frag) (mg : Str → Option Value) : Prop where
  c : He.SaysD fa fn K
  ex : exB1 K = true
  lam : ∀ x ∈ lamN, V4.LamD K (He.ga K x)
  nd : (lamN.map fun x => (V4.pairOf K (He.ga K x)).2).Nodup
  h : ∃ h : Heap, K.In h ∧ h.Ns mainGlobals mg
section
variable {K : PySem.W.Frag} {mg : Str → Option Value}
theorem Tx.glo (T : Tx K mg) (i : Nat) {x : Str} (e : fa[i]? = some (.glo x)) : mg x = some (.ref (He.ga K x)) := by
  obtain ⟨h, X, G⟩ := T.h
  exact He.glo_ok X G (T.c.fact i e)
theorem Tx.free (T : Tx K mg) (i : Nat) {x : Str} (e : fa[i]? = some (.free x)) : mg x = none := by
  obtain ⟨h, X, G⟩ := T.h
  exact He.free_ok X G (T.c.fact i e)
theorem Tx.int (T : Tx K mg) (i : Nat) {x : Str} {n : Int} (e : fa[i]? = some (.int x n)) : ∃ t, mg x = some (.int n t) := by
  obtain ⟨h, X, G⟩ := T.h
  exact He.int_ok X G (T.c.fact i e)
theorem Tx.noat (T : Tx K mg) (i : Nat) {x f : Str} (e : fa[i]? = some (.noat x f)) : PySem.W.findIn K (.ref (He.ga K x)) f = some none := He.noat_ok (T.c.fact i e)
theorem Tx.exq (T : Tx K mg) (i : Nat) {x : Str} (e : fa[i]? = some (.exc x)) : PySem.W.excIn K (He.ga K x) He.veBase "ValueError.__new__" = true ∧ PySem.W.keepIn K (.ref (He.ga K x)) = true := by
  have z := He.exc_ok (T.c.fact i e)
  exact ⟨z.1, z.2.1⟩
end
end K37

set_option maxHeartbeats 4000000
namespace V2
open PySem PySem.Spec PyProof.Rows L2 V1
def fromTo (lo hi : Int) : PyData → Bool
  | .int n => decide (lo ≤ n) && decide (n ≤ hi)
  | _ => false
def tupOf (lo hi : Int) : PyData → Bool
  | .tuple xs => decide (lo ≤ (xs.length : Int)) && decide ((xs.length : Int) ≤ hi)
  | _ => false
theorem fromTo_int {lo hi : Int} {d : PyData} (h : fromTo lo hi d = true) : ∃ n, d = .int n ∧ lo ≤ n ∧ n ≤ hi := by
  cases d with
  | int n =>
    have z : decide (lo ≤ n) = true ∧ decide (n ≤ hi) = true := by simpa [fromTo] using h
    exact ⟨n, rfl, of_decide_eq_true z.1, of_decide_eq_true z.2⟩
  | _ => cases h
theorem tupOf_tup {lo hi : Int} {d : PyData} (h : tupOf lo hi d = true) : ∃ xs, d = .tuple xs ∧ lo ≤ (xs.length : Int) ∧ (xs.length : Int) ≤ hi := by
  cases d with
  | tuple xs =>
    have z : decide (lo ≤ (xs.length : Int)) = true ∧ decide ((xs.length : Int) ≤ hi) = true := by simpa [tupOf] using h
    exact ⟨xs, rfl, of_decide_eq_true z.1, of_decide_eq_true z.2⟩
  | _ => cases h
theorem isInt_int {d : PyData} (h : isInt d = true) : ∃ n, d = .int n := by
  cases d with
  | int n => exact ⟨n, rfl⟩
  | _ => cases h
theorem isTup_tup {d : PyData} (h : isTup d = true) : ∃ n, d = .tuple n := by
  cases d with
  | tuple n => exact ⟨n, rfl⟩
  | _ => cases h
theorem Dq.int_inv {H : Hp} {v : V} {n : Int} (h : Dq H v (.int n)) : v = .int n := by
  cases h
  rfl
theorem Dq.tup_inv {H : Hp} {v : V} {ds : List PyData} (h : Dq H v (.tuple ds)) : ∃ a vs, v = .ref a ∧ H a = some (.tup vs) ∧ DqAll H vs ds := by
  cases h with
  | tup e r => exact ⟨_, _, rfl, e, r⟩
end V2
namespace K37
open PySem PySem.Spec PyProof.Rows L2 V1 V2 V3
open Evl (pss_cut tCut sq_of st_of)
abbrev K [k : CurK] : PySem.W.Frag := k.K
section
variable [CurK]
def spInteger : Sp := fun vs H Q _ => ∃ v d, vs = [v] ∧ Dx H v d ∧ Q (.bl (isInt d)) H
def spFromTo : Sp := fun vs H Q _ => ∃ v d lo hi, vs = [v, .int lo, .int hi] ∧ Dx H v d ∧ Q (.bl (fromTo lo hi d)) H
def spTupOf : Sp := fun vs H Q _ => ∃ v d lo hi, vs = [v, .int lo, .int hi] ∧ Dx H v d ∧ Q (.bl (tupOf lo hi d)) H
theorem scInteger : FnScope ["thing"] ["thing"] (defScope s_is_integer) := ⟨rfl, rfl, rfl, by decide +kernel, rfl, by decide +kernel, by decide +kernel⟩
theorem scFromTo : FnScope ["thing", "least", "most"] ["thing", "least", "most"] (defScope s_is_from_to) := ⟨rfl, rfl, rfl, by decide +kernel, rfl, by decide +kernel, by decide +kernel⟩
theorem scTupOf : FnScope ["thing", "least", "most"] ["thing", "least", "most"] (defScope s_is_tuple_of) := ⟨rfl, rfl, rfl, by decide +kernel, rfl, by decide +kernel, by decide +kernel⟩
end
section
variable [CurK] {P : Program} {w : World} {mg : Str → Option Value} {base : Heap}
theorem ok_integer (T : Tx K mg) : Has P w K mg base CX0 1 "is_integer" ["thing"] spInteger := by
  obtain ⟨fd, F⟩ := T.c.def_ 0 (d := d_is_integer) rfl
  refine ⟨fd, F.ok scInteger (fun vs H Q E h => ?_) (fun cdv A outer s H vs Q E hr h => ?_), FunD.bindsN F fun _ _ _ _ _ _ us hl => match us, hl with | [_], _ => rfl, F.kp, (T.glo 3 rfl)⟩
  · obtain ⟨v, d, rfl, _⟩ := h
    rfl
  · refine ⟨_, PSs.nox (pss_one (ps_ret (pe_and (pe_callB call_isi (by rfl) (T.free 54 rfl) (by decide +kernel) (pa_cons (pv 0) (pa_cons (pe_bltn (v := .ty "int") (by rfl) (T.free 53 rfl) (by decide +kernel) rfl) pa_nil))) (pe_one (pe_not (pe_callB call_isi (by rfl) (T.free 54 rfl) (by decide +kernel) (pa_cons (pv 0) (pa_cons (pe_bltn (v := .ty "bool") (by rfl) (T.free 51 rfl) (by decide +kernel) rfl) pa_nil)))))))), ?_⟩
    obtain ⟨v, d, rfl, hd, hQ⟩ := h
    refine isx_go (kx_int d) (fun Q q => ⟨v, rfl, q⟩) hd ⟨_, rfl, ite2 (fun e => ?_) (fun e => ?_)⟩
    · refine isx_go (kx_bool d) (fun Q q => ⟨v, rfl, q⟩) hd ⟨_, rfl, ?_⟩
      cases d <;> first | exact hQ | cases e
    · cases d <;> first | exact hQ | exact absurd rfl e
theorem ok_fromTo (T : Tx K mg) : Has P w K mg base CX0 2 "is_from_to" ["thing", "least", "most"] spFromTo := by
  obtain ⟨fd, F⟩ := T.c.def_ 1 (d := d_is_from_to) rfl
  have Hi := ok_integer (P := P) (w := w) (base := base) T
  refine ⟨fd, F.ok scFromTo (fun vs H Q E h => ?_) (fun cdv A outer s H vs Q E hr h => ?_), FunD.bindsN F fun _ _ _ _ _ _ us hl => match us, hl with | [_, _, _], _ => rfl, F.kp, (T.glo 4 rfl)⟩
  · obtain ⟨v, d, lo, hi, rfl, _⟩ := h
    rfl
  · refine ⟨_, PSs.nox (pss_one (ps_ret (pe_and (pe_has Hi (hr.mono (by decide)) pass0 (pa_cons (pv 0) pa_nil)) (pe_one (pe_chain op_le op_le (pv 1) (pv 0) (pv 2)))))), ?_⟩
    obtain ⟨v, d, lo, hi, rfl, hd, hQ⟩ := h
    refine ⟨v, rfl, v, d, rfl, hd, _, rfl, ite2 (fun e => ?_) (fun e => ?_)⟩
    · obtain ⟨n, rfl⟩ := isInt_int e
      obtain rfl := Dx.int_inv hd
      refine ⟨_, rfl, _, rfl, lo, n, rfl, rfl, _, rfl, ite2 (fun e1 => ?_) (fun e1 => ?_)⟩
      · refine ⟨_, rfl, n, hi, rfl, rfl, ?_⟩
        have z : fromTo lo hi (.int n) = decide (n ≤ hi) := by
          show (decide (lo ≤ n) && _) = _
          rw [e1, Bool.true_and]
        rw [z] at hQ
        exact hQ
      · have z : fromTo lo hi (.int n) = false := by
          show (decide (lo ≤ n) && _) = _
          rw [Bool.eq_false_iff.mpr e1, Bool.false_and]
        rw [z] at hQ
        exact hQ
    · cases d <;> first | exact hQ | exact absurd rfl e
theorem ok_tupOf (T : Tx K mg) : Has P w K mg base CX0 1 "is_tuple_of" ["thing", "least", "most"] spTupOf := by
  obtain ⟨fd, F⟩ := T.c.def_ 2 (d := d_is_tuple_of) rfl
  refine ⟨fd, F.ok scTupOf (fun vs H Q E h => ?_) (fun cdv A outer s H vs Q E hr h => ?_), FunD.bindsN F fun _ _ _ _ _ _ us hl => match us, hl with | [_, _, _], _ => rfl, F.kp, (T.glo 5 rfl)⟩
  · obtain ⟨v, d, lo, hi, rfl, _⟩ := h
    rfl
  · refine ⟨_, PSs.nox (pss_one (ps_ret (pe_and (pe_callB call_isi (by rfl) (T.free 54 rfl) (by decide +kernel) (pa_cons (pv 0) (pa_cons (pe_bltn (v := .ty "tuple") (by rfl) (T.free 63 rfl) (by decide +kernel) rfl) pa_nil))) (pe_one (pe_chain op_le op_le (pv 1) (pe_callB call_len (by rfl) (T.free 55 rfl) PySem.boot_len (pa_cons (pv 0) pa_nil)) (pv 2)))))), ?_⟩
    obtain ⟨v, d, lo, hi, rfl, hd, hQ⟩ := h
    refine isx_go (kx_tup d) (fun Q q => ⟨v, rfl, q⟩) hd ⟨_, rfl, ite2 (fun e => ?_) (fun e => ?_)⟩
    · obtain ⟨xs, rfl⟩ := isTup_tup e
      obtain ⟨a, vs, rfl, hv, hr⟩ := Dx.tup_inv hd
      have len := dxAll_len hr
      refine ⟨_, rfl, _, rfl, _, _, rfl, .inr ⟨vs, st_of hv, rfl⟩, lo, _, rfl, rfl, _, rfl, ite2 (fun e1 => ?_) (fun e1 => ?_)⟩
      · refine ⟨_, rfl, _, hi, rfl, rfl, ?_⟩
        rw [len] at e1 ⊢
        have z : tupOf lo hi (.tuple xs) = decide ((xs.length : Int) ≤ hi) := by
          show (decide (lo ≤ (xs.length : Int)) && _) = _
          rw [e1, Bool.true_and]
        rw [z] at hQ
        exact hQ
      · rw [len] at e1
        have z : tupOf lo hi (.tuple xs) = false := by
          show (decide (lo ≤ (xs.length : Int)) && _) = _
          rw [Bool.eq_false_iff.mpr e1, Bool.false_and]
        rw [z] at hQ
        exact hQ
    · cases d <;> first | exact hQ | exact absurd rfl e
end
section
variable {K : PySem.W.Frag} {mg : Str → Option Value}
theorem Tx.exs (T : Tx K mg) : ExK K (He.ga K "TalkError") veB ∧ (∀ x ∈ errs, ExK K (He.ga K x) (.ref (He.ga K "TalkError") :: veB)) ∧ (He.ga K "TalkError" :: errs.map (He.ga K)).Nodup ∧ ClsAttr K := by
  have e := T.ex
  unfold exB1 exB0 at e
  simp only [Bool.and_eq_true, List.all_eq_true, decide_eq_true_eq] at e
  exact ⟨exK_of e.1.1, fun x hx => exK_of (e.1.2.1 x hx), e.1.2.2.1, clsAttr_of e.1.2.2.2⟩
theorem Tx.insK (T : Tx K mg) (i : Nat) {x : Str} (h : plainC[i]? = some x) : InsK K (He.ga K x) := by
  have e := T.ex
  unfold exB1 exI at e
  simp only [Bool.and_eq_true, List.all_eq_true] at e
  exact insK_of (e.2.1 x (List.mem_of_getElem? h))
theorem Tx.kind (T : Tx K mg) (i : Nat) {x : Str} (h : plainC[i]? = some x) : V3.kindB K (He.ga K x) = true := by
  have e := T.ex
  unfold exB1 exK at e
  simp only [Bool.and_eq_true, List.all_eq_true] at e
  exact (e.2.2 x (List.mem_of_getElem? h)).1
/-- two plain classes: neither holds the other's objects -/
theorem Tx.two (T : Tx K mg) (i j : Nat) {x y : Str} (h : plainC[i]? = some x) (h' : plainC[j]? = some y) (ne : (x == y) = false) : PySem.W.kitOne K (.ref (He.ga K x)) (.ref (He.ga K y)) = some false ∧ PySem.W.notFirst K (He.ga K x) (.ref (He.ga K y)) = true := by
  have e := T.ex
  unfold exB1 exK at e
  simp only [Bool.and_eq_true, List.all_eq_true] at e
  have z := (e.2.2 x (List.mem_of_getElem? h)).2 y (List.mem_of_getElem? h')
  rw [ne, Bool.false_or, Bool.and_eq_true, decide_eq_true_eq] at z
  exact z
theorem Tx.one (T : Tx K mg) (i : Nat) {x : Str} (h : errs[i]? = some x) : ExK K (He.ga K x) (.ref (He.ga K "TalkError") :: veB) := T.exs.2.1 x (List.mem_of_getElem? h)
end
theorem Tx.obC [CurK] {mg : Str → Option Value} (T : Tx K mg) (i : Nat) {x : Str} (h : plainC[i]? = some x) (c : Cls K (He.ga K x)) : ObC (He.ga K x) := obC_of ((T.insK i h).ins c T.exs.2.2.2) (T.kind i h)
end K37

set_option maxHeartbeats 4000000
namespace K37
open PySem PySem.Spec PyProof.Rows L2 V1 V2 V3
open Evl (pss_cut tCut sq_of st_of)
section
variable {K : PySem.W.Frag} {mg : Str → Option Value}
theorem Tx.rai (T : Tx K mg) (i : Nat) {x : Str} (e : fa[i]? = some (.exc x)) {X : Cx} (hX : X.K = K := by rfl) : Raises X (.ref (He.ga K x)) := by
  have z := He.exc_ok (T.c.fact i e)
  subst hX
  exact raises_own z.2.2.1 z.2.2.2
end
/-- a word: of at most 40 signs, from the blank to the tilde -/
def wordX (x : Str) : Bool := decide (x.length ≤ 40) && (Txt.isascii x && Txt.isprintable x)
def wordD : PyData → Bool
  | .str x => wordX x
  | _ => false
/-- an order of so many houses -/
def orderD (m : Int) : PyData → Bool
  | .tuple ds => decide (1 ≤ ds.length) && (decide (ds.length ≤ 40) && ds.all (fromTo 0 (m - 1)))
  | _ => false
section
variable [CurK]
def spHouse : Sp := fun vs H Q _ => ∃ v d m, vs = [v, .int m] ∧ Dx H v d ∧ Q (.bl (fromTo 0 (m - 1) d)) H
def spOrder : Sp := fun vs H Q _ => ∃ v d m, vs = [v, .int m] ∧ Dx H v d ∧ ∀ H', Same H H' → Q (.bl (orderD m d)) H'
def spCount : Sp := fun vs H Q E => ∃ v d, vs = [v] ∧ Dx H v d ∧ (fromTo 0 8 d = true → Q .non H) ∧ (fromTo 0 8 d = false → E (.ref (He.ga K "NoNumber")) none H)
def shortD : PyData → Prop
  | .str x => x.length ≤ 10000
  | _ => True
def spWord : Sp := fun vs H Q _ => ∃ v d, vs = [v] ∧ Dx H v d ∧ shortD d ∧ Q (.bl (wordD d)) H
end
theorem scWord : FnScope ["thing"] ["thing"] (defScope s_is_word) := ⟨rfl, rfl, rfl, by decide +kernel, rfl, by decide +kernel, by decide +kernel⟩
theorem scHouse : FnScope ["thing", "many"] ["thing", "many"] (defScope s_is_house) := ⟨rfl, rfl, rfl, by decide +kernel, rfl, by decide +kernel, by decide +kernel⟩
theorem scOrder : FnScope ["thing", "many", "owner"] ["thing", "many"] (defScope s_is_order) := ⟨rfl, rfl, rfl, by decide +kernel, rfl, by decide +kernel, by decide +kernel⟩
theorem scCount : FnScope ["count"] ["count"] (defScope s_check_count) := ⟨rfl, rfl, rfl, by decide +kernel, rfl, by decide +kernel, by decide +kernel⟩
section
variable [CurK] {P : Program} {w : World} {mg : Str → Option Value} {base : Heap}
theorem ok_word (T : Tx K mg) : Has P w K mg base CX0 1 "is_word" ["thing"] spWord := by
  obtain ⟨fd, F⟩ := T.c.def_ 3 (d := d_is_word) rfl
  obtain ⟨tMS, gMS⟩ := (T.int 0 rfl)
  refine ⟨fd, F.ok scWord (fun vs H Q E h => ?_) (fun cdv A outer s H vs Q E hr h => ?_), FunD.bindsN F fun _ _ _ _ _ _ us hl => match us, hl with | [_], _ => rfl, F.kp, (T.glo 6 rfl)⟩
  · obtain ⟨v, d, rfl, _⟩ := h
    rfl
  · refine ⟨_, PSs.nox (pss_one (ps_ret (pe_and (pe_callB call_isi (by rfl) (T.free 54 rfl) (by decide +kernel) (pa_cons (pv 0) (pa_cons (pe_bltn (v := .ty "str") (by rfl) (T.free 62 rfl) (by decide +kernel) rfl) pa_nil))) (pe_and (pe_cmpR op_le (pe_callB call_len (by rfl) (T.free 55 rfl) PySem.boot_len (pa_cons (pv 0) pa_nil)) (pe_glob (v := .int 40) (by rfl) gMS ⟨_, rfl⟩) (nomark _)) (pe_and (pe_m0 PySem.F.slot_str_isascii PySem.F.type_str_isascii mt_isascii (pv 0)) (pe_one (pe_m0 PySem.F.slot_str_isprintable PySem.F.type_str_isprintable mt_isprintable (pv 0)))))))), ?_⟩
    obtain ⟨v, d, rfl, hd, hs, hQ⟩ := h
    refine isx_go (kx_str d) (fun Q q => ⟨v, rfl, q⟩) hd ⟨_, rfl, ite2 (fun e => ?_) (fun e => ?_)⟩
    · cases d with
      | str x =>
        obtain rfl := Dx.str_inv hd
        have hs' : x.length ≤ 10000 := hs
        refine ⟨_, rfl, _, _, rfl, (show LenV K (.str x) H x.length from ⟨Nat.le_trans hs' (by decide), rfl⟩), _, _, rfl, rfl, _, rfl, ite2 (fun e1 => ?_) (fun e1 => ?_)⟩
        · have l1 : decide (x.length ≤ 40) = true := by
            have z := of_decide_eq_true e1
            exact decide_eq_true (by omega)
          have wx : wordD (.str x) = (Txt.isascii x && Txt.isprintable x) := by
            show (decide (x.length ≤ 40) && _) = _
            rw [l1, Bool.true_and]
          rw [wx] at hQ
          refine ⟨_, rfl, ⟨_, rfl⟩, x, rfl, rfl, trivial, _, rfl, ite2 (fun e2 => ?_) (fun e2 => ?_)⟩
          · rw [e2, Bool.true_and] at hQ
            exact ⟨_, rfl, ⟨_, rfl⟩, x, rfl, rfl, trivial, hQ⟩
          · rw [Bool.eq_false_iff.mpr e2, Bool.false_and] at hQ
            exact hQ
        · have l1 : decide (x.length ≤ 40) = false := by
            refine decide_eq_false fun z => e1 (decide_eq_true ?_)
            omega
          have wx : wordD (.str x) = false := by
            show (decide (x.length ≤ 40) && _) = _
            rw [l1, Bool.false_and]
          rw [wx] at hQ
          exact hQ
      | _ => cases e
    · cases d <;> first | exact hQ | exact absurd rfl e
theorem ok_house (T : Tx K mg) : Has P w K mg base CX0 3 "is_house" ["thing", "many"] spHouse := by
  obtain ⟨fd, F⟩ := T.c.def_ 5 (d := d_is_house) rfl
  have Hf := ok_fromTo (P := P) (w := w) (base := base) T
  refine ⟨fd, F.ok scHouse (fun vs H Q E h => ?_) (fun cdv A outer s H vs Q E hr h => ?_), FunD.bindsN F fun _ _ _ _ _ _ us hl => match us, hl with | [_, _], _ => rfl, F.kp, (T.glo 8 rfl)⟩
  · obtain ⟨v, d, m, rfl, _⟩ := h
    rfl
  · refine ⟨_, PSs.nox (pss_one (ps_ret (pe_has Hf (hr.mono (by decide)) pass0 (pa_cons (pv 0) (pa_cons pe_int (pa_cons (pe_op op_sub (pv 1) pe_int) pa_nil)))))), ?_⟩
    obtain ⟨v, d, m, rfl, hd, hQ⟩ := h
    exact ⟨v, rfl, _, rfl, _, _, rfl, rfl, v, d, 0, m - 1, rfl, hd, hQ⟩
theorem ok_order (T : Tx K mg) : Has P w K mg base CX0 4 "is_order" ["thing", "many"] spOrder := by
  obtain ⟨fd, F⟩ := T.c.def_ 6 (d := d_is_order) rfl
  have Ht := ok_tupOf (P := P) (w := w) (base := base) T
  have Hh := ok_house (P := P) (w := w) (base := base) T
  obtain ⟨tO, gO⟩ := (T.int 2 rfl)
  refine ⟨fd, F.ok scOrder (fun vs H Q E h => ?_) (fun cdv A outer s H vs Q E hr h => ?_), FunD.bindsN F fun _ _ _ _ _ _ us hl => match us, hl with | [_, _], _ => rfl, F.kp, (T.glo 9 rfl)⟩
  · obtain ⟨v, d, m, rfl, _⟩ := h
    rfl
  · refine ⟨_, PSs.nox (pss_one (ps_ret (pe_and (pe_has Ht (hr.mono (by decide)) pass0 (pa_cons (pv 0) (pa_cons pe_int (pa_cons (pe_glob (v := .int 40) (by rfl) gO ⟨_, rfl⟩) pa_nil)))) (pe_one (pe_callB (cr_all rfl) (by rfl) (T.free 50 rfl) (by decide +kernel) (pa_cons (pe_lc (own := [("owner", 2)]) (g := gName 2) (tt := tYes) (te := tCall spHouse [] E0 (tCons (tVar 2) (tCons (tVar 1) tNil))) (by rfl) scOrder.nd (pi_tup (pv 0))
 (blkOk_by (own := [("owner", 2)]) (N := ["thing", "many", "owner"]) (sc := defScope s_is_order) (by decide +kernel)) (fun _ _ _ _ _ => pg_name (i := 2) scOrder.nd rfl (Or.inl rfl)) (fun _ _ _ _ _ => pts_nil) (fun _ _ _ _ _ => (pe_has Hh (hr.mono (by decide)) pass0 (pa_cons (pv 2) (pa_cons (pv 1) pa_nil))))) pa_nil)))))), ?_⟩
    obtain ⟨v, d, m, rfl, hd, hQ⟩ := h
    refine ⟨v, rfl, v, d, 1, 40, rfl, hd, _, rfl, ite2 (fun e => ?_) (fun e => ?_)⟩
    · obtain ⟨ds, rfl, l1, l2⟩ := tupOf_tup e
      obtain ⟨a, us, rfl, ha, hr'⟩ := Dx.tup_inv hd
      have lu := dxAll_len hr'
      have od : orderD m (.tuple ds) = ds.all (fromTo 0 (m - 1)) := by
        show (decide (1 ≤ ds.length) && (decide (ds.length ≤ 40) && _)) = _
        rw [decide_eq_true (by omega), decide_eq_true (by omega), Bool.true_and, Bool.true_and]
      rw [od] at hQ
      refine ⟨_, rfl, a, rfl, ⟨_, st_of ha⟩, fun D nD => ?_⟩
      refine lc_gen (σ := [some (.ref a), some (.int m), none]) (vs := [2]) (walk_tup (K := K) (a := a) (xs := us)) nD (fun i acc H' => Same H H' ∧ acc = (ds.take i).map fun d => V.bl (fromTo 0 (m - 1) d)) ⟨Same.refl H, rfl⟩ (fun i acc H' _ z => st_of (same_delH _ _ (z.1 _ _ ha))) ?_ ?_
      · rintro i acc x H1 H2 hi l e2 ⟨sm, rfl⟩ ⟨rfl, hx⟩
        have di : ds[i]? = some ds[i] := List.getElem?_eq_getElem (by omega)
        have sm' : Same H H2 := sm.trans same_delH
        refine ⟨rfl, ?_⟩
        simp only [tYes, if_true]
        refine ⟨_, rfl, _, rfl, x, ds[i], m, rfl, Dx.same sm' _ _ (DxAll.at hr' hx di), ?_⟩
        exact lc_put l (by omega) e2 ⟨sm, by rw [List.take_succ, di, List.map_append]; rfl⟩
      · rintro acc H2 l e2 ⟨sm, rfl⟩
        rw [lu, List.take_length] at e2
        refine ⟨D, ds.map (fromTo 0 (m - 1)), rfl, sq_of (by rw [List.map_map]; exact e2), ?_⟩
        have z : ds.all (fromTo 0 (m - 1)) = (ds.map (fromTo 0 (m - 1))).all id := by
          rw [List.all_map]
          rfl
        rw [← z]
        exact hQ H2 (sm.trans same_delH)
    · have z : orderD m d = false := by
        cases d with
        | tuple ds =>
          have n : ¬ (1 ≤ ds.length ∧ ds.length ≤ 40) := fun h => e (by
            show (decide ((1 : Int) ≤ (ds.length : Int)) && decide ((ds.length : Int) ≤ 40)) = true
            rw [decide_eq_true (by omega), decide_eq_true (by omega)]
            rfl)
          show (decide (1 ≤ ds.length) && (decide (ds.length ≤ 40) && _)) = false
          by_cases h1 : 1 ≤ ds.length
          · rw [decide_eq_false (fun h2 : ds.length ≤ 40 => n ⟨h1, h2⟩), Bool.false_and, Bool.and_false]
          · rw [decide_eq_false h1, Bool.false_and]
        | _ => rfl
      have y := hQ H (Same.refl H)
      rw [z] at y
      exact y
theorem ok_count (T : Tx K mg) : Has P w K mg base (L2.CX P w) 3 "check_count" ["count"] spCount := by
  obtain ⟨fd, F⟩ := T.c.def_ 7 (d := d_check_count) rfl
  have Hf := ok_fromTo (P := P) (w := w) (base := base) T
  obtain ⟨tF, gF⟩ := (T.int 17 rfl)
  refine ⟨fd, F.ok scCount (fun vs H Q E h => ?_) (fun cdv A outer s H vs Q E hr h => ?_), FunD.bindsN F fun _ _ _ _ _ _ us hl => match us, hl with | [_], _ => rfl, F.kp, (T.glo 18 rfl)⟩
  · obtain ⟨v, d, rfl, _⟩ := h
    rfl
  · refine ⟨_, (pss_one (ps_if (pt_not (pt_val (pe_has Hf (hr.mono (by decide)) pass0 (pa_cons (pv 0) (pa_cons pe_int (pa_cons (pe_glob (v := .int 8) (by rfl) gF ⟨_, rfl⟩) pa_nil))))))
 (pss_one (ps_raise rfl (takes_of rfl rfl rfl rfl) (pmk_mk0 PySem.F.excBase_ValueError (T.exq 68 rfl).1 (T.glo 13 rfl) (T.exq 68 rfl).2 (T.rai 68 rfl) (by rfl))))
 pss_nil)), ?_⟩
    obtain ⟨v, d, rfl, hd, hQ, hE⟩ := h
    refine ⟨v, rfl, v, d, 0, 8, rfl, hd, _, rfl, ite2 (fun e => ?_) (fun e => ?_)⟩
    · exact hE (by simpa using e)
    · exact hQ (by simpa using e)
end
end K37

set_option maxHeartbeats 4000000
namespace K37
open PySem PySem.Spec PyProof.Rows L2 V1 V2 V3
open Evl (pss_cut tCut sq_of st_of)
theorem walk_zipTT {K : PySem.W.Frag} {a b : Addr} {xs ys : List V} {n : Nat} (hn : n = min xs.length ys.length) : Walk (RZ.ItzT K a b) n (fun H => SqT K H a xs ∧ SqT K H b ys) (YPair (fun i => xs[i]?) (fun i => ys[i]?)) := by
  constructor
  · intro i H hi q
    obtain ⟨g1, g2⟩ : i < xs.length ∧ i < ys.length := by omega
    exact ⟨xs, ys, xs[i], ys[i], q.1, q.2, List.getElem?_eq_getElem g1, List.getElem?_eq_getElem g2⟩
  · exact fun H q => ⟨xs, ys, q.1, q.2, by omega⟩
  · rintro i H v H' hi q ⟨t, x, z, e1, e2, e3, e4, e5⟩
    exact ⟨t, x, z, e1, e2, e3, e4 xs q.1, e5 ys q.2⟩
def ltD : PyData → PyData → Bool
  | .str x, .str y => decide (x.cps.toList < y.cps.toList)
  | _, _ => false
def upD (ds : List PyData) : Bool := (List.range (ds.length - 1)).all fun i => ltD (ds.getD i .none) (ds.getD (i + 1) .none)
/-- a kind -/
def kindD : PyData → Bool
  | .tuple ds => (decide (2 ≤ ds.length) && decide (ds.length ≤ 4)) && (ds.all wordD && upD ds)
  | _ => false
/-- what is nested in it, at once, is short enough to be asked for its length -/
def shortK : PyData → Prop
  | .tuple ds => ∀ d ∈ ds, shortD d
  | _ => True
def rLtS : R2 := fun x y H Q => ∃ i j, x = .str i ∧ y = .str j ∧ Q (.bl (decide (i.cps.toList < j.cps.toList))) H
/-- how many rows of so many words, and how many of the next length -/
def rowsN (w : Int) : Nat → Int × Int
  | 0 => (0, 1)
  | n + 1 => ((rowsN w n).1 + (rowsN w n).2, (rowsN w n).2 * w)
def spKind [CurK] : Sp := fun vs H Q _ => ∃ v d, vs = [v] ∧ Dx H v d ∧ shortK d ∧ ∀ H', Same H H' → Q (.bl (kindD d)) H'
def spRows : Sp := fun vs H Q _ => ∃ (w : Int) (n : Nat), vs = [.int w, .int (n : Nat)] ∧ 0 ≤ w ∧ w ≤ 1000 ∧ n ≤ 1000 ∧ Q (.int (rowsN w n).1) H
theorem scKind : FnScope ["thing", "word", "less", "more"] ["thing"] (defScope s_is_kind) := ⟨rfl, rfl, rfl, by decide +kernel, rfl, by decide +kernel, by decide +kernel⟩
theorem scRows : FnScope ["words", "length", "many", "longest", "_"] ["words", "length"] (defScope s_many_rows) := ⟨rfl, rfl, rfl, by decide +kernel, rfl, by decide +kernel, by decide +kernel⟩
theorem str_of_word {d : PyData} (h : wordD d = true) : ∃ x, d = .str x := by
  cases d with
  | str x => exact ⟨x, rfl⟩
  | _ => cases h
section
variable [CurK] {P : Program} {w : World} {mg : Str → Option Value} {base : Heap}
theorem ok_kind (T : Tx K mg) : Has P w K mg base CX0 2 "is_kind" ["thing"] spKind := by
  obtain ⟨fd, F⟩ := T.c.def_ 14 (d := d_is_kind) rfl
  have Ht := ok_tupOf (P := P) (w := w) (base := base) T
  have Hw := ok_word (P := P) (w := w) (base := base) T
  obtain ⟨tL, gL⟩ := (T.int 27 rfl)
  obtain ⟨tM, gM⟩ := (T.int 28 rfl)
  refine ⟨fd, F.ok scKind (fun vs H Q E h => ?_) (fun cdv A outer s H vs Q E hr h => ?_), FunD.bindsN F fun _ _ _ _ _ _ us hl => match us, hl with | [_], _ => rfl, F.kp, (T.glo 30 rfl)⟩
  · obtain ⟨v, d, rfl, _⟩ := h
    rfl
  · refine ⟨_, PSs.nox (pss_cons (ps_if (PW.pt (pw_or (pt_not (pt_val (pe_has Ht (hr.mono (by decide)) pass0 (pa_cons (pv 0) (pa_cons (pe_glob (v := .int 2) (by rfl) gL ⟨_, rfl⟩) (pa_cons (pe_glob (v := .int 4) (by rfl) gM ⟨_, rfl⟩) pa_nil)))))) (pw_or1 (pt_not (pt_val (pe_callB (cr_all rfl) (by rfl) (T.free 50 rfl) (by decide +kernel) (pa_cons (pe_lc (own := [("word", 1)]) (g := gName 1) (tt := tYes) (te := tCall spWord [] (fun _ _ _ => False) (tCons (tVar 1) tNil)) (by rfl) scKind.nd (pi_tup (pv 0))
 (blkOk_by (own := [("word", 1)]) (N := ["thing", "word", "less", "more"]) (sc := defScope s_is_kind) (by decide +kernel)) (fun _ _ _ _ _ => (pg_name (i := 1) scKind.nd rfl (Or.inl rfl))) (fun _ _ _ _ _ => pts_nil) (fun _ _ _ _ _ => (pe_has Hw (hr.mono (by decide)) pass0 (pa_cons (pv 1) pa_nil)))) pa_nil)))))))
 (pss_one (ps_ret pe_bl))
 pss_nil)
 (pss_one (ps_ret (pe_callB (cr_all rfl) (by rfl) (T.free 50 rfl) (by decide +kernel) (pa_cons (pe_lc (own := [("less", 2), ("more", 3)]) (g := gTup K 2 (gCons (gName 2) (gCons (gName 3) gNil))) (tt := tYes) (te := tOp rLtS (tVar 2) (tVar 3)) (by rfl) scKind.nd (RZ.pi_zipA (by rfl) (T.free 64 rfl) (pa_cons (pv 0) (pa_cons (pe_slice sl_tup (pv 0) (po_some pe_int) po_none) pa_nil)))
 (blkOk_by (own := [("less", 2), ("more", 3)]) (N := ["thing", "word", "less", "more"]) (sc := defScope s_is_kind) (by decide +kernel)) (fun _ _ _ _ _ => pg_tup (by rfl) (pgs_cons (pg_name (i := 2) scKind.nd rfl (Or.inl rfl)) (pgs_cons (pg_name (i := 3) scKind.nd rfl (Or.inl rfl)) pgs_nil))) (fun _ _ _ _ _ => pts_nil) (fun _ _ _ _ _ => (pe_cmpR op_lt_str (pv 2) (pv 3) (nomark _)))) pa_nil))))), ?_⟩
    obtain ⟨v, d, rfl, hd, hs, hQ⟩ := h
    refine ⟨_, rfl, v, d, 2, 4, rfl, hd, _, rfl, ite2 (fun e => ?_) (fun e => ?_)⟩
    · have e' : tupOf 2 4 d = false := by simpa using e
      have z : kindD d = false := by
        cases d with
        | tuple ds =>
          have n : ¬ (2 ≤ ds.length ∧ ds.length ≤ 4) := fun h => by
            have y : tupOf 2 4 (.tuple ds) = true := by
              show (decide ((2 : Int) ≤ (ds.length : Int)) && decide ((ds.length : Int) ≤ 4)) = true
              rw [decide_eq_true (by omega), decide_eq_true (by omega)]
              rfl
            rw [e'] at y
            cases y
          show ((decide (2 ≤ ds.length) && decide (ds.length ≤ 4)) && _) = false
          by_cases h1 : 2 ≤ ds.length
          · rw [decide_eq_false (fun h2 : ds.length ≤ 4 => n ⟨h1, h2⟩), Bool.and_false, Bool.false_and]
          · rw [decide_eq_false h1, Bool.false_and, Bool.false_and]
        | _ => rfl
      have y := hQ H (Same.refl H)
      rw [z] at y
      exact y
    have e' : tupOf 2 4 d = true := by simpa using e
    obtain ⟨ds, rfl, l1, l2⟩ := tupOf_tup e'
    obtain ⟨a, us, rfl, ha, hr'⟩ := Dx.tup_inv hd
    have lu := dxAll_len hr'
    have kd : kindD (.tuple ds) = (ds.all wordD && upD ds) := by
      show ((decide (2 ≤ ds.length) && decide (ds.length ≤ 4)) && _) = _
      rw [decide_eq_true (by omega), decide_eq_true (by omega), Bool.true_and, Bool.true_and]
    rw [kd] at hQ
    refine ⟨_, rfl, a, rfl, ⟨_, st_of ha⟩, fun D nD => ?_⟩
    refine lc_gen (σ := [some (.ref a), none, none, none]) (vs := [1]) (walk_tup (K := K) (a := a) (xs := us)) nD (fun i acc H' => Same H H' ∧ acc = (ds.take i).map fun d => V.bl (wordD d)) ⟨Same.refl H, rfl⟩ (fun i acc H' _ z => st_of (same_delH _ _ (z.1 _ _ ha))) ?_ ?_
    · rintro i acc x H1 H2 hi l e2 ⟨sm, rfl⟩ ⟨rfl, hx⟩
      have di : ds[i]? = some ds[i] := List.getElem?_eq_getElem (by omega)
      have sm' : Same H H2 := sm.trans same_delH
      refine ⟨rfl, ?_⟩
      simp only [tYes, if_true]
      refine ⟨_, rfl, x, ds[i], rfl, Dx.same sm' _ _ (DxAll.at hr' hx di), hs _ (List.getElem_mem (by omega)), ?_⟩
      exact lc_put l (by omega) e2 ⟨sm, by rw [List.take_succ, di, List.map_append]; rfl⟩
    rintro acc H1 l e2 ⟨sm, rfl⟩
    rw [lu, List.take_length] at e2
    have s1 : Same H H1 := sm.trans same_delH
    refine ⟨D, ds.map wordD, rfl, sq_of (by rw [List.map_map]; exact e2), _, rfl, ite2 (fun e3 => ?_) (fun e3 => ?_)⟩
    · have z : ds.all wordD = false := by
        have y : (ds.map wordD).all id = false := by simpa using e3
        rw [List.all_map] at y
        exact y
      have y := hQ H1 s1
      rw [z, Bool.false_and] at y
      exact y
    have wd : ds.all wordD = true := by
      have y : (ds.map wordD).all id = true := by simpa using e3
      rw [List.all_map] at y
      exact y
    rw [wd, Bool.true_and] at hQ
    have ha1 := s1 _ _ ha
    have tx : ∀ i (h : i < ds.length), ∃ x, ds[i] = .str x := fun i h => str_of_word (List.all_eq_true.mp wd _ (List.getElem_mem h))
    refine ⟨_, rfl, _, rfl, 1, rfl, a, us, rfl, st_of ha1, fun w => ?_, fun p np => ?_⟩
    · have w1 := w.1
      rw [show (1 : Int) = ((1 : Nat) : Int) from rfl, HT.sIx_nat] at w1
      omega
    have cut : cutV us (some 1) none = us.drop 1 := by
      unfold cutV
      rw [show (1 : Int) = ((1 : Nat) : Int) from rfl, HT.sIx_none, HT.sIx_nat, Nat.min_eq_left (by omega)]
      exact List.take_of_length_le (by rw [List.length_drop]; omega)
    rw [cut]
    have s2 := same_new (o := HO.tup (us.drop 1)) np
    have ha2 := s2 _ _ ha1
    have hp2 : upd H1 p (HO.tup (us.drop 1)) p = some (.tup (us.drop 1)) := upd_same
    have s12 := s1.trans s2
    generalize upd H1 p (HO.tup (us.drop 1)) = H2 at s2 ha2 hp2 s12
    refine ⟨a, p, us, us.drop 1, rfl, .inr ⟨st_of ha2, st_of hp2, fun D2 nD2 => ?_⟩⟩
    refine lc_gen (σ := [some (.ref a), none, none, none]) (vs := [2, 3]) (walk_zipTT (K := K) (a := a) (b := p) (xs := us) (ys := us.drop 1) (n := ds.length - 1) (by rw [List.length_drop]; omega)) nD2 (fun i acc H' => Same H2 H' ∧ acc = (List.range i).map fun j => V.bl (ltD (ds.getD j .none) (ds.getD (j + 1) .none))) ⟨Same.refl _, rfl⟩ (fun i acc H' _ z => ⟨st_of (same_delH _ _ (z.1 _ _ ha2)), st_of (same_delH _ _ (z.1 _ _ hp2))⟩) ?_ ?_
    · rintro i acc x H3 H4' hi l3 e4 ⟨sm3, rfl⟩ ⟨t, x1, y1, rfl, nt, rfl, e5, e6⟩
      have e7 : us[i + 1]? = some y1 := by
        rw [Nat.add_comm]
        rw [← List.getElem?_drop]
        exact e6
      have st := same_new (o := HO.tup [x1, y1]) nt
      have e4' := st _ _ e4
      have sm4 : Same H2 (delH (upd H3 t (HO.tup [x1, y1])) D2) := fun b o ob => same_del st _ _ (sm3 _ _ ob)
      have up4 : Same H2 (upd H3 t (HO.tup [x1, y1])) := sm4.trans same_delH
      have et : upd H3 t (HO.tup [x1, y1]) t = some (.tup [x1, y1]) := upd_same
      generalize upd H3 t (HO.tup [x1, y1]) = H4 at e4' sm4 up4 et
      obtain ⟨z1, hz1⟩ := tx i (by omega)
      obtain ⟨z2, hz2⟩ := tx (i + 1) (by omega)
      have g1 : ds.getD i .none = .str z1 := by rw [← hz1]; simp [List.getD, (by omega : i < ds.length)]
      have g2 : ds.getD (i + 1) .none = .str z2 := by rw [← hz2]; simp [List.getD, (by omega : i + 1 < ds.length)]
      have q1 : x1 = .str z1 := Dx.str_inv (DxAll.at hr' e5 (by rw [List.getElem?_eq_getElem (by omega), hz1]))
      have q2 : y1 = .str z2 := Dx.str_inv (DxAll.at hr' e7 (by rw [List.getElem?_eq_getElem (by omega), hz2]))
      refine ⟨t, _, rfl, st_of et, rfl, _, _, rfl, _, _, rfl, rfl, rfl, ?_⟩
      simp only [tYes, if_true]
      refine ⟨_, rfl, _, rfl, z1, z2, q1, q2, lc_put l3 (by omega) e4' ⟨sm4, ?_⟩⟩
      rw [List.range_succ, List.map_append]
      show _ = _ ++ [V.bl (ltD (ds.getD i .none) (ds.getD (i + 1) .none))]
      rw [g1, g2]
      rfl
    · rintro acc H3 l3 e4 ⟨sm3, rfl⟩
      refine ⟨D2, (List.range (ds.length - 1)).map fun j => ltD (ds.getD j .none) (ds.getD (j + 1) .none), rfl, sq_of (by rw [List.map_map]; exact e4), ?_⟩
      have z : upD ds = ((List.range (ds.length - 1)).map fun j => ltD (ds.getD j .none) (ds.getD (j + 1) .none)).all id := by
        rw [List.all_map]
        rfl
      rw [← z]
      exact hQ H3 (s12.trans (sm3.trans same_delH))
theorem ok_rows (T : Tx K mg) : Has P w K mg base CX0 1 "many_rows" ["words", "length"] spRows := by
  obtain ⟨fd, F⟩ := T.c.def_ 15 (d := d_many_rows) rfl
  refine ⟨fd, F.ok scRows (fun vs H Q E h => ?_) (fun cdv A outer s H vs Q E hr h => ?_), FunD.bindsN F fun _ _ _ _ _ _ us hl => match us, hl with | [_, _], _ => rfl, F.kp, (T.glo 31 rfl)⟩
  · obtain ⟨w, n, rfl, _⟩ := h
    rfl
  · refine ⟨_, PSs.nox (pss_cons (ps_set (i := 2) scRows.nd rfl (Or.inl rfl) pe_int)
 (pss_cons (ps_set (i := 3) scRows.nd rfl (Or.inl rfl) pe_int)
 (pss_cons (ps_for PassesOwn.never rfl (pi_range1 (by rfl) (T.free 58 rfl) (pa_cons (pv 1) pa_nil)) (pg_name (i := 4) scRows.nd rfl (Or.inl rfl))
 (pss_cons (ps_aug (i := 2) scRows.nd rfl (.inl rfl) (pv 3) ip_add)
 (pss_one (ps_set (i := 3) scRows.nd rfl (Or.inl rfl) (pe_op op_mul (pv 3) (pv 0))))))
 (pss_one (ps_ret (pv 2)))))), ?_⟩
    obtain ⟨w, n, rfl, w0, w1, hn, hQ⟩ := h
    refine ⟨_, rfl, n, rfl, by omega, by omega, ?_⟩
    rw [Int.toNat_natCast]
    refine for_it (walk_range (lo := 0) (n := n)) (fun i σ H' => H' = H ∧ ∃ o, σ = [some (.int w), some (.int (n : Nat)), some (.int (rowsN w i).1), some (.int (rowsN w i).2), o]) ⟨rfl, _, rfl⟩ (fun _ _ _ _ _ => True.intro) ?_ ?_
    · rintro i x σ H1 H2 hi ⟨rfl, o, rfl⟩ ⟨rfl, rfl⟩
      exact ⟨.int (rowsN w i).1, rfl, _, rfl, _, _, rfl, rfl, _, rfl, _, rfl, _, _, rfl, rfl, .inr ⟨by omega, by omega⟩, rfl, _, rfl⟩
    · rintro σ H1 ⟨rfl, o, rfl⟩
      exact ⟨_, rfl, hQ⟩
end
end K37

set_option maxHeartbeats 4000000
namespace K37
open PySem PySem.Spec PyProof.Rows L2 V1 V2 V3
open Evl (pss_cut tCut sq_of st_of)
def lenD : PyData → Nat
  | .tuple ds => ds.length
  | _ => 0
/-- how many rows of words of the kind, of fewer words than the order has -/
def manyD (d1 d2 : PyData) : Int := (rowsN (lenD d2 : Nat) (lenD d1)).1
/-- what comes of making an AllAhead: nothing, an order that is none, a kind that is none, too many rows -/
inductive Res | let_ | order | kind | many | number
deriving DecidableEq
def allR (d1 d2 : PyData) : Res := if orderD 2 d1 = true then (if kindD d2 = true then (if 4000 < manyD d1 d2 then .many else .let_) else .kind) else .order
def leastR (d1 d2 d3 : PyData) : Res := if orderD 2 d1 = true then (if fromTo 0 8 d2 = true then (if fromTo 0 8 d3 = true then .let_ else .number) else .number) else .order
section
variable [CurK]
/-- the exception that comes of it -/
def ExR (E : XK) (H : Hp) : Res → Prop
  | .let_ => True
  | .order => ∀ H', Same H H' → E (.ref (He.ga K "NoOrder")) none H'
  | .kind => ∀ H', Same H H' → E (.ref (He.ga K "NoKind")) none H'
  | .number => ∀ H', Same H H' → E (.ref (He.ga K "NoNumber")) none H'
  | .many => ∀ d H', H d = none → Same H H' → H' d = some (.xd [("most", .int 4000)]) → E (.ref (He.ga K "TooMany")) (some d) H'
def spAll : Sp := fun vs H Q E => ∃ p dx v1 v2 d1 d2, vs = [.ref p, v1, v2] ∧ H p = some (.ins (He.ga K "AllAhead") dx []) ∧ Dx H v1 d1 ∧ Dx H v2 d2 ∧ shortK d2 ∧ ExR E H (allR d1 d2) ∧ (allR d1 d2 = .let_ → ∀ H', (∀ b o, b ≠ p → H b = some o → H' b = some o) → Q .non H')
def spLeast : Sp := fun vs H Q E => ∃ v1 v2 v3 d1 d2 d3, vs = [v1, v2, v3] ∧ Dx H v1 d1 ∧ Dx H v2 d2 ∧ Dx H v3 d3 ∧ ExR E H (leastR d1 d2 d3) ∧ (leastR d1 d2 d3 = .let_ → ∀ (n : Int) H', Same H H' → Q (.int n) H')
theorem ExR.same {E : XK} {H H' : Hp} {r : Res} (s : Same H H') (h : ExR E H r) : ExR E H' r := by
  cases r with
  | let_ => trivial
  | many => exact fun d H2 nd s2 hd => h d H2 (fresh_up s nd) (s.trans s2) hd
  | _ => exact fun H2 s2 => h H2 (s.trans s2)
end
theorem scMany : FnScope ["self", "most"] ["self", "most"] (defScope s_TooMany__init__) := ⟨rfl, rfl, rfl, by decide +kernel, rfl, by decide +kernel, by decide +kernel⟩
theorem scAll : FnScope ["self", "order", "kind"] ["self", "order", "kind"] (defScope s_AllAhead__init__) := ⟨rfl, rfl, rfl, by decide +kernel, rfl, by decide +kernel, by decide +kernel⟩
theorem scLeast : FnScope ["order", "lost", "turned", "owners", "late"] ["order", "lost", "turned"] (defScope s_least_known) := ⟨rfl, rfl, rfl, by decide +kernel, rfl, by decide +kernel, by decide +kernel⟩
/-- an order is a tuple of ints -/
theorem order_ints {m : Int} {d : PyData} (h : orderD m d = true) : ∃ ns : List Int, d = .tuple (ns.map PyData.int) ∧ 1 ≤ ns.length ∧ ns.length ≤ 40 := by
  cases d with
  | tuple ds =>
    have z : 1 ≤ ds.length ∧ ds.length ≤ 40 ∧ ∀ x ∈ ds, fromTo 0 (m - 1) x = true := by simpa [orderD] using h
    have y : ∀ es : List PyData, (∀ x ∈ es, fromTo 0 (m - 1) x = true) → ∃ ns : List Int, es = ns.map PyData.int := by
      intro es
      induction es with
      | nil => exact fun _ => ⟨[], rfl⟩
      | cons e es ih =>
        intro he
        obtain ⟨n, rfl, _⟩ := fromTo_int (he e List.mem_cons_self)
        obtain ⟨ns, rfl⟩ := ih fun x hx => he x (List.mem_cons_of_mem _ hx)
        exact ⟨n :: ns, rfl⟩
    obtain ⟨ns, rfl⟩ := y ds z.2.2
    refine ⟨ns, rfl, ?_, ?_⟩
    · have := z.1
      rw [List.length_map] at this
      exact this
    · have := z.2.1
      rw [List.length_map] at this
      exact this
  | _ => cases h
theorem dx_ints [CurK] {H : Hp} : ∀ {vs : List V} {ns : List Int}, DxAll H vs (ns.map PyData.int) → vs = ns.map V.int
  | _, [], .nil => rfl
  | _, n :: ns, .cons one more => by
    rw [Dx.int_inv one, dx_ints more]
    rfl
theorem kind_len {d : PyData} (h : kindD d = true) : ∃ ds, d = .tuple ds ∧ 2 ≤ ds.length ∧ ds.length ≤ 4 := by
  cases d with
  | tuple ds =>
    unfold kindD at h
    simp only [Bool.and_eq_true, decide_eq_true_eq] at h
    exact ⟨ds, rfl, h.1.1, h.1.2⟩
  | _ => cases h
theorem flat_ints : ∀ ns : List Int, (ns.map V.int).all flatV = true
  | [] => rfl
  | n :: ns => by
    rw [List.map_cons, List.all_cons, flat_ints ns]
    rfl
section
variable [CurK] {P : Program} {w : World} {mg : Str → Option Value} {base : Heap}
theorem fldMany (T : Tx K mg) : Fld P w K mg base "TooMany" "most" := by
  obtain ⟨fd, F⟩ := T.c.def_ 31 (d := d_TooMany__init__) rfl
  exact fld_of F scMany rfl (T.glo 11 rfl) (T.one 0 rfl) rfl rfl (T.noat 66 rfl) (He.meth_ok (T.c.fact 65 rfl)) (by decide) (by decide) (Or.inl rfl) (Or.inl rfl) (fun _ => rfl) (FunD.bindsN F fun _ _ _ _ _ _ us hl => match us, hl with | [_, _], _ => rfl)
theorem ok_all (T : Tx K mg) : HasC P w K mg base (L2.CX P w) 6 "AllAhead" ["self", "order", "kind"] spAll := by
  obtain ⟨fd, F⟩ := T.c.def_ 32 (d := d_AllAhead__init__) rfl
  have Ho := ok_order (P := P) (w := w) (base := base) T
  have Hk := ok_kind (P := P) (w := w) (base := base) T
  have Hr := ok_rows (P := P) (w := w) (base := base) T
  obtain ⟨t2, g2⟩ := (T.int 24 rfl)
  obtain ⟨tR, gR⟩ := (T.int 29 rfl)
  have cS : Cls K (He.ga K "AllAhead") := He.cls_ok (T.c.fact 73 rfl)
  have n1 : NoAttr K (He.ga K "AllAhead") "order" := He.noat_ok (T.c.fact 75 rfl)
  have n2 : NoAttr K (He.ga K "AllAhead") "kind" := He.noat_ok (T.c.fact 74 rfl)
  refine ⟨_, fd, He.mkr_ok (T.c.fact 76 rfl), F.ok scAll (fun vs H Q E h => ?_) (fun cdv A outer s H vs Q E hr h => ?_), FunD.bindsN F fun _ _ _ _ _ _ us hl => match us, hl with | [_, _, _], _ => rfl, (T.glo 33 rfl)⟩
  · obtain ⟨p, dx, v1, v2, d1, d2, rfl, _⟩ := h
    rfl
  · refine ⟨_, (pss_cons (ps_if (pt_not (pt_val (pe_has Ho (hr.mono (by decide)) pass0 (pa_cons (pv 1) (pa_cons (pe_glob (v := .int 2) (by rfl) g2 ⟨_, rfl⟩) pa_nil)))))
 (pss_one (ps_raise rfl (takes_of rfl rfl rfl rfl) (pmk_mk0 PySem.F.excBase_ValueError (T.exq 67 rfl).1 (T.glo 12 rfl) (T.exq 67 rfl).2 (T.rai 67 rfl) (by rfl))))
 pss_nil)
 (pss_cons (ps_if (pt_not (pt_val (pe_has Hk (hr.mono (by decide)) pass0 (pa_cons (pv 2) pa_nil))))
 (pss_one (ps_raise rfl (takes_of rfl rfl rfl rfl) (pmk_mk0 PySem.F.excBase_ValueError (T.exq 70 rfl).1 (T.glo 15 rfl) (T.exq 70 rfl).2 (T.rai 70 rfl) (by rfl))))
 pss_nil)
 (pss_cons (ps_if (pt_cmpR op_gt (pe_has Hr (hr.mono (by decide)) pass0 (pa_cons (pe_callB call_len (by rfl) (T.free 55 rfl) PySem.boot_len (pa_cons (pv 2) pa_nil)) (pa_cons (pe_callB call_len (by rfl) (T.free 55 rfl) PySem.boot_len (pa_cons (pv 1) pa_nil)) pa_nil))) (pe_glob (v := .int 4000) (by rfl) gR ⟨_, rfl⟩) (nomark _))
 (pss_one (ps_raise rfl (takes_of rfl rfl rfl rfl) (pmk_fld (fldMany T) (hr.mono (by decide)) (pa_cons (pe_glob (v := .int 4000) (by rfl) gR ⟨_, rfl⟩) pa_nil))))
 pss_nil)
 (pss_cons (ps_fld (pv 0) (pv 1) (by rfl))
 (pss_one (ps_fld (pv 0) (pv 2) (by rfl))))))), ?_⟩
    obtain ⟨p, dx, v1, v2, d1, d2, rfl, hp, hd1, hd2, sh, hE, hQ⟩ := h
    refine ⟨_, rfl, v1, d1, 2, rfl, hd1, fun H1 s1 => ⟨_, rfl, ite2 (fun e => ?_) (fun e => ?_)⟩⟩
    · have e' : orderD 2 d1 = false := by simpa using e
      rw [show allR d1 d2 = .order from by unfold allR; rw [e']; rfl] at hE
      exact hE H1 s1
    have e1 : orderD 2 d1 = true := by simpa using e
    refine ⟨_, rfl, v2, d2, rfl, Dx.same s1 _ _ hd2, sh, fun H2 s2 => ⟨_, rfl, ite2 (fun e => ?_) (fun e => ?_)⟩⟩
    · have e' : kindD d2 = false := by simpa using e
      rw [show allR d1 d2 = .kind from by unfold allR; rw [e1, e']; rfl] at hE
      exact hE H2 (s1.trans s2)
    have e2 : kindD d2 = true := by simpa using e
    obtain ⟨ns, rfl, m1, m2⟩ := order_ints e1
    obtain ⟨ds, rfl, k1, k2⟩ := kind_len e2
    have s12 := s1.trans s2
    obtain ⟨a, us, rfl, ha, ra⟩ := Dx.tup_inv hd1
    obtain ⟨b, ws, rfl, hb, rb⟩ := Dx.tup_inv hd2
    have la := dxAll_len ra
    have lb := dxAll_len rb
    rw [List.length_map] at la
    have mm : manyD (.tuple (ns.map PyData.int)) (.tuple ds) = (rowsN (ws.length : Nat) us.length).1 := by
      show (rowsN ((ds.length : Nat) : Int) (ns.map PyData.int).length).1 = _
      rw [List.length_map, la, lb]
    refine ⟨_, rfl, _, _, rfl, .inr ⟨ws, st_of (s12 _ _ hb), rfl⟩, _, rfl, _, _, rfl, .inr ⟨us, st_of (s12 _ _ ha), rfl⟩, _, us.length, rfl, by omega, by omega, by omega, _, _, rfl, rfl, _, rfl, ite2 (fun e => ?_) (fun e => ?_)⟩
    · have e3 : 4000 < manyD (.tuple (ns.map PyData.int)) (.tuple ds) := by
        rw [mm]
        exact of_decide_eq_true e
      rw [show allR (.tuple (ns.map PyData.int)) (.tuple ds) = .many from by unfold allR; rw [if_pos e1, if_pos e2, if_pos e3]] at hE
      exact raise_go (v := .int 4000) (fun Q q => q) fun d H' nd sm hd => hE d H' (fresh_up s12 nd) (s12.trans sm) hd
    have e3 : ¬ 4000 < manyD (.tuple (ns.map PyData.int)) (.tuple ds) := by
      rw [mm]
      exact fun z => e (decide_eq_true z)
    have hp2 := s12 _ _ hp
    refine ⟨_, rfl, _, rfl, p, _, dx, [], rfl, hp2, cS, n1, (by show 0 < 1000; decide), _, rfl, _, rfl, p, _, dx, _, rfl, upd_same, cS, n2, (by show 1 < 1000; decide), ?_⟩
    refine hQ (by unfold allR; rw [if_pos e1, if_pos e2, if_neg e3]) _ fun b o ne hb => ?_
    rw [upd_ne ne, upd_ne ne]
    exact s12 _ _ hb
/-- an AllAhead is made, or not -/
theorem all_go {H : Hp} {Q : VK} {E : XK} {v1 v2 : V} {d1 d2 : PyData} {σ : L2.St} {ta : TA} (ht : ∀ Q : List V → Hp → Prop, Q [v1, v2] H → ta σ H Q) (h1 : Dx H v1 d1) (h2 : Dx H v2 d2) (sh : shortK d2) (bad : ExR E H (allR d1 d2))
    (good : allR d1 d2 = .let_ → ∀ p H', Same H H' → Q (.ref p) H') : tMake (He.ga K "AllAhead") spAll [] E ta σ H Q := by
  refine ht _ fun p dx np nd ne => ?_
  have sm : Same H (upd (upd H dx (.own p)) p (.ins (He.ga K "AllAhead") dx [])) := fun b o e => by
    rw [upd_ne (ne_of_none e np), upd_ne (ne_of_none e nd)]
    exact e
  refine ⟨p, dx, v1, v2, d1, d2, rfl, upd_same, Dx.same sm _ _ h1, Dx.same sm _ _ h2, sh, ExR.same sm bad, fun hx H' st => ⟨rfl, good hx p H' fun b o e => ?_⟩⟩
  exact st b o (ne_of_none e np) (sm _ _ e)
theorem ok_least (T : Tx K mg) : Has P w K mg base (L2.CX P w) 5 "least_known" ["order", "lost", "turned"] spLeast := by
  obtain ⟨fd, F⟩ := T.c.def_ 17 (d := d_least_known) rfl
  have Ho := ok_order (P := P) (w := w) (base := base) T
  have Hc := ok_count (P := P) (w := w) (base := base) T
  obtain ⟨t2, g2⟩ := (T.int 24 rfl)
  refine ⟨fd, F.ok scLeast (fun vs H Q E h => ?_) (fun cdv A outer s H vs Q E hr h => ?_), FunD.bindsN F fun _ _ _ _ _ _ us hl => match us, hl with | [_, _, _], _ => rfl, F.kp, (T.glo 34 rfl)⟩
  · obtain ⟨v1, v2, v3, d1, d2, d3, rfl, _⟩ := h
    rfl
  · refine ⟨_, (pss_cons (ps_if (pt_not (pt_val (pe_has Ho (hr.mono (by decide)) pass0 (pa_cons (pv 0) (pa_cons (pe_glob (v := .int 2) (by rfl) g2 ⟨_, rfl⟩) pa_nil)))))
 (pss_one (ps_raise rfl (takes_of rfl rfl rfl rfl) (pmk_mk0 PySem.F.excBase_ValueError (T.exq 67 rfl).1 (T.glo 12 rfl) (T.exq 67 rfl).2 (T.rai 67 rfl) (by rfl))))
 pss_nil)
 (pss_cons (ps_expr (pe_has Hc (hr.mono (by decide)) (passes_call (takes_of rfl rfl rfl rfl) (fun _ _ _ _ h => h)) (pa_cons (pv 1) pa_nil)))
 (pss_cons (ps_expr (pe_has Hc (hr.mono (by decide)) (passes_call (takes_of rfl rfl rfl rfl) (fun _ _ _ _ h => h)) (pa_cons (pv 2) pa_nil)))
 (pss_cons (ps_set (i := 3) scLeast.nd rfl (Or.inl rfl) (V4.pe_lenSetT (by rfl) (T.free 55 rfl) (by rfl) (T.free 60 rfl) (pv 0)))
 (pss_cons (ps_set (i := 4) scLeast.nd rfl (Or.inl rfl) (pe_ifExp (pt_cmpR op_in_seq pe_int (pv 0) (by rfl)) pe_int pe_int))
 (pss_one (ps_ret (pe_op op_add (pe_op op_add (pe_op op_add (pv 3) (pv 4)) (pe_op op_mul pe_int (pv 1))) (pe_op op_mul pe_int (pv 2)))))))))), ?_⟩
    obtain ⟨v1, v2, v3, d1, d2, d3, rfl, hd1, hd2, hd3, hE, hQ⟩ := h
    refine ⟨_, rfl, v1, d1, 2, rfl, hd1, fun H1 s1 => ⟨_, rfl, ite2 (fun e => ?_) (fun e => ?_)⟩⟩
    · have e' : orderD 2 d1 = false := by simpa using e
      rw [show leastR d1 d2 d3 = .order from by unfold leastR; rw [e']; rfl] at hE
      exact hE H1 s1
    have e1 : orderD 2 d1 = true := by simpa using e
    have lr : leastR d1 d2 d3 = if fromTo 0 8 d2 = true then (if fromTo 0 8 d3 = true then .let_ else .number) else .number := by
      unfold leastR
      rw [if_pos e1]
    rw [lr] at hE hQ
    refine ⟨_, rfl, v2, d2, rfl, Dx.same s1 _ _ hd2, fun e2 => ?_, fun e2 => ?_⟩
    · rw [if_pos e2] at hE hQ
      refine ⟨_, rfl, v3, d3, rfl, Dx.same s1 _ _ hd3, fun e3 => ?_, fun e3 => ?_⟩
      · rw [if_pos e3] at hQ
        obtain ⟨ns, rfl, m1, m2⟩ := order_ints e1
        obtain ⟨a, us, rfl, ha, ra⟩ := Dx.tup_inv hd1
        obtain rfl := dx_ints ra
        have ha1 := s1 _ _ ha
        refine ⟨_, rfl, a, ns, rfl, st_of ha1, by omega, fun c hc => ?_⟩
        obtain ⟨x, rfl, _⟩ := fromTo_int e2
        obtain ⟨y, rfl, _⟩ := fromTo_int e3
        obtain rfl := Dx.int_inv hd2
        obtain rfl := Dx.int_inv hd3
        refine ⟨_, rfl, a, _, rfl, .inr (st_of ha1), rfl, flat_ints ns, _, rfl, ite2 (fun _ => ?_) (fun _ => ?_)⟩
        · exact ⟨_, rfl, _, rfl, _, _, rfl, rfl, _, rfl, _, _, rfl, rfl, .inl ⟨by decide, by decide⟩, _, _, rfl, rfl, _, rfl, _, _, rfl, rfl, .inl ⟨by decide, by decide⟩, _, _, rfl, rfl, hQ rfl _ H1 s1⟩
        · exact ⟨_, rfl, _, rfl, _, _, rfl, rfl, _, rfl, _, _, rfl, rfl, .inl ⟨by decide, by decide⟩, _, _, rfl, rfl, _, rfl, _, _, rfl, rfl, .inl ⟨by decide, by decide⟩, _, _, rfl, rfl, hQ rfl _ H1 s1⟩
      · rw [if_neg (by rw [e3]; decide)] at hE
        exact hE H1 s1
    · rw [if_neg (by rw [e2]; decide)] at hE
      exact hE H1 s1
end
end K37

set_option maxHeartbeats 4000000
namespace V2
open PySem PySem.Spec PyProof.Rows L2 V1
/-- a callee that raises nothing here -/
theorem passF {X : Cx} : Passes (L2.CX X.prog X.w) X (fun _ _ _ => False) := fun _ _ _ _ _ _ _ c => by
  obtain ⟨_, _, _, _, _, _, _, _, _, _, _, _, z⟩ := c
  exact z.elim
end V2
namespace K37
open PySem PySem.Spec PyProof.Rows L2 V1 V2 V3
open Evl (pss_cut tCut sq_of st_of)
/-- at a: the purse: its cells' list, the four numbers -/
structure HandAt (H : Hp) (a : Addr) : Prop where
  ex : ∃ (c : Addr) (cs : List Int) (i1 i2 i3 i4 : Int), H a = some (.lst [.ref c, .int i1, .int i2, .int i3, .int i4]) ∧ (delH H a) c = some (.lst (cs.map V.int)) ∧ 0 ≤ i1 ∧ 0 ≤ i2
theorem HandAt.new {H H' : Hp} {a : Addr} (h : HandAt H a) (e : H' a = H a) (s : Same (delH H a) (delH H' a)) : HandAt H' a := by
  obtain ⟨c, cs, i1, i2, i3, i4, h1, h2, h3⟩ := h.ex
  exact ⟨c, cs, i1, i2, i3, i4, e.trans h1, s _ _ h2, h3⟩
def cellsOf (H : Hp) (a : Addr) : Option V := match H a with
  | some (.lst (x :: _)) => some x
  | _ => none
theorem cellsOf_at {H : Hp} {a : Addr} {x : V} {xs : List V} (h : H a = some (.lst (x :: xs))) : cellsOf H a = some x := by
  unfold cellsOf
  rw [h]
theorem HandAt.cells {H : Hp} {a : Addr} (h : HandAt H a) : ∃ (c : Addr) (cs : List Int), cellsOf H a = some (.ref c) ∧ c ≠ a ∧ H c = some (.lst (cs.map V.int)) := by
  obtain ⟨c, cs, i1, i2, i3, i4, e, e2, _⟩ := h.ex
  have ne : c ≠ a := fun z => by
    rw [z, delH_same] at e2
    cases e2
  exact ⟨c, cs, cellsOf_at e, ne, by rw [delH_ne ne] at e2; exact e2⟩
theorem HandAt.off {H : Hp} {a f c : Addr} (h : HandAt H a) (e : cellsOf H a = some (.ref c)) (nc : c ≠ f) (na : f ≠ a) : HandAt (delH H f) a := by
  obtain ⟨c', cs, i1, i2, i3, i4, e1, e2, p⟩ := h.ex
  rw [cellsOf_at e1] at e
  cases e
  refine ⟨c, cs, i1, i2, i3, i4, by rw [delH_ne (Ne.symm na)]; exact e1, ?_, p⟩
  have ne : c ≠ a := fun z => by
    rw [z, delH_same] at e2
    cases e2
  rw [delH_ne ne] at e2 ⊢
  rw [delH_ne nc]
  exact e2
def spDraw : Sp := fun vs H Q _ => ∃ (a : Addr) (m : Int), vs = [.ref a, .int m] ∧ HandAt H a ∧ 0 < m ∧ m < 1000000000 ∧
  ∀ (H' : Hp) (r : Int), HandAt H' a → delH H' a = delH H a → cellsOf H' a = cellsOf H a → 0 ≤ r → r < m → Q (.int r) H'
def spPurse (K : PySem.W.Frag) : Sp := fun vs H Q _ => ∃ (a : Addr) (ns : List Int), vs = [.ref a] ∧ SqL K H a (ns.map V.int) ∧ ns.length ≤ 63 ∧ ∀ (H' : Hp) (p : Addr), Same H H' → H p = none → HandAt H' p → Q (.ref p) H'
theorem scPurse : FnScope ["script", "cell"] ["script"] (defScope s__law_purse) := ⟨rfl, rfl, rfl, by decide +kernel, rfl, by decide +kernel, by decide +kernel⟩
theorem scDraw : FnScope ["purse", "many", "cell", "told", "made"] ["purse", "many"] (defScope s__law_part) := ⟨rfl, rfl, rfl, by decide +kernel, rfl, by decide +kernel, by decide +kernel⟩
theorem scSome : FnScope ["purse", "some"] ["purse", "some"] (defScope s__law_one) := ⟨rfl, rfl, rfl, by decide +kernel, rfl, by decide +kernel, by decide +kernel⟩
theorem rest_in (z : Int) {m : Int} (h : 0 < m) : 0 ≤ z % m ∧ z % m < m := ⟨Int.emod_nonneg _ (by omega), Int.emod_lt_of_pos _ h⟩
theorem ix0 {K : PySem.W.Frag} {σ : L2.St} {H : Hp} {Q : VK} {k : Nat} {a : Addr} {xs : List V} {n : Int} {v : V} (h0 : σ[k]? = some (some (.ref a))) (hH : H a = some (.lst xs)) (hv : atI xs n = some v) (q : Q v H) : tOp (rIxL K) (tVar k) (tC (.int n)) σ H Q :=
  ⟨_, h0, a, xs, n, v, rfl, rfl, sq_of hH, hv, q⟩

theorem cut70 (ns : List Int) : cutV (ns.map V.int) none (some 70) = (ns.take 70).map V.int := by
  unfold cutV
  rw [show HT.sIx (ns.map V.int).length (ns.map V.int).length (some 70) = min 70 (ns.map V.int).length from HT.sIx_nat _ _ 70, HT.sIx_none]
  simp [List.map_take, Nat.min_comm]
def teCell : TE := tCB (fun xs H Q => ∃ i, xs = [.int i] ∧ Q (.int (if i < 0 then -i else i)) H) (tCons (tCB (fun xs H Q => (∃ i, xs = [.int i] ∧ Q (.int i) H) ∨ ∃ k, xs = [.bl k] ∧ Q (.int (if k then 1 else 0)) H) (tCons (tVar 1) tNil)) tNil)
theorem hand_same {H H' : Hp} {a : Addr} (h : HandAt H a) (s : Same H H') : HandAt H' a := by
  obtain ⟨c, cs, i1, i2, i3, i4, e, _⟩ := h.ex
  exact h.new ((s _ _ e).trans e.symm) (same_del s)
theorem cells_same {H H' : Hp} {a : Addr} (h : HandAt H a) (s : Same H H') : cellsOf H' a = cellsOf H a := by
  obtain ⟨c, cs, i1, i2, i3, i4, e, _⟩ := h.ex
  rw [cellsOf_at e, cellsOf_at (s _ _ e)]
theorem HandAt.held {H : Hp} {a : Addr} (h : HandAt H a) : Held H a := by
  obtain ⟨c, cs, i1, i2, i3, i4, e, _⟩ := h.ex
  exact ⟨_, e⟩
theorem del2_upd {H : Hp} {a f : Addr} {o : HO} : delH (delH (upd H f o) a) f = delH (delH H a) f := by
  funext b
  by_cases e : b = f
  · rw [e, delH_same, delH_same]
  · rw [delH_ne e, delH_ne e]
    by_cases e2 : b = a
    · rw [e2, delH_same, delH_same]
    · rw [delH_ne e2, delH_ne e2, upd_ne e]
theorem tup_off {H : Hp} {a b : Addr} {xs : List V} (h : HandAt H a) (e : H b = some (.tup xs)) : (delH H a) b = some (.tup xs) := by
  have ne : b ≠ a := fun z => by
    obtain ⟨c, cs, i1, i2, i3, i4, e1, _⟩ := h.ex
    rw [z, e1] at e
    cases e
  rw [delH_ne ne]
  exact e
structure Go (a : Addr) (H H' : Hp) : Prop where
  hd : HandAt H' a
  ce : cellsOf H' a = cellsOf H a
  sm : Same (delH H a) (delH H' a)
theorem Go.refl {a : Addr} {H : Hp} (h : HandAt H a) : Go a H H := ⟨h, rfl, Same.refl _⟩
theorem Go.new {a : Addr} {H H' : Hp} (h : HandAt H a) (s : Same H H') : Go a H H' := ⟨hand_same h s, cells_same h s, same_del s⟩
theorem Go.draw {a : Addr} {H H' : Hp} (h1 : HandAt H' a) (h2 : delH H' a = delH H a) (h3 : cellsOf H' a = cellsOf H a) : Go a H H' := ⟨h1, h3, by rw [h2]; exact Same.refl _⟩
theorem Go.trans {a : Addr} {H H1 H2 : Hp} (g : Go a H H1) (g' : Go a H1 H2) : Go a H H2 := ⟨g'.hd, g'.ce.trans g.ce, g.sm.trans g'.sm⟩
theorem Go.at_ {a b : Addr} {H H' : Hp} {o : HO} (g : Go a H H') (h : delH H a b = some o) : delH H' a b = some o := g.sm _ _ h
theorem HandAt.ne_new {H : Hp} {a q : Addr} (h : HandAt H a) (n : H q = none) : q ≠ a := fun z => by
  obtain ⟨o, e⟩ := h.held
  rw [z, e] at n
  cases n
theorem del_comm {H : Hp} {a f : Addr} : delH (delH H a) f = delH (delH H f) a := by
  funext b
  by_cases e : b = f
  · subst e
    rw [delH_same]
    by_cases e2 : b = a
    · rw [e2, delH_same]
    · rw [delH_ne e2, delH_same]
  · by_cases e2 : b = a
    · rw [delH_ne e, e2, delH_same, delH_same]
    · rw [delH_ne e, delH_ne e2, delH_ne e2, delH_ne e]
theorem Go.draw_in {a D c : Addr} {H0 H H' : Hp} (g : Go a H0 (delH H D)) (hc : cellsOf H0 a = some (.ref c)) (cD : c ≠ D) (Da : D ≠ a) (h1 : HandAt H' a) (h2 : delH H' a = delH H a) (h3 : cellsOf H' a = cellsOf H a) : Go a H0 (delH H' D) ∧ H' D = H D := by
  have cel : ∀ {X : Hp}, cellsOf (delH X D) a = cellsOf X a := fun {X} => by
    unfold cellsOf
    rw [delH_ne (Ne.symm Da)]
  have z : cellsOf H' a = some (.ref c) := h3.trans ((cel.symm.trans g.ce).trans hc)
  refine ⟨⟨h1.off z cD Da, cel.trans (z.trans hc.symm), ?_⟩, ?_⟩
  · rw [del_comm, h2, del_comm]
    exact g.sm
  · have y := congrFun h2 D
    rw [delH_ne Da, delH_ne Da] at y
    exact y
theorem pos_of {xs : List Int} {i : Nat} {v : V} (h : (xs.map V.int)[i]? = some v) (p : ∀ x ∈ xs, 0 ≤ x) : ∃ z, v = .int z ∧ 0 ≤ z ∧ z ∈ xs := by
  rw [List.getElem?_map] at h
  obtain ⟨z, hz, rfl⟩ := Option.map_eq_some_iff.mp h
  exact ⟨z, rfl, p z (List.mem_of_getElem? hz), List.mem_of_getElem? hz⟩
section
variable [CurK]
theorem Go.dx {a : Addr} {H H' : Hp} {v : V} {d : PyData} (g : Go a H H') (h : Dx (delH H a) v d) : Dx (delH H' a) v d := Dx.same g.sm _ _ h
structure LD (H0 : Hp) (a f c : Addr) (ds : List PyData) (H : Hp) : Prop where
  hd : HandAt H a
  ce : cellsOf H a = some (.ref c)
  sm : Same (delH H0 a) (delH (delH H a) f)
  at_ : ∃ acc, H f = some (.lst acc) ∧ DxAll (delH (delH H a) f) acc ds
theorem LD.draw {H0 H H' : Hp} {a f c : Addr} {ds : List PyData} (h : LD H0 a f c ds H) (na : f ≠ a) (h1 : HandAt H' a) (h2 : delH H' a = delH H a) (h3 : cellsOf H' a = cellsOf H a) : LD H0 a f c ds H' := by
  obtain ⟨acc, e, d⟩ := h.at_
  refine ⟨h1, h3.trans h.ce, by rw [h2]; exact h.sm, acc, ?_, by rw [h2]; exact d⟩
  have z := congrFun h2 f
  rw [delH_ne na, delH_ne na] at z
  exact z.trans e
theorem LD.new {H0 H H' : Hp} {a f c : Addr} {ds : List PyData} (h : LD H0 a f c ds H) (s : Same H H') : LD H0 a f c ds H' := by
  obtain ⟨acc, e, d⟩ := h.at_
  exact ⟨hand_same h.hd s, (cells_same h.hd s).trans h.ce, h.sm.trans (same_del (same_del s)), acc, s _ _ e, DxAll.same (same_del (same_del s)) _ _ d⟩
theorem LD.put {H0 H : Hp} {a f c : Addr} {ds ds' : List PyData} {acc' : List V} (h : LD H0 a f c ds H) (na : f ≠ a) (nc : c ≠ f) (d : DxAll (delH (delH H a) f) acc' ds') :
    LD H0 a f c ds' (upd H f (.lst acc')) := by
  have o := h.hd.off h.ce nc na
  refine ⟨?_, ?_, ?_, acc', upd_same, ?_⟩
  · have z : HandAt (delH (upd H f (.lst acc')) f) a := by rw [delH_upd]; exact o
    exact hand_same z same_delH
  · have z := h.ce
    unfold cellsOf at z ⊢
    rw [upd_ne (Ne.symm na)]
    exact z
  · rw [del2_upd]
    exact h.sm
  · rw [del2_upd]
    exact d
theorem LD.held {H0 H : Hp} {a f c : Addr} {ds : List PyData} (h : LD H0 a f c ds H) : Held H f := by
  obtain ⟨acc, e, _⟩ := h.at_
  exact ⟨_, e⟩
end
/-- the items of a list, a tuple, a string -/
def ItsOf (H : Hp) (a : Addr) (x : V) (xs : List V) : Prop :=
  (∃ p, x = .ref p ∧ p ≠ a ∧ (H p = some (.lst xs) ∨ H p = some (.tup xs))) ∨ ∃ z : Str, x = .str z ∧ xs = z.cps.toList.map fun c => V.str ⟨#[c]⟩
def spSome : Sp := fun vs H Q _ => ∃ (a : Addr) (x : V) (xs : List V), vs = [.ref a, x] ∧ HandAt H a ∧ ItsOf H a x xs ∧ 0 < xs.length ∧ xs.length < 1000 ∧
  ∀ (H' : Hp) (i : Nat) (v : V), HandAt H' a → delH H' a = delH H a → cellsOf H' a = cellsOf H a → xs[i]? = some v → Q v H'
theorem some_ints {H : Hp} {a q : Addr} {Q : VK} (xs : List Int) (hd : HandAt H a) (nq : H q = none) (px : ∀ x ∈ xs, 0 ≤ x) (l0 : 0 < xs.length) (l1 : xs.length < 1000)
    (k : ∀ H2 (z : Nat), Go a H H2 → ((z : Nat) : Int) ∈ xs → Q (.int ((z : Nat) : Int)) H2) : spSome [.ref a, .ref q] (upd H q (.lst (xs.map V.int))) Q (fun _ _ _ => False) := by
  have s1 := same_new (o := HO.lst (xs.map V.int)) nq
  refine ⟨a, _, _, rfl, hand_same hd s1, .inl ⟨q, rfl, hd.ne_new nq, .inl upd_same⟩, by rw [List.length_map]; exact l0, by rw [List.length_map]; exact l1, fun H2 i v hd2 e2 c2 ev => ?_⟩
  obtain ⟨z, rfl, z0, zm⟩ := pos_of ev px
  obtain ⟨j, rfl⟩ := Int.eq_ofNat_of_zero_le z0
  exact k H2 j ((Go.new hd s1).trans (Go.draw hd2 e2 c2)) zm
theorem some_data [CurK] {H : Hp} {a : Addr} {v : V} {d : PyData} {ds : List PyData} {Q : VK} (hd : HandAt H a) (q : Dx (delH H a) v d) (ed : d = .list ds ∨ d = .tuple ds) (l0 : 0 < ds.length) (l1 : ds.length < 1000)
    (k : ∀ H2 w d, Go a H H2 → d ∈ ds → Dx (delH H2 a) w d → Q w H2) : spSome [.ref a, v] H Q (fun _ _ _ => False) := by
  obtain ⟨p, xs, rfl, at_, rest⟩ : ∃ p xs, v = .ref p ∧ (delH H a p = some (.lst xs) ∨ delH H a p = some (.tup xs)) ∧ DxAll (delH H a) xs ds := by
    rcases ed with rfl | rfl
    · cases q with | lst at_ low rest => exact ⟨_, _, rfl, .inl at_, rest⟩
    · cases q with | tup at_ rest => exact ⟨_, _, rfl, .inr at_, rest⟩
  have na : p ≠ a := fun z => by
    rw [z, delH_same] at at_
    rcases at_ with h | h <;> cases h
  rw [delH_ne na] at at_
  have lr := dxAll_len rest
  refine ⟨a, _, _, rfl, hd, .inl ⟨p, rfl, na, at_⟩, by rw [lr]; exact l0, by rw [lr]; exact l1, fun H2 i w hd2 e2 c2 ev => ?_⟩
  obtain ⟨d, m, z⟩ := DxAll.some rest ev
  exact k H2 w d (Go.draw hd2 e2 c2) m (by rw [e2]; exact z)
theorem cells_del {H : Hp} {a D : Addr} (n : D ≠ a) : cellsOf (delH H D) a = cellsOf H a := by
  unfold cellsOf
  rw [delH_ne (Ne.symm n)]
theorem Go.undel {a D : Addr} {H0 H : Hp} (g : Go a H0 (delH H D)) (n : D ≠ a) : Go a H0 H := ⟨hand_same g.hd same_delH, (cells_del n).symm.trans g.ce, fun b o e => by
  have z := g.sm b o e
  rw [del_comm] at z
  exact same_delH _ _ z⟩
theorem go_cell {a c : Addr} {H H' : Hp} {cs : List Int} (g : Go a H H') (hce : cellsOf H a = some (.ref c)) (nca : c ≠ a) (hc : H c = some (.lst (cs.map V.int))) : cellsOf H' a = some (.ref c) ∧ H' c = some (.lst (cs.map V.int)) :=
  ⟨g.ce.trans hce, same_delH _ _ (g.sm _ _ (by rw [delH_ne nca]; exact hc))⟩

section
variable [CurK] {P : Program} {w : World} {mg : Str → Option Value} {base : Heap}
theorem ok_purse (T : Tx K mg) : Has P w K mg base CX0 1 "_law_purse" ["script"] (spPurse K) := by
  obtain ⟨fd, F⟩ := T.c.def_ 18 (d := d__law_purse) rfl
  refine ⟨fd, F.ok scPurse (fun vs H Q E h => ?_) (fun cdv A outer s H vs Q E hr h => ?_), FunD.bindsN F fun _ _ _ _ _ _ us hl => match us, hl with | [_], _ => rfl, F.kp, (T.glo 35 rfl)⟩
  · obtain ⟨a, ns, rfl, _⟩ := h
    rfl
  · refine ⟨_, PSs.nox (pss_one (ps_ret (pe_lst (pa_cons (pe_lc (own := [("cell", 1)]) (g := gName 1) (tt := tYes) (te := teCell) (by rfl) scPurse.nd (pi_list (pe_slice sl_list (pv 0) po_none (po_some pe_int)))
 (blkOk_by (own := [("cell", 1)]) (N := ["script", "cell"]) (sc := defScope s__law_purse) (by decide +kernel)) (fun _ _ _ _ _ => pg_name (i := 1) scPurse.nd rfl (Or.inl rfl)) (fun _ _ _ _ _ => pts_nil) (fun _ _ _ _ _ => (pe_callB call_abs (by rfl) (T.free 49 rfl) (by decide +kernel) (pa_cons (pe_callTy call_int1 (by rfl) (T.free 53 rfl) (by decide +kernel) (pa_cons (pv 1) pa_nil)) pa_nil)))) (pa_cons pe_int (pa_cons pe_int (pa_cons (pe_op op_add pe_int (pe_op op_mul pe_int (pe_callB call_len (by rfl) (T.free 55 rfl) PySem.boot_len (pa_cons (pe_slice sl_list (pv 0) po_none (po_some pe_int)) pa_nil)))) (pa_cons pe_int pa_nil)))))))), ?_⟩
    obtain ⟨a, ns, rfl, hS, hl, hQ⟩ := h
    refine ⟨_, rfl, 70, rfl, a, _, rfl, hS, fun p np => ?_⟩
    rw [cut70]
    have sp := same_new (o := .lst ((ns.take 70).map V.int)) np
    refine ⟨p, rfl, ⟨_, sq_of upd_same⟩, fun D nD => ?_⟩
    refine lc_gen (σ := [some (.ref a), none]) (vs := [1]) (walk_list (K := K) (a := p) (xs := (ns.take 70).map V.int)) nD (fun i acc H' => Same (upd H p (.lst ((ns.take 70).map V.int))) H' ∧ ∃ cs : List Int, acc = cs.map V.int) ⟨Same.refl _, [], rfl⟩ (fun i acc H' _ z => sq_of (same_delH _ _ (z.1 _ _ upd_same))) ?_ ?_
    · rintro i acc x H1 H2 hi l e ⟨sm, cs, rfl⟩ ⟨rfl, hx⟩
      rw [List.getElem?_map] at hx
      obtain ⟨z, hz, rfl⟩ := Option.map_eq_some_iff.mp hx
      refine ⟨rfl, ?_⟩
      simp only [tYes, if_true]
      have li : i < 1000 := by
        rw [List.length_map, List.length_take] at hi
        omega
      exact ⟨_, rfl, .inl ⟨z, rfl, z, rfl, lc_put l li e ⟨sm, cs ++ [if z < 0 then -z else z], by rw [List.map_append]; rfl⟩⟩⟩
    · rintro acc H1 l e ⟨sm, cs, rfl⟩
      have s1 : Same H H1 := fun b o ob => same_delH _ _ (sm _ _ (sp _ _ ob))
      have hS1 : SqL K H1 a (ns.map V.int) := hS.ext s1
      refine ⟨_, rfl, 70, rfl, a, _, rfl, hS1, fun p2 np2 => ?_⟩
      rw [cut70]
      have s2 := same_new (o := .lst ((ns.take 70).map V.int)) np2
      refine ⟨_, _, rfl, .inl ⟨_, sq_of upd_same, rfl⟩, _, _, rfl, rfl, .inl ⟨by decide, by decide⟩, _, _, rfl, rfl, (by show 5 ≤ sizeLine; decide), fun q nq => ?_⟩
      refine hQ _ q ((s1.trans s2).trans (same_new nq)) (fresh_up (s1.trans s2) nq) ⟨D, cs, _, _, _, _, upd_same, ?_, by decide, by decide⟩
      rw [delH_new nq]
      exact s2 _ _ e
theorem ok_draw (T : Tx K mg) : Has P w K mg base CX0 1 "_law_part" ["purse", "many"] spDraw := by
  obtain ⟨fd, F⟩ := T.c.def_ 19 (d := d__law_part) rfl
  refine ⟨fd, F.ok scDraw (fun vs H Q E h => ?_) (fun cdv A outer s H vs Q E hr h => ?_), FunD.bindsN F fun _ _ _ _ _ _ us hl => match us, hl with | [_, _], _ => rfl, F.kp, (T.glo 36 rfl)⟩
  · obtain ⟨a, m, rfl, _⟩ := h
    rfl
  · refine ⟨_, PSs.nox (pss_cut (ps_if (PW.pt (pw_and (pt_cmpR op_lt (pe_ix ix_list (pv 0) pe_int (fun _ _ => rfl)) pe_int (nomark _)) (pw_and1 (pt_cmpR op_lt (pe_ix ix_list (pv 0) pe_int (fun _ _ => rfl)) (pe_callB call_len (by rfl) (T.free 55 rfl) PySem.boot_len (pa_cons (pe_ix ix_list (pv 0) pe_int (fun _ _ => rfl)) pa_nil)) (nomark _)))))
 (pss_cons (ps_set (i := 2) scDraw.nd rfl (Or.inl rfl) (pe_ix ix_list (pe_ix ix_list (pv 0) pe_int (fun _ _ => rfl)) (pe_ix ix_list (pv 0) pe_int (fun _ _ => rfl)) (fun _ _ => rfl)))
 (pss_cons (ps_asg (pe_op op_add (pe_ix ix_list (pv 0) pe_int (fun _ _ => rfl)) pe_int) (pg_sub (pv 0) pe_int set_list))
 (pss_cons (ps_asg (pe_op op_mod (pe_callTy call_int1 (by rfl) (T.free 53 rfl) (by decide +kernel) (pa_cons (pe_op op_add (pe_op op_add (pe_op op_mul (pe_ix ix_list (pv 0) pe_int (fun _ _ => rfl)) pe_int) (pv 2)) pe_int) pa_nil)) pe_int) (pg_sub (pv 0) pe_int set_list))
 (pss_one (ps_asg (pe_ifExp (pt_cmpR op_ge (pv 2) (pe_op op_pow pe_int pe_int) (nomark _)) (pv 2) pe_int) (pg_sub (pv 0) pe_int set_list))))))
 pss_nil)
 (pss_cons (ps_if (pt_cmpR op_gt (pe_ix ix_list (pv 0) pe_int (fun _ _ => rfl)) pe_int (nomark _))
 (pss_cons (ps_set (i := 3) scDraw.nd rfl (Or.inl rfl) (pe_op op_mod (pe_callTy call_int1 (by rfl) (T.free 53 rfl) (by decide +kernel) (pa_cons (pe_ix ix_list (pv 0) pe_int (fun _ _ => rfl)) pa_nil)) (pv 1)))
 (pss_cons (ps_asg (pe_op op_fdiv (pe_ix ix_list (pv 0) pe_int (fun _ _ => rfl)) (pv 1)) (pg_sub (pv 0) pe_int set_list))
 (pss_one (ps_ret (pv 3)))))
 pss_nil)
 (pss_cons (ps_asg (pe_op op_add (pe_ix ix_list (pv 0) pe_int (fun _ _ => rfl)) pe_int) (pg_sub (pv 0) pe_int set_list))
 (pss_cons (ps_set (i := 4) scDraw.nd rfl (Or.inl rfl) (pe_op op_mod (pe_callTy call_int1 (by rfl) (T.free 53 rfl) (by decide +kernel) (pa_cons (pe_op op_mul (pe_op op_add (pe_ix ix_list (pv 0) pe_int (fun _ _ => rfl)) (pe_op op_mul pe_int (pe_ix ix_list (pv 0) pe_int (fun _ _ => rfl)))) pe_int) pa_nil)) pe_int))
 (pss_cons (ps_set (i := 4) scDraw.nd rfl (Or.inl rfl) (pe_op op_mod (pe_callTy call_int1 (by rfl) (T.free 53 rfl) (by decide +kernel) (pa_cons (pe_op op_mul (pv 4) (pe_op op_add (pe_op op_fdiv (pv 4) pe_int) pe_int)) pa_nil)) pe_int))
 (pss_cons (ps_set (i := 4) scDraw.nd rfl (Or.inl rfl) (pe_op op_mod (pe_callTy call_int1 (by rfl) (T.free 53 rfl) (by decide +kernel) (pa_cons (pe_op op_mul (pv 4) (pe_op op_add (pe_op op_fdiv (pv 4) pe_int) pe_int)) pa_nil)) pe_int))
 (pss_one (ps_ret (pe_op op_mod (pe_callTy call_int1 (by rfl) (T.free 53 rfl) (by decide +kernel) (pa_cons (pe_op op_fdiv (pv 4) pe_int) pa_nil)) (pv 1)))))))))), ?_⟩
    obtain ⟨a, m, rfl, hd, m0, m1, hQ⟩ := h
    obtain ⟨c, cs, i1, i2, i3, i4, h1, h2, h3, h4⟩ := hd.ex
    refine ⟨fun σ H1 => ∃ (j1 j2 j3 j4 : Int) (v2 : Option V), σ = [some (.ref a), some (.int m), v2, none, none] ∧ H1 a = some (.lst [.ref c, .int j1, .int j2, .int j3, .int j4]) ∧ delH H1 a = delH H a ∧ 0 ≤ j1 ∧ 0 ≤ j2, ?_, ?_⟩
    · -- a new cell is taken
      have hc : H c = some (.lst (cs.map V.int)) := same_delH _ _ h2
      have nca : c ≠ a := fun z => by
        rw [z, delH_same] at h2
        cases h2
      refine ix0 rfl h1 rfl ⟨_, _, rfl, rfl, _, rfl, ?_⟩
      refine ite2 (fun e2 => ?_) (fun _ => ?_)
      · refine ix0 rfl h1 rfl (ix0 rfl h1 rfl ⟨_, _, rfl, .inl ⟨_, sq_of hc, rfl⟩, _, _, rfl, rfl, _, rfl, ?_⟩)
        refine ite2 (fun e1 => ?_) (fun _ => ?_)
        · have e1' := of_decide_eq_true e1
          rw [List.length_map] at e1'
          obtain ⟨j, rfl⟩ := Int.eq_ofNat_of_zero_le h3
          have hj : j < cs.length := by omega
          have at_ : atI (cs.map V.int) ((j : Nat) : Int) = some (.int cs[j]) := atI_nat (by rw [List.getElem?_map, List.getElem?_eq_getElem hj]; rfl)
          refine ix0 rfl h1 rfl (ix0 rfl h1 rfl ⟨c, _, _, _, rfl, rfl, sq_of hc, at_, ?_⟩)
          refine ix0 rfl h1 rfl ⟨_, _, rfl, rfl, _, rfl, a, _, _, 1, rfl, rfl, h1, rfl, ?_⟩
          refine ix0 rfl upd_same rfl ⟨_, _, rfl, rfl, .inr ⟨by decide, by decide⟩, _, rfl, _, _, rfl, rfl, _, _, rfl, rfl, .inl ⟨_, rfl, _, _, rfl, rfl, (by show (0 : Int) < 2147483399; decide), _, rfl, a, _, _, 3, rfl, rfl, upd_same, rfl, ?_⟩⟩
          rw [upd_upd]
          refine ⟨_, rfl, _, _, rfl, rfl, ⟨by decide, by decide, by decide⟩, _, _, rfl, rfl, _, rfl, ?_⟩
          refine ite2 (fun big => ?_) (fun _ => ?_)
          · refine ⟨_, rfl, _, rfl, a, _, _, 2, rfl, rfl, upd_same, rfl, ?_⟩
            rw [upd_upd]
            refine ⟨_, _, _, _, _, rfl, upd_same, by rw [delH_upd], by omega, ?_⟩
            have b := of_decide_eq_true big
            exact Int.le_trans (by decide) b
          · refine ⟨_, rfl, a, _, _, 2, rfl, rfl, upd_same, rfl, ?_⟩
            rw [upd_upd]
            exact ⟨_, _, _, _, _, rfl, upd_same, by rw [delH_upd], by omega, by decide⟩
        · exact ⟨_, _, _, _, _, rfl, h1, rfl, h3, h4⟩
      · exact ⟨_, _, _, _, _, rfl, h1, rfl, h3, h4⟩
    · rintro σ H1 ⟨j1, j2, j3, j4, v2, rfl, g1, g2, g3, g4⟩
      refine ix0 rfl g1 rfl ⟨_, _, rfl, rfl, _, rfl, ?_⟩
      refine ite2 (fun e => ?_) (fun e => ?_)
      · refine ix0 rfl g1 rfl (.inl ⟨_, rfl, _, rfl, _, _, rfl, rfl, m0, ?_⟩)
        refine ix0 rfl g1 rfl ⟨_, rfl, _, _, rfl, rfl, ⟨m0, by omega⟩, _, rfl, a, _, _, 2, rfl, rfl, g1, rfl, _, rfl, ?_⟩
        refine hQ _ _ ⟨c, cs, j1, j2 / m, j3, j4, upd_same, ?_, g3, Int.ediv_nonneg g4 (by omega)⟩ (by rw [delH_upd, g2]) ((cellsOf_at (x := .ref c) upd_same).trans (cellsOf_at h1).symm) (Int.emod_nonneg _ (by omega)) (Int.emod_lt_of_pos _ m0)
        rw [delH_upd, g2]
        exact h2
      · refine ix0 rfl g1 rfl ⟨_, _, rfl, rfl, _, rfl, a, _, _, 4, rfl, rfl, g1, rfl, ?_⟩
        refine ix0 rfl upd_same rfl (ix0 rfl upd_same rfl ⟨_, _, rfl, rfl, .inl ⟨by decide, by decide⟩, _, _, rfl, rfl, _, _, rfl, rfl, .inr ⟨by decide, by decide⟩, .inl ⟨_, rfl, _, _, rfl, rfl, (by show (0 : Int) < 2147483563; decide), ?_⟩⟩)
        have b1 := rest_in ((j3 + 62089911 * (j4 + 1)) * 69621) (m := 2147483563) (by decide)
        refine ⟨_, rfl, _, rfl, _, _, rfl, rfl, ⟨by decide, by decide⟩, _, _, rfl, rfl, _, _, rfl, rfl, .inl ⟨by omega, by omega⟩, .inl ⟨_, rfl, _, _, rfl, rfl, (by show (0 : Int) < 2147483647; decide), ?_⟩⟩
        have b2 := fun z : Int => rest_in z (m := 2147483647) (by decide)
        refine ⟨_, rfl, _, rfl, _, _, rfl, rfl, ⟨by decide, by decide⟩, _, _, rfl, rfl, _, _, rfl, rfl, .inl ⟨Int.lt_of_lt_of_le (by decide) (b2 _).1, Int.lt_of_lt_of_le (b2 _).2 (by decide)⟩, .inl ⟨_, rfl, _, _, rfl, rfl, (by show (0 : Int) < 2147483629; decide), ?_⟩⟩
        refine ⟨_, rfl, _, _, rfl, rfl, ⟨by decide, by decide⟩, .inl ⟨_, rfl, _, rfl, _, _, rfl, rfl, m0, ?_⟩⟩
        refine hQ _ _ ⟨c, cs, j1, j2, j3, j4 + 1, upd_same, ?_, g3, g4⟩ (by rw [delH_upd, g2]) ((cellsOf_at (x := .ref c) upd_same).trans (cellsOf_at h1).symm) (Int.emod_nonneg _ (by omega)) (Int.emod_lt_of_pos _ m0)
        rw [delH_upd, g2]
        exact h2
theorem ok_some (T : Tx K mg) : Has P w K mg base CX0 2 "_law_one" ["purse", "some"] spSome := by
  obtain ⟨fd, F⟩ := T.c.def_ 20 (d := d__law_one) rfl
  have Hd := ok_draw (P := P) (w := w) (base := base) T
  refine ⟨fd, F.ok scSome (fun vs H Q E h => ?_) (fun cdv A outer s H vs Q E hr h => ?_), FunD.bindsN F fun _ _ _ _ _ _ us hl => match us, hl with | [_, _], _ => rfl, F.kp, (T.glo 37 rfl)⟩
  · obtain ⟨a, p, xs, rfl, _⟩ := h
    rfl
  · refine ⟨_, PSs.nox (pss_one (ps_ret (pe_ix ix_seq (pv 1) (pe_has Hd (hr.mono (by decide)) pass0 (pa_cons (pv 0) (pa_cons (pe_callB call_len (by rfl) (T.free 55 rfl) PySem.boot_len (pa_cons (pv 1) pa_nil)) pa_nil))) (fun _ _ => rfl)))), ?_⟩
    obtain ⟨a, x, xs, rfl, hd, hp, l0, l1, hQ⟩ := h
    refine ⟨_, rfl, _, rfl, ?_⟩
    rcases hp with ⟨p, rfl, ne, hp⟩ | ⟨z, rfl, rfl⟩
    · refine ⟨_, rfl, _, _, rfl, (show LenV K (.ref p) H xs.length from hp.elim (fun e => .inl ⟨xs, sq_of e, rfl⟩) (fun e => .inr ⟨xs, st_of e, rfl⟩)), a, _, rfl, hd, by omega, by omega, fun H' r hd' e ec r0 r1 => ?_⟩
      obtain ⟨j, rfl⟩ := Int.eq_ofNat_of_zero_le r0
      have hj : j < xs.length := by omega
      have e' : ∀ o, H p = some o → H' p = some o := fun o h => by
        have z := congrFun e p
        rw [delH_ne ne, delH_ne ne] at z
        exact z.trans h
      rcases hp with hp | hp
      · exact .inl ⟨p, xs, _, xs[j], rfl, rfl, sq_of (e' _ hp), atI_nat (List.getElem?_eq_getElem hj), hQ H' j _ hd' e ec (List.getElem?_eq_getElem hj)⟩
      · exact .inr (.inl ⟨p, xs, _, xs[j], rfl, rfl, st_of (e' _ hp), atI_nat (List.getElem?_eq_getElem hj), hQ H' j _ hd' e ec (List.getElem?_eq_getElem hj)⟩)
    · rw [List.length_map] at l0 l1
      have lz : z.length = z.cps.toList.length := by simp [Str.length]
      refine ⟨_, rfl, _, _, rfl, (show LenV K (.str z) H z.length from ⟨Nat.le_of_lt (small1000 (by omega)), rfl⟩), a, _, rfl, hd, by omega, by omega, fun H' r hd' e ec r0 r1 => ?_⟩
      obtain ⟨j, rfl⟩ := Int.eq_ofNat_of_zero_le r0
      have hj : j < z.cps.toList.length := by omega
      exact .inr (.inr ⟨z, _, z.cps.toList[j], rfl, rfl, Nat.le_of_lt (small1000 (by omega)), atI_nat (List.getElem?_eq_getElem hj), hQ H' j _ hd' e ec (by rw [List.getElem?_map, List.getElem?_eq_getElem hj]; rfl)⟩)

end
end K37

set_option maxHeartbeats 4000000
namespace V2
open PySem PySem.Spec PyProof.Rows L2 V1
/-- list(x), the new place not that of the modules -/
theorem call_list_low {X : Cx} : CallR X (.type "list") (fun xs H Q => ∃ p ys, xs = [.ref p] ∧ (SqL X.K H p ys ∨ SqT X.K H p ys) ∧ ∀ l, H l = none → (l == sysModules) = false → Q (.ref l) (upd H l (.lst ys))) := by
  rintro pins s σ H xs us Q I r ⟨p, ys, rfl, hq, q⟩
  obtain ⟨u, rfl, rx⟩ := vals1 r
  cases rx
  have src : ∃ (zs : List Value) (T : String) (o : Obj) (n : Nat), Vals ys zs ∧ ys.length ≤ sizeLine ∧ (T = "list" ∨ T = "tuple") ∧ s.heap.get? p = some o ∧ o.cls = .type T ∧ o.data = .seq zs.toArray n := by
    rcases hq with hq | hq
    · obtain ⟨zs, w, pl, z⟩ := I.list hq
      obtain ⟨o, e, c, n, d⟩ := pl.isList
      exact ⟨zs, _, o, n, w, z, .inl rfl, e, c, d⟩
    · obtain ⟨zs, w, pl, z⟩ := I.tuple hq
      obtain ⟨o, e, c, n, d⟩ := pl
      exact ⟨zs, _, o, n, w, z, .inr rfl, e, c, d⟩
  obtain ⟨zs, T, o, n, w, z, hT, e, c, d⟩ := src
  have lz := w.length
  refine call_list_seq p hT e c d (fun h1 c1 kp eh => ?_) (by simp only [List.size_toArray]; omega)
  exact ⟨.ref s.heap.objs.size, _, I.laid (o := .lst ys) (t' := s.toks) kp (Nat.le_refl _) ⟨z, zs, c1, w, eh⟩, rfl, q _ (I.hok.fresh (Nat.le_refl _)) (beq_eq_false_iff_ne.mpr (Nat.ne_of_gt I.big))⟩
end V2
namespace K37
open PySem PySem.Spec PyProof.Rows L2 V1 V2 V3
open Evl (pss_cut tCut sq_of st_of)
theorem HandAt.put {H : Hp} {a l c : Addr} {o : HO} (h : HandAt H a) (e : cellsOf H a = some (.ref c)) (nc : c ≠ l) (na : l ≠ a) : HandAt (upd H l o) a ∧ cellsOf (upd H l o) a = some (.ref c) := by
  obtain ⟨c', cs, i1, i2, i3, i4, e1, e2, p⟩ := h.ex
  rw [cellsOf_at e1] at e
  cases e
  have ne : c ≠ a := fun z => by
    rw [z, delH_same] at e2
    cases e2
  have e1' : upd H l o a = some (.lst [.ref c, .int i1, .int i2, .int i3, .int i4]) := by rw [upd_ne (Ne.symm na)]; exact e1
  refine ⟨⟨c, cs, i1, i2, i3, i4, e1', ?_, p⟩, cellsOf_at e1'⟩
  rw [delH_ne ne] at e2 ⊢
  rw [upd_ne nc]
  exact e2
/-- two lists, at l and f, beside the purse -/
structure MX (H : Hp) (a l f c : Addr) (xs ys : List V) (H' : Hp) : Prop where
  hd : HandAt H' a
  ce : cellsOf H' a = some (.ref c)
  sm : Same (delH H a) (delH (delH (delH H' a) l) f)
  il : H' l = some (.lst xs)
  ig : H' f = some (.lst ys)
section
variable {H H' H'' : Hp} {a l f c : Addr} {xs ys : List V}
theorem MX.draw (m : MX H a l f c xs ys H') (nl : l ≠ a) (nf : f ≠ a) (h1 : HandAt H'' a) (h2 : delH H'' a = delH H' a) (h3 : cellsOf H'' a = cellsOf H' a) : MX H a l f c xs ys H'' := by
  refine ⟨h1, h3.trans m.ce, by rw [h2]; exact m.sm, ?_, ?_⟩
  · have z := congrFun h2 l
    rw [delH_ne nl, delH_ne nl] at z
    exact z.trans m.il
  · have z := congrFun h2 f
    rw [delH_ne nf, delH_ne nf] at z
    exact z.trans m.ig
theorem MX.left (m : MX H a l f c xs ys H') {zs : List V} (nl : l ≠ a) (nlf : l ≠ f) (cl : c ≠ l) : MX H a l f c zs ys (upd H' l (.lst zs)) := by
  obtain ⟨h1, h2⟩ := m.hd.put (o := .lst zs) m.ce cl nl
  refine ⟨h1, h2, ?_, upd_same, by rw [upd_ne (Ne.symm nlf)]; exact m.ig⟩
  rw [del2_upd]
  exact m.sm
theorem MX.found (m : MX H a l f c xs ys H') {zs : List V} (nf : f ≠ a) (nlf : l ≠ f) (cf : c ≠ f) : MX H a l f c xs zs (upd H' f (.lst zs)) := by
  obtain ⟨h1, h2⟩ := m.hd.put (o := .lst zs) m.ce cf nf
  refine ⟨h1, h2, ?_, by rw [upd_ne nlf]; exact m.il, upd_same⟩
  have z : delH (delH (delH (upd H' f (.lst zs)) a) l) f = delH (delH (delH H' a) l) f := by
    rw [del_comm (H := delH (upd H' f (.lst zs)) a), del_comm (H := delH H' a), del2_upd]
  rw [z]
  exact m.sm
end
theorem er_map {α β : Type} (f : α → β) : ∀ (l : List α) (j : Nat), (l.map f).eraseIdx j = (l.eraseIdx j).map f
  | [], j => rfl
  | x :: l, 0 => rfl
  | x :: l, j + 1 => by
    show f x :: (l.map f).eraseIdx j = f x :: (l.eraseIdx j).map f
    rw [er_map f l j]
theorem er_perm {α : Type} : ∀ (l : List α) (j : Nat) (h : j < l.length), (l[j] :: l.eraseIdx j).Perm l
  | x :: l, 0, _ => List.Perm.refl _
  | x :: l, j + 1, h => (List.Perm.swap x _ _).trans (List.Perm.cons x (er_perm l j (Nat.lt_of_succ_lt_succ h)))
def spMixed : Sp := fun vs H Q _ => ∃ (a q : Addr) (xs : List Str), vs = [.ref a, .ref q] ∧ HandAt H a ∧ H q = some (.lst (xs.map V.str)) ∧ xs.length ≤ 500 ∧ ∀ H' f (ys : List Str), Go a H H' → f ≠ a → ys.Perm xs → H' f = some (.lst (ys.map V.str)) → Q (.ref f) H'
theorem scMixed : FnScope ["purse", "some", "left", "found"] ["purse", "some"] (defScope s__law_mixed) := ⟨rfl, rfl, rfl, by decide +kernel, rfl, by decide +kernel, by decide +kernel⟩
section
variable [CurK] {P : Program} {w : World} {mg : Str → Option Value} {base : Heap}
theorem ok_mixed (T : Tx K mg) : Has P w K mg base CX0 2 "_law_mixed" ["purse", "some"] spMixed := by
  obtain ⟨fd, F⟩ := T.c.def_ 21 (d := d__law_mixed) rfl
  have Hd := ok_draw (P := P) (w := w) (base := base) T
  refine ⟨fd, F.ok scMixed (fun vs H Q E h => ?_) (fun cdv A outer s H vs Q E hr h => ?_), FunD.bindsN F fun _ _ _ _ _ _ us hl => match us, hl with | [_, _], _ => rfl, F.kp, (T.glo 38 rfl)⟩
  · obtain ⟨a, q, xs, rfl, _⟩ := h
    rfl
  · refine ⟨_, PSs.nox (pss_cons (ps_par (i := 2) (j := 3) rfl scMixed.nd rfl rfl (by decide) rfl rfl (pa_cons (pe_callTy call_list_low (by rfl) (T.free 56 rfl) (by decide +kernel) (pa_cons (pv 1) pa_nil)) (pa_cons (pe_lstS pa_nil) pa_nil)) (by rfl))
 (pss_cons (ps_while PassesOwn.never (pt_cmpR op_gt (pe_callB call_len (by rfl) (T.free 55 rfl) PySem.boot_len (pa_cons (pv 2) pa_nil)) pe_int (nomark _))
 (pss_one (ps_expr (pe_bm PySem.F.plainAttrs_list PySem.F.slot_list_append PySem.F.type_list_append mt_append (pv 3) (pa_cons (pe_bm PySem.F.plainAttrs_list PySem.F.slot_list_pop PySem.F.type_list_pop mt_popAt (pv 2) (pa_cons (pe_has Hd (hr.mono (by decide)) pass0 (pa_cons (pv 0) (pa_cons (pe_callB call_len (by rfl) (T.free 55 rfl) PySem.boot_len (pa_cons (pv 2) pa_nil)) pa_nil))) pa_nil)) pa_nil)))))
 (pss_one (ps_ret (pv 3))))), ?_⟩
    obtain ⟨a, q, xs, rfl, hd, hq, lx, hQ⟩ := h
    refine ⟨_, rfl, q, _, rfl, .inl (sq_of hq), fun l nl _ => ⟨(by show 0 ≤ sizeLine; decide), fun f nf _ => ⟨_, _, rfl, ?_⟩⟩⟩
    have nla : l ≠ a := hd.ne_new nl
    have nf' : H f = none := fresh_up (same_new nl) nf
    have nfa : f ≠ a := hd.ne_new nf'
    have nlf : l ≠ f := fun z => by
      rw [← z, upd_same] at nf
      cases nf
    obtain ⟨c, cs, ce, nca, hc⟩ := hd.cells
    have ncl : c ≠ l := fun z => by
      rw [z, nl] at hc
      cases hc
    have ncf : c ≠ f := fun z => by
      rw [z, nf'] at hc
      cases hc
    have M0 : MX H a l f c (xs.map V.str) ([].map V.str) (upd (upd H l (.lst (xs.map V.str))) f (.lst [])) := by
      obtain ⟨h1, h2⟩ := hd.put (o := .lst (xs.map V.str)) ce ncl nla
      obtain ⟨h3, h4⟩ := h1.put (o := .lst []) h2 ncf nfa
      refine ⟨h3, h4, fun b o e => ?_, by rw [upd_ne nlf, upd_same], upd_same⟩
      have e2 := same_delH _ _ e
      rw [delH_ne (ne_of_none e2 nf'), delH_ne (ne_of_none e2 nl)]
      by_cases z : b = a
      · rw [z, delH_same] at e
        cases e
      · rw [delH_ne z, upd_ne (ne_of_none e2 nf'), upd_ne (ne_of_none e2 nl)]
        exact e2
    refine ⟨fun m σ H' => ∃ ls gs : List Str, σ = [some (.ref a), some (.ref q), some (.ref l), some (.ref f)] ∧ MX H a l f c (ls.map V.str) (gs.map V.str) H' ∧ (ls ++ gs).Perm xs ∧ m = ls.length, ⟨_, xs, [], rfl, M0, by rw [List.append_nil], rfl⟩, ?_⟩
    rintro m σ H1 ⟨ls, gs, rfl, M, pm, rfl⟩
    have pl := pm.length_eq
    rw [List.length_append] at pl
    refine ⟨_, rfl, _, _, rfl, .inl ⟨_, sq_of M.il, rfl⟩, _, _, rfl, rfl, _, rfl, ?_⟩
    rw [List.length_map]
    by_cases e0 : ls = []
    · subst e0
      refine iteF ?_
      refine ⟨_, rfl, hQ H1 f gs ⟨M.hd, M.ce.trans ce.symm, fun b o e => ?_⟩ nfa (by simpa using pm) M.ig⟩
      exact same_delH _ _ (same_delH _ _ (M.sm _ _ e))
    have l0 : 0 < ls.length := List.length_pos_iff.mpr e0
    rw [decide_eq_true (by omega : (0 : Int) < (ls.length : Int))]
    refine iteT ⟨fun σ' H' => ∃ m', m' < ls.length ∧ ∃ ls gs : List Str, σ' = [some (.ref a), some (.ref q), some (.ref l), some (.ref f)] ∧ MX H a l f c (ls.map V.str) (gs.map V.str) H' ∧ (ls ++ gs).Perm xs ∧ m' = ls.length, fun _ _ h => h, ?_⟩
    refine ⟨_, rfl, .inl ⟨rfl, _, sq_of M.ig⟩, _, rfl, .inl ⟨rfl, _, sq_of M.il⟩, _, rfl, _, rfl, _, _, rfl, .inl ⟨_, sq_of M.il, rfl⟩, a, _, rfl, M.hd, by rw [List.length_map]; omega, by rw [List.length_map]; omega, fun H2 r g1 g2 g3 r0 r1 => ?_⟩
    rw [List.length_map] at r1
    obtain ⟨j, rfl⟩ := Int.eq_ofNat_of_zero_le r0
    have hj : j < ls.length := by omega
    have M2 := M.draw nla nfa g1 g2 g3
    refine ⟨l, _, _, j, .str ls[j], rfl, rfl, M2.il, by omega, by omega, ?_, by rw [List.getElem?_map, List.getElem?_eq_getElem hj]; rfl, ?_⟩
    · rw [PySem.seqIndex_of (by omega) (by rw [List.length_map]; omega)]
      rfl
    have ej : (ls.map V.str).eraseIdx j = (ls.eraseIdx j).map V.str := by
      rw [er_map]
    rw [ej]
    have M3 := M2.left (zs := (ls.eraseIdx j).map V.str) nla nlf ncl
    generalize upd H2 l (.lst ((ls.eraseIdx j).map V.str)) = H3 at M3 ⊢
    refine ⟨f, _, _, rfl, rfl, M3.ig, Nat.lt_of_lt_of_le (by rw [List.length_map]; omega : _ < 1000) (by rw [sizeLine_eq]; omega), ?_⟩
    have M4 := M3.found (zs := (gs ++ [ls[j]]).map V.str) nfa nlf ncf
    rw [List.map_append] at M4
    have le := List.length_eraseIdx_of_lt hj
    refine ⟨(ls.eraseIdx j).length, by omega, ls.eraseIdx j, gs ++ [ls[j]], rfl, by rw [List.map_append]; exact M4, ?_, rfl⟩
    have p1 : (ls[j] :: ls.eraseIdx j).Perm ls := er_perm ls j hj
    refine List.Perm.trans ?_ pm
    refine List.Perm.trans ?_ (List.Perm.append_right gs p1)
    rw [← List.append_assoc]
    exact List.perm_append_comm.trans (by rw [List.singleton_append, List.cons_append])
end
end K37
namespace K37
open PySem PySem.Spec PyProof.Rows L2 V1 V2 V3
open Evl (pss_cut tCut sq_of st_of)
def words8 : List Str := ["", "a", "b", "no", "yes", "~", Txt.mul "z" 40, " "]
/-- words, ascending -/
structure KindL (zs : List Str) : Prop where
  l1 : 2 ≤ zs.length
  l2 : zs.length ≤ 4
  mem : ∀ z ∈ zs, z ∈ words8
  up : ∀ (i : Nat) (h : i + 1 < zs.length), zs[i].cps.toList < zs[i + 1].cps.toList
theorem words8_ok : words8.Nodup ∧ (∀ z ∈ words8, wordX z = true) ∧ words8.length = 8 := by decide +kernel
theorem str_ext {x y : Str} (h : x.cps.toList = y.cps.toList) : x = y := by
  cases x
  cases y
  simp only [Array.toList_inj] at h
  rw [h]
theorem up_of : ∀ (x : Str) (r : List Str), risingS x r = true → (x :: r).Nodup → ∀ (i : Nat) (h : i + 1 < (x :: r).length), (x :: r)[i].cps.toList < (x :: r)[i + 1].cps.toList
  | x, [], _, _, i, h => absurd h (by simp)
  | x, y :: r, hr, nd, i, h => by
    have z : (!ltCps y.cps.toList x.cps.toList) = true ∧ risingS y r = true := by simpa [risingS] using hr
    cases i with
    | zero =>
      show x.cps.toList < y.cps.toList
      have n1 : ¬ y.cps.toList < x.cps.toList := by
        intro lt
        have z1 := z.1
        rw [PyProof.Rows.ltCps_eq, decide_eq_true lt] at z1
        cases z1
      refine Classical.byContradiction fun n2 => ?_
      have e : x.cps.toList = y.cps.toList := List.le_antisymm n1 n2
      have := (List.nodup_cons.mp nd).1
      exact this (by rw [str_ext e]; exact List.mem_cons_self)
    | succ i => exact up_of y r z.2 (List.nodup_cons.mp nd).2 i (by simpa using h)
theorem kindD_of {zs : List Str} (k : KindL zs) : kindD (.tuple (zs.map .str)) = true := by
  show ((decide (2 ≤ (zs.map PyData.str).length) && decide ((zs.map PyData.str).length ≤ 4)) && ((zs.map PyData.str).all wordD && upD (zs.map PyData.str))) = true
  have h1 := k.l1
  have h2 := k.l2
  rw [List.length_map, decide_eq_true h1, decide_eq_true h2, Bool.true_and, Bool.true_and, Bool.and_eq_true]
  refine ⟨?_, ?_⟩
  · rw [List.all_map]
    exact List.all_eq_true.mpr fun z hz => words8_ok.2.1 z (k.mem z hz)
  · unfold upD
    rw [List.length_map]
    refine List.all_eq_true.mpr fun i hi => ?_
    have hi' := List.mem_range.mp hi
    have g : ∀ j (h : j < zs.length), (zs.map PyData.str).getD j .none = .str zs[j] := fun j h => by simp [List.getD, h]
    rw [g i (by omega), g (i + 1) (by omega)]
    exact decide_eq_true (k.up i (by omega))
def spLKind : Sp := fun vs H Q _ => ∃ a, vs = [.ref a] ∧ HandAt H a ∧ ∀ H' p (zs : List Str), Go a H H' → H' p = some (.tup (zs.map V.str)) → KindL zs → Q (.ref p) H'
def deepT : Nat → PyData
  | 0 => .tuple []
  | n + 1 => .tuple [deepT n]
def spDeep [CurK] : Sp := fun vs H Q _ => ∃ n : Nat, vs = [.int (n : Nat)] ∧ n ≤ 40 ∧ ∀ v H', Same H H' → Dx (newH H H') v (deepT n) → Q v H'
def spLRows : Sp := fun vs H Q _ => ∃ (w : Int) (n : Nat), vs = [.int (n : Nat), .int w] ∧ 0 ≤ w ∧ w ≤ 1000 ∧ n ≤ 1000 ∧ ∀ H', Same H H' → Q (.int (rowsN w n).1) H'
theorem scLKind : FnScope ["purse", "some"] ["purse"] (defScope s__law_kind) := ⟨rfl, rfl, rfl, by decide +kernel, rfl, by decide +kernel, by decide +kernel⟩
theorem scDeep : FnScope ["many", "thing", "again"] ["many"] (defScope s__law_deep) := ⟨rfl, rfl, rfl, by decide +kernel, rfl, by decide +kernel, by decide +kernel⟩
theorem scLRows : FnScope ["words", "size", "turn", "total", "row"] ["words", "size"] (defScope s__law_rows) := ⟨rfl, rfl, rfl, by decide +kernel, rfl, by decide +kernel, by decide +kernel⟩
section
variable [CurK] {P : Program} {w : World} {mg : Str → Option Value} {base : Heap}
theorem ok_lkind (T : Tx K mg) : Has P w K mg base CX0 3 "_law_kind" ["purse"] spLKind := by
  obtain ⟨fd, F⟩ := T.c.def_ 22 (d := d__law_kind) rfl
  have Hm := ok_mixed (P := P) (w := w) (base := base) T
  have Hd := ok_draw (P := P) (w := w) (base := base) T
  refine ⟨fd, F.ok scLKind (fun vs H Q E h => ?_) (fun cdv A outer s H vs Q E hr h => ?_), FunD.bindsN F fun _ _ _ _ _ _ us hl => match us, hl with | [_], _ => rfl, F.kp, (T.glo 39 rfl)⟩
  · obtain ⟨a, rfl, _⟩ := h
    rfl
  · refine ⟨_, PSs.nox (pss_cons (ps_set (i := 1) scLKind.nd rfl (Or.inl rfl) (pe_has Hm (hr.mono (by decide)) pass0 (pa_cons (pv 0) (pa_cons (pe_lstS (pa_cons pe_str (pa_cons pe_str (pa_cons pe_str (pa_cons pe_str (pa_cons pe_str (pa_cons pe_str (pa_cons (pe_op V4.op_mulS pe_str pe_int) (pa_cons pe_str pa_nil))))))))) pa_nil))))
 (pss_one (ps_ret (pe_callTy call_tuple_of (by rfl) (T.free 63 rfl) (by decide +kernel) (pa_cons (pe_callB cr_sortedS (by rfl) (T.free 61 rfl) (by decide +kernel) (pa_cons (pe_slice sl_list (pv 1) po_none (po_some (pe_op op_add pe_int (pe_has Hd (hr.mono (by decide)) pass0 (pa_cons (pv 0) (pa_cons pe_int pa_nil)))))) pa_nil)) pa_nil))))), ?_⟩
    obtain ⟨a, rfl, hd, hQ⟩ := h
    refine ⟨_, rfl, _, _, rfl, rfl, by decide, by decide, by decide, (by show 8 ≤ sizeLine; decide), fun q nq _ => ?_⟩
    have s1 := same_new (o := HO.lst (words8.map V.str)) nq
    have hd1 := hand_same hd s1
    have g1 := Go.new hd s1
    have e1 : upd H q (.lst (words8.map V.str)) q = some (.lst (words8.map V.str)) := upd_same
    refine ⟨a, q, words8, rfl, hd1, e1, (by decide), fun H2 f ys g2 nf pm e2 => ?_⟩
    refine ⟨_, rfl, _, rfl, a, 3, rfl, g2.hd, by decide, by decide, fun H3 r h1 h2 h3 r0 r1 => ⟨2, r, rfl, rfl, _, rfl, ?_⟩⟩
    have g3 := (g1.trans g2).trans (Go.draw h1 h2 h3)
    have e3 : H3 f = some (.lst (ys.map V.str)) := by
      have z := congrFun h2 f
      rw [delH_ne nf, delH_ne nf] at z
      exact z.trans e2
    refine ⟨f, _, rfl, sq_of e3, fun p np => ?_⟩
    obtain ⟨j, rfl⟩ := Int.eq_ofNat_of_zero_le r0
    have cut : cutV (ys.map V.str) none (some (2 + (j : Int))) = (ys.take (2 + j)).map V.str := by
      unfold cutV
      rw [show (2 + (j : Int)) = ((2 + j : Nat) : Int) by omega, HT.sIx_nat, HT.sIx_none, List.length_map]
      simp [List.map_take, Nat.min_comm]
    rw [cut]
    have s4 := same_new (o := HO.lst ((ys.take (2 + j)).map V.str)) np
    have g4 := g3.trans (Go.new g3.hd s4)
    have e4 : upd H3 p (HO.lst ((ys.take (2 + j)).map V.str)) p = some (.lst ((ys.take (2 + j)).map V.str)) := upd_same
    generalize upd H3 p (HO.lst ((ys.take (2 + j)).map V.str)) = H4 at g4 e4
    have ly : ys.length = 8 := by rw [pm.length_eq]; decide
    refine ⟨p, ys.take (2 + j), rfl, sq_of e4, by rw [List.length_take]; omega, fun zs p2 pm2 so np2 => ?_⟩
    have s5 := same_new (o := HO.lst (zs.map V.str)) np2
    refine ⟨p2, _, rfl, .inl ⟨sq_of upd_same, fun p3 np3 => ?_⟩⟩
    have g6 := (g4.trans (Go.new g4.hd s5)).trans (Go.new (Go.new g4.hd s5).hd (same_new (o := HO.tup (zs.map V.str)) np3))
    have sub : ∀ z ∈ zs, z ∈ words8 := fun z hz => pm.mem_iff.mp (List.mem_of_mem_take (pm2.mem_iff.mp hz))
    have nd : zs.Nodup := (pm2.nodup_iff).mpr (((pm.nodup_iff).mpr words8_ok.1).sublist (List.take_sublist _ _))
    have lz : zs.length = 2 + j := by rw [pm2.length_eq, List.length_take]; omega
    refine hQ _ p3 zs g6 upd_same ⟨by omega, by omega, sub, fun i h => ?_⟩
    match zs, so, nd, h with
    | x :: r, so, nd, h => exact up_of x r so nd i h
theorem ok_deep (T : Tx K mg) : Has P w K mg base CX0 1 "_law_deep" ["many"] spDeep := by
  obtain ⟨fd, F⟩ := T.c.def_ 24 (d := d__law_deep) rfl
  refine ⟨fd, F.ok scDeep (fun vs H Q E h => ?_) (fun cdv A outer s H vs Q E hr h => ?_), FunD.bindsN F fun _ _ _ _ _ _ us hl => match us, hl with | [_], _ => rfl, F.kp, (T.glo 41 rfl)⟩
  · obtain ⟨n, rfl, _⟩ := h
    rfl
  · refine ⟨_, PSs.nox (pss_cons (ps_set (i := 1) scDeep.nd rfl (Or.inl rfl) (pe_tup pa_nil))
 (pss_cons (ps_for PassesOwn.never rfl (pi_range1 (by rfl) (T.free 58 rfl) (pa_cons (pv 0) pa_nil)) (pg_name (i := 2) scDeep.nd rfl (Or.inl rfl))
 (pss_one (ps_set (i := 1) scDeep.nd rfl (Or.inl rfl) (pe_tup (pa_cons (pv 1) pa_nil)))))
 (pss_one (ps_ret (pv 1))))), ?_⟩
    obtain ⟨n, rfl, hn, hQ⟩ := h
    refine ⟨(by show 0 ≤ sizeLine; decide), fun p np => ?_⟩
    have s1 := same_new (o := HO.tup []) np
    have d0 : Dx (newH H (upd H p (.tup []))) (.ref p) (deepT 0) := .tup (by rw [newH_at np, upd_same]) .nil
    generalize upd H p (HO.tup []) = H1 at s1 d0
    refine ⟨_, rfl, n, rfl, by omega, by omega, ?_⟩
    rw [Int.toNat_natCast]
    refine for_it (walk_range (lo := 0) (n := n)) (fun i σ H' => Same H H' ∧ ∃ v o, σ = [some (.int (n : Nat)), some v, o] ∧ Dx (newH H H') v (deepT i)) ⟨s1, _, _, rfl, d0⟩ (fun _ _ _ _ _ => True.intro) ?_ ?_
    · rintro i x σ H2 H3 hi ⟨s2, v, o, rfl, d2⟩ ⟨rfl, rfl⟩
      refine ⟨_, rfl, (by show 1 ≤ sizeLine; decide), fun q nq => ?_⟩
      have nq0 := fresh_up s2 nq
      refine ⟨s2.trans (same_new nq), _, _, rfl, .tup (by rw [newH_at nq0, upd_same]) (.cons (Dx.same (newH_up (same_new nq)) _ _ d2) .nil)⟩
    · rintro σ H2 ⟨s2, v, o, rfl, d2⟩
      exact ⟨_, rfl, hQ v H2 s2 d2⟩
theorem ok_lrows (T : Tx K mg) : Has P w K mg base CX0 1 "_law_rows" ["words", "size"] spLRows := by
  obtain ⟨fd, F⟩ := T.c.def_ 28 (d := d__law_rows) rfl
  refine ⟨fd, F.ok scLRows (fun vs H Q E h => ?_) (fun cdv A outer s H vs Q E hr h => ?_), FunD.bindsN F fun _ _ _ _ _ _ us hl => match us, hl with | [_, _], _ => rfl, F.kp, (T.glo 45 rfl)⟩
  · obtain ⟨w, n, rfl, _⟩ := h
    rfl
  · refine ⟨_, PSs.nox (pss_cons (ps_asg (pe_tup (pa_cons pe_int (pa_cons pe_int pa_nil))) (pg_tup (by rfl) (pgs_cons (pg_name (i := 3) scLRows.nd rfl (Or.inl rfl)) (pgs_cons (pg_name (i := 4) scLRows.nd rfl (Or.inl rfl)) pgs_nil))))
 (pss_cons (ps_for PassesOwn.never rfl (pi_range1 (by rfl) (T.free 58 rfl) (pa_cons (pv 0) pa_nil)) (pg_name (i := 2) scLRows.nd rfl (Or.inl rfl))
 (pss_one (ps_par (i := 3) (j := 4) rfl scLRows.nd rfl rfl (by decide) rfl rfl (pa_cons (pe_op op_add (pv 3) (pv 4)) (pa_cons (pe_op op_mul (pv 4) (pv 1)) pa_nil)) (by rfl))))
 (pss_one (ps_ret (pv 3))))), ?_⟩
    obtain ⟨w, n, rfl, w0, w1, hn, hQ⟩ := h
    refine ⟨(by show 2 ≤ sizeLine; decide), fun p np => ?_⟩
    have s1 := same_new (o := HO.tup [V.int 0, V.int 1]) np
    refine ⟨p, _, rfl, st_of upd_same, rfl, _, _, rfl, _, _, rfl, rfl, ?_⟩
    generalize upd H p (HO.tup [V.int 0, V.int 1]) = H0 at s1 ⊢
    refine ⟨_, rfl, n, rfl, by omega, by omega, ?_⟩
    rw [Int.toNat_natCast]
    refine for_it (walk_range (lo := 0) (n := n)) (fun i σ H' => H' = H0 ∧ ∃ o, σ = [some (.int (n : Nat)), some (.int w), o, some (.int (rowsN w i).1), some (.int (rowsN w i).2)]) ⟨rfl, _, rfl⟩ (fun _ _ _ _ _ => True.intro) ?_ ?_
    · rintro i x σ H1 H2 hi ⟨rfl, o, rfl⟩ ⟨rfl, rfl⟩
      exact ⟨_, rfl, _, rfl, _, _, rfl, rfl, _, rfl, _, rfl, _, _, rfl, rfl, .inr ⟨by omega, by omega⟩, _, _, rfl, rfl, _, rfl⟩
    · rintro σ H1 ⟨rfl, o, rfl⟩
      exact ⟨_, rfl, hQ _ s1⟩
end
end K37

set_option maxHeartbeats 4000000
namespace K37
open PySem PySem.Spec PyProof.Rows L2 V1 V2 V3
open Evl (pss_cut tCut sq_of st_of)
open V4 (Shw shw_of shw_tup shw_lst noOb shwB good_tupN good_lstN)
/-- an order of two houses -/
structure OrdL (os : List Int) : Prop where
  l1 : 1 ≤ os.length
  l2 : os.length ≤ 40
  ok : ∀ x ∈ os, 0 ≤ x ∧ x < 2
theorem orderD_of {os : List Int} (h : OrdL os) : orderD 2 (.tuple (os.map .int)) = true := by
  show (decide (1 ≤ (os.map PyData.int).length) && (decide ((os.map PyData.int).length ≤ 40) && (os.map PyData.int).all (fromTo 0 (2 - 1)))) = true
  rw [List.length_map, decide_eq_true h.l1, decide_eq_true h.l2, Bool.true_and, Bool.true_and, List.all_map]
  refine List.all_eq_true.mpr fun x hx => ?_
  have z := h.ok x hx
  show (decide (0 ≤ x) && decide (x ≤ 2 - 1)) = true
  rw [decide_eq_true z.1, decide_eq_true (by omega)]
  rfl
theorem ords_gd {os : List Int} (h : OrdL os) : ∀ d ∈ os.map PyData.int, noOb d = true ∧ Good d 0 10 := by
  intro d hd
  obtain ⟨x, hx, rfl⟩ := List.mem_map.mp hd
  have z := h.ok x hx
  exact ⟨rfl, (good_int z.1 (by omega)).mono (Nat.le_refl _) (by decide)⟩
theorem words_gd {zs : List Str} (h : KindL zs) : ∀ d ∈ zs.map PyData.str, noOb d = true ∧ Good d 0 200 := by
  intro d hd
  obtain ⟨x, hx, rfl⟩ := List.mem_map.mp hd
  have z : ∀ y ∈ words8, (PyData.str y).showable = true ∧ (PyData.str y).depth ≤ 0 ∧ (PyData.str y).shown.length ≤ 200 := by decide +kernel
  have q := z x (h.mem x hx)
  exact ⟨rfl, q.1, q.2.1, q.2.2⟩
section
variable [CurK] {σ : L2.St}
theorem mkx_deep (k : Nat) (h : k ≤ 40) : MkX (tCall spDeep [] (fun _ _ _ => False) (tCons (tC (.int ((k : Nat) : Int))) tNil)) σ (deepT k) := fun H Q q => ⟨k, rfl, h, fun v H' s d => q v H' s d⟩
def menuO1 (os : List Int) : List PyData := [.tuple [], .list (os.map PyData.int), .tuple ((os.map PyData.int) ++ [.int 2]), .tuple ([.int (-1)] ++ (os.map PyData.int)), .tuple (((os.map PyData.int).take 39) ++ [.bool true]), .none, .int 0, .str (Str.ofString "0"), .dict [], .tuple (List.replicate 41 [.int 0]).flatten, .tuple [.none]]
def menuO2 (os : List Int) : List PyData := [deepT 30, .tuple [.str (Str.ofString "0")], .tuple [.tuple (os.map PyData.int)], .tuple [.int (10 ^ 19)], .tuple [.bool false], .list [.int 0, .int 1], .dict [(.int 0, .int 1)], .tuple (List.replicate 41 (os.map PyData.int)).flatten]
def menuK1 (zs : List Str) : List PyData := [.list (zs.map PyData.str), .tuple ((zs.map PyData.str).take 1), .tuple [], .tuple ((zs.map PyData.str) ++ (zs.map PyData.str)), .tuple (zs.map PyData.str).reverse, .tuple (List.replicate 2 ((zs.map PyData.str).take 1)).flatten, .tuple [.str (Str.ofString "a"), .str (Txt.mul (Str.ofString "z") 41)], .tuple [.str (Str.ofString "a"), .int 5], .tuple [.str (Str.ofString "a"), .none]]
def menuK2 (zs : List Str) : List PyData := [.tuple [.str (Str.ofString "a"), .str (Str.ofString "b"), .str (Str.ofString "c"), .str (Str.ofString "d"), .str (Str.ofString "e")], .none, .int 0, .str (Str.ofString "ab"), .dict [(.str (Str.ofString "a"), .str (Str.ofString "b"))], .tuple [.str (Str.ofString "a"), .tuple [.str (Str.ofString "b")]], .tuple [.str (Str.ofString "a"), .str (Str.ofString "b\n")], .bool true]
def menuK3 : List PyData := [deepT 30, .tuple [deepT 20, .str (Str.ofString "a")], .tuple [.str (Str.ofString "b"), .str (Str.ofString "a")], .list [.str (Str.ofString "a"), .str (Str.ofString "b")], .tuple [.str (Str.ofString "a"), .bool true]]
def menuN : List PyData := [.int (-1), .int 9, .bool true, .bool false, .none, .str (Str.ofString "1"), .tuple [.int 1], .list [], .dict [], .int (10 ^ 19), deepT 30]
def teO1 : TE := (tLstS (tCons (tTup tNil) (tCons (tCB (fun xs H Q => ∃ p ys, xs = [.ref p] ∧ (SqL K H p ys ∨ SqT K H p ys) ∧ ∀ l, H l = none → (l == sysModules) = false → Q (.ref l) (upd H l (.lst ys))) (tCons (tVar 1) tNil)) (tCons (tOp (rCatT K) (tVar 1) (tTup (tCons (tC (.int 2)) tNil))) (tCons (tOp (rCatT K) (tTup (tCons (tUn (rU fun i => V.int (-i)) (tC (.int 1))) tNil)) (tVar 1)) (tCons (tOp (rCatT K) (tSl (rSlA K) (tVar 1) tNoPart (tPart (tC (.int 39)))) (tTup (tCons (tC (.bl true)) tNil))) (tCons (tC .non) (tCons (tC (.int 0)) (tCons (tC (.str (Str.ofString "0"))) (tCons tDNewK (tCons (tOp (rRepT K) (tTup (tCons (tC (.int 0)) tNil)) (tC (.int 41))) (tCons (tTup (tCons (tC .non) tNil)) tNil))))))))))))
def teO2 : TE := (tLstS (tCons (tCall spDeep [] (fun _ _ _ => False) (tCons (tC (.int 30)) tNil)) (tCons (tTup (tCons (tC (.str (Str.ofString "0"))) tNil)) (tCons (tTup (tCons (tVar 1) tNil)) (tCons (tTup (tCons (tOp (rI CPow fun i j => V.int (i ^ j.toNat)) (tC (.int 10)) (tC (.int 19))) tNil)) (tCons (tTup (tCons (tC (.bl false)) tNil)) (tCons (tLstS (tCons (tC (.int 0)) (tCons (tC (.int 1)) tNil))) (tCons (tDisp [(tC (.int 0), tC (.int 1))]) (tCons (tOp (rRepT K) (tVar 1) (tC (.int 41))) tNil)))))))))
def teK1 : TE := (tLstS (tCons (tCB (fun xs H Q => ∃ p ys, xs = [.ref p] ∧ (SqL K H p ys ∨ SqT K H p ys) ∧ ∀ l, H l = none → (l == sysModules) = false → Q (.ref l) (upd H l (.lst ys))) (tCons (tVar 1) tNil)) (tCons (tSl (rSlA K) (tVar 1) tNoPart (tPart (tC (.int 1)))) (tCons (tTup tNil) (tCons (tOp (rCatT K) (tVar 1) (tVar 1)) (tCons (V4.tBackT K (tVar 1)) (tCons (tOp (rRepT K) (tSl (rSlA K) (tVar 1) tNoPart (tPart (tC (.int 1)))) (tC (.int 2))) (tCons (tTup (tCons (tC (.str (Str.ofString "a"))) (tCons (tOp V4.rMulS (tC (.str (Str.ofString "z"))) (tC (.int 41))) tNil))) (tCons (tTup (tCons (tC (.str (Str.ofString "a"))) (tCons (tC (.int 5)) tNil))) (tCons (tTup (tCons (tC (.str (Str.ofString "a"))) (tCons (tC .non) tNil))) tNil))))))))))
def teK2 : TE := (tLstS (tCons (tTup (tCons (tC (.str (Str.ofString "a"))) (tCons (tC (.str (Str.ofString "b"))) (tCons (tC (.str (Str.ofString "c"))) (tCons (tC (.str (Str.ofString "d"))) (tCons (tC (.str (Str.ofString "e"))) tNil)))))) (tCons (tC .non) (tCons (tC (.int 0)) (tCons (tC (.str (Str.ofString "ab"))) (tCons (tDisp [(tC (.str (Str.ofString "a")), tC (.str (Str.ofString "b")))]) (tCons (tTup (tCons (tC (.str (Str.ofString "a"))) (tCons (tTup (tCons (tC (.str (Str.ofString "b"))) tNil)) tNil))) (tCons (tTup (tCons (tC (.str (Str.ofString "a"))) (tCons (tC (.str (Str.ofString "b\n"))) tNil))) (tCons (tC (.bl true)) tNil)))))))))
def teK3 : TE := (tLstS (tCons (tCall spDeep [] (fun _ _ _ => False) (tCons (tC (.int 30)) tNil)) (tCons (tTup (tCons (tCall spDeep [] (fun _ _ _ => False) (tCons (tC (.int 20)) tNil)) (tCons (tC (.str (Str.ofString "a"))) tNil))) (tCons (tTup (tCons (tC (.str (Str.ofString "b"))) (tCons (tC (.str (Str.ofString "a"))) tNil))) (tCons (tLstS (tCons (tC (.str (Str.ofString "a"))) (tCons (tC (.str (Str.ofString "b"))) tNil))) (tCons (tTup (tCons (tC (.str (Str.ofString "a"))) (tCons (tC (.bl true)) tNil))) tNil))))))
def teN : TE := (tLstS (tCons (tUn (rU fun i => V.int (-i)) (tC (.int 1))) (tCons (tC (.int 9)) (tCons (tC (.bl true)) (tCons (tC (.bl false)) (tCons (tC .non) (tCons (tC (.str (Str.ofString "1"))) (tCons (tTup (tCons (tC (.int 1)) tNil)) (tCons (tLstS tNil) (tCons tDNewK (tCons (tOp (rI CPow fun i j => V.int (i ^ j.toNat)) (tC (.int 10)) (tC (.int 19))) (tCons (tCall spDeep [] (fun _ _ _ => False) (tCons (tC (.int 30)) tNil)) tNil))))))))))))
variable {H0 : Hp} {a : Addr}
theorem mk_o1 {os : List Int} {v : V} {τ : L2.St} (ha : Held H0 a) (l1 : 1 ≤ os.length) (l2 : os.length ≤ 40) (ho : Dx (delH H0 a) v (.tuple (os.map .int))) : MkY H0 a teO1 (some (.ref a) :: some v :: τ) (.list (menuO1 os)) := by
  have ne : os.map PyData.int ≠ [] := by intro z; rw [← List.length_map (f := PyData.int), z] at l1; simp at l1
  have ne2 : (os.map PyData.int).take 39 ≠ [] := by intro z; have q := congrArg List.length z; rw [List.length_take, List.length_map, List.length_nil] at q; omega
  exact V4.mky_lst ha (V4.mkya_cons (V4.mky_tup ha V4.mkya_nil (Nat.zero_le _)) (V4.mkya_cons (V4.mky_listof ha (V4.mky_var ho rfl)) (V4.mkya_cons (V4.mky_cat ha (V4.mky_var ho rfl) (V4.mky_tup ha (V4.mkya_cons (V4.mky_of ha (mkx_of (mkn_int 2))) V4.mkya_nil) (by show 1 ≤ 1000; decide)) (by first | assumption | simp) (by first | assumption | simp) (by simp only [List.length_append, List.length_map, List.length_cons, List.length_nil, List.length_take, List.length_reverse]; omega)) (V4.mkya_cons (V4.mky_cat ha (V4.mky_tup ha (V4.mkya_cons (V4.mky_of ha (V4.mkx_neg 1)) V4.mkya_nil) (by show 1 ≤ 1000; decide)) (V4.mky_var ho rfl) (by first | assumption | simp) (by first | assumption | simp) (by simp only [List.length_append, List.length_map, List.length_cons, List.length_nil, List.length_take, List.length_reverse]; omega)) (V4.mkya_cons (V4.mky_cat ha ((V4.cutD_take (k := 39) ▸ V4.mky_cut (lo := none) (hi := some (39 : Int)) ha (V4.mky_var ho rfl) (fun _ _ q => q) (fun _ _ q => ⟨_, rfl, q⟩))) (V4.mky_tup ha (V4.mkya_cons (V4.mky_of ha (mkx_of (mkn_bl true))) V4.mkya_nil) (by show 1 ≤ 1000; decide)) (by first | assumption | simp) (by first | assumption | simp) (by simp only [List.length_append, List.length_map, List.length_cons, List.length_nil, List.length_take, List.length_reverse]; omega)) (V4.mkya_cons (V4.mky_of ha (mkx_of mkn_non)) (V4.mkya_cons (V4.mky_of ha (mkx_of (mkn_int 0))) (V4.mkya_cons (V4.mky_of ha (mkx_of (mkn_str _))) (V4.mkya_cons (V4.mky_of ha (mkx_of mkn_dict0)) (V4.mkya_cons (V4.mky_rep (n := 41) ha (V4.mky_tup ha (V4.mkya_cons (V4.mky_of ha (mkx_of (mkn_int 0))) V4.mkya_nil) (by show 1 ≤ 1000; decide)) (by first | assumption | simp) (by decide) (by decide) (by simp only [List.length_append, List.length_map, List.length_cons, List.length_nil, List.length_take, List.length_reverse]; omega)) (V4.mkya_cons (V4.mky_tup ha (V4.mkya_cons (V4.mky_of ha (mkx_of mkn_non)) V4.mkya_nil) (by show 1 ≤ 1000; decide)) V4.mkya_nil))))))))))) (by show 11 ≤ 1000; decide)
theorem mk_o2 {os : List Int} {v : V} {τ : L2.St} (ha : Held H0 a) (l1 : 1 ≤ os.length) (l2 : os.length ≤ 40) (ho : Dx (delH H0 a) v (.tuple (os.map .int))) : MkY H0 a teO2 (some (.ref a) :: some v :: τ) (.list (menuO2 os)) := by
  have ne : os.map PyData.int ≠ [] := by intro z; rw [← List.length_map (f := PyData.int), z] at l1; simp at l1
  exact V4.mky_lst ha (V4.mkya_cons (V4.mky_of ha (mkx_deep 30 (by decide))) (V4.mkya_cons (V4.mky_tup ha (V4.mkya_cons (V4.mky_of ha (mkx_of (mkn_str _))) V4.mkya_nil) (by show 1 ≤ 1000; decide)) (V4.mkya_cons (V4.mky_tup ha (V4.mkya_cons (V4.mky_var ho rfl) V4.mkya_nil) (by show 1 ≤ 1000; decide)) (V4.mkya_cons (V4.mky_tup ha (V4.mkya_cons (V4.mky_of ha V4.mkx_pow19) V4.mkya_nil) (by show 1 ≤ 1000; decide)) (V4.mkya_cons (V4.mky_tup ha (V4.mkya_cons (V4.mky_of ha (mkx_of (mkn_bl false))) V4.mkya_nil) (by show 1 ≤ 1000; decide)) (V4.mkya_cons (V4.mky_lst ha (V4.mkya_cons (V4.mky_of ha (mkx_of (mkn_int 0))) (V4.mkya_cons (V4.mky_of ha (mkx_of (mkn_int 1))) V4.mkya_nil)) (by show 2 ≤ 1000; decide)) (V4.mkya_cons (V4.mky_of ha (V4.mkx_dictI 0 1)) (V4.mkya_cons (V4.mky_rep (n := 41) ha (V4.mky_var ho rfl) (by first | assumption | simp) (by decide) (by decide) (by simp only [List.length_append, List.length_map, List.length_cons, List.length_nil, List.length_take, List.length_reverse]; omega)) V4.mkya_nil)))))))) (by show 8 ≤ 1000; decide)
theorem mk_k1 {zs : List Str} {v : V} {τ : L2.St} (ha : Held H0 a) (l1 : 2 ≤ zs.length) (l2 : zs.length ≤ 4) (hk : Dx (delH H0 a) v (.tuple (zs.map .str))) : MkY H0 a teK1 (some (.ref a) :: some v :: τ) (.list (menuK1 zs)) := by
  have ne : zs.map PyData.str ≠ [] := by intro z; rw [← List.length_map (f := PyData.str), z] at l1; simp at l1
  have ne2 : (zs.map PyData.str).take 1 ≠ [] := by intro z; have q := congrArg List.length z; rw [List.length_take, List.length_map, List.length_nil] at q; omega
  exact V4.mky_lst ha (V4.mkya_cons (V4.mky_listof ha (V4.mky_var hk rfl)) (V4.mkya_cons ((V4.cutD_take (k := 1) ▸ V4.mky_cut (lo := none) (hi := some (1 : Int)) ha (V4.mky_var hk rfl) (fun _ _ q => q) (fun _ _ q => ⟨_, rfl, q⟩))) (V4.mkya_cons (V4.mky_tup ha V4.mkya_nil (Nat.zero_le _)) (V4.mkya_cons (V4.mky_cat ha (V4.mky_var hk rfl) (V4.mky_var hk rfl) (by first | assumption | simp) (by first | assumption | simp) (by simp only [List.length_append, List.length_map, List.length_cons, List.length_nil, List.length_take, List.length_reverse]; omega)) (V4.mkya_cons (V4.mky_back ha (V4.mky_var hk rfl)) (V4.mkya_cons (V4.mky_rep (n := 2) ha ((V4.cutD_take (k := 1) ▸ V4.mky_cut (lo := none) (hi := some (1 : Int)) ha (V4.mky_var hk rfl) (fun _ _ q => q) (fun _ _ q => ⟨_, rfl, q⟩))) (by first | assumption | simp) (by decide) (by decide) (by simp only [List.length_append, List.length_map, List.length_cons, List.length_nil, List.length_take, List.length_reverse]; omega)) (V4.mkya_cons (V4.mky_tup ha (V4.mkya_cons (V4.mky_of ha (mkx_of (mkn_str _))) (V4.mkya_cons (V4.mky_of ha (V4.mkx_mulS _ 41 (by decide) (by decide) (by decide))) V4.mkya_nil)) (by show 2 ≤ 1000; decide)) (V4.mkya_cons (V4.mky_tup ha (V4.mkya_cons (V4.mky_of ha (mkx_of (mkn_str _))) (V4.mkya_cons (V4.mky_of ha (mkx_of (mkn_int 5))) V4.mkya_nil)) (by show 2 ≤ 1000; decide)) (V4.mkya_cons (V4.mky_tup ha (V4.mkya_cons (V4.mky_of ha (mkx_of (mkn_str _))) (V4.mkya_cons (V4.mky_of ha (mkx_of mkn_non)) V4.mkya_nil)) (by show 2 ≤ 1000; decide)) V4.mkya_nil))))))))) (by show 9 ≤ 1000; decide)
theorem mk_k2 {zs : List Str} {v : V} {τ : L2.St} (ha : Held H0 a) (hk : Dx (delH H0 a) v (.tuple (zs.map .str))) : MkY H0 a teK2 (some (.ref a) :: some v :: τ) (.list (menuK2 zs)) := V4.mky_lst ha (V4.mkya_cons (V4.mky_tup ha (V4.mkya_cons (V4.mky_of ha (mkx_of (mkn_str _))) (V4.mkya_cons (V4.mky_of ha (mkx_of (mkn_str _))) (V4.mkya_cons (V4.mky_of ha (mkx_of (mkn_str _))) (V4.mkya_cons (V4.mky_of ha (mkx_of (mkn_str _))) (V4.mkya_cons (V4.mky_of ha (mkx_of (mkn_str _))) V4.mkya_nil))))) (by show 5 ≤ 1000; decide)) (V4.mkya_cons (V4.mky_of ha (mkx_of mkn_non)) (V4.mkya_cons (V4.mky_of ha (mkx_of (mkn_int 0))) (V4.mkya_cons (V4.mky_of ha (mkx_of (mkn_str _))) (V4.mkya_cons (V4.mky_of ha (V4.mkx_dictS _ _)) (V4.mkya_cons (V4.mky_tup ha (V4.mkya_cons (V4.mky_of ha (mkx_of (mkn_str _))) (V4.mkya_cons (V4.mky_tup ha (V4.mkya_cons (V4.mky_of ha (mkx_of (mkn_str _))) V4.mkya_nil) (by show 1 ≤ 1000; decide)) V4.mkya_nil)) (by show 2 ≤ 1000; decide)) (V4.mkya_cons (V4.mky_tup ha (V4.mkya_cons (V4.mky_of ha (mkx_of (mkn_str _))) (V4.mkya_cons (V4.mky_of ha (mkx_of (mkn_str _))) V4.mkya_nil)) (by show 2 ≤ 1000; decide)) (V4.mkya_cons (V4.mky_of ha (mkx_of (mkn_bl true))) V4.mkya_nil)))))))) (by show 8 ≤ 1000; decide)
theorem mk_k3 (ha : Held H0 a) : MkY H0 a teK3 σ (.list menuK3) := V4.mky_lst ha (V4.mkya_cons (V4.mky_of ha (mkx_deep 30 (by decide))) (V4.mkya_cons (V4.mky_tup ha (V4.mkya_cons (V4.mky_of ha (mkx_deep 20 (by decide))) (V4.mkya_cons (V4.mky_of ha (mkx_of (mkn_str _))) V4.mkya_nil)) (by show 2 ≤ 1000; decide)) (V4.mkya_cons (V4.mky_tup ha (V4.mkya_cons (V4.mky_of ha (mkx_of (mkn_str _))) (V4.mkya_cons (V4.mky_of ha (mkx_of (mkn_str _))) V4.mkya_nil)) (by show 2 ≤ 1000; decide)) (V4.mkya_cons (V4.mky_lst ha (V4.mkya_cons (V4.mky_of ha (mkx_of (mkn_str _))) (V4.mkya_cons (V4.mky_of ha (mkx_of (mkn_str _))) V4.mkya_nil)) (by show 2 ≤ 1000; decide)) (V4.mkya_cons (V4.mky_tup ha (V4.mkya_cons (V4.mky_of ha (mkx_of (mkn_str _))) (V4.mkya_cons (V4.mky_of ha (mkx_of (mkn_bl true))) V4.mkya_nil)) (by show 2 ≤ 1000; decide)) V4.mkya_nil))))) (by show 5 ≤ 1000; decide)
theorem mk_n (ha : Held H0 a) : MkY H0 a teN σ (.list menuN) := V4.mky_lst ha (V4.mkya_cons (V4.mky_of ha (V4.mkx_neg 1)) (V4.mkya_cons (V4.mky_of ha (mkx_of (mkn_int 9))) (V4.mkya_cons (V4.mky_of ha (mkx_of (mkn_bl true))) (V4.mkya_cons (V4.mky_of ha (mkx_of (mkn_bl false))) (V4.mkya_cons (V4.mky_of ha (mkx_of mkn_non)) (V4.mkya_cons (V4.mky_of ha (mkx_of (mkn_str _))) (V4.mkya_cons (V4.mky_tup ha (V4.mkya_cons (V4.mky_of ha (mkx_of (mkn_int 1))) V4.mkya_nil) (by show 1 ≤ 1000; decide)) (V4.mkya_cons (V4.mky_lst ha V4.mkya_nil (Nat.zero_le _)) (V4.mkya_cons (V4.mky_of ha (mkx_of mkn_dict0)) (V4.mkya_cons (V4.mky_of ha V4.mkx_pow19) (V4.mkya_cons (V4.mky_of ha (mkx_deep 30 (by decide))) V4.mkya_nil))))))))))) (by show 11 ≤ 1000; decide)
end
end K37

set_option maxHeartbeats 4000000
namespace K37
open PySem PySem.Spec PyProof.Rows L2 V1 V2 V3
open Evl (pss_cut tCut sq_of st_of)
open V4 (Shw shw_of shw_tup shw_lst noOb shwB good_tupN good_lstN)
def gdB (d : PyData) : Bool := noOb d && (d.showable && (decide (d.depth ≤ 0) && decide (d.shown.length ≤ 10)))
theorem gd_of {d : PyData} (h : gdB d = true) : noOb d = true ∧ Good d 0 10 := by
  unfold gdB at h
  simp only [Bool.and_eq_true, decide_eq_true_eq] at h
  exact ⟨h.1, h.2.1, h.2.2.1, h.2.2.2⟩
def shortKB : PyData → Bool
  | .tuple ds => ds.all fun d => match d with
    | .str x => decide (x.length ≤ 10000)
    | _ => true
  | _ => true
theorem shortK_of {d : PyData} (h : shortKB d = true) : shortK d := by
  cases d with
  | tuple ds =>
    intro e he
    have z := List.all_eq_true.mp h e he
    cases e with
    | str x => exact of_decide_eq_true (p := x.length ≤ 10000) z
    | _ => trivial
  | _ => trivial
theorem orderD_bad {ds : List PyData} {d : PyData} (m : d ∈ ds) (h : fromTo 0 (2 - 1) d = false) : orderD 2 (.tuple ds) = false := by
  refine Bool.eq_false_iff.mpr fun z => ?_
  unfold orderD at z
  simp only [Bool.and_eq_true, List.all_eq_true] at z
  rw [z.2.2 d m] at h
  cases h
theorem orderD_long {ds : List PyData} (h : 40 < ds.length) : orderD 2 (.tuple ds) = false := by
  refine Bool.eq_false_iff.mpr fun z => ?_
  unfold orderD at z
  simp only [Bool.and_eq_true, decide_eq_true_eq] at z
  omega
theorem kindD_len {ds : List PyData} (h : ds.length < 2 ∨ 4 < ds.length) : kindD (.tuple ds) = false := by
  refine Bool.eq_false_iff.mpr fun z => ?_
  unfold kindD at z
  simp only [Bool.and_eq_true, decide_eq_true_eq] at z
  omega
theorem kindD_bad {ds : List PyData} {x y : Str} (i : Nat) (h : i + 1 < ds.length) (e1 : ds.getD i .none = .str x) (e2 : ds.getD (i + 1) .none = .str y) (n : ¬ x.cps.toList < y.cps.toList) : kindD (.tuple ds) = false := by
  refine Bool.eq_false_iff.mpr fun z => ?_
  unfold kindD at z
  simp only [Bool.and_eq_true] at z
  have u := z.2.2
  unfold upD at u
  have v := List.all_eq_true.mp u i (List.mem_range.mpr (by omega))
  rw [e1, e2] at v
  exact n (of_decide_eq_true v)
theorem getD_map {zs : List Str} {i : Nat} (h : i < zs.length) : (zs.map PyData.str).getD i .none = .str zs[i] := by simp [List.getD, h]
theorem cps_asymm {x y : List Nat} (h : x < y) : ¬ y < x := fun h2 => List.lt_irrefl x (List.lt_trans h h2)
structure BadO (d : PyData) : Prop where
  no : orderD 2 d = false
  sh : Shw d
structure BadK (d : PyData) : Prop where
  no : kindD d = false
  st : shortK d
  sh : Shw d
structure BadN (d : PyData) : Prop where
  no : fromTo 0 8 d = false
  sh : Shw d
theorem rep_len {α : Type} : ∀ (n : Nat) (l : List α), ((List.replicate n l).flatten).length = n * l.length
  | 0, l => by simp
  | n + 1, l => by
    rw [List.replicate_succ, List.flatten_cons, List.length_append, rep_len n l, Nat.succ_mul, Nat.add_comm]
theorem badO1 {os : List Int} (h : OrdL os) : ∀ d ∈ menuO1 os, BadO d := by
  intro d hd
  have l1 := h.l1
  have l2 := h.l2
  simp only [menuO1, List.mem_cons, List.not_mem_nil, or_false] at hd
  rcases hd with rfl | rfl | rfl | rfl | rfl | rfl | rfl | rfl | rfl | rfl | rfl
  · exact ⟨by decide +kernel, shw_of (by decide +kernel)⟩
  · exact ⟨rfl, shw_lst (k := 40) (ords_gd h) (by rw [List.length_map]; exact l2) (by decide) (by decide)⟩
  · refine ⟨orderD_bad (d := .int 2) (by simp) (by decide), shw_tup (k := 41) (b := 0) (n := 10) (fun e he => ?_) (by simp; omega) (by decide) (by decide)⟩
    rcases List.mem_append.mp he with z | z
    · exact ords_gd h e z
    · rw [List.mem_singleton.mp z]
      exact gd_of (by decide +kernel)
  · refine ⟨orderD_bad (d := .int (-1)) (by simp) (by decide), shw_tup (k := 41) (b := 0) (n := 10) (fun e he => ?_) (by simp; omega) (by decide) (by decide)⟩
    rcases List.mem_append.mp he with z | z
    · rw [List.mem_singleton.mp z]
      exact gd_of (by decide +kernel)
    · exact ords_gd h e z
  · refine ⟨orderD_bad (d := .bool true) (by simp) (by decide), shw_tup (k := 41) (b := 0) (n := 10) (fun e he => ?_) (by simp; omega) (by decide) (by decide)⟩
    rcases List.mem_append.mp he with z | z
    · exact ords_gd h e (List.mem_of_mem_take z)
    · rw [List.mem_singleton.mp z]
      exact gd_of (by decide +kernel)
  · exact ⟨by decide +kernel, shw_of (by decide +kernel)⟩
  · exact ⟨by decide +kernel, shw_of (by decide +kernel)⟩
  · exact ⟨by decide +kernel, shw_of (by decide +kernel)⟩
  · exact ⟨by decide +kernel, shw_of (by decide +kernel)⟩
  · exact ⟨by decide +kernel, shw_of (by decide +kernel)⟩
  · exact ⟨by decide +kernel, shw_of (by decide +kernel)⟩
theorem badO2 {os : List Int} (h : OrdL os) : ∀ d ∈ menuO2 os, BadO d := by
  intro d hd
  have l1 := h.l1
  have l2 := h.l2
  simp only [menuO2, List.mem_cons, List.not_mem_nil, or_false] at hd
  rcases hd with rfl | rfl | rfl | rfl | rfl | rfl | rfl | rfl
  · exact ⟨by decide +kernel, shw_of (by decide +kernel)⟩
  · exact ⟨by decide +kernel, shw_of (by decide +kernel)⟩
  · refine ⟨orderD_bad (d := .tuple (os.map PyData.int)) (by simp) rfl, ?_⟩
    have g := good_tupN (k := 40) (fun d hd => (ords_gd h d hd).2) (by rw [List.length_map]; exact l2)
    refine shw_tup (k := 1) (b := 1) (n := (10 + 2) * 40 + 3) (fun e he => ?_) (by simp) (by decide) (by decide)
    rw [List.mem_singleton.mp he]
    exact ⟨by simpa only [noOb] using V4.noObAll_of fun d hd => (ords_gd h d hd).1, g⟩
  · exact ⟨by decide +kernel, shw_of (by decide +kernel)⟩
  · exact ⟨by decide +kernel, shw_of (by decide +kernel)⟩
  · exact ⟨by decide +kernel, shw_of (by decide +kernel)⟩
  · exact ⟨by decide +kernel, shw_of (by decide +kernel)⟩
  · have le : ((List.replicate 41 (os.map PyData.int)).flatten).length = 41 * os.length := by rw [rep_len, List.length_map]
    refine ⟨orderD_long (by rw [le]; omega), shw_tup (k := 1640) (b := 0) (n := 10) (fun e he => ?_) (by rw [le]; omega) (by decide) (by decide)⟩
    obtain ⟨l, hl, hel⟩ := List.mem_flatten.mp he
    rw [(List.mem_replicate.mp hl).2] at hel
    exact ords_gd h e hel
theorem words_short {zs : List Str} (h : KindL zs) : ∀ d ∈ zs.map PyData.str, shortD d := by
  intro d hd
  obtain ⟨x, hx, rfl⟩ := List.mem_map.mp hd
  have z : ∀ y ∈ words8, y.length ≤ 10000 := by decide +kernel
  exact z x (h.mem x hx)
theorem badK1 {zs : List Str} (h : KindL zs) : ∀ d ∈ menuK1 zs, BadK d := by
  intro d hd
  have l1 := h.l1
  have l2 := h.l2
  have up := h.up
  have wg := words_gd h
  have wsh := words_short h
  simp only [menuK1, List.mem_cons, List.not_mem_nil, or_false] at hd
  rcases hd with rfl | rfl | rfl | rfl | rfl | rfl | rfl | rfl | rfl
  · exact ⟨rfl, trivial, shw_lst (k := 4) wg (by rw [List.length_map]; exact l2) (by decide) (by decide)⟩
  · exact ⟨kindD_len (.inl (by rw [List.length_take]; omega)), fun e he => wsh e (List.mem_of_mem_take he), shw_tup (k := 4) (fun e he => wg e (List.mem_of_mem_take he)) (by rw [List.length_take, List.length_map]; omega) (by decide) (by decide)⟩
  · exact ⟨by decide +kernel, shortK_of (by decide +kernel), shw_of (by decide +kernel)⟩
  · have sub : ∀ e ∈ zs.map PyData.str ++ zs.map PyData.str, e ∈ zs.map PyData.str := fun e he => (List.mem_append.mp he).elim id id
    have le : (zs.map PyData.str ++ zs.map PyData.str).length = 2 * zs.length := by simp; omega
    refine ⟨?_, fun e he => wsh e (sub e he), shw_tup (k := 8) (fun e he => wg e (sub e he)) (by rw [le]; omega) (by decide) (by decide)⟩
    by_cases h2 : zs.length = 2
    · match zs, h2, up with
      | [x, y], _, up => exact kindD_bad (x := y) (y := x) 1 (by simp) rfl rfl (cps_asymm (up 0 (by simp)))
    · exact kindD_len (.inr (by rw [le]; omega))
  · have sub : ∀ e ∈ (zs.map PyData.str).reverse, e ∈ zs.map PyData.str := fun e he => List.mem_reverse.mp he
    refine ⟨?_, fun e he => wsh e (sub e he), shw_tup (k := 4) (fun e he => wg e (sub e he)) (by simp; omega) (by decide) (by decide)⟩
    match zs, l1, l2, up with
    | [x, y], _, _, up => exact kindD_bad (x := y) (y := x) 0 (by simp) rfl rfl (cps_asymm (up 0 (by simp)))
    | [x, y, z], _, _, up => exact kindD_bad (x := z) (y := y) 0 (by simp) rfl rfl (cps_asymm (up 1 (by simp)))
    | [x, y, z, u], _, _, up => exact kindD_bad (x := u) (y := z) 0 (by simp) rfl rfl (cps_asymm (up 2 (by simp)))
    | _ :: _ :: _ :: _ :: _ :: _, _, l2, _ => simp at l2
  · match zs, l1, wsh, wg with
    | x :: y :: r, _, wsh, wg =>
      have e0 : (List.replicate 2 (((x :: y :: r).map PyData.str).take 1)).flatten = [.str x, .str x] := rfl
      rw [e0]
      have sub : ∀ e ∈ [PyData.str x, .str x], e ∈ (x :: y :: r).map PyData.str := fun e he => by
        simp only [List.mem_cons, List.not_mem_nil, or_false, or_self] at he
        rw [he]
        simp
      exact ⟨kindD_bad (x := x) (y := x) 0 (by simp) rfl rfl (List.lt_irrefl _), fun e he => wsh e (sub e he), shw_tup (k := 2) (fun e he => wg e (sub e he)) (by simp) (by decide) (by decide)⟩
  · exact ⟨by decide +kernel, shortK_of (by decide +kernel), shw_of (by decide +kernel)⟩
  · exact ⟨by decide +kernel, shortK_of (by decide +kernel), shw_of (by decide +kernel)⟩
  · exact ⟨by decide +kernel, shortK_of (by decide +kernel), shw_of (by decide +kernel)⟩
def badKB (d : PyData) : Bool := !kindD d && (shortKB d && shwB d)
theorem badK_of {d : PyData} (h : badKB d = true) : BadK d := by
  unfold badKB at h
  simp only [Bool.and_eq_true, Bool.not_eq_true'] at h
  exact ⟨h.1, shortK_of h.2.1, shw_of h.2.2⟩
def badNB (d : PyData) : Bool := !fromTo 0 8 d && shwB d
theorem badN_of {d : PyData} (h : badNB d = true) : BadN d := by
  unfold badNB at h
  simp only [Bool.and_eq_true, Bool.not_eq_true'] at h
  exact ⟨h.1, shw_of h.2⟩
theorem badK2 {zs : List Str} : ∀ d ∈ menuK2 zs, BadK d := fun d hd => badK_of ((by decide +kernel : ∀ d ∈ menuK2 [], badKB d = true) d hd)
theorem badK3 : ∀ d ∈ menuK3, BadK d := fun d hd => badK_of ((by decide +kernel : ∀ d ∈ menuK3, badKB d = true) d hd)
theorem badNs : ∀ d ∈ menuN, BadN d := fun d hd => badN_of ((by decide +kernel : ∀ d ∈ menuN, badNB d = true) d hd)
section
variable [CurK]
def spBadO : Sp := fun vs H Q _ => ∃ a v os, vs = [.ref a, v] ∧ HandAt H a ∧ Dx (delH H a) v (.tuple (os.map .int)) ∧ OrdL os ∧ ∀ H' u d, Go a H H' → Dx (delH H' a) u d → BadO d → Q u H'
def spBadK : Sp := fun vs H Q _ => ∃ a v zs, vs = [.ref a, v] ∧ HandAt H a ∧ Dx (delH H a) v (.tuple (zs.map .str)) ∧ KindL zs ∧ ∀ H' u d, Go a H H' → Dx (delH H' a) u d → BadK d → Q u H'
def spBadN : Sp := fun vs H Q _ => ∃ a, vs = [.ref a] ∧ HandAt H a ∧ ∀ H' u d, Go a H H' → Dx (delH H' a) u d → BadN d → Q u H'
end
theorem scBadO : FnScope ["purse", "order", "some"] ["purse", "order"] (defScope s__law_bad_order) := ⟨rfl, rfl, rfl, by decide +kernel, rfl, by decide +kernel, by decide +kernel⟩
theorem scBadK : FnScope ["purse", "kind", "some"] ["purse", "kind"] (defScope s__law_bad_kind) := ⟨rfl, rfl, rfl, by decide +kernel, rfl, by decide +kernel, by decide +kernel⟩
theorem scBadN : FnScope ["purse"] ["purse"] (defScope s__law_bad_number) := ⟨rfl, rfl, rfl, by decide +kernel, rfl, by decide +kernel, by decide +kernel⟩
section
variable [CurK] {P : Program} {w : World} {mg : Str → Option Value} {base : Heap}
theorem some_items {H : Hp} {a p : Addr} {xs : List V} {ds : List PyData} {Q : VK} (hd : HandAt H a) (na : p ≠ a) (e : H p = some (.lst xs)) (r : DxAll (delH H a) xs ds) (l0 : 0 < ds.length) (l1 : ds.length < 1000)
    (k : ∀ H2 w d, Go a H H2 → d ∈ ds → Dx (delH H2 a) w d → Q w H2) : spSome [.ref a, .ref p] H Q (fun _ _ _ => False) := by
  have lr := dxAll_len r
  refine ⟨a, _, _, rfl, hd, .inl ⟨p, rfl, na, .inl e⟩, by rw [lr]; exact l0, by rw [lr]; exact l1, fun H2 i w hd2 e2 c2 ev => ?_⟩
  obtain ⟨d, m, z⟩ := DxAll.some r ev
  exact k H2 w d (Go.draw hd2 e2 c2) m (by rw [e2]; exact z)
theorem ok_badN (T : Tx K mg) : Has P w K mg base CX0 4 "_law_bad_number" ["purse"] spBadN := by
  obtain ⟨fd, F⟩ := T.c.def_ 27 (d := d__law_bad_number) rfl
  have Hs := ok_some (P := P) (w := w) (base := base) T
  have Hdp := ok_deep (P := P) (w := w) (base := base) T
  refine ⟨fd, F.ok scBadN (fun vs H Q E h => ?_) (fun cdv A outer s H vs Q E hr h => ?_), FunD.bindsN F fun _ _ _ _ _ _ us hl => match us, hl with | [_], _ => rfl, F.kp, (T.glo 44 rfl)⟩
  · obtain ⟨a, rfl, _⟩ := h
    rfl
  · refine ⟨_, PSs.nox (pss_one (ps_ret (pe_has Hs (hr.mono (by decide)) pass0 (pa_cons (pv 0) (pa_cons (pe_lstS (pa_cons (pe_un un_neg pe_int) (pa_cons pe_int (pa_cons pe_bl (pa_cons pe_bl (pa_cons pe_non (pa_cons pe_str (pa_cons (pe_tup (pa_cons pe_int pa_nil)) (pa_cons (pe_lstS pa_nil) (pa_cons pe_dnewK (pa_cons (pe_op op_pow pe_int pe_int) (pa_cons (pe_has Hdp (hr.mono (by decide)) pass0 (pa_cons pe_int pa_nil)) pa_nil)))))))))))) pa_nil))))), ?_⟩
    obtain ⟨a, rfl, hd, hQ⟩ := h
    refine ⟨_, rfl, (mk_n hd.held) H (Same.refl H) _ fun v H1 s1 q1 => ?_⟩
    exact some_data (hand_same hd s1) q1 (.inl rfl) (by decide) (by decide) fun H2 u d g m dx => hQ H2 u d ((Go.new hd s1).trans g) dx (badNs d m)
theorem ok_badO (T : Tx K mg) : Has P w K mg base CX0 4 "_law_bad_order" ["purse", "order"] spBadO := by
  obtain ⟨fd, F⟩ := T.c.def_ 25 (d := d__law_bad_order) rfl
  have Hs := ok_some (P := P) (w := w) (base := base) T
  have Hdp := ok_deep (P := P) (w := w) (base := base) T
  refine ⟨fd, F.ok scBadO (fun vs H Q E h => ?_) (fun cdv A outer s H vs Q E hr h => ?_), FunD.bindsN F fun _ _ _ _ _ _ us hl => match us, hl with | [_, _], _ => rfl, F.kp, (T.glo 42 rfl)⟩
  · obtain ⟨a, v, os, rfl, _⟩ := h
    rfl
  · refine ⟨_, PSs.nox (pss_cons (ps_set (i := 2) scBadO.nd rfl (Or.inl rfl) (pe_lstS (pa_cons (pe_tup pa_nil) (pa_cons (pe_callTy call_list_low (by rfl) (T.free 56 rfl) (by decide +kernel) (pa_cons (pv 1) pa_nil)) (pa_cons (pe_op op_catT (pv 1) (pe_tup (pa_cons pe_int pa_nil))) (pa_cons (pe_op op_catT (pe_tup (pa_cons (pe_un un_neg pe_int) pa_nil)) (pv 1)) (pa_cons (pe_op op_catT (pe_slice sl_tupA (pv 1) po_none (po_some pe_int)) (pe_tup (pa_cons pe_bl pa_nil))) (pa_cons pe_non (pa_cons pe_int (pa_cons pe_str (pa_cons pe_dnewK (pa_cons (pe_op op_repT (pe_tup (pa_cons pe_int pa_nil)) pe_int) (pa_cons (pe_tup (pa_cons pe_non pa_nil)) pa_nil)))))))))))))
 (pss_cons (ps_set (i := 2) scBadO.nd rfl (Or.inl rfl) (pe_op op_cat (pv 2) (pe_lstS (pa_cons (pe_has Hdp (hr.mono (by decide)) pass0 (pa_cons pe_int pa_nil)) (pa_cons (pe_tup (pa_cons pe_str pa_nil)) (pa_cons (pe_tup (pa_cons (pv 1) pa_nil)) (pa_cons (pe_tup (pa_cons (pe_op op_pow pe_int pe_int) pa_nil)) (pa_cons (pe_tup (pa_cons pe_bl pa_nil)) (pa_cons (pe_lstS (pa_cons pe_int (pa_cons pe_int pa_nil))) (pa_cons (pe_disp (pps_cons pe_int pe_int pps_nil) (by rfl) (by rfl) (fun z => by cases z) (by decide)) (pa_cons (pe_op op_repT (pv 1) pe_int) pa_nil)))))))))))
 (pss_one (ps_ret (pe_has Hs (hr.mono (by decide)) pass0 (pa_cons (pv 0) (pa_cons (pv 2) pa_nil))))))), ?_⟩
    obtain ⟨a, v, os, rfl, hd, ho, ok, hQ⟩ := h
    refine (mk_o1 hd.held ok.l1 ok.l2 ho) H (Same.refl H) _ fun v1 H1 s1 q1 => ?_
    have hd1 := hand_same hd s1
    have ho1 := Dx.same (same_del s1) _ _ ho
    have l1 : (menuO1 os).length = 11 := rfl
    have l2 : (menuO2 os).length = 8 := rfl
    refine V4.mky_catL hd1.held (V4.mky_var q1 rfl) (mk_o2 hd1.held ok.l1 ok.l2 ho1) (by omega) H1 (Same.refl H1) _ fun p xs H2 s2 np e2 q2 => ?_
    have hd2 := hand_same hd1 s2
    have ne := hd1.ne_new np
    refine ⟨_, rfl, _, rfl, some_items hd2 ne e2 q2 (by rw [List.length_append]; omega) (by rw [List.length_append]; omega) fun H3 u d g m dx => ?_⟩
    refine hQ H3 u d (((Go.new hd s1).trans (Go.new hd1 s2)).trans g) dx ?_
    exact (List.mem_append.mp m).elim (badO1 ok d) (badO2 ok d)
theorem ok_badK (T : Tx K mg) : Has P w K mg base CX0 4 "_law_bad_kind" ["purse", "kind"] spBadK := by
  obtain ⟨fd, F⟩ := T.c.def_ 26 (d := d__law_bad_kind) rfl
  have Hs := ok_some (P := P) (w := w) (base := base) T
  have Hdp := ok_deep (P := P) (w := w) (base := base) T
  refine ⟨fd, F.ok scBadK (fun vs H Q E h => ?_) (fun cdv A outer s H vs Q E hr h => ?_), FunD.bindsN F fun _ _ _ _ _ _ us hl => match us, hl with | [_, _], _ => rfl, F.kp, (T.glo 43 rfl)⟩
  · obtain ⟨a, v, zs, rfl, _⟩ := h
    rfl
  · refine ⟨_, PSs.nox (pss_cons (ps_set (i := 2) scBadK.nd rfl (Or.inl rfl) (pe_lstS (pa_cons (pe_callTy call_list_low (by rfl) (T.free 56 rfl) (by decide +kernel) (pa_cons (pv 1) pa_nil)) (pa_cons (pe_slice sl_tupA (pv 1) po_none (po_some pe_int)) (pa_cons (pe_tup pa_nil) (pa_cons (pe_op op_catT (pv 1) (pv 1)) (pa_cons (V4.pe_backT (pv 1)) (pa_cons (pe_op op_repT (pe_slice sl_tupA (pv 1) po_none (po_some pe_int)) pe_int) (pa_cons (pe_tup (pa_cons pe_str (pa_cons (pe_op V4.op_mulS pe_str pe_int) pa_nil))) (pa_cons (pe_tup (pa_cons pe_str (pa_cons pe_int pa_nil))) (pa_cons (pe_tup (pa_cons pe_str (pa_cons pe_non pa_nil))) pa_nil)))))))))))
 (pss_cons (ps_set (i := 2) scBadK.nd rfl (Or.inl rfl) (pe_op op_cat (pv 2) (pe_lstS (pa_cons (pe_tup (pa_cons pe_str (pa_cons pe_str (pa_cons pe_str (pa_cons pe_str (pa_cons pe_str pa_nil)))))) (pa_cons pe_non (pa_cons pe_int (pa_cons pe_str (pa_cons (pe_disp (pps_cons pe_str pe_str pps_nil) (by rfl) (by rfl) (fun z => by cases z) (by decide)) (pa_cons (pe_tup (pa_cons pe_str (pa_cons (pe_tup (pa_cons pe_str pa_nil)) pa_nil))) (pa_cons (pe_tup (pa_cons pe_str (pa_cons pe_str pa_nil))) (pa_cons pe_bl pa_nil)))))))))))
 (pss_one (ps_ret (pe_has Hs (hr.mono (by decide)) pass0 (pa_cons (pv 0) (pa_cons (pe_op op_cat (pv 2) (pe_lstS (pa_cons (pe_has Hdp (hr.mono (by decide)) pass0 (pa_cons pe_int pa_nil)) (pa_cons (pe_tup (pa_cons (pe_has Hdp (hr.mono (by decide)) pass0 (pa_cons pe_int pa_nil)) (pa_cons pe_str pa_nil))) (pa_cons (pe_tup (pa_cons pe_str (pa_cons pe_str pa_nil))) (pa_cons (pe_lstS (pa_cons pe_str (pa_cons pe_str pa_nil))) (pa_cons (pe_tup (pa_cons pe_str (pa_cons pe_bl pa_nil))) pa_nil))))))) pa_nil))))))), ?_⟩
    obtain ⟨a, v, zs, rfl, hd, ho, ok, hQ⟩ := h
    refine (mk_k1 hd.held ok.l1 ok.l2 ho) H (Same.refl H) _ fun v1 H1 s1 q1 => ?_
    have hd1 := hand_same hd s1
    have ho1 := Dx.same (same_del s1) _ _ ho
    have l1 : (menuK1 zs).length = 9 := rfl
    have l2 : (menuK2 zs).length = 8 := rfl
    have l3 : menuK3.length = 5 := rfl
    refine V4.mky_catL hd1.held (V4.mky_var q1 rfl) (mk_k2 hd1.held ho1) (by omega) H1 (Same.refl H1) _ fun p xs H2 s2 np e2 q2 => ?_
    have hd2 := hand_same hd1 s2
    have ne := hd1.ne_new np
    refine ⟨_, rfl, ?_⟩
    refine ⟨_, rfl, mk_k3 hd2.held H2 (Same.refl H2) _ fun v3 H3 s3 q3 => ?_⟩
    have hd3 := hand_same hd2 s3
    obtain ⟨q, ys, rfl, e4, r4, l4⟩ := V4.lst_at q3
    have e2' := s3 _ _ e2
    have q2' := DxAll.same (same_del s3) _ _ q2
    have lx := dxAll_len q2
    rw [List.length_append] at lx
    refine ⟨p, q, xs, ys, rfl, rfl, e2', e4, by rw [sizeLine_eq]; omega, fun c nc => ?_⟩
    have s5 := same_new (o := HO.lst (xs ++ ys)) nc
    have hd5 := hand_same hd3 s5
    refine some_items hd5 (hd3.ne_new nc) upd_same (DxAll.same (same_del s5) _ _ (DxAll.app q2' r4)) (by simp only [List.length_append]; omega) (by simp only [List.length_append]; omega) fun H6 u d g m dx => ?_
    refine hQ H6 u d (((((Go.new hd s1).trans (Go.new hd1 s2)).trans (Go.new hd2 s3)).trans (Go.new hd3 s5)).trans g) dx ?_
    rcases List.mem_append.mp m with m | m
    · exact (List.mem_append.mp m).elim (badK1 ok d) (badK2 d)
    · exact badK3 d m
end
end K37

set_option maxHeartbeats 4000000
namespace K37
open PySem PySem.Spec PyProof.Rows L2 V1 V2 V3 LamX
open Evl (pss_cut tCut sq_of st_of)
section
variable {K : PySem.W.Frag} {mg : Str → Option Value}
theorem Tx.xf (T : Tx K mg) (i : Nat) {x : Str} (h : errs[i]? = some x) : XfC K (He.ga K x) := by
  have E := T.one i h
  exact ⟨E.ga, E.gg, by rw [E.sub]; rfl, E.hasDict⟩
theorem Tx.kitE (T : Tx K mg) (i j : Nat) {x y : Str} (hi : errs[i]? = some x) (hj : errs[j]? = some y) : PySem.W.kitOne K (.ref (He.ga K x)) (.ref (He.ga K y)) = some (decide (i = j)) := by
  rw [(T.one i hi).kit (T.one j hj)]
  have nd := T.exs.2.2.1
  have nm := (List.nodup_cons.mp nd).2
  have e1 : decide (He.ga K x = He.ga K y) = decide (i = j) := by
    refine decide_eq_decide.mpr ⟨fun e => ?_, fun e => ?_⟩
    · have li := (List.getElem?_eq_some_iff.mp hi).1
      have lj := (List.getElem?_eq_some_iff.mp hj).1
      have z := List.pairwise_iff_getElem.mp nm
      have at_ : ∀ (k : Nat) (u : Str) (h : errs[k]? = some u) (l : k < (errs.map (He.ga K)).length), (errs.map (He.ga K))[k] = He.ga K u := fun k u h l => by
        rw [List.getElem_map]
        exact congrArg (He.ga K) (List.getElem?_eq_some_iff.mp h).2
      have li' : i < (errs.map (He.ga K)).length := by rw [List.length_map]; exact li
      have lj' : j < (errs.map (He.ga K)).length := by rw [List.length_map]; exact lj
      refine Classical.byContradiction fun ne => ?_
      rcases Nat.lt_or_gt_of_ne ne with l | l
      · exact z i j li' lj' l (by rw [at_ i x hi, at_ j y hj]; exact e)
      · exact z j i lj' li' l (by rw [at_ i x hi, at_ j y hj]; exact e.symm)
    · subst e
      rw [hi] at hj
      cases hj
      rfl
  have e2 : (Value.ref (He.ga K "TalkError") :: veB).contains (.ref (He.ga K y)) = false := by
    have ne : He.ga K y ≠ He.ga K "TalkError" := fun z => (List.nodup_cons.mp nd).1 (by
      rw [← z]
      exact List.mem_map.mpr ⟨y, List.mem_of_getElem? hj, rfl⟩)
    simp [veB, ne]
  rw [e1, e2, Bool.or_false]
end
def fl (i : Nat) : List Bool := [decide (i = 1), decide (i = 4), decide (i = 2), decide (i = 0), decide (i = 3), decide (i = 5)]
def wds : List Str := ["order", "kind", "number", "many", "houses", "word"]
theorem scWo : FnScope ["call", "e", "flags", "word"] ["call"] (defScope s__law_word_of) := ⟨rfl, rfl, rfl, by decide +kernel, rfl, by decide +kernel, by decide +kernel⟩
/-- the word for it -/
def resV : Res → V
  | .let_ => .str "let"
  | .order => .str "order"
  | .kind => .str "kind"
  | .number => .str "number"
  | .many => .int 4000
/-- the def that calls what it got, and tells a word for what that lets out -/
def TTw [CurK] : (XK → Hp → VK → Prop) → Hp → VK → Prop := fun tl H Q => ∃ r : Res, (∀ H', Same H H' → Q (resV r) H') ∧ ∀ (E : XK) (Qr : VK), ExR E H r → (r = .let_ → ∀ v H', Same H H' → Qr v H') → tl E H Qr
section
variable [CurK]
abbrev isO (a : Addr) (cls : Value) (d : Option Addr) (x : Str) : TE := tCB (V4.rIsO K a cls d) (tCons (tVar 1) (tCons (tC (.ref (He.ga K x))) tNil))
/-- the suite of the clause -/
def clW (a : Addr) (cls : Value) (d : Option Addr) : TS :=
  tSeq (tAsg (tLstS (tCons (isO a cls d "NoOrder") (tCons (isO a cls d "NoKind") (tCons (isO a cls d "NoNumber") (tCons (isO a cls d "TooMany") tNil))))) (gName 2))
  (tSeq (tAsg (tOp rCat (tVar 2) (tLstS (tCons (isO a cls d "NoHouses") (tCons (isO a cls d "NoWord") tNil)))) (gName 2))
  (tSeq (tIfS (tOr (tTest (tOp rNe (tBM K "list" (V4.rCntB K) (tVar 2) (tCons (tC (.bl true)) tNil)) (tC (.int 1)))) (tNot (tB (tCB (V4.rIsO K a cls d) (tCons (tVar 1) (tCons (tC (.ty "ValueError")) tNil)))))) (tRet (tC (.str "other"))) tNext)
  (tSeq (tAsg (tOp (rIxL K) (tLstS (tCons (tC (.str "order")) (tCons (tC (.str "kind")) (tCons (tC (.str "number")) (tCons (tC (.str "many")) (tCons (tC (.str "houses")) (tCons (tC (.str "word")) tNil))))))) (tBM K "list" (rIndex K) (tVar 2) (tCons (tC (.bl true)) tNil))) (gName 3))
  (tRet (tIf (tTest (tOp rNe (tVar 3) (tC (.str "many")))) (tVar 3) (tXf a cls d (He.ga K "TooMany") "most" (tVar 1)))))))
theorem ExIs.same {H H' : Hp} {C : Addr} {cls : Value} {d : Option Addr} (h : V4.ExIs H C cls d) (s : Same H H') : V4.ExIs H' C cls d := ⟨h.1, h.2.elim .inl fun ⟨dd, fs, e, q⟩ => .inr ⟨dd, fs, e, s _ _ q⟩⟩
theorem iso_go {mg : Str → Option Value} (T : Tx K mg) {i j : Nat} {x y : Str} {a : Addr} {cls : Value} {d : Option Addr} {σ : L2.St} {H : Hp} {Q : VK} (hi : errs[i]? = some x) (hj : errs[j]? = some y) (cE : V4.ExIs H (He.ga K x) cls d) (h1 : σ[1]? = some (some (.ref a))) (q : Q (.bl (decide (i = j))) H) : isO a cls d y σ H Q :=
  ⟨_, h1, _, _, _, _, _, rfl, cE, .own _, T.one i hi, T.exs.2.2.2, rfl, rfl, T.kitE i j hi hj, q⟩
theorem hm_of {i j : Nat} (h : ((fl i).take j).all (fun b => !b) = true) : ∀ m z, m < j → (fl i)[m]? = some z → z = false := fun m z l e => by
  have q := List.all_eq_true.mp h z (List.mem_of_getElem? (by rw [List.getElem?_take, if_pos l]; exact e : ((fl i).take j)[m]? = some z))
  simpa using q
theorem suite_go {mg : Str → Option Value} (T : Tx K mg) {i j : Nat} {x wd : Str} {a f : Addr} {cls : Value} {d : Option Addr} {o2 o3 : Option V} {H : Hp} {D : Ends} (hi : errs[i]? = some x) (cE : V4.ExIs H (He.ga K x) cls d)
    (h1 : (fl i).count true = 1) (hj : (fl i)[j]? = some true) (hm : ∀ m z, m < j → (fl i)[m]? = some z → z = false) (hw : wds[j]? = some wd)
    (fin : wd ≠ "many" → ∀ H', Same H H' → D.rt (.str wd) H')
    (finM : wd = "many" → ∃ dd fs v, cls = .ref (He.ga K "TooMany") ∧ d = some dd ∧ H dd = some (.xd fs) ∧ fs.lookup (Str.ofString "most") = some v ∧ ∀ H', Same H H' → D.rt v H') :
    clW a cls d D [some (.ref f), some (.ref a), o2, o3] H := by
  refine iso_go T hi (y := "NoOrder") (j := 1) rfl cE rfl (iso_go T hi (y := "NoKind") (j := 4) rfl cE rfl (iso_go T hi (y := "NoNumber") (j := 2) rfl cE rfl (iso_go T hi (y := "TooMany") (j := 0) rfl cE rfl ⟨(by show 4 ≤ sizeLine; decide), fun p np _ => ?_⟩)))
  have s1 := same_new (o := HO.lst [.bl (decide (i = 1)), .bl (decide (i = 4)), .bl (decide (i = 2)), .bl (decide (i = 0))]) np
  have e1 : upd H p (HO.lst [.bl (decide (i = 1)), .bl (decide (i = 4)), .bl (decide (i = 2)), .bl (decide (i = 0))]) p = some (.lst [.bl (decide (i = 1)), .bl (decide (i = 4)), .bl (decide (i = 2)), .bl (decide (i = 0))]) := upd_same
  generalize upd H p (HO.lst [.bl (decide (i = 1)), .bl (decide (i = 4)), .bl (decide (i = 2)), .bl (decide (i = 0))]) = H1 at s1 e1
  have c1 := ExIs.same cE s1
  refine ⟨_, rfl, iso_go T hi (y := "NoHouses") (j := 3) rfl c1 rfl (iso_go T hi (y := "NoWord") (j := 5) rfl c1 rfl ⟨(by show 2 ≤ sizeLine; decide), fun p2 np2 _ => ?_⟩)⟩
  have s2 := same_new (o := HO.lst [.bl (decide (i = 3)), .bl (decide (i = 5))]) np2
  refine ⟨p, p2, _, _, rfl, rfl, s2 _ _ e1, upd_same, (by show 4 + 2 ≤ sizeLine; decide), fun p3 np3 => ?_⟩
  have s3 := s2.trans (same_new (o := HO.lst ((fl i).map V.bl)) np3)
  show (tSeq _ _) D _ (upd (upd H1 p2 (HO.lst [.bl (decide (i = 3)), .bl (decide (i = 5))])) p3 (HO.lst ((fl i).map V.bl)))
  have e3 : upd (upd H1 p2 (HO.lst [.bl (decide (i = 3)), .bl (decide (i = 5))])) p3 (HO.lst ((fl i).map V.bl)) p3 = some (.lst ((fl i).map V.bl)) := upd_same
  have s13 := s1.trans s3
  have c3 := ExIs.same c1 s3
  generalize upd (upd H1 p2 (HO.lst [.bl (decide (i = 3)), .bl (decide (i = 5))])) p3 (HO.lst ((fl i).map V.bl)) = H3 at e3 s13 c3 ⊢
  clear s3
  refine ⟨_, rfl, .inl ⟨rfl, _, sq_of e3⟩, p3, fl i, true, rfl, rfl, sq_of e3, rfl, _, rfl, ?_⟩
  rw [h1]
  refine iteF ⟨_, rfl, _, _, _, _, _, rfl, c3, .ty _, T.one i hi, T.exs.2.2.2, rfl, rfl, (T.one i hi).kitT (n := "ValueError") (by decide +kernel), true, rfl, iteF ?_⟩
  refine ⟨(by show 6 ≤ sizeLine; decide), fun p4 np4 _ => ?_⟩
  have s4 := same_new (o := HO.lst (wds.map V.str)) np4
  have e4 : upd H3 p4 (HO.lst (wds.map V.str)) p4 = some (.lst (wds.map V.str)) := upd_same
  have e34 := s4 _ _ e3
  have s14 := s13.trans s4
  show tBM K "list" (rIndex K) (tVar 2) (tCons (tC (.bl true)) tNil) _ (upd H3 p4 (HO.lst (wds.map V.str))) _
  generalize upd H3 p4 (HO.lst (wds.map V.str)) = H4 at e4 e34 s14 ⊢
  refine ⟨_, rfl, .inl ⟨rfl, _, sq_of e34⟩, p3, _, .bl true, j, .bl true, rfl, rfl, sq_of e34, rfl, V4.flat_bools _, by rw [List.getElem?_map, hj]; rfl, rfl, fun m z lm ez => ?_, ?_⟩
  · rw [List.getElem?_map] at ez
    obtain ⟨b, hb, rfl⟩ := Option.map_eq_some_iff.mp ez
    rw [hm m b lm hb]
    rfl
  have wj : atI (wds.map V.str) ((j : Nat) : Int) = some (.str wd) := atI_nat (by rw [List.getElem?_map, hw]; rfl)
  refine ⟨p4, _, _, _, rfl, rfl, sq_of e4, wj, ?_⟩
  refine ⟨_, rfl, rfl, _, rfl, ?_⟩
  by_cases em : wd = "many"
  · subst em
    obtain ⟨dd, fs, v, k1, k2, k3, k4, k5⟩ := finM rfl
    refine iteF ⟨_, rfl, rfl, k1, dd, fs, v, k2, s14 _ _ k3, k4, k5 H4 s14⟩
  · have z : (!decide (V.str wd = V.str (Str.ofString "many"))) = true := by
      rw [Bool.not_eq_true', decide_eq_false_iff_not]
      intro q
      cases q
      exact em rfl
    rw [z]
    exact iteT ⟨_, rfl, fin em H4 s14⟩
end
section
variable [CurK] {P : Program} {w : World} {mg : Str → Option Value} {base : Heap}
theorem wo_gives (T : Tx K mg) {A : Around} {st : List Env} {q : Str} (cdg : Value) :
    V4.GivesP P w K mg base A st ["call", "e", "flags", "word"] "_law_word_of" (defScope s__law_word_of) (He.ga K "_law_word_of") cdg (defBody s__law_word_of) "call" q TTw := by
  intro f c' s H Q tl hr act hc h
  refine ⟨_, PSs.nox (pss_cons (ps_try_cl (tb := fun W => tDrop (fun τ G Q => τ[0]? = some (some (.ref f)) ∧ G c' = some (CodeO c' q) ∧ tl (WE W τ) G Q)) (Wout := fun _ _ _ _ => False) (l := [(.ref (He.ga K "TalkError"), some 1, clW)]) rfl rfl scWo.nd L2.takes0
 (fun W pn xe tk _ => pss_one (ps_expr (act W pn xe _ _ tk)))
 (.named (i := 1) (c := .ref (He.ga K "TalkError")) (ts := clW) rfl rfl ⟨rfl, by decide, .inl (T.glo 10 rfl)⟩ (fun a oe cls d pn hz hf => (pss_cons (ps_set (i := 2) scWo.nd rfl (Or.inl rfl) (pe_lstS (pa_cons (pe_callB (V4.call_isO hz hf) (by rfl) (T.free 54 rfl) (by decide +kernel) (pa_cons (pv 1) (pa_cons (pe_glob (v := .ref (He.ga K "NoOrder")) (by rfl) (T.glo 12 rfl) rfl) pa_nil))) (pa_cons (pe_callB (V4.call_isO hz hf) (by rfl) (T.free 54 rfl) (by decide +kernel) (pa_cons (pv 1) (pa_cons (pe_glob (v := .ref (He.ga K "NoKind")) (by rfl) (T.glo 15 rfl) rfl) pa_nil))) (pa_cons (pe_callB (V4.call_isO hz hf) (by rfl) (T.free 54 rfl) (by decide +kernel) (pa_cons (pv 1) (pa_cons (pe_glob (v := .ref (He.ga K "NoNumber")) (by rfl) (T.glo 13 rfl) rfl) pa_nil))) (pa_cons (pe_callB (V4.call_isO hz hf) (by rfl) (T.free 54 rfl) (by decide +kernel) (pa_cons (pv 1) (pa_cons (pe_glob (v := .ref (He.ga K "TooMany")) (by rfl) (T.glo 11 rfl) rfl) pa_nil))) pa_nil))))))
 (pss_cons (ps_set (i := 2) scWo.nd rfl (Or.inl rfl) (pe_op op_cat (pv 2) (pe_lstS (pa_cons (pe_callB (V4.call_isO hz hf) (by rfl) (T.free 54 rfl) (by decide +kernel) (pa_cons (pv 1) (pa_cons (pe_glob (v := .ref (He.ga K "NoHouses")) (by rfl) (T.glo 14 rfl) rfl) pa_nil))) (pa_cons (pe_callB (V4.call_isO hz hf) (by rfl) (T.free 54 rfl) (by decide +kernel) (pa_cons (pv 1) (pa_cons (pe_glob (v := .ref (He.ga K "NoWord")) (by rfl) (T.glo 16 rfl) rfl) pa_nil))) pa_nil)))))
 (pss_cons (ps_if (PW.pt (pw_or (pt_cmpR op_ne (pe_bm PySem.F.plainAttrs_list PySem.F.slot_list_count PySem.F.type_list_count V4.mt_countB (pv 2) (pa_cons pe_bl pa_nil)) pe_int (nomark _)) (pw_or1 (pt_not (pt_val (pe_callB (V4.call_isO hz hf) (by rfl) (T.free 54 rfl) (by decide +kernel) (pa_cons (pv 1) (pa_cons (pe_bltn (v := .ty "ValueError") (by rfl) (T.free 48 rfl) (by decide +kernel) rfl) pa_nil))))))))
 (pss_one (ps_ret pe_str))
 pss_nil)
 (pss_cons (ps_set (i := 3) scWo.nd rfl (Or.inl rfl) (pe_ix ix_list (pe_lstS (pa_cons pe_str (pa_cons pe_str (pa_cons pe_str (pa_cons pe_str (pa_cons pe_str (pa_cons pe_str pa_nil))))))) (pe_bm PySem.F.plainAttrs_list PySem.F.slot_list_index PySem.F.type_list_index mt_index (pv 2) (pa_cons pe_bl pa_nil)) (fun _ _ => rfl)))
 (pss_one (ps_ret (pe_ifExp (pt_cmpR op_ne (pv 3) pe_str (nomark _)) (pv 3) (pe_xf (T.xf 0 rfl) (T.noat 66 rfl) hz hf (pv 1)))))))))) .nil))
 (pss_one (ps_ret pe_str))), ?_⟩
  obtain ⟨r, hQ, hr'⟩ := h
  refine ⟨rfl, hc, ?_⟩
  -- what the clause makes of an exception of errs[i]
  have caught : ∀ (i j : Nat) (x wd : Str) (d : Option Addr) (H' : Hp), Same H H' → errs[i]? = some x → V4.ExIs H' (He.ga K x) (.ref (He.ga K x)) d → (fl i).count true = 1 → (fl i)[j]? = some true → (∀ m z, m < j → (fl i)[m]? = some z → z = false) → wds[j]? = some wd →
      (wd ≠ "many" → resV r = .str wd) → (wd = "many" → ∃ dd fs v, Value.ref (He.ga K x) = .ref (He.ga K "TooMany") ∧ d = some dd ∧ H' dd = some (.xd fs) ∧ fs.lookup (Str.ofString "most") = some v ∧ resV r = v) →
      ∀ (D : Ends), D.rt = Q → wCl K (fun _ _ _ _ => False) D [(.ref (He.ga K "TalkError"), some 1, clW)] (.ref (He.ga K x)) d (L2.start ["call", "e", "flags", "word"] [V.ref f]) H' := by
    intro i j x wd d H' sm hi cE h1 hj hm hw hwd hmy D hD
    have ex : PySem.W.exmOne K (.ref (He.ga K x)) (.ref (He.ga K "TalkError")) = some true := by
      rw [(T.one i hi).exm T.exs.1 (by rfl)]
      simp
    refine wCl_take ex fun a na => ?_
    show clW a _ d (offD 1 D) _ H'
    refine suite_go T hi cE h1 hj hm hw (fun ne H2 s2 => ?_) (fun em => ?_)
    · show D.rt _ H2
      rw [hD, ← hwd ne]
      exact hQ H2 (sm.trans s2)
    · obtain ⟨dd, fs, v, k1, k2, k3, k4, k5⟩ := hmy em
      refine ⟨dd, fs, v, k1, k2, k3, k4, fun H2 s2 => ?_⟩
      show D.rt _ H2
      rw [hD, ← k5]
      exact hQ H2 (sm.trans s2)
  have here : ∀ D : Ends, D.rt = Q → ExR (WE (wCl K (fun _ _ _ _ => False) D [(.ref (He.ga K "TalkError"), some 1, clW)]) (L2.start ["call", "e", "flags", "word"] [V.ref f])) H r := fun D hD => by
    cases r with
    | let_ => trivial
    | order => exact fun H' s' => caught 1 0 "NoOrder" "order" none H' s' rfl ⟨rfl, .inl rfl⟩ (by decide) rfl (fun m z h => absurd h (Nat.not_lt_zero m)) rfl (fun _ => rfl) (fun z => absurd z (by decide)) D hD
    | kind => exact fun H' s' => caught 4 1 "NoKind" "kind" none H' s' rfl ⟨rfl, .inl rfl⟩ (by decide) rfl (hm_of (by decide)) rfl (fun _ => rfl) (fun z => absurd z (by decide)) D hD
    | number => exact fun H' s' => caught 2 2 "NoNumber" "number" none H' s' rfl ⟨rfl, .inl rfl⟩ (by decide) rfl (hm_of (by decide)) rfl (fun _ => rfl) (fun z => absurd z (by decide)) D hD
    | many => exact fun d H' nd s' hd => caught 0 3 "TooMany" "many" (some d) H' s' rfl ⟨rfl, .inr ⟨d, _, rfl, hd⟩⟩ (by decide) rfl (hm_of (by decide)) rfl (fun z => absurd rfl z) (fun _ => ⟨d, _, .int 4000, rfl, rfl, hd, rfl, rfl⟩) D hD
  refine hr' _ _ (here _ rfl) fun e v H' s' => ?_
  subst e
  exact hQ H' s'
end
end K37

set_option maxHeartbeats 4000000
namespace K37
open PySem PySem.Spec PyProof.Rows L2 V1 V2 V3 LamX
open Evl (pss_cut tCut sq_of st_of)
/-- the tables of the defs that make lambdas, and what those are called -/
def tsK (K : PySem.W.Frag) : List (Addr × Str) := lamN.map fun x => ((V4.pairOf K (He.ga K x)).2, (x ++ ".<locals>.") ++ "<lambda>")
theorem ts_uniq {K : PySem.W.Frag} {mg : Str → Option Value} (T : Tx K mg) {x : Str} (hx : x ∈ lamN) : ∀ p ∈ tsK K, p.1 = (V4.pairOf K (He.ga K x)).2 → p.2 = (x ++ ".<locals>.") ++ "<lambda>" := by
  intro p hp e
  obtain ⟨y, hy, rfl⟩ := List.mem_map.mp hp
  have nd := T.nd
  have z : y = x := by
    simp only [lamN, List.mem_cons, List.not_mem_nil, or_false] at hx hy
    simp only [lamN, List.map_cons, List.map_nil, List.nodup_cons, List.mem_cons, List.not_mem_nil, or_false] at nd
    rcases hx with rfl | rfl <;> rcases hy with rfl | rfl
    · rfl
    · exact absurd e.symm nd.1
    · exact absurd e nd.1
    · rfl
  rw [z]
section
variable {K : PySem.W.Frag} {H H' : Hp} {a : Addr}
theorem hand_ext (h : HandAt H a) (e : ExtN H H') : HandAt H' a ∧ cellsOf H' a = cellsOf H a := by
  obtain ⟨c, cs, i1, i2, i3, i4, h1, h2, h3⟩ := h.ex
  have h1' := V4.ext_lst e h1
  exact ⟨⟨c, cs, i1, i2, i3, i4, h1', V4.ext_lst (V4.ext_del e) h2, h3⟩, (cellsOf_at h1').trans (cellsOf_at h1).symm⟩
theorem tabs_go (t : Tabs (tsK K) H) (hd : HandAt H a) (s : Same (delH H a) (delH H' a)) : Tabs (tsK K) H' := by
  obtain ⟨c, cs, i1, i2, i3, i4, h1, _⟩ := hd.ex
  intro p hp
  obtain ⟨ps, e1, e2, e3⟩ := t p hp
  have na : ∀ (b : Addr) (o : HO), H b = some o → (∀ xs, o ≠ .lst xs) → b ≠ a := fun b o e n z => by
    rw [z, h1] at e
    exact n _ (Option.some.inj e).symm
  have up : ∀ (b : Addr) (o : HO), H b = some o → (∀ xs, o ≠ .lst xs) → H' b = some o := fun b o e n => by
    have z := s b o (by rw [delH_ne (na b o e n)]; exact e)
    exact same_delH _ _ z
  refine ⟨ps, up _ _ e1 (fun xs z => nomatch z), e2, fun pos cv hc => ?_⟩
  obtain ⟨c', r1, r2⟩ := e3 pos cv hc
  exact ⟨c', r1, up _ _ r2 (fun xs z => by unfold CodeO at z; cases z)⟩
end
theorem scEd : FnScope ["purse", "kind", "order", "odd", "some", "size", "words", "due", "few"] ["purse"] (defScope s__law_edges_right) := ⟨rfl, rfl, rfl, by decide +kernel, rfl, by decide +kernel, by decide +kernel⟩
section
variable [CurK] {σ : L2.St}
def menuE1 (zs : List Str) : List PyData := [.tuple ((zs.map PyData.str).take 1), .tuple (((zs.map PyData.str).take 1) ++ (zs.map PyData.str)), .tuple [.str (Str.ofString "a"), .str (Str.ofString "b"), .str (Str.ofString "c"), .str (Str.ofString "d"), .str (Str.ofString "e")], .tuple (zs.map PyData.str).reverse, .list (zs.map PyData.str), .tuple [.str (Str.ofString "a"), .str (Txt.mul (Str.ofString "z") 41)]]
def menuE2 (zs : List Str) : List PyData := [.tuple [.str (Str.ofString "a"), .str (Str.ofString "b\n")], .tuple [.str (Str.ofString "a"), .int 5], .tuple [.str (Str.ofString "a"), .bool true], .tuple [], .tuple ((zs.map PyData.str) ++ (V4.cutD (zs.map PyData.str) (some (-1)) none))]
def menuE3 : List PyData := [.tuple [], .tuple (List.replicate 41 [.int 0]).flatten, .tuple [.int 0, .int 2], .list [.int 0, .int 1], .tuple [.bool true], .tuple [.int 0, .int (-1)], .none]
def menuE4 : List PyData := [.int 9, .int (-1), .bool true, .none]
def menuE5 : List PyData := [.tuple [.int 2, .int 11, .str (Str.ofString "let")], .tuple [.int 2, .int 12, .int 4000], .tuple [.int 3, .int 8, .str (Str.ofString "let")], .tuple [.int 3, .int 9, .int 4000], .tuple [.int 4, .int 6, .str (Str.ofString "let")], .tuple [.int 4, .int 7, .int 4000]]
def wordsE6 : List PyData := [.str (Str.ofString "a"), .str (Str.ofString "b"), .str (Str.ofString "c"), .str (Txt.mul (Str.ofString "z") 40)]
def teE1 : TE := (tLstS (tCons (tSl (rSlA K) (tVar 1) tNoPart (tPart (tC (.int 1)))) (tCons (tOp (rCatT K) (tSl (rSlA K) (tVar 1) tNoPart (tPart (tC (.int 1)))) (tVar 1)) (tCons (tTup (tCons (tC (.str (Str.ofString "a"))) (tCons (tC (.str (Str.ofString "b"))) (tCons (tC (.str (Str.ofString "c"))) (tCons (tC (.str (Str.ofString "d"))) (tCons (tC (.str (Str.ofString "e"))) tNil)))))) (tCons (V4.tBackT K (tVar 1)) (tCons (tCB (fun xs H Q => ∃ p ys, xs = [.ref p] ∧ (SqL K H p ys ∨ SqT K H p ys) ∧ ∀ l, H l = none → (l == sysModules) = false → Q (.ref l) (upd H l (.lst ys))) (tCons (tVar 1) tNil)) (tCons (tTup (tCons (tC (.str (Str.ofString "a"))) (tCons (tOp V4.rMulS (tC (.str (Str.ofString "z"))) (tC (.int 41))) tNil))) tNil)))))))
def teE2 : TE := (tLstS (tCons (tTup (tCons (tC (.str (Str.ofString "a"))) (tCons (tC (.str (Str.ofString "b\n"))) tNil))) (tCons (tTup (tCons (tC (.str (Str.ofString "a"))) (tCons (tC (.int 5)) tNil))) (tCons (tTup (tCons (tC (.str (Str.ofString "a"))) (tCons (tC (.bl true)) tNil))) (tCons (tTup tNil) (tCons (tOp (rCatT K) (tVar 1) (tSl (rSlA K) (tVar 1) (tPart (tUn (rU fun i => V.int (-i)) (tC (.int 1)))) tNoPart)) tNil))))))
def teE3 : TE := (tLstS (tCons (tTup tNil) (tCons (tOp (rRepT K) (tTup (tCons (tC (.int 0)) tNil)) (tC (.int 41))) (tCons (tTup (tCons (tC (.int 0)) (tCons (tC (.int 2)) tNil))) (tCons (tLstS (tCons (tC (.int 0)) (tCons (tC (.int 1)) tNil))) (tCons (tTup (tCons (tC (.bl true)) tNil)) (tCons (tTup (tCons (tC (.int 0)) (tCons (tUn (rU fun i => V.int (-i)) (tC (.int 1))) tNil))) (tCons (tC .non) tNil))))))))
def teE4 : TE := (tLstS (tCons (tC (.int 9)) (tCons (tUn (rU fun i => V.int (-i)) (tC (.int 1))) (tCons (tC (.bl true)) (tCons (tC .non) tNil)))))
def teE5 : TE := (tLstS (tCons (tTup (tCons (tC (.int 2)) (tCons (tC (.int 11)) (tCons (tC (.str (Str.ofString "let"))) tNil)))) (tCons (tTup (tCons (tC (.int 2)) (tCons (tC (.int 12)) (tCons (tC (.int 4000)) tNil)))) (tCons (tTup (tCons (tC (.int 3)) (tCons (tC (.int 8)) (tCons (tC (.str (Str.ofString "let"))) tNil)))) (tCons (tTup (tCons (tC (.int 3)) (tCons (tC (.int 9)) (tCons (tC (.int 4000)) tNil)))) (tCons (tTup (tCons (tC (.int 4)) (tCons (tC (.int 6)) (tCons (tC (.str (Str.ofString "let"))) tNil)))) (tCons (tTup (tCons (tC (.int 4)) (tCons (tC (.int 7)) (tCons (tC (.int 4000)) tNil)))) tNil)))))))
def teE6 : TE := (tTup (tCons (tC (.str (Str.ofString "a"))) (tCons (tC (.str (Str.ofString "b"))) (tCons (tC (.str (Str.ofString "c"))) (tCons (tOp V4.rMulS (tC (.str (Str.ofString "z"))) (tC (.int 40))) tNil)))))
variable {H0 : Hp} {a : Addr}
theorem mk_e1 {zs : List Str} {v : V} {τ : L2.St} (ha : Held H0 a) (l1 : 2 ≤ zs.length) (l2 : zs.length ≤ 4) (hk : Dx (delH H0 a) v (.tuple (zs.map .str))) : MkY H0 a teE1 (some (.ref a) :: some v :: τ) (.list (menuE1 zs)) := by
  have ne : zs.map PyData.str ≠ [] := by intro z; rw [← List.length_map (f := PyData.str), z] at l1; simp at l1
  have ne2 : (zs.map PyData.str).take 1 ≠ [] := by intro z; have q := congrArg List.length z; rw [List.length_take, List.length_map, List.length_nil] at q; omega
  exact V4.mky_lst ha (V4.mkya_cons ((V4.cutD_take (k := 1) ▸ V4.mky_cut (lo := none) (hi := some (1 : Int)) ha (V4.mky_var hk rfl) (fun _ _ q => q) (fun _ _ q => ⟨_, rfl, q⟩))) (V4.mkya_cons (V4.mky_cat ha ((V4.cutD_take (k := 1) ▸ V4.mky_cut (lo := none) (hi := some (1 : Int)) ha (V4.mky_var hk rfl) (fun _ _ q => q) (fun _ _ q => ⟨_, rfl, q⟩))) (V4.mky_var hk rfl) (by first | assumption | simp) (by first | assumption | simp) (by simp only [List.length_append, List.length_map, List.length_cons, List.length_nil, List.length_take, List.length_reverse]; omega)) (V4.mkya_cons (V4.mky_tup ha (V4.mkya_cons (V4.mky_of ha (mkx_of (mkn_str _))) (V4.mkya_cons (V4.mky_of ha (mkx_of (mkn_str _))) (V4.mkya_cons (V4.mky_of ha (mkx_of (mkn_str _))) (V4.mkya_cons (V4.mky_of ha (mkx_of (mkn_str _))) (V4.mkya_cons (V4.mky_of ha (mkx_of (mkn_str _))) V4.mkya_nil))))) (by show 5 ≤ 1000; decide)) (V4.mkya_cons (V4.mky_back ha (V4.mky_var hk rfl)) (V4.mkya_cons (V4.mky_listof ha (V4.mky_var hk rfl)) (V4.mkya_cons (V4.mky_tup ha (V4.mkya_cons (V4.mky_of ha (mkx_of (mkn_str _))) (V4.mkya_cons (V4.mky_of ha (V4.mkx_mulS _ 41 (by decide) (by decide) (by decide))) V4.mkya_nil)) (by show 2 ≤ 1000; decide)) V4.mkya_nil)))))) (by show 6 ≤ 1000; decide)
theorem mk_e2 {zs : List Str} {v : V} {τ : L2.St} (ha : Held H0 a) (l1 : 2 ≤ zs.length) (l2 : zs.length ≤ 4) (hk : Dx (delH H0 a) v (.tuple (zs.map .str))) : MkY H0 a teE2 (some (.ref a) :: some v :: τ) (.list (menuE2 zs)) := by
  have ne : zs.map PyData.str ≠ [] := by intro z; rw [← List.length_map (f := PyData.str), z] at l1; simp at l1
  have lc : (V4.cutD (zs.map PyData.str) (some (-1)) none).length = 1 := by rw [V4.cutD_last ne, List.length_drop, List.length_map]; omega
  have ne2 : V4.cutD (zs.map PyData.str) (some (-1)) none ≠ [] := by intro z; rw [z] at lc; cases lc
  exact V4.mky_lst ha (V4.mkya_cons (V4.mky_tup ha (V4.mkya_cons (V4.mky_of ha (mkx_of (mkn_str _))) (V4.mkya_cons (V4.mky_of ha (mkx_of (mkn_str _))) V4.mkya_nil)) (by show 2 ≤ 1000; decide)) (V4.mkya_cons (V4.mky_tup ha (V4.mkya_cons (V4.mky_of ha (mkx_of (mkn_str _))) (V4.mkya_cons (V4.mky_of ha (mkx_of (mkn_int 5))) V4.mkya_nil)) (by show 2 ≤ 1000; decide)) (V4.mkya_cons (V4.mky_tup ha (V4.mkya_cons (V4.mky_of ha (mkx_of (mkn_str _))) (V4.mkya_cons (V4.mky_of ha (mkx_of (mkn_bl true))) V4.mkya_nil)) (by show 2 ≤ 1000; decide)) (V4.mkya_cons (V4.mky_tup ha V4.mkya_nil (Nat.zero_le _)) (V4.mkya_cons (V4.mky_cat ha (V4.mky_var hk rfl) (V4.mky_cut (lo := some (-1)) (hi := none) ha (V4.mky_var hk rfl) (fun _ _ q => ⟨1, rfl, -1, rfl, q⟩) (fun _ _ q => q)) (by first | assumption | simp) (by first | assumption | simp) (by simp only [List.length_append, List.length_map, List.length_cons, List.length_nil, List.length_take, List.length_reverse]; omega)) V4.mkya_nil))))) (by show 5 ≤ 1000; decide)
theorem mk_e3 (ha : Held H0 a) : MkY H0 a teE3 σ (.list menuE3) := V4.mky_lst ha (V4.mkya_cons (V4.mky_tup ha V4.mkya_nil (Nat.zero_le _)) (V4.mkya_cons (V4.mky_rep (n := 41) ha (V4.mky_tup ha (V4.mkya_cons (V4.mky_of ha (mkx_of (mkn_int 0))) V4.mkya_nil) (by show 1 ≤ 1000; decide)) (by first | assumption | simp) (by decide) (by decide) (by simp only [List.length_append, List.length_map, List.length_cons, List.length_nil, List.length_take, List.length_reverse]; omega)) (V4.mkya_cons (V4.mky_tup ha (V4.mkya_cons (V4.mky_of ha (mkx_of (mkn_int 0))) (V4.mkya_cons (V4.mky_of ha (mkx_of (mkn_int 2))) V4.mkya_nil)) (by show 2 ≤ 1000; decide)) (V4.mkya_cons (V4.mky_lst ha (V4.mkya_cons (V4.mky_of ha (mkx_of (mkn_int 0))) (V4.mkya_cons (V4.mky_of ha (mkx_of (mkn_int 1))) V4.mkya_nil)) (by show 2 ≤ 1000; decide)) (V4.mkya_cons (V4.mky_tup ha (V4.mkya_cons (V4.mky_of ha (mkx_of (mkn_bl true))) V4.mkya_nil) (by show 1 ≤ 1000; decide)) (V4.mkya_cons (V4.mky_tup ha (V4.mkya_cons (V4.mky_of ha (mkx_of (mkn_int 0))) (V4.mkya_cons (V4.mky_of ha (V4.mkx_neg 1)) V4.mkya_nil)) (by show 2 ≤ 1000; decide)) (V4.mkya_cons (V4.mky_of ha (mkx_of mkn_non)) V4.mkya_nil))))))) (by show 7 ≤ 1000; decide)
theorem mk_e4 (ha : Held H0 a) : MkY H0 a teE4 σ (.list menuE4) := V4.mky_lst ha (V4.mkya_cons (V4.mky_of ha (mkx_of (mkn_int 9))) (V4.mkya_cons (V4.mky_of ha (V4.mkx_neg 1)) (V4.mkya_cons (V4.mky_of ha (mkx_of (mkn_bl true))) (V4.mkya_cons (V4.mky_of ha (mkx_of mkn_non)) V4.mkya_nil)))) (by show 4 ≤ 1000; decide)
theorem mk_e5 (ha : Held H0 a) : MkY H0 a teE5 σ (.list menuE5) := V4.mky_lst ha (V4.mkya_cons (V4.mky_tup ha (V4.mkya_cons (V4.mky_of ha (mkx_of (mkn_int 2))) (V4.mkya_cons (V4.mky_of ha (mkx_of (mkn_int 11))) (V4.mkya_cons (V4.mky_of ha (mkx_of (mkn_str _))) V4.mkya_nil))) (by show 3 ≤ 1000; decide)) (V4.mkya_cons (V4.mky_tup ha (V4.mkya_cons (V4.mky_of ha (mkx_of (mkn_int 2))) (V4.mkya_cons (V4.mky_of ha (mkx_of (mkn_int 12))) (V4.mkya_cons (V4.mky_of ha (mkx_of (mkn_int 4000))) V4.mkya_nil))) (by show 3 ≤ 1000; decide)) (V4.mkya_cons (V4.mky_tup ha (V4.mkya_cons (V4.mky_of ha (mkx_of (mkn_int 3))) (V4.mkya_cons (V4.mky_of ha (mkx_of (mkn_int 8))) (V4.mkya_cons (V4.mky_of ha (mkx_of (mkn_str _))) V4.mkya_nil))) (by show 3 ≤ 1000; decide)) (V4.mkya_cons (V4.mky_tup ha (V4.mkya_cons (V4.mky_of ha (mkx_of (mkn_int 3))) (V4.mkya_cons (V4.mky_of ha (mkx_of (mkn_int 9))) (V4.mkya_cons (V4.mky_of ha (mkx_of (mkn_int 4000))) V4.mkya_nil))) (by show 3 ≤ 1000; decide)) (V4.mkya_cons (V4.mky_tup ha (V4.mkya_cons (V4.mky_of ha (mkx_of (mkn_int 4))) (V4.mkya_cons (V4.mky_of ha (mkx_of (mkn_int 6))) (V4.mkya_cons (V4.mky_of ha (mkx_of (mkn_str _))) V4.mkya_nil))) (by show 3 ≤ 1000; decide)) (V4.mkya_cons (V4.mky_tup ha (V4.mkya_cons (V4.mky_of ha (mkx_of (mkn_int 4))) (V4.mkya_cons (V4.mky_of ha (mkx_of (mkn_int 7))) (V4.mkya_cons (V4.mky_of ha (mkx_of (mkn_int 4000))) V4.mkya_nil))) (by show 3 ≤ 1000; decide)) V4.mkya_nil)))))) (by show 6 ≤ 1000; decide)
theorem mk_e6 (ha : Held H0 a) : MkY H0 a teE6 σ (.tuple wordsE6) := V4.mky_tup ha (V4.mkya_cons (V4.mky_of ha (mkx_of (mkn_str _))) (V4.mkya_cons (V4.mky_of ha (mkx_of (mkn_str _))) (V4.mkya_cons (V4.mky_of ha (mkx_of (mkn_str _))) (V4.mkya_cons (V4.mky_of ha (V4.mkx_mulS _ 40 (by decide) (by decide) (by decide))) V4.mkya_nil)))) (by show 4 ≤ 1000; decide)
theorem badE1 {zs : List Str} (h : KindL zs) : ∀ d ∈ menuE1 zs, kindD d = false ∧ shortK d := by
  intro d hd
  have l1 := h.l1
  have l2 := h.l2
  have wsh := words_short h
  have old := badK1 h
  simp only [menuE1, List.mem_cons, List.not_mem_nil, or_false] at hd
  rcases hd with rfl | rfl | rfl | rfl | rfl | rfl
  · exact let z := old _ (by simp [menuK1] : PyData.tuple ((zs.map PyData.str).take 1) ∈ menuK1 zs); ⟨z.no, z.st⟩
  · match zs, l1, wsh with
    | x :: y :: r, _, wsh => exact ⟨kindD_bad (x := x) (y := x) 0 (by simp) rfl rfl (List.lt_irrefl _), fun e he => (List.mem_append.mp he).elim (fun q => wsh e (List.mem_of_mem_take q)) (fun q => wsh e q)⟩
  · exact ⟨by decide +kernel, shortK_of (by decide +kernel)⟩
  · exact let z := old _ (by simp [menuK1] : PyData.tuple (zs.map PyData.str).reverse ∈ menuK1 zs); ⟨z.no, z.st⟩
  · exact ⟨rfl, trivial⟩
  · exact ⟨by decide +kernel, shortK_of (by decide +kernel)⟩
theorem badE2 {zs : List Str} (h : KindL zs) : ∀ d ∈ menuE2 zs, kindD d = false ∧ shortK d := by
  intro d hd
  have l1 := h.l1
  have l2 := h.l2
  have wsh := words_short h
  have ne : zs.map PyData.str ≠ [] := by intro z; rw [← List.length_map (f := PyData.str), z] at l1; simp at l1
  simp only [menuE2, List.mem_cons, List.not_mem_nil, or_false] at hd
  rcases hd with rfl | rfl | rfl | rfl | rfl
  · exact ⟨by decide +kernel, shortK_of (by decide +kernel)⟩
  · exact ⟨by decide +kernel, shortK_of (by decide +kernel)⟩
  · exact ⟨by decide +kernel, shortK_of (by decide +kernel)⟩
  · exact ⟨by decide +kernel, shortK_of (by decide +kernel)⟩
  · rw [V4.cutD_last ne]
    refine ⟨?_, fun e he => (List.mem_append.mp he).elim (fun q => wsh e q) (fun q => wsh e (List.mem_of_mem_drop q))⟩
    match zs, l1, l2 with
    | [x, y], _, _ => exact kindD_bad (x := y) (y := y) 1 (by simp) rfl rfl (List.lt_irrefl _)
    | [x, y, z], _, _ => exact kindD_bad (x := z) (y := z) 2 (by simp) rfl rfl (List.lt_irrefl _)
    | [x, y, z, u], _, _ => exact kindD_len (.inr (by simp))
    | _ :: _ :: _ :: _ :: _ :: _, _, l2 => simp at l2
theorem badE3 : ∀ d ∈ menuE3, orderD 2 d = false := by decide +kernel
theorem badE4 : ∀ d ∈ menuE4, fromTo 0 8 d = false := by decide +kernel
theorem q_mky {te : TE} {i : Nat} {tz : TS} {D : Ends} {H H0 : Hp} {d : PyData} (m : MkY H0 a te σ d) (s : Same H0 H) (k : ∀ v H', Same H H' → Dx (delH H' a) v d → tz D (σ.set i (some v)) H') : tSeq (tAsg te (gName i)) tz D σ H := m H s _ fun v H' s' q => k v H' s' q
/-- a word of what a lambda lets out: AllAhead -/
theorem wall_go {Q : VK} {d1 d2 : PyData} {ta : TA} {H : Hp} (ht : Tabs (tsK K) H) (hta : ∀ H', ExtN H H' → ∀ Q : List V → Hp → Prop, (∀ v1 v2 H2, Same H' H2 → Dx H2 v1 d1 → Dx H2 v2 d2 → Q [v1, v2] H2) → ta σ H' Q) (sh : shortK d2)
    (k : ∀ H', ExtN H H' → Tabs (tsK K) H' → Q (resV (allR d1 d2)) H') : V4.tLamS (tsK K) TTw (fun E => tMake (He.ga K "AllAhead") spAll [] E ta) σ H Q :=
  ⟨ht, fun H1 e1 t1 => ⟨allR d1 d2, fun H' s' => k H' (e1.trans (ExtN.of s')) (t1.ext s'), fun E Qr ex post => hta H1 e1 _ fun v1 v2 H2 s2 q1 q2 =>
    all_go (σ := σ) (ta := fun _ G Q => Q [v1, v2] G) (fun _ q => q) q1 q2 sh (ExR.same s2 ex) fun er p H' s' => post er _ H' (s2.trans s')⟩⟩
/-- likewise: least_known -/
theorem wleast_go {Q : VK} {d1 d2 d3 : PyData} {ta : TA} {H : Hp} (ht : Tabs (tsK K) H) (hta : ∀ H', ExtN H H' → ∀ Q : List V → Hp → Prop, (∀ v1 v2 v3 H2, Same H' H2 → Dx H2 v1 d1 → Dx H2 v2 d2 → Dx H2 v3 d3 → Q [v1, v2, v3] H2) → ta σ H' Q)
    (k : ∀ H', ExtN H H' → Tabs (tsK K) H' → Q (resV (leastR d1 d2 d3)) H') : V4.tLamS (tsK K) TTw (fun E => tCall spLeast [] E ta) σ H Q :=
  ⟨ht, fun H1 e1 t1 => ⟨leastR d1 d2 d3, fun H' s' => k H' (e1.trans (ExtN.of s')) (t1.ext s'), fun E Qr ex post => hta H1 e1 _ fun v1 v2 v3 H2 s2 q1 q2 q3 => by
    show spLeast ([v1, v2, v3] ++ []) H2 Qr E
    exact ⟨v1, v2, v3, d1, d2, d3, rfl, q1, q2, q3, ExR.same s2 ex, fun er n H' s' => post er _ H' (s2.trans s')⟩⟩⟩
theorem ne_self (r : Res) : (!decide (resV r = resV r)) = false := by simp
theorem scal_self (r : Res) : scal (resV r) (resV r) = true := by cases r <;> rfl
section
variable {ta : TA} {tw : TE} {tr tz b : TS} {g : TG} {te : TE} {D : Ends} {H : Hp} {d1 d2 d3 : PyData} {r : Res}
theorem s_all (er : allR d1 d2 = r) (ht : Tabs (tsK K) H) (hta : ∀ H', ExtN H H' → ∀ Q : List V → Hp → Prop, (∀ v1 v2 H2, Same H' H2 → Dx H2 v1 d1 → Dx H2 v2 d2 → Q [v1, v2] H2) → ta σ H' Q) (sh : shortK d2)
    (hw : ∀ H' (Q : VK), Q (resV r) H' → tw σ H' Q) (k : ∀ H', ExtN H H' → Tabs (tsK K) H' → D.nx σ H') : tIfS (tTest (tOp rNe (V4.tLamS (tsK K) TTw (fun E => tMake (He.ga K "AllAhead") spAll [] E ta)) tw)) tr tNext D σ H := by
  subst er
  refine wall_go ht hta sh fun H' e t => hw H' _ ⟨scal_self _, _, rfl, ?_⟩
  rw [ne_self]
  exact iteF (k H' e t)
theorem s_least (er : leastR d1 d2 d3 = r) (ht : Tabs (tsK K) H) (hta : ∀ H', ExtN H H' → ∀ Q : List V → Hp → Prop, (∀ v1 v2 v3 H2, Same H' H2 → Dx H2 v1 d1 → Dx H2 v2 d2 → Dx H2 v3 d3 → Q [v1, v2, v3] H2) → ta σ H' Q)
    (hw : ∀ H' (Q : VK), Q (resV r) H' → tw σ H' Q) (k : ∀ H', ExtN H H' → Tabs (tsK K) H' → D.nx σ H') : tIfS (tTest (tOp rNe (V4.tLamS (tsK K) TTw (fun E => tCall spLeast [] E ta)) tw)) tr tNext D σ H := by
  subst er
  refine wleast_go ht hta fun H' e t => hw H' _ ⟨scal_self _, _, rfl, ?_⟩
  rw [ne_self]
  exact iteF (k H' e t)
theorem q_all (er : allR d1 d2 = r) (ht : Tabs (tsK K) H) (hta : ∀ H', ExtN H H' → ∀ Q : List V → Hp → Prop, (∀ v1 v2 H2, Same H' H2 → Dx H2 v1 d1 → Dx H2 v2 d2 → Q [v1, v2] H2) → ta σ H' Q) (sh : shortK d2)
    (hw : ∀ H' (Q : VK), Q (resV r) H' → tw σ H' Q) (k : ∀ H', ExtN H H' → Tabs (tsK K) H' → tz D σ H') : tSeq (tIfS (tTest (tOp rNe (V4.tLamS (tsK K) TTw (fun E => tMake (He.ga K "AllAhead") spAll [] E ta)) tw)) tr tNext) tz D σ H := s_all (D := { D with nx := tz D }) er ht hta sh hw k
theorem q_least (er : leastR d1 d2 d3 = r) (ht : Tabs (tsK K) H) (hta : ∀ H', ExtN H H' → ∀ Q : List V → Hp → Prop, (∀ v1 v2 v3 H2, Same H' H2 → Dx H2 v1 d1 → Dx H2 v2 d2 → Dx H2 v3 d3 → Q [v1, v2, v3] H2) → ta σ H' Q)
    (hw : ∀ H' (Q : VK), Q (resV r) H' → tw σ H' Q) (k : ∀ H', ExtN H H' → Tabs (tsK K) H' → tz D σ H') : tSeq (tIfS (tTest (tOp rNe (V4.tLamS (tsK K) TTw (fun E => tCall spLeast [] E ta)) tw)) tr tNext) tz D σ H := s_least (D := { D with nx := tz D }) er ht hta hw k
/-- for x in a list of data, all but the tables staying -/
theorem q_for {ds : List PyData} (Sg : L2.St → Prop) (sg : Sg σ) (ht : Tabs (tsK K) H) (m : ∀ Q : VK, (∀ p xs H', Same H H' → H' p = some (.lst xs) → DxAll H' xs ds → Q (.ref p) H') → te σ H Q)
    (turn : ∀ (D' : Ends) (x : V) (d : PyData) (σ' : L2.St) (H' : Hp), d ∈ ds → Dx H' x d → Sg σ' → ExtN H H' → Tabs (tsK K) H' → (∀ σ2 H2, Sg σ2 → ExtN H' H2 → Tabs (tsK K) H2 → D'.nx σ2 H2) → g x σ' H' fun σ2 H2 => b D' σ2 H2)
    (k : ∀ σ' H', Sg σ' → ExtN H H' → Tabs (tsK K) H' → tz D σ' H') : tSeq (tFor (iList K te) g b) tz D σ H := by
  refine m _ fun p xs H1 s1 e1 q1 => ⟨p, rfl, ⟨xs, sq_of e1⟩, ?_⟩
  refine for_it (walk_list (K := K) (a := p) (xs := xs)) (fun i σ' H' => Sg σ' ∧ ExtN H1 H' ∧ Tabs (tsK K) H') ⟨sg, ExtN.refl H1, ht.ext s1⟩ (fun i σ' H' _ z => sq_of (V4.ext_lst z.2.1 e1)) ?_ ?_
  · rintro i x σ' H2 H3 hi ⟨z1, z2, z3⟩ ⟨rfl, hx⟩
    obtain ⟨d, hd, dx⟩ := DxAll.some q1 hx
    exact turn _ x d σ' H3 hd (V4.dx_ext z2 d x dx) z1 ((ExtN.of s1).trans z2) z3 fun σ2 H4 y1 y2 y3 => ⟨y1, z2.trans y2, y3⟩
  · rintro σ' H2 ⟨z1, z2, z3⟩
    exact k σ' H2 z1 ((ExtN.of s1).trans z2) z3
end
theorem allR_order {d1 d2 : PyData} (h : orderD 2 d1 = false) : allR d1 d2 = .order := by
  unfold allR
  rw [if_neg (by rw [h]; decide)]
theorem allR_kind {d1 d2 : PyData} (h1 : orderD 2 d1 = true) (h : kindD d2 = false) : allR d1 d2 = .kind := by
  unfold allR
  rw [if_pos h1, if_neg (by rw [h]; decide)]
theorem leastR_order {d1 d2 d3 : PyData} (h : orderD 2 d1 = false) : leastR d1 d2 d3 = .order := by
  unfold leastR
  rw [if_neg (by rw [h]; decide)]
theorem leastR_2 {d1 d2 d3 : PyData} (h1 : orderD 2 d1 = true) (h : fromTo 0 8 d2 = false) : leastR d1 d2 d3 = .number := by
  unfold leastR
  rw [if_pos h1, if_neg (by rw [h]; decide)]
theorem leastR_3 {d1 d2 d3 : PyData} (h1 : orderD 2 d1 = true) (h2 : fromTo 0 8 d2 = true) (h : fromTo 0 8 d3 = false) : leastR d1 d2 d3 = .number := by
  unfold leastR
  rw [if_pos h1, if_pos h2, if_neg (by rw [h]; decide)]
def ord3 : PyData := .tuple [.int 0, .int 1, .int 0]
theorem ord3_ok : orderD 2 ord3 = true := by decide +kernel
def resD : Res → PyData
  | .many => .int 4000
  | _ => .str "let"
def resW : Res → V
  | .many => .int 4000
  | _ => .str "let"
/-- (1,) * n -/
def ones (n : Nat) : PyData := .tuple (List.replicate n [PyData.int 1]).flatten
theorem tableE5 : ∀ d ∈ menuE5, ∃ (s w : Nat) (r : Res), d = .tuple [.int (s : Nat), .int (w : Nat), resD r] ∧ resV r = resW r ∧ 2 ≤ w ∧ w ≤ 1000 ∧ allR (ones w) (.tuple (wordsE6.take s)) = r ∧ shortK (.tuple (wordsE6.take s)) := by
  intro d hd
  simp only [menuE5, List.mem_cons, List.not_mem_nil, or_false] at hd
  rcases hd with rfl | rfl | rfl | rfl | rfl | rfl
  · exact ⟨2, 11, .let_, rfl, rfl, by decide, by decide, by decide +kernel, shortK_of (by decide +kernel)⟩
  · exact ⟨2, 12, .many, rfl, rfl, by decide, by decide, by decide +kernel, shortK_of (by decide +kernel)⟩
  · exact ⟨3, 8, .let_, rfl, rfl, by decide, by decide, by decide +kernel, shortK_of (by decide +kernel)⟩
  · exact ⟨3, 9, .many, rfl, rfl, by decide, by decide, by decide +kernel, shortK_of (by decide +kernel)⟩
  · exact ⟨4, 6, .let_, rfl, rfl, by decide, by decide, by decide +kernel, shortK_of (by decide +kernel)⟩
  · exact ⟨4, 7, .many, rfl, rfl, by decide, by decide, by decide +kernel, shortK_of (by decide +kernel)⟩
theorem resD_v {H : Hp} {v : V} {r : Res} (h : Dx H v (resD r)) (e : resV r = resW r) : v = resV r := by
  rw [e]
  cases r with
  | many => exact Dx.int_inv h
  | _ => exact Dx.str_inv h
/-- (1,) * n made of a list of it -/
theorem ones_go {te : TE} {w : Nat} {H : Hp} {Q : VK} (w2 : 2 ≤ w) (w3 : w ≤ 1000) (hw : ∀ H (Q : VK), Q (.int (w : Nat)) H → te σ H Q) (k : ∀ v H', Same H H' → Dx H' v (ones w) → Q v H') : tOp (rRepT K) (tTup (tCons (tC (.int 1)) tNil)) te σ H Q := by
  refine ⟨(by show 1 ≤ sizeLine; decide), fun p np => hw _ _ ⟨p, _, _, rfl, rfl, st_of upd_same, (fun z => nomatch z), by omega, by omega, (by decide), fun c nc => ?_⟩⟩
  rw [Int.toNat_natCast]
  exact k _ _ ((same_new np).trans (same_new nc)) (.tup upd_same (V4.DxAll.rep (.cons (.int 1) .nil) w))
def spEd : Sp := fun vs H Q _ => ∃ a, vs = [.ref a] ∧ HandAt H a ∧ Tabs (tsK K) H ∧ ∀ H', HandAt H' a → Tabs (tsK K) H' → Q (.bl true) H'
end
section
variable [CurK] {P : Program} {w : World} {mg : Str → Option Value} {base : Heap}
theorem ok_ed (T : Tx K mg) (TB : TabB base mg (V4.pairOf K (He.ga K "_law_edges_right")).1 (V4.pairOf K (He.ga K "_law_edges_right")).2) : Has P w K mg base CX0 40 "_law_edges_right" ["purse"] spEd := by
  obtain ⟨fd, F⟩ := T.c.def_ 29 (d := d__law_edges_right) rfl
  obtain ⟨fdW, Fw⟩ := T.c.def_ 23 (d := d__law_word_of) rfl
  have bw : L2.Binds K fdW ["call"] [] := FunD.bindsN Fw fun _ _ _ _ _ _ us hl => match us, hl with | [_], _ => rfl
  have Ha := ok_all (P := P) (w := w) (base := base) T
  have Hl := ok_least (P := P) (w := w) (base := base) T
  have Hk := ok_lkind (P := P) (w := w) (base := base) T
  have LD := T.lam "_law_edges_right" (by decide)
  have mem : ((V4.pairOf K (He.ga K "_law_edges_right")).2, (("_law_edges_right" : Str) ++ ".<locals>.") ++ "<lambda>") ∈ tsK K := List.mem_map.mpr ⟨"_law_edges_right", by decide, rfl⟩
  have uniq := ts_uniq T (x := "_law_edges_right") (by decide)
  refine ⟨fd, V4.okC F LD scEd (fun vs H Q E h => ?_) (fun A outer s H vs Q E hr h => ?_), FunD.bindsN F fun _ _ _ _ _ _ us hl => match us, hl with | [_], _ => rfl, F.kp, (T.glo 46 rfl)⟩
  · obtain ⟨a, rfl, _⟩ := h
    rfl
  · refine ⟨_, PSs.nox (pss_cons (ps_asg (pe_tup (pa_cons (pe_has Hk (hr.mono (by decide)) pass0 (pa_cons (pv 0) pa_nil)) (pa_cons (pe_tup (pa_cons pe_int (pa_cons pe_int (pa_cons pe_int pa_nil)))) pa_nil))) (pg_tup (by rfl) (pgs_cons (pg_name (i := 1) scEd.nd rfl (Or.inr rfl)) (pgs_cons (pg_name (i := 2) scEd.nd rfl (Or.inr rfl)) pgs_nil))))
 (pss_cons (ps_set (i := 3) scEd.nd rfl (Or.inl rfl) (pe_lstS (pa_cons (pe_slice sl_tupA (pv 1) po_none (po_some pe_int)) (pa_cons (pe_op op_catT (pe_slice sl_tupA (pv 1) po_none (po_some pe_int)) (pv 1)) (pa_cons (pe_tup (pa_cons pe_str (pa_cons pe_str (pa_cons pe_str (pa_cons pe_str (pa_cons pe_str pa_nil)))))) (pa_cons (V4.pe_backT (pv 1)) (pa_cons (pe_callTy call_list_low (by rfl) (T.free 56 rfl) (by decide +kernel) (pa_cons (pv 1) pa_nil)) (pa_cons (pe_tup (pa_cons pe_str (pa_cons (pe_op V4.op_mulS pe_str pe_int) pa_nil))) pa_nil))))))))
 (pss_cons (ps_for PassesOwn.never rfl (pi_list (pe_op op_cat (pv 3) (pe_lstS (pa_cons (pe_tup (pa_cons pe_str (pa_cons pe_str pa_nil))) (pa_cons (pe_tup (pa_cons pe_str (pa_cons pe_int pa_nil))) (pa_cons (pe_tup (pa_cons pe_str (pa_cons pe_bl pa_nil))) (pa_cons (pe_tup pa_nil) (pa_cons (pe_op op_catT (pv 1) (pe_slice sl_tupA (pv 1) (po_some (pe_un un_neg pe_int)) po_none)) pa_nil)))))))) (pg_name (i := 4) scEd.nd rfl (Or.inr rfl))
 (pss_one (ps_if (pt_cmpR op_ne (V4.pe_lamS (ts := tsK K) (TT := TTw) (t := fun E => tMake (He.ga K "AllAhead") spAll [] E (tCons (tVar 2) (tCons (tVar 4) tNil))) Fw bw (T.glo 40 rfl) scWo rfl (fun cdg => wo_gives T cdg) TB rfl mem uniq (hr.mono (by decide)) (lamS_by (by show LamX.lamSB (defScope s__law_edges_right) _ = true; decide +kernel)) (fun E A outer s H f c' r => (pe_hasC Ha (r.mono (by decide)) (passes_call (takes_of rfl rfl rfl rfl) (fun _ _ _ _ h => h)) (pa_cons (pv 2) (pa_cons (pv 4) pa_nil))))) pe_str (nomark _))
 (pss_one (ps_ret pe_bl))
 pss_nil)))
 (pss_cons (ps_for PassesOwn.never rfl (pi_list (pe_lstS (pa_cons (pe_tup pa_nil) (pa_cons (pe_op op_repT (pe_tup (pa_cons pe_int pa_nil)) pe_int) (pa_cons (pe_tup (pa_cons pe_int (pa_cons pe_int pa_nil))) (pa_cons (pe_lstS (pa_cons pe_int (pa_cons pe_int pa_nil))) (pa_cons (pe_tup (pa_cons pe_bl pa_nil)) (pa_cons (pe_tup (pa_cons pe_int (pa_cons (pe_un un_neg pe_int) pa_nil))) (pa_cons pe_non pa_nil))))))))) (pg_name (i := 4) scEd.nd rfl (Or.inr rfl))
 (pss_cons (ps_if (pt_cmpR op_ne (V4.pe_lamS (ts := tsK K) (TT := TTw) (t := fun E => tMake (He.ga K "AllAhead") spAll [] E (tCons (tVar 4) (tCons (tVar 1) tNil))) Fw bw (T.glo 40 rfl) scWo rfl (fun cdg => wo_gives T cdg) TB rfl mem uniq (hr.mono (by decide)) (lamS_by (by show LamX.lamSB (defScope s__law_edges_right) _ = true; decide +kernel)) (fun E A outer s H f c' r => (pe_hasC Ha (r.mono (by decide)) (passes_call (takes_of rfl rfl rfl rfl) (fun _ _ _ _ h => h)) (pa_cons (pv 4) (pa_cons (pv 1) pa_nil))))) pe_str (nomark _))
 (pss_one (ps_ret pe_bl))
 pss_nil)
 (pss_one (ps_if (pt_cmpR op_ne (V4.pe_lamS (ts := tsK K) (TT := TTw) (t := fun E => tCall spLeast [] E (tCons (tVar 4) (tCons (tC (.int 9)) (tCons (tC (.int 9)) tNil)))) Fw bw (T.glo 40 rfl) scWo rfl (fun cdg => wo_gives T cdg) TB rfl mem uniq (hr.mono (by decide)) (lamS_by (by show LamX.lamSB (defScope s__law_edges_right) _ = true; decide +kernel)) (fun E A outer s H f c' r => (pe_has Hl (r.mono (by decide)) (passes_call (takes_of rfl rfl rfl rfl) (fun _ _ _ _ h => h)) (pa_cons (pv 4) (pa_cons pe_int (pa_cons pe_int pa_nil)))))) pe_str (nomark _))
 (pss_one (ps_ret pe_bl))
 pss_nil))))
 (pss_cons (ps_for PassesOwn.never rfl (pi_list (pe_lstS (pa_cons pe_int (pa_cons (pe_un un_neg pe_int) (pa_cons pe_bl (pa_cons pe_non pa_nil)))))) (pg_name (i := 4) scEd.nd rfl (Or.inr rfl))
 (pss_cons (ps_if (pt_cmpR op_ne (V4.pe_lamS (ts := tsK K) (TT := TTw) (t := fun E => tCall spLeast [] E (tCons (tVar 2) (tCons (tVar 4) (tCons (tC (.int 0)) tNil)))) Fw bw (T.glo 40 rfl) scWo rfl (fun cdg => wo_gives T cdg) TB rfl mem uniq (hr.mono (by decide)) (lamS_by (by show LamX.lamSB (defScope s__law_edges_right) _ = true; decide +kernel)) (fun E A outer s H f c' r => (pe_has Hl (r.mono (by decide)) (passes_call (takes_of rfl rfl rfl rfl) (fun _ _ _ _ h => h)) (pa_cons (pv 2) (pa_cons (pv 4) (pa_cons pe_int pa_nil)))))) pe_str (nomark _))
 (pss_one (ps_ret pe_bl))
 pss_nil)
 (pss_one (ps_if (pt_cmpR op_ne (V4.pe_lamS (ts := tsK K) (TT := TTw) (t := fun E => tCall spLeast [] E (tCons (tVar 2) (tCons (tC (.int 0)) (tCons (tVar 4) tNil)))) Fw bw (T.glo 40 rfl) scWo rfl (fun cdg => wo_gives T cdg) TB rfl mem uniq (hr.mono (by decide)) (lamS_by (by show LamX.lamSB (defScope s__law_edges_right) _ = true; decide +kernel)) (fun E A outer s H f c' r => (pe_has Hl (r.mono (by decide)) (passes_call (takes_of rfl rfl rfl rfl) (fun _ _ _ _ h => h)) (pa_cons (pv 2) (pa_cons pe_int (pa_cons (pv 4) pa_nil)))))) pe_str (nomark _))
 (pss_one (ps_ret pe_bl))
 pss_nil))))
 (pss_cons (ps_for PassesOwn.never rfl (pi_list (pe_lstS (pa_cons (pe_tup (pa_cons pe_int (pa_cons pe_int (pa_cons pe_str pa_nil)))) (pa_cons (pe_tup (pa_cons pe_int (pa_cons pe_int (pa_cons pe_int pa_nil)))) (pa_cons (pe_tup (pa_cons pe_int (pa_cons pe_int (pa_cons pe_str pa_nil)))) (pa_cons (pe_tup (pa_cons pe_int (pa_cons pe_int (pa_cons pe_int pa_nil)))) (pa_cons (pe_tup (pa_cons pe_int (pa_cons pe_int (pa_cons pe_str pa_nil)))) (pa_cons (pe_tup (pa_cons pe_int (pa_cons pe_int (pa_cons pe_int pa_nil)))) pa_nil)))))))) (pg_tup (by rfl) (pgs_cons (pg_name (i := 5) scEd.nd rfl (Or.inl rfl)) (pgs_cons (pg_name (i := 6) scEd.nd rfl (Or.inr rfl)) (pgs_cons (pg_name (i := 7) scEd.nd rfl (Or.inl rfl)) pgs_nil))))
 (pss_cons (ps_set (i := 8) scEd.nd rfl (Or.inr rfl) (pe_slice sl_tupA (pe_tup (pa_cons pe_str (pa_cons pe_str (pa_cons pe_str (pa_cons (pe_op V4.op_mulS pe_str pe_int) pa_nil))))) po_none (po_some (pv 5))))
 (pss_one (ps_if (pt_cmpR op_ne (V4.pe_lamS (ts := tsK K) (TT := TTw) (t := fun E => tMake (He.ga K "AllAhead") spAll [] E (tCons (tOp (rRepT K) (tTup (tCons (tC (.int 1)) tNil)) (tVar 6)) (tCons (tVar 8) tNil))) Fw bw (T.glo 40 rfl) scWo rfl (fun cdg => wo_gives T cdg) TB rfl mem uniq (hr.mono (by decide)) (lamS_by (by show LamX.lamSB (defScope s__law_edges_right) _ = true; decide +kernel)) (fun E A outer s H f c' r => (pe_hasC Ha (r.mono (by decide)) (passes_call (takes_of rfl rfl rfl rfl) (fun _ _ _ _ h => h)) (pa_cons (pe_op op_repT (pe_tup (pa_cons pe_int pa_nil)) (pv 6)) (pa_cons (pv 8) pa_nil))))) (pv 7) (nomark _))
 (pss_one (ps_ret pe_bl))
 pss_nil))))
 (pss_one (ps_ret (pe_cmpR op_eq (V4.pe_lamS (ts := tsK K) (TT := TTw) (t := fun E => tCall spLeast [] E (tCons (tOp (rRepT K) (tTup (tCons (tC (.int 1)) tNil)) (tC (.int 40))) (tCons (tC (.int 8)) (tCons (tC (.int 8)) tNil)))) Fw bw (T.glo 40 rfl) scWo rfl (fun cdg => wo_gives T cdg) TB rfl mem uniq (hr.mono (by decide)) (lamS_by (by show LamX.lamSB (defScope s__law_edges_right) _ = true; decide +kernel)) (fun E A outer s H f c' r => (pe_has Hl (r.mono (by decide)) (passes_call (takes_of rfl rfl rfl rfl) (fun _ _ _ _ h => h)) (pa_cons (pe_op op_repT (pe_tup (pa_cons pe_int pa_nil)) pe_int) (pa_cons pe_int (pa_cons pe_int pa_nil)))))) pe_str (nomark _)))))))))), ?_⟩
    obtain ⟨a, rfl, hd, ht, hQ⟩ := h
    refine ⟨_, rfl, a, rfl, hd, fun H1 kp zs g1 ek ok => ⟨(by show 3 ≤ sizeLine; decide), fun o no => ⟨(by show 2 ≤ sizeLine; decide), fun pp npp => ?_⟩⟩⟩
    have t1 := tabs_go ht hd g1.sm
    have s1 := same_new (o := HO.tup [.int 0, .int 1, .int 0]) no
    have eo : upd H1 o (HO.tup [.int 0, .int 1, .int 0]) o = some (.tup [.int 0, .int 1, .int 0]) := upd_same
    have s2 := s1.trans (same_new (o := HO.tup [.ref kp, .ref o]) npp)
    refine ⟨pp, _, rfl, st_of upd_same, rfl, _, _, rfl, _, _, rfl, rfl, ?_⟩
    have ek2 := s2 _ _ ek
    have eo2 := same_new (o := HO.tup [.ref kp, .ref o]) npp _ _ eo
    have hd2 := hand_same g1.hd s2
    have t2 := V4.tabs_same t1 s2
    generalize upd (upd H1 o (HO.tup [.int 0, .int 1, .int 0])) pp (HO.tup [.ref kp, .ref o]) = H2 at ek2 eo2 hd2 t2 ⊢
    clear s1 eo s2 no npp
    have nk : kp ≠ a := fun z => by
      obtain ⟨c, cs, i1, i2, i3, i4, e, _⟩ := hd2.ex
      rw [z, e] at ek2
      cases ek2
    have hk : Dx (delH H2 a) (.ref kp) (.tuple (zs.map .str)) := .tup (by rw [delH_ne nk]; exact ek2) (by
      have q : ∀ ys : List Str, DxAll (delH H2 a) (ys.map V.str) (ys.map PyData.str) := fun ys => by
        induction ys with
        | nil => exact .nil
        | cons y ys ih => exact .cons (.str y) ih
      exact q zs)
    have ho : Dx H2 (.ref o) ord3 := .tup eo2 (.cons (.int 0) (.cons (.int 1) (.cons (.int 0) .nil)))
    dsimp only
    have hσ : (((L2.start ["purse", "kind", "order", "odd", "some", "size", "words", "due", "few"] [V.ref a]).set 1 (some (.ref kp))).set 2 (some (.ref o))) = [some (.ref a), some (.ref kp), some (.ref o), none, none, none, none, none, none] := rfl
    rw [hσ]
    clear hσ
    refine q_mky (te := teE1) (mk_e1 hd2.held ok.l1 ok.l2 hk) (Same.refl H2) fun v3 H3 s3 q3 => ?_
    have hd3 := hand_same hd2 s3
    have t3 := V4.tabs_same t2 s3
    have hk3 := Dx.same (same_del s3) _ _ hk
    have ho3 := Dx.same s3 _ _ ho
    have Dk : Dx H3 (.ref kp) (.tuple (zs.map .str)) := Dx.same same_delH _ _ hk3
    let Sg : L2.St → Prop := fun σ => ∃ o4 o5 o6 o7 o8, σ = [some (.ref a), some (.ref kp), some (.ref o), some v3, o4, o5, o6, o7, o8]
    refine q_for (ds := menuE1 zs ++ menuE2 zs) Sg ⟨_, _, _, _, _, rfl⟩ t3 (fun Q q => V4.mky_catL hd3.held (V4.mky_var q3 rfl) (mk_e2 hd3.held ok.l1 ok.l2 hk3) (by show 6 + 5 ≤ 5000; decide) H3 (Same.refl H3) _ fun p xs H' s' np e' q' => q p xs H' s' e' (DxAll.same same_delH _ _ q')) ?_ ?_
    · rintro D' x d σ' H' hd' dx ⟨o4, o5, o6, o7, o8, rfl⟩ e' t' fin
      have bad : kindD d = false ∧ shortK d := (List.mem_append.mp hd').elim (badE1 ok d) (badE2 ok d)
      refine s_all (allR_kind ord3_ok bad.1) t' (fun H4 e4 Q q => ⟨_, rfl, _, rfl, q _ _ H4 (Same.refl H4) (V4.dx_ext e4 _ _ (V4.dx_ext e' _ _ ho3)) (V4.dx_ext e4 _ _ dx)⟩) bad.2 (fun H4 Q q => q) fun H4 e4 t4 => fin _ H4 ⟨_, _, _, _, _, rfl⟩ e4 t4
    rintro σ' H4 ⟨o4, o5, o6, o7, o8, rfl⟩ e4 t4
    have ho4 := V4.dx_ext e4 _ _ ho3
    have Dk4 := V4.dx_ext e4 _ _ Dk
    refine q_for (ds := menuE3) Sg ⟨_, _, _, _, _, rfl⟩ t4 (fun Q q => (mk_e3 (H0 := H4) (a := a) (hand_ext hd3 e4).1.held) H4 (Same.refl H4) _ fun v H' s' q' => by
      obtain ⟨p, xs, rfl, e, r, l⟩ := V4.lst_at q'
      exact q p xs H' s' e (DxAll.same same_delH _ _ r)) ?_ ?_
    · rintro D' x d σ' H' hd' dx ⟨p4, p5, p6, p7, p8, rfl⟩ e' t' fin
      have bad := badE3 d hd'
      refine q_all (allR_order bad) t' (fun H5 e5 Q q => ⟨_, rfl, _, rfl, q _ _ H5 (Same.refl H5) (V4.dx_ext e5 _ _ dx) (V4.dx_ext e5 _ _ (V4.dx_ext e' _ _ Dk4))⟩) (words_short ok) (fun H5 Q q => q) fun H5 e5 t5 => ?_
      exact s_least (d2 := .int 9) (d3 := .int 9) (leastR_order bad) t5 (fun H6 e6 Q q => ⟨_, rfl, q _ _ _ H6 (Same.refl H6) (V4.dx_ext e6 _ _ (V4.dx_ext e5 _ _ dx)) (.int 9) (.int 9)⟩) (fun H6 Q q => q) fun H6 e6 t6 => fin _ H6 ⟨_, _, _, _, _, rfl⟩ (e5.trans e6) t6
    rintro σ' H5 ⟨p4, p5, p6, p7, p8, rfl⟩ e5 t5
    have ho5 := V4.dx_ext e5 _ _ ho4
    refine q_for (ds := menuE4) Sg ⟨_, _, _, _, _, rfl⟩ t5 (fun Q q => (mk_e4 (H0 := H5) (a := a) (hand_ext (hand_ext hd3 e4).1 e5).1.held) H5 (Same.refl H5) _ fun v H' s' q' => by
      obtain ⟨p, xs, rfl, e, r, l⟩ := V4.lst_at q'
      exact q p xs H' s' e (DxAll.same same_delH _ _ r)) ?_ ?_
    · rintro D' x d σ' H' hd' dx ⟨r4, r5, r6, r7, r8, rfl⟩ e' t' fin
      have bad := badE4 d hd'
      have ho' := V4.dx_ext e' _ _ ho5
      refine q_least (d3 := .int 0) (leastR_2 ord3_ok bad) t' (fun H6 e6 Q q => ⟨_, rfl, _, rfl, q _ _ _ H6 (Same.refl H6) (V4.dx_ext e6 _ _ ho') (V4.dx_ext e6 _ _ dx) (.int 0)⟩) (fun H6 Q q => q) fun H6 e6 t6 => ?_
      exact s_least (d2 := .int 0) (leastR_3 ord3_ok (by decide) bad) t6 (fun H7 e7 Q q => ⟨_, rfl, _, rfl, q _ _ _ H7 (Same.refl H7) (V4.dx_ext e7 _ _ (V4.dx_ext e6 _ _ ho')) (.int 0) (V4.dx_ext e7 _ _ (V4.dx_ext e6 _ _ dx))⟩) (fun H7 Q q => q) fun H7 e7 t7 => fin _ H7 ⟨_, _, _, _, _, rfl⟩ (e6.trans e7) t7
    rintro σ' H6 ⟨r4, r5, r6, r7, r8, rfl⟩ e6 t6
    refine q_for (ds := menuE5) Sg ⟨_, _, _, _, _, rfl⟩ t6 (fun Q q => (mk_e5 (H0 := H6) (a := a) (hand_ext (hand_ext (hand_ext hd3 e4).1 e5).1 e6).1.held) H6 (Same.refl H6) _ fun v H' s' q' => by
      obtain ⟨p, xs, rfl, e, r, l⟩ := V4.lst_at q'
      exact q p xs H' s' e (DxAll.same same_delH _ _ r)) ?_ ?_
    · rintro D' x d σ' H' hd' dx ⟨r4, r5, r6, r7, r8, rfl⟩ e' t' fin
      obtain ⟨s, w, r, rfl, er, w2, w3, ea, es⟩ := tableE5 d hd'
      obtain ⟨q, xs, rfl, eq, rq⟩ := Dx.tup_inv dx
      cases rq with | cons q1 rq =>
      cases rq with | cons q2 rq =>
      cases rq with | cons q3' rq =>
      cases rq
      obtain rfl := Dx.int_inv q1
      obtain rfl := Dx.int_inv q2
      obtain rfl := resD_v q3' er
      have hd7 := (hand_ext (hand_ext (hand_ext (hand_ext hd3 e4).1 e5).1 e6).1 e').1
      refine ⟨q, _, rfl, st_of eq, rfl, _, _, rfl, _, _, rfl, _, _, rfl, rfl, ?_⟩
      have m6 : MkY H' a (tSl (rSlA K) teE6 tNoPart (tPart (tVar 5))) [some (.ref a), some (.ref kp), some (.ref o), some v3, r4, some (.int (s : Nat)), some (.int (w : Nat)), some (resV r), r8] (.tuple (V4.cutD wordsE6 none (some ((s : Nat) : Int)))) :=
        V4.mky_cut hd7.held (mk_e6 hd7.held) (fun _ _ q => q) (fun _ _ q => ⟨_, rfl, _, rfl, q⟩)
      rw [V4.cutD_take] at m6
      refine q_mky m6 (Same.refl H') fun vf H7 s7 qf => ?_
      have qf' := Dx.same same_delH _ _ qf
      refine s_all ea (V4.tabs_same t' s7) (fun H8 e8 Q qq => ones_go w2 w3 (fun H Q q => ⟨_, rfl, q⟩) fun v1 H9 s9 x1 => ⟨_, rfl, qq _ _ H9 s9 x1 (Dx.same s9 _ _ (V4.dx_ext e8 _ _ qf'))⟩) es (fun H8 Q q => ⟨_, rfl, q⟩) fun H8 e8 t8 => fin _ H8 ⟨_, _, _, _, _, rfl⟩ ((ExtN.of s7).trans e8) t8
    rintro σ' H7 ⟨u4, u5, u6, u7, u8, rfl⟩ e7 t7
    have hd7 := (hand_ext (hand_ext (hand_ext (hand_ext hd3 e4).1 e5).1 e6).1 e7).1
    refine wleast_go (d1 := ones 40) (d2 := .int 8) (d3 := .int 8) t7 (fun H8 e8 Q qq => ones_go (w := 40) (by decide) (by decide) (fun H Q q => q) fun v1 H9 s9 x1 => qq _ _ _ H9 s9 x1 (.int 8) (.int 8)) fun H8 e8 t8 => ?_
    rw [show leastR (ones 40) (.int 8) (.int 8) = .let_ from by decide +kernel]
    exact ⟨rfl, hQ H8 (hand_ext hd7 e8).1 t8⟩
end
end K37

set_option maxHeartbeats 4000000
namespace K37
open PySem PySem.Spec PyProof.Rows L2 V1 V2 V3 LamX
open Evl (pss_cut tCut sq_of st_of)
open V4 (Shw)
theorem scLaw : FnScope ["script", "purse", "turn", "words", "order", "at", "kind", "due", "lost", "turned", "word", "before"] ["script"] (defScope s_law) := ⟨rfl, rfl, rfl, by decide +kernel, rfl, by decide +kernel, by decide +kernel⟩
def spLaw (K : PySem.W.Frag) : Sp := fun vs H Q _ => ∃ (a : Addr) (ns : List Int), vs = [.ref a] ∧ SqL K H a (ns.map V.int) ∧ ns.length ≤ 63 ∧ Tabs (tsK K) H ∧ ∀ H', Q (.bl true) H'
section
variable [CurK]
/-- the purse and the tables stand -/
def BI (a : Addr) (H : Hp) : Prop := HandAt H a ∧ Tabs (tsK K) H
theorem BI.go {a : Addr} {H H' : Hp} (b : BI a H) (g : Go a H H') : BI a H' := ⟨g.hd, tabs_go b.2 b.1 g.sm⟩
theorem BI.new {a : Addr} {H H' : Hp} (b : BI a H) (s : Same H H') : BI a H' := b.go (Go.new b.1 s)
/-- what stands in a turn of the law's loop: order, a kind, and what is due -/
def M0 (a : Addr) (σ : L2.St) (H : Hp) : Prop := ∃ o0 o2 o3 o5 o8 o9 o10 o11 ov kv, ∃ (os : List Int) (zs : List Str), σ = [o0, some (.ref a), o2, o3, some ov, o5, some kv, some (resV (allR (.tuple (os.map .int)) (.tuple (zs.map .str)))), o8, o9, o10, o11] ∧
  BI a H ∧ Dx (delH H a) ov (.tuple (os.map .int)) ∧ OrdL os ∧ Dx (delH H a) kv (.tuple (zs.map .str)) ∧ KindL zs
/-- the same, the kind perhaps none -/
def M1 (a : Addr) (σ : L2.St) (H : Hp) : Prop := ∃ o0 o2 o3 o5 o8 o9 o10 o11 ov kv, ∃ (os : List Int) (dk : PyData), σ = [o0, some (.ref a), o2, o3, some ov, o5, some kv, some (resV (allR (.tuple (os.map .int)) dk)), o8, o9, o10, o11] ∧
  BI a H ∧ Dx (delH H a) ov (.tuple (os.map .int)) ∧ OrdL os ∧ Dx (delH H a) kv dk ∧ shortK dk ∧ Shw dk
/-- and lost, turned, and the word for them -/
def M2 (a : Addr) (σ : L2.St) (H : Hp) : Prop := ∃ o0 o2 o3 o5 o11 ov kv lv tv, ∃ (os : List Int) (dk ld td : PyData), σ = [o0, some (.ref a), o2, o3, some ov, o5, some kv, some (resV (allR (.tuple (os.map .int)) dk)), some lv, some tv, some (resV (leastR (.tuple (os.map .int)) ld td)), o11] ∧
  BI a H ∧ Dx (delH H a) ov (.tuple (os.map .int)) ∧ OrdL os ∧ Dx (delH H a) kv dk ∧ shortK dk ∧ Shw dk ∧ Dx (delH H a) lv ld ∧ Shw ld ∧ Dx (delH H a) tv td ∧ Shw td
/-- and the order perhaps none -/
def M3 (a : Addr) (σ : L2.St) (H : Hp) : Prop := ∃ o0 o2 o3 o5 o11 ov kv lv tv, ∃ (od dk ld td : PyData), σ = [o0, some (.ref a), o2, o3, some ov, o5, some kv, some (resV (allR od dk)), some lv, some tv, some (resV (leastR od ld td)), o11] ∧
  BI a H ∧ Dx (delH H a) ov od ∧ Shw od ∧ Dx (delH H a) kv dk ∧ shortK dk ∧ Shw dk ∧ Dx (delH H a) lv ld ∧ Shw ld ∧ Dx (delH H a) tv td ∧ Shw td
theorem M1.go {a : Addr} {σ : L2.St} {H H' : Hp} (m : M1 a σ H) (g : Go a H H') : M1 a σ H' := by
  obtain ⟨o0, o2, o3, o5, o8, o9, o10, o11, ov, kv, os, dk, e, b, h1, h2, h3, h4, h5⟩ := m
  exact ⟨o0, o2, o3, o5, o8, o9, o10, o11, ov, kv, os, dk, e, b.go g, g.dx h1, h2, g.dx h3, h4, h5⟩
theorem M2.go {a : Addr} {σ : L2.St} {H H' : Hp} (m : M2 a σ H) (g : Go a H H') : M2 a σ H' := by
  obtain ⟨o0, o2, o3, o5, o11, ov, kv, lv, tv, os, dk, ld, td, e, b, h1, h2, h3, h4, h5, h6, h7, h8, h9⟩ := m
  exact ⟨o0, o2, o3, o5, o11, ov, kv, lv, tv, os, dk, ld, td, e, b.go g, g.dx h1, h2, g.dx h3, h4, h5, g.dx h6, h7, g.dx h8, h9⟩
theorem if_draw {thn : TS} {D : Ends} {σ : L2.St} {H : Hp} {p : Addr} (b : BI p H) (h : σ[1]? = some (some (.ref p))) {m : Int} (m0 : 0 < m) (m1 : m < 1000000000) (yes : ∀ H', Go p H H' → thn D σ H') (no : ∀ H', Go p H H' → D.nx σ H') :
    tIfS (tTest (tOp rEq (tCall spDraw [] (fun _ _ _ => False) (tCons (tVar 1) (tCons (tC (.int m)) tNil))) (tC (.int 0)))) thn tNext D σ H :=
  ⟨_, h, p, m, rfl, b.1, m0, m1, fun H' r h1 h2 h3 r0 r1 => ⟨rfl, _, rfl, ite2 (fun _ => yes H' (Go.draw h1 h2 h3)) (fun _ => no H' (Go.draw h1 h2 h3))⟩⟩
theorem shw_ord {os : List Int} (h : OrdL os) : Shw (.tuple (os.map .int)) := V4.shw_tup (k := 40) (ords_gd h) (by rw [List.length_map]; exact h.l2) (by decide) (by decide)
theorem shw_kind {zs : List Str} (h : KindL zs) : Shw (.tuple (zs.map .str)) := V4.shw_tup (k := 4) (words_gd h) (by rw [List.length_map]; exact h.l2) (by decide) (by decide)
theorem shw_int {r : Int} (h0 : 0 ≤ r) (h1 : r < 9) : Shw (.int r) := ⟨rfl, (good_int h0 (by omega)).mono (by decide) (by decide)⟩
theorem leastR_any {d1 d2 d3 : PyData} (h1 : orderD 2 d1 = true) (h : fromTo 0 8 d3 = false) : leastR d1 d2 d3 = .number := by
  unfold leastR
  rw [if_pos h1]
  by_cases q : fromTo 0 8 d2 = true
  · rw [if_pos q, if_neg (by rw [h]; decide)]
  · rw [if_neg q]
theorem leastR_let {d1 : PyData} {r t : Int} (h1 : orderD 2 d1 = true) (r0 : 0 ≤ r) (r1 : r < 9) (t0 : 0 ≤ t) (t1 : t < 9) : leastR d1 (.int r) (.int t) = .let_ := by
  have f : ∀ x : Int, 0 ≤ x → x < 9 → fromTo 0 8 (.int x) = true := fun x a b => by
    show (decide (0 ≤ x) && decide (x ≤ 8)) = true
    rw [decide_eq_true a, decide_eq_true (by omega)]
    rfl
  unfold leastR
  rw [if_pos h1, if_pos (f r r0 r1), if_pos (f t t0 t1)]
theorem due_many {os : List Int} {zs : List Str} {z : Nat} (h : OrdL os) (k : KindL zs) (lo : os.length = z) (q : 4000 < (rowsN (zs.length : Nat) z).1) : allR (.tuple (os.map .int)) (.tuple (zs.map .str)) = .many := by
  unfold allR
  rw [if_pos (orderD_of h), if_pos (kindD_of k), if_pos]
  show 4000 < (rowsN ((zs.map PyData.str).length : Nat) (os.map PyData.int).length).1
  rw [List.length_map, List.length_map, lo]
  exact q
theorem due_let {os : List Int} {zs : List Str} {z : Nat} (h : OrdL os) (k : KindL zs) (lo : os.length = z) (q : ¬ 4000 < (rowsN (zs.length : Nat) z).1) : allR (.tuple (os.map .int)) (.tuple (zs.map .str)) = .let_ := by
  unfold allR
  rw [if_pos (orderD_of h), if_pos (kindD_of k), if_neg]
  show ¬ 4000 < (rowsN ((zs.map PyData.str).length : Nat) (os.map PyData.int).length).1
  rw [List.length_map, List.length_map, lo]
  exact q
theorem rep4 {H : Hp} {a q : Addr} {v1 v2 v3 v4 : V} {d1 d2 d3 d4 : PyData} (nq : H q = none) (x1 : Dx (delH H a) v1 d1) (y1 : Shw d1) (x2 : Dx (delH H a) v2 d2) (y2 : Shw d2) (x3 : Dx (delH H a) v3 d3) (y3 : Shw d3) (x4 : Dx (delH H a) v4 d4) (y4 : Shw d4) :
    Dq (upd H q (HO.tup [v1, v2, v3, v4])) (.ref q) (.tuple [d1, d2, d3, d4]) ∧ (PyData.tuple [d1, d2, d3, d4]).showable = true ∧ (PyData.tuple [d1, d2, d3, d4]).depth ≤ 60 ∧ (PyData.tuple [d1, d2, d3, d4]).shown.length ≤ sizeLine := by
  have t : ∀ {v : V} {d : PyData}, Dx (delH H a) v d → Dx (upd H q (HO.tup [v1, v2, v3, v4])) v d := fun h => Dx.same (same_new nq) _ _ (Dx.same same_delH _ _ h)
  have g := V4.good_tupN (ds := [d1, d2, d3, d4]) (b := 50) (n := 100000) (k := 4) (by
    intro d hd
    simp only [List.mem_cons, List.not_mem_nil, or_false] at hd
    rcases hd with rfl | rfl | rfl | rfl
    · exact y1.gd
    · exact y2.gd
    · exact y3.gd
    · exact y4.gd) (by show 4 ≤ 4; decide)
  exact ⟨V4.dq_of2 _ _ (by simp only [V4.noOb, V4.noObAll, y1.no, y2.no, y3.no, y4.no, Bool.and_self]) (.tup upd_same (.cons (t x1) (.cons (t x2) (.cons (t x3) (.cons (t x4) .nil))))), g.sh, Nat.le_trans g.dp (by decide), Nat.le_trans g.ln (by decide)⟩
end
section
variable [CurK] {P : Program} {w : World} {mg : Str → Option Value} {base : Heap}
theorem ok_law (T : Tx K mg) : ∃ fd, (∀ base : Heap, (∀ x ∈ lamN, TabB base mg (V4.pairOf K (He.ga K x)).1 (V4.pairOf K (He.ga K x)).2) → LawOk P w K mg base (He.ga K "law") fd "script" (spLaw K)) ∧ ∀ (s : Shared) (u : Value), BindsTo s fd ⟨[u], []⟩ [("script", u)] := by
  obtain ⟨fd, F⟩ := T.c.def_ 30 (d := d_law) rfl
  obtain ⟨fdW, Fw⟩ := T.c.def_ 23 (d := d__law_word_of) rfl
  have bw : L2.Binds K fdW ["call"] [] := FunD.bindsN Fw fun _ _ _ _ _ _ us hl => match us, hl with | [_], _ => rfl
  have bind := FunD.bindsA (ps := ["script"]) F fun _ _ _ _ _ _ us hl => match us, hl with | [_], _ => rfl
  refine ⟨fd, fun base TBs => ?_, fun s u => bind s [u] rfl⟩
  have TB := TBs "law" (by decide)
  have Ha := ok_all (P := P) (w := w) (base := base) T
  have Hl := ok_least (P := P) (w := w) (base := base) T
  have Hk := ok_lkind (P := P) (w := w) (base := base) T
  have Hpu := ok_purse (P := P) (w := w) (base := base) T
  have Hs := ok_some (P := P) (w := w) (base := base) T
  have Hd := ok_draw (P := P) (w := w) (base := base) T
  have Hr := ok_lrows (P := P) (w := w) (base := base) T
  have Hbk := ok_badK (P := P) (w := w) (base := base) T
  have Hbo := ok_badO (P := P) (w := w) (base := base) T
  have Hbn := ok_badN (P := P) (w := w) (base := base) T
  have Hed := ok_ed (P := P) (w := w) (base := base) T (TBs "_law_edges_right" (by decide))
  have LD := T.lam "law" (by decide)
  have mem : ((V4.pairOf K (He.ga K "law")).2, (("law" : Str) ++ ".<locals>.") ++ "<lambda>") ∈ tsK K := List.mem_map.mpr ⟨"law", by decide, rfl⟩
  have uniq := ts_uniq T (x := "law") (by decide)
  refine V4.lawOkC (k := 50) F LD scLaw ⟨rfl, by decide, by decide⟩ fun s H v0 Q hr gd h => ?_
  refine ⟨_, PSs.nox (pss_cons (ps_set (i := 1) scLaw.nd rfl (Or.inr rfl) (pe_has Hpu (hr.mono (by decide)) pass0 (pa_cons (pv 0) pa_nil)))
 (pss_cons (ps_if (pt_not (pt_val (pe_has Hed (hr.mono (by decide)) pass0 (pa_cons (pv 1) pa_nil))))
 (pss_one (ps_ret pe_bl))
 pss_nil)
 (pss_cons (ps_for PassesOwn.never rfl (pi_range1 (by rfl) (T.free 58 rfl) (pa_cons pe_int pa_nil)) (pg_name (i := 2) scLaw.nd rfl (Or.inl rfl))
 (pss_cons (ps_set (i := 3) scLaw.nd rfl (Or.inl rfl) (pe_has Hs (hr.mono (by decide)) pass0 (pa_cons (pv 1) (pa_cons (pe_lstS (pa_cons pe_int (pa_cons pe_int (pa_cons pe_int (pa_cons pe_int (pa_cons pe_int (pa_cons pe_int (pa_cons pe_int (pa_cons pe_int (pa_cons pe_int (pa_cons pe_int (pa_cons pe_int pa_nil)))))))))))) pa_nil))))
 (pss_cons (ps_asg (pe_tup (pa_cons (pe_callTy call_tuple_of (by rfl) (T.free 63 rfl) (by decide +kernel) (pa_cons (pe_lc (own := [("at", 5)]) (g := gName 5) (tt := tYes) (te := tCall spDraw [] (fun _ _ _ => False) (tCons (tVar 1) (tCons (tC (.int 2)) tNil))) (by rfl) scLaw.nd (pi_range1 (by rfl) (T.free 58 rfl) (pa_cons (pv 3) pa_nil))
 (blkOk_by (own := [("at", 5)]) (N := ["script", "purse", "turn", "words", "order", "at", "kind", "due", "lost", "turned", "word", "before"]) (sc := defScope s_law) (by decide +kernel)) (fun _ _ _ _ _ => pg_name (i := 5) scLaw.nd rfl (Or.inl rfl)) (fun _ _ _ _ _ => pts_nil) (fun _ _ _ _ _ => (pe_has Hd (hr.mono (by decide)) pass0 (pa_cons (pv 1) (pa_cons pe_int pa_nil))))) pa_nil)) (pa_cons (pe_has Hk (hr.mono (by decide)) pass0 (pa_cons (pv 1) pa_nil)) pa_nil))) (pg_tup (by rfl) (pgs_cons (pg_name (i := 4) scLaw.nd rfl (Or.inr rfl)) (pgs_cons (pg_name (i := 6) scLaw.nd rfl (Or.inr rfl)) pgs_nil))))
 (pss_cut (ps_set (i := 7) scLaw.nd rfl (Or.inl rfl) (pe_ifExp (pt_cmpR op_gt (pe_has Hr (hr.mono (by decide)) pass0 (pa_cons (pv 3) (pa_cons (pe_callB call_len (by rfl) (T.free 55 rfl) PySem.boot_len (pa_cons (pv 6) pa_nil)) pa_nil))) pe_int (nomark _)) pe_int pe_str))
 (pss_cut (ps_if (pt_cmpR op_eq (pe_has Hd (hr.mono (by decide)) pass0 (pa_cons (pv 1) (pa_cons pe_int pa_nil))) pe_int (nomark _))
 (pss_one (ps_asg (pe_tup (pa_cons (pe_has Hbk (hr.mono (by decide)) pass0 (pa_cons (pv 1) (pa_cons (pv 6) pa_nil))) (pa_cons pe_str pa_nil))) (pg_tup (by rfl) (pgs_cons (pg_name (i := 6) scLaw.nd rfl (Or.inr rfl)) (pgs_cons (pg_name (i := 7) scLaw.nd rfl (Or.inl rfl)) pgs_nil)))))
 pss_nil)
 (pss_cons (ps_asg (pe_tup (pa_cons (pe_has Hd (hr.mono (by decide)) pass0 (pa_cons (pv 1) (pa_cons pe_int pa_nil))) (pa_cons (pe_has Hd (hr.mono (by decide)) pass0 (pa_cons (pv 1) (pa_cons pe_int pa_nil))) (pa_cons pe_str pa_nil)))) (pg_tup (by rfl) (pgs_cons (pg_name (i := 8) scLaw.nd rfl (Or.inr rfl)) (pgs_cons (pg_name (i := 9) scLaw.nd rfl (Or.inr rfl)) (pgs_cons (pg_name (i := 10) scLaw.nd rfl (Or.inl rfl)) pgs_nil)))))
 (pss_cut (ps_if (pt_cmpR op_eq (pe_has Hd (hr.mono (by decide)) pass0 (pa_cons (pv 1) (pa_cons pe_int pa_nil))) pe_int (nomark _))
 (pss_one (ps_asg (pe_tup (pa_cons (pe_has Hbn (hr.mono (by decide)) pass0 (pa_cons (pv 1) pa_nil)) (pa_cons pe_str pa_nil))) (pg_tup (by rfl) (pgs_cons (pg_name (i := 8) scLaw.nd rfl (Or.inr rfl)) (pgs_cons (pg_name (i := 10) scLaw.nd rfl (Or.inl rfl)) pgs_nil)))))
 pss_nil)
 (pss_cut (ps_if (pt_cmpR op_eq (pe_has Hd (hr.mono (by decide)) pass0 (pa_cons (pv 1) (pa_cons pe_int pa_nil))) pe_int (nomark _))
 (pss_one (ps_asg (pe_tup (pa_cons (pe_has Hbn (hr.mono (by decide)) pass0 (pa_cons (pv 1) pa_nil)) (pa_cons pe_str pa_nil))) (pg_tup (by rfl) (pgs_cons (pg_name (i := 9) scLaw.nd rfl (Or.inr rfl)) (pgs_cons (pg_name (i := 10) scLaw.nd rfl (Or.inl rfl)) pgs_nil)))))
 pss_nil)
 (pss_cut (ps_if (pt_cmpR op_eq (pe_has Hd (hr.mono (by decide)) pass0 (pa_cons (pv 1) (pa_cons pe_int pa_nil))) pe_int (nomark _))
 (pss_one (ps_asg (pe_tup (pa_cons (pe_has Hbo (hr.mono (by decide)) pass0 (pa_cons (pv 1) (pa_cons (pv 4) pa_nil))) (pa_cons pe_str (pa_cons pe_str pa_nil)))) (pg_tup (by rfl) (pgs_cons (pg_name (i := 4) scLaw.nd rfl (Or.inr rfl)) (pgs_cons (pg_name (i := 7) scLaw.nd rfl (Or.inl rfl)) (pgs_cons (pg_name (i := 10) scLaw.nd rfl (Or.inl rfl)) pgs_nil))))))
 pss_nil)
 (pss_cons (ps_set (i := 11) scLaw.nd rfl (Or.inl rfl) (pe_callB (call_repr gd hr.units) (by rfl) (T.free 59 rfl) (by decide +kernel) (pa_cons (pe_tup (pa_cons (pv 4) (pa_cons (pv 6) (pa_cons (pv 8) (pa_cons (pv 9) pa_nil))))) pa_nil)))
 (pss_cons (ps_if (pt_cmpR op_ne (V4.pe_lamS (ts := tsK K) (TT := TTw) (t := fun E => tMake (He.ga K "AllAhead") spAll [] E (tCons (tVar 4) (tCons (tVar 6) tNil))) Fw bw (T.glo 40 rfl) scWo rfl (fun cdg => wo_gives T cdg) TB rfl mem uniq (hr.mono (by decide)) (lamS_by (by show LamX.lamSB (defScope s_law) _ = true; decide +kernel)) (fun E A outer s H f c' r => (pe_hasC Ha (r.mono (by decide)) (passes_call (takes_of rfl rfl rfl rfl) (fun _ _ _ _ h => h)) (pa_cons (pv 4) (pa_cons (pv 6) pa_nil))))) (pv 7) (nomark _))
 (pss_one (ps_ret pe_bl))
 pss_nil)
 (pss_cons (ps_if (pt_cmpR op_ne (V4.pe_lamS (ts := tsK K) (TT := TTw) (t := fun E => tCall spLeast [] E (tCons (tVar 4) (tCons (tVar 8) (tCons (tVar 9) tNil)))) Fw bw (T.glo 40 rfl) scWo rfl (fun cdg => wo_gives T cdg) TB rfl mem uniq (hr.mono (by decide)) (lamS_by (by show LamX.lamSB (defScope s_law) _ = true; decide +kernel)) (fun E A outer s H f c' r => (pe_has Hl (r.mono (by decide)) (passes_call (takes_of rfl rfl rfl rfl) (fun _ _ _ _ h => h)) (pa_cons (pv 4) (pa_cons (pv 8) (pa_cons (pv 9) pa_nil)))))) (pv 10) (nomark _))
 (pss_one (ps_ret pe_bl))
 pss_nil)
 (pss_one (ps_if (pt_cmpR op_ne (pe_callB (call_repr gd hr.units) (by rfl) (T.free 59 rfl) (by decide +kernel) (pa_cons (pe_tup (pa_cons (pv 4) (pa_cons (pv 6) (pa_cons (pv 8) (pa_cons (pv 9) pa_nil))))) pa_nil)) (pv 11) (nomark _))
 (pss_one (ps_ret pe_bl))
 pss_nil))))))))))))))
 (pss_one (ps_ret pe_bl))))), ?_⟩
  obtain ⟨a, ns, e0, hS, hl, hT, hQ⟩ := h
  cases e0
  refine ⟨_, rfl, a, ns, rfl, hS, hl, fun H1 p s1 np hd => ?_⟩
  have b1 : BI p H1 := ⟨hd, V4.tabs_same hT s1⟩
  refine ⟨_, rfl, p, rfl, b1.1, b1.2, fun H2 hd2 t2 => ⟨true, rfl, iteF ?_⟩⟩
  have b2 : BI p H2 := ⟨hd2, t2⟩
  refine ⟨8, rfl, by decide, by decide, ?_⟩
  rw [show (8 : Int).toNat = 8 from rfl]
  refine for_it (walk_range (lo := 0) (n := 8)) (fun i σ H' => BI p H' ∧ ∃ o0 o2 o3 o4 o5 o6 o7 o8 o9 o10 o11, σ = [o0, some (.ref p), o2, o3, o4, o5, o6, o7, o8, o9, o10, o11]) ⟨b2, _, _, _, _, _, _, _, _, _, _, _, rfl⟩ (fun _ _ _ _ _ => True.intro) ?_ (fun σ H' _ => hQ H')
  rintro i x σ H3 H4 hi ⟨b3, o0, o2, o3, o4, o5, o6, o7, o8, o9, o10, o11, rfl⟩ ⟨rfl, rfl⟩
  -- the words
  refine ⟨_, rfl, (by show 11 ≤ sizeLine; decide), fun q nq _ => some_ints [1, 2, 3, 5, 6, 7, 8, 9, 11, 12, 40] b3.1 nq (by decide) (by decide) (by decide) fun H5 z g5 hz => ?_⟩
  have z1 : 1 ≤ z ∧ z ≤ 40 := by
    simp only [List.mem_cons, List.not_mem_nil, or_false] at hz
    omega
  have b5 := b3.go g5
  obtain ⟨c, cs, hce, nca, hc⟩ := b5.1.cells
  refine ⟨_, rfl, z, rfl, by omega, by omega, fun D nD => ?_⟩
  rw [Int.toNat_natCast]
  have Da : D ≠ p := b5.1.ne_new nD
  have cD : c ≠ D := fun w => by
    rw [← w, hc] at nD
    cases nD
  refine lc_gen (σ := [o0, some (.ref p), some (.int (0 + (i : Nat))), some (.int ((z : Nat) : Int)), o4, o5, o6, o7, o8, o9, o10, o11]) (vs := [5]) (walk_range (lo := 0) (n := z)) nD (fun j acc H' => Go p H5 H' ∧ ∃ os : List Int, acc = os.map V.int ∧ os.length = j ∧ ∀ x ∈ os, 0 ≤ x ∧ x < 2) ⟨Go.refl b5.1, [], rfl, rfl, fun _ h => absurd h List.not_mem_nil⟩ (fun _ _ _ _ _ => True.intro) ?_ ?_
  · rintro j acc x H6 H7 hj l e ⟨g6, os, rfl, lo, ho⟩ ⟨rfl, rfl⟩
    refine ⟨rfl, ?_⟩
    simp only [tYes, if_true]
    refine ⟨_, rfl, p, 2, rfl, hand_same g6.hd same_delH, by decide, by decide, fun H8 r hd8 e8 c8 r0 r1 => ?_⟩
    obtain ⟨g8, eD⟩ := g6.draw_in hce cD Da hd8 e8 c8
    exact lc_put l (by omega) (eD.trans e) ⟨g8, os ++ [r], by rw [List.map_append]; rfl, by rw [List.length_append, lo]; rfl, fun y h => by
      rcases List.mem_append.mp h with h | h
      · exact ho y h
      · rw [List.mem_singleton.mp h]
        exact ⟨r0, r1⟩⟩
  rintro acc H6 l e ⟨g6, os, rfl, lo, ho⟩
  have ordl : OrdL os := ⟨by omega, by omega, ho⟩
  have g6' := g6.undel Da
  have b6 := b5.go g6'
  refine ⟨D, _, rfl, .inl ⟨sq_of e, fun ol nol => ?_⟩⟩
  have s7 := same_new (o := HO.tup (os.map V.int)) nol
  have eo : upd H6 ol (HO.tup (os.map V.int)) ol = some (.tup (os.map V.int)) := upd_same
  have b7 := b6.new s7
  generalize upd H6 ol (HO.tup (os.map V.int)) = H7 at s7 eo b7 ⊢
  refine ⟨_, rfl, p, rfl, b7.1, fun H8 kp zs g8 ek ok => ⟨(by show 2 ≤ sizeLine; decide), fun pq npq => ⟨pq, _, rfl, st_of upd_same, rfl, _, _, rfl, _, _, rfl, rfl, ?_⟩⟩⟩
  have s9 := same_new (o := HO.tup [.ref ol, .ref kp]) npq
  have b8 := b7.go g8
  have b9 := b8.new s9
  have no' : ∀ {H : Hp} {q : Addr} {xs : List V}, HandAt H p → H q = some (.tup xs) → q ≠ p := fun {H q xs} hh e w => by
    obtain ⟨c, cs, i1, i2, i3, i4, e1, _⟩ := hh.ex
    rw [w, e1] at e
    cases e
  have eo9 := Same.trans g8.sm (same_del s9) _ _ (by rw [delH_ne (no' b7.1 eo)]; exact eo : delH H7 p ol = some (.tup (os.map V.int)))
  have ek9 : delH (upd H8 pq (HO.tup [.ref ol, .ref kp])) p kp = some (.tup (zs.map V.str)) := by
    rw [delH_ne (no' b8.1 ek)]
    exact s9 _ _ ek
  have dk9 : Dx (delH (upd H8 pq (HO.tup [.ref ol, .ref kp])) p) (.ref kp) (.tuple (zs.map .str)) := .tup ek9 (by
    have q : ∀ (G : Hp) (ys : List Str), DxAll G (ys.map V.str) (ys.map PyData.str) := fun G ys => by
      induction ys with
      | nil => exact .nil
      | cons y ys ih => exact .cons (.str y) ih
    exact q _ zs)
  have do9 : Dx (delH (upd H8 pq (HO.tup [.ref ol, .ref kp])) p) (.ref ol) (.tuple (os.map .int)) := .tup eo9 (by
    have q : ∀ (G : Hp) (ys : List Int), DxAll G (ys.map V.int) (ys.map PyData.int) := fun G ys => by
      induction ys with
      | nil => exact .nil
      | cons y ys ih => exact .cons (.int y) ih
    exact q _ os)
  generalize upd H8 pq (HO.tup [.ref ol, .ref kp]) = H9 at s9 b9 eo9 ek9 dk9 do9 ⊢
  clear eo ek s7 no' nol npq
  refine ⟨M0 p, ⟨_, rfl, _, rfl, .ref kp, zs.length, rfl, .inr ⟨zs.map V.str, st_of (by have := ek9; rw [delH_ne (fun w => by rw [w, delH_same] at this; cases this)] at this; exact this), by rw [List.length_map]⟩, zs.length, z, rfl, by omega, by have := ok.l2; omega, by omega, fun H10 s10 => ⟨_, _, rfl, rfl, _, rfl, ite2 (fun q => ?_) (fun q => ?_)⟩⟩, fun σ1 H11 m0 => ?_⟩
  · exact ⟨_, _, _, _, _, _, _, _, _, _, os, zs, by rw [due_many ordl ok lo (of_decide_eq_true q)]; rfl, b9.new s10, Dx.same (same_del s10) _ _ do9, ordl, Dx.same (same_del s10) _ _ dk9, ok⟩
  · exact ⟨_, _, _, _, _, _, _, _, _, _, os, zs, by rw [due_let ordl ok lo (fun w => q (decide_eq_true w))]; rfl, b9.new s10, Dx.same (same_del s10) _ _ do9, ordl, Dx.same (same_del s10) _ _ dk9, ok⟩
  refine ⟨M1 p, ?_, fun σ2 H12 m1 => ?_⟩
  · obtain ⟨q0, q2, q3, q5, q8, q9, q10, q11, ov, kv, os, zs, rfl, b, x1, x2, x3, x4⟩ := m0
    refine if_draw b rfl (by decide) (by decide) (fun H13 g => ?_) (fun H13 g => ?_)
    · refine ⟨_, rfl, _, rfl, p, kv, zs, rfl, g.hd, g.dx x3, x4, fun H14 u d g2 qd bad => ⟨(by show 2 ≤ sizeLine; decide), fun pq npq => ⟨pq, _, rfl, st_of upd_same, rfl, _, _, rfl, _, _, rfl, rfl, ?_⟩⟩⟩
      have g3 := (g.trans g2).trans (Go.new g2.hd (same_new (o := HO.tup [u, .str "kind"]) npq))
      exact ⟨_, _, _, _, _, _, _, _, ov, u, os, d, by rw [allR_kind (orderD_of x2) bad.no]; rfl, b.go g3, g3.dx x1, x2, Dx.same (same_del (same_new npq)) _ _ qd, bad.st, bad.sh⟩
    · exact ⟨_, _, _, _, _, _, _, _, ov, kv, os, _, rfl, b.go g, g.dx x1, x2, g.dx x3, words_short x4, shw_kind x4⟩
  obtain ⟨q0, q2, q3, q5, q8, q9, q10, q11, ov, kv, os, dk, rfl, b, x1, x2, x3, x4, x5⟩ := m1
  refine ⟨_, rfl, p, 9, rfl, b.1, by decide, by decide, fun H13 r h1 h2 h3 r0 r1 => ⟨_, rfl, p, 9, rfl, h1, by decide, by decide, fun H14 t h4 h5 h6 t0 t1 => ⟨(by show 3 ≤ sizeLine; decide), fun pq npq => ⟨pq, _, rfl, st_of upd_same, rfl, _, _, rfl, _, _, rfl, _, _, rfl, rfl, ?_⟩⟩⟩⟩
  have g3 := ((Go.draw h1 h2 h3).trans (Go.draw h4 h5 h6)).trans (Go.new h4 (same_new (o := HO.tup [.int r, .int t, .str "let"]) npq))
  refine ⟨M2 p, ?_, fun σ3 H15 m2 => ?_⟩
  · refine if_draw (b.go g3) rfl (by decide) (by decide) (fun H16 g => ?_) (fun H16 g => ?_)
    · refine ⟨_, rfl, p, rfl, g.hd, fun H17 u d g2 qd bad => ⟨(by show 2 ≤ sizeLine; decide), fun pr npr => ⟨pr, _, rfl, st_of upd_same, rfl, _, _, rfl, _, _, rfl, rfl, ?_⟩⟩⟩
      have g4 := (g3.trans (g.trans g2)).trans (Go.new g2.hd (same_new (o := HO.tup [u, .str "number"]) npr))
      exact ⟨_, _, _, _, _, ov, kv, u, .int t, os, dk, d, .int t, by rw [leastR_2 (orderD_of x2) bad.no]; rfl, b.go g4, g4.dx x1, x2, g4.dx x3, x4, x5, Dx.same (same_del (same_new npr)) _ _ qd, bad.sh, .int t, shw_int t0 t1⟩
    · have g4 := g3.trans g
      exact ⟨_, _, _, _, _, ov, kv, .int r, .int t, os, dk, .int r, .int t, by rw [leastR_let (orderD_of x2) r0 r1 t0 t1]; rfl, b.go g4, g4.dx x1, x2, g4.dx x3, x4, x5, .int r, shw_int r0 r1, .int t, shw_int t0 t1⟩
  refine ⟨M2 p, ?_, fun σ4 H16 m3 => ?_⟩
  · obtain ⟨p0, p2, p3, p5, p11, ov, kv, lv, tv, os, dk, ld, td, rfl, b, x1, x2, x3, x4, x5, x6, x7, x8, x9⟩ := m2
    refine if_draw b rfl (by decide) (by decide) (fun H17 g => ?_) (fun H17 g => ?_)
    · refine ⟨_, rfl, p, rfl, g.hd, fun H18 u d g2 qd bad => ⟨(by show 2 ≤ sizeLine; decide), fun pr npr => ⟨pr, _, rfl, st_of upd_same, rfl, _, _, rfl, _, _, rfl, rfl, ?_⟩⟩⟩
      have g4 := (g.trans g2).trans (Go.new g2.hd (same_new (o := HO.tup [u, .str "number"]) npr))
      exact ⟨_, _, _, _, _, ov, kv, lv, u, os, dk, ld, d, by rw [leastR_any (orderD_of x2) bad.no]; rfl, b.go g4, g4.dx x1, x2, g4.dx x3, x4, x5, g4.dx x6, x7, Dx.same (same_del (same_new npr)) _ _ qd, bad.sh⟩
    · exact ⟨_, _, _, _, _, ov, kv, lv, tv, os, dk, ld, td, rfl, b.go g, g.dx x1, x2, g.dx x3, x4, x5, g.dx x6, x7, g.dx x8, x9⟩
  refine ⟨M3 p, ?_, fun σ5 H17 m4 => ?_⟩
  · obtain ⟨p0, p2, p3, p5, p11, ov, kv, lv, tv, os, dk, ld, td, rfl, b, x1, x2, x3, x4, x5, x6, x7, x8, x9⟩ := m3
    refine if_draw b rfl (by decide) (by decide) (fun H17 g => ?_) (fun H17 g => ?_)
    · refine ⟨_, rfl, _, rfl, p, ov, os, rfl, g.hd, g.dx x1, x2, fun H18 u d g2 qd bad => ⟨(by show 3 ≤ sizeLine; decide), fun pr npr => ⟨pr, _, rfl, st_of upd_same, rfl, _, _, rfl, _, _, rfl, _, _, rfl, rfl, ?_⟩⟩⟩
      have g4 := (g.trans g2).trans (Go.new g2.hd (same_new (o := HO.tup [u, .str "order", .str "order"]) npr))
      exact ⟨_, _, _, _, _, u, kv, lv, tv, d, dk, ld, td, by rw [allR_order bad.no, leastR_order bad.no]; rfl, b.go g4, Dx.same (same_del (same_new npr)) _ _ qd, bad.sh, g4.dx x3, x4, x5, g4.dx x6, x7, g4.dx x8, x9⟩
    · exact ⟨_, _, _, _, _, ov, kv, lv, tv, _, dk, ld, td, rfl, b.go g, g.dx x1, shw_ord x2, g.dx x3, x4, x5, g.dx x6, x7, g.dx x8, x9⟩
  obtain ⟨p0, p2, p3, p5, p11, ov, kv, lv, tv, od, dk, ld, td, rfl, b, x1, x2, x3, x4, x5, x6, x7, x8, x9⟩ := m4
  refine ⟨_, rfl, _, rfl, _, rfl, _, rfl, (by show 4 ≤ sizeLine; decide), fun q nq => ?_⟩
  obtain ⟨y1, y2, y3, y4⟩ := rep4 nq x1 x2 x3 x5 x6 x7 x8 x9
  refine ⟨_, _, rfl, y1, y2, y3, y4, ?_⟩
  have s18 := same_new (o := HO.tup [ov, kv, lv, tv]) nq
  have b18 := b.new s18
  generalize upd H17 q (HO.tup [ov, kv, lv, tv]) = H18 at s18 b18 ⊢
  have w1 := Dx.same (same_del s18) _ _ x1
  have w3 := Dx.same (same_del s18) _ _ x3
  have w6 := Dx.same (same_del s18) _ _ x6
  have w8 := Dx.same (same_del s18) _ _ x8
  dsimp only
  refine q_all rfl b18.2 (fun H19 e19 Q qq => ⟨_, rfl, _, rfl, qq _ _ H19 (Same.refl H19) (V4.dx_ext e19 _ _ (Dx.same same_delH _ _ w1)) (V4.dx_ext e19 _ _ (Dx.same same_delH _ _ w3))⟩) x4 (fun H19 Q q => ⟨_, rfl, q⟩) fun H19 e19 t19 => ?_
  have v1 := V4.dx_ext (V4.ext_del e19) _ _ w1
  have v3 := V4.dx_ext (V4.ext_del e19) _ _ w3
  have v6 := V4.dx_ext (V4.ext_del e19) _ _ w6
  have v8 := V4.dx_ext (V4.ext_del e19) _ _ w8
  refine q_least rfl t19 (fun H20 e20 Q qq => ⟨_, rfl, _, rfl, _, rfl, qq _ _ _ H20 (Same.refl H20) (V4.dx_ext e20 _ _ (Dx.same same_delH _ _ v1)) (V4.dx_ext e20 _ _ (Dx.same same_delH _ _ v6)) (V4.dx_ext e20 _ _ (Dx.same same_delH _ _ v8))⟩) (fun H20 Q q => ⟨_, rfl, q⟩) fun H20 e20 t20 => ?_
  have z1 := V4.dx_ext (V4.ext_del e20) _ _ v1
  have z3 := V4.dx_ext (V4.ext_del e20) _ _ v3
  have z6 := V4.dx_ext (V4.ext_del e20) _ _ v6
  have z8 := V4.dx_ext (V4.ext_del e20) _ _ v8
  have b20 : BI p H20 := ⟨(hand_ext (hand_ext b18.1 e19).1 e20).1, t20⟩
  refine ⟨_, rfl, _, rfl, _, rfl, _, rfl, (by show 4 ≤ sizeLine; decide), fun q2 nq2 => ?_⟩
  obtain ⟨u1, u2, u3, u4⟩ := rep4 nq2 z1 x2 z3 x5 z6 x7 z8 x9
  refine ⟨_, _, rfl, u1, u2, u3, u4, _, rfl, rfl, _, rfl, ?_⟩
  rw [show (!decide (V.str (PyData.tuple [od, dk, ld, td]).shown = V.str (PyData.tuple [od, dk, ld, td]).shown)) = false by simp]
  exact iteF ⟨b20.new (same_new nq2), _, _, _, _, _, _, _, _, _, _, _, rfl⟩
end
end K37

set_option maxHeartbeats 0
open PySem PySem.W PySem.Calls PyProof.Rows
theorem PySem.Challenge.cw_turnedtalk_k37_known_kinds_refused_holds : PySem.Challenge.rw_turnedtalk_k37_known_kinds_refused.Holds := by
  w_on; o_law
  refine HandSHeadRun.head_any (r := OpenLaw.row PySem.Challenge.rw_turnedtalk_k37_known_kinds_refused) (q := view (OpenLaw.row PySem.Challenge.rw_turnedtalk_k37_known_kinds_refused).prog [56]) (H := K37.hk) (ob := K37.ob) (M := 60000) (loose := K37.names)
    (d := HandSHeadRun.topDef (OpenLaw.row PySem.Challenge.rw_turnedtalk_k37_known_kinds_refused).prog 56) (kwd := []) K37.ob_eq
    (by kernel_rfl) (fun s => by kernel_rfl) K37.run (by kernel_rfl) (by kernel_rfl) (by kernel_rfl) (by rfl) (by first | assumption | decide +kernel) (by decide +kernel) ⟨rfl, rfl, rfl, rfl, rfl, by decide +kernel⟩ ?hw ?hc
  case hw => w_witness2
  case hc =>
    refine V4.walk_lawT (l := PySem.Challenge.rw_turnedtalk_k37_known_kinds_refused) (n := 63) (x := "script") rfl (by decide) (by kernel_rfl) ?F
    intro w mg fa h Y G hmg0
    obtain ⟨K, KX, c, ex, tabs⟩ := Y
    have hmg : mg ("law" : PySem.Str) = some (.ref fa) := by
      have e : (HandSHeadRun.topDef (OpenLaw.row PySem.Challenge.rw_turnedtalk_k37_known_kinds_refused).prog 56).name = ("law" : PySem.Str) := by kernel_rfl
      rw [← e]
      exact hmg0
    have T : K37.Tx K mg := ⟨c, K37.exB_1 ex, fun x hx => K37.lam_at ex hx, K37.tabs_nd ex, h, KX, G⟩
    cases hmg.symm.trans (T.glo 47 rfl)
    letI : V3.CurK := ⟨K⟩
    obtain ⟨fd, ok, bind⟩ := K37.ok_law (P := (PySem.Challenge.rw_turnedtalk_k37_known_kinds_refused).prog) (w := w) T
    refine ⟨K, fd, K37.spLaw K, K37.lamN.map fun x => V4.pairOf K (He.ga K x), KX, fun p hp => ?_, fun p hp => ?_, fun p hp => ?_, bind, fun H a ns hl ht hS => ⟨a, ns, rfl, hS, hl, fun p hp => ?_, fun _ => rfl⟩, fun base _ _ hb => ok base fun x hx => hb _ (List.mem_map.mpr ⟨x, hx, rfl⟩)⟩
    · obtain ⟨x, hx, rfl⟩ := List.mem_map.mp hp
      exact tabs x hx
    · obtain ⟨x, hx, rfl⟩ := List.mem_map.mp hp
      exact (T.lam x hx).off
    · obtain ⟨x, hx, rfl⟩ := List.mem_map.mp hp
      exact (T.lam x hx).hd _ KX
    · obtain ⟨x, hx, rfl⟩ := List.mem_map.mp hp
      exact LamX.TabS.nil (ht _ (List.mem_map.mpr ⟨x, hx, rfl⟩))

