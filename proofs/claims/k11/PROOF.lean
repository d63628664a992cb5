import PyProof.Rows.All
import Wide.All
import OpenK.AllK
import Wide.FinOn
import KE.KStateDown
import HandS.ForMost
import HandS.Exc
import HandS.ExcInit
import HandS.ExcField
import HandS.ExcIs
import HandS.ExcValue
import HandS.IsInst
import HandS.Defaults
import HandS.TryMany
import HandS.Wide
import PyProof.ReprRoads
import KE.KExcIs
import HandS.HeadEnd
import HandS.HeadHook1
import HandS.HeadHook2
import HandS.Evl
import HandS.ExcOwn
import HandS.WordsExc
import KE.GoesEnum
import HandS.Walk
import HandS.Deep
import HandS.OwnEq
import HandS.Codes
import HandS.Small
import HandS.Head0
import HandS.Head1
import HandS.Head2
import PyProof.AutoSeq1
import HandS.DictComp
import HandS.Dict
import HandS.Text
import HandS.More
import HandS.TupAny
import PySem.Challenge.RW_turnedtalk_k11_whole_faults
set_option Elab.async false
set_option linter.all false
set_option maxRecDepth 100000
set_option maxHeartbeats 4000000
/-! V1: data with dicts, repr -/
namespace V1
open PySem PySem.Spec PyProof.Rows L2
def keyD : Key → PyData
  | .inl i => .int i
  | .inr x => .str x
mutual
/-- a value of the abstract heap is this data: scalars, tracked lists, tuples, dicts -/
inductive Dq (H : Hp) : V → PyData → Prop
  | non : Dq H .non .none
  | bl (b : Bool) : Dq H (.bl b) (.bool b)
  | int (i : Int) : Dq H (.int i) (.int i)
  | str (x : Str) : Dq H (.str x) (.str x)
  | lst {a : Addr} {xs : List V} {ds : List PyData} (at_ : H a = some (.lst xs)) (low : (a == sysModules) = false) (rest : DqAll H xs ds) : Dq H (.ref a) (.list ds)
  | tup {a : Addr} {xs : List V} {ds : List PyData} (at_ : H a = some (.tup xs)) (rest : DqAll H xs ds) : Dq H (.ref a) (.tuple ds)
  | dct {a : Addr} {kvs : List (Key × V)} {ds : List (PyData × PyData)} (at_ : H a = some (.dK kvs)) (rest : DqKv H kvs ds) : Dq H (.ref a) (.dict ds)
inductive DqAll (H : Hp) : List V → List PyData → Prop
  | nil : DqAll H [] []
  | cons {v : V} {vs : List V} {d : PyData} {ds : List PyData} (one : Dq H v d) (more : DqAll H vs ds) : DqAll H (v :: vs) (d :: ds)
inductive DqKv (H : Hp) : List (Key × V) → List (PyData × PyData) → Prop
  | nil : DqKv H [] []
  | cons {k : Key} {v : V} {kvs : List (Key × V)} {d : PyData} {ds : List (PyData × PyData)} (one : Dq H v d) (more : DqKv H kvs ds) : DqKv H ((k, v) :: kvs) ((keyD k, d) :: ds)
end
section
variable {H H' : Hp}
mutual
theorem Dq.same (e : Same H H') : ∀ (d : PyData) (v : V), Dq H v d → Dq H' v d
  | .none, _, h => by cases h; exact .non
  | .bool b, _, h => by cases h; exact .bl b
  | .int i, _, h => by cases h; exact .int i
  | .str x, _, h => by cases h; exact .str x
  | .list ds, _, h => by
    cases h with
    | lst at_ low rest => exact .lst (e _ _ at_) low (DqAll.same e ds _ rest)
  | .tuple ds, _, h => by
    cases h with
    | tup at_ rest => exact .tup (e _ _ at_) (DqAll.same e ds _ rest)
  | .dict ds, _, h => by
    cases h with
    | dct at_ rest => exact .dct (e _ _ at_) (DqKv.same e ds _ rest)
theorem DqAll.same (e : Same H H') : ∀ (ds : List PyData) (vs : List V), DqAll H vs ds → DqAll H' vs ds
  | [], _, h => by cases h; exact .nil
  | d :: ds, _, h => by
    cases h with
    | cons one more => exact .cons (Dq.same e d _ one) (DqAll.same e ds _ more)
theorem DqKv.same (e : Same H H') : ∀ (ds : List (PyData × PyData)) (kvs : List (Key × V)), DqKv H kvs ds → DqKv H' kvs ds
  | [], _, h => by cases h; exact .nil
  | (k, d) :: ds, _, h => by
    cases h with
    | cons one more => exact .cons (Dq.same e d _ one) (DqKv.same e ds _ more)
end
end
section
variable {X : Cx} {pins : List (Addr × Obj)} {σ : L2.St} {H : Hp} {s : Shared}
theorem key_reads {h : Heap} {k : Key} {u : Value} (e : keyIs k u = true) : Reads h u (keyD k) [] := by
  rcases keyIs_shape e with ⟨i, t, rfl, rfl⟩ | ⟨x, t, rfl, rfl⟩
  · exact .int i t
  · exact .str x t
theorem keys_read {P : Program} {w : World} {h : Heap} {H : Hp} : ∀ {es : List DictEntry} {us : List (Key × Value)} {kvs : List (Key × V)} {ds : List (PyData × PyData)}, Pairs (mixKind P w) es us → KV kvs us → DqKv H kvs ds →
    ReadsAll h (es.map (·.key)) (ds.map (·.1)) []
  | _, _, _, _, .nil, r, q => by
    cases r
    cases q
    exact .nil
  | _, _, _, _, .cons he hv more, r, q => by
    cases r with
    | cons r1 r2 =>
      cases q with
      | cons one more' =>
        have z := r1.1
        dsimp only at z
        have h1 := key_reads (h := h) he
        rw [← z] at h1
        exact .cons h1 (keys_read more r2 more')
mutual
theorem Dq.reads (I : Inv X pins σ H s) : ∀ (d : PyData) (v : V) (u : Value), Dq H v d → RelV v u → ∃ as, Reads s.heap u d as ∧ sysModules ∉ as
  | .none, _, _, h, r => by
    cases h
    cases r
    exact ⟨_, .none, List.not_mem_nil⟩
  | .bool b, _, _, h, r => by
    cases h
    cases r
    exact ⟨_, .bool b, List.not_mem_nil⟩
  | .int i, _, _, h, r => by
    cases h
    obtain ⟨t, rfl⟩ := r
    exact ⟨_, .int i t, List.not_mem_nil⟩
  | .str x, _, _, h, r => by
    cases h
    obtain ⟨t, rfl⟩ := r
    exact ⟨_, .str x t, List.not_mem_nil⟩
  | .list ds, _, _, h, r => by
    cases h with
    | lst at_ low rest =>
      cases r
      obtain ⟨_, its, n, rv, ho⟩ := I.hok _ _ at_
      obtain ⟨as, hr, hno⟩ := DqAll.reads I ds _ its rest rv
      refine ⟨_, Reads.list (vs := its.toArray) ho rfl rfl hr, fun hm => ?_⟩
      rcases List.mem_cons.mp hm with e | hm
      · rw [← e] at low
        exact absurd low (by decide)
      · exact hno hm
  | .tuple ds, _, _, h, r => by
    cases h with
    | tup at_ rest =>
      cases r
      obtain ⟨_, its, rv, o, ho, hc, n, hd⟩ := I.hok _ _ at_
      obtain ⟨as, hr, hno⟩ := DqAll.reads I ds _ its rest rv
      exact ⟨_, Reads.tuple ho hc hd hr, hno⟩
  | .dict ds, _, _, h, r => by
    cases h with
    | dct at_ rest =>
      cases r
      obtain ⟨_, low, us, rkv, o, es, ep, ho, hx, hd, _, hp, _⟩ := I.hok _ _ at_
      obtain ⟨as, hr, hno⟩ := DqKv.reads I ds _ us es.toList rest rkv hp
      have hk := keys_read (h := s.heap) hp rkv rest
      refine ⟨_, Reads.dict ho hx.1 hd hk hr, fun hm => ?_⟩
      rcases List.mem_cons.mp hm with e | hm
      · rw [← e] at low
        exact absurd low (by decide)
      · exact hno (by simpa using hm)
theorem DqAll.reads (I : Inv X pins σ H s) : ∀ (ds : List PyData) (vs : List V) (us : List Value), DqAll H vs ds → Vals vs us → ∃ as, ReadsAll s.heap us ds as ∧ sysModules ∉ as
  | [], _, _, h, r => by
    cases h
    cases r
    exact ⟨_, .nil, List.not_mem_nil⟩
  | d :: ds, _, _, h, r => by
    cases h with
    | cons one more =>
      cases r with
      | cons r1 r2 =>
        obtain ⟨as, q1, n1⟩ := Dq.reads I d _ _ one r1
        obtain ⟨bs, q2, n2⟩ := DqAll.reads I ds _ _ more r2
        refine ⟨_, .cons q1 q2, fun hm => ?_⟩
        rcases List.mem_append.mp hm with z | z
        · exact n1 z
        · exact n2 z
theorem DqKv.reads (I : Inv X pins σ H s) : ∀ (ds : List (PyData × PyData)) (kvs : List (Key × V)) (us : List (Key × Value)) (es : List DictEntry), DqKv H kvs ds → KV kvs us → Pairs (mixKind X.prog X.w) es us →
    ∃ as, ReadsAll s.heap (es.map (·.val)) (ds.map (·.2)) as ∧ sysModules ∉ as
  | [], _, _, _, h, r, p => by
    cases h
    cases r
    cases p
    exact ⟨_, .nil, List.not_mem_nil⟩
  | (k, d) :: ds, _, _, _, h, r, p => by
    cases h with
    | cons one more =>
      cases r with
      | cons r1 r2 =>
        cases p with
        | cons he hv hp =>
          have r3 := r1.2
          dsimp only at r3
          rw [← hv] at r3
          obtain ⟨as, q1, n1⟩ := Dq.reads I d _ _ one r3
          obtain ⟨bs, q2, n2⟩ := DqKv.reads I ds _ _ _ more r2 hp
          refine ⟨_, .cons q1 q2, fun hm => ?_⟩
          rcases List.mem_append.mp hm with z | z
          · exact n1 z
          · exact n2 z
end
end
/-! ### repr(x), x data; nothing is being shown meanwhile (gd) -/
section
variable {X : Cx}
theorem call_repr (gd : X.A.guards = some []) (hu : X.A.units + 64 < cLine) :
    CallR X (.builtin "repr") (fun xs H Q => ∃ (v : V) (d : PyData), xs = [v] ∧ Dq H v d ∧ d.showable = true ∧ d.depth ≤ 60 ∧ d.shown.length ≤ sizeLine ∧ Q (.str d.shown) H) := by
  intro pins s σ H xs us Q I r h
  obtain ⟨v, d, rfl, hd, hs, hn, hz, q⟩ := h
  cases r with
  | @cons _ u _ _ ru rn =>
    cases rn
    obtain ⟨as, hr, hno⟩ := Dq.reads I d v u hd ru
    have fin : ∀ h' (t : Tok) tk, (∀ b o, s.heap.get? b = some o → h'.get? b = some o) → EP X pins σ Q (.str d.shown t) { s with heap := h', toks := tk } :=
      fun h' t tk k => ⟨.str d.shown, H, I.kept k, ⟨_, rfl⟩, q⟩
    cases hr with
    | none => exact PySem.P.repr_of_none (fin s.heap _ _ fun _ _ z => z)
    | bool b => exact PySem.P.repr_of_bool (fin s.heap _ _ fun _ _ z => z)
    | int i t => exact PySem.P.repr_of_int (of_decide_eq_true (by simpa [PyData.showable] using hs)) (fin s.heap _ _ fun _ _ z => z)
    | str x t => exact PySem.P.repr_of_str (fin s.heap _ _ fun _ _ z => z) (by simpa [PyData.shown] using hz)
    | list h1 h2 h3 h4 => exact repr_of_reads' (.list h1 h2 h3 h4) hs (fun _ => hno) gd (by omega) (fun _ _ z => z) fin hz
    | tuple h1 h2 h3 h4 => exact repr_of_reads' (.tuple h1 h2 h3 h4) hs (fun _ => hno) gd (by omega) (fun _ _ z => z) fin hz
    | dict h1 h2 h3 h4 h5 => exact repr_of_reads' (.dict h1 h2 h3 h4 h5) hs (fun _ => hno) gd (by omega) (fun _ _ z => z) fin hz
end
end V1

set_option maxHeartbeats 4000000
/-! V1: exceptions as values: made, asked for their class, their field read -/
namespace V1
open PySem PySem.Spec PyProof.Rows L2
def veB : List Value := [.type "ValueError", .type "Exception", .type "BaseException", .type "object"]
/-- the object at C is an exception class over ValueError's maker, its further bases bm -/
def clsB (K : PySem.W.Frag) (C : Addr) (bm : List Value) : Bool := match K.lookup C with
  | some ⟨.type "type", _, .cls cd, sl⟩ => (match sl.toList with
    | [_, _, _, _, some (.builtin n), _] => decide (cd.mro = .ref C :: bm) && (n == "ValueError.__new__" && (cd.hasDict && (!cd.hasDel)))
    | _ => false)
  | _ => false
def oexB (K : PySem.W.Frag) (C : Addr) (bm : List Value) : Bool :=
  clsB K C bm && (decide (PySem.W.findIn K (.ref C) "__setattr__" = some (some (.builtin "object.__setattr__"))) &&
    (decide (PySem.W.findIn K (.ref C) "__getattribute__" = some (some (.builtin "BaseException.__getattribute__"))) &&
      (decide (PySem.W.findIn K (.ref C) "__getattr__" = some none) && (decide (PySem.W.findIn K (.ref C) "__class__" = some (some (.builtin "object.__class__"))) && PySem.W.keepIn K (.ref C)))))
/-- what isinstance asks of object.__class__ -/
def clsAttrB (K : PySem.W.Frag) : Bool := decide (PySem.W.specialIn K (.builtin "object.__class__") "__get__" = some (some (.builtin "getset_descriptor.__get__"))) && decide (PySem.W.takesIn K (.builtin "object.__class__") = some true)
structure ExK (K : PySem.W.Frag) (C : Addr) (bm : List Value) : Prop where
  cls : ∃ nm q N bs sn sub ab col dd k0 k1 k2 k3 k5, K.lookup C = some (excClassObj nm q C N bs bm true sn sub ab col dd k0 k1 k2 k3 k5 "ValueError.__new__")
  sa : PySem.W.findIn K (.ref C) "__setattr__" = some (some (.builtin "object.__setattr__"))
  ga : PySem.W.findIn K (.ref C) "__getattribute__" = some (some (.builtin "BaseException.__getattribute__"))
  gg : PySem.W.findIn K (.ref C) "__getattr__" = some none
  cl : PySem.W.findIn K (.ref C) "__class__" = some (some (.builtin "object.__class__"))
  kp : PySem.W.keepIn K (.ref C) = true
structure ClsAttr (K : PySem.W.Frag) : Prop where
  gs : PySem.W.specialIn K (.builtin "object.__class__") "__get__" = some (some (.builtin "getset_descriptor.__get__"))
  tk : PySem.W.takesIn K (.builtin "object.__class__") = some true
theorem clsAttr_of {K : PySem.W.Frag} (h : clsAttrB K = true) : ClsAttr K := ⟨of_decide_eq_true (Bool.and_eq_true_iff.mp h).1, of_decide_eq_true (Bool.and_eq_true_iff.mp h).2⟩
theorem exK_of {K : PySem.W.Frag} {C : Addr} {bm : List Value} (h : oexB K C bm = true) : ExK K C bm := by
  unfold oexB at h
  simp only [Bool.and_eq_true, decide_eq_true_eq] at h
  obtain ⟨h1, h2, h3, h4, h5, h6⟩ := h
  refine ⟨?_, h2, h3, h4, h5, h6⟩
  unfold clsB at h1
  split at h1
  · rename_i dd cd sl lk
    split at h1
    · rename_i k0 k1 k2 k3 n k5 hs
      simp only [Bool.and_eq_true, decide_eq_true_eq, beq_iff_eq, Bool.not_eq_true'] at h1
      obtain ⟨g1, g2, g3, g4⟩ := h1
      obtain ⟨nm, bs, mro, ns, qn, hd, sn, sb, ab, col, del⟩ := cd
      dsimp only at g1 g3 g4
      subst g1 g2 g3 g4
      obtain ⟨sl⟩ := sl
      dsimp only at hs
      subst hs
      exact ⟨nm, qn, ns, bs, sn, sb, ab, col, dd, k0, k1, k2, k3, k5, lk⟩
    · cases h1
  · cases h1
section
variable {K : PySem.W.Frag} {C D : Addr} {bm : List Value}
theorem ExK.clsIn (T : ExK K C bm) : ∃ cd, PySem.W.clsIn K C = some cd ∧ cd.mro = .ref C :: bm ∧ cd.hasDict = true := by
  obtain ⟨nm, q, N, bs, sn, sub, ab, col, dd, k0, k1, k2, k3, k5, e⟩ := T.cls
  unfold PySem.W.clsIn
  rw [e]
  exact ⟨_, rfl, rfl, rfl⟩
theorem ExK.isCls (T : ExK K C bm) : (PySem.W.clsIn K C).isSome = true := by
  obtain ⟨cd, e, _⟩ := T.clsIn
  rw [e] <;> rfl
theorem ExK.hasDict (T : ExK K C bm) : PySem.W.hasDictIn K C = true := by
  obtain ⟨cd, e, _, h⟩ := T.clsIn
  unfold PySem.W.hasDictIn
  rw [e]
  simpa using h
theorem ExK.ty (T : ExK K C bm) : PySem.W.typeIn K (.ref C) = some (.type "type") := by
  obtain ⟨nm, q, N, bs, sn, sub, ab, col, dd, k0, k1, k2, k3, k5, e⟩ := T.cls
  show (K.lookup C).map (·.cls) = _
  rw [e] <;> rfl
theorem ExK.mro (T : ExK K C bm) (v : Value) : PySem.W.mroIn K C v = some ((Value.ref C :: bm).contains v) := by
  obtain ⟨cd, e, h, _⟩ := T.clsIn
  unfold PySem.W.mroIn
  rw [e, Option.bind_some, h] <;> rfl
theorem ExK.sub (T : ExK K C bm) (v : Value) : PySem.W.subIn K (.ref C) v = some ((Value.ref C :: bm).contains v) := T.mro v
/-- isinstance of the class's objects -/
theorem ExK.kit (T : ExK K C bm) (T' : ExK K D bm') : PySem.W.kitOne K (.ref C) (.ref D) = some (decide (C = D) || bm.contains (.ref D)) := by
  unfold PySem.W.kitOne
  by_cases e : C = D
  · subst e
    rw [if_pos (by simp)]
    simp
  · have ne : ¬ ((Value.ref C == Value.ref D) = true) := by simpa using e
    rw [if_neg ne]
    show (if ((PySem.W.clsIn K D).isSome && PySem.W.typeIn K (.ref D) == some (.type "type")) = true then PySem.W.subIn K (.ref C) (.ref D) else none) = _
    rw [T'.isCls, T'.ty, if_pos (by simp), T.sub, List.contains_cons]
    have e2 : ¬ D = C := fun z => e z.symm
    simp [e, e2]
theorem ExK.kitT (T : ExK K C bm) {n : String} (hm : PySem.W.kitMeta n = true) : PySem.W.kitOne K (.ref C) (.type n) = some (bm.contains (.type n)) := by
  unfold PySem.W.kitOne
  rw [if_neg (show ¬ ((Value.ref C == Value.type n) = true) from by simp)]
  show (if PySem.W.kitMeta n = true then PySem.W.subIn K (.ref C) (.type n) else none) = _
  rw [if_pos hm, T.sub, List.contains_cons]
  simp
/-- an except clause's class -/
theorem ExK.exm (T : ExK K C bm) (T' : ExK K D bm') (hb : (Value.ref D :: bm').contains (.type "BaseException") = true) : PySem.W.exmOne K (.ref C) (.ref D) = some (decide (C = D) || bm.contains (.ref D)) := by
  have h1 : PySem.W.subIn K (.ref D) (.type "BaseException") = some true := by rw [T'.sub, hb]
  have h2 : PySem.W.subIn K (.ref C) (.ref D) = some (decide (C = D) || bm.contains (.ref D)) := by
    rw [T.sub, List.contains_cons]
    by_cases e : C = D
    · subst e; simp
    · have e2 : ¬ D = C := fun z => e z.symm
      simp [e, e2]
  exact PySem.W.exm_ref h1 T'.hasDict T'.ty h2
theorem ExK.oex (T : ExK K C bm) (hr : PySem.HandSPX.refsVE bm = true) (hb : (Value.ref C :: bm).contains (.type "BaseException") = true) : OexC K C := by
  obtain ⟨nm, q, N, bs, sn, sub, ab, col, dd, k0, k1, k2, k3, k5, e⟩ := T.cls
  exact ⟨⟨nm, q, N, bs, bm, sn, sub, ab, col, dd, k0, k1, k2, k3, k5, e, hr⟩, T.sa, by rw [T.sub, hb], T.ty, T.kp⟩
end
/-- at a stands an exception of the class at C; its own fields fs, if it has a dict of them -/
def IsEx (H : Hp) (a C : Addr) : Option (List (Str × V)) → Prop
  | none => H a = some (ExO (.ref C) a)
  | some fs => ∃ dx, H a = some (exo a C (some dx)) ∧ H dx = some (exd dx fs)
theorem IsEx.same {H H' : Hp} {a C : Addr} {o : Option (List (Str × V))} (e : Same H H') (h : IsEx H a C o) : IsEx H' a C o := by
  cases o with
  | none => exact e _ _ h
  | some fs =>
    obtain ⟨dx, h1, h2⟩ := h
    exact ⟨dx, e _ _ h1, e _ _ h2⟩
section
variable {X : Cx} {pins : List (Addr × Obj)} {σ : L2.St} {H : Hp} {s : Shared} {a C : Addr} {o : Option (List (Str × V))}
theorem IsEx.inst (I : Inv X pins σ H s) (h : IsEx H a C o) : ∃ oe od, PySem.W.InstAt s.heap a oe C od ∧ ∀ fs, o = some fs → ∃ (od' : Obj) (mA : Str → Option Value), od = some od' ∧ (∀ n, PySem.W.lookIn n od' = some (mA n)) ∧ ∀ f, RelO (fs.lookup f) (mA f) := by
  cases o with
  | none =>
    obtain ⟨⟨oe, vs, he, hz, hd, _⟩, _, _⟩ := I.hok a _ h
    refine ⟨oe, none, ⟨he, hz.1, by unfold PySem.W.notCls; rw [hd] <;> rfl, by rw [hz.2]; exact True.intro⟩, fun fs z => nomatch z⟩
  | some fs =>
    obtain ⟨dx, h1, h2⟩ := h
    obtain ⟨t1, he⟩ := exo_at I.hok h1
    obtain ⟨mA, hns, rel⟩ := exd_at I.hok h2
    obtain ⟨od, ho, hl⟩ := lookIn_ns hns
    refine ⟨_, some od, ⟨he, rfl, rfl, ho⟩, fun fs' z => ?_⟩
    cases z
    exact ⟨od, mA, rfl, fun n => hl n, rel⟩
end
/-! ### isinstance(e, c) -/
def rIsiX (K : PySem.W.Frag) : List V → Hp → VK → Prop := fun xs H Q => ∃ (a C : Addr) (o : Option (List (Str × V))) (bm : List Value) (c : V) (u : Value) (b : Bool), xs = [.ref a, c] ∧ IsEx H a C o ∧ ExK K C bm ∧ ClsAttr K ∧
  (Value.ref C :: bm).contains (.type "BaseException") = true ∧ (Value.ref C :: bm).contains (.type "object") = true ∧ ClsV c u ∧ PySem.W.kitOne K (.ref C) u = some b ∧ Q (.bl b) H
theorem call_isiX {X : Cx} : CallR X (.builtin "isinstance") (rIsiX X.K) := by
  intro pins s σ H xs us Q I r h
  obtain ⟨a, C, o, bm, c, u, b, rfl, hx, T, cA, hB, hO, k, e, q⟩ := h
  obtain ⟨w1, w2, rfl, r1, r2⟩ := vals2 r
  obtain rfl : w1 = Value.ref a := r1
  have e2 := k.eq r2
  subst e2
  obtain ⟨oe, od, J, _⟩ := hx.inst I
  exact PySem.W.kia_one (PySem.W.kitx_exc T.isCls T.ga T.gg (by rw [T.sub, hB]) T.cl cA.gs cA.tk (by rw [T.mro, hO])) I.kIn J e (fun z => nomatch z) fun tk => ⟨.bl b, H, I.tok tk, rfl, q⟩
/-! ### e.f of such -/
def tEf (K : PySem.W.Frag) (f : Str) (te : TE) : TE := fun σ H Q => te σ H fun x H1 => ∃ (a C : Addr) (fs : List (Str × V)) (bm : List Value) (v : V), x = .ref a ∧ IsEx H1 a C (some fs) ∧ ExK K C bm ∧ (Value.ref C :: bm).contains (.type "BaseException") = true ∧
  PySem.W.findIn K (.ref C) f = some none ∧ fs.lookup f = some v ∧ Q v H1
theorem pe_ef {X : Cx} {e : Expr} {te : TE} {pos : Pos} {n : Str} (he : PE X e te) (hb : attributeBase e n X.env (eval e X.env) = eval e X.env := by rfl) : PE X (.Attribute e n pos) (tEf X.K n te) := by
  refine ⟨fun pins s σ H Q I h => ?_⟩
  refine attr_of hb (thn (he.run pins s σ H _ I h) fun u s1 hh => ?_)
  obtain ⟨x, H1, J1, rx, a, C, fs, bm, v, rfl, hx, T, hB, hno, hl, q⟩ := hh
  obtain rfl : u = Value.ref a := rx
  obtain ⟨oe, od, J, hf⟩ := hx.inst J1
  obtain ⟨od', mA, rfl, look, rel⟩ := hf fs rfl
  obtain ⟨u, hu, ru⟩ := RelO.some_of (v := v) (o := mA n) (by rw [← hl]; exact rel n)
  exact HandSPX.exc_get J1.kIn J T.ga T.gg (by rw [T.sub, hB]) (PySem.W.findObj_own T.hasDict hno rfl (by rw [look, hu])) (handed_of ru) ⟨v, H1, J1.tok _, ru, q⟩
/-! ### C(e, ..) with an own __init__, kept as a value -/
def tMkV (C : Addr) (sp : Sp) (dvs : List V) (ta : TA) : TE := fun σ H Q => ta σ H fun vs H1 => vs.length ≤ 1000 ∧ ∀ a, H1 a = none → sp (.ref a :: (vs ++ dvs)) (upd H1 a (exo a C none)) (fun v H2 => v = .non ∧ Q (.ref a) H2) (fun _ _ _ => False)
theorem pe_mkV {X : Cx} {CX : CXT} {x : Str} {C fI : Addr} {k : Nat} {fd : FuncData} {ps : List Str} {sp : Sp} {ds : List Value} {dvs : List V} {e : Expr} {es : List Expr} {ta : TA} {p pos : Pos} (T : OexC X.K C)
    (iC : PySem.W.findIn X.K (.ref C) "__init__" = some (some (.ref fI))) (tI : PySem.W.typeIn X.K (.ref fI) = some (.type "function"))
    (F1 : FnOk X.prog X.w X.K X.mg X.base CX k fI fd ps sp) (hr : Room (k + 1) X.A) (hb : Binds X.K fd ps ds) (hd : Vals dvs ds) (hx : Passes CX X (fun _ _ _ => False)) (hg : Gl X x) (hm : X.mg x = some (.ref C)) (ha : PA X (e :: es) ta)
    (hdb : (x == ("__debug__" : Str)) = false := by decide) (he : starEach (e :: es) X.env = (false, eval e X.env) :: starEach es X.env := by rfl) (hpl : (backTo pos (starEach es X.env)).any (·.1) = false := by rfl) :
    PE X (.Call (.Name x p) (e :: es) [] pos) (tMkV C sp dvs ta) := by
  refine ⟨fun pins s σ H Q I h => ?_⟩
  obtain ⟨nm, q, N, bs, bm, sn, sub, ab, col, dd, k0, k1, k2, k3, k5, hC, hbm⟩ := T.cls
  refine wpAny_Call_Name_kw (ld_glob I hg hm ?_ hdb)
  refine PySem.W.callWith_K (h₀ := X.base) I.ok.mod.kin T.kC (thn (ha.run pos pins s σ H _ I h) fun us st hh => ⟨hh.choose_spec.choose_spec.1.kIn, ?_⟩) he hpl
  obtain ⟨vs, H1, J, rv, hz, qq⟩ := hh
  show wpAny _ _ (call (.ref C) us) _ _ _
  obtain ⟨hp, g, dr, tk, os⟩ := st
  let n := hp.objs.size
  have nn : H1 (n + 1) = none := J.hok.fresh (Nat.le_succ n)
  have go := qq (n + 1) nn
  let hp2 := (hp.push (PySem.W.kdv_tup us)).push (PySem.HandSPX.excO C n)
  have kk : ∀ b ob, hp.get? b = some ob → hp2.get? b = some ob := fun b ob z => Heap.get?_push_of_some _ (Heap.get?_push_of_some _ z)
  have top : hp2.get? (n + 1) = some (PySem.HandSPX.excO C n) := by
    show ((hp.push (PySem.W.kdv_tup us)).push (PySem.HandSPX.excO C hp.objs.size)).get? (hp.objs.size + 1) = _
    heap_get
  have J2 : Inv X pins σ (upd H1 (n + 1) (exo (n + 1) C none)) ⟨hp2, g, dr, tk, os⟩ := J.laid (t' := tk) (a := n + 1) (h' := hp2) kk (Nat.le_succ n) (exo_ok top)
  have rr : Vals (V.ref (n + 1) :: (vs ++ dvs)) (Value.ref (n + 1) :: (us ++ ds)) := .cons rfl (rv.append hd)
  have len : (Value.ref (n + 1) :: us ++ ds).length = ps.length := (rr.length.symm.trans (F1.len _ _ _ _ go))
  have short : us.length ≤ sizeLine := by
    have z := Paired.length rv
    rw [sizeLine_eq]
    omega
  refine wpAny_call (PySem.HandSPX.call_own F.excBase_ValueError (fun Y => PySem.HandSPX.refsVE_contains Y bm hbm) (J.kIn _ _ hC) (PySem.W.looks_findIn J.kIn iC) (fun self => PySem.W.bind_fn J.kIn self tI) short
    (codeAny_mono (F1.run _ X.stack _ _ ⟨Value.ref (n + 1) :: us, []⟩ (Value.ref (n + 1) :: (us ++ ds)) _ _ (fun _ _ _ => False) (hr.make C us []) (J2.env0.make C us []) (hb _ (Value.ref (n + 1) :: us) J2.kIn len) rr go) fun r s' hq => ?_))
  cases r with
  | error er => exact hx pins σ _ _ er s' J2 hq
  | ok fl =>
    cases fl with
    | ret u =>
      obtain ⟨v, H2, o2, b2, un2, ok2, rv2, ev, qv⟩ := hq
      subst ev
      refine ⟨rv2, .ref (n + 1), H2, ?_, rfl, qv⟩
      obtain ⟨h', g', d', t', os'⟩ := s'
      exact J.call' (ch := []) o2 (Un.trans (Un.laid kk (Nat.le_succ n) nn) un2) ok2 b2 (fun b z => absurd z (by simp))
    | next => exact False.elim hq
    | brk => exact False.elim hq
    | cont => exact False.elim hq
/-! ### C(), an own exception class without own __init__ -/
def tMk0 (C : Addr) : TE := fun _ H Q => ∀ a, H a = none → Q (.ref a) (upd H a (ExO (.ref C) a))
theorem pe_mk0 {X : Cx} {C : Addr} {bmB : List Value} {B newId initId : String} {x : Str} {p pos : Pos} (F : ExcBaseFacts B newId initId bmB) (q : PySem.W.excIn X.K C bmB newId = true) (gC : X.mg x = some (.ref C)) (kC : PySem.W.keepIn X.K (.ref C) = true) (hg : Gl X x)
    (hdb : (x == ("__debug__" : Str)) = false := by decide) : PE X (.Call (.Name x p) [] [] pos) (tMk0 C) := by
  refine ⟨fun pins s σ H Q I h => ?_⟩
  refine wpAny_Call_Name_kw (ld_glob I hg gC ?_ hdb)
  refine PySem.W.callWith_K0 I.kIn kC ?_
  obtain ⟨bm, N, nm, qn, bs, hdct, sn, sub, ab, col, dd, k0, k1, k2, k3, k5, mN, hC, hN, hni, T⟩ := exc_obj I.kIn q
  refine wpAny_call_exc_subT F T hC hN hni (fun h' a hm => ?_) (Nat.zero_le _)
  have hn : H a = none := I.hok.gone hm.new
  obtain ⟨t, ht, _, _⟩ := hm.there
  exact ⟨.ref a, _, I.laidN hm.keeps hm.new hn (exO_ok ht ⟨rfl, rfl⟩ rfl rfl rfl (show 4 < 6 by decide)), rfl, h a hn⟩
end V1

set_option maxHeartbeats 4000000
/-! V1: try with any number of except clauses, each with or without a name -/
namespace V1
open PySem PySem.Spec PyProof.Rows L2
/-- a clause: its class, the slot of its name if it has one, its suite's reading -/
abbrev Cl : Type := Value × Option Nat × (Addr → Value → Option Addr → TS)
/-- where a suite's ends lead once the clause's name is let go of -/
def offD (i : Nat) (D : Ends) : Ends := { nx := fun σ H => D.nx (σ.set i none) H, rt := D.rt, bk := fun σ H => D.bk (σ.set i none) H, ct := fun σ H => D.ct (σ.set i none) H }
def suiteD (D : Ends) (a : Addr) (cls : Value) (d : Option Addr) (ts : Addr → Value → Option Addr → TS) (σ : L2.St) (H : Hp) : Option Nat → Prop
  | none => ts a cls d D σ H
  | some i => ts a cls d (offD i D) (σ.set i (some (.ref a))) H
/-- what the clauses wish of an exception that leaves the body -/
def wCl (K : PySem.W.Frag) (Wout : WX) (D : Ends) : List Cl → WX
  | [] => Wout
  | (c, o, ts) :: more => fun cls d σ H => ∃ yes, PySem.W.exmOne K cls c = some yes ∧ (yes = true → ∀ a, H a = none → suiteD D a cls d ts σ H o) ∧ (yes = false → wCl K Wout D more cls d σ H)
inductive Hds (X : Cx) : List ExceptHandler → List Cl → Prop
  | nil : Hds X [] []
  | plain {x : Str} {c : Value} {ts : Addr → Value → Option Addr → TS} {st : Stmt} {sts : List Stmt} {p1 p2 : Pos} {hds : List ExceptHandler} {l : List Cl} (nm : Names X x c)
      (su : ∀ (a : Addr) (oe : Obj) (cls : Value) (d : Option Addr) (pn : List (Addr × Obj)), Zc cls d oe → (∃ vs, oe.data = .fields vs) → PSs (X.suite a ((a, oe) :: pn)) (st :: sts) (ts a cls d)) (more : Hds X hds l) :
      Hds X (.ExceptHandler (some (.Name x p1)) none (st :: sts) p2 :: hds) ((c, none, ts) :: l)
  | named {x n : Str} {i : Nat} {c : Value} {ts : Addr → Value → Option Addr → TS} {st : Stmt} {sts : List Stmt} {p1 p2 : Pos} {hds : List ExceptHandler} {l : List Cl} (at_ : X.N[i]? = some n) (loc : X.env.kindOf n = some .local) (nm : Names X x c)
      (su : ∀ (a : Addr) (oe : Obj) (cls : Value) (d : Option Addr) (pn : List (Addr × Obj)), Zc cls d oe → (∃ vs, oe.data = .fields vs) → PSs (X.suite a ((a, oe) :: pn)) (st :: sts) (ts a cls d)) (more : Hds X hds l) :
      Hds X (.ExceptHandler (some (.Name x p1)) (some n) (st :: sts) p2 :: hds) ((c, some i, ts) :: l)
/-- an exception of the body that was met: all that the clauses may lean on -/
theorem ps_try_cl {X : Cx} {body : List Stmt} {hd : ExceptHandler} {hds : List ExceptHandler} {l : List Cl} {pos : Pos} {tb : WX → TS} {Wout : WX} (stk : X.stack = X.env :: X.outer) (fr : X.env.frame = some X.env.locals) (nd : X.N.Nodup) (tk : Takes X Wout)
    (hb : ∀ (W : WX) (pn : List (Addr × Obj)) (xe : Value → Shared → Prop), Takes (X.tr pn xe) W → PassesOwn (model X.prog X.w) X.A X.env xe → PSs (X.tr pn xe) body (tb W))
    (cl : Hds X (hd :: hds) l) : PS X (.Try body (hd :: hds) [] [] pos) (fun D σ H => tb (wCl X.K Wout D l) D σ H) := by
  refine ⟨fun pins s σ H D I go => ?_⟩
  have ok := I.ok
  have frames : X.A.frames = some (X.env :: X.outer) := by
    rw [ok.frames, stk]
  refine wpAny_Try_except ?_
  refine wpAny_mono ((hb (wCl X.K Wout D l) (X.pn ++ pins) (fun e z1 => wpAny (model X.prog X.w) X.A (noteFrame e X.env)
    (fun _ z2 => wpAny (model X.prog X.w) X.A (setFlight e none) (fun _ z3 => wpAny (model X.prog X.w) X.A (handleBy e X.env (hd :: hds)) (SP X pins D) X.xe z3) X.xe z2) X.xe z1)
    (fun u sE met => ?_) PassesOwn.looking).run [] s σ H D (I.toTry _) go) (fun f s1 out => ?_) (fun _ _ he => he)
  · obtain ⟨a, B, sI, pins', σ', H', cls, d, rfl, J', nb, up, sky, na, os, ag, wish⟩ := met
    have J : Inv X pins σ' H' sI := J'.ofTry ok
    have air : Sky B (X.env :: X.outer) a (Zc cls d) X.env.locals sE.heap := by
      rw [← stk]
      exact sky
    show wpAny (model X.prog X.w) X.A (noteFrame (.ref a) X.env) _ _ _
    refine Sky.land Zc.steady frames fr air fun h3 fl up3 => ?_
    have J3 : Inv X pins σ' H' { sE with heap := h3 } := J.landed nb fl.1 (up.trans up3) os ag
    obtain ⟨oe, vs, there, zc, dat⟩ := fl.there
    have off : a ∉ frs (X.env :: X.outer) := fun hm => by
      obtain ⟨_, ob, eo, hnf⟩ := fl.2.2.1.mem hm
      rw [there] at eo
      cases eo
      exact hnf _ dat
    have offL : a ≠ X.env.locals := fun z => off (List.mem_filterMap.mpr ⟨X.env, List.mem_cons_self, by rw [fr, z]⟩)
    have offF : a ∉ X.fs := fun hm => by
      obtain ⟨en, hen, q⟩ := List.mem_filterMap.mp hm
      exact off (List.mem_filterMap.mpr ⟨en, List.mem_cons_of_mem _ hen, q⟩)
    have S3 := J3.suite there dat na offL offF
    -- one clause's test
    have ask : ∀ {x : Str} {c : Value} {p1 : Pos} {Q : Value → Shared → Prop} {E : Value → Shared → Prop}, Names X x c → Q c { sE with heap := h3 } →
        wpAny (model X.prog X.w) (X.A.mark (some (.ref a))) (eval (.Name x p1) X.env) Q E { sE with heap := h3 } := fun {x c p1 Q E} nm q => by
      obtain ⟨g, nodebug, m | ⟨m, bv, notname⟩⟩ := nm
      · exact ld_glob (X := X.suite a ((a, oe) :: (X.pn ++ pins))) S3 g m q nodebug
      · exact ld_blt (X := X.suite a ((a, oe) :: (X.pn ++ pins))) S3 g m bv q notname nodebug
    have typ : PySem.W.Looks (model X.prog X.w) h3 (typeOf (.ref a)) cls := fun _ _ _ z k q => wpAny_typeOf_ref (k _ _ there) (by rw [zc.1]; exact q)
    have through : ∀ {hs : List ExceptHandler} {ls : List Cl}, Hds X hs ls → wCl X.K Wout D ls cls d σ' H' →
        wpAny (model X.prog X.w) X.A (handleBy (.ref a) X.env hs) (SP X pins D) X.xe { sE with heap := h3 } := by
      intro hs ls hk
      induction hk with
      | nil =>
        intro w
        refine wpAny_handleBy_nil ?_
        obtain ⟨_, _, _, ob, us, T, _, _, e1, _, e3, e4, _⟩ := id fl
        unfold PySem.passOn
        refine wpAny_bind (wpAny_field e1 e3 e4 ?_)
        rw [if_neg (show ¬ ((Value.ref T == Value.none) = true) from by simp)]
        have last : wpAny (model X.prog X.w) X.A (setFlight (.ref a) X.env.frame) (fun _ z => wpAny (model X.prog X.w) X.A (throw (.ref a) : Sem Flow) (SP X pins D) X.xe z) X.xe { sE with heap := h3 } := by
          rw [fr]
          refine HandSPX.setFlight_upZ fl fun h4 held up4 => wpAny_throw (tk _ _ ?_)
          refine ⟨a, B, sI, pins, σ', H', cls, d, rfl, J, nb, (up.trans up3).trans up4, .inr (.inr ?_), na, os, ag, w⟩
          rw [stk]
          exact held
        first
          | exact wpAny_bind (wpAny_pure (wpAny_bind last))
          | exact wpAny_bind last
      | @plain x c ts st sts p1 p2 hs2 ls2 nm su more ih =>
        intro w
        obtain ⟨yes, hy, onYes, onNo⟩ := w
        refine wpAny_handleBy_cons (codeAny_handlers_test ?_) (by intro q; cases q)
        refine ask nm ((PySem.W.exm_one (M := model X.prog X.w) J3.kIn typ hy).here ?_)
        cases yes with
        | false => exact ih (onNo rfl)
        | true =>
          refine codeAny_handlers_suite ?_
          refine HandSPX.lands_againZ fl fun h4 fl4 up4 => ?_
          have J4 : Inv X pins σ' H' { sE with heap := h4 } := J.landed nb fl4.1 ((up.trans up3).trans up4) os ag
          obtain ⟨oe4, vs4, th4, zc4, dat4⟩ := fl4.there
          refine wpAny_mono ((su a oe4 cls d (X.pn ++ pins) zc4 ⟨_, dat4⟩).run [] _ _ H' _ (J4.suite th4 dat4 na offL offF) (onYes rfl a na)) (fun f s6 out => ?_) (fun _ _ z => False.elim z)
          cases f with
          | next => exact let ⟨_, _, S6, q6⟩ := out; ⟨_, _, S6.unsuite ok, q6⟩
          | brk => exact let ⟨_, _, S6, q6⟩ := out; ⟨_, _, S6.unsuite ok, q6⟩
          | cont => exact let ⟨_, _, S6, q6⟩ := out; ⟨_, _, S6.unsuite ok, q6⟩
          | ret u => exact let ⟨_, _, _, S6, r6, q6⟩ := out; ⟨_, _, _, S6.unsuite ok, r6, q6⟩
      | @named x n i c ts st sts p1 p2 hs2 ls2 at_ loc nm su more ih =>
        intro w
        obtain ⟨yes, hy, onYes, onNo⟩ := w
        refine wpAny_handleBy_cons (codeAny_handlers_test ?_) (by intro q; cases q)
        refine ask nm ((PySem.W.exm_one (M := model X.prog X.w) J3.kIn typ hy).here ?_)
        cases yes with
        | false => exact ih (onNo rfl)
        | true =>
          refine codeAny_handlers_suite_as ?_
          refine HandSPX.lands_againZ fl fun h4 fl4 up4 => ?_
          have J4 : Inv X pins σ' H' { sE with heap := h4 } := J.landed nb fl4.1 ((up.trans up3).trans up4) os ag
          obtain ⟨oe4, vs4, th4, zc4, dat4⟩ := fl4.there
          refine store_ok (X := X.suite a ((a, oe4) :: (X.pn ++ pins))) (v := .ref a) (J4.suite th4 dat4 na offL offF) nd at_ (.inl loc) rfl (fun s5 S5 => ?_) (.inr loc)
          refine wpAny_mono ((su a oe4 cls d (X.pn ++ pins) zc4 ⟨_, dat4⟩).run [] s5 _ H' _ S5 (onYes rfl a na)) (fun f s6 out => ?_) (fun _ _ z => False.elim z)
          have gone : ∀ {σ6 : L2.St} {H6 : Hp} {Q : Shared → Prop}, Inv (X.suite a ((a, oe4) :: (X.pn ++ pins))) [] σ6 H6 s6 → (∀ s7, Inv X pins (σ6.set i none) H6 s7 → Q s7) →
              wpAny (model X.prog X.w) X.A (do bindName X.env n .none; unbindBehindTheSuite X.env n p2) (fun _ s7 => Q s7) X.xe s6 := fun S6 hq => gone_ok (S6.unsuite ok) nd at_ loc hq
          cases f with
          | next => exact let ⟨_, _, S6, q6⟩ := out; gone S6 fun s7 J7 => ⟨_, _, J7, q6⟩
          | brk => exact let ⟨_, _, S6, q6⟩ := out; gone S6 fun s7 J7 => ⟨_, _, J7, q6⟩
          | cont => exact let ⟨_, _, S6, q6⟩ := out; gone S6 fun s7 J7 => ⟨_, _, J7, q6⟩
          | ret u => exact let ⟨_, _, _, S6, r6, q6⟩ := out; gone S6 fun s7 J7 => ⟨_, _, _, J7, r6, q6⟩
    exact through cl wish
  · cases f with
    | next => exact let ⟨_, _, J, q⟩ := out; wpAny_execs_nil ⟨_, _, J.ofTry ok, q⟩
    | brk => exact let ⟨_, _, J, q⟩ := out; ⟨_, _, J.ofTry ok, q⟩
    | cont => exact let ⟨_, _, J, q⟩ := out; ⟨_, _, J.ofTry ok, q⟩
    | ret u => exact let ⟨_, _, _, J, r, q⟩ := out; ⟨_, _, _, J.ofTry ok, r, q⟩
end V1

set_option maxHeartbeats 4000000
/-! V1: the law's own def, run at the caller of all (nothing is being shown there), and the end over a head by facts -/
namespace V1
open PySem PySem.Spec PyProof.Rows L2
section
variable {P : Program} {w : World} {K : PySem.W.Frag} {mg : Str → Option Value} {base : Heap} {k : Nat} {f : Addr} {fd : FuncData} {x : Str} {sp : Sp}
/-- the law's def keeps sp, called where nothing is being shown; nothing leaves it -/
def LawOk (P : Program) (w : World) (K : PySem.W.Frag) (mg : Str → Option Value) (base : Heap) (f : Addr) (fd : FuncData) (x : Str) (sp : Sp) : Prop :=
  ∀ (s : Shared) (H : Hp) (u : Value) (v : V) (Q : VK), Env0 P w K mg base callerA [] s H → BindsTo s fd ⟨[u], []⟩ [(x, u)] → RelV v u → sp [v] H Q (fun _ _ _ => False) →
    codeAny (model P w) callerA (.call (.ref f) ⟨[u], []⟩) (CR CX0 [] P w H s Q (fun _ _ _ => False)) s
theorem lawOk_of {name qual : Str} {params : Arguments} {body : List Stmt} {scope : Scope} {N : List Str} (F : FunD K name qual params body scope [] [] f fd) (S : FnScope N [x] scope)
    (room : Room (k + 1) callerA)
    (go : ∀ (cdv : Value) (s : Shared) (H : Hp) (v : V) (Q : VK), Room k (callerA.deeper (envOfC qual scope s.heap.objs.size f cdv)) → (callerA.deeper (envOfC qual scope s.heap.objs.size f cdv)).guards = some [] → sp [v] H Q (fun _ _ _ => False) →
      ∃ t, PSs (cxOf CX0 P w K mg base N qual scope f cdv callerA [] s H (fun _ _ _ => False)) body t ∧ t { nx := fun _ H' => Q .non H', rt := Q } (start N [v]) H) :
    LawOk P w K mg base f fd x sp := by
  intro s H u v Q e0 bind rv hs
  obtain ⟨oc, od, dV, kV, doc, pm, an, cdv, ct, osl, rfl, lk, cd, _, _⟩ := F.ex
  have inK : K.In s.heap := e0.mod.kin.keeps fun b o e => (e0.bs b o e).1
  have free : s.heap.NoLimit := e0.mod.nolimit.keeps fun b o e => (e0.bs b o e).1
  have kinds : ∀ y ∈ [(x, u)], scope.names.lookup y.1 = some .local ∨ (scope.names.lookup y.1 = some .cell ∧ ((cellsFrom (s.heap.objs.size + 1) scope.names []).lookup y.1).isSome = true) := by
    intro y hy
    obtain rfl := List.mem_singleton.mp hy
    rcases S.par x (List.mem_singleton.mpr rfl) with q | q
    · exact .inl q
    · exact .inr ⟨q, PySem.W.cellsFrom_some _ _ _ (.inl q)⟩
  refine codeAny_call_function room.depth (inK _ _ lk) rfl S.co S.gen rfl (PySem.W.codeRec_of inK cd) (bind _ _ _ _ ?_)
  refine wpAny_newFunctionEnv_cells S.kind kinds fun env he s1 z => ?_
  subst he
  refine ⟨free.keeps z.toInCall.keep, codeAny_func ?_⟩
  obtain ⟨t, ht, hq⟩ := go cdv s H v Q (room.deeper _) rfl hs
  have I : Inv (cxOf CX0 P w K mg base N qual scope f cdv callerA [] s H (fun _ _ _ => False)) [] (start N [v]) H s1 := inv_start (us := [u]) (ps := [x]) S room.hd e0 rfl (.cons rv .nil) z
  refine wpAny_mono (ht.run [] s1 _ H _ I hq) (fun fl s' out => ?_) fun _ _ z => z
  cases fl with
  | ret u' => exact let ⟨v', _, H', J, r', q⟩ := out; ⟨v', H', J.os, J.bare, J.base, J.hok, r', q⟩
  | next => exact let ⟨_, H', J, q⟩ := out; ⟨.non, H', J.os, J.bare, J.base, J.hok, rfl, q⟩
  | brk => exact let ⟨_, _, _, q⟩ := out; q.elim
  | cont => exact let ⟨_, _, _, q⟩ := out; q.elim
end
/-- from the state at the claim's call -/
theorem law_run {P : Program} {w : World} {K : PySem.W.Frag} {mg mb : Str → Option Value} {fa a : Addr} {fd : FuncData} {x : Str} {sp : Sp} {s : Shared} {vs : List Value} {ns : List Int}
    (KX : K.In s.heap) (gl : s.heap.Ns mainGlobals mg) (bl : s.heap.Ns builtinsNs mb) (boot : ∀ y : Str, y ≠ "__name__" → mb y = bootBuiltins y) (free : s.heap.NoLimit) (gens : s.gens = #[])
    (ha : s.heap.get? a = some { cls := .type "list", data := .seq vs.toArray }) (hints : IntsAre vs ns) (short : ns.length ≤ sizeLine)
    (F : ∀ base : Heap, K.In base → base.Ns mainGlobals mg → LawOk P w K mg base fa fd x sp) (bind : ∀ (s : Shared) (u : Value), BindsTo s fd ⟨[u], []⟩ [(x, u)])
    (hs : ∀ H : Hp, Only H → SqL K H a (ns.map V.int) → sp [.ref a] H (fun v _ => v = .bl true) (fun _ _ _ => False)) :
    codeAny (model P w) callerA (.call (.ref fa) ⟨[.ref a], []⟩) (fun r s' => r = .ok (.ret (.bool true)) ∧ OldK s.heap s'.heap ∧ s'.os = s.os ∧ AllBare s'.gens) s := by
  have rel := vals_ints hints
  have count := hints.length
  let ob : Obj := { cls := .type "list", data := .seq vs.toArray }
  have main : ∀ H : Hp, Only H → SqL K H a (ns.map V.int) → HOk P w H s.heap → (∀ b, H b ≠ none → b = a) → (H a ≠ none → K.lookup a = none) →
      codeAny (model P w) callerA (.call (.ref fa) ⟨[.ref a], []⟩) (fun r s' => r = .ok (.ret (.bool true)) ∧ OldK s.heap s'.heap ∧ s'.os = s.os ∧ AllBare s'.gens) s := by
    intro H only seq hok just notK
    let B := hidT s.heap H
    have noDict : ∀ {b : Addr} {o : Obj} {es : Array DictEntry} {ep : Nat}, s.heap.get? b = some o → o.data = .dict es ep → H b = none := fun {b o es ep} e d => by
      cases q : H b with
      | none => rfl
      | some _ =>
        obtain rfl : b = a := just b (by rw [q]; simp)
        rw [ha] at e
        cases e
        cases (show Data.seq vs.toArray _ = Data.dict es ep from d)
    have space : ∀ {b : Addr} {m : Str → Option Value}, s.heap.Ns b m → B.Ns b m := fun {b m} ⟨o, es, ep, e, d, r⟩ => ⟨o, es, ep, hidT_get e (noDict e d), d, r⟩
    have KB : K.In B := fun b o e => hidT_get (KX b o e) (by
      cases q : H b with
      | none => rfl
      | some _ =>
        obtain rfl : b = a := just b (by rw [q]; simp)
        rw [notK (by rw [q]; simp)] at e
        cases e)
    have M : Mod K mg B := ⟨KB, space gl, ⟨mb, space bl, boot⟩, let ⟨mc, h1, h2⟩ := free; ⟨mc, space h1, h2⟩⟩
    have e0 : Env0 P w K mg B callerA [] s H := ⟨rfl, M, fun b o e => of_hidT e, Nat.le_of_eq (hidT_size _ _), trivial, fun b hb => absurd (show b ∈ ([] : List Addr) from hb) List.not_mem_nil, hok, .of_eq gens⟩
    refine codeAny_mono (F B KB (space gl) s H (.ref a) (.ref a) _ e0 (bind s (.ref a)) rfl (hs H only seq)) fun r s' out => ?_
    cases r with
    | error e => exact False.elim out
    | ok fl =>
      cases fl with
      | next => exact False.elim out
      | brk => exact False.elim out
      | cont => exact False.elim out
      | ret u =>
        obtain ⟨v, H', os, bare, un, hok', rv, q⟩ := out
        obtain rfl : v = .bl true := q
        obtain rfl : u = Value.bool true := rv
        refine ⟨rfl, OldK.of_keep fun b o e => ?_, os, bare⟩
        cases q : H b with
        | none => exact un.keep b o e q (fun z => absurd (show b ∈ ([] : List Addr) from z) List.not_mem_nil) List.not_mem_nil
        | some _ =>
          rcases only b with z | ⟨o2, xs, z⟩
          · rw [q] at z
            cases z
          · obtain ⟨g1, _⟩ := hok b _ z
            obtain ⟨g2, _⟩ := hok' b _ (un.frzs b o2 _ z)
            rw [e] at g1
            cases g1
            exact g2
  cases lk : K.lookup a with
  | some o =>
    have e := KX a o lk
    rw [ha] at e
    cases e
    exact main (fun _ => none) (fun _ => .inl rfl) (.inr ⟨_, vs.toArray, _, lk, rfl, rfl, rfl, by rw [List.size_toArray, count]; exact short, by simpa using rel⟩) (fun b u z => nomatch (show (none : Option HO) = some u from z)) (fun b z => absurd rfl z) fun z => absurd rfl z
  | none =>
    let H1 : Hp := fun b => if b = a then some (.frz ob (.lst (ns.map V.int))) else none
    have atA : H1 a = some (.frz ob (.lst (ns.map V.int))) := if_pos rfl
    have offA : ∀ {b : Addr}, b ≠ a → H1 b = none := fun hb => if_neg hb
    refine main H1 (fun b => ?_) (.inl (.inr ⟨ob, atA⟩)) (fun b u z => ?_) (fun b z => ?_) fun _ => lk
    · by_cases hb : b = a
      · exact .inr ⟨_, _, by rw [hb]; exact atA⟩
      · exact .inl (offA hb)
    · by_cases hb : b = a
      · subst hb
        cases atA.symm.trans z
        exact ⟨ha, by rw [List.length_map]; exact short, vs, _, rel, ha⟩
      · exact nomatch (offA hb).symm.trans z
    · by_cases hb : b = a
      · exact hb
      · exact absurd (offA hb) z
theorem walk_law {l : PySem.W.OpenLaw} {n : Nat} {q : Program} {loose : List Str} {XP : (Str → Option Value) → Heap → Prop} {YP : World → Heap → Prop} {d : DefRec} {x : Str} (hn : l.most = some n) (hz : n ≤ sizeLine) (noDfl : d.params.defaults = [])
    (F : ∀ (w : World) (mg : Str → Option Value) (fa : Addr) (h : Heap), YP w h → h.Ns mainGlobals mg → mg d.name = some (.ref fa) → ∃ (K : PySem.W.Frag) (fd : FuncData) (sp : Sp), K.In h ∧ (∀ (s : Shared) (u : Value), BindsTo s fd ⟨[u], []⟩ [(x, u)]) ∧
      (∀ (H : Hp) (a : Addr) (ns : List Int), ns.length ≤ n → Only H → SqL K H a (ns.map V.int) → sp [.ref a] H (fun v _ => v = .bl true) fun _ _ _ => False) ∧
      ∀ base : Heap, K.In base → base.Ns mainGlobals mg → LawOk l.prog w K mg base fa fd x sp) :
    PySem.W.WalkO q loose XP YP l.row.toRowW d [] (fun f vs => PySem.call f vs) := by
  refine Att.attach_call hn noDfl fun w s₀ s₁ mg mb fa o pm cd doc a vs ns G Y ho hd hcd hmg hobj hints short gens => ?_
  obtain ⟨K, fd, sp, KX, bind, hs, hF⟩ := F w mg fa _ Y G.T.g hmg
  exact law_run KX G.T.g G.T.b G.T.builtins G.T.nolimit gens hobj hints (Nat.le_trans short hz) hF bind fun H only seq => hs H a ns short only seq
end V1

set_option maxHeartbeats 4000000
/-! V1e: what K00's files had in the namespace V1, for other laws -/
namespace V1
open PySem PySem.Spec PyProof.Rows L2
/-- the def that the module's name x stands for keeps sp -/
def Has (P : Program) (w : World) (K : PySem.W.Frag) (mg : Str → Option Value) (base : Heap) (CX : CXT) (k : Nat) (x : Str) (ps : List Str) (sp : Sp) : Prop :=
  ∃ fd, FnOk P w K mg base CX k (He.ga K x) fd ps sp ∧ Binds K fd ps [] ∧ PySem.W.keepIn K (.ref (He.ga K x)) = true ∧ mg x = some (.ref (He.ga K x))
theorem pe_has {X : Cx} {CX : CXT} {k : Nat} {x : Str} {ps : List Str} {sp : Sp} {E : XK} {e : Expr} {es : List Expr} {t : TA} {p pos : Pos} (h : Has X.prog X.w X.K X.mg X.base CX k x ps sp) (hr : Room k X.A) (hx : Passes CX X E) (ha : PA X (e :: es) t) (hg : Gl X x := by rfl)
    (hdb : (x == ("__debug__" : Str)) = false := by decide) (he : starEach (e :: es) X.env = (false, eval e X.env) :: starEach es X.env := by rfl) (hpl : (backTo pos (starEach es X.env)).any (·.1) = false := by rfl) :
    PE X (.Call (.Name x p) (e :: es) [] pos) (tCall sp [] E t) := by
  obtain ⟨fd, F, b, kp, g⟩ := h
  exact pe_call F hr hg g kp b .nil hx ha hdb he hpl
theorem pe_has0 {X : Cx} {CX : CXT} {k : Nat} {x : Str} {ps : List Str} {sp : Sp} {E : XK} {p pos : Pos} (h : Has X.prog X.w X.K X.mg X.base CX k x ps sp) (hr : Room k X.A) (hx : Passes CX X E) (hg : Gl X x := by rfl)
    (hdb : (x == ("__debug__" : Str)) = false := by decide) : PE X (.Call (.Name x p) [] [] pos) (tCall sp [] E tNil) := by
  obtain ⟨fd, F, b, kp, g⟩ := h
  exact pe_call0 F hr hg g kp b .nil hx hdb
theorem delH_upd {H : Hp} {a : Addr} {o : HO} : delH (upd H a o) a = delH H a := by
  funext b
  by_cases e : b = a
  · rw [e, delH_same, delH_same]
  · rw [delH_ne e, delH_ne e, upd_ne e]
theorem delH_updN {H : Hp} {a p : Addr} {o : HO} (h : p ≠ a) : delH (upd H p o) a = upd (delH H a) p o := by
  funext b
  by_cases e : b = a
  · rw [e, delH_same, upd_ne (Ne.symm h), delH_same]
  · rw [delH_ne e]
    by_cases z : b = p
    · rw [z, upd_same, upd_same]
    · rw [upd_ne z, upd_ne z, delH_ne e]
theorem same_new {H : Hp} {p : Addr} {o : HO} (h : H p = none) : Same H (upd H p o) := fun b x e => by
  rw [upd_ne (ne_of_none e h)]
  exact e
theorem same_delH {H : Hp} {a : Addr} : Same (delH H a) H := fun b o e => by
  by_cases z : b = a
  · rw [z, delH_same] at e
    cases e
  · rw [delH_ne z] at e
    exact e
theorem same_del {H H' : Hp} {a : Addr} (h : Same H H') : Same (delH H a) (delH H' a) := fun b o e => by
  by_cases z : b = a
  · rw [z, delH_same] at e
    cases e
  · rw [delH_ne z] at e ⊢
    exact h b o e
end V1
namespace V1
open PySem PySem.Spec PyProof.Rows L2
/-- [..], its place told not to be the table of modules -/
def tLstS (t : TA) : TE := fun σ H Q => t σ H fun xs H1 => xs.length ≤ sizeLine ∧ ∀ p, H1 p = none → (p == sysModules) = false → Q (.ref p) (upd H1 p (.lst xs))
theorem pe_lstS {X : Cx} {es : List Expr} {t : TA} {pos : Pos} (h : PA X es t) : PE X (.List es pos) (tLstS t) := by
  constructor
  intro pins s σ H Q I hq
  apply wpAny_List_spliced
  apply thn (h.run pos pins s σ H _ I hq)
  rintro us s1 ⟨xs, H1, J, rv, z, q⟩
  have lenU : us.length ≤ sizeLine := rv.length ▸ z
  refine ⟨lenU, .ref s1.heap.objs.size, _, ?_, rfl, q _ (J.hok.fresh (Nat.le_refl _)) (beq_eq_false_iff_ne.mpr (Nat.ne_of_gt J.big))⟩
  exact J.laid (o := .lst xs) (t' := s1.toks) (fun _ _ e => Heap.get?_push_of_some _ e) (Nat.le_refl _) ⟨z, us, 0, rv, Heap.get?_push_size _ rfl⟩
/-- the hand at a stands -/
def Held (H : Hp) (a : Addr) : Prop := ∃ o, H a = some o
theorem Held.same {H H' : Hp} {a : Addr} (h : Held H a) (s : Same H H') : Held H' a := let ⟨o, e⟩ := h; ⟨o, s _ _ e⟩
theorem Held.off {H H' : Hp} {a p : Addr} {o : HO} (h : Held H a) (n : H p = none) (e : H' p = some o) : (delH H' a) p = some o := by
  obtain ⟨u, hu⟩ := h
  rw [delH_ne (Ne.symm (ne_of_none hu n))]
  exact e
/-- te makes this data beside what stands at a -/
def Mk (te : TE) (σ : L2.St) (a : Addr) (d : PyData) : Prop := ∀ H, Held H a → ∀ Q : VK, (∀ v H', Same H H' → Dq (delH H' a) v d → Q v H') → te σ H Q
def MkA (ta : TA) (σ : L2.St) (a : Addr) (ds : List PyData) : Prop := ∀ H, Held H a → ∀ Q : List V → Hp → Prop, (∀ vs H', Same H H' → DqAll (delH H' a) vs ds → Q vs H') → ta σ H Q
section
variable {σ : L2.St} {a : Addr} {d : PyData} {ds : List PyData} {te : TE} {ta : TA}
theorem mk_non : Mk (tC .non) σ a .none := fun H _ _ k => k _ H (Same.refl H) .non
theorem mk_bl (b : Bool) : Mk (tC (.bl b)) σ a (.bool b) := fun H _ _ k => k _ H (Same.refl H) (.bl b)
theorem mk_int (i : Int) : Mk (tC (.int i)) σ a (.int i) := fun H _ _ k => k _ H (Same.refl H) (.int i)
theorem mk_str (x : Str) : Mk (tC (.str x)) σ a (.str x) := fun H _ _ k => k _ H (Same.refl H) (.str x)
theorem mka_nil : MkA tNil σ a [] := fun H _ _ k => k [] H (Same.refl H) .nil
theorem mka_cons (h : Mk te σ a d) (r : MkA ta σ a ds) : MkA (tCons te ta) σ a (d :: ds) := fun H hh _ k => h H hh _ fun v H1 s1 q1 => r H1 (hh.same s1) _ fun vs H2 s2 q2 => k (v :: vs) H2 (s1.trans s2) (.cons (Dq.same (same_del s2) d v q1) q2)
theorem dqAll_len {H : Hp} : ∀ {vs : List V} {ds : List PyData}, DqAll H vs ds → vs.length = ds.length
  | _, [], .nil => rfl
  | _, _ :: _, .cons _ m => congrArg (· + 1) (dqAll_len m)
theorem mk_tup (r : MkA ta σ a ds) (hz : ds.length ≤ 1000) : Mk (tTup ta) σ a (.tuple ds) := fun H hh _ k => r H hh _ fun vs H1 s1 q1 =>
  ⟨Nat.le_of_lt (small1000 (by rw [dqAll_len q1]; exact hz)), fun p n => k _ _ (s1.trans (same_new n)) (.tup ((hh.same s1).off n upd_same) (DqAll.same (same_del (same_new n)) ds vs q1))⟩
theorem mk_lst (r : MkA ta σ a ds) (hz : ds.length ≤ 1000) : Mk (tLstS ta) σ a (.list ds) := fun H hh _ k => r H hh _ fun vs H1 s1 q1 =>
  ⟨Nat.le_of_lt (small1000 (by rw [dqAll_len q1]; exact hz)), fun p n low => k _ _ (s1.trans (same_new n)) (.lst ((hh.same s1).off n upd_same) low (DqAll.same (same_del (same_new n)) ds vs q1))⟩
theorem mk_dict0 : Mk tDNewK σ a (.dict []) := fun H hh _ k p n => k _ _ (same_new n) (.dct (hh.off n upd_same) .nil)
/-- a written dict of one text key and an int -/
theorem mk_dict1 (x : Str) (i : Int) : Mk (tDisp [(tC (.str x), tC (.int i))]) σ a (.dict [(.str x, .int i)]) := fun H hh _ k p n =>
  ⟨upd_same, [(.inr x, .int i)], rfl, (by show 1 ≤ 15; decide), by
    rw [upd_upd]
    exact k _ _ (same_new n) (.dct (kvs := [(.inr x, .int i)]) (hh.off n upd_same) (.cons (k := .inr x) (.int i) .nil))⟩
theorem DqAll.get {H : Hp} : ∀ {vs : List V} {ds : List PyData} {j : Nat} {d : PyData}, DqAll H vs ds → ds[j]? = some d → ∃ v, vs[j]? = some v ∧ Dq H v d
  | _, _ :: _, 0, _, .cons one _, e => ⟨_, rfl, by
    obtain rfl := Option.some.inj e
    exact one⟩
  | _, _ :: _, j + 1, _, .cons _ more, e => DqAll.get (j := j) more e
/-- an item of a written list of data, its place from an int -/
theorem mk_pick {K : PySem.W.Frag} {ti : TE} {H : Hp} {Q : VK} {j : Nat} (r : MkA ta σ a ds) (hz : ds.length ≤ 1000) (hh : Held H a) (hi : ∀ H1, Same H H1 → ∀ Q : VK, Q (.int j) H1 → ti σ H1 Q) (hj : j < ds.length)
    (k : ∀ v H', Same H H' → Dq (delH H' a) v ds[j] → Q v H') : tOp (rIxL K) (tLstS ta) ti σ H Q := r H hh _ fun vs H1 s1 q1 =>
  ⟨Nat.le_of_lt (small1000 (by rw [dqAll_len q1]; exact hz)), fun p n _ => by
    obtain ⟨v, hv, dv⟩ := DqAll.get q1 (List.getElem?_eq_getElem hj)
    have s2 := s1.trans (same_new (o := .lst vs) n)
    exact hi _ s2 _ ⟨p, vs, j, v, rfl, rfl, .inl (.inl upd_same), atI_nat hv, k v _ s2 (Dq.same (same_del (same_new n)) _ v dv)⟩⟩
end
structure Good (d : PyData) (b n : Nat) : Prop where
  sh : d.showable = true
  dp : d.depth ≤ b
  ln : d.shown.length ≤ n
theorem Good.mono {d : PyData} {b n b' n' : Nat} (h : Good d b n) (h1 : b ≤ b') (h2 : n ≤ n') : Good d b' n' := ⟨h.sh, Nat.le_trans h.dp h1, Nat.le_trans h.ln h2⟩
theorem good_int {i : Int} (h0 : 0 ≤ i) (h : i < 10 ^ 6) : Good (.int i) 0 6 := by
  refine ⟨?_, Nat.le_refl _, toString_length_le h0 (by decide) h⟩
  have z : i.natAbs < 2 ^ 20 := by omega
  have e : i.natAbs.log2 < 1920 := by
    by_cases hz : i.natAbs = 0
    · rw [hz]
      decide
    · exact Nat.lt_trans ((Nat.log2_lt hz).mpr z) (by decide)
  simpa [PyData.showable] using e
theorem good_list2 {d e : PyData} {b c n m : Nat} (hd : Good d b n) (he : Good e c m) : Good (.list [d, e]) (max b c + 1) (n + m + 4) := by
  refine ⟨?_, ?_, ?_⟩
  · simp only [PyData.showable, PyData.showableAll, hd.sh, he.sh, Bool.and_self]
  · simp only [PyData.depth, PyData.depthAll]
    have h1 := hd.dp
    have h2 := he.dp
    omega
  · have q : (PyData.list [d, e]).shown = ((((Str.ofString "[" ++ Str.ofString "") ++ d.shown) ++ Str.ofString ", ") ++ e.shown) ++ Str.ofString "]" := by
      simp only [PyData.shown, PyData.shownAll]
      rfl
    rw [q]
    simp only [strLen_append]
    have h1 := hd.ln
    have h2 := he.ln
    have k1 : (Str.ofString "[").length = 1 := by decide
    have k2 : (Str.ofString "").length = 0 := by decide
    have k3 : (Str.ofString ", ").length = 2 := by decide
    have k4 : (Str.ofString "]").length = 1 := by decide
    omega
theorem good_tup2 {d e : PyData} {b c n m : Nat} (hd : Good d b n) (he : Good e c m) : Good (.tuple [d, e]) (max b c + 1) (n + m + 4) := by
  refine ⟨?_, ?_, ?_⟩
  · simp only [PyData.showable, PyData.showableAll, hd.sh, he.sh, Bool.and_self]
  · simp only [PyData.depth, PyData.depthAll]
    have h1 := hd.dp
    have h2 := he.dp
    omega
  · have q : (PyData.tuple [d, e]).shown = (Str.ofString "(" ++ Str.join ", " [d.shown, e.shown]) ++ Str.ofString ")" := by
      simp only [PyData.shown, PyData.shownAll]
      rfl
    rw [q]
    simp only [strLen_append]
    have h1 := hd.ln
    have h2 := he.ln
    have j := join_length_add [d.shown, e.shown] (by simp)
    have p : piled [d.shown, e.shown] = d.shown.length + 2 + (e.shown.length + 2) := by simp [piled]
    have k1 : (Str.ofString "(").length = 1 := by decide
    have k2 : (Str.ofString ")").length = 1 := by decide
    omega
end V1
namespace V1
open PySem PySem.Spec PyProof.Rows L2
/-- an exception's class, and its fields if it has some -/
abbrev Kd : Type := Addr × Option (List (Str × V))
inductive ExAll (H : Hp) : List V → List Kd → Prop
  | nil : ExAll H [] []
  | cons {a : Addr} {k : Kd} {vs : List V} {ks : List Kd} (one : IsEx H a k.1 k.2) (more : ExAll H vs ks) : ExAll H (.ref a :: vs) (k :: ks)
theorem ExAll.same {H H' : Hp} (e : Same H H') : ∀ {vs : List V} {ks : List Kd}, ExAll H vs ks → ExAll H' vs ks
  | _, _, .nil => .nil
  | _, _, .cons one more => .cons (one.same e) (more.same e)
theorem ExAll.len {H : Hp} : ∀ {vs : List V} {ks : List Kd}, ExAll H vs ks → vs.length = ks.length
  | _, _, .nil => rfl
  | _, _, .cons _ more => congrArg (· + 1) more.len
theorem ExAll.app {H : Hp} : ∀ {vs us : List V} {ks ls : List Kd}, ExAll H vs ks → ExAll H us ls → ExAll H (vs ++ us) (ks ++ ls)
  | _, _, _, _, .nil, h => h
  | _, _, _, _, .cons one more, h => .cons one (more.app h)
theorem ExAll.get {H : Hp} : ∀ {vs : List V} {ks : List Kd} {j : Nat} {k : Kd}, ExAll H vs ks → ks[j]? = some k → ∃ a, vs[j]? = some (.ref a) ∧ IsEx H a k.1 k.2
  | _, _, 0, _, .cons one _, e => ⟨_, rfl, by
    obtain rfl := Option.some.inj e
    exact one⟩
  | _, _, j + 1, _, .cons _ more, e => more.get (j := j) e
/-- te makes an exception of this kind -/
def MkE (te : TE) (σ : L2.St) (k : Kd) : Prop := ∀ (H : Hp) (Q : VK), (∀ a H', Same H H' → IsEx H' a k.1 k.2 → Q (.ref a) H') → te σ H Q
def MkEs (ta : TA) (σ : L2.St) (ks : List Kd) : Prop := ∀ (H : Hp) (Q : List V → Hp → Prop), (∀ vs H', Same H H' → ExAll H' vs ks → Q vs H') → ta σ H Q
section
variable {σ : L2.St} {k : Kd} {ks ls : List Kd} {te : TE} {ta tb : TA}
theorem mke_nil : MkEs tNil σ [] := fun H _ q => q [] H (Same.refl H) .nil
theorem mke_cons (h : MkE te σ k) (r : MkEs ta σ ks) : MkEs (tCons te ta) σ (k :: ks) := fun H _ q => h H _ fun a H1 s1 e1 => r H1 _ fun vs H2 s2 e2 => q _ H2 (s1.trans s2) (.cons (e1.same s2) e2)
theorem mke_bare (C : Addr) : MkE (tMk0 C) σ (C, none) := fun H _ q a n => q a _ (same_new n) upd_same
/-- a list of them -/
def MkEL (te : TE) (σ : L2.St) (ks : List Kd) : Prop := ∀ (H : Hp) (Q : VK), (∀ p vs H', Same H H' → H p = none → H' p = some (.lst vs) → ExAll H' vs ks → Q (.ref p) H') → te σ H Q
theorem fresh_up {H H' : Hp} {p : Addr} (s : Same H H') (n : H' p = none) : H p = none := by
  cases e : H p with
  | none => rfl
  | some o =>
    rw [s p o e] at n
    cases n
theorem mkel_lst (r : MkEs ta σ ks) (hz : ks.length ≤ 1000) : MkEL (tLst ta) σ ks := fun H _ q => r H _ fun vs H1 s1 e1 =>
  ⟨Nat.le_of_lt (small1000 (by rw [e1.len]; exact hz)), fun p n => q p vs _ (s1.trans (same_new n)) (fresh_up s1 n) upd_same (e1.same (same_new n))⟩
theorem mkel_go {H : Hp} {Q : VK} (r : MkEs ta σ ks) (hz : ks.length ≤ 1000) (q : ∀ p vs H', Same H H' → H p = none → H' p = some (.lst vs) → ExAll H' vs ks → Q (.ref p) H') : tLst ta σ H Q := mkel_lst r hz H Q q
theorem q_mkel {H : Hp} {D : Ends} {tz : TS} {i : Nat} (r : MkEs ta σ ks) (hz : ks.length ≤ 1000) (k : ∀ p vs H', Same H H' → H p = none → H' p = some (.lst vs) → ExAll H' vs ks → tz D (σ.set i (some (.ref p))) H') :
    tSeq (tAsg (tLst ta) (gName i)) tz D σ H := by
  show tLst ta σ H fun v H' => tz D (σ.set i (some v)) H'
  exact mkel_lst r hz H _ k
/-- a list of what is told wherever G holds -/
def Bs (ta : TA) (σ : L2.St) (G : Hp → Prop) (vs : List V) : Prop := ∀ H, G H → ∀ Q : List V → Hp → Prop, Q vs H → ta σ H Q
theorem bs_nil {G : Hp → Prop} : Bs tNil σ G [] := fun H _ _ q => q
theorem bs_cons {G : Hp → Prop} {v : V} {vs : List V} (h : ∀ H, G H → ∀ Q : VK, Q v H → te σ H Q) (r : Bs ta σ G vs) : Bs (tCons te ta) σ G (v :: vs) := fun H g _ q => h H g _ (r H g _ q)
theorem q_bs {H : Hp} {D : Ends} {tz : TS} {i : Nat} {G : Hp → Prop} {vs : List V} (b : Bs ta σ G vs) (g : G H) (hz : vs.length ≤ 1000) (k : ∀ p H', Same H H' → H p = none → H' p = some (.lst vs) → tz D (σ.set i (some (.ref p))) H') :
    tSeq (tAsg (tLst ta) (gName i)) tz D σ H := by
  show tLst ta σ H fun v H' => tz D (σ.set i (some v)) H'
  exact b H g _ ⟨Nat.le_of_lt (small1000 hz), fun p n => k p _ (same_new n) n upd_same⟩
theorem r_bs {H : Hp} {Q : VK} {G : Hp → Prop} {vs : List V} (b : Bs ta σ G vs) (g : G H) (hz : vs.length ≤ 1000) (k : ∀ p H', Same H H' → H p = none → H' p = some (.lst vs) → Q (.ref p) H') : tLst ta σ H Q := b H g _ ⟨Nat.le_of_lt (small1000 hz), fun p n => k p _ (same_new n) n upd_same⟩
theorem cat_go {H : Hp} {Q : VK} {x y : Addr} {xs ys : List V} (hx : H x = some (.lst xs)) (hy : H y = some (.lst ys)) (hz : xs.length + ys.length ≤ 1000) (k : ∀ p H', Same H H' → H p = none → H' p = some (.lst (xs ++ ys)) → Q (.ref p) H') : rCat (.ref x) (.ref y) H Q :=
  ⟨x, y, xs, ys, rfl, rfl, hx, hy, Nat.le_of_lt (small1000 hz), fun p n => k p _ (same_new n) n upd_same⟩
theorem mkel_cat {t1 t2 : TE} (h1 : MkEL t1 σ ks) (h2 : MkEL t2 σ ls) (hz : ks.length + ls.length ≤ 1000) : MkEL (tOp rCat t1 t2) σ (ks ++ ls) := fun H _ q => h1 H _ fun p vs H1 s1 _ e1 x1 => h2 H1 _ fun p2 us H2 s2 _ e2 x2 =>
  ⟨p, p2, vs, us, rfl, rfl, s2 _ _ e1, e2, Nat.le_of_lt (small1000 (by rw [x1.len, x2.len]; exact hz)), fun p3 n => q p3 _ _ ((s1.trans s2).trans (same_new n)) (fresh_up (s1.trans s2) n) upd_same (((x1.same s2).app x2).same (same_new n))⟩
theorem mkel_var {i : Nat} {p : Addr} {vs : List V} {H0 : Hp} (h0 : σ[i]? = some (some (.ref p))) (e : H0 p = some (.lst vs)) (x : ExAll H0 vs ks) : ∀ (H : Hp), Same H0 H → ∀ Q : VK, (∀ H', Same H H' → H' p = some (.lst vs) → ExAll H' vs ks → Q (.ref p) H') → tVar i σ H Q :=
  fun H s Q q => ⟨_, h0, q H (Same.refl H) (s _ _ e) (x.same s)⟩
end
/-- __init__(self, f): self.f = f -/
def spIni (K : PySem.W.Frag) (C : Addr) (f : Str) : Sp := fun vs H Q _ => ∃ (a : Addr) (v : V), vs = [.ref a, v] ∧ H a = some (exo a C none) ∧ ∀ dx, H dx = none → dx ≠ a → Q .non (upd (upd H dx (exd dx [(f, v)])) a (exo a C (some dx)))
theorem mke_field {K : PySem.W.Frag} {σ : L2.St} {C : Addr} {f : Str} {v : V} {ta : TA} (ha : ∀ (H : Hp) (Q : List V → Hp → Prop), Q [v] H → ta σ H Q) : MkE (tMkV C (spIni K C f) [] ta) σ (C, some [(f, v)]) := fun H _ q => ha H _
  ⟨by show 1 ≤ 1000; decide, fun a n => ⟨a, v, rfl, upd_same, fun dx nd ne => by
    have nd' : H dx = none := by
      rw [upd_ne ne] at nd
      exact nd
    refine ⟨rfl, q a _ (fun b o e => ?_) ⟨dx, upd_same, ?_⟩⟩
    · rw [upd_ne (ne_of_none e n), upd_ne (ne_of_none e nd'), upd_ne (ne_of_none e n)]
      exact e
    · rw [upd_ne ne, upd_same]⟩⟩
end V1
namespace V1
open PySem PySem.Spec PyProof.Rows L2
theorem wCl_take {K : PySem.W.Frag} {W : WX} {D : Ends} {c cls : Value} {o : Option Nat} {ts : Addr → Value → Option Addr → TS} {l : List Cl} {d : Option Addr} {σ : L2.St} {H : Hp} (h : PySem.W.exmOne K cls c = some true) (k : ∀ a, H a = none → suiteD D a cls d ts σ H o) :
    wCl K W D ((c, o, ts) :: l) cls d σ H := ⟨true, h, fun _ => k, (fun z => nomatch z)⟩
theorem wCl_skip {K : PySem.W.Frag} {W : WX} {D : Ends} {c cls : Value} {o : Option Nat} {ts : Addr → Value → Option Addr → TS} {l : List Cl} {d : Option Addr} {σ : L2.St} {H : Hp} (h : PySem.W.exmOne K cls c = some false) (k : wCl K W D l cls d σ H) :
    wCl K W D ((c, o, ts) :: l) cls d σ H := ⟨false, h, (fun z => nomatch z), fun _ => k⟩
/-- raise C(e), C's __init__ keeping its one field -/
theorem raise_go {K : PySem.W.Frag} {σ : L2.St} {H : Hp} {C : Addr} {f : Str} {v : V} {ta : TA} {Q : XK} (ha : ∀ Q : List V → Hp → Prop, Q [v] H → ta σ H Q) (k : ∀ d H', H d = none → Same H H' → H' d = some (.xd [(f, v)]) → Q (.ref C) (some d) H') :
    tMkO C (spIni K C f) [] ta σ H Q := ha _ ⟨by show 1 ≤ 1000; decide, fun a n => ⟨a, v, rfl, upd_same, fun dx nd ne => by
  have nd' : H dx = none := by
    rw [upd_ne ne] at nd
    exact nd
  refine ⟨rfl, dx, [(f, v)], upd_same, ?_, nd', k dx _ nd' (fun b o e => ?_) upd_same⟩
  · rw [upd_ne ne, upd_same]
  · rw [upd_ne (ne_of_none e nd'), del_ne (ne_of_none e n), upd_ne (ne_of_none e n), upd_ne (ne_of_none e nd'), upd_ne (ne_of_none e n)]
    exact e⟩⟩
end V1

set_option maxHeartbeats 4000000
/-! V2: for i, x in enumerate(tuple) -/
namespace V2
open PySem PySem.Spec PyProof.Rows L2 V1
open AutoSeq1 (wpAny_loadPart')
theorem enum_tup_new (t : Addr) (items : Array Value) :
    Meets (Builtin.«enumerate.__new__» ⟨[.type "enumerate", .ref t], []⟩) (fun _ R s => s.heap.IsTuple t items ∧
      R (.ok (.ret (.ref (s.heap.objs.size + 1))))
        { s with heap := (s.heap.push { cls := .type "tuple_iterator", data := .fields #[.ref t, .int 0 0] }).push { cls := .type "enumerate", data := .fields #[.none, .bool false, .ref s.heap.objs.size, rawInt 0, .none, .none] } }) :=
  .of_wp fun prog w A R s hh => by
    obtain ⟨hp, g, d, tk, os⟩ := s
    obtain ⟨ht, go⟩ := hh
    have sub := sub_enumerate
    have size : (hp.push { cls := .type "tuple_iterator", data := .fields #[.ref t, .int 0 0] }).objs.size = hp.objs.size + 1 := Heap.size_push ..
    rw [← size] at go
    have begin_ : ∀ {A' : Around} {E : Value → Shared → Prop} {Q : Value → Shared → Prop}, Q (.ref hp.objs.size) ⟨hp.push { cls := .type "tuple_iterator", data := .fields #[.ref t, .int 0 0] }, g, d, tk, os⟩ →
        wpAny (model prog w) A' (pyIter (.ref t)) Q E ⟨hp, g, d, tk, os⟩ := fun q => (begins_tuple t items).iter prog w _ _ ⟨hp, g, d, tk, os⟩ _ ht q
    wp_walk using begin_
    refine wpAny_stack_any fun st => wpAny_pure ?_
    split
    · rename_i c _ _ _ _ _
      cases (c == Value.type "enumerate")
      all_goals
        wp_walk using begin_
        exact ⟨_, rfl, go⟩
    · wp_walk using begin_
      exact ⟨_, rfl, go⟩
section
variable {prog : Program} {w : World} {A : Around} {E : Value → Shared → Prop} {s : Shared}
theorem enum_tup {t : Addr} {items : Array Value} {Q : Value → Shared → Prop} (ht : s.heap.IsTuple t items)
    (k : ∀ h', IsEnum h' (s.heap.objs.size + 1) s.heap.objs.size 0 .none → h'.IsTupleIter s.heap.objs.size t 0 → (∀ b o, s.heap.get? b = some o → h'.get? b = some o) → Q (.ref (s.heap.objs.size + 1)) { s with heap := h' }) :
    wpAny (model prog w) A (call (.type "enumerate") [.ref t]) Q E s := by
  refine callType_new F.called_enumerate (by decide) (F.typeCall_enumerate_1 _) (F.newCall_enumerate_1 _) (fun obj => F.args_object_init_2 obj _) F.entry_enumerate_new (enum_tup_new t items) ⟨ht, ?_⟩
  let itO : Obj := { cls := .type "tuple_iterator", data := .fields #[.ref t, .int 0 0] }
  let enO : Obj := { cls := .type "enumerate", data := .fields #[.none, .bool false, .ref s.heap.objs.size, rawInt 0, .none, .none] }
  have size : (s.heap.push itO).objs.size = s.heap.objs.size + 1 := Heap.size_push ..
  have en : ((s.heap.push itO).push enO).get? (s.heap.objs.size + 1) = some enO := by
    have z := Heap.get?_push_size (s.heap.push itO) (o := enO) rfl
    rwa [size] at z
  have old : ∀ b o, s.heap.get? b = some o → ((s.heap.push itO).push enO).get? b = some o := fun b o e => Heap.get?_push_of_some _ (Heap.get?_push_of_some _ e)
  exact ⟨⟨_, en, rfl⟩, k _ en ⟨itO, Heap.get?_push_of_some _ (Heap.get?_push_size _ rfl), rfl, rfl⟩ old⟩
end
theorem draws_end {prog : Program} {w : World} {A : Around} (hh : A.handled = none) (it t : Addr) (items : Array Value) (i : Nat) (hx : items[i]? = none) :
    Draws prog w A it [it, t] i (fun _ _ => True) (fun j h => j = i ∧ h.IsTupleIter it t i ∧ h.IsTuple t items) where
  live := fun _ _ st => let ⟨o, ho, _⟩ := st.2.1; ⟨o, ho⟩
  frame := fun _ _ _ st hk => ⟨st.1, st.2.1.at fun o e => hk it (List.mem_cons_self ..) o e, st.2.2.at fun o e => hk t (List.mem_cons_of_mem _ (List.mem_singleton.mpr rfl)) o e⟩
  item := fun j s Q E hj st _ => absurd st.1 (Nat.ne_of_lt hj)
  done := fun s Q E st hE => wpAny_nextOf_tuple_end hh st.2.1 st.2.2 hx hE
/-- the tuple at a, each item in a new pair with its place -/
def Itu (K : PySem.W.Frag) (a : Addr) : It :=
  ⟨fun i H => ∃ (xs : List V) (x : V), SqT K H a xs ∧ xs[i]? = some x, fun i H v H' => ∃ T x, v = .ref T ∧ H T = none ∧ H' = upd H T (.tup [.int (i : Nat), x]) ∧ ∀ xs, SqT K H a xs → xs[i]? = some x, fun i H => ∃ xs : List V, SqT K H a xs ∧ xs.length ≤ i⟩
theorem turn_enumT {P : Program} {w : World} {K : PySem.W.Frag} {elts : List Expr} {kk : Nat} {tpos : Pos} (a e it : Addr) :
    Turn P w K (.Tuple elts kk tpos) (Itu K a) [e, it] e (fun i h => (∃ old, IsEnum h e it ((i : Nat) : Int) old) ∧ h.IsTupleIter it a i ∧ e ≠ it) where
  mem := List.mem_cons_self ..
  obj := fun i h st b hb => by
    obtain ⟨⟨old, he⟩, ⟨o, ho, hc, hd⟩, _⟩ := st
    rcases List.mem_cons.mp hb with rfl | hb
    · exact ⟨_, he, fun v q => nomatch q⟩
    · obtain rfl := List.mem_singleton.mp hb
      exact ⟨o, ho, fun v q => by rw [hd] at q; cases q⟩
  keep := fun i h h' st k => let ⟨⟨old, he⟩, hi, hne⟩ := st; ⟨⟨old, k e (List.mem_cons_self ..) _ he⟩, hi.at fun o q => k it (List.mem_cons_of_mem _ (List.mem_singleton.mpr rfl)) o q, hne⟩
  item := by
    intro X hP hw hK hc i pins s σ H E I free st hg
    subst hP hw hK
    obtain ⟨⟨old, he⟩, hit, hne⟩ := st
    obtain ⟨xs, x, hq, hx⟩ := hg
    obtain ⟨its, rv, tup, hz⟩ := I.tuple hq
    obtain ⟨u, hu, ru⟩ := rv.get hx
    have len := rv.length
    have il : i < its.length := by
      obtain ⟨l, _⟩ := List.getElem?_eq_some_iff.mp hu
      exact l
    have off : a ≠ it := by
      rintro rfl
      obtain ⟨o1, e1, c1, n1, d1⟩ := tup
      obtain ⟨o2, e2, c2, d2⟩ := hit
      rw [e1] at e2
      cases e2
      rw [d1] at d2
      cases d2
    refine wpAny_pyNext_enum_itemD (n := its.toArray.size) (Draws.tuple (show X.A.in1.handled = none from I.ok.hd hc) it a off its.toArray) he (And.intro hit tup) (by simpa using il) hne (fun z => ?_) fun y h1 tk hy out st1 new size old1 => ?_
    · rcases List.mem_cons.mp z with z | z
      · exact hne z
      · obtain rfl := List.mem_singleton.mp z
        obtain ⟨o1, e1, c1, n1, d1⟩ := tup
        rw [he] at e1
        cases e1
        cases d1
    have ey : y = u := by
      have z : its.toArray[i]? = some u := by simpa using hu
      exact Option.some.inj (hy.symm.trans z)
    subst ey
    refine ⟨_, rfl, wpAny_letOwnedTupleGo_enum (s := { s with heap := h1, toks := tk + 1 }) out fun h2 he2 sb => ?_⟩
    have lt : e < s.heap.objs.size := Heap.lt_size he
    have T2 : h2.get? s.heap.objs.size = some { cls := .type "tuple", data := .seq #[.int i tk, y] } := (sb.2 _ (Nat.ne_of_gt lt)).trans new
    have ob : ObjOk X.prog X.w (upd H s.heap.objs.size (.tup [.int (i : Nat), x])) h2 s.heap.objs.size (.tup [.int (i : Nat), x]) :=
      ⟨by show 2 ≤ sizeLine; decide, [.int i tk, y], .cons ⟨_, rfl⟩ (.cons ru .nil), _, T2, rfl, _, rfl⟩
    have J : Inv X pins σ (upd H s.heap.objs.size (.tup [.int (i : Nat), x])) { s with heap := h2, toks := tk + 1 } :=
      I.turnedNew (ch := [e, it]) (fun b o hb q => (sb.2 b fun z => hb (by simp [z])).trans (old1 b o (fun z => hb (by simp [z])) (fun z => hb (by simp [z])) q)) free (Nat.le_refl _) ob
    refine ⟨.ref s.heap.objs.size, _, J, rfl, ⟨_, x, rfl, I.hok.fresh (Nat.le_refl _), rfl, fun ys hy => by rw [I.tuple_inj hy hq]; exact hx⟩, ⟨⟨y, ?_⟩, st1.1.at fun o q => (sb.2 it (Ne.symm hne)).trans q, hne⟩, fun b hb => ?_⟩
    · rw [show ((i + 1 : Nat) : Int) = (i : Int) + 1 by omega]
      exact he2
    · have z : b < s.heap.objs.size := by
        rcases List.mem_cons.mp hb with rfl | hb
        · exact lt
        · obtain rfl := List.mem_singleton.mp hb
          obtain ⟨_, q, _⟩ := hit
          exact Heap.lt_size q
      rw [upd_ne (Nat.ne_of_lt z)]
      exact (free b hb).1
  done := by
    intro X hP hw hK hc i pins s σ H E I free st hg
    subst hP hw hK
    obtain ⟨⟨old, he⟩, hit, hne⟩ := st
    obtain ⟨xs, hq, hx⟩ := hg
    obtain ⟨its, rv, tup, hz⟩ := I.tuple hq
    obtain ⟨f0, f1, f2, f3, f4, f5⟩ := free it (List.mem_cons_of_mem _ (List.mem_singleton.mpr rfl))
    have len := rv.length
    have none_ : its.toArray[i]? = none := by simp; omega
    exact wpAny_pyNext_enum_endD (draws_end (show X.A.in1.handled = none from I.ok.hd hc) it a its.toArray i none_) he ⟨rfl, hit, tup⟩ fun h' eb => ⟨rfl, I.turned (t' := s.toks) (fun b o hb q => eb b o hb q) f0 f1 f3 f4 f5⟩
  self := fun A i s Q E st h => let ⟨⟨_, he⟩, _⟩ := st; wpAny_pyIter_enum he h
def iEnumT (K : PySem.W.Frag) (ta : TA) : TI := fun σ H R => ta σ H fun vs H1 => ∃ a xs, vs = [.ref a] ∧ SqT K H1 a xs ∧ R (Itu K a) H1
theorem pi_enumT {X : Cx} {e : Expr} {ta : TA} {p pos tpos : Pos} {elts : List Expr} {kk : Nat} (hg : Gl X "enumerate") (hm : X.mg "enumerate" = none) (ha : PA X [e] ta) (hs : starEach [e] X.env = [(false, eval e X.env)] := by rfl) :
    PI X (.Tuple elts kk tpos) (.Call (.Name "enumerate" p) [e] [] pos) (iEnumT X.K ta) := by
  constructor
  intro pins s σ H R I h
  refine Call_ (ld_blt I hg hm boot_enumerate (PyProof.Rows.callWith_type1 (thn (ha.run pos pins s σ H _ I h) ?_) hs rfl))
  rintro us s1 ⟨_, H1, J, rv, a, xs, rfl, hq, go⟩
  cases rv with
  | cons r more =>
    cases more
    cases r
    obtain ⟨its, rv2, tup, hz⟩ := J.tuple hq
    refine enum_tup tup fun h' he hit old => wpAny_pyIter_enum he ?_
    refine ⟨s1.heap.objs.size + 1, [s1.heap.objs.size + 1, s1.heap.objs.size], _, _, H1, rfl, J.kept (t' := s1.toks) old, turn_enumT a (s1.heap.objs.size + 1) s1.heap.objs.size, ⟨⟨.none, he⟩, hit, Nat.succ_ne_self _⟩, fun b hb => ?_, go⟩
    have le : s1.heap.objs.size ≤ b := by
      rcases List.mem_cons.mp hb with rfl | hb
      · exact Nat.le_succ _
      · exact Nat.le_of_eq (List.mem_singleton.mp hb).symm
    exact J.fpOk le (J.hok.fresh le)
theorem walk_enumT {K : PySem.W.Frag} {a : Addr} {xs : List V} : Walk (Itu K a) xs.length (fun H => SqT K H a xs) (YPair (fun i => some (.int (i : Nat))) (fun i => xs[i]?)) :=
  ⟨fun i _ hi q => ⟨xs, xs[i], q, List.getElem?_eq_getElem hi⟩, fun _ q => ⟨xs, q, Nat.le_refl _⟩, fun i _ _ _ _ q y => let ⟨T, x, h1, h2, h3, h4⟩ := y; ⟨T, .int (i : Nat), x, h1, h2, h3, rfl, h4 xs q⟩⟩
end V2

set_option maxHeartbeats 4000000
/-! V2: data asked for its kind; data as the library's; in, == over data -/
namespace V2
open PySem PySem.Spec PyProof.Rows L2 V1
def tyName : PyData → String
  | .none => "NoneType"
  | .bool _ => "bool"
  | .int _ => "int"
  | .str _ => "str"
  | .list _ => "list"
  | .tuple _ => "tuple"
  | .dict _ => "dict"
theorem dq_ty {K : PySem.W.Frag} {H : Hp} {v : V} {d : PyData} (h : Dq H v d) : TyX K H v (.type (tyName d)) := by
  cases h with
  | non => exact .base .non
  | bl b => exact .base (.bl b)
  | int i => exact .base (.int i)
  | str x => exact .base (.str x)
  | lst e _ _ => exact .base (.lst e)
  | tup e _ => exact .base (.tup e)
  | dct e _ => exact .base (.dK e)
def isInt : PyData → Bool
  | .int _ => true
  | _ => false
def isBool : PyData → Bool
  | .bool _ => true
  | _ => false
def isStr : PyData → Bool
  | .str _ => true
  | _ => false
def isTup : PyData → Bool
  | .tuple _ => true
  | _ => false
def isLst : PyData → Bool
  | .list _ => true
  | _ => false
theorem kit_int (d : PyData) : kitB (tyName d) "int" = some (isInt d || isBool d) := by cases d <;> kernel_rfl
theorem kit_bool (d : PyData) : kitB (tyName d) "bool" = some (isBool d) := by cases d <;> kernel_rfl
theorem kit_str (d : PyData) : kitB (tyName d) "str" = some (isStr d) := by cases d <;> kernel_rfl
theorem kit_tup (d : PyData) : kitB (tyName d) "tuple" = some (isTup d) := by cases d <;> kernel_rfl
theorem kit_lst (d : PyData) : kitB (tyName d) "list" = some (isLst d) := by cases d <;> kernel_rfl
section
variable {K : PySem.W.Frag} {σ : L2.St} {H : Hp} {Q : VK} {te : TE} {v : V} {d : PyData} {n : String} {b : Bool}
theorem isi_go (hb : kitB (tyName d) n = some b) (ht : ∀ Q : VK, Q v H → te σ H Q) (hd : Dq H v d) (q : Q (.bl b) H) : tCB (rIsi K) (tCons te (tCons (tC (.ty n)) tNil)) σ H Q :=
  ht _ ⟨v, .ty n, _, _, b, rfl, .ty n, dq_ty hd, kit_ty hb, q⟩
/-- isinstance(x, (tuple, list)) -/
theorem isiT_go {n1 n2 : String} (hb : PySem.W.kitAny K (.type (tyName d)) [.type n1, .type n2] = some b) (ht : ∀ Q : VK, Q v H → te σ H Q) (hd : Dq H v d) (q : ∀ p, H p = none → Q (.bl b) (upd H p (.tup [.ty n1, .ty n2]))) :
    tCB (rIsiT K) (tCons te (tCons (tTup (tCons (tC (.ty n1)) (tCons (tC (.ty n2)) tNil))) tNil)) σ H Q :=
  ht _ ⟨(by show 2 ≤ sizeLine; decide), fun p np => ⟨v, p, _, _, _, b, rfl, upd_same, .cons (.ty n1) (.cons (.ty n2) .nil), dq_ty (Dq.same (same_new np) d v hd), hb, q p np⟩⟩
theorem kit_tl (d : PyData) : PySem.W.kitAny K (.type (tyName d)) [.type "tuple", .type "list"] = some (isTup d || isLst d) := by
  have h1 := kit_ty (K := K) (kit_tup d)
  have h2 := kit_ty (K := K) (kit_lst d)
  show (match PySem.W.kitOne K (.type (tyName d)) (.type "tuple") with
    | some true => some true
    | some false => (match PySem.W.kitOne K (.type (tyName d)) (.type "list") with
      | some true => some true
      | some false => some false
      | none => none)
    | none => none) = _
  rw [h1, h2]
  cases isTup d <;> cases isLst d <;> rfl
end
/-! data without dicts, as the library's == and in read it -/
mutual
def plain : PyData → Bool
  | .none | .bool _ | .int _ | .str _ => true
  | .list xs | .tuple xs => plainAll xs
  | .dict _ => false
def plainAll : List PyData → Bool
  | [] => true
  | x :: xs => plain x && plainAll xs
end
section
variable {K : PySem.W.Frag} {H : Hp}
mutual
theorem dq_dp : ∀ (d : PyData) (v : V), plain d = true → Dq H v d → Dp K H v d
  | .none, _, _, h => by cases h; exact .non
  | .bool b, _, _, h => by cases h; exact .bl b
  | .int i, _, _, h => by cases h; exact .int i
  | .str x, _, _, h => by cases h; exact .str x
  | .list ds, _, p, h => by
    cases h with
    | lst e _ r => exact .lst (.inl (.inl e)) (dqAll_dp ds _ (by simpa [plain] using p) r)
  | .tuple ds, _, p, h => by
    cases h with
    | tup e r => exact .tup (.inl (.inl e)) (dqAll_dp ds _ (by simpa [plain] using p) r)
  | .dict _, _, p, _ => by simp [plain] at p
theorem dqAll_dp : ∀ (ds : List PyData) (vs : List V), plainAll ds = true → DqAll H vs ds → DpAll K H vs ds
  | [], _, _, h => by cases h; exact .nil
  | d :: ds, _, p, h => by
    cases h with
    | cons one more =>
      have p' : plain d = true ∧ plainAll ds = true := by simpa [plainAll] using p
      exact .cons (dq_dp d _ p'.1 one) (dqAll_dp ds _ p'.2 more)
end
end
/-- x in t, t a tuple of data -/
def rInT (K : PySem.W.Frag) (neg : Bool) : R2 := fun x y H Q => ∃ d ds, Dp K H x d ∧ Dp K H y (.tuple ds) ∧ SeqAt.shaped d = true ∧ SeqAt.shaped (.tuple ds) = true ∧ Q (.bl (neg.xor (ds.any fun z => PyData.eqv z d))) H
section
variable {X : Cx}
theorem op_inT (hu : X.A.units + 70 < cLine) : OpR X (compareOp .In) (rInT X.K false) := by
  rintro pins s σ H x y v u Q I rx ry ⟨d, ds, hd, he, sd, se, q⟩
  obtain ⟨as, r1⟩ := Dp.reads I d x v hd rx
  obtain ⟨bs, r2⟩ := Dp.reads I (.tuple ds) y u he ry
  have dep : d.depth ≤ 64 := by
    have z : (d.canLay0 && decide (d.depth ≤ 64)) = true := sd
    simp only [Bool.and_eq_true, decide_eq_true_eq] at z
    exact z.2
  exact SeqAt.in_tuple_reads r2 r1 (by simpa [PyData.canLay0] using SeqAt.canLay_of_shaped se) (SeqAt.canLay_of_shaped sd) (by omega) ⟨.bl _, H, I, rfl, by simpa using q⟩
theorem op_notInT (hu : X.A.units + 70 < cLine) : OpR X (compareOp .NotIn) (rInT X.K true) := by
  rintro pins s σ H x y v u Q I rx ry ⟨d, ds, hd, he, sd, se, q⟩
  obtain ⟨as, r1⟩ := Dp.reads I d x v hd rx
  obtain ⟨bs, r2⟩ := Dp.reads I (.tuple ds) y u he ry
  have dep : d.depth ≤ 64 := by
    have z : (d.canLay0 && decide (d.depth ≤ 64)) = true := sd
    simp only [Bool.and_eq_true, decide_eq_true_eq] at z
    exact z.2
  exact SeqAt.notIn_tuple_reads r2 r1 (by simpa [PyData.canLay0] using SeqAt.canLay_of_shaped se) (SeqAt.canLay_of_shaped sd) (by omega) ⟨.bl _, H, I, rfl, by simpa using q⟩
end
end V2

set_option maxHeartbeats 4000000
/-! V2c: exceptions of one field; the own == -/
namespace V2
open PySem PySem.Spec PyProof.Rows L2 V1
open Evl (pss_cut tCut sq_of st_of)
section
variable {P : Program} {w : World} {K : PySem.W.Frag} {mg : Str → Option Value} {base : Heap}
theorem ok_init {name qual : Str} {params : Arguments} {body : List Stmt} {scope : Scope} {C fI : Addr} {fd : FuncData} {f : Str} {p1 p2 p3 p4 : Pos} (F : FunD K name qual params body scope [] [] fI fd) (S : FnScope ["self", f] ["self", f] scope)
    (hb : body = [.Assign [.Attribute (.Name "self" p1) f p2] (.Name f p3) p4]) (hC : OexC K C) (no : PySem.W.findIn K (.ref C) f = some none) (hf : (f == ("__debug__" : Str)) = false) (hf2 : (f == ("__classdict__" : Str)) = false)
    (v0 : Vis scope "self") (v1 : Vis scope f) (sw : ∀ env : Env, swapsWith (.Name f p3) (some (.Attribute (.Name "self" p1) f p2)) p4.line env = pure false) : FnOk P w K mg base CX0 1 fI fd ["self", f] (spIni K C f) := by
  subst hb
  refine F.ok S (fun vs H Q E h => ?_) (fun cdv A outer s H vs Q E hr h => ?_)
  · obtain ⟨a, v, rfl, _⟩ := h
    rfl
  · refine ⟨_, PSs.nox (pss_one (ps_ost (pe_var (i := 0) rfl v0) (pe_var (i := 1) rfl v1 hf hf2) (sw _))), ?_⟩
    obtain ⟨a, v, rfl, e, hQ⟩ := h
    exact ⟨v, rfl, _, rfl, a, C, rfl, hC, no, .inl ⟨e, fun dx n ne => hQ dx n ne⟩⟩
structure Fld (P : Program) (w : World) (K : PySem.W.Frag) (mg : Str → Option Value) (base : Heap) (x f : Str) : Prop where
  gC : mg x = some (.ref (He.ga K x))
  oex : OexC K (He.ga K x)
  no : PySem.W.findIn K (.ref (He.ga K x)) f = some none
  init : ∃ fI fd, PySem.W.findIn K (.ref (He.ga K x)) "__init__" = some (some (.ref fI)) ∧ PySem.W.typeIn K (.ref fI) = some (.type "function") ∧ FnOk P w K mg base CX0 1 fI fd ["self", f] (spIni K (He.ga K x) f) ∧ Binds K fd ["self", f] []
theorem pe_fld {X : Cx} {x f : Str} {e : Expr} {es : List Expr} {ta : TA} {p pos : Pos} (h : Fld X.prog X.w X.K X.mg X.base x f) (hr : Room 2 X.A) (ha : PA X (e :: es) ta) (hg : Gl X x := by rfl) (hdb : (x == ("__debug__" : Str)) = false := by decide)
    (he : starEach (e :: es) X.env = (false, eval e X.env) :: starEach es X.env := by rfl) (hpl : (backTo pos (starEach es X.env)).any (·.1) = false := by rfl) :
    PE X (.Call (.Name x p) (e :: es) [] pos) (tMkV (He.ga X.K x) (spIni X.K (He.ga X.K x) f) [] ta) := by
  obtain ⟨fI, fd, h1, h2, h3, h4⟩ := h.init
  exact pe_mkV h.oex h1 h2 h3 hr h4 .nil pass0 hg h.gC ha hdb he hpl
theorem pmk_fld {X : Cx} {x f : Str} {e : Expr} {es : List Expr} {ta : TA} {p pos : Pos} (h : Fld X.prog X.w X.K X.mg X.base x f) (hr : Room 2 X.A) (ha : PA X (e :: es) ta) (hg : Gl X x := by rfl) (hdb : (x == ("__debug__" : Str)) = false := by decide)
    (he : starEach (e :: es) X.env = (false, eval e X.env) :: starEach es X.env := by rfl) (hpl : (backTo pos (starEach es X.env)).any (·.1) = false := by rfl) :
    PMk X (.Call (.Name x p) (e :: es) [] pos) (tMkO (He.ga X.K x) (spIni X.K (He.ga X.K x) f) [] ta) := by
  obtain ⟨fI, fd, h1, h2, h3, h4⟩ := h.init
  exact pmk_oex h.oex h1 h2 h3 hr h4 .nil pass0 hg h.gC ha hdb he hpl
theorem meth_ty {K : PySem.W.Frag} {C f : Addr} {m : Str} (h : Meth K C m f) : PySem.W.typeIn K (.ref f) = some (.type "function") := eq_of_beq h.fn
theorem fld_of {x f : Str} {name qual : Str} {params : Arguments} {body : List Stmt} {scope : Scope} {fI : Addr} {fd : FuncData} {bm : List Value} {p1 p2 p3 p4 : Pos}
    (F : FunD K name qual params body scope [] [] fI fd) (S : FnScope ["self", f] ["self", f] scope) (hb : body = [.Assign [.Attribute (.Name "self" p1) f p2] (.Name f p3) p4])
    (gC : mg x = some (.ref (He.ga K x))) (E : ExK K (He.ga K x) bm) (hr : PySem.HandSPX.refsVE bm = true) (hbe : (Value.ref (He.ga K x) :: bm).contains (.type "BaseException") = true)
    (no : PySem.W.findIn K (.ref (He.ga K x)) f = some none) (m : Meth K (He.ga K x) "__init__" fI) (hf : (f == ("__debug__" : Str)) = false) (hf2 : (f == ("__classdict__" : Str)) = false)
    (v0 : Vis scope "self") (v1 : Vis scope f) (sw : ∀ env : Env, swapsWith (.Name f p3) (some (.Attribute (.Name "self" p1) f p2)) p4.line env = pure false) (b : Binds K fd ["self", f] []) : Fld P w K mg base x f :=
  ⟨gC, E.oex hr hbe, no, fI, fd, m.at_, meth_ty m, ok_init F S hb (E.oex hr hbe) no hf hf2 v0 v1 sw, b⟩
end
def tyNames : List String := ["NoneType", "bool", "int", "str", "list", "tuple", "dict"]
/-- what isinstance and == ask of a plain class -/
def insB (K : PySem.W.Frag) (C : Addr) : Bool :=
  decide (PySem.W.findIn K (.ref C) "__class__" = some (some (.builtin "object.__class__"))) && (decide (PySem.W.mroIn K C (.type "object") = some true) && (decide (PySem.W.kitOne K (.ref C) (.ref C) = some true) &&
    tyNames.all fun n => decide (PySem.W.kitOne K (.type n) (.ref C) = some false) && PySem.W.notFirst K C (.type n)))
structure InsK (K : PySem.W.Frag) (C : Addr) : Prop where
  ha : PySem.W.findIn K (.ref C) "__class__" = some (some (.builtin "object.__class__"))
  hm : PySem.W.mroIn K C (.type "object") = some true
  me : PySem.W.kitOne K (.ref C) (.ref C) = some true
  no : ∀ n ∈ tyNames, PySem.W.kitOne K (.type n) (.ref C) = some false
  nf : ∀ n ∈ tyNames, PySem.W.notFirst K C (.type n) = true
theorem insK_of {K : PySem.W.Frag} {C : Addr} (h : insB K C = true) : InsK K C := by
  unfold insB at h
  simp only [Bool.and_eq_true, List.all_eq_true, decide_eq_true_eq] at h
  exact ⟨h.1, h.2.1, h.2.2.1, fun n hn => (h.2.2.2 n hn).1, fun n hn => (h.2.2.2 n hn).2⟩
theorem tyName_mem (d : PyData) : tyName d ∈ tyNames := by cases d <;> simp [tyName, tyNames]
theorem InsK.ins {K : PySem.W.Frag} {C : Addr} (h : InsK K C) (c : Cls K C) (a : ClsAttr K) : C8.InsC K C := ⟨c, h.ha, a.1, a.2, h.hm, h.me⟩
section
variable {K : PySem.W.Frag} {σ : L2.St} {H : Hp} {Q : VK} {te : TE} {v : V} {d : PyData} {C : Addr}
theorem TyX_ins {a dx : Addr} {fs : List (Str × V)} (e : H a = some (.ins C dx fs)) (c : C8.InsC K C) : TyX K H (.ref a) (.ref C) := .base (.ins e c.cl c.ha c.hn c.htk c.hm)
/-- isinstance(x, C), C a plain class: data -/
theorem isiC_no (i : InsK K C) (ht : ∀ Q : VK, Q v H → te σ H Q) (hd : Dq H v d) (q : Q (.bl false) H) : tCB (rIsi K) (tCons te (tCons (tC (.ref C)) tNil)) σ H Q :=
  ht _ ⟨v, .ref C, _, _, false, rfl, .own C, dq_ty hd, i.no _ (tyName_mem d), q⟩
theorem isiC_yes {a dx : Addr} {fs : List (Str × V)} (i : C8.InsC K C) (ht : ∀ Q : VK, Q (.ref a) H → te σ H Q) (e : H a = some (.ins C dx fs)) (q : Q (.bl true) H) : tCB (rIsi K) (tCons te (tCons (tC (.ref C)) tNil)) σ H Q :=
  ht _ ⟨.ref a, .ref C, _, _, true, rfl, .own C, TyX_ins e i, i.me, q⟩
end
/-- x == y by x's own == -/
def rOwnE (K : PySem.W.Frag) (C : Addr) (sp : Sp) (E : XK) : R2 := fun x y H Q => ∃ a dx fs t, x = .ref a ∧ H a = some (.ins C dx fs) ∧ TyX K H y t ∧ PySem.W.notFirst K C t = true ∧ sp [.ref a, y] H (fun v H' => ∃ b, v = .bl b ∧ Q (.bl b) H') E
section
variable {X : Cx} {pins : List (Addr × Obj)} {σ : L2.St} {H : Hp} {s : Shared}
theorem op_ownE {CX : CXT} {C f : Addr} {fd : FuncData} {ps : List Str} {sp : Sp} {E : XK} {n : Nat} (F : FnOk X.prog X.w X.K X.mg X.base CX n f fd ps sp)
    (hs : PySem.W.findIn X.K (.ref C) "__eq__" = some (some (.ref f))) (hf : PySem.W.isFn X.K (.ref f) = true) (hb : Binds X.K fd ps []) (hx : Passes CX X E) (hr : Room n X.A) : OpR X (compareOp .Eq) (rOwnE X.K C sp E) := by
  intro pins s σ H x y v u Q I rx ry hq
  obtain ⟨a, dx, fs, t, rfl, ha, ty, nf, h⟩ := hq
  cases rx
  show wpAny (model X.prog X.w) X.A (richCompare .Eq (.ref a) u) (EP X pins σ Q) X.xe s
  obtain ⟨P, Z, p, _⟩ := kit_of I ry ty
  obtain ⟨mA, J, _⟩ := ins_get I.hok ha
  obtain ⟨od, J, _⟩ := J.look
  obtain ⟨m, hF⟩ := I.fr
  refine PySem.W.cmp_K (op := .Eq) (tb := t) hr.units0 hF I.ok.mod.kin J (Z.ty (model X.prog X.w) s.heap I.kIn p) nf hs hf ?_
  have hl := F.len _ _ _ _ h
  have r2 : Vals [V.ref a, y] [Value.ref a, u] := .cons rfl (.cons ry .nil)
  refine wpAny_call (codeAny_mono (F.run X.A X.stack s H ⟨[.ref a, u], []⟩ [.ref a, u] [.ref a, y] _ E hr I.env0 (by
    have := hb s [.ref a, u] I.kIn (by simpa using hl)
    simpa using this) r2 h) fun r s' hq => ?_)
  cases r with
  | error e => exact hx pins σ H s e s' I hq
  | ok fl =>
    cases fl with
    | ret w =>
      obtain ⟨z, H', I', rz, b, ez, q⟩ := I.after hq
      subst ez
      cases rz
      exact ⟨.bl b, H', I', rfl, q⟩
    | next => exact False.elim hq
    | brk => exact False.elim hq
    | cont => exact False.elim hq
end
end V2

set_option maxHeartbeats 4000000
/-! V2d: raise X() of a bare own class; comprehensions that make lists of data -/
namespace V2
open PySem PySem.Spec PyProof.Rows L2 V1
theorem pmk_mk0 {X : Cx} {C : Addr} {bmB : List Value} {B newId initId : String} {x : Str} {p pos : Pos} (F : ExcBaseFacts B newId initId bmB) (q : PySem.W.excIn X.K C bmB newId = true) (gC : X.mg x = some (.ref C)) (kC : PySem.W.keepIn X.K (.ref C) = true)
    (r : Raises X (.ref C)) (hg : Gl X x) (hdb : (x == ("__debug__" : Str)) = false := by decide) : PMk X (.Call (.Name x p) [] [] pos) (fun _ H Q => Q (.ref C) none H) := by
  intro pins s σ H Q I h
  refine wpAny_Call_Name_kw (ld_glob I hg gC ?_ hdb)
  refine PySem.W.callWith_K0 I.kIn kC ?_
  obtain ⟨bm, N, nm, qn, bs, hdct, sn, sub, ab, col, dd, k0, k1, k2, k3, k5, mN, hC, hN, hni, T⟩ := exc_obj I.kIn q
  refine wpAny_call_exc_subT F T hC hN hni (fun h' a hm => ?_) (Nat.zero_le _)
  exact mk_of I hm r h (I.hok.gone hm.new)
theorem DqAll.app {H : Hp} : ∀ {vs us : List V} {ds es : List PyData}, DqAll H vs ds → DqAll H us es → DqAll H (vs ++ us) (ds ++ es)
  | _, _, _, _, .nil, h => h
  | _, _, _, _, .cons one more, h => .cons one (DqAll.app more h)
theorem same_delD {H H' : Hp} {D : Addr} (h : Same H H') (n : H D = none) : Same H (delH H' D) := fun b o e => by
  rw [delH_ne (ne_of_none e n)]
  exact h b o e
/-- the list at D has come to acc, behind i turns; Pv tells of the heap without it -/
def Lc (D : Addr) (Pv : Nat → List V → Hp → Prop) (i : Nat) (H : Hp) : Prop := ∃ acc, acc.length ≤ i ∧ H D = some (.lst acc) ∧ Pv i acc (delH H D)
theorem lc_put {D : Addr} {Pv : Nat → List V → Hp → Prop} {i : Nat} {H : Hp} {acc : List V} {y : V} (l : acc.length ≤ i) (z : i < 1000) (e : H D = some (.lst acc)) (p : Pv (i + 1) (acc ++ [y]) (delH H D)) :
    ∃ acc, H D = some (.lst acc) ∧ acc.length < sizeLine ∧ Lc D Pv (i + 1) (upd H D (.lst (acc ++ [y]))) :=
  ⟨acc, e, Nat.lt_of_le_of_lt l (small1000 (by omega)), acc ++ [y], by rw [List.length_append]; simp; omega, upd_same, by rw [delH_upd]; exact p⟩
theorem lc_skip {D : Addr} {Pv : Nat → List V → Hp → Prop} {i : Nat} {H : Hp} {acc : List V} (l : acc.length ≤ i) (e : H D = some (.lst acc)) (p : Pv (i + 1) acc (delH H D)) : Lc D Pv (i + 1) H := ⟨acc, by omega, e, p⟩
theorem lc_gen {J : It} {n : Nat} {G : Hp → Prop} {Y : Nat → Hp → V → Hp → Prop} (w : Walk J n G Y) {g : TG} {tt : TT} {te : TE} {vs : List Nat} {σ : L2.St} {H1 : Hp} {D : Addr} {Qd : Hp → Prop} (nD : H1 D = none) (Pv : Nat → List V → Hp → Prop) (h0 : Pv 0 [] H1)
    (hG : ∀ i acc H, i ≤ n → Pv i acc (delH H D) → G H)
    (hs : ∀ i acc x H H', i < n → acc.length ≤ i → H D = some (.lst acc) → Pv i acc (delH H D) → Y i H x H' → g x (wipe σ vs) H' fun σ2 H2 => wipe σ2 vs = wipe σ vs ∧ tt σ2 H2 fun b H3 =>
      if b = true then te σ2 H3 fun y H4 => ∃ acc, H4 D = some (.lst acc) ∧ acc.length < sizeLine ∧ Lc D Pv (i + 1) (upd H4 D (.lst (acc ++ [y]))) else Lc D Pv (i + 1) H3)
    (hd : ∀ acc H, acc.length ≤ n → H D = some (.lst acc) → Pv n acc (delH H D) → Qd H) :
    ∃ W : Nat → Nat → Hp → Prop, (∃ m, W 0 m (upd H1 D (.lst []))) ∧ ∀ i m H, W i m H →
      (J.stop i H ∧ Qd H) ∨ (J.go i H ∧ ∃ Nx : Hp → Prop, (∀ H', Nx H' → ∃ m', m' < m ∧ W (i + 1) m' H') ∧ ∀ x H', J.yld i H x H' → g x (wipe σ vs) H' fun σ2 H2 => wipe σ2 vs = wipe σ vs ∧ tt σ2 H2 fun b H3 =>
        if b = true then te σ2 H3 fun y H4 => ∃ acc, H4 D = some (.lst acc) ∧ acc.length < sizeLine ∧ Nx (upd H4 D (.lst (acc ++ [y]))) else Nx H3) :=
  lc_it (σ := σ) w (Lc D Pv) ⟨[], Nat.le_refl _, upd_same, by rw [delH_new nD]; exact h0⟩ (fun i H hi ⟨acc, _, _, p⟩ => hG i acc H hi p) (fun i x H H' hi ⟨acc, l, e, p⟩ y => hs i acc x H H' hi l e p y) (fun H ⟨acc, l, e, p⟩ => hd acc H l e p)
/-- [.. for i in range(n)], no test, each item data made anew -/
theorem lc_rows {K : PySem.W.Frag} {n : Nat} (hz : n ≤ 1000) {te : TE} {i0 : Nat} {vs : List Nat} {σ : L2.St} {H1 : Hp} {D : Addr} {Qd : Hp → Prop} {lo : Int} (f : Nat → PyData) (nD : H1 D = none)
    (hw : ∀ x : V, wipe ((wipe σ vs).set i0 (some x)) vs = wipe σ vs)
    (mk : ∀ i, i < n → ∀ H, Same H1 (delH H D) → (∃ o, H D = some o) → ∀ Q : VK, (∀ v H', Same H H' → Dq (delH H' D) v (f i) → Q v H') → te ((wipe σ vs).set i0 (some (.int (lo + (i : Nat))))) H Q)
    (hd : ∀ us H, H D = some (.lst us) → Same H1 H → DqAll H us ((List.range n).map f) → Qd H) :
    ∃ W : Nat → Nat → Hp → Prop, (∃ m, W 0 m (upd H1 D (.lst []))) ∧ ∀ i m H, W i m H →
      ((Itr lo n).stop i H ∧ Qd H) ∨ ((Itr lo n).go i H ∧ ∃ Nx : Hp → Prop, (∀ H', Nx H' → ∃ m', m' < m ∧ W (i + 1) m' H') ∧ ∀ x H', (Itr lo n).yld i H x H' → gName i0 x (wipe σ vs) H' fun σ2 H2 => wipe σ2 vs = wipe σ vs ∧ tYes σ2 H2 fun b H3 =>
        if b = true then te σ2 H3 fun y H4 => ∃ acc, H4 D = some (.lst acc) ∧ acc.length < sizeLine ∧ Nx (upd H4 D (.lst (acc ++ [y]))) else Nx H3) := by
  refine lc_gen (σ := σ) walk_range nD (fun i acc H => Same H1 H ∧ DqAll H acc ((List.range i).map f)) ⟨Same.refl _, .nil⟩ (fun _ _ _ _ _ => True.intro) ?_ (fun acc H _ e p => hd acc H e (fun b o q => same_delH _ _ (p.1 _ _ q)) (DqAll.same same_delH _ _ p.2))
  rintro i acc x H H' hi l e ⟨sm, p⟩ ⟨rfl, rfl⟩
  refine ⟨hw _, ?_⟩
  simp only [tYes, if_true]
  refine mk i hi H' sm ⟨_, e⟩ _ fun v H2 s2 q2 => ?_
  refine lc_put l (by omega) (s2 _ _ e) ⟨fun b o q => ?_, ?_⟩
  · exact same_del s2 _ _ (sm _ _ q)
  · rw [List.range_succ, List.map_append]
    exact DqAll.app (DqAll.same (same_del s2) _ _ p) (.cons q2 .nil)
end V2

set_option maxHeartbeats 4000000
/-! V2e: C(..) of a plain class within try; isinstance of the caught exception that has a field -/
namespace V2
open PySem PySem.Spec PyProof.Rows L2 V1
def HasC (P : Program) (w : World) (K : PySem.W.Frag) (mg : Str → Option Value) (base : Heap) (CX : CXT) (k : Nat) (x : Str) (ps : List Str) (sp : Sp) : Prop :=
  ∃ fI fd, Mk K (He.ga K x) fI ∧ FnOk P w K mg base CX k fI fd ps sp ∧ Binds K fd ps [] ∧ mg x = some (.ref (He.ga K x))
theorem pe_hasC {X : Cx} {CX : CXT} {k : Nat} {x : Str} {ps : List Str} {sp : Sp} {E : XK} {e : Expr} {es : List Expr} {t : TA} {p pos : Pos} (h : HasC X.prog X.w X.K X.mg X.base CX k x ps sp) (hr : Room (k + 1) X.A) (hx : Passes CX X E) (ha : PA X (e :: es) t) (hg : Gl X x := by rfl)
    (hdb : (x == ("__debug__" : Str)) = false := by decide) (he : starEach (e :: es) X.env = (false, eval e X.env) :: starEach es X.env := by rfl) (hpl : (backTo pos (starEach es X.env)).any (·.1) = false := by rfl) :
    PE X (.Call (.Name x p) (e :: es) [] pos) (tMake (He.ga X.K x) sp [] E t) := by
  obtain ⟨fI, fd, M, F, b, g⟩ := h
  exact pe_make M F hr hg g b .nil hx ha hdb he hpl
/-- C(..), what it lets out by the slots -/
def tMakeS (C : Addr) (sp : Sp) (E : L2.St → XK) (t : TA) : TE := fun σ H Q => tMake C sp [] (E σ) t σ H Q
theorem pe_hasCS {X : Cx} {CX : CXT} {k : Nat} {x : Str} {ps : List Str} {sp : Sp} {E : L2.St → XK} {e : Expr} {es : List Expr} {t : TA} {p pos : Pos} (h : HasC X.prog X.w X.K X.mg X.base CX k x ps sp) (hr : Room (k + 1) X.A) (hx : ∀ σ, PassesAt CX X σ (E σ)) (ha : PA X (e :: es) t) (hg : Gl X x := by rfl)
    (hdb : (x == ("__debug__" : Str)) = false := by decide) (he : starEach (e :: es) X.env = (false, eval e X.env) :: starEach es X.env := by rfl) (hpl : (backTo pos (starEach es X.env)).any (·.1) = false := by rfl) :
    PE X (.Call (.Name x p) (e :: es) [] pos) (tMakeS (He.ga X.K x) sp E t) := by
  obtain ⟨fI, fd, M, F, b, g⟩ := h
  constructor
  intro pins s σ H Q I h
  refine wpAny_Call_Name_kw (ld_glob I hg g ?_ hdb)
  refine PySem.W.callWith_K (h₀ := X.base) I.ok.mod.kin M.kp (thn (ha.run pos pins s σ H _ I h) fun us t1 hh => ?_) he hpl
  obtain ⟨vs, H1, J, rv, q⟩ := hh
  refine ⟨J.kIn, ?_⟩
  have q1 := q (t1.heap.objs.size + 1) t1.heap.objs.size (J.hok.fresh (Nat.le_succ _)) (J.hok.fresh (Nat.le_refl _)) (Nat.ne_of_lt (Nat.lt_succ_self _))
  rw [List.append_nil] at q1
  have J2 := Inv.made (C := He.ga X.K x) J
  have rv2 : Vals (V.ref (t1.heap.objs.size + 1) :: vs) (Value.ref (t1.heap.objs.size + 1) :: us) := .cons rfl rv
  have ln : (Value.ref (t1.heap.objs.size + 1) :: us).length = ps.length := rv2.length.symm.trans (F.len _ _ _ _ q1)
  have bd := b _ (Value.ref (t1.heap.objs.size + 1) :: us) J2.kIn (by rw [List.append_nil]; exact ln)
  rw [List.append_nil] at bd
  refine wpAny_call (make_map (f := fI) J.kIn M.makes M.init (beq_iff_eq.mp M.fn) (codeAny_mono (F.run _ X.stack _ _ ⟨Value.ref (t1.heap.objs.size + 1) :: us, []⟩ _ _ _ (E σ) (hr.make (He.ga X.K x) us [])
    (J2.env0.make (He.ga X.K x) us []) bd rv2 q1) fun r s' hq => ?_))
  match r, hq with
  | .error e, hq => exact hx σ pins _ _ e s' J2 hq
  | .ok (.ret u), hq =>
    obtain ⟨z, H', J3, rz, ez, q3⟩ := J2.after hq
    subst ez
    exact ⟨rz, ⟨V.ref (t1.heap.objs.size + 1), H', J3, rfl, q3⟩⟩
  | .ok .next, hq => exact False.elim hq
  | .ok .brk, hq => exact False.elim hq
  | .ok .cont, hq => exact False.elim hq
/-- isinstance(e, c), e the caught exception, with its dict -/
def rIsXd (K : PySem.W.Frag) (a C : Addr) (cls : Value) (d : Option Addr) : List V → Hp → VK → Prop := fun xs H Q => cls = .ref C ∧ ∃ (c : V) (u : Value) (b : Bool) (dd : Addr) (fs : List (Str × V)), xs = [.ref a, c] ∧ ClsV c u ∧ PySem.W.kitOne K (.ref C) u = some b ∧ d = some dd ∧ H dd = some (.xd fs) ∧ Q (.bl b) H
theorem call_isXd {X : Cx} {a C : Addr} {oe : Obj} {cls : Value} {d : Option Addr} {pn : List (Addr × Obj)} {bm : List Value} (T : ExK X.K C bm) (cA : ClsAttr X.K) (hB : (Value.ref C :: bm).contains (.type "BaseException") = true) (hO : (Value.ref C :: bm).contains (.type "object") = true)
    (hz : Zc cls d oe) (hf : ∃ vs, oe.data = .fields vs) : CallR (X.suite a ((a, oe) :: pn)) (.builtin "isinstance") (rIsXd X.K a C cls d) := by
  intro pins s σ H xs us Q I r h
  obtain ⟨rfl, c, u, b, dd, fs, rfl, k, e, rfl, ea, q⟩ := h
  obtain ⟨w1, w2, rfl, r1, r2⟩ := vals2 r
  obtain rfl : w1 = Value.ref a := r1
  have e2 := k.eq r2
  subst e2
  obtain ⟨ha, _⟩ := I.pin (a, oe) (List.mem_append_left _ List.mem_cons_self)
  obtain ⟨vs, hd⟩ := hf
  have hx : ObjOk X.prog X.w H s.heap dd (.xd fs) := I.hok dd _ ea
  obtain ⟨mA, hns, hr⟩ := hx
  obtain ⟨od, ho, hl⟩ := lookIn_ns hns
  have J : PySem.W.InstAt s.heap a oe C (some od) := ⟨ha, hz.1, by unfold PySem.W.notCls; rw [hd] <;> rfl, by rw [hz.2]; exact ho⟩
  exact PySem.W.kia_one (PySem.W.kitx_exc T.isCls T.ga T.gg (by rw [T.sub, hB]) T.cl cA.gs cA.tk (by rw [T.mro, hO])) I.kIn J e (fun z => nomatch z) fun tk => ⟨.bl b, H, I.tok tk, rfl, q⟩
end V2

set_option maxHeartbeats 4000000
/-! V2f: data at new places only (beside a hand, beside a list that will change) -/
namespace V2
open PySem PySem.Spec PyProof.Rows L2 V1
/-- H, but only what is new behind H0 -/
def newH (H0 H : Hp) : Hp := fun b => match H0 b with
  | none => H b
  | some _ => none
theorem newH_at {H0 H : Hp} {b : Addr} (n : H0 b = none) : newH H0 H b = H b := by
  unfold newH
  rw [n]
theorem newH_old {H0 H : Hp} {b : Addr} {o : HO} (n : H0 b = some o) : newH H0 H b = none := by
  unfold newH
  rw [n]
theorem newH_some {H0 H : Hp} {b : Addr} {o : HO} (h : newH H0 H b = some o) : H0 b = none ∧ H b = some o := by
  cases e : H0 b with
  | none => exact ⟨rfl, by rw [newH_at e] at h; exact h⟩
  | some u =>
    rw [newH_old e] at h
    cases h
theorem newH_sub {H0 H : Hp} : Same (newH H0 H) H := fun _ _ e => (newH_some e).2
theorem newH_up {H0 H H' : Hp} (s : Same H H') : Same (newH H0 H) (newH H0 H') := fun b o e => by
  obtain ⟨n, h⟩ := newH_some e
  rw [newH_at n]
  exact s _ _ h
theorem newH_on {H0 H1 H : Hp} (s : Same H0 H1) : Same (newH H1 H) (newH H0 H) := fun b o e => by
  obtain ⟨n, h⟩ := newH_some e
  have z : H0 b = none := by
    cases q : H0 b with
    | none => rfl
    | some u =>
      rw [s _ _ q] at n
      cases n
  rw [newH_at z]
  exact h
theorem newH_off {H0 H : Hp} {a : Addr} (h : Held H0 a) : Same (newH H0 H) (delH H a) := fun b o e => by
  obtain ⟨n, q⟩ := newH_some e
  obtain ⟨u, hu⟩ := h
  rw [delH_ne (Ne.symm (ne_of_none hu n))]
  exact q
theorem newH_off2 {H0 H : Hp} {a f : Addr} (h : Held H0 a) (hf : Held H0 f) : Same (newH H0 H) (delH (delH H a) f) := fun b o e => by
  obtain ⟨n, q⟩ := newH_some e
  obtain ⟨u, hu⟩ := hf
  rw [delH_ne (Ne.symm (ne_of_none hu n))]
  exact newH_off h b o e
/-- te makes this data at new places -/
def MkN (te : TE) (σ : L2.St) (d : PyData) : Prop := ∀ H, ∀ Q : VK, (∀ v H', Same H H' → Dq (newH H H') v d → Q v H') → te σ H Q
def MkNA (ta : TA) (σ : L2.St) (ds : List PyData) : Prop := ∀ H, ∀ Q : List V → Hp → Prop, (∀ vs H', Same H H' → DqAll (newH H H') vs ds → Q vs H') → ta σ H Q
section
variable {σ : L2.St} {d : PyData} {ds : List PyData} {te : TE} {ta : TA}
theorem mkn_non : MkN (tC .non) σ .none := fun H _ k => k _ H (Same.refl H) .non
theorem mkn_bl (b : Bool) : MkN (tC (.bl b)) σ (.bool b) := fun H _ k => k _ H (Same.refl H) (.bl b)
theorem mkn_int (i : Int) : MkN (tC (.int i)) σ (.int i) := fun H _ k => k _ H (Same.refl H) (.int i)
theorem mkn_str (x : Str) : MkN (tC (.str x)) σ (.str x) := fun H _ k => k _ H (Same.refl H) (.str x)
theorem mkna_nil : MkNA tNil σ [] := fun H _ k => k [] H (Same.refl H) .nil
theorem mkna_cons (h : MkN te σ d) (r : MkNA ta σ ds) : MkNA (tCons te ta) σ (d :: ds) := fun H _ k => h H _ fun v H1 s1 q1 => r H1 _ fun vs H2 s2 q2 =>
  k (v :: vs) H2 (s1.trans s2) (.cons (Dq.same (newH_up s2) d v q1) (DqAll.same (newH_on s1) ds vs q2))
theorem mkn_tup (r : MkNA ta σ ds) (hz : ds.length ≤ 1000) : MkN (tTup ta) σ (.tuple ds) := fun H _ k => r H _ fun vs H1 s1 q1 =>
  ⟨Nat.le_of_lt (small1000 (by rw [dqAll_len q1]; exact hz)), fun p n => k _ _ (s1.trans (same_new n)) (.tup (by rw [newH_at (fresh_up s1 n)]; exact upd_same) (DqAll.same (newH_up (same_new n)) ds vs q1))⟩
theorem mkn_lst (r : MkNA ta σ ds) (hz : ds.length ≤ 1000) : MkN (tLstS ta) σ (.list ds) := fun H _ k => r H _ fun vs H1 s1 q1 =>
  ⟨Nat.le_of_lt (small1000 (by rw [dqAll_len q1]; exact hz)), fun p n low => k _ _ (s1.trans (same_new n)) (.lst (by rw [newH_at (fresh_up s1 n)]; exact upd_same) low (DqAll.same (newH_up (same_new n)) ds vs q1))⟩
theorem mkn_dict0 : MkN tDNewK σ (.dict []) := fun H _ k p n => k _ _ (same_new n) (.dct (by rw [newH_at n]; exact upd_same) .nil)
end
end V2

set_option maxHeartbeats 4000000
/-! V2g: data made beside a hand at a and a list at f, from the heap H0 on (old data may be within) -/
namespace V2
open PySem PySem.Spec PyProof.Rows L2 V1
def MkR (H0 : Hp) (a f : Addr) (te : TE) (σ : L2.St) (d : PyData) : Prop := ∀ H, Same H0 H → ∀ Q : VK, (∀ v H', Same H H' → Dq (delH (delH H' a) f) v d → Q v H') → te σ H Q
def MkRA (H0 : Hp) (a f : Addr) (ta : TA) (σ : L2.St) (ds : List PyData) : Prop := ∀ H, Same H0 H → ∀ Q : List V → Hp → Prop, (∀ vs H', Same H H' → DqAll (delH (delH H' a) f) vs ds → Q vs H') → ta σ H Q
section
variable {H0 : Hp} {a f : Addr} {σ : L2.St} {d : PyData} {ds : List PyData} {te : TE} {ta : TA}
theorem mkr_new (ha : Held H0 a) (hf : Held H0 f) (h : MkN te σ d) : MkR H0 a f te σ d := fun H s Q k => h H Q fun v H' s' q => k v H' s' (Dq.same (newH_off2 (ha.same s) (hf.same s)) _ _ q)
theorem mkra_nil : MkRA H0 a f tNil σ [] := fun H _ _ k => k [] H (Same.refl H) .nil
theorem mkra_cons (h : MkR H0 a f te σ d) (r : MkRA H0 a f ta σ ds) : MkRA H0 a f (tCons te ta) σ (d :: ds) := fun H s _ k => h H s _ fun v H1 s1 q1 => r H1 (s.trans s1) _ fun vs H2 s2 q2 =>
  k (v :: vs) H2 (s1.trans s2) (.cons (Dq.same (same_del (same_del s2)) d v q1) q2)
theorem mkr_lst (ha : Held H0 a) (hf : Held H0 f) (r : MkRA H0 a f ta σ ds) (hz : ds.length ≤ 1000) : MkR H0 a f (tLstS ta) σ (.list ds) := fun H s _ k => r H s _ fun vs H1 s1 q1 =>
  ⟨Nat.le_of_lt (small1000 (by rw [dqAll_len q1]; exact hz)), fun p n low => k _ _ (s1.trans (same_new n)) (.lst (by
    obtain ⟨u, hu⟩ := ha.same (s.trans s1)
    obtain ⟨w, hw⟩ := hf.same (s.trans s1)
    rw [delH_ne (Ne.symm (ne_of_none hw n)), delH_ne (Ne.symm (ne_of_none hu n))]
    exact upd_same) low (DqAll.same (same_del (same_del (same_new n))) ds vs q1))⟩
/-- what stands already -/
theorem mkr_old {v : V} (h : Dq (delH (delH H0 a) f) v d) (ht : ∀ H, Same H0 H → ∀ Q : VK, Q v H → te σ H Q) : MkR H0 a f te σ d := fun H s Q k => ht H s Q (k v H (Same.refl H) (Dq.same (same_del (same_del s)) _ _ h))
end
end V2

set_option maxHeartbeats 4000000
/-! V3a: data with objects of plain classes in it: the shape of an object is objD, a dict that no dict has -/
namespace V3
open PySem PySem.Spec PyProof.Rows L2 V1 V2
class CurK where
  K : PySem.W.Frag
abbrev K [k : CurK] : PySem.W.Frag := k.K
def kindNames : List String := ["int", "bool", "str", "tuple", "list", "dict"]
/-- what more is asked of a plain class: its objects are of no built-in kind -/
def kindB (K : PySem.W.Frag) (C : Addr) : Bool := kindNames.all fun n => decide (PySem.W.kitOne K (.ref C) (.type n) = some false)
structure ObC [CurK] (C : Addr) : Prop where
  ins : C8.InsC K C
  no : ∀ n ∈ kindNames, PySem.W.kitOne K (.ref C) (.type n) = some false
theorem obC_of [CurK] {C : Addr} (i : C8.InsC K C) (h : kindB K C = true) : ObC C := ⟨i, fun n hn => by
  unfold kindB at h
  rw [List.all_eq_true] at h
  exact of_decide_eq_true (h n hn)⟩
def objD : PyData := .dict [(.none, .none)]
mutual
inductive Dx [CurK] (H : Hp) : V → PyData → Prop
  | non : Dx H .non .none
  | bl (b : Bool) : Dx H (.bl b) (.bool b)
  | int (i : Int) : Dx H (.int i) (.int i)
  | str (x : Str) : Dx H (.str x) (.str x)
  | lst {a : Addr} {xs : List V} {ds : List PyData} (at_ : H a = some (.lst xs)) (low : (a == sysModules) = false) (rest : DxAll H xs ds) : Dx H (.ref a) (.list ds)
  | tup {a : Addr} {xs : List V} {ds : List PyData} (at_ : H a = some (.tup xs)) (rest : DxAll H xs ds) : Dx H (.ref a) (.tuple ds)
  | dct {a : Addr} {kvs : List (Key × V)} {ds : List (PyData × PyData)} (at_ : H a = some (.dK kvs)) (rest : DxKv H kvs ds) : Dx H (.ref a) (.dict ds)
  | ob {a C dx : Addr} {fs : List (Str × V)} (at_ : H a = some (.ins C dx fs)) (ok : ObC C) : Dx H (.ref a) objD
inductive DxAll [CurK] (H : Hp) : List V → List PyData → Prop
  | nil : DxAll H [] []
  | cons {v : V} {vs : List V} {d : PyData} {ds : List PyData} (one : Dx H v d) (more : DxAll H vs ds) : DxAll H (v :: vs) (d :: ds)
inductive DxKv [CurK] (H : Hp) : List (Key × V) → List (PyData × PyData) → Prop
  | nil : DxKv H [] []
  | cons {k : Key} {v : V} {kvs : List (Key × V)} {d : PyData} {ds : List (PyData × PyData)} (one : Dx H v d) (more : DxKv H kvs ds) : DxKv H ((k, v) :: kvs) ((keyD k, d) :: ds)
end
section
variable [CurK] {H H' : Hp}
mutual
theorem Dx.same (e : Same H H') : ∀ (d : PyData) (v : V), Dx H v d → Dx H' v d
  | .none, _, h => by cases h; exact .non
  | .bool b, _, h => by cases h; exact .bl b
  | .int i, _, h => by cases h; exact .int i
  | .str x, _, h => by cases h; exact .str x
  | .list ds, _, h => by
    cases h with
    | lst at_ low rest => exact .lst (e _ _ at_) low (DxAll.same e ds _ rest)
  | .tuple ds, _, h => by
    cases h with
    | tup at_ rest => exact .tup (e _ _ at_) (DxAll.same e ds _ rest)
  | .dict ds, _, h => by
    cases h with
    | dct at_ rest => exact .dct (e _ _ at_) (DxKv.same e ds _ rest)
    | ob at_ ok => exact .ob (e _ _ at_) ok
theorem DxAll.same (e : Same H H') : ∀ (ds : List PyData) (vs : List V), DxAll H vs ds → DxAll H' vs ds
  | [], _, h => by cases h; exact .nil
  | d :: ds, _, h => by
    cases h with
    | cons one more => exact .cons (Dx.same e d _ one) (DxAll.same e ds _ more)
theorem DxKv.same (e : Same H H') : ∀ (ds : List (PyData × PyData)) (kvs : List (Key × V)), DxKv H kvs ds → DxKv H' kvs ds
  | [], _, h => by cases h; exact .nil
  | (k, d) :: ds, _, h => by
    cases h with
    | cons one more => exact .cons (Dx.same e d _ one) (DxKv.same e ds _ more)
end
/-! plain data are such data -/
mutual
theorem dx_of : ∀ (d : PyData) (v : V), Dq H v d → Dx H v d
  | .none, _, h => by cases h; exact .non
  | .bool b, _, h => by cases h; exact .bl b
  | .int i, _, h => by cases h; exact .int i
  | .str x, _, h => by cases h; exact .str x
  | .list ds, _, h => by
    cases h with
    | lst at_ low rest => exact .lst at_ low (dxAll_of ds _ rest)
  | .tuple ds, _, h => by
    cases h with
    | tup at_ rest => exact .tup at_ (dxAll_of ds _ rest)
  | .dict ds, _, h => by
    cases h with
    | dct at_ rest => exact .dct at_ (dxKv_of ds _ rest)
theorem dxAll_of : ∀ (ds : List PyData) (vs : List V), DqAll H vs ds → DxAll H vs ds
  | [], _, h => by cases h; exact .nil
  | d :: ds, _, h => by
    cases h with
    | cons one more => exact .cons (dx_of d _ one) (dxAll_of ds _ more)
theorem dxKv_of : ∀ (ds : List (PyData × PyData)) (kvs : List (Key × V)), DqKv H kvs ds → DxKv H kvs ds
  | [], _, h => by cases h; exact .nil
  | (k, d) :: ds, _, h => by
    cases h with
    | cons one more => exact .cons (dx_of d _ one) (dxKv_of ds _ more)
end
/-! such data without dicts have no objects either -/
mutual
theorem dq_of : ∀ (d : PyData) (v : V), V2.plain d = true → Dx H v d → Dq H v d
  | .none, _, _, h => by cases h; exact .non
  | .bool b, _, _, h => by cases h; exact .bl b
  | .int i, _, _, h => by cases h; exact .int i
  | .str x, _, _, h => by cases h; exact .str x
  | .list ds, _, p, h => by
    cases h with
    | lst at_ low rest => exact .lst at_ low (dqAll_of ds _ (by simpa [V2.plain] using p) rest)
  | .tuple ds, _, p, h => by
    cases h with
    | tup at_ rest => exact .tup at_ (dqAll_of ds _ (by simpa [V2.plain] using p) rest)
  | .dict ds, _, p, h => by simp [V2.plain] at p
theorem dqAll_of : ∀ (ds : List PyData) (vs : List V), plainAll ds = true → DxAll H vs ds → DqAll H vs ds
  | [], _, _, h => by cases h; exact .nil
  | d :: ds, _, p, h => by
    cases h with
    | cons one more =>
      have p' : V2.plain d = true ∧ plainAll ds = true := by simpa [plainAll] using p
      exact .cons (dq_of d _ p'.1 one) (dqAll_of ds _ p'.2 more)
end
theorem Dx.int_inv {v : V} {n : Int} (h : Dx H v (.int n)) : v = .int n := by
  cases h
  rfl
theorem Dx.str_inv {v : V} {n : Str} (h : Dx H v (.str n)) : v = .str n := by
  cases h
  rfl
theorem Dx.bool_inv {v : V} {n : Bool} (h : Dx H v (.bool n)) : v = .bl n := by
  cases h
  rfl
theorem Dx.none_inv {v : V} (h : Dx H v .none) : v = .non := by
  cases h
  rfl
theorem Dx.tup_inv {v : V} {ds : List PyData} (h : Dx H v (.tuple ds)) : ∃ a vs, v = .ref a ∧ H a = some (.tup vs) ∧ DxAll H vs ds := by
  cases h with
  | tup e r => exact ⟨_, _, rfl, e, r⟩
theorem Dx.lst_inv {v : V} {ds : List PyData} (h : Dx H v (.list ds)) : ∃ a vs, v = .ref a ∧ H a = some (.lst vs) ∧ (a == sysModules) = false ∧ DxAll H vs ds := by
  cases h with
  | lst e l r => exact ⟨_, _, rfl, e, l, r⟩
theorem dxAll_len : ∀ {vs : List V} {ds : List PyData}, DxAll H vs ds → vs.length = ds.length
  | _, _, .nil => rfl
  | _, _, .cons _ more => by rw [List.length_cons, List.length_cons, dxAll_len more]
theorem DxAll.at : ∀ {vs : List V} {ds : List PyData} {j : Nat} {v : V} {d : PyData}, DxAll H vs ds → vs[j]? = some v → ds[j]? = some d → Dx H v d
  | _ :: _, _ :: _, 0, _, _, .cons one _, e, e' => by
    obtain rfl := Option.some.inj e
    obtain rfl := Option.some.inj e'
    exact one
  | _ :: _, _ :: _, j + 1, _, _, .cons _ more, e, e' => DxAll.at (j := j) more e e'
theorem DxAll.some : ∀ {vs : List V} {ds : List PyData} {i : Nat} {v : V}, DxAll H vs ds → vs[i]? = some v → ∃ d, d ∈ ds ∧ Dx H v d
  | _, _, 0, _, .cons one _, h => ⟨_, List.mem_cons_self, Option.some.inj h ▸ one⟩
  | _, _, i + 1, _, .cons _ more, h => by
    obtain ⟨d, m, q⟩ := DxAll.some (i := i) more h
    exact ⟨d, List.mem_cons_of_mem _ m, q⟩
theorem DxAll.take : ∀ {vs : List V} {ds : List PyData} (n : Nat), DxAll H vs ds → DxAll H (vs.take n) (ds.take n)
  | _, _, 0, _ => by
    rw [List.take_zero, List.take_zero]
    exact .nil
  | _, _, _ + 1, .nil => .nil
  | _, _, n + 1, .cons one more => .cons one (DxAll.take n more)
theorem DxAll.drop : ∀ {vs : List V} {ds : List PyData} (n : Nat), DxAll H vs ds → DxAll H (vs.drop n) (ds.drop n)
  | _, _, 0, h => h
  | _, _, _ + 1, .nil => .nil
  | _, _, n + 1, .cons _ more => DxAll.drop n more
theorem DxAll.app : ∀ {vs us : List V} {ds es : List PyData}, DxAll H vs ds → DxAll H us es → DxAll H (vs ++ us) (ds ++ es)
  | _, _, _, _, .nil, h => h
  | _, _, _, _, .cons one more, h => .cons one (DxAll.app more h)
theorem DxAll.insAt {vs : List V} {ds : List PyData} {v : V} {d : PyData} (h : DxAll H vs ds) (hv : Dx H v d) (i : Nat) : DxAll H (vs.take i ++ [v] ++ vs.drop i) (ds.take i ++ [d] ++ ds.drop i) :=
  DxAll.app (DxAll.app (DxAll.take i h) (.cons hv .nil)) (DxAll.drop i h)
theorem DxAll.erase : ∀ {vs : List V} {ds : List PyData} (n : Nat), DxAll H vs ds → DxAll H (vs.eraseIdx n) (ds.eraseIdx n)
  | _, _, _, .nil => .nil
  | _, _, 0, .cons _ more => more
  | _, _, n + 1, .cons one more => .cons one (DxAll.erase n more)
theorem DxAll.put {v : V} {d : PyData} (hv : Dx H v d) : ∀ {vs : List V} {ds : List PyData} (n : Nat), DxAll H vs ds → DxAll H (vs.set n v) (ds.set n d)
  | _, _, _, .nil => .nil
  | _, _, 0, .cons _ more => .cons hv more
  | _, _, n + 1, .cons one more => .cons one (DxAll.put hv n more)
end
/-! the kind of such data -/
section
variable [CurK] {σ : L2.St} {H : Hp} {Q : VK} {te : TE} {v : V} {d : PyData} {n n1 n2 : String} {b b1 b2 : Bool}
/-- the answers of isinstance for this shape -/
def KindIs (d : PyData) (n : String) (b : Bool) : Prop := kitB (tyName d) n = some b ∧ n ∈ kindNames ∧ (d = objD → b = false)
theorem kx_of (k : KindIs d n b) (h : Dx H v d) : ∃ t, TyX K H v t ∧ PySem.W.kitOne K t (.type n) = some b := by
  obtain ⟨k1, k2, k3⟩ := k
  have z := kit_ty (K := K) k1
  cases h with
  | non => exact ⟨_, .base .non, z⟩
  | bl b => exact ⟨_, .base (.bl b), z⟩
  | int i => exact ⟨_, .base (.int i), z⟩
  | str x => exact ⟨_, .base (.str x), z⟩
  | lst e _ _ => exact ⟨_, .base (.lst e), z⟩
  | tup e _ => exact ⟨_, .base (.tup e), z⟩
  | dct e _ => exact ⟨_, .base (.dK e), z⟩
  | ob e ok => exact ⟨_, TyX_ins e ok.ins, by rw [k3 rfl]; exact ok.no _ k2⟩
theorem kx_tup (d : PyData) : KindIs d "tuple" (isTup d) := ⟨kit_tup d, by decide, fun e => by rw [e]; rfl⟩
theorem kx_lst (d : PyData) : KindIs d "list" (isLst d) := ⟨kit_lst d, by decide, fun e => by rw [e]; rfl⟩
theorem kx_int (d : PyData) : KindIs d "int" (isInt d || isBool d) := ⟨kit_int d, by decide, fun e => by rw [e]; rfl⟩
theorem kx_bool (d : PyData) : KindIs d "bool" (isBool d) := ⟨kit_bool d, by decide, fun e => by rw [e]; rfl⟩
theorem kx_str (d : PyData) : KindIs d "str" (isStr d) := ⟨kit_str d, by decide, fun e => by rw [e]; rfl⟩
theorem isx_go (hb : KindIs d n b) (ht : ∀ Q : VK, Q v H → te σ H Q) (hd : Dx H v d) (q : Q (.bl b) H) : tCB (rIsi K) (tCons te (tCons (tC (.ty n)) tNil)) σ H Q := by
  obtain ⟨t, ty, k⟩ := kx_of hb hd
  exact ht _ ⟨v, .ty n, _, _, b, rfl, .ty n, ty, k, q⟩
/-- isinstance(x, (T1, T2)) -/
theorem isxT_go (h1 : KindIs d n1 b1) (h2 : KindIs d n2 b2) (ht : ∀ Q : VK, Q v H → te σ H Q) (hd : Dx H v d) (q : ∀ p, H p = none → Q (.bl (b1 || b2)) (upd H p (.tup [.ty n1, .ty n2]))) :
    tCB (rIsiT K) (tCons te (tCons (tTup (tCons (tC (.ty n1)) (tCons (tC (.ty n2)) tNil))) tNil)) σ H Q :=
  ht _ ⟨(by show 2 ≤ sizeLine; decide), fun p np => by
    have hd' := Dx.same (same_new (o := HO.tup [.ty n1, .ty n2]) np) d v hd
    have z : ∃ t, TyX K (upd H p (.tup [.ty n1, .ty n2])) v t ∧ PySem.W.kitOne K t (.type n1) = some b1 ∧ PySem.W.kitOne K t (.type n2) = some b2 := by
      obtain ⟨k1, k2, k3⟩ := h1
      obtain ⟨m1, m2, m3⟩ := h2
      have z1 := kit_ty (K := K) k1
      have z2 := kit_ty (K := K) m1
      cases hd' with
      | non => exact ⟨_, .base .non, z1, z2⟩
      | bl b => exact ⟨_, .base (.bl b), z1, z2⟩
      | int i => exact ⟨_, .base (.int i), z1, z2⟩
      | str x => exact ⟨_, .base (.str x), z1, z2⟩
      | lst e _ _ => exact ⟨_, .base (.lst e), z1, z2⟩
      | tup e _ => exact ⟨_, .base (.tup e), z1, z2⟩
      | dct e _ => exact ⟨_, .base (.dK e), z1, z2⟩
      | ob e ok => exact ⟨_, TyX_ins e ok.ins, by rw [k3 rfl]; exact ok.no _ k2, by rw [m3 rfl]; exact ok.no _ m2⟩
    obtain ⟨t, ty, e1, e2⟩ := z
    refine ⟨v, p, _, _, _, b1 || b2, rfl, upd_same, .cons (.ty n1) (.cons (.ty n2) .nil), ty, ?_, q p np⟩
    show (match PySem.W.kitOne K t (.type n1) with
      | Option.some true => Option.some true
      | Option.some false => (match PySem.W.kitOne K t (.type n2) with
        | Option.some true => Option.some true
        | Option.some false => Option.some false
        | Option.none => Option.none)
      | Option.none => Option.none) = _
    rw [e1, e2]
    cases b1 <;> cases b2 <;> rfl⟩
end
/-! made at new places; made beside a hand -/
def MkX [CurK] (te : TE) (σ : L2.St) (d : PyData) : Prop := ∀ H, ∀ Q : VK, (∀ v H', Same H H' → Dx (newH H H') v d → Q v H') → te σ H Q
def MkXA [CurK] (ta : TA) (σ : L2.St) (ds : List PyData) : Prop := ∀ H, ∀ Q : List V → Hp → Prop, (∀ vs H', Same H H' → DxAll (newH H H') vs ds → Q vs H') → ta σ H Q
def MkY [CurK] (H0 : Hp) (a : Addr) (te : TE) (σ : L2.St) (d : PyData) : Prop := ∀ H, Same H0 H → ∀ Q : VK, (∀ v H', Same H H' → Dx (delH H' a) v d → Q v H') → te σ H Q
def MkYA [CurK] (H0 : Hp) (a : Addr) (ta : TA) (σ : L2.St) (ds : List PyData) : Prop := ∀ H, Same H0 H → ∀ Q : List V → Hp → Prop, (∀ vs H', Same H H' → DxAll (delH H' a) vs ds → Q vs H') → ta σ H Q
section
variable [CurK] {σ : L2.St} {d : PyData} {ds : List PyData} {te : TE} {ta : TA}
theorem mkx_of (h : MkN te σ d) : MkX te σ d := fun H Q k => h H Q fun v H' s q => k v H' s (dx_of d v q)
theorem mkxa_nil : MkXA tNil σ [] := fun H _ k => k [] H (Same.refl H) .nil
theorem mkxa_cons (h : MkX te σ d) (r : MkXA ta σ ds) : MkXA (tCons te ta) σ (d :: ds) := fun H _ k => h H _ fun v H1 s1 q1 => r H1 _ fun vs H2 s2 q2 =>
  k (v :: vs) H2 (s1.trans s2) (.cons (Dx.same (newH_up s2) d v q1) (DxAll.same (newH_on s1) ds vs q2))
theorem mkx_tup (r : MkXA ta σ ds) (hz : ds.length ≤ 1000) : MkX (tTup ta) σ (.tuple ds) := fun H _ k => r H _ fun vs H1 s1 q1 =>
  ⟨Nat.le_of_lt (small1000 (by rw [dxAll_len q1]; exact hz)), fun p n => k _ _ (s1.trans (same_new n)) (.tup (by rw [newH_at (fresh_up s1 n)]; exact upd_same) (DxAll.same (newH_up (same_new n)) ds vs q1))⟩
theorem mkx_lst (r : MkXA ta σ ds) (hz : ds.length ≤ 1000) : MkX (tLstS ta) σ (.list ds) := fun H _ k => r H _ fun vs H1 s1 q1 =>
  ⟨Nat.le_of_lt (small1000 (by rw [dxAll_len q1]; exact hz)), fun p n low => k _ _ (s1.trans (same_new n)) (.lst (by rw [newH_at (fresh_up s1 n)]; exact upd_same) low (DxAll.same (newH_up (same_new n)) ds vs q1))⟩
end
end V3

set_option maxHeartbeats 0
namespace K11
open PySem PySem.Spec PyProof.Rows L2 V1
def top (i : Nat) : Stmt := PySem.Challenge.pw_turnedtalk_k11_whole_faults.main.body.getD i (.Pass ⟨0, 0, 0, 0⟩)
abbrev s__wall : Stmt := top 0
def d__wall : He.DefD := ⟨("_wall", none), "_wall", "_wall", defArgs s__wall, defBody s__wall, defScope s__wall, [], []⟩
abbrev s_is_integer : Stmt := top 2
def d_is_integer : He.DefD := ⟨("is_integer", none), "is_integer", "is_integer", defArgs s_is_integer, defBody s_is_integer, defScope s_is_integer, [], []⟩
abbrev s_is_from_to : Stmt := top 3
def d_is_from_to : He.DefD := ⟨("is_from_to", none), "is_from_to", "is_from_to", defArgs s_is_from_to, defBody s_is_from_to, defScope s_is_from_to, [], []⟩
abbrev s_is_tuple_of : Stmt := top 4
def d_is_tuple_of : He.DefD := ⟨("is_tuple_of", none), "is_tuple_of", "is_tuple_of", defArgs s_is_tuple_of, defBody s_is_tuple_of, defScope s_is_tuple_of, [], []⟩
abbrev s_is_lot : Stmt := top 5
def d_is_lot : He.DefD := ⟨("is_lot", none), "is_lot", "is_lot", defArgs s_is_lot, defBody s_is_lot, defScope s_is_lot, [], []⟩
abbrev s_is_leaf : Stmt := top 15
def d_is_leaf : He.DefD := ⟨("is_leaf", none), "is_leaf", "is_leaf", defArgs s_is_leaf, defBody s_is_leaf, defScope s_is_leaf, [], []⟩
abbrev s_shape_of : Stmt := top 17
def d_shape_of : He.DefD := ⟨("shape_of", none), "shape_of", "shape_of", defArgs s_shape_of, defBody s_shape_of, defScope s_shape_of, [], []⟩
abbrev s_holds_tuples : Stmt := top 18
def d_holds_tuples : He.DefD := ⟨("holds_tuples", none), "holds_tuples", "holds_tuples", defArgs s_holds_tuples, defBody s_holds_tuples, defScope s_holds_tuples, [], []⟩
abbrev s_is_thing : Stmt := top 19
def d_is_thing : He.DefD := ⟨("is_thing", none), "is_thing", "is_thing", defArgs s_is_thing, defBody s_is_thing, defScope s_is_thing, [], []⟩
abbrev s_is_turned_letter : Stmt := top 21
def d_is_turned_letter : He.DefD := ⟨("is_turned_letter", none), "is_turned_letter", "is_turned_letter", defArgs s_is_turned_letter, defBody s_is_turned_letter, defScope s_is_turned_letter, [], []⟩
abbrev s_check_turned : Stmt := top 22
def d_check_turned : He.DefD := ⟨("check_turned", none), "check_turned", "check_turned", defArgs s_check_turned, defBody s_check_turned, defScope s_check_turned, [], []⟩
abbrev s__law_hand : Stmt := top 26
def d__law_hand : He.DefD := ⟨("_law_hand", none), "_law_hand", "_law_hand", defArgs s__law_hand, defBody s__law_hand, defScope s__law_hand, [], []⟩
abbrev s__law_draw : Stmt := top 27
def d__law_draw : He.DefD := ⟨("_law_draw", none), "_law_draw", "_law_draw", defArgs s__law_draw, defBody s__law_draw, defScope s__law_draw, [], []⟩
abbrev s__law_some : Stmt := top 28
def d__law_some : He.DefD := ⟨("_law_some", none), "_law_some", "_law_some", defArgs s__law_some, defBody s__law_some, defScope s__law_some, [], []⟩
abbrev s__law_is : Stmt := top 29
def d__law_is : He.DefD := ⟨("_law_is", none), "_law_is", "_law_is", defArgs s__law_is, defBody s__law_is, defScope s__law_is, [], []⟩
abbrev s__law_signs : Stmt := top 30
def d__law_signs : He.DefD := ⟨("_law_signs", none), "_law_signs", "_law_signs", defArgs s__law_signs, defBody s__law_signs, defScope s__law_signs, [], []⟩
abbrev s__law_word : Stmt := top 31
def d__law_word : He.DefD := ⟨("_law_word", none), "_law_word", "_law_word", defArgs s__law_word, defBody s__law_word, defScope s__law_word, [], []⟩
abbrev s__law_is_number : Stmt := top 32
def d__law_is_number : He.DefD := ⟨("_law_is_number", none), "_law_is_number", "_law_is_number", defArgs s__law_is_number, defBody s__law_is_number, defScope s__law_is_number, [], []⟩
abbrev s__law_is_thing : Stmt := top 33
def d__law_is_thing : He.DefD := ⟨("_law_is_thing", none), "_law_is_thing", "_law_is_thing", defArgs s__law_is_thing, defBody s__law_is_thing, defScope s__law_is_thing, [], []⟩
abbrev s__law_thing : Stmt := top 34
def d__law_thing : He.DefD := ⟨("_law_thing", none), "_law_thing", "_law_thing", defArgs s__law_thing, defBody s__law_thing, defScope s__law_thing, [], []⟩
abbrev s__law_wrapped : Stmt := top 35
def d__law_wrapped : He.DefD := ⟨("_law_wrapped", none), "_law_wrapped", "_law_wrapped", defArgs s__law_wrapped, defBody s__law_wrapped, defScope s__law_wrapped, [], []⟩
abbrev s__law_rising : Stmt := top 36
def d__law_rising : He.DefD := ⟨("_law_rising", none), "_law_rising", "_law_rising", defArgs s__law_rising, defBody s__law_rising, defScope s__law_rising, [], []⟩
abbrev s__law_part : Stmt := top 37
def d__law_part : He.DefD := ⟨("_law_part", none), "_law_part", "_law_part", defArgs s__law_part, defBody s__law_part, defScope s__law_part, [], []⟩
abbrev s__law_made : Stmt := top 38
def d__law_made : He.DefD := ⟨("_law_made", none), "_law_made", "_law_made", defArgs s__law_made, defBody s__law_made, defScope s__law_made, [], []⟩
abbrev s__law_odd : Stmt := top 39
def d__law_odd : He.DefD := ⟨("_law_odd", none), "_law_odd", "_law_odd", defArgs s__law_odd, defBody s__law_odd, defScope s__law_odd, [], []⟩
abbrev s__law_ear : Stmt := top 40
def d__law_ear : He.DefD := ⟨("_law_ear", none), "_law_ear", "_law_ear", defArgs s__law_ear, defBody s__law_ear, defScope s__law_ear, [], []⟩
abbrev s__law_spoilt : Stmt := top 41
def d__law_spoilt : He.DefD := ⟨("_law_spoilt", none), "_law_spoilt", "_law_spoilt", defArgs s__law_spoilt, defBody s__law_spoilt, defScope s__law_spoilt, [], []⟩
abbrev s__law_twin : Stmt := top 42
def d__law_twin : He.DefD := ⟨("_law_twin", none), "_law_twin", "_law_twin", defArgs s__law_twin, defBody s__law_twin, defScope s__law_twin, [], []⟩
abbrev s__law_hears : Stmt := top 43
def d__law_hears : He.DefD := ⟨("_law_hears", none), "_law_hears", "_law_hears", defArgs s__law_hears, defBody s__law_hears, defScope s__law_hears, [], []⟩
abbrev s_law : Stmt := top 44
def d_law : He.DefD := ⟨("law", none), "law", "law", defArgs s_law, defBody s_law, defScope s_law, [], []⟩
abbrev s_BadFaults__init__ : Stmt := inClass (top 8) 0
def d_BadFaults__init__ : He.DefD := ⟨("BadFaults", some "__init__"), "__init__", "BadFaults.__init__", defArgs s_BadFaults__init__, defBody s_BadFaults__init__, defScope s_BadFaults__init__, [], []⟩
abbrev s_Shelf__init__ : Stmt := inClass (top 16) 0
def d_Shelf__init__ : He.DefD := ⟨("Shelf", some "__init__"), "__init__", "Shelf.__init__", defArgs s_Shelf__init__, defBody s_Shelf__init__, defScope s_Shelf__init__, [], []⟩
abbrev s_Shelfmarks : Stmt := inClass (top 16) 1
def d_Shelfmarks : He.DefD := ⟨("Shelf", some "marks"), "marks", "Shelf.marks", defArgs s_Shelfmarks, defBody s_Shelfmarks, defScope s_Shelfmarks, [], []⟩
abbrev s_Shelfkeep : Stmt := inClass (top 16) 2
def d_Shelfkeep : He.DefD := ⟨("Shelf", some "keep"), "keep", "Shelf.keep", defArgs s_Shelfkeep, defBody s_Shelfkeep, defScope s_Shelfkeep, [], []⟩
abbrev s_Faults__init__ : Stmt := inClass (top 23) 0
def d_Faults__init__ : He.DefD := ⟨("Faults", some "__init__"), "__init__", "Faults.__init__", defArgs s_Faults__init__, defBody s_Faults__init__, defScope s_Faults__init__, [], []⟩
abbrev s_Faults__eq__ : Stmt := inClass (top 23) 1
def d_Faults__eq__ : He.DefD := ⟨("Faults", some "__eq__"), "__eq__", "Faults.__eq__", defArgs s_Faults__eq__, defBody s_Faults__eq__, defScope s_Faults__eq__, [], []⟩
abbrev s_Faultspasses : Stmt := inClass (top 23) 2
def d_Faultspasses : He.DefD := ⟨("Faults", some "passes"), "passes", "Faults.passes", defArgs s_Faultspasses, defBody s_Faultspasses, defScope s_Faultspasses, [], []⟩
abbrev s_Faultsear : Stmt := inClass (top 23) 3
def d_Faultsear : He.DefD := ⟨("Faults", some "ear"), "ear", "Faults.ear", defArgs s_Faultsear, defBody s_Faultsear, defScope s_Faultsear, [], []⟩
abbrev s_Hearing__init__ : Stmt := inClass (top 24) 0
def d_Hearing__init__ : He.DefD := ⟨("Hearing", some "__init__"), "__init__", "Hearing.__init__", defArgs s_Hearing__init__, defBody s_Hearing__init__, defScope s_Hearing__init__, [], []⟩
abbrev s_Hearingear : Stmt := inClass (top 24) 1
def d_Hearingear : He.DefD := ⟨("Hearing", some "ear"), "ear", "Hearing.ear", defArgs s_Hearingear, defBody s_Hearingear, defScope s_Hearingear, [], []⟩
def fn : List He.DefD := [d__wall, d_is_integer, d_is_from_to, d_is_tuple_of, d_is_lot, d_is_leaf, d_shape_of, d_holds_tuples, d_is_thing, d_is_turned_letter, d_check_turned, d__law_hand, d__law_draw, d__law_some, d__law_is, d__law_signs, d__law_word, d__law_is_number, d__law_is_thing, d__law_thing, d__law_wrapped, d__law_rising, d__law_part, d__law_made, d__law_odd, d__law_ear, d__law_spoilt, d__law_twin, d__law_hears, d_law, d_BadFaults__init__, d_Shelf__init__, d_Shelfmarks, d_Shelfkeep, d_Faults__init__, d_Faults__eq__, d_Faultspasses, d_Faultsear, d_Hearing__init__, d_Hearingear]
def fa0 : List He.Fa := [.glo "_wall", .glo "is_integer", .glo "is_from_to", .glo "is_tuple_of", .glo "is_lot", .glo "TalkError", .glo "BadFaults", .glo "Wordless", .int "MOST_LETTERS" 60, .int "PLAIN_LOOKS" 5000, .int "MOST_OF_A_SHAPE" 100, .glo "is_leaf", .glo "Shelf", .glo "shape_of", .glo "holds_tuples", .glo "is_thing", .glo "is_turned_letter", .glo "check_turned", .glo "Faults", .glo "Hearing"]
def fa1 : List He.Fa := [.glo "_law_hand", .glo "_law_draw", .glo "_law_some", .glo "_law_is", .glo "_law_signs", .glo "_law_word", .glo "_law_is_number", .glo "_law_is_thing", .glo "_law_thing", .glo "_law_wrapped", .glo "_law_rising", .glo "_law_part", .glo "_law_made", .glo "_law_odd", .glo "_law_ear", .glo "_law_spoilt", .glo "_law_twin", .glo "_law_hears", .glo "law", .free "ValueError"]
def fa2 : List He.Fa := [.free "abs", .free "all", .free "any", .free "bool", .free "enumerate", .free "int", .free "isinstance", .free "len", .free "list", .free "range", .free "str", .free "tuple", .meth "BadFaults" "__init__", .noat "BadFaults" "part", .exc "TalkError", .cls "Shelf", .noat "Shelf" "_shapes", .mkr "Shelf", .meth "Shelf" "__init__", .meth "Shelf" "marks"]
def fa3 : List He.Fa := [.meth "Shelf" "keep", .cls "Faults", .noat "Faults" "_into", .noat "Faults" "lost", .noat "Faults" "turned", .mkr "Faults", .meth "Faults" "__init__", .meth "Faults" "__eq__", .meth "Faults" "passes", .meth "Faults" "ear", .cls "Hearing", .noat "Hearing" "hearing", .mkr "Hearing", .meth "Hearing" "__init__", .meth "Hearing" "ear"]
def fa : List He.Fa := fa0 ++ (fa1 ++ (fa2 ++ (fa3)))
def errs : List Str := ["BadFaults"]
def plainC : List Str := ["Shelf", "Faults", "Hearing"]
def exB0 (K : PySem.W.Frag) : Bool :=
  oexB K (He.ga K "TalkError") veB && (errs.all (fun x => oexB K (He.ga K x) (.ref (He.ga K "TalkError") :: veB)) && (decide ((He.ga K "TalkError" :: errs.map (He.ga K)).Nodup) && clsAttrB K))
def exI (K : PySem.W.Frag) : Bool := plainC.all fun x => V2.insB K (He.ga K x)
def exK (K : PySem.W.Frag) : Bool := plainC.all fun x => V3.kindB K (He.ga K x) && plainC.all fun y => (x == y) || (decide (PySem.W.kitOne K (.ref (He.ga K x)) (.ref (He.ga K y)) = some false) && PySem.W.notFirst K (He.ga K x) (.ref (He.ga K y)))
def exB (K : PySem.W.Frag) : Bool := exB0 K && (exI K && exK K)
abbrev AlE : Type := He.AlD × Bool
def obsE (g : Addr → Option Obj) : AlE := (He.obsD fa fn (He.frG g (He.asD g 4)), exB (He.frG g (He.asD g 4)))
def hk : PySem.W.Hook where
  α := AlE
  obs := fun s => obsE s.heap.get?
  val := fun _ => (He.valD fn, true)
  says := fun _ h => ∃ K : PySem.W.Frag, K.In h ∧ He.SaysD fa fn K ∧ exB K = true
  of := fun _ _ e => ⟨_, He.frG_in, congrArg (fun z : AlE => z.1) e, congrArg (fun z : AlE => z.2) e⟩
  keeps := fun _ _ _ ⟨K, inK, c⟩ k => ⟨K, PySem.W.Frag.In.keeps inK k, c⟩
theorem obsE_eq {g : Addr → Option Obj} {s : Shared} (h : ∀ a, g a = s.heap.get? a) : obsE g = hk.obs s := by
  have same : g = s.heap.get? := funext h
  rw [same] <;> rfl
abbrev R : PySem.W.OpenRow := PySem.W.OpenLaw.row PySem.Challenge.rw_turnedtalk_k11_whole_faults
def ob (s : PySem.W.SharedT) : AlE := obsE (HandSHeadRun.getT s)
theorem ob_eq (s : PySem.W.SharedT) : ob s = hk.obs s.abs := obsE_eq (HandSHeadRun.getT_eq s)
def nm0 : List PySem.Str := ["_wall", "is_integer", "is_from_to", "is_tuple_of", "is_lot", "TalkError", "BadFaults", "Wordless", "MOST_LETTERS", "PLAIN_LOOKS", "MOST_OF_A_SHAPE", "is_leaf", "Shelf", "shape_of", "holds_tuples", "is_thing", "is_turned_letter", "check_turned", "Faults", "Hearing", "_law_hand", "_law_draw", "_law_some", "_law_is", "_law_signs"]
def nm1 : List PySem.Str := ["_law_word", "_law_is_number", "_law_is_thing", "_law_thing", "_law_wrapped", "_law_rising", "_law_part", "_law_made", "_law_odd", "_law_ear", "_law_spoilt", "_law_twin", "_law_hears"]
def names : List PySem.Str := nm0 ++ (nm1)
theorem run (w : World) : HandSHeadRun.RunEq R (PySem.W.view R.prog [44]) hk ob 60000 names w := by
  intro os
  kernel_rfl
structure Tx (K : PySem.W.Frag) (mg : Str → Option Value) : Prop where
  c : He.SaysD fa fn K
  ex : exB K = true
  h : ∃ h : Heap, K.In h ∧ h.Ns mainGlobals mg
section
variable {K : PySem.W.Frag} {mg : Str → Option Value}
theorem Tx.glo (T : Tx K mg) (i : Nat) {x : Str} (e : fa[i]? = some (.glo x)) : mg x = some (.ref (He.ga K x)) := by
  obtain ⟨h, X, G⟩ := T.h
  exact He.glo_ok X G (T.c.fact i e)
theorem Tx.free (T : Tx K mg) (i : Nat) {x : Str} (e : fa[i]? = some (.free x)) : mg x = none := by
  obtain ⟨h, X, G⟩ := T.h
  exact He.free_ok X G (T.c.fact i e)
theorem Tx.int (T : Tx K mg) (i : Nat) {x : Str} {n : Int} (e : fa[i]? = some (.int x n)) : ∃ t, mg x = some (.int n t) := by
  obtain ⟨h, X, G⟩ := T.h
  exact He.int_ok X G (T.c.fact i e)
theorem Tx.noat (T : Tx K mg) (i : Nat) {x f : Str} (e : fa[i]? = some (.noat x f)) : PySem.W.findIn K (.ref (He.ga K x)) f = some none := He.noat_ok (T.c.fact i e)
theorem Tx.exq (T : Tx K mg) (i : Nat) {x : Str} (e : fa[i]? = some (.exc x)) : PySem.W.excIn K (He.ga K x) He.veBase "ValueError.__new__" = true ∧ PySem.W.keepIn K (.ref (He.ga K x)) = true := by
  have z := He.exc_ok (T.c.fact i e)
  exact ⟨z.1, z.2.1⟩
end
end K11

set_option maxHeartbeats 4000000
namespace V2
open PySem PySem.Spec PyProof.Rows L2 V1
def fromTo (lo hi : Int) : PyData → Bool
  | .int n => decide (lo ≤ n) && decide (n ≤ hi)
  | _ => false
def tupOf (lo hi : Int) : PyData → Bool
  | .tuple xs => decide (lo ≤ (xs.length : Int)) && decide ((xs.length : Int) ≤ hi)
  | _ => false
theorem fromTo_int {lo hi : Int} {d : PyData} (h : fromTo lo hi d = true) : ∃ n, d = .int n ∧ lo ≤ n ∧ n ≤ hi := by
  cases d with
  | int n =>
    have z : decide (lo ≤ n) = true ∧ decide (n ≤ hi) = true := by simpa [fromTo] using h
    exact ⟨n, rfl, of_decide_eq_true z.1, of_decide_eq_true z.2⟩
  | _ => cases h
theorem tupOf_tup {lo hi : Int} {d : PyData} (h : tupOf lo hi d = true) : ∃ xs, d = .tuple xs ∧ lo ≤ (xs.length : Int) ∧ (xs.length : Int) ≤ hi := by
  cases d with
  | tuple xs =>
    have z : decide (lo ≤ (xs.length : Int)) = true ∧ decide ((xs.length : Int) ≤ hi) = true := by simpa [tupOf] using h
    exact ⟨xs, rfl, of_decide_eq_true z.1, of_decide_eq_true z.2⟩
  | _ => cases h
theorem isInt_int {d : PyData} (h : isInt d = true) : ∃ n, d = .int n := by
  cases d with
  | int n => exact ⟨n, rfl⟩
  | _ => cases h
theorem isTup_tup {d : PyData} (h : isTup d = true) : ∃ n, d = .tuple n := by
  cases d with
  | tuple n => exact ⟨n, rfl⟩
  | _ => cases h
theorem Dq.int_inv {H : Hp} {v : V} {n : Int} (h : Dq H v (.int n)) : v = .int n := by
  cases h
  rfl
theorem Dq.tup_inv {H : Hp} {v : V} {ds : List PyData} (h : Dq H v (.tuple ds)) : ∃ a vs, v = .ref a ∧ H a = some (.tup vs) ∧ DqAll H vs ds := by
  cases h with
  | tup e r => exact ⟨_, _, rfl, e, r⟩
end V2
namespace K11
open PySem PySem.Spec PyProof.Rows L2 V1 V2 V3
open Evl (pss_cut tCut sq_of st_of)
abbrev K [k : CurK] : PySem.W.Frag := k.K
section
variable [CurK]
def spInteger : Sp := fun vs H Q _ => ∃ v d, vs = [v] ∧ Dx H v d ∧ Q (.bl (isInt d)) H
def spFromTo : Sp := fun vs H Q _ => ∃ v d lo hi, vs = [v, .int lo, .int hi] ∧ Dx H v d ∧ Q (.bl (fromTo lo hi d)) H
def spTupOf : Sp := fun vs H Q _ => ∃ v d lo hi, vs = [v, .int lo, .int hi] ∧ Dx H v d ∧ Q (.bl (tupOf lo hi d)) H
theorem scInteger : FnScope ["thing"] ["thing"] (defScope s_is_integer) := ⟨rfl, rfl, rfl, by decide +kernel, rfl, by decide +kernel, by decide +kernel⟩
theorem scFromTo : FnScope ["thing", "least", "most"] ["thing", "least", "most"] (defScope s_is_from_to) := ⟨rfl, rfl, rfl, by decide +kernel, rfl, by decide +kernel, by decide +kernel⟩
theorem scTupOf : FnScope ["thing", "least", "most"] ["thing", "least", "most"] (defScope s_is_tuple_of) := ⟨rfl, rfl, rfl, by decide +kernel, rfl, by decide +kernel, by decide +kernel⟩
end
section
variable [CurK] {P : Program} {w : World} {mg : Str → Option Value} {base : Heap}
theorem ok_integer (T : Tx K mg) : Has P w K mg base CX0 1 "is_integer" ["thing"] spInteger := by
  obtain ⟨fd, F⟩ := T.c.def_ 1 (d := d_is_integer) rfl
  refine ⟨fd, F.ok scInteger (fun vs H Q E h => ?_) (fun cdv A outer s H vs Q E hr h => ?_), FunD.bindsN F fun _ _ _ _ _ _ us hl => match us, hl with | [_], _ => rfl, F.kp, (T.glo 1 rfl)⟩
  · obtain ⟨v, d, rfl, _⟩ := h
    rfl
  · refine ⟨_, PSs.nox (pss_one (ps_ret (pe_and (pe_callB call_isi (by rfl) (T.free 46 rfl) (by decide +kernel) (pa_cons (pv 0) (pa_cons (pe_bltn (v := .ty "int") (by rfl) (T.free 45 rfl) (by decide +kernel) rfl) pa_nil))) (pe_one (pe_not (pe_callB call_isi (by rfl) (T.free 46 rfl) (by decide +kernel) (pa_cons (pv 0) (pa_cons (pe_bltn (v := .ty "bool") (by rfl) (T.free 43 rfl) (by decide +kernel) rfl) pa_nil)))))))), ?_⟩
    obtain ⟨v, d, rfl, hd, hQ⟩ := h
    refine isx_go (kx_int d) (fun Q q => ⟨v, rfl, q⟩) hd ⟨_, rfl, ite2 (fun e => ?_) (fun e => ?_)⟩
    · refine isx_go (kx_bool d) (fun Q q => ⟨v, rfl, q⟩) hd ⟨_, rfl, ?_⟩
      cases d <;> first | exact hQ | cases e
    · cases d <;> first | exact hQ | exact absurd rfl e
theorem ok_fromTo (T : Tx K mg) : Has P w K mg base CX0 2 "is_from_to" ["thing", "least", "most"] spFromTo := by
  obtain ⟨fd, F⟩ := T.c.def_ 2 (d := d_is_from_to) rfl
  have Hi := ok_integer (P := P) (w := w) (base := base) T
  refine ⟨fd, F.ok scFromTo (fun vs H Q E h => ?_) (fun cdv A outer s H vs Q E hr h => ?_), FunD.bindsN F fun _ _ _ _ _ _ us hl => match us, hl with | [_, _, _], _ => rfl, F.kp, (T.glo 2 rfl)⟩
  · obtain ⟨v, d, lo, hi, rfl, _⟩ := h
    rfl
  · refine ⟨_, PSs.nox (pss_one (ps_ret (pe_and (pe_has Hi (hr.mono (by decide)) pass0 (pa_cons (pv 0) pa_nil)) (pe_one (pe_chain op_le op_le (pv 1) (pv 0) (pv 2)))))), ?_⟩
    obtain ⟨v, d, lo, hi, rfl, hd, hQ⟩ := h
    refine ⟨v, rfl, v, d, rfl, hd, _, rfl, ite2 (fun e => ?_) (fun e => ?_)⟩
    · obtain ⟨n, rfl⟩ := isInt_int e
      obtain rfl := Dx.int_inv hd
      refine ⟨_, rfl, _, rfl, lo, n, rfl, rfl, _, rfl, ite2 (fun e1 => ?_) (fun e1 => ?_)⟩
      · refine ⟨_, rfl, n, hi, rfl, rfl, ?_⟩
        have z : fromTo lo hi (.int n) = decide (n ≤ hi) := by
          show (decide (lo ≤ n) && _) = _
          rw [e1, Bool.true_and]
        rw [z] at hQ
        exact hQ
      · have z : fromTo lo hi (.int n) = false := by
          show (decide (lo ≤ n) && _) = _
          rw [Bool.eq_false_iff.mpr e1, Bool.false_and]
        rw [z] at hQ
        exact hQ
    · cases d <;> first | exact hQ | exact absurd rfl e
theorem ok_tupOf (T : Tx K mg) : Has P w K mg base CX0 1 "is_tuple_of" ["thing", "least", "most"] spTupOf := by
  obtain ⟨fd, F⟩ := T.c.def_ 3 (d := d_is_tuple_of) rfl
  refine ⟨fd, F.ok scTupOf (fun vs H Q E h => ?_) (fun cdv A outer s H vs Q E hr h => ?_), FunD.bindsN F fun _ _ _ _ _ _ us hl => match us, hl with | [_, _, _], _ => rfl, F.kp, (T.glo 3 rfl)⟩
  · obtain ⟨v, d, lo, hi, rfl, _⟩ := h
    rfl
  · refine ⟨_, PSs.nox (pss_one (ps_ret (pe_and (pe_callB call_isi (by rfl) (T.free 46 rfl) (by decide +kernel) (pa_cons (pv 0) (pa_cons (pe_bltn (v := .ty "tuple") (by rfl) (T.free 51 rfl) (by decide +kernel) rfl) pa_nil))) (pe_one (pe_chain op_le op_le (pv 1) (pe_callB call_len (by rfl) (T.free 47 rfl) PySem.boot_len (pa_cons (pv 0) pa_nil)) (pv 2)))))), ?_⟩
    obtain ⟨v, d, lo, hi, rfl, hd, hQ⟩ := h
    refine isx_go (kx_tup d) (fun Q q => ⟨v, rfl, q⟩) hd ⟨_, rfl, ite2 (fun e => ?_) (fun e => ?_)⟩
    · obtain ⟨xs, rfl⟩ := isTup_tup e
      obtain ⟨a, vs, rfl, hv, hr⟩ := Dx.tup_inv hd
      have len := dxAll_len hr
      refine ⟨_, rfl, _, rfl, _, _, rfl, .inr ⟨vs, st_of hv, rfl⟩, lo, _, rfl, rfl, _, rfl, ite2 (fun e1 => ?_) (fun e1 => ?_)⟩
      · refine ⟨_, rfl, _, hi, rfl, rfl, ?_⟩
        rw [len] at e1 ⊢
        have z : tupOf lo hi (.tuple xs) = decide ((xs.length : Int) ≤ hi) := by
          show (decide (lo ≤ (xs.length : Int)) && _) = _
          rw [e1, Bool.true_and]
        rw [z] at hQ
        exact hQ
      · rw [len] at e1
        have z : tupOf lo hi (.tuple xs) = false := by
          show (decide (lo ≤ (xs.length : Int)) && _) = _
          rw [Bool.eq_false_iff.mpr e1, Bool.false_and]
        rw [z] at hQ
        exact hQ
    · cases d <;> first | exact hQ | exact absurd rfl e
end
section
variable {K : PySem.W.Frag} {mg : Str → Option Value}
theorem Tx.exs (T : Tx K mg) : ExK K (He.ga K "TalkError") veB ∧ (∀ x ∈ errs, ExK K (He.ga K x) (.ref (He.ga K "TalkError") :: veB)) ∧ (He.ga K "TalkError" :: errs.map (He.ga K)).Nodup ∧ ClsAttr K := by
  have e := T.ex
  unfold exB exB0 at e
  simp only [Bool.and_eq_true, List.all_eq_true, decide_eq_true_eq] at e
  exact ⟨exK_of e.1.1, fun x hx => exK_of (e.1.2.1 x hx), e.1.2.2.1, clsAttr_of e.1.2.2.2⟩
theorem Tx.insK (T : Tx K mg) (i : Nat) {x : Str} (h : plainC[i]? = some x) : InsK K (He.ga K x) := by
  have e := T.ex
  unfold exB exI at e
  simp only [Bool.and_eq_true, List.all_eq_true] at e
  exact insK_of (e.2.1 x (List.mem_of_getElem? h))
theorem Tx.kind (T : Tx K mg) (i : Nat) {x : Str} (h : plainC[i]? = some x) : V3.kindB K (He.ga K x) = true := by
  have e := T.ex
  unfold exB exK at e
  simp only [Bool.and_eq_true, List.all_eq_true] at e
  exact (e.2.2 x (List.mem_of_getElem? h)).1
/-- two plain classes: neither holds the other's objects -/
theorem Tx.two (T : Tx K mg) (i j : Nat) {x y : Str} (h : plainC[i]? = some x) (h' : plainC[j]? = some y) (ne : (x == y) = false) : PySem.W.kitOne K (.ref (He.ga K x)) (.ref (He.ga K y)) = some false ∧ PySem.W.notFirst K (He.ga K x) (.ref (He.ga K y)) = true := by
  have e := T.ex
  unfold exB exK at e
  simp only [Bool.and_eq_true, List.all_eq_true] at e
  have z := (e.2.2 x (List.mem_of_getElem? h)).2 y (List.mem_of_getElem? h')
  rw [ne, Bool.false_or, Bool.and_eq_true, decide_eq_true_eq] at z
  exact z
theorem Tx.one (T : Tx K mg) (i : Nat) {x : Str} (h : errs[i]? = some x) : ExK K (He.ga K x) (.ref (He.ga K "TalkError") :: veB) := T.exs.2.1 x (List.mem_of_getElem? h)
end
theorem Tx.obC [CurK] {mg : Str → Option Value} (T : Tx K mg) (i : Nat) {x : Str} (h : plainC[i]? = some x) (c : Cls K (He.ga K x)) : ObC (He.ga K x) := obC_of ((T.insK i h).ins c T.exs.2.2.2) (T.kind i h)
end K11

set_option maxHeartbeats 4000000
/-! V3b: xs.extend(t), t a tuple; more of data made beside a hand -/
namespace V3
open PySem PySem.Spec PyProof.Rows L2 V1 V2
open AutoSeq1
theorem extend_tup (l : Addr) (xs : Array Value) (n : Nat) (b : Addr) (o : Obj) (ys : Array Value) (m : Nat) (hc : o.cls = .type "tuple") (hd : o.data = .seq ys m) (h0 : ¬(!xs.isEmpty && Builtin.List.listTooLong (xs.size + ys.size)) = true) (h1 : xs.size ≤ sizeLine) (h2 : xs.size + ys.size ≤ sizeLine + 1) :
    Meets (Builtin.«list.extend» ⟨[.ref l, .ref b], []⟩) (fun _ R s => s.heap.get? l = some { cls := .type "list", dict := none, data := .seq xs n, slots := #[] } ∧ s.heap.get? b = some o ∧
      R (.ok (.ret Value.none)) { s with heap := s.heap.update l (Obj.mapSeq fun x => x ++ ys), toks := s.toks }) :=
  .of_wp fun prog w A R s hh => by
    obtain ⟨hp, g, dr, tk, os⟩ := s
    obtain ⟨hl, hb, go⟩ := hh
    have i1 := idx_int
    have i2 := AutoSeq1.sub_tuple_tuple
    have i3 := AutoSeq1.sub_list_list
    have i4 := AutoSeq1.sub_tuple_list
    have i5 := AutoSeq1.sub_list_tuple
    have lim : (xs ++ ys).size ≤ sizeLine + 1 := by
      rw [Array.size_append]
      exact h2
    obtain ⟨cls, dict, data, slots⟩ := o
    dsimp only at hc hd
    subst hc hd
    wp_walk using (wpAny_updateSeq hl rfl (hz := h1) (_hz' := lim)), wpAny_loadPart' hl, wpAny_loadPart' hb
    exact ⟨_, rfl, go⟩
def rExtT (K : PySem.W.Frag) : V → List V → Hp → VK → Prop := fun x vs H Q => ∃ l b xs zs, x = .ref l ∧ vs = [.ref b] ∧ H l = some (.lst xs) ∧ SqT K H b zs ∧ xs.length + zs.length ≤ sizeLine ∧ Q .non (upd H l (.lst (xs ++ zs)))
theorem mt_extT {X : Cx} : MtM X "list.extend" (rExtT X.K) := by
  rintro pins s σ H x vs v us Q I rx rv ⟨l, b, xs, zs, rfl, rfl, hH, hB, hz, q⟩
  cases rx
  obtain ⟨u, rfl, ru⟩ := rv.one
  cases ru
  obtain ⟨z, its, n, r, hl, e⟩ := I.lstM hH
  obtain ⟨ys, ry, ⟨o, eo, co, m, d⟩, _⟩ := I.tuple hB
  have ly := ry.length
  have lx := r.length
  have small : its.toArray.size + ys.toArray.size ≤ sizeLine := by
    simp only [List.size_toArray]
    omega
  refine call_meets F.slot_list_extend ⟨_, e, rfl⟩ F.entry_list_extend (F.args_list_extend_2 _ _)
    (extend_tup l its.toArray n b o ys.toArray m co d (by rw [notLongL small, Bool.and_false]; exact Bool.false_ne_true) (by omega) (by omega)) ⟨e, eo, .non, _, I.lset (its' := its ++ ys) hH e (by simp) (r.append ry) (by rw [List.length_append]; omega), rfl, q⟩
end V3

set_option maxHeartbeats 4000000
namespace V3
open PySem PySem.Spec PyProof.Rows L2 V1 V2
theorem pe_hasC0 {X : Cx} {CX : CXT} {k : Nat} {x : Str} {ps : List Str} {sp : Sp} {E : XK} {p pos : Pos} (h : HasC X.prog X.w X.K X.mg X.base CX k x ps sp) (hr : Room (k + 1) X.A) (hx : Passes CX X E) (hg : Gl X x := by rfl)
    (hdb : (x == ("__debug__" : Str)) = false := by decide) : PE X (.Call (.Name x p) [] [] pos) (tMake (He.ga X.K x) sp [] E tNil) := by
  obtain ⟨fI, fd, M, F, b, g⟩ := h
  exact pe_make0 M F hr hg g b .nil hx hdb
/-! things -/
def leafD : PyData → Bool
  | .none | .bool _ | .int _ | .str _ => true
  | _ => false
mutual
def thingD : PyData → Bool
  | .none | .bool _ | .int _ | .str _ => true
  | .tuple ds => thingAll ds
  | _ => false
def thingAll : List PyData → Bool
  | [] => true
  | d :: ds => thingD d && thingAll ds
end
mutual
/-- how many there are in one another -/
def sizeD : PyData → Nat
  | .tuple ds => 1 + sizeAll ds
  | _ => 1
def sizeAll : List PyData → Nat
  | [] => 0
  | d :: ds => sizeD d + sizeAll ds
end
theorem thingAll_app : ∀ (ds es : List PyData), thingAll (ds ++ es) = (thingAll ds && thingAll es)
  | [], es => by simp [thingAll]
  | d :: ds, es => by
    rw [List.cons_append, thingAll, thingAll, thingAll_app ds es, Bool.and_assoc]
theorem sizeAll_app : ∀ (ds es : List PyData), sizeAll (ds ++ es) = sizeAll ds + sizeAll es
  | [], es => by simp [sizeAll]
  | d :: ds, es => by
    rw [List.cons_append, sizeAll, sizeAll, sizeAll_app ds es]
    omega
theorem size_pos (d : PyData) : 1 ≤ sizeD d := by cases d <;> simp [sizeD]
theorem len_size : ∀ ds : List PyData, ds.length ≤ sizeAll ds
  | [] => Nat.le_refl _
  | d :: ds => by
    have := len_size ds
    have := size_pos d
    rw [List.length_cons, sizeAll]
    omega
theorem snoc_inv [CurK] {H : Hp} {d : PyData} : ∀ {vs : List V} {ds : List PyData}, DxAll H vs (ds ++ [d]) → ∃ us y, vs = us ++ [y] ∧ DxAll H us ds ∧ Dx H y d
  | _, [], .cons one .nil => ⟨[], _, rfl, .nil, one⟩
  | _, e :: ds, .cons one more => by
    obtain ⟨us, y, rfl, h1, h2⟩ := snoc_inv (ds := ds) more
    exact ⟨_ :: us, y, rfl, .cons one h1, h2⟩
theorem snoc_of : ∀ {ds : List PyData}, ds ≠ [] → ∃ es d, ds = es ++ [d]
  | [], h => absurd rfl h
  | [d], _ => ⟨[], d, rfl⟩
  | d :: e :: ds, _ => by
    obtain ⟨es, f, q⟩ := snoc_of (ds := e :: ds) (by simp)
    exact ⟨d :: es, f, by rw [q]; rfl⟩
def isNo : PyData → Bool
  | .none => true
  | _ => false
theorem isN_of [CurK] {H : Hp} {v : V} {d : PyData} (h : Dx H v d) : decide (v = V.non) = isNo d := by
  cases h <;> rfl
mutual
theorem plain_thing : ∀ d : PyData, thingD d = true → V2.plain d = true
  | .none, _ | .bool _, _ | .int _, _ | .str _, _ => by simp [V2.plain]
  | .tuple ds, h => by
    have z := plain_things ds (by simpa [thingD] using h)
    simpa [V2.plain] using z
  | .list _, h | .dict _, h => by simp [thingD] at h
theorem plain_things : ∀ ds : List PyData, thingAll ds = true → V2.plainAll ds = true
  | [], _ => by simp [V2.plainAll]
  | d :: ds, h => by
    have z : thingD d = true ∧ thingAll ds = true := by simpa [thingAll] using h
    simp [V2.plainAll, plain_thing d z.1, plain_things ds z.2]
end
theorem thing_leaf {d : PyData} (h : isTup d = false) : thingD d = leafD d := by
  cases d <;> first | rfl | cases h | simp [thingD, leafD]
end V3
namespace K11
open PySem PySem.Spec PyProof.Rows L2 V1 V2 V3
open Evl (pss_cut tCut sq_of st_of)
/-- a lot of numbers below m, from lo on -/
def lotFrom (m : Int) : Int → List PyData → Bool
  | _, [] => true
  | lo, d :: ds => fromTo lo (m - 1) d && lotFrom m ((match d with
    | .int n => n
    | _ => 0) + 1) ds
def lotD (m : Int) : PyData → Bool
  | .tuple ds => lotFrom m 0 ds
  | _ => false
def turnedD : PyData → Bool
  | .tuple [a, b] => fromTo 0 59 a && thingD b
  | _ => false
section
variable [CurK]
def spLeaf : Sp := fun vs H Q _ => ∃ v d, vs = [v] ∧ Dx H v d ∧ ∀ H', Same H H' → Q (.bl (leafD d)) H'
def spLot : Sp := fun vs H Q _ => ∃ v d m, vs = [v, .int m] ∧ Dx H v d ∧ Q (.bl (lotD m d)) H
def spShelf : Sp := fun vs H Q _ => ∃ p dx, vs = [.ref p] ∧ H p = some (.ins (He.ga K "Shelf") dx []) ∧ ∀ H', (∀ b o, b ≠ p → H b = some o → H' b = some o) → Q .non H'
def spThing : Sp := fun vs H Q _ => ∃ v d, vs = [v] ∧ Dx H v d ∧ sizeD d ≤ 4000 ∧ ∀ H', Same H H' → Q (.bl (thingD d)) H'
def spTl : Sp := fun vs H Q _ => ∃ v d, vs = [v] ∧ Dx H v d ∧ sizeD d ≤ 4000 ∧ ∀ H', Same H H' → Q (.bl (turnedD d)) H'
end
theorem scLeaf : FnScope ["thing"] ["thing"] (defScope s_is_leaf) := ⟨rfl, rfl, rfl, by decide +kernel, rfl, by decide +kernel, by decide +kernel⟩
theorem scLot : FnScope ["thing", "many", "least", "number"] ["thing", "many"] (defScope s_is_lot) := ⟨rfl, rfl, rfl, by decide +kernel, rfl, by decide +kernel, by decide +kernel⟩
theorem scShelf : FnScope ["self"] ["self"] (defScope s_Shelf__init__) := ⟨rfl, rfl, rfl, by decide +kernel, rfl, by decide +kernel, by decide +kernel⟩
theorem scThing : FnScope ["thing", "waiting", "shelf", "looks", "one"] ["thing"] (defScope s_is_thing) := ⟨rfl, rfl, rfl, by decide +kernel, rfl, by decide +kernel, by decide +kernel⟩
theorem scTl : FnScope ["thing"] ["thing"] (defScope s_is_turned_letter) := ⟨rfl, rfl, rfl, by decide +kernel, rfl, by decide +kernel, by decide +kernel⟩
section
variable [CurK] {P : Program} {w : World} {mg : Str → Option Value} {base : Heap}
theorem ok_leaf (T : Tx K mg) : Has P w K mg base CX0 1 "is_leaf" ["thing"] spLeaf := by
  obtain ⟨fd, F⟩ := T.c.def_ 5 (d := d_is_leaf) rfl
  refine ⟨fd, F.ok scLeaf (fun vs H Q E h => ?_) (fun cdv A outer s H vs Q E hr h => ?_), FunD.bindsN F fun _ _ _ _ _ _ us hl => match us, hl with | [_], _ => rfl, F.kp, (T.glo 11 rfl)⟩
  · obtain ⟨v, d, rfl, _⟩ := h
    rfl
  · refine ⟨_, PSs.nox (pss_one (ps_ret (pe_or (pe_cmpR op_isN (pv 0) pe_non (nomark _)) (pe_one (pe_callB call_isiT (by rfl) (T.free 46 rfl) (by decide +kernel) (pa_cons (pv 0) (pa_cons (pe_tup (pa_cons (pe_bltn (v := .ty "int") (by rfl) (T.free 45 rfl) (by decide +kernel) rfl) (pa_cons (pe_bltn (v := .ty "str") (by rfl) (T.free 50 rfl) (by decide +kernel) rfl) pa_nil))) pa_nil))))))), ?_⟩
    obtain ⟨v, d, rfl, hd, hQ⟩ := h
    have hn := isN_of hd
    refine ⟨_, rfl, rfl, _, rfl, ?_⟩
    rw [hn]
    by_cases e : d = .none
    · subst e
      exact iteT (hQ H (Same.refl H))
    · have z : isNo d = false := by cases d <;> first | rfl | exact absurd rfl e
      rw [z]
      refine iteF (isxT_go (kx_int d) (kx_str d) (fun Q q => ⟨_, rfl, q⟩) hd fun p np => ?_)
      have y : (isInt d || isBool d || isStr d) = leafD d := by cases d <;> first | rfl | exact absurd rfl e
      rw [y]
      exact hQ _ (same_new np)
theorem ok_lot (T : Tx K mg) : Has P w K mg base CX0 3 "is_lot" ["thing", "many"] spLot := by
  obtain ⟨fd, F⟩ := T.c.def_ 4 (d := d_is_lot) rfl
  have Hf := ok_fromTo (P := P) (w := w) (base := base) T
  refine ⟨fd, F.ok scLot (fun vs H Q E h => ?_) (fun cdv A outer s H vs Q E hr h => ?_), FunD.bindsN F fun _ _ _ _ _ _ us hl => match us, hl with | [_, _], _ => rfl, F.kp, (T.glo 4 rfl)⟩
  · obtain ⟨v, d, m, rfl, _⟩ := h
    rfl
  · refine ⟨_, PSs.nox (pss_cons (ps_if (pt_not (pt_val (pe_callB call_isi (by rfl) (T.free 46 rfl) (by decide +kernel) (pa_cons (pv 0) (pa_cons (pe_bltn (v := .ty "tuple") (by rfl) (T.free 51 rfl) (by decide +kernel) rfl) pa_nil)))))
 (pss_one (ps_ret pe_bl))
 pss_nil)
 (pss_cons (ps_set (i := 2) scLot.nd rfl (Or.inl rfl) pe_int)
 (pss_cons (ps_for PassesOwn.never rfl (pi_tup (pv 0)) (pg_name (i := 3) scLot.nd rfl (Or.inl rfl))
 (pss_cons (ps_if (pt_not (pt_val (pe_has Hf (hr.mono (by decide)) pass0 (pa_cons (pv 3) (pa_cons (pv 2) (pa_cons (pe_op op_sub (pv 1) pe_int) pa_nil))))))
 (pss_one (ps_ret pe_bl))
 pss_nil)
 (pss_one (ps_set (i := 2) scLot.nd rfl (Or.inl rfl) (pe_op op_add (pv 3) pe_int)))))
 (pss_one (ps_ret pe_bl))))), ?_⟩
    obtain ⟨v, d, m, rfl, hd, hQ⟩ := h
    refine isx_go (kx_tup d) (fun Q q => ⟨_, rfl, q⟩) hd ⟨_, rfl, ?_⟩
    cases hT : isTup d with
    | false =>
      refine iteT ?_
      have z : lotD m d = false := by cases d <;> first | rfl | cases hT
      rw [z] at hQ
      exact hQ
    | true =>
      obtain ⟨ds, rfl⟩ := isTup_tup hT
      obtain ⟨a, us, rfl, ha, hr'⟩ := Dx.tup_inv hd
      have lu := dxAll_len hr'
      refine iteF ⟨_, rfl, a, rfl, ⟨_, st_of ha⟩, for_it walk_tup (fun i σ H' => H' = H ∧ ∃ lo x, σ = [some (.ref a), some (.int m), some (.int lo), x] ∧ lotFrom m lo (ds.drop i) = lotD m (.tuple ds)) ⟨rfl, _, _, rfl, rfl⟩ (fun i σ H' _ p => by rw [p.1]; exact st_of ha) ?_ (fun σ H' p => ?_)⟩
      · rintro i x σ H1 H2 hi ⟨rfl, lo, y, rfl, hlo⟩ ⟨rfl, hx⟩
        have di : ds[i]? = some ds[i] := List.getElem?_eq_getElem (by omega)
        have dx := DxAll.at hr' hx di
        rw [List.drop_eq_getElem_cons (by omega : i < ds.length)] at hlo
        generalize ds[i] = di' at dx hlo
        simp only [lotFrom] at hlo
        refine ⟨_, rfl, _, rfl, _, rfl, _, _, rfl, rfl, _, di', _, _, rfl, dx, _, rfl, ?_⟩
        cases hf : fromTo lo (m - 1) di' with
        | false =>
          refine iteT ?_
          rw [hf, Bool.false_and] at hlo
          rw [← hlo] at hQ
          exact hQ
        | true =>
          obtain ⟨n, rfl, n1, n2⟩ := fromTo_int hf
          obtain rfl := Dx.int_inv dx
          rw [hf, Bool.true_and] at hlo
          exact iteF ⟨_, rfl, _, _, rfl, rfl, rfl, _, _, rfl, hlo⟩
      · obtain ⟨rfl, lo, x, rfl, hlo⟩ := p
        rw [List.drop_of_length_le (by omega)] at hlo
        rw [← hlo] at hQ
        exact hQ
theorem ok_shelf (T : Tx K mg) : HasC P w K mg base CX0 1 "Shelf" ["self"] spShelf := by
  obtain ⟨fd, F⟩ := T.c.def_ 31 (d := d_Shelf__init__) rfl
  have cS : Cls K (He.ga K "Shelf") := He.cls_ok (T.c.fact 55 rfl)
  have n1 : NoAttr K (He.ga K "Shelf") "_shapes" := He.noat_ok (T.c.fact 56 rfl)
  refine ⟨_, fd, He.mkr_ok (T.c.fact 57 rfl), F.ok scShelf (fun vs H Q E h => ?_) (fun cdv A outer s H vs Q E hr h => ?_), FunD.bindsN F fun _ _ _ _ _ _ us hl => match us, hl with | [_], _ => rfl, (T.glo 12 rfl)⟩
  · obtain ⟨p, dx, rfl, _⟩ := h
    rfl
  · refine ⟨_, PSs.nox (pss_one (ps_fld (pv 0) pe_dnewK (by rfl))), ?_⟩
    obtain ⟨p, dx, rfl, hp, hQ⟩ := h
    intro q nq
    have hp' := same_new (o := HO.dK []) nq _ _ hp
    refine ⟨_, rfl, p, _, dx, [], rfl, hp', cS, n1, (by show 0 < 1000; decide), hQ _ fun b o ne e => ?_⟩
    rw [upd_ne ne]
    exact same_new nq _ _ e
theorem ok_holds (T : Tx K mg) : Has P w K mg base CX0 1 "holds_tuples" ["thing"] (fun _ _ _ _ => False) := by
  obtain ⟨fd, F⟩ := T.c.def_ 7 (d := d_holds_tuples) rfl
  exact ⟨fd, ⟨fun _ _ _ _ h => h.elim, fun _ _ _ _ _ _ _ _ _ _ _ _ _ h => h.elim⟩, FunD.bindsN F fun _ _ _ _ _ _ us hl => match us, hl with | [_], _ => rfl, F.kp, (T.glo 14 rfl)⟩
theorem ok_thing (T : Tx K mg) : Has P w K mg base CX0 3 "is_thing" ["thing"] spThing := by
  obtain ⟨fd, F⟩ := T.c.def_ 8 (d := d_is_thing) rfl
  have Hlf := ok_leaf (P := P) (w := w) (base := base) T
  have Hho := ok_holds (P := P) (w := w) (base := base) T
  have Hsh := ok_shelf (P := P) (w := w) (base := base) T
  have cSh : Cls K (He.ga K "Shelf") := He.cls_ok (T.c.fact 55 rfl)
  obtain ⟨fdM, FM⟩ := T.c.def_ 32 (d := d_Shelfmarks) rfl
  obtain ⟨fdK, FK⟩ := T.c.def_ 33 (d := d_Shelfkeep) rfl
  have mMark := He.meth_ok (T.c.fact 59 (f := .meth "Shelf" "marks") rfl)
  have mKeep := He.meth_ok (T.c.fact 60 (f := .meth "Shelf" "keep") rfl)
  have FMark : FnOk P w K mg base CX0 1 (He.ma K (He.ga K "Shelf") "marks") fdM ["self", "thing"] (fun _ _ _ _ => False) := ⟨fun _ _ _ _ h => h.elim, fun _ _ _ _ _ _ _ _ _ _ _ _ _ h => h.elim⟩
  have FKeep : FnOk P w K mg base CX0 1 (He.ma K (He.ga K "Shelf") "keep") fdK ["self", "thing", "mark"] (fun _ _ _ _ => False) := ⟨fun _ _ _ _ h => h.elim, fun _ _ _ _ _ _ _ _ _ _ _ _ _ h => h.elim⟩
  have bMark : Binds K fdM ["self", "thing"] [] := FunD.bindsN FM fun _ _ _ _ _ _ us hl => match us, hl with | [_, _], _ => rfl
  have bKeep : Binds K fdK ["self", "thing", "mark"] [] := FunD.bindsN FK fun _ _ _ _ _ _ us hl => match us, hl with | [_, _, _], _ => rfl
  obtain ⟨tPL, gPL⟩ := (T.int 9 rfl)
  refine ⟨fd, F.ok scThing (fun vs H Q E h => ?_) (fun cdv A outer s H vs Q E hr h => ?_), FunD.bindsN F fun _ _ _ _ _ _ us hl => match us, hl with | [_], _ => rfl, F.kp, (T.glo 15 rfl)⟩
  · obtain ⟨v, d, rfl, _⟩ := h
    rfl
  · refine ⟨_, PSs.nox (pss_cons (ps_set (i := 1) scThing.nd rfl (Or.inl rfl) (pe_lstS (pa_cons (pv 0) pa_nil)))
 (pss_cons (ps_set (i := 2) scThing.nd rfl (Or.inl rfl) (pe_hasC0 Hsh (hr.mono (by decide)) pass0))
 (pss_cons (ps_set (i := 3) scThing.nd rfl (Or.inl rfl) pe_int)
 (pss_cons (ps_while PassesOwn.never (pt_truth (pv 1) (by intro _; rfl))
 (pss_cons (ps_set (i := 4) scThing.nd rfl (Or.inl rfl) (pe_bm0 PySem.F.plainAttrs_list PySem.F.slot_list_pop PySem.F.type_list_pop mt_pop (pv 1)))
 (pss_cons (ps_if (pt_not (pt_val (pe_callB call_isi (by rfl) (T.free 46 rfl) (by decide +kernel) (pa_cons (pv 4) (pa_cons (pe_bltn (v := .ty "tuple") (by rfl) (T.free 51 rfl) (by decide +kernel) rfl) pa_nil)))))
 (pss_cons (ps_if (pt_not (pt_val (pe_has Hlf (hr.mono (by decide)) pass0 (pa_cons (pv 4) pa_nil))))
 (pss_one (ps_ret pe_bl))
 pss_nil)
 (pss_one ps_continue))
 pss_nil)
 (pss_cons (ps_aug (i := 3) scThing.nd rfl (.inl rfl) pe_int ip_add)
 (pss_one (ps_if (PW.pt (pw_or (pt_cmpR op_le (pv 3) (pe_glob (v := .int 5000) (by rfl) gPL ⟨_, rfl⟩) (nomark _)) (pw_or1 (pt_not (pt_val (pe_has Hho (hr.mono (by decide)) pass0 (pa_cons (pv 4) pa_nil)))))))
 (pss_one (ps_expr (pe_bm PySem.F.plainAttrs_list PySem.F.slot_list_extend PySem.F.type_list_extend mt_extT (pv 1) (pa_cons (pv 4) pa_nil))))
 (pss_one (ps_if (pt_not (pt_truth (pe_meth (pv 2) cSh mMark FMark (hr.mono (by decide)) bMark .nil pass0 (pa_cons (pv 4) pa_nil)) (by intro _; rfl)))
 (pss_cons (ps_expr (pe_meth (pv 2) cSh mKeep FKeep (hr.mono (by decide)) bKeep .nil pass0 (pa_cons (pv 4) (pa_cons pe_bl pa_nil))))
 (pss_one (ps_expr (pe_bm PySem.F.plainAttrs_list PySem.F.slot_list_extend PySem.F.type_list_extend mt_extT (pv 1) (pa_cons (pv 4) pa_nil)))))
 pss_nil))))))))
 (pss_one (ps_ret pe_bl)))))), ?_⟩
    obtain ⟨v, d, rfl, hd, sz, hQ⟩ := h
    have nd0 : sizeAll [d] = sizeD d := by simp [sizeAll]
    refine ⟨_, rfl, (by show 1 ≤ sizeLine; decide), fun k nk _ => ?_⟩
    have s0 := same_new (o := HO.lst [v]) nk
    have e0 : upd H k (HO.lst [v]) k = some (.lst [v]) := upd_same
    have sd : Same H (delH (upd H k (HO.lst [v])) k) := fun b o e => by rw [delH_ne (ne_of_none e nk)]; exact s0 _ _ e
    generalize upd H k (HO.lst [v]) = H1 at s0 e0 sd ⊢
    intro p dx np nd ne
    refine ⟨p, dx, rfl, upd_same, fun H2 st => ⟨rfl, ?_⟩⟩
    have s12 : Same H1 H2 := fun b o e => st b o (ne_of_none e np) (by rw [upd_ne (ne_of_none e np), upd_ne (ne_of_none e nd)]; exact e)
    have e2 := s12 _ _ e0
    have sd2 := sd.trans (same_del s12)
    have a2 : DxAll (delH H2 k) [v] [d] := .cons (Dx.same sd2 _ _ hd) .nil
    clear e0 sd st np nd ne s12 s0
    refine ⟨fun m σ H' => ∃ us ds, ∃ lk : Nat, ∃ o4, σ = [some v, some (.ref k), some (.ref p), some (.int ((lk : Nat) : Int)), o4] ∧ H' k = some (.lst us) ∧ DxAll (delH H' k) us ds ∧ Same H (delH H' k) ∧ sizeAll ds + lk ≤ 4000 ∧ thingAll ds = thingD d ∧ m = sizeAll ds,
      ⟨_, [v], [d], 0, _, rfl, e2, a2, sd2, by omega, by simp [thingAll], rfl⟩, ?_⟩
    rintro m σ H3 ⟨us, ds, lk, o4, rfl, e3, a3, s3, z3, t3, rfl⟩
    refine ⟨_, rfl, !us.isEmpty, .inl ⟨us, sq_of e3, rfl⟩, ?_⟩
    by_cases hds : ds = []
    · subst hds
      cases a3
      refine iteF ?_
      have z : thingD d = true := t3.symm
      rw [z] at hQ
      exact hQ H3 (s3.trans same_delH)
    obtain ⟨es, e, rfl⟩ := snoc_of hds
    obtain ⟨us', y, rfl, h1, h2⟩ := snoc_inv a3
    have ne : (!(us' ++ [y]).isEmpty) = true := by simp
    rw [ne]
    refine iteT ⟨fun σ' H' => ∃ m', m' < sizeAll (es ++ [e]) ∧ ∃ us ds, ∃ lk : Nat, ∃ o4, σ' = [some v, some (.ref k), some (.ref p), some (.int ((lk : Nat) : Int)), o4] ∧ H' k = some (.lst us) ∧ DxAll (delH H' k) us ds ∧ Same H (delH H' k) ∧ sizeAll ds + lk ≤ 4000 ∧ thingAll ds = thingD d ∧ m' = sizeAll ds, fun _ _ h => h, ?_⟩
    have ep := size_pos e
    have sz' : sizeAll (es ++ [e]) = sizeAll es + sizeD e := by rw [sizeAll_app]; simp [sizeAll]
    have th' : thingAll (es ++ [e]) = (thingAll es && thingD e) := by rw [thingAll_app]; simp [thingAll]
    rw [sz'] at z3 ⊢
    rw [th'] at t3
    refine ⟨_, rfl, .inl ⟨rfl, _, sq_of e3⟩, k, _, y, rfl, rfl, e3, by simp, ?_⟩
    rw [List.dropLast_concat]
    have e4 : upd H3 k (HO.lst us') k = some (.lst us') := upd_same
    have s4 : Same H (delH (upd H3 k (HO.lst us')) k) := by rw [delH_upd]; exact s3
    have h14 : DxAll (delH (upd H3 k (HO.lst us')) k) us' es := by rw [delH_upd]; exact h1
    have h24 : Dx (delH (upd H3 k (HO.lst us')) k) y e := by rw [delH_upd]; exact h2
    generalize upd H3 k (HO.lst us') = H4 at e4 s4 h14 h24 ⊢
    have lus := dxAll_len h14
    have les := len_size es
    obtain ⟨ty, tyx, kk⟩ := kx_of (kx_tup e) (Dx.same same_delH _ _ h24)
    refine ⟨_, rfl, y, .ty "tuple", _, _, _, rfl, .ty "tuple", tyx, kk, _, rfl, ?_⟩
    cases hT : isTup e with
    | false =>
      refine iteT ⟨_, rfl, y, e, rfl, Dx.same same_delH _ _ h24, fun H5 s5 => ⟨_, rfl, ?_⟩⟩
      rw [thing_leaf hT] at t3
      cases hL : leafD e with
      | false =>
        rw [hL, Bool.and_false] at t3
        rw [← t3] at hQ
        exact iteT (hQ H5 ((s4.trans same_delH).trans s5))
      | true =>
        rw [hL, Bool.and_true] at t3
        exact iteF ⟨sizeAll es, by omega, us', es, lk, _, rfl, s5 _ _ e4, DxAll.same (same_del s5) _ _ h14, s4.trans (same_del s5), by omega, t3, rfl⟩
    | true =>
      obtain ⟨fs, rfl⟩ := isTup_tup hT
      obtain ⟨b, zs, rfl, hb, hz⟩ := Dx.tup_inv h24
      have lzs := dxAll_len hz
      have lfs := len_size fs
      have sf : sizeD (.tuple fs) = 1 + sizeAll fs := by simp [sizeD]
      have tf : thingD (.tuple fs) = thingAll fs := by simp [thingD]
      rw [sf] at z3
      rw [tf] at t3
      refine iteF ⟨_, rfl, _, _, rfl, rfl, ?_⟩
      refine ⟨_, rfl, _, _, rfl, rfl, true, congrArg V.bl (decide_eq_true (by show ((lk : Nat) : Int) + 1 ≤ 5000; omega)), iteT ?_⟩
      have both : us'.length + zs.length ≤ 5000 := by
        rw [lus, lzs]
        omega
      have line : us'.length + zs.length ≤ sizeLine := Nat.le_trans both (by decide)
      refine ⟨_, rfl, .inl ⟨rfl, _, sq_of e4⟩, _, rfl, k, b, us', zs, rfl, rfl, e4, st_of (same_delH _ _ hb), line, ?_⟩
      refine ⟨sizeAll (es ++ fs), by rw [sizeAll_app, sf]; omega, us' ++ zs, es ++ fs, lk + 1, _, rfl, upd_same, by rw [delH_upd]; exact DxAll.app h14 hz, by rw [delH_upd]; exact s4, by rw [sizeAll_app]; omega, by rw [thingAll_app]; exact t3, rfl⟩
theorem ok_tl (T : Tx K mg) : Has P w K mg base CX0 4 "is_turned_letter" ["thing"] spTl := by
  obtain ⟨fd, F⟩ := T.c.def_ 9 (d := d_is_turned_letter) rfl
  have Ht := ok_tupOf (P := P) (w := w) (base := base) T
  have Hf := ok_fromTo (P := P) (w := w) (base := base) T
  have Hth := ok_thing (P := P) (w := w) (base := base) T
  obtain ⟨tML, gML⟩ := (T.int 8 rfl)
  refine ⟨fd, F.ok scTl (fun vs H Q E h => ?_) (fun cdv A outer s H vs Q E hr h => ?_), FunD.bindsN F fun _ _ _ _ _ _ us hl => match us, hl with | [_], _ => rfl, F.kp, (T.glo 16 rfl)⟩
  · obtain ⟨v, d, rfl, _⟩ := h
    rfl
  · refine ⟨_, PSs.nox (pss_one (ps_ret (pe_and (pe_has Ht (hr.mono (by decide)) pass0 (pa_cons (pv 0) (pa_cons pe_int (pa_cons pe_int pa_nil)))) (pe_and (pe_has Hf (hr.mono (by decide)) pass0 (pa_cons (pe_ix ix_tup (pv 0) pe_int (fun _ _ => rfl)) (pa_cons pe_int (pa_cons (pe_op op_sub (pe_glob (v := .int 60) (by rfl) gML ⟨_, rfl⟩) pe_int) pa_nil)))) (pe_one (pe_has Hth (hr.mono (by decide)) pass0 (pa_cons (pe_ix ix_tup (pv 0) pe_int (fun _ _ => rfl)) pa_nil))))))), ?_⟩
    obtain ⟨v, d, rfl, hd, sz, hQ⟩ := h
    have nodes2 : ∀ a b, d = .tuple [a, b] → sizeD b ≤ 4000 := fun a b e => by
      rw [e] at sz
      simp [sizeD, sizeAll] at sz
      omega
    refine ⟨v, rfl, v, d, 2, 2, rfl, hd, _, rfl, ?_⟩
    cases e : tupOf 2 2 d with
    | false =>
      have z : turnedD d = false := by
        match d, e with
        | .tuple [a, b], e => simp [tupOf] at e
        | .tuple [], _ => rfl
        | .tuple [_], _ => rfl
        | .tuple (_ :: _ :: _ :: _), _ => rfl
        | .none, _ | .bool _, _ | .int _, _ | .str _, _ | .list _, _ | .dict _, _ => rfl
      rw [z] at hQ
      exact iteF (hQ H (Same.refl H))
    | true =>
      obtain ⟨xs, rfl, l1, l2⟩ := tupOf_tup e
      have l3 : xs.length = 2 := by omega
      match xs, l3 with
      | [a, b], _ =>
      obtain ⟨p, vs, rfl, hp, hr'⟩ := Dx.tup_inv hd
      cases hr' with | @cons va _ _ _ qa r1 =>
      cases r1 with | @cons vb _ _ _ qb r2 =>
      cases r2
      have td : turnedD (.tuple [a, b]) = (fromTo 0 59 a && thingD b) := rfl
      rw [td] at hQ
      refine iteT ⟨_, rfl, p, _, 0, va, rfl, rfl, st_of hp, rfl, _, _, rfl, rfl, va, a, 0, 59, rfl, qa, _, rfl, ?_⟩
      cases h1 : fromTo 0 59 a with
      | false =>
        rw [h1, Bool.false_and] at hQ
        exact iteF (hQ H (Same.refl H))
      | true =>
        rw [h1, Bool.true_and] at hQ
        exact iteT ⟨_, rfl, p, _, 1, vb, rfl, rfl, st_of hp, rfl, vb, b, rfl, qb, nodes2 a b rfl, hQ⟩
end
end K11

set_option maxHeartbeats 4000000
namespace K11
open PySem PySem.Spec PyProof.Rows L2 V1 V2 V3
open Evl (pss_cut tCut sq_of st_of)
/-- the number of a turned letter -/
def keyOf : PyData → Int
  | .tuple (.int n :: _) => n
  | _ => 0
def okT (ns : List Int) (ds : List PyData) (i : Nat) : Bool :=
  turnedD (ds.getD i .none) && (!(decide (0 < i) && decide (keyOf (ds.getD i .none) ≤ keyOf (ds.getD (i - 1) .none))) && !ns.contains (keyOf (ds.getD i .none)))
def firstBad (ns : List Int) (ds : List PyData) : Option Nat := (List.range ds.length).find? fun i => !okT ns ds i
def intsOf : PyData → List Int
  | .tuple ds => ds.map fun d => match d with
    | .int n => n
    | _ => 0
  | _ => []
def partOf (d1 d2 : PyData) : Option V :=
  if lotD 60 d1 = true then
    match d2 with
    | .tuple ds => (firstBad (intsOf d1) ds).map fun i => V.int (i : Nat)
    | _ => some (.str "turned")
  else some (.str "lost")
theorem lot_ints {m : Int} : ∀ {lo : Int} {ds : List PyData}, lotFrom m lo ds = true → ∃ ns : List Int, ds = ns.map PyData.int ∧ ns.Pairwise (· < ·) ∧ ∀ n ∈ ns, lo ≤ n ∧ n < m
  | _, [], _ => ⟨[], rfl, .nil, fun n hn => absurd hn List.not_mem_nil⟩
  | lo, d :: ds, h => by
    simp only [lotFrom, Bool.and_eq_true] at h
    obtain ⟨n, rfl, h1, h2⟩ := fromTo_int h.1
    obtain ⟨ns, rfl, p, b⟩ := lot_ints h.2
    refine ⟨n :: ns, rfl, .cons (fun x hx => by have := b x hx; simp only at this; omega) p, fun x hx => ?_⟩
    rcases List.mem_cons.mp hx with rfl | hx
    · omega
    · have := b x hx
      simp only at this
      omega
abbrev Tn := List (Int × PyData)
def mkF (t : Int × PyData) : PyData := .tuple [.int t.1, t.2]
def look (ts : Tn) (n : Int) : Option PyData := (ts.find? fun t => t.1 == n).map (·.2)
section
variable [CurK]
/-- the dict of turned letters -/
def InD (H : Hp) (kvs : List (Key × V)) (ts : Tn) : Prop := ∀ n : Int, match look ts n with
  | none => valV kvs (.inl n) = none
  | some d => ∃ v, valV kvs (.inl n) = some v ∧ Dx H v d
structure FAt (H : Hp) (p : Addr) (ns : List Int) (ts : Tn) : Prop where
  ex : ∃ dx a b q us kvs, H p = some (.ins (He.ga K "Faults") dx [("lost", .ref a), ("turned", .ref b), ("_into", .ref q)]) ∧ H a = some (.tup (ns.map V.int)) ∧ H b = some (.tup us) ∧ DxAll H us (ts.map mkF) ∧ H q = some (.dK kvs) ∧ InD H kvs ts
/-- right lost and turned ones -/
structure GoodF (ns : List Int) (ts : Tn) : Prop where
  up : ns.Pairwise (· < ·)
  bd : ∀ n ∈ ns, 0 ≤ n ∧ n < 60
  th : ∀ t ∈ ts, 0 ≤ t.1 ∧ t.1 < 60 ∧ thingD t.2 = true ∧ t.1 ∉ ns
  tu : ts.Pairwise fun x y => x.1 < y.1
def spCheck : Sp := fun vs H Q E => ∃ l a ns us ds, vs = [.ref l, .ref a] ∧ H l = some (.tup (ns.map V.int)) ∧ H a = some (.tup us) ∧ DxAll H us ds ∧ (∀ d ∈ ds, sizeD d ≤ 4000) ∧
  ((∀ i, i < ds.length → okT ns ds i = true) → ∀ H', Same H H' → Q .non H') ∧
  ∀ i, i < ds.length → okT ns ds i = false → (∀ j, j < i → okT ns ds j = true) → ∀ d H', H d = none → Same H H' → H' d = some (.xd [("part", .int i)]) → E (.ref (He.ga K "BadFaults")) (some d) H'
def spFInit : Sp := fun vs H Q E => ∃ p dx v1 v2 d1 d2, vs = [.ref p, v1, v2] ∧ H p = some (.ins (He.ga K "Faults") dx []) ∧ Dx H v1 d1 ∧ Dx H v2 d2 ∧ (∀ ds, d2 = .tuple ds → ds.length ≤ 500 ∧ ∀ d ∈ ds, sizeD d ≤ 4000) ∧
  (∀ x, partOf d1 d2 = some x → ∀ d H', H d = none → Same H H' → H' d = some (.xd [("part", x)]) → E (.ref (He.ga K "BadFaults")) (some d) H') ∧
  (partOf d1 d2 = none → ∀ ns ts, d1 = .tuple (ns.map PyData.int) → d2 = .tuple (ts.map mkF) → GoodF ns ts → ∀ H', (∀ b o, b ≠ p → H b = some o → H' b = some o) → FAt H' p ns ts → Q .non H')
def spFEq : Sp := fun vs H Q _ => ∃ p ns ts y, vs = [.ref p, y] ∧ FAt H p ns ts ∧ GoodF ns ts ∧ (∀ t ∈ ts, SeqAt.shaped t.2 = true ∧ t.2.depth ≤ 50) ∧ ts.length ≤ 100 ∧
  ((∃ d, Dx H y d ∧ d ≠ objD ∧ Q (.bl false) H) ∨ (∃ a dx fs C, y = .ref a ∧ H a = some (.ins C dx fs) ∧ C8.InsC K C ∧ PySem.W.kitOne K (.ref C) (.ref (He.ga K "Faults")) = some false ∧ Q (.bl false) H) ∨
    ∃ q ns' ts', y = .ref q ∧ FAt H q ns' ts' ∧ GoodF ns' ts' ∧ (∀ t ∈ ts', SeqAt.shaped t.2 = true ∧ t.2.depth ≤ 50) ∧ ts'.length ≤ 100 ∧ Q (.bl (decide (ns = ns') && PyData.eqv (.tuple (ts.map mkF)) (.tuple (ts'.map mkF)))) H)
def earD (ns : List Int) (ts : Tn) (n : Int) (d : PyData) : PyData := if ns.contains n = true then .tuple [] else .tuple [(look ts n).getD d]
def spEar : Sp := fun vs H Q _ => ∃ p ns ts n v d, vs = [.ref p, .int n, v] ∧ FAt H p ns ts ∧ Dx H v d ∧ ∀ u H', Same H H' → Dx H' u (earD ns ts n d) → Q u H'
end
theorem scCheck : FnScope ["lost", "turned", "at", "pair"] ["lost", "turned"] (defScope s_check_turned) := ⟨rfl, rfl, rfl, by decide +kernel, rfl, by decide +kernel, by decide +kernel⟩
theorem scBad : FnScope ["self", "part"] ["self", "part"] (defScope s_BadFaults__init__) := ⟨rfl, rfl, rfl, by decide +kernel, rfl, by decide +kernel, by decide +kernel⟩
theorem scInit : FnScope ["self", "lost", "turned", "number", "thing"] ["self", "lost", "turned"] (defScope s_Faults__init__) := ⟨rfl, rfl, rfl, by decide +kernel, rfl, by decide +kernel, by decide +kernel⟩
theorem scEq : FnScope ["self", "other"] ["self", "other"] (defScope s_Faults__eq__) := ⟨rfl, rfl, rfl, by decide +kernel, rfl, by decide +kernel, by decide +kernel⟩
theorem scEar : FnScope ["self", "letter", "thing"] ["self", "letter", "thing"] (defScope s_Faultsear) := ⟨rfl, rfl, rfl, by decide +kernel, rfl, by decide +kernel, by decide +kernel⟩
theorem getD_at {ds : List PyData} {i : Nat} (h : i < ds.length) : ds[i]? = some (ds.getD i .none) := by
  rw [List.getElem?_eq_getElem h]
  simp [List.getD, h]
theorem turned_inv {d : PyData} (h : turnedD d = true) : ∃ n b, d = .tuple [.int n, b] ∧ 0 ≤ n ∧ n ≤ 59 ∧ thingD b = true := by
  match d, h with
  | .tuple [a, b], h =>
    have z : fromTo 0 59 a = true ∧ thingD b = true := by simpa [turnedD] using h
    obtain ⟨n, rfl, h1, h2⟩ := fromTo_int z.1
    exact ⟨n, b, rfl, h1, h2, z.2⟩
theorem inV_ints {ns : List Int} {i : Int} : inV (.int i) (ns.map V.int) = ns.contains i := by
  unfold inV
  rw [List.any_map, Bool.eq_iff_iff, List.any_eq_true, List.contains_iff_mem]
  constructor
  · rintro ⟨x, hx, e⟩
    have z : x = i := by simpa [Function.comp, eqV] using e
    rw [← z]
    exact hx
  · intro h
    exact ⟨i, h, by simp [Function.comp, eqV]⟩
mutual
/-- plain data lie at no object's place -/
theorem dq_sameN {H H' : L2.Hp} (e : ∀ b o, H b = some o → (∀ C dx fs, o ≠ .ins C dx fs) → H' b = some o) : ∀ (d : PyData) (v : V), Dq H v d → Dq H' v d
  | .none, _, h => by cases h; exact .non
  | .bool b, _, h => by cases h; exact .bl b
  | .int i, _, h => by cases h; exact .int i
  | .str x, _, h => by cases h; exact .str x
  | .list ds, _, h => by
    cases h with
    | lst at_ low rest => exact .lst (e _ _ at_ (fun _ _ _ z => nomatch z)) low (dqAll_sameN e ds _ rest)
  | .tuple ds, _, h => by
    cases h with
    | tup at_ rest => exact .tup (e _ _ at_ (fun _ _ _ z => nomatch z)) (dqAll_sameN e ds _ rest)
  | .dict ds, _, h => by
    cases h with
    | dct at_ rest => exact .dct (e _ _ at_ (fun _ _ _ z => nomatch z)) (dqKv_sameN e ds _ rest)
theorem dqAll_sameN {H H' : L2.Hp} (e : ∀ b o, H b = some o → (∀ C dx fs, o ≠ .ins C dx fs) → H' b = some o) : ∀ (ds : List PyData) (vs : List V), DqAll H vs ds → DqAll H' vs ds
  | [], _, h => by cases h; exact .nil
  | d :: ds, _, h => by
    cases h with
    | cons one more => exact .cons (dq_sameN e d _ one) (dqAll_sameN e ds _ more)
theorem dqKv_sameN {H H' : L2.Hp} (e : ∀ b o, H b = some o → (∀ C dx fs, o ≠ .ins C dx fs) → H' b = some o) : ∀ (ds : List (PyData × PyData)) (kvs : List (Key × V)), DqKv H kvs ds → DqKv H' kvs ds
  | [], _, h => by cases h; exact .nil
  | (k, d) :: ds, _, h => by
    cases h with
    | cons one more => exact .cons (dq_sameN e d _ one) (dqKv_sameN e ds _ more)
end
theorem dqAt {H : L2.Hp} : ∀ {vs : List V} {ds : List PyData} {j : Nat} {v : V} {d : PyData}, DqAll H vs ds → vs[j]? = some v → ds[j]? = some d → Dq H v d
  | _ :: _, _ :: _, 0, _, _, .cons one _, e, e' => by
    obtain rfl := Option.some.inj e
    obtain rfl := Option.some.inj e'
    exact one
  | _ :: _, _ :: _, j + 1, _, _, .cons _ more, e, e' => dqAt (j := j) more e e'
def thOf : PyData → PyData
  | .tuple [_, b] => b
  | _ => .none
theorem ts_of {ns : List Int} {ds : List PyData} (ok : ∀ i, i < ds.length → okT ns ds i = true) : ∃ ts : Tn, ds = ts.map mkF ∧ (∀ t ∈ ts, 0 ≤ t.1 ∧ t.1 < 60 ∧ thingD t.2 = true ∧ t.1 ∉ ns) ∧ ts.Pairwise fun x y => x.1 < y.1 := by
  have one : ∀ i (hi : i < ds.length), ∃ n b, ds[i] = .tuple [.int n, b] ∧ 0 ≤ n ∧ n ≤ 59 ∧ thingD b = true ∧ n ∉ ns ∧ (∀ h : 0 < i, keyOf (ds[i - 1]'(by omega)) < n) := fun i hi => by
    have z := ok i hi
    have gi : ds.getD i .none = ds[i] := by simp [List.getD, hi]
    unfold okT at z
    simp only [Bool.and_eq_true, Bool.not_eq_true'] at z
    obtain ⟨n, b, e, h0, h1, h2⟩ := turned_inv z.1
    have kn : keyOf (ds.getD i .none) = n := by rw [e]; rfl
    rw [kn] at z
    refine ⟨n, b, by rw [← gi]; exact e, h0, h1, h2, fun m => ?_, fun h => ?_⟩
    · have y := z.2.2
      rw [List.contains_iff_mem.mpr m] at y
      cases y
    · have y := z.2.1
      rw [decide_eq_true h, Bool.true_and, decide_eq_false_iff_not] at y
      have gj : ds.getD (i - 1) .none = ds[i - 1]'(by omega) := by simp [List.getD, (by omega : i - 1 < ds.length)]
      rw [gj] at y
      omega
  refine ⟨ds.map fun d => (keyOf d, thOf d), ?_, fun t ht => ?_, ?_⟩
  · rw [List.map_map]
    refine (List.map_id'' (fun _ => rfl) ds).symm.trans (List.map_congr_left fun d hd => ?_)
    obtain ⟨i, hi, rfl⟩ := List.getElem_of_mem hd
    obtain ⟨n, b, e, _⟩ := one i hi
    rw [e]
    rfl
  · obtain ⟨d, hd, rfl⟩ := List.mem_map.mp ht
    obtain ⟨i, hi, rfl⟩ := List.getElem_of_mem hd
    obtain ⟨n, b, e, h0, h1, h2, h3, _⟩ := one i hi
    rw [e]
    exact ⟨h0, by show n < 60; omega, h2, h3⟩
  · rw [List.pairwise_map, List.pairwise_iff_getElem]
    intro i j hi hj hij
    show keyOf ds[i] < keyOf ds[j]
    obtain ⟨d, rfl⟩ : ∃ d, j = i + 1 + d := ⟨j - (i + 1), by omega⟩
    induction d with
    | zero =>
      obtain ⟨n, b, e, _, _, _, _, h⟩ := one (i + 1) hj
      have z := h (by omega)
      have k : keyOf (ds[i + 1]'hj) = n := by rw [e]; rfl
      simpa [k] using z
    | succ d ih =>
      have z1 := ih (by omega) (by omega)
      obtain ⟨n, b, e, _, _, _, _, h⟩ := one (i + 1 + (d + 1)) hj
      have z := h (by omega)
      have k : keyOf (ds[i + 1 + (d + 1)]'hj) = n := by rw [e]; rfl
      rw [k]
      exact Int.lt_trans z1 z
theorem firstBad_none {ns : List Int} {ds : List PyData} (h : ∀ i, i < ds.length → okT ns ds i = true) : firstBad ns ds = none := by
  unfold firstBad
  rw [List.find?_eq_none]
  intro i hi
  rw [h i (List.mem_range.mp hi)]
  decide
theorem firstBad_some {ns : List Int} {ds : List PyData} {i : Nat} (hi : i < ds.length) (h : okT ns ds i = false) (k : ∀ j, j < i → okT ns ds j = true) : firstBad ns ds = some i := by
  unfold firstBad
  rw [List.find?_range_eq_some]
  refine ⟨by rw [h]; rfl, List.mem_range.mpr hi, fun j hj => by rw [k j hj]; rfl⟩
theorem look_app {ts : Tn} {t : Int × PyData} {n : Int} : look (ts ++ [t]) n = (look ts n).or (if t.1 = n then some t.2 else none) := by
  unfold look
  rw [List.find?_append]
  cases ts.find? fun t => t.1 == n with
  | some u => rfl
  | none =>
    by_cases e : t.1 = n
    · simp [e]
    · simp [e]
theorem look_none {ts : Tn} {n : Int} (h : ∀ t ∈ ts, t.1 < n) : look ts n = none := by
  unfold look
  rw [Option.map_eq_none_iff, List.find?_eq_none]
  intro t ht
  have := h t ht
  simp
  omega
theorem ints_of_map (ns : List Int) : intsOf (.tuple (ns.map PyData.int)) = ns := by
  show (ns.map PyData.int).map _ = ns
  rw [List.map_map]
  exact (List.map_congr_left fun _ _ => rfl).trans (List.map_id _)
theorem plainAll_of : ∀ {ds : List PyData}, (∀ d ∈ ds, plain d = true) → plainAll ds = true
  | [], _ => rfl
  | d :: ds, h => by
    have h1 := h d List.mem_cons_self
    have h2 := plainAll_of fun x hx => h x (List.mem_cons_of_mem _ hx)
    simp [plainAll, h1, h2]
theorem canLayAll_of : ∀ {ds : List PyData}, (∀ d ∈ ds, d.canLay0 = true) → PyData.canLayAll0 ds = true
  | [], _ => by simp [PyData.canLayAll0]
  | d :: ds, h => by
    have h1 := h d List.mem_cons_self
    have h2 := canLayAll_of fun x hx => h x (List.mem_cons_of_mem _ hx)
    simp [PyData.canLayAll0, h1, h2]
theorem depthAll_le {n : Nat} : ∀ {ds : List PyData}, (∀ d ∈ ds, d.depth ≤ n) → PyData.depthAll ds ≤ n
  | [], _ => by simp [PyData.depthAll]
  | d :: ds, h => by
    have h1 := h d List.mem_cons_self
    have h2 := depthAll_le fun x hx => h x (List.mem_cons_of_mem _ hx)
    simp only [PyData.depthAll]
    omega
theorem shaped_of {d : PyData} (h1 : d.canLay0 = true) (h2 : d.depth ≤ 64) : SeqAt.shaped d = true := by
  unfold SeqAt.shaped
  rw [h1, Bool.true_and]
  exact decide_eq_true h2
theorem ints_shaped (ns : List Int) : SeqAt.shaped (.tuple (ns.map PyData.int)) = true := by
  refine shaped_of ?_ ?_
  · show PyData.canLayAll0 _ = true
    refine canLayAll_of fun d hd => ?_
    obtain ⟨l, _, rfl⟩ := List.mem_map.mp hd
    simp [PyData.canLay0]
  · have z : PyData.depthAll (ns.map PyData.int) ≤ 1 := depthAll_le fun d hd => by
      obtain ⟨l, _, rfl⟩ := List.mem_map.mp hd
      simp [PyData.depth]
    simp only [PyData.depth]
    omega
theorem turns_shaped {ts : Tn} (h : ∀ t ∈ ts, SeqAt.shaped t.2 = true ∧ t.2.depth ≤ 50) : SeqAt.shaped (.tuple (ts.map mkF)) = true := by
  refine shaped_of ?_ ?_
  · show PyData.canLayAll0 _ = true
    refine canLayAll_of fun d hd => ?_
    obtain ⟨t, ht, rfl⟩ := List.mem_map.mp hd
    have z : (t.2.canLay0 && decide (t.2.depth ≤ 64)) = true := (h t ht).1
    simp only [Bool.and_eq_true] at z
    simp [mkF, PyData.canLay0, PyData.canLayAll0, z.1]
  · have z : PyData.depthAll (ts.map mkF) ≤ 52 := depthAll_le fun d hd => by
      obtain ⟨t, ht, rfl⟩ := List.mem_map.mp hd
      have := (h t ht).2
      simp only [mkF, PyData.depth, PyData.depthAll]
      omega
    simp only [PyData.depth]
    omega
theorem eqv_ints : ∀ (ns ms : List Int), PyData.eqvAll (ns.map PyData.int) (ms.map PyData.int) = decide (ns = ms)
  | [], [] => rfl
  | [], _ :: _ => rfl
  | _ :: _, [] => rfl
  | n :: ns, m :: ms => by
    rw [List.map_cons, List.map_cons, PyData.eqvAll, eqv_ints ns ms]
    have z : PyData.eqv (.int n) (.int m) = decide (n = m) := by
      simp only [PyData.eqv]
      by_cases e : n = m
      · rw [e]
        simp
      · simp [e]
    rw [z]
    by_cases e1 : n = m
    · by_cases e2 : ns = ms
      · rw [e1, e2]
        simp
      · rw [decide_eq_false e2, Bool.and_false, decide_eq_false fun q => e2 (List.cons.inj q).2]
    · rw [decide_eq_false e1, Bool.false_and, decide_eq_false fun q => e1 (List.cons.inj q).1]
section
variable [CurK] {σ : L2.St} {H : L2.Hp} {Q : VK} {te : TE} {v : V} {d : PyData} {C : Addr}
/-- isinstance(x, C), C a plain class: data that are no object -/
theorem kxC_no (i : InsK K C) (hd : Dx H v d) (ne : d ≠ objD) : ∃ t, TyX K H v t ∧ PySem.W.kitOne K t (.ref C) = some false ∧ PySem.W.notFirst K C t = true := by
  have z := i.no _ (tyName_mem d)
  have y := i.nf _ (tyName_mem d)
  cases hd with
  | non => exact ⟨_, .base .non, z, y⟩
  | bl b => exact ⟨_, .base (.bl b), z, y⟩
  | int i => exact ⟨_, .base (.int i), z, y⟩
  | str x => exact ⟨_, .base (.str x), z, y⟩
  | lst e _ _ => exact ⟨_, .base (.lst e), z, y⟩
  | tup e _ => exact ⟨_, .base (.tup e), z, y⟩
  | dct e _ => exact ⟨_, .base (.dK e), z, y⟩
  | ob e ok => exact absurd rfl ne
end
section
variable [CurK] {P : Program} {w : World} {mg : Str → Option Value} {base : Heap}
theorem fldBad (T : Tx K mg) : Fld P w K mg base "BadFaults" "part" := by
  obtain ⟨fd, F⟩ := T.c.def_ 30 (d := d_BadFaults__init__) rfl
  exact fld_of F scBad rfl (T.glo 6 rfl) (T.one 0 rfl) rfl rfl (T.noat 53 rfl) (He.meth_ok (T.c.fact 52 rfl)) (by decide) (by decide) (Or.inl rfl) (Or.inl rfl) (fun _ => rfl) (FunD.bindsN F fun _ _ _ _ _ _ us hl => match us, hl with | [_, _], _ => rfl)
theorem ok_check (T : Tx K mg) : Has P w K mg base (L2.CX P w) 5 "check_turned" ["lost", "turned"] spCheck := by
  obtain ⟨fd, F⟩ := T.c.def_ 10 (d := d_check_turned) rfl
  have Htl := ok_tl (P := P) (w := w) (base := base) T
  refine ⟨fd, F.ok scCheck (fun vs H Q E h => ?_) (fun cdv A outer s H vs Q E hr h => ?_), FunD.bindsN F fun _ _ _ _ _ _ us hl => match us, hl with | [_, _], _ => rfl, F.kp, (T.glo 17 rfl)⟩
  · obtain ⟨l, a, ns, us, ds, rfl, _⟩ := h
    rfl
  · refine ⟨_, (pss_one (ps_for (passes_of rfl) rfl (pi_enumT (by rfl) (T.free 44 rfl) (pa_cons (pv 1) pa_nil)) (pg_tup (by rfl) (pgs_cons (pg_name (i := 2) scCheck.nd rfl (Or.inl rfl)) (pgs_cons (pg_name (i := 3) scCheck.nd rfl (Or.inl rfl)) pgs_nil)))
 (pss_cons (ps_if (pt_not (pt_val (pe_has Htl (hr.mono (by decide)) pass0 (pa_cons (pv 3) pa_nil))))
 (pss_one (ps_raise rfl (takes_of rfl rfl rfl rfl) (pmk_fld (fldBad T) (hr.mono (by decide)) (pa_cons (pv 2) pa_nil))))
 pss_nil)
 (pss_cut (ps_if (PW.pt (pw_and (pt_cmpR op_gt (pv 2) pe_int (nomark _)) (pw_and1 (pt_cmpR op_le (pe_ix ix_tup (pv 3) pe_int (fun _ _ => rfl)) (pe_ix ix_tup (pe_ix ix_tup (pv 1) (pe_op op_sub (pv 2) pe_int) (fun _ _ => rfl)) pe_int (fun _ _ => rfl)) (nomark _)))))
 (pss_one (ps_raise rfl (takes_of rfl rfl rfl rfl) (pmk_fld (fldBad T) (hr.mono (by decide)) (pa_cons (pv 2) pa_nil))))
 pss_nil)
 (pss_one (ps_if (pt_cmpR op_in_seq (pe_ix ix_tup (pv 3) pe_int (fun _ _ => rfl)) (pv 0) (by rfl))
 (pss_one (ps_raise rfl (takes_of rfl rfl rfl rfl) (pmk_fld (fldBad T) (hr.mono (by decide)) (pa_cons (pv 2) pa_nil))))
 pss_nil)))))), ?_⟩
    obtain ⟨l, a, ns, us, ds, rfl, hl, ha, hr', sz, hQ, hE⟩ := h
    have len := dxAll_len hr'
    have gk : ∀ {i : Nat}, i < ds.length → sizeD (ds.getD i .none) ≤ 4000 := fun {i} hi => sz _ (by
      have z : ds.getD i .none = ds[i] := by simp [List.getD, hi]
      rw [z]
      exact List.getElem_mem hi)
    refine ⟨_, rfl, a, us, rfl, st_of ha, ?_⟩
    refine for_it walk_enumT (fun i σ H' => Same H H' ∧ (∃ o1 o2, σ = [some (.ref l), some (.ref a), o1, o2]) ∧ ∀ j, j < i → okT ns ds j = true) ⟨Same.refl H, ⟨_, _, rfl⟩, fun j hj => absurd hj (Nat.not_lt_zero j)⟩ (fun i σ H' _ p => st_of (p.1 _ _ ha)) ?_ (fun σ H' p => hQ (fun i hi => p.2.2 i (by omega)) H' p.1)
    rintro i x σ H1 H2 hi ⟨s1, ⟨o1, o2, rfl⟩, hok⟩ ⟨p, z1, v, rfl, np, rfl, e1, e2⟩
    obtain rfl := Option.some.inj e1
    have hi' : i < ds.length := by omega
    have s2 : Same H (upd H1 p (.tup [.int (i : Nat), v])) := s1.trans (same_new np)
    have ha2 := s2 _ _ ha
    have hl2 := s2 _ _ hl
    have hv : Dx (upd H1 p (.tup [.int (i : Nat), v])) v (ds.getD i .none) := Dx.same s2 _ _ (DxAll.at hr' e2 (getD_at hi'))
    have ep : upd H1 p (.tup [.int (i : Nat), v]) p = some (.tup [.int (i : Nat), v]) := upd_same
    have boom : okT ns ds i = false → ∀ Z : L2.Hp, Same H Z → tMkO (He.ga K "BadFaults") (spIni K (He.ga K "BadFaults") "part") [] (tCons (tVar 2) tNil) [some (.ref l), some (.ref a), some (.int (i : Nat)), some v] Z E := fun e Z sz =>
      raise_go (v := .int (i : Nat)) (fun Q q => ⟨_, rfl, q⟩) fun d H' nd sm hd => hE i hi' e hok d H' (fresh_up sz nd) (sz.trans sm) hd
    generalize upd H1 p (.tup [.int (i : Nat), v]) = H3 at s2 ha2 hl2 hv ep
    refine ⟨p, _, rfl, st_of ep, rfl, ?_⟩
    have look_ : okT ns ds i = (turnedD (ds.getD i .none) && (!(decide (0 < i) && decide (keyOf (ds.getD i .none) ≤ keyOf (ds.getD (i - 1) .none))) && !ns.contains (keyOf (ds.getD i .none)))) := rfl
    refine ⟨_, _, rfl, _, _, rfl, rfl, ?_⟩
    refine ⟨_, rfl, v, _, rfl, hv, gk hi', fun H4 s4 => ⟨_, rfl, ite2 (fun e => ?_) (fun e => ?_)⟩⟩
    · refine boom ?_ _ (s2.trans s4)
      rw [look_, show turnedD (ds.getD i .none) = false by simpa using e, Bool.false_and]
    have e' : turnedD (ds.getD i .none) = true := by simpa using e
    obtain ⟨n, b, hd, n0, n59, tb⟩ := turned_inv e'
    have s24 := s2.trans s4
    rw [hd] at hv
    obtain ⟨q, ws, rfl, hq3, hw⟩ := Dx.tup_inv hv
    cases hw with | @cons va _ _ _ qa r1 =>
    cases r1 with | @cons vb _ _ _ qb r2 =>
    cases r2
    obtain rfl := Dx.int_inv qa
    have hq := s4 _ _ hq3
    have ha4 := s4 _ _ ha2
    have hl4 := s4 _ _ hl2
    have kn : keyOf (ds.getD i .none) = n := by rw [hd]; rfl
    refine ⟨fun σ' H' => σ' = [some (.ref l), some (.ref a), some (.int (i : Nat)), some (.ref q)] ∧ H' = H4 ∧ (decide (0 < i) && decide (keyOf (ds.getD i .none) ≤ keyOf (ds.getD (i - 1) .none))) = false, ?_, ?_⟩
    · refine ⟨_, rfl, _, _, rfl, rfl, _, rfl, ite2 (fun e1 => ?_) (fun e1 => ?_)⟩
      · have i0 : 0 < i := by
          have z := of_decide_eq_true e1
          omega
        obtain ⟨n', b', hd', _, _, _⟩ := turned_inv (Bool.and_eq_true_iff.mp (hok (i - 1) (by omega))).1
        have hj : i - 1 < ds.length := by omega
        have ej : us[i - 1]? = some (us.getD (i - 1) .non) := by
          rw [List.getElem?_eq_getElem (by omega : i - 1 < us.length)]
          simp [List.getD, (by omega : i - 1 < us.length)]
        have hv' : Dx H4 (us.getD (i - 1) .non) (.tuple [.int n', b']) := by
          rw [← hd']
          exact Dx.same s24 _ _ (DxAll.at hr' ej (getD_at hj))
        obtain ⟨q', ws', eq', hq', hw'⟩ := Dx.tup_inv hv'
        rw [eq'] at ej
        cases hw' with | @cons va' _ _ _ qa' r1' =>
        cases r1' with | @cons vb' _ _ _ qb' r2' =>
        cases r2'
        obtain rfl := Dx.int_inv qa'
        have kn' : keyOf (ds.getD (i - 1) .none) = n' := by rw [hd']; rfl
        have at' : atI us ((i : Int) - 1) = some (.ref q') := by
          have z : ((i : Int) - 1) = ((i - 1 : Nat) : Int) := by omega
          rw [z]
          exact atI_nat ej
        refine ⟨_, rfl, q, _, 0, _, rfl, rfl, st_of hq, rfl, _, rfl, _, rfl, _, _, rfl, rfl, a, us, _, _, rfl, rfl, st_of ha4, at', q', _, 0, _, rfl, rfl, st_of hq', rfl, _, _, rfl, rfl, _, rfl, ite2 (fun e2 => ?_) (fun e2 => ?_)⟩
        · refine boom ?_ _ s24
          have z : (decide (0 < i) && decide (keyOf (ds.getD i .none) ≤ keyOf (ds.getD (i - 1) .none))) = true := by
            rw [decide_eq_true i0, kn, kn', Bool.true_and]
            exact e2
          rw [look_, e', z]
          simp
        · refine ⟨rfl, rfl, ?_⟩
          rw [decide_eq_true i0, kn, kn', Bool.true_and]
          simpa using e2
      · refine ⟨rfl, rfl, ?_⟩
        have z : decide (0 < i) = false := by
          refine decide_eq_false fun z => e1 (decide_eq_true ?_)
          omega
        rw [z, Bool.false_and]
    · rintro σ' H' ⟨rfl, rfl, low⟩
      refine ⟨_, rfl, q, _, 0, _, rfl, rfl, st_of hq, rfl, _, rfl, l, _, rfl, .inr (st_of hl4), rfl, by simp [flatV], _, rfl, ?_⟩
      have kp : (if false = true then !inV (.int n) (ns.map V.int) else inV (.int n) (ns.map V.int)) = ns.contains n := by rw [if_neg Bool.false_ne_true, inV_ints]
      rw [kp]
      refine ite2 (fun c => ?_) (fun c => ?_)
      · refine boom ?_ _ s24
        rw [look_, e', low, kn, c]
        rfl
      · refine ⟨s24, ⟨_, _, rfl⟩, fun j hj => ?_⟩
        by_cases ej : j = i
        · rw [ej, look_, e', low, kn, show ns.contains n = false by simpa using c]
          rfl
        · exact hok j (by omega)
theorem ok_finit (T : Tx K mg) : HasC P w K mg base (L2.CX P w) 6 "Faults" ["self", "lost", "turned"] spFInit := by
  obtain ⟨fd, F⟩ := T.c.def_ 34 (d := d_Faults__init__) rfl
  have Hl := ok_lot (P := P) (w := w) (base := base) T
  have Hc := ok_check (P := P) (w := w) (base := base) T
  obtain ⟨tML, gML⟩ := (T.int 8 rfl)
  have cS : Cls K (He.ga K "Faults") := He.cls_ok (T.c.fact 61 rfl)
  have n1 : NoAttr K (He.ga K "Faults") "lost" := He.noat_ok (T.c.fact 63 rfl)
  have n2 : NoAttr K (He.ga K "Faults") "turned" := He.noat_ok (T.c.fact 64 rfl)
  have n3 : NoAttr K (He.ga K "Faults") "_into" := He.noat_ok (T.c.fact 62 rfl)
  refine ⟨_, fd, He.mkr_ok (T.c.fact 65 rfl), F.ok scInit (fun vs H Q E h => ?_) (fun cdv A outer s H vs Q E hr h => ?_), FunD.bindsN F fun _ _ _ _ _ _ us hl => match us, hl with | [_, _, _], _ => rfl, (T.glo 18 rfl)⟩
  · obtain ⟨p, dx, v1, v2, d1, d2, rfl, _⟩ := h
    rfl
  · refine ⟨_, (pss_cons (ps_if (pt_not (pt_val (pe_has Hl (hr.mono (by decide)) pass0 (pa_cons (pv 1) (pa_cons (pe_glob (v := .int 60) (by rfl) gML ⟨_, rfl⟩) pa_nil)))))
 (pss_one (ps_raise rfl (takes_of rfl rfl rfl rfl) (pmk_fld (fldBad T) (hr.mono (by decide)) (pa_cons pe_str pa_nil))))
 pss_nil)
 (pss_cons (ps_if (pt_not (pt_val (pe_callB call_isi (by rfl) (T.free 46 rfl) (by decide +kernel) (pa_cons (pv 2) (pa_cons (pe_bltn (v := .ty "tuple") (by rfl) (T.free 51 rfl) (by decide +kernel) rfl) pa_nil)))))
 (pss_one (ps_raise rfl (takes_of rfl rfl rfl rfl) (pmk_fld (fldBad T) (hr.mono (by decide)) (pa_cons pe_str pa_nil))))
 pss_nil)
 (pss_cons (ps_expr (pe_has Hc (hr.mono (by decide)) (passes_call (takes_of rfl rfl rfl rfl) (fun _ _ _ _ h => h)) (pa_cons (pv 1) (pa_cons (pv 2) pa_nil))))
 (pss_cons (ps_fld (pv 0) (pv 1) (by rfl))
 (pss_cons (ps_fld (pv 0) (pv 2) (by rfl))
 (pss_one (ps_fld (pv 0) (pe_dc (own := [("number", 3), ("thing", 4)]) (g := gTup K 2 (gCons (gName 3) (gCons (gName 4) gNil))) (tt := tYes) (tk := tVar 3) (tv := tVar 4) rfl scInit.nd (pi_tup (pv 2))
 (blkOk_by (own := [("number", 3), ("thing", 4)]) (N := ["self", "lost", "turned", "number", "thing"]) (sc := defScope s_Faults__init__) (by decide +kernel)) (fun _ _ _ _ _ => pg_tup (by rfl) (pgs_cons (pg_name (i := 3) scInit.nd rfl (Or.inl rfl)) (pgs_cons (pg_name (i := 4) scInit.nd rfl (Or.inl rfl)) pgs_nil))) (fun _ _ _ _ _ => pts_nil) (fun _ _ _ _ _ => (pv 3)) (fun _ _ _ _ _ => (pv 4))) (by rfl)))))))), ?_⟩
    obtain ⟨p, dx, v1, v2, d1, d2, rfl, hp, hd1, hd2, sz, hE, hQ⟩ := h
    refine ⟨_, rfl, v1, d1, 60, rfl, hd1, _, rfl, ite2 (fun e => ?_) (fun e => ?_)⟩
    · have e' : lotD 60 d1 = false := by simpa using e
      refine raise_go (v := .str "lost") (fun Q q => q) fun d H' nd sm hd => hE (.str "lost") ?_ d H' nd sm hd
      unfold partOf
      rw [if_neg (by rw [e']; decide)]
    have e1 : lotD 60 d1 = true := by simpa using e
    obtain ⟨ty, tyx, kk⟩ := kx_of (kx_tup d2) hd2
    refine ⟨_, rfl, v2, .ty "tuple", _, _, _, rfl, .ty "tuple", tyx, kk, _, rfl, ?_⟩
    cases hT : isTup d2 with
    | false =>
      refine iteT (raise_go (v := .str "turned") (fun Q q => q) fun d H' nd sm hd => hE (.str "turned") ?_ d H' nd sm hd)
      unfold partOf
      rw [if_pos e1]
      cases d2 <;> first | rfl | cases hT
    | true =>
    obtain ⟨ds, rfl⟩ := isTup_tup hT
    obtain ⟨ds1, rfl⟩ : ∃ ds1, d1 = .tuple ds1 := by cases d1 <;> first | exact ⟨_, rfl⟩ | cases e1
    obtain ⟨ns, rfl, up, bd⟩ := lot_ints e1
    obtain ⟨l, ls, rfl, hl, hrl⟩ := Dx.tup_inv hd1
    obtain ⟨a, us, rfl, ha, hr'⟩ := Dx.tup_inv hd2
    obtain ⟨l500, szd⟩ := sz ds rfl
    have lus := dxAll_len hr'
    have hls : ls = ns.map V.int := by
      have z : ∀ {vs : List V} {ms : List Int}, DxAll H vs (ms.map PyData.int) → vs = ms.map V.int := by
        intro vs ms
        induction ms generalizing vs with
        | nil => intro h; cases h; rfl
        | cons m ms ih => intro h; cases h with | cons one more => rw [Dx.int_inv one, ih more]; rfl
      exact z hrl
    subst hls
    have part : partOf (.tuple (ns.map PyData.int)) (.tuple ds) = (firstBad ns ds).map fun i => V.int (i : Nat) := by
      unfold partOf
      rw [if_pos e1, ints_of_map]
    refine iteF ⟨_, rfl, _, rfl, l, a, ns, us, ds, rfl, hl, ha, hr', szd, fun good H' sm => ?_, fun i hi bad ok d H' nd sm hd => ?_⟩
    · obtain ⟨ts, rfl, hth, htu⟩ := ts_of good
      have hp' := sm _ _ hp
      have gf : GoodF ns ts := ⟨up, bd, hth, htu⟩
      have pl : V2.plainAll (ts.map mkF) = true := plain_things _ (by
        have z : ∀ us : Tn, (∀ t ∈ us, thingD t.2 = true) → thingAll (us.map mkF) = true := fun us h => by
          induction us with
          | nil => rfl
          | cons u us ih =>
            rw [List.map_cons, thingAll, ih fun t ht => h t (List.mem_cons_of_mem _ ht)]
            simp [mkF, thingD, thingAll, h u List.mem_cons_self]
        exact z ts fun t ht => (hth t ht).2.2.1)
      have hq' : DqAll H us (ts.map mkF) := dqAll_of _ _ pl hr'
      have keep : ∀ b o, H' b = some o → (∀ C dx fs, o ≠ .ins C dx fs) → b ≠ p := fun b o e ne z => by
        rw [z, hp'] at e
        exact ne _ _ _ (Option.some.inj e).symm
      have hqq := DqAll.same sm _ _ hq'
      refine ⟨_, rfl, _, rfl, p, _, dx, [], rfl, hp', cS, n1, (by show 0 < 1000; decide), _, rfl, _, rfl, p, _, dx, _, rfl, upd_same, cS, n2, (by show 1 < 1000; decide), ?_⟩
      have st2 : ∀ b o, b ≠ p → H' b = some o → upd (upd H' p (.ins (He.ga K "Faults") dx (putF "lost" (.ref l) []))) p (.ins (He.ga K "Faults") dx (putF "turned" (.ref a) (putF "lost" (.ref l) []))) b = some o := fun b o ne e => by
        rw [upd_ne ne, upd_ne ne]
        exact e
      have ep2 : upd (upd H' p (.ins (He.ga K "Faults") dx (putF "lost" (.ref l) []))) p (.ins (He.ga K "Faults") dx (putF "turned" (.ref a) (putF "lost" (.ref l) []))) p = some (.ins (He.ga K "Faults") dx [("lost", .ref l), ("turned", .ref a)]) := upd_same
      generalize upd (upd H' p (.ins (He.ga K "Faults") dx (putF "lost" (.ref l) []))) p (.ins (He.ga K "Faults") dx (putF "turned" (.ref a) (putF "lost" (.ref l) []))) = H2 at st2 ep2 ⊢
      have qq2 : DqAll H2 us (ts.map mkF) := dqAll_sameN (fun b o e ne => st2 b o (keep b o e ne) e) _ _ hqq
      have lp : l ≠ p := keep l _ (sm _ _ hl) fun _ _ _ z => nomatch z
      have ap : a ≠ p := keep a _ (sm _ _ ha) fun _ _ _ z => nomatch z
      have hl2 := st2 l _ lp (sm _ _ hl)
      have ha2 := st2 a _ ap (sm _ _ ha)
      rw [List.length_map] at l500 lus
      refine ⟨_, rfl, a, rfl, ⟨_, st_of ha2⟩, fun D nD => ?_⟩
      have Dp : D ≠ p := fun z => by
        rw [z, ep2] at nD
        cases nD
      refine dc_tup (σ := [some (.ref p), some (.ref l), some (.ref a), none, none]) (vs := [3, 4]) (K := K) (a := a) (xs := us) (fun i H'' => Same H2 (delH H'' D) ∧ ∃ kvs, H'' D = some (.dK kvs) ∧ kvs.length ≤ i ∧ ∀ n : Int, match look (ts.take i) n with
          | none => valV kvs (.inl n) = none
          | some d => ∃ v, valV kvs (.inl n) = some v ∧ Dq H2 v d) ⟨fun b o e => by rw [delH_ne (ne_of_none e nD)]; exact same_new nD _ _ e, [], upd_same, Nat.le_refl _, fun n => by simp [look, valV]⟩ (fun i H'' _ z => st_of (same_delH _ _ (z.1 _ _ ha2))) ?_ ?_
      · rintro i x H3 hx ⟨sm3, kvs, e3, lk, ind⟩
        have hi : i < ts.length := by
          have := (List.getElem?_eq_some_iff.mp hx).1
          omega
        have hi' : i < us.length := by omega
        have dx3 : Dq H2 x (mkF ts[i]) := V1.DqAll.same (Same.refl H2) _ _ qq2 |> fun q => K11.dqAt q hx (by rw [List.getElem?_map, List.getElem?_eq_getElem hi]; rfl)
        obtain ⟨b, ws, rfl, hb, hw⟩ := V2.Dq.tup_inv dx3
        cases hw with | @cons va _ _ _ qa r1 =>
        cases r1 with | @cons vb _ _ _ qb r2 =>
        cases r2
        obtain rfl := V2.Dq.int_inv qa
        have hb3 := same_delH _ _ (sm3 _ _ hb)
        refine ⟨b, _, rfl, st_of hb3, rfl, _, _, rfl, _, _, rfl, rfl, rfl, ?_⟩
        simp only [tYes, if_true]
        have tk : ts.take (i + 1) = ts.take i ++ [ts[i]] := by rw [List.take_succ, List.getElem?_eq_getElem hi]; rfl
        have old : look (ts.take i) ts[i].1 = none := look_none fun t ht => by
          obtain ⟨j, hj, rfl⟩ := List.getElem_of_mem ht
          rw [List.length_take] at hj
          rw [List.getElem_take]
          exact (List.pairwise_iff_getElem.mp htu) j i (by omega) hi (by omega)
        have vn : valV kvs (.inl ts[i].1) = none := by
          have z := ind ts[i].1
          rw [old] at z
          exact z
        refine ⟨_, rfl, _, rfl, kvs, .inl ts[i].1, rfl, e3, Nat.lt_of_le_of_lt (by omega : kvs.length ≤ 500) (by decide), by rw [delH_upd]; exact sm3, _, upd_same, by rw [putK_new _ vn, List.length_append]; simp only [List.length_cons, List.length_nil]; omega, fun n => ?_⟩
        rw [tk, look_app, valV_put]
        by_cases en : ts[i].1 = n
        · subst en
          rw [old, if_pos rfl, if_pos rfl]
          exact ⟨_, rfl, qb⟩
        · have ne : ¬ (Sum.inl n : Key) = .inl ts[i].1 := fun z => en (Sum.inl.inj z).symm
          rw [if_neg en, if_neg ne]
          have z := ind n
          cases hlk : look (ts.take i) n with
          | none => rw [hlk] at z; exact z
          | some d => rw [hlk] at z; exact z
      · rintro H3 ⟨sm3, kvs, e3, lk, ind⟩
        rw [lus, List.take_length] at ind
        have ep3 := same_delH _ _ (sm3 _ _ ep2)
        refine ⟨_, rfl, p, _, dx, _, rfl, ep3, cS, n3, (by show 2 < 1000; decide), ?_⟩
        have up3 : ∀ b o, b ≠ p → H2 b = some o → upd H3 p (.ins (He.ga K "Faults") dx (putF "_into" (.ref D) [("lost", .ref l), ("turned", .ref a)])) b = some o := fun b o ne e => by
          rw [upd_ne ne]
          exact same_delH _ _ (sm3 _ _ e)
        have notp : ∀ b o, H2 b = some o → (∀ C dx fs, o ≠ .ins C dx fs) → b ≠ p := fun b o e ne z => by
          rw [z, ep2] at e
          exact ne _ _ _ (Option.some.inj e).symm
        refine hQ (by rw [part, firstBad_none good]; rfl) ns ts rfl rfl gf _ (fun b o ne e => up3 b o ne (st2 b o ne (sm _ _ e))) ⟨dx, l, a, D, us, kvs, upd_same, up3 l _ lp hl2, up3 a _ ap ha2, dxAll_of _ _ (dqAll_sameN (fun b o e ne => up3 b o (notp b o e ne) e) _ _ qq2), by rw [upd_ne Dp]; exact e3, fun n => ?_⟩
        have z := ind n
        cases hlk : look ts n with
        | none => rw [hlk] at z; exact z
        | some d =>
          rw [hlk] at z
          obtain ⟨v, h1, h2⟩ := z
          exact ⟨v, h1, dx_of _ _ (dq_sameN (fun b o e ne => up3 b o (notp b o e ne) e) _ _ h2)⟩
    · refine hE _ ?_ d H' nd sm hd
      rw [part, firstBad_some hi bad ok]
      rfl
theorem ok_feq (T : Tx K mg) : ∃ fd, FnOk P w K mg base CX0 1 (He.ma K (He.ga K "Faults") "__eq__") fd ["self", "other"] spFEq ∧ Binds K fd ["self", "other"] [] := by
  obtain ⟨fd, F⟩ := T.c.def_ 35 (d := d_Faults__eq__) rfl
  refine ⟨fd, F.ok scEq (fun vs H Q E h => ?_) (fun cdv A outer s H vs Q E hr h => ?_), FunD.bindsN F fun _ _ _ _ _ _ us hl => match us, hl with | [_, _], _ => rfl⟩
  · obtain ⟨p, ns, ts, y, rfl, _⟩ := h
    rfl
  · refine ⟨_, PSs.nox (pss_one (ps_ret (pe_and (pe_callB call_isi (by rfl) (T.free 46 rfl) (by decide +kernel) (pa_cons (pv 1) (pa_cons (pe_glob (v := .ref (He.ga K "Faults")) (by rfl) (T.glo 18 rfl) rfl) pa_nil))) (pe_and (pe_cmpR (op_eqD hr.units) (L2.pe_fld (pv 0) (by rfl)) (L2.pe_fld (pv 1) (by rfl)) (nomark _)) (pe_one (pe_cmpR (op_eqD hr.units) (L2.pe_fld (pv 0) (by rfl)) (L2.pe_fld (pv 1) (by rfl)) (nomark _))))))), ?_⟩
    obtain ⟨p, ns, ts, y, rfl, fa, gf, sh, lt, h⟩ := h
    obtain ⟨dx, a, b, q, us, kvs, hp, ha, hb, hu, hq, ind⟩ := fa.ex
    have cS : Cls K (He.ga K "Faults") := He.cls_ok (T.c.fact 61 rfl)
    have n1 : NoAttr K (He.ga K "Faults") "lost" := He.noat_ok (T.c.fact 63 rfl)
    have n2 : NoAttr K (He.ga K "Faults") "turned" := He.noat_ok (T.c.fact 64 rfl)
    have iF := T.insK 1 (x := "Faults") rfl
    have iC := iF.ins cS T.exs.2.2.2
    rcases h with ⟨d, hd, ne, hQ⟩ | ⟨a2, dx2, fs2, C2, rfl, e2, i2, k2, hQ⟩ | ⟨p2, ns', ts', rfl, fa', gf', sh', lt', hQ⟩
    · obtain ⟨t, ty, kk, _⟩ := kxC_no iF hd ne
      exact ⟨_, rfl, y, .ref _, _, _, false, rfl, .own _, ty, kk, _, rfl, iteF hQ⟩
    · exact ⟨_, rfl, _, .ref _, _, _, false, rfl, .own _, TyX_ins e2 i2, k2, _, rfl, iteF hQ⟩
    · obtain ⟨dx', a', b', q', us', kvs', hp', ha', hb', hu', hq', ind'⟩ := fa'.ex
      refine ⟨_, rfl, _, .ref _, _, _, true, rfl, .own _, TyX_ins hp' iC, iC.me, _, rfl, iteT ?_⟩
      have d1 : Dp K H (.ref a) (.tuple (ns.map PyData.int)) := dq_dp _ _ (by simp [V2.plain]; exact plainAll_of fun d hd => by obtain ⟨n, _, rfl⟩ := List.mem_map.mp hd; rfl) (.tup ha (by
        have z : ∀ ms : List Int, DqAll H (ms.map V.int) (ms.map PyData.int) := fun ms => by
          induction ms with
          | nil => exact .nil
          | cons m ms ih => exact .cons (.int m) ih
        exact z ns))
      have d1' : Dp K H (.ref a') (.tuple (ns'.map PyData.int)) := dq_dp _ _ (by simp [V2.plain]; exact plainAll_of fun d hd => by obtain ⟨n, _, rfl⟩ := List.mem_map.mp hd; rfl) (.tup ha' (by
        have z : ∀ ms : List Int, DqAll H (ms.map V.int) (ms.map PyData.int) := fun ms => by
          induction ms with
          | nil => exact .nil
          | cons m ms ih => exact .cons (.int m) ih
        exact z ns'))
      have pl : ∀ {us : Tn}, (∀ t ∈ us, thingD t.2 = true) → V2.plain (.tuple (us.map mkF)) = true := fun {us} h => by
        simp only [V2.plain]
        refine plainAll_of fun d hd => ?_
        obtain ⟨t, ht, rfl⟩ := List.mem_map.mp hd
        simp [mkF, V2.plain, V2.plainAll, plain_thing _ (h t ht)]
      have p1 := pl (us := ts) fun t ht => (gf.th t ht).2.2.1
      have p2' := pl (us := ts') fun t ht => (gf'.th t ht).2.2.1
      have d2 : Dp K H (.ref b) (.tuple (ts.map mkF)) := dq_dp _ _ p1 (dq_of _ _ p1 (.tup hb hu))
      have d2' : Dp K H (.ref b') (.tuple (ts'.map mkF)) := dq_dp _ _ p2' (dq_of _ _ p2' (.tup hb' hu'))
      refine ⟨_, rfl, p, _, dx, _, _, rfl, hp, cS, n1, rfl, _, rfl, p2, _, dx', _, _, rfl, hp', cS, n1, rfl, _, _, d1, d1', ints_shaped ns, ints_shaped ns', _, rfl, ?_⟩
      have z : PyData.eqv (.tuple (ns.map PyData.int)) (.tuple (ns'.map PyData.int)) = decide (ns = ns') := by
        simp only [PyData.eqv]
        exact eqv_ints ns ns'
      rw [z]
      cases hc : decide (ns = ns') with
      | false =>
        rw [hc, Bool.false_and] at hQ
        exact iteF hQ
      | true =>
        rw [hc, Bool.true_and] at hQ
        exact iteT ⟨_, rfl, p, _, dx, _, _, rfl, hp, cS, n2, rfl, _, rfl, p2, _, dx', _, _, rfl, hp', cS, n2, rfl, _, _, d2, d2', turns_shaped sh, turns_shaped sh', hQ⟩
theorem ok_ear (T : Tx K mg) : ∃ fd, FnOk P w K mg base CX0 1 (He.ma K (He.ga K "Faults") "ear") fd ["self", "letter", "thing"] spEar ∧ Binds K fd ["self", "letter", "thing"] [] := by
  obtain ⟨fd, F⟩ := T.c.def_ 37 (d := d_Faultsear) rfl
  refine ⟨fd, F.ok scEar (fun vs H Q E h => ?_) (fun cdv A outer s H vs Q E hr h => ?_), FunD.bindsN F fun _ _ _ _ _ _ us hl => match us, hl with | [_, _, _], _ => rfl⟩
  · obtain ⟨p, ns, ts, n, v, d, rfl, _⟩ := h
    rfl
  · have hu : (A.deeper (envOfC d_Faultsear.qual d_Faultsear.scope s.heap.objs.size (He.fAd K d_Faultsear.at_) cdv)).units + 1 < cLine := by
      have := hr.un
      omega
    refine ⟨_, PSs.nox (pss_cons (ps_if (pt_cmpR op_in_seq (pv 1) (L2.pe_fld (pv 0) (by rfl)) (by rfl))
 (pss_one (ps_ret (pe_tup pa_nil)))
 pss_nil)
 (pss_one (ps_ret (pe_tup (pa_cons (pe_dget2 hu (L2.pe_fld (pv 0) (by rfl)) (pv 1) (pv 2) ⟨by rfl, by rfl, by rfl, by rfl⟩) pa_nil))))), ?_⟩
    obtain ⟨p, ns, ts, n, v, d, rfl, fa, hd, hQ⟩ := h
    obtain ⟨dx, a, b, q, us, kvs, hp, ha, hb, hu', hq, ind⟩ := fa.ex
    have cS : Cls K (He.ga K "Faults") := He.cls_ok (T.c.fact 61 rfl)
    have n1 : NoAttr K (He.ga K "Faults") "lost" := He.noat_ok (T.c.fact 63 rfl)
    have n3 : NoAttr K (He.ga K "Faults") "_into" := He.noat_ok (T.c.fact 62 rfl)
    refine ⟨_, rfl, _, rfl, p, _, dx, _, _, rfl, hp, cS, n1, rfl, a, _, rfl, .inr (st_of ha), rfl, by simp [flatV], _, rfl, ?_⟩
    have kp : (if false = true then !inV (.int n) (ns.map V.int) else inV (.int n) (ns.map V.int)) = ns.contains n := by rw [if_neg Bool.false_ne_true, inV_ints]
    rw [kp]
    refine ite2 (fun c => ?_) (fun c => ?_)
    · refine ⟨(by show 0 ≤ sizeLine; decide), fun r nr => hQ _ _ (same_new nr) ?_⟩
      unfold earD
      rw [if_pos c]
      exact .tup upd_same .nil
    · refine ⟨_, rfl, p, _, dx, _, _, rfl, hp, cS, n3, rfl, q, rfl, .inl ⟨kvs, .inl hq⟩, _, rfl, _, rfl, _, DGet.k (k := Sum.inl n) hq, ?_⟩
      have val : ∃ u, (valV kvs (Sum.inl n)).getD v = u ∧ Dx H u ((look ts n).getD d) := by
        have z := ind n
        cases hlk : look ts n with
        | none =>
          rw [hlk] at z
          exact ⟨v, by rw [z]; rfl, hd⟩
        | some d' =>
          rw [hlk] at z
          obtain ⟨u, h1, h2⟩ := z
          exact ⟨u, by rw [h1]; rfl, h2⟩
      obtain ⟨u, eu, du⟩ := val
      rw [eu]
      refine ⟨(by show 1 ≤ sizeLine; decide), fun r nr => hQ _ _ (same_new nr) ?_⟩
      unfold earD
      rw [if_neg c]
      exact .tup upd_same (.cons (Dx.same (same_new nr) _ _ du) .nil)
end
end K11

set_option maxHeartbeats 4000000
namespace K11
open PySem PySem.Spec PyProof.Rows L2 V1 V2 V3
open Evl (pss_cut tCut sq_of st_of)
/-! ### the call of a function that an object's field holds -/
def tFldF (K : PySem.W.Frag) (m : Str) (f : Addr) (sp : Sp) (E : XK) (ta : TE) (t : TA) : TE := fun σ H Q => ta σ H fun x H1 => ∃ a C dx fs, x = .ref a ∧ H1 a = some (.ins C dx fs) ∧ Cls K C ∧ NoAttr K C m ∧ fs.lookup m = some (.ref f) ∧ t σ H1 fun vs H2 => sp vs H2 Q E
section
variable {X : Cx} {CX : CXT} {k : Nat} {f : Addr} {fd : FuncData} {ps : List Str} {sp : Sp} {E : XK} {m : Str} {pos apos : Pos} {e o : Expr} {es : List Expr} {ta : TE} {t : TA}
theorem pe_fldF {pl : Sem Bool} (he : PE X o ta) (F : FnOk X.prog X.w X.K X.mg X.base CX k f fd ps sp) (hr : Room k X.A) (hk : PySem.W.keepIn X.K (.ref f) = true) (hb : Binds X.K fd ps []) (hx : Passes CX X E) (ha : PA X (e :: es) t)
    (hst : starEach (e :: es) X.env = (false, eval e X.env) :: starEach es X.env := by rfl) (hpl : (backTo pos (starEach es X.env)).any (·.1) = false := by rfl)
    (ht : eval (.Call (.Attribute o m apos) (e :: es) [] pos) X.env = (do
      let ov ← eval o X.env
      standAt apos.atName
      let (f, first) ← holding [ov] (getMethod ov m pl)
      callWith pos f first (backTo pos (starEach (e :: es) X.env)) (backToKw pos (keywordEach [] X.env))) := by rfl) :
    PE X (.Call (.Attribute o m apos) (e :: es) [] pos) (tFldF X.K m f sp E ta t) := by
  refine ⟨fun pins s σ H Q I h => ?_⟩
  refine PySem.W.methodCall_KW (pl := pl) (thn (he.run pins s σ H _ I h) fun u s1 ⟨x, H1, I1, rx, a, C, dx, fs, ex, ea, c, n, l, q⟩ => ?_) ht
  subst ex
  obtain rfl : u = Value.ref a := rx
  obtain ⟨mA, O, r, _, _, _⟩ := ins_get I1.hok ea
  obtain ⟨u, hu, ru⟩ := RelO.some_of (v := .ref f) (o := mA m) (by rw [← l]; exact r m)
  obtain rfl : u = Value.ref f := ru
  obtain ⟨od, J, hl⟩ := O.look
  refine PySem.W.method_usual I1.kIn J (PySem.W.plainGet_of (c.get m)).1 (PySem.W.plainGet_of (c.get m)).2 n rfl ?_
  refine PySem.W.get_value I1.kIn J (PySem.W.plainGet_of (c.get m)).1 (PySem.W.findObj_own c.hd n rfl (by rw [hl, hu])) rfl ?_
  refine PySem.W.callWith_K (first := []) (h₀ := X.base) I1.ok.mod.kin hk (thn (ha.run pos pins _ σ H1 _ (I1.tok _) q) fun us s2 ⟨vs, H2, I2, r, q2⟩ => ⟨I2.kIn, ?_⟩) hst hpl
  exact run_fn (dvs := []) (ds := []) F hr hb .nil hx I2 r (by rw [List.append_nil]; exact q2)
end
/-! ### the hand of numbers -/
/-- at a: the hand: its cells' list, the four numbers -/
structure HandAt (H : Hp) (a : Addr) : Prop where
  ex : ∃ (c : Addr) (cs : List Int) (i1 i2 i3 i4 : Int), H a = some (.lst [.ref c, .int i1, .int i2, .int i3, .int i4]) ∧ (delH H a) c = some (.lst (cs.map V.int)) ∧ 0 ≤ i1 ∧ 0 ≤ i2
theorem HandAt.new {H H' : Hp} {a : Addr} (h : HandAt H a) (e : H' a = H a) (s : Same (delH H a) (delH H' a)) : HandAt H' a := by
  obtain ⟨c, cs, i1, i2, i3, i4, h1, h2, h3⟩ := h.ex
  exact ⟨c, cs, i1, i2, i3, i4, e.trans h1, s _ _ h2, h3⟩
def spHand (K : PySem.W.Frag) : Sp := fun vs H Q _ => ∃ (a : Addr) (ns : List Int), vs = [.ref a] ∧ SqL K H a (ns.map V.int) ∧ ns.length ≤ 63 ∧ ∀ (H' : Hp) (p : Addr), Same H H' → H p = none → HandAt H' p → Q (.ref p) H'
/-- the hand's first item: its cells -/
def cellsOf (H : Hp) (a : Addr) : Option V := match H a with
  | some (.lst (x :: _)) => some x
  | _ => none
theorem cellsOf_at {H : Hp} {a : Addr} {x : V} {xs : List V} (h : H a = some (.lst (x :: xs))) : cellsOf H a = some x := by
  unfold cellsOf
  rw [h]
theorem HandAt.cells {H : Hp} {a : Addr} (h : HandAt H a) : ∃ (c : Addr) (cs : List Int), cellsOf H a = some (.ref c) ∧ c ≠ a ∧ H c = some (.lst (cs.map V.int)) := by
  obtain ⟨c, cs, i1, i2, i3, i4, e, e2, _⟩ := h.ex
  have ne : c ≠ a := fun z => by
    rw [z, delH_same] at e2
    cases e2
  exact ⟨c, cs, cellsOf_at e, ne, by rw [delH_ne ne] at e2; exact e2⟩
/-- the hand stands also without what is at f -/
theorem HandAt.off {H : Hp} {a f c : Addr} (h : HandAt H a) (e : cellsOf H a = some (.ref c)) (nc : c ≠ f) (na : f ≠ a) : HandAt (delH H f) a := by
  obtain ⟨c', cs, i1, i2, i3, i4, e1, e2, p⟩ := h.ex
  rw [cellsOf_at e1] at e
  cases e
  refine ⟨c, cs, i1, i2, i3, i4, by rw [delH_ne (Ne.symm na)]; exact e1, ?_, p⟩
  have ne : c ≠ a := fun z => by
    rw [z, delH_same] at e2
    cases e2
  rw [delH_ne ne] at e2 ⊢
  rw [delH_ne nc]
  exact e2
def spDraw : Sp := fun vs H Q _ => ∃ (a : Addr) (m : Int), vs = [.ref a, .int m] ∧ HandAt H a ∧ 0 < m ∧ m < 1000000000 ∧
  ∀ (H' : Hp) (r : Int), HandAt H' a → delH H' a = delH H a → cellsOf H' a = cellsOf H a → 0 ≤ r → r < m → Q (.int r) H'
theorem scHand : FnScope ["script", "cells", "cell"] ["script"] (defScope s__law_hand) := ⟨rfl, rfl, rfl, by decide +kernel, rfl, by decide +kernel, by decide +kernel⟩
theorem scDraw : FnScope ["hand", "many", "cell", "digit", "number"] ["hand", "many"] (defScope s__law_draw) := ⟨rfl, rfl, rfl, by decide +kernel, rfl, by decide +kernel, by decide +kernel⟩
theorem scSome : FnScope ["hand", "things"] ["hand", "things"] (defScope s__law_some) := ⟨rfl, rfl, rfl, by decide +kernel, rfl, by decide +kernel, by decide +kernel⟩
theorem rest_in (z : Int) {m : Int} (h : 0 < m) : 0 ≤ z % m ∧ z % m < m := ⟨Int.emod_nonneg _ (by omega), Int.emod_lt_of_pos _ h⟩
theorem ix0 {K : PySem.W.Frag} {σ : L2.St} {H : Hp} {Q : VK} {k : Nat} {a : Addr} {xs : List V} {n : Int} {v : V} (h0 : σ[k]? = some (some (.ref a))) (hH : H a = some (.lst xs)) (hv : atI xs n = some v) (q : Q v H) : tOp (rIxL K) (tVar k) (tC (.int n)) σ H Q :=
  ⟨_, h0, a, xs, n, v, rfl, rfl, sq_of hH, hv, q⟩
theorem cut63 (ns : List Int) : cutV (ns.map V.int) none (some 63) = (ns.take 63).map V.int := by
  unfold cutV
  rw [show HT.sIx (ns.map V.int).length (ns.map V.int).length (some 63) = min 63 (ns.map V.int).length from HT.sIx_nat _ _ 63, HT.sIx_none]
  simp [List.map_take, Nat.min_comm]
def teCell : TE := tCB (fun xs H Q => ∃ i, xs = [.int i] ∧ Q (.int (if i < 0 then -i else i)) H) (tCons (tCB (fun xs H Q => (∃ i, xs = [.int i] ∧ Q (.int i) H) ∨ ∃ k, xs = [.bl k] ∧ Q (.int (if k then 1 else 0)) H) (tCons (tVar 2) tNil)) tNil)
section
variable [CurK] {P : Program} {w : World} {mg : Str → Option Value} {base : Heap}
theorem ok_hand (T : Tx K mg) : Has P w K mg base CX0 1 "_law_hand" ["script"] (spHand K) := by
  obtain ⟨fd, F⟩ := T.c.def_ 11 (d := d__law_hand) rfl
  refine ⟨fd, F.ok scHand (fun vs H Q E h => ?_) (fun cdv A outer s H vs Q E hr h => ?_), FunD.bindsN F fun _ _ _ _ _ _ us hl => match us, hl with | [_], _ => rfl, F.kp, (T.glo 20 rfl)⟩
  · obtain ⟨a, ns, rfl, _⟩ := h
    rfl
  · refine ⟨_, PSs.nox (pss_cons (ps_setLc (i := 1) (own := [("cell", 2)]) (g := gName 2) (tt := tYes) (te := teCell) (by rfl) scHand.nd rfl rfl (by rfl) (pi_list (pe_slice sl_list (pv 0) po_none (po_some pe_int)))
 (blkOk_by (own := [("cell", 2)]) (N := ["script", "cells", "cell"]) (sc := defScope s__law_hand) (by decide +kernel)) (fun _ _ _ _ _ => pg_name (i := 2) scHand.nd rfl (Or.inl rfl)) (fun _ _ _ _ _ => pts_nil) (fun _ _ _ _ _ => (pe_callB call_abs (by rfl) (T.free 40 rfl) (by decide +kernel) (pa_cons (pe_callTy call_int1 (by rfl) (T.free 45 rfl) (by decide +kernel) (pa_cons (pv 2) pa_nil)) pa_nil))))
 (pss_one (ps_ret (pe_lst (pa_cons (pv 1) (pa_cons pe_int (pa_cons pe_int (pa_cons (pe_op op_add pe_int (pe_callB call_len (by rfl) (T.free 47 rfl) PySem.boot_len (pa_cons (pv 1) pa_nil))) (pa_cons pe_int pa_nil))))))))), ?_⟩
    obtain ⟨a, ns, rfl, hS, hl, hQ⟩ := h
    refine ⟨_, rfl, 63, rfl, a, _, rfl, hS, fun p np => ?_⟩
    rw [cut63]
    have sp := same_new (o := .lst ((ns.take 63).map V.int)) np
    refine ⟨p, rfl, ⟨_, sq_of upd_same⟩, fun D nD => ?_⟩
    refine lc_gen (σ := [some (.ref a), none, none]) (vs := [2]) (walk_list (K := K) (a := p) (xs := (ns.take 63).map V.int)) nD (fun i acc H' => Same (upd H p (.lst ((ns.take 63).map V.int))) H' ∧ ∃ cs : List Int, acc = cs.map V.int) ⟨Same.refl _, [], rfl⟩ (fun i acc H' _ z => sq_of (same_delH _ _ (z.1 _ _ upd_same))) ?_ ?_
    · rintro i acc x H1 H2 hi l e ⟨sm, cs, rfl⟩ ⟨rfl, hx⟩
      rw [List.getElem?_map] at hx
      obtain ⟨z, hz, rfl⟩ := Option.map_eq_some_iff.mp hx
      refine ⟨rfl, ?_⟩
      simp only [tYes, if_true]
      have li : i < 1000 := by
        rw [List.length_map, List.length_take] at hi
        omega
      exact ⟨_, rfl, .inl ⟨z, rfl, z, rfl, lc_put l li e ⟨sm, cs ++ [if z < 0 then -z else z], by rw [List.map_append]; rfl⟩⟩⟩
    · rintro acc H1 l e ⟨sm, cs, rfl⟩
      refine ⟨_, rfl, _, rfl, _, _, rfl, .inl ⟨_, sq_of e, rfl⟩, _, _, rfl, rfl, (by show 5 ≤ sizeLine; decide), fun q nq => ?_⟩
      have s1 : Same H H1 := fun b o ob => same_delH _ _ (sm _ _ (sp _ _ ob))
      refine hQ _ q (s1.trans (same_new nq)) (fresh_up s1 nq) ⟨D, cs, _, _, _, _, upd_same, ?_, by decide, by decide⟩
      rw [delH_new nq]
      exact e
theorem ok_draw (T : Tx K mg) : Has P w K mg base CX0 1 "_law_draw" ["hand", "many"] spDraw := by
  obtain ⟨fd, F⟩ := T.c.def_ 12 (d := d__law_draw) rfl
  refine ⟨fd, F.ok scDraw (fun vs H Q E h => ?_) (fun cdv A outer s H vs Q E hr h => ?_), FunD.bindsN F fun _ _ _ _ _ _ us hl => match us, hl with | [_, _], _ => rfl, F.kp, (T.glo 21 rfl)⟩
  · obtain ⟨a, m, rfl, _⟩ := h
    rfl
  · refine ⟨_, PSs.nox (pss_cut (ps_if (PW.pt (pw_and (pt_cmpR op_eq (pe_ix ix_list (pv 0) pe_int (fun _ _ => rfl)) pe_int (nomark _)) (pw_and1 (pt_cmpR op_lt (pe_ix ix_list (pv 0) pe_int (fun _ _ => rfl)) (pe_callB call_len (by rfl) (T.free 47 rfl) PySem.boot_len (pa_cons (pe_ix ix_list (pv 0) pe_int (fun _ _ => rfl)) pa_nil)) (nomark _)))))
 (pss_cons (ps_set (i := 2) scDraw.nd rfl (Or.inl rfl) (pe_ix ix_list (pe_ix ix_list (pv 0) pe_int (fun _ _ => rfl)) (pe_ix ix_list (pv 0) pe_int (fun _ _ => rfl)) (fun _ _ => rfl)))
 (pss_cons (ps_asg (pe_op op_add (pe_ix ix_list (pv 0) pe_int (fun _ _ => rfl)) pe_int) (pg_sub (pv 0) pe_int set_list))
 (pss_cons (ps_asg (pe_op op_mod (pe_callTy call_int1 (by rfl) (T.free 45 rfl) (by decide +kernel) (pa_cons (pe_op op_add (pe_op op_add (pe_op op_mul (pe_ix ix_list (pv 0) pe_int (fun _ _ => rfl)) pe_int) (pv 2)) pe_int) pa_nil)) pe_int) (pg_sub (pv 0) pe_int set_list))
 (pss_one (ps_if (pt_cmpR op_ge (pv 2) (pe_op op_pow pe_int pe_int) (nomark _))
 (pss_one (ps_asg (pv 2) (pg_sub (pv 0) pe_int set_list)))
 pss_nil)))))
 pss_nil)
 (pss_cons (ps_if (pt_cmpR op_gt (pe_ix ix_list (pv 0) pe_int (fun _ _ => rfl)) pe_int (nomark _))
 (pss_cons (ps_set (i := 3) scDraw.nd rfl (Or.inl rfl) (pe_op op_mod (pe_callTy call_int1 (by rfl) (T.free 45 rfl) (by decide +kernel) (pa_cons (pe_ix ix_list (pv 0) pe_int (fun _ _ => rfl)) pa_nil)) (pv 1)))
 (pss_cons (ps_asg (pe_op op_fdiv (pe_ix ix_list (pv 0) pe_int (fun _ _ => rfl)) (pv 1)) (pg_sub (pv 0) pe_int set_list))
 (pss_one (ps_ret (pv 3)))))
 pss_nil)
 (pss_cons (ps_asg (pe_op op_add (pe_ix ix_list (pv 0) pe_int (fun _ _ => rfl)) pe_int) (pg_sub (pv 0) pe_int set_list))
 (pss_cons (ps_set (i := 4) scDraw.nd rfl (Or.inl rfl) (pe_op op_mod (pe_callTy call_int1 (by rfl) (T.free 45 rfl) (by decide +kernel) (pa_cons (pe_op op_mul (pe_callTy call_int1 (by rfl) (T.free 45 rfl) (by decide +kernel) (pa_cons (pe_op op_add (pe_ix ix_list (pv 0) pe_int (fun _ _ => rfl)) (pe_op op_mul pe_int (pe_ix ix_list (pv 0) pe_int (fun _ _ => rfl)))) pa_nil)) pe_int) pa_nil)) pe_int))
 (pss_cons (ps_set (i := 4) scDraw.nd rfl (Or.inl rfl) (pe_op op_mod (pe_callTy call_int1 (by rfl) (T.free 45 rfl) (by decide +kernel) (pa_cons (pe_op op_mul (pv 4) (pe_op op_add (pe_op op_fdiv (pv 4) pe_int) pe_int)) pa_nil)) pe_int))
 (pss_cons (ps_set (i := 4) scDraw.nd rfl (Or.inl rfl) (pe_op op_mod (pe_callTy call_int1 (by rfl) (T.free 45 rfl) (by decide +kernel) (pa_cons (pe_op op_mul (pv 4) (pe_op op_add (pe_op op_fdiv (pv 4) pe_int) pe_int)) pa_nil)) pe_int))
 (pss_one (ps_ret (pe_op op_mod (pe_callTy call_int1 (by rfl) (T.free 45 rfl) (by decide +kernel) (pa_cons (pe_op op_fdiv (pv 4) pe_int) pa_nil)) (pv 1)))))))))), ?_⟩
    obtain ⟨a, m, rfl, hd, m0, m1, hQ⟩ := h
    obtain ⟨c, cs, i1, i2, i3, i4, h1, h2, h3, h4⟩ := hd.ex
    refine ⟨fun σ H1 => ∃ (j1 j2 j3 j4 : Int) (v2 : Option V), σ = [some (.ref a), some (.int m), v2, none, none] ∧ H1 a = some (.lst [.ref c, .int j1, .int j2, .int j3, .int j4]) ∧ delH H1 a = delH H a ∧ 0 ≤ j1 ∧ 0 ≤ j2, ?_, ?_⟩
    · -- a new cell is taken
      have hc : H c = some (.lst (cs.map V.int)) := same_delH _ _ h2
      have nca : c ≠ a := fun z => by
        rw [z, delH_same] at h2
        cases h2
      refine ix0 rfl h1 rfl ⟨rfl, _, rfl, ?_⟩
      refine ite2 (fun e2 => ?_) (fun _ => ?_)
      · refine ix0 rfl h1 rfl (ix0 rfl h1 rfl ⟨_, _, rfl, .inl ⟨_, sq_of hc, rfl⟩, _, _, rfl, rfl, _, rfl, ?_⟩)
        refine ite2 (fun e1 => ?_) (fun _ => ?_)
        · have e1' := of_decide_eq_true e1
          rw [List.length_map] at e1'
          obtain ⟨j, rfl⟩ := Int.eq_ofNat_of_zero_le h3
          have hj : j < cs.length := by omega
          have at_ : atI (cs.map V.int) ((j : Nat) : Int) = some (.int cs[j]) := atI_nat (by rw [List.getElem?_map, List.getElem?_eq_getElem hj]; rfl)
          refine ix0 rfl h1 rfl (ix0 rfl h1 rfl ⟨c, _, _, _, rfl, rfl, sq_of hc, at_, ?_⟩)
          refine ix0 rfl h1 rfl ⟨_, _, rfl, rfl, _, rfl, a, _, _, 1, rfl, rfl, h1, rfl, ?_⟩
          refine ix0 rfl upd_same rfl ⟨_, _, rfl, rfl, .inr ⟨by decide, by decide⟩, _, rfl, _, _, rfl, rfl, _, _, rfl, rfl, .inl ⟨_, rfl, _, _, rfl, rfl, (by show (0 : Int) < 2147483629; decide), _, rfl, a, _, _, 3, rfl, rfl, upd_same, rfl, ?_⟩⟩
          rw [upd_upd]
          refine ⟨_, rfl, _, _, rfl, rfl, ⟨by decide, by decide, by decide⟩, _, _, rfl, rfl, _, rfl, ?_⟩
          refine ite2 (fun big => ?_) (fun _ => ?_)
          · refine ⟨_, rfl, _, rfl, a, _, _, 2, rfl, rfl, upd_same, rfl, ?_⟩
            rw [upd_upd]
            refine ⟨_, _, _, _, _, rfl, upd_same, by rw [delH_upd], by omega, ?_⟩
            have b := of_decide_eq_true big
            exact Int.le_trans (by decide) b
          · refine ⟨_, _, _, _, _, rfl, upd_same, by rw [delH_upd], by omega, h4⟩
        · exact ⟨_, _, _, _, _, rfl, h1, rfl, h3, h4⟩
      · exact ⟨_, _, _, _, _, rfl, h1, rfl, h3, h4⟩
    · rintro σ H1 ⟨j1, j2, j3, j4, v2, rfl, g1, g2, g3, g4⟩
      refine ix0 rfl g1 rfl ⟨_, _, rfl, rfl, _, rfl, ?_⟩
      refine ite2 (fun e => ?_) (fun e => ?_)
      · refine ix0 rfl g1 rfl (.inl ⟨_, rfl, _, rfl, _, _, rfl, rfl, m0, ?_⟩)
        refine ix0 rfl g1 rfl ⟨_, rfl, _, _, rfl, rfl, ⟨m0, by omega⟩, _, rfl, a, _, _, 2, rfl, rfl, g1, rfl, _, rfl, ?_⟩
        refine hQ _ _ ⟨c, cs, j1, j2 / m, j3, j4, upd_same, ?_, g3, Int.ediv_nonneg g4 (by omega)⟩ (by rw [delH_upd, g2]) ((cellsOf_at (x := .ref c) upd_same).trans (cellsOf_at h1).symm) (Int.emod_nonneg _ (by omega)) (Int.emod_lt_of_pos _ m0)
        rw [delH_upd, g2]
        exact h2
      · refine ix0 rfl g1 rfl ⟨_, _, rfl, rfl, _, rfl, a, _, _, 4, rfl, rfl, g1, rfl, ?_⟩
        refine ix0 rfl upd_same rfl (ix0 rfl upd_same rfl ⟨_, _, rfl, rfl, .inl ⟨by decide, by decide⟩, _, _, rfl, rfl, .inl ⟨_, rfl, _, _, rfl, rfl, .inr ⟨by decide, by decide⟩, .inl ⟨_, rfl, _, _, rfl, rfl, (by show (0 : Int) < 2147483647; decide), ?_⟩⟩⟩)
        have b1 := rest_in ((j3 + 7919 * (j4 + 1)) * 48271) (m := 2147483647) (by decide)
        refine ⟨_, rfl, _, rfl, _, _, rfl, rfl, ⟨by decide, by decide⟩, _, _, rfl, rfl, _, _, rfl, rfl, .inl ⟨by omega, by omega⟩, .inl ⟨_, rfl, _, _, rfl, rfl, (by show (0 : Int) < 2147483647; decide), ?_⟩⟩
        have b2 := fun z : Int => rest_in z (m := 2147483647) (by decide)
        refine ⟨_, rfl, _, rfl, _, _, rfl, rfl, ⟨by decide, by decide⟩, _, _, rfl, rfl, _, _, rfl, rfl, .inl ⟨Int.lt_of_lt_of_le (by decide) (b2 _).1, Int.lt_of_lt_of_le (b2 _).2 (by decide)⟩, .inl ⟨_, rfl, _, _, rfl, rfl, (by show (0 : Int) < 2147483399; decide), ?_⟩⟩
        refine ⟨_, rfl, _, _, rfl, rfl, ⟨by decide, by decide⟩, .inl ⟨_, rfl, _, rfl, _, _, rfl, rfl, m0, ?_⟩⟩
        refine hQ _ _ ⟨c, cs, j1, j2, j3, j4 + 1, upd_same, ?_, g3, g4⟩ (by rw [delH_upd, g2]) ((cellsOf_at (x := .ref c) upd_same).trans (cellsOf_at h1).symm) (Int.emod_nonneg _ (by omega)) (Int.emod_lt_of_pos _ m0)
        rw [delH_upd, g2]
        exact h2
end
end K11

set_option maxHeartbeats 4000000
namespace V2
open PySem PySem.Spec PyProof.Rows L2 V1
/-- a callee that raises nothing here -/
theorem passF {X : Cx} : Passes (L2.CX X.prog X.w) X (fun _ _ _ => False) := fun _ _ _ _ _ _ _ c => by
  obtain ⟨_, _, _, _, _, _, _, _, _, _, _, _, z⟩ := c
  exact z.elim
end V2
namespace K11
open PySem PySem.Spec PyProof.Rows L2 V1 V2 V3
open Evl (pss_cut tCut sq_of st_of)
theorem hand_same {H H' : Hp} {a : Addr} (h : HandAt H a) (s : Same H H') : HandAt H' a := by
  obtain ⟨c, cs, i1, i2, i3, i4, e, _⟩ := h.ex
  exact h.new ((s _ _ e).trans e.symm) (same_del s)
theorem cells_same {H H' : Hp} {a : Addr} (h : HandAt H a) (s : Same H H') : cellsOf H' a = cellsOf H a := by
  obtain ⟨c, cs, i1, i2, i3, i4, e, _⟩ := h.ex
  rw [cellsOf_at e, cellsOf_at (s _ _ e)]
theorem HandAt.held {H : Hp} {a : Addr} (h : HandAt H a) : Held H a := by
  obtain ⟨c, cs, i1, i2, i3, i4, e, _⟩ := h.ex
  exact ⟨_, e⟩
theorem del2_upd {H : Hp} {a f : Addr} {o : HO} : delH (delH (upd H f o) a) f = delH (delH H a) f := by
  funext b
  by_cases e : b = f
  · rw [e, delH_same, delH_same]
  · rw [delH_ne e, delH_ne e]
    by_cases e2 : b = a
    · rw [e2, delH_same, delH_same]
    · rw [delH_ne e2, delH_ne e2, upd_ne e]
theorem pos_of {xs : List Int} {i : Nat} {v : V} (h : (xs.map V.int)[i]? = some v) (p : ∀ x ∈ xs, 0 ≤ x) : ∃ z, v = .int z ∧ 0 ≤ z ∧ z ∈ xs := by
  rw [List.getElem?_map] at h
  obtain ⟨z, hz, rfl⟩ := Option.map_eq_some_iff.mp h
  exact ⟨z, rfl, p z (List.mem_of_getElem? hz), List.mem_of_getElem? hz⟩
theorem tup_off {H : Hp} {a b : Addr} {xs : List V} (h : HandAt H a) (e : H b = some (.tup xs)) : (delH H a) b = some (.tup xs) := by
  have ne : b ≠ a := fun z => by
    obtain ⟨c, cs, i1, i2, i3, i4, e1, _⟩ := h.ex
    rw [z, e1] at e
    cases e
  rw [delH_ne ne]
  exact e
structure Go (a : Addr) (H H' : Hp) : Prop where
  hd : HandAt H' a
  ce : cellsOf H' a = cellsOf H a
  sm : Same (delH H a) (delH H' a)
theorem Go.refl {a : Addr} {H : Hp} (h : HandAt H a) : Go a H H := ⟨h, rfl, Same.refl _⟩
theorem Go.new {a : Addr} {H H' : Hp} (h : HandAt H a) (s : Same H H') : Go a H H' := ⟨hand_same h s, cells_same h s, same_del s⟩
theorem Go.draw {a : Addr} {H H' : Hp} (h1 : HandAt H' a) (h2 : delH H' a = delH H a) (h3 : cellsOf H' a = cellsOf H a) : Go a H H' := ⟨h1, h3, by rw [h2]; exact Same.refl _⟩
theorem Go.trans {a : Addr} {H H1 H2 : Hp} (g : Go a H H1) (g' : Go a H1 H2) : Go a H H2 := ⟨g'.hd, g'.ce.trans g.ce, g.sm.trans g'.sm⟩
theorem Go.at_ {a b : Addr} {H H' : Hp} {o : HO} (g : Go a H H') (h : delH H a b = some o) : delH H' a b = some o := g.sm _ _ h
theorem HandAt.ne_new {H : Hp} {a q : Addr} (h : HandAt H a) (n : H q = none) : q ≠ a := fun z => by
  obtain ⟨o, e⟩ := h.held
  rw [z, e] at n
  cases n
theorem del_comm {H : Hp} {a f : Addr} : delH (delH H a) f = delH (delH H f) a := by
  funext b
  by_cases e : b = f
  · subst e
    rw [delH_same]
    by_cases e2 : b = a
    · rw [e2, delH_same]
    · rw [delH_ne e2, delH_same]
  · by_cases e2 : b = a
    · rw [delH_ne e, e2, delH_same, delH_same]
    · rw [delH_ne e, delH_ne e2, delH_ne e2, delH_ne e]
theorem Go.draw_in {a D c : Addr} {H0 H H' : Hp} (g : Go a H0 (delH H D)) (hc : cellsOf H0 a = some (.ref c)) (cD : c ≠ D) (Da : D ≠ a) (h1 : HandAt H' a) (h2 : delH H' a = delH H a) (h3 : cellsOf H' a = cellsOf H a) : Go a H0 (delH H' D) ∧ H' D = H D := by
  have cel : ∀ {X : Hp}, cellsOf (delH X D) a = cellsOf X a := fun {X} => by
    unfold cellsOf
    rw [delH_ne (Ne.symm Da)]
  have z : cellsOf H' a = some (.ref c) := h3.trans ((cel.symm.trans g.ce).trans hc)
  refine ⟨⟨h1.off z cD Da, cel.trans (z.trans hc.symm), ?_⟩, ?_⟩
  · rw [del_comm, h2, del_comm]
    exact g.sm
  · have y := congrFun h2 D
    rw [delH_ne Da, delH_ne Da] at y
    exact y
section
variable [CurK]
theorem Go.dx {a : Addr} {H H' : Hp} {v : V} {d : PyData} (g : Go a H H') (h : Dx (delH H a) v d) : Dx (delH H' a) v d := Dx.same g.sm _ _ h
structure LD (H0 : Hp) (a f c : Addr) (ds : List PyData) (H : Hp) : Prop where
  hd : HandAt H a
  ce : cellsOf H a = some (.ref c)
  sm : Same (delH H0 a) (delH (delH H a) f)
  at_ : ∃ acc, H f = some (.lst acc) ∧ DxAll (delH (delH H a) f) acc ds
theorem LD.draw {H0 H H' : Hp} {a f c : Addr} {ds : List PyData} (h : LD H0 a f c ds H) (na : f ≠ a) (h1 : HandAt H' a) (h2 : delH H' a = delH H a) (h3 : cellsOf H' a = cellsOf H a) : LD H0 a f c ds H' := by
  obtain ⟨acc, e, d⟩ := h.at_
  refine ⟨h1, h3.trans h.ce, by rw [h2]; exact h.sm, acc, ?_, by rw [h2]; exact d⟩
  have z := congrFun h2 f
  rw [delH_ne na, delH_ne na] at z
  exact z.trans e
theorem LD.new {H0 H H' : Hp} {a f c : Addr} {ds : List PyData} (h : LD H0 a f c ds H) (s : Same H H') : LD H0 a f c ds H' := by
  obtain ⟨acc, e, d⟩ := h.at_
  exact ⟨hand_same h.hd s, (cells_same h.hd s).trans h.ce, h.sm.trans (same_del (same_del s)), acc, s _ _ e, DxAll.same (same_del (same_del s)) _ _ d⟩
theorem LD.put {H0 H : Hp} {a f c : Addr} {ds ds' : List PyData} {acc' : List V} (h : LD H0 a f c ds H) (na : f ≠ a) (nc : c ≠ f) (d : DxAll (delH (delH H a) f) acc' ds') :
    LD H0 a f c ds' (upd H f (.lst acc')) := by
  have o := h.hd.off h.ce nc na
  refine ⟨?_, ?_, ?_, acc', upd_same, ?_⟩
  · have z : HandAt (delH (upd H f (.lst acc')) f) a := by rw [delH_upd]; exact o
    exact hand_same z same_delH
  · have z := h.ce
    unfold cellsOf at z ⊢
    rw [upd_ne (Ne.symm na)]
    exact z
  · rw [del2_upd]
    exact h.sm
  · rw [del2_upd]
    exact d
theorem LD.held {H0 H : Hp} {a f c : Addr} {ds : List PyData} (h : LD H0 a f c ds H) : Held H f := by
  obtain ⟨acc, e, _⟩ := h.at_
  exact ⟨_, e⟩
end

/-- the items of a list, a tuple, a string -/
def ItsOf (H : Hp) (a : Addr) (x : V) (xs : List V) : Prop :=
  (∃ p, x = .ref p ∧ p ≠ a ∧ (H p = some (.lst xs) ∨ H p = some (.tup xs))) ∨ ∃ z : Str, x = .str z ∧ xs = z.cps.toList.map fun c => V.str ⟨#[c]⟩
def spSome : Sp := fun vs H Q _ => ∃ (a : Addr) (x : V) (xs : List V), vs = [.ref a, x] ∧ HandAt H a ∧ ItsOf H a x xs ∧ 0 < xs.length ∧ xs.length < 1000 ∧
  ∀ (H' : Hp) (i : Nat) (v : V), HandAt H' a → delH H' a = delH H a → cellsOf H' a = cellsOf H a → xs[i]? = some v → Q v H'
def spNumber [CurK] : Sp := fun vs H Q _ => ∃ v d m, vs = [v, .int m] ∧ Dx H v d ∧ Q (.bl (fromTo 0 (m - 1) d)) H
def CpOk (x : Str) : Bool := x.cps.all (· < 0x110000)
def signs : Str := " !#$&()*+,-/0123456789:;<=>?@ABCDEFGHIJKLMNOPQRSTUVWXYZ[]^_abcdefghijklmnopqrstuvwxyz{|}~\"'\\."
def spSigns : Sp := fun vs H Q _ => vs = [] ∧ Q (.str signs) H
def spWord : Sp := fun vs H Q _ => ∃ a, vs = [.ref a] ∧ HandAt H a ∧ ∀ H' x, Go a H H' → CpOk x = true → Q (.str x) H'
def learD (n : Int) (d : PyData) : PyData := if n % 3 = 0 then .tuple [] else .tuple [.tuple [.int n, d]]
def spLEar [CurK] : Sp := fun vs H Q _ => ∃ n v d, vs = [.int n, v] ∧ Dx H v d ∧ ∀ u H', Same H H' → Dx H' u (learD n d) → Q u H'
def spHInit [CurK] : Sp := fun vs H Q _ => ∃ p dx v, vs = [.ref p, v] ∧ H p = some (.ins (He.ga K "Hearing") dx []) ∧ Q .non (upd H p (.ins (He.ga K "Hearing") dx [("hearing", v)]))
def spHEar [CurK] : Sp := fun vs H Q _ => ∃ p dx n v d, vs = [.ref p, .int n, v] ∧ H p = some (.ins (He.ga K "Hearing") dx [("hearing", .ref (He.ga K "_law_ear"))]) ∧ Dx H v d ∧ ∀ u H', Same H H' → Dx H' u (learD n d) → Q u H'
theorem scNumber : FnScope ["thing", "many"] ["thing", "many"] (defScope s__law_is_number) := ⟨rfl, rfl, rfl, by decide +kernel, rfl, by decide +kernel, by decide +kernel⟩
theorem scSigns : FnScope [] [] (defScope s__law_signs) := ⟨rfl, rfl, rfl, by decide +kernel, rfl, by decide +kernel, by decide +kernel⟩
theorem scWord : FnScope ["hand", "signs", "many", "turn"] ["hand"] (defScope s__law_word) := ⟨rfl, rfl, rfl, by decide +kernel, rfl, by decide +kernel, by decide +kernel⟩
theorem scLEar : FnScope ["letter", "thing"] ["letter", "thing"] (defScope s__law_ear) := ⟨rfl, rfl, rfl, by decide +kernel, rfl, by decide +kernel, by decide +kernel⟩
theorem scHInit : FnScope ["self", "hearing"] ["self", "hearing"] (defScope s_Hearing__init__) := ⟨rfl, rfl, rfl, by decide +kernel, rfl, by decide +kernel, by decide +kernel⟩
theorem scHEar : FnScope ["self", "letter", "thing"] ["self", "letter", "thing"] (defScope s_Hearingear) := ⟨rfl, rfl, rfl, by decide +kernel, rfl, by decide +kernel, by decide +kernel⟩
/-- the hand picks one of the numbers of a new list -/
theorem some_ints {H : Hp} {a q : Addr} {Q : VK} (xs : List Int) (hd : HandAt H a) (nq : H q = none) (px : ∀ x ∈ xs, 0 ≤ x) (l0 : 0 < xs.length) (l1 : xs.length < 1000)
    (k : ∀ H2 (z : Nat), Go a H H2 → ((z : Nat) : Int) ∈ xs → Q (.int ((z : Nat) : Int)) H2) : spSome [.ref a, .ref q] (upd H q (.lst (xs.map V.int))) Q (fun _ _ _ => False) := by
  have s1 := same_new (o := HO.lst (xs.map V.int)) nq
  refine ⟨a, _, _, rfl, hand_same hd s1, .inl ⟨q, rfl, hd.ne_new nq, .inl upd_same⟩, by rw [List.length_map]; exact l0, by rw [List.length_map]; exact l1, fun H2 i v hd2 e2 c2 ev => ?_⟩
  obtain ⟨z, rfl, z0, zm⟩ := pos_of ev px
  obtain ⟨j, rfl⟩ := Int.eq_ofNat_of_zero_le z0
  exact k H2 j ((Go.new hd s1).trans (Go.draw hd2 e2 c2)) zm
/-- the hand picks one of the things of a list, a tuple of data -/
theorem some_data [CurK] {H : Hp} {a : Addr} {v : V} {d : PyData} {ds : List PyData} {Q : VK} (hd : HandAt H a) (q : Dx (delH H a) v d) (ed : d = .list ds ∨ d = .tuple ds) (l0 : 0 < ds.length) (l1 : ds.length < 1000)
    (k : ∀ H2 w d, Go a H H2 → d ∈ ds → Dx (delH H2 a) w d → Q w H2) : spSome [.ref a, v] H Q (fun _ _ _ => False) := by
  obtain ⟨p, xs, rfl, at_, rest⟩ : ∃ p xs, v = .ref p ∧ (delH H a p = some (.lst xs) ∨ delH H a p = some (.tup xs)) ∧ DxAll (delH H a) xs ds := by
    rcases ed with rfl | rfl
    · cases q with | lst at_ low rest => exact ⟨_, _, rfl, .inl at_, rest⟩
    · cases q with | tup at_ rest => exact ⟨_, _, rfl, .inr at_, rest⟩
  have na : p ≠ a := fun z => by
    rw [z, delH_same] at at_
    rcases at_ with h | h <;> cases h
  rw [delH_ne na] at at_
  have lr := dxAll_len rest
  refine ⟨a, _, _, rfl, hd, .inl ⟨p, rfl, na, at_⟩, by rw [lr]; exact l0, by rw [lr]; exact l1, fun H2 i w hd2 e2 c2 ev => ?_⟩
  obtain ⟨d, m, z⟩ := DxAll.some rest ev
  exact k H2 w d (Go.draw hd2 e2 c2) m (by rw [e2]; exact z)
theorem cells_del {H : Hp} {a D : Addr} (n : D ≠ a) : cellsOf (delH H D) a = cellsOf H a := by
  unfold cellsOf
  rw [delH_ne (Ne.symm n)]
theorem Go.undel {a D : Addr} {H0 H : Hp} (g : Go a H0 (delH H D)) (n : D ≠ a) : Go a H0 H := ⟨hand_same g.hd same_delH, (cells_del n).symm.trans g.ce, fun b o e => by
  have z := g.sm b o e
  rw [del_comm] at z
  exact same_delH _ _ z⟩
theorem go_cell {a c : Addr} {H H' : Hp} {cs : List Int} (g : Go a H H') (hce : cellsOf H a = some (.ref c)) (nca : c ≠ a) (hc : H c = some (.lst (cs.map V.int))) : cellsOf H' a = some (.ref c) ∧ H' c = some (.lst (cs.map V.int)) :=
  ⟨g.ce.trans hce, same_delH _ _ (g.sm _ _ (by rw [delH_ne nca]; exact hc))⟩
theorem sum_one : ∀ {ys : List Str}, (∀ y ∈ ys, y.length = 1) → (ys.map (·.length)).sum = ys.length
  | [], _ => rfl
  | y :: ys, h => by
    rw [List.map_cons, List.sum_cons, h y List.mem_cons_self, sum_one fun z hz => h z (List.mem_cons_of_mem _ hz), List.length_cons]
    omega
theorem cpok_app {a b : Str} (h : CpOk a = true) (k : CpOk b = true) : CpOk (a ++ b) = true := by
  unfold CpOk at h k ⊢
  show (a.cps ++ b.cps).all _ = true
  rw [Array.all_append, h, k]
  rfl
theorem join_ok : ∀ {ys : List Str}, (∀ y ∈ ys, CpOk y = true) → CpOk (Txt.join (Str.ofString "") ys) = true := fun {ys} h => by
  rw [TL.join_eq]
  induction ys with
  | nil =>
    show CpOk Str.empty = true
    decide +kernel
  | cons y ys ih =>
    have h1 := h y List.mem_cons_self
    cases ys with
    | nil => exact h1
    | cons z ys =>
      exact cpok_app (cpok_app h1 (by decide +kernel)) (ih fun x hx => h x (List.mem_cons_of_mem _ hx))
theorem signs_ok : ∀ z ∈ signs.cps.toList, CpOk (⟨#[z]⟩ : Str) = true := by decide +kernel
theorem one_len (c : Nat) : (⟨#[c]⟩ : Str).length = 1 := rfl

section
variable [CurK] {P : Program} {w : World} {mg : Str → Option Value} {base : Heap}
theorem ok_some (T : Tx K mg) : Has P w K mg base CX0 2 "_law_some" ["hand", "things"] spSome := by
  obtain ⟨fd, F⟩ := T.c.def_ 13 (d := d__law_some) rfl
  have Hd := ok_draw (P := P) (w := w) (base := base) T
  refine ⟨fd, F.ok scSome (fun vs H Q E h => ?_) (fun cdv A outer s H vs Q E hr h => ?_), FunD.bindsN F fun _ _ _ _ _ _ us hl => match us, hl with | [_, _], _ => rfl, F.kp, (T.glo 22 rfl)⟩
  · obtain ⟨a, p, xs, rfl, _⟩ := h
    rfl
  · refine ⟨_, PSs.nox (pss_one (ps_ret (pe_ix ix_seq (pv 1) (pe_has Hd (hr.mono (by decide)) pass0 (pa_cons (pv 0) (pa_cons (pe_callB call_len (by rfl) (T.free 47 rfl) PySem.boot_len (pa_cons (pv 1) pa_nil)) pa_nil))) (fun _ _ => rfl)))), ?_⟩
    obtain ⟨a, x, xs, rfl, hd, hp, l0, l1, hQ⟩ := h
    refine ⟨_, rfl, _, rfl, ?_⟩
    rcases hp with ⟨p, rfl, ne, hp⟩ | ⟨z, rfl, rfl⟩
    · refine ⟨_, rfl, _, _, rfl, (show LenV K (.ref p) H xs.length from hp.elim (fun e => .inl ⟨xs, sq_of e, rfl⟩) (fun e => .inr ⟨xs, st_of e, rfl⟩)), a, _, rfl, hd, by omega, by omega, fun H' r hd' e ec r0 r1 => ?_⟩
      obtain ⟨j, rfl⟩ := Int.eq_ofNat_of_zero_le r0
      have hj : j < xs.length := by omega
      have e' : ∀ o, H p = some o → H' p = some o := fun o h => by
        have z := congrFun e p
        rw [delH_ne ne, delH_ne ne] at z
        exact z.trans h
      rcases hp with hp | hp
      · exact .inl ⟨p, xs, _, xs[j], rfl, rfl, sq_of (e' _ hp), atI_nat (List.getElem?_eq_getElem hj), hQ H' j _ hd' e ec (List.getElem?_eq_getElem hj)⟩
      · exact .inr (.inl ⟨p, xs, _, xs[j], rfl, rfl, st_of (e' _ hp), atI_nat (List.getElem?_eq_getElem hj), hQ H' j _ hd' e ec (List.getElem?_eq_getElem hj)⟩)
    · rw [List.length_map] at l0 l1
      have lz : z.length = z.cps.toList.length := by simp [Str.length]
      refine ⟨_, rfl, _, _, rfl, (show LenV K (.str z) H z.length from ⟨Nat.le_of_lt (small1000 (by omega)), rfl⟩), a, _, rfl, hd, by omega, by omega, fun H' r hd' e ec r0 r1 => ?_⟩
      obtain ⟨j, rfl⟩ := Int.eq_ofNat_of_zero_le r0
      have hj : j < z.cps.toList.length := by omega
      exact .inr (.inr ⟨z, _, z.cps.toList[j], rfl, rfl, Nat.le_of_lt (small1000 (by omega)), atI_nat (List.getElem?_eq_getElem hj), hQ H' j _ hd' e ec (by rw [List.getElem?_map, List.getElem?_eq_getElem hj]; rfl)⟩)
theorem ok_number (T : Tx K mg) : Has P w K mg base CX0 1 "_law_is_number" ["thing", "many"] spNumber := by
  obtain ⟨fd, F⟩ := T.c.def_ 17 (d := d__law_is_number) rfl
  refine ⟨fd, F.ok scNumber (fun vs H Q E h => ?_) (fun cdv A outer s H vs Q E hr h => ?_), FunD.bindsN F fun _ _ _ _ _ _ us hl => match us, hl with | [_, _], _ => rfl, F.kp, (T.glo 26 rfl)⟩
  · obtain ⟨v, d, m, rfl, _⟩ := h
    rfl
  · refine ⟨_, PSs.nox (pss_one (ps_ret (pe_and (pe_callB call_isi (by rfl) (T.free 46 rfl) (by decide +kernel) (pa_cons (pv 0) (pa_cons (pe_bltn (v := .ty "int") (by rfl) (T.free 45 rfl) (by decide +kernel) rfl) pa_nil))) (pe_and (pe_not (pe_callB call_isi (by rfl) (T.free 46 rfl) (by decide +kernel) (pa_cons (pv 0) (pa_cons (pe_bltn (v := .ty "bool") (by rfl) (T.free 43 rfl) (by decide +kernel) rfl) pa_nil)))) (pe_one (pe_chain op_le op_lt pe_int (pv 0) (pv 1))))))), ?_⟩
    obtain ⟨v, d, m, rfl, hd, hQ⟩ := h
    refine isx_go (kx_int d) (fun Q q => ⟨v, rfl, q⟩) hd ⟨_, rfl, ite2 (fun e => ?_) (fun e => ?_)⟩
    · refine isx_go (kx_bool d) (fun Q q => ⟨v, rfl, q⟩) hd ⟨_, rfl, _, rfl, ite2 (fun e1 => ?_) (fun e1 => ?_)⟩
      · obtain ⟨n, rfl⟩ : ∃ n, d = .int n := by
          cases d with
          | int n => exact ⟨n, rfl⟩
          | bool b => cases e1
          | _ => cases e
        obtain rfl := Dx.int_inv hd
        refine ⟨_, rfl, _, _, rfl, rfl, _, rfl, ite2 (fun e2 => ?_) (fun e2 => ?_)⟩
        · refine ⟨_, rfl, _, _, rfl, rfl, ?_⟩
          have z : fromTo 0 (m - 1) (.int n) = decide (n < m) := by
            show (decide (0 ≤ n) && decide (n ≤ m - 1)) = _
            rw [e2, Bool.true_and, decide_eq_decide]
            omega
          rw [z] at hQ
          exact hQ
        · have z : fromTo 0 (m - 1) (.int n) = false := by
            show (decide (0 ≤ n) && decide (n ≤ m - 1)) = _
            rw [Bool.eq_false_iff.mpr e2, Bool.false_and]
          rw [z] at hQ
          exact hQ
      · cases d <;> first | exact absurd rfl e1 | exact hQ
    · cases d <;> first | exact hQ | exact absurd rfl e
theorem ok_signs (T : Tx K mg) : Has P w K mg base CX0 1 "_law_signs" [] spSigns := by
  obtain ⟨fd, F⟩ := T.c.def_ 15 (d := d__law_signs) rfl
  refine ⟨fd, F.ok scSigns (fun vs H Q E h => ?_) (fun cdv A outer s H vs Q E hr h => ?_), FunD.bindsN F fun _ _ _ _ _ _ us hl => match us, hl with | [], _ => rfl, F.kp, (T.glo 24 rfl)⟩
  · obtain ⟨rfl, _⟩ := h
    rfl
  · refine ⟨_, PSs.nox (pss_one (ps_ret pe_str)), ?_⟩
    obtain ⟨rfl, hQ⟩ := h
    exact hQ
theorem ok_lear (T : Tx K mg) : Has P w K mg base CX0 1 "_law_ear" ["letter", "thing"] spLEar := by
  obtain ⟨fd, F⟩ := T.c.def_ 25 (d := d__law_ear) rfl
  refine ⟨fd, F.ok scLEar (fun vs H Q E h => ?_) (fun cdv A outer s H vs Q E hr h => ?_), FunD.bindsN F fun _ _ _ _ _ _ us hl => match us, hl with | [_, _], _ => rfl, F.kp, (T.glo 34 rfl)⟩
  · obtain ⟨n, v, d, rfl, _⟩ := h
    rfl
  · refine ⟨_, PSs.nox (pss_one (ps_ret (pe_ifExp (pt_cmpR op_eq (pe_op op_mod (pe_callTy call_int1 (by rfl) (T.free 45 rfl) (by decide +kernel) (pa_cons (pv 0) pa_nil)) pe_int) pe_int (nomark _)) (pe_tup pa_nil) (pe_tup (pa_cons (pe_tup (pa_cons (pv 0) (pa_cons (pv 1) pa_nil))) pa_nil))))), ?_⟩
    obtain ⟨n, v, d, rfl, hd, hQ⟩ := h
    refine ⟨_, rfl, .inl ⟨_, rfl, _, _, rfl, rfl, (by show (0 : Int) < 3; decide), rfl, _, rfl, ?_⟩⟩
    refine ite2 (fun e => ?_) (fun e => ?_)
    · have e' : n % 3 = 0 := by simpa [dec_int] using e
      refine ⟨(by show 0 ≤ sizeLine; decide), fun p np => hQ _ _ (same_new np) ?_⟩
      unfold learD
      rw [if_pos e']
      exact .tup upd_same .nil
    · have e' : ¬ n % 3 = 0 := by simpa [dec_int] using e
      refine ⟨_, rfl, _, rfl, (by show 2 ≤ sizeLine; decide), fun p np => ⟨(by show 1 ≤ sizeLine; decide), fun q nq => hQ _ _ ((same_new np).trans (same_new nq)) ?_⟩⟩
      unfold learD
      rw [if_neg e']
      exact .tup upd_same (.cons (.tup ((same_new nq) _ _ upd_same) (.cons (.int _) (.cons (Dx.same ((same_new np).trans (same_new nq)) _ _ hd) .nil))) .nil)
theorem ok_hinit (T : Tx K mg) : HasC P w K mg base CX0 1 "Hearing" ["self", "hearing"] spHInit := by
  obtain ⟨fd, F⟩ := T.c.def_ 38 (d := d_Hearing__init__) rfl
  have cS : Cls K (He.ga K "Hearing") := He.cls_ok (T.c.fact 70 rfl)
  have n1 : NoAttr K (He.ga K "Hearing") "hearing" := He.noat_ok (T.c.fact 71 rfl)
  refine ⟨_, fd, He.mkr_ok (T.c.fact 72 rfl), F.ok scHInit (fun vs H Q E h => ?_) (fun cdv A outer s H vs Q E hr h => ?_), FunD.bindsN F fun _ _ _ _ _ _ us hl => match us, hl with | [_, _], _ => rfl, (T.glo 19 rfl)⟩
  · obtain ⟨p, dx, v, rfl, _⟩ := h
    rfl
  · refine ⟨_, PSs.nox (pss_one (ps_fld (pv 0) (pv 1) (by rfl))), ?_⟩
    obtain ⟨p, dx, v, rfl, hp, hQ⟩ := h
    exact ⟨_, rfl, _, rfl, p, _, dx, [], rfl, hp, cS, n1, (by decide), hQ⟩
theorem ok_hear (T : Tx K mg) : ∃ fd, FnOk P w K mg base CX0 2 (He.ma K (He.ga K "Hearing") "ear") fd ["self", "letter", "thing"] spHEar ∧ Binds K fd ["self", "letter", "thing"] [] := by
  obtain ⟨fd, F⟩ := T.c.def_ 39 (d := d_Hearingear) rfl
  obtain ⟨fdE, FE, bE, kE, _⟩ := ok_lear (P := P) (w := w) (base := base) T
  have cS : Cls K (He.ga K "Hearing") := He.cls_ok (T.c.fact 70 rfl)
  have n1 : NoAttr K (He.ga K "Hearing") "hearing" := He.noat_ok (T.c.fact 71 rfl)
  refine ⟨fd, F.ok scHEar (fun vs H Q E h => ?_) (fun cdv A outer s H vs Q E hr h => ?_), FunD.bindsN F fun _ _ _ _ _ _ us hl => match us, hl with | [_, _, _], _ => rfl⟩
  · obtain ⟨p, dx, n, v, d, rfl, _⟩ := h
    rfl
  · refine ⟨_, PSs.nox (pss_one (ps_ret (pe_fldF (pv 0) FE (hr.mono (by decide)) kE bE pass0 (pa_cons (pv 1) (pa_cons (pv 2) pa_nil))))), ?_⟩
    obtain ⟨p, dx, n, v, d, rfl, hp, hd, hQ⟩ := h
    exact ⟨_, rfl, p, _, dx, _, rfl, hp, cS, n1, rfl, _, rfl, _, rfl, n, v, d, rfl, hd, hQ⟩
theorem ok_word (T : Tx K mg) : Has P w K mg base CX0 3 "_law_word" ["hand"] spWord := by
  obtain ⟨fd, F⟩ := T.c.def_ 16 (d := d__law_word) rfl
  have Hs := ok_some (P := P) (w := w) (base := base) T
  have Hg := ok_signs (P := P) (w := w) (base := base) T
  refine ⟨fd, F.ok scWord (fun vs H Q E h => ?_) (fun cdv A outer s H vs Q E hr h => ?_), FunD.bindsN F fun _ _ _ _ _ _ us hl => match us, hl with | [_], _ => rfl, F.kp, (T.glo 25 rfl)⟩
  · obtain ⟨a, rfl, _⟩ := h
    rfl
  · refine ⟨_, PSs.nox (pss_cons (ps_asg (pe_tup (pa_cons (pe_has0 Hg (hr.mono (by decide)) pass0) (pa_cons (pe_has Hs (hr.mono (by decide)) pass0 (pa_cons (pv 0) (pa_cons (pe_lstS (pa_cons pe_int (pa_cons pe_int (pa_cons pe_int (pa_cons pe_int (pa_cons pe_int (pa_cons pe_int (pa_cons pe_int pa_nil)))))))) pa_nil))) pa_nil))) (pg_tup (by rfl) (pgs_cons (pg_name (i := 1) scWord.nd rfl (Or.inr rfl)) (pgs_cons (pg_name (i := 2) scWord.nd rfl (Or.inl rfl)) pgs_nil))))
 (pss_one (ps_ret (pe_join pe_str (pe_lc (own := [("turn", 3)]) (g := gName 3) (tt := tYes) (te := tCall spSome [] (fun _ _ _ => False) (tCons (tVar 0) (tCons (tVar 1) tNil))) (by rfl) scWord.nd (pi_range1 (by rfl) (T.free 49 rfl) (pa_cons (pv 2) pa_nil))
 (blkOk_by (own := [("turn", 3)]) (N := ["hand", "signs", "many", "turn"]) (sc := defScope s__law_word) (by decide +kernel)) (fun _ _ _ _ _ => pg_name (i := 3) scWord.nd rfl (Or.inl rfl)) (fun _ _ _ _ _ => pts_nil) (fun _ _ _ _ _ => (pe_has Hs (hr.mono (by decide)) pass0 (pa_cons (pv 0) (pa_cons (pv 1) pa_nil))))))))), ?_⟩
    obtain ⟨a, rfl, hd, hQ⟩ := h
    obtain ⟨c, cs, hce, nca, hc⟩ := hd.cells
    refine ⟨rfl, _, rfl, (by show 7 ≤ sizeLine; decide), fun q nq low => ?_⟩
    refine some_ints [0, 1, 1, 2, 3, 5, 40] hd nq (by decide) (by decide) (by decide) fun H2 m g mm => ⟨by show 2 ≤ sizeLine; decide, fun p np => ?_⟩
    have m40 : m ≤ 40 := by
      simp only [List.mem_cons, List.not_mem_nil, or_false] at mm
      omega
    have g3 := g.trans (Go.new g.hd (same_new (o := HO.tup [.str signs, .int ((m : Nat) : Int)]) np))
    have ep : upd H2 p (.tup [.str signs, .int ((m : Nat) : Int)]) p = some (.tup [.str signs, .int ((m : Nat) : Int)]) := upd_same
    generalize upd H2 p (.tup [.str signs, .int ((m : Nat) : Int)]) = H3 at g3 ep
    refine ⟨p, _, rfl, st_of ep, rfl, ?_⟩
    obtain ⟨hce3, hc3⟩ := go_cell g3 hce nca hc
    refine ⟨_, _, rfl, _, _, rfl, rfl, ?_⟩
    refine ⟨⟨_, rfl⟩, _, rfl, m, rfl, by omega, by omega, fun D nD => ?_⟩
    rw [Int.toNat_natCast]
    have Da : D ≠ a := g3.hd.ne_new nD
    have cD : c ≠ D := fun z => by
      rw [← z, hc3] at nD
      cases nD
    refine lc_gen (σ := [some (.ref a), some (.str signs), some (.int ((m : Nat) : Int)), none]) (vs := [3]) (walk_range (lo := 0) (n := m)) nD (fun i acc H' => Go a H3 H' ∧ ∃ ys : List Str, acc = ys.map V.str ∧ ∀ y ∈ ys, y.length = 1 ∧ CpOk y = true) ⟨Go.refl g3.hd, [], rfl, fun _ h => absurd h List.not_mem_nil⟩ (fun _ _ _ _ _ => True.intro) ?_ ?_
    · rintro i acc x H4 H5 hi l e ⟨g4, ys, rfl, hy⟩ ⟨rfl, rfl⟩
      refine ⟨rfl, ?_⟩
      simp only [tYes, if_true]
      refine ⟨_, rfl, _, rfl, a, .str signs, _, rfl, hand_same g4.hd same_delH, .inr ⟨signs, rfl, rfl⟩, (by decide +kernel), (by decide +kernel), fun H6 j v hd6 e6 c6 ev => ?_⟩
      obtain ⟨g6, eD⟩ := g4.draw_in hce3 cD Da hd6 e6 c6
      rw [List.getElem?_map] at ev
      obtain ⟨z, hz, rfl⟩ := Option.map_eq_some_iff.mp ev
      have zo : CpOk (⟨#[z]⟩ : Str) = true := signs_ok z (List.mem_of_getElem? hz)
      exact lc_put l (by omega) (eD.trans e) ⟨g6, ys ++ [⟨#[z]⟩], by rw [List.map_append]; rfl, fun y h => by
        rcases List.mem_append.mp h with h | h
        · exact hy y h
        · simp only [List.mem_cons, List.not_mem_nil, or_false] at h
          rw [h]
          exact ⟨rfl, zo⟩⟩
    · rintro acc H4 l e ⟨g4, ys, rfl, hy⟩
      refine ⟨_, D, ys, rfl, rfl, .inl (sq_of e), ?_, hQ H4 _ (g3.trans (g4.undel Da)) (join_ok fun y h => (hy y h).2)⟩
      rw [List.length_map] at l
      rw [sum_one fun y h => (hy y h).1, show (Str.ofString "").length = 0 from rfl]
      omega
end
end K11

set_option maxHeartbeats 4000000
namespace K11
open PySem PySem.Spec PyProof.Rows L2 V1 V2 V3
open Evl (pss_cut tCut sq_of st_of)
/-- None, flags, ints, texts, tuples of such, so deep -/
def flatD : Nat → PyData → Bool
  | _, .none => true
  | _, .bool _ => true
  | _, .int _ => true
  | _, .str _ => true
  | n + 1, .tuple ds => decide (ds.length ≤ 900) && ds.all (flatD n)
  | _, _ => false
def spIs [CurK] : Nat → Sp
  | 0 => fun _ _ _ _ => False
  | n + 1 => fun vs H Q _ => ∃ v u d, vs = [v, u] ∧ Dx H v d ∧ Dx H u d ∧ flatD n d = true ∧ ∀ H', Same H H' → Q (.bl true) H'
theorem scIs : FnScope ["told", "due", "k"] ["told", "due"] (defScope s__law_is) := ⟨rfl, rfl, rfl, by decide +kernel, rfl, by decide +kernel, by decide +kernel⟩
/-- old things from G, new ones from H' -/
def uni (G H H' : Hp) : Hp := fun b => match H b with
  | none => H' b
  | some _ => G b
theorem uni_old {G H H' : Hp} (s : Same G H) : Same G (uni G H H') := fun b o e => by
  unfold uni
  rw [s _ _ e]
  exact e
theorem uni_new {G H H' : Hp} {b : Addr} (n : H b = none) : uni G H H' b = H' b := by
  unfold uni
  rw [n]
theorem uni_up {G H H1 H2 : Hp} (s : Same H1 H2) : Same (uni G H H1) (uni G H H2) := fun b o e => by
  unfold uni at e ⊢
  cases q : H b with
  | none =>
    rw [q] at e
    exact s _ _ e
  | some u =>
    rw [q] at e
    exact e
theorem uni_delS {H H' : Hp} {a : Addr} (h : Held H a) (s : Same H H') : Same (uni (delH H a) H H') (delH H' a) := fun b o e => by
  obtain ⟨u, hu⟩ := h
  unfold uni at e
  cases q : H b with
  | none =>
    rw [q] at e
    rw [delH_ne (Ne.symm (ne_of_none hu q))]
    exact e
  | some w =>
    rw [q] at e
    exact same_del s _ _ e
theorem uni_newS {H0 H H' : Hp} (s0 : Same H0 H) (s : Same H H') : Same (uni (newH H0 H) H H') (newH H0 H') := fun b o e => by
  unfold uni at e
  cases q : H b with
  | none =>
    rw [q] at e
    have z : H0 b = none := by
      cases r : H0 b with
      | none => rfl
      | some u =>
        rw [s0 _ _ r] at q
        cases q
    rw [newH_at z]
    exact e
  | some w =>
    rw [q] at e
    exact newH_up s _ _ e
theorem uni_selfS {H H' : Hp} (s : Same H H') : Same (uni H H H') H' := fun b o e => by
  unfold uni at e
  cases q : H b with
  | none =>
    rw [q] at e
    exact e
  | some w =>
    rw [q] at e
    rw [← e]
    exact s _ _ q
def wrapD (kind : Int) : Nat → PyData → PyData
  | 0, d => d
  | n + 1, d => if kind = 0 then .tuple [wrapD kind n d] else .list [wrapD kind n d]
def spWrap [CurK] : Sp := fun vs H Q _ => ∃ v d kind G, ∃ m : Nat, vs = [v, .int ((m : Nat) : Int), .int kind] ∧ m ≤ 40 ∧ Dx G v d ∧ Same G H ∧ ∀ u H', Same H H' → Dx (uni G H H') u (wrapD kind m d) → Q u H'
theorem scWrap : FnScope ["thing", "many", "kind", "turn"] ["thing", "many", "kind"] (defScope s__law_wrapped) := ⟨rfl, rfl, rfl, by decide +kernel, rfl, by decide +kernel, by decide +kernel⟩
def spIsThing [CurK] : Sp := fun vs H Q _ => ∃ v d, vs = [v] ∧ Dx H v d ∧ sizeD d ≤ 4000 ∧ ∀ H', Same H H' → Q (.bl (thingD d)) H'
theorem scIsThing : FnScope ["thing", "pile", "one"] ["thing"] (defScope s__law_is_thing) := ⟨rfl, rfl, rfl, by decide +kernel, rfl, by decide +kernel, by decide +kernel⟩
section
variable [CurK] {P : Program} {w : World} {mg : Str → Option Value} {base : Heap}
theorem ok_is (T : Tx K mg) : ∀ n : Nat, Has P w K mg base CX0 (n + 1) "_law_is" ["told", "due"] (spIs n)
  | 0 => by
    obtain ⟨fd, F⟩ := T.c.def_ 14 (d := d__law_is) rfl
    exact ⟨fd, ⟨fun _ _ _ _ h => h.elim, fun _ _ _ _ _ _ _ _ _ _ _ _ _ h => h.elim⟩, FunD.bindsN F fun _ _ _ _ _ _ us hl => match us, hl with | [_, _], _ => rfl, F.kp, (T.glo 23 rfl)⟩
  | n + 1 => by
    obtain ⟨fd, F⟩ := T.c.def_ 14 (d := d__law_is) rfl
    have Hr := ok_is T n
    refine ⟨fd, F.ok scIs (fun vs H Q E h => ?_) (fun cdv A outer s H vs Q E hr h => ?_), FunD.bindsN F fun _ _ _ _ _ _ us hl => match us, hl with | [_, _], _ => rfl, F.kp, (T.glo 23 rfl)⟩
    · obtain ⟨v, u, d, rfl, _⟩ := h
      rfl
    · refine ⟨_, PSs.nox (pss_cons (ps_if (pt_val (pe_callB call_isiT (by rfl) (T.free 46 rfl) (by decide +kernel) (pa_cons (pv 1) (pa_cons (pe_tup (pa_cons (pe_bltn (v := .ty "tuple") (by rfl) (T.free 51 rfl) (by decide +kernel) rfl) (pa_cons (pe_bltn (v := .ty "list") (by rfl) (T.free 48 rfl) (by decide +kernel) rfl) pa_nil))) pa_nil))))
 (pss_cons (ps_if (PW.pt (pw_or (pt_cmpR op_ne (pe_callB call_isi (by rfl) (T.free 46 rfl) (by decide +kernel) (pa_cons (pv 0) (pa_cons (pe_bltn (v := .ty "tuple") (by rfl) (T.free 51 rfl) (by decide +kernel) rfl) pa_nil))) (pe_callB call_isi (by rfl) (T.free 46 rfl) (by decide +kernel) (pa_cons (pv 1) (pa_cons (pe_bltn (v := .ty "tuple") (by rfl) (T.free 51 rfl) (by decide +kernel) rfl) pa_nil))) (nomark _)) (pw_or1 (pt_cmpR op_ne (pe_callB call_isi (by rfl) (T.free 46 rfl) (by decide +kernel) (pa_cons (pv 0) (pa_cons (pe_bltn (v := .ty "list") (by rfl) (T.free 48 rfl) (by decide +kernel) rfl) pa_nil))) (pe_callB call_isi (by rfl) (T.free 46 rfl) (by decide +kernel) (pa_cons (pv 1) (pa_cons (pe_bltn (v := .ty "list") (by rfl) (T.free 48 rfl) (by decide +kernel) rfl) pa_nil))) (nomark _)))))
 (pss_one (ps_ret pe_bl))
 pss_nil)
 (pss_one (ps_ret (pe_and (pe_cmpR op_eq (pe_callB call_len (by rfl) (T.free 47 rfl) PySem.boot_len (pa_cons (pv 0) pa_nil)) (pe_callB call_len (by rfl) (T.free 47 rfl) PySem.boot_len (pa_cons (pv 1) pa_nil)) (nomark _)) (pe_one (pe_callB (cr_all rfl) (by rfl) (T.free 41 rfl) (by decide +kernel) (pa_cons (pe_lc (own := [("k", 2)]) (g := gName 2) (tt := tYes) (te := tCall (spIs n) [] (fun _ _ _ => False) (tCons (tOp (rIxT K) (tVar 0) (tVar 2)) (tCons (tOp (rIxT K) (tVar 1) (tVar 2)) tNil))) (by rfl) scIs.nd (pi_range1 (by rfl) (T.free 49 rfl) (pa_cons (pe_callB call_len (by rfl) (T.free 47 rfl) PySem.boot_len (pa_cons (pv 1) pa_nil)) pa_nil))
 (blkOk_by (own := [("k", 2)]) (N := ["told", "due", "k"]) (sc := defScope s__law_is) (by decide +kernel)) (fun _ _ _ _ _ => pg_name (i := 2) scIs.nd rfl (Or.inl rfl)) (fun _ _ _ _ _ => pts_nil) (fun _ _ _ _ _ => (pe_has Hr (hr) pass0 (pa_cons (pe_ix ix_tup (pv 0) (pv 2) (fun _ _ => rfl)) (pa_cons (pe_ix ix_tup (pv 1) (pv 2) (fun _ _ => rfl)) pa_nil))))) pa_nil)))))))
 pss_nil)
 (pss_cons (ps_if (PW.pt (pw_or (pt_cmpR op_isN (pv 1) pe_non (nomark _)) (pw_or1 (pt_cmpR op_isN (pv 0) pe_non (nomark _)))))
 (pss_one (ps_ret (pe_and (pe_cmpR op_isN (pv 1) pe_non (nomark _)) (pe_one (pe_cmpR op_isN (pv 0) pe_non (nomark _))))))
 pss_nil)
 (pss_cons (ps_if (PW.pt (pw_or (pt_cmpR op_ne (pe_callB call_isi (by rfl) (T.free 46 rfl) (by decide +kernel) (pa_cons (pv 0) (pa_cons (pe_bltn (v := .ty "bool") (by rfl) (T.free 43 rfl) (by decide +kernel) rfl) pa_nil))) (pe_callB call_isi (by rfl) (T.free 46 rfl) (by decide +kernel) (pa_cons (pv 1) (pa_cons (pe_bltn (v := .ty "bool") (by rfl) (T.free 43 rfl) (by decide +kernel) rfl) pa_nil))) (nomark _)) (pw_or1 (pt_cmpR op_ne (pe_callB call_isi (by rfl) (T.free 46 rfl) (by decide +kernel) (pa_cons (pv 0) (pa_cons (pe_bltn (v := .ty "int") (by rfl) (T.free 45 rfl) (by decide +kernel) rfl) pa_nil))) (pe_callB call_isi (by rfl) (T.free 46 rfl) (by decide +kernel) (pa_cons (pv 1) (pa_cons (pe_bltn (v := .ty "int") (by rfl) (T.free 45 rfl) (by decide +kernel) rfl) pa_nil))) (nomark _)))))
 (pss_one (ps_ret pe_bl))
 pss_nil)
 (pss_one (ps_ret (pe_and (pe_cmpR op_eq (pe_callB call_isi (by rfl) (T.free 46 rfl) (by decide +kernel) (pa_cons (pv 0) (pa_cons (pe_bltn (v := .ty "str") (by rfl) (T.free 50 rfl) (by decide +kernel) rfl) pa_nil))) (pe_callB call_isi (by rfl) (T.free 46 rfl) (by decide +kernel) (pa_cons (pv 1) (pa_cons (pe_bltn (v := .ty "str") (by rfl) (T.free 50 rfl) (by decide +kernel) rfl) pa_nil))) (nomark _)) (pe_one (pe_cmpR op_eq (pv 0) (pv 1) (nomark _))))))))), ?_⟩
      obtain ⟨v, u, d, rfl, hv, hu, fl, hQ⟩ := h
      refine isxT_go (kx_tup d) (kx_lst d) (fun Q q => ⟨u, rfl, q⟩) hu fun p np => ⟨_, rfl, ?_⟩
      have s1 := same_new (o := HO.tup [.ty "tuple", .ty "list"]) np
      have hv1 := Dx.same s1 _ _ hv
      have hu1 := Dx.same s1 _ _ hu
      generalize upd H p (HO.tup [.ty "tuple", .ty "list"]) = H1 at s1 hv1 hu1
      cases d with
      | none =>
        obtain rfl := Dx.none_inv hv1
        obtain rfl := Dx.none_inv hu1
        exact iteF ⟨_, rfl, rfl, true, rfl, iteT ⟨_, rfl, rfl, true, rfl, iteT ⟨_, rfl, rfl, hQ _ s1⟩⟩⟩
      | bool i =>
        cases hv1
        cases hu1
        refine iteF ⟨_, rfl, rfl, false, rfl, iteF ⟨_, rfl, rfl, false, rfl, iteF ?_⟩⟩
        have hs : ∀ H, Dx H (V.bl i) (.bool i) := fun H => .bl i
        obtain ⟨ty, tyx, kk⟩ := kx_of (kx_bool (.bool i)) (hs H1)
        refine ⟨_, rfl, _, .ty "bool", _, _, _, rfl, .ty "bool", tyx, kk, _, rfl, _, .ty "bool", _, _, _, rfl, .ty "bool", tyx, kk, rfl, false, rfl, iteF ?_⟩
        refine isx_go (kx_int _) (fun Q q => ⟨_, rfl, q⟩) (hs H1) (isx_go (kx_int _) (fun Q q => ⟨_, rfl, q⟩) (hs H1) ⟨rfl, false, rfl, iteF ?_⟩)
        obtain ⟨ty, tyx, kk⟩ := kx_of (kx_str (.bool i)) (hs H1)
        refine ⟨_, rfl, _, .ty "str", _, _, _, rfl, .ty "str", tyx, kk, _, rfl, _, .ty "str", _, _, _, rfl, .ty "str", tyx, kk, rfl, true, rfl, iteT ?_⟩
        refine ⟨_, rfl, _, rfl, rfl, ?_⟩
        have z : decide (V.bl i = V.bl i) = true := decide_eq_true rfl
        rw [z]
        exact hQ _ s1
      | int i =>
        cases hv1
        cases hu1
        refine iteF ⟨_, rfl, rfl, false, rfl, iteF ⟨_, rfl, rfl, false, rfl, iteF ?_⟩⟩
        have hs : ∀ H, Dx H (V.int i) (.int i) := fun H => .int i
        obtain ⟨ty, tyx, kk⟩ := kx_of (kx_bool (.int i)) (hs H1)
        refine ⟨_, rfl, _, .ty "bool", _, _, _, rfl, .ty "bool", tyx, kk, _, rfl, _, .ty "bool", _, _, _, rfl, .ty "bool", tyx, kk, rfl, false, rfl, iteF ?_⟩
        refine isx_go (kx_int _) (fun Q q => ⟨_, rfl, q⟩) (hs H1) (isx_go (kx_int _) (fun Q q => ⟨_, rfl, q⟩) (hs H1) ⟨rfl, false, rfl, iteF ?_⟩)
        obtain ⟨ty, tyx, kk⟩ := kx_of (kx_str (.int i)) (hs H1)
        refine ⟨_, rfl, _, .ty "str", _, _, _, rfl, .ty "str", tyx, kk, _, rfl, _, .ty "str", _, _, _, rfl, .ty "str", tyx, kk, rfl, true, rfl, iteT ?_⟩
        refine ⟨_, rfl, _, rfl, rfl, ?_⟩
        have z : decide (V.int i = V.int i) = true := decide_eq_true rfl
        rw [z]
        exact hQ _ s1
      | str i =>
        cases hv1
        cases hu1
        refine iteF ⟨_, rfl, rfl, false, rfl, iteF ⟨_, rfl, rfl, false, rfl, iteF ?_⟩⟩
        have hs : ∀ H, Dx H (V.str i) (.str i) := fun H => .str i
        obtain ⟨ty, tyx, kk⟩ := kx_of (kx_bool (.str i)) (hs H1)
        refine ⟨_, rfl, _, .ty "bool", _, _, _, rfl, .ty "bool", tyx, kk, _, rfl, _, .ty "bool", _, _, _, rfl, .ty "bool", tyx, kk, rfl, false, rfl, iteF ?_⟩
        refine isx_go (kx_int _) (fun Q q => ⟨_, rfl, q⟩) (hs H1) (isx_go (kx_int _) (fun Q q => ⟨_, rfl, q⟩) (hs H1) ⟨rfl, false, rfl, iteF ?_⟩)
        obtain ⟨ty, tyx, kk⟩ := kx_of (kx_str (.str i)) (hs H1)
        refine ⟨_, rfl, _, .ty "str", _, _, _, rfl, .ty "str", tyx, kk, _, rfl, _, .ty "str", _, _, _, rfl, .ty "str", tyx, kk, rfl, true, rfl, iteT ?_⟩
        refine ⟨_, rfl, _, rfl, rfl, ?_⟩
        have z : decide (V.str i = V.str i) = true := decide_eq_true rfl
        rw [z]
        exact hQ _ s1
      | tuple ds =>
        refine iteT ?_
        refine isx_go (kx_tup _) (fun Q q => ⟨_, rfl, q⟩) hv1 (isx_go (kx_tup _) (fun Q q => ⟨_, rfl, q⟩) hu1 ⟨rfl, false, rfl, iteF ?_⟩)
        refine isx_go (kx_lst _) (fun Q q => ⟨_, rfl, q⟩) hv1 (isx_go (kx_lst _) (fun Q q => ⟨_, rfl, q⟩) hu1 ⟨rfl, false, rfl, iteF ?_⟩)
        obtain ⟨a, vs, rfl, ha, ra⟩ := Dx.tup_inv hv1
        obtain ⟨b, us, rfl, hb, rb⟩ := Dx.tup_inv hu1
        have la := dxAll_len ra
        have lb := dxAll_len rb
        cases n with
        | zero => cases fl
        | succ n =>
        have fl' : ds.length ≤ 900 ∧ ∀ x ∈ ds, flatD n x = true := by simpa [flatD] using fl
        refine ⟨_, rfl, _, _, rfl, .inr ⟨vs, st_of ha, rfl⟩, _, rfl, _, _, rfl, .inr ⟨us, st_of hb, rfl⟩, rfl, true, by rw [la, lb]; simp, iteT ?_⟩
        refine ⟨_, rfl, _, _, rfl, .inr ⟨us, st_of hb, rfl⟩, us.length, rfl, by omega, by omega, fun D nD => ?_⟩
        rw [Int.toNat_natCast]
        refine lc_gen (σ := [some (.ref a), some (.ref b), none]) (vs := [2]) (walk_range (lo := 0) (n := us.length)) nD (fun i acc H' => Same H1 H' ∧ acc = List.replicate i (.bl true)) ⟨Same.refl _, rfl⟩ (fun _ _ _ _ _ => True.intro) ?_ ?_
        · rintro i acc x H2 H3 hi l e ⟨sm, rfl⟩ ⟨rfl, rfl⟩
          have hi' : i < ds.length := by omega
          have va : vs[i]? = some vs[i] := List.getElem?_eq_getElem (by omega)
          have ub : us[i]? = some us[i] := List.getElem?_eq_getElem (by omega)
          have di : ds[i]? = some ds[i] := List.getElem?_eq_getElem hi'
          have sm' : Same H1 H3 := fun b o ob => same_delH _ _ (sm _ _ ob)
          have at1 : atI vs (0 + ((i : Nat) : Int)) = some vs[i] := by rw [Int.zero_add]; exact atI_nat va
          have at2 : atI us (0 + ((i : Nat) : Int)) = some us[i] := by rw [Int.zero_add]; exact atI_nat ub
          refine ⟨rfl, ?_⟩
          simp only [tYes, if_true]
          refine ⟨_, rfl, _, rfl, a, vs, _, _, rfl, rfl, st_of (sm' _ _ ha), at1, _, rfl, _, rfl, b, us, _, _, rfl, rfl, st_of (sm' _ _ hb), at2, _, _, ds[i], rfl, Dx.same sm' _ _ (DxAll.at ra va di), Dx.same sm' _ _ (DxAll.at rb ub di), fl'.2 _ (List.getElem_mem hi'), fun H4 s4 => ?_⟩
          refine lc_put l (by omega) (s4 _ _ e) ⟨fun b o ob => same_del s4 _ _ (sm _ _ ob), ?_⟩
          rw [List.replicate_succ']
        · rintro acc H2 l e ⟨sm, rfl⟩
          refine ⟨D, List.replicate us.length true, rfl, sq_of (by rw [List.map_replicate]; exact e), ?_⟩
          have z : (List.replicate us.length true).all id = true := by simp
          rw [z]
          exact hQ H2 (s1.trans fun b o ob => same_delH _ _ (sm _ _ ob))
      | _ => cases n <;> cases fl
theorem ok_wrap (T : Tx K mg) : Has P w K mg base CX0 1 "_law_wrapped" ["thing", "many", "kind"] spWrap := by
  obtain ⟨fd, F⟩ := T.c.def_ 20 (d := d__law_wrapped) rfl
  refine ⟨fd, F.ok scWrap (fun vs H Q E h => ?_) (fun cdv A outer s H vs Q E hr h => ?_), FunD.bindsN F fun _ _ _ _ _ _ us hl => match us, hl with | [_, _, _], _ => rfl, F.kp, (T.glo 29 rfl)⟩
  · obtain ⟨v, d, k, G, m, rfl, _⟩ := h
    rfl
  · refine ⟨_, PSs.nox (pss_cons (ps_for PassesOwn.never rfl (pi_range1 (by rfl) (T.free 49 rfl) (pa_cons (pv 1) pa_nil)) (pg_name (i := 3) scWrap.nd rfl (Or.inl rfl))
 (pss_one (ps_set (i := 0) scWrap.nd rfl (Or.inl rfl) (pe_ifExp (pt_cmpR op_eq (pv 2) pe_int (nomark _)) (pe_tup (pa_cons (pv 0) pa_nil)) (pe_lstS (pa_cons (pv 0) pa_nil))))))
 (pss_one (ps_ret (pv 0)))), ?_⟩
    obtain ⟨v, d, k, G, m, rfl, m40, hd, sG, hQ⟩ := h
    refine ⟨_, rfl, m, rfl, by omega, by omega, ?_⟩
    rw [Int.toNat_natCast]
    refine for_it (walk_range (lo := 0) (n := m)) (fun i σ H' => Same H H' ∧ ∃ v o, σ = [some v, some (.int ((m : Nat) : Int)), some (.int k), o] ∧ Dx (uni G H H') v (wrapD k i d)) ⟨Same.refl H, _, _, rfl, Dx.same (uni_old sG) _ _ hd⟩ (fun _ _ _ _ _ => True.intro) ?_ (fun σ H' ⟨s', v, o, e, q⟩ => by subst e; exact ⟨_, rfl, hQ v H' s' q⟩)
    rintro i x σ H1 H2 hi ⟨s1, v, o, rfl, q⟩ ⟨rfl, rfl⟩
    refine ⟨_, rfl, rfl, _, rfl, ite2 (fun e => ?_) (fun e => ?_)⟩
    · have z : wrapD k (i + 1) d = .tuple [wrapD k i d] := by
        have e' : k = 0 := by simpa [dec_int] using e
        show (if k = 0 then _ else _) = _
        rw [if_pos e']
      refine ⟨_, rfl, (by show 1 ≤ sizeLine; decide), fun p np => ⟨s1.trans (same_new np), _, _, rfl, ?_⟩⟩
      rw [z]
      exact .tup (by rw [uni_new (fresh_up s1 np)]; exact upd_same) (.cons (Dx.same (uni_up (same_new np)) _ _ q) .nil)
    · have z : wrapD k (i + 1) d = .list [wrapD k i d] := by
        have e' : ¬ k = 0 := by simpa [dec_int] using e
        show (if k = 0 then _ else _) = _
        rw [if_neg e']
      refine ⟨_, rfl, (by show 1 ≤ sizeLine; decide), fun p np low => ⟨s1.trans (same_new np), _, _, rfl, ?_⟩⟩
      rw [z]
      exact .lst (by rw [uni_new (fresh_up s1 np)]; exact upd_same) low (.cons (Dx.same (uni_up (same_new np)) _ _ q) .nil)
theorem ok_isThing (T : Tx K mg) : Has P w K mg base CX0 1 "_law_is_thing" ["thing"] spIsThing := by
  obtain ⟨fd, F⟩ := T.c.def_ 18 (d := d__law_is_thing) rfl
  refine ⟨fd, F.ok scIsThing (fun vs H Q E h => ?_) (fun cdv A outer s H vs Q E hr h => ?_), FunD.bindsN F fun _ _ _ _ _ _ us hl => match us, hl with | [_], _ => rfl, F.kp, (T.glo 27 rfl)⟩
  · obtain ⟨v, d, rfl, _⟩ := h
    rfl
  · refine ⟨_, PSs.nox (pss_cons (ps_set (i := 1) scIsThing.nd rfl (Or.inl rfl) (pe_lstS (pa_cons (pv 0) pa_nil)))
 (pss_cons (ps_while PassesOwn.never (pt_cmpR op_gt (pe_callB call_len (by rfl) (T.free 47 rfl) PySem.boot_len (pa_cons (pv 1) pa_nil)) pe_int (nomark _))
 (pss_cons (ps_set (i := 2) scIsThing.nd rfl (Or.inl rfl) (pe_bm0 PySem.F.plainAttrs_list PySem.F.slot_list_pop PySem.F.type_list_pop mt_pop (pv 1)))
 (pss_one (ps_if (pt_val (pe_callB call_isi (by rfl) (T.free 46 rfl) (by decide +kernel) (pa_cons (pv 2) (pa_cons (pe_bltn (v := .ty "tuple") (by rfl) (T.free 51 rfl) (by decide +kernel) rfl) pa_nil))))
 (pss_one (ps_expr (pe_bm PySem.F.plainAttrs_list PySem.F.slot_list_extend PySem.F.type_list_extend mt_extend (pv 1) (pa_cons (pe_callTy call_list_of (by rfl) (T.free 48 rfl) (by decide +kernel) (pa_cons (pv 2) pa_nil)) pa_nil))))
 (pss_one (ps_if (PW.pt (pw_and (pt_cmpR op_notN (pv 2) pe_non (nomark _)) (pw_and1 (pt_not (pt_val (pe_callB call_isiT (by rfl) (T.free 46 rfl) (by decide +kernel) (pa_cons (pv 2) (pa_cons (pe_tup (pa_cons (pe_bltn (v := .ty "int") (by rfl) (T.free 45 rfl) (by decide +kernel) rfl) (pa_cons (pe_bltn (v := .ty "str") (by rfl) (T.free 50 rfl) (by decide +kernel) rfl) pa_nil))) pa_nil))))))))
 (pss_one (ps_ret pe_bl))
 pss_nil))))))
 (pss_one (ps_ret pe_bl)))), ?_⟩
    obtain ⟨v, d, rfl, hd, sz, hQ⟩ := h
    have nd0 : sizeAll [d] = sizeD d := by simp [sizeAll]
    refine ⟨_, rfl, (by show 1 ≤ sizeLine; decide), fun k nk _ => ?_⟩
    have s0 := same_new (o := HO.lst [v]) nk
    have e0 : upd H k (HO.lst [v]) k = some (.lst [v]) := upd_same
    have sd : Same H (delH (upd H k (HO.lst [v])) k) := fun b o e => by rw [delH_ne (ne_of_none e nk)]; exact s0 _ _ e
    generalize upd H k (HO.lst [v]) = H2 at s0 e0 sd ⊢
    have a2 : DxAll (delH H2 k) [v] [d] := .cons (Dx.same sd _ _ hd) .nil
    refine ⟨fun m σ H' => ∃ us ds, ∃ o4, σ = [some v, some (.ref k), o4] ∧ H' k = some (.lst us) ∧ DxAll (delH H' k) us ds ∧ Same H (delH H' k) ∧ sizeAll ds ≤ 4000 ∧ thingAll ds = thingD d ∧ m = sizeAll ds,
      ⟨_, [v], [d], _, rfl, e0, a2, sd, by omega, by simp [thingAll], rfl⟩, ?_⟩
    rintro m σ H3 ⟨us, ds, o4, rfl, e3, a3, s3, z3, t3, rfl⟩
    refine ⟨_, rfl, _, _, rfl, .inl ⟨us, sq_of e3, rfl⟩, _, _, rfl, rfl, _, rfl, ?_⟩
    by_cases hds : ds = []
    · subst hds
      cases a3
      refine iteF ?_
      have z : thingD d = true := t3.symm
      rw [z] at hQ
      exact hQ H3 (s3.trans same_delH)
    obtain ⟨es, e, rfl⟩ := snoc_of hds
    obtain ⟨us', y, rfl, h1, h2⟩ := snoc_inv a3
    have ne : decide ((0 : Int) < (((us' ++ [y]).length : Nat) : Int)) = true := decide_eq_true (by rw [List.length_append]; simp)
    rw [ne]
    refine iteT ⟨fun σ' H' => ∃ m', m' < sizeAll (es ++ [e]) ∧ ∃ us ds, ∃ o4, σ' = [some v, some (.ref k), o4] ∧ H' k = some (.lst us) ∧ DxAll (delH H' k) us ds ∧ Same H (delH H' k) ∧ sizeAll ds ≤ 4000 ∧ thingAll ds = thingD d ∧ m' = sizeAll ds, fun _ _ h => h, ?_⟩
    have ep := size_pos e
    have sz' : sizeAll (es ++ [e]) = sizeAll es + sizeD e := by rw [sizeAll_app]; simp [sizeAll]
    have th' : thingAll (es ++ [e]) = (thingAll es && thingD e) := by rw [thingAll_app]; simp [thingAll]
    rw [sz'] at z3 ⊢
    rw [th'] at t3
    refine ⟨_, rfl, .inl ⟨rfl, _, sq_of e3⟩, k, _, y, rfl, rfl, e3, by simp, ?_⟩
    rw [List.dropLast_concat]
    have e4 : upd H3 k (HO.lst us') k = some (.lst us') := upd_same
    have s4 : Same H (delH (upd H3 k (HO.lst us')) k) := by rw [delH_upd]; exact s3
    have h14 : DxAll (delH (upd H3 k (HO.lst us')) k) us' es := by rw [delH_upd]; exact h1
    have h24 : Dx (delH (upd H3 k (HO.lst us')) k) y e := by rw [delH_upd]; exact h2
    generalize upd H3 k (HO.lst us') = H4 at e4 s4 h14 h24 ⊢
    have lus := dxAll_len h14
    have les := len_size es
    have hy := Dx.same same_delH _ _ h24
    obtain ⟨ty, tyx, kk⟩ := kx_of (kx_tup e) hy
    refine ⟨_, rfl, y, .ty "tuple", _, _, _, rfl, .ty "tuple", tyx, kk, _, rfl, ?_⟩
    cases hT : isTup e with
    | false =>
      refine iteF ?_
      rw [thing_leaf hT] at t3
      have hn := isN_of hy
      refine ⟨_, rfl, rfl, _, rfl, ?_⟩
      rw [hn]
      by_cases e0 : e = .none
      · subst e0
        refine iteF ?_
        exact ⟨sizeAll es, by omega, us', es, _, rfl, e4, h14, s4, by omega, by rw [← t3]; simp [leafD], rfl⟩
      · have zn : isNo e = false := by cases e <;> first | rfl | exact absurd rfl e0
        rw [zn]
        refine iteT (isxT_go (kx_int e) (kx_str e) (fun Q q => ⟨_, rfl, q⟩) hy fun p np => ?_)
        have yl : (isInt e || isBool e || isStr e) = leafD e := by cases e <;> first | rfl | exact absurd rfl e0
        rw [yl]
        have s5 := same_new (o := HO.tup [.ty "int", .ty "str"]) np
        generalize upd H4 p (HO.tup [.ty "int", .ty "str"]) = H5 at s5 ⊢
        cases hL : leafD e with
        | false =>
          rw [hL, Bool.and_false] at t3
          rw [← t3] at hQ
          exact ⟨_, rfl, iteT (hQ H5 ((s4.trans same_delH).trans s5))⟩
        | true =>
          rw [hL, Bool.and_true] at t3
          refine ⟨_, rfl, iteF ?_⟩
          exact ⟨sizeAll es, by omega, us', es, _, rfl, s5 _ _ e4, DxAll.same (same_del s5) _ _ h14, s4.trans (same_del s5), by omega, t3, rfl⟩
    | true =>
      obtain ⟨fs, rfl⟩ := isTup_tup hT
      obtain ⟨b, zs, rfl, hb, hz⟩ := Dx.tup_inv h24
      have lzs := dxAll_len hz
      have lfs := len_size fs
      have sf : sizeD (.tuple fs) = 1 + sizeAll fs := by simp [sizeD]
      have tf : thingD (.tuple fs) = thingAll fs := by simp [thingD]
      rw [sf] at z3
      rw [tf] at t3
      have both : us'.length + zs.length ≤ 5000 := by
        rw [lus, lzs]
        omega
      have line : us'.length + zs.length ≤ sizeLine := Nat.le_trans both (by decide)
      refine iteT ⟨_, rfl, .inl ⟨rfl, _, sq_of e4⟩, _, rfl, b, zs, rfl, .inr (st_of (same_delH _ _ hb)), fun l nl => ?_⟩
      have nk' : k ≠ l := fun z => by
        rw [← z, e4] at nl
        cases nl
      have s5 := same_new (o := HO.lst zs) nl
      refine ⟨k, l, us', zs, rfl, rfl, s5 _ _ e4, upd_same, line, ?_⟩
      have s6 : Same (delH H4 k) (delH (upd (upd H4 l (HO.lst zs)) k (HO.lst (us' ++ zs))) k) := by
        rw [delH_upd]
        exact same_del s5
      exact ⟨sizeAll (es ++ fs), by rw [sizeAll_app, sf]; omega, us' ++ zs, es ++ fs, _, rfl, upd_same, DxAll.same s6 _ _ (DxAll.app h14 hz), s4.trans s6, by rw [sizeAll_app]; omega, by rw [thingAll_app]; exact t3, rfl⟩
end
end K11

set_option maxHeartbeats 4000000
namespace K11
open PySem PySem.Spec PyProof.Rows L2 V1 V2 V3
open Evl (pss_cut tCut sq_of st_of)
def partV (d1 d2 : PyData) : V := (partOf d1 d2).getD (.str "let")
def spRising [CurK] : Sp := fun vs H Q _ => ∃ v d, vs = [v] ∧ Dx H v d ∧ (∀ ds, d = .tuple ds → ds.length ≤ 900) ∧ Q (.bl (lotD 60 d)) H
def spPart [CurK] : Sp := fun vs H Q _ => ∃ v1 v2 d1 d2, vs = [v1, v2] ∧ Dx H v1 d1 ∧ Dx H v2 d2 ∧ (∀ ds, d1 = .tuple ds → ds.length ≤ 900) ∧ (∀ ds, d2 = .tuple ds → ds.length ≤ 500 ∧ ∀ d ∈ ds, sizeD d ≤ 4000) ∧ ∀ H', Same H H' → Q (partV d1 d2) H'
theorem scRising : FnScope ["thing", "at"] ["thing"] (defScope s__law_rising) := ⟨rfl, rfl, rfl, by decide +kernel, rfl, by decide +kernel, by decide +kernel⟩
theorem scPart : FnScope ["gone", "turns", "at", "one"] ["gone", "turns"] (defScope s__law_part) := ⟨rfl, rfl, rfl, by decide +kernel, rfl, by decide +kernel, by decide +kernel⟩
theorem ints_inv [CurK] {H : Hp} : ∀ {vs : List V} {ns : List Int}, DxAll H vs (ns.map PyData.int) → vs = ns.map V.int
  | _, [], .nil => rfl
  | _, _ :: _, .cons one more => by
    rw [Dx.int_inv one, ints_inv more]
    rfl
theorem from_lo {lo hi : Int} {e : PyData} (h : 0 ≤ lo) (f : V2.fromTo 0 hi e = false) : V2.fromTo lo hi e = false := by
  cases e with
  | int n =>
    simp only [V2.fromTo, Bool.and_eq_false_iff, decide_eq_false_iff_not] at f ⊢
    omega
  | _ => rfl
section
variable [CurK] {P : Program} {w : World} {mg : Str → Option Value} {base : Heap}
theorem ok_rising (T : Tx K mg) : Has P w K mg base CX0 2 "_law_rising" ["thing"] spRising := by
  obtain ⟨fd, F⟩ := T.c.def_ 21 (d := d__law_rising) rfl
  have Hn := ok_number (P := P) (w := w) (base := base) T
  refine ⟨fd, F.ok scRising (fun vs H Q E h => ?_) (fun cdv A outer s H vs Q E hr h => ?_), FunD.bindsN F fun _ _ _ _ _ _ us hl => match us, hl with | [_], _ => rfl, F.kp, (T.glo 30 rfl)⟩
  · obtain ⟨v, d, rfl, _⟩ := h
    rfl
  · refine ⟨_, PSs.nox (pss_cons (ps_if (pt_not (pt_val (pe_callB call_isi (by rfl) (T.free 46 rfl) (by decide +kernel) (pa_cons (pv 0) (pa_cons (pe_bltn (v := .ty "tuple") (by rfl) (T.free 51 rfl) (by decide +kernel) rfl) pa_nil)))))
 (pss_one (ps_ret pe_bl))
 pss_nil)
 (pss_cons (ps_for PassesOwn.never rfl (pi_range1 (by rfl) (T.free 49 rfl) (pa_cons (pe_callB call_len (by rfl) (T.free 47 rfl) PySem.boot_len (pa_cons (pv 0) pa_nil)) pa_nil)) (pg_name (i := 1) scRising.nd rfl (Or.inl rfl))
 (pss_one (ps_if (PW.pt (pw_or (pt_not (pt_val (pe_has Hn (hr.mono (by decide)) pass0 (pa_cons (pe_ix ix_tup (pv 0) (pv 1) (fun _ _ => rfl)) (pa_cons pe_int pa_nil))))) (pw_or1 (PW.pt (pw_and (pt_cmpR op_gt (pv 1) pe_int (nomark _)) (pw_and1 (pt_cmpR op_le (pe_ix ix_tup (pv 0) (pv 1) (fun _ _ => rfl)) (pe_ix ix_tup (pv 0) (pe_op op_sub (pv 1) pe_int) (fun _ _ => rfl)) (nomark _))))))))
 (pss_one (ps_ret pe_bl))
 pss_nil)))
 (pss_one (ps_ret pe_bl)))), ?_⟩
    obtain ⟨v, d, rfl, hd, sz, hQ⟩ := h
    refine isx_go (kx_tup d) (fun Q q => ⟨_, rfl, q⟩) hd ⟨_, rfl, ?_⟩
    cases hT : isTup d with
    | false =>
      refine iteT ?_
      have z : lotD 60 d = false := by cases d <;> first | rfl | cases hT
      rw [z] at hQ
      exact hQ
    | true =>
      obtain ⟨ds, rfl⟩ := isTup_tup hT
      obtain ⟨a, us, rfl, ha, hr'⟩ := Dx.tup_inv hd
      have lu := dxAll_len hr'
      have l9 := sz ds rfl
      refine iteF ⟨_, rfl, _, _, rfl, .inr ⟨us, st_of ha, rfl⟩, us.length, rfl, by omega, by omega, ?_⟩
      rw [Int.toNat_natCast]
      refine for_it (walk_range (lo := 0) (n := us.length)) (fun i σ H' => H' = H ∧ ∃ lo o, σ = [some (.ref a), o] ∧ lotFrom 60 lo (ds.drop i) = lotD 60 (.tuple ds) ∧ (i = 0 → lo = 0) ∧ (0 < i → ∃ n, us[i - 1]? = some (.int n) ∧ lo = n + 1 ∧ 0 ≤ n)) ⟨rfl, 0, _, rfl, rfl, fun _ => rfl, fun h => absurd h (Nat.lt_irrefl 0)⟩ (fun _ _ _ _ _ => True.intro) ?_ (fun σ H' p => ?_)
      · rintro i x σ H1 H2 hi ⟨rfl, lo, o, rfl, hlo, c0, c1⟩ ⟨rfl, rfl⟩
        have di : ds[i]? = some ds[i] := List.getElem?_eq_getElem (by omega)
        have ui : us[i]? = some us[i] := List.getElem?_eq_getElem hi
        have dx := DxAll.at hr' ui di
        have at_ : atI us (0 + ((i : Nat) : Int)) = some us[i] := by rw [Int.zero_add]; exact atI_nat ui
        rw [List.drop_eq_getElem_cons (by omega : i < ds.length)] at hlo
        generalize ds[i] = e at dx hlo
        generalize us[i] = y at dx at_ ui
        simp only [lotFrom] at hlo
        have lo0 : 0 ≤ lo := by
          rcases Nat.eq_zero_or_pos i with z | z
          · rw [c0 z]
            exact Int.le_refl 0
          · obtain ⟨n, _, e2, n0⟩ := c1 z
            omega
        refine ⟨_, rfl, _, rfl, a, us, _, y, rfl, rfl, st_of ha, at_, y, e, 60, rfl, dx, _, rfl, ?_⟩
        cases hf : V2.fromTo 0 (60 - 1) e with
        | false =>
          rw [from_lo lo0 hf, Bool.false_and] at hlo
          rw [← hlo] at hQ
          exact iteT (iteT hQ)
        | true =>
          obtain ⟨n, rfl, n1, n2⟩ := fromTo_int hf
          obtain rfl := Dx.int_inv dx
          refine iteF ⟨_, rfl, _, _, rfl, rfl, _, rfl, ite2 (fun e1 => ?_) (fun e1 => ?_)⟩
          · have i0 : 0 < i := by
              have z := of_decide_eq_true e1
              omega
            obtain ⟨m, um, rfl, m0⟩ := c1 i0
            have at2 : atI us (0 + ((i : Nat) : Int) - 1) = some (.int m) := by
              have z : (0 + ((i : Nat) : Int) - 1) = ((i - 1 : Nat) : Int) := by omega
              rw [z]
              exact atI_nat um
            refine ⟨_, rfl, _, rfl, a, us, _, _, rfl, rfl, st_of ha, at_, _, rfl, _, rfl, _, _, rfl, rfl, a, us, _, _, rfl, rfl, st_of ha, at2, _, _, rfl, rfl, _, rfl, ite2 (fun e2 => ?_) (fun e2 => ?_)⟩
            · have z : V2.fromTo (m + 1) (60 - 1) (.int n) = false := by
                have e3 := of_decide_eq_true e2
                show (decide (m + 1 ≤ n) && _) = false
                rw [decide_eq_false (by omega), Bool.false_and]
              rw [z, Bool.false_and] at hlo
              rw [← hlo] at hQ
              exact hQ
            · have e3 : ¬ n ≤ m := by simpa using e2
              have z : V2.fromTo (m + 1) (60 - 1) (.int n) = true := by
                show (decide (m + 1 ≤ n) && decide (n ≤ 60 - 1)) = true
                rw [decide_eq_true (by omega), decide_eq_true n2]
                rfl
              rw [z, Bool.true_and] at hlo
              exact ⟨rfl, _, _, rfl, hlo, fun h => absurd h (by omega), fun _ => ⟨n, ui, rfl, n1⟩⟩
          · have i0 : i = 0 := by
              rcases Nat.eq_zero_or_pos i with z | z
              · exact z
              · exact absurd (decide_eq_true (by omega : (0 : Int) < 0 + ((i : Nat) : Int))) e1
            have l0 := c0 i0
            subst l0
            rw [hf, Bool.true_and] at hlo
            exact iteF ⟨rfl, _, _, rfl, hlo, fun h => absurd h (by omega), fun _ => ⟨n, ui, rfl, n1⟩⟩
      · obtain ⟨rfl, lo, x, rfl, hlo, _⟩ := p
        rw [List.drop_of_length_le (by omega)] at hlo
        rw [← hlo] at hQ
        exact hQ
theorem ok_part (T : Tx K mg) : Has P w K mg base CX0 3 "_law_part" ["gone", "turns"] spPart := by
  obtain ⟨fd, F⟩ := T.c.def_ 22 (d := d__law_part) rfl
  have Hr := ok_rising (P := P) (w := w) (base := base) T
  have Hn := ok_number (P := P) (w := w) (base := base) T
  have Ht := ok_isThing (P := P) (w := w) (base := base) T
  refine ⟨fd, F.ok scPart (fun vs H Q E h => ?_) (fun cdv A outer s H vs Q E hr h => ?_), FunD.bindsN F fun _ _ _ _ _ _ us hl => match us, hl with | [_, _], _ => rfl, F.kp, (T.glo 31 rfl)⟩
  · obtain ⟨v1, v2, d1, d2, rfl, _⟩ := h
    rfl
  · refine ⟨_, PSs.nox (pss_cons (ps_if (pt_not (pt_val (pe_has Hr (hr.mono (by decide)) pass0 (pa_cons (pv 0) pa_nil))))
 (pss_one (ps_ret pe_str))
 pss_nil)
 (pss_cons (ps_if (pt_not (pt_val (pe_callB call_isi (by rfl) (T.free 46 rfl) (by decide +kernel) (pa_cons (pv 1) (pa_cons (pe_bltn (v := .ty "tuple") (by rfl) (T.free 51 rfl) (by decide +kernel) rfl) pa_nil)))))
 (pss_one (ps_ret pe_str))
 pss_nil)
 (pss_cons (ps_for PassesOwn.never rfl (pi_range1 (by rfl) (T.free 49 rfl) (pa_cons (pe_callB call_len (by rfl) (T.free 47 rfl) PySem.boot_len (pa_cons (pv 1) pa_nil)) pa_nil)) (pg_name (i := 2) scPart.nd rfl (Or.inl rfl))
 (pss_cons (ps_set (i := 3) scPart.nd rfl (Or.inl rfl) (pe_ix ix_tup (pv 1) (pv 2) (fun _ _ => rfl)))
 (pss_cons (ps_if (PW.pt (pw_or (pt_not (pt_val (pe_callB call_isi (by rfl) (T.free 46 rfl) (by decide +kernel) (pa_cons (pv 3) (pa_cons (pe_bltn (v := .ty "tuple") (by rfl) (T.free 51 rfl) (by decide +kernel) rfl) pa_nil))))) (pw_or (pt_cmpR op_ne (pe_callB call_len (by rfl) (T.free 47 rfl) PySem.boot_len (pa_cons (pv 3) pa_nil)) pe_int (nomark _)) (pw_or1 (pt_not (pt_val (pe_has Hn (hr.mono (by decide)) pass0 (pa_cons (pe_ix ix_tup (pv 3) pe_int (fun _ _ => rfl)) (pa_cons pe_int pa_nil)))))))))
 (pss_one (ps_ret (pv 2)))
 pss_nil)
 (pss_one (ps_if (PW.pt (pw_or (pt_not (pt_val (pe_has Ht (hr.mono (by decide)) pass0 (pa_cons (pe_ix ix_tup (pv 3) pe_int (fun _ _ => rfl)) pa_nil)))) (pw_or (PW.pt (pw_and (pt_cmpR op_gt (pv 2) pe_int (nomark _)) (pw_and1 (pt_cmpR op_le (pe_ix ix_tup (pv 3) pe_int (fun _ _ => rfl)) (pe_ix ix_tup (pe_ix ix_tup (pv 1) (pe_op op_sub (pv 2) pe_int) (fun _ _ => rfl)) pe_int (fun _ _ => rfl)) (nomark _))))) (pw_or1 (pt_cmpR op_in_seq (pe_ix ix_tup (pv 3) pe_int (fun _ _ => rfl)) (pv 0) (by rfl))))))
 (pss_one (ps_ret (pv 2)))
 pss_nil)))))
 (pss_one (ps_ret pe_str))))), ?_⟩
    obtain ⟨v1, v2, d1, d2, rfl, h1, h2, z1, z2, hQ⟩ := h
    refine ⟨_, rfl, v1, d1, rfl, h1, z1, _, rfl, ?_⟩
    cases hL : lotD 60 d1 with
    | false =>
      have z : partV d1 d2 = .str "lost" := by
        unfold partV partOf
        rw [hL]
        rfl
      rw [z] at hQ
      exact iteT (hQ H (Same.refl H))
    | true =>
    refine iteF ?_
    obtain ⟨ty, tyx, kk⟩ := kx_of (kx_tup d2) h2
    refine ⟨_, rfl, v2, .ty "tuple", _, _, _, rfl, .ty "tuple", tyx, kk, _, rfl, ?_⟩
    cases hT : isTup d2 with
    | false =>
      refine iteT ?_
      have z : partV d1 d2 = .str "turned" := by
        unfold partV partOf
        rw [if_pos hL]
        cases d2 <;> first | rfl | cases hT
      rw [z] at hQ
      exact hQ H (Same.refl H)
    | true =>
    refine iteF ?_
    obtain ⟨ds, rfl⟩ := isTup_tup hT
    obtain ⟨gs, rfl⟩ : ∃ gs, d1 = .tuple gs := by
      cases d1 <;> first | exact ⟨_, rfl⟩ | cases hL
    obtain ⟨ns, rfl, up, bd⟩ := lot_ints (m := 60) (lo := 0) (ds := gs) hL
    obtain ⟨b, us, rfl, hb, hr'⟩ := Dx.tup_inv h2
    obtain ⟨g, vs, rfl, hg, hgr⟩ := Dx.tup_inv h1
    obtain rfl : vs = ns.map V.int := ints_inv hgr
    have lu := dxAll_len hr'
    obtain ⟨l5, z2⟩ := z2 ds rfl
    have pn : (∀ i, i < ds.length → okT ns ds i = true) → partV (.tuple (ns.map PyData.int)) (.tuple ds) = .str "let" := fun h => by
      unfold partV partOf
      rw [if_pos hL]
      simp only [ints_of_map, firstBad_none h]
      rfl
    have ps : ∀ i, i < ds.length → okT ns ds i = false → (∀ j, j < i → okT ns ds j = true) → partV (.tuple (ns.map PyData.int)) (.tuple ds) = .int (i : Nat) := fun i hi h k => by
      unfold partV partOf
      rw [if_pos hL]
      simp only [ints_of_map, firstBad_some hi h k]
      rfl
    refine ⟨_, rfl, _, _, rfl, .inr ⟨us, st_of hb, rfl⟩, us.length, rfl, by omega, by omega, ?_⟩
    rw [Int.toNat_natCast]
    refine for_it (walk_range (lo := 0) (n := us.length)) (fun i σ H' => Same H H' ∧ (∃ o1 o2, σ = [some (.ref g), some (.ref b), o1, o2]) ∧ ∀ j, j < i → okT ns ds j = true) ⟨Same.refl H, ⟨_, _, rfl⟩, fun j hj => absurd hj (Nat.not_lt_zero j)⟩ (fun _ _ _ _ _ => True.intro) ?_ (fun σ H' p => ?_)
    · rintro i x σ H1 H2 hi ⟨s1, ⟨o1, o2, rfl⟩, hok⟩ ⟨rfl, rfl⟩
      have hi' : i < ds.length := by omega
      have ui : us[i]? = some us[i] := List.getElem?_eq_getElem hi
      have hv : Dx H2 us[i] (ds.getD i .none) := Dx.same s1 _ _ (DxAll.at hr' ui (getD_at hi'))
      have szi : sizeD (ds.getD i .none) ≤ 4000 := z2 _ (by
        have z : ds.getD i .none = ds[i] := by simp [List.getD, hi']
        rw [z]
        exact List.getElem_mem hi')
      have at_ : atI us (0 + ((i : Nat) : Int)) = some us[i] := by rw [Int.zero_add]; exact atI_nat ui
      generalize us[i] = y at hv at_ ui
      have bad : okT ns ds i = false → ∀ Z, Same H Z → Q (.int (0 + ((i : Nat) : Int))) Z := fun e Z s => by
        have z := hQ Z s
        rw [ps i hi' e hok] at z
        rw [Int.zero_add]
        exact z
      have look_ : okT ns ds i = (turnedD (ds.getD i .none) && (!(decide (0 < i) && decide (keyOf (ds.getD i .none) ≤ keyOf (ds.getD (i - 1) .none))) && !ns.contains (keyOf (ds.getD i .none)))) := rfl
      refine ⟨_, rfl, _, rfl, b, us, _, y, rfl, rfl, st_of (s1 _ _ hb), at_, ?_⟩
      obtain ⟨ty, tyx, kk⟩ := kx_of (kx_tup (ds.getD i .none)) hv
      refine ⟨_, rfl, y, .ty "tuple", _, _, _, rfl, .ty "tuple", tyx, kk, _, rfl, ?_⟩
      cases hT2 : isTup (ds.getD i .none) with
      | false =>
        refine iteT (iteT ⟨_, rfl, bad ?_ _ s1⟩)
        have z : turnedD (ds.getD i .none) = false := by
          generalize ds.getD i .none = d at hT2
          cases d <;> first | rfl | cases hT2
        rw [look_, z, Bool.false_and]
      | true =>
      obtain ⟨es, ees⟩ := isTup_tup hT2
      have kn0 : keyOf (ds.getD i .none) = keyOf (.tuple es) := by rw [ees]
      have tn0 : turnedD (ds.getD i .none) = turnedD (.tuple es) := by rw [ees]
      rw [ees] at hv szi
      obtain ⟨q, ws, rfl, hq, hw⟩ := Dx.tup_inv hv
      have lw := dxAll_len hw
      refine iteF ⟨_, rfl, _, _, rfl, .inr ⟨ws, st_of hq, rfl⟩, rfl, _, rfl, ite2 (fun e => ?_) (fun e => ?_)⟩
      · refine iteT ⟨_, rfl, bad ?_ _ s1⟩
        have z : turnedD (.tuple es) = false := by
          match es, lw with
          | [], _ => rfl
          | [_], _ => rfl
          | _ :: _ :: _ :: _, _ => rfl
          | [_, _], lw => exact absurd e (by simp [lw])
        rw [look_, tn0, z, Bool.false_and]
      · obtain ⟨x1, x2, rfl⟩ : ∃ x1 x2, es = [x1, x2] := by
          match es, lw with
          | [x1, x2], _ => exact ⟨x1, x2, rfl⟩
          | [], lw => exact absurd (by simp [lw]) e
          | [_], lw => exact absurd (by simp [lw]) e
          | _ :: _ :: _ :: _, lw => exact absurd (by simp [lw]; omega) e
        cases hw with | @cons va _ _ _ qa r1 =>
        cases r1 with | @cons vb _ _ _ qb r2 =>
        cases r2
        refine ⟨_, rfl, q, _, 0, va, rfl, rfl, st_of hq, rfl, va, x1, 60, rfl, qa, _, rfl, ?_⟩
        have td : turnedD (.tuple [x1, x2]) = (V2.fromTo 0 59 x1 && thingD x2) := rfl
        cases hf : V2.fromTo 0 (60 - 1) x1 with
        | false =>
          refine iteT ⟨_, rfl, bad ?_ _ s1⟩
          rw [look_, tn0, td, show V2.fromTo 0 59 x1 = false from hf, Bool.false_and, Bool.false_and]
        | true =>
        refine iteF ?_
        obtain ⟨n, rfl, n1, n2⟩ := fromTo_int hf
        obtain rfl := Dx.int_inv qa
        have kn : keyOf (ds.getD i .none) = n := kn0
        refine ⟨_, rfl, q, _, 1, vb, rfl, rfl, st_of hq, rfl, vb, x2, rfl, qb, (by simp [sizeD, sizeAll] at szi; omega), fun H4 s4 => ⟨_, rfl, ?_⟩⟩
        have s14 := s1.trans s4
        have hq4 := s4 _ _ hq
        have hg4 := s14 _ _ hg
        have hb4 := s14 _ _ hb
        cases hth : thingD x2 with
        | false =>
          refine iteT (iteT ⟨_, rfl, bad ?_ _ s14⟩)
          rw [look_, tn0, td, hth, Bool.and_false, Bool.false_and]
        | true =>
        have turn_ : turnedD (ds.getD i .none) = true := by
          rw [tn0, td, hth, show V2.fromTo 0 59 (.int n) = true from hf]
          rfl
        refine iteF ⟨_, rfl, _, _, rfl, rfl, _, rfl, ite2 (fun e1 => ?_) (fun e1 => ?_)⟩
        · have i0 : 0 < i := by
            have z := of_decide_eq_true e1
            omega
          obtain ⟨n', b', hd', _, _, _⟩ := turned_inv (Bool.and_eq_true_iff.mp (hok (i - 1) (by omega))).1
          have hj : i - 1 < ds.length := by omega
          have ej : us[i - 1]? = some (us.getD (i - 1) .non) := by
            rw [List.getElem?_eq_getElem (by omega : i - 1 < us.length)]
            simp [List.getD, (by omega : i - 1 < us.length)]
          have hv' : Dx H4 (us.getD (i - 1) .non) (.tuple [.int n', b']) := by
            rw [← hd']
            exact Dx.same s14 _ _ (DxAll.at hr' ej (getD_at hj))
          obtain ⟨q', ws', eq', hq', hw'⟩ := Dx.tup_inv hv'
          rw [eq'] at ej
          cases hw' with | @cons va' _ _ _ qa' r1' =>
          cases r1' with | @cons vb' _ _ _ qb' r2' =>
          cases r2'
          obtain rfl := Dx.int_inv qa'
          have kn' : keyOf (ds.getD (i - 1) .none) = n' := by rw [hd']; rfl
          have at' : atI us (0 + (i : Int) - 1) = some (.ref q') := by
            have z : (0 + (i : Int) - 1) = ((i - 1 : Nat) : Int) := by omega
            rw [z]
            exact atI_nat ej
          refine ⟨_, rfl, q, _, 0, _, rfl, rfl, st_of hq4, rfl, _, rfl, _, rfl, _, _, rfl, rfl, b, us, _, _, rfl, rfl, st_of hb4, at', q', _, 0, _, rfl, rfl, st_of hq', rfl, _, _, rfl, rfl, _, rfl, ite2 (fun e2 => ?_) (fun e2 => ?_)⟩
          · refine iteT ⟨_, rfl, bad ?_ _ s14⟩
            have z : (decide (0 < i) && decide (keyOf (ds.getD i .none) ≤ keyOf (ds.getD (i - 1) .none))) = true := by
              rw [decide_eq_true i0, kn, kn', Bool.true_and]
              exact e2
            rw [look_, turn_, z]
            rfl
          · have low : (decide (0 < i) && decide (keyOf (ds.getD i .none) ≤ keyOf (ds.getD (i - 1) .none))) = false := by
              rw [decide_eq_true i0, kn, kn', Bool.true_and]
              simpa using e2
            refine ⟨_, rfl, q, _, 0, _, rfl, rfl, st_of hq4, rfl, _, rfl, g, _, rfl, .inr (st_of hg4), rfl, by simp [flatV], _, rfl, ?_⟩
            have kp : (if false = true then !inV (.int n) (ns.map V.int) else inV (.int n) (ns.map V.int)) = ns.contains n := by rw [if_neg Bool.false_ne_true, inV_ints]
            rw [kp]
            refine ite2 (fun c => ?_) (fun c => ?_)
            · refine ⟨_, rfl, bad ?_ _ s14⟩
              rw [look_, turn_, low, kn, c]
              rfl
            · refine ⟨s14, ⟨_, _, rfl⟩, fun j hj => ?_⟩
              by_cases ej : j = i
              · rw [ej, look_, turn_, low, kn, show ns.contains n = false by simpa using c]
                rfl
              · exact hok j (by omega)
        · have low : (decide (0 < i) && decide (keyOf (ds.getD i .none) ≤ keyOf (ds.getD (i - 1) .none))) = false := by
            have z : decide (0 < i) = false := by
              refine decide_eq_false fun z => e1 (decide_eq_true ?_)
              omega
            rw [z, Bool.false_and]
          refine iteF ?_
          refine ⟨_, rfl, q, _, 0, _, rfl, rfl, st_of hq4, rfl, _, rfl, g, _, rfl, .inr (st_of hg4), rfl, by simp [flatV], _, rfl, ?_⟩
          have kp : (if false = true then !inV (.int n) (ns.map V.int) else inV (.int n) (ns.map V.int)) = ns.contains n := by rw [if_neg Bool.false_ne_true, inV_ints]
          rw [kp]
          refine ite2 (fun c => ?_) (fun c => ?_)
          · refine ⟨_, rfl, bad ?_ _ s14⟩
            rw [look_, turn_, low, kn, c]
            rfl
          · refine ⟨s14, ⟨_, _, rfl⟩, fun j hj => ?_⟩
            by_cases ej : j = i
            · rw [ej, look_, turn_, low, kn, show ns.contains n = false by simpa using c]
              rfl
            · exact hok j (by omega)
    · have z := hQ H' p.1
      rw [pn fun i hi => p.2.2 i (by omega)] at z
      obtain ⟨_, ⟨o1, o2, rfl⟩, _⟩ := p
      exact z
end
end K11

set_option maxHeartbeats 4000000
namespace V2
open PySem PySem.Spec PyProof.Rows L2 V1
def rIsB : V → V → Hp → VK → Prop := fun x y H Q => ∃ b, y = .bl b ∧ Q (.bl (decide (x = .bl b))) H
theorem op_isB {X : Cx} : OpR X (compareOp .Is) rIsB := by
  intro pins s σ H x y v u Q I rx ry h
  obtain ⟨b, rfl, q⟩ := h
  cases (show u = Value.bool b from ry)
  have z : ∀ (c : Bool), plainIs v (.bool b) = true → (v == Value.bool b) = c → c = decide (x = .bl b) → wpAny (model X.prog X.w) X.A (compareOp .Is v (.bool b)) (EP X pins σ Q) X.xe s := fun c h1 h2 h3 => by
    subst h3
    exact wpAny_is_plain h1 (by rw [h2]; exact ⟨.bl _, H, I, rfl, q⟩)
  cases x with
  | bl a =>
    cases (show v = Value.bool a from rx)
    refine z (a == b) rfl (by cases a <;> cases b <;> rfl) (by cases a <;> cases b <;> rfl)
  | non => cases (show v = Value.none from rx); exact z false rfl rfl rfl
  | int i => obtain ⟨t, rfl⟩ := rx; exact z false rfl rfl rfl
  | str i => obtain ⟨t, rfl⟩ := rx; exact z false rfl rfl rfl
  | byt i => obtain ⟨t, rfl⟩ := rx; exact z false rfl rfl rfl
  | flt i => obtain ⟨t, rfl⟩ := rx; exact z false rfl rfl rfl
  | ref i => cases rx; exact z false rfl rfl rfl
  | ty i => cases rx; exact z false rfl rfl rfl
end V2
namespace K11
open PySem PySem.Spec PyProof.Rows L2 V1 V2 V3
open Evl (pss_cut tCut sq_of st_of)
/-- tuples stay -/
def TupS (H H' : Hp) : Prop := ∀ b xs, H b = some (.tup xs) → H' b = some (.tup xs)
theorem TupS.of {H H' : Hp} (s : Same H H') : TupS H H' := fun b xs e => s _ _ e
theorem TupS.trans {H H1 H2 : Hp} (s : TupS H H1) (t : TupS H1 H2) : TupS H H2 := fun b xs e => t _ _ (s _ _ e)
mutual
/-- things lie in tuples alone -/
theorem thing_same [CurK] {H H' : Hp} (s : TupS H H') : ∀ (d : PyData) (v : V), thingD d = true → Dx H v d → Dx H' v d
  | .none, _, _, h => by cases h; exact .non
  | .bool b, _, _, h => by cases h; exact .bl b
  | .int i, _, _, h => by cases h; exact .int i
  | .str x, _, _, h => by cases h; exact .str x
  | .list ds, _, t, h => by simp [thingD] at t
  | .tuple ds, _, t, h => by
    cases h with
    | tup at_ rest => exact .tup (s _ _ at_) (things_same s ds _ (by simpa [thingD] using t) rest)
  | .dict ds, _, t, h => by simp [thingD] at t
theorem things_same [CurK] {H H' : Hp} (s : TupS H H') : ∀ (ds : List PyData) (vs : List V), thingAll ds = true → DxAll H vs ds → DxAll H' vs ds
  | [], _, _, h => by cases h; exact .nil
  | d :: ds, _, t, h => by
    cases h with
    | cons one more =>
      have z : thingD d = true ∧ thingAll ds = true := by simpa [thingAll] using t
      exact .cons (thing_same s d _ z.1 one) (things_same s ds _ z.2 more)
end
theorem thingAll_of : ∀ {ds : List PyData}, (∀ d ∈ ds, thingD d = true) → thingAll ds = true
  | [], _ => rfl
  | d :: ds, h => by
    rw [thingAll, h d List.mem_cons_self, thingAll_of fun x hx => h x (List.mem_cons_of_mem _ hx)]
    rfl
theorem thingAll_mem : ∀ {ds : List PyData}, thingAll ds = true → ∀ d ∈ ds, thingD d = true
  | [], _, d, hd => absurd hd List.not_mem_nil
  | e :: ds, h, d, hd => by
    have z : thingD e = true ∧ thingAll ds = true := by simpa [thingAll] using h
    rcases List.mem_cons.mp hd with rfl | hd
    · exact z.1
    · exact thingAll_mem z.2 d hd
theorem tups_del {H : Hp} {a : Addr} {xs : List V} (h : H a = some (.lst xs)) : TupS H (delH H a) := fun b ys e => by
  have n : b ≠ a := fun z => by
    rw [z, h] at e
    cases e
  rw [delH_ne n]
  exact e
theorem HandAt.tups {H : Hp} {a : Addr} (h : HandAt H a) : TupS H (delH H a) := by
  obtain ⟨c, cs, i1, i2, i3, i4, e, _⟩ := h.ex
  exact tups_del e
theorem Go.tups {a : Addr} {H H' : Hp} (h : HandAt H a) (g : Go a H H') : TupS H H' := (h.tups.trans (TupS.of g.sm)).trans (TupS.of same_delH)
theorem Go.go_in {a D c : Addr} {H0 H H' : Hp} {o : HO} (g : Go a H0 (delH H D)) (hc : cellsOf H0 a = some (.ref c)) (cD : c ≠ D) (Da : D ≠ a) (e : H D = some o) (g' : Go a H H') : Go a H0 (delH H' D) ∧ H' D = some o := by
  have z : cellsOf H' a = some (.ref c) := g'.ce.trans (((cells_del Da).symm.trans g.ce).trans hc)
  refine ⟨⟨g'.hd.off z cD Da, (cells_del Da).trans (z.trans hc.symm), ?_⟩, same_delH _ _ (g'.sm _ _ (by rw [delH_ne Da]; exact e))⟩
  refine g.sm.trans ?_
  rw [del_comm, del_comm (H := H')]
  exact same_del g'.sm
/-- a small thing -/
structure Sm (k z : Nat) (d : PyData) : Prop where
  th : thingD d = true
  lay : d.canLay0 = true
  dp : d.depth ≤ k
  sz : sizeD d ≤ z
def smB (k z : Nat) (d : PyData) : Bool := thingD d && (d.canLay0 && (decide (d.depth ≤ k) && decide (sizeD d ≤ z)))
theorem sm_of {k z : Nat} {d : PyData} (h : smB k z d = true) : Sm k z d := by
  unfold smB at h
  simp only [Bool.and_eq_true, decide_eq_true_eq] at h
  exact ⟨h.1, h.2.1, h.2.2.1, h.2.2.2⟩
theorem Sm.mono {k z k' z' : Nat} {d : PyData} (h : Sm k z d) (a : k ≤ k') (b : z ≤ z') : Sm k' z' d := ⟨h.th, h.lay, Nat.le_trans h.dp a, Nat.le_trans h.sz b⟩
theorem sizeAll_le {z : Nat} : ∀ {ds : List PyData}, (∀ d ∈ ds, sizeD d ≤ z) → sizeAll ds ≤ z * ds.length
  | [], _ => Nat.zero_le _
  | d :: ds, h => by
    have h1 := h d List.mem_cons_self
    have h2 := sizeAll_le fun x hx => h x (List.mem_cons_of_mem _ hx)
    rw [sizeAll, List.length_cons, Nat.mul_succ]
    omega
theorem sm_tup {k z n : Nat} {ds : List PyData} (h : ∀ d ∈ ds, Sm k z d) (l : ds.length ≤ n) : Sm (k + 1) (1 + z * n) (.tuple ds) := by
  refine ⟨?_, ?_, ?_, ?_⟩
  · show thingAll ds = true
    exact thingAll_of fun d hd => (h d hd).th
  · show PyData.canLayAll0 ds = true
    exact canLayAll_of fun d hd => (h d hd).lay
  · have q := depthAll_le (n := k) fun d hd => (h d hd).dp
    simp only [PyData.depth]
    omega
  · have q := sizeAll_le fun d hd => (h d hd).sz
    have q2 : z * ds.length ≤ z * n := Nat.mul_le_mul_left z l
    show 1 + sizeAll ds ≤ _
    omega
def szn : Nat → Nat
  | 0 => 2
  | n + 1 => 1 + szn n * 3
theorem szn_ge (n : Nat) : 2 ≤ szn n := by
  cases n with
  | zero => exact Nat.le_refl 2
  | succ n =>
    have := szn_ge n
    show 2 ≤ 1 + szn n * 3
    omega
def spThg [CurK] : Nat → Sp
  | 0 => fun _ _ _ _ => False
  | n + 1 => fun vs H Q _ => ∃ a, vs = [.ref a, .int ((n : Nat) : Int)] ∧ HandAt H a ∧ ∀ H' v d, Go a H H' → Dx H' v d → Sm (n + 2) (szn n) d → Q v H'
def menuD : List PyData := [.none, .bool true, .bool false, .int 0, .int 1, .int (-1), .int (10 ^ 20 - 1), .int (1 - 10 ^ 20), .str "\n", .str "", .tuple [], .tuple [.int 0], .tuple [.bool false]]
theorem menu_sm : ∀ d ∈ menuD, smB 2 2 d = true := by decide +kernel
def teMenu : TE := tLstS (tCons (tC .non) (tCons (tC (.bl true)) (tCons (tC (.bl false)) (tCons (tC (.int 0)) (tCons (tC (.int 1)) (tCons (tUn (rU fun i => V.int (-i)) (tC (.int 1))) (tCons (tOp (rI0 fun i j => V.int (i - j)) (tOp (rI CPow fun i j => V.int (i ^ j.toNat)) (tC (.int 10)) (tC (.int 20))) (tC (.int 1))) (tCons (tOp (rI0 fun i j => V.int (i - j)) (tC (.int 1)) (tOp (rI CPow fun i j => V.int (i ^ j.toNat)) (tC (.int 10)) (tC (.int 20)))) (tCons (tC (.str (Str.ofString "\n"))) (tCons (tC (.str (Str.ofString ""))) (tCons (tTup tNil) (tCons (tTup (tCons (tC (.int 0)) tNil)) (tCons (tTup (tCons (tC (.bl false)) tNil)) tNil)))))))))))))
theorem mkn_neg {σ : L2.St} (k : Int) : MkN (tUn (rU fun i => V.int (-i)) (tC (.int k))) σ (.int (-k)) := fun H _ q => ⟨k, rfl, q _ H (Same.refl H) (.int _)⟩
theorem mkn_p1 {σ : L2.St} : MkN (tOp (rI0 fun i j => V.int (i - j)) (tOp (rI CPow fun i j => V.int (i ^ j.toNat)) (tC (.int 10)) (tC (.int 20))) (tC (.int 1))) σ (.int (10 ^ 20 - 1)) := fun H _ q => ⟨10, 20, rfl, rfl, ⟨by decide, by decide, by decide⟩, _, _, rfl, rfl, q _ H (Same.refl H) (.int _)⟩
theorem mkn_p2 {σ : L2.St} : MkN (tOp (rI0 fun i j => V.int (i - j)) (tC (.int 1)) (tOp (rI CPow fun i j => V.int (i ^ j.toNat)) (tC (.int 10)) (tC (.int 20)))) σ (.int (1 - 10 ^ 20)) := fun H _ q => ⟨10, 20, rfl, rfl, ⟨by decide, by decide, by decide⟩, _, _, rfl, rfl, q _ H (Same.refl H) (.int _)⟩
theorem mkn_menu {σ : L2.St} : MkN teMenu σ (.list menuD) := mkn_lst (mkna_cons mkn_non (mkna_cons (mkn_bl true) (mkna_cons (mkn_bl false) (mkna_cons (mkn_int 0) (mkna_cons (mkn_int 1) (mkna_cons (mkn_neg 1) (mkna_cons mkn_p1 (mkna_cons mkn_p2 (mkna_cons (mkn_str _) (mkna_cons (mkn_str _) (mkna_cons (mkn_tup mkna_nil (Nat.zero_le _)) (mkna_cons (mkn_tup (mkna_cons (mkn_int 0) mkna_nil) (by show 1 ≤ 1000; decide)) (mkna_cons (mkn_tup (mkna_cons (mkn_bl false) mkna_nil) (by show 1 ≤ 1000; decide)) mkna_nil))))))))))))) (by show 13 ≤ 1000; decide)
theorem scThg : FnScope ["hand", "deep", "kind", "turn"] ["hand", "deep"] (defScope s__law_thing) := ⟨rfl, rfl, rfl, by decide +kernel, rfl, by decide +kernel, by decide +kernel⟩
section
variable [CurK] {P : Program} {w : World} {mg : Str → Option Value} {base : Heap}
theorem ok_thg (T : Tx K mg) : ∀ n : Nat, Has P w K mg base CX0 (n + 4) "_law_thing" ["hand", "deep"] (spThg n)
  | 0 => by
    obtain ⟨fd, F⟩ := T.c.def_ 19 (d := d__law_thing) rfl
    exact ⟨fd, ⟨fun _ _ _ _ h => h.elim, fun _ _ _ _ _ _ _ _ _ _ _ _ _ h => h.elim⟩, FunD.bindsN F fun _ _ _ _ _ _ us hl => match us, hl with | [_, _], _ => rfl, F.kp, (T.glo 28 rfl)⟩
  | n + 1 => by
    obtain ⟨fd, F⟩ := T.c.def_ 19 (d := d__law_thing) rfl
    have Hr := ok_thg T n
    have Hd := ok_draw (P := P) (w := w) (base := base) T
    have Hs := ok_some (P := P) (w := w) (base := base) T
    have Hw := ok_word (P := P) (w := w) (base := base) T
    refine ⟨fd, F.ok scThg (fun vs H Q E h => ?_) (fun cdv A outer s H vs Q E hr h => ?_), FunD.bindsN F fun _ _ _ _ _ _ us hl => match us, hl with | [_, _], _ => rfl, F.kp, (T.glo 28 rfl)⟩
    · obtain ⟨a, rfl, _⟩ := h
      rfl
    · refine ⟨_, PSs.nox (pss_cons (ps_set (i := 2) scThg.nd rfl (Or.inl rfl) (pe_has Hd (hr.mono (by omega)) pass0 (pa_cons (pv 0) (pa_cons (pe_ifExp (pt_cmpR op_gt (pv 1) pe_int (nomark _)) pe_int pe_int) pa_nil))))
 (pss_cons (ps_if (pt_cmpR op_lt (pv 2) pe_int (nomark _))
 (pss_one (ps_ret (pe_has Hs (hr.mono (by omega)) pass0 (pa_cons (pv 0) (pa_cons (pe_lstS (pa_cons pe_non (pa_cons pe_bl (pa_cons pe_bl (pa_cons pe_int (pa_cons pe_int (pa_cons (pe_un un_neg pe_int) (pa_cons (pe_op op_sub (pe_op op_pow pe_int pe_int) pe_int) (pa_cons (pe_op op_sub pe_int (pe_op op_pow pe_int pe_int)) (pa_cons pe_str (pa_cons pe_str (pa_cons (pe_tup pa_nil) (pa_cons (pe_tup (pa_cons pe_int pa_nil)) (pa_cons (pe_tup (pa_cons pe_bl pa_nil)) pa_nil)))))))))))))) pa_nil)))))
 pss_nil)
 (pss_cons (ps_if (pt_cmpR op_lt (pv 2) pe_int (nomark _))
 (pss_one (ps_ret (pe_ifExp (pt_cmpR op_lt (pv 2) pe_int (nomark _)) (pe_has Hw (hr.mono (by omega)) pass0 (pa_cons (pv 0) pa_nil)) (pe_op op_sub (pe_has Hd (hr.mono (by omega)) pass0 (pa_cons (pv 0) (pa_cons pe_int pa_nil))) pe_int))))
 pss_nil)
 (pss_one (ps_ret (pe_callTy call_tuple_of (by rfl) (T.free 51 rfl) (by decide +kernel) (pa_cons (pe_lc (own := [("turn", 3)]) (g := gName 3) (tt := tYes) (te := tCall (spThg n) [] (fun _ _ _ => False) (tCons (tVar 0) (tCons (tOp (rI0 fun i j => V.int (i - j)) (tVar 1) (tC (.int 1))) tNil))) (by rfl) scThg.nd (pi_range1 (by rfl) (T.free 49 rfl) (pa_cons (pe_has Hd (hr.mono (by omega)) pass0 (pa_cons (pv 0) (pa_cons pe_int pa_nil))) pa_nil))
 (blkOk_by (own := [("turn", 3)]) (N := ["hand", "deep", "kind", "turn"]) (sc := defScope s__law_thing) (by decide +kernel)) (fun _ _ _ _ _ => pg_name (i := 3) scThg.nd rfl (Or.inl rfl)) (fun _ _ _ _ _ => pts_nil) (fun _ _ _ _ _ => (pe_has Hr (hr) pass0 (pa_cons (pv 0) (pa_cons (pe_op op_sub (pv 1) pe_int) pa_nil))))) pa_nil))))))), ?_⟩
      obtain ⟨a, rfl, hd, hQ⟩ := h
      have fin : ∀ {H' v d k z}, Go a H H' → Dx H' v d → Sm k z d → k ≤ 2 → z ≤ 2 → Q v H' := fun g q sm hk hz => hQ _ _ _ g q (sm.mono (by omega) (by have := szn_ge n; omega))
      refine ⟨_, rfl, _, rfl, _, _, rfl, rfl, _, rfl, ite2 (fun e => ?_) (fun e => ?_)⟩
      all_goals
        refine ⟨a, _, rfl, hd, by decide, by decide, fun H1 kd hd1 e1 c1 k0 k1 => ?_⟩
        have g1 := Go.draw hd1 e1 c1
        refine ⟨_, rfl, _, _, rfl, rfl, _, rfl, ite2 (fun e2 => ?_) (fun e2 => ?_)⟩
        · refine ⟨_, rfl, ?_⟩
          refine mkn_menu H1 _ fun v H2 s2 q2 => ?_
          exact some_data (hand_same hd1 s2) (Dx.same (newH_off hd1.held) _ _ (dx_of _ _ q2)) (.inl rfl) (by decide) (by decide) fun H3 w d g3 m q3 => fin ((g1.trans (Go.new hd1 s2)).trans g3) (Dx.same same_delH _ _ q3) (sm_of (menu_sm d m)) (Nat.le_refl _) (Nat.le_refl _)
        refine ⟨_, rfl, _, _, rfl, rfl, _, rfl, ite2 (fun e3 => ?_) (fun e3 => ?_)⟩
        · refine ⟨_, rfl, _, _, rfl, rfl, _, rfl, ite2 (fun e4 => ?_) (fun e4 => ?_)⟩
          · exact ⟨_, rfl, a, rfl, hd1, fun H2 x g2 ok => fin (g1.trans g2) (.str x) (k := 2) (z := 2) ⟨rfl, ok, by simp [PyData.depth], by simp [sizeD]⟩ (Nat.le_refl _) (Nat.le_refl _)⟩
          · exact ⟨_, rfl, a, 1000, rfl, hd1, by decide, by decide, fun H2 r hd2 e5 c2 r0 r1 => ⟨_, _, rfl, rfl, fin (g1.trans (Go.draw hd2 e5 c2)) (.int _) (k := 2) (z := 2) ⟨rfl, rfl, by simp [PyData.depth], by simp [sizeD]⟩ (Nat.le_refl _) (Nat.le_refl _)⟩⟩
        have e3' : ¬ kd < 6 := by simpa using e3
        have n0 : n ≠ 0 := fun z => by first | omega | (subst z; exact absurd e (by decide))
        obtain ⟨m, rfl⟩ : ∃ m, n = m + 1 := ⟨n - 1, by omega⟩
        refine ⟨_, rfl, a, 4, rfl, hd1, by decide, by decide, fun H2 r hd2 e5 c2 r0 r1 => ⟨r, rfl, by omega, by omega, fun D nD => ?_⟩⟩
        obtain ⟨j, rfl⟩ := Int.eq_ofNat_of_zero_le r0
        rw [Int.toNat_natCast]
        have g2 := g1.trans (Go.draw hd2 e5 c2)
        obtain ⟨c, cs, hce, nca, hc⟩ := hd2.cells
        have Da : D ≠ a := hd2.ne_new nD
        have cD : c ≠ D := fun z => by
          rw [← z, hc] at nD
          cases nD
        refine lc_gen (σ := [some (.ref a), some (.int (((m + 1 : Nat)) : Int)), some (.int kd), none]) (vs := [3]) (walk_range (lo := 0) (n := j)) nD (fun i acc H' => Go a H2 H' ∧ ∃ ds, DxAll H' acc ds ∧ ∀ d ∈ ds, Sm (m + 2) (szn m) d) ⟨Go.refl hd2, [], .nil, fun _ h => absurd h List.not_mem_nil⟩ (fun _ _ _ _ _ => True.intro) ?_ ?_
        · rintro i acc x H4 H5 hi l e6 ⟨g4, ds, qs, sm⟩ ⟨rfl, rfl⟩
          refine ⟨rfl, ?_⟩
          simp only [tYes, if_true]
          have h5 := hand_same g4.hd (same_delH (H := H5) (a := D))
          refine ⟨_, rfl, _, rfl, _, _, rfl, rfl, a, ?_, h5, fun H6 v d g6 q6 s6 => ?_⟩
          · show [V.ref a, V.int (((m + 1 : Nat) : Int) - 1)] = _
            rw [show (((m + 1 : Nat) : Int) - 1) = ((m : Nat) : Int) by omega]
          obtain ⟨g7, eD⟩ := g4.go_in hce cD Da e6 g6
          have t6 : TupS (delH H5 D) (delH H6 D) := ((TupS.of same_delH).trans (g6.tups h5)).trans (tups_del eD)
          refine lc_put l (by omega) eD ⟨g7, ds ++ [d], DxAll.app (things_same t6 _ _ (thingAll_of fun x hx => (sm x hx).th) qs) (.cons (thing_same (tups_del eD) _ _ s6.th q6) .nil), fun y h => ?_⟩
          rcases List.mem_append.mp h with h | h
          · exact sm y h
          · simp only [List.mem_cons, List.not_mem_nil, or_false] at h
            rw [h]
            exact s6
        · rintro acc H7 l e6 ⟨g4, ds, qs, sm⟩
          refine ⟨D, acc, rfl, .inl ⟨sq_of e6, fun p np => ?_⟩⟩
          have lq := dxAll_len qs
          have s8 := same_new (o := HO.tup acc) np
          have g8 := g2.trans (g4.undel Da)
          exact hQ _ _ (.tuple ds) (g8.trans (Go.new g8.hd s8)) (.tup upd_same (DxAll.same s8 _ _ (DxAll.same same_delH _ _ qs))) (sm_tup sm (by omega))
end
end K11

set_option maxHeartbeats 4000000
namespace K11
open PySem PySem.Spec PyProof.Rows L2 V1 V2 V3
open Evl (pss_cut tCut sq_of st_of)
mutual
def twinD : PyData → PyData
  | .bool b => .int (if b then 1 else 0)
  | .int i => if i = 0 then .bool false else if i = 1 then .bool true else .int i
  | .tuple ds => .tuple (twinAll ds)
  | d => d
def twinAll : List PyData → List PyData
  | [] => []
  | d :: ds => twinD d :: twinAll ds
end
theorem twinAll_map : ∀ ds : List PyData, twinAll ds = ds.map twinD
  | [] => rfl
  | d :: ds => by rw [twinAll, twinAll_map ds, List.map_cons]
abbrev TwOk (d : PyData) : Prop := thingD (twinD d) = true ∧ (d.canLay0 = true → (twinD d).canLay0 = true) ∧ (twinD d).depth = d.depth ∧ sizeD (twinD d) = sizeD d ∧ PyData.eqv d (twinD d) = true
theorem tw_same {d : PyData} (e : twinD d = d) (t : thingD d = true) (q : PyData.eqv d d = true) : TwOk d := by
  unfold TwOk
  rw [e]
  exact ⟨t, id, rfl, rfl, q⟩
theorem tw_int (i : Int) : TwOk (.int i) := by
  by_cases e : i = 0
  · subst e
    exact ⟨rfl, fun _ => rfl, rfl, rfl, rfl⟩
  · by_cases e1 : i = 1
    · subst e1
      exact ⟨rfl, fun _ => rfl, rfl, rfl, rfl⟩
    · refine tw_same ?_ rfl (by simp [PyData.eqv])
      show (if i = 0 then _ else if i = 1 then _ else _) = _
      rw [if_neg e, if_neg e1]
theorem tw_bool (b : Bool) : TwOk (.bool b) := by
  cases b <;> exact ⟨rfl, fun _ => rfl, rfl, rfl, rfl⟩
mutual
theorem twin_ok : ∀ d : PyData, thingD d = true → TwOk d
  | .none, _ => tw_same rfl rfl rfl
  | .bool b, _ => tw_bool b
  | .int i, _ => tw_int i
  | .str x, _ => tw_same rfl rfl (by simp [PyData.eqv])
  | .list ds, h | .dict ds, h => by simp [thingD] at h
  | .tuple ds, h => by
    obtain ⟨h1, h2, h3, h4, h5⟩ := twins_ok ds (by simpa [thingD] using h)
    refine ⟨by simpa [twinD, thingD] using h1, fun q => by simpa [twinD, PyData.canLay0] using h2 (by simpa [PyData.canLay0] using q), by simp [twinD, PyData.depth, h3], by simp [twinD, sizeD, h4], by simpa [twinD, PyData.eqv] using h5⟩
theorem twins_ok : ∀ ds : List PyData, thingAll ds = true → (thingAll (twinAll ds) = true ∧ (PyData.canLayAll0 ds = true → PyData.canLayAll0 (twinAll ds) = true) ∧ PyData.depthAll (twinAll ds) = PyData.depthAll ds ∧ sizeAll (twinAll ds) = sizeAll ds ∧ PyData.eqvAll ds (twinAll ds) = true)
  | [], _ => by simp [twinAll, thingAll, PyData.eqvAll]
  | d :: ds, h => by
    have z' : thingD d = true ∧ thingAll ds = true := by simpa [thingAll] using h
    obtain ⟨h1, h2, h3, h4, h5⟩ := twin_ok d z'.1
    obtain ⟨g1, g2, g3, g4, g5⟩ := twins_ok ds z'.2
    refine ⟨by simp [twinAll, thingAll, h1, g1], fun q => ?_, by simp [twinAll, PyData.depthAll, h3, g3], by simp [twinAll, sizeAll, h4, g4], by simp [twinAll, PyData.eqvAll, h5, g5]⟩
    have q' : d.canLay0 = true ∧ PyData.canLayAll0 ds = true := by simpa [PyData.canLayAll0] using q
    simp [twinAll, PyData.canLayAll0, h2 q'.1, g2 q'.2]
end
theorem Sm.twin {k z : Nat} {d : PyData} (h : Sm k z d) : Sm k z (twinD d) := by
  obtain ⟨h1, h2, h3, h4, _⟩ := twin_ok d h.th
  exact ⟨h1, h2 h.lay, by rw [h3]; exact h.dp, by rw [h4]; exact h.sz⟩
theorem flat_of : ∀ (n : Nat) (d : PyData), thingD d = true → d.depth ≤ n → sizeD d ≤ 900 → flatD n d = true
  | n, .none, _, _, _ => by cases n <;> rfl
  | n, .bool _, _, _, _ => by cases n <;> rfl
  | n, .int _, _, _, _ => by cases n <;> rfl
  | n, .str _, _, _, _ => by cases n <;> rfl
  | _, .list _, h, _, _ => by simp [thingD] at h
  | _, .dict _, h, _, _ => by simp [thingD] at h
  | 0, .tuple ds, _, h, _ => by simp [PyData.depth] at h
  | n + 1, .tuple ds, h, hd, hs => by
    have th : thingAll ds = true := by simpa [thingD] using h
    have dp : PyData.depthAll ds ≤ n := by
      simp only [PyData.depth] at hd
      omega
    have sz : sizeAll ds ≤ 899 := by
      simp only [sizeD] at hs
      omega
    have len := len_size ds
    simp only [flatD, Bool.and_eq_true, decide_eq_true_eq, List.all_eq_true]
    refine ⟨by omega, fun x hx => flat_of n x (thingAll_mem th x hx) ?_ ?_⟩
    · exact Nat.le_trans (depth_mem hx) dp
    · exact Nat.le_trans (size_mem hx) (by omega)
where
  depth_mem : ∀ {ds : List PyData} {x : PyData}, x ∈ ds → x.depth ≤ PyData.depthAll ds
    | d :: ds, x, h => by
      simp only [PyData.depthAll]
      rcases List.mem_cons.mp h with rfl | h
      · omega
      · have := depth_mem h
        omega
  size_mem : ∀ {ds : List PyData} {x : PyData}, x ∈ ds → sizeD x ≤ sizeAll ds
    | d :: ds, x, h => by
      simp only [sizeAll]
      rcases List.mem_cons.mp h with rfl | h
      · omega
      · have := size_mem h
        omega
theorem thing_flat : ∀ (n : Nat) (d : PyData), flatD n d = true → thingD d = true
  | n, .none, _ => rfl
  | n, .bool _, _ => rfl
  | n, .int _, _ => rfl
  | n, .str _, _ => rfl
  | n, .list _, h => by cases n <;> cases h
  | n, .dict _, h => by cases n <;> cases h
  | 0, .tuple ds, h => by cases h
  | n + 1, .tuple ds, h => by
    have z : ds.length ≤ 900 ∧ ∀ x ∈ ds, flatD n x = true := by simpa [flatD] using h
    show thingAll ds = true
    exact thingAll_of fun x hx => thing_flat n x (z.2 x hx)
def spTwin [CurK] : Nat → Sp
  | 0 => fun _ _ _ _ => False
  | n + 1 => fun vs H Q _ => ∃ v d, vs = [v] ∧ Dx H v d ∧ flatD n d = true ∧ ∀ u H', Same H H' → Dx H' u (twinD d) → Q u H'
theorem scTwin : FnScope ["thing", "one"] ["thing"] (defScope s__law_twin) := ⟨rfl, rfl, rfl, by decide +kernel, rfl, by decide +kernel, by decide +kernel⟩
theorem isT_of [CurK] {H : Hp} {v : V} {d : PyData} {b : Bool} (h : Dx H v d) : decide (v = V.bl b) = (match d with | .bool c => c == b | _ => false) := by
  cases h with
  | bl c => cases c <;> cases b <;> rfl
  | _ => rfl
section
variable [CurK] {P : Program} {w : World} {mg : Str → Option Value} {base : Heap}
theorem ok_twin (T : Tx K mg) : ∀ n : Nat, Has P w K mg base CX0 (n + 1) "_law_twin" ["thing"] (spTwin n)
  | 0 => by
    obtain ⟨fd, F⟩ := T.c.def_ 27 (d := d__law_twin) rfl
    exact ⟨fd, ⟨fun _ _ _ _ h => h.elim, fun _ _ _ _ _ _ _ _ _ _ _ _ _ h => h.elim⟩, FunD.bindsN F fun _ _ _ _ _ _ us hl => match us, hl with | [_], _ => rfl, F.kp, (T.glo 36 rfl)⟩
  | n + 1 => by
    obtain ⟨fd, F⟩ := T.c.def_ 27 (d := d__law_twin) rfl
    have Hr := ok_twin T n
    refine ⟨fd, F.ok scTwin (fun vs H Q E h => ?_) (fun cdv A outer s H vs Q E hr h => ?_), FunD.bindsN F fun _ _ _ _ _ _ us hl => match us, hl with | [_], _ => rfl, F.kp, (T.glo 36 rfl)⟩
    · obtain ⟨v, d, rfl, _⟩ := h
      rfl
    · refine ⟨_, PSs.nox (pss_cons (ps_if (PW.pt (pw_or (pt_cmpR op_isB (pv 0) pe_bl (nomark _)) (pw_or1 (pt_cmpR op_isB (pv 0) pe_bl (nomark _)))))
 (pss_one (ps_ret (pe_ifExp (pt_cmpR op_isB (pv 0) pe_bl (nomark _)) pe_int pe_int)))
 pss_nil)
 (pss_cons (ps_if (PW.pt (pw_and (pt_val (pe_callB call_isi (by rfl) (T.free 46 rfl) (by decide +kernel) (pa_cons (pv 0) (pa_cons (pe_bltn (v := .ty "int") (by rfl) (T.free 45 rfl) (by decide +kernel) rfl) pa_nil)))) (pw_and1 (PW.pt (pw_or (pt_cmpR op_eq (pv 0) pe_int (nomark _)) (pw_or1 (pt_cmpR op_eq (pv 0) pe_int (nomark _))))))))
 (pss_one (ps_ret (pe_cmpR op_eq (pv 0) pe_int (nomark _))))
 pss_nil)
 (pss_cons (ps_if (pt_val (pe_callB call_isi (by rfl) (T.free 46 rfl) (by decide +kernel) (pa_cons (pv 0) (pa_cons (pe_bltn (v := .ty "tuple") (by rfl) (T.free 51 rfl) (by decide +kernel) rfl) pa_nil))))
 (pss_one (ps_ret (pe_callTy call_tuple_of (by rfl) (T.free 51 rfl) (by decide +kernel) (pa_cons (pe_lc (own := [("one", 1)]) (g := gName 1) (tt := tYes) (te := tCall (spTwin n) [] (fun _ _ _ => False) (tCons (tVar 1) tNil)) (by rfl) scTwin.nd (pi_tup (pv 0))
 (blkOk_by (own := [("one", 1)]) (N := ["thing", "one"]) (sc := defScope s__law_twin) (by decide +kernel)) (fun _ _ _ _ _ => pg_name (i := 1) scTwin.nd rfl (Or.inl rfl)) (fun _ _ _ _ _ => pts_nil) (fun _ _ _ _ _ => (pe_has Hr (hr) pass0 (pa_cons (pv 1) pa_nil)))) pa_nil))))
 pss_nil)
 (pss_one (ps_ret (pv 0)))))), ?_⟩
      obtain ⟨v, d, rfl, hd, fl, hQ⟩ := h
      have nb : ∀ b : Bool, (∀ c, d ≠ .bool c) → V.bl (decide (v = V.bl b)) = V.bl false := fun b h => congrArg V.bl (decide_eq_false fun e => by
        subst e
        cases hd
        exact h _ rfl)
      cases d with
      | list ds => cases n <;> cases fl
      | dict ds => cases n <;> cases fl
      | bool b =>
        cases hd
        cases b with
        | true => exact ⟨_, rfl, _, rfl, true, congrArg V.bl (decide_eq_true rfl), iteT (iteT ⟨_, rfl, _, rfl, true, congrArg V.bl (decide_eq_true rfl), iteT (hQ _ _ (Same.refl _) (.int 1))⟩)⟩
        | false => exact ⟨_, rfl, _, rfl, false, congrArg V.bl (decide_eq_false fun e => nomatch e), iteF ⟨_, rfl, _, rfl, true, congrArg V.bl (decide_eq_true rfl), iteT ⟨_, rfl, _, rfl, false, congrArg V.bl (decide_eq_false fun e => nomatch e), iteF (hQ _ _ (Same.refl _) (.int 0))⟩⟩⟩
      | none =>
        refine ⟨_, rfl, _, rfl, false, nb _ (fun _ h => nomatch h), iteF ⟨_, rfl, _, rfl, false, nb _ (fun _ h => nomatch h), iteF ?_⟩⟩
        obtain ⟨ty, tyx, kk⟩ := kx_of (kx_int _) hd
        refine ⟨_, rfl, _, .ty "int", _, _, _, rfl, .ty "int", tyx, kk, false, rfl, iteF (iteF ?_)⟩
        obtain ⟨ty, tyx, kk⟩ := kx_of (kx_tup _) hd
        exact ⟨_, rfl, _, .ty "tuple", _, _, _, rfl, .ty "tuple", tyx, kk, false, rfl, iteF ⟨_, rfl, hQ _ _ (Same.refl _) hd⟩⟩
      | str x =>
        refine ⟨_, rfl, _, rfl, false, nb _ (fun _ h => nomatch h), iteF ⟨_, rfl, _, rfl, false, nb _ (fun _ h => nomatch h), iteF ?_⟩⟩
        obtain ⟨ty, tyx, kk⟩ := kx_of (kx_int _) hd
        refine ⟨_, rfl, _, .ty "int", _, _, _, rfl, .ty "int", tyx, kk, false, rfl, iteF (iteF ?_)⟩
        obtain ⟨ty, tyx, kk⟩ := kx_of (kx_tup _) hd
        exact ⟨_, rfl, _, .ty "tuple", _, _, _, rfl, .ty "tuple", tyx, kk, false, rfl, iteF ⟨_, rfl, hQ _ _ (Same.refl _) hd⟩⟩
      | int i =>
        refine ⟨_, rfl, _, rfl, false, nb _ (fun _ h => nomatch h), iteF ⟨_, rfl, _, rfl, false, nb _ (fun _ h => nomatch h), iteF ?_⟩⟩
        obtain ⟨ty, tyx, kk⟩ := kx_of (kx_int _) hd
        have tw : twinD (.int i) = if i = 0 then .bool false else if i = 1 then .bool true else .int i := rfl
        cases hd
        refine ⟨_, rfl, _, .ty "int", _, _, _, rfl, .ty "int", tyx, kk, true, rfl, iteT ⟨_, rfl, rfl, _, rfl, ite2 (fun e => ?_) (fun e => ?_)⟩⟩
        · have e' : i = 0 := by simpa [dec_int] using e
          refine iteT ⟨_, rfl, rfl, hQ _ _ (Same.refl _) ?_⟩
          rw [tw, if_pos e', e']
          exact .bl false
        have e0 : ¬ i = 0 := by simpa [dec_int] using e
        refine ⟨_, rfl, rfl, _, rfl, ite2 (fun e => ?_) (fun e => ?_)⟩
        · have e' : i = 1 := by simpa [dec_int] using e
          refine ⟨_, rfl, rfl, hQ _ _ (Same.refl _) ?_⟩
          rw [tw, if_neg e0, if_pos e', e']
          exact .bl true
        have e1 : ¬ i = 1 := by simpa [dec_int] using e
        obtain ⟨ty, tyx, kk⟩ := kx_of (kx_tup (.int i)) (Dx.int (H := H) i)
        refine ⟨_, rfl, _, .ty "tuple", _, _, _, rfl, .ty "tuple", tyx, kk, false, rfl, iteF ⟨_, rfl, hQ _ _ (Same.refl _) ?_⟩⟩
        rw [tw, if_neg e0, if_neg e1]
        exact .int i
      | tuple ds =>
        refine ⟨_, rfl, _, rfl, false, nb _ (fun _ h => nomatch h), iteF ⟨_, rfl, _, rfl, false, nb _ (fun _ h => nomatch h), iteF ?_⟩⟩
        obtain ⟨ty, tyx, kk⟩ := kx_of (kx_int _) hd
        refine ⟨_, rfl, _, .ty "int", _, _, _, rfl, .ty "int", tyx, kk, false, rfl, iteF (iteF ?_)⟩
        obtain ⟨ty, tyx, kk⟩ := kx_of (kx_tup _) hd
        refine ⟨_, rfl, _, .ty "tuple", _, _, _, rfl, .ty "tuple", tyx, kk, true, rfl, iteT ?_⟩
        obtain ⟨b, us, rfl, hb, hr'⟩ := Dx.tup_inv hd
        have lu := dxAll_len hr'
        cases n with
        | zero => cases fl
        | succ n =>
        have fl' : ds.length ≤ 900 ∧ ∀ x ∈ ds, flatD n x = true := by simpa [flatD] using fl
        refine ⟨_, rfl, b, rfl, ⟨_, st_of hb⟩, fun D nD => ?_⟩
        refine lc_gen (σ := [some (.ref b), none]) (vs := [1]) (walk_tup (K := K) (a := b) (xs := us)) nD (fun i acc H' => Same H H' ∧ DxAll H' acc ((ds.take i).map twinD)) ⟨Same.refl H, .nil⟩ (fun i acc H' _ z => st_of (same_delH _ _ (z.1 _ _ hb))) ?_ ?_
        · rintro i acc x H1 H2 hi l e ⟨sm, q⟩ ⟨rfl, hx⟩
          have hi' : i < ds.length := by omega
          have di : ds[i]? = some ds[i] := List.getElem?_eq_getElem hi'
          have sm' : Same H H2 := sm.trans same_delH
          refine ⟨rfl, ?_⟩
          simp only [tYes, if_true]
          refine ⟨_, rfl, _, ds[i], rfl, Dx.same sm' _ _ (DxAll.at hr' hx di), fl'.2 _ (List.getElem_mem hi'), fun u H3 s3 qu => ?_⟩
          refine lc_put l (by omega) (s3 _ _ e) ⟨fun b o ob => same_del s3 _ _ (sm _ _ ob), ?_⟩
          rw [List.take_succ, di, List.map_append]
          refine DxAll.app (DxAll.same (same_del s3) _ _ q) (.cons ?_ .nil)
          exact thing_same (tups_del (s3 _ _ e)) _ _ (twin_ok _ (thing_flat n _ (fl'.2 _ (List.getElem_mem hi')))).1 qu
        · rintro acc H2 l e ⟨sm, q⟩
          refine ⟨D, acc, rfl, .inl ⟨sq_of e, fun p np => ?_⟩⟩
          have s8 := same_new (o := HO.tup acc) np
          refine hQ _ _ ((sm.trans same_delH).trans s8) ?_
          show Dx _ _ (.tuple (twinAll ds))
          rw [twinAll_map]
          rw [lu, List.take_length] at q
          exact .tup upd_same (DxAll.same s8 _ _ (DxAll.same same_delH _ _ q))
end
end K11

set_option maxHeartbeats 4000000
namespace K11
open PySem PySem.Spec PyProof.Rows L2 V1 V2 V3
open Evl (pss_cut tCut sq_of st_of)
def okSz (d1 d2 : PyData) : Prop := (∀ ds, d1 = .tuple ds → ds.length ≤ 900) ∧ ∀ ds, d2 = .tuple ds → ds.length ≤ 500 ∧ ∀ d ∈ ds, sizeD d ≤ 400 ∧ d.depth ≤ 44
def spMade [CurK] : Sp := fun vs H Q _ => ∃ v1 v2 d1 d2, vs = [v1, v2] ∧ Dx H v1 d1 ∧ Dx H v2 d2 ∧ okSz d1 d2 ∧ ∀ H', Same H H' → Q (partV d1 d2) H'
theorem scMade : FnScope ["gone", "turns", "made", "e"] ["gone", "turns"] (defScope s__law_made) := ⟨rfl, rfl, rfl, by decide +kernel, rfl, by decide +kernel, by decide +kernel⟩
def clM (K : PySem.W.Frag) : Addr → Value → Option Addr → TS := fun a cls d => tRet (tIf (tAnd (tB (tCB (rIsXd K a (He.ga K "BadFaults") cls d) (tCons (tVar 3) (tCons (tC (.ref (He.ga K "TalkError"))) tNil)))) (tB (tCB (rIsXd K a (He.ga K "BadFaults") cls d) (tCons (tVar 3) (tCons (tC (.ty "ValueError")) tNil)))))
  (tXf a cls d (He.ga K "BadFaults") "part" (tVar 3)) (tC (.str "other")))
theorem flat_up : ∀ (n : Nat) (d : PyData), flatD n d = true → flatD (n + 1) d = true
  | n, .none, _ => rfl
  | n, .bool _, _ => rfl
  | n, .int _, _ => rfl
  | n, .str _, _ => rfl
  | n, .list _, h => by cases n <;> cases h
  | n, .dict _, h => by cases n <;> cases h
  | 0, .tuple ds, h => by cases h
  | n + 1, .tuple ds, h => by
    have z : ds.length ≤ 900 ∧ ∀ x ∈ ds, flatD n x = true := by simpa [flatD] using h
    have y : ds.length ≤ 900 ∧ ∀ x ∈ ds, flatD (n + 1) x = true := ⟨z.1, fun x hx => flat_up n x (z.2 x hx)⟩
    rw [flatD]
    simpa using y
section
variable [CurK] {P : Program} {w : World} {mg : Str → Option Value} {base : Heap}
theorem Tx.xf (T : Tx K mg) (i : Nat) {x : Str} (h : errs[i]? = some x) : XfC K (He.ga K x) := by
  have E := T.one i h
  exact ⟨E.ga, E.gg, by rw [E.sub]; rfl, E.hasDict⟩
theorem faults_fin {H : Hp} {Qa : Addr → Hp → Prop} {E : XK} {v1 v2 : V} {d1 d2 : PyData} (h1 : Dx H v1 d1) (h2 : Dx H v2 d2) (sz : ∀ ds, d2 = .tuple ds → ds.length ≤ 500 ∧ ∀ d ∈ ds, sizeD d ≤ 4000)
    (bad : ∀ x, partOf d1 d2 = some x → ∀ d H', H d = none → Same H H' → H' d = some (.xd [("part", x)]) → E (.ref (He.ga K "BadFaults")) (some d) H')
    (good : partOf d1 d2 = none → ∀ ns ts, d1 = .tuple (ns.map PyData.int) → d2 = .tuple (ts.map mkF) → GoodF ns ts → ∀ p H', Same H H' → H p = none → FAt H' p ns ts → Qa p H') :
    ∀ p dx, H p = none → H dx = none → dx ≠ p → spFInit [.ref p, v1, v2] (upd (upd H dx (.own p)) p (.ins (He.ga K "Faults") dx [])) (fun v H2 => v = .non ∧ Qa p H2) E :=
  fun p dx np nd ne => by
  have sm : Same H (upd (upd H dx (.own p)) p (.ins (He.ga K "Faults") dx [])) := fun b o e => by
    rw [upd_ne (ne_of_none e np), upd_ne (ne_of_none e nd)]
    exact e
  refine ⟨p, dx, v1, v2, d1, d2, rfl, upd_same, Dx.same sm _ _ h1, Dx.same sm _ _ h2, sz, fun x hx d H' nd' s' hd => bad x hx d H' (fresh_up sm nd') (sm.trans s') hd, fun hx ns ts e1 e2 gf H' st fa => ⟨rfl, good hx ns ts e1 e2 gf p H' (fun b o e => ?_) np fa⟩⟩
  exact st b o (ne_of_none e np) (sm _ _ e)
theorem dx_ints {H : Hp} {a : Addr} {ns : List Int} (e : H a = some (.tup (ns.map V.int))) : Dx H (.ref a) (.tuple (ns.map PyData.int)) := by
  refine .tup e ?_
  have z : ∀ ns : List Int, DxAll H (ns.map V.int) (ns.map PyData.int) := fun ns => by
    induction ns with
    | nil => exact .nil
    | cons n ns ih => exact .cons (.int n) ih
  exact z ns
theorem flat_ints {ns : List Int} (h : ns.length ≤ 900) (n : Nat) : flatD (n + 1) (.tuple (ns.map PyData.int)) = true := by
  simp only [flatD, List.length_map, Bool.and_eq_true, decide_eq_true_eq, List.all_eq_true]
  refine ⟨h, fun x hx => ?_⟩
  obtain ⟨l, _, rfl⟩ := List.mem_map.mp hx
  cases n <;> rfl
theorem flat_turns {ts : Tn} {ns : List Int} (g : GoodF ns ts) (h : (ts.map mkF).length ≤ 500) (z : ∀ d ∈ ts.map mkF, sizeD d ≤ 400 ∧ d.depth ≤ 44) : flatD 45 (.tuple (ts.map mkF)) = true := by
  simp only [flatD, Bool.and_eq_true, decide_eq_true_eq, List.all_eq_true]
  refine ⟨by omega, fun x hx => ?_⟩
  obtain ⟨z1, z2⟩ := z x hx
  obtain ⟨t, ht, rfl⟩ := List.mem_map.mp hx
  have th := (g.th t ht).2.2.1
  exact flat_of 44 _ (by show thingAll [.int t.1, t.2] = true; simp [thingAll, thingD, th]) z2 (by omega)
theorem ok_made (T : Tx K mg) : Has P w K mg base CX0 48 "_law_made" ["gone", "turns"] spMade := by
  obtain ⟨fd, F⟩ := T.c.def_ 23 (d := d__law_made) rfl
  have Hs := ok_finit (P := P) (w := w) (base := base) T
  have His := ok_is (P := P) (w := w) (base := base) T 46
  have cS : Cls K (He.ga K "Faults") := He.cls_ok (T.c.fact 61 rfl)
  have n1 : NoAttr K (He.ga K "Faults") "lost" := He.noat_ok (T.c.fact 63 rfl)
  have n2 : NoAttr K (He.ga K "Faults") "turned" := He.noat_ok (T.c.fact 64 rfl)
  refine ⟨fd, F.ok scMade (fun vs H Q E h => ?_) (fun cdv A outer s H vs Q E hr h => ?_), FunD.bindsN F fun _ _ _ _ _ _ us hl => match us, hl with | [_, _], _ => rfl, F.kp, (T.glo 32 rfl)⟩
  · obtain ⟨v1, v2, d1, d2, rfl, _⟩ := h
    rfl
  · refine ⟨_, PSs.nox (pss_cons (ps_try_cl (tb := fun W => tAsg (tMakeS (He.ga K "Faults") spFInit (WE W) (tCons (tVar 0) (tCons (tVar 1) tNil))) (gName 2)) (Wout := fun _ _ _ _ => False) (l := [(.ref (He.ga K "BadFaults"), some 3, clM K)]) rfl rfl scMade.nd takes0
 (fun W pn xe tk _ => pss_one (ps_set (i := 2) scMade.nd rfl (Or.inl rfl) (by exact (pe_hasCS Hs (hr.mono (by decide)) (fun σ => passAt tk σ) (by exact (pa_cons (pv 0) (pa_cons (pv 1) pa_nil)))))))
 (.named (i := 3) (c := .ref (He.ga K "BadFaults")) (ts := clM K) rfl rfl ⟨rfl, by decide, .inl (T.glo 6 rfl)⟩ (fun a oe cls d pn hz hf => pss_one (ps_ret (pe_ifExp (PW.pt (pw_and (pt_val (pe_callB (call_isXd (T.one 0 rfl) T.exs.2.2.2 rfl rfl hz hf) (by rfl) (T.free 46 rfl) (by decide +kernel) (pa_cons (pv 3) (pa_cons (pe_glob (v := .ref (He.ga K "TalkError")) (by rfl) (T.glo 5 rfl) rfl) pa_nil)))) (pw_and1 (pt_val (pe_callB (call_isXd (T.one 0 rfl) T.exs.2.2.2 rfl rfl hz hf) (by rfl) (T.free 46 rfl) (by decide +kernel) (pa_cons (pv 3) (pa_cons (pe_bltn (v := .ty "ValueError") (by rfl) (T.free 39 rfl) (by decide +kernel) rfl) pa_nil))))))) (pe_xf (T.xf 0 rfl) (T.noat 53 rfl) hz hf (pv 3)) pe_str))) .nil))
 (pss_one (ps_ret (pe_ifExp (PW.pt (pw_and (pt_val (pe_has His (hr.mono (by decide)) pass0 (pa_cons (L2.pe_fld (pv 2) (by rfl)) (pa_cons (pv 0) pa_nil)))) (pw_and1 (pt_val (pe_has His (hr.mono (by decide)) pass0 (pa_cons (L2.pe_fld (pv 2) (by rfl)) (pa_cons (pv 1) pa_nil))))))) pe_str pe_str)))), ?_⟩
    obtain ⟨v1, v2, d1, d2, rfl, h1, h2, sz, hQ⟩ := h
    refine ⟨_, rfl, _, rfl, ?_⟩
    refine faults_fin h1 h2 (fun ds e => ⟨(sz.2 ds e).1, fun d hd => by have := ((sz.2 ds e).2 d hd).1; omega⟩) (fun x hx d H' nd sm hd => ?_) (fun hx ns ts e1 e2 gf p H' sm np fa => ?_)
    · have E := T.one 0 (x := "BadFaults") rfl
      have em : PySem.W.exmOne K (.ref (He.ga K "BadFaults")) (.ref (He.ga K "BadFaults")) = some true := by
        rw [E.exm E rfl, decide_eq_true rfl, Bool.true_or]
      have k1 : PySem.W.kitOne K (.ref (He.ga K "BadFaults")) (.ref (He.ga K "TalkError")) = some true := by
        rw [E.kit T.exs.1, List.contains_cons]
        simp
      have k2 : PySem.W.kitOne K (.ref (He.ga K "BadFaults")) (.type "ValueError") = some true := by
        rw [E.kitT (by decide +kernel), List.contains_cons]
        simp [veB]
      refine wCl_take em fun a na => ?_
      have pvx : partV d1 d2 = x := by
        unfold partV
        rw [hx]
        rfl
      refine ⟨_, rfl, rfl, .ref _, _, true, d, _, rfl, .own _, k1, rfl, hd, true, rfl, iteT ?_⟩
      refine ⟨_, rfl, rfl, .ty "ValueError", _, true, d, _, rfl, .ty _, k2, rfl, hd, true, rfl, iteT ?_⟩
      refine ⟨_, rfl, rfl, rfl, d, _, x, rfl, hd, (by simp [List.lookup]), ?_⟩
      rw [← pvx]
      exact hQ H' sm
    · obtain ⟨dx, a, b, q, us, kvs, hp, ha, hb, hu, hq, ind⟩ := fa.ex
      subst e1
      subst e2
      have pvl : partV (.tuple (ns.map PyData.int)) (.tuple (ts.map mkF)) = .str "let" := by
        unfold partV
        rw [hx]
        rfl
      have l9 := sz.1 _ rfl
      rw [List.length_map] at l9
      refine ⟨_, rfl, p, _, dx, _, _, rfl, hp, cS, n1, rfl, _, rfl, _, _, .tuple (ns.map PyData.int), rfl, dx_ints ha, Dx.same sm _ _ h1, flat_ints l9 44, fun H2 s2 => ⟨true, rfl, iteT ?_⟩⟩
      refine ⟨_, rfl, p, _, dx, _, _, rfl, s2 _ _ hp, cS, n2, rfl, _, rfl, _, _, .tuple (ts.map mkF), rfl, .tup (s2 _ _ hb) (DxAll.same s2 _ _ hu), Dx.same (sm.trans s2) _ _ h2, ?_, fun H3 s3 => ⟨true, rfl, iteT ?_⟩⟩
      · obtain ⟨z1, z2⟩ := sz.2 _ rfl
        have z := flat_turns gf z1 z2
        exact z
      rw [← pvl]
      exact hQ H3 ((sm.trans s2).trans s3)
end
end K11

set_option maxHeartbeats 4000000
namespace K11
open PySem PySem.Spec PyProof.Rows L2 V1 V2 V3
open Evl (pss_cut tCut sq_of st_of)
theorem FAt.same [CurK] {H H' : Hp} {p : Addr} {ns : List Int} {ts : Tn} (h : FAt H p ns ts) (s : Same H H') : FAt H' p ns ts := by
  obtain ⟨dx, a, b, q, us, kvs, hp, ha, hb, hu, hq, ind⟩ := h.ex
  refine ⟨dx, a, b, q, us, kvs, s _ _ hp, s _ _ ha, s _ _ hb, DxAll.same s _ _ hu, s _ _ hq, fun n => ?_⟩
  have z := ind n
  cases e : look ts n with
  | none =>
    rw [e] at z
    exact z
  | some d =>
    rw [e] at z
    obtain ⟨v, h1, h2⟩ := z
    exact ⟨v, h1, Dx.same s _ _ h2⟩
def spHears [CurK] : Sp := fun vs H Q _ => ∃ p g b v ns ts d, vs = [.ref p, .ref g, .ref b, v] ∧ FAt H p ns ts ∧ GoodF ns ts ∧ H g = some (.tup (ns.map V.int)) ∧ Dx H (.ref b) (.tuple (ts.map mkF)) ∧ Dx H v d ∧ Sm 40 400 d ∧ (∀ t ∈ ts, Sm 40 400 t.2) ∧ ∀ H', Same H H' → Q (.bl true) H'
theorem scHears : FnScope ["faults", "gone", "turns", "thing", "letter", "due", "one"] ["faults", "gone", "turns", "thing"] (defScope s__law_hears) := ⟨rfl, rfl, rfl, by decide +kernel, rfl, by decide +kernel, by decide +kernel⟩
/-- what is due, the turned ones looked at -/
def dueD (ns : List Int) (ts : Tn) (n : Int) (d : PyData) : PyData := if ns.contains n = true ∧ look ts n = none then .tuple [] else .tuple [(look ts n).getD d]
theorem due_end {ns : List Int} {ts : Tn} (g : GoodF ns ts) (n : Int) (d : PyData) : dueD ns ts n d = earD ns ts n d := by
  unfold dueD earD
  by_cases c : ns.contains n = true
  · have z : look ts n = none := by
      unfold look
      rw [Option.map_eq_none_iff, List.find?_eq_none]
      intro t ht e
      have e' : t.1 = n := by simpa using e
      exact (g.th t ht).2.2.2 (by rw [e']; exact List.contains_iff_mem.mp c)
    rw [if_pos ⟨c, z⟩, if_pos c]
  · rw [if_neg fun h => c h.1, if_neg c]
section
variable [CurK] {P : Program} {w : World} {mg : Str → Option Value} {base : Heap}
theorem ok_hears (T : Tx K mg) : Has P w K mg base CX0 48 "_law_hears" ["faults", "gone", "turns", "thing"] spHears := by
  obtain ⟨fd, F⟩ := T.c.def_ 28 (d := d__law_hears) rfl
  have His := ok_is (P := P) (w := w) (base := base) T 46
  have cF : Cls K (He.ga K "Faults") := He.cls_ok (T.c.fact 61 rfl)
  have mEar := He.meth_ok (T.c.fact 69 (f := .meth "Faults" "ear") rfl)
  obtain ⟨fdE, FE, bE⟩ := ok_ear (P := P) (w := w) (base := base) T
  refine ⟨fd, F.ok scHears (fun vs H Q E h => ?_) (fun cdv A outer s H vs Q E hr h => ?_), FunD.bindsN F fun _ _ _ _ _ _ us hl => match us, hl with | [_, _, _, _], _ => rfl, F.kp, (T.glo 37 rfl)⟩
  · obtain ⟨p, g, b, v, ns, ts, d, rfl, _⟩ := h
    rfl
  · refine ⟨_, PSs.nox (pss_cons (ps_for PassesOwn.never rfl (pi_range1 (by rfl) (T.free 49 rfl) (pa_cons pe_int pa_nil)) (pg_name (i := 4) scHears.nd rfl (Or.inl rfl))
 (pss_cons (ps_set (i := 5) scHears.nd rfl (Or.inl rfl) (pe_ifExp (pt_cmpR op_in_seq (pv 4) (pv 1) (by rfl)) (pe_tup pa_nil) (pe_tup (pa_cons (pv 3) pa_nil))))
 (pss_cons (ps_for PassesOwn.never rfl (pi_tup (pv 2)) (pg_name (i := 6) scHears.nd rfl (Or.inl rfl))
 (pss_one (ps_set (i := 5) scHears.nd rfl (Or.inl rfl) (pe_ifExp (pt_cmpR op_eq (pe_ix ix_tup (pv 6) pe_int (fun _ _ => rfl)) (pv 4) (nomark _)) (pe_tup (pa_cons (pe_ix ix_tup (pv 6) pe_int (fun _ _ => rfl)) pa_nil)) (pv 5)))))
 (pss_one (ps_if (pt_not (pt_val (pe_has His (hr.mono (by decide)) pass0 (pa_cons (pe_meth (pv 0) cF mEar FE (hr.mono (by decide)) bE .nil pass0 (pa_cons (pv 4) (pa_cons (pv 3) pa_nil))) (pa_cons (pv 5) pa_nil)))))
 (pss_one (ps_ret pe_bl))
 pss_nil)))))
 (pss_one (ps_ret pe_bl))), ?_⟩
    obtain ⟨p, g, b, v, ns, ts, d, rfl, fa, gf, hg, hb, hd, sd, st, hQ⟩ := h
    obtain ⟨b', us, eb, hb', hr'⟩ := Dx.tup_inv hb
    cases eb
    have lu := dxAll_len hr'
    rw [List.length_map] at lu
    refine ⟨60, rfl, by decide, by decide, ?_⟩
    refine for_it (walk_range (lo := 0) (n := 60)) (fun i σ H' => Same H H' ∧ ∃ o1 o2 o3, σ = [some (.ref p), some (.ref g), some (.ref b), some v, o1, o2, o3]) ⟨Same.refl H, _, _, _, rfl⟩ (fun _ _ _ _ _ => True.intro) ?_ (fun σ H' ⟨s', _, _, _, e⟩ => by subst e; exact hQ H' s')
    rintro n x σ H1 H2 hn ⟨s1, o1, o2, o3, rfl⟩ ⟨rfl, rfl⟩
    dsimp only
    generalize hN : (0 + ((n : Nat) : Int)) = N
    have kp : (if false = true then !inV (.int N) (ns.map V.int) else inV (.int N) (ns.map V.int)) = ns.contains N := by rw [if_neg Bool.false_ne_true, inV_ints]
    refine ⟨_, rfl, _, rfl, g, _, rfl, .inr (st_of (s1 _ _ hg)), rfl, by simp [flatV], _, rfl, ?_⟩
    rw [kp]
    have hd2 := Dx.same s1 _ _ hd
    refine ite2 (fun c => ?_) (fun c => ?_)
    · refine ⟨by show 0 ≤ sizeLine; decide, fun r nr => ?_⟩
      have sr := same_new (o := HO.tup []) nr
      have hu : Dx (upd H2 r (HO.tup [])) (.ref r) (dueD ns [] N d) := by
        unfold dueD
        rw [if_pos ⟨c, rfl⟩]
        exact .tup upd_same .nil
      generalize upd H2 r (HO.tup []) = H3 at sr hu ⊢
      exact ⟨_, rfl, b, rfl, ⟨_, st_of ((s1.trans sr) _ _ hb')⟩, for_it walk_tup (fun i σ H' => Same H3 H' ∧ ∃ u o, σ = [some (.ref p), some (.ref g), some (.ref b), some v, some (.int N), some u, o] ∧ Dx H' u (dueD ns (ts.take i) N d)) ⟨Same.refl H3, _, _, rfl, hu⟩ (fun i σ H' _ z => st_of (((s1.trans sr).trans z.1) _ _ hb'))
        (by
          rintro i x σ H4 H5 hi ⟨s4, u, o, rfl, qu⟩ ⟨rfl, hx⟩
          have hi' : i < ts.length := by omega
          have s05 := (s1.trans sr).trans s4
          have di : ts[i]? = some ts[i] := List.getElem?_eq_getElem hi'
          have xt : Dx H5 x (mkF ts[i]) := Dx.same s05 _ _ (DxAll.at hr' hx (by rw [List.getElem?_map, di]; rfl))
          have before : ∀ t ∈ ts.take i, t.1 < (ts[i]).1 := fun t ht => by
            obtain ⟨j, hj, rfl⟩ := List.getElem_of_mem ht
            rw [List.length_take] at hj
            rw [List.getElem_take]
            exact List.pairwise_iff_getElem.mp gf.tu j i (by omega) hi' (by omega)
          have tk : ts.take (i + 1) = ts.take i ++ [ts[i]] := by rw [List.take_succ, di]; rfl
          generalize ts[i] = t at xt before tk
          obtain ⟨q', ws, rfl, hq', hw⟩ := Dx.tup_inv xt
          cases hw with | @cons va _ _ _ qa r1 =>
          cases r1 with | @cons vb _ _ _ qb r2 =>
          cases r2
          obtain rfl := Dx.int_inv qa
          refine ⟨_, rfl, q', _, 0, _, rfl, rfl, st_of hq', rfl, _, rfl, rfl, _, rfl, ite2 (fun e => ?_) (fun e => ?_)⟩
          · have e' : t.1 = N := by simpa [dec_int] using e
            refine ⟨_, rfl, q', _, 1, _, rfl, rfl, st_of hq', rfl, (by show 1 ≤ sizeLine; decide), fun r' nr' => ⟨s4.trans (same_new nr'), _, _, rfl, ?_⟩⟩
            have z : look (ts.take (i + 1)) N = some t.2 := by
              rw [tk, look_app, look_none (fun x hx => by have := before x hx; omega), if_pos e']
              rfl
            have dz : dueD ns (ts.take (i + 1)) N d = .tuple [t.2] := by
              unfold dueD
              rw [z, if_neg]
              · rfl
              · rintro ⟨_, h⟩
                cases h
            rw [dz]
            exact .tup upd_same (.cons (Dx.same (same_new nr') _ _ qb) .nil)
          · have e' : ¬ t.1 = N := by simpa [dec_int] using e
            refine ⟨_, rfl, s4, _, _, rfl, ?_⟩
            have z : look (ts.take (i + 1)) N = look (ts.take i) N := by
              rw [tk, look_app, if_neg e', Option.or_none]
            unfold dueD at qu ⊢
            rw [z]
            exact qu)
        (by
          rintro σ H4 ⟨s4, u, o, rfl, qu⟩
          have s04 := (s1.trans sr).trans s4
          rw [lu, List.take_length, due_end gf] at qu
          have fa4 := fa.same s04
          obtain ⟨dx, a, b2, q, us2, kvs, hp, _⟩ := fa4.ex
          have fl : flatD 45 (earD ns ts N d) = true := by
            unfold earD
            by_cases c' : ns.contains N = true
            · rw [if_pos c']
              rfl
            · rw [if_neg c']
              have sx : Sm 40 400 ((look ts N).getD d) := by
                cases e : look ts N with
                | none => exact sd
                | some x =>
                  unfold look at e
                  obtain ⟨t, ht, rfl⟩ := Option.map_eq_some_iff.mp e
                  exact st t (List.mem_of_find?_eq_some ht)
              refine flat_of 45 _ ?_ ?_ ?_
              · show thingAll [_] = true
                simp [thingAll, sx.th]
              · have := sx.dp
                simp only [PyData.depth, PyData.depthAll]
                omega
              · have := sx.sz
                simp only [sizeD, sizeAll]
                omega
          refine ⟨_, rfl, p, dx, _, rfl, hp, rfl, _, rfl, _, rfl, p, ns, ts, N, v, d, rfl, fa4, Dx.same s04 _ _ hd, fun u' H6 s6 q6 => ⟨_, rfl, u', u, _, rfl, q6, Dx.same s6 _ _ qu, fl, fun H7 s7 => ⟨_, rfl, iteF ⟨(s04.trans s6).trans s7, _, _, _, rfl⟩⟩⟩⟩)⟩
    · refine ⟨_, rfl, by show 1 ≤ sizeLine; decide, fun r nr => ?_⟩
      have sr := same_new (o := HO.tup [v]) nr
      have hu : Dx (upd H2 r (HO.tup [v])) (.ref r) (dueD ns [] N d) := by
        unfold dueD
        rw [if_neg fun h => c h.1]
        exact .tup upd_same (.cons (Dx.same sr _ _ hd2) .nil)
      generalize upd H2 r (HO.tup [v]) = H3 at sr hu ⊢
      exact ⟨_, rfl, b, rfl, ⟨_, st_of ((s1.trans sr) _ _ hb')⟩, for_it walk_tup (fun i σ H' => Same H3 H' ∧ ∃ u o, σ = [some (.ref p), some (.ref g), some (.ref b), some v, some (.int N), some u, o] ∧ Dx H' u (dueD ns (ts.take i) N d)) ⟨Same.refl H3, _, _, rfl, hu⟩ (fun i σ H' _ z => st_of (((s1.trans sr).trans z.1) _ _ hb'))
        (by
          rintro i x σ H4 H5 hi ⟨s4, u, o, rfl, qu⟩ ⟨rfl, hx⟩
          have hi' : i < ts.length := by omega
          have s05 := (s1.trans sr).trans s4
          have di : ts[i]? = some ts[i] := List.getElem?_eq_getElem hi'
          have xt : Dx H5 x (mkF ts[i]) := Dx.same s05 _ _ (DxAll.at hr' hx (by rw [List.getElem?_map, di]; rfl))
          have before : ∀ t ∈ ts.take i, t.1 < (ts[i]).1 := fun t ht => by
            obtain ⟨j, hj, rfl⟩ := List.getElem_of_mem ht
            rw [List.length_take] at hj
            rw [List.getElem_take]
            exact List.pairwise_iff_getElem.mp gf.tu j i (by omega) hi' (by omega)
          have tk : ts.take (i + 1) = ts.take i ++ [ts[i]] := by rw [List.take_succ, di]; rfl
          generalize ts[i] = t at xt before tk
          obtain ⟨q', ws, rfl, hq', hw⟩ := Dx.tup_inv xt
          cases hw with | @cons va _ _ _ qa r1 =>
          cases r1 with | @cons vb _ _ _ qb r2 =>
          cases r2
          obtain rfl := Dx.int_inv qa
          refine ⟨_, rfl, q', _, 0, _, rfl, rfl, st_of hq', rfl, _, rfl, rfl, _, rfl, ite2 (fun e => ?_) (fun e => ?_)⟩
          · have e' : t.1 = N := by simpa [dec_int] using e
            refine ⟨_, rfl, q', _, 1, _, rfl, rfl, st_of hq', rfl, (by show 1 ≤ sizeLine; decide), fun r' nr' => ⟨s4.trans (same_new nr'), _, _, rfl, ?_⟩⟩
            have z : look (ts.take (i + 1)) N = some t.2 := by
              rw [tk, look_app, look_none (fun x hx => by have := before x hx; omega), if_pos e']
              rfl
            have dz : dueD ns (ts.take (i + 1)) N d = .tuple [t.2] := by
              unfold dueD
              rw [z, if_neg]
              · rfl
              · rintro ⟨_, h⟩
                cases h
            rw [dz]
            exact .tup upd_same (.cons (Dx.same (same_new nr') _ _ qb) .nil)
          · have e' : ¬ t.1 = N := by simpa [dec_int] using e
            refine ⟨_, rfl, s4, _, _, rfl, ?_⟩
            have z : look (ts.take (i + 1)) N = look (ts.take i) N := by
              rw [tk, look_app, if_neg e', Option.or_none]
            unfold dueD at qu ⊢
            rw [z]
            exact qu)
        (by
          rintro σ H4 ⟨s4, u, o, rfl, qu⟩
          have s04 := (s1.trans sr).trans s4
          rw [lu, List.take_length, due_end gf] at qu
          have fa4 := fa.same s04
          obtain ⟨dx, a, b2, q, us2, kvs, hp, _⟩ := fa4.ex
          have fl : flatD 45 (earD ns ts N d) = true := by
            unfold earD
            by_cases c' : ns.contains N = true
            · rw [if_pos c']
              rfl
            · rw [if_neg c']
              have sx : Sm 40 400 ((look ts N).getD d) := by
                cases e : look ts N with
                | none => exact sd
                | some x =>
                  unfold look at e
                  obtain ⟨t, ht, rfl⟩ := Option.map_eq_some_iff.mp e
                  exact st t (List.mem_of_find?_eq_some ht)
              refine flat_of 45 _ ?_ ?_ ?_
              · show thingAll [_] = true
                simp [thingAll, sx.th]
              · have := sx.dp
                simp only [PyData.depth, PyData.depthAll]
                omega
              · have := sx.sz
                simp only [sizeD, sizeAll]
                omega
          refine ⟨_, rfl, p, dx, _, rfl, hp, rfl, _, rfl, _, rfl, p, ns, ts, N, v, d, rfl, fa4, Dx.same s04 _ _ hd, fun u' H6 s6 q6 => ⟨_, rfl, u', u, _, rfl, q6, Dx.same s6 _ _ qu, fl, fun H7 s7 => ⟨_, rfl, iteF ⟨(s04.trans s6).trans s7, _, _, _, rfl⟩⟩⟩⟩)⟩
end
end K11

set_option maxHeartbeats 4000000
namespace K11
open PySem PySem.Spec PyProof.Rows L2 V1 V2 V3
open Evl (pss_cut tCut sq_of st_of)
def teFaults [CurK] : TE := tMake (He.ga K "Faults") spFInit [] (fun _ _ _ => False) (tCons (tTup tNil) (tCons (tTup tNil) tNil))
def teHearing [CurK] : TE := tMake (He.ga K "Hearing") spHInit [] (fun _ _ _ => False) (tCons (tC (.ref (He.ga K "_law_ear"))) tNil)
def teOdds [CurK] : TE := (tLstS (tCons (tC .non) (tCons (tC (.bl true)) (tCons (tC (.bl false)) (tCons (tUn (rU fun i => V.int (-i)) (tC (.int 1))) (tCons (tC (.int 0)) (tCons (tC (.int 59)) (tCons (tC (.int 60)) (tCons (tOp (rI CPow fun i j => V.int (i ^ j.toNat)) (tC (.int 10)) (tC (.int 19))) (tCons (tC (.str (Str.ofString "0"))) (tCons (tTup tNil) (tCons (tLstS tNil) (tCons (tLstS (tCons (tC (.int 0)) tNil)) (tCons (tTup (tCons (tC (.int 0)) tNil)) (tCons (tTup (tCons (tC (.int 0)) (tCons (tC (.int 0)) tNil))) (tCons (tTup (tCons (tC (.int 0)) (tCons (tC (.int 0)) (tCons (tC (.int 0)) tNil)))) (tCons tDNewK (tCons (tC (.str (Str.ofString "ab"))) (tCons (tTup (tCons (tC (.int 0)) (tCons (tLstS tNil) tNil))) (tCons (tTup (tCons (tC (.int 0)) (tCons tDNewK tNil))) (tCons (tLstS (tCons (tC (.int 0)) (tCons (tC (.int 0)) tNil))) (tCons (tTup (tCons (tC (.bl true)) (tCons (tC (.int 0)) tNil))) (tCons (tTup (tCons (tC (.int 60)) (tCons (tC (.int 0)) tNil))) (tCons (tTup (tCons (tUn (rU fun i => V.int (-i)) (tC (.int 1))) (tCons (tC (.int 0)) tNil))) (tCons (tCall spWrap [] (fun _ _ _ => False) (tCons (tC .non) (tCons (tC (.int 36)) (tCons (tC (.int 0)) tNil)))) (tCons (tCall spWrap [] (fun _ _ _ => False) (tCons (tC .non) (tCons (tC (.int 36)) (tCons (tC (.int 1)) tNil)))) (tCons (tTup (tCons (tC (.int 59)) (tCons (tCall spWrap [] (fun _ _ _ => False) (tCons (tLstS tNil) (tCons (tC (.int 34)) (tCons (tC (.int 0)) tNil)))) tNil))) (tCons (tTup (tCons (tC (.int 59)) (tCons (tCall spWrap [] (fun _ _ _ => False) (tCons (tC (.int 0)) (tCons (tC (.int 34)) (tCons (tC (.int 0)) tNil)))) tNil))) (tCons teFaults (tCons (tTup (tCons (tC (.int 0)) (tCons teFaults tNil))) (tCons (tTup (tCons (tC (.int 1)) (tCons (tTup (tCons (tC (.str (Str.ofString "a"))) (tCons teHearing tNil))) tNil))) tNil)))))))))))))))))))))))))))))))
def oddsD : List PyData := [.none, .bool true, .bool false, .int (-1), .int 0, .int 59, .int 60, .int (10 ^ 19), .str "0", .tuple [], .list [], .list [.int 0], .tuple [.int 0], .tuple [.int 0, .int 0], .tuple [.int 0, .int 0, .int 0], .dict [], .str "ab", .tuple [.int 0, .list []], .tuple [.int 0, .dict []], .list [.int 0, .int 0], .tuple [.bool true, .int 0], .tuple [.int 60, .int 0], .tuple [.int (-1), .int 0], wrapD 0 36 (.none), wrapD 1 36 (.none), .tuple [.int 59, wrapD 0 34 (.list [])], .tuple [.int 59, wrapD 0 34 (.int 0)], objD, .tuple [.int 0, objD], .tuple [.int 1, .tuple [.str "a", objD]]]
theorem odds_ok : ∀ d ∈ oddsD, sizeD d ≤ 100 ∧ d.depth ≤ 40 := by
  have z : oddsD.all (fun d => decide (sizeD d ≤ 100) && decide (d.depth ≤ 40)) = true := by decide +kernel
  intro d hd
  have y := List.all_eq_true.mp z d hd
  simpa using y
def spOdd [CurK] : Sp := fun vs H Q _ => ∃ a, vs = [.ref a] ∧ HandAt H a ∧ ∀ H' v d, Go a H H' → Dx (newH H H') v d → d ∈ oddsD → Q v H'
theorem scOdd : FnScope ["hand"] ["hand"] (defScope s__law_odd) := ⟨rfl, rfl, rfl, by decide +kernel, rfl, by decide +kernel, by decide +kernel⟩
theorem mkn_pow19 {σ : L2.St} : MkN (tOp (rI CPow fun i j => V.int (i ^ j.toNat)) (tC (.int 10)) (tC (.int 19))) σ (.int (10 ^ 19)) := fun H _ q => ⟨10, 19, rfl, rfl, ⟨by decide, by decide, by decide⟩, q _ H (Same.refl H) (.int _)⟩
section
variable [CurK] {P : Program} {w : World} {mg : Str → Option Value} {base : Heap} {σ : L2.St}
theorem mkx_wrap {te : TE} {d : PyData} {k : Int} {m : Nat} (h : MkX te σ d) (hm : m ≤ 40) : MkX (tCall spWrap [] (fun _ _ _ => False) (tCons te (tCons (tC (.int ((m : Nat) : Int))) (tCons (tC (.int k)) tNil)))) σ (wrapD k m d) := fun H Q q =>
  h H _ fun v H1 s1 q1 => ⟨v, d, k, newH H H1, m, rfl, hm, q1, newH_sub, fun u H2 s2 q2 => q u H2 (s1.trans s2) (Dx.same (uni_newS s1 s2) _ _ q2)⟩
theorem mkx_faults (T : Tx K mg) : MkX teFaults σ objD := fun H Q q => by
  refine ⟨by show 0 ≤ sizeLine; decide, fun p1 n1 => ⟨by show 0 ≤ sizeLine; decide, fun p2 n2 => ?_⟩⟩
  have s1 := same_new (o := HO.tup []) n1
  have s2 := same_new (o := HO.tup []) n2
  have h1 : Dx (upd (upd H p1 (HO.tup [])) p2 (HO.tup [])) (.ref p1) (.tuple []) := .tup (s2 _ _ upd_same) .nil
  have h2 : Dx (upd (upd H p1 (HO.tup [])) p2 (HO.tup [])) (.ref p2) (.tuple []) := .tup upd_same .nil
  have s12 := s1.trans s2
  generalize upd (upd H p1 (HO.tup [])) p2 (HO.tup []) = H1 at h1 h2 s12
  refine faults_fin (Qa := fun p H' => Q (.ref p) H') h1 h2 (fun ds e => ?_) (fun x hx => ?_) (fun _ ns ts _ _ _ p H' sm np fa => ?_)
  · cases e
    exact ⟨by decide, fun d hd => absurd hd List.not_mem_nil⟩
  · cases hx
  · obtain ⟨dx, a, b, q', us, kvs, hp, _⟩ := fa.ex
    have hp' := (newH_at (H := H') (fresh_up s12 np)).trans hp
    exact q _ _ (s12.trans sm) (.ob hp' (T.obC 1 (x := "Faults") rfl (He.cls_ok (T.c.fact 61 rfl))))
theorem mkx_hearing (T : Tx K mg) : MkX teHearing σ objD := fun H Q q => by
  intro x dx nx nd ne
  refine ⟨x, dx, _, rfl, upd_same, rfl, ?_⟩
  have sm : Same H (upd (upd (upd H dx (.own x)) x (.ins (He.ga K "Hearing") dx [])) x (.ins (He.ga K "Hearing") dx [("hearing", .ref (He.ga K "_law_ear"))])) := fun b o e => by
    rw [upd_ne (ne_of_none e nx), upd_ne (ne_of_none e nx), upd_ne (ne_of_none e nd)]
    exact e
  exact q _ _ sm (.ob ((newH_at nx).trans upd_same) (T.obC 2 (x := "Hearing") rfl (He.cls_ok (T.c.fact 70 rfl))))
theorem mkx_odds (T : Tx K mg) : MkX teOdds σ (.list oddsD) := mkx_lst (mkxa_cons (mkx_of mkn_non) (mkxa_cons (mkx_of (mkn_bl true)) (mkxa_cons (mkx_of (mkn_bl false)) (mkxa_cons (mkx_of (mkn_neg 1)) (mkxa_cons (mkx_of (mkn_int 0)) (mkxa_cons (mkx_of (mkn_int 59)) (mkxa_cons (mkx_of (mkn_int 60)) (mkxa_cons (mkx_of mkn_pow19) (mkxa_cons (mkx_of (mkn_str _)) (mkxa_cons (mkx_tup mkxa_nil (Nat.zero_le _)) (mkxa_cons (mkx_lst mkxa_nil (Nat.zero_le _)) (mkxa_cons (mkx_lst (mkxa_cons (mkx_of (mkn_int 0)) mkxa_nil) (by show 1 ≤ 1000; decide)) (mkxa_cons (mkx_tup (mkxa_cons (mkx_of (mkn_int 0)) mkxa_nil) (by show 1 ≤ 1000; decide)) (mkxa_cons (mkx_tup (mkxa_cons (mkx_of (mkn_int 0)) (mkxa_cons (mkx_of (mkn_int 0)) mkxa_nil)) (by show 2 ≤ 1000; decide)) (mkxa_cons (mkx_tup (mkxa_cons (mkx_of (mkn_int 0)) (mkxa_cons (mkx_of (mkn_int 0)) (mkxa_cons (mkx_of (mkn_int 0)) mkxa_nil))) (by show 3 ≤ 1000; decide)) (mkxa_cons (mkx_of mkn_dict0) (mkxa_cons (mkx_of (mkn_str _)) (mkxa_cons (mkx_tup (mkxa_cons (mkx_of (mkn_int 0)) (mkxa_cons (mkx_lst mkxa_nil (Nat.zero_le _)) mkxa_nil)) (by show 2 ≤ 1000; decide)) (mkxa_cons (mkx_tup (mkxa_cons (mkx_of (mkn_int 0)) (mkxa_cons (mkx_of mkn_dict0) mkxa_nil)) (by show 2 ≤ 1000; decide)) (mkxa_cons (mkx_lst (mkxa_cons (mkx_of (mkn_int 0)) (mkxa_cons (mkx_of (mkn_int 0)) mkxa_nil)) (by show 2 ≤ 1000; decide)) (mkxa_cons (mkx_tup (mkxa_cons (mkx_of (mkn_bl true)) (mkxa_cons (mkx_of (mkn_int 0)) mkxa_nil)) (by show 2 ≤ 1000; decide)) (mkxa_cons (mkx_tup (mkxa_cons (mkx_of (mkn_int 60)) (mkxa_cons (mkx_of (mkn_int 0)) mkxa_nil)) (by show 2 ≤ 1000; decide)) (mkxa_cons (mkx_tup (mkxa_cons (mkx_of (mkn_neg 1)) (mkxa_cons (mkx_of (mkn_int 0)) mkxa_nil)) (by show 2 ≤ 1000; decide)) (mkxa_cons (mkx_wrap (m := 36) (mkx_of mkn_non) (by decide)) (mkxa_cons (mkx_wrap (m := 36) (mkx_of mkn_non) (by decide)) (mkxa_cons (mkx_tup (mkxa_cons (mkx_of (mkn_int 59)) (mkxa_cons (mkx_wrap (m := 34) (mkx_lst mkxa_nil (Nat.zero_le _)) (by decide)) mkxa_nil)) (by show 2 ≤ 1000; decide)) (mkxa_cons (mkx_tup (mkxa_cons (mkx_of (mkn_int 59)) (mkxa_cons (mkx_wrap (m := 34) (mkx_of (mkn_int 0)) (by decide)) mkxa_nil)) (by show 2 ≤ 1000; decide)) (mkxa_cons (mkx_faults T) (mkxa_cons (mkx_tup (mkxa_cons (mkx_of (mkn_int 0)) (mkxa_cons (mkx_faults T) mkxa_nil)) (by show 2 ≤ 1000; decide)) (mkxa_cons (mkx_tup (mkxa_cons (mkx_of (mkn_int 1)) (mkxa_cons (mkx_tup (mkxa_cons (mkx_of (mkn_str _)) (mkxa_cons (mkx_hearing T) mkxa_nil)) (by show 2 ≤ 1000; decide)) mkxa_nil)) (by show 2 ≤ 1000; decide)) mkxa_nil)))))))))))))))))))))))))))))) (by show 30 ≤ 1000; decide)
theorem ok_odd (T : Tx K mg) : Has P w K mg base CX0 10 "_law_odd" ["hand"] spOdd := by
  obtain ⟨fd, F⟩ := T.c.def_ 24 (d := d__law_odd) rfl
  have Hs := ok_some (P := P) (w := w) (base := base) T
  have Hw := ok_wrap (P := P) (w := w) (base := base) T
  have Hf := ok_finit (P := P) (w := w) (base := base) T
  have Hh := ok_hinit (P := P) (w := w) (base := base) T
  refine ⟨fd, F.ok scOdd (fun vs H Q E h => ?_) (fun cdv A outer s H vs Q E hr h => ?_), FunD.bindsN F fun _ _ _ _ _ _ us hl => match us, hl with | [_], _ => rfl, F.kp, (T.glo 33 rfl)⟩
  · obtain ⟨a, rfl, _⟩ := h
    rfl
  · refine ⟨_, PSs.nox (pss_one (ps_ret (pe_has Hs (hr.mono (by decide)) pass0 (pa_cons (pv 0) (pa_cons (pe_lstS (pa_cons pe_non (pa_cons pe_bl (pa_cons pe_bl (pa_cons (pe_un un_neg pe_int) (pa_cons pe_int (pa_cons pe_int (pa_cons pe_int (pa_cons (pe_op op_pow pe_int pe_int) (pa_cons pe_str (pa_cons (pe_tup pa_nil) (pa_cons (pe_lstS pa_nil) (pa_cons (pe_lstS (pa_cons pe_int pa_nil)) (pa_cons (pe_tup (pa_cons pe_int pa_nil)) (pa_cons (pe_tup (pa_cons pe_int (pa_cons pe_int pa_nil))) (pa_cons (pe_tup (pa_cons pe_int (pa_cons pe_int (pa_cons pe_int pa_nil)))) (pa_cons pe_dnewK (pa_cons pe_str (pa_cons (pe_tup (pa_cons pe_int (pa_cons (pe_lstS pa_nil) pa_nil))) (pa_cons (pe_tup (pa_cons pe_int (pa_cons pe_dnewK pa_nil))) (pa_cons (pe_lstS (pa_cons pe_int (pa_cons pe_int pa_nil))) (pa_cons (pe_tup (pa_cons pe_bl (pa_cons pe_int pa_nil))) (pa_cons (pe_tup (pa_cons pe_int (pa_cons pe_int pa_nil))) (pa_cons (pe_tup (pa_cons (pe_un un_neg pe_int) (pa_cons pe_int pa_nil))) (pa_cons (pe_has Hw (hr.mono (by decide)) pass0 (pa_cons pe_non (pa_cons pe_int (pa_cons pe_int pa_nil)))) (pa_cons (pe_has Hw (hr.mono (by decide)) pass0 (pa_cons pe_non (pa_cons pe_int (pa_cons pe_int pa_nil)))) (pa_cons (pe_tup (pa_cons pe_int (pa_cons (pe_has Hw (hr.mono (by decide)) pass0 (pa_cons (pe_lstS pa_nil) (pa_cons pe_int (pa_cons pe_int pa_nil)))) pa_nil))) (pa_cons (pe_tup (pa_cons pe_int (pa_cons (pe_has Hw (hr.mono (by decide)) pass0 (pa_cons pe_int (pa_cons pe_int (pa_cons pe_int pa_nil)))) pa_nil))) (pa_cons (pe_hasC Hf (hr.mono (by decide)) passF (pa_cons (pe_tup pa_nil) (pa_cons (pe_tup pa_nil) pa_nil))) (pa_cons (pe_tup (pa_cons pe_int (pa_cons (pe_hasC Hf (hr.mono (by decide)) passF (pa_cons (pe_tup pa_nil) (pa_cons (pe_tup pa_nil) pa_nil))) pa_nil))) (pa_cons (pe_tup (pa_cons pe_int (pa_cons (pe_tup (pa_cons pe_str (pa_cons (pe_hasC Hh (hr.mono (by decide)) pass0 (pa_cons (pe_glob (v := .ref (He.ga K "_law_ear")) (by rfl) (T.glo 34 rfl) rfl) pa_nil)) pa_nil))) pa_nil))) pa_nil))))))))))))))))))))))))))))))) pa_nil))))), ?_⟩
    obtain ⟨a, rfl, hd, hQ⟩ := h
    refine ⟨_, rfl, ?_⟩
    refine mkx_odds T H _ fun v H2 s2 q2 => ?_
    cases q2 with | @lst p xs _ at_ low rest =>
    have np := (newH_some at_).1
    have na : p ≠ a := hd.ne_new np
    have lr := dxAll_len rest
    refine ⟨a, _, _, rfl, hand_same hd s2, .inl ⟨p, rfl, na, .inl (newH_some at_).2⟩, by rw [lr]; (show 0 < 30; decide), by rw [lr]; (show 30 < 1000; decide), fun H3 i w hd3 e3 c3 ev => ?_⟩
    obtain ⟨d, m, z⟩ := DxAll.some rest ev
    refine hQ H3 w d ((Go.new hd s2).trans (Go.draw hd3 e3 c3)) (Dx.same (fun b o e => ?_) _ _ z) m
    obtain ⟨n, e'⟩ := newH_some e
    rw [newH_at n]
    have nb : b ≠ a := hd.ne_new n
    have y := congrFun e3 b
    rw [delH_ne nb, delH_ne nb] at y
    exact y.trans e'
end
end K11

set_option maxHeartbeats 4000000
namespace V2
open PySem PySem.Spec PyProof.Rows L2 V1
/-- list(x), the new place not that of the modules -/
theorem call_list_low {X : Cx} : CallR X (.type "list") (fun xs H Q => ∃ p ys, xs = [.ref p] ∧ (SqL X.K H p ys ∨ SqT X.K H p ys) ∧ ∀ l, H l = none → (l == sysModules) = false → Q (.ref l) (upd H l (.lst ys))) := by
  rintro pins s σ H xs us Q I r ⟨p, ys, rfl, hq, q⟩
  obtain ⟨u, rfl, rx⟩ := vals1 r
  cases rx
  have src : ∃ (zs : List Value) (T : String) (o : Obj) (n : Nat), Vals ys zs ∧ ys.length ≤ sizeLine ∧ (T = "list" ∨ T = "tuple") ∧ s.heap.get? p = some o ∧ o.cls = .type T ∧ o.data = .seq zs.toArray n := by
    rcases hq with hq | hq
    · obtain ⟨zs, w, pl, z⟩ := I.list hq
      obtain ⟨o, e, c, n, d⟩ := pl.isList
      exact ⟨zs, _, o, n, w, z, .inl rfl, e, c, d⟩
    · obtain ⟨zs, w, pl, z⟩ := I.tuple hq
      obtain ⟨o, e, c, n, d⟩ := pl
      exact ⟨zs, _, o, n, w, z, .inr rfl, e, c, d⟩
  obtain ⟨zs, T, o, n, w, z, hT, e, c, d⟩ := src
  have lz := w.length
  refine call_list_seq p hT e c d (fun h1 c1 kp eh => ?_) (by simp only [List.size_toArray]; omega)
  exact ⟨.ref s.heap.objs.size, _, I.laid (o := .lst ys) (t' := s.toks) kp (Nat.le_refl _) ⟨z, zs, c1, w, eh⟩, rfl, q _ (I.hok.fresh (Nat.le_refl _)) (beq_eq_false_iff_ne.mpr (Nat.ne_of_gt I.big))⟩
end V2
namespace K11
open PySem PySem.Spec PyProof.Rows L2 V1 V2 V3
open Evl (pss_cut tCut sq_of st_of)
theorem ixN_nat {n j : Nat} (h : j < n) : ixN n ((j : Nat) : Int) = some j := by
  unfold ixN
  rw [if_pos (by omega), if_pos (by omega), Int.toNat_natCast]
theorem K_up {H : Hp} {a f : Addr} : Same (delH (delH H a) f) H := same_delH.trans same_delH
def OkE (d : PyData) : Prop := sizeD d ≤ 400 ∧ d.depth ≤ 44
def OkO (d : PyData) : Prop := sizeD d ≤ 100 ∧ d.depth ≤ 40
theorem OkO.e {d : PyData} (h : OkO d) : OkE d := ⟨by have := h.1; omega, by have := h.2; omega⟩
theorem mem_depth : ∀ {ds : List PyData} {x : PyData}, x ∈ ds → x.depth ≤ PyData.depthAll ds
  | d :: ds, x, h => by
    simp only [PyData.depthAll]
    rcases List.mem_cons.mp h with rfl | h
    · omega
    · have := mem_depth h
      omega
theorem mem_size : ∀ {ds : List PyData} {x : PyData}, x ∈ ds → sizeD x ≤ sizeAll ds
  | d :: ds, x, h => by
    simp only [sizeAll]
    rcases List.mem_cons.mp h with rfl | h
    · omega
    · have := mem_size h
      omega
theorem okO_sub {d : PyData} {ds : List PyData} (h : OkO (.tuple ds)) (m : d ∈ ds) : OkO d := by
  have h1 := h.1
  have h2 := h.2
  simp only [sizeD] at h1
  simp only [PyData.depth] at h2
  exact ⟨by have := mem_size m; omega, by have := mem_depth m; omega⟩
theorem okO_pair {d : PyData} (h : OkO d) : OkE (.tuple [d, .none]) := by
  have h1 := h.1
  have h2 := h.2
  refine ⟨?_, ?_⟩
  · simp only [sizeD, sizeAll]
    omega
  · simp only [PyData.depth, PyData.depthAll]
    omega
theorem LD.go [CurK] {H0 H H' : Hp} {a f c : Addr} {ds : List PyData} (h : LD H0 a f c ds H) (na : f ≠ a) (g : Go a H H') : LD H0 a f c ds H' := by
  obtain ⟨acc, e, d⟩ := h.at_
  have s2 : Same (delH (delH H a) f) (delH (delH H' a) f) := same_del g.sm
  refine ⟨g.hd, g.ce.trans h.ce, h.sm.trans s2, acc, ?_, DxAll.same s2 _ _ d⟩
  exact same_delH _ _ (g.sm _ _ (by rw [delH_ne na]; exact e))
theorem ins_len {ds : List PyData} {d : PyData} {i : Nat} : (ds.take i ++ [d] ++ ds.drop i).length ≤ ds.length + 1 := by
  simp only [List.length_append, List.length_take, List.length_drop, List.length_cons, List.length_nil]
  omega
theorem ins_ok {ds : List PyData} {d : PyData} {i : Nat} (h : ∀ x ∈ ds, OkE x) (hd : OkE d) : ∀ x ∈ ds.take i ++ [d] ++ ds.drop i, OkE x := fun x hx => by
  rcases List.mem_append.mp hx with hx | hx
  · rcases List.mem_append.mp hx with hx | hx
    · exact h x (List.mem_of_mem_take hx)
    · simp only [List.mem_cons, List.not_mem_nil, or_false] at hx
      rw [hx]
      exact hd
  · exact h x (List.mem_of_mem_drop hx)
def spSp [CurK] : Sp := fun vs H Q _ => ∃ (a b o : Addr) (ds es : List PyData), vs = [.ref a, .ref b, .ref o] ∧ HandAt H a ∧ Dx (delH H a) (.ref b) (.tuple ds) ∧ Dx (delH H a) (.ref o) (.tuple es) ∧ ds.length ≤ 400 ∧ es.length ≤ 400 ∧ (∀ d ∈ ds, OkE d) ∧ (∀ d ∈ es, OkO d) ∧
  ∀ H' b' ds', Go a H H' → Dx (delH H' a) (.ref b') (.tuple ds') → ds'.length ≤ ds.length + 1 → (∀ d ∈ ds', OkE d) → Q (.ref b') H'
theorem scSp : FnScope ["hand", "rows", "other", "found", "at", "kind", "one"] ["hand", "rows", "other"] (defScope s__law_spoilt) := ⟨rfl, rfl, rfl, by decide +kernel, rfl, by decide +kernel, by decide +kernel⟩
section
variable [CurK] {P : Program} {w : World} {mg : Str → Option Value} {base : Heap}
theorem ok_sp (T : Tx K mg) : Has P w K mg base CX0 11 "_law_spoilt" ["hand", "rows", "other"] spSp := by
  obtain ⟨fd, F⟩ := T.c.def_ 26 (d := d__law_spoilt) rfl
  have Hs := ok_some (P := P) (w := w) (base := base) T
  have Hd := ok_draw (P := P) (w := w) (base := base) T
  have Ho := ok_odd (P := P) (w := w) (base := base) T
  refine ⟨fd, F.ok scSp (fun vs H Q E h => ?_) (fun cdv A outer s H vs Q E hr h => ?_), FunD.bindsN F fun _ _ _ _ _ _ us hl => match us, hl with | [_, _, _], _ => rfl, F.kp, (T.glo 35 rfl)⟩
  · obtain ⟨a, b, o, ds, es, rfl, _⟩ := h
    rfl
  · refine ⟨_, PSs.nox (pss_cons (ps_par (i := 3) (j := 4) rfl scSp.nd rfl rfl (by decide) rfl rfl (pa_cons (pe_callTy call_list_low (by rfl) (T.free 48 rfl) (by decide +kernel) (pa_cons (pv 1) pa_nil)) (pa_cons (pe_has Hd (hr.mono (by decide)) pass0 (pa_cons (pv 0) (pa_cons (pe_op op_add (pe_callB call_len (by rfl) (T.free 47 rfl) PySem.boot_len (pa_cons (pv 1) pa_nil)) pe_int) pa_nil))) pa_nil)) (by rfl))
 (pss_cons (ps_set (i := 5) scSp.nd rfl (Or.inl rfl) (pe_has Hd (hr.mono (by decide)) pass0 (pa_cons (pv 0) (pa_cons pe_int pa_nil))))
 (pss_cons (ps_if (PW.pt (pw_or (pt_cmpR op_eq (pv 5) pe_int (nomark _)) (pw_or1 (pt_cmpR op_eq (pe_callB call_len (by rfl) (T.free 47 rfl) PySem.boot_len (pa_cons (pv 1) pa_nil)) pe_int (nomark _)))))
 (pss_one (ps_expr (pe_bm PySem.F.plainAttrs_list PySem.F.slot_list_insert PySem.F.type_list_insert mt_insert (pv 3) (pa_cons (pv 4) (pa_cons (pe_has Ho (hr.mono (by decide)) pass0 (pa_cons (pv 0) pa_nil)) pa_nil)))))
 (pss_one (ps_if (pt_cmpR op_eq (pv 5) pe_int (nomark _))
 (pss_one (ps_expr (pe_bm PySem.F.plainAttrs_list PySem.F.slot_list_insert PySem.F.type_list_insert mt_insert (pv 3) (pa_cons (pv 4) (pa_cons (pe_has Hs (hr.mono (by decide)) pass0 (pa_cons (pv 0) (pa_cons (pv 1) pa_nil))) pa_nil)))))
 (pss_one (ps_if (pt_cmpR op_eq (pv 5) pe_int (nomark _))
 (pss_one (ps_expr (pe_bm PySem.F.plainAttrs_list PySem.F.slot_list_insert PySem.F.type_list_insert mt_insert (pv 3) (pa_cons (pv 4) (pa_cons (pe_bm PySem.F.plainAttrs_list PySem.F.slot_list_pop PySem.F.type_list_pop mt_popAt (pv 3) (pa_cons (pe_has Hd (hr.mono (by decide)) pass0 (pa_cons (pv 0) (pa_cons (pe_callB call_len (by rfl) (T.free 47 rfl) PySem.boot_len (pa_cons (pv 3) pa_nil)) pa_nil))) pa_nil)) pa_nil)))))
 (pss_one (ps_if (PW.pt (pw_and (pt_cmpR op_eq (pv 5) pe_int (nomark _)) (pw_and1 (pt_cmpR op_gt (pe_callB call_len (by rfl) (T.free 47 rfl) PySem.boot_len (pa_cons (pv 2) pa_nil)) pe_int (nomark _)))))
 (pss_cons (ps_set (i := 6) scSp.nd rfl (Or.inl rfl) (pe_has Hs (hr.mono (by decide)) pass0 (pa_cons (pv 0) (pa_cons (pv 2) pa_nil))))
 (pss_one (ps_expr (pe_bm PySem.F.plainAttrs_list PySem.F.slot_list_insert PySem.F.type_list_insert mt_insert (pv 3) (pa_cons (pv 4) (pa_cons (pe_ifExp (PW.pt (pw_and (pt_val (pe_callB call_isi (by rfl) (T.free 46 rfl) (by decide +kernel) (pa_cons (pv 6) (pa_cons (pe_bltn (v := .ty "tuple") (by rfl) (T.free 51 rfl) (by decide +kernel) rfl) pa_nil)))) (pw_and1 (pt_cmpR op_gt (pe_callB call_len (by rfl) (T.free 47 rfl) PySem.boot_len (pa_cons (pv 6) pa_nil)) pe_int (nomark _))))) (pe_ix ix_tup (pv 6) pe_int (fun _ _ => rfl)) (pe_tup (pa_cons (pv 6) (pa_cons pe_non pa_nil)))) pa_nil))))))
 (pss_one (ps_asg (pe_has Ho (hr.mono (by decide)) pass0 (pa_cons (pv 0) pa_nil)) (pg_sub (pv 3) (pe_has Hd (hr.mono (by decide)) pass0 (pa_cons (pv 0) (pa_cons (pe_callB call_len (by rfl) (T.free 47 rfl) PySem.boot_len (pa_cons (pv 3) pa_nil)) pa_nil))) set_list))))))))))
 (pss_one (ps_ret (pe_callTy call_tuple_of (by rfl) (T.free 51 rfl) (by decide +kernel) (pa_cons (pv 3) pa_nil))))))), ?_⟩
    obtain ⟨a, b, o, ds, es, rfl, hd, hv, ho, n5, m5, okd, oke, hQ⟩ := h
    obtain ⟨c, cs, hce, nca, hc⟩ := hd.cells
    have hold := hd.held
    obtain ⟨b', us, eb, hb, hr'⟩ := Dx.tup_inv hv
    cases eb
    obtain ⟨o', ws, eo, hoo, hor⟩ := Dx.tup_inv ho
    cases eo
    have lus : us.length = ds.length := dxAll_len hr'
    have lws : ws.length = es.length := dxAll_len hor
    refine ⟨_, rfl, b, us, rfl, .inr (st_of (same_delH _ _ hb)), fun f nf _ => ?_⟩
    have nfa : f ≠ a := hd.ne_new nf
    have nc : c ≠ f := fun z => by
      rw [← z, hc] at nf
      cases nf
    have nba : b ≠ a := fun z => by
      rw [z, delH_same] at hb
      cases hb
    have noa : o ≠ a := fun z => by
      rw [z, delH_same] at hoo
      cases hoo
    have sf := same_new (o := HO.lst us) nf
    have sK : Same (delH H a) (delH (delH (upd H f (HO.lst us)) a) f) := fun x o e => by
      by_cases z : x = a
      · rw [z, delH_same] at e
        cases e
      · rw [delH_ne z] at e
        have nb := ne_of_none e nf
        rw [delH_ne nb, delH_ne z, upd_ne nb]
        exact e
    have L0 : LD H a f c ds (upd H f (HO.lst us)) := ⟨hand_same hd sf, (cells_same hd sf).trans hce, sK, us, upd_same, DxAll.same sK _ _ hr'⟩
    generalize upd H f (HO.lst us) = H0 at L0 ⊢
    have ret : ∀ (H3 : Hp) (ds' : List PyData), LD H a f c ds' H3 → ds'.length ≤ ds.length + 1 → (∀ d ∈ ds', OkE d) → ∃ acc, H3 f = some (.lst acc) ∧ ∀ l, H3 l = none → Q (.ref l) (upd H3 l (.tup acc)) := fun H3 ds' L le ok => by
      obtain ⟨acc, e, da⟩ := L.at_
      refine ⟨acc, e, fun l nl => ?_⟩
      have s8 := same_new (o := HO.tup acc) nl
      have g3 : Go a H H3 := ⟨L.hd, L.ce.trans hce.symm, L.sm.trans same_delH⟩
      refine hQ _ l ds' (g3.trans (Go.new g3.hd s8)) ?_ le ok
      exact .tup (by rw [delH_ne (L.hd.ne_new nl)]; exact upd_same) (DxAll.same (same_delH.trans (same_del s8)) _ _ da)
    have hb0 : H0 b = some (.tup us) := K_up _ _ (L0.sm _ _ hb)
    refine ⟨_, rfl, _, rfl, _, _, rfl, .inr ⟨us, st_of hb0, rfl⟩, _, _, rfl, rfl, a, _, rfl, L0.hd, by omega, by omega, fun H1 at' hd1 e1 c1 t0 t1 => ⟨_, _, rfl, ?_⟩⟩
    have L1 := L0.draw nfa hd1 e1 c1
    refine ⟨_, rfl, a, 5, rfl, L1.hd, by decide, by decide, fun H2 kd hd2 e2 c2 k0 k1 => ?_⟩
    have L2' := L1.draw nfa hd2 e2 c2
    obtain ⟨j, rfl⟩ := Int.eq_ofNat_of_zero_le t0
    have hb2 : H2 b = some (.tup us) := K_up _ _ (L2'.sm _ _ hb)
    have ho2 : H2 o = some (.tup ws) := K_up _ _ (L2'.sm _ _ hoo)
    obtain ⟨acc, ea, da⟩ := L2'.at_
    have lacc := dxAll_len da
    have ins : ∀ (H4 : Hp) (x : V) (dx : PyData), LD H a f c ds H4 → Dx (delH (delH H4 a) f) x dx → OkE dx → ∃ acc, H4 f = some (.lst acc) ∧ acc.length < sizeLine ∧ ∃ acc', (upd H4 f (.lst (acc.take ((j : Nat) : Int).toNat ++ [x] ++ acc.drop ((j : Nat) : Int).toNat))) f = some (.lst acc') ∧
        ∀ l, (upd H4 f (.lst (acc.take ((j : Nat) : Int).toNat ++ [x] ++ acc.drop ((j : Nat) : Int).toNat))) l = none → Q (.ref l) (upd (upd H4 f (.lst (acc.take ((j : Nat) : Int).toNat ++ [x] ++ acc.drop ((j : Nat) : Int).toNat))) l (.tup acc')) := fun H4 x dx L dv ok => by
      obtain ⟨acc4, ea4, da4⟩ := L.at_
      have l4 := dxAll_len da4
      exact ⟨acc4, ea4, small1000 (by omega), ret _ _ (L.put nfa nc (DxAll.insAt da4 dv _)) ins_len (ins_ok okd ok)⟩
    clear L0 L1 e1 c1 hd1 e2 c2 hd2 sK hb0
    refine ⟨_, rfl, rfl, _, rfl, ite2 (fun e => iteT ?_) (fun e => ⟨_, rfl, _, _, rfl, .inr ⟨us, st_of hb2, rfl⟩, rfl, _, rfl, ite2 (fun e' => ?_) (fun e' => ?_)⟩)⟩
    · refine ⟨_, rfl, .inl ⟨rfl, _, sq_of ea⟩, _, rfl, _, rfl, a, rfl, L2'.hd, fun H3 v d g3 q3 m => ?_⟩
      have L3 := L2'.go nfa g3
      have dv : Dx (delH (delH H3 a) f) v d := Dx.same (newH_off2 L2'.hd.held L2'.held) _ _ q3
      obtain ⟨acc4, ea4, z4, acc5, ea5, k5⟩ := ins H3 v d L3 dv (show OkO d from odds_ok d m).e
      exact ⟨f, acc4, _, v, rfl, rfl, ea4, z4, by omega, by omega, _, rfl, f, acc5, rfl, .inl ⟨sq_of ea5, k5⟩⟩
    · refine ⟨_, rfl, .inl ⟨rfl, _, sq_of ea⟩, _, rfl, _, rfl, a, rfl, L2'.hd, fun H3 v d g3 q3 m => ?_⟩
      have L3 := L2'.go nfa g3
      have dv : Dx (delH (delH H3 a) f) v d := Dx.same (newH_off2 L2'.hd.held L2'.held) _ _ q3
      obtain ⟨acc4, ea4, z4, acc5, ea5, k5⟩ := ins H3 v d L3 dv (show OkO d from odds_ok d m).e
      exact ⟨f, acc4, _, v, rfl, rfl, ea4, z4, by omega, by omega, _, rfl, f, acc5, rfl, .inl ⟨sq_of ea5, k5⟩⟩
    have u0 : 0 < us.length := by
      rcases Nat.eq_zero_or_pos us.length with z | z
      · exact absurd (by rw [z]; rfl) e'
      · exact z
    refine ⟨_, rfl, rfl, _, rfl, ite2 (fun e1 => ?_) (fun e1 => ?_)⟩
    · refine ⟨_, rfl, .inl ⟨rfl, _, sq_of ea⟩, _, rfl, _, rfl, _, rfl, a, .ref b, us, rfl, L2'.hd, .inl ⟨b, rfl, nba, .inr hb2⟩, u0, by omega, fun H3 i v hd3 e3 c3 ev => ?_⟩
      have L3 := L2'.draw nfa hd3 e3 c3
      obtain ⟨d, md, dv⟩ := DxAll.some (DxAll.same L3.sm _ _ hr') ev
      obtain ⟨acc4, ea4, z4, acc5, ea5, k5⟩ := ins H3 v d L3 dv (okd d md)
      exact ⟨f, acc4, _, v, rfl, rfl, ea4, z4, by omega, by omega, _, rfl, f, acc5, rfl, .inl ⟨sq_of ea5, k5⟩⟩
    refine ⟨_, rfl, rfl, _, rfl, ite2 (fun e2 => ?_) (fun e2 => ?_)⟩
    · refine ⟨_, rfl, .inl ⟨rfl, _, sq_of ea⟩, _, rfl, _, rfl, .inl ⟨rfl, _, sq_of ea⟩, _, rfl, _, rfl, _, _, rfl, .inl ⟨acc, sq_of ea, rfl⟩, a, _, rfl, L2'.hd, by omega, by omega, fun H3 r hd3 e3 c3 r0 r1 => ?_⟩
      have L3 := L2'.draw nfa hd3 e3 c3
      obtain ⟨r, rfl⟩ := Int.eq_ofNat_of_zero_le r0
      obtain ⟨acc3, ea3, da3⟩ := L3.at_
      have l3 := dxAll_len da3
      have hr3 : r < acc3.length := by omega
      have or : acc3[r]? = some acc3[r] := List.getElem?_eq_getElem hr3
      have dr : ds[r]? = some ds[r] := List.getElem?_eq_getElem (by omega)
      have dv := DxAll.at da3 or dr
      refine ⟨f, acc3, _, r, acc3[r], rfl, rfl, ea3, by omega, by omega, PyProof.Rows.seqIndex_at (by omega) (by omega), or, ?_⟩
      have mdr : ds[r] ∈ ds := List.getElem_mem (by omega)
      generalize acc3[r] = y at dv ⊢
      generalize ds[r] = dy at dv mdr
      have L4 := L3.put nfa nc (DxAll.erase r da3)
      have dv4 : Dx (delH (delH (upd H3 f (HO.lst (acc3.eraseIdx r))) a) f) y dy := by rw [del2_upd]; exact dv
      generalize upd H3 f (HO.lst (acc3.eraseIdx r)) = H4 at L4 dv4 ⊢
      obtain ⟨acc4, ea4, da4⟩ := L4.at_
      have l4 := dxAll_len da4
      have l5 : (ds.eraseIdx r).length = ds.length - 1 := List.length_eraseIdx_of_lt (by omega)
      have L5 := L4.put nfa nc (DxAll.insAt da4 dv4 ((j : Nat) : Int).toNat)
      obtain ⟨acc5, ea5, k5⟩ := ret _ _ L5 (Nat.le_trans (ins_len (ds := ds.eraseIdx r)) (by omega)) (ins_ok (fun x hx => okd x (List.mem_of_mem_eraseIdx hx)) (okd dy mdr))
      exact ⟨f, acc4, _, y, rfl, rfl, ea4, small1000 (by omega), by omega, by omega, _, rfl, f, acc5, rfl, .inl ⟨sq_of ea5, k5⟩⟩
    refine ⟨_, rfl, rfl, _, rfl, ite2 (fun e3 => ⟨_, rfl, _, _, rfl, .inr ⟨ws, st_of ho2, rfl⟩, _, _, rfl, rfl, _, rfl, ite2 (fun e4 => ?_) (fun e4 => ?_)⟩) (fun e3 => iteF ?_)⟩
    · have w0 : 0 < ws.length := by
        have z := of_decide_eq_true e4
        omega
      refine ⟨_, rfl, _, rfl, a, .ref o, ws, rfl, L2'.hd, .inl ⟨o, rfl, noa, .inr ho2⟩, w0, by omega, fun H3 i v hd3 e5 c3 ev => ?_⟩
      have L3 := L2'.draw nfa hd3 e5 c3
      obtain ⟨d, md, dv⟩ := DxAll.some (DxAll.same L3.sm _ _ hor) ev
      obtain ⟨acc3, ea3, da3⟩ := L3.at_
      obtain ⟨ty, tyx, kk⟩ := kx_of (kx_tup d) (Dx.same K_up _ _ dv)
      refine ⟨_, rfl, .inl ⟨rfl, _, sq_of ea3⟩, _, rfl, _, rfl, v, .ty "tuple", _, _, _, rfl, .ty "tuple", tyx, kk, _, rfl, ?_⟩
      cases hT : isTup d with
      | false =>
        refine iteF (iteF ?_)
        refine ⟨_, rfl, (by show 2 ≤ sizeLine; decide), fun q np => ?_⟩
        have sp := same_new (o := HO.tup [v, .non]) np
        have L4 := L3.new sp
        have dn : Dx (delH (delH (upd H3 q (HO.tup [v, .non])) a) f) (.ref q) (.tuple [d, .none]) := by
          obtain ⟨wf, hwf⟩ := L3.held
          refine .tup ?_ (.cons (Dx.same (same_del (same_del sp)) _ _ dv) (.cons .non .nil))
          rw [delH_ne (Ne.symm (ne_of_none hwf np)), delH_ne (L3.hd.ne_new np)]
          exact upd_same
        obtain ⟨acc4, ea4, z4, acc5, ea5, k5⟩ := ins _ _ _ L4 dn (okO_pair (oke d md))
        exact ⟨f, acc4, _, _, rfl, rfl, ea4, z4, by omega, by omega, _, rfl, f, acc5, rfl, .inl ⟨sq_of ea5, k5⟩⟩
      | true =>
        obtain ⟨xs, rfl⟩ := isTup_tup hT
        obtain ⟨q, vs, rfl, hq, hvs⟩ := Dx.tup_inv dv
        have lvs := dxAll_len hvs
        have hq3 := K_up _ _ hq
        refine iteT ⟨_, rfl, _, _, rfl, .inr ⟨vs, st_of hq3, rfl⟩, _, _, rfl, rfl, _, rfl, ite2 (fun l => ?_) (fun l => ?_)⟩
        · have l' : 0 < vs.length := by
            have z := of_decide_eq_true l
            omega
          have o0 : vs[0]? = some vs[0] := List.getElem?_eq_getElem l'
          have d0 : xs[0]? = some xs[0] := List.getElem?_eq_getElem (by omega)
          have dv0 := DxAll.at hvs o0 d0
          obtain ⟨acc4, ea4, z4, acc5, ea5, k5⟩ := ins H3 _ _ L3 dv0 (okO_sub (oke _ md) (List.getElem_mem (by omega))).e
          exact ⟨_, rfl, q, vs, 0, vs[0], rfl, rfl, st_of hq3, atI_nat (j := 0) o0, f, acc4, _, _, rfl, rfl, ea4, z4, by omega, by omega, _, rfl, f, acc5, rfl, .inl ⟨sq_of ea5, k5⟩⟩
        · generalize hvv : V.ref q = v at dv
          generalize hdd : PyData.tuple xs = d at dv md
          refine ⟨_, rfl, (by show 2 ≤ sizeLine; decide), fun q np => ?_⟩
          have sp := same_new (o := HO.tup [v, .non]) np
          have L4 := L3.new sp
          have dn : Dx (delH (delH (upd H3 q (HO.tup [v, .non])) a) f) (.ref q) (.tuple [d, .none]) := by
            obtain ⟨wf, hwf⟩ := L3.held
            refine .tup ?_ (.cons (Dx.same (same_del (same_del sp)) _ _ dv) (.cons .non .nil))
            rw [delH_ne (Ne.symm (ne_of_none hwf np)), delH_ne (L3.hd.ne_new np)]
            exact upd_same
          obtain ⟨acc4, ea4, z4, acc5, ea5, k5⟩ := ins _ _ _ L4 dn (okO_pair (oke d md))
          exact ⟨f, acc4, _, _, rfl, rfl, ea4, z4, by omega, by omega, _, rfl, f, acc5, rfl, .inl ⟨sq_of ea5, k5⟩⟩
    · refine ⟨_, rfl, a, rfl, L2'.hd, fun H3 v d g3 q3 m => ?_⟩
      have L3 := L2'.go nfa g3
      have dv : Dx (delH (delH H3 a) f) v d := Dx.same (newH_off2 L2'.hd.held L2'.held) _ _ q3
      obtain ⟨acc3, ea3, da3⟩ := L3.at_
      have l3 := dxAll_len da3
      refine ⟨_, rfl, _, rfl, _, rfl, _, _, rfl, .inl ⟨acc3, sq_of ea3, rfl⟩, a, _, rfl, L3.hd, by omega, by omega, fun H4 r hd4 e4 c4 r0 r1 => ?_⟩
      have L4 := L3.draw nfa hd4 e4 c4
      have dv4 : Dx (delH (delH H4 a) f) v d := by rw [e4]; exact dv
      obtain ⟨r, rfl⟩ := Int.eq_ofNat_of_zero_le r0
      obtain ⟨acc4, ea4, da4⟩ := L4.at_
      have l4 := dxAll_len da4
      obtain ⟨acc5, ea5, k5⟩ := ret _ _ (L4.put nfa nc (DxAll.put dv4 r da4)) (by rw [List.length_set]; omega) (fun x hx => by
        rcases List.mem_or_eq_of_mem_set hx with h | h
        · exact okd x h
        · rw [h]
          exact (show OkO d from odds_ok d m).e)
      exact ⟨f, acc4, _, r, rfl, rfl, ea4, ixN_nat (by omega), _, rfl, f, acc5, rfl, .inl ⟨sq_of ea5, k5⟩⟩
    · refine ⟨_, rfl, a, rfl, L2'.hd, fun H3 v d g3 q3 m => ?_⟩
      have L3 := L2'.go nfa g3
      have dv : Dx (delH (delH H3 a) f) v d := Dx.same (newH_off2 L2'.hd.held L2'.held) _ _ q3
      obtain ⟨acc3, ea3, da3⟩ := L3.at_
      have l3 := dxAll_len da3
      refine ⟨_, rfl, _, rfl, _, rfl, _, _, rfl, .inl ⟨acc3, sq_of ea3, rfl⟩, a, _, rfl, L3.hd, by omega, by omega, fun H4 r hd4 e4 c4 r0 r1 => ?_⟩
      have L4 := L3.draw nfa hd4 e4 c4
      have dv4 : Dx (delH (delH H4 a) f) v d := by rw [e4]; exact dv
      obtain ⟨r, rfl⟩ := Int.eq_ofNat_of_zero_le r0
      obtain ⟨acc4, ea4, da4⟩ := L4.at_
      have l4 := dxAll_len da4
      obtain ⟨acc5, ea5, k5⟩ := ret _ _ (L4.put nfa nc (DxAll.put dv4 r da4)) (by rw [List.length_set]; omega) (fun x hx => by
        rcases List.mem_or_eq_of_mem_set hx with h | h
        · exact okd x h
        · rw [h]
          exact (show OkO d from odds_ok d m).e)
      exact ⟨f, acc4, _, r, rfl, rfl, ea4, ixN_nat (by omega), _, rfl, f, acc5, rfl, .inl ⟨sq_of ea5, k5⟩⟩
end
end K11

set_option maxHeartbeats 8000000
namespace K11
open PySem PySem.Spec PyProof.Rows L2 V1 V2 V3
open Evl (pss_cut tCut sq_of st_of)
theorem wrap_sm {k s : Nat} : ∀ (z : Nat) {d : PyData}, Sm k s d → Sm (k + z) (s + z) (wrapD 0 z d)
  | 0, _, h => h
  | z + 1, d, h => by
    have e : wrapD 0 (z + 1) d = .tuple [wrapD 0 z d] := rfl
    rw [e]
    exact (sm_tup (n := 1) (ds := [wrapD 0 z d]) (fun x hx => by
      simp only [List.mem_cons, List.not_mem_nil, or_false] at hx
      rw [hx]
      exact wrap_sm z h) (by simp)).mono (by omega) (by omega)
theorem turn_at {ts : Tn} {ns : List Int} (g : GoodF ns ts) : ∀ i, i < (ts.map mkF).length → okT ns (ts.map mkF) i = true := fun i hi => by
  rw [List.length_map] at hi
  have at_ : ∀ j (hj : j < ts.length), (ts.map mkF).getD j .none = mkF ts[j] := fun j hj => by simp [List.getD, hj]
  unfold okT
  rw [at_ i hi]
  obtain ⟨h0, h1, h2, h3⟩ := g.th ts[i] (List.getElem_mem hi)
  have t : turnedD (mkF ts[i]) = true := by
    show (V2.fromTo 0 59 (.int (ts[i]).1) && thingD (ts[i]).2) = true
    rw [h2, Bool.and_true]
    show (decide (0 ≤ (ts[i]).1) && decide ((ts[i]).1 ≤ 59)) = true
    rw [decide_eq_true h0, decide_eq_true (by omega)]
    rfl
  have c : ns.contains (keyOf (mkF ts[i])) = false := by
    rw [Bool.eq_false_iff]
    intro z
    exact h3 (List.contains_iff_mem.mp z)
  rw [t, c]
  by_cases i0 : 0 < i
  · rw [at_ (i - 1) (by omega)]
    have z := List.pairwise_iff_getElem.mp g.tu (i - 1) i (by omega) hi (by omega)
    have y : decide (keyOf (mkF ts[i]) ≤ keyOf (mkF ts[i - 1])) = false := decide_eq_false (by
      show ¬ (ts[i]).1 ≤ (ts[i - 1]).1
      omega)
    rw [y, Bool.and_false]
    rfl
  · rw [decide_eq_false i0, Bool.false_and]
    rfl
theorem lotD_good {ns : List Int} (up : ns.Pairwise (· < ·)) (bd : ∀ n ∈ ns, 0 ≤ n ∧ n < 60) : lotD 60 (.tuple (ns.map PyData.int)) = true := by
  have z : ∀ (ns : List Int) (lo : Int), ns.Pairwise (· < ·) → (∀ n ∈ ns, lo ≤ n ∧ n < 60) → lotFrom 60 lo (ns.map PyData.int) = true := fun ns => by
    induction ns with
    | nil => intro _ _ _; rfl
    | cons n ns ih =>
      intro lo p b
      obtain ⟨p1, p2⟩ := List.pairwise_cons.mp p
      have b1 := b n List.mem_cons_self
      rw [List.map_cons, lotFrom]
      have y : V2.fromTo lo (60 - 1) (.int n) = true := by
        show (decide (lo ≤ n) && decide (n ≤ 60 - 1)) = true
        rw [decide_eq_true b1.1, decide_eq_true (by omega)]
        rfl
      rw [y, Bool.true_and]
      exact ih (n + 1) p2 fun x hx => by
        have := p1 x hx
        have := b x (List.mem_cons_of_mem _ hx)
        omega
  exact z ns 0 up bd
theorem partOf_good {ns : List Int} {ts : Tn} (g : GoodF ns ts) : partOf (.tuple (ns.map PyData.int)) (.tuple (ts.map mkF)) = none := by
  unfold partOf
  rw [if_pos (lotD_good g.up g.bd)]
  simp only [ints_of_map, firstBad_none (turn_at g)]
  rfl
/-- the lots, the faults, a thing, beside the hand -/
structure ST [CurK] (H : Hp) (a p g b : Addr) (v : V) (ns : List Int) (ts : Tn) (d : PyData) : Prop where
  hd : HandAt H a
  fa : FAt (delH H a) p ns ts
  eg : delH H a g = some (.tup (ns.map V.int))
  eb : Dx (delH H a) (.ref b) (.tuple (ts.map mkF))
  ev : Dx (delH H a) v d
theorem ST.go [CurK] {H H' : Hp} {a p g b : Addr} {v : V} {ns : List Int} {ts : Tn} {d : PyData} (h : ST H a p g b v ns ts d) (k : Go a H H') : ST H' a p g b v ns ts d :=
  ⟨k.hd, h.fa.same k.sm, k.sm _ _ h.eg, Dx.same k.sm _ _ h.eb, Dx.same k.sm _ _ h.ev⟩
abbrev Mid1 [CurK] (a0 a : Addr) : L2.St → Hp → Prop := fun σ H => ∃ (o2 o3 o4 : Option V) (g b : Addr) (ns : List Int) (ts : Tn), σ = [some (.ref a0), some (.ref a), o2, o3, o4, some (.ref g), some (.ref b), none, none, none, none, none, none, none, none, none] ∧ HandAt H a ∧ delH H a g = some (.tup (ns.map V.int)) ∧ Dx (delH H a) (.ref b) (.tuple (ts.map mkF)) ∧ GoodF ns ts ∧ (∀ t ∈ ts, Sm 34 60 t.2) ∧ ts.length ≤ 60
theorem len_bd {ns : List Int} (up : ns.Pairwise (· < ·)) (bd : ∀ n ∈ ns, 0 ≤ n ∧ n < 60) : ns.length ≤ 60 := by
  have z : ∀ (ns : List Int) (lo : Int), ns.Pairwise (· < ·) → (∀ n ∈ ns, lo ≤ n ∧ n < 60) → lo ≤ 60 → (ns.length : Int) ≤ 60 - lo := fun ns => by
    induction ns with
    | nil => intro lo _ _ h; simp; omega
    | cons n ns ih =>
      intro lo p b _
      obtain ⟨p1, p2⟩ := List.pairwise_cons.mp p
      have b1 := b n List.mem_cons_self
      have y := ih (n + 1) p2 (fun x hx => by
        have := p1 x hx
        have := b x (List.mem_cons_of_mem _ hx)
        omega) (by omega)
      rw [List.length_cons]
      omega
  have y := z ns 0 up bd (by omega)
  omega
theorem sm_mkF {t : Int × PyData} (h : Sm 34 60 t.2) : Sm 36 70 (mkF t) := by
  refine ⟨?_, ?_, ?_, ?_⟩
  · show thingAll [.int t.1, t.2] = true
    simp [thingAll, thingD, h.th]
  · show PyData.canLayAll0 [.int t.1, t.2] = true
    simp [PyData.canLayAll0, PyData.canLay0, h.lay]
  · have := h.dp
    simp only [mkF, PyData.depth, PyData.depthAll]
    omega
  · have := h.sz
    simp only [mkF, sizeD, sizeAll]
    omega
theorem map_inj {α β : Type} {f : α → β} (h : ∀ a b, f a = f b → a = b) : ∀ {xs ys : List α}, xs.map f = ys.map f → xs = ys
  | [], [], _ => rfl
  | [], _ :: _, e => nomatch e
  | _ :: _, [], e => nomatch e
  | x :: xs, y :: ys, e => by
    rw [List.map_cons, List.map_cons] at e
    obtain ⟨e1, e2⟩ := List.cons.inj e
    rw [h _ _ e1, map_inj h e2]
theorem ints_inj {ns ms : List Int} (e : PyData.tuple (ns.map PyData.int) = .tuple (ms.map PyData.int)) : ns = ms := by
  have z := PyData.tuple.inj e
  exact map_inj (fun a b h => PyData.int.inj h) z
theorem turns_inj {ts us : Tn} (e : PyData.tuple (ts.map mkF) = .tuple (us.map mkF)) : ts = us := by
  have z := PyData.tuple.inj e
  refine map_inj (fun a b h => ?_) z
  have y := PyData.tuple.inj h
  simp only [List.cons.injEq, PyData.int.injEq, and_true] at y
  exact Prod.ext y.1 y.2
theorem FAt.off [CurK] {H : Hp} {a p : Addr} {ns : List Int} {ts : Tn} (h : FAt H p ns ts) (hd : HandAt H a) (gf : GoodF ns ts) : FAt (delH H a) p ns ts := by
  obtain ⟨dx, l, b, q, us, kvs, hp, ha, hb, hu, hq, ind⟩ := h.ex
  obtain ⟨c, cs, i1, i2, i3, i4, e, _⟩ := hd.ex
  have ne : ∀ {x : Addr} {o : HO}, H x = some o → (∀ xs, o ≠ .lst xs) → delH H a x = some o := fun {x o} hx n => by
    have z : x ≠ a := fun z => by
      rw [z, e] at hx
      exact n _ (Option.some.inj hx).symm
    rw [delH_ne z]
    exact hx
  refine ⟨dx, l, b, q, us, kvs, ne hp (fun _ z => nomatch z), ne ha (fun _ z => nomatch z), ne hb (fun _ z => nomatch z), things_same hd.tups _ _ (thingAll_of fun x hx => ?_) hu, ne hq (fun _ z => nomatch z), fun n => ?_⟩
  · obtain ⟨t, ht, rfl⟩ := List.mem_map.mp hx
    show thingAll [.int t.1, t.2] = true
    simp [thingAll, thingD, (gf.th t ht).2.2.1]
  · have z := ind n
    cases e : look ts n with
    | none =>
      rw [e] at z
      exact z
    | some d =>
      rw [e] at z
      obtain ⟨v, h1, h2⟩ := z
      refine ⟨v, h1, thing_same hd.tups _ _ ?_ h2⟩
      unfold look at e
      obtain ⟨t, ht, rfl⟩ := Option.map_eq_some_iff.mp e
      exact (gf.th t (List.mem_of_find?_eq_some ht)).2.2.1
theorem nf_own [CurK] {C : Addr} : PySem.W.notFirst K C (.ref C) = true := by simp [PySem.W.notFirst]
def twT (ts : Tn) : Tn := ts.map fun t => (t.1, twinD t.2)
theorem eqv_twT : ∀ {ts : Tn}, (∀ t ∈ ts, Sm 34 60 t.2) → PyData.eqvAll (ts.map mkF) ((twT ts).map mkF) = true
  | [], _ => rfl
  | t :: ts, h => by
    have h1 := (twin_ok t.2 (h t List.mem_cons_self).th).2.2.2.2
    have h2 := eqv_twT (ts := ts) fun x hx => h x (List.mem_cons_of_mem _ hx)
    show PyData.eqvAll (mkF t :: ts.map mkF) (mkF (t.1, twinD t.2) :: (twT ts).map mkF) = true
    rw [PyData.eqvAll, h2, Bool.and_true]
    simp [mkF, PyData.eqv, PyData.eqvAll, h1]
theorem eqv_len : ∀ {xs ys : List PyData}, xs.length ≠ ys.length → PyData.eqvAll xs ys = false
  | [], [], h => absurd rfl h
  | [], _ :: _, _ => rfl
  | _ :: _, [], _ => rfl
  | x :: xs, y :: ys, h => by
    rw [PyData.eqvAll, eqv_len (xs := xs) (ys := ys) fun e => h (by rw [List.length_cons, List.length_cons, e]), Bool.and_false]
theorem sm_shaped {t : Int × PyData} (h : Sm 34 60 t.2) : SeqAt.shaped t.2 = true ∧ t.2.depth ≤ 50 := ⟨shaped_of h.lay (by have := h.dp; omega), by have := h.dp; omega⟩
section
variable [CurK] {mg : Str → Option Value}
theorem insF (T : Tx K mg) : C8.InsC K (He.ga K "Faults") := (T.insK 1 (x := "Faults") rfl).ins (He.cls_ok (T.c.fact 61 rfl)) T.exs.2.2.2
theorem eq_faults (T : Tx K mg) {H : Hp} {Q : VK} {E : XK} {p q : Addr} {ns ns' : List Int} {ts ts' : Tn} (h : FAt H p ns ts) (g : GoodF ns ts) (s : ∀ t ∈ ts, Sm 34 60 t.2) (l : ts.length ≤ 60) (h' : FAt H q ns' ts') (g' : GoodF ns' ts') (s' : ∀ t ∈ ts', Sm 34 60 t.2) (l' : ts'.length ≤ 60) {b : Bool}
    (e : (decide (ns = ns') && PyData.eqv (.tuple (ts.map mkF)) (.tuple (ts'.map mkF))) = b) (k : Q (.bl b) H) : rOwnE K (He.ga K "Faults") spFEq E (.ref p) (.ref q) H Q := by
  obtain ⟨dx, _, _, _, _, _, hp, _⟩ := h.ex
  obtain ⟨dy, _, _, _, _, _, hq, _⟩ := h'.ex
  subst e
  exact ⟨p, dx, _, _, rfl, hp, TyX_ins hq (insF T), nf_own, p, ns, ts, .ref q, rfl, h, g, fun t ht => sm_shaped (s t ht), by omega, .inr (.inr ⟨q, ns', ts', rfl, h', g', fun t ht => sm_shaped (s' t ht), by omega, _, rfl, k⟩)⟩
theorem eq_other (T : Tx K mg) {H : Hp} {Q : VK} {E : XK} {p : Addr} {ns : List Int} {ts : Tn} {v : V} {d : PyData} (h : FAt H p ns ts) (g : GoodF ns ts) (s : ∀ t ∈ ts, Sm 34 60 t.2) (l : ts.length ≤ 60) (hv : Dx H v d) (ne : d ≠ objD) (k : Q (.bl false) H) : rOwnE K (He.ga K "Faults") spFEq E (.ref p) v H Q := by
  obtain ⟨dx, _, _, _, _, _, hp, _⟩ := h.ex
  obtain ⟨t, ty, _, nf⟩ := kxC_no (T.insK 1 (x := "Faults") rfl) hv ne
  exact ⟨p, dx, _, t, rfl, hp, ty, nf, p, ns, ts, v, rfl, h, g, fun t ht => sm_shaped (s t ht), by omega, .inl ⟨d, hv, ne, _, rfl, k⟩⟩
theorem eq_hearing (T : Tx K mg) {H : Hp} {Q : VK} {E : XK} {p q dy : Addr} {fs : List (Str × V)} {ns : List Int} {ts : Tn} (h : FAt H p ns ts) (g : GoodF ns ts) (s : ∀ t ∈ ts, Sm 34 60 t.2) (l : ts.length ≤ 60) (hq : H q = some (.ins (He.ga K "Hearing") dy fs)) (k : Q (.bl false) H) : rOwnE K (He.ga K "Faults") spFEq E (.ref p) (.ref q) H Q := by
  obtain ⟨dx, _, _, _, _, _, hp, _⟩ := h.ex
  have iH : C8.InsC K (He.ga K "Hearing") := (T.insK 2 (x := "Hearing") rfl).ins (He.cls_ok (T.c.fact 70 rfl)) T.exs.2.2.2
  obtain ⟨k1, k2⟩ := T.two 2 1 (x := "Hearing") (y := "Faults") rfl rfl (by decide)
  have k3 := (T.two 1 2 (x := "Faults") (y := "Hearing") rfl rfl (by decide)).2
  exact ⟨p, dx, _, _, rfl, hp, TyX_ins hq iH, k3, p, ns, ts, .ref q, rfl, h, g, fun t ht => sm_shaped (s t ht), by omega, .inr (.inl ⟨q, dy, fs, _, rfl, hq, iH, k1, _, rfl, k⟩)⟩
end
abbrev Mid2 [CurK] (a0 a : Addr) : L2.St → Hp → Prop := fun σ H => ∃ (o2 o3 o4 : Option V) (g b p : Addr) (v : V) (ns : List Int) (ts : Tn) (d : PyData), σ = [some (.ref a0), some (.ref a), o2, o3, o4, some (.ref g), some (.ref b), some (.ref p), some v, none, none, none, none, none, none, none] ∧ ST H a p g b v ns ts d ∧ GoodF ns ts ∧ (∀ t ∈ ts, Sm 34 60 t.2) ∧ ts.length ≤ 60 ∧ Sm 4 22 d
theorem ok_sz {ns : List Int} {ts : Tn} (gf : GoodF ns ts) (tsm : ∀ t ∈ ts, Sm 34 60 t.2) (tl : ts.length ≤ 60) : okSz (.tuple (ns.map PyData.int)) (.tuple (ts.map mkF)) := by
  have nl60 := len_bd gf.up gf.bd
  refine ⟨fun ds e => ?_, fun ds e => ?_⟩
  · cases e
    rw [List.length_map]
    omega
  · cases e
    rw [List.length_map]
    refine ⟨by omega, fun d hd => ?_⟩
    obtain ⟨t, ht, rfl⟩ := List.mem_map.mp hd
    have z := sm_mkF (tsm t ht)
    exact ⟨by have := z.sz; omega, by have := z.dp; omega⟩
theorem good_twT {ns : List Int} {ts : Tn} (g : GoodF ns ts) : GoodF ns (twT ts) := by
  refine ⟨g.up, g.bd, fun t ht => ?_, ?_⟩
  · unfold twT at ht
    obtain ⟨t', ht', rfl⟩ := List.mem_map.mp ht
    have z := g.th t' ht'
    exact ⟨z.1, z.2.1, (twin_ok _ z.2.2.1).1, z.2.2.2⟩
  · unfold twT
    rw [List.pairwise_map]
    exact g.tu
theorem cut_last (ns : List Int) (h : 0 < ns.length) : cutV (ns.map V.int) none (some (-1)) = (ns.take (ns.length - 1)).map V.int := by
  unfold cutV
  rw [HT.sIx_none, List.drop_zero, Nat.sub_zero, List.length_map]
  simp only [HT.sIx]
  rw [if_pos (by decide), show (-1 + (ns.length : Int)).toNat = ns.length - 1 by omega, List.map_take]
theorem things_turns {ns : List Int} {ts : Tn} (gf : GoodF ns ts) : thingAll (ts.map mkF) = true := thingAll_of fun x hx => by
  obtain ⟨t, ht, rfl⟩ := List.mem_map.mp hx
  show thingAll [.int t.1, t.2] = true
  simp [thingAll, thingD, (gf.th t ht).2.2.1]
abbrev Mid3 [CurK] (a0 a : Addr) : L2.St → Hp → Prop := fun σ H => ∃ (o2 o3 o4 o9 o10 : Option V) (g b p : Addr) (v : V) (ns : List Int) (ts : Tn) (d : PyData), σ = [some (.ref a0), some (.ref a), o2, o3, o4, some (.ref g), some (.ref b), some (.ref p), some v, o9, o10, none, none, none, none, none] ∧ ST H a p g b v ns ts d ∧ GoodF ns ts ∧ (∀ t ∈ ts, Sm 34 60 t.2) ∧ ts.length ≤ 60 ∧ Sm 4 22 d
def rListLow (K : PySem.W.Frag) : List V → Hp → VK → Prop := fun xs H Q => ∃ p ys, xs = [.ref p] ∧ (SqL K H p ys ∨ SqT K H p ys) ∧ ∀ l, H l = none → (l == sysModules) = false → Q (.ref l) (upd H l (.lst ys))
theorem pick_go [CurK] {σ : L2.St} {H : Hp} {Q : VK} {a x : Addr} {k : Nat} {ds : List PyData} (hd : HandAt H a) (eL : Dx (delH H a) (.ref x) (.tuple ds)) (h1 : σ[1]? = some (some (.ref a))) (hk : σ[k]? = some (some (.ref x)))
    (kk : ∀ H' w d, Go a H H' → Dx (delH H' a) w d → (d ∈ oddsD ∨ ∀ es, d ≠ .tuple es) → Q w H') :
    (tCall spSome [] (fun _ _ _ => False) (tCons (tVar 1) (tCons (tLstS (tCons (tCB (rListLow K) (tCons (tVar k) tNil)) (tCons (tC .non) (tCons (tC (.int 0)) (tCons (tC (.str (Str.ofString ""))) (tCons tDNewK (tCons (tCall spOdd [] (fun _ _ _ => False) (tCons (tVar 1) tNil)) tNil))))))) tNil))) σ H Q := by
  obtain ⟨x', us, ex, hx, hr⟩ := Dx.tup_inv eL
  cases ex
  refine ⟨_, h1, _, hk, x, us, rfl, .inr (st_of (same_delH _ _ hx)), fun l nl low => ?_⟩
  intro p np
  have s1 := same_new (o := HO.lst us) nl
  have s2 := same_new (o := HO.dK []) np
  have g2 := (Go.new hd s1).trans (Go.new (hand_same hd s1) s2)
  have nla := hd.ne_new nl
  have npa := (hand_same hd s1).ne_new np
  have ql : Dx (delH (upd (upd H l (HO.lst us)) p (HO.dK [])) a) (.ref l) (.list ds) := by
    refine .lst ?_ low (DxAll.same g2.sm _ _ hr)
    rw [delH_ne nla]
    exact s2 _ _ upd_same
  have qp : Dx (delH (upd (upd H l (HO.lst us)) p (HO.dK [])) a) (.ref p) (.dict []) := .dct (by rw [delH_ne npa]; exact upd_same) .nil
  generalize upd (upd H l (HO.lst us)) p (HO.dK []) = H2 at g2 ql qp ⊢
  refine ⟨_, h1, a, rfl, g2.hd, fun H3 v d g3 q3 m => ?_⟩
  have qv : Dx (delH H3 a) v d := Dx.same (newH_off g2.hd.held) _ _ q3
  have g13 := g2.trans g3
  refine ⟨by show 6 ≤ sizeLine; decide, fun q nq _ => ?_⟩
  have s4 := same_new (o := HO.lst [.ref l, .non, .int 0, .str (Str.ofString ""), .ref p, v]) nq
  have all : DxAll (delH H3 a) [.ref l, .non, .int 0, .str (Str.ofString ""), .ref p, v] [.list ds, .none, .int 0, .str (Str.ofString ""), .dict [], d] :=
    .cons (g3.dx ql) (.cons .non (.cons (.int 0) (.cons (.str _) (.cons (g3.dx qp) (.cons qv .nil)))))
  refine ⟨a, _, _, rfl, hand_same g13.hd s4, .inl ⟨q, rfl, g13.hd.ne_new nq, .inl upd_same⟩, (by show 0 < 6; decide), (by show 6 < 1000; decide), fun H5 i w hd5 e5 c5 ev => ?_⟩
  have g5 := (Go.new g13.hd s4).trans (Go.draw hd5 e5 c5)
  obtain ⟨d', md, qd⟩ := DxAll.some (DxAll.same g5.sm _ _ all) ev
  refine kk H5 w d' (g13.trans g5) qd ?_
  simp only [List.mem_cons, List.not_mem_nil, or_false] at md
  rcases md with rfl | rfl | rfl | rfl | rfl | rfl
  · exact .inr fun _ z => nomatch z
  · exact .inr fun _ z => nomatch z
  · exact .inr fun _ z => nomatch z
  · exact .inr fun _ z => nomatch z
  · exact .inr fun _ z => nomatch z
  · exact .inl m
theorem pick_bad {d : PyData} (h : d ∈ oddsD ∨ ∀ es, d ≠ .tuple es) : ∀ ds, d = .tuple ds → ds.length ≤ 900 := fun ds e => by
  rcases h with h | h
  · have z := (odds_ok d h).1
    rw [e] at z
    simp only [sizeD] at z
    have := len_size ds
    omega
  · exact absurd e (h ds)
theorem pick_worse {d : PyData} (h : d ∈ oddsD ∨ ∀ es, d ≠ .tuple es) : ∀ ds, d = .tuple ds → ds.length ≤ 500 ∧ ∀ x ∈ ds, sizeD x ≤ 400 ∧ x.depth ≤ 44 := fun ds e => by
  rcases h with h | h
  · have z : OkO d := odds_ok d h
    rw [e] at z
    have z1 := z.1
    simp only [sizeD] at z1
    have := len_size ds
    refine ⟨by omega, fun x hx => ?_⟩
    have y := okO_sub z hx
    exact ⟨by have := y.1; omega, by have := y.2; omega⟩
  · exact absurd e (h ds)
theorem part_data [CurK] (d1 d2 : PyData) : ∃ d, (∀ H, Dx H (partV d1 d2) d) ∧ flatD 45 d = true := by
  have k : (∃ i, partV d1 d2 = .int i) ∨ ∃ x, partV d1 d2 = .str x := by
    unfold partV partOf
    split
    · split
      · rename_i ds
        cases firstBad (intsOf d1) ds with
        | none => exact .inr ⟨_, rfl⟩
        | some i => exact .inl ⟨_, rfl⟩
      · exact .inr ⟨_, rfl⟩
    · exact .inr ⟨_, rfl⟩
  rcases k with ⟨i, e⟩ | ⟨x, e⟩ <;> rw [e]
  · exact ⟨.int i, fun H => .int i, rfl⟩
  · exact ⟨.str x, fun H => .str x, rfl⟩
abbrev MidW [CurK] (a0 a : Addr) (o2 o3 o4 o9 o10 : Option V) (g b p : Addr) (v : V) (ns : List Int) (ts : Tn) (d : PyData) (H0 : Hp) (n : Nat) : L2.St → Hp → Prop := fun σ H => ∃ (o11 : Option V) (kd : Int) (vb vw : Addr) (bs ws : List PyData), σ = [some (.ref a0), some (.ref a), o2, o3, o4, some (.ref g), some (.ref b), some (.ref p), some v, o9, o10, o11, some (.ref vb), some (.ref vw), some (.int kd), none] ∧ Go a H0 H ∧ Dx (delH H a) (.ref vb) (.tuple bs) ∧ Dx (delH H a) (.ref vw) (.tuple ws) ∧ bs.length ≤ 100 ∧ ws.length ≤ n ∧ ∀ x ∈ ws, OkE x
abbrev MidG [CurK] (a0 a : Addr) (o2 o3 o4 o9 o10 : Option V) (g b p : Addr) (v : V) (ns : List Int) (ts : Tn) (d : PyData) (H0 : Hp) : L2.St → Hp → Prop := fun σ H => ∃ (o11 : Option V) (kd : Int) (vb vw : V) (db dw : PyData), σ = [some (.ref a0), some (.ref a), o2, o3, o4, some (.ref g), some (.ref b), some (.ref p), some v, o9, o10, o11, some vb, some vw, some (.int kd), none] ∧ Go a H0 H ∧ Dx (delH H a) vb db ∧ Dx (delH H a) vw dw ∧ okSz db dw
def spLaw [CurK] : Sp := fun vs H Q _ => ∃ (a : Addr) (ns : List Int), vs = [.ref a] ∧ SqL K H a (ns.map V.int) ∧ ns.length ≤ 63 ∧ ∀ H', Q (.bl true) H'
abbrev lawSl : List Str := ["script", "hand", "share", "fates", "letter", "gone", "turns", "faults", "thing", "one", "other", "turn", "bad", "worse", "kind", "hearing"]
theorem scLaw : FnScope lawSl ["script"] (defScope s_law) := ⟨rfl, rfl, rfl, by decide +kernel, rfl, by decide +kernel, by decide +kernel⟩
section
variable [CurK] {P : Program} {w : World} {mg : Str → Option Value} {base : Heap}
theorem ok_law (T : Tx K mg) : ∃ fd, (∀ base : Heap, LawOk P w K mg base (He.ga K "law") fd "script" spLaw) ∧ ∀ (s : Shared) (u : Value), BindsTo s fd ⟨[u], []⟩ [("script", u)] := by
  obtain ⟨fd, F⟩ := T.c.def_ 29 (d := d_law) rfl
  have bind := FunD.bindsA (ps := ["script"]) F fun _ _ _ _ _ _ us hl => match us, hl with | [_], _ => rfl
  refine ⟨fd, fun base => ?_, fun s u => bind s [u] rfl⟩
  have Hh' := ok_hand (P := P) (w := w) (base := base) T
  have Hd := ok_draw (P := P) (w := w) (base := base) T
  have Hs := ok_some (P := P) (w := w) (base := base) T
  have Ht := ok_thg (P := P) (w := w) (base := base) T 3
  have Hw := ok_wrap (P := P) (w := w) (base := base) T
  have Hm := ok_made (P := P) (w := w) (base := base) T
  have Htw := ok_twin (P := P) (w := w) (base := base) T 45
  have Hhe := ok_hears (P := P) (w := w) (base := base) T
  have Hsp := ok_sp (P := P) (w := w) (base := base) T
  have Ho := ok_odd (P := P) (w := w) (base := base) T
  have His := ok_is (P := P) (w := w) (base := base) T 46
  have Hpt := ok_part (P := P) (w := w) (base := base) T
  have Hle := ok_lear (P := P) (w := w) (base := base) T
  have Hf := ok_finit (P := P) (w := w) (base := base) T
  have Hh := ok_hinit (P := P) (w := w) (base := base) T
  have cH : Cls K (He.ga K "Hearing") := He.cls_ok (T.c.fact 70 rfl)
  have mHE := He.meth_ok (T.c.fact 74 (f := .meth "Hearing" "ear") rfl)
  obtain ⟨fdH, FHE, bHE⟩ := ok_hear (P := P) (w := w) (base := base) T
  obtain ⟨fe, Fe, be⟩ := ok_feq (P := P) (w := w) (base := base) T
  refine lawOk_of (k := 60) F scLaw ⟨rfl, by decide, by decide⟩ fun cdv s H v0 Q hr gd h => ?_
  refine ⟨_, PSs.nox (pss_cons (ps_set (i := 1) scLaw.nd rfl (Or.inr rfl) (pe_has Hh' (hr.mono (by decide)) pass0 (pa_cons (pv 0) pa_nil)))
 (pss_cons (ps_set (i := 2) scLaw.nd rfl (Or.inr rfl) (pe_has Hs (hr.mono (by decide)) pass0 (pa_cons (pv 1) (pa_cons (pe_lstS (pa_cons pe_int (pa_cons pe_int (pa_cons pe_int (pa_cons pe_int pa_nil))))) pa_nil))))
 (pss_cons (ps_set (i := 3) scLaw.nd rfl (Or.inr rfl) (pe_lc (own := [("letter", 4)]) (g := gName 4) (tt := tYes) (te := (tCall spDraw [] E0 (tCons (tVar 1) (tCons (tVar 2) tNil)))) (by rfl) scLaw.nd (pi_range1 (by rfl) (T.free 49 rfl) (pa_cons pe_int pa_nil))
 (blkOk_by (own := [("letter", 4)]) (N := lawSl) (sc := defScope s_law) (by decide +kernel)) (fun _ _ _ _ _ => (pg_name (i := 4) scLaw.nd rfl (Or.inl rfl))) (fun _ _ _ _ _ => pts_nil) (fun _ _ _ _ _ => (pe_has Hd (hr.mono (by decide)) pass0 (pa_cons (pv 1) (pa_cons (pv 2) pa_nil))))))
 (pss_cons (ps_set (i := 5) scLaw.nd rfl (Or.inl rfl) (pe_callTy call_tuple_of (by rfl) (T.free 51 rfl) (by decide +kernel) (pa_cons (pe_lc (own := [("letter", 4)]) (g := gName 4) (tt := tTest (tOp rEq (tOp (rIxL K) (tVar 3) (tVar 4)) (tC (.int 0)))) (te := (tVar 4)) (by rfl) scLaw.nd (pi_range1 (by rfl) (T.free 49 rfl) (pa_cons pe_int pa_nil))
 (blkOk_by (own := [("letter", 4)]) (N := lawSl) (sc := defScope s_law) (by decide +kernel)) (fun _ _ _ _ _ => (pg_name (i := 4) scLaw.nd rfl (Or.inl rfl))) (fun _ _ _ _ _ => (pts_one (pt_cmpR op_eq (pe_ix ix_list (pv 3) (pv 4) (fun _ _ => rfl)) pe_int (nomark _)))) (fun _ _ _ _ _ => (pv 4))) pa_nil)))
 (pss_cons (ps_set (i := 6) scLaw.nd rfl (Or.inl rfl) (pe_lstS pa_nil))
 (pss_cons (ps_for PassesOwn.never rfl (pi_range1 (by rfl) (T.free 49 rfl) (pa_cons pe_int pa_nil)) (pg_name (i := 4) scLaw.nd rfl (Or.inl rfl))
 (pss_one (ps_if (pt_cmpR op_eq (pe_ix ix_list (pv 3) (pv 4) (fun _ _ => rfl)) pe_int (nomark _))
 (pss_one (ps_expr (pe_bm PySem.F.plainAttrs_list PySem.F.slot_list_append PySem.F.type_list_append mt_append (pv 6) (pa_cons (pe_tup (pa_cons (pv 4) (pa_cons (pe_has Hw (hr.mono (by decide)) pass0 (pa_cons (pe_has Ht (hr.mono (by decide)) pass0 (pa_cons (pv 1) (pa_cons pe_int pa_nil))) (pa_cons (pe_has Hs (hr.mono (by decide)) pass0 (pa_cons (pv 1) (pa_cons (pe_lstS (pa_cons pe_int (pa_cons pe_int (pa_cons pe_int (pa_cons pe_int pa_nil))))) pa_nil))) (pa_cons pe_int pa_nil)))) pa_nil))) pa_nil))))
 pss_nil)))
 (pss_cut (ps_set (i := 6) scLaw.nd rfl (Or.inl rfl) (pe_callTy call_tuple_of (by rfl) (T.free 51 rfl) (by decide +kernel) (pa_cons (pv 6) pa_nil)))
 (pss_cons (ps_if (pt_cmpR op_ne (pe_has Hm (hr.mono (by decide)) pass0 (pa_cons (pv 5) (pa_cons (pv 6) pa_nil))) pe_str (nomark _))
 (pss_one (ps_ret pe_bl))
 pss_nil)
 (pss_cut (ps_par (i := 7) (j := 8) rfl scLaw.nd rfl rfl (by decide) rfl rfl (pa_cons (pe_hasC Hf (hr.mono (by decide)) passF (pa_cons (pv 5) (pa_cons (pv 6) pa_nil))) (pa_cons (pe_has Ht (hr.mono (by decide)) pass0 (pa_cons (pv 1) (pa_cons pe_int pa_nil))) pa_nil)) (by rfl))
 (pss_cons (ps_for PassesOwn.never rfl (pi_tup (pe_tup (pa_cons (pv 8) (pa_cons (pe_has Htw (hr.mono (by decide)) pass0 (pa_cons (pv 8) pa_nil)) (pa_cons (pv 8) pa_nil))))) (pg_name (i := 9) scLaw.nd rfl (Or.inl rfl))
 (pss_one (ps_if (pt_not (pt_val (pe_has Hhe (hr.mono (by decide)) pass0 (pa_cons (pv 7) (pa_cons (pv 5) (pa_cons (pv 6) (pa_cons (pv 9) pa_nil)))))))
 (pss_one (ps_ret pe_bl))
 pss_nil)))
 (pss_cons (ps_if (PW.pt (pw_or (pt_not (pt_cmpR (op_ownE Fe ((He.meth_ok (T.c.fact 67 (f := .meth "Faults" "__eq__") rfl)).at_) ((He.meth_ok (T.c.fact 67 (f := .meth "Faults" "__eq__") rfl)).fn) be pass0 (hr.mono (by decide))) (pv 7) (pe_hasC Hf (hr.mono (by decide)) passF (pa_cons (pv 5) (pa_cons (pe_callTy call_tuple_of (by rfl) (T.free 51 rfl) (by decide +kernel) (pa_cons (pe_lc (own := [("one", 9), ("other", 10)]) (g := gTup K 2 (gCons (gName 9) (gCons (gName 10) gNil))) (tt := tYes) (te := (tTup (tCons (tVar 9) (tCons (tCall (spTwin 45) [] E0 (tCons (tVar 10) tNil)) tNil)))) (by rfl) scLaw.nd (pi_tup (pv 6))
 (blkOk_by (own := [("one", 9), ("other", 10)]) (N := lawSl) (sc := defScope s_law) (by decide +kernel)) (fun _ _ _ _ _ => (pg_tup (by rfl) (pgs_cons (pg_name (i := 9) scLaw.nd rfl (Or.inl rfl)) (pgs_cons (pg_name (i := 10) scLaw.nd rfl (Or.inl rfl)) pgs_nil)))) (fun _ _ _ _ _ => pts_nil) (fun _ _ _ _ _ => (pe_tup (pa_cons (pv 9) (pa_cons (pe_has Htw (hr.mono (by decide)) pass0 (pa_cons (pv 10) pa_nil)) pa_nil))))) pa_nil)) pa_nil))) (nomark _))) (pw_or1 (pt_cmpR (op_ownE Fe ((He.meth_ok (T.c.fact 67 (f := .meth "Faults" "__eq__") rfl)).at_) ((He.meth_ok (T.c.fact 67 (f := .meth "Faults" "__eq__") rfl)).fn) be pass0 (hr.mono (by decide))) (pv 7) (pe_tup (pa_cons (pv 5) (pa_cons (pv 6) pa_nil))) (nomark _)))))
 (pss_one (ps_ret pe_bl))
 pss_nil)
 (pss_cut (ps_if (PW.pt (pw_or (PW.pt (pw_and (pt_cmpR op_gt (pe_callB call_len (by rfl) (T.free 47 rfl) PySem.boot_len (pa_cons (pv 6) pa_nil)) pe_int (nomark _)) (pw_and1 (pt_cmpR (op_ownE Fe ((He.meth_ok (T.c.fact 67 (f := .meth "Faults" "__eq__") rfl)).at_) ((He.meth_ok (T.c.fact 67 (f := .meth "Faults" "__eq__") rfl)).fn) be pass0 (hr.mono (by decide))) (pv 7) (pe_hasC Hf (hr.mono (by decide)) passF (pa_cons (pv 5) (pa_cons (pe_slice sl_tupA (pv 6) (po_some pe_int) po_none) pa_nil))) (nomark _))))) (pw_or1 (PW.pt (pw_and (pt_cmpR op_gt (pe_callB call_len (by rfl) (T.free 47 rfl) PySem.boot_len (pa_cons (pv 5) pa_nil)) pe_int (nomark _)) (pw_and1 (pt_cmpR (op_ownE Fe ((He.meth_ok (T.c.fact 67 (f := .meth "Faults" "__eq__") rfl)).at_) ((He.meth_ok (T.c.fact 67 (f := .meth "Faults" "__eq__") rfl)).fn) be pass0 (hr.mono (by decide))) (pv 7) (pe_hasC Hf (hr.mono (by decide)) passF (pa_cons (pe_slice sl_tupA (pv 5) po_none (po_some (pe_un un_neg pe_int))) (pa_cons (pv 6) pa_nil))) (nomark _))))))))
 (pss_one (ps_ret pe_bl))
 pss_nil)
 (pss_cut (ps_for PassesOwn.never rfl (pi_range1 (by rfl) (T.free 49 rfl) (pa_cons pe_int pa_nil)) (pg_name (i := 11) scLaw.nd rfl (Or.inl rfl))
 (pss_cons (ps_par (i := 12) (j := 13) rfl scLaw.nd rfl rfl (by decide) rfl rfl (pa_cons (pv 5) (pa_cons (pv 6) pa_nil)) (by rfl))
 (pss_cons (ps_set (i := 14) scLaw.nd rfl (Or.inl rfl) (pe_has Hd (hr.mono (by decide)) pass0 (pa_cons (pv 1) (pa_cons pe_int pa_nil))))
 (pss_cut (ps_if (pt_cmpR op_lt (pv 14) pe_int (nomark _))
 (pss_one (ps_set (i := 12) scLaw.nd rfl (Or.inl rfl) (pe_has Hsp (hr.mono (by decide)) pass0 (pa_cons (pv 1) (pa_cons (pv 5) (pa_cons (pv 6) pa_nil))))))
 pss_nil)
 (pss_cut (ps_if (pt_cmpR op_gt (pv 14) pe_int (nomark _))
 (pss_one (ps_set (i := 13) scLaw.nd rfl (Or.inl rfl) (pe_has Hsp (hr.mono (by decide)) pass0 (pa_cons (pv 1) (pa_cons (pv 13) (pa_cons (pv 5) pa_nil))))))
 pss_nil)
 (pss_cut (ps_if (pt_cmpR op_eq (pv 14) pe_int (nomark _))
 (pss_one (ps_set (i := 13) scLaw.nd rfl (Or.inl rfl) (pe_has Hsp (hr.mono (by decide)) pass0 (pa_cons (pv 1) (pa_cons (pv 13) (pa_cons (pv 5) pa_nil))))))
 pss_nil)
 (pss_cut (ps_if (pt_cmpR op_eq (pe_has Hd (hr.mono (by decide)) pass0 (pa_cons (pv 1) (pa_cons pe_int pa_nil))) pe_int (nomark _))
 (pss_one (ps_set (i := 12) scLaw.nd rfl (Or.inl rfl) (pe_has Hs (hr.mono (by decide)) pass0 (pa_cons (pv 1) (pa_cons (pe_lstS (pa_cons (pe_callTy call_list_low (by rfl) (T.free 48 rfl) (by decide +kernel) (pa_cons (pv 5) pa_nil)) (pa_cons pe_non (pa_cons pe_int (pa_cons pe_str (pa_cons pe_dnewK (pa_cons (pe_has Ho (hr.mono (by decide)) pass0 (pa_cons (pv 1) pa_nil)) pa_nil))))))) pa_nil)))))
 pss_nil)
 (pss_cut (ps_if (pt_cmpR op_eq (pe_has Hd (hr.mono (by decide)) pass0 (pa_cons (pv 1) (pa_cons pe_int pa_nil))) pe_int (nomark _))
 (pss_one (ps_set (i := 13) scLaw.nd rfl (Or.inl rfl) (pe_has Hs (hr.mono (by decide)) pass0 (pa_cons (pv 1) (pa_cons (pe_lstS (pa_cons (pe_callTy call_list_low (by rfl) (T.free 48 rfl) (by decide +kernel) (pa_cons (pv 6) pa_nil)) (pa_cons pe_non (pa_cons pe_int (pa_cons pe_str (pa_cons pe_dnewK (pa_cons (pe_has Ho (hr.mono (by decide)) pass0 (pa_cons (pv 1) pa_nil)) pa_nil))))))) pa_nil)))))
 pss_nil)
 (pss_one (ps_if (pt_not (pt_val (pe_has His (hr.mono (by decide)) pass0 (pa_cons (pe_has Hm (hr.mono (by decide)) pass0 (pa_cons (pv 12) (pa_cons (pv 13) pa_nil))) (pa_cons (pe_has Hpt (hr.mono (by decide)) pass0 (pa_cons (pv 12) (pa_cons (pv 13) pa_nil))) pa_nil)))))
 (pss_one (ps_ret pe_bl))
 pss_nil))))))))))
 (pss_cons (ps_par (i := 15) (j := 4) rfl scLaw.nd rfl rfl (by decide) rfl rfl (pa_cons (pe_hasC Hh (hr.mono (by decide)) pass0 (pa_cons (pe_glob (v := .ref (He.ga K "_law_ear")) (by rfl) (T.glo 34 rfl) rfl) pa_nil)) (pa_cons (pe_has Hd (hr.mono (by decide)) pass0 (pa_cons (pv 1) (pa_cons pe_int pa_nil))) pa_nil)) (by rfl))
 (pss_one (ps_ret (pe_and (pe_has His (hr.mono (by decide)) pass0 (pa_cons (pe_meth (pv 15) cH mHE FHE (hr.mono (by decide)) bHE .nil pass0 (pa_cons (pv 4) (pa_cons (pv 8) pa_nil))) (pa_cons (pe_has Hle (hr.mono (by decide)) pass0 (pa_cons (pv 4) (pa_cons (pv 8) pa_nil))) pa_nil))) (pe_one (pe_not (pe_cmpR (op_ownE Fe ((He.meth_ok (T.c.fact 67 (f := .meth "Faults" "__eq__") rfl)).at_) ((He.meth_ok (T.c.fact 67 (f := .meth "Faults" "__eq__") rfl)).fn) be pass0 (hr.mono (by decide))) (pv 7) (pv 15) (nomark _))))))))))))))))))))), ?_⟩
  obtain ⟨a0, ns0, hv, hS, hl, hQ⟩ := h
  obtain rfl : v0 = .ref a0 := by simpa using hv
  refine ⟨_, rfl, a0, ns0, rfl, hS, hl, fun H1 a s1 n1 hd1 => ?_⟩
  refine ⟨_, rfl, (by show 4 ≤ sizeLine; decide), fun q nq _ => ?_⟩
  refine some_ints [2, 3, 12, 60] hd1 nq (by decide) (by decide) (by decide) fun H2 sh g2 sm2 => ?_
  have hd2 := g2.hd
  have sh2 : 2 ≤ sh ∧ sh ≤ 60 := by
    simp only [List.mem_cons, List.not_mem_nil, or_false] at sm2
    omega
  clear s1 n1 hd1 nq g2 sm2
  refine ⟨60, rfl, by decide, by decide, fun D nD => ?_⟩
  obtain ⟨c, cs, hce, nca, hc⟩ := hd2.cells
  have Da := hd2.ne_new nD
  have cD : c ≠ D := ne_of_none hc nD
  refine lc_gen (σ := [some (.ref a0), some (.ref a), some (.int ((sh : Nat) : Int)), none, none, none, none, none, none, none, none, none, none, none, none, none]) (vs := [4]) (walk_range (lo := 0) (n := 60)) nD (fun j acc H' => Go a H2 H' ∧ ∃ os : List Int, acc = os.map V.int ∧ os.length = j) ⟨Go.refl hd2, [], rfl, rfl⟩ (fun _ _ _ _ _ => True.intro) ?_ ?_
  · rintro j acc x H14' H14 hj la e ⟨g14, os, rfl, lo⟩ ⟨rfl, rfl⟩
    refine ⟨rfl, ?_⟩
    simp only [tYes, if_true]
    refine ⟨_, rfl, _, rfl, a, _, rfl, hand_same g14.hd same_delH, by omega, by omega, fun H15 r hd15 e15 c15 r0 r1 => ?_⟩
    obtain ⟨g15, eD⟩ := g14.draw_in hce cD Da hd15 e15 c15
    exact lc_put la (by omega) (eD.trans e) ⟨g15, os ++ [r], by rw [List.map_append]; rfl, by rw [List.length_append, lo]; rfl⟩
  rintro acc H3 la e3 ⟨g3, os, rfl, lo⟩
  have hd3 := hand_same g3.hd (same_delH (H := H3) (a := D))
  have ce3 := (g3.undel Da).ce
  clear g3 nD la hce hc nca cs hd2
  refine ⟨60, rfl, by decide, by decide, fun D2 nD2 => ?_⟩
  refine lc_gen (σ := [some (.ref a0), some (.ref a), some (.int ((sh : Nat) : Int)), some (.ref D), none, none, none, none, none, none, none, none, none, none, none, none]) (vs := [4]) (walk_range (lo := 0) (n := 60)) nD2 (fun i acc H' => Same H3 H' ∧ ∃ ns : List Int, acc = ns.map V.int ∧ ns.Pairwise (· < ·) ∧ ∀ n ∈ ns, 0 ≤ n ∧ n < i ∧ os[n.toNat]? = some 0) ⟨Same.refl _, [], rfl, .nil, fun n hn => absurd hn List.not_mem_nil⟩ (fun _ _ _ _ _ => True.intro) ?_ ?_
  · rintro i acc x H4' H4 hi la e ⟨sm, ns, rfl, pw, bd⟩ ⟨rfl, rfl⟩
    have eD4 : H4 D = some (.lst (os.map V.int)) := same_delH _ _ (sm _ _ e3)
    have oi : os[i]? = some os[i] := List.getElem?_eq_getElem (by omega)
    have at_ : atI (os.map V.int) (0 + ((i : Nat) : Int)) = some (.int os[i]) := by
      rw [Int.zero_add]
      exact atI_nat (by rw [List.getElem?_map, oi]; rfl)
    refine ⟨rfl, ?_⟩
    refine ⟨_, rfl, _, rfl, D, _, _, _, rfl, rfl, sq_of eD4, at_, rfl, _, rfl, ite2 (fun e5 => ?_) (fun e5 => ?_)⟩
    · have z : os[i] = 0 := by simpa [dec_int] using e5
      refine ⟨_, rfl, lc_put la (by omega) e ⟨sm, ns ++ [0 + ((i : Nat) : Int)], by rw [List.map_append]; rfl, ?_, fun n hn => ?_⟩⟩
      · refine List.pairwise_append.mpr ⟨pw, .cons (fun x hx => absurd hx List.not_mem_nil) .nil, fun x hx y hy => ?_⟩
        simp only [List.mem_cons, List.not_mem_nil, or_false] at hy
        have := bd x hx
        omega
      · rcases List.mem_append.mp hn with q | q
        · have := bd n q
          exact ⟨this.1, by omega, this.2.2⟩
        · simp only [List.mem_cons, List.not_mem_nil, or_false] at q
          subst q
          rw [Int.zero_add]
          exact ⟨by omega, by omega, by rw [Int.toNat_natCast, oi, z]⟩
    · exact lc_skip la e ⟨sm, ns, rfl, pw, fun n hn => by have := bd n hn; exact ⟨this.1, by omega, this.2.2⟩⟩
  rintro acc H4 la e4 ⟨sm4, ns, rfl, pw, nbd⟩
  refine ⟨D2, _, rfl, .inl ⟨sq_of e4, fun g ng => ?_⟩⟩
  have s35 : Same H3 (upd H4 g (HO.tup (ns.map V.int))) := (sm4.trans same_delH).trans (same_new ng)
  have eg5 : upd H4 g (HO.tup (ns.map V.int)) g = some (.tup (ns.map V.int)) := upd_same
  generalize upd H4 g (HO.tup (ns.map V.int)) = H5 at s35 eg5 ⊢
  have hd5 := hand_same hd3 s35
  have eD5 := s35 _ _ e3
  clear s35 e4 sm4 la ng nD2 hd3 ce3 e3 cD
  refine ⟨by show 0 ≤ sizeLine; decide, fun f nf _ => ?_⟩
  obtain ⟨c, cs, hce, nca, hc⟩ := hd5.cells
  have nfa : f ≠ a := hd5.ne_new nf
  have nc : c ≠ f := ne_of_none hc nf
  have sf := same_new (o := HO.lst []) nf
  have L0 : LD H5 a f c (([] : Tn).map mkF) (upd H5 f (HO.lst [])) := by
    refine ⟨hand_same hd5 sf, (cells_same hd5 sf).trans hce, fun b o e => ?_, [], upd_same, .nil⟩
    by_cases z : b = a
    · rw [z, delH_same] at e
      cases e
    · rw [delH_ne z] at e
      have nb := ne_of_none e nf
      rw [delH_ne nb, delH_ne z, upd_ne nb]
      exact e
  have edD : delH H5 a D = some (.lst (os.map V.int)) := by rw [delH_ne Da]; exact eD5
  refine ⟨60, rfl, by decide, by decide, ?_⟩
  refine for_it (walk_range (lo := 0) (n := 60)) (fun i σ H' => ∃ (ts : Tn) (o4 : Option V), σ = [some (.ref a0), some (.ref a), some (.int ((sh : Nat) : Int)), some (.ref D), o4, some (.ref g), some (.ref f), none, none, none, none, none, none, none, none, none] ∧ LD H5 a f c (ts.map mkF) H' ∧ (ts.Pairwise fun x y => x.1 < y.1) ∧ ts.length ≤ i ∧ ∀ t ∈ ts, 0 ≤ t.1 ∧ t.1 < i ∧ os[t.1.toNat]? = some 1 ∧ Sm 34 60 t.2) ⟨[], _, rfl, L0, .nil, Nat.zero_le _, fun t ht => absurd ht List.not_mem_nil⟩ (fun _ _ _ _ _ => True.intro) ?_ ?_
  · rintro i x σ H6' H6 hi ⟨ts, o4, rfl, L, pw2, tl, tb⟩ ⟨rfl, rfl⟩
    have eD6 : H6 D = some (.lst (os.map V.int)) := K_up _ _ (L.sm _ _ edD)
    have oi : os[i]? = some os[i] := List.getElem?_eq_getElem (by omega)
    have at_ : atI (os.map V.int) (0 + ((i : Nat) : Int)) = some (.int os[i]) := by
      rw [Int.zero_add]
      exact atI_nat (by rw [List.getElem?_map, oi]; rfl)
    refine ⟨_, rfl, _, rfl, D, _, _, _, rfl, rfl, sq_of eD6, at_, rfl, _, rfl, ite2 (fun e5 => ?_) (fun e5 => ?_)⟩
    · have z : os[i] = 1 := by simpa [dec_int] using e5
      obtain ⟨acc6, ea6, da6⟩ := L.at_
      refine ⟨_, rfl, .inl ⟨rfl, _, sq_of ea6⟩, _, rfl, _, rfl, a, rfl, L.hd, fun H7 v d g7 q7 s7 => ?_⟩
      refine ⟨_, rfl, (by show 4 ≤ sizeLine; decide), fun q nq _ => ?_⟩
      refine some_ints [0, 0, 0, 30] g7.hd nq (by decide) (by decide) (by decide) fun H8 zz g8 zm => ?_
      have z30 : zz ≤ 30 := by
        simp only [List.mem_cons, List.not_mem_nil, or_false] at zm
        omega
      refine ⟨v, d, 0, H8, zz, rfl, by omega, thing_same (g8.tups g7.hd) _ _ s7.th q7, Same.refl _, fun u H9 s9 q9 => ?_⟩
      have q9' := Dx.same (uni_selfS s9) _ _ q9
      have s7' : Sm 4 22 d := s7
      have sw : Sm 34 60 (wrapD 0 zz d) := (wrap_sm zz s7').mono (by omega) (by omega)
      have L9 := ((L.go nfa g7).go nfa g8).new s9
      refine ⟨by show 2 ≤ sizeLine; decide, fun p np => ?_⟩
      have sp := same_new (o := HO.tup [.int (0 + ((i : Nat) : Int)), u]) np
      have L10 := L9.new sp
      have q10 := Dx.same sp _ _ q9'
      have ep : upd H9 p (HO.tup [.int (0 + ((i : Nat) : Int)), u]) p = some (.tup [.int (0 + ((i : Nat) : Int)), u]) := upd_same
      generalize upd H9 p (HO.tup [.int (0 + ((i : Nat) : Int)), u]) = H10 at L10 q10 ep ⊢
      obtain ⟨acc, ea, da⟩ := L10.at_
      have ld := dxAll_len da
      rw [List.length_map] at ld
      have tt : TupS H10 (delH (delH H10 a) f) := by
        have ea' : delH H10 a f = some (.lst acc) := by rw [delH_ne nfa]; exact ea
        exact L10.hd.tups.trans (tups_del ea')
      refine ⟨f, acc, _, rfl, rfl, ea, small1000 (by omega), ?_⟩
      refine ⟨ts ++ [(0 + ((i : Nat) : Int), wrapD 0 zz d)], _, rfl, L10.put nfa nc (by rw [List.map_append]; exact DxAll.app da (.cons (.tup (tt _ _ ep) (.cons (.int _) (.cons (thing_same tt _ _ sw.th q10) .nil))) .nil)), ?_, by rw [List.length_append]; simp only [List.length_cons, List.length_nil]; omega, fun t ht => ?_⟩
      · refine List.pairwise_append.mpr ⟨pw2, .cons (fun x hx => absurd hx List.not_mem_nil) .nil, fun x hx y hy => ?_⟩
        simp only [List.mem_cons, List.not_mem_nil, or_false] at hy
        rw [hy]
        have := (tb x hx).2.1
        simp only
        omega
      · rcases List.mem_append.mp ht with q | q
        · have := tb t q
          exact ⟨this.1, by omega, this.2.2⟩
        · simp only [List.mem_cons, List.not_mem_nil, or_false] at q
          subst q
          simp only [Int.zero_add]
          exact ⟨by omega, by omega, by rw [Int.toNat_natCast, oi, z], sw⟩
    · exact ⟨ts, _, rfl, L, pw2, by omega, fun t ht => by have := tb t ht; exact ⟨this.1, by omega, this.2.2⟩⟩
  rintro σ H6 ⟨ts, o4, rfl, L, pw2, tl, tb⟩
  refine ⟨Mid1 a0 a, ?_, ?_⟩
  · obtain ⟨acc, ea, da⟩ := L.at_
    refine ⟨_, rfl, f, acc, rfl, .inl ⟨sq_of ea, fun l nl => ?_⟩⟩
    have s7 := same_new (o := HO.tup acc) nl
    have nla := L.hd.ne_new nl
    refine ⟨_, _, _, g, l, ns, ts, rfl, hand_same L.hd s7, ?_, ?_, ⟨pw, fun n hn => by have := nbd n hn; exact ⟨this.1, by omega⟩, fun t ht => ?_, pw2⟩, fun t ht => (tb t ht).2.2.2, tl⟩
    · refine (same_delH.trans (same_del s7)) _ _ (L.sm _ _ ?_)
      rw [delH_ne fun z => by
        obtain ⟨o, eo⟩ := hd5.held
        have y := hd5.tups g _ eg5
        rw [z, delH_same] at y
        cases y]
      exact eg5
    · exact .tup (by rw [delH_ne nla]; exact upd_same) (DxAll.same (same_delH.trans (same_del s7)) _ _ da)
    · have z := tb t ht
      refine ⟨z.1, by omega, z.2.2.2.th, fun m => ?_⟩
      have y := (nbd _ m).2.2
      rw [z.2.2.1] at y
      cases y
  clear edD L0 sf nc nfa hce nca hc hd5 eD5 eg5 L pw2 tl tb pw nbd lo Da
  rintro σ H ⟨o2, o3, o4, g, b, ns, ts, rfl, hd, eg, eb, gf, tsm, tl⟩
  have pv : partV (.tuple (ns.map PyData.int)) (.tuple (ts.map mkF)) = .str "let" := by
    unfold partV
    rw [partOf_good gf]
    rfl
  have nl60 := len_bd gf.up gf.bd
  have osz : okSz (.tuple (ns.map PyData.int)) (.tuple (ts.map mkF)) := ⟨fun ds e => by
    cases e
    rw [List.length_map]
    omega, fun ds e => by
    cases e
    rw [List.length_map]
    refine ⟨by omega, fun d hd => ?_⟩
    obtain ⟨t, ht, rfl⟩ := List.mem_map.mp hd
    have z := sm_mkF (tsm t ht)
    exact ⟨by have := z.sz; omega, by have := z.dp; omega⟩⟩
  refine ⟨_, rfl, _, rfl, .ref g, .ref b, _, _, rfl, dx_ints (same_delH _ _ eg), Dx.same same_delH _ _ eb, osz, fun H1 s1 => ?_⟩
  rw [pv]
  refine ⟨rfl, false, rfl, iteF ?_⟩
  have g1 := Go.new hd s1
  have hd1 := g1.hd
  have eg1 := g1.at_ eg
  have eb1 := g1.dx eb
  clear eg eb hd s1 g1
  refine ⟨Mid2 a0 a, ?_, ?_⟩
  · refine ⟨_, rfl, _, rfl, ?_⟩
    refine faults_fin (Qa := fun p H' => _) (dx_ints (same_delH _ _ eg1)) (Dx.same same_delH _ _ eb1) (fun ds e => ⟨(osz.2 ds e).1, fun d hd => by have := ((osz.2 ds e).2 d hd).1; omega⟩) (fun x hx => ?_) (fun _ ns' ts' e1 e2 gf' p H2 s2 np fa => ?_)
    · rw [partOf_good gf] at hx
      cases hx
    · obtain rfl := ints_inj e1
      obtain rfl := turns_inj e2
      have g2 := Go.new hd1 s2
      refine ⟨_, rfl, a, rfl, g2.hd, fun H3 v d g3 q3 s3 => ⟨_, _, rfl, ?_⟩⟩
      have fa2 := fa.off g2.hd gf
      exact ⟨_, _, _, g, b, p, v, ns, ts, d, rfl, ⟨g3.hd, fa2.same g3.sm, g3.at_ (g2.at_ eg1), g3.dx (g2.dx eb1), thing_same g3.hd.tups _ _ s3.th q3⟩, gf, tsm, tl, s3⟩
  clear eg1 eb1 hd1 pv osz nl60
  rintro σ H ⟨o2, o3, o4, g, b, p, v, ns, ts, d, rfl, st, gf, tsm, tl, sd⟩
  -- each letter is heard as told
  refine ⟨_, rfl, _, rfl, v, d, rfl, Dx.same same_delH _ _ st.ev, flat_of 44 _ sd.th (by have := sd.dp; omega) (by have := sd.sz; omega), fun u H1 s1 q1 => ⟨_, rfl, by show 3 ≤ sizeLine; decide, fun r nr => ⟨r, rfl, ⟨_, st_of upd_same⟩, ?_⟩⟩⟩
  have g1 := Go.new st.hd s1
  have g2 := g1.trans (Go.new g1.hd (same_new (o := HO.tup [v, u, v]) nr))
  have er : delH (upd H1 r (HO.tup [v, u, v])) a r = some (.tup [v, u, v]) := by
    rw [delH_ne (g1.hd.ne_new nr)]
    exact upd_same
  have q2 : Dx (delH (upd H1 r (HO.tup [v, u, v])) a) u (twinD d) := thing_same g2.hd.tups _ _ sd.twin.th (Dx.same (same_new nr) _ _ q1)
  have st2 := st.go g2
  generalize upd H1 r (HO.tup [v, u, v]) = H2 at er q2 st2 ⊢
  clear g1 g2 nr q1 s1
  have items : ∀ (i : Nat) (x : V), [v, u, v][i]? = some x → ∃ dd, Dx (delH H2 a) x dd ∧ Sm 40 400 dd := fun i x hx => by
    match i, hx with
    | 0, hx => cases hx; exact ⟨d, st2.ev, sd.mono (by decide) (by decide)⟩
    | 1, hx => cases hx; exact ⟨twinD d, q2, sd.twin.mono (by decide) (by decide)⟩
    | 2, hx => cases hx; exact ⟨d, st2.ev, sd.mono (by decide) (by decide)⟩
    | _ + 3, hx => cases hx
  refine for_it walk_tup (fun i σ H' => ∃ o9, σ = [some (.ref a0), some (.ref a), o2, o3, o4, some (.ref g), some (.ref b), some (.ref p), some v, o9, none, none, none, none, none, none] ∧ Go a H2 H') ⟨_, rfl, Go.refl st2.hd⟩ (fun i σ H' _ z => by
    obtain ⟨_, _, z⟩ := z
    exact st_of (same_delH _ _ (z.at_ er))) ?_ ?_
  · rintro i x σ H3' H3 hi ⟨o9, rfl, g3⟩ ⟨rfl, hx⟩
    obtain ⟨dd, qx, sx⟩ := items i x hx
    have st3 := st2.go g3
    refine ⟨_, rfl, _, rfl, _, rfl, _, rfl, p, g, b, x, ns, ts, dd, rfl, st3.fa.same same_delH, gf, same_delH _ _ st3.eg, Dx.same same_delH _ _ st3.eb, Dx.same same_delH _ _ (g3.dx qx), sx, fun t ht => (tsm t ht).mono (by decide) (by decide), fun H4 s4 => ⟨_, rfl, iteF ⟨_, rfl, g3.trans (Go.new g3.hd s4)⟩⟩⟩
  rintro σ H3 ⟨o9, rfl, g3⟩
  have st3 := st2.go g3
  clear items er q2 g3 st2 st
  have osz : okSz (.tuple (ns.map PyData.int)) (.tuple (ts.map mkF)) := ok_sz gf tsm tl
  -- equal to the twins' faults
  obtain ⟨b', us, eb', hb, hr'⟩ := Dx.tup_inv (Dx.same same_delH _ _ st3.eb)
  cases eb'
  have lu := dxAll_len hr'
  rw [List.length_map] at lu
  have hb' := tup_off st3.hd hb
  refine ⟨_, rfl, _, rfl, _, rfl, b, rfl, ⟨_, st_of hb⟩, fun D nD => ?_⟩
  refine lc_gen (σ := [some (.ref a0), some (.ref a), o2, o3, o4, some (.ref g), some (.ref b), some (.ref p), some v, o9, none, none, none, none, none, none]) (vs := [9, 10]) (walk_tup (K := K) (a := b) (xs := us)) nD (fun i acc H' => Same H3 H' ∧ DxAll H' acc ((twT (ts.take i)).map mkF)) ⟨Same.refl H3, .nil⟩ (fun i acc H' _ z => st_of (same_delH _ _ (z.1 _ _ hb))) ?_ ?_
  · rintro i acc x H4' H4 hi l e ⟨sm, q⟩ ⟨rfl, hx⟩
    have hi' : i < ts.length := by omega
    have di : ts[i]? = some ts[i] := List.getElem?_eq_getElem hi'
    have sm' : Same H3 H4 := sm.trans same_delH
    have xt : Dx H4 x (mkF ts[i]) := Dx.same sm' _ _ (DxAll.at hr' hx (by rw [List.getElem?_map, di]; rfl))
    have stt := tsm ts[i] (List.getElem_mem hi')
    have tk : twT (ts.take (i + 1)) = twT (ts.take i) ++ [((ts[i]).1, twinD (ts[i]).2)] := by
      unfold twT
      rw [List.take_succ, di, List.map_append]
      rfl
    generalize ts[i] = t at xt stt tk
    obtain ⟨q', ws, rfl, hq', hw⟩ := Dx.tup_inv xt
    cases hw with | @cons va _ _ _ qa r1 =>
    cases r1 with | @cons vb _ _ _ qb r2 =>
    cases r2
    refine ⟨q', _, rfl, st_of hq', rfl, _, _, rfl, _, _, rfl, rfl, rfl, ?_⟩
    simp only [tYes, if_true]
    refine ⟨_, rfl, _, rfl, vb, t.2, rfl, qb, flat_of 44 _ stt.th (by have := stt.dp; omega) (by have := stt.sz; omega), fun u H5 s5 qu => ⟨by show 2 ≤ sizeLine; decide, fun r nr => ?_⟩⟩
    have sr := same_new (o := HO.tup [va, u]) nr
    have s56 := s5.trans sr
    have eD := s56 _ _ e
    have td : TupS (upd H5 r (HO.tup [va, u])) (delH (upd H5 r (HO.tup [va, u])) D) := tups_del eD
    refine lc_put l (by omega) eD ⟨fun b o ob => same_del s56 _ _ (sm _ _ ob), ?_⟩
    rw [tk, List.map_append]
    obtain rfl := Dx.int_inv qa
    exact DxAll.app (DxAll.same (same_del s56) _ _ q) (.cons (.tup (td _ _ upd_same) (.cons (.int _) (.cons (thing_same td _ _ stt.twin.th (Dx.same sr _ _ qu)) .nil))) .nil)
  rintro acc H4 l e ⟨sm, q⟩
  rw [lu, List.take_length] at q
  have gft : GoodF ns (twT ts) := good_twT gf
  have tst : ∀ t ∈ twT ts, Sm 34 60 t.2 := fun t ht => by
    unfold twT at ht
    obtain ⟨t', ht', rfl⟩ := List.mem_map.mp ht
    exact (tsm t' ht').twin
  have tlt : (twT ts).length ≤ 60 := by unfold twT; rw [List.length_map]; exact tl
  have ozt : okSz (.tuple (ns.map PyData.int)) (.tuple ((twT ts).map mkF)) := ok_sz gft tst tlt
  refine ⟨D, acc, rfl, .inl ⟨sq_of e, fun r nr => ?_⟩⟩
  have sr := same_new (o := HO.tup acc) nr
  have s35 : Same H3 (upd H4 r (HO.tup acc)) := (sm.trans same_delH).trans sr
  have q5 : Dx (upd H4 r (HO.tup acc)) (.ref r) (.tuple ((twT ts).map mkF)) := .tup upd_same (DxAll.same sr _ _ (DxAll.same same_delH _ _ q))
  generalize upd H4 r (HO.tup acc) = H5 at s35 q5
  have st5 := st3.go (Go.new st3.hd s35)
  refine faults_fin (Qa := fun p H' => _) (dx_ints (same_delH _ _ st5.eg)) q5 (fun ds e => ⟨(ozt.2 ds e).1, fun d hd => by have := ((ozt.2 ds e).2 d hd).1; omega⟩) (fun x hx => ?_) (fun _ ns' ts' e1 e2 gf' p' H6 s6 np fa => ?_)
  · rw [partOf_good gft] at hx
    cases hx
  obtain rfl := ints_inj e1
  obtain rfl := turns_inj e2
  have st6 := st5.go (Go.new st5.hd s6)
  refine eq_faults T (st6.fa.same same_delH) gf tsm tl fa gft tst tlt (b := true) (by rw [decide_eq_true rfl, Bool.true_and]; exact eqv_twT tsm) ?_
  refine ⟨_, rfl, iteF ?_⟩
  refine ⟨_, rfl, _, rfl, _, rfl, by show 2 ≤ sizeLine; decide, fun r2 nr2 => ?_⟩
  have sr2 := same_new (o := HO.tup [.ref g, .ref b]) nr2
  have q7 : Dx (upd H6 r2 (HO.tup [.ref g, .ref b])) (.ref r2) (.tuple [.tuple (ns.map PyData.int), .tuple (ts.map mkF)]) := .tup upd_same (.cons (dx_ints (sr2 _ _ (same_delH _ _ st6.eg))) (.cons (Dx.same (same_delH.trans sr2) _ _ st6.eb) .nil))
  have st7 := st6.go (Go.new st6.hd sr2)
  generalize upd H6 r2 (HO.tup [.ref g, .ref b]) = H7 at q7 st7 ⊢
  refine eq_other T (st7.fa.same same_delH) gf tsm tl q7 (fun z => nomatch z) ⟨_, rfl, iteF ?_⟩
  clear q7 sr2 nr2 st6 fa s6 np gf' e1 e2 st5 q5 s35 sr nr ozt tlt tst gft q sm l e hb' hr' hb osz st3
  -- not equal to those of other faults
  refine ⟨Mid3 a0 a, ?_, ?_⟩
  · obtain ⟨b', us, eb', hb, hr'⟩ := Dx.tup_inv (Dx.same same_delH _ _ st7.eb)
    cases eb'
    have lu := dxAll_len hr'
    rw [List.length_map] at lu
    have hrK : DxAll (delH H7 a) us (ts.map mkF) := things_same st7.hd.tups _ _ (things_turns gf) hr'
    refine ⟨_, rfl, _, _, rfl, .inr ⟨us, st_of hb, rfl⟩, _, _, rfl, rfl, _, rfl, ite2 (fun l1 => ?_) (fun l1 => iteF ?_)⟩
    · have l1' : 0 < us.length := by
        have z := of_decide_eq_true l1
        omega
      refine ⟨_, rfl, _, rfl, _, rfl, _, rfl, b, us, rfl, st_of hb, fun w => ?_, fun _ r nr => ?_⟩
      · have w1 := w.1
        rw [show HT.sIx us.length 0 (some 1) = min 1 us.length from HT.sIx_nat _ _ 1] at w1
        omega
      have cutd : cutV us (some 1) none = us.drop 1 := by
        unfold cutV
        rw [show HT.sIx us.length 0 (some 1) = min 1 us.length from HT.sIx_nat _ _ 1, HT.sIx_none, Nat.min_eq_left (by omega)]
        exact List.take_of_length_le (by rw [List.length_drop]; omega)
      rw [cutd]
      have s9 := same_new (o := HO.tup (us.drop 1)) nr
      have q9 : Dx (upd H7 r (HO.tup (us.drop 1))) (.ref r) (.tuple ((ts.drop 1).map mkF)) := by
        rw [List.map_drop]
        exact .tup upd_same (DxAll.drop 1 (DxAll.same s9 _ _ hr'))
      have st9 := st7.go (Go.new st7.hd s9)
      generalize upd H7 r (HO.tup (us.drop 1)) = H9 at q9 st9 ⊢
      have gfc : GoodF ns (ts.drop 1) := ⟨gf.up, gf.bd, fun t ht => gf.th t (List.mem_of_mem_drop ht), gf.tu.sublist (List.drop_sublist _ _)⟩
      have tsc : ∀ t ∈ ts.drop 1, Sm 34 60 t.2 := fun t ht => tsm t (List.mem_of_mem_drop ht)
      have tlc : (ts.drop 1).length ≤ 60 := by rw [List.length_drop]; omega
      have ozc := ok_sz gfc tsc tlc
      refine faults_fin (Qa := fun p H' => _) (dx_ints (same_delH _ _ st9.eg)) q9 (fun ds e => ⟨(ozc.2 ds e).1, fun d hd => by have := ((ozc.2 ds e).2 d hd).1; omega⟩) (fun x hx => ?_) (fun _ ns' ts' e1 e2 gf' p' H8 s10 np fa => ?_)
      · rw [partOf_good gfc] at hx
        cases hx
      obtain rfl := ints_inj e1
      obtain rfl := turns_inj e2
      have st8 := st9.go (Go.new st9.hd s10)
      refine eq_faults T (st8.fa.same same_delH) gf tsm tl fa gfc tsc tlc (b := false) (by
        have z : PyData.eqv (.tuple (ts.map mkF)) (.tuple ((ts.drop 1).map mkF)) = false := eqv_len (by rw [List.length_map, List.length_map, List.length_drop]; omega)
        rw [z, Bool.and_false]) ?_
      refine ⟨_, rfl, iteF ?_⟩
      clear s10 np fa gf' e1 e2 s9 q9 st9 hrK
      refine ⟨_, rfl, _, _, rfl, .inr ⟨_, st_of (same_delH _ _ st8.eg), rfl⟩, _, _, rfl, rfl, _, rfl, ite2 (fun l2 => ?_) (fun l2 => iteF ⟨_, _, _, _, _, g, b, p, v, ns, ts, d, rfl, st8, gf, tsm, tl, sd⟩)⟩
      have l2' : 0 < ns.length := by
        have z := of_decide_eq_true l2
        rw [List.length_map] at z
        omega
      refine ⟨_, rfl, _, rfl, _, rfl, _, rfl, g, _, rfl, st_of (same_delH _ _ st8.eg), fun w => ?_, fun _ r nr => ?_⟩
      · have w2 := w.2
        rw [List.length_map] at w2
        simp only [HT.sIx] at w2
        rw [if_pos (by decide)] at w2
        omega
      have cutd : cutV (ns.map V.int) none (some (-1)) = (ns.take (ns.length - 1)).map V.int := cut_last ns l2'
      rw [cutd]
      have s9 := same_new (o := HO.tup ((ns.take (ns.length - 1)).map V.int)) nr
      have e9 : upd H8 r (HO.tup ((ns.take (ns.length - 1)).map V.int)) r = some (.tup ((ns.take (ns.length - 1)).map V.int)) := upd_same
      have st9 := st8.go (Go.new st8.hd s9)
      generalize upd H8 r (HO.tup ((ns.take (ns.length - 1)).map V.int)) = H9 at e9 st9 ⊢
      have gfc : GoodF (ns.take (ns.length - 1)) ts := ⟨gf.up.sublist (List.take_sublist _ _), fun n hn => gf.bd n (List.mem_of_mem_take hn), fun t ht => by have z := gf.th t ht; exact ⟨z.1, z.2.1, z.2.2.1, fun m => z.2.2.2 (List.mem_of_mem_take m)⟩, gf.tu⟩
      have ozc := ok_sz gfc tsm tl
      refine ⟨_, rfl, ?_⟩
      refine faults_fin (Qa := fun p H' => _) (dx_ints e9) (Dx.same same_delH _ _ st9.eb) (fun ds e => ⟨(ozc.2 ds e).1, fun d hd => by have := ((ozc.2 ds e).2 d hd).1; omega⟩) (fun x hx => ?_) (fun _ ns' ts' e1 e2 gf' p' H10 s10 np fa => ?_)
      · rw [partOf_good gfc] at hx
        cases hx
      obtain rfl := ints_inj e1
      obtain rfl := turns_inj e2
      have st10 := st9.go (Go.new st9.hd s10)
      refine eq_faults T (st10.fa.same same_delH) gf tsm tl fa gfc tsm tl (b := false) (by rw [decide_eq_false fun e => ?_, Bool.false_and]; have z := congrArg List.length e; rw [List.length_take] at z; omega) ?_
      exact ⟨_, rfl, iteF ⟨_, _, _, _, _, g, b, p, v, ns, ts, d, rfl, st10, gf, tsm, tl, sd⟩⟩
    · have st8 := st7
      clear hrK
      refine ⟨_, rfl, _, _, rfl, .inr ⟨_, st_of (same_delH _ _ st8.eg), rfl⟩, _, _, rfl, rfl, _, rfl, ite2 (fun l2 => ?_) (fun l2 => iteF ⟨_, _, _, _, _, g, b, p, v, ns, ts, d, rfl, st8, gf, tsm, tl, sd⟩)⟩
      have l2' : 0 < ns.length := by
        have z := of_decide_eq_true l2
        rw [List.length_map] at z
        omega
      refine ⟨_, rfl, _, rfl, _, rfl, _, rfl, g, _, rfl, st_of (same_delH _ _ st8.eg), fun w => ?_, fun _ r nr => ?_⟩
      · have w2 := w.2
        rw [List.length_map] at w2
        simp only [HT.sIx] at w2
        rw [if_pos (by decide)] at w2
        omega
      have cutd : cutV (ns.map V.int) none (some (-1)) = (ns.take (ns.length - 1)).map V.int := cut_last ns l2'
      rw [cutd]
      have s9 := same_new (o := HO.tup ((ns.take (ns.length - 1)).map V.int)) nr
      have e9 : upd H7 r (HO.tup ((ns.take (ns.length - 1)).map V.int)) r = some (.tup ((ns.take (ns.length - 1)).map V.int)) := upd_same
      have st9 := st8.go (Go.new st8.hd s9)
      generalize upd H7 r (HO.tup ((ns.take (ns.length - 1)).map V.int)) = H9 at e9 st9 ⊢
      have gfc : GoodF (ns.take (ns.length - 1)) ts := ⟨gf.up.sublist (List.take_sublist _ _), fun n hn => gf.bd n (List.mem_of_mem_take hn), fun t ht => by have z := gf.th t ht; exact ⟨z.1, z.2.1, z.2.2.1, fun m => z.2.2.2 (List.mem_of_mem_take m)⟩, gf.tu⟩
      have ozc := ok_sz gfc tsm tl
      refine ⟨_, rfl, ?_⟩
      refine faults_fin (Qa := fun p H' => _) (dx_ints e9) (Dx.same same_delH _ _ st9.eb) (fun ds e => ⟨(ozc.2 ds e).1, fun d hd => by have := ((ozc.2 ds e).2 d hd).1; omega⟩) (fun x hx => ?_) (fun _ ns' ts' e1 e2 gf' p' H10 s10 np fa => ?_)
      · rw [partOf_good gfc] at hx
        cases hx
      obtain rfl := ints_inj e1
      obtain rfl := turns_inj e2
      have st10 := st9.go (Go.new st9.hd s10)
      refine eq_faults T (st10.fa.same same_delH) gf tsm tl fa gfc tsm tl (b := false) (by rw [decide_eq_false fun e => ?_, Bool.false_and]; have z := congrArg List.length e; rw [List.length_take] at z; omega) ?_
      exact ⟨_, rfl, iteF ⟨_, _, _, _, _, g, b, p, v, ns, ts, d, rfl, st10, gf, tsm, tl, sd⟩⟩
  clear st7
  rintro σ H ⟨o2, o3, o4, o9, o10, g, b, p, v, ns, ts, d, rfl, st, gf, tsm, tl, sd⟩
  refine ⟨fun σ H' => ∃ o11 o12 o13 o14, σ = [some (.ref a0), some (.ref a), o2, o3, o4, some (.ref g), some (.ref b), some (.ref p), some v, o9, o10, o11, o12, o13, o14, none] ∧ Go a H H', ?_, ?_⟩
  · have oi : ∀ x ∈ ns.map PyData.int, OkO x := fun x hx => by
      obtain ⟨n, _, rfl⟩ := List.mem_map.mp hx
      exact ⟨by simp [sizeD], by simp [PyData.depth]⟩
    have ot : ∀ x ∈ ts.map mkF, OkO x := fun x hx => by
      obtain ⟨t, ht, rfl⟩ := List.mem_map.mp hx
      have z := sm_mkF (tsm t ht)
      exact ⟨by have := z.sz; omega, by have := z.dp; omega⟩
    have nl60 := len_bd gf.up gf.bd
    have li : (ns.map PyData.int).length ≤ 60 := by rw [List.length_map]; exact nl60
    have lt : (ts.map mkF).length ≤ 60 := by rw [List.length_map]; exact tl
    refine ⟨4, rfl, by decide, by decide, for_it (walk_range (lo := 0) (n := 4)) (fun i σ H' => ∃ o11 o12 o13 o14, σ = [some (.ref a0), some (.ref a), o2, o3, o4, some (.ref g), some (.ref b), some (.ref p), some v, o9, o10, o11, o12, o13, o14, none] ∧ Go a H H') ⟨_, _, _, _, rfl, Go.refl st.hd⟩ (fun _ _ _ _ _ => True.intro) ?_ (fun σ H' q => q)⟩
    rintro i x σ H1' H1 hi ⟨o11, o12, o13, o14, rfl, g1⟩ ⟨rfl, rfl⟩
    have di : ∀ {H' : L2.Hp}, Go a H H' → Dx (delH H' a) (.ref g) (.tuple (ns.map PyData.int)) := fun k => dx_ints (k.at_ st.eg)
    have dt : ∀ {H' : L2.Hp}, Go a H H' → Dx (delH H' a) (.ref b) (.tuple (ts.map mkF)) := fun k => k.dx st.eb
    refine ⟨_, rfl, _, rfl, ⟨_, _, rfl, ?_⟩⟩
    refine ⟨_, rfl, a, 5, rfl, g1.hd, by decide, by decide, fun H2 kd hd2 e2 c2 k0 k1 => ?_⟩
    have g2 := g1.trans (Go.draw hd2 e2 c2)
    refine ⟨MidW a0 a o2 o3 o4 o9 o10 g b p v ns ts d H 60, ?_, ?_⟩
    · refine ⟨_, rfl, _, _, rfl, rfl, _, rfl, ite2 (fun e => ?_) (fun e => ?_)⟩
      · refine ⟨_, rfl, _, rfl, _, rfl, a, g, b, _, _, rfl, g2.hd, di g2, dt g2, by omega, by omega, fun x hx => (oi x hx).e, ot, fun H3 b' ds' g3 q3 l3 ok3 => ?_⟩
        have g13 := g2.trans g3
        exact ⟨_, _, b', b, ds', _, rfl, g13, q3, dt g13, by omega, lt, fun x hx => (ot x hx).e⟩
      · exact ⟨_, _, g, b, _, _, rfl, g2, di g2, dt g2, by omega, lt, fun x hx => (ot x hx).e⟩
    clear g2 e2 c2 hd2 k0 k1 g1
    rintro σ H2 ⟨o11, kd, vb, vw, bs, ws, rfl, g2, qb, qw, lb, lw, okw⟩
    refine ⟨MidW a0 a o2 o3 o4 o9 o10 g b p v ns ts d H 61, ?_, ?_⟩
    · refine ⟨_, rfl, _, _, rfl, rfl, _, rfl, ite2 (fun e => ?_) (fun e => ?_)⟩
      · refine ⟨_, rfl, _, rfl, _, rfl, a, vw, g, _, _, rfl, g2.hd, qw, di g2, by omega, by omega, okw, oi, fun H3 b' ds' g3 q3 l3 ok3 => ?_⟩
        exact ⟨_, _, vb, b', bs, ds', rfl, g2.trans g3, g3.dx qb, q3, lb, by omega, ok3⟩
      · exact ⟨_, _, vb, vw, bs, ws, rfl, g2, qb, qw, lb, by omega, okw⟩
    clear g2 qb qw lb lw okw
    rintro σ H2 ⟨o11, kd, vb, vw, bs, ws, rfl, g2, qb, qw, lb, lw, okw⟩
    refine ⟨MidG a0 a o2 o3 o4 o9 o10 g b p v ns ts d H, ?_, ?_⟩
    · refine ⟨_, rfl, rfl, _, rfl, ite2 (fun e => ?_) (fun e => ?_)⟩
      · refine ⟨_, rfl, _, rfl, _, rfl, a, vw, g, _, _, rfl, g2.hd, qw, di g2, by omega, by omega, okw, oi, fun H3 b' ds' g3 q3 l3 ok3 => ?_⟩
        exact ⟨_, _, .ref vb, .ref b', .tuple bs, .tuple ds', rfl, g2.trans g3, g3.dx qb, q3, fun es e => by cases e; omega, fun es e => by cases e; exact ⟨by omega, ok3⟩⟩
      · exact ⟨_, _, .ref vb, .ref vw, .tuple bs, .tuple ws, rfl, g2, qb, qw, fun es e => by cases e; omega, fun es e => by cases e; exact ⟨by omega, okw⟩⟩
    clear g2 qb qw lb lw okw
    rintro σ H2 ⟨o11, kd, vb, vw, db, dw, rfl, g2, qb, qw, osz⟩
    refine ⟨MidG a0 a o2 o3 o4 o9 o10 g b p v ns ts d H, ?_, ?_⟩
    · refine ⟨_, rfl, a, 9, rfl, g2.hd, by decide, by decide, fun H3 r hd3 e3 c3 r0 r1 => ⟨rfl, _, rfl, ?_⟩⟩
      have g3 := Go.draw hd3 e3 c3
      have g23 := g2.trans g3
      refine ite2 (fun e => ?_) (fun e => ?_)
      · refine pick_go (k := 5) g23.hd (di g23) rfl rfl fun H4 w d' g4 q4 m4 => ?_
        exact ⟨_, _, w, vw, d', dw, rfl, g23.trans g4, q4, g4.dx (g3.dx qw), pick_bad m4, osz.2⟩
      · exact ⟨_, _, vb, vw, db, dw, rfl, g23, g3.dx qb, g3.dx qw, osz⟩
    clear g2 qb qw osz
    rintro σ H2 ⟨o11, kd, vb, vw, db, dw, rfl, g2, qb, qw, osz⟩
    refine ⟨MidG a0 a o2 o3 o4 o9 o10 g b p v ns ts d H, ?_, ?_⟩
    · refine ⟨_, rfl, a, 9, rfl, g2.hd, by decide, by decide, fun H3 r hd3 e3 c3 r0 r1 => ⟨rfl, _, rfl, ?_⟩⟩
      have g3 := Go.draw hd3 e3 c3
      have g23 := g2.trans g3
      refine ite2 (fun e => ?_) (fun e => ?_)
      · refine pick_go (k := 6) g23.hd (dt g23) rfl rfl fun H4 w d' g4 q4 m4 => ?_
        exact ⟨_, _, vb, w, db, d', rfl, g23.trans g4, g4.dx (g3.dx qb), q4, osz.1, pick_worse m4⟩
      · exact ⟨_, _, vb, vw, db, dw, rfl, g23, g3.dx qb, g3.dx qw, osz⟩
    clear g2 qb qw osz
    rintro σ H2 ⟨o11, kd, vb, vw, db, dw, rfl, g2, qb, qw, osz⟩
    refine ⟨_, rfl, _, rfl, vb, vw, db, dw, rfl, Dx.same same_delH _ _ qb, Dx.same same_delH _ _ qw, osz, fun H3 s3 => ?_⟩
    have g3 := Go.new g2.hd s3
    refine ⟨_, rfl, _, rfl, vb, vw, db, dw, rfl, Dx.same same_delH _ _ (g3.dx qb), Dx.same same_delH _ _ (g3.dx qw), osz.1, fun es e => ⟨(osz.2 es e).1, fun x hx => by have := ((osz.2 es e).2 x hx).1; omega⟩, fun H4 s4 => ?_⟩
    obtain ⟨dd, pd, pf⟩ := part_data db dw
    have g4 := Go.new g3.hd s4
    refine ⟨_, _, dd, rfl, pd _, pd _, pf, fun H5 s5 => ⟨_, rfl, iteF ?_⟩⟩
    exact ⟨_, _, _, _, rfl, ((g2.trans g3).trans g4).trans (Go.new g4.hd s5)⟩
  rintro σ H1 ⟨o11, o12, o13, o14, rfl, g1⟩
  have st1 := st.go g1
  clear g1 st
  intro x dx nx nd ne
  have sx : Same H1 (upd (upd (upd H1 dx (.own x)) x (.ins (He.ga K "Hearing") dx [])) x (.ins (He.ga K "Hearing") dx [("hearing", .ref (He.ga K "_law_ear"))])) := fun b o e => by
    rw [upd_ne (ne_of_none e nx), upd_ne (ne_of_none e nx), upd_ne (ne_of_none e nd)]
    exact e
  refine ⟨x, dx, _, rfl, upd_same, rfl, ?_⟩
  have ex : (upd (upd (upd H1 dx (.own x)) x (.ins (He.ga K "Hearing") dx [])) x (.ins (He.ga K "Hearing") dx [("hearing", .ref (He.ga K "_law_ear"))])) x = some (.ins (He.ga K "Hearing") dx [("hearing", .ref (He.ga K "_law_ear"))]) := upd_same
  have nxa := st1.hd.ne_new nx
  have st2 := st1.go (Go.new st1.hd sx)
  refine ⟨_, rfl, a, 60, rfl, st2.hd, by decide, by decide, fun H3 r hd3 e3 c3 r0 r1 => ⟨_, _, rfl, ?_⟩⟩
  have g3 := Go.draw hd3 e3 c3
  have ex3 : H3 x = some (.ins (He.ga K "Hearing") dx [("hearing", .ref (He.ga K "_law_ear"))]) := same_delH _ _ (g3.at_ (by rw [delH_ne nxa]; exact ex))
  have st3 := st2.go g3
  refine ⟨_, rfl, x, dx, _, rfl, ex3, rfl, _, rfl, _, rfl, x, dx, r, v, d, rfl, ex3, Dx.same same_delH _ _ st3.ev, fun u H4 s4 q4 => ?_⟩
  refine ⟨_, rfl, _, rfl, r, v, d, rfl, Dx.same (same_delH.trans s4) _ _ st3.ev, fun u2 H5 s5 q5 => ?_⟩
  have fl : flatD 45 (learD r d) = true := by
    unfold learD
    by_cases c : r % 3 = 0
    · rw [if_pos c]
      rfl
    · rw [if_neg c]
      refine flat_of 45 _ ?_ ?_ ?_
      · show thingAll [.tuple [.int r, d]] = true
        simp [thingAll, thingD, sd.th]
      · have := sd.dp
        simp only [PyData.depth, PyData.depthAll]
        omega
      · have := sd.sz
        simp only [sizeD, sizeAll]
        omega
  refine ⟨u, u2, _, rfl, Dx.same s5 _ _ q4, q5, fl, fun H6 s6 => ⟨true, rfl, iteT ?_⟩⟩
  have s36 := (s4.trans s5).trans s6
  have st6 := st3.go (Go.new st3.hd s36)
  refine ⟨_, rfl, _, rfl, eq_hearing T (st6.fa.same same_delH) gf tsm tl (s36 _ _ ex3) ⟨_, rfl, hQ H6⟩⟩
end
end K11

set_option maxHeartbeats 0
open PySem PySem.W PySem.Calls PyProof.Rows
theorem PySem.Challenge.cw_turnedtalk_k11_whole_faults_holds : PySem.Challenge.rw_turnedtalk_k11_whole_faults.Holds := by
  w_on; o_law
  refine HandSHeadRun.head_any (r := OpenLaw.row PySem.Challenge.rw_turnedtalk_k11_whole_faults) (q := view (OpenLaw.row PySem.Challenge.rw_turnedtalk_k11_whole_faults).prog [44]) (H := K11.hk) (ob := K11.ob) (M := 60000) (loose := K11.names)
    (d := HandSHeadRun.topDef (OpenLaw.row PySem.Challenge.rw_turnedtalk_k11_whole_faults).prog 44) (kwd := []) K11.ob_eq
    (by kernel_rfl) (fun s => by kernel_rfl) K11.run (by kernel_rfl) (by kernel_rfl) (by kernel_rfl) (by rfl) (by first | assumption | decide +kernel) (by decide +kernel) ⟨rfl, rfl, rfl, rfl, rfl, by decide +kernel⟩ ?hw ?hc
  case hw => w_witness2
  case hc =>
    refine V1.walk_law (l := PySem.Challenge.rw_turnedtalk_k11_whole_faults) (n := 63) (x := "script") rfl (by decide) (by kernel_rfl) ?F
    intro w mg fa h Y G hmg0
    obtain ⟨K, KX, c, ex⟩ := Y
    have hmg : mg ("law" : PySem.Str) = some (.ref fa) := by
      have e : (HandSHeadRun.topDef (OpenLaw.row PySem.Challenge.rw_turnedtalk_k11_whole_faults).prog 44).name = ("law" : PySem.Str) := by kernel_rfl
      rw [← e]
      exact hmg0
    have T : K11.Tx K mg := ⟨c, ex, h, KX, G⟩
    cases hmg.symm.trans (T.glo 38 rfl)
    letI : V3.CurK := ⟨K⟩
    obtain ⟨fd, ok, bind⟩ := K11.ok_law (P := (PySem.Challenge.rw_turnedtalk_k11_whole_faults).prog) (w := w) T
    exact ⟨K, fd, K11.spLaw, KX, bind, fun H a ns hl _ hS => ⟨a, ns, rfl, hS, hl, fun _ => rfl⟩, fun base _ _ => ok base⟩

