import PyProof.Rows.All
import Wide.All
import OpenK.AllK
import Wide.FinOn
import KE.KStateDown
import HandS.ForMost
import HandS.Exc
import HandS.ExcInit
import HandS.ExcField
import HandS.ExcIs
import HandS.ExcValue
import HandS.IsInst
import HandS.Defaults
import HandS.TryMany
import HandS.Wide
import PyProof.ReprRoads
import KE.KExcIs
import HandS.HeadEnd
import HandS.HeadHook1
import HandS.HeadHook2
import HandS.Evl
import HandS.ExcOwn
import HandS.WordsExc
import KE.GoesEnum
import HandS.Walk
import HandS.Deep
import HandS.OwnEq
import HandS.Codes
import HandS.Small
import PyProof.AutoSeq1
import HandS.TupLe
import HandS.Lambda
import HandS.EndTab
import HandS.Head2
import HandS.SetFor
import PyProof.StrBlock2
import HandS.Style
import HandS.TupMul
import HandS.TupAny
import HandS.Dict
import HandS.More
import HandS.DictComp
import HandS.SortOrd
import KE.KSortTupAny
import HandS.Nested
import KE.KLam
import HandS.Head0
import HandS.Head1
import HandS.ReplaceLit
import HandS.ReplaceDef
import KE.KRevSl
import HandS.Text
import HandS.StrMore
import HandS.Conv
import HandS.Zip
import PyProof.ListStr
import PySem.Challenge.RW_turnedtalk_k53_whole_spoilt_things
set_option Elab.async false
set_option linter.all false
set_option maxRecDepth 100000
set_option maxHeartbeats 4000000
/-! V1: data with dicts, repr -/
namespace V1
open PySem PySem.Spec PyProof.Rows L2
def keyD : Key → PyData
  | .inl i => .int i
  | .inr x => .str x
mutual
/-- a value of the abstract heap is this data: scalars, tracked lists, tuples, dicts -/
inductive Dq (H : Hp) : V → PyData → Prop
  | non : Dq H .non .none
  | bl (b : Bool) : Dq H (.bl b) (.bool b)
  | int (i : Int) : Dq H (.int i) (.int i)
  | str (x : Str) : Dq H (.str x) (.str x)
  | lst {a : Addr} {xs : List V} {ds : List PyData} (at_ : H a = some (.lst xs)) (low : (a == sysModules) = false) (rest : DqAll H xs ds) : Dq H (.ref a) (.list ds)
  | tup {a : Addr} {xs : List V} {ds : List PyData} (at_ : H a = some (.tup xs)) (rest : DqAll H xs ds) : Dq H (.ref a) (.tuple ds)
  | dct {a : Addr} {kvs : List (Key × V)} {ds : List (PyData × PyData)} (at_ : H a = some (.dK kvs)) (rest : DqKv H kvs ds) : Dq H (.ref a) (.dict ds)
inductive DqAll (H : Hp) : List V → List PyData → Prop
  | nil : DqAll H [] []
  | cons {v : V} {vs : List V} {d : PyData} {ds : List PyData} (one : Dq H v d) (more : DqAll H vs ds) : DqAll H (v :: vs) (d :: ds)
inductive DqKv (H : Hp) : List (Key × V) → List (PyData × PyData) → Prop
  | nil : DqKv H [] []
  | cons {k : Key} {v : V} {kvs : List (Key × V)} {d : PyData} {ds : List (PyData × PyData)} (one : Dq H v d) (more : DqKv H kvs ds) : DqKv H ((k, v) :: kvs) ((keyD k, d) :: ds)
end
section
variable {H H' : Hp}
mutual
theorem Dq.same (e : Same H H') : ∀ (d : PyData) (v : V), Dq H v d → Dq H' v d
  | .none, _, h => by cases h; exact .non
  | .bool b, _, h => by cases h; exact .bl b
  | .int i, _, h => by cases h; exact .int i
  | .str x, _, h => by cases h; exact .str x
  | .list ds, _, h => by
    cases h with
    | lst at_ low rest => exact .lst (e _ _ at_) low (DqAll.same e ds _ rest)
  | .tuple ds, _, h => by
    cases h with
    | tup at_ rest => exact .tup (e _ _ at_) (DqAll.same e ds _ rest)
  | .dict ds, _, h => by
    cases h with
    | dct at_ rest => exact .dct (e _ _ at_) (DqKv.same e ds _ rest)
theorem DqAll.same (e : Same H H') : ∀ (ds : List PyData) (vs : List V), DqAll H vs ds → DqAll H' vs ds
  | [], _, h => by cases h; exact .nil
  | d :: ds, _, h => by
    cases h with
    | cons one more => exact .cons (Dq.same e d _ one) (DqAll.same e ds _ more)
theorem DqKv.same (e : Same H H') : ∀ (ds : List (PyData × PyData)) (kvs : List (Key × V)), DqKv H kvs ds → DqKv H' kvs ds
  | [], _, h => by cases h; exact .nil
  | (k, d) :: ds, _, h => by
    cases h with
    | cons one more => exact .cons (Dq.same e d _ one) (DqKv.same e ds _ more)
end
end
section
variable {X : Cx} {pins : List (Addr × Obj)} {σ : L2.St} {H : Hp} {s : Shared}
theorem key_reads {h : Heap} {k : Key} {u : Value} (e : keyIs k u = true) : Reads h u (keyD k) [] := by
  rcases keyIs_shape e with ⟨i, t, rfl, rfl⟩ | ⟨x, t, rfl, rfl⟩
  · exact .int i t
  · exact .str x t
theorem keys_read {P : Program} {w : World} {h : Heap} {H : Hp} : ∀ {es : List DictEntry} {us : List (Key × Value)} {kvs : List (Key × V)} {ds : List (PyData × PyData)}, Pairs (mixKind P w) es us → KV kvs us → DqKv H kvs ds →
    ReadsAll h (es.map (·.key)) (ds.map (·.1)) []
  | _, _, _, _, .nil, r, q => by
    cases r
    cases q
    exact .nil
  | _, _, _, _, .cons he hv more, r, q => by
    cases r with
    | cons r1 r2 =>
      cases q with
      | cons one more' =>
        have z := r1.1
        dsimp only at z
        have h1 := key_reads (h := h) he
        rw [← z] at h1
        exact .cons h1 (keys_read more r2 more')
mutual
theorem Dq.reads (I : Inv X pins σ H s) : ∀ (d : PyData) (v : V) (u : Value), Dq H v d → RelV v u → ∃ as, Reads s.heap u d as ∧ sysModules ∉ as
  | .none, _, _, h, r => by
    cases h
    cases r
    exact ⟨_, .none, List.not_mem_nil⟩
  | .bool b, _, _, h, r => by
    cases h
    cases r
    exact ⟨_, .bool b, List.not_mem_nil⟩
  | .int i, _, _, h, r => by
    cases h
    obtain ⟨t, rfl⟩ := r
    exact ⟨_, .int i t, List.not_mem_nil⟩
  | .str x, _, _, h, r => by
    cases h
    obtain ⟨t, rfl⟩ := r
    exact ⟨_, .str x t, List.not_mem_nil⟩
  | .list ds, _, _, h, r => by
    cases h with
    | lst at_ low rest =>
      cases r
      obtain ⟨_, its, n, rv, ho⟩ := I.hok _ _ at_
      obtain ⟨as, hr, hno⟩ := DqAll.reads I ds _ its rest rv
      refine ⟨_, Reads.list (vs := its.toArray) ho rfl rfl hr, fun hm => ?_⟩
      rcases List.mem_cons.mp hm with e | hm
      · rw [← e] at low
        exact absurd low (by decide)
      · exact hno hm
  | .tuple ds, _, _, h, r => by
    cases h with
    | tup at_ rest =>
      cases r
      obtain ⟨_, its, rv, o, ho, hc, n, hd⟩ := I.hok _ _ at_
      obtain ⟨as, hr, hno⟩ := DqAll.reads I ds _ its rest rv
      exact ⟨_, Reads.tuple ho hc hd hr, hno⟩
  | .dict ds, _, _, h, r => by
    cases h with
    | dct at_ rest =>
      cases r
      obtain ⟨_, low, us, rkv, o, es, ep, ho, hx, hd, _, hp, _⟩ := I.hok _ _ at_
      obtain ⟨as, hr, hno⟩ := DqKv.reads I ds _ us es.toList rest rkv hp
      have hk := keys_read (h := s.heap) hp rkv rest
      refine ⟨_, Reads.dict ho hx.1 hd hk hr, fun hm => ?_⟩
      rcases List.mem_cons.mp hm with e | hm
      · rw [← e] at low
        exact absurd low (by decide)
      · exact hno (by simpa using hm)
theorem DqAll.reads (I : Inv X pins σ H s) : ∀ (ds : List PyData) (vs : List V) (us : List Value), DqAll H vs ds → Vals vs us → ∃ as, ReadsAll s.heap us ds as ∧ sysModules ∉ as
  | [], _, _, h, r => by
    cases h
    cases r
    exact ⟨_, .nil, List.not_mem_nil⟩
  | d :: ds, _, _, h, r => by
    cases h with
    | cons one more =>
      cases r with
      | cons r1 r2 =>
        obtain ⟨as, q1, n1⟩ := Dq.reads I d _ _ one r1
        obtain ⟨bs, q2, n2⟩ := DqAll.reads I ds _ _ more r2
        refine ⟨_, .cons q1 q2, fun hm => ?_⟩
        rcases List.mem_append.mp hm with z | z
        · exact n1 z
        · exact n2 z
theorem DqKv.reads (I : Inv X pins σ H s) : ∀ (ds : List (PyData × PyData)) (kvs : List (Key × V)) (us : List (Key × Value)) (es : List DictEntry), DqKv H kvs ds → KV kvs us → Pairs (mixKind X.prog X.w) es us →
    ∃ as, ReadsAll s.heap (es.map (·.val)) (ds.map (·.2)) as ∧ sysModules ∉ as
  | [], _, _, _, h, r, p => by
    cases h
    cases r
    cases p
    exact ⟨_, .nil, List.not_mem_nil⟩
  | (k, d) :: ds, _, _, _, h, r, p => by
    cases h with
    | cons one more =>
      cases r with
      | cons r1 r2 =>
        cases p with
        | cons he hv hp =>
          have r3 := r1.2
          dsimp only at r3
          rw [← hv] at r3
          obtain ⟨as, q1, n1⟩ := Dq.reads I d _ _ one r3
          obtain ⟨bs, q2, n2⟩ := DqKv.reads I ds _ _ _ more r2 hp
          refine ⟨_, .cons q1 q2, fun hm => ?_⟩
          rcases List.mem_append.mp hm with z | z
          · exact n1 z
          · exact n2 z
end
end
/-! ### repr(x), x data; nothing is being shown meanwhile (gd) -/
section
variable {X : Cx}
theorem call_repr (gd : X.A.guards = some []) (hu : X.A.units + 64 < cLine) :
    CallR X (.builtin "repr") (fun xs H Q => ∃ (v : V) (d : PyData), xs = [v] ∧ Dq H v d ∧ d.showable = true ∧ d.depth ≤ 60 ∧ d.shown.length ≤ sizeLine ∧ Q (.str d.shown) H) := by
  intro pins s σ H xs us Q I r h
  obtain ⟨v, d, rfl, hd, hs, hn, hz, q⟩ := h
  cases r with
  | @cons _ u _ _ ru rn =>
    cases rn
    obtain ⟨as, hr, hno⟩ := Dq.reads I d v u hd ru
    have fin : ∀ h' (t : Tok) tk, (∀ b o, s.heap.get? b = some o → h'.get? b = some o) → EP X pins σ Q (.str d.shown t) { s with heap := h', toks := tk } :=
      fun h' t tk k => ⟨.str d.shown, H, I.kept k, ⟨_, rfl⟩, q⟩
    cases hr with
    | none => exact PySem.P.repr_of_none (fin s.heap _ _ fun _ _ z => z)
    | bool b => exact PySem.P.repr_of_bool (fin s.heap _ _ fun _ _ z => z)
    | int i t => exact PySem.P.repr_of_int (of_decide_eq_true (by simpa [PyData.showable] using hs)) (fin s.heap _ _ fun _ _ z => z)
    | str x t => exact PySem.P.repr_of_str (fin s.heap _ _ fun _ _ z => z) (by simpa [PyData.shown] using hz)
    | list h1 h2 h3 h4 => exact repr_of_reads' (.list h1 h2 h3 h4) hs (fun _ => hno) gd (by omega) (fun _ _ z => z) fin hz
    | tuple h1 h2 h3 h4 => exact repr_of_reads' (.tuple h1 h2 h3 h4) hs (fun _ => hno) gd (by omega) (fun _ _ z => z) fin hz
    | dict h1 h2 h3 h4 h5 => exact repr_of_reads' (.dict h1 h2 h3 h4 h5) hs (fun _ => hno) gd (by omega) (fun _ _ z => z) fin hz
end
end V1

set_option maxHeartbeats 4000000
/-! V1: exceptions as values: made, asked for their class, their field read -/
namespace V1
open PySem PySem.Spec PyProof.Rows L2
def veB : List Value := [.type "ValueError", .type "Exception", .type "BaseException", .type "object"]
/-- the object at C is an exception class over ValueError's maker, its further bases bm -/
def clsB (K : PySem.W.Frag) (C : Addr) (bm : List Value) : Bool := match K.lookup C with
  | some ⟨.type "type", _, .cls cd, sl⟩ => (match sl.toList with
    | [_, _, _, _, some (.builtin n), _] => decide (cd.mro = .ref C :: bm) && (n == "ValueError.__new__" && (cd.hasDict && (!cd.hasDel)))
    | _ => false)
  | _ => false
def oexB (K : PySem.W.Frag) (C : Addr) (bm : List Value) : Bool :=
  clsB K C bm && (decide (PySem.W.findIn K (.ref C) "__setattr__" = some (some (.builtin "object.__setattr__"))) &&
    (decide (PySem.W.findIn K (.ref C) "__getattribute__" = some (some (.builtin "BaseException.__getattribute__"))) &&
      (decide (PySem.W.findIn K (.ref C) "__getattr__" = some none) && (decide (PySem.W.findIn K (.ref C) "__class__" = some (some (.builtin "object.__class__"))) && PySem.W.keepIn K (.ref C)))))
/-- what isinstance asks of object.__class__ -/
def clsAttrB (K : PySem.W.Frag) : Bool := decide (PySem.W.specialIn K (.builtin "object.__class__") "__get__" = some (some (.builtin "getset_descriptor.__get__"))) && decide (PySem.W.takesIn K (.builtin "object.__class__") = some true)
structure ExK (K : PySem.W.Frag) (C : Addr) (bm : List Value) : Prop where
  cls : ∃ nm q N bs sn sub ab col dd k0 k1 k2 k3 k5, K.lookup C = some (excClassObj nm q C N bs bm true sn sub ab col dd k0 k1 k2 k3 k5 "ValueError.__new__")
  sa : PySem.W.findIn K (.ref C) "__setattr__" = some (some (.builtin "object.__setattr__"))
  ga : PySem.W.findIn K (.ref C) "__getattribute__" = some (some (.builtin "BaseException.__getattribute__"))
  gg : PySem.W.findIn K (.ref C) "__getattr__" = some none
  cl : PySem.W.findIn K (.ref C) "__class__" = some (some (.builtin "object.__class__"))
  kp : PySem.W.keepIn K (.ref C) = true
structure ClsAttr (K : PySem.W.Frag) : Prop where
  gs : PySem.W.specialIn K (.builtin "object.__class__") "__get__" = some (some (.builtin "getset_descriptor.__get__"))
  tk : PySem.W.takesIn K (.builtin "object.__class__") = some true
theorem clsAttr_of {K : PySem.W.Frag} (h : clsAttrB K = true) : ClsAttr K := ⟨of_decide_eq_true (Bool.and_eq_true_iff.mp h).1, of_decide_eq_true (Bool.and_eq_true_iff.mp h).2⟩
theorem exK_of {K : PySem.W.Frag} {C : Addr} {bm : List Value} (h : oexB K C bm = true) : ExK K C bm := by
  unfold oexB at h
  simp only [Bool.and_eq_true, decide_eq_true_eq] at h
  obtain ⟨h1, h2, h3, h4, h5, h6⟩ := h
  refine ⟨?_, h2, h3, h4, h5, h6⟩
  unfold clsB at h1
  split at h1
  · rename_i dd cd sl lk
    split at h1
    · rename_i k0 k1 k2 k3 n k5 hs
      simp only [Bool.and_eq_true, decide_eq_true_eq, beq_iff_eq, Bool.not_eq_true'] at h1
      obtain ⟨g1, g2, g3, g4⟩ := h1
      obtain ⟨nm, bs, mro, ns, qn, hd, sn, sb, ab, col, del⟩ := cd
      dsimp only at g1 g3 g4
      subst g1 g2 g3 g4
      obtain ⟨sl⟩ := sl
      dsimp only at hs
      subst hs
      exact ⟨nm, qn, ns, bs, sn, sb, ab, col, dd, k0, k1, k2, k3, k5, lk⟩
    · cases h1
  · cases h1
section
variable {K : PySem.W.Frag} {C D : Addr} {bm : List Value}
theorem ExK.clsIn (T : ExK K C bm) : ∃ cd, PySem.W.clsIn K C = some cd ∧ cd.mro = .ref C :: bm ∧ cd.hasDict = true := by
  obtain ⟨nm, q, N, bs, sn, sub, ab, col, dd, k0, k1, k2, k3, k5, e⟩ := T.cls
  unfold PySem.W.clsIn
  rw [e]
  exact ⟨_, rfl, rfl, rfl⟩
theorem ExK.isCls (T : ExK K C bm) : (PySem.W.clsIn K C).isSome = true := by
  obtain ⟨cd, e, _⟩ := T.clsIn
  rw [e] <;> rfl
theorem ExK.hasDict (T : ExK K C bm) : PySem.W.hasDictIn K C = true := by
  obtain ⟨cd, e, _, h⟩ := T.clsIn
  unfold PySem.W.hasDictIn
  rw [e]
  simpa using h
theorem ExK.ty (T : ExK K C bm) : PySem.W.typeIn K (.ref C) = some (.type "type") := by
  obtain ⟨nm, q, N, bs, sn, sub, ab, col, dd, k0, k1, k2, k3, k5, e⟩ := T.cls
  show (K.lookup C).map (·.cls) = _
  rw [e] <;> rfl
theorem ExK.mro (T : ExK K C bm) (v : Value) : PySem.W.mroIn K C v = some ((Value.ref C :: bm).contains v) := by
  obtain ⟨cd, e, h, _⟩ := T.clsIn
  unfold PySem.W.mroIn
  rw [e, Option.bind_some, h] <;> rfl
theorem ExK.sub (T : ExK K C bm) (v : Value) : PySem.W.subIn K (.ref C) v = some ((Value.ref C :: bm).contains v) := T.mro v
/-- isinstance of the class's objects -/
theorem ExK.kit (T : ExK K C bm) (T' : ExK K D bm') : PySem.W.kitOne K (.ref C) (.ref D) = some (decide (C = D) || bm.contains (.ref D)) := by
  unfold PySem.W.kitOne
  by_cases e : C = D
  · subst e
    rw [if_pos (by simp)]
    simp
  · have ne : ¬ ((Value.ref C == Value.ref D) = true) := by simpa using e
    rw [if_neg ne]
    show (if ((PySem.W.clsIn K D).isSome && PySem.W.typeIn K (.ref D) == some (.type "type")) = true then PySem.W.subIn K (.ref C) (.ref D) else none) = _
    rw [T'.isCls, T'.ty, if_pos (by simp), T.sub, List.contains_cons]
    have e2 : ¬ D = C := fun z => e z.symm
    simp [e, e2]
theorem ExK.kitT (T : ExK K C bm) {n : String} (hm : PySem.W.kitMeta n = true) : PySem.W.kitOne K (.ref C) (.type n) = some (bm.contains (.type n)) := by
  unfold PySem.W.kitOne
  rw [if_neg (show ¬ ((Value.ref C == Value.type n) = true) from by simp)]
  show (if PySem.W.kitMeta n = true then PySem.W.subIn K (.ref C) (.type n) else none) = _
  rw [if_pos hm, T.sub, List.contains_cons]
  simp
/-- an except clause's class -/
theorem ExK.exm (T : ExK K C bm) (T' : ExK K D bm') (hb : (Value.ref D :: bm').contains (.type "BaseException") = true) : PySem.W.exmOne K (.ref C) (.ref D) = some (decide (C = D) || bm.contains (.ref D)) := by
  have h1 : PySem.W.subIn K (.ref D) (.type "BaseException") = some true := by rw [T'.sub, hb]
  have h2 : PySem.W.subIn K (.ref C) (.ref D) = some (decide (C = D) || bm.contains (.ref D)) := by
    rw [T.sub, List.contains_cons]
    by_cases e : C = D
    · subst e; simp
    · have e2 : ¬ D = C := fun z => e z.symm
      simp [e, e2]
  exact PySem.W.exm_ref h1 T'.hasDict T'.ty h2
theorem ExK.oex (T : ExK K C bm) (hr : PySem.HandSPX.refsVE bm = true) (hb : (Value.ref C :: bm).contains (.type "BaseException") = true) : OexC K C := by
  obtain ⟨nm, q, N, bs, sn, sub, ab, col, dd, k0, k1, k2, k3, k5, e⟩ := T.cls
  exact ⟨⟨nm, q, N, bs, bm, sn, sub, ab, col, dd, k0, k1, k2, k3, k5, e, hr⟩, T.sa, by rw [T.sub, hb], T.ty, T.kp⟩
end
/-- at a stands an exception of the class at C; its own fields fs, if it has a dict of them -/
def IsEx (H : Hp) (a C : Addr) : Option (List (Str × V)) → Prop
  | none => H a = some (ExO (.ref C) a)
  | some fs => ∃ dx, H a = some (exo a C (some dx)) ∧ H dx = some (exd dx fs)
theorem IsEx.same {H H' : Hp} {a C : Addr} {o : Option (List (Str × V))} (e : Same H H') (h : IsEx H a C o) : IsEx H' a C o := by
  cases o with
  | none => exact e _ _ h
  | some fs =>
    obtain ⟨dx, h1, h2⟩ := h
    exact ⟨dx, e _ _ h1, e _ _ h2⟩
section
variable {X : Cx} {pins : List (Addr × Obj)} {σ : L2.St} {H : Hp} {s : Shared} {a C : Addr} {o : Option (List (Str × V))}
theorem IsEx.inst (I : Inv X pins σ H s) (h : IsEx H a C o) : ∃ oe od, PySem.W.InstAt s.heap a oe C od ∧ ∀ fs, o = some fs → ∃ (od' : Obj) (mA : Str → Option Value), od = some od' ∧ (∀ n, PySem.W.lookIn n od' = some (mA n)) ∧ ∀ f, RelO (fs.lookup f) (mA f) := by
  cases o with
  | none =>
    obtain ⟨⟨oe, vs, he, hz, hd, _⟩, _, _⟩ := I.hok a _ h
    refine ⟨oe, none, ⟨he, hz.1, by unfold PySem.W.notCls; rw [hd] <;> rfl, by rw [hz.2]; exact True.intro⟩, fun fs z => nomatch z⟩
  | some fs =>
    obtain ⟨dx, h1, h2⟩ := h
    obtain ⟨t1, he⟩ := exo_at I.hok h1
    obtain ⟨mA, hns, rel⟩ := exd_at I.hok h2
    obtain ⟨od, ho, hl⟩ := lookIn_ns hns
    refine ⟨_, some od, ⟨he, rfl, rfl, ho⟩, fun fs' z => ?_⟩
    cases z
    exact ⟨od, mA, rfl, fun n => hl n, rel⟩
end
/-! ### isinstance(e, c) -/
def rIsiX (K : PySem.W.Frag) : List V → Hp → VK → Prop := fun xs H Q => ∃ (a C : Addr) (o : Option (List (Str × V))) (bm : List Value) (c : V) (u : Value) (b : Bool), xs = [.ref a, c] ∧ IsEx H a C o ∧ ExK K C bm ∧ ClsAttr K ∧
  (Value.ref C :: bm).contains (.type "BaseException") = true ∧ (Value.ref C :: bm).contains (.type "object") = true ∧ ClsV c u ∧ PySem.W.kitOne K (.ref C) u = some b ∧ Q (.bl b) H
theorem call_isiX {X : Cx} : CallR X (.builtin "isinstance") (rIsiX X.K) := by
  intro pins s σ H xs us Q I r h
  obtain ⟨a, C, o, bm, c, u, b, rfl, hx, T, cA, hB, hO, k, e, q⟩ := h
  obtain ⟨w1, w2, rfl, r1, r2⟩ := vals2 r
  obtain rfl : w1 = Value.ref a := r1
  have e2 := k.eq r2
  subst e2
  obtain ⟨oe, od, J, _⟩ := hx.inst I
  exact PySem.W.kia_one (PySem.W.kitx_exc T.isCls T.ga T.gg (by rw [T.sub, hB]) T.cl cA.gs cA.tk (by rw [T.mro, hO])) I.kIn J e (fun z => nomatch z) fun tk => ⟨.bl b, H, I.tok tk, rfl, q⟩
/-! ### e.f of such -/
def tEf (K : PySem.W.Frag) (f : Str) (te : TE) : TE := fun σ H Q => te σ H fun x H1 => ∃ (a C : Addr) (fs : List (Str × V)) (bm : List Value) (v : V), x = .ref a ∧ IsEx H1 a C (some fs) ∧ ExK K C bm ∧ (Value.ref C :: bm).contains (.type "BaseException") = true ∧
  PySem.W.findIn K (.ref C) f = some none ∧ fs.lookup f = some v ∧ Q v H1
theorem pe_ef {X : Cx} {e : Expr} {te : TE} {pos : Pos} {n : Str} (he : PE X e te) (hb : attributeBase e n X.env (eval e X.env) = eval e X.env := by rfl) : PE X (.Attribute e n pos) (tEf X.K n te) := by
  refine ⟨fun pins s σ H Q I h => ?_⟩
  refine attr_of hb (thn (he.run pins s σ H _ I h) fun u s1 hh => ?_)
  obtain ⟨x, H1, J1, rx, a, C, fs, bm, v, rfl, hx, T, hB, hno, hl, q⟩ := hh
  obtain rfl : u = Value.ref a := rx
  obtain ⟨oe, od, J, hf⟩ := hx.inst J1
  obtain ⟨od', mA, rfl, look, rel⟩ := hf fs rfl
  obtain ⟨u, hu, ru⟩ := RelO.some_of (v := v) (o := mA n) (by rw [← hl]; exact rel n)
  exact HandSPX.exc_get J1.kIn J T.ga T.gg (by rw [T.sub, hB]) (PySem.W.findObj_own T.hasDict hno rfl (by rw [look, hu])) (handed_of ru) ⟨v, H1, J1.tok _, ru, q⟩
/-! ### C(e, ..) with an own __init__, kept as a value -/
def tMkV (C : Addr) (sp : Sp) (dvs : List V) (ta : TA) : TE := fun σ H Q => ta σ H fun vs H1 => vs.length ≤ 1000 ∧ ∀ a, H1 a = none → sp (.ref a :: (vs ++ dvs)) (upd H1 a (exo a C none)) (fun v H2 => v = .non ∧ Q (.ref a) H2) (fun _ _ _ => False)
theorem pe_mkV {X : Cx} {CX : CXT} {x : Str} {C fI : Addr} {k : Nat} {fd : FuncData} {ps : List Str} {sp : Sp} {ds : List Value} {dvs : List V} {e : Expr} {es : List Expr} {ta : TA} {p pos : Pos} (T : OexC X.K C)
    (iC : PySem.W.findIn X.K (.ref C) "__init__" = some (some (.ref fI))) (tI : PySem.W.typeIn X.K (.ref fI) = some (.type "function"))
    (F1 : FnOk X.prog X.w X.K X.mg X.base CX k fI fd ps sp) (hr : Room (k + 1) X.A) (hb : Binds X.K fd ps ds) (hd : Vals dvs ds) (hx : Passes CX X (fun _ _ _ => False)) (hg : Gl X x) (hm : X.mg x = some (.ref C)) (ha : PA X (e :: es) ta)
    (hdb : (x == ("__debug__" : Str)) = false := by decide) (he : starEach (e :: es) X.env = (false, eval e X.env) :: starEach es X.env := by rfl) (hpl : (backTo pos (starEach es X.env)).any (·.1) = false := by rfl) :
    PE X (.Call (.Name x p) (e :: es) [] pos) (tMkV C sp dvs ta) := by
  refine ⟨fun pins s σ H Q I h => ?_⟩
  obtain ⟨nm, q, N, bs, bm, sn, sub, ab, col, dd, k0, k1, k2, k3, k5, hC, hbm⟩ := T.cls
  refine wpAny_Call_Name_kw (ld_glob I hg hm ?_ hdb)
  refine PySem.W.callWith_K (h₀ := X.base) I.ok.mod.kin T.kC (thn (ha.run pos pins s σ H _ I h) fun us st hh => ⟨hh.choose_spec.choose_spec.1.kIn, ?_⟩) he hpl
  obtain ⟨vs, H1, J, rv, hz, qq⟩ := hh
  show wpAny _ _ (call (.ref C) us) _ _ _
  obtain ⟨hp, g, dr, tk, os⟩ := st
  let n := hp.objs.size
  have nn : H1 (n + 1) = none := J.hok.fresh (Nat.le_succ n)
  have go := qq (n + 1) nn
  let hp2 := (hp.push (PySem.W.kdv_tup us)).push (PySem.HandSPX.excO C n)
  have kk : ∀ b ob, hp.get? b = some ob → hp2.get? b = some ob := fun b ob z => Heap.get?_push_of_some _ (Heap.get?_push_of_some _ z)
  have top : hp2.get? (n + 1) = some (PySem.HandSPX.excO C n) := by
    show ((hp.push (PySem.W.kdv_tup us)).push (PySem.HandSPX.excO C hp.objs.size)).get? (hp.objs.size + 1) = _
    heap_get
  have J2 : Inv X pins σ (upd H1 (n + 1) (exo (n + 1) C none)) ⟨hp2, g, dr, tk, os⟩ := J.laid (t' := tk) (a := n + 1) (h' := hp2) kk (Nat.le_succ n) (exo_ok top)
  have rr : Vals (V.ref (n + 1) :: (vs ++ dvs)) (Value.ref (n + 1) :: (us ++ ds)) := .cons rfl (rv.append hd)
  have len : (Value.ref (n + 1) :: us ++ ds).length = ps.length := (rr.length.symm.trans (F1.len _ _ _ _ go))
  have short : us.length ≤ sizeLine := by
    have z := Paired.length rv
    rw [sizeLine_eq]
    omega
  refine wpAny_call (PySem.HandSPX.call_own F.excBase_ValueError (fun Y => PySem.HandSPX.refsVE_contains Y bm hbm) (J.kIn _ _ hC) (PySem.W.looks_findIn J.kIn iC) (fun self => PySem.W.bind_fn J.kIn self tI) short
    (codeAny_mono (F1.run _ X.stack _ _ ⟨Value.ref (n + 1) :: us, []⟩ (Value.ref (n + 1) :: (us ++ ds)) _ _ (fun _ _ _ => False) (hr.make C us []) (J2.env0.make C us []) (hb _ (Value.ref (n + 1) :: us) J2.kIn len) rr go) fun r s' hq => ?_))
  cases r with
  | error er => exact hx pins σ _ _ er s' J2 hq
  | ok fl =>
    cases fl with
    | ret u =>
      obtain ⟨v, H2, o2, b2, un2, ok2, rv2, ev, qv⟩ := hq
      subst ev
      refine ⟨rv2, .ref (n + 1), H2, ?_, rfl, qv⟩
      obtain ⟨h', g', d', t', os'⟩ := s'
      exact J.call' (ch := []) o2 (Un.trans (Un.laid kk (Nat.le_succ n) nn) un2) ok2 b2 (fun b z => absurd z (by simp))
    | next => exact False.elim hq
    | brk => exact False.elim hq
    | cont => exact False.elim hq
/-! ### C(), an own exception class without own __init__ -/
def tMk0 (C : Addr) : TE := fun _ H Q => ∀ a, H a = none → Q (.ref a) (upd H a (ExO (.ref C) a))
theorem pe_mk0 {X : Cx} {C : Addr} {bmB : List Value} {B newId initId : String} {x : Str} {p pos : Pos} (F : ExcBaseFacts B newId initId bmB) (q : PySem.W.excIn X.K C bmB newId = true) (gC : X.mg x = some (.ref C)) (kC : PySem.W.keepIn X.K (.ref C) = true) (hg : Gl X x)
    (hdb : (x == ("__debug__" : Str)) = false := by decide) : PE X (.Call (.Name x p) [] [] pos) (tMk0 C) := by
  refine ⟨fun pins s σ H Q I h => ?_⟩
  refine wpAny_Call_Name_kw (ld_glob I hg gC ?_ hdb)
  refine PySem.W.callWith_K0 I.kIn kC ?_
  obtain ⟨bm, N, nm, qn, bs, hdct, sn, sub, ab, col, dd, k0, k1, k2, k3, k5, mN, hC, hN, hni, T⟩ := exc_obj I.kIn q
  refine wpAny_call_exc_subT F T hC hN hni (fun h' a hm => ?_) (Nat.zero_le _)
  have hn : H a = none := I.hok.gone hm.new
  obtain ⟨t, ht, _, _⟩ := hm.there
  exact ⟨.ref a, _, I.laidN hm.keeps hm.new hn (exO_ok ht ⟨rfl, rfl⟩ rfl rfl rfl (show 4 < 6 by decide)), rfl, h a hn⟩
end V1

set_option maxHeartbeats 4000000
/-! V1: try with any number of except clauses, each with or without a name -/
namespace V1
open PySem PySem.Spec PyProof.Rows L2
/-- a clause: its class, the slot of its name if it has one, its suite's reading -/
abbrev Cl : Type := Value × Option Nat × (Addr → Value → Option Addr → TS)
/-- where a suite's ends lead once the clause's name is let go of -/
def offD (i : Nat) (D : Ends) : Ends := { nx := fun σ H => D.nx (σ.set i none) H, rt := D.rt, bk := fun σ H => D.bk (σ.set i none) H, ct := fun σ H => D.ct (σ.set i none) H }
def suiteD (D : Ends) (a : Addr) (cls : Value) (d : Option Addr) (ts : Addr → Value → Option Addr → TS) (σ : L2.St) (H : Hp) : Option Nat → Prop
  | none => ts a cls d D σ H
  | some i => ts a cls d (offD i D) (σ.set i (some (.ref a))) H
/-- what the clauses wish of an exception that leaves the body -/
def wCl (K : PySem.W.Frag) (Wout : WX) (D : Ends) : List Cl → WX
  | [] => Wout
  | (c, o, ts) :: more => fun cls d σ H => ∃ yes, PySem.W.exmOne K cls c = some yes ∧ (yes = true → ∀ a, H a = none → suiteD D a cls d ts σ H o) ∧ (yes = false → wCl K Wout D more cls d σ H)
inductive Hds (X : Cx) : List ExceptHandler → List Cl → Prop
  | nil : Hds X [] []
  | plain {x : Str} {c : Value} {ts : Addr → Value → Option Addr → TS} {st : Stmt} {sts : List Stmt} {p1 p2 : Pos} {hds : List ExceptHandler} {l : List Cl} (nm : Names X x c)
      (su : ∀ (a : Addr) (oe : Obj) (cls : Value) (d : Option Addr) (pn : List (Addr × Obj)), Zc cls d oe → (∃ vs, oe.data = .fields vs) → PSs (X.suite a ((a, oe) :: pn)) (st :: sts) (ts a cls d)) (more : Hds X hds l) :
      Hds X (.ExceptHandler (some (.Name x p1)) none (st :: sts) p2 :: hds) ((c, none, ts) :: l)
  | named {x n : Str} {i : Nat} {c : Value} {ts : Addr → Value → Option Addr → TS} {st : Stmt} {sts : List Stmt} {p1 p2 : Pos} {hds : List ExceptHandler} {l : List Cl} (at_ : X.N[i]? = some n) (loc : X.env.kindOf n = some .local) (nm : Names X x c)
      (su : ∀ (a : Addr) (oe : Obj) (cls : Value) (d : Option Addr) (pn : List (Addr × Obj)), Zc cls d oe → (∃ vs, oe.data = .fields vs) → PSs (X.suite a ((a, oe) :: pn)) (st :: sts) (ts a cls d)) (more : Hds X hds l) :
      Hds X (.ExceptHandler (some (.Name x p1)) (some n) (st :: sts) p2 :: hds) ((c, some i, ts) :: l)
/-- an exception of the body that was met: all that the clauses may lean on -/
theorem ps_try_cl {X : Cx} {body : List Stmt} {hd : ExceptHandler} {hds : List ExceptHandler} {l : List Cl} {pos : Pos} {tb : WX → TS} {Wout : WX} (stk : X.stack = X.env :: X.outer) (fr : X.env.frame = some X.env.locals) (nd : X.N.Nodup) (tk : Takes X Wout)
    (hb : ∀ (W : WX) (pn : List (Addr × Obj)) (xe : Value → Shared → Prop), Takes (X.tr pn xe) W → PassesOwn (model X.prog X.w) X.A X.env xe → PSs (X.tr pn xe) body (tb W))
    (cl : Hds X (hd :: hds) l) : PS X (.Try body (hd :: hds) [] [] pos) (fun D σ H => tb (wCl X.K Wout D l) D σ H) := by
  refine ⟨fun pins s σ H D I go => ?_⟩
  have ok := I.ok
  have frames : X.A.frames = some (X.env :: X.outer) := by
    rw [ok.frames, stk]
  refine wpAny_Try_except ?_
  refine wpAny_mono ((hb (wCl X.K Wout D l) (X.pn ++ pins) (fun e z1 => wpAny (model X.prog X.w) X.A (noteFrame e X.env)
    (fun _ z2 => wpAny (model X.prog X.w) X.A (setFlight e none) (fun _ z3 => wpAny (model X.prog X.w) X.A (handleBy e X.env (hd :: hds)) (SP X pins D) X.xe z3) X.xe z2) X.xe z1)
    (fun u sE met => ?_) PassesOwn.looking).run [] s σ H D (I.toTry _) go) (fun f s1 out => ?_) (fun _ _ he => he)
  · obtain ⟨a, B, sI, pins', σ', H', cls, d, rfl, J', nb, up, sky, na, os, ag, wish⟩ := met
    have J : Inv X pins σ' H' sI := J'.ofTry ok
    have air : Sky B (X.env :: X.outer) a (Zc cls d) X.env.locals sE.heap := by
      rw [← stk]
      exact sky
    show wpAny (model X.prog X.w) X.A (noteFrame (.ref a) X.env) _ _ _
    refine Sky.land Zc.steady frames fr air fun h3 fl up3 => ?_
    have J3 : Inv X pins σ' H' { sE with heap := h3 } := J.landed nb fl.1 (up.trans up3) os ag
    obtain ⟨oe, vs, there, zc, dat⟩ := fl.there
    have off : a ∉ frs (X.env :: X.outer) := fun hm => by
      obtain ⟨_, ob, eo, hnf⟩ := fl.2.2.1.mem hm
      rw [there] at eo
      cases eo
      exact hnf _ dat
    have offL : a ≠ X.env.locals := fun z => off (List.mem_filterMap.mpr ⟨X.env, List.mem_cons_self, by rw [fr, z]⟩)
    have offF : a ∉ X.fs := fun hm => by
      obtain ⟨en, hen, q⟩ := List.mem_filterMap.mp hm
      exact off (List.mem_filterMap.mpr ⟨en, List.mem_cons_of_mem _ hen, q⟩)
    have S3 := J3.suite there dat na offL offF
    -- one clause's test
    have ask : ∀ {x : Str} {c : Value} {p1 : Pos} {Q : Value → Shared → Prop} {E : Value → Shared → Prop}, Names X x c → Q c { sE with heap := h3 } →
        wpAny (model X.prog X.w) (X.A.mark (some (.ref a))) (eval (.Name x p1) X.env) Q E { sE with heap := h3 } := fun {x c p1 Q E} nm q => by
      obtain ⟨g, nodebug, m | ⟨m, bv, notname⟩⟩ := nm
      · exact ld_glob (X := X.suite a ((a, oe) :: (X.pn ++ pins))) S3 g m q nodebug
      · exact ld_blt (X := X.suite a ((a, oe) :: (X.pn ++ pins))) S3 g m bv q notname nodebug
    have typ : PySem.W.Looks (model X.prog X.w) h3 (typeOf (.ref a)) cls := fun _ _ _ z k q => wpAny_typeOf_ref (k _ _ there) (by rw [zc.1]; exact q)
    have through : ∀ {hs : List ExceptHandler} {ls : List Cl}, Hds X hs ls → wCl X.K Wout D ls cls d σ' H' →
        wpAny (model X.prog X.w) X.A (handleBy (.ref a) X.env hs) (SP X pins D) X.xe { sE with heap := h3 } := by
      intro hs ls hk
      induction hk with
      | nil =>
        intro w
        refine wpAny_handleBy_nil ?_
        obtain ⟨_, _, _, ob, us, T, _, _, e1, _, e3, e4, _⟩ := id fl
        unfold PySem.passOn
        refine wpAny_bind (wpAny_field e1 e3 e4 ?_)
        rw [if_neg (show ¬ ((Value.ref T == Value.none) = true) from by simp)]
        have last : wpAny (model X.prog X.w) X.A (setFlight (.ref a) X.env.frame) (fun _ z => wpAny (model X.prog X.w) X.A (throw (.ref a) : Sem Flow) (SP X pins D) X.xe z) X.xe { sE with heap := h3 } := by
          rw [fr]
          refine HandSPX.setFlight_upZ fl fun h4 held up4 => wpAny_throw (tk _ _ ?_)
          refine ⟨a, B, sI, pins, σ', H', cls, d, rfl, J, nb, (up.trans up3).trans up4, .inr (.inr ?_), na, os, ag, w⟩
          rw [stk]
          exact held
        first
          | exact wpAny_bind (wpAny_pure (wpAny_bind last))
          | exact wpAny_bind last
      | @plain x c ts st sts p1 p2 hs2 ls2 nm su more ih =>
        intro w
        obtain ⟨yes, hy, onYes, onNo⟩ := w
        refine wpAny_handleBy_cons (codeAny_handlers_test ?_) (by intro q; cases q)
        refine ask nm ((PySem.W.exm_one (M := model X.prog X.w) J3.kIn typ hy).here ?_)
        cases yes with
        | false => exact ih (onNo rfl)
        | true =>
          refine codeAny_handlers_suite ?_
          refine HandSPX.lands_againZ fl fun h4 fl4 up4 => ?_
          have J4 : Inv X pins σ' H' { sE with heap := h4 } := J.landed nb fl4.1 ((up.trans up3).trans up4) os ag
          obtain ⟨oe4, vs4, th4, zc4, dat4⟩ := fl4.there
          refine wpAny_mono ((su a oe4 cls d (X.pn ++ pins) zc4 ⟨_, dat4⟩).run [] _ _ H' _ (J4.suite th4 dat4 na offL offF) (onYes rfl a na)) (fun f s6 out => ?_) (fun _ _ z => False.elim z)
          cases f with
          | next => exact let ⟨_, _, S6, q6⟩ := out; ⟨_, _, S6.unsuite ok, q6⟩
          | brk => exact let ⟨_, _, S6, q6⟩ := out; ⟨_, _, S6.unsuite ok, q6⟩
          | cont => exact let ⟨_, _, S6, q6⟩ := out; ⟨_, _, S6.unsuite ok, q6⟩
          | ret u => exact let ⟨_, _, _, S6, r6, q6⟩ := out; ⟨_, _, _, S6.unsuite ok, r6, q6⟩
      | @named x n i c ts st sts p1 p2 hs2 ls2 at_ loc nm su more ih =>
        intro w
        obtain ⟨yes, hy, onYes, onNo⟩ := w
        refine wpAny_handleBy_cons (codeAny_handlers_test ?_) (by intro q; cases q)
        refine ask nm ((PySem.W.exm_one (M := model X.prog X.w) J3.kIn typ hy).here ?_)
        cases yes with
        | false => exact ih (onNo rfl)
        | true =>
          refine codeAny_handlers_suite_as ?_
          refine HandSPX.lands_againZ fl fun h4 fl4 up4 => ?_
          have J4 : Inv X pins σ' H' { sE with heap := h4 } := J.landed nb fl4.1 ((up.trans up3).trans up4) os ag
          obtain ⟨oe4, vs4, th4, zc4, dat4⟩ := fl4.there
          refine store_ok (X := X.suite a ((a, oe4) :: (X.pn ++ pins))) (v := .ref a) (J4.suite th4 dat4 na offL offF) nd at_ (.inl loc) rfl (fun s5 S5 => ?_) (.inr loc)
          refine wpAny_mono ((su a oe4 cls d (X.pn ++ pins) zc4 ⟨_, dat4⟩).run [] s5 _ H' _ S5 (onYes rfl a na)) (fun f s6 out => ?_) (fun _ _ z => False.elim z)
          have gone : ∀ {σ6 : L2.St} {H6 : Hp} {Q : Shared → Prop}, Inv (X.suite a ((a, oe4) :: (X.pn ++ pins))) [] σ6 H6 s6 → (∀ s7, Inv X pins (σ6.set i none) H6 s7 → Q s7) →
              wpAny (model X.prog X.w) X.A (do bindName X.env n .none; unbindBehindTheSuite X.env n p2) (fun _ s7 => Q s7) X.xe s6 := fun S6 hq => gone_ok (S6.unsuite ok) nd at_ loc hq
          cases f with
          | next => exact let ⟨_, _, S6, q6⟩ := out; gone S6 fun s7 J7 => ⟨_, _, J7, q6⟩
          | brk => exact let ⟨_, _, S6, q6⟩ := out; gone S6 fun s7 J7 => ⟨_, _, J7, q6⟩
          | cont => exact let ⟨_, _, S6, q6⟩ := out; gone S6 fun s7 J7 => ⟨_, _, J7, q6⟩
          | ret u => exact let ⟨_, _, _, S6, r6, q6⟩ := out; gone S6 fun s7 J7 => ⟨_, _, _, J7, r6, q6⟩
    exact through cl wish
  · cases f with
    | next => exact let ⟨_, _, J, q⟩ := out; wpAny_execs_nil ⟨_, _, J.ofTry ok, q⟩
    | brk => exact let ⟨_, _, J, q⟩ := out; ⟨_, _, J.ofTry ok, q⟩
    | cont => exact let ⟨_, _, J, q⟩ := out; ⟨_, _, J.ofTry ok, q⟩
    | ret u => exact let ⟨_, _, _, J, r, q⟩ := out; ⟨_, _, _, J.ofTry ok, r, q⟩
end V1

set_option maxHeartbeats 4000000
/-! V1: the law's own def, run at the caller of all (nothing is being shown there), and the end over a head by facts -/
namespace V1
open PySem PySem.Spec PyProof.Rows L2
section
variable {P : Program} {w : World} {K : PySem.W.Frag} {mg : Str → Option Value} {base : Heap} {k : Nat} {f : Addr} {fd : FuncData} {x : Str} {sp : Sp}
/-- the law's def keeps sp, called where nothing is being shown; nothing leaves it -/
def LawOk (P : Program) (w : World) (K : PySem.W.Frag) (mg : Str → Option Value) (base : Heap) (f : Addr) (fd : FuncData) (x : Str) (sp : Sp) : Prop :=
  ∀ (s : Shared) (H : Hp) (u : Value) (v : V) (Q : VK), Env0 P w K mg base callerA [] s H → BindsTo s fd ⟨[u], []⟩ [(x, u)] → RelV v u → sp [v] H Q (fun _ _ _ => False) →
    codeAny (model P w) callerA (.call (.ref f) ⟨[u], []⟩) (CR CX0 [] P w H s Q (fun _ _ _ => False)) s
theorem lawOk_of {name qual : Str} {params : Arguments} {body : List Stmt} {scope : Scope} {N : List Str} (F : FunD K name qual params body scope [] [] f fd) (S : FnScope N [x] scope)
    (room : Room (k + 1) callerA)
    (go : ∀ (cdv : Value) (s : Shared) (H : Hp) (v : V) (Q : VK), Room k (callerA.deeper (envOfC qual scope s.heap.objs.size f cdv)) → (callerA.deeper (envOfC qual scope s.heap.objs.size f cdv)).guards = some [] → sp [v] H Q (fun _ _ _ => False) →
      ∃ t, PSs (cxOf CX0 P w K mg base N qual scope f cdv callerA [] s H (fun _ _ _ => False)) body t ∧ t { nx := fun _ H' => Q .non H', rt := Q } (start N [v]) H) :
    LawOk P w K mg base f fd x sp := by
  intro s H u v Q e0 bind rv hs
  obtain ⟨oc, od, dV, kV, doc, pm, an, cdv, ct, osl, rfl, lk, cd, _, _⟩ := F.ex
  have inK : K.In s.heap := e0.mod.kin.keeps fun b o e => (e0.bs b o e).1
  have free : s.heap.NoLimit := e0.mod.nolimit.keeps fun b o e => (e0.bs b o e).1
  have kinds : ∀ y ∈ [(x, u)], scope.names.lookup y.1 = some .local ∨ (scope.names.lookup y.1 = some .cell ∧ ((cellsFrom (s.heap.objs.size + 1) scope.names []).lookup y.1).isSome = true) := by
    intro y hy
    obtain rfl := List.mem_singleton.mp hy
    rcases S.par x (List.mem_singleton.mpr rfl) with q | q
    · exact .inl q
    · exact .inr ⟨q, PySem.W.cellsFrom_some _ _ _ (.inl q)⟩
  refine codeAny_call_function room.depth (inK _ _ lk) rfl S.co S.gen rfl (PySem.W.codeRec_of inK cd) (bind _ _ _ _ ?_)
  refine wpAny_newFunctionEnv_cells S.kind kinds fun env he s1 z => ?_
  subst he
  refine ⟨free.keeps z.toInCall.keep, codeAny_func ?_⟩
  obtain ⟨t, ht, hq⟩ := go cdv s H v Q (room.deeper _) rfl hs
  have I : Inv (cxOf CX0 P w K mg base N qual scope f cdv callerA [] s H (fun _ _ _ => False)) [] (start N [v]) H s1 := inv_start (us := [u]) (ps := [x]) S room.hd e0 rfl (.cons rv .nil) z
  refine wpAny_mono (ht.run [] s1 _ H _ I hq) (fun fl s' out => ?_) fun _ _ z => z
  cases fl with
  | ret u' => exact let ⟨v', _, H', J, r', q⟩ := out; ⟨v', H', J.os, J.bare, J.base, J.hok, r', q⟩
  | next => exact let ⟨_, H', J, q⟩ := out; ⟨.non, H', J.os, J.bare, J.base, J.hok, rfl, q⟩
  | brk => exact let ⟨_, _, _, q⟩ := out; q.elim
  | cont => exact let ⟨_, _, _, q⟩ := out; q.elim
end
/-- from the state at the claim's call -/
theorem law_run {P : Program} {w : World} {K : PySem.W.Frag} {mg mb : Str → Option Value} {fa a : Addr} {fd : FuncData} {x : Str} {sp : Sp} {s : Shared} {vs : List Value} {ns : List Int}
    (KX : K.In s.heap) (gl : s.heap.Ns mainGlobals mg) (bl : s.heap.Ns builtinsNs mb) (boot : ∀ y : Str, y ≠ "__name__" → mb y = bootBuiltins y) (free : s.heap.NoLimit) (gens : s.gens = #[])
    (ha : s.heap.get? a = some { cls := .type "list", data := .seq vs.toArray }) (hints : IntsAre vs ns) (short : ns.length ≤ sizeLine)
    (F : ∀ base : Heap, K.In base → base.Ns mainGlobals mg → LawOk P w K mg base fa fd x sp) (bind : ∀ (s : Shared) (u : Value), BindsTo s fd ⟨[u], []⟩ [(x, u)])
    (hs : ∀ H : Hp, Only H → SqL K H a (ns.map V.int) → sp [.ref a] H (fun v _ => v = .bl true) (fun _ _ _ => False)) :
    codeAny (model P w) callerA (.call (.ref fa) ⟨[.ref a], []⟩) (fun r s' => r = .ok (.ret (.bool true)) ∧ OldK s.heap s'.heap ∧ s'.os = s.os ∧ AllBare s'.gens) s := by
  have rel := vals_ints hints
  have count := hints.length
  let ob : Obj := { cls := .type "list", data := .seq vs.toArray }
  have main : ∀ H : Hp, Only H → SqL K H a (ns.map V.int) → HOk P w H s.heap → (∀ b, H b ≠ none → b = a) → (H a ≠ none → K.lookup a = none) →
      codeAny (model P w) callerA (.call (.ref fa) ⟨[.ref a], []⟩) (fun r s' => r = .ok (.ret (.bool true)) ∧ OldK s.heap s'.heap ∧ s'.os = s.os ∧ AllBare s'.gens) s := by
    intro H only seq hok just notK
    let B := hidT s.heap H
    have noDict : ∀ {b : Addr} {o : Obj} {es : Array DictEntry} {ep : Nat}, s.heap.get? b = some o → o.data = .dict es ep → H b = none := fun {b o es ep} e d => by
      cases q : H b with
      | none => rfl
      | some _ =>
        obtain rfl : b = a := just b (by rw [q]; simp)
        rw [ha] at e
        cases e
        cases (show Data.seq vs.toArray _ = Data.dict es ep from d)
    have space : ∀ {b : Addr} {m : Str → Option Value}, s.heap.Ns b m → B.Ns b m := fun {b m} ⟨o, es, ep, e, d, r⟩ => ⟨o, es, ep, hidT_get e (noDict e d), d, r⟩
    have KB : K.In B := fun b o e => hidT_get (KX b o e) (by
      cases q : H b with
      | none => rfl
      | some _ =>
        obtain rfl : b = a := just b (by rw [q]; simp)
        rw [notK (by rw [q]; simp)] at e
        cases e)
    have M : Mod K mg B := ⟨KB, space gl, ⟨mb, space bl, boot⟩, let ⟨mc, h1, h2⟩ := free; ⟨mc, space h1, h2⟩⟩
    have e0 : Env0 P w K mg B callerA [] s H := ⟨rfl, M, fun b o e => of_hidT e, Nat.le_of_eq (hidT_size _ _), trivial, fun b hb => absurd (show b ∈ ([] : List Addr) from hb) List.not_mem_nil, hok, .of_eq gens⟩
    refine codeAny_mono (F B KB (space gl) s H (.ref a) (.ref a) _ e0 (bind s (.ref a)) rfl (hs H only seq)) fun r s' out => ?_
    cases r with
    | error e => exact False.elim out
    | ok fl =>
      cases fl with
      | next => exact False.elim out
      | brk => exact False.elim out
      | cont => exact False.elim out
      | ret u =>
        obtain ⟨v, H', os, bare, un, hok', rv, q⟩ := out
        obtain rfl : v = .bl true := q
        obtain rfl : u = Value.bool true := rv
        refine ⟨rfl, OldK.of_keep fun b o e => ?_, os, bare⟩
        cases q : H b with
        | none => exact un.keep b o e q (fun z => absurd (show b ∈ ([] : List Addr) from z) List.not_mem_nil) List.not_mem_nil
        | some _ =>
          rcases only b with z | ⟨o2, xs, z⟩
          · rw [q] at z
            cases z
          · obtain ⟨g1, _⟩ := hok b _ z
            obtain ⟨g2, _⟩ := hok' b _ (un.frzs b o2 _ z)
            rw [e] at g1
            cases g1
            exact g2
  cases lk : K.lookup a with
  | some o =>
    have e := KX a o lk
    rw [ha] at e
    cases e
    exact main (fun _ => none) (fun _ => .inl rfl) (.inr ⟨_, vs.toArray, _, lk, rfl, rfl, rfl, by rw [List.size_toArray, count]; exact short, by simpa using rel⟩) (fun b u z => nomatch (show (none : Option HO) = some u from z)) (fun b z => absurd rfl z) fun z => absurd rfl z
  | none =>
    let H1 : Hp := fun b => if b = a then some (.frz ob (.lst (ns.map V.int))) else none
    have atA : H1 a = some (.frz ob (.lst (ns.map V.int))) := if_pos rfl
    have offA : ∀ {b : Addr}, b ≠ a → H1 b = none := fun hb => if_neg hb
    refine main H1 (fun b => ?_) (.inl (.inr ⟨ob, atA⟩)) (fun b u z => ?_) (fun b z => ?_) fun _ => lk
    · by_cases hb : b = a
      · exact .inr ⟨_, _, by rw [hb]; exact atA⟩
      · exact .inl (offA hb)
    · by_cases hb : b = a
      · subst hb
        cases atA.symm.trans z
        exact ⟨ha, by rw [List.length_map]; exact short, vs, _, rel, ha⟩
      · exact nomatch (offA hb).symm.trans z
    · by_cases hb : b = a
      · exact hb
      · exact absurd (offA hb) z
theorem walk_law {l : PySem.W.OpenLaw} {n : Nat} {q : Program} {loose : List Str} {XP : (Str → Option Value) → Heap → Prop} {YP : World → Heap → Prop} {d : DefRec} {x : Str} (hn : l.most = some n) (hz : n ≤ sizeLine) (noDfl : d.params.defaults = [])
    (F : ∀ (w : World) (mg : Str → Option Value) (fa : Addr) (h : Heap), YP w h → h.Ns mainGlobals mg → mg d.name = some (.ref fa) → ∃ (K : PySem.W.Frag) (fd : FuncData) (sp : Sp), K.In h ∧ (∀ (s : Shared) (u : Value), BindsTo s fd ⟨[u], []⟩ [(x, u)]) ∧
      (∀ (H : Hp) (a : Addr) (ns : List Int), ns.length ≤ n → Only H → SqL K H a (ns.map V.int) → sp [.ref a] H (fun v _ => v = .bl true) fun _ _ _ => False) ∧
      ∀ base : Heap, K.In base → base.Ns mainGlobals mg → LawOk l.prog w K mg base fa fd x sp) :
    PySem.W.WalkO q loose XP YP l.row.toRowW d [] (fun f vs => PySem.call f vs) := by
  refine Att.attach_call hn noDfl fun w s₀ s₁ mg mb fa o pm cd doc a vs ns G Y ho hd hcd hmg hobj hints short gens => ?_
  obtain ⟨K, fd, sp, KX, bind, hs, hF⟩ := F w mg fa _ Y G.T.g hmg
  exact law_run KX G.T.g G.T.b G.T.builtins G.T.nolimit gens hobj hints (Nat.le_trans short hz) hF bind fun H only seq => hs H a ns short only seq
end V1

set_option maxHeartbeats 4000000
/-! V1e: what K00's files had in the namespace V1, for other laws -/
namespace V1
open PySem PySem.Spec PyProof.Rows L2
/-- the def that the module's name x stands for keeps sp -/
def Has (P : Program) (w : World) (K : PySem.W.Frag) (mg : Str → Option Value) (base : Heap) (CX : CXT) (k : Nat) (x : Str) (ps : List Str) (sp : Sp) : Prop :=
  ∃ fd, FnOk P w K mg base CX k (He.ga K x) fd ps sp ∧ Binds K fd ps [] ∧ PySem.W.keepIn K (.ref (He.ga K x)) = true ∧ mg x = some (.ref (He.ga K x))
theorem pe_has {X : Cx} {CX : CXT} {k : Nat} {x : Str} {ps : List Str} {sp : Sp} {E : XK} {e : Expr} {es : List Expr} {t : TA} {p pos : Pos} (h : Has X.prog X.w X.K X.mg X.base CX k x ps sp) (hr : Room k X.A) (hx : Passes CX X E) (ha : PA X (e :: es) t) (hg : Gl X x := by rfl)
    (hdb : (x == ("__debug__" : Str)) = false := by decide) (he : starEach (e :: es) X.env = (false, eval e X.env) :: starEach es X.env := by rfl) (hpl : (backTo pos (starEach es X.env)).any (·.1) = false := by rfl) :
    PE X (.Call (.Name x p) (e :: es) [] pos) (tCall sp [] E t) := by
  obtain ⟨fd, F, b, kp, g⟩ := h
  exact pe_call F hr hg g kp b .nil hx ha hdb he hpl
theorem pe_has0 {X : Cx} {CX : CXT} {k : Nat} {x : Str} {ps : List Str} {sp : Sp} {E : XK} {p pos : Pos} (h : Has X.prog X.w X.K X.mg X.base CX k x ps sp) (hr : Room k X.A) (hx : Passes CX X E) (hg : Gl X x := by rfl)
    (hdb : (x == ("__debug__" : Str)) = false := by decide) : PE X (.Call (.Name x p) [] [] pos) (tCall sp [] E tNil) := by
  obtain ⟨fd, F, b, kp, g⟩ := h
  exact pe_call0 F hr hg g kp b .nil hx hdb
theorem delH_upd {H : Hp} {a : Addr} {o : HO} : delH (upd H a o) a = delH H a := by
  funext b
  by_cases e : b = a
  · rw [e, delH_same, delH_same]
  · rw [delH_ne e, delH_ne e, upd_ne e]
theorem delH_updN {H : Hp} {a p : Addr} {o : HO} (h : p ≠ a) : delH (upd H p o) a = upd (delH H a) p o := by
  funext b
  by_cases e : b = a
  · rw [e, delH_same, upd_ne (Ne.symm h), delH_same]
  · rw [delH_ne e]
    by_cases z : b = p
    · rw [z, upd_same, upd_same]
    · rw [upd_ne z, upd_ne z, delH_ne e]
theorem same_new {H : Hp} {p : Addr} {o : HO} (h : H p = none) : Same H (upd H p o) := fun b x e => by
  rw [upd_ne (ne_of_none e h)]
  exact e
theorem same_delH {H : Hp} {a : Addr} : Same (delH H a) H := fun b o e => by
  by_cases z : b = a
  · rw [z, delH_same] at e
    cases e
  · rw [delH_ne z] at e
    exact e
theorem same_del {H H' : Hp} {a : Addr} (h : Same H H') : Same (delH H a) (delH H' a) := fun b o e => by
  by_cases z : b = a
  · rw [z, delH_same] at e
    cases e
  · rw [delH_ne z] at e ⊢
    exact h b o e
end V1
namespace V1
open PySem PySem.Spec PyProof.Rows L2
/-- [..], its place told not to be the table of modules -/
def tLstS (t : TA) : TE := fun σ H Q => t σ H fun xs H1 => xs.length ≤ sizeLine ∧ ∀ p, H1 p = none → (p == sysModules) = false → Q (.ref p) (upd H1 p (.lst xs))
theorem pe_lstS {X : Cx} {es : List Expr} {t : TA} {pos : Pos} (h : PA X es t) : PE X (.List es pos) (tLstS t) := by
  constructor
  intro pins s σ H Q I hq
  apply wpAny_List_spliced
  apply thn (h.run pos pins s σ H _ I hq)
  rintro us s1 ⟨xs, H1, J, rv, z, q⟩
  have lenU : us.length ≤ sizeLine := rv.length ▸ z
  refine ⟨lenU, .ref s1.heap.objs.size, _, ?_, rfl, q _ (J.hok.fresh (Nat.le_refl _)) (beq_eq_false_iff_ne.mpr (Nat.ne_of_gt J.big))⟩
  exact J.laid (o := .lst xs) (t' := s1.toks) (fun _ _ e => Heap.get?_push_of_some _ e) (Nat.le_refl _) ⟨z, us, 0, rv, Heap.get?_push_size _ rfl⟩
/-- the hand at a stands -/
def Held (H : Hp) (a : Addr) : Prop := ∃ o, H a = some o
theorem Held.same {H H' : Hp} {a : Addr} (h : Held H a) (s : Same H H') : Held H' a := let ⟨o, e⟩ := h; ⟨o, s _ _ e⟩
theorem Held.off {H H' : Hp} {a p : Addr} {o : HO} (h : Held H a) (n : H p = none) (e : H' p = some o) : (delH H' a) p = some o := by
  obtain ⟨u, hu⟩ := h
  rw [delH_ne (Ne.symm (ne_of_none hu n))]
  exact e
/-- te makes this data beside what stands at a -/
def Mk (te : TE) (σ : L2.St) (a : Addr) (d : PyData) : Prop := ∀ H, Held H a → ∀ Q : VK, (∀ v H', Same H H' → Dq (delH H' a) v d → Q v H') → te σ H Q
def MkA (ta : TA) (σ : L2.St) (a : Addr) (ds : List PyData) : Prop := ∀ H, Held H a → ∀ Q : List V → Hp → Prop, (∀ vs H', Same H H' → DqAll (delH H' a) vs ds → Q vs H') → ta σ H Q
section
variable {σ : L2.St} {a : Addr} {d : PyData} {ds : List PyData} {te : TE} {ta : TA}
theorem mk_non : Mk (tC .non) σ a .none := fun H _ _ k => k _ H (Same.refl H) .non
theorem mk_bl (b : Bool) : Mk (tC (.bl b)) σ a (.bool b) := fun H _ _ k => k _ H (Same.refl H) (.bl b)
theorem mk_int (i : Int) : Mk (tC (.int i)) σ a (.int i) := fun H _ _ k => k _ H (Same.refl H) (.int i)
theorem mk_str (x : Str) : Mk (tC (.str x)) σ a (.str x) := fun H _ _ k => k _ H (Same.refl H) (.str x)
theorem mka_nil : MkA tNil σ a [] := fun H _ _ k => k [] H (Same.refl H) .nil
theorem mka_cons (h : Mk te σ a d) (r : MkA ta σ a ds) : MkA (tCons te ta) σ a (d :: ds) := fun H hh _ k => h H hh _ fun v H1 s1 q1 => r H1 (hh.same s1) _ fun vs H2 s2 q2 => k (v :: vs) H2 (s1.trans s2) (.cons (Dq.same (same_del s2) d v q1) q2)
theorem dqAll_len {H : Hp} : ∀ {vs : List V} {ds : List PyData}, DqAll H vs ds → vs.length = ds.length
  | _, [], .nil => rfl
  | _, _ :: _, .cons _ m => congrArg (· + 1) (dqAll_len m)
theorem mk_tup (r : MkA ta σ a ds) (hz : ds.length ≤ 1000) : Mk (tTup ta) σ a (.tuple ds) := fun H hh _ k => r H hh _ fun vs H1 s1 q1 =>
  ⟨Nat.le_of_lt (small1000 (by rw [dqAll_len q1]; exact hz)), fun p n => k _ _ (s1.trans (same_new n)) (.tup ((hh.same s1).off n upd_same) (DqAll.same (same_del (same_new n)) ds vs q1))⟩
theorem mk_lst (r : MkA ta σ a ds) (hz : ds.length ≤ 1000) : Mk (tLstS ta) σ a (.list ds) := fun H hh _ k => r H hh _ fun vs H1 s1 q1 =>
  ⟨Nat.le_of_lt (small1000 (by rw [dqAll_len q1]; exact hz)), fun p n low => k _ _ (s1.trans (same_new n)) (.lst ((hh.same s1).off n upd_same) low (DqAll.same (same_del (same_new n)) ds vs q1))⟩
theorem mk_dict0 : Mk tDNewK σ a (.dict []) := fun H hh _ k p n => k _ _ (same_new n) (.dct (hh.off n upd_same) .nil)
/-- a written dict of one text key and an int -/
theorem mk_dict1 (x : Str) (i : Int) : Mk (tDisp [(tC (.str x), tC (.int i))]) σ a (.dict [(.str x, .int i)]) := fun H hh _ k p n =>
  ⟨upd_same, [(.inr x, .int i)], rfl, (by show 1 ≤ 15; decide), by
    rw [upd_upd]
    exact k _ _ (same_new n) (.dct (kvs := [(.inr x, .int i)]) (hh.off n upd_same) (.cons (k := .inr x) (.int i) .nil))⟩
theorem DqAll.get {H : Hp} : ∀ {vs : List V} {ds : List PyData} {j : Nat} {d : PyData}, DqAll H vs ds → ds[j]? = some d → ∃ v, vs[j]? = some v ∧ Dq H v d
  | _, _ :: _, 0, _, .cons one _, e => ⟨_, rfl, by
    obtain rfl := Option.some.inj e
    exact one⟩
  | _, _ :: _, j + 1, _, .cons _ more, e => DqAll.get (j := j) more e
/-- an item of a written list of data, its place from an int -/
theorem mk_pick {K : PySem.W.Frag} {ti : TE} {H : Hp} {Q : VK} {j : Nat} (r : MkA ta σ a ds) (hz : ds.length ≤ 1000) (hh : Held H a) (hi : ∀ H1, Same H H1 → ∀ Q : VK, Q (.int j) H1 → ti σ H1 Q) (hj : j < ds.length)
    (k : ∀ v H', Same H H' → Dq (delH H' a) v ds[j] → Q v H') : tOp (rIxL K) (tLstS ta) ti σ H Q := r H hh _ fun vs H1 s1 q1 =>
  ⟨Nat.le_of_lt (small1000 (by rw [dqAll_len q1]; exact hz)), fun p n _ => by
    obtain ⟨v, hv, dv⟩ := DqAll.get q1 (List.getElem?_eq_getElem hj)
    have s2 := s1.trans (same_new (o := .lst vs) n)
    exact hi _ s2 _ ⟨p, vs, j, v, rfl, rfl, .inl (.inl upd_same), atI_nat hv, k v _ s2 (Dq.same (same_del (same_new n)) _ v dv)⟩⟩
end
structure Good (d : PyData) (b n : Nat) : Prop where
  sh : d.showable = true
  dp : d.depth ≤ b
  ln : d.shown.length ≤ n
theorem Good.mono {d : PyData} {b n b' n' : Nat} (h : Good d b n) (h1 : b ≤ b') (h2 : n ≤ n') : Good d b' n' := ⟨h.sh, Nat.le_trans h.dp h1, Nat.le_trans h.ln h2⟩
theorem good_int {i : Int} (h0 : 0 ≤ i) (h : i < 10 ^ 6) : Good (.int i) 0 6 := by
  refine ⟨?_, Nat.le_refl _, toString_length_le h0 (by decide) h⟩
  have z : i.natAbs < 2 ^ 20 := by omega
  have e : i.natAbs.log2 < 1920 := by
    by_cases hz : i.natAbs = 0
    · rw [hz]
      decide
    · exact Nat.lt_trans ((Nat.log2_lt hz).mpr z) (by decide)
  simpa [PyData.showable] using e
theorem good_list2 {d e : PyData} {b c n m : Nat} (hd : Good d b n) (he : Good e c m) : Good (.list [d, e]) (max b c + 1) (n + m + 4) := by
  refine ⟨?_, ?_, ?_⟩
  · simp only [PyData.showable, PyData.showableAll, hd.sh, he.sh, Bool.and_self]
  · simp only [PyData.depth, PyData.depthAll]
    have h1 := hd.dp
    have h2 := he.dp
    omega
  · have q : (PyData.list [d, e]).shown = ((((Str.ofString "[" ++ Str.ofString "") ++ d.shown) ++ Str.ofString ", ") ++ e.shown) ++ Str.ofString "]" := by
      simp only [PyData.shown, PyData.shownAll]
      rfl
    rw [q]
    simp only [strLen_append]
    have h1 := hd.ln
    have h2 := he.ln
    have k1 : (Str.ofString "[").length = 1 := by decide
    have k2 : (Str.ofString "").length = 0 := by decide
    have k3 : (Str.ofString ", ").length = 2 := by decide
    have k4 : (Str.ofString "]").length = 1 := by decide
    omega
theorem good_tup2 {d e : PyData} {b c n m : Nat} (hd : Good d b n) (he : Good e c m) : Good (.tuple [d, e]) (max b c + 1) (n + m + 4) := by
  refine ⟨?_, ?_, ?_⟩
  · simp only [PyData.showable, PyData.showableAll, hd.sh, he.sh, Bool.and_self]
  · simp only [PyData.depth, PyData.depthAll]
    have h1 := hd.dp
    have h2 := he.dp
    omega
  · have q : (PyData.tuple [d, e]).shown = (Str.ofString "(" ++ Str.join ", " [d.shown, e.shown]) ++ Str.ofString ")" := by
      simp only [PyData.shown, PyData.shownAll]
      rfl
    rw [q]
    simp only [strLen_append]
    have h1 := hd.ln
    have h2 := he.ln
    have j := join_length_add [d.shown, e.shown] (by simp)
    have p : piled [d.shown, e.shown] = d.shown.length + 2 + (e.shown.length + 2) := by simp [piled]
    have k1 : (Str.ofString "(").length = 1 := by decide
    have k2 : (Str.ofString ")").length = 1 := by decide
    omega
end V1
namespace V1
open PySem PySem.Spec PyProof.Rows L2
/-- an exception's class, and its fields if it has some -/
abbrev Kd : Type := Addr × Option (List (Str × V))
inductive ExAll (H : Hp) : List V → List Kd → Prop
  | nil : ExAll H [] []
  | cons {a : Addr} {k : Kd} {vs : List V} {ks : List Kd} (one : IsEx H a k.1 k.2) (more : ExAll H vs ks) : ExAll H (.ref a :: vs) (k :: ks)
theorem ExAll.same {H H' : Hp} (e : Same H H') : ∀ {vs : List V} {ks : List Kd}, ExAll H vs ks → ExAll H' vs ks
  | _, _, .nil => .nil
  | _, _, .cons one more => .cons (one.same e) (more.same e)
theorem ExAll.len {H : Hp} : ∀ {vs : List V} {ks : List Kd}, ExAll H vs ks → vs.length = ks.length
  | _, _, .nil => rfl
  | _, _, .cons _ more => congrArg (· + 1) more.len
theorem ExAll.app {H : Hp} : ∀ {vs us : List V} {ks ls : List Kd}, ExAll H vs ks → ExAll H us ls → ExAll H (vs ++ us) (ks ++ ls)
  | _, _, _, _, .nil, h => h
  | _, _, _, _, .cons one more, h => .cons one (more.app h)
theorem ExAll.get {H : Hp} : ∀ {vs : List V} {ks : List Kd} {j : Nat} {k : Kd}, ExAll H vs ks → ks[j]? = some k → ∃ a, vs[j]? = some (.ref a) ∧ IsEx H a k.1 k.2
  | _, _, 0, _, .cons one _, e => ⟨_, rfl, by
    obtain rfl := Option.some.inj e
    exact one⟩
  | _, _, j + 1, _, .cons _ more, e => more.get (j := j) e
/-- te makes an exception of this kind -/
def MkE (te : TE) (σ : L2.St) (k : Kd) : Prop := ∀ (H : Hp) (Q : VK), (∀ a H', Same H H' → IsEx H' a k.1 k.2 → Q (.ref a) H') → te σ H Q
def MkEs (ta : TA) (σ : L2.St) (ks : List Kd) : Prop := ∀ (H : Hp) (Q : List V → Hp → Prop), (∀ vs H', Same H H' → ExAll H' vs ks → Q vs H') → ta σ H Q
section
variable {σ : L2.St} {k : Kd} {ks ls : List Kd} {te : TE} {ta tb : TA}
theorem mke_nil : MkEs tNil σ [] := fun H _ q => q [] H (Same.refl H) .nil
theorem mke_cons (h : MkE te σ k) (r : MkEs ta σ ks) : MkEs (tCons te ta) σ (k :: ks) := fun H _ q => h H _ fun a H1 s1 e1 => r H1 _ fun vs H2 s2 e2 => q _ H2 (s1.trans s2) (.cons (e1.same s2) e2)
theorem mke_bare (C : Addr) : MkE (tMk0 C) σ (C, none) := fun H _ q a n => q a _ (same_new n) upd_same
/-- a list of them -/
def MkEL (te : TE) (σ : L2.St) (ks : List Kd) : Prop := ∀ (H : Hp) (Q : VK), (∀ p vs H', Same H H' → H p = none → H' p = some (.lst vs) → ExAll H' vs ks → Q (.ref p) H') → te σ H Q
theorem fresh_up {H H' : Hp} {p : Addr} (s : Same H H') (n : H' p = none) : H p = none := by
  cases e : H p with
  | none => rfl
  | some o =>
    rw [s p o e] at n
    cases n
theorem mkel_lst (r : MkEs ta σ ks) (hz : ks.length ≤ 1000) : MkEL (tLst ta) σ ks := fun H _ q => r H _ fun vs H1 s1 e1 =>
  ⟨Nat.le_of_lt (small1000 (by rw [e1.len]; exact hz)), fun p n => q p vs _ (s1.trans (same_new n)) (fresh_up s1 n) upd_same (e1.same (same_new n))⟩
theorem mkel_go {H : Hp} {Q : VK} (r : MkEs ta σ ks) (hz : ks.length ≤ 1000) (q : ∀ p vs H', Same H H' → H p = none → H' p = some (.lst vs) → ExAll H' vs ks → Q (.ref p) H') : tLst ta σ H Q := mkel_lst r hz H Q q
theorem q_mkel {H : Hp} {D : Ends} {tz : TS} {i : Nat} (r : MkEs ta σ ks) (hz : ks.length ≤ 1000) (k : ∀ p vs H', Same H H' → H p = none → H' p = some (.lst vs) → ExAll H' vs ks → tz D (σ.set i (some (.ref p))) H') :
    tSeq (tAsg (tLst ta) (gName i)) tz D σ H := by
  show tLst ta σ H fun v H' => tz D (σ.set i (some v)) H'
  exact mkel_lst r hz H _ k
/-- a list of what is told wherever G holds -/
def Bs (ta : TA) (σ : L2.St) (G : Hp → Prop) (vs : List V) : Prop := ∀ H, G H → ∀ Q : List V → Hp → Prop, Q vs H → ta σ H Q
theorem bs_nil {G : Hp → Prop} : Bs tNil σ G [] := fun H _ _ q => q
theorem bs_cons {G : Hp → Prop} {v : V} {vs : List V} (h : ∀ H, G H → ∀ Q : VK, Q v H → te σ H Q) (r : Bs ta σ G vs) : Bs (tCons te ta) σ G (v :: vs) := fun H g _ q => h H g _ (r H g _ q)
theorem q_bs {H : Hp} {D : Ends} {tz : TS} {i : Nat} {G : Hp → Prop} {vs : List V} (b : Bs ta σ G vs) (g : G H) (hz : vs.length ≤ 1000) (k : ∀ p H', Same H H' → H p = none → H' p = some (.lst vs) → tz D (σ.set i (some (.ref p))) H') :
    tSeq (tAsg (tLst ta) (gName i)) tz D σ H := by
  show tLst ta σ H fun v H' => tz D (σ.set i (some v)) H'
  exact b H g _ ⟨Nat.le_of_lt (small1000 hz), fun p n => k p _ (same_new n) n upd_same⟩
theorem r_bs {H : Hp} {Q : VK} {G : Hp → Prop} {vs : List V} (b : Bs ta σ G vs) (g : G H) (hz : vs.length ≤ 1000) (k : ∀ p H', Same H H' → H p = none → H' p = some (.lst vs) → Q (.ref p) H') : tLst ta σ H Q := b H g _ ⟨Nat.le_of_lt (small1000 hz), fun p n => k p _ (same_new n) n upd_same⟩
theorem cat_go {H : Hp} {Q : VK} {x y : Addr} {xs ys : List V} (hx : H x = some (.lst xs)) (hy : H y = some (.lst ys)) (hz : xs.length + ys.length ≤ 1000) (k : ∀ p H', Same H H' → H p = none → H' p = some (.lst (xs ++ ys)) → Q (.ref p) H') : rCat (.ref x) (.ref y) H Q :=
  ⟨x, y, xs, ys, rfl, rfl, hx, hy, Nat.le_of_lt (small1000 hz), fun p n => k p _ (same_new n) n upd_same⟩
theorem mkel_cat {t1 t2 : TE} (h1 : MkEL t1 σ ks) (h2 : MkEL t2 σ ls) (hz : ks.length + ls.length ≤ 1000) : MkEL (tOp rCat t1 t2) σ (ks ++ ls) := fun H _ q => h1 H _ fun p vs H1 s1 _ e1 x1 => h2 H1 _ fun p2 us H2 s2 _ e2 x2 =>
  ⟨p, p2, vs, us, rfl, rfl, s2 _ _ e1, e2, Nat.le_of_lt (small1000 (by rw [x1.len, x2.len]; exact hz)), fun p3 n => q p3 _ _ ((s1.trans s2).trans (same_new n)) (fresh_up (s1.trans s2) n) upd_same (((x1.same s2).app x2).same (same_new n))⟩
theorem mkel_var {i : Nat} {p : Addr} {vs : List V} {H0 : Hp} (h0 : σ[i]? = some (some (.ref p))) (e : H0 p = some (.lst vs)) (x : ExAll H0 vs ks) : ∀ (H : Hp), Same H0 H → ∀ Q : VK, (∀ H', Same H H' → H' p = some (.lst vs) → ExAll H' vs ks → Q (.ref p) H') → tVar i σ H Q :=
  fun H s Q q => ⟨_, h0, q H (Same.refl H) (s _ _ e) (x.same s)⟩
end
/-- __init__(self, f): self.f = f -/
def spIni (K : PySem.W.Frag) (C : Addr) (f : Str) : Sp := fun vs H Q _ => ∃ (a : Addr) (v : V), vs = [.ref a, v] ∧ H a = some (exo a C none) ∧ ∀ dx, H dx = none → dx ≠ a → Q .non (upd (upd H dx (exd dx [(f, v)])) a (exo a C (some dx)))
theorem mke_field {K : PySem.W.Frag} {σ : L2.St} {C : Addr} {f : Str} {v : V} {ta : TA} (ha : ∀ (H : Hp) (Q : List V → Hp → Prop), Q [v] H → ta σ H Q) : MkE (tMkV C (spIni K C f) [] ta) σ (C, some [(f, v)]) := fun H _ q => ha H _
  ⟨by show 1 ≤ 1000; decide, fun a n => ⟨a, v, rfl, upd_same, fun dx nd ne => by
    have nd' : H dx = none := by
      rw [upd_ne ne] at nd
      exact nd
    refine ⟨rfl, q a _ (fun b o e => ?_) ⟨dx, upd_same, ?_⟩⟩
    · rw [upd_ne (ne_of_none e n), upd_ne (ne_of_none e nd'), upd_ne (ne_of_none e n)]
      exact e
    · rw [upd_ne ne, upd_same]⟩⟩
end V1
namespace V1
open PySem PySem.Spec PyProof.Rows L2
theorem wCl_take {K : PySem.W.Frag} {W : WX} {D : Ends} {c cls : Value} {o : Option Nat} {ts : Addr → Value → Option Addr → TS} {l : List Cl} {d : Option Addr} {σ : L2.St} {H : Hp} (h : PySem.W.exmOne K cls c = some true) (k : ∀ a, H a = none → suiteD D a cls d ts σ H o) :
    wCl K W D ((c, o, ts) :: l) cls d σ H := ⟨true, h, fun _ => k, (fun z => nomatch z)⟩
theorem wCl_skip {K : PySem.W.Frag} {W : WX} {D : Ends} {c cls : Value} {o : Option Nat} {ts : Addr → Value → Option Addr → TS} {l : List Cl} {d : Option Addr} {σ : L2.St} {H : Hp} (h : PySem.W.exmOne K cls c = some false) (k : wCl K W D l cls d σ H) :
    wCl K W D ((c, o, ts) :: l) cls d σ H := ⟨false, h, (fun z => nomatch z), fun _ => k⟩
/-- raise C(e), C's __init__ keeping its one field -/
theorem raise_go {K : PySem.W.Frag} {σ : L2.St} {H : Hp} {C : Addr} {f : Str} {v : V} {ta : TA} {Q : XK} (ha : ∀ Q : List V → Hp → Prop, Q [v] H → ta σ H Q) (k : ∀ d H', H d = none → Same H H' → H' d = some (.xd [(f, v)]) → Q (.ref C) (some d) H') :
    tMkO C (spIni K C f) [] ta σ H Q := ha _ ⟨by show 1 ≤ 1000; decide, fun a n => ⟨a, v, rfl, upd_same, fun dx nd ne => by
  have nd' : H dx = none := by
    rw [upd_ne ne] at nd
    exact nd
  refine ⟨rfl, dx, [(f, v)], upd_same, ?_, nd', k dx _ nd' (fun b o e => ?_) upd_same⟩
  · rw [upd_ne ne, upd_same]
  · rw [upd_ne (ne_of_none e nd'), del_ne (ne_of_none e n), upd_ne (ne_of_none e n), upd_ne (ne_of_none e nd'), upd_ne (ne_of_none e n)]
    exact e⟩⟩
end V1

set_option maxHeartbeats 4000000
/-! V2: for i, x in enumerate(tuple) -/
namespace V2
open PySem PySem.Spec PyProof.Rows L2 V1
open AutoSeq1 (wpAny_loadPart')
theorem enum_tup_new (t : Addr) (items : Array Value) :
    Meets (Builtin.«enumerate.__new__» ⟨[.type "enumerate", .ref t], []⟩) (fun _ R s => s.heap.IsTuple t items ∧
      R (.ok (.ret (.ref (s.heap.objs.size + 1))))
        { s with heap := (s.heap.push { cls := .type "tuple_iterator", data := .fields #[.ref t, .int 0 0] }).push { cls := .type "enumerate", data := .fields #[.none, .bool false, .ref s.heap.objs.size, rawInt 0, .none, .none] } }) :=
  .of_wp fun prog w A R s hh => by
    obtain ⟨hp, g, d, tk, os⟩ := s
    obtain ⟨ht, go⟩ := hh
    have sub := sub_enumerate
    have size : (hp.push { cls := .type "tuple_iterator", data := .fields #[.ref t, .int 0 0] }).objs.size = hp.objs.size + 1 := Heap.size_push ..
    rw [← size] at go
    have begin_ : ∀ {A' : Around} {E : Value → Shared → Prop} {Q : Value → Shared → Prop}, Q (.ref hp.objs.size) ⟨hp.push { cls := .type "tuple_iterator", data := .fields #[.ref t, .int 0 0] }, g, d, tk, os⟩ →
        wpAny (model prog w) A' (pyIter (.ref t)) Q E ⟨hp, g, d, tk, os⟩ := fun q => (begins_tuple t items).iter prog w _ _ ⟨hp, g, d, tk, os⟩ _ ht q
    wp_walk using begin_
    refine wpAny_stack_any fun st => wpAny_pure ?_
    split
    · rename_i c _ _ _ _ _
      cases (c == Value.type "enumerate")
      all_goals
        wp_walk using begin_
        exact ⟨_, rfl, go⟩
    · wp_walk using begin_
      exact ⟨_, rfl, go⟩
section
variable {prog : Program} {w : World} {A : Around} {E : Value → Shared → Prop} {s : Shared}
theorem enum_tup {t : Addr} {items : Array Value} {Q : Value → Shared → Prop} (ht : s.heap.IsTuple t items)
    (k : ∀ h', IsEnum h' (s.heap.objs.size + 1) s.heap.objs.size 0 .none → h'.IsTupleIter s.heap.objs.size t 0 → (∀ b o, s.heap.get? b = some o → h'.get? b = some o) → Q (.ref (s.heap.objs.size + 1)) { s with heap := h' }) :
    wpAny (model prog w) A (call (.type "enumerate") [.ref t]) Q E s := by
  refine callType_new F.called_enumerate (by decide) (F.typeCall_enumerate_1 _) (F.newCall_enumerate_1 _) (fun obj => F.args_object_init_2 obj _) F.entry_enumerate_new (enum_tup_new t items) ⟨ht, ?_⟩
  let itO : Obj := { cls := .type "tuple_iterator", data := .fields #[.ref t, .int 0 0] }
  let enO : Obj := { cls := .type "enumerate", data := .fields #[.none, .bool false, .ref s.heap.objs.size, rawInt 0, .none, .none] }
  have size : (s.heap.push itO).objs.size = s.heap.objs.size + 1 := Heap.size_push ..
  have en : ((s.heap.push itO).push enO).get? (s.heap.objs.size + 1) = some enO := by
    have z := Heap.get?_push_size (s.heap.push itO) (o := enO) rfl
    rwa [size] at z
  have old : ∀ b o, s.heap.get? b = some o → ((s.heap.push itO).push enO).get? b = some o := fun b o e => Heap.get?_push_of_some _ (Heap.get?_push_of_some _ e)
  exact ⟨⟨_, en, rfl⟩, k _ en ⟨itO, Heap.get?_push_of_some _ (Heap.get?_push_size _ rfl), rfl, rfl⟩ old⟩
end
theorem draws_end {prog : Program} {w : World} {A : Around} (hh : A.handled = none) (it t : Addr) (items : Array Value) (i : Nat) (hx : items[i]? = none) :
    Draws prog w A it [it, t] i (fun _ _ => True) (fun j h => j = i ∧ h.IsTupleIter it t i ∧ h.IsTuple t items) where
  live := fun _ _ st => let ⟨o, ho, _⟩ := st.2.1; ⟨o, ho⟩
  frame := fun _ _ _ st hk => ⟨st.1, st.2.1.at fun o e => hk it (List.mem_cons_self ..) o e, st.2.2.at fun o e => hk t (List.mem_cons_of_mem _ (List.mem_singleton.mpr rfl)) o e⟩
  item := fun j s Q E hj st _ => absurd st.1 (Nat.ne_of_lt hj)
  done := fun s Q E st hE => wpAny_nextOf_tuple_end hh st.2.1 st.2.2 hx hE
/-- the tuple at a, each item in a new pair with its place -/
def Itu (K : PySem.W.Frag) (a : Addr) : It :=
  ⟨fun i H => ∃ (xs : List V) (x : V), SqT K H a xs ∧ xs[i]? = some x, fun i H v H' => ∃ T x, v = .ref T ∧ H T = none ∧ H' = upd H T (.tup [.int (i : Nat), x]) ∧ ∀ xs, SqT K H a xs → xs[i]? = some x, fun i H => ∃ xs : List V, SqT K H a xs ∧ xs.length ≤ i⟩
theorem turn_enumT {P : Program} {w : World} {K : PySem.W.Frag} {elts : List Expr} {kk : Nat} {tpos : Pos} (a e it : Addr) :
    Turn P w K (.Tuple elts kk tpos) (Itu K a) [e, it] e (fun i h => (∃ old, IsEnum h e it ((i : Nat) : Int) old) ∧ h.IsTupleIter it a i ∧ e ≠ it) where
  mem := List.mem_cons_self ..
  obj := fun i h st b hb => by
    obtain ⟨⟨old, he⟩, ⟨o, ho, hc, hd⟩, _⟩ := st
    rcases List.mem_cons.mp hb with rfl | hb
    · exact ⟨_, he, fun v q => nomatch q⟩
    · obtain rfl := List.mem_singleton.mp hb
      exact ⟨o, ho, fun v q => by rw [hd] at q; cases q⟩
  keep := fun i h h' st k => let ⟨⟨old, he⟩, hi, hne⟩ := st; ⟨⟨old, k e (List.mem_cons_self ..) _ he⟩, hi.at fun o q => k it (List.mem_cons_of_mem _ (List.mem_singleton.mpr rfl)) o q, hne⟩
  item := by
    intro X hP hw hK hc i pins s σ H E I free st hg
    subst hP hw hK
    obtain ⟨⟨old, he⟩, hit, hne⟩ := st
    obtain ⟨xs, x, hq, hx⟩ := hg
    obtain ⟨its, rv, tup, hz⟩ := I.tuple hq
    obtain ⟨u, hu, ru⟩ := rv.get hx
    have len := rv.length
    have il : i < its.length := by
      obtain ⟨l, _⟩ := List.getElem?_eq_some_iff.mp hu
      exact l
    have off : a ≠ it := by
      rintro rfl
      obtain ⟨o1, e1, c1, n1, d1⟩ := tup
      obtain ⟨o2, e2, c2, d2⟩ := hit
      rw [e1] at e2
      cases e2
      rw [d1] at d2
      cases d2
    refine wpAny_pyNext_enum_itemD (n := its.toArray.size) (Draws.tuple (show X.A.in1.handled = none from I.ok.hd hc) it a off its.toArray) he (And.intro hit tup) (by simpa using il) hne (fun z => ?_) fun y h1 tk hy out st1 new size old1 => ?_
    · rcases List.mem_cons.mp z with z | z
      · exact hne z
      · obtain rfl := List.mem_singleton.mp z
        obtain ⟨o1, e1, c1, n1, d1⟩ := tup
        rw [he] at e1
        cases e1
        cases d1
    have ey : y = u := by
      have z : its.toArray[i]? = some u := by simpa using hu
      exact Option.some.inj (hy.symm.trans z)
    subst ey
    refine ⟨_, rfl, wpAny_letOwnedTupleGo_enum (s := { s with heap := h1, toks := tk + 1 }) out fun h2 he2 sb => ?_⟩
    have lt : e < s.heap.objs.size := Heap.lt_size he
    have T2 : h2.get? s.heap.objs.size = some { cls := .type "tuple", data := .seq #[.int i tk, y] } := (sb.2 _ (Nat.ne_of_gt lt)).trans new
    have ob : ObjOk X.prog X.w (upd H s.heap.objs.size (.tup [.int (i : Nat), x])) h2 s.heap.objs.size (.tup [.int (i : Nat), x]) :=
      ⟨by show 2 ≤ sizeLine; decide, [.int i tk, y], .cons ⟨_, rfl⟩ (.cons ru .nil), _, T2, rfl, _, rfl⟩
    have J : Inv X pins σ (upd H s.heap.objs.size (.tup [.int (i : Nat), x])) { s with heap := h2, toks := tk + 1 } :=
      I.turnedNew (ch := [e, it]) (fun b o hb q => (sb.2 b fun z => hb (by simp [z])).trans (old1 b o (fun z => hb (by simp [z])) (fun z => hb (by simp [z])) q)) free (Nat.le_refl _) ob
    refine ⟨.ref s.heap.objs.size, _, J, rfl, ⟨_, x, rfl, I.hok.fresh (Nat.le_refl _), rfl, fun ys hy => by rw [I.tuple_inj hy hq]; exact hx⟩, ⟨⟨y, ?_⟩, st1.1.at fun o q => (sb.2 it (Ne.symm hne)).trans q, hne⟩, fun b hb => ?_⟩
    · rw [show ((i + 1 : Nat) : Int) = (i : Int) + 1 by omega]
      exact he2
    · have z : b < s.heap.objs.size := by
        rcases List.mem_cons.mp hb with rfl | hb
        · exact lt
        · obtain rfl := List.mem_singleton.mp hb
          obtain ⟨_, q, _⟩ := hit
          exact Heap.lt_size q
      rw [upd_ne (Nat.ne_of_lt z)]
      exact (free b hb).1
  done := by
    intro X hP hw hK hc i pins s σ H E I free st hg
    subst hP hw hK
    obtain ⟨⟨old, he⟩, hit, hne⟩ := st
    obtain ⟨xs, hq, hx⟩ := hg
    obtain ⟨its, rv, tup, hz⟩ := I.tuple hq
    obtain ⟨f0, f1, f2, f3, f4, f5⟩ := free it (List.mem_cons_of_mem _ (List.mem_singleton.mpr rfl))
    have len := rv.length
    have none_ : its.toArray[i]? = none := by simp; omega
    exact wpAny_pyNext_enum_endD (draws_end (show X.A.in1.handled = none from I.ok.hd hc) it a its.toArray i none_) he ⟨rfl, hit, tup⟩ fun h' eb => ⟨rfl, I.turned (t' := s.toks) (fun b o hb q => eb b o hb q) f0 f1 f3 f4 f5⟩
  self := fun A i s Q E st h => let ⟨⟨_, he⟩, _⟩ := st; wpAny_pyIter_enum he h
def iEnumT (K : PySem.W.Frag) (ta : TA) : TI := fun σ H R => ta σ H fun vs H1 => ∃ a xs, vs = [.ref a] ∧ SqT K H1 a xs ∧ R (Itu K a) H1
theorem pi_enumT {X : Cx} {e : Expr} {ta : TA} {p pos tpos : Pos} {elts : List Expr} {kk : Nat} (hg : Gl X "enumerate") (hm : X.mg "enumerate" = none) (ha : PA X [e] ta) (hs : starEach [e] X.env = [(false, eval e X.env)] := by rfl) :
    PI X (.Tuple elts kk tpos) (.Call (.Name "enumerate" p) [e] [] pos) (iEnumT X.K ta) := by
  constructor
  intro pins s σ H R I h
  refine Call_ (ld_blt I hg hm boot_enumerate (PyProof.Rows.callWith_type1 (thn (ha.run pos pins s σ H _ I h) ?_) hs rfl))
  rintro us s1 ⟨_, H1, J, rv, a, xs, rfl, hq, go⟩
  cases rv with
  | cons r more =>
    cases more
    cases r
    obtain ⟨its, rv2, tup, hz⟩ := J.tuple hq
    refine enum_tup tup fun h' he hit old => wpAny_pyIter_enum he ?_
    refine ⟨s1.heap.objs.size + 1, [s1.heap.objs.size + 1, s1.heap.objs.size], _, _, H1, rfl, J.kept (t' := s1.toks) old, turn_enumT a (s1.heap.objs.size + 1) s1.heap.objs.size, ⟨⟨.none, he⟩, hit, Nat.succ_ne_self _⟩, fun b hb => ?_, go⟩
    have le : s1.heap.objs.size ≤ b := by
      rcases List.mem_cons.mp hb with rfl | hb
      · exact Nat.le_succ _
      · exact Nat.le_of_eq (List.mem_singleton.mp hb).symm
    exact J.fpOk le (J.hok.fresh le)
theorem walk_enumT {K : PySem.W.Frag} {a : Addr} {xs : List V} : Walk (Itu K a) xs.length (fun H => SqT K H a xs) (YPair (fun i => some (.int (i : Nat))) (fun i => xs[i]?)) :=
  ⟨fun i _ hi q => ⟨xs, xs[i], q, List.getElem?_eq_getElem hi⟩, fun _ q => ⟨xs, q, Nat.le_refl _⟩, fun i _ _ _ _ q y => let ⟨T, x, h1, h2, h3, h4⟩ := y; ⟨T, .int (i : Nat), x, h1, h2, h3, rfl, h4 xs q⟩⟩
end V2

set_option maxHeartbeats 4000000
/-! V2: data asked for its kind; data as the library's; in, == over data -/
namespace V2
open PySem PySem.Spec PyProof.Rows L2 V1
def tyName : PyData → String
  | .none => "NoneType"
  | .bool _ => "bool"
  | .int _ => "int"
  | .str _ => "str"
  | .list _ => "list"
  | .tuple _ => "tuple"
  | .dict _ => "dict"
theorem dq_ty {K : PySem.W.Frag} {H : Hp} {v : V} {d : PyData} (h : Dq H v d) : TyX K H v (.type (tyName d)) := by
  cases h with
  | non => exact .base .non
  | bl b => exact .base (.bl b)
  | int i => exact .base (.int i)
  | str x => exact .base (.str x)
  | lst e _ _ => exact .base (.lst e)
  | tup e _ => exact .base (.tup e)
  | dct e _ => exact .base (.dK e)
def isInt : PyData → Bool
  | .int _ => true
  | _ => false
def isBool : PyData → Bool
  | .bool _ => true
  | _ => false
def isStr : PyData → Bool
  | .str _ => true
  | _ => false
def isTup : PyData → Bool
  | .tuple _ => true
  | _ => false
def isLst : PyData → Bool
  | .list _ => true
  | _ => false
theorem kit_int (d : PyData) : kitB (tyName d) "int" = some (isInt d || isBool d) := by cases d <;> kernel_rfl
theorem kit_bool (d : PyData) : kitB (tyName d) "bool" = some (isBool d) := by cases d <;> kernel_rfl
theorem kit_str (d : PyData) : kitB (tyName d) "str" = some (isStr d) := by cases d <;> kernel_rfl
theorem kit_tup (d : PyData) : kitB (tyName d) "tuple" = some (isTup d) := by cases d <;> kernel_rfl
theorem kit_lst (d : PyData) : kitB (tyName d) "list" = some (isLst d) := by cases d <;> kernel_rfl
section
variable {K : PySem.W.Frag} {σ : L2.St} {H : Hp} {Q : VK} {te : TE} {v : V} {d : PyData} {n : String} {b : Bool}
theorem isi_go (hb : kitB (tyName d) n = some b) (ht : ∀ Q : VK, Q v H → te σ H Q) (hd : Dq H v d) (q : Q (.bl b) H) : tCB (rIsi K) (tCons te (tCons (tC (.ty n)) tNil)) σ H Q :=
  ht _ ⟨v, .ty n, _, _, b, rfl, .ty n, dq_ty hd, kit_ty hb, q⟩
/-- isinstance(x, (tuple, list)) -/
theorem isiT_go {n1 n2 : String} (hb : PySem.W.kitAny K (.type (tyName d)) [.type n1, .type n2] = some b) (ht : ∀ Q : VK, Q v H → te σ H Q) (hd : Dq H v d) (q : ∀ p, H p = none → Q (.bl b) (upd H p (.tup [.ty n1, .ty n2]))) :
    tCB (rIsiT K) (tCons te (tCons (tTup (tCons (tC (.ty n1)) (tCons (tC (.ty n2)) tNil))) tNil)) σ H Q :=
  ht _ ⟨(by show 2 ≤ sizeLine; decide), fun p np => ⟨v, p, _, _, _, b, rfl, upd_same, .cons (.ty n1) (.cons (.ty n2) .nil), dq_ty (Dq.same (same_new np) d v hd), hb, q p np⟩⟩
theorem kit_tl (d : PyData) : PySem.W.kitAny K (.type (tyName d)) [.type "tuple", .type "list"] = some (isTup d || isLst d) := by
  have h1 := kit_ty (K := K) (kit_tup d)
  have h2 := kit_ty (K := K) (kit_lst d)
  show (match PySem.W.kitOne K (.type (tyName d)) (.type "tuple") with
    | some true => some true
    | some false => (match PySem.W.kitOne K (.type (tyName d)) (.type "list") with
      | some true => some true
      | some false => some false
      | none => none)
    | none => none) = _
  rw [h1, h2]
  cases isTup d <;> cases isLst d <;> rfl
end
/-! data without dicts, as the library's == and in read it -/
mutual
def plain : PyData → Bool
  | .none | .bool _ | .int _ | .str _ => true
  | .list xs | .tuple xs => plainAll xs
  | .dict _ => false
def plainAll : List PyData → Bool
  | [] => true
  | x :: xs => plain x && plainAll xs
end
section
variable {K : PySem.W.Frag} {H : Hp}
mutual
theorem dq_dp : ∀ (d : PyData) (v : V), plain d = true → Dq H v d → Dp K H v d
  | .none, _, _, h => by cases h; exact .non
  | .bool b, _, _, h => by cases h; exact .bl b
  | .int i, _, _, h => by cases h; exact .int i
  | .str x, _, _, h => by cases h; exact .str x
  | .list ds, _, p, h => by
    cases h with
    | lst e _ r => exact .lst (.inl (.inl e)) (dqAll_dp ds _ (by simpa [plain] using p) r)
  | .tuple ds, _, p, h => by
    cases h with
    | tup e r => exact .tup (.inl (.inl e)) (dqAll_dp ds _ (by simpa [plain] using p) r)
  | .dict _, _, p, _ => by simp [plain] at p
theorem dqAll_dp : ∀ (ds : List PyData) (vs : List V), plainAll ds = true → DqAll H vs ds → DpAll K H vs ds
  | [], _, _, h => by cases h; exact .nil
  | d :: ds, _, p, h => by
    cases h with
    | cons one more =>
      have p' : plain d = true ∧ plainAll ds = true := by simpa [plainAll] using p
      exact .cons (dq_dp d _ p'.1 one) (dqAll_dp ds _ p'.2 more)
end
end
/-- x in t, t a tuple of data -/
def rInT (K : PySem.W.Frag) (neg : Bool) : R2 := fun x y H Q => ∃ d ds, Dp K H x d ∧ Dp K H y (.tuple ds) ∧ SeqAt.shaped d = true ∧ SeqAt.shaped (.tuple ds) = true ∧ Q (.bl (neg.xor (ds.any fun z => PyData.eqv z d))) H
section
variable {X : Cx}
theorem op_inT (hu : X.A.units + 70 < cLine) : OpR X (compareOp .In) (rInT X.K false) := by
  rintro pins s σ H x y v u Q I rx ry ⟨d, ds, hd, he, sd, se, q⟩
  obtain ⟨as, r1⟩ := Dp.reads I d x v hd rx
  obtain ⟨bs, r2⟩ := Dp.reads I (.tuple ds) y u he ry
  have dep : d.depth ≤ 64 := by
    have z : (d.canLay0 && decide (d.depth ≤ 64)) = true := sd
    simp only [Bool.and_eq_true, decide_eq_true_eq] at z
    exact z.2
  exact SeqAt.in_tuple_reads r2 r1 (by simpa [PyData.canLay0] using SeqAt.canLay_of_shaped se) (SeqAt.canLay_of_shaped sd) (by omega) ⟨.bl _, H, I, rfl, by simpa using q⟩
theorem op_notInT (hu : X.A.units + 70 < cLine) : OpR X (compareOp .NotIn) (rInT X.K true) := by
  rintro pins s σ H x y v u Q I rx ry ⟨d, ds, hd, he, sd, se, q⟩
  obtain ⟨as, r1⟩ := Dp.reads I d x v hd rx
  obtain ⟨bs, r2⟩ := Dp.reads I (.tuple ds) y u he ry
  have dep : d.depth ≤ 64 := by
    have z : (d.canLay0 && decide (d.depth ≤ 64)) = true := sd
    simp only [Bool.and_eq_true, decide_eq_true_eq] at z
    exact z.2
  exact SeqAt.notIn_tuple_reads r2 r1 (by simpa [PyData.canLay0] using SeqAt.canLay_of_shaped se) (SeqAt.canLay_of_shaped sd) (by omega) ⟨.bl _, H, I, rfl, by simpa using q⟩
end
end V2

set_option maxHeartbeats 4000000
/-! V2c: exceptions of one field; the own == -/
namespace V2
open PySem PySem.Spec PyProof.Rows L2 V1
open Evl (pss_cut tCut sq_of st_of)
section
variable {P : Program} {w : World} {K : PySem.W.Frag} {mg : Str → Option Value} {base : Heap}
theorem ok_init {name qual : Str} {params : Arguments} {body : List Stmt} {scope : Scope} {C fI : Addr} {fd : FuncData} {f : Str} {p1 p2 p3 p4 : Pos} (F : FunD K name qual params body scope [] [] fI fd) (S : FnScope ["self", f] ["self", f] scope)
    (hb : body = [.Assign [.Attribute (.Name "self" p1) f p2] (.Name f p3) p4]) (hC : OexC K C) (no : PySem.W.findIn K (.ref C) f = some none) (hf : (f == ("__debug__" : Str)) = false) (hf2 : (f == ("__classdict__" : Str)) = false)
    (v0 : Vis scope "self") (v1 : Vis scope f) (sw : ∀ env : Env, swapsWith (.Name f p3) (some (.Attribute (.Name "self" p1) f p2)) p4.line env = pure false) : FnOk P w K mg base CX0 1 fI fd ["self", f] (spIni K C f) := by
  subst hb
  refine F.ok S (fun vs H Q E h => ?_) (fun cdv A outer s H vs Q E hr h => ?_)
  · obtain ⟨a, v, rfl, _⟩ := h
    rfl
  · refine ⟨_, PSs.nox (pss_one (ps_ost (pe_var (i := 0) rfl v0) (pe_var (i := 1) rfl v1 hf hf2) (sw _))), ?_⟩
    obtain ⟨a, v, rfl, e, hQ⟩ := h
    exact ⟨v, rfl, _, rfl, a, C, rfl, hC, no, .inl ⟨e, fun dx n ne => hQ dx n ne⟩⟩
structure Fld (P : Program) (w : World) (K : PySem.W.Frag) (mg : Str → Option Value) (base : Heap) (x f : Str) : Prop where
  gC : mg x = some (.ref (He.ga K x))
  oex : OexC K (He.ga K x)
  no : PySem.W.findIn K (.ref (He.ga K x)) f = some none
  init : ∃ fI fd, PySem.W.findIn K (.ref (He.ga K x)) "__init__" = some (some (.ref fI)) ∧ PySem.W.typeIn K (.ref fI) = some (.type "function") ∧ FnOk P w K mg base CX0 1 fI fd ["self", f] (spIni K (He.ga K x) f) ∧ Binds K fd ["self", f] []
theorem pe_fld {X : Cx} {x f : Str} {e : Expr} {es : List Expr} {ta : TA} {p pos : Pos} (h : Fld X.prog X.w X.K X.mg X.base x f) (hr : Room 2 X.A) (ha : PA X (e :: es) ta) (hg : Gl X x := by rfl) (hdb : (x == ("__debug__" : Str)) = false := by decide)
    (he : starEach (e :: es) X.env = (false, eval e X.env) :: starEach es X.env := by rfl) (hpl : (backTo pos (starEach es X.env)).any (·.1) = false := by rfl) :
    PE X (.Call (.Name x p) (e :: es) [] pos) (tMkV (He.ga X.K x) (spIni X.K (He.ga X.K x) f) [] ta) := by
  obtain ⟨fI, fd, h1, h2, h3, h4⟩ := h.init
  exact pe_mkV h.oex h1 h2 h3 hr h4 .nil pass0 hg h.gC ha hdb he hpl
theorem pmk_fld {X : Cx} {x f : Str} {e : Expr} {es : List Expr} {ta : TA} {p pos : Pos} (h : Fld X.prog X.w X.K X.mg X.base x f) (hr : Room 2 X.A) (ha : PA X (e :: es) ta) (hg : Gl X x := by rfl) (hdb : (x == ("__debug__" : Str)) = false := by decide)
    (he : starEach (e :: es) X.env = (false, eval e X.env) :: starEach es X.env := by rfl) (hpl : (backTo pos (starEach es X.env)).any (·.1) = false := by rfl) :
    PMk X (.Call (.Name x p) (e :: es) [] pos) (tMkO (He.ga X.K x) (spIni X.K (He.ga X.K x) f) [] ta) := by
  obtain ⟨fI, fd, h1, h2, h3, h4⟩ := h.init
  exact pmk_oex h.oex h1 h2 h3 hr h4 .nil pass0 hg h.gC ha hdb he hpl
theorem meth_ty {K : PySem.W.Frag} {C f : Addr} {m : Str} (h : Meth K C m f) : PySem.W.typeIn K (.ref f) = some (.type "function") := eq_of_beq h.fn
theorem fld_of {x f : Str} {name qual : Str} {params : Arguments} {body : List Stmt} {scope : Scope} {fI : Addr} {fd : FuncData} {bm : List Value} {p1 p2 p3 p4 : Pos}
    (F : FunD K name qual params body scope [] [] fI fd) (S : FnScope ["self", f] ["self", f] scope) (hb : body = [.Assign [.Attribute (.Name "self" p1) f p2] (.Name f p3) p4])
    (gC : mg x = some (.ref (He.ga K x))) (E : ExK K (He.ga K x) bm) (hr : PySem.HandSPX.refsVE bm = true) (hbe : (Value.ref (He.ga K x) :: bm).contains (.type "BaseException") = true)
    (no : PySem.W.findIn K (.ref (He.ga K x)) f = some none) (m : Meth K (He.ga K x) "__init__" fI) (hf : (f == ("__debug__" : Str)) = false) (hf2 : (f == ("__classdict__" : Str)) = false)
    (v0 : Vis scope "self") (v1 : Vis scope f) (sw : ∀ env : Env, swapsWith (.Name f p3) (some (.Attribute (.Name "self" p1) f p2)) p4.line env = pure false) (b : Binds K fd ["self", f] []) : Fld P w K mg base x f :=
  ⟨gC, E.oex hr hbe, no, fI, fd, m.at_, meth_ty m, ok_init F S hb (E.oex hr hbe) no hf hf2 v0 v1 sw, b⟩
end
def tyNames : List String := ["NoneType", "bool", "int", "str", "list", "tuple", "dict"]
/-- what isinstance and == ask of a plain class -/
def insB (K : PySem.W.Frag) (C : Addr) : Bool :=
  decide (PySem.W.findIn K (.ref C) "__class__" = some (some (.builtin "object.__class__"))) && (decide (PySem.W.mroIn K C (.type "object") = some true) && (decide (PySem.W.kitOne K (.ref C) (.ref C) = some true) &&
    tyNames.all fun n => decide (PySem.W.kitOne K (.type n) (.ref C) = some false) && PySem.W.notFirst K C (.type n)))
structure InsK (K : PySem.W.Frag) (C : Addr) : Prop where
  ha : PySem.W.findIn K (.ref C) "__class__" = some (some (.builtin "object.__class__"))
  hm : PySem.W.mroIn K C (.type "object") = some true
  me : PySem.W.kitOne K (.ref C) (.ref C) = some true
  no : ∀ n ∈ tyNames, PySem.W.kitOne K (.type n) (.ref C) = some false
  nf : ∀ n ∈ tyNames, PySem.W.notFirst K C (.type n) = true
theorem insK_of {K : PySem.W.Frag} {C : Addr} (h : insB K C = true) : InsK K C := by
  unfold insB at h
  simp only [Bool.and_eq_true, List.all_eq_true, decide_eq_true_eq] at h
  exact ⟨h.1, h.2.1, h.2.2.1, fun n hn => (h.2.2.2 n hn).1, fun n hn => (h.2.2.2 n hn).2⟩
theorem tyName_mem (d : PyData) : tyName d ∈ tyNames := by cases d <;> simp [tyName, tyNames]
theorem InsK.ins {K : PySem.W.Frag} {C : Addr} (h : InsK K C) (c : Cls K C) (a : ClsAttr K) : C8.InsC K C := ⟨c, h.ha, a.1, a.2, h.hm, h.me⟩
section
variable {K : PySem.W.Frag} {σ : L2.St} {H : Hp} {Q : VK} {te : TE} {v : V} {d : PyData} {C : Addr}
theorem TyX_ins {a dx : Addr} {fs : List (Str × V)} (e : H a = some (.ins C dx fs)) (c : C8.InsC K C) : TyX K H (.ref a) (.ref C) := .base (.ins e c.cl c.ha c.hn c.htk c.hm)
/-- isinstance(x, C), C a plain class: data -/
theorem isiC_no (i : InsK K C) (ht : ∀ Q : VK, Q v H → te σ H Q) (hd : Dq H v d) (q : Q (.bl false) H) : tCB (rIsi K) (tCons te (tCons (tC (.ref C)) tNil)) σ H Q :=
  ht _ ⟨v, .ref C, _, _, false, rfl, .own C, dq_ty hd, i.no _ (tyName_mem d), q⟩
theorem isiC_yes {a dx : Addr} {fs : List (Str × V)} (i : C8.InsC K C) (ht : ∀ Q : VK, Q (.ref a) H → te σ H Q) (e : H a = some (.ins C dx fs)) (q : Q (.bl true) H) : tCB (rIsi K) (tCons te (tCons (tC (.ref C)) tNil)) σ H Q :=
  ht _ ⟨.ref a, .ref C, _, _, true, rfl, .own C, TyX_ins e i, i.me, q⟩
end
/-- x == y by x's own == -/
def rOwnE (K : PySem.W.Frag) (C : Addr) (sp : Sp) (E : XK) : R2 := fun x y H Q => ∃ a dx fs t, x = .ref a ∧ H a = some (.ins C dx fs) ∧ TyX K H y t ∧ PySem.W.notFirst K C t = true ∧ sp [.ref a, y] H (fun v H' => ∃ b, v = .bl b ∧ Q (.bl b) H') E
section
variable {X : Cx} {pins : List (Addr × Obj)} {σ : L2.St} {H : Hp} {s : Shared}
theorem op_ownE {CX : CXT} {C f : Addr} {fd : FuncData} {ps : List Str} {sp : Sp} {E : XK} {n : Nat} (F : FnOk X.prog X.w X.K X.mg X.base CX n f fd ps sp)
    (hs : PySem.W.findIn X.K (.ref C) "__eq__" = some (some (.ref f))) (hf : PySem.W.isFn X.K (.ref f) = true) (hb : Binds X.K fd ps []) (hx : Passes CX X E) (hr : Room n X.A) : OpR X (compareOp .Eq) (rOwnE X.K C sp E) := by
  intro pins s σ H x y v u Q I rx ry hq
  obtain ⟨a, dx, fs, t, rfl, ha, ty, nf, h⟩ := hq
  cases rx
  show wpAny (model X.prog X.w) X.A (richCompare .Eq (.ref a) u) (EP X pins σ Q) X.xe s
  obtain ⟨P, Z, p, _⟩ := kit_of I ry ty
  obtain ⟨mA, J, _⟩ := ins_get I.hok ha
  obtain ⟨od, J, _⟩ := J.look
  obtain ⟨m, hF⟩ := I.fr
  refine PySem.W.cmp_K (op := .Eq) (tb := t) hr.units0 hF I.ok.mod.kin J (Z.ty (model X.prog X.w) s.heap I.kIn p) nf hs hf ?_
  have hl := F.len _ _ _ _ h
  have r2 : Vals [V.ref a, y] [Value.ref a, u] := .cons rfl (.cons ry .nil)
  refine wpAny_call (codeAny_mono (F.run X.A X.stack s H ⟨[.ref a, u], []⟩ [.ref a, u] [.ref a, y] _ E hr I.env0 (by
    have := hb s [.ref a, u] I.kIn (by simpa using hl)
    simpa using this) r2 h) fun r s' hq => ?_)
  cases r with
  | error e => exact hx pins σ H s e s' I hq
  | ok fl =>
    cases fl with
    | ret w =>
      obtain ⟨z, H', I', rz, b, ez, q⟩ := I.after hq
      subst ez
      cases rz
      exact ⟨.bl b, H', I', rfl, q⟩
    | next => exact False.elim hq
    | brk => exact False.elim hq
    | cont => exact False.elim hq
end
end V2

set_option maxHeartbeats 4000000
/-! V2d: raise X() of a bare own class; comprehensions that make lists of data -/
namespace V2
open PySem PySem.Spec PyProof.Rows L2 V1
theorem pmk_mk0 {X : Cx} {C : Addr} {bmB : List Value} {B newId initId : String} {x : Str} {p pos : Pos} (F : ExcBaseFacts B newId initId bmB) (q : PySem.W.excIn X.K C bmB newId = true) (gC : X.mg x = some (.ref C)) (kC : PySem.W.keepIn X.K (.ref C) = true)
    (r : Raises X (.ref C)) (hg : Gl X x) (hdb : (x == ("__debug__" : Str)) = false := by decide) : PMk X (.Call (.Name x p) [] [] pos) (fun _ H Q => Q (.ref C) none H) := by
  intro pins s σ H Q I h
  refine wpAny_Call_Name_kw (ld_glob I hg gC ?_ hdb)
  refine PySem.W.callWith_K0 I.kIn kC ?_
  obtain ⟨bm, N, nm, qn, bs, hdct, sn, sub, ab, col, dd, k0, k1, k2, k3, k5, mN, hC, hN, hni, T⟩ := exc_obj I.kIn q
  refine wpAny_call_exc_subT F T hC hN hni (fun h' a hm => ?_) (Nat.zero_le _)
  exact mk_of I hm r h (I.hok.gone hm.new)
theorem DqAll.app {H : Hp} : ∀ {vs us : List V} {ds es : List PyData}, DqAll H vs ds → DqAll H us es → DqAll H (vs ++ us) (ds ++ es)
  | _, _, _, _, .nil, h => h
  | _, _, _, _, .cons one more, h => .cons one (DqAll.app more h)
theorem same_delD {H H' : Hp} {D : Addr} (h : Same H H') (n : H D = none) : Same H (delH H' D) := fun b o e => by
  rw [delH_ne (ne_of_none e n)]
  exact h b o e
/-- the list at D has come to acc, behind i turns; Pv tells of the heap without it -/
def Lc (D : Addr) (Pv : Nat → List V → Hp → Prop) (i : Nat) (H : Hp) : Prop := ∃ acc, acc.length ≤ i ∧ H D = some (.lst acc) ∧ Pv i acc (delH H D)
theorem lc_put {D : Addr} {Pv : Nat → List V → Hp → Prop} {i : Nat} {H : Hp} {acc : List V} {y : V} (l : acc.length ≤ i) (z : i < 1000) (e : H D = some (.lst acc)) (p : Pv (i + 1) (acc ++ [y]) (delH H D)) :
    ∃ acc, H D = some (.lst acc) ∧ acc.length < sizeLine ∧ Lc D Pv (i + 1) (upd H D (.lst (acc ++ [y]))) :=
  ⟨acc, e, Nat.lt_of_le_of_lt l (small1000 (by omega)), acc ++ [y], by rw [List.length_append]; simp; omega, upd_same, by rw [delH_upd]; exact p⟩
theorem lc_skip {D : Addr} {Pv : Nat → List V → Hp → Prop} {i : Nat} {H : Hp} {acc : List V} (l : acc.length ≤ i) (e : H D = some (.lst acc)) (p : Pv (i + 1) acc (delH H D)) : Lc D Pv (i + 1) H := ⟨acc, by omega, e, p⟩
theorem lc_gen {J : It} {n : Nat} {G : Hp → Prop} {Y : Nat → Hp → V → Hp → Prop} (w : Walk J n G Y) {g : TG} {tt : TT} {te : TE} {vs : List Nat} {σ : L2.St} {H1 : Hp} {D : Addr} {Qd : Hp → Prop} (nD : H1 D = none) (Pv : Nat → List V → Hp → Prop) (h0 : Pv 0 [] H1)
    (hG : ∀ i acc H, i ≤ n → Pv i acc (delH H D) → G H)
    (hs : ∀ i acc x H H', i < n → acc.length ≤ i → H D = some (.lst acc) → Pv i acc (delH H D) → Y i H x H' → g x (wipe σ vs) H' fun σ2 H2 => wipe σ2 vs = wipe σ vs ∧ tt σ2 H2 fun b H3 =>
      if b = true then te σ2 H3 fun y H4 => ∃ acc, H4 D = some (.lst acc) ∧ acc.length < sizeLine ∧ Lc D Pv (i + 1) (upd H4 D (.lst (acc ++ [y]))) else Lc D Pv (i + 1) H3)
    (hd : ∀ acc H, acc.length ≤ n → H D = some (.lst acc) → Pv n acc (delH H D) → Qd H) :
    ∃ W : Nat → Nat → Hp → Prop, (∃ m, W 0 m (upd H1 D (.lst []))) ∧ ∀ i m H, W i m H →
      (J.stop i H ∧ Qd H) ∨ (J.go i H ∧ ∃ Nx : Hp → Prop, (∀ H', Nx H' → ∃ m', m' < m ∧ W (i + 1) m' H') ∧ ∀ x H', J.yld i H x H' → g x (wipe σ vs) H' fun σ2 H2 => wipe σ2 vs = wipe σ vs ∧ tt σ2 H2 fun b H3 =>
        if b = true then te σ2 H3 fun y H4 => ∃ acc, H4 D = some (.lst acc) ∧ acc.length < sizeLine ∧ Nx (upd H4 D (.lst (acc ++ [y]))) else Nx H3) :=
  lc_it (σ := σ) w (Lc D Pv) ⟨[], Nat.le_refl _, upd_same, by rw [delH_new nD]; exact h0⟩ (fun i H hi ⟨acc, _, _, p⟩ => hG i acc H hi p) (fun i x H H' hi ⟨acc, l, e, p⟩ y => hs i acc x H H' hi l e p y) (fun H ⟨acc, l, e, p⟩ => hd acc H l e p)
/-- [.. for i in range(n)], no test, each item data made anew -/
theorem lc_rows {K : PySem.W.Frag} {n : Nat} (hz : n ≤ 1000) {te : TE} {i0 : Nat} {vs : List Nat} {σ : L2.St} {H1 : Hp} {D : Addr} {Qd : Hp → Prop} {lo : Int} (f : Nat → PyData) (nD : H1 D = none)
    (hw : ∀ x : V, wipe ((wipe σ vs).set i0 (some x)) vs = wipe σ vs)
    (mk : ∀ i, i < n → ∀ H, Same H1 (delH H D) → (∃ o, H D = some o) → ∀ Q : VK, (∀ v H', Same H H' → Dq (delH H' D) v (f i) → Q v H') → te ((wipe σ vs).set i0 (some (.int (lo + (i : Nat))))) H Q)
    (hd : ∀ us H, H D = some (.lst us) → Same H1 H → DqAll H us ((List.range n).map f) → Qd H) :
    ∃ W : Nat → Nat → Hp → Prop, (∃ m, W 0 m (upd H1 D (.lst []))) ∧ ∀ i m H, W i m H →
      ((Itr lo n).stop i H ∧ Qd H) ∨ ((Itr lo n).go i H ∧ ∃ Nx : Hp → Prop, (∀ H', Nx H' → ∃ m', m' < m ∧ W (i + 1) m' H') ∧ ∀ x H', (Itr lo n).yld i H x H' → gName i0 x (wipe σ vs) H' fun σ2 H2 => wipe σ2 vs = wipe σ vs ∧ tYes σ2 H2 fun b H3 =>
        if b = true then te σ2 H3 fun y H4 => ∃ acc, H4 D = some (.lst acc) ∧ acc.length < sizeLine ∧ Nx (upd H4 D (.lst (acc ++ [y]))) else Nx H3) := by
  refine lc_gen (σ := σ) walk_range nD (fun i acc H => Same H1 H ∧ DqAll H acc ((List.range i).map f)) ⟨Same.refl _, .nil⟩ (fun _ _ _ _ _ => True.intro) ?_ (fun acc H _ e p => hd acc H e (fun b o q => same_delH _ _ (p.1 _ _ q)) (DqAll.same same_delH _ _ p.2))
  rintro i acc x H H' hi l e ⟨sm, p⟩ ⟨rfl, rfl⟩
  refine ⟨hw _, ?_⟩
  simp only [tYes, if_true]
  refine mk i hi H' sm ⟨_, e⟩ _ fun v H2 s2 q2 => ?_
  refine lc_put l (by omega) (s2 _ _ e) ⟨fun b o q => ?_, ?_⟩
  · exact same_del s2 _ _ (sm _ _ q)
  · rw [List.range_succ, List.map_append]
    exact DqAll.app (DqAll.same (same_del s2) _ _ p) (.cons q2 .nil)
end V2

set_option maxHeartbeats 4000000
/-! V2e: C(..) of a plain class within try; isinstance of the caught exception that has a field -/
namespace V2
open PySem PySem.Spec PyProof.Rows L2 V1
def HasC (P : Program) (w : World) (K : PySem.W.Frag) (mg : Str → Option Value) (base : Heap) (CX : CXT) (k : Nat) (x : Str) (ps : List Str) (sp : Sp) : Prop :=
  ∃ fI fd, Mk K (He.ga K x) fI ∧ FnOk P w K mg base CX k fI fd ps sp ∧ Binds K fd ps [] ∧ mg x = some (.ref (He.ga K x))
theorem pe_hasC {X : Cx} {CX : CXT} {k : Nat} {x : Str} {ps : List Str} {sp : Sp} {E : XK} {e : Expr} {es : List Expr} {t : TA} {p pos : Pos} (h : HasC X.prog X.w X.K X.mg X.base CX k x ps sp) (hr : Room (k + 1) X.A) (hx : Passes CX X E) (ha : PA X (e :: es) t) (hg : Gl X x := by rfl)
    (hdb : (x == ("__debug__" : Str)) = false := by decide) (he : starEach (e :: es) X.env = (false, eval e X.env) :: starEach es X.env := by rfl) (hpl : (backTo pos (starEach es X.env)).any (·.1) = false := by rfl) :
    PE X (.Call (.Name x p) (e :: es) [] pos) (tMake (He.ga X.K x) sp [] E t) := by
  obtain ⟨fI, fd, M, F, b, g⟩ := h
  exact pe_make M F hr hg g b .nil hx ha hdb he hpl
/-- C(..), what it lets out by the slots -/
def tMakeS (C : Addr) (sp : Sp) (E : L2.St → XK) (t : TA) : TE := fun σ H Q => tMake C sp [] (E σ) t σ H Q
theorem pe_hasCS {X : Cx} {CX : CXT} {k : Nat} {x : Str} {ps : List Str} {sp : Sp} {E : L2.St → XK} {e : Expr} {es : List Expr} {t : TA} {p pos : Pos} (h : HasC X.prog X.w X.K X.mg X.base CX k x ps sp) (hr : Room (k + 1) X.A) (hx : ∀ σ, PassesAt CX X σ (E σ)) (ha : PA X (e :: es) t) (hg : Gl X x := by rfl)
    (hdb : (x == ("__debug__" : Str)) = false := by decide) (he : starEach (e :: es) X.env = (false, eval e X.env) :: starEach es X.env := by rfl) (hpl : (backTo pos (starEach es X.env)).any (·.1) = false := by rfl) :
    PE X (.Call (.Name x p) (e :: es) [] pos) (tMakeS (He.ga X.K x) sp E t) := by
  obtain ⟨fI, fd, M, F, b, g⟩ := h
  constructor
  intro pins s σ H Q I h
  refine wpAny_Call_Name_kw (ld_glob I hg g ?_ hdb)
  refine PySem.W.callWith_K (h₀ := X.base) I.ok.mod.kin M.kp (thn (ha.run pos pins s σ H _ I h) fun us t1 hh => ?_) he hpl
  obtain ⟨vs, H1, J, rv, q⟩ := hh
  refine ⟨J.kIn, ?_⟩
  have q1 := q (t1.heap.objs.size + 1) t1.heap.objs.size (J.hok.fresh (Nat.le_succ _)) (J.hok.fresh (Nat.le_refl _)) (Nat.ne_of_lt (Nat.lt_succ_self _))
  rw [List.append_nil] at q1
  have J2 := Inv.made (C := He.ga X.K x) J
  have rv2 : Vals (V.ref (t1.heap.objs.size + 1) :: vs) (Value.ref (t1.heap.objs.size + 1) :: us) := .cons rfl rv
  have ln : (Value.ref (t1.heap.objs.size + 1) :: us).length = ps.length := rv2.length.symm.trans (F.len _ _ _ _ q1)
  have bd := b _ (Value.ref (t1.heap.objs.size + 1) :: us) J2.kIn (by rw [List.append_nil]; exact ln)
  rw [List.append_nil] at bd
  refine wpAny_call (make_map (f := fI) J.kIn M.makes M.init (beq_iff_eq.mp M.fn) (codeAny_mono (F.run _ X.stack _ _ ⟨Value.ref (t1.heap.objs.size + 1) :: us, []⟩ _ _ _ (E σ) (hr.make (He.ga X.K x) us [])
    (J2.env0.make (He.ga X.K x) us []) bd rv2 q1) fun r s' hq => ?_))
  match r, hq with
  | .error e, hq => exact hx σ pins _ _ e s' J2 hq
  | .ok (.ret u), hq =>
    obtain ⟨z, H', J3, rz, ez, q3⟩ := J2.after hq
    subst ez
    exact ⟨rz, ⟨V.ref (t1.heap.objs.size + 1), H', J3, rfl, q3⟩⟩
  | .ok .next, hq => exact False.elim hq
  | .ok .brk, hq => exact False.elim hq
  | .ok .cont, hq => exact False.elim hq
/-- isinstance(e, c), e the caught exception, with its dict -/
def rIsXd (K : PySem.W.Frag) (a C : Addr) (cls : Value) (d : Option Addr) : List V → Hp → VK → Prop := fun xs H Q => cls = .ref C ∧ ∃ (c : V) (u : Value) (b : Bool) (dd : Addr) (fs : List (Str × V)), xs = [.ref a, c] ∧ ClsV c u ∧ PySem.W.kitOne K (.ref C) u = some b ∧ d = some dd ∧ H dd = some (.xd fs) ∧ Q (.bl b) H
theorem call_isXd {X : Cx} {a C : Addr} {oe : Obj} {cls : Value} {d : Option Addr} {pn : List (Addr × Obj)} {bm : List Value} (T : ExK X.K C bm) (cA : ClsAttr X.K) (hB : (Value.ref C :: bm).contains (.type "BaseException") = true) (hO : (Value.ref C :: bm).contains (.type "object") = true)
    (hz : Zc cls d oe) (hf : ∃ vs, oe.data = .fields vs) : CallR (X.suite a ((a, oe) :: pn)) (.builtin "isinstance") (rIsXd X.K a C cls d) := by
  intro pins s σ H xs us Q I r h
  obtain ⟨rfl, c, u, b, dd, fs, rfl, k, e, rfl, ea, q⟩ := h
  obtain ⟨w1, w2, rfl, r1, r2⟩ := vals2 r
  obtain rfl : w1 = Value.ref a := r1
  have e2 := k.eq r2
  subst e2
  obtain ⟨ha, _⟩ := I.pin (a, oe) (List.mem_append_left _ List.mem_cons_self)
  obtain ⟨vs, hd⟩ := hf
  have hx : ObjOk X.prog X.w H s.heap dd (.xd fs) := I.hok dd _ ea
  obtain ⟨mA, hns, hr⟩ := hx
  obtain ⟨od, ho, hl⟩ := lookIn_ns hns
  have J : PySem.W.InstAt s.heap a oe C (some od) := ⟨ha, hz.1, by unfold PySem.W.notCls; rw [hd] <;> rfl, by rw [hz.2]; exact ho⟩
  exact PySem.W.kia_one (PySem.W.kitx_exc T.isCls T.ga T.gg (by rw [T.sub, hB]) T.cl cA.gs cA.tk (by rw [T.mro, hO])) I.kIn J e (fun z => nomatch z) fun tk => ⟨.bl b, H, I.tok tk, rfl, q⟩
end V2

set_option maxHeartbeats 4000000
/-! V2f: data at new places only (beside a hand, beside a list that will change) -/
namespace V2
open PySem PySem.Spec PyProof.Rows L2 V1
/-- H, but only what is new behind H0 -/
def newH (H0 H : Hp) : Hp := fun b => match H0 b with
  | none => H b
  | some _ => none
theorem newH_at {H0 H : Hp} {b : Addr} (n : H0 b = none) : newH H0 H b = H b := by
  unfold newH
  rw [n]
theorem newH_old {H0 H : Hp} {b : Addr} {o : HO} (n : H0 b = some o) : newH H0 H b = none := by
  unfold newH
  rw [n]
theorem newH_some {H0 H : Hp} {b : Addr} {o : HO} (h : newH H0 H b = some o) : H0 b = none ∧ H b = some o := by
  cases e : H0 b with
  | none => exact ⟨rfl, by rw [newH_at e] at h; exact h⟩
  | some u =>
    rw [newH_old e] at h
    cases h
theorem newH_sub {H0 H : Hp} : Same (newH H0 H) H := fun _ _ e => (newH_some e).2
theorem newH_up {H0 H H' : Hp} (s : Same H H') : Same (newH H0 H) (newH H0 H') := fun b o e => by
  obtain ⟨n, h⟩ := newH_some e
  rw [newH_at n]
  exact s _ _ h
theorem newH_on {H0 H1 H : Hp} (s : Same H0 H1) : Same (newH H1 H) (newH H0 H) := fun b o e => by
  obtain ⟨n, h⟩ := newH_some e
  have z : H0 b = none := by
    cases q : H0 b with
    | none => rfl
    | some u =>
      rw [s _ _ q] at n
      cases n
  rw [newH_at z]
  exact h
theorem newH_off {H0 H : Hp} {a : Addr} (h : Held H0 a) : Same (newH H0 H) (delH H a) := fun b o e => by
  obtain ⟨n, q⟩ := newH_some e
  obtain ⟨u, hu⟩ := h
  rw [delH_ne (Ne.symm (ne_of_none hu n))]
  exact q
theorem newH_off2 {H0 H : Hp} {a f : Addr} (h : Held H0 a) (hf : Held H0 f) : Same (newH H0 H) (delH (delH H a) f) := fun b o e => by
  obtain ⟨n, q⟩ := newH_some e
  obtain ⟨u, hu⟩ := hf
  rw [delH_ne (Ne.symm (ne_of_none hu n))]
  exact newH_off h b o e
/-- te makes this data at new places -/
def MkN (te : TE) (σ : L2.St) (d : PyData) : Prop := ∀ H, ∀ Q : VK, (∀ v H', Same H H' → Dq (newH H H') v d → Q v H') → te σ H Q
def MkNA (ta : TA) (σ : L2.St) (ds : List PyData) : Prop := ∀ H, ∀ Q : List V → Hp → Prop, (∀ vs H', Same H H' → DqAll (newH H H') vs ds → Q vs H') → ta σ H Q
section
variable {σ : L2.St} {d : PyData} {ds : List PyData} {te : TE} {ta : TA}
theorem mkn_non : MkN (tC .non) σ .none := fun H _ k => k _ H (Same.refl H) .non
theorem mkn_bl (b : Bool) : MkN (tC (.bl b)) σ (.bool b) := fun H _ k => k _ H (Same.refl H) (.bl b)
theorem mkn_int (i : Int) : MkN (tC (.int i)) σ (.int i) := fun H _ k => k _ H (Same.refl H) (.int i)
theorem mkn_str (x : Str) : MkN (tC (.str x)) σ (.str x) := fun H _ k => k _ H (Same.refl H) (.str x)
theorem mkna_nil : MkNA tNil σ [] := fun H _ k => k [] H (Same.refl H) .nil
theorem mkna_cons (h : MkN te σ d) (r : MkNA ta σ ds) : MkNA (tCons te ta) σ (d :: ds) := fun H _ k => h H _ fun v H1 s1 q1 => r H1 _ fun vs H2 s2 q2 =>
  k (v :: vs) H2 (s1.trans s2) (.cons (Dq.same (newH_up s2) d v q1) (DqAll.same (newH_on s1) ds vs q2))
theorem mkn_tup (r : MkNA ta σ ds) (hz : ds.length ≤ 1000) : MkN (tTup ta) σ (.tuple ds) := fun H _ k => r H _ fun vs H1 s1 q1 =>
  ⟨Nat.le_of_lt (small1000 (by rw [dqAll_len q1]; exact hz)), fun p n => k _ _ (s1.trans (same_new n)) (.tup (by rw [newH_at (fresh_up s1 n)]; exact upd_same) (DqAll.same (newH_up (same_new n)) ds vs q1))⟩
theorem mkn_lst (r : MkNA ta σ ds) (hz : ds.length ≤ 1000) : MkN (tLstS ta) σ (.list ds) := fun H _ k => r H _ fun vs H1 s1 q1 =>
  ⟨Nat.le_of_lt (small1000 (by rw [dqAll_len q1]; exact hz)), fun p n low => k _ _ (s1.trans (same_new n)) (.lst (by rw [newH_at (fresh_up s1 n)]; exact upd_same) low (DqAll.same (newH_up (same_new n)) ds vs q1))⟩
theorem mkn_dict0 : MkN tDNewK σ (.dict []) := fun H _ k p n => k _ _ (same_new n) (.dct (by rw [newH_at n]; exact upd_same) .nil)
end
end V2

set_option maxHeartbeats 4000000
/-! V2g: data made beside a hand at a and a list at f, from the heap H0 on (old data may be within) -/
namespace V2
open PySem PySem.Spec PyProof.Rows L2 V1
def MkR (H0 : Hp) (a f : Addr) (te : TE) (σ : L2.St) (d : PyData) : Prop := ∀ H, Same H0 H → ∀ Q : VK, (∀ v H', Same H H' → Dq (delH (delH H' a) f) v d → Q v H') → te σ H Q
def MkRA (H0 : Hp) (a f : Addr) (ta : TA) (σ : L2.St) (ds : List PyData) : Prop := ∀ H, Same H0 H → ∀ Q : List V → Hp → Prop, (∀ vs H', Same H H' → DqAll (delH (delH H' a) f) vs ds → Q vs H') → ta σ H Q
section
variable {H0 : Hp} {a f : Addr} {σ : L2.St} {d : PyData} {ds : List PyData} {te : TE} {ta : TA}
theorem mkr_new (ha : Held H0 a) (hf : Held H0 f) (h : MkN te σ d) : MkR H0 a f te σ d := fun H s Q k => h H Q fun v H' s' q => k v H' s' (Dq.same (newH_off2 (ha.same s) (hf.same s)) _ _ q)
theorem mkra_nil : MkRA H0 a f tNil σ [] := fun H _ _ k => k [] H (Same.refl H) .nil
theorem mkra_cons (h : MkR H0 a f te σ d) (r : MkRA H0 a f ta σ ds) : MkRA H0 a f (tCons te ta) σ (d :: ds) := fun H s _ k => h H s _ fun v H1 s1 q1 => r H1 (s.trans s1) _ fun vs H2 s2 q2 =>
  k (v :: vs) H2 (s1.trans s2) (.cons (Dq.same (same_del (same_del s2)) d v q1) q2)
theorem mkr_lst (ha : Held H0 a) (hf : Held H0 f) (r : MkRA H0 a f ta σ ds) (hz : ds.length ≤ 1000) : MkR H0 a f (tLstS ta) σ (.list ds) := fun H s _ k => r H s _ fun vs H1 s1 q1 =>
  ⟨Nat.le_of_lt (small1000 (by rw [dqAll_len q1]; exact hz)), fun p n low => k _ _ (s1.trans (same_new n)) (.lst (by
    obtain ⟨u, hu⟩ := ha.same (s.trans s1)
    obtain ⟨w, hw⟩ := hf.same (s.trans s1)
    rw [delH_ne (Ne.symm (ne_of_none hw n)), delH_ne (Ne.symm (ne_of_none hu n))]
    exact upd_same) low (DqAll.same (same_del (same_del (same_new n))) ds vs q1))⟩
/-- what stands already -/
theorem mkr_old {v : V} (h : Dq (delH (delH H0 a) f) v d) (ht : ∀ H, Same H0 H → ∀ Q : VK, Q v H → te σ H Q) : MkR H0 a f te σ d := fun H s Q k => ht H s Q (k v H (Same.refl H) (Dq.same (same_del (same_del s)) _ _ h))
end
end V2

set_option maxHeartbeats 4000000
/-! V3a: data with objects of plain classes in it: the shape of an object is objD, a dict that no dict has -/
namespace V3
open PySem PySem.Spec PyProof.Rows L2 V1 V2
class CurK where
  K : PySem.W.Frag
abbrev K [k : CurK] : PySem.W.Frag := k.K
def kindNames : List String := ["int", "bool", "str", "tuple", "list", "dict"]
/-- what more is asked of a plain class: its objects are of no built-in kind -/
def kindB (K : PySem.W.Frag) (C : Addr) : Bool := kindNames.all fun n => decide (PySem.W.kitOne K (.ref C) (.type n) = some false)
structure ObC [CurK] (C : Addr) : Prop where
  ins : C8.InsC K C
  no : ∀ n ∈ kindNames, PySem.W.kitOne K (.ref C) (.type n) = some false
theorem obC_of [CurK] {C : Addr} (i : C8.InsC K C) (h : kindB K C = true) : ObC C := ⟨i, fun n hn => by
  unfold kindB at h
  rw [List.all_eq_true] at h
  exact of_decide_eq_true (h n hn)⟩
def objD : PyData := .dict [(.none, .none)]
mutual
inductive Dx [CurK] (H : Hp) : V → PyData → Prop
  | non : Dx H .non .none
  | bl (b : Bool) : Dx H (.bl b) (.bool b)
  | int (i : Int) : Dx H (.int i) (.int i)
  | str (x : Str) : Dx H (.str x) (.str x)
  | lst {a : Addr} {xs : List V} {ds : List PyData} (at_ : H a = some (.lst xs)) (low : (a == sysModules) = false) (rest : DxAll H xs ds) : Dx H (.ref a) (.list ds)
  | tup {a : Addr} {xs : List V} {ds : List PyData} (at_ : H a = some (.tup xs)) (rest : DxAll H xs ds) : Dx H (.ref a) (.tuple ds)
  | dct {a : Addr} {kvs : List (Key × V)} {ds : List (PyData × PyData)} (at_ : H a = some (.dK kvs)) (rest : DxKv H kvs ds) : Dx H (.ref a) (.dict ds)
  | ob {a C dx : Addr} {fs : List (Str × V)} (at_ : H a = some (.ins C dx fs)) (ok : ObC C) : Dx H (.ref a) objD
inductive DxAll [CurK] (H : Hp) : List V → List PyData → Prop
  | nil : DxAll H [] []
  | cons {v : V} {vs : List V} {d : PyData} {ds : List PyData} (one : Dx H v d) (more : DxAll H vs ds) : DxAll H (v :: vs) (d :: ds)
inductive DxKv [CurK] (H : Hp) : List (Key × V) → List (PyData × PyData) → Prop
  | nil : DxKv H [] []
  | cons {k : Key} {v : V} {kvs : List (Key × V)} {d : PyData} {ds : List (PyData × PyData)} (one : Dx H v d) (more : DxKv H kvs ds) : DxKv H ((k, v) :: kvs) ((keyD k, d) :: ds)
end
section
variable [CurK] {H H' : Hp}
mutual
theorem Dx.same (e : Same H H') : ∀ (d : PyData) (v : V), Dx H v d → Dx H' v d
  | .none, _, h => by cases h; exact .non
  | .bool b, _, h => by cases h; exact .bl b
  | .int i, _, h => by cases h; exact .int i
  | .str x, _, h => by cases h; exact .str x
  | .list ds, _, h => by
    cases h with
    | lst at_ low rest => exact .lst (e _ _ at_) low (DxAll.same e ds _ rest)
  | .tuple ds, _, h => by
    cases h with
    | tup at_ rest => exact .tup (e _ _ at_) (DxAll.same e ds _ rest)
  | .dict ds, _, h => by
    cases h with
    | dct at_ rest => exact .dct (e _ _ at_) (DxKv.same e ds _ rest)
    | ob at_ ok => exact .ob (e _ _ at_) ok
theorem DxAll.same (e : Same H H') : ∀ (ds : List PyData) (vs : List V), DxAll H vs ds → DxAll H' vs ds
  | [], _, h => by cases h; exact .nil
  | d :: ds, _, h => by
    cases h with
    | cons one more => exact .cons (Dx.same e d _ one) (DxAll.same e ds _ more)
theorem DxKv.same (e : Same H H') : ∀ (ds : List (PyData × PyData)) (kvs : List (Key × V)), DxKv H kvs ds → DxKv H' kvs ds
  | [], _, h => by cases h; exact .nil
  | (k, d) :: ds, _, h => by
    cases h with
    | cons one more => exact .cons (Dx.same e d _ one) (DxKv.same e ds _ more)
end
/-! plain data are such data -/
mutual
theorem dx_of : ∀ (d : PyData) (v : V), Dq H v d → Dx H v d
  | .none, _, h => by cases h; exact .non
  | .bool b, _, h => by cases h; exact .bl b
  | .int i, _, h => by cases h; exact .int i
  | .str x, _, h => by cases h; exact .str x
  | .list ds, _, h => by
    cases h with
    | lst at_ low rest => exact .lst at_ low (dxAll_of ds _ rest)
  | .tuple ds, _, h => by
    cases h with
    | tup at_ rest => exact .tup at_ (dxAll_of ds _ rest)
  | .dict ds, _, h => by
    cases h with
    | dct at_ rest => exact .dct at_ (dxKv_of ds _ rest)
theorem dxAll_of : ∀ (ds : List PyData) (vs : List V), DqAll H vs ds → DxAll H vs ds
  | [], _, h => by cases h; exact .nil
  | d :: ds, _, h => by
    cases h with
    | cons one more => exact .cons (dx_of d _ one) (dxAll_of ds _ more)
theorem dxKv_of : ∀ (ds : List (PyData × PyData)) (kvs : List (Key × V)), DqKv H kvs ds → DxKv H kvs ds
  | [], _, h => by cases h; exact .nil
  | (k, d) :: ds, _, h => by
    cases h with
    | cons one more => exact .cons (dx_of d _ one) (dxKv_of ds _ more)
end
/-! such data without dicts have no objects either -/
mutual
theorem dq_of : ∀ (d : PyData) (v : V), V2.plain d = true → Dx H v d → Dq H v d
  | .none, _, _, h => by cases h; exact .non
  | .bool b, _, _, h => by cases h; exact .bl b
  | .int i, _, _, h => by cases h; exact .int i
  | .str x, _, _, h => by cases h; exact .str x
  | .list ds, _, p, h => by
    cases h with
    | lst at_ low rest => exact .lst at_ low (dqAll_of ds _ (by simpa [V2.plain] using p) rest)
  | .tuple ds, _, p, h => by
    cases h with
    | tup at_ rest => exact .tup at_ (dqAll_of ds _ (by simpa [V2.plain] using p) rest)
  | .dict ds, _, p, h => by simp [V2.plain] at p
theorem dqAll_of : ∀ (ds : List PyData) (vs : List V), plainAll ds = true → DxAll H vs ds → DqAll H vs ds
  | [], _, _, h => by cases h; exact .nil
  | d :: ds, _, p, h => by
    cases h with
    | cons one more =>
      have p' : V2.plain d = true ∧ plainAll ds = true := by simpa [plainAll] using p
      exact .cons (dq_of d _ p'.1 one) (dqAll_of ds _ p'.2 more)
end
theorem Dx.int_inv {v : V} {n : Int} (h : Dx H v (.int n)) : v = .int n := by
  cases h
  rfl
theorem Dx.str_inv {v : V} {n : Str} (h : Dx H v (.str n)) : v = .str n := by
  cases h
  rfl
theorem Dx.bool_inv {v : V} {n : Bool} (h : Dx H v (.bool n)) : v = .bl n := by
  cases h
  rfl
theorem Dx.none_inv {v : V} (h : Dx H v .none) : v = .non := by
  cases h
  rfl
theorem Dx.tup_inv {v : V} {ds : List PyData} (h : Dx H v (.tuple ds)) : ∃ a vs, v = .ref a ∧ H a = some (.tup vs) ∧ DxAll H vs ds := by
  cases h with
  | tup e r => exact ⟨_, _, rfl, e, r⟩
theorem Dx.lst_inv {v : V} {ds : List PyData} (h : Dx H v (.list ds)) : ∃ a vs, v = .ref a ∧ H a = some (.lst vs) ∧ (a == sysModules) = false ∧ DxAll H vs ds := by
  cases h with
  | lst e l r => exact ⟨_, _, rfl, e, l, r⟩
theorem dxAll_len : ∀ {vs : List V} {ds : List PyData}, DxAll H vs ds → vs.length = ds.length
  | _, _, .nil => rfl
  | _, _, .cons _ more => by rw [List.length_cons, List.length_cons, dxAll_len more]
theorem DxAll.at : ∀ {vs : List V} {ds : List PyData} {j : Nat} {v : V} {d : PyData}, DxAll H vs ds → vs[j]? = some v → ds[j]? = some d → Dx H v d
  | _ :: _, _ :: _, 0, _, _, .cons one _, e, e' => by
    obtain rfl := Option.some.inj e
    obtain rfl := Option.some.inj e'
    exact one
  | _ :: _, _ :: _, j + 1, _, _, .cons _ more, e, e' => DxAll.at (j := j) more e e'
theorem DxAll.some : ∀ {vs : List V} {ds : List PyData} {i : Nat} {v : V}, DxAll H vs ds → vs[i]? = some v → ∃ d, d ∈ ds ∧ Dx H v d
  | _, _, 0, _, .cons one _, h => ⟨_, List.mem_cons_self, Option.some.inj h ▸ one⟩
  | _, _, i + 1, _, .cons _ more, h => by
    obtain ⟨d, m, q⟩ := DxAll.some (i := i) more h
    exact ⟨d, List.mem_cons_of_mem _ m, q⟩
theorem DxAll.take : ∀ {vs : List V} {ds : List PyData} (n : Nat), DxAll H vs ds → DxAll H (vs.take n) (ds.take n)
  | _, _, 0, _ => by
    rw [List.take_zero, List.take_zero]
    exact .nil
  | _, _, _ + 1, .nil => .nil
  | _, _, n + 1, .cons one more => .cons one (DxAll.take n more)
theorem DxAll.drop : ∀ {vs : List V} {ds : List PyData} (n : Nat), DxAll H vs ds → DxAll H (vs.drop n) (ds.drop n)
  | _, _, 0, h => h
  | _, _, _ + 1, .nil => .nil
  | _, _, n + 1, .cons _ more => DxAll.drop n more
theorem DxAll.app : ∀ {vs us : List V} {ds es : List PyData}, DxAll H vs ds → DxAll H us es → DxAll H (vs ++ us) (ds ++ es)
  | _, _, _, _, .nil, h => h
  | _, _, _, _, .cons one more, h => .cons one (DxAll.app more h)
theorem DxAll.insAt {vs : List V} {ds : List PyData} {v : V} {d : PyData} (h : DxAll H vs ds) (hv : Dx H v d) (i : Nat) : DxAll H (vs.take i ++ [v] ++ vs.drop i) (ds.take i ++ [d] ++ ds.drop i) :=
  DxAll.app (DxAll.app (DxAll.take i h) (.cons hv .nil)) (DxAll.drop i h)
theorem DxAll.erase : ∀ {vs : List V} {ds : List PyData} (n : Nat), DxAll H vs ds → DxAll H (vs.eraseIdx n) (ds.eraseIdx n)
  | _, _, _, .nil => .nil
  | _, _, 0, .cons _ more => more
  | _, _, n + 1, .cons one more => .cons one (DxAll.erase n more)
theorem DxAll.put {v : V} {d : PyData} (hv : Dx H v d) : ∀ {vs : List V} {ds : List PyData} (n : Nat), DxAll H vs ds → DxAll H (vs.set n v) (ds.set n d)
  | _, _, _, .nil => .nil
  | _, _, 0, .cons _ more => .cons hv more
  | _, _, n + 1, .cons one more => .cons one (DxAll.put hv n more)
end
/-! the kind of such data -/
section
variable [CurK] {σ : L2.St} {H : Hp} {Q : VK} {te : TE} {v : V} {d : PyData} {n n1 n2 : String} {b b1 b2 : Bool}
/-- the answers of isinstance for this shape -/
def KindIs (d : PyData) (n : String) (b : Bool) : Prop := kitB (tyName d) n = some b ∧ n ∈ kindNames ∧ (d = objD → b = false)
theorem kx_of (k : KindIs d n b) (h : Dx H v d) : ∃ t, TyX K H v t ∧ PySem.W.kitOne K t (.type n) = some b := by
  obtain ⟨k1, k2, k3⟩ := k
  have z := kit_ty (K := K) k1
  cases h with
  | non => exact ⟨_, .base .non, z⟩
  | bl b => exact ⟨_, .base (.bl b), z⟩
  | int i => exact ⟨_, .base (.int i), z⟩
  | str x => exact ⟨_, .base (.str x), z⟩
  | lst e _ _ => exact ⟨_, .base (.lst e), z⟩
  | tup e _ => exact ⟨_, .base (.tup e), z⟩
  | dct e _ => exact ⟨_, .base (.dK e), z⟩
  | ob e ok => exact ⟨_, TyX_ins e ok.ins, by rw [k3 rfl]; exact ok.no _ k2⟩
theorem kx_tup (d : PyData) : KindIs d "tuple" (isTup d) := ⟨kit_tup d, by decide, fun e => by rw [e]; rfl⟩
theorem kx_lst (d : PyData) : KindIs d "list" (isLst d) := ⟨kit_lst d, by decide, fun e => by rw [e]; rfl⟩
theorem kx_int (d : PyData) : KindIs d "int" (isInt d || isBool d) := ⟨kit_int d, by decide, fun e => by rw [e]; rfl⟩
theorem kx_bool (d : PyData) : KindIs d "bool" (isBool d) := ⟨kit_bool d, by decide, fun e => by rw [e]; rfl⟩
theorem kx_str (d : PyData) : KindIs d "str" (isStr d) := ⟨kit_str d, by decide, fun e => by rw [e]; rfl⟩
theorem isx_go (hb : KindIs d n b) (ht : ∀ Q : VK, Q v H → te σ H Q) (hd : Dx H v d) (q : Q (.bl b) H) : tCB (rIsi K) (tCons te (tCons (tC (.ty n)) tNil)) σ H Q := by
  obtain ⟨t, ty, k⟩ := kx_of hb hd
  exact ht _ ⟨v, .ty n, _, _, b, rfl, .ty n, ty, k, q⟩
/-- isinstance(x, (T1, T2)) -/
theorem isxT_go (h1 : KindIs d n1 b1) (h2 : KindIs d n2 b2) (ht : ∀ Q : VK, Q v H → te σ H Q) (hd : Dx H v d) (q : ∀ p, H p = none → Q (.bl (b1 || b2)) (upd H p (.tup [.ty n1, .ty n2]))) :
    tCB (rIsiT K) (tCons te (tCons (tTup (tCons (tC (.ty n1)) (tCons (tC (.ty n2)) tNil))) tNil)) σ H Q :=
  ht _ ⟨(by show 2 ≤ sizeLine; decide), fun p np => by
    have hd' := Dx.same (same_new (o := HO.tup [.ty n1, .ty n2]) np) d v hd
    have z : ∃ t, TyX K (upd H p (.tup [.ty n1, .ty n2])) v t ∧ PySem.W.kitOne K t (.type n1) = some b1 ∧ PySem.W.kitOne K t (.type n2) = some b2 := by
      obtain ⟨k1, k2, k3⟩ := h1
      obtain ⟨m1, m2, m3⟩ := h2
      have z1 := kit_ty (K := K) k1
      have z2 := kit_ty (K := K) m1
      cases hd' with
      | non => exact ⟨_, .base .non, z1, z2⟩
      | bl b => exact ⟨_, .base (.bl b), z1, z2⟩
      | int i => exact ⟨_, .base (.int i), z1, z2⟩
      | str x => exact ⟨_, .base (.str x), z1, z2⟩
      | lst e _ _ => exact ⟨_, .base (.lst e), z1, z2⟩
      | tup e _ => exact ⟨_, .base (.tup e), z1, z2⟩
      | dct e _ => exact ⟨_, .base (.dK e), z1, z2⟩
      | ob e ok => exact ⟨_, TyX_ins e ok.ins, by rw [k3 rfl]; exact ok.no _ k2, by rw [m3 rfl]; exact ok.no _ m2⟩
    obtain ⟨t, ty, e1, e2⟩ := z
    refine ⟨v, p, _, _, _, b1 || b2, rfl, upd_same, .cons (.ty n1) (.cons (.ty n2) .nil), ty, ?_, q p np⟩
    show (match PySem.W.kitOne K t (.type n1) with
      | Option.some true => Option.some true
      | Option.some false => (match PySem.W.kitOne K t (.type n2) with
        | Option.some true => Option.some true
        | Option.some false => Option.some false
        | Option.none => Option.none)
      | Option.none => Option.none) = _
    rw [e1, e2]
    cases b1 <;> cases b2 <;> rfl⟩
end
/-! made at new places; made beside a hand -/
def MkX [CurK] (te : TE) (σ : L2.St) (d : PyData) : Prop := ∀ H, ∀ Q : VK, (∀ v H', Same H H' → Dx (newH H H') v d → Q v H') → te σ H Q
def MkXA [CurK] (ta : TA) (σ : L2.St) (ds : List PyData) : Prop := ∀ H, ∀ Q : List V → Hp → Prop, (∀ vs H', Same H H' → DxAll (newH H H') vs ds → Q vs H') → ta σ H Q
def MkY [CurK] (H0 : Hp) (a : Addr) (te : TE) (σ : L2.St) (d : PyData) : Prop := ∀ H, Same H0 H → ∀ Q : VK, (∀ v H', Same H H' → Dx (delH H' a) v d → Q v H') → te σ H Q
def MkYA [CurK] (H0 : Hp) (a : Addr) (ta : TA) (σ : L2.St) (ds : List PyData) : Prop := ∀ H, Same H0 H → ∀ Q : List V → Hp → Prop, (∀ vs H', Same H H' → DxAll (delH H' a) vs ds → Q vs H') → ta σ H Q
section
variable [CurK] {σ : L2.St} {d : PyData} {ds : List PyData} {te : TE} {ta : TA}
theorem mkx_of (h : MkN te σ d) : MkX te σ d := fun H Q k => h H Q fun v H' s q => k v H' s (dx_of d v q)
theorem mkxa_nil : MkXA tNil σ [] := fun H _ k => k [] H (Same.refl H) .nil
theorem mkxa_cons (h : MkX te σ d) (r : MkXA ta σ ds) : MkXA (tCons te ta) σ (d :: ds) := fun H _ k => h H _ fun v H1 s1 q1 => r H1 _ fun vs H2 s2 q2 =>
  k (v :: vs) H2 (s1.trans s2) (.cons (Dx.same (newH_up s2) d v q1) (DxAll.same (newH_on s1) ds vs q2))
theorem mkx_tup (r : MkXA ta σ ds) (hz : ds.length ≤ 1000) : MkX (tTup ta) σ (.tuple ds) := fun H _ k => r H _ fun vs H1 s1 q1 =>
  ⟨Nat.le_of_lt (small1000 (by rw [dxAll_len q1]; exact hz)), fun p n => k _ _ (s1.trans (same_new n)) (.tup (by rw [newH_at (fresh_up s1 n)]; exact upd_same) (DxAll.same (newH_up (same_new n)) ds vs q1))⟩
theorem mkx_lst (r : MkXA ta σ ds) (hz : ds.length ≤ 1000) : MkX (tLstS ta) σ (.list ds) := fun H _ k => r H _ fun vs H1 s1 q1 =>
  ⟨Nat.le_of_lt (small1000 (by rw [dxAll_len q1]; exact hz)), fun p n low => k _ _ (s1.trans (same_new n)) (.lst (by rw [newH_at (fresh_up s1 n)]; exact upd_same) low (DxAll.same (newH_up (same_new n)) ds vs q1))⟩
end
end V3

set_option maxHeartbeats 4000000
/-! V3b: xs.extend(t), t a tuple; more of data made beside a hand -/
namespace V3
open PySem PySem.Spec PyProof.Rows L2 V1 V2
open AutoSeq1
theorem extend_tup (l : Addr) (xs : Array Value) (n : Nat) (b : Addr) (o : Obj) (ys : Array Value) (m : Nat) (hc : o.cls = .type "tuple") (hd : o.data = .seq ys m) (h0 : ¬(!xs.isEmpty && Builtin.List.listTooLong (xs.size + ys.size)) = true) (h1 : xs.size ≤ sizeLine) (h2 : xs.size + ys.size ≤ sizeLine + 1) :
    Meets (Builtin.«list.extend» ⟨[.ref l, .ref b], []⟩) (fun _ R s => s.heap.get? l = some { cls := .type "list", dict := none, data := .seq xs n, slots := #[] } ∧ s.heap.get? b = some o ∧
      R (.ok (.ret Value.none)) { s with heap := s.heap.update l (Obj.mapSeq fun x => x ++ ys), toks := s.toks }) :=
  .of_wp fun prog w A R s hh => by
    obtain ⟨hp, g, dr, tk, os⟩ := s
    obtain ⟨hl, hb, go⟩ := hh
    have i1 := idx_int
    have i2 := AutoSeq1.sub_tuple_tuple
    have i3 := AutoSeq1.sub_list_list
    have i4 := AutoSeq1.sub_tuple_list
    have i5 := AutoSeq1.sub_list_tuple
    have lim : (xs ++ ys).size ≤ sizeLine + 1 := by
      rw [Array.size_append]
      exact h2
    obtain ⟨cls, dict, data, slots⟩ := o
    dsimp only at hc hd
    subst hc hd
    wp_walk using (wpAny_updateSeq hl rfl (hz := h1) (_hz' := lim)), wpAny_loadPart' hl, wpAny_loadPart' hb
    exact ⟨_, rfl, go⟩
def rExtT (K : PySem.W.Frag) : V → List V → Hp → VK → Prop := fun x vs H Q => ∃ l b xs zs, x = .ref l ∧ vs = [.ref b] ∧ H l = some (.lst xs) ∧ SqT K H b zs ∧ xs.length + zs.length ≤ sizeLine ∧ Q .non (upd H l (.lst (xs ++ zs)))
theorem mt_extT {X : Cx} : MtM X "list.extend" (rExtT X.K) := by
  rintro pins s σ H x vs v us Q I rx rv ⟨l, b, xs, zs, rfl, rfl, hH, hB, hz, q⟩
  cases rx
  obtain ⟨u, rfl, ru⟩ := rv.one
  cases ru
  obtain ⟨z, its, n, r, hl, e⟩ := I.lstM hH
  obtain ⟨ys, ry, ⟨o, eo, co, m, d⟩, _⟩ := I.tuple hB
  have ly := ry.length
  have lx := r.length
  have small : its.toArray.size + ys.toArray.size ≤ sizeLine := by
    simp only [List.size_toArray]
    omega
  refine call_meets F.slot_list_extend ⟨_, e, rfl⟩ F.entry_list_extend (F.args_list_extend_2 _ _)
    (extend_tup l its.toArray n b o ys.toArray m co d (by rw [notLongL small, Bool.and_false]; exact Bool.false_ne_true) (by omega) (by omega)) ⟨e, eo, .non, _, I.lset (its' := its ++ ys) hH e (by simp) (r.append ry) (by rw [List.length_append]; omega), rfl, q⟩
end V3

set_option maxHeartbeats 4000000
/-! V3c: order of two tuples of texts -/
namespace V3
open PySem PySem.Spec PyProof.Rows L2 V1 V2
/-- which of two texts comes first -/
def txLe (x y : Str) : Bool := !decide (y.cps.toList < x.cps.toList)
def txLt (x y : Str) : Bool := decide (x.cps.toList < y.cps.toList)
def rowLe : List Str → List Str → Bool
  | [], _ => true
  | _ :: _, [] => false
  | x :: xs, y :: ys => if (x == y) = true then rowLe xs ys else txLe x y
def rowLt : List Str → List Str → Bool
  | _, [] => false
  | [], _ :: _ => true
  | x :: xs, y :: ys => if (x == y) = true then rowLt xs ys else txLt x y
theorem lex_row (r : Str → Str → Bool) (z : Nat → Nat → Bool) (f : List Str → List Str → Bool) (hz : ∀ a b, z (a + 1) (b + 1) = z a b) (f0 : ∀ ys : List Str, f [] ys = z 0 ys.length) (f1 : ∀ x xs, f (x :: xs) [] = z (xs.length + 1) 0)
    (f2 : ∀ x xs y ys, f (x :: xs) (y :: ys) = if (x == y) = true then f xs ys else r x y) :
    ∀ (pre pre' ns ms : List Str), pre.length = pre'.length → Ob.lexAt (fun j => (pre ++ ns).getD j Str.empty == (pre' ++ ms).getD j Str.empty) (fun j => r ((pre ++ ns).getD j Str.empty) ((pre' ++ ms).getD j Str.empty)) (z ns.length ms.length) pre.length (min ns.length ms.length) = f ns ms
  | pre, pre', [], ms, _ => by
    rw [List.length_nil, Nat.zero_min, f0]
    rfl
  | pre, pre', n :: ns, [], _ => by
    rw [List.length_nil, Nat.min_zero, f1]
    rfl
  | pre, pre', n :: ns, m :: ms, e => by
    have h1 : (pre ++ n :: ns).getD pre.length Str.empty = n := by simp [List.getD]
    have h2 : (pre' ++ m :: ms).getD pre.length Str.empty = m := by rw [e]; simp [List.getD]
    have ih := lex_row r z f hz f0 f1 f2 (pre ++ [n]) (pre' ++ [m]) ns ms (by simp [e])
    rw [List.append_assoc, List.append_assoc, List.length_append] at ih
    rw [List.length_cons, List.length_cons, Nat.succ_min_succ, Ob.lexAt_succ, f2, hz]
    simp only [h1, h2]
    by_cases q : (n == m) = true
    · rw [if_pos q, if_pos q]
      exact ih
    · rw [if_neg q, if_neg q]
section
variable {X : Cx} {pins : List (Addr × Obj)} {σ : L2.St} {H : Hp} {s : Shared}
theorem texts_at {us : List Value} {ns : List Str} (r : Vals (ns.map V.str) us) (j : Nat) (h : j < us.toArray.size) : ∃ t, us.toArray[j] = Value.str (ns.getD j Str.empty) t := by
  have hj : j < ns.length := by
    have z := r.length
    rw [List.length_map] at z
    rw [List.size_toArray] at h
    omega
  obtain ⟨w, hw, rw'⟩ := r.get (i := j) (x := .str ns[j]) (by rw [List.getElem?_map, List.getElem?_eq_getElem hj]; rfl)
  obtain ⟨t, rfl⟩ := rw'
  refine ⟨t, ?_⟩
  have z : us[j]? = some us[j] := List.getElem?_eq_getElem (by simpa using h)
  rw [z] at hw
  rw [List.getElem_toArray, Option.some.inj hw]
  simp [List.getD, hj]
def rLeTS (K : PySem.W.Frag) : R2 := fun x y H Q => ∃ (a b : Addr) (ns ms : List Str), x = .ref a ∧ y = .ref b ∧ SqT K H a (ns.map V.str) ∧ SqT K H b (ms.map V.str) ∧ Q (.bl (rowLe ns ms)) H
theorem op_leTS (hu : X.A.units < cLine) : OpR X (compareOp .LtE) (rLeTS X.K) := by
  rintro pins s σ H x y v u Q I rx ry ⟨a, b, ns, ms, rfl, rfl, ha, hb, q⟩
  cases rx
  cases ry
  obtain ⟨us, r1, p1, _⟩ := I.tuple ha
  obtain ⟨ws, r2, p2, _⟩ := I.tuple hb
  have l1 : us.toArray.size = ns.length := by rw [List.size_toArray, ← r1.length, List.length_map]
  have l2 : ws.toArray.size = ms.length := by rw [List.size_toArray, ← r2.length, List.length_map]
  have key := lex_row txLe (fun a b => decide (a ≤ b)) rowLe (fun a b => by simp) (fun ys => by simp [rowLe]) (fun x xs => by simp [rowLe]) (fun _ _ _ _ => rfl) [] [] ns ms rfl
  have cmp := Ob.RcOp.tuples_le (A := X.A) (s := s) (e := fun j => ns.getD j Str.empty == ms.getD j Str.empty) (r := fun j => txLe (ns.getD j Str.empty) (ms.getD j Str.empty)) p1 p2 hu
    (fun j g1 g2 => by
      obtain ⟨t, z1⟩ := texts_at r1 j g1
      obtain ⟨t', z2⟩ := texts_at r2 j g2
      rw [z1, z2]
      exact SeqAt.EqAt.str_str _ _ _ _)
    (fun j g1 g2 _ => by
      obtain ⟨t, z1⟩ := texts_at r1 j g1
      obtain ⟨t', z2⟩ := texts_at r2 j g2
      rw [z1, z2]
      exact fun P w E Q k => PySem.P.le_str (by simpa [txLe] using k))
  rw [l1, l2] at cmp
  have last : wpAny (model X.prog X.w) X.A (compareOp .LtE (.ref a) (.ref b)) (EP X pins σ Q) X.xe s := cmp X.prog X.w X.xe (EP X pins σ Q) ⟨.bl _, H, I, rfl, by
    have k2 := key
    simp only [List.nil_append, List.length_nil] at k2
    rw [k2]
    exact q⟩
  exact last
def rLtTS (K : PySem.W.Frag) : R2 := fun x y H Q => ∃ (a b : Addr) (ns ms : List Str), x = .ref a ∧ y = .ref b ∧ SqT K H a (ns.map V.str) ∧ SqT K H b (ms.map V.str) ∧ Q (.bl (rowLt ns ms)) H
theorem op_ltTS (hu : X.A.units < cLine) : OpR X (compareOp .Lt) (rLtTS X.K) := by
  rintro pins s σ H x y v u Q I rx ry ⟨a, b, ns, ms, rfl, rfl, ha, hb, q⟩
  cases rx
  cases ry
  obtain ⟨us, r1, p1, _⟩ := I.tuple ha
  obtain ⟨ws, r2, p2, _⟩ := I.tuple hb
  have l1 : us.toArray.size = ns.length := by rw [List.size_toArray, ← r1.length, List.length_map]
  have l2 : ws.toArray.size = ms.length := by rw [List.size_toArray, ← r2.length, List.length_map]
  have key := lex_row txLt (fun a b => decide (a < b)) rowLt (fun a b => by simp) (fun ys => by cases ys <;> simp [rowLt]) (fun x xs => by simp [rowLt]) (fun _ _ _ _ => rfl) [] [] ns ms rfl
  have cmp := Ob.RcOp.tuples_lt (A := X.A) (s := s) (e := fun j => ns.getD j Str.empty == ms.getD j Str.empty) (r := fun j => txLt (ns.getD j Str.empty) (ms.getD j Str.empty)) p1 p2 hu
    (fun j g1 g2 => by
      obtain ⟨t, z1⟩ := texts_at r1 j g1
      obtain ⟨t', z2⟩ := texts_at r2 j g2
      rw [z1, z2]
      exact SeqAt.EqAt.str_str _ _ _ _)
    (fun j g1 g2 _ => by
      obtain ⟨t, z1⟩ := texts_at r1 j g1
      obtain ⟨t', z2⟩ := texts_at r2 j g2
      rw [z1, z2]
      exact fun P w E Q k => PyProof.Rows.lt_str k)
  rw [l1, l2] at cmp
  have last : wpAny (model X.prog X.w) X.A (compareOp .Lt (.ref a) (.ref b)) (EP X pins σ Q) X.xe s := cmp X.prog X.w X.xe (EP X pins σ Q) ⟨.bl _, H, I, rfl, by
    have k2 := key
    simp only [List.nil_append, List.length_nil] at k2
    rw [k2]
    exact q⟩
  exact last
end
end V3

set_option maxHeartbeats 4000000
/-! V3d: a head whose top asks the world for one habit: told apart, two kernel runs -/
namespace V3
open PySem PySem.W
/-- the habits f, but for this row -/
def hab (row : String) (b : Bool) (f : String → Bool) : String → Bool := fun s => match decide (s = row) with
  | true => b
  | false => f s
theorem hab_eq (row : String) (f : String → Bool) : hab row (f row) f = f := by
  funext s
  unfold hab
  by_cases e : s = row
  · rw [decide_eq_true e, e]
  · rw [decide_eq_false e]
def wHab (row : String) (b : Bool) (w : World) : World := ⟨w.draws, { w.params with followText := hab row b w.params.followText }⟩
theorem wHab_eq (row : String) (w : World) : wHab row (w.params.followText row) w = w := by
  unfold wHab
  rw [hab_eq]
theorem run_hab {p : World → Prop} (row : String) (h1 : ∀ w, p (wHab row true w)) (h0 : ∀ w, p (wHab row false w)) (w : World) : p w := by
  rw [← wHab_eq row w]
  cases w.params.followText row
  · exact h0 w
  · exact h1 w
end V3

set_option maxHeartbeats 4000000
/-! V4a: defs that make lambdas: their code objects and tables, by one look of the kernel; the law's own def among them; the end. -/
namespace V4
open PySem PySem.Spec PyProof.Rows L2 V1 V2 V3 LamX
section
variable {K : PySem.W.Frag} {f : Addr}
/-- the code object of the def at f, and the table of the codes made in it -/
def pairOf (K : PySem.W.Frag) (f : Addr) : Addr × Addr := match K.lookup f with
  | some ⟨_, _, .func fd, _⟩ => match fd.code with
    | .ref c => match K.lookup c with
      | some ⟨_, _, .fields vs, _⟩ => match (vs[11]? : Option Value) with
        | some (Value.ref p) => (c, p)
        | _ => (c, c)
      | _ => (c, c)
    | _ => (f, f)
  | _ => (f, f)
def txtB : Value → Bool
  | .str _ _ => true
  | _ => false
def intB : Value → Bool
  | .int _ _ => true
  | _ => false
def boolB : Value → Bool
  | .bool _ => true
  | _ => false
def headB (K : PySem.W.Frag) (p : Addr × Addr) : Bool := match K.lookup p.1 with
  | some ⟨cl, _, .fields vs, _⟩ => (decide (cl = .type "code") && decide (vs[11]? = some (.ref p.2))) && (txtB (vs.getD 18 .none) && (intB (vs.getD 7 .none) && (boolB (vs.getD 9 .none) && (intB (vs.getD 10 .none) && (!(p.1 == p.2) && (K.lookup p.2).isNone)))))
  | _ => false
def lamB (K : PySem.W.Frag) (f : Addr) : Bool := match K.lookup f with
  | some ⟨_, _, .func fd, _⟩ => decide (fd.code = .ref (pairOf K f).1) && headB K (pairOf K f)
  | _ => false
structure LamD (K : PySem.W.Frag) (f : Addr) : Prop where
  code : ∀ (o : Obj) (fd : FuncData), K.lookup f = some o → o.data = .func fd → fd.code = .ref (pairOf K f).1
  hd : ∀ h : Heap, K.In h → PySem.W.CodeHd h (pairOf K f).1 (pairOf K f).2
  off : K.lookup (pairOf K f).2 = none
theorem txtB_is {v : Value} (h : txtB v = true) : ∃ x t, v = .str x t := by
  cases v <;> first | exact ⟨_, _, rfl⟩ | cases h
theorem intB_is {v : Value} (h : intB v = true) : ∃ x t, v = .int x t := by
  cases v <;> first | exact ⟨_, _, rfl⟩ | cases h
theorem boolB_is {v : Value} (h : boolB v = true) : ∃ x, v = .bool x := by
  cases v <;> first | exact ⟨_, rfl⟩ | cases h
theorem headB_hd {p : Addr × Addr} (h : headB K p = true) : (∀ g : Heap, K.In g → PySem.W.CodeHd g p.1 p.2) ∧ K.lookup p.2 = none := by
  unfold headB at h
  split at h
  · rename_i cl od vs sl e
    simp only [Bool.and_eq_true, decide_eq_true_eq, Bool.not_eq_true', beq_eq_false_iff_ne, ne_eq, Option.isNone_iff_eq_none] at h
    obtain ⟨⟨e1, e2⟩, e3, e4, e5, e6, e7, e8⟩ := h
    obtain ⟨x1, t1, e3⟩ := txtB_is e3
    obtain ⟨x2, t2, e4⟩ := intB_is e4
    obtain ⟨x3, e5⟩ := boolB_is e5
    obtain ⟨x4, t4, e6⟩ := intB_is e6
    have e11 : vs.getD 11 .none = .ref p.2 := by
      rw [Array.getD_eq_getD_getElem?, e2]
      rfl
    exact ⟨fun g hg => ⟨_, vs, x1, t1, x2, t2, x3, x4, t4, hg _ _ e, e1, rfl, e2, e11, e3, e4, e5, e6, e7⟩, e8⟩
  · cases h
theorem lamD_of (h : lamB K f = true) : LamD K f := by
  unfold lamB at h
  split at h
  · rename_i oc od fd sl e
    obtain ⟨h1, h2⟩ := Bool.and_eq_true_iff.mp h
    refine ⟨fun o fd' e' d => ?_, (headB_hd h2).1, (headB_hd h2).2⟩
    rw [e] at e'
    cases e'
    cases d
    exact of_decide_eq_true h1
  · cases h
end
/-- a table without a code stands at p -/
def emptyT (g : Addr → Option Obj) (p : Addr) : Bool := match g p with
  | some ⟨.none, none, .fields ⟨[]⟩, ⟨[]⟩⟩ => true
  | _ => false
theorem emptyT_is {g : Addr → Option Obj} {p : Addr} (h : emptyT g p = true) : g p = some { cls := .none, data := .fields #[] } := by
  unfold emptyT at h
  split at h
  · assumption
  · cases h
/-- what is reached in so many steps, but such tables -/
def asT (g : Addr → Option Obj) (n : Nat) : List Addr := (He.asD g n).filter fun a => !emptyT g a
section
variable {P : Program} {w : World} {K : PySem.W.Frag} {mg : Str → Option Value} {base : Heap} {x qual : Str} {params : Arguments} {body : List Stmt} {scope : Scope} {dvs : List V} {kws : List (Str × V)} {f : Addr} {fd : FuncData}
/-- a def of which the code object is known -/
theorem okC {CX : CXT} {N ps : List Str} {k : Nat} {sp : Sp} (F : FunD K x qual params body scope dvs kws f fd) (T : LamD K f) (S : FnScope N ps scope) (len : ∀ vs H Q E, sp vs H Q E → vs.length = ps.length)
    (go : ∀ (A : Around) (outer : List Env) (s : Shared) (H : Hp) (vs : List V) (Q : VK) (E : XK), Room k (A.deeper (envOfC qual scope s.heap.objs.size f (.ref (pairOf K f).1))) → sp vs H Q E →
      ∃ t, PSs (cxOf CX P w K mg base N qual scope f (.ref (pairOf K f).1) A outer s H E) body t ∧ t { nx := fun _ H' => Q .non H', rt := Q } (start N vs) H) : FnOk P w K mg base CX (k + 1) f fd ps sp := by
  obtain ⟨oc, od, dV, kV, doc, pm, an, cdv, ct, osl, rfl, lk, cd, _, _⟩ := F.ex
  obtain rfl : cdv = .ref (pairOf K f).1 := T.code _ _ lk rfl
  exact fn_of lk cd S len go
end
section
variable {P : Program} {w : World} {K : PySem.W.Frag} {mg : Str → Option Value} {base : Heap} {k : Nat} {f : Addr} {fd : FuncData} {x : Str} {sp : Sp}
theorem lawOkC {name qual : Str} {params : Arguments} {body : List Stmt} {scope : Scope} {N : List Str} (F : FunD K name qual params body scope [] [] f fd) (T : LamD K f) (S : FnScope N [x] scope)
    (room : Room (k + 1) callerA)
    (go : ∀ (s : Shared) (H : Hp) (v : V) (Q : VK), Room k (callerA.deeper (envOfC qual scope s.heap.objs.size f (.ref (pairOf K f).1))) → (callerA.deeper (envOfC qual scope s.heap.objs.size f (.ref (pairOf K f).1))).guards = some [] → sp [v] H Q (fun _ _ _ => False) →
      ∃ t, PSs (cxOf CX0 P w K mg base N qual scope f (.ref (pairOf K f).1) callerA [] s H (fun _ _ _ => False)) body t ∧ t { nx := fun _ H' => Q .non H', rt := Q } (start N [v]) H) :
    LawOk P w K mg base f fd x sp := by
  intro s H u v Q e0 bind rv hs
  obtain ⟨oc, od, dV, kV, doc, pm, an, cdv, ct, osl, rfl, lk, cd, _, _⟩ := F.ex
  obtain rfl : cdv = .ref (pairOf K f).1 := T.code _ _ lk rfl
  have inK : K.In s.heap := e0.mod.kin.keeps fun b o e => (e0.bs b o e).1
  have free : s.heap.NoLimit := e0.mod.nolimit.keeps fun b o e => (e0.bs b o e).1
  have kinds : ∀ y ∈ [(x, u)], scope.names.lookup y.1 = some .local ∨ (scope.names.lookup y.1 = some .cell ∧ ((cellsFrom (s.heap.objs.size + 1) scope.names []).lookup y.1).isSome = true) := by
    intro y hy
    obtain rfl := List.mem_singleton.mp hy
    rcases S.par x (List.mem_singleton.mpr rfl) with q | q
    · exact .inl q
    · exact .inr ⟨q, PySem.W.cellsFrom_some _ _ _ (.inl q)⟩
  refine codeAny_call_function room.depth (inK _ _ lk) rfl S.co S.gen rfl (PySem.W.codeRec_of inK cd) (bind _ _ _ _ ?_)
  refine wpAny_newFunctionEnv_cells S.kind kinds fun env he s1 z => ?_
  subst he
  refine ⟨free.keeps z.toInCall.keep, codeAny_func ?_⟩
  obtain ⟨t, ht, hq⟩ := go s H v Q (room.deeper _) rfl hs
  have I : Inv (cxOf CX0 P w K mg base N qual scope f (.ref (pairOf K f).1) callerA [] s H (fun _ _ _ => False)) [] (start N [v]) H s1 := inv_start (us := [u]) (ps := [x]) S room.hd e0 rfl (.cons rv .nil) z
  refine wpAny_mono (ht.run [] s1 _ H _ I hq) (fun fl s' out => ?_) fun _ _ z => z
  cases fl with
  | ret u' => exact let ⟨v', _, H', J, r', q⟩ := out; ⟨v', H', J.os, J.bare, J.base, J.hok, r', q⟩
  | next => exact let ⟨_, H', J, q⟩ := out; ⟨.non, H', J.os, J.bare, J.base, J.hok, rfl, q⟩
  | brk => exact let ⟨_, _, _, q⟩ := out; q.elim
  | cont => exact let ⟨_, _, _, q⟩ := out; q.elim
end
/-- what may stand in the heap at the claim's call: the script, and tables without a code -/
def OnlyT (ts : List Addr) (H : Hp) : Prop := ∀ b, H b = none ∨ b ∈ ts ∨ ∃ o xs, H b = some (.frz o (.lst xs))
theorem law_runT {P : Program} {w : World} {K : PySem.W.Frag} {mg mb : Str → Option Value} {fa a : Addr} {fd : FuncData} {x : Str} {sp : Sp} {s : Shared} {vs : List Value} {ns : List Int} {cs : List (Addr × Addr)}
    (KX : K.In s.heap) (gl : s.heap.Ns mainGlobals mg) (bl : s.heap.Ns builtinsNs mb) (boot : ∀ y : Str, y ≠ "__name__" → mb y = bootBuiltins y) (free : s.heap.NoLimit) (gens : s.gens = #[])
    (hT : ∀ p ∈ cs, s.heap.get? p.2 = some { cls := .none, data := .fields #[] }) (nT : ∀ p ∈ cs, K.lookup p.2 = none) (cod : ∀ p ∈ cs, PySem.W.CodeHd s.heap p.1 p.2) (bmain : ∃ (bm : Addr) (ob : Obj), mg "__builtins__" = some (.ref bm) ∧ bm ≠ builtinsNs ∧ s.heap.get? bm = some ob ∧ ob.cls = .type "module" ∧ ob.dict = some builtinsNs ∧ ob.data = .plain)
    (ha : s.heap.get? a = some { cls := .type "list", data := .seq vs.toArray }) (hints : IntsAre vs ns) (short : ns.length ≤ sizeLine)
    (F : ∀ base : Heap, K.In base → base.Ns mainGlobals mg → (∀ p ∈ cs, TabB base mg p.1 p.2) → LawOk P w K mg base fa fd x sp) (bind : ∀ (s : Shared) (u : Value), BindsTo s fd ⟨[u], []⟩ [(x, u)])
    (hs : ∀ H : Hp, (∀ p ∈ cs, H p.2 = some (.tbl #[])) → SqL K H a (ns.map V.int) → sp [.ref a] H (fun v _ => v = .bl true) (fun _ _ _ => False)) :
    codeAny (model P w) callerA (.call (.ref fa) ⟨[.ref a], []⟩) (fun r s' => r = .ok (.ret (.bool true)) ∧ OldK s.heap s'.heap ∧ s'.os = s.os ∧ AllBare s'.gens) s := by
  have rel := vals_ints hints
  have count := hints.length
  let ob : Obj := { cls := .type "list", data := .seq vs.toArray }
  let ts : List Addr := cs.map (·.2)
  have inT : ∀ p ∈ cs, p.2 ∈ ts := fun p hp => List.mem_map.mpr ⟨p, hp, rfl⟩
  have empty : ∀ b ∈ ts, s.heap.get? b = some { cls := .none, data := .fields #[] } := fun b hb => by
    obtain ⟨p, hp, rfl⟩ := List.mem_map.mp hb
    exact hT p hp
  have aOff : a ∉ ts := fun z => by
    have e := empty a z
    rw [ha] at e
    cases (show Data.seq vs.toArray _ = Data.fields #[] from congrArg Obj.data (Option.some.inj e))
  have main : ∀ H : Hp, (∀ p ∈ cs, H p.2 = some (.tbl #[])) → OnlyT ts H → SqL K H a (ns.map V.int) → HOk P w H s.heap → (∀ b, H b ≠ none → b = a ∨ b ∈ ts) → (H a ≠ none → K.lookup a = none) →
      codeAny (model P w) callerA (.call (.ref fa) ⟨[.ref a], []⟩) (fun r s' => r = .ok (.ret (.bool true)) ∧ OldK s.heap s'.heap ∧ s'.os = s.os ∧ AllBare s'.gens) s := by
    intro H tb only seq hok just notK
    let B := hidT s.heap H
    -- what has other data than the script and the empty tables is not tracked
    have clear : ∀ {b : Addr} {o : Obj}, s.heap.get? b = some o → (∀ us n, o.data ≠ .seq us n) → o.data ≠ .fields #[] → H b = none := fun {b o} e n1 n2 => by
      cases q : H b with
      | none => rfl
      | some _ =>
        rcases just b (by rw [q]; simp) with z | z
        · rw [z, ha] at e
          cases e
          exact (n1 _ _ rfl).elim
        · rw [empty b z] at e
          cases e
          exact (n2 rfl).elim
    have space : ∀ {b : Addr} {m : Str → Option Value}, s.heap.Ns b m → B.Ns b m := fun {b m} ⟨o, es, ep, e, d, r⟩ => ⟨o, es, ep, hidT_get e (clear e (fun us n z => by rw [d] at z; cases z) (fun z => by rw [d] at z; cases z)), d, r⟩
    have KB : K.In B := fun b o e => hidT_get (KX b o e) (by
      cases q : H b with
      | none => rfl
      | some _ =>
        rcases just b (by rw [q]; simp) with z | z
        · rw [z] at e q
          rw [notK (by rw [q]; simp)] at e
          cases e
        · obtain ⟨p, hp, rfl⟩ := List.mem_map.mp z
          rw [nT p hp] at e
          cases e)
    have M : Mod K mg B := ⟨KB, space gl, ⟨mb, space bl, boot⟩, let ⟨mc, h1, h2⟩ := free; ⟨mc, space h1, h2⟩⟩
    have TB : ∀ p ∈ cs, TabB B mg p.1 p.2 := fun p hp => by
      have e0 := hT p hp
      obtain ⟨bm, o1, b1, b2, b3, b4, b5, b6⟩ := bmain
      refine ⟨?_, ⟨bm, o1, b1, b2, fun z => ?_, fun z => ?_, hidT_get b3 (clear b3 (fun us n z => by rw [b6] at z; cases z) (fun z => by rw [b6] at z; cases z)), b4, b5, b6⟩, fun z => ?_⟩
      · obtain ⟨o, us, file, tf, flags, tg, inF, text, tt, e1, r1, r2, r3, rest⟩ := cod p hp
        refine ⟨o, us, file, tf, flags, tg, inF, text, tt, hidT_get e1 (clear e1 (fun us n z => ?_) fun z => ?_), r1, r2, r3, rest⟩
        · rw [r2] at z
          cases z
        · rw [r2] at z
          cases z
          simp at r3
      · obtain ⟨o, es, ep, e, d, _⟩ := gl
        rw [z, e] at b3
        cases b3
        rw [d] at b6
        cases b6
      · rw [z, e0] at b3
        cases b3
        cases b6
      · obtain ⟨o, es, ep, e, d, _⟩ := gl
        rw [z, e0] at e
        cases e
        cases d
    have e0 : Env0 P w K mg B callerA [] s H := ⟨rfl, M, fun b o e => of_hidT e, Nat.le_of_eq (hidT_size _ _), trivial, fun b hb => absurd (show b ∈ ([] : List Addr) from hb) List.not_mem_nil, hok, .of_eq gens⟩
    refine codeAny_mono (F B KB (space gl) TB s H (.ref a) (.ref a) _ e0 (bind s (.ref a)) rfl (hs H tb seq)) fun r s' out => ?_
    cases r with
    | error e => exact False.elim out
    | ok fl =>
      cases fl with
      | next => exact False.elim out
      | brk => exact False.elim out
      | cont => exact False.elim out
      | ret u =>
        obtain ⟨v, H', os, bare, un, hok', rv, q⟩ := out
        obtain rfl : v = .bl true := q
        obtain rfl : u = Value.bool true := rv
        have same : ∀ b o, b ∉ ts → s.heap.get? b = some o → s'.heap.get? b = some o := fun b o nb e => by
          cases q : H b with
          | none => exact un.keep b o e q (fun z => absurd (show b ∈ ([] : List Addr) from z) List.not_mem_nil) List.not_mem_nil
          | some _ =>
            rcases only b with z | z | ⟨o2, xs, z⟩
            · rw [q] at z
              cases z
            · exact absurd z nb
            · obtain ⟨g1, _⟩ := hok b _ z
              obtain ⟨g2, _⟩ := hok' b _ (un.frzs b o2 _ z)
              rw [e] at g1
              cases g1
              exact g2
        have grown : ∀ p ∈ cs, ∃ more : Array Value, s'.heap.get? p.2 = some { cls := .none, data := .fields more } := fun p hp => by
          obtain ⟨more, z⟩ := un.tbls p.2 #[] (tb p hp)
          exact ⟨_, hok' p.2 _ z⟩
        refine ⟨rfl, ⟨fun b o e => ?_, fun b o e => ?_⟩, os, bare⟩
        · by_cases hb : b ∈ ts
          · obtain ⟨p, hp, rfl⟩ := List.mem_map.mp hb
            obtain ⟨more, hm⟩ := grown p hp
            rw [hT p hp] at e
            cases e
            refine .inr (.inl ⟨((cod p hp).tab (hT p hp)).isCodeTable, rfl, #[], more, rfl, ?_⟩)
            rw [Array.empty_append]
            exact hm
          · exact .inl (same b o hb e)
        · by_cases hb : b ∈ ts
          · obtain ⟨p, hp, rfl⟩ := List.mem_map.mp hb
            exact let ⟨_, hm⟩ := grown p hp; ⟨_, hm⟩
          · exact ⟨o, same b o hb e⟩
  let H0 : Hp := fun b => if b ∈ ts then some (.tbl #[]) else none
  have in0 : ∀ {b : Addr}, b ∈ ts → H0 b = some (.tbl #[]) := fun hb => if_pos hb
  have off0 : ∀ {b : Addr}, b ∉ ts → H0 b = none := fun hb => if_neg hb
  cases lk : K.lookup a with
  | some o =>
    have e := KX a o lk
    rw [ha] at e
    cases e
    refine main H0 (fun p hp => in0 (inT p hp)) (fun b => ?_) (.inr ⟨_, vs.toArray, _, lk, rfl, rfl, rfl, by rw [List.size_toArray, count]; exact short, by simpa using rel⟩) (fun b u z => ?_) (fun b z => ?_) fun z => absurd (off0 aOff) z
    · by_cases hb : b ∈ ts
      · exact .inr (.inl hb)
      · exact .inl (off0 hb)
    · by_cases hb : b ∈ ts
      · cases (in0 hb).symm.trans z
        exact empty b hb
      · exact nomatch (off0 hb).symm.trans z
    · by_cases hb : b ∈ ts
      · exact .inr hb
      · exact absurd (off0 hb) z
  | none =>
    let H1 : Hp := fun b => if b = a then some (.frz ob (.lst (ns.map V.int))) else H0 b
    have atA : H1 a = some (.frz ob (.lst (ns.map V.int))) := if_pos rfl
    have offA : ∀ {b : Addr}, b ≠ a → H1 b = H0 b := fun hb => if_neg hb
    have ne : ∀ {b : Addr}, b ∈ ts → b ≠ a := fun hb z => aOff (z ▸ hb)
    refine main H1 (fun p hp => (offA (ne (inT p hp))).trans (in0 (inT p hp))) (fun b => ?_) (.inl (.inr ⟨ob, atA⟩)) (fun b u z => ?_) (fun b z => ?_) fun _ => lk
    · by_cases hb : b = a
      · exact .inr (.inr ⟨_, _, by rw [hb]; exact atA⟩)
      · by_cases ht : b ∈ ts
        · exact .inr (.inl ht)
        · exact .inl ((offA hb).trans (off0 ht))
    · by_cases hb : b = a
      · subst hb
        cases atA.symm.trans z
        exact ⟨ha, by rw [List.length_map]; exact short, vs, _, rel, ha⟩
      · have z1 := (offA hb).symm.trans z
        by_cases ht : b ∈ ts
        · cases (in0 ht).symm.trans z1
          exact empty b ht
        · exact nomatch (off0 ht).symm.trans z1
    · by_cases hb : b = a
      · exact .inl hb
      · by_cases ht : b ∈ ts
        · exact .inr ht
        · exact absurd ((offA hb).trans (off0 ht)) z
theorem walk_lawT {l : PySem.W.OpenLaw} {n : Nat} {q : Program} {loose : List Str} {XP : (Str → Option Value) → Heap → Prop} {YP : World → Heap → Prop} {d : DefRec} {x : Str} (hn : l.most = some n) (hz : n ≤ sizeLine) (noDfl : d.params.defaults = [])
    (F : ∀ (w : World) (mg : Str → Option Value) (fa : Addr) (h : Heap), YP w h → h.Ns mainGlobals mg → mg d.name = some (.ref fa) → ∃ (K : PySem.W.Frag) (fd : FuncData) (sp : Sp) (cs : List (Addr × Addr)), K.In h ∧ (∀ p ∈ cs, h.get? p.2 = some { cls := .none, data := .fields #[] }) ∧ (∀ p ∈ cs, K.lookup p.2 = none) ∧
      (∀ p ∈ cs, PySem.W.CodeHd h p.1 p.2) ∧ (∀ (s : Shared) (u : Value), BindsTo s fd ⟨[u], []⟩ [(x, u)]) ∧
      (∀ (H : Hp) (a : Addr) (ns : List Int), ns.length ≤ n → (∀ p ∈ cs, H p.2 = some (.tbl #[])) → SqL K H a (ns.map V.int) → sp [.ref a] H (fun v _ => v = .bl true) fun _ _ _ => False) ∧
      ∀ base : Heap, K.In base → base.Ns mainGlobals mg → (∀ p ∈ cs, TabB base mg p.1 p.2) → LawOk l.prog w K mg base fa fd x sp) :
    PySem.W.WalkO q loose XP YP l.row.toRowW d [] (fun f vs => PySem.call f vs) := by
  refine Att.attach_call hn noDfl fun w s₀ s₁ mg mb fa o pm cd doc a vs ns G Y ho hd hcd hmg hobj hints short gens => ?_
  obtain ⟨K, fd, sp, cs, KX, hT, nT, cod, bind, hs, hF⟩ := F w mg fa _ Y G.T.g hmg
  exact law_runT KX G.T.g G.T.b G.T.builtins G.T.nolimit gens hT nT cod G.T.bmain hobj hints (Nat.le_trans short hz) hF bind fun H tb seq => hs H a ns short tb seq
end V4

set_option maxHeartbeats 4000000
/-! V4b: len(set(t)), t a tuple of ints -/
namespace V4
open PySem PySem.Spec PyProof.Rows L2 V1 V2 V3
def tLenSetT (K : PySem.W.Frag) (ta : TE) : TE := fun σ H Q => ta σ H fun x H1 => ∃ (l : Addr) (ns : List Int), x = .ref l ∧ SqT K H1 l (ns.map V.int) ∧ ns.length ≤ 1000 ∧ ∀ c : Nat, c ≤ ns.length → Q (.int (c : Nat)) H1
theorem pe_lenSetT {X : Cx} {a : Expr} {ta : TE} {p p2 q pos : Pos} (hg : Gl X "len") (hm : X.mg "len" = none) (hg2 : Gl X "set") (hm2 : X.mg "set" = none) (ha : PE X a ta) (calm : X.calm = true := by rfl)
    (na : starEach [a] X.env = (false, eval a X.env) :: starEach [] X.env := by rfl) : PE X (.Call (.Name "len" p) [.Call (.Name "set" p2) [a] [] q] [] pos) (tLenSetT X.K ta) := by
  refine ⟨fun pins s σ H Q I h => Call_ (ld_blt I hg hm boot_len ?_)⟩
  refine PyProof.Rows.callWith_builtin1 (PyProof.Rows.args_cons (Call_ (ld_blt I hg2 hm2 boot_set ?_)) rfl) rfl rfl
  refine PyProof.Rows.callWith_type1 (PyProof.Rows.args_cons (thn (ha.run pins s σ H _ I h) ?_) na) na rfl
  rintro v s1 ⟨x, H1, J, rx, l, ns, rfl, hq, hz, k⟩
  refine PyProof.Rows.args_nil ?_
  cases rx
  obtain ⟨its, r, pl, _⟩ := J.tuple hq
  have small : ns.length + 1 < scanBound := by
    unfold scanBound
    omega
  refine call_set_tupI ns (J.ok.hd calm) pl (by simpa using r.ints) small fun g tk c hS hc kp => ?_
  refine PyProof.Rows.args_nil ?_
  obtain ⟨o, es, ep, t, ho, ex, dat, _, _, _, _, fit, cnt, _⟩ := hS
  have J2 : Inv X pins σ H1 { s1 with heap := g, toks := tk } := J.kept kp
  exact call_len_set ho ex dat fit (by omega) ⟨.int (c : Nat), H1, J2.tok _, ⟨_, by rw [cnt]⟩, k c hc⟩
end V4

set_option maxHeartbeats 4000000
/-! V4c: a text so often; isinstance of the caught exception, with a dict or without -/
namespace V4
open PySem PySem.Spec PyProof.Rows L2 V1 V2 V3
def rMulS : R2 := fun x y H Q => ∃ (z : Str) (n : Int), x = .str z ∧ y = .int n ∧ 1 ≤ n ∧ n ≤ 10000 ∧ z.length ≤ 1000 ∧ Q (.str (Txt.mul z n)) H
theorem op_mulS {X : Cx} : OpR X (binaryOp .Mult) rMulS := by
  rintro pins s σ H x y v u Q I rx ry ⟨z, n, rfl, rfl, n1, n2, zl, q⟩
  obtain ⟨t, rfl⟩ := rx
  obtain ⟨t', rfl⟩ := ry
  refine PySem.SB.mul ⟨?_, fun _ _ z => ?_, fun _ _ => ?_⟩ fun t2 k => ⟨.str _, H, I.tok _, ⟨_, rfl⟩, q⟩
  · rw [decide_eq_false (by omega), decide_eq_false (by omega)]
    rfl
  · have h : (1000 : Int) ≤ (2 ^ 63 - 1) / n := by
      refine (Int.le_ediv_iff_mul_le (by omega)).mpr ?_
      omega
    omega
  · unfold PySem.Builtin.Str.tooLong
    have h : z.length * n.toNat ≤ 1000 * 10000 := Nat.mul_le_mul zl (by omega)
    have e : sizeLine = 16777216 := by rw [sizeLine_eq]
    simp only [decide_eq_false_iff_not]
    omega
/-- the caught exception: its class, and its dict if it has one -/
def ExIs (H : Hp) (C : Addr) (cls : Value) (d : Option Addr) : Prop := cls = .ref C ∧ (d = none ∨ ∃ dd fs, d = some dd ∧ H dd = some (.xd fs))
def rIsO (K : PySem.W.Frag) (a : Addr) (cls : Value) (d : Option Addr) : List V → Hp → VK → Prop := fun xs H Q => ∃ (C : Addr) (bm : List Value) (c : V) (u : Value) (b : Bool), xs = [.ref a, c] ∧ ExIs H C cls d ∧ ClsV c u ∧ ExK K C bm ∧ ClsAttr K ∧ (Value.ref C :: bm).contains (.type "BaseException") = true ∧ (Value.ref C :: bm).contains (.type "object") = true ∧
  PySem.W.kitOne K (.ref C) u = some b ∧ Q (.bl b) H
theorem call_isO {X : Cx} {a : Addr} {oe : Obj} {cls : Value} {d : Option Addr} {pn : List (Addr × Obj)} (hz : Zc cls d oe) (hf : ∃ vs, oe.data = .fields vs) : CallR (X.suite a ((a, oe) :: pn)) (.builtin "isinstance") (rIsO X.K a cls d) := by
  intro pins s σ H xs us Q I r h
  obtain ⟨C, bm, c, u, b, rfl, ⟨rfl, hd⟩, k, T, cA, hB, hO, e, q⟩ := h
  rcases hd with rfl | ⟨dd, fs, rfl, hx⟩
  · obtain ⟨w1, w2, rfl, r1, r2⟩ := vals2 r
    obtain rfl : w1 = Value.ref a := r1
    have e2 := k.eq r2
    subst e2
    obtain ⟨ha, _⟩ := I.pin (a, oe) (List.mem_append_left _ List.mem_cons_self)
    obtain ⟨vs, hdt⟩ := hf
    have J : PySem.W.InstAt s.heap a oe C none := ⟨ha, hz.1, by unfold PySem.W.notCls; rw [hdt] <;> rfl, by rw [show oe.dict = none from hz.2] <;> trivial⟩
    exact PySem.W.kia_one (PySem.W.kitx_exc T.isCls T.ga T.gg (by rw [T.sub, hB]) T.cl cA.gs cA.tk (by rw [T.mro, hO])) I.kIn J e (fun z => nomatch z) fun tk => ⟨.bl b, H, I.tok tk, rfl, q⟩
  · exact call_isXd T cA hB hO hz hf pins s σ H _ _ Q I r ⟨rfl, c, u, b, dd, fs, rfl, k, e, rfl, hx, q⟩
end V4

set_option maxHeartbeats 4000000
/-! V4d: t[::-1] of a tuple; data made beside a hand -/
namespace V4
open PySem PySem.Spec PyProof.Rows L2 V1 V2 V3
section
variable {prog : Program} {w : World} {A : Around} {E : Value → Shared → Prop} {s : Shared}
theorem back_adjust (n : Nat) : Builtin.Slice.sliceAdjust none none (-1) (n : Int) = ((n : Int) - 1, -1) := by
  unfold Builtin.Slice.sliceAdjust
  simp
theorem back_places (n : Nat) : Builtin.Slice.slicePlaces ((n : Int) - 1) (-1) (-1) = n := by
  unfold Builtin.Slice.slicePlaces
  simp
  omega
theorem fm_map {α β : Type} {f : α → Option β} {g : α → β} : ∀ {l : List α}, (∀ m ∈ l, f m = some (g m)) → l.filterMap f = l.map g
  | [], _ => rfl
  | m :: l, h => by
    rw [List.filterMap_cons, h m List.mem_cons_self, List.map_cons, fm_map fun x hx => h x (List.mem_cons_of_mem _ hx)]
theorem back_pick (xs : Array Value) : ((List.range xs.size).filterMap fun (m : Nat) => xs[((xs.size : Int) - 1 + (m : Int) * (-1)).toNat]?).toArray = xs.toList.reverse.toArray := by
  congr 1
  have e : ∀ m ∈ List.range xs.size, xs[((xs.size : Int) - 1 + (m : Int) * (-1)).toNat]? = some (xs.toList.reverse.getD m .none) := by
    intro m hm
    have hm' := List.mem_range.mp hm
    have h1 : ((xs.size : Int) - 1 + (m : Int) * (-1)).toNat = xs.size - 1 - m := by omega
    rw [h1]
    have h2 : xs.size - 1 - m < xs.size := by omega
    rw [List.getD_eq_getElem?_getD, List.getElem?_reverse (by simpa using hm')]
    simp [h2]
  rw [fm_map e]
  refine List.ext_getElem (by simp) fun i h1 h2 => ?_
  simp at h1
  simp [List.getD, h1]
theorem back_applied {sl : Addr} {vs : Value} {n : Nat} {Q : Int × Int × Nat → Shared → Prop} (hs : s.heap.IsSliceOf sl .none .none vs) (ps : IsPart vs (some (-1))) (h : Q ((n : Int) - 1, -1, n) s) :
    wpAny (model prog w) A (Builtin.Slice.sliceApplied (.ref sl) (pure (n : Int))) Q E s := by
  obtain ⟨os, hos, hcs, hds⟩ := id hs
  unfold Builtin.Slice.sliceApplied Builtin.Slice.sliceFields
  refine wpAny_bind (wpAny_bind (wpAny_field hos hds (x := .none) rfl (wpAny_bind (wpAny_field hos hds (x := .none) rfl (wpAny_bind (wpAny_field hos hds (x := vs) rfl (wpAny_pure ?_)))))))
  refine wpAny_bind (HT.slicePart_ ps ?_)
  show wpAny _ _ (if ((-1 : Int) == 0) = true then _ else _) _ _ s
  rw [if_neg (by decide)]
  refine wpAny_bind (HT.slicePart_ .none (wpAny_bind (HT.slicePart_ .none (wpAny_bind (wpAny_pure ?_)))))
  show wpAny _ _ (match Builtin.Slice.sliceAdjust none none (-1) (n : Int) with | (lo, hi) => pure (lo, (-1 : Int), Builtin.Slice.slicePlaces lo hi (-1))) _ _ s
  rw [back_adjust n]
  show wpAny _ _ (pure ((n : Int) - 1, (-1 : Int), Builtin.Slice.slicePlaces ((n : Int) - 1) (-1) (-1))) _ _ s
  rw [back_places]
  exact wpAny_pure h
theorem getItem_tuple_back {t sl : Addr} {items : Array Value} {vs : Value} {Q : Value → Shared → Prop} (ht : IsTup s.heap t items) (hs : s.heap.IsSliceOf sl .none .none vs) (ps : IsPart vs (some (-1)))
    (h : Q (.ref s.heap.objs.size) { s with heap := s.heap.push { cls := .type "tuple", data := .seq items.toList.reverse.toArray } }) (small : items.size ≤ sizeLine) : wpAny (model prog w) A (getItem (.ref t) (.ref sl)) Q E s := by
  have fits : sizeOk (.seq items.toList.reverse.toArray) := by
    show items.toList.reverse.toArray.size ≤ sizeLine
    simp
    exact small
  obtain ⟨os, hos, hcs, hds⟩ := id hs
  have kind : s.TypeIs (.ref sl) "slice" := ⟨os, hos, hcs⟩
  unfold getItem
  try with_reducible refine wpAny_holding ?_
  first | refine wpAny_bind (wpAny_pure ?_) | skip
  refine wpAny_bind (wpAny_sequenceKey ht.typeIs (by decide) (wpAny_bind (wpAny_callSpecial?_slot (name := Str.ofString "__getitem__") ht.typeIs PyProof.Rows.slot_tuple_getitem (wpAny_call_entry PyProof.Rows.slot_tuple_getitem ht.typeIs entry_tuple_getitem ?_ (args_tuple_getitem _ _)))))
  show wpAny _ _ (Builtin.Tuple.tupleItemsOf (.ref t) >>= _) _ _ s
  refine wpAny_bind (tupleItemsOf_ ht (wpAny_bind (wpAny_typeOf kind ?_)))
  rw [if_pos (by decide)]
  refine wpAny_bind (back_applied hs ps ?_)
  have part : ¬ ((((items.size : Int) - 1) == 0 && (-1 : Int) == 1 && items.size == items.size) = true) := by
    rw [show ((-1 : Int) == 1) = false from rfl, Bool.and_false, Bool.false_and]
    decide
  show wpAny _ _ (if (((items.size : Int) - 1) == 0 && (-1 : Int) == 1 && items.size == items.size) = true then _ else _) _ _ s
  rw [if_neg part, back_pick]
  first
    | exact wpAny_bind (m := Builtin.Tuple.tupleExact _) (wpAny_newObj_type (wpAny_pure ⟨_, rfl, wpAny_pure h⟩) fits)
    | exact wpAny_bind (m := Builtin.Tuple.tupleExact _) (wpAny_newObj_type (wpAny_bind (wpAny_pure (wpAny_pure ⟨_, rfl, wpAny_pure h⟩))) fits)
    | exact wpAny_bind (wpAny_bind (m := Builtin.Tuple.tupleExact _) (wpAny_newObj_type (wpAny_pure (wpAny_pure ⟨_, rfl, wpAny_pure h⟩)) fits))
    | exact wpAny_bind (wpAny_bind (m := Builtin.Tuple.tupleExact _) (wpAny_newObj_type (wpAny_pure ⟨_, rfl, wpAny_pure h⟩) fits))
end
/-- t[::-1] -/
def tBackT (K : PySem.W.Frag) (te : TE) : TE := fun σ H Q => te σ H fun x H1 => ∃ a xs, x = .ref a ∧ SqT K H1 a xs ∧ ∀ p, H1 p = none → Q (.ref p) (upd H1 p (.tup xs.reverse))
theorem pe_backT {X : Cx} {e : Expr} {te : TE} {k : Nat} {p1 p2 p3 pos : Pos} (he : PE X e te) : PE X (.Subscript e (.Slice none none (some (.UnaryOp .USub (.Constant (.int 1) k p1) p2)) p3) pos) (tBackT X.K te) := by
  refine ⟨fun pins s σ H Q I h => Subscript_ (thn (he.run pins s σ H _ I h) ?_)⟩
  rintro v s1 ⟨x, H1, I1, r1, a, xs, rfl, hx, q⟩
  cases r1
  have step : PO X (some (.UnaryOp .USub (.Constant (.int 1) k p1) p2)) (tPart (tUn (rU fun i => .int (-i)) (tC (.int 1)))) := po_some (pe_un un_neg pe_int)
  refine wpAny_Slice (thn (po_none.run pins s1 σ H1 (fun o H2 => o = none ∧ H2 = H1) I1 ⟨rfl, rfl⟩) ?_)
  rintro vl s2 ⟨l, H2, I2, pl, rfl, rfl⟩
  cases pl
  refine thn (po_none.run pins s2 σ H2 (fun o H3 => o = none ∧ H3 = H2) I2 ⟨rfl, rfl⟩) ?_
  rintro vu s3 ⟨u, H3, I3, pu, rfl, rfl⟩
  cases pu
  refine thn (step.run pins s3 σ H3 (fun o H4 => o = some (-1) ∧ H4 = H3) I3 ⟨1, rfl, -1, rfl, rfl, rfl⟩) ?_
  rintro vs s4 ⟨o, H4, I4, ps, rfl, rfl⟩
  have I5 : Inv X pins σ H4 { s4 with heap := s4.heap.push { cls := .type "slice", data := .fields #[.none, .none, vs] } } := I4.kept (t' := s4.toks) fun b ob q => Heap.get?_push_of_some _ q
  obtain ⟨its, r, ht, hz⟩ := I5.tuple hx
  have len := r.length
  show wpAny (model X.prog X.w) X.A (subscriptTail e (.Slice none none (some (.UnaryOp .USub (.Constant (.int 1) k p1) p2)) p3) (.ref a) (.ref s4.heap.objs.size)) (EP X pins σ Q) X.xe { s4 with heap := s4.heap.push { cls := .type "slice", data := .fields #[.none, .none, vs] } }
  refine tail_any (ops := [.ref a, .ref s4.heap.objs.size]) ht.typeIs PyProof.Rows.slot_tuple_getitem.lookup ?_ (by with_unfolding_all rfl)
  refine getItem_tuple_back ht (Heap.IsSliceOf.new _ .none .none vs) ps ?_ (by rw [List.size_toArray]; omega)
  refine ⟨.ref _, _, I5.laid (t' := s4.toks) (o := .tup xs.reverse) (fun b ob q => Heap.get?_push_of_some _ q) (Nat.le_refl _) ?_, rfl, q _ (I5.hok.fresh (Nat.le_refl _))⟩
  exact ⟨by rw [List.length_reverse]; exact hz, _, r.reverse, IsTup.new _ _⟩
end V4

set_option maxHeartbeats 4000000
/-! V4e: data made beside a hand: of old and new parts; how long their texts are -/
namespace V4
open PySem PySem.Spec PyProof.Rows L2 V1 V2 V3
open Evl (sq_of st_of)
theorem DxAll.rep [CurK] {H : Hp} {vs : List V} {ds : List PyData} (h : DxAll H vs ds) : ∀ n : Nat, DxAll H (List.replicate n vs).flatten (List.replicate n ds).flatten
  | 0 => .nil
  | n + 1 => by
    rw [List.replicate_succ, List.replicate_succ, List.flatten_cons, List.flatten_cons]
    exact DxAll.app h (DxAll.rep h n)
theorem DxAll.snoc [CurK] {H : Hp} {v : V} {d : PyData} : ∀ {vs : List V} {ds : List PyData}, DxAll H vs ds → Dx H v d → DxAll H (vs ++ [v]) (ds ++ [d])
  | _, _, h, hv => DxAll.app h (.cons hv .nil)
theorem DxAll.back [CurK] {H : Hp} : ∀ {vs : List V} {ds : List PyData}, DxAll H vs ds → DxAll H vs.reverse ds.reverse
  | _, _, .nil => .nil
  | _, _, .cons one more => by
    rw [List.reverse_cons, List.reverse_cons]
    exact DxAll.snoc (DxAll.back more) one
/-- a part of a list, as a slice takes it -/
def cutD (ds : List PyData) (lo hi : Option Int) : List PyData := (ds.drop (HT.sIx ds.length 0 lo)).take (HT.sIx ds.length ds.length hi - HT.sIx ds.length 0 lo)
section
variable [CurK] {σ : L2.St} {H0 : Hp} {a : Addr} {d : PyData} {ds es : List PyData} {te t1 t2 : TE} {ta : TA}
theorem mky_of (ha : Held H0 a) (h : MkX te σ d) : MkY H0 a te σ d := fun H s Q k => h H Q fun v H' s' q => k v H' s' (Dx.same (newH_off (ha.same s)) _ _ q)
theorem mkya_nil : MkYA H0 a tNil σ [] := fun H _ _ k => k [] H (Same.refl H) .nil
theorem mkya_cons (h : MkY H0 a te σ d) (r : MkYA H0 a ta σ ds) : MkYA H0 a (tCons te ta) σ (d :: ds) := fun H s _ k => h H s _ fun v H1 s1 q1 => r H1 (s.trans s1) _ fun vs H2 s2 q2 =>
  k (v :: vs) H2 (s1.trans s2) (.cons (Dx.same (same_del s2) d v q1) q2)
theorem mky_tup (ha : Held H0 a) (r : MkYA H0 a ta σ ds) (hz : ds.length ≤ 1000) : MkY H0 a (tTup ta) σ (.tuple ds) := fun H s _ k => r H s _ fun vs H1 s1 q1 =>
  ⟨Nat.le_of_lt (small1000 (by rw [dxAll_len q1]; exact hz)), fun p n => k _ _ (s1.trans (same_new n)) (.tup (((ha.same s).same s1).off n upd_same) (DxAll.same (same_del (same_new n)) ds vs q1))⟩
theorem mky_lst (ha : Held H0 a) (r : MkYA H0 a ta σ ds) (hz : ds.length ≤ 1000) : MkY H0 a (tLstS ta) σ (.list ds) := fun H s _ k => r H s _ fun vs H1 s1 q1 =>
  ⟨Nat.le_of_lt (small1000 (by rw [dxAll_len q1]; exact hz)), fun p n low => k _ _ (s1.trans (same_new n)) (.lst (((ha.same s).same s1).off n upd_same) low (DxAll.same (same_del (same_new n)) ds vs q1))⟩
theorem mky_var {i : Nat} {v : V} (h : Dx (delH H0 a) v d) (hv : σ[i]? = some (some v)) : MkY H0 a (tVar i) σ d := fun H s Q k => ⟨v, hv, k v H (Same.refl H) (Dx.same (same_del s) _ _ h)⟩
theorem tup_at {H : Hp} {v : V} (h : Dx (delH H a) v (.tuple ds)) : ∃ p xs, v = .ref p ∧ H p = some (.tup xs) ∧ DxAll (delH H a) xs ds ∧ xs.length = ds.length := by
  obtain ⟨p, xs, rfl, e, r⟩ := Dx.tup_inv h
  exact ⟨p, xs, rfl, same_delH _ _ e, r, dxAll_len r⟩
theorem lst_at {H : Hp} {v : V} (h : Dx (delH H a) v (.list ds)) : ∃ p xs, v = .ref p ∧ H p = some (.lst xs) ∧ DxAll (delH H a) xs ds ∧ xs.length = ds.length := by
  obtain ⟨p, xs, rfl, e, _, r⟩ := Dx.lst_inv h
  exact ⟨p, xs, rfl, same_delH _ _ e, r, dxAll_len r⟩
/-- t + u, neither empty -/
theorem mky_cat (ha : Held H0 a) (h1 : MkY H0 a t1 σ (.tuple ds)) (h2 : MkY H0 a t2 σ (.tuple es)) (n1 : ds ≠ []) (n2 : es ≠ []) (l : ds.length + es.length ≤ 5000) : MkY H0 a (tOp (rCatT K) t1 t2) σ (.tuple (ds ++ es)) := fun H s Q k =>
  h1 H s _ fun v H1 s1 q1 => h2 H1 (s.trans s1) _ fun u H2 s2 q2 => by
    obtain ⟨p, xs, rfl, e1, r1, l1⟩ := tup_at (Dx.same (same_del s2) _ _ q1)
    obtain ⟨q, ys, rfl, e2, r2, l2⟩ := tup_at q2
    refine ⟨p, q, xs, ys, rfl, rfl, st_of e1, st_of e2, fun z => n1 (List.length_eq_zero_iff.mp (by rw [← l1, z]; rfl)), by rw [sizeLine_eq]; omega, fun z => absurd (List.length_eq_zero_iff.mp (by rw [← l2, z]; rfl)) n2, fun _ c nc => ?_⟩
    exact k _ _ ((s1.trans s2).trans (same_new nc)) (.tup ((((ha.same s).same s1).same s2).off nc upd_same) (DxAll.same (same_del (same_new nc)) _ _ (DxAll.app r1 r2)))
/-- t * k -/
theorem mky_rep {n : Nat} (ha : Held H0 a) (h1 : MkY H0 a t1 σ (.tuple ds)) (n1 : ds ≠ []) (k1 : 2 ≤ n) (k2 : n ≤ 1000) (l : ds.length ≤ 1000) : MkY H0 a (tOp (rRepT K) t1 (tC (.int ((n : Nat) : Int)))) σ (.tuple (List.replicate n ds).flatten) := fun H s Q k =>
  h1 H s _ fun v H1 s1 q1 => by
    obtain ⟨p, xs, rfl, e1, r1, l1⟩ := tup_at q1
    refine ⟨p, (n : Int), xs, rfl, rfl, st_of e1, fun z => n1 (List.length_eq_zero_iff.mp (by rw [← l1, z]; rfl)), by omega, by omega, by omega, fun c nc => ?_⟩
    rw [Int.toNat_natCast]
    exact k _ _ (s1.trans (same_new nc)) (.tup (((ha.same s).same s1).off nc upd_same) (DxAll.same (same_del (same_new nc)) _ _ (DxAll.rep r1 n)))
/-- t[::-1] -/
theorem mky_back (ha : Held H0 a) (h1 : MkY H0 a t1 σ (.tuple ds)) : MkY H0 a (tBackT K t1) σ (.tuple ds.reverse) := fun H s Q k =>
  h1 H s _ fun v H1 s1 q1 => by
    obtain ⟨p, xs, rfl, e1, r1, l1⟩ := tup_at q1
    exact ⟨p, xs, rfl, st_of e1, fun c nc => k _ _ (s1.trans (same_new nc)) (.tup (((ha.same s).same s1).off nc upd_same) (DxAll.same (same_del (same_new nc)) _ _ (DxAll.back r1)))⟩
/-- t[lo:hi], its bounds ints or left out -/
theorem mky_cut {tl th : TO} {lo hi : Option Int} (ha : Held H0 a) (h1 : MkY H0 a t1 σ (.tuple ds)) (hl : ∀ (H : Hp) (Q : Option Int → Hp → Prop), Q lo H → tl σ H Q) (hh : ∀ (H : Hp) (Q : Option Int → Hp → Prop), Q hi H → th σ H Q) :
    MkY H0 a (tSl (rSlA K) t1 tl th) σ (.tuple (cutD ds lo hi)) := fun H s Q k =>
  h1 H s _ fun v H1 s1 q1 => hl H1 _ (hh H1 _ (by
    obtain ⟨p, xs, rfl, e1, r1, l1⟩ := tup_at q1
    refine ⟨p, xs, rfl, st_of e1, fun whole => ?_, fun _ c nc => ?_⟩
    · have z : cutD ds lo hi = ds := by
        rw [l1] at whole
        unfold cutD
        rw [whole.1, whole.2]
        simp
      exact k _ _ s1 (by rw [z]; exact q1)
    · refine k _ _ (s1.trans (same_new nc)) (.tup (((ha.same s).same s1).off nc upd_same) (DxAll.same (same_del (same_new nc)) _ _ ?_))
      unfold cutV cutD
      rw [l1]
      exact DxAll.take _ (DxAll.drop _ r1)))
theorem cutD_take {ds : List PyData} {k : Nat} : cutD ds none (some ((k : Nat) : Int)) = ds.take k := by
  unfold cutD
  rw [HT.sIx_none, HT.sIx_nat]
  simp [Nat.min_comm]
theorem cutD_last {ds : List PyData} (h : ds ≠ []) : cutD ds (some (-1)) none = ds.drop (ds.length - 1) := by
  have l := List.length_pos_iff.mpr h
  unfold cutD
  rw [HT.sIx_none]
  have e : HT.sIx ds.length 0 (some (-1)) = ds.length - 1 := by
    unfold HT.sIx
    simp only
    rw [if_pos (by decide)]
    omega
  rw [e]
  exact List.take_of_length_le (by rw [List.length_drop]; omega)
/-- xs + ys of two lists -/
theorem mky_catL (ha : Held H0 a) (h1 : MkY H0 a t1 σ (.list ds)) (h2 : MkY H0 a t2 σ (.list es)) (l : ds.length + es.length ≤ 5000) : ∀ H, Same H0 H → ∀ Q : VK, (∀ p xs H', Same H H' → H p = none → H' p = some (.lst xs) → DxAll (delH H' a) xs (ds ++ es) → Q (.ref p) H') → tOp rCat t1 t2 σ H Q := fun H s Q k =>
  h1 H s _ fun v H1 s1 q1 => h2 H1 (s.trans s1) _ fun u H2 s2 q2 => by
    obtain ⟨p, xs, rfl, e1, r1, l1⟩ := lst_at (Dx.same (same_del s2) _ _ q1)
    obtain ⟨q, ys, rfl, e2, r2, l2⟩ := lst_at q2
    refine ⟨p, q, xs, ys, rfl, rfl, e1, e2, by rw [sizeLine_eq]; omega, fun c nc => ?_⟩
    exact k c _ _ ((s1.trans s2).trans (same_new nc)) (fresh_up (s1.trans s2) nc) upd_same (DxAll.same (same_del (same_new nc)) _ _ (DxAll.app r1 r2))
/-- list(t) -/
theorem mky_listof (ha : Held H0 a) (h1 : MkY H0 a t1 σ (.tuple ds)) : MkY H0 a (tCB (fun xs H Q => ∃ p ys, xs = [.ref p] ∧ (SqL K H p ys ∨ SqT K H p ys) ∧ ∀ l, H l = none → (l == sysModules) = false → Q (.ref l) (upd H l (.lst ys))) (tCons t1 tNil)) σ (.list ds) := fun H s Q k =>
  h1 H s _ fun v H1 s1 q1 => by
    obtain ⟨p, xs, rfl, e1, r1, l1⟩ := tup_at q1
    exact ⟨p, xs, rfl, .inr (st_of e1), fun c nc low => k _ _ (s1.trans (same_new nc)) (.lst (((ha.same s).same s1).off nc upd_same) low (DxAll.same (same_del (same_new nc)) _ _ r1))⟩
theorem mkx_pow19 : MkX (tOp (rI CPow fun i j => V.int (i ^ j.toNat)) (tC (.int 10)) (tC (.int 19))) σ (.int (10 ^ 19)) := fun H Q k => ⟨10, 19, rfl, rfl, ⟨by decide, by decide, by decide⟩, k _ H (Same.refl H) (.int _)⟩
theorem mkx_neg (i : Int) : MkX (tUn (rU fun i => V.int (-i)) (tC (.int i))) σ (.int (-i)) := fun H Q k => ⟨i, rfl, k _ H (Same.refl H) (.int _)⟩
theorem mkx_mulS (z : Str) (n : Int) (h1 : 1 ≤ n) (h2 : n ≤ 10000) (h3 : z.length ≤ 1000) : MkX (tOp rMulS (tC (.str z)) (tC (.int n))) σ (.str (Txt.mul z n)) := fun H Q k => ⟨z, n, rfl, rfl, h1, h2, h3, k _ H (Same.refl H) (.str _)⟩
theorem mkx_dictI (i : Int) (j : Int) : MkX (tDisp [(tC (.int i), tC (.int j))]) σ (.dict [(.int i, .int j)]) := fun H _ k p n =>
  ⟨upd_same, [(.inl i, .int j)], rfl, (by show 1 ≤ 15; decide), by
    rw [upd_upd]
    exact k _ _ (same_new n) (.dct (kvs := [(.inl i, .int j)]) (by rw [newH_at n]; exact upd_same) (.cons (k := .inl i) (.int j) .nil))⟩
theorem mkx_dictS (x y : Str) : MkX (tDisp [(tC (.str x), tC (.str y))]) σ (.dict [(.str x, .str y)]) := fun H _ k p n =>
  ⟨upd_same, [(.inr x, .str y)], rfl, (by show 1 ≤ 15; decide), by
    rw [upd_upd]
    exact k _ _ (same_new n) (.dct (kvs := [(.inr x, .str y)]) (by rw [newH_at n]; exact upd_same) (.cons (k := .inr x) (.str y) .nil))⟩
end
/-! data without objects -/
mutual
def noOb : PyData → Bool
  | .none | .bool _ | .int _ | .str _ => true
  | .list xs | .tuple xs => noObAll xs
  | .dict kvs => noObKv kvs
def noObAll : List PyData → Bool
  | [] => true
  | x :: xs => noOb x && noObAll xs
def noObKv : List (PyData × PyData) → Bool
  | [] => true
  | (.none, _) :: _ => false
  | (_, v) :: r => noOb v && noObKv r
end
mutual
theorem dq_of2 [CurK] {H : Hp} : ∀ (d : PyData) (v : V), noOb d = true → Dx H v d → Dq H v d
  | .none, _, _, h => by cases h; exact .non
  | .bool b, _, _, h => by cases h; exact .bl b
  | .int i, _, _, h => by cases h; exact .int i
  | .str x, _, _, h => by cases h; exact .str x
  | .list ds, _, p, h => by
    cases h with
    | lst at_ low rest => exact .lst at_ low (dqAll_of2 ds _ (by simpa [noOb] using p) rest)
  | .tuple ds, _, p, h => by
    cases h with
    | tup at_ rest => exact .tup at_ (dqAll_of2 ds _ (by simpa [noOb] using p) rest)
  | .dict ds, v, p, h => by
    have p' : noObKv ds = true := by simpa [noOb] using p
    generalize hd : PyData.dict ds = d at h
    cases h with
    | dct at_ rest =>
      cases hd
      exact .dct at_ (dqKv_of2 ds _ p' rest)
    | ob at_ ok =>
      cases hd
      cases p'
    | _ => cases hd
theorem dqAll_of2 [CurK] {H : Hp} : ∀ (ds : List PyData) (vs : List V), noObAll ds = true → DxAll H vs ds → DqAll H vs ds
  | [], _, _, h => by cases h; exact .nil
  | d :: ds, _, p, h => by
    cases h with
    | cons one more =>
      have p' : noOb d = true ∧ noObAll ds = true := by simpa [noObAll] using p
      exact .cons (dq_of2 d _ p'.1 one) (dqAll_of2 ds _ p'.2 more)
theorem dqKv_of2 [CurK] {H : Hp} : ∀ (ds : List (PyData × PyData)) (kvs : List (Key × V)), noObKv ds = true → DxKv H kvs ds → DqKv H kvs ds
  | [], _, _, h => by cases h; exact .nil
  | (k, d) :: ds, _, p, h => by
    cases h with
    | @cons key _ _ _ _ one more =>
      have p' : noOb d = true ∧ noObKv ds = true := by
        cases key with
        | inl i => simpa [noObKv, keyD] using p
        | inr x => simpa [noObKv, keyD] using p
      exact .cons (dq_of2 d _ p'.1 one) (dqKv_of2 ds _ p'.2 more)
end
theorem noObAll_of : ∀ {ds : List PyData}, (∀ d ∈ ds, noOb d = true) → noObAll ds = true
  | [], _ => rfl
  | d :: ds, h => by
    simp only [noObAll, h d List.mem_cons_self, noObAll_of fun x hx => h x (List.mem_cons_of_mem _ hx), Bool.and_self]
section
theorem good_tupN {ds : List PyData} {b n k : Nat} (h : ∀ d ∈ ds, Good d b n) (l : ds.length ≤ k) : Good (.tuple ds) (b + 1) ((n + 2) * k + 3) := by
  have all : ∀ es : List PyData, (∀ d ∈ es, Good d b n) → PyData.showableAll es = true ∧ PyData.depthAll es ≤ b ∧ ((PyData.shownAll es).map (·.length)).sum ≤ n * es.length ∧ (PyData.shownAll es).length = es.length := by
    intro es
    induction es with
    | nil => exact fun _ => ⟨rfl, Nat.zero_le _, Nat.zero_le _, rfl⟩
    | cons e es ih =>
      intro he
      obtain ⟨i1, i2, i3, i4⟩ := ih fun d hd => he d (List.mem_cons_of_mem _ hd)
      have g := he e List.mem_cons_self
      refine ⟨?_, ?_, ?_, ?_⟩
      · simp only [PyData.showableAll, g.sh, i1, Bool.and_self]
      · simp only [PyData.depthAll]
        have := g.dp
        omega
      · simp only [PyData.shownAll, List.map_cons, List.sum_cons, List.length_cons]
        have := g.ln
        rw [Nat.mul_succ]
        omega
      · simp only [PyData.shownAll, List.length_cons, i4]
  obtain ⟨a1, a2, a3, a4⟩ := all ds h
  refine ⟨by simpa only [PyData.showable] using a1, by simp only [PyData.depth]; omega, ?_⟩
  simp only [PyData.shown]
  have z := tupleText_len_le (PyData.shownAll ds)
  rw [a4] at z
  have m1 : n * ds.length ≤ n * k := Nat.mul_le_mul_left n l
  have m2 : (n + 2) * k = n * k + 2 * k := Nat.add_mul n 2 k
  omega
theorem good_lstN {ds : List PyData} {b n k : Nat} (h : ∀ d ∈ ds, Good d b n) (l : ds.length ≤ k) : Good (.list ds) (b + 1) ((n + 2) * k + 3) := by
  have g := good_tupN h l
  have all : ∀ es : List PyData, (∀ d ∈ es, Good d b n) → ((PyData.shownAll es).map (·.length)).sum ≤ n * es.length ∧ (PyData.shownAll es).length = es.length := by
    intro es
    induction es with
    | nil => exact fun _ => ⟨Nat.zero_le _, rfl⟩
    | cons e es ih =>
      intro he
      obtain ⟨i3, i4⟩ := ih fun d hd => he d (List.mem_cons_of_mem _ hd)
      have g := he e List.mem_cons_self
      refine ⟨?_, ?_⟩
      · simp only [PyData.shownAll, List.map_cons, List.sum_cons, List.length_cons]
        have := g.ln
        rw [Nat.mul_succ]
        omega
      · simp only [PyData.shownAll, List.length_cons, i4]
  obtain ⟨a3, a4⟩ := all ds h
  refine ⟨by simpa only [PyData.showable] using g.sh, by simpa only [PyData.depth] using g.dp, ?_⟩
  simp only [PyData.shown]
  have z := listText_len_le (PyData.shownAll ds)
  rw [a4] at z
  have m1 : n * ds.length ≤ n * k := Nat.mul_le_mul_left n l
  have m2 : (n + 2) * k = n * k + 2 * k := Nat.add_mul n 2 k
  omega
/-- data that can be shown, and has no objects -/
structure Shw (d : PyData) : Prop where
  no : noOb d = true
  gd : Good d 50 100000
def shwB (d : PyData) : Bool := noOb d && (d.showable && (decide (d.depth ≤ 50) && decide (d.shown.length ≤ 100000)))
theorem shw_of {d : PyData} (h : shwB d = true) : Shw d := by
  unfold shwB at h
  simp only [Bool.and_eq_true, decide_eq_true_eq] at h
  exact ⟨h.1, h.2.1, h.2.2.1, h.2.2.2⟩
theorem shw_tup {ds : List PyData} {b n k : Nat} (h : ∀ d ∈ ds, noOb d = true ∧ Good d b n) (l : ds.length ≤ k) (hb : b + 1 ≤ 50) (hn : (n + 2) * k + 3 ≤ 100000) : Shw (.tuple ds) :=
  ⟨by simpa only [noOb] using noObAll_of fun d hd => (h d hd).1, (good_tupN (fun d hd => (h d hd).2) l).mono hb hn⟩
theorem shw_lst {ds : List PyData} {b n k : Nat} (h : ∀ d ∈ ds, noOb d = true ∧ Good d b n) (l : ds.length ≤ k) (hb : b + 1 ≤ 50) (hn : (n + 2) * k + 3 ≤ 100000) : Shw (.list ds) :=
  ⟨by simpa only [noOb] using noObAll_of fun d hd => (h d hd).1, (good_lstN (fun d hd => (h d hd).2) l).mono hb hn⟩
end
end V4

set_option maxHeartbeats 4000000
/-! V4f: how often a flag stands in a list; a lambda without parameters handed to a def that catches what it lets out -/
namespace V4
open PySem PySem.Spec PyProof.Rows L2 V1 V2 V3 LamX
def rCntB (K : PySem.W.Frag) : V → List V → Hp → VK → Prop := fun x xs H Q => ∃ (p : Addr) (bs : List Bool) (k : Bool), x = .ref p ∧ xs = [.bl k] ∧ SqL K H p (bs.map V.bl) ∧ Q (.int (bs.count k : Nat)) H
theorem flat_bools : ∀ bs : List Bool, (bs.map V.bl).all flatV = true
  | [] => rfl
  | b :: bs => by
    rw [List.map_cons, List.all_cons, flat_bools bs]
    rfl
theorem cnt_bools {k : Bool} : ∀ {bs : List Bool} {us : List Value}, Vals (bs.map V.bl) us → us.countP (eqU (.bl k)) = bs.count k
  | [], _, .nil => rfl
  | b :: bs, _, .cons r t => by
    cases r
    rw [List.countP_cons, cnt_bools t, List.count_cons]
    have z : eqU (.bl k) (Value.bool b) = (b == k) := by cases b <;> cases k <;> rfl
    rw [z]
theorem mt_countB {X : Cx} : MtR X "list.count" (rCntB X.K) := by
  rintro pins s σ H x xs v us Q I rx rxs ⟨p, bs, k, rfl, rfl, hs, q⟩
  cases rx
  obtain ⟨u, rfl, ru⟩ := rxs.one
  obtain ⟨its, rv, ⟨⟨cls, dd, dat, sl⟩, n, ho, hc, hdn, hd⟩, _⟩ := I.list hs
  simp only at hc hd
  subst hc hd
  refine call_meets PySem.F.slot_list_count ⟨_, ho, rfl⟩ PySem.F.entry_list_count (PySem.F.args_list_count_2 _ _) (SeqAt.list_countAt p its.toArray n dd sl u (eqU (.bl k)))
    ⟨ho, fun y hy => mem_eqAt ru rfl rv (flat_bools bs) y (by simpa using hy), ?_⟩
  refine ⟨.int (bs.count k : Nat), H, I.tok _, ⟨s.toks, ?_⟩, q⟩
  show Value.int ((its.toArray.toList.countP (eqU (.bl k)) : Nat) : Int) s.toks = _
  rw [show its.toArray.toList = its from rfl, cnt_bools rv]
section
variable {X : Cx} {pins : List (Addr × Obj)} {σ : L2.St} {H : Hp} {s : Shared}
/-- the context of the def g that got a lambda -/
abbrev inP (P : Program) (w : World) (K : PySem.W.Frag) (mg : Str → Option Value) (base : Heap) (A : Around) (st : List Env) (Ng : List Str) (x : Str) (sg : Scope) (g : Addr) (cdg : Value) (s : Shared) (H : Hp) : Cx := cxOf C8.CX0 P w K mg base Ng x sg g cdg A st s H C8.E0
abbrev inCx (X : Cx) (Ng : List Str) (x : Str) (sg : Scope) (g : Addr) (cdg : Value) (s : Shared) (H : Hp) : Cx := inP X.prog X.w X.K X.mg X.base X.A X.stack Ng x sg g cdg s H
/-- the def calls what it got: what leaves the lambda goes where the def's clauses wish, by the slots -/
theorem pe_actS {Ng : List Str} {x : Str} {sg : Scope} {g f c' : Addr} {cdg pm ctv : Value} {params : Arguments} {body : Expr} {scope : Scope} {k i : Nat} {nm : Str} {pn : List (Addr × Obj)} {xe : Value → Shared → Prop} {W : WX} {t : XK → TE} {p1 p2 : Pos}
    (I : Inv X pins σ H s) (L : LamS X.env.scope scope) (hf : s.heap.get? f = some (PySem.W.kla_obj "<lambda>" (X.env.qual ++ "<lambda>") params body scope (cloFrom X.env.cells scope.names []) pm c' ctv)) (new : H f = none) (off : f ∉ frs X.stack)
    (bind : bindArgs (PySem.W.kla_fn "<lambda>" (X.env.qual ++ "<lambda>") params body scope (cloFrom X.env.cells scope.names []) pm (.ref c') ctv) ⟨[], []⟩ = pure [])
    (tk : Takes ((inCx X Ng x sg g cdg s H).tr pn xe) W) (room : Room (k + 1) (X.A.deeper (envOfC x sg s.heap.objs.size g cdg)))
    (inner : ∀ (E : XK) (A : Around) (outer : List Env) (s : Shared) (H : Hp), Room k (A.deeper (lamEnv X scope s.heap.objs.size f c')) → PE (lamCx X A outer s H E scope f c') body (t E))
    (at_ : Ng[i]? = some nm) (vis : Vis sg nm) (nd : (nm == ("__debug__" : Str)) = false := by decide) (nc : (nm == ("__classdict__" : Str)) = false := by decide) :
    PE ((inCx X Ng x sg g cdg s H).tr pn xe) (.Call (.Name nm p1) [] [] p2) (fun τ G Q => τ[i]? = some (some (.ref f)) ∧ G c' = some (CodeO c' (X.env.qual ++ "<lambda>")) ∧ t (WE W τ) σ G Q) := by
  refine ⟨fun pins2 s2 τ G Q J ⟨h1, h2, h3⟩ => ?_⟩
  refine wpAny_Call_Name_kw (thn ((pe_var (pos := p1) (i := i) at_ vis nd nc).run pins2 s2 τ G (fun v G' => v = .ref f ∧ G' = G) J ⟨.ref f, h1, rfl, rfl⟩) ?_)
  rintro u s3 ⟨v, G', J3, rv, rfl, rfl⟩
  cases rv
  have there : s3.heap.get? f = some (PySem.W.kla_obj "<lambda>" (X.env.qual ++ "<lambda>") params body scope (cloFrom X.env.cells scope.names []) pm c' ctv) := J3.base.keep f _ hf new off (fun z => nomatch (show f ∈ ([] : List Addr) from z))
  refine PySem.W.callWith_F0 ⟨_, _, _, _, there⟩ ?_
  have un : Un (frs X.stack) [] H G' s.heap s3.heap := J3.base
  obtain ⟨⟨oc, vs, tc, hoc, hdc, hvc⟩, _, _⟩ := J3.hok c' _ h2
  have run : codeAny (model X.prog X.w) (X.A.deeper (envOfC x sg s.heap.objs.size g cdg)) (.call (.ref f) ⟨[], []⟩) (CR (L2.CX X.prog X.w) (envOfC x sg s.heap.objs.size g cdg :: X.stack) X.prog X.w G' s3 Q (WE W τ)) s3 := by
    refine PySem.W.kla_callFunE room.depth there rfl L.co L.gen rfl ⟨c', oc, vs, tc, rfl, hoc, hdc, hvc⟩ ?_
    rw [bind]
    refine wpAny_pure (wpAny_newFunctionEnv (fun y hy => (L.own y hy).2) (fun y hy => absurd hy (by simp)) (fun g1 ns1 sb1 => ⟨J3.nolimit.fresh _ sb1, ?_⟩) L.kind)
    show codeAny _ _ (.expr body (lamEnv X scope s3.heap.objs.size f c')) _ _
    have kp : ∀ b o, s3.heap.get? b = some o → g1.get? b = some o := fun b o e => sb1.extBut b o (Nat.ne_of_lt (Heap.lt_size e)) (Heap.get?_push_of_some _ e)
    have J4 : Inv (lamCx X (X.A.deeper (envOfC x sg s.heap.objs.size g cdg)) (envOfC x sg s.heap.objs.size g cdg :: X.stack) s3 G' (WE W τ) scope f c') [] σ G' { s3 with heap := g1, toks := s3.toks + ([] : List (Str × Value)).length } :=
      lam_start2 I L J3.env0 room.hd un ns1 kp
    refine PySem.W.kla_codeExpr (wpAny_mono ((inner _ _ _ s3 G' (room.deeper _)).run [] _ _ G' Q J4 h3) (fun v s5 out => ?_) fun e s5 out => out)
    exact let ⟨w', G5, J5, r5, q5⟩ := out; ⟨w', G5, J5.os, J5.bare, J5.base, J5.hok, r5, q5⟩
  refine wpAny_call (codeAny_mono run fun r s5 out => ?_)
  match r, out with
  | .error e, out => exact passAt tk τ pins2 G' s3 e s5 J3 out
  | .ok (.ret u), out => exact J3.after out
  | .ok .next, out => exact out.elim
  | .ok .brk, out => exact out.elim
  | .ok .cont, out => exact out.elim
/-- what a def makes of the lambda that it got -/
def GivesP (P : Program) (w : World) (K : PySem.W.Frag) (mg : Str → Option Value) (base : Heap) (A : Around) (st : List Env) (Ng : List Str) (x : Str) (sg : Scope) (g : Addr) (cdg : Value) (bg : List Stmt) (nm : Str) (q : Str) (TT : (XK → Hp → VK → Prop) → Hp → VK → Prop) : Prop :=
  ∀ (f c' : Addr) (s : Shared) (H : Hp) (Q : VK) (tl : XK → Hp → VK → Prop), Room 30 (A.deeper (envOfC x sg s.heap.objs.size g cdg)) →
    (∀ (W : WX) (pn : List (Addr × Obj)) (xe : Value → Shared → Prop) (p1 p2 : Pos), Takes ((inP P w K mg base A st Ng x sg g cdg s H).tr pn xe) W →
      PE ((inP P w K mg base A st Ng x sg g cdg s H).tr pn xe) (.Call (.Name nm p1) [] [] p2) (fun τ G Q => τ[0]? = some (some (.ref f)) ∧ G c' = some (CodeO c' q) ∧ tl (WE W τ) G Q)) →
    H c' = some (CodeO c' q) → TT tl H Q → ∃ t, PSs (inP P w K mg base A st Ng x sg g cdg s H).nox bg t ∧ t { nx := fun _ H' => Q .non H', rt := Q } (L2.start Ng [.ref f]) H
def tLamS (ts : List (Addr × Str)) (TT : (XK → Hp → VK → Prop) → Hp → VK → Prop) (t : XK → TE) : TE := fun σ H Q => Tabs ts H ∧ ∀ H1, ExtN H H1 → Tabs ts H1 → TT (fun E G Q' => t E σ G Q') H1 Q
/-- x(lambda: body) -/
theorem pe_lamS {ts : List (Addr × Str)} {TT : (XK → Hp → VK → Prop) → Hp → VK → Prop} {x nm : Str} {g c P : Addr} {fd : FuncData} {pg : Arguments} {bg : List Stmt} {sg : Scope} {Ng : List Str} {params : Arguments} {body : Expr} {scope : Scope} {t : XK → TE} {p lpos pos : Pos}
    (F : FunD X.K x x pg bg sg [] [] g fd) (bd : L2.Binds X.K fd [nm] []) (hm : X.mg x = some (.ref g)) (Sg : FnScope Ng [nm] sg) (at_ : Ng[0]? = some nm)
    (give : ∀ cdg : Value, GivesP X.prog X.w X.K X.mg X.base X.A X.stack Ng x sg g cdg bg nm (X.env.qual ++ "<lambda>") TT)
    (TB : TabB X.base X.mg c P) (code : X.env.code = .ref c) (mem : (P, X.env.qual ++ "<lambda>") ∈ ts) (uniq : ∀ p ∈ ts, p.1 = P → p.2 = X.env.qual ++ "<lambda>") (room : Room 32 X.A) (L : LamS X.env.scope scope)
    (inner : ∀ (E : XK) (A : Around) (outer : List Env) (s : Shared) (H : Hp) (f c' : Addr), Room 29 (A.deeper (lamEnv X scope s.heap.objs.size f c')) → PE (lamCx X A outer s H E scope f c') body (t E))
    (hg : Gl X x := by rfl) (dfl : defaultsOf params X.env = ([], []) := by rfl)
    (bind : ∀ (q : Str) (cl : List (Str × Addr)) (pm cv ctv : Value), bindArgs (PySem.W.kla_fn "<lambda>" q params body scope cl pm cv ctv) ⟨[], []⟩ = pure [] := by intros; rfl)
    (hdb : (x == ("__debug__" : Str)) = false := by decide) (nd : (nm == ("__debug__" : Str)) = false := by decide) (nc : (nm == ("__classdict__" : Str)) = false := by decide) :
    PE X (.Call (.Name x p) [.Lambda params body scope lpos] [] pos) (tLamS ts TT t) := by
  obtain ⟨oc, od, dV, kV, doc, pm0, an, cdv, ct, osl, rfl, lk, cd, _, _⟩ := F.ex
  have vis : Vis sg nm := (Sg.par nm List.mem_cons_self).elim (fun z => Or.inl z) (fun z => Or.inr (Or.inl z))
  refine ⟨fun pins s σ H Q I ⟨hT, h⟩ => ?_⟩
  refine wpAny_Call_Name_kw (ld_glob I hg hm ?_ hdb)
  refine PySem.W.callWith_K (h₀ := X.base) I.ok.mod.kin F.kp ?_ (by rfl) (by rfl)
  show wpAny _ _ (spliced ((false, eval (.Lambda params body scope lpos) X.env) :: backTo pos (starEach [] X.env))) _ _ s
  refine Calls.spliced_cons (lam_make2 I TB code mem uniq hT dfl (L.has I.ok) fun f c' pm ctv H1 s1 I1 eN T1 hf new off co => Calls.spliced_nil ⟨I1.kIn, ?_⟩)
  have run : codeAny (model X.prog X.w) X.A (.call (.ref g) ⟨[.ref f], []⟩) (CR C8.CX0 X.stack X.prog X.w H1 s1 Q C8.E0) s1 := by
    refine run_ofS (k := 31) (N := Ng) (ps := [nm]) (us := [.ref f]) (vs := [.ref f]) lk cd Sg room I1.env0 (bd s1 [.ref f] I1.kIn rfl) (.cons rfl .nil) rfl fun r31 => ?_
    obtain ⟨t', ht, hq⟩ := give cdv f c' s1 H1 Q (fun E G Q' => t E σ G Q') (r31.mono (by decide)) (fun W pn xe p1 p2 tk => pe_actS (k := 29) (i := 0) I1 L hf new off (bind _ _ _ _ _) tk (r31.mono (by decide)) (fun E A outer s H r => inner E A outer s H f c' r) at_ vis nd nc) co (h H1 eN T1)
    exact ⟨t', ht.nox, hq⟩
  refine wpAny_call (codeAny_mono run fun r s2 out => ?_)
  match r, out with
  | .error e, out => exact (show False from out).elim
  | .ok (.ret u), out => exact I1.after out
  | .ok .next, out => exact out.elim
  | .ok .brk, out => exact out.elim
  | .ok .cont, out => exact out.elim
end
end V4

set_option maxHeartbeats 4000000
/-! V4g: what stays when all but the tables of codes stays -/
namespace V4
open PySem PySem.Spec PyProof.Rows L2 V1 V2 V3 LamX
section
variable [CurK] {H H' : Hp}
mutual
theorem dx_ext (e : ExtN H H') : ∀ (d : PyData) (v : V), Dx H v d → Dx H' v d
  | .none, _, h => by cases h; exact .non
  | .bool b, _, h => by cases h; exact .bl b
  | .int i, _, h => by cases h; exact .int i
  | .str x, _, h => by cases h; exact .str x
  | .list ds, _, h => by
    cases h with
    | lst there low more => exact .lst (e _ _ there fun _ z => nomatch z) low (dxs_ext e ds _ more)
  | .tuple ds, _, h => by
    cases h with
    | tup there more => exact .tup (e _ _ there fun _ z => nomatch z) (dxs_ext e ds _ more)
  | .dict ds, _, h => by
    cases h with
    | dct there more => exact .dct (e _ _ there fun _ z => nomatch z) (dxk_ext e ds _ more)
    | ob there ok => exact .ob (e _ _ there fun _ z => nomatch z) ok
theorem dxs_ext (e : ExtN H H') : ∀ (ds : List PyData) (vs : List V), DxAll H vs ds → DxAll H' vs ds
  | [], _, h => by cases h; exact .nil
  | d :: ds, _, h => by
    cases h with
    | cons one more => exact .cons (dx_ext e d _ one) (dxs_ext e ds _ more)
theorem dxk_ext (e : ExtN H H') : ∀ (ds : List (PyData × PyData)) (kvs : List (Key × V)), DxKv H kvs ds → DxKv H' kvs ds
  | [], _, h => by cases h; exact .nil
  | (k, d) :: ds, _, h => by
    cases h with
    | cons one more => exact .cons (dx_ext e d _ one) (dxk_ext e ds _ more)
end
end
theorem ext_of {H H' : Hp} (s : Same H H') : ExtN H H' := ExtN.of s
theorem ext_del {H H' : Hp} {a : Addr} (e : ExtN H H') : ExtN (delH H a) (delH H' a) := fun b o h n => by
  by_cases z : b = a
  · rw [z, delH_same] at h
    cases h
  · rw [delH_ne z] at h ⊢
    exact e b o h n
theorem ext_lst {H H' : Hp} {p : Addr} {xs : List V} (e : ExtN H H') (h : H p = some (.lst xs)) : H' p = some (.lst xs) := e p _ h fun _ z => nomatch z
theorem ext_tup {H H' : Hp} {p : Addr} {xs : List V} (e : ExtN H H') (h : H p = some (.tup xs)) : H' p = some (.tup xs) := e p _ h fun _ z => nomatch z
/-- tables stay where everything stays -/
theorem tabs_same {ts : List (Addr × Str)} {H H' : Hp} (t : Tabs ts H) (s : Same H H') : Tabs ts H' := t.ext s
theorem tabS_del {H : Hp} {p a : Addr} {q : Str} (h : TabS H p q) (n : H a ≠ none → ∃ xs, H a = some (.lst xs)) : True := trivial
end V4

set_option maxHeartbeats 4000000
/-! V4h: {k: v for a target in a walk}, its keys tuples of ints and texts. -/
namespace V4
open PySem PySem.Spec PyProof.Rows L2 V1 V2 V3
section
variable {X : Cx}
/-- so many turns, each with one store -/
def TurnsT (J : It) (g : TG) (tk tv : TE) (vs : List Nat) (σ : L2.St) (D : Addr) (n : Nat) (W : Nat → Hp → Prop) : Prop :=
  ∀ i H', i < n → W i H' → J.go i H' ∧ ∀ x H2, J.yld i H' x H2 → g x (wipe σ vs) H2 fun σ2 H3 => wipe σ2 vs = wipe σ vs ∧ tk σ2 H3 fun y H4 => tv σ2 H4 fun z H5 =>
    ∃ kvs k b, y = .ref b ∧ H5 b = some (.tup (k.map kV)) ∧ H5 D = some (.dT kvs) ∧ kvs.length < sizeLine ∧ W (i + 1) (upd H5 D (.dT (putK kvs k z)))
def tDcT (wi : TI) (g : TG) (tk tv : TE) (vs : List Nat) : TE := fun σ H Q => wi σ H fun J H1 => ∀ D, H1 D = none →
  ∃ (n : Nat) (W : Nat → Hp → Prop), W 0 (upd H1 D (.dT [])) ∧ (∀ H', W n H' → J.stop n H' ∧ Q (.ref D) H') ∧ TurnsT J g tk tv vs σ D n W
/-- the store of such a comprehension -/
theorem storeT {Y : Cx} {pins : List (Addr × Obj)} {σ : L2.St} {H : Hp} {s : Shared} {E : Value → Shared → Prop} {D b : Addr} {kvs : List (List Key × V)} {k : List Key} {v : V} {r : Value} {Q : Unit → Shared → Prop}
    (room : Y.A.units < cLine) (I : Inv Y pins σ H s) (eb : H b = some (.tup (k.map kV))) (eD : H D = some (.dT kvs)) (z : kvs.length < sizeLine) (rv : RelV v r)
    (h : ∀ s', Inv Y pins σ (upd H D (.dT (putK kvs k v))) s' → Q () s') : wpAny (model Y.prog Y.w) Y.A (dictSet D (.ref b) r) Q E s := by
  obtain ⟨_, low, xs, rel, dd⟩ := dt_of I.hok eD
  have lx : xs.length ≤ sizeLine := Paired.length rel ▸ Nat.le_of_lt z
  have ly : (putK kvs k v).length ≤ sizeLine := Nat.le_trans (length_putK kvs k v) z
  refine wpAny_dictSet_heap (knd := tupleKind (mixKind Y.prog Y.w)) (hsz := lx) room (key_of I.hok eb) dd fun g ⟨ob, es, ep, g1, g2, g3, g4, _, g6⟩ sb => h _ ?_
  have mu : Mut (H D) := by
    rw [eD]
    trivial
  refine d_write I mu sb ⟨ob, g1⟩ ⟨ly, low, _, (rel.put k eb rv).keeps fun c ys ec => ?_, ob, es, ep, g1, g2, g3, g4, g6⟩
  have cD : c ≠ D := fun q => by
    rw [q, eD] at ec
    cases ec
  rw [upd_ne cD]
  exact ec
/-- one turn of it, in its block -/
theorem turnT {Y : Cx} {tg kx vx : Expr} {J : It} {fp : List Addr} {it : Addr} {tn : Nat → Heap → Prop} {g : TG} {tk tv : TE} {vs : List Nat} {σ : L2.St} {D : Addr} {n : Nat} {W : Nat → Hp → Prop} (calm : Y.calm = true) (room : Y.A.units < cLine) (no : Y.xe = fun _ _ => False)
    (T : Turn Y.prog Y.w Y.K tg J fp it tn) (pg : PG Y tg g) (pk : PE Y kx tk) (pv : PE Y vx tv) (stat : ∀ {σ' H' s'}, Inv Y [] σ' H' s' → (∀ b ∈ fp, H' b = none) → ∀ b ∈ fp, FpOk Y [] H' b) (tt : TurnsT J g tk tv vs σ D n W)
    {i : Nat} {H' : Hp} {s' : Shared} (hi : i < n) (I : Inv Y [] (wipe σ vs) H' s') (st : tn i s'.heap) (nf : ∀ b ∈ fp, H' b = none) (w : W i H') :
    wpAny (model Y.prog Y.w) Y.A (pyNext (.ref it)) (fun r s1 => ∃ u, r = some u ∧ wpAny (model Y.prog Y.w) Y.A (letOwnedTupleGo tg (.ref it) u) (fun _ s2 =>
      wpAny (model Y.prog Y.w) Y.A (assign tg Y.env u) (fun _ s3 => wpAny (model Y.prog Y.w) Y.A (eval kx Y.env) (fun kv s4 => wpAny (model Y.prog Y.w) Y.A (eval vx Y.env) (fun vv s5 =>
        wpAny (model Y.prog Y.w) Y.A (dictSet D kv vv) (fun _ s6 => ∃ H6, Inv Y [] (wipe σ vs) H6 s6 ∧ tn (i + 1) s6.heap ∧ (∀ b ∈ fp, H6 b = none) ∧ W (i + 1) H6)
        (fun _ _ => False) s5) (fun _ _ => False) s4) (fun _ _ => False) s3) (fun _ _ => False) s2) (fun _ _ => False) s1) (fun _ _ => False) s' := by
  obtain ⟨go, step⟩ := tt i H' hi w
  refine thnF (T.item Y rfl rfl rfl calm i [] s' _ H' (fun _ _ => False) I (stat I nf) st go) fun r s1 ⟨u, er, q⟩ => ⟨u, er, thnF q fun _ s2 ⟨x, H2, I2, rx, y2, st2, n2⟩ => ?_⟩
  have Ip := I2.pinned (stat I2 n2) (T.obj _ _ st2)
  have a1 := pg.run _ s2 _ H2 x u _ Ip rx (step x H2 y2)
  rw [no] at a1
  refine thnF a1 fun _ s3 ⟨σ3, H3, I3, e3, q3⟩ => ?_
  have a2 := pk.run _ s3 σ3 H3 _ I3 q3
  rw [no] at a2
  refine thnF a2 fun kv s4 ⟨y, H4, I4, r4, q4⟩ => ?_
  have a3 := pv.run _ s4 σ3 H4 _ I4 q4
  rw [no] at a3
  refine thnF a3 fun vv s5 ⟨z, H5, I5, r5, kvs, k, b, ey, eb, eD, lz, w'⟩ => ?_
  subst ey
  obtain rfl : kv = Value.ref b := r4
  refine storeT room I5 eb eD lz r5 fun s6 I6 => ?_
  have held : ∀ c ∈ fp, ∀ o, s2.heap.get? c = some o → s6.heap.get? c = some o ∧ upd H5 D (.dT (putK kvs k z)) c = none := fun c hc o eo =>
    let pin := I6.pin (c, o) (List.mem_append_right _ (List.mem_append_right _ (mem_pinsAt hc eo)))
    ⟨pin.1, pin.2.1⟩
  refine ⟨_, I6.unpinned.weak (by rw [← e3, wipe_length]) fun j v ev => ?_, T.keep _ _ _ st2 fun c hc o eo => (held c hc o eo).1, fun c hc => ?_, w'⟩
  · rw [← e3] at ev
    exact (wipe_some ev).1
  · obtain ⟨o, eo, _⟩ := T.obj _ _ st2 c hc
    exact (held c hc o eo).2
theorem pe_dcT {kx vx tg iter : Expr} {scope : Scope} {own : List (Str × Nat)} {pos : Pos} {wi : TI} {g : TG} {tk tv : TE} (hc : X.calm = true) (room : X.A.units < cLine) (hN : X.N.Nodup) (hi : PI X tg iter wi) (ok : BlkOk X.N X.env.scope scope own)
    (hg : ∀ (s : Shared) (H : Hp) (C : Addr) (cl : List (Str × Addr)) (fp : List Addr), PG (X.blk s H scope (compEnvC scope cl C X.env) fp) tg g)
    (hk : ∀ (s : Shared) (H : Hp) (C : Addr) (cl : List (Str × Addr)) (fp : List Addr), PE (X.blk s H scope (compEnvC scope cl C X.env) fp) kx tk)
    (hv : ∀ (s : Shared) (H : Hp) (C : Addr) (cl : List (Str × Addr)) (fp : List Addr), PE (X.blk s H scope (compEnvC scope cl C X.env) fp) vx tv) (hs : ∀ x, foldedSetIterable iter X.env x = pure x := by intro _; rfl) :
    PE X (.DictComp kx vx [⟨tg, iter, [], 0⟩] scope pos) (tDcT wi g tk tv (own.map (·.2))) := by
  refine ⟨fun pins s σ H Q I h => ?_⟩
  rw [arm_eval_DictComp]
  have clo : ∀ y ∈ scope.names, y.2 = .free → ∃ c, X.env.cells.lookup y.1 = some c := fun y hy e => (ok.free y hy e).elim (fun z => I.ok.has _ (.inl z)) fun z => I.ok.has _ (.inr z)
  refine wpAny_comprehension_free (use := none) rfl hs (closure_ok clo) ok.kind (fun y hy e => (ok.uniq y hy).trans (congrArg some e)) (thn (hi.run pins s σ H _ I h) fun xv s1 hx => thn hx fun itv s2 got => ?_)
  obtain ⟨it, fp, tn, J, H2, rfl, I2, T, st2, f2, q⟩ := got
  refine wpAny_newObj_type (newEnv_comp ?_)
  -- the dict's place, and the heap with it
  obtain ⟨D, eD⟩ : ∃ D, D = s2.heap.objs.size := ⟨_, rfl⟩
  obtain ⟨n, W, w0, stop, tt⟩ := q D (I2.hok.fresh (Nat.le_of_eq eD.symm))
  obtain ⟨s3, e3⟩ : ∃ s3 : Shared, s3 = { s2 with heap := s2.heap.push { cls := .type "dict", data := .dict #[] } } := ⟨_, rfl⟩
  have heap3 : s3.heap = s2.heap.push { cls := .type "dict", data := .dict #[] } := congrArg Shared.heap e3
  have I3 : Inv X pins σ (upd H2 D (.dT [])) s3 := by
    rw [e3, eD]
    exact I2.laid (t' := s2.toks) (fun _ _ z => Heap.get?_push_of_some _ z) (Nat.le_refl _) (dt_empty s2.heap I2.big)
  have inFp : ∀ b ∈ fp, b < s2.heap.objs.size := fun b hb => (T.obj _ _ st2 b hb).elim fun o z => Heap.lt_size z.1
  have f3 : ∀ b ∈ fp, FpOk X pins (upd H2 D (.dT [])) b ∧ b < s3.heap.objs.size := fun b hb => by
    have lt := inFp b hb
    refine ⟨⟨?_, (f2 b hb).2⟩, by rw [heap3, Heap.size_push]; exact Nat.lt_succ_of_lt lt⟩
    rw [upd_ne (by rw [eD]; exact Nat.ne_of_lt lt)]
    exact (f2 b hb).1
  have I4 := block_start I3 ok hN f3
  have pg := hg s3 (upd H2 D (.dT [])) s3.heap.objs.size (cellsFrom (s3.heap.objs.size + 1) scope.names (cloFrom X.env.cells scope.names [])) fp
  have pk := hk s3 (upd H2 D (.dT [])) s3.heap.objs.size (cellsFrom (s3.heap.objs.size + 1) scope.names (cloFrom X.env.cells scope.names [])) fp
  have pv := hv s3 (upd H2 D (.dT [])) s3.heap.objs.size (cellsFrom (s3.heap.objs.size + 1) scope.names (cloFrom X.env.cells scope.names [])) fp
  have nf3 : ∀ b ∈ fp, (upd H2 D (.dT [])) b = none := fun b hb => (f3 b hb).1.1
  obtain ⟨ce, ece⟩ : ∃ ce, ce = compEnvC scope (cellsFrom (s3.heap.objs.size + 1) scope.names (cloFrom X.env.cells scope.names [])) s3.heap.objs.size X.env := ⟨_, rfl⟩
  obtain ⟨s4, e4⟩ : ∃ s4 : Shared, s4 = { s3 with heap := pushCells (s3.heap.push { cls := .type "dict", data := .dict #[] }) scope.names } := ⟨_, rfl⟩
  have place : ce.locals = s3.heap.objs.size := congrArg Env.locals ece
  rw [← ece, ← e4] at I4
  rw [← ece] at pg pk pv
  have st4 : tn 0 s4.heap := T.keep _ _ _ st2 fun b _ o e => by
    rw [e4]
    refine pushCells_keeps _ _ _ _ (Heap.get?_push_of_some _ ?_)
    rw [heap3]
    exact Heap.get?_push_of_some _ e
  have stat : ∀ {σ' : L2.St} {H' : Hp} {s' : Shared}, Inv (X.blk s3 (upd H2 D (.dT [])) scope ce fp) [] σ' H' s' → (∀ b ∈ fp, H' b = none) → ∀ b ∈ fp, FpOk (X.blk s3 (upd H2 D (.dT [])) scope ce fp) [] H' b := fun {σ' H' s'} I' hn b hb => by
    refine ⟨hn b hb, (I'.ok.exf b hb).1, I'.ok.exfs b hb, .inl hb, fun x c e => (I'.ok.exf b hb).2 x c e, fun p hp => ?_⟩
    cases (show p ∈ ([] : List (Addr × Obj)) ++ [] from hp)
  have loop : codeAny (model X.prog X.w) X.A (.compLoop (.DictComp kx vx [⟨tg, iter, [], 0⟩] scope pos) 0 (.ref it) (.ref D) ce) (compPost (model X.prog X.w) X.A X.xe none (fun v s' => ∃ y H', Inv X pins σ H' s' ∧ RelV y v ∧ Q y H') (.ref D) s3.heap.objs.size) s4 := by
    refine compLoop_anyD (fun left s' => ∃ i H', i + left = n ∧ Inv (X.blk s3 (upd H2 D (.dT [])) scope ce fp) [] (wipe σ (own.map (·.2))) H' s' ∧ tn i s'.heap ∧ (∀ b ∈ fp, H' b = none) ∧ W i H') ?_ n ⟨0, _, Nat.zero_add n, I4, st4, nf3, w0⟩
    rintro left s5 ⟨i, H5, il, I5, st5, n5, w5⟩
    cases left with
    | zero =>
      obtain rfl : i = n := il
      obtain ⟨halt, q5⟩ := stop H5 w5
      refine thnF (T.done (X.blk s3 (upd H2 D (.dT [])) scope ce fp) rfl rfl rfl hc i [] s5 _ H5 (fun _ _ => False) I5 (stat I5 n5) st5 halt) fun r s6 ⟨er, I6⟩ => ?_
      subst er
      have I7 : Inv X pins σ H5 s6 := I3.call' (ch := fp) I6.os I6.base I6.hok I6.bare fun b hb => ⟨(f3 b hb).1.2.2.2.1, (f3 b hb).1.2.1, (f3 b hb).1.2.2.2.2.1, (f3 b hb).1.2.2.2.2.2⟩
      have gone : H5 s3.heap.objs.size = none := by
        rw [← place]
        exact I6.free
      obtain ⟨m, hn, _⟩ := I6.loc
      have hn : s6.heap.Ns s3.heap.objs.size m := by
        rw [← place]
        exact hn
      obtain ⟨f0, f1, f2, f3, f4, f5⟩ := I3.fpOk (H' := H5) (Nat.le_refl _) gone
      exact ⟨m, hn, fun g sb => ⟨.ref D, H5, I7.turned (t' := s6.toks) (fun b o hb e => (sb.2 b hb).trans e) f0 f1 f3 f4 f5, rfl, q5⟩⟩
    | succ left =>
      refine thnF (turnT (Y := X.blk s3 (upd H2 D (.dT [])) scope ce fp) hc room rfl T pg pk pv stat tt (by omega) I5 st5 n5 w5) fun r s6 ⟨u, er, q6⟩ => ?_
      subst er
      refine thnF q6 fun _ s7 q7 => thnF q7 fun _ s8 q8 => wpAny_pure ?_
      rw [if_pos rfl]
      exact thnF q8 fun kv s9 q9 => thnF q9 fun vv s10 q10 => thnF q10 fun _ s11 ⟨H6, I6, st6, n6, w6⟩ => ⟨left, Nat.lt_succ_self left, i + 1, H6, by omega, I6, st6, n6, w6⟩
  have all := codeAny_compStart_dict loop (T.self X.A 0 _ _ _ st4 loop)
  subst e4 ece e3 eD
  exact all
end
end V4

set_option maxHeartbeats 4000000
/-! V4i: a lambda as a value. -/
namespace V4
open PySem PySem.Spec PyProof.Rows L2 V1 V2 V3 LamX
def tLamV (ts : List (Addr × Str)) : TE := fun _ H Q => Tabs ts H ∧ ∀ H1 f, ExtN H H1 → Tabs ts H1 → H1 f = none → Q (.ref f) H1
theorem pe_lamV {X : Cx} {ts : List (Addr × Str)} {c P : Addr} {params : Arguments} {body : Expr} {scope : Scope} {pos : Pos} (TB : TabB X.base X.mg c P) (code : X.env.code = .ref c) (mem : (P, X.env.qual ++ "<lambda>") ∈ ts)
    (uniq : ∀ p ∈ ts, p.1 = P → p.2 = X.env.qual ++ "<lambda>") (fr : ∀ y ∈ scope.names, y.2 = .free → X.env.scope.names.lookup y.1 = some .cell ∨ X.env.scope.names.lookup y.1 = some .free) (dfl : defaultsOf params X.env = ([], []) := by rfl) : PE X (.Lambda params body scope pos) (tLamV ts) :=
  ⟨fun pins s σ H Q I ⟨hT, h⟩ => lam_make2 I TB code mem uniq hT dfl (fun y hy e => (fr y hy e).elim (fun z => I.ok.has _ (.inl z)) fun z => I.ok.has _ (.inr z)) fun f c' pm ctv H1 s1 I1 eN T1 hf new off co => ⟨.ref f, H1, I1, rfl, h H1 f eN T1 new⟩⟩
end V4

set_option maxHeartbeats 4000000
/-! V4l: o.m(..) within try: what it lets out by the slots. -/
namespace V4
open PySem PySem.Spec PyProof.Rows L2 V1 V2 V3
def tMethE (C : Addr) (m : Str) (sp : Sp) (E : L2.St → XK) (ta : TE) (t : TA) : TE := fun σ H Q => tMeth C m sp [] (E σ) ta t σ H Q
theorem pe_methE {X : Cx} {CX : CXT} {k : Nat} {C f : Addr} {m : Str} {fd : FuncData} {ps : List Str} {sp : Sp} {E : L2.St → XK} {o e : Expr} {es : List Expr} {ta : TE} {t : TA} {apos pos : Pos} {pl : Sem Bool} (he : PE X o ta) (c : Cls X.K C) (hm : Meth X.K C m f)
    (F : FnOk X.prog X.w X.K X.mg X.base CX k f fd ps sp) (hr : Room k X.A) (hb : Binds X.K fd ps []) (hx : ∀ σ, PassesAt CX X σ (E σ)) (ha : PA X (e :: es) t)
    (st : starEach (e :: es) X.env = (false, eval e X.env) :: starEach es X.env := by rfl) (pn : (backTo pos (starEach es X.env)).any (·.1) = false := by rfl)
    (ev : eval (.Call (.Attribute o m apos) (e :: es) [] pos) X.env = (do let ov ← eval o X.env; standAt apos.atName; let (g, first) ← holding [ov] (getMethod ov m pl); callWith pos g first (backTo pos (starEach (e :: es) X.env)) (backToKw pos (keywordEach [] X.env))) := by rfl) :
    PE X (.Call (.Attribute o m apos) (e :: es) [] pos) (tMethE C m sp E ta t) := by
  constructor
  intro pins s σ H Q I h
  refine PySem.W.methodCall_KW (pl := pl) (thn (he.run pins s σ H _ I h) fun u s1 hh => ?_) ev
  obtain ⟨x, H1, J, rx, a, dx, fs, rfl, ea, l, q⟩ := hh
  cases rx
  refine getmeth_ok J ea c hm l (PySem.W.callWith_K (first := [.ref a]) (h₀ := X.base) I.ok.mod.kin hm.kp (thn (ha.run pos pins s1 σ H1 _ J q) fun us s2 gg => ?_) st pn)
  obtain ⟨vs, H2, J2, r, q2⟩ := gg
  rw [List.append_nil] at q2
  exact ⟨J2.kIn, run_fnS (us := .ref a :: us) (vs := .ref a :: vs) F hr hb (hx σ) J2 (.cons rfl r) q2⟩
end V4

set_option maxHeartbeats 4000000
/-! V4m: lists of data that are cut and put together, and tuples made of them. -/
namespace V4
open PySem PySem.Spec PyProof.Rows L2 V1 V2 V3
open Evl (sq_of st_of)
section
variable [CurK] {σ : L2.St} {H0 : Hp} {a : Addr} {ds es : List PyData} {te t1 t2 : TE}
/-- a list of these data comes -/
def MkL (H0 : Hp) (a : Addr) (te : TE) (σ : L2.St) (ds : List PyData) : Prop := ∀ H, Same H0 H → ∀ Q : VK, (∀ p xs H', Same H H' → p ≠ a → H' p = some (.lst xs) → DxAll (delH H' a) xs ds → Q (.ref p) H') → te σ H Q
theorem held_ne {H : Hp} {p : Addr} (ha : Held H a) (n : H p = none) : p ≠ a := fun z => by
  obtain ⟨o, e⟩ := ha
  rw [z, e] at n
  cases n
theorem mkl_var {i : Nat} {p : Addr} {xs : List V} (na : p ≠ a) (e : H0 p = some (.lst xs)) (r : DxAll (delH H0 a) xs ds) (hv : σ[i]? = some (some (.ref p))) : MkL H0 a (tVar i) σ ds := fun H s Q k =>
  ⟨_, hv, k p xs H (Same.refl H) na (s _ _ e) (DxAll.same (same_del s) _ _ r)⟩
theorem mkl_of (h : MkY H0 a te σ (.list ds)) : MkL H0 a te σ ds := fun H s Q k => h H s _ fun v H1 s1 q1 => by
  obtain ⟨p, xs, rfl, e, r⟩ : ∃ p xs, v = .ref p ∧ delH H1 a p = some (.lst xs) ∧ DxAll (delH H1 a) xs ds := by
    cases q1 with
    | lst e low r => exact ⟨_, _, rfl, e, r⟩
  have ne : p ≠ a := fun z => by
    rw [z, delH_same] at e
    cases e
  exact k p xs H1 s1 ne (by rw [delH_ne ne] at e; exact e) r
theorem mkl_cut {tl th : TO} {lo hi : Option Int} (ha : Held H0 a) (h1 : MkL H0 a t1 σ ds) (hl : ∀ (H : Hp) (Q : Option Int → Hp → Prop), Q lo H → tl σ H Q) (hh : ∀ (H : Hp) (Q : Option Int → Hp → Prop), Q hi H → th σ H Q) :
    MkL H0 a (tSl (rSlL K) t1 tl th) σ (cutD ds lo hi) := fun H s Q k =>
  h1 H s _ fun p xs H1 s1 na e1 r1 => hl H1 _ (hh H1 _ ⟨p, xs, rfl, sq_of e1, fun c nc => k c _ _ (s1.trans (same_new nc)) (held_ne ((ha.same s).same s1) nc) upd_same (DxAll.same (same_del (same_new nc)) _ _ (by
    unfold cutV cutD
    rw [dxAll_len r1]
    exact DxAll.take _ (DxAll.drop _ r1)))⟩)
theorem mkl_cat (ha : Held H0 a) (h1 : MkL H0 a t1 σ ds) (h2 : MkL H0 a t2 σ es) (l : ds.length + es.length ≤ 5000) : MkL H0 a (tOp rCat t1 t2) σ (ds ++ es) := fun H s Q k =>
  h1 H s _ fun p xs H1 s1 na e1 r1 => h2 H1 (s.trans s1) _ fun q ys H2 s2 nb e2 r2 => by
    have l1 := dxAll_len r1
    have l2 := dxAll_len r2
    refine ⟨p, q, xs, ys, rfl, rfl, s2 _ _ e1, e2, by rw [sizeLine_eq]; omega, fun c nc => ?_⟩
    exact k c _ _ ((s1.trans s2).trans (same_new nc)) (held_ne (ha.same (s.trans (s1.trans s2))) nc) upd_same (DxAll.same (same_del (same_new nc)) _ _ (DxAll.app (DxAll.same (same_del s2) _ _ r1) r2))
/-- tuple(xs) of a list -/
theorem mky_tupof (ha : Held H0 a) (h1 : MkL H0 a t1 σ ds) : MkY H0 a (tCB (fun xs H Q => ∃ p ys, xs = [.ref p] ∧ ((SqL K H p ys ∧ ∀ l, H l = none → Q (.ref l) (upd H l (.tup ys))) ∨ (SqT K H p ys ∧ Q (.ref p) H))) (tCons t1 tNil)) σ (.tuple ds) := fun H s Q k =>
  h1 H s _ fun p xs H1 s1 na e1 r1 => ⟨p, xs, rfl, .inl ⟨sq_of e1, fun c nc => k _ _ (s1.trans (same_new nc)) (.tup (((ha.same s).same s1).off nc upd_same) (DxAll.same (same_del (same_new nc)) _ _ r1))⟩⟩
/-- xs[i], there -/
theorem mky_ixL {ti : TE} {n : Nat} (h1 : MkL H0 a t1 σ ds) (hi : ∀ (H : Hp) (Q : VK), Q (.int ((n : Nat) : Int)) H → ti σ H Q) (hn : n < ds.length) : MkY H0 a (tOp (rIxL K) t1 ti) σ ds[n] := fun H s Q k =>
  h1 H s _ fun p xs H1 s1 na e1 r1 => by
    have lx := dxAll_len r1
    have hx : xs[n]? = some (xs[n]'(by omega)) := List.getElem?_eq_getElem (by omega)
    exact hi _ _ ⟨p, xs, _, xs[n]'(by omega), rfl, rfl, sq_of e1, atI_nat hx, k _ H1 s1 (DxAll.at r1 hx (List.getElem?_eq_getElem hn))⟩
end
end V4

set_option maxHeartbeats 4000000
/-! V4n: tuples of texts, compared within a sort, whatever kind the sort takes them for. -/
namespace V4
open PySem PySem.Spec PyProof.Rows L2 V1 V2 V3
/-- a tuple of these texts stands there -/
def TxT (h : Heap) (v : Value) (r : List Str) : Prop := ∃ a us, v = .ref a ∧ h.IsTuple a us.toArray ∧ Vals (r.map V.str) us
section
variable {A : Around} {s : Shared} {a b : Addr} {us ws : List Value} {r q : List Str} {prog : Program} {w : World}
theorem eq_at (r1 : Vals (r.map V.str) us) (r2 : Vals (q.map V.str) ws) : ∀ j (h1 : j < us.toArray.size) (h2 : j < ws.toArray.size), SeqAt.EqAt A s us.toArray[j] ws.toArray[j] (r.getD j Str.empty == q.getD j Str.empty) := fun j g1 g2 => by
  obtain ⟨t, z1⟩ := texts_at r1 j g1
  obtain ⟨t', z2⟩ := texts_at r2 j g2
  rw [z1, z2]
  exact SeqAt.EqAt.str_str _ _ _ _
theorem lt_at (r1 : Vals (r.map V.str) us) (r2 : Vals (q.map V.str) ws) : ∀ j (h1 : j < us.toArray.size) (h2 : j < ws.toArray.size), (r.getD j Str.empty == q.getD j Str.empty) = false → Ob.RcOp .Lt A s us.toArray[j] ws.toArray[j] (txLt (r.getD j Str.empty) (q.getD j Str.empty)) := fun j g1 g2 _ => by
  obtain ⟨t, z1⟩ := texts_at r1 j g1
  obtain ⟨t', z2⟩ := texts_at r2 j g2
  rw [z1, z2]
  exact fun P w E Q k => PyProof.Rows.lt_str k
theorem lex_rows (r1 : Vals (r.map V.str) us) (r2 : Vals (q.map V.str) ws) : Ob.lexAt (fun j => r.getD j Str.empty == q.getD j Str.empty) (fun j => txLt (r.getD j Str.empty) (q.getD j Str.empty)) (decide (us.toArray.size < ws.toArray.size)) 0 (min us.toArray.size ws.toArray.size) = rowLt r q := by
  have l1 : us.toArray.size = r.length := by rw [List.size_toArray, ← r1.length, List.length_map]
  have l2 : ws.toArray.size = q.length := by rw [List.size_toArray, ← r2.length, List.length_map]
  have key := lex_row txLt (fun a b => decide (a < b)) rowLt (fun a b => by simp) (fun ys => by cases ys <;> simp [rowLt]) (fun x xs => by simp [rowLt]) (fun _ _ _ _ => rfl) [] [] r q rfl
  simp only [List.nil_append, List.length_nil] at key
  rw [l1, l2]
  exact key
/-- taken for things of any kinds -/
theorem lt_general {v u : Value} {Q : Bool → Shared → Prop} {E : Value → Shared → Prop} (h1 : TxT s.heap v r) (h2 : TxT s.heap u q) (room : A.units < cLine) (h : Q (rowLt r q) s) : wpAny (model prog w) A (keyLt' general' v u) Q E s := by
  obtain ⟨a, us, rfl, p1, r1⟩ := h1
  obtain ⟨b, ws, rfl, p2, r2⟩ := h2
  have cmp := Ob.RcOp.tuples_lt (A := A) (s := s) p1 p2 room (eq_at r1 r2) (lt_at r1 r2)
  rw [lex_rows r1 r2] at cmp
  exact PySem.W.kat_one _ _ (cmp prog w E (PySem.W.BoolBack Q) h)
/-- taken for things of one kind -/
theorem lt_one {v u : Value} {Q : Bool → Shared → Prop} {E : Value → Shared → Prop} (h1 : TxT s.heap v r) (h2 : TxT s.heap u q) (room : A.units + 1 < cLine) (h : Q (rowLt r q) s) : wpAny (model prog w) A (keyLt' oneType' v u) Q E s := by
  obtain ⟨a, us, rfl, p1, r1⟩ := h1
  obtain ⟨b, ws, rfl, p2, r2⟩ := h2
  obtain ⟨⟨cls, dd, data, sl⟩, ho, hc, n, hd⟩ := id p1
  obtain ⟨⟨cls2, dd2, data2, sl2⟩, ho2, hc2, n2, hd2⟩ := id p2
  simp only at hc hd hc2 hd2
  subst hc hd hc2 hd2
  rw [keyLt'_oneType, oneLt'_eq]
  simp only [if_true]
  refine wpAny_bind (wpAny_cRoomFor (Nat.lt_of_succ_lt room) ?_)
  refine wpAny_bind (wpAny_callSpecialIfBound?_slot (T := "tuple") ⟨_, ho, rfl⟩ PySem.F.slot_tuple_lt (call_meets PySem.F.slot_tuple_lt ⟨_, ho, rfl⟩ PySem.F.entry_tuple_lt (PySem.F.args_tuple_lt_2 _ _) (Ob.tuple_ltAt a b us.toArray ws.toArray n n2 dd dd2 sl sl2 _ _) ⟨ho, ho2, eq_at r1 r2, lt_at r1 r2, ?_⟩))
  rw [lex_rows r1 r2]
  exact wpAny_truthy_bool h
/-- which comes first, what the lengths give being f -/
def gl : List Str → List Str → Bool → Bool
  | x :: r, y :: q, f => if (x == y) = true then gl r q f else txLt x y
  | _, _, f => f
theorem gl_len : ∀ r q : List Str, gl r q (decide (r.length < q.length)) = rowLt r q
  | [], [] => rfl
  | [], _ :: _ => rfl
  | _ :: _, [] => rfl
  | x :: r, y :: q => by
    show (if (x == y) = true then gl r q (decide (r.length + 1 < q.length + 1)) else txLt x y) = if (x == y) = true then rowLt r q else txLt x y
    rw [show decide (r.length + 1 < q.length + 1) = decide (r.length < q.length) from decide_eq_decide.mpr (by omega), gl_len r q]
theorem lex_go {k fin : Bool} {Q : Bool → Shared → Prop} : ∀ {r q : List Str} {us ws : List Value} (i : Nat), Vals (r.map V.str) us → Vals (q.map V.str) ws → Q (gl r q fin) s → PySem.W.KatLex prog w A k fin Q (us.zip ws) i s
  | [], _, _, _, i, .nil, _, h => h
  | _ :: _, [], _, _, i, .cons _ _, .nil, h => h
  | x :: r, y :: q, u :: us, v :: ws, i, .cons a1 r1, .cons a2 r2, h => by
    obtain ⟨t, rfl⟩ := a1
    obtain ⟨t', rfl⟩ := a2
    refine PySem.W.kat_cons (SeqAt.EqAt.str_str x t y t' prog w (fun _ _ => False) _ ?_)
    have h' : Q (if (x == y) = true then gl r q fin else txLt x y) s := h
    refine PySem.W.kat_go (fun e => PySem.W.kat_yes ?_) (fun e => PySem.W.kat_no ?_)
    · rw [if_pos e] at h'
      exact lex_go (i + 1) r1 r2 h'
    · rw [if_neg (by rw [e]; decide)] at h'
      exact PyProof.Rows.oneLt_any_str h'
/-- taken for tuples -/
theorem lt_tuples {k : Bool} {v u : Value} {Q : Bool → Shared → Prop} {E : Value → Shared → Prop} (h1 : TxT s.heap v r) (h2 : TxT s.heap u q) (h : Q (rowLt r q) s) : wpAny (model prog w) A (keyLt' (tuples' k) v u) Q E s := by
  obtain ⟨a, us, rfl, p1, r1⟩ := h1
  obtain ⟨b, ws, rfl, p2, r2⟩ := h2
  obtain ⟨o1, e1, c1, n1, d1⟩ := p1
  obtain ⟨o2, e2, c2, n2, d2⟩ := p2
  refine PySem.W.kat_lt e1 d1 e2 d2 (lex_go 0 r1 r2 ?_)
  have l1 : us.toArray.size = r.length := by rw [List.size_toArray, ← r1.length, List.length_map]
  have l2 : ws.toArray.size = q.length := by rw [List.size_toArray, ← r2.length, List.length_map]
  rw [l1, l2, gl_len]
  exact h
end
section
variable {M : Model} {A : Around} {s : Shared} {prog : Program} {w : World}
theorem firsts_go : ∀ vs : List Value, (∀ v ∈ vs, ∃ r, TxT s.heap v r) → ∃ fs : List (Option Value), fs.length = vs.length ∧ (∀ f ∈ fs, f = none ∨ ∃ x t, f = some (.str x t)) ∧ ∀ (E : Value → Shared → Prop) (Q : List (Option Value) → Shared → Prop), Q fs s → wpAny M A (vs.mapM firstOfTuple') Q E s
  | [], _ => ⟨[], rfl, fun _ h => absurd h List.not_mem_nil, fun E Q h => by rw [List.mapM_nil]; exact wpAny_pure h⟩
  | v :: vs, hv => by
    obtain ⟨r, a, us, rfl, p, rv⟩ := hv v List.mem_cons_self
    obtain ⟨fs, ln, ok, go⟩ := firsts_go vs fun v h => hv v (List.mem_cons_of_mem _ h)
    obtain ⟨o, eo, co, n, dn⟩ := p
    refine ⟨us.toArray[0]? :: fs, by rw [List.length_cons, ln, List.length_cons], fun f hf => ?_, fun E Q h => ?_⟩
    · rcases List.mem_cons.mp hf with rfl | hf
      · cases r with
        | nil => cases rv; exact .inl rfl
        | cons x r =>
          cases rv with | cons a1 _ =>
          obtain ⟨t, rfl⟩ := a1
          exact .inr ⟨x, t, rfl⟩
      · exact ok f hf
    · rw [List.mapM_cons]
      refine wpAny_bind ?_
      rw [PySem.W.kas_first_eq]
      refine wpAny_bind (PySem.W.Looks.here (show PySem.W.Looks M s.heap (typeOf (.ref a)) o.cls from (PySem.W.Looks.ld eo).andThen .now) ?_)
      rw [co, if_neg (by first | decide | simp)]
      refine wpAny_bind (listItems_at eo dn (wpAny_pure ?_))
      exact wpAny_bind (go E (fun bs s' => wpAny M A (pure (us.toArray[0]? :: bs)) Q E s') (wpAny_pure h))
theorem somes : ∀ {fs : List (Option Value)}, (∀ f ∈ fs, f = none ∨ ∃ x t, f = some (.str x t)) → (∀ f ∈ fs, f.isSome = true) → ∃ gs : List Value, fs = gs.map some ∧ ∀ g ∈ gs, ∃ x t, g = .str x t
  | [], _, _ => ⟨[], rfl, fun _ h => absurd h List.not_mem_nil⟩
  | f :: fs, h, k => by
    obtain ⟨gs, rfl, hg⟩ := somes (fs := fs) (fun f hf => h f (List.mem_cons_of_mem _ hf)) fun f hf => k f (List.mem_cons_of_mem _ hf)
    rcases h f List.mem_cons_self with rfl | ⟨x, t, rfl⟩
    · exact absurd (k none List.mem_cons_self) (by decide)
    · exact ⟨.str x t :: gs, rfl, fun g hg' => (List.mem_cons.mp hg').elim (fun e => ⟨x, t, e⟩) (hg g)⟩
theorem kinds {vs : List Value} (ne : 0 < vs.length) (hv : ∀ v ∈ vs, ∃ r, TxT s.heap v r) : ∃ κ, (κ = tuples' true ∨ κ = general' ∨ κ = oneType') ∧ ∀ (Q : SortKind → Shared → Prop) (E : Value → Shared → Prop), Q κ s → wpAny M A (keyKind' vs.toArray) Q E s := by
  obtain ⟨fs, ln, ok, go⟩ := firsts_go (M := M) (A := A) vs hv
  by_cases all : ∀ f ∈ fs, f.isSome = true
  · obtain ⟨gs, rfl, hg⟩ := somes ok all
    rw [List.length_map] at ln
    refine ⟨tuples' true, .inl rfl, fun Q E h => ?_⟩
    rw [kat_kind_eq, List.mapM_toArray, map_eq_pure_bind]
    refine wpAny_bind (wpAny_bind (go E _ (wpAny_pure ?_)))
    have c1 : ((gs.map some).toArray.all fun x => x.isSome) = true := by simp
    rw [if_pos c1]
    refine wpAny_bind (wpAny_rule ?_)
    have c2 : ((gs.map some).toArray.filterMap id) = gs.toArray := by simp
    rw [c2, oneTypeOnly'_eq, List.mapM_toArray, map_eq_pure_bind]
    refine wpAny_bind (wpAny_bind (wpAny_bind (PySem.W.kas_mapM (r := Value.type "str") _ (fun v m Q' hq => ?_) (wpAny_pure ?_))))
    · obtain ⟨x, t, rfl⟩ := hg v m
      exact (PySem.W.Looks.of_pure (h := s.heap) (M := M) rfl : PySem.W.Looks M s.heap (typeOf (.str x t)) (.type "str")).here hq
    · have c3 : ((gs.map fun _ => Value.type "str").toArray.all fun x => x == Value.type "str") = true := by
        simp only [List.all_toArray, List.all_map, List.all_eq_true]
        intro _ _
        rfl
      have c4 : (gs.map fun _ => Value.type "str").toArray[0]? = some (.type "str") := by
        obtain ⟨g, gr, rfl⟩ : ∃ g gr, gs = g :: gr := by
          match gs, ln with
          | [], ln => simp at ln; omega
          | g :: gr, _ => exact ⟨g, gr, rfl⟩
        simp
      rw [c4]
      simp only [c3, if_true]
      have c5 : (some (Value.type "str")).any (fun x => x != Value.type "tuple") = true := by first | rfl | decide | simp
      refine wpAny_pure (wpAny_pure ?_)
      rw [c5]
      exact h
  · have c1 : ¬ (fs.toArray.all fun x => x.isSome) = true := by
      simpa using all
    by_cases first : (fs.toArray[0]?.bind id).isSome = true
    · refine ⟨general', .inr (.inl rfl), fun Q E h => ?_⟩
      rw [kat_kind_eq, List.mapM_toArray, map_eq_pure_bind]
      refine wpAny_bind (wpAny_bind (go E _ (wpAny_pure ?_)))
      rw [if_neg c1, if_pos first]
      exact wpAny_pure h
    · refine ⟨oneType', .inr (.inr rfl), fun Q E h => ?_⟩
      rw [kat_kind_eq, List.mapM_toArray, map_eq_pure_bind]
      refine wpAny_bind (wpAny_bind (go E _ (wpAny_pure ?_)))
      rw [if_neg c1, if_neg first]
      rw [oneTypeOnly'_eq, List.mapM_toArray, map_eq_pure_bind]
      refine wpAny_bind (wpAny_bind (wpAny_bind (PySem.W.kas_mapM (r := Value.type "tuple") _ (fun v m Q' hq => ?_) (wpAny_pure ?_))))
      · obtain ⟨r, a, us, rfl, p, rv⟩ := hv v m
        obtain ⟨o, eo, co, n, dn⟩ := p
        have lk : PySem.W.Looks M s.heap (typeOf (.ref a)) o.cls := (PySem.W.Looks.ld eo).andThen .now
        rw [co] at lk
        exact lk.here hq
      · have c3 : ((vs.map fun _ => Value.type "tuple").toArray.all fun x => x == Value.type "tuple") = true := by
          simp only [List.all_toArray, List.all_map, List.all_eq_true]
          intro _ _
          rfl
        have c4 : (vs.map fun _ => Value.type "tuple").toArray[0]? = some (.type "tuple") := by
          obtain ⟨g, gr, rfl⟩ : ∃ g gr, vs = g :: gr := by
            match vs, ne with
            | g :: gr, _ => exact ⟨g, gr, rfl⟩
          simp
        rw [c4]
        simp only [c3, if_true]
        exact wpAny_pure (wpAny_pure h)
end
end V4

set_option maxHeartbeats 4000000
/-! V5a: a dict that stands in K from the top on. -/
namespace V5
open PySem PySem.Spec PyProof.Rows L2 V1 V2 V3
/-- the items of a tuple in K -/
def tupIn (K : PySem.W.Frag) (v : Value) : Option (List Value) := match v with
  | .ref a => match K.lookup a with
    | some ⟨.type "tuple", _, .seq its _, _⟩ => if its.size ≤ 1000 then some its.toList else none
    | _ => none
  | _ => none
def strIn : Value → Option Str
  | .str x _ => some x
  | _ => none
/-- the entries of a dict in K -/
def dictIn (K : PySem.W.Frag) (a : Addr) : Option (List DictEntry) := match K.lookup a with
  | some ⟨.type "dict", none, .dict es _, ⟨[]⟩⟩ => if a = sysModules then none else some es.toList
  | _ => none
theorem tupIn_of {K : PySem.W.Frag} {v : Value} {us : List Value} (h : tupIn K v = some us) : ∃ a, v = .ref a ∧ ∀ (H : Hp) (xs : List V), Vals xs us → SqT K H a xs := by
  unfold tupIn at h
  split at h
  · rename_i a
    split at h
    · rename_i d its n sl e
      split at h
      · rename_i l
        cases h
        exact ⟨a, rfl, fun H xs r => .inr ⟨_, its, n, e, rfl, rfl, Nat.le_trans l (by decide), r⟩⟩
      · cases h
    · cases h
  · cases h
theorem strIn_of {v : Value} {x : Str} (h : strIn v = some x) : RelV (.str x) v := by
  unfold strIn at h
  split at h
  · cases h
    exact ⟨_, rfl⟩
  · cases h
/-- a dict with texts as keys, in K -/
structure KD (K : PySem.W.Frag) (w : World) (a : Addr) (ks : List (Str × Value)) : Prop where
  ne : (a == sysModules) = false
  at_ : ∀ (P : Program) (h : Heap), K.In h → h.DictOf (mixKind P w) a (ks.map fun p => ((.inr p.1 : Key), p.2))
theorem kd_of {K : PySem.W.Frag} {w : World} {a : Addr} {es : List DictEntry} {ks : List (Str × Value)} (h : dictIn K a = some es) (hh : es.map (·.hash) = ks.map fun p => hashStr w p.1) (hk : es.map (fun e => strIn e.key) = ks.map fun p => some p.1) (hv : es.map (·.val) = ks.map (·.2))
    (nd : (ks.map (·.1)).Nodup) : KD K w a ks := by
  unfold dictIn at h
  split at h
  · rename_i ees ep e
    split at h
    · cases h
    · rename_i ne
      cases h
      refine ⟨beq_eq_false_iff_ne.mpr ne, fun P hp inK => ⟨_, ees, ep, inK _ _ e, ⟨rfl, rfl, rfl⟩, rfl, ?_, ?_, ?_⟩⟩
      · intro x hx
        obtain ⟨i, hi, rfl⟩ := List.getElem_of_mem (Array.mem_toList_iff.mpr hx)
        have li : i < ks.length := by
          have := congrArg List.length hv
          rw [List.length_map, List.length_map] at this
          omega
        have e1 := congrArg (fun l => l[i]?) hh
        have e2 := congrArg (fun l => l[i]?) hk
        simp only [List.getElem?_map, List.getElem?_eq_getElem hi, List.getElem?_eq_getElem li, Option.map_some, Option.some.injEq] at e1 e2
        refine ⟨.inr ks[i].1, kV_is (k := .inr ks[i].1) (strIn_of e2), e1⟩
      · have go : ∀ (es : List DictEntry) (ks : List (Str × Value)), es.map (fun e => strIn e.key) = ks.map (fun p => some p.1) → es.map (·.val) = ks.map (·.2) → PySem.Pairs (mixKind P w) es (ks.map fun p => ((.inr p.1 : Key), p.2)) := by
          intro es
          induction es with
          | nil => intro ks h1 _; cases ks with
            | nil => exact .nil
            | cons => cases h1
          | cons x xs ih => intro ks h1 h2; cases ks with
            | nil => cases h1
            | cons k ks =>
              rw [List.map_cons, List.map_cons] at h1 h2
              have a1 := List.cons.inj h1
              have a2 := List.cons.inj h2
              exact .cons (kV_is (k := .inr k.1) (strIn_of a1.1)) a2.1 (ih ks a1.2 a2.2)
        exact go _ _ hk hv
      · rw [List.map_map]
        have : (Prod.fst ∘ fun p : Str × Value => ((.inr p.1 : Key), p.2)) = (Sum.inr : Str → Key) ∘ (·.1) := rfl
        rw [this, ← List.map_map]
        exact List.Pairwise.map _ (fun x y h z => h (Sum.inr.inj z)) nd
  · cases h
def getK (ks : List (Str × Value)) (x : Str) : Option Value := (ks.find? fun p => decide (p.1 = x)).map (·.2)
theorem getK_at (ks : List (Str × Value)) (x : Str) : valueAt (ks.map fun p => ((.inr p.1 : Key), p.2)) (.inr x) = getK ks x := by
  induction ks with
  | nil => rfl
  | cons p ks ih =>
    unfold valueAt getK at ih ⊢
    rw [List.map_cons, List.find?_cons, List.find?_cons]
    by_cases e : p.1 = x
    · simp [e]
    · rw [show decide ((Sum.inr p.1 : Key) = Sum.inr x) = false from decide_eq_false fun z => e (Sum.inr.inj z), decide_eq_false e]
      exact ih
/-- d[x], x in d, x not in d: d in K -/
def tKGet (K : PySem.W.Frag) (w : World) (td ty : TE) : TE := fun σ H Q => td σ H fun x H1 => ty σ H1 fun y H2 => ∃ a ks k u v, x = .ref a ∧ KD K w a ks ∧ y = .str k ∧ getK ks k = some u ∧ RelV v u ∧ Q v H2
def rKNotIn (K : PySem.W.Frag) (w : World) : R2 := fun y x H Q => ∃ a ks k, x = .ref a ∧ KD K w a ks ∧ y = .str k ∧ Q (.bl (!(getK ks k).isSome)) H
def rKIn (K : PySem.W.Frag) (w : World) : R2 := fun y x H Q => ∃ a ks k, x = .ref a ∧ KD K w a ks ∧ y = .str k ∧ Q (.bl (getK ks k).isSome) H
section
variable {X : Cx}
theorem op_kNotIn : OpR X (compareOp .NotIn) (rKNotIn X.K X.w) := by
  intro pins s σ H x y v u Q I rx ry ⟨a, ks, k, ey, D, ex, q⟩
  subst ey ex
  cases ry
  have m := (D.at_ X.prog s.heap I.kIn).mapOf
  refine wpAny_notIn_of (k := (.inr k : Key)) (kV_is rx) D.ne m ?_
  rw [getK_at]
  exact ⟨.bl (!(getK ks k).isSome), H, I.tok _, rfl, q⟩
theorem op_kIn : OpR X (compareOp .In) (rKIn X.K X.w) := by
  intro pins s σ H x y v u Q I rx ry ⟨a, ks, k, ey, D, ex, q⟩
  subst ey ex
  cases ry
  have m := (D.at_ X.prog s.heap I.kIn).mapOf
  refine wpAny_in_of (k := (.inr k : Key)) (kV_is rx) D.ne m ?_
  rw [getK_at]
  exact ⟨.bl (getK ks k).isSome, H, I.tok _, rfl, q⟩
theorem pe_kget {o i : Expr} {pos : Pos} {td ty : TE} (ho : PE X o td) (hi : PE X i ty) (hs : NoSl i) : PE X (.Subscript o i pos) (tKGet X.K X.w td ty) := by
  constructor
  intro pins s σ H Q I h
  refine subD_of PySem.F.slot_dict_getitem.lookup hs (thn (ho.run pins s σ H _ I h) fun z s1 hh => ?_)
  obtain ⟨x, H1, I1, rx, q1⟩ := hh
  refine thn (hi.run pins s1 σ H1 _ I1 q1) fun iv s2 gg => ?_
  obtain ⟨y, H2, I2, ry, a, ks, k, u, v, ex, D, ey, gk, rv, q2⟩ := gg
  subst ex ey
  cases rx
  have m := D.at_ X.prog s2.heap I2.kIn
  exact ⟨m.typeIs, wpAny_getItem_of (k := (.inr k : Key)) (kV_is ry) m.mapOf (by rw [getK_at]; exact gk) ⟨v, H2, I2.tok _, rv, q2⟩⟩
end
end V5

set_option maxHeartbeats 4000000
/-! V5b: a lambda that outlives the def that makes it: its object and the one cell that it captured are tracked. -/
namespace V5
open PySem PySem.Spec PyProof.Rows L2 V1 V2 V3 LamX NdefX
structure LF where
  qual : Str
  params : Arguments
  body : Expr
  scope : Scope
  cl : List (Str × Addr)
  c : Addr
abbrev LF.fd (F : LF) (pm ctv : Value) : FuncData := PySem.W.kla_fn "<lambda>" F.qual F.params F.body F.scope F.cl pm (.ref F.c) ctv
abbrev LF.nf (F : LF) : NF := ⟨"<lambda>", F.qual, F.params, [], F.scope, F.cl, F.c⟩
def LamO (f : Addr) (F : LF) : HO := .ext fun h => ∃ (pm ctv : Value) (od : Option Addr) (sl : Array (Option Value)), h.get? f = some (⟨.type "function", od, .func (F.fd pm ctv), sl⟩ : Obj)
def CellO (c : Addr) (v : V) : HO := .ext fun h => ∃ u, RelV v u ∧ h.IsCell c (some u)
theorem cellO_not {c : Addr} {v : V} : (∀ xs, CellO c v ≠ .tup xs) ∧ (∀ o u, CellO c v ≠ .frz o u) ∧ (∀ ps, CellO c v ≠ .tbl ps) ∧ ∀ y, CellO c v ≠ .own y := by
  unfold CellO
  exact ⟨fun _ z => (nomatch z), fun _ _ z => (nomatch z), fun _ z => (nomatch z), fun _ z => (nomatch z)⟩
theorem lamO_at {P : Program} {w : World} {H : Hp} {h : Heap} {f : Addr} {F : LF} (ok : HOk P w H h) (e : H f = some (LamO f F)) : ∃ (pm ctv : Value) (od : Option Addr) (sl : Array (Option Value)), h.get? f = some (⟨.type "function", od, .func (F.fd pm ctv), sl⟩ : Obj) := (ok f _ e).1
theorem cellO_at {P : Program} {w : World} {H : Hp} {h : Heap} {c : Addr} {v : V} (ok : HOk P w H h) (e : H c = some (CellO c v)) : ∃ u, RelV v u ∧ h.IsCell c (some u) := (ok c _ e).1
theorem cellO_ok {P : Program} {w : World} {H : Hp} {h : Heap} {c : Addr} {v : V} {u : Value} (r : RelV v u) (i : h.IsCell c (some u)) : ObjOk P w H h c (CellO c v) :=
  ⟨⟨u, r, i⟩, let ⟨o, e, _⟩ := i; ⟨o, e⟩, fun _ _ ⟨u', r', o', e', d'⟩ st => ⟨u', r', o', st _ e', d'⟩⟩
/-! ### it is made -/
section
variable {X : Cx} {pins : List (Addr × Obj)} {σ : L2.St} {H : Hp} {s : Shared}
theorem inv_lam {F : LF} {pm ctv : Value} {t' : Nat} (I : Inv X pins σ H s) :
    Inv X pins σ (upd H s.heap.objs.size (LamO s.heap.objs.size F)) { s with heap := s.heap.push (PySem.W.kla_obj "<lambda>" F.qual F.params F.body F.scope F.cl pm F.c ctv), toks := t' } :=
  have at_ : (s.heap.push (PySem.W.kla_obj "<lambda>" F.qual F.params F.body F.scope F.cl pm F.c ctv)).get? s.heap.objs.size = some (PySem.W.kla_obj "<lambda>" F.qual F.params F.body F.scope F.cl pm F.c ctv) := Heap.get?_push_size _ rfl
  I.laid (a := s.heap.objs.size) (fun _ _ e => Heap.get?_push_of_some _ e) (Nat.le_refl _) ⟨⟨pm, ctv, _, _, at_⟩, ⟨_, at_⟩, fun _ _ ⟨p, t, d, l, z⟩ st => ⟨p, t, d, l, st _ z⟩⟩
theorem lam_mk {T : List (Addr × Str)} {c P : Addr} {params : Arguments} {body : Expr} {scope : Scope} {pos : Pos} {E : Value → Shared → Prop} {Q : Value → Shared → Prop} (I : Inv X pins σ H s) (TB : TabB X.base X.mg c P) (code : X.env.code = .ref c) (mem : (P, X.env.qual ++ "<lambda>") ∈ T)
    (uniq : ∀ p ∈ T, p.1 = P → p.2 = X.env.qual ++ "<lambda>") (tabs : Tabs T H) (dfl : defaultsOf params X.env = ([], [])) (fr : ∀ y ∈ scope.names, y.2 = .free → ∃ c, X.env.cells.lookup y.1 = some c)
    (k : ∀ (f c' : Addr) (H1 : Hp) (s' : Shared), Inv X pins σ (upd H1 f (LamO f ⟨X.env.qual ++ "<lambda>", params, body, scope, cloFrom X.env.cells scope.names [], c'⟩)) s' → ExtN H H1 → Tabs T H1 → H1 f = none → H1 c' = some (CodeO c' (X.env.qual ++ "<lambda>")) → Q (.ref f) s') :
    wpAny (model X.prog X.w) X.A (eval (.Lambda params body scope pos) X.env) Q E s := by
  obtain ⟨tb, atP, tri, known⟩ := tabs _ mem
  have heapP : s.heap.get? P = some { cls := .none, data := .fields tb } := I.hok P _ atP
  have names := I.mod.glob.keeps I.bk
  have blt := TB.bm.keeps I.bk
  have hd := TB.code.keeps I.bk
  have clo := closure_ok fr
  refine PySem.W.kla_eval dfl ?_
  cases hit : codeAmong pos tb.toList with
  | some cv =>
    obtain ⟨c', rfl, co⟩ := known pos cv hit
    refine PySem.W.kla_makeFunctionHit clo I.ok.glob names code hd heapP tri hit blt fun ctv g tk up le => ?_
    have J : Inv X pins σ H { s with heap := g, toks := tk } := I.kept up
    exact k _ c' H _ (inv_lam J) (ExtN.refl H) tabs (J.hok.fresh (Nat.le_refl _)) co
  | none =>
    refine PySem.W.kla_makeFunction clo I.ok.glob names code hd heapP tri hit TB.gP blt fun c' ctv g tk up ge lt rec tab => ?_
    obtain ⟨c2, oc, vs, t, ec, hoc, dc, vc⟩ := rec
    cases ec
    have fresh : H c' = none := I.hok.fresh ge
    have J := inv_table (t' := tk) (q := X.env.qual ++ "<lambda>") (more := #[rawInt pos.line, rawInt pos.col, .ref c']) (h' := g) I atP (fun b o nb e => up b o nb e) tab ge ⟨oc, vs, t, hoc, dc, vc⟩
    have ext : ExtN H (upd (upd H P (.tbl (tb ++ #[rawInt pos.line, rawInt pos.col, .ref c']))) c' (CodeO c' (X.env.qual ++ "<lambda>"))) := fun b o e n => by
      have n1 : b ≠ P := fun z => n tb (by rw [z, atP] at e; exact (Option.some.inj e).symm)
      rw [upd_ne (ne_of_none e fresh), upd_ne n1]
      exact e
    refine k _ c' _ _ (inv_lam J) ext (fun p hp => ?_) (J.hok.fresh (Nat.le_refl _)) upd_same
    by_cases e : p.1 = P
    · rw [uniq p hp e, e]
      have lst : (tb ++ #[rawInt pos.line, rawInt pos.col, .ref c']).toList = tb.toList ++ [rawInt pos.line, rawInt pos.col, .ref c'] := by simp
      refine ⟨_, by rw [upd_ne (ne_of_none atP fresh), upd_same], by rw [lst]; exact PySem.TriplesOk_snoc _ _ _ _ tri, fun p' cv hcv => ?_⟩
      rw [lst] at hcv
      rcases among_app _ tri hcv with z | z
      · obtain ⟨c0, e1, e2⟩ := known p' cv z
        exact ⟨c0, e1, ext _ _ e2 codeO_ne⟩
      · exact ⟨c', z, upd_same⟩
    · obtain ⟨ps', a1, a2, a3⟩ := tabs p hp
      refine ⟨ps', by rw [upd_ne (ne_of_none a1 fresh), upd_ne e]; exact a1, a2, fun p' cv hcv => ?_⟩
      obtain ⟨c0, e1, e2⟩ := a3 p' cv hcv
      exact ⟨c0, e1, ext _ _ e2 codeO_ne⟩
end
def tLamK (ts : List (Addr × Str)) (mk : Addr → LF) : TE := fun _ H Q => Tabs ts H ∧ ∀ H1 f c', ExtN H H1 → Tabs ts H1 → H1 f = none → H1 c' = some (CodeO c' (mk c').qual) → Q (.ref f) (upd H1 f (LamO f (mk c')))
theorem pe_lamK {X : Cx} {ts : List (Addr × Str)} {c P : Addr} {params : Arguments} {body : Expr} {scope : Scope} {pos : Pos} (TB : TabB X.base X.mg c P) (code : X.env.code = .ref c) (mem : (P, X.env.qual ++ "<lambda>") ∈ ts)
    (uniq : ∀ p ∈ ts, p.1 = P → p.2 = X.env.qual ++ "<lambda>") (fr : ∀ y ∈ scope.names, y.2 = .free → X.env.scope.names.lookup y.1 = some .cell ∨ X.env.scope.names.lookup y.1 = some .free) (dfl : defaultsOf params X.env = ([], []) := by rfl) :
    PE X (.Lambda params body scope pos) (tLamK ts fun c' => ⟨X.env.qual ++ "<lambda>", params, body, scope, cloFrom X.env.cells scope.names [], c'⟩) :=
  ⟨fun pins s σ H Q I ⟨hT, h⟩ => lam_mk I TB code mem uniq hT dfl (fun y hy e => (fr y hy e).elim (fun z => I.ok.has _ (.inl z)) fun z => I.ok.has _ (.inr z)) fun f c' H1 s1 I1 eN T1 new co => ⟨.ref f, _, I1, rfl, h H1 f c' eN T1 new co⟩⟩
/-! ### a tracked cell is laid aside for a call -/
section
variable {P : Program} {w : World} {H H' : Hp} {h h' : Heap} {c : Addr} {v : V} {fs : List Addr}
theorem hok_aside (ok : HOk P w H h) (e : H c = some (CellO c v)) : HOk P w (delH H c) h := fun a o ea => by
  have ne : a ≠ c := fun z => by
    rw [z, delH_same] at ea
    cases ea
  rw [delH_ne ne] at ea
  refine (ok a o ea).stay (fun _ _ _ z => z) (fun b z => ?_) fun b xs z => ?_
  · have nb : b ≠ c := fun q => by
      rw [q, e] at z
      exact cellO_not.2.2.2 a (Option.some.inj z)
    rw [delH_ne nb]
    exact z
  · have nb : b ≠ c := fun q => by
      rw [q, e] at z
      exact cellO_not.1 xs (Option.some.inj z)
    rw [delH_ne nb]
    exact z
theorem hok_back {u : Value} (ok : HOk P w H' h') (n : H' c = none) (r : RelV v u) (i : h'.IsCell c (some u)) : HOk P w (upd H' c (CellO c v)) h' := fun a o ea => by
  by_cases q : a = c
  · subst q
    rw [upd_same] at ea
    cases ea
    exact cellO_ok r i
  · rw [upd_ne q] at ea
    exact (ok a o ea).stay (fun _ _ _ z => z) (fun b z => by rw [upd_ne (ne_of_none z n)]; exact z) fun b xs z => by rw [upd_ne (ne_of_none z n)]; exact z
theorem un_back (e : H c = some (CellO c v)) (n : H' c = none) (un : Un fs [] (delH H c) H' h h') : Un fs [] H (upd H' c (CellO c v)) h h' where
  keep b o q z hb hx := un.keep b o q (by rw [delH_ne (fun y => by rw [y, e] at z; cases z)]; exact z) hb hx
  slot b o q z hb hx := un.slot b o q (by rw [delH_ne (fun y => by rw [y, e] at z; cases z)]; exact z) hb hx
  free b o q z hx := by
    have ne : b ≠ c := fun y => by
      rw [y, e] at z
      cases z
    rw [upd_ne ne]
    exact un.free b o q (by rw [delH_ne ne]; exact z) hx
  there b o q hx := un.there b o q hx
  tups b xs z := by
    have ne : b ≠ c := fun y => by
      rw [y, e] at z
      exact cellO_not.1 xs (Option.some.inj z)
    rw [upd_ne ne]
    exact un.tups b xs (by rw [delH_ne ne]; exact z)
  frzs b o u z := by
    have ne : b ≠ c := fun y => by
      rw [y, e] at z
      exact cellO_not.2.1 o u (Option.some.inj z)
    rw [upd_ne ne]
    exact un.frzs b o u (by rw [delH_ne ne]; exact z)
  tbls b ps z := by
    have ne : b ≠ c := fun y => by
      rw [y, e] at z
      exact cellO_not.2.2.1 ps (Option.some.inj z)
    rw [upd_ne ne]
    exact un.tbls b ps (by rw [delH_ne ne]; exact z)
end
/-! ### it is called -/
section
variable {P : Program} {w : World} {K : PySem.W.Frag} {mg : Str → Option Value} {base : Heap} {N ps : List Str} {y : Str} {F : LF} {f c : Addr} {A : Around} {outer : List Env} {s : Shared} {H : Hp} {us : List Value} {vs : List V} {v : V} {Q : VK} {k : Nat}
theorem run_lam (S : NScope N ps [y] F.scope) (hb : ∀ (pm ctv : Value) (us : List Value), us.length = ps.length → bindArgs (F.fd pm ctv) ⟨us, []⟩ = pure (ps.zip us)) (hr : Room (k + 1) A) (e0 : Env0 P w K mg base A outer s H) (hf : H f = some (LamO f F)) (hc : H F.c = some (CodeO F.c F.qual))
    (hcl : F.cl = [(y, c)]) (hv : H c = some (CellO c v)) (r : Vals vs us) (hl : vs.length = ps.length)
    (body : Room k (A.deeper (envF F.nf f s.heap.objs.size)) → ∃ te, PE (ncx C8.CX0 P w K mg base N F.nf f A outer s (delH H c) C8.E0) F.body te ∧ te (startF N vs [some v]) (delH H c) fun x H' => H' c = none → Q x (upd H' c (CellO c v))) :
    codeAny (model P w) A (.call (.ref f) ⟨us, []⟩) (CR C8.CX0 outer P w H s Q C8.E0) s := by
  obtain ⟨pm, ctv, od, sl, ho⟩ := lamO_at e0.hok hf
  obtain ⟨u, ru, cu⟩ := cellO_at e0.hok hv
  have lim : s.heap.NoLimit := e0.mod.nolimit.keeps fun b o e => (e0.bs b o e).1
  refine PySem.W.kla_callFunE hr.depth ho rfl S.co S.gen rfl (codeO_at e0.hok hc) ?_
  rw [hb pm ctv us (by rw [← r.length]; exact hl)]
  refine wpAny_pure (wpAny_newFunctionEnv S.nocell (fun ⟨n, _⟩ hy => S.par n (List.of_mem_zip hy).1) (fun g ns sb => ⟨lim.fresh _ sb, ?_⟩) S.kind)
  obtain ⟨te, pe, q⟩ := body (hr.deeper _)
  have e1 : Env0 P w K mg base A outer s (delH H c) := ⟨e0.frames, e0.mod, fun b o e => ⟨(e0.bs b o e).1, by
    unfold delH
    split
    · rfl
    · exact (e0.bs b o e).2⟩, e0.bsz, e0.funs, fun b e => by
    unfold delH
    split
    · rfl
    · exact e0.frf b e, hok_aside e0.hok hv, e0.bare⟩
  have C : CellsAt F.cl [y] [some v] s.heap (delH H c) := by
    rw [hcl]
    refine ⟨rfl, fun z d hd => ?_, fun x z d h1 h2 => ?_, fun i z hz => ?_⟩
    · simp only [List.lookup] at hd
      split at hd
      · cases hd
        exact ⟨delH_same, _, cu⟩
      · cases hd
    · have one : ∀ {a : Str}, [(y, c)].lookup a = some d → a = y := fun {a} h => by
        simp only [List.lookup] at h
        split at h
        · rename_i e
          simpa using e
        · cases h
      exact (one h1).trans (one h2).symm
    · have i0 : i = 0 := by
        rcases Nat.eq_zero_or_pos i with e | e
        · exact e
        · rw [List.getElem?_eq_none (by show 1 ≤ i; omega)] at hz
          cases hz
      subst i0
      obtain rfl : y = z := by simpa using hz
      exact ⟨c, by simp [List.lookup], fun v' hv' => by cases hv'; exact ⟨u, ru, cu⟩⟩
  have kp : ∀ b o, s.heap.get? b = some o → g.get? b = some o := fun b o e => sb.extBut b o (Nat.ne_of_lt (Heap.lt_size e)) (Heap.get?_push_of_some _ e)
  have I : Inv (ncx C8.CX0 P w K mg base N F.nf f A outer s (delH H c) C8.E0) [] (startF N vs [some v]) (delH H c) { s with heap := g, toks := s.toks + (ps.zip us).length } := inv_startN (F := F.nf) S hr.hd e1 hl r C ns kp
  refine PySem.W.kla_codeExpr (wpAny_mono (pe.run [] _ _ _ _ I q) (fun x s' hh => ?_) fun _ _ hh => hh)
  obtain ⟨x', H', J, rx, q2⟩ := hh
  have nc : c ∉ frs outer := fun z => by
    rw [e0.frf c z] at hv
    cases hv
  obtain ⟨oc, eo, dc⟩ := cu
  have there := J.base.keep c oc eo delH_same nc (fun z => absurd (show c ∈ ([] : List Addr) from z) List.not_mem_nil)
  have gone := J.base.free c oc eo delH_same (fun z => absurd (show c ∈ ([] : List Addr) from z) List.not_mem_nil)
  exact ⟨x', upd H' c (CellO c v), J.os, J.bare, un_back hv gone J.base, hok_back J.hok gone ru ⟨oc, there, dc⟩, rx, q2 gone⟩
end
end V5

set_option maxHeartbeats 4000000
/-! V5c: a suite's end told of its slots; a def whose captured parameter outlives it; a lambda held in a field is called; one method, several classes. -/
namespace V5
open PySem PySem.Spec PyProof.Rows L2 V1 V2 V3 LamX NdefX
abbrev ZR := V → L2.St → Hp → Prop
abbrev ZN := L2.St → Hp → Prop
def ZP (X : Cx) (pins : List (Addr × Obj)) (R : ZR) (N : ZN) : Flow → Shared → Prop
  | .ret u, s' => ∃ v σ' H', Inv X pins σ' H' s' ∧ RelV v u ∧ R v σ' H'
  | .next, s' => ∃ σ' H', Inv X pins σ' H' s' ∧ N σ' H'
  | _, _ => False
structure PZ (X : Cx) (b : List Stmt) (t : ZR → ZN → L2.St → Hp → Prop) : Prop where
  run : ∀ (pins : List (Addr × Obj)) (s : Shared) (σ : L2.St) (H : Hp) (R : ZR) (N : ZN), Inv X pins σ H s → t R N σ H → wpAny (model X.prog X.w) X.A (execs b X.env) (ZP X pins R N) X.xe s
section
variable {X : Cx} {rest a b : List Stmt} {st : Stmt} {e c : Expr} {pos : Pos} {te : TE} {tc : TT} {ts : TS} {z za zb : ZR → ZN → L2.St → Hp → Prop}
theorem pz_nil : PZ X [] fun _ N σ H => N σ H := ⟨fun _ _ σ H _ _ I q => wpAny_execs_nil ⟨σ, H, I, q⟩⟩
theorem pz_st (h : PS X st ts) (h2 : PZ X rest z) : PZ X (st :: rest) fun R N σ H => ts { nx := z R N, rt := fun _ _ => False } σ H :=
  ⟨fun pins s σ H R N I q => wpAny_execs_cons (thn (h.run pins s σ H _ I q) fun fl s1 o => by
    cases fl with
    | next => exact let ⟨σ', H', I', q'⟩ := o; h2.run pins s1 σ' H' R N I' q'
    | ret u => exact let ⟨_, _, _, _, _, q'⟩ := o; q'.elim
    | brk => exact let ⟨_, _, _, q'⟩ := o; q'.elim
    | cont => exact let ⟨_, _, _, q'⟩ := o; q'.elim)⟩
theorem pz_ret (h : PE X e te) : PZ X (.Return (some e) pos :: rest) fun R _ σ H => te σ H fun v H1 => R v σ H1 :=
  ⟨fun pins s σ H R N I q => wpAny_execs_cons (wpAny_Return_some (thn (h.run pins s σ H _ I q) fun u s1 o => let ⟨x, H1, I1, r1, q1⟩ := o; ⟨x, σ, H1, I1, r1, q1⟩))⟩
theorem pz_if (hc : PT X c tc) (ha : PZ X a za) (hb : PZ X b zb) (h2 : PZ X rest z) : PZ X (.If c a b pos :: rest) fun R N σ H => tc σ H fun d H1 => if d = true then za R (z R N) σ H1 else zb R (z R N) σ H1 := by
  constructor
  intro pins s σ H R N I q
  have after : ∀ (bl : List Stmt) (zz : ZR → ZN → L2.St → Hp → Prop), PZ X bl zz → ∀ s1 H1, Inv X pins σ H1 s1 → zz R (z R N) σ H1 → wpAny (model X.prog X.w) X.A (execs bl X.env) (fun fl s' => match fl with
      | .next => wpAny (model X.prog X.w) X.A (execs rest X.env) (ZP X pins R N) X.xe s'
      | fl => ZP X pins R N fl s') X.xe s1 := fun bl zz hz s1 H1 I1 q1 => thn (hz.run pins s1 σ H1 R (z R N) I1 q1) fun fl s' o => by
    cases fl with
    | next => exact let ⟨σ', H', I', q'⟩ := o; h2.run pins s' σ' H' R N I' q'
    | ret u => exact o
    | brk => exact o.elim
    | cont => exact o.elim
  refine wpAny_execs_cons (wpAny_If (thn (hc.run pins s σ H _ I q) fun d s1 o => ?_))
  obtain ⟨H1, I1, q1⟩ := o
  cases d with
  | true => exact thn (after a za ha s1 H1 I1 q1) fun fl s' o => by cases fl <;> exact o
  | false => exact thn (after b zb hb s1 H1 I1 q1) fun fl s' o => by cases fl <;> exact o
theorem PZ.nox (h : PZ X.nox b z) : PZ X b z := ⟨fun pins s σ H R N I q => wpAny_mono (h.run pins s σ H R N (I.wish _) q) (fun fl s' o => by
    cases fl with
    | next => exact let ⟨σ', H', I', q'⟩ := o; ⟨σ', H', I'.unwish, q'⟩
    | ret u => exact let ⟨v, σ', H', I', r, q'⟩ := o; ⟨v, σ', H', I'.unwish, r, q'⟩
    | brk => exact o.elim
    | cont => exact o.elim) fun _ _ z => False.elim z⟩
end
/-! ### the def whose parameter is captured -/
theorem un_more {fs : List Addr} {H H' : Hp} {h h' : Heap} {c : Addr} {o : HO} (un : Un fs [] H H' h h') (n : H' c = none) (fresh : h.objs.size ≤ c) : Un fs [] H (upd H' c o) h h' where
  keep b q e z hb hx := un.keep b q e z hb hx
  slot b q e z hb hx := un.slot b q e z hb hx
  free b q e z hx := by
    rw [upd_ne fun y => by rw [y] at e; exact Nat.lt_irrefl _ (Nat.lt_of_lt_of_le (Heap.lt_size e) fresh)]
    exact un.free b q e z hx
  there b q e hx := un.there b q e hx
  tups b xs z := by
    rw [upd_ne (ne_of_none (un.tups b xs z) n)]
    exact un.tups b xs z
  frzs b q u z := by
    rw [upd_ne (ne_of_none (un.frzs b q u z) n)]
    exact un.frzs b q u z
  tbls b ps z := by
    obtain ⟨more, e⟩ := un.tbls b ps z
    exact ⟨more, by rw [upd_ne (ne_of_none e n)]; exact e⟩
section
variable {P : Program} {w : World} {K : PySem.W.Frag} {mg : Str → Option Value} {base : Heap} {x qual : Str} {params : Arguments} {body : List Stmt} {scope : Scope} {dvs : List V} {kws : List (Str × V)} {f : Addr} {fd : FuncData}
theorem fn_cell {CX : CXT} {N ps : List Str} {k i : Nat} {y : Str} {sp : Sp} (F : FunD K x qual params body scope dvs kws f fd) (T : V4.LamD K f) (S : FnScope N ps scope) (len : ∀ vs H Q E, sp vs H Q E → vs.length = ps.length) (hN : N[i]? = some y) (hy : scope.names.lookup y = some .cell)
    (hcs : ∀ n, cellsFrom n scope.names [] = [(y, n)])
    (go : ∀ (A : Around) (outer : List Env) (s : Shared) (H : Hp) (vs : List V) (Q : VK) (E : XK), Room k (A.deeper (envOfC qual scope s.heap.objs.size f (.ref (V4.pairOf K f).1))) → sp vs H Q E →
      ∃ z, PZ (cxOf CX P w K mg base N qual scope f (.ref (V4.pairOf K f).1) A outer s H E) body z ∧ z (fun v σ' H' => ∃ u, σ'[i]? = some (some u) ∧ (H' (s.heap.objs.size + 1) = none → Q v (upd H' (s.heap.objs.size + 1) (CellO (s.heap.objs.size + 1) u)))) (fun _ _ => False) (start N vs) H) :
    FnOk P w K mg base CX (k + 1) f fd ps sp := by
  obtain ⟨oc, od, dV, kV, doc, pm, an, cdv, ct, osl, rfl, lk, cd, _, _⟩ := F.ex
  obtain rfl : cdv = .ref (V4.pairOf K f).1 := T.code _ _ lk rfl
  refine ⟨len, fun A outer s H args us vs Q E hr e0 bind rv hs => ?_⟩
  have inK : K.In s.heap := e0.mod.kin.keeps fun b o e => (e0.bs b o e).1
  have free : s.heap.NoLimit := e0.mod.nolimit.keeps fun b o e => (e0.bs b o e).1
  have kinds : ∀ q ∈ ps.zip us, scope.names.lookup q.1 = some .local ∨ (scope.names.lookup q.1 = some .cell ∧ ((cellsFrom (s.heap.objs.size + 1) scope.names []).lookup q.1).isSome = true) := by
    rintro ⟨n, v⟩ hq
    rcases S.par n (List.of_mem_zip hq).1 with z | z
    · exact .inl z
    · exact .inr ⟨z, PySem.W.cellsFrom_some _ _ _ (.inl z)⟩
  refine codeAny_call_function hr.depth (inK _ _ lk) rfl S.co S.gen rfl (PySem.W.codeRec_of inK cd) (bind _ _ _ _ ?_)
  refine wpAny_newFunctionEnv_cells S.kind kinds fun env he s1 st => ?_
  subst he
  refine ⟨free.keeps st.toInCall.keep, codeAny_func ?_⟩
  obtain ⟨z, hz, hq⟩ := go A outer s H vs Q E (hr.deeper _) hs
  have I : Inv (cxOf CX P w K mg base N qual scope f (.ref (V4.pairOf K f).1) A outer s H E) [] (start N vs) H s1 := inv_start S hr.hd e0 (len _ _ _ _ hs) rv st
  refine wpAny_mono (hz.run [] s1 _ H _ _ I hq) (fun fl s' o => ?_) fun _ _ o => o
  cases fl with
  | next => exact let ⟨_, _, _, q⟩ := o; q.elim
  | brk => exact o.elim
  | cont => exact o.elim
  | ret u' =>
    obtain ⟨v', σ', H', J, r', u, eu, q⟩ := o
    have kc : (cxOf CX P w K mg base N qual scope f (.ref (V4.pairOf K f).1) A outer s H E).env.cells.lookup y = some (s.heap.objs.size + 1) := by
      show (cellsFrom (s.heap.objs.size + 1) scope.names []).lookup y = _
      rw [hcs]
      simp [List.lookup]
    have gone := J.freeC y _ kc
    obtain ⟨m, _, at_⟩ := J.loc
    obtain ⟨uv, ru, lo⟩ := at_ i y u hN eu (.inr (.inl hy))
    have cell : s'.heap.IsCell (s.heap.objs.size + 1) (some uv) := by
      rcases lo with ⟨k', _⟩ | ⟨_, c, e, ic⟩
      · have k' : scope.names.lookup y = some .local := k'
        rw [hy] at k'
        cases k'
      · rw [kc] at e
        cases e
        exact ic
    exact ⟨v', _, J.os, J.bare, un_more J.base gone (Nat.le_succ _), hok_back J.hok gone ru cell, r', q gone⟩
end
/-! ### the call of a lambda that a field holds -/
structure LOk (P : Program) (w : World) (K : PySem.W.Frag) (mg : Str → Option Value) (base : Heap) (k : Nat) (mk : Addr → Addr → LF) (ps : List Str) (sp : V → Sp) : Prop where
  len : ∀ v vs H Q E, sp v vs H Q E → vs.length = ps.length
  run : ∀ (A : Around) (outer : List Env) (s : Shared) (H : Hp) (us : List Value) (vs : List V) (f c c' : Addr) (v : V) (Q : VK), Room k A → Env0 P w K mg base A outer s H → H f = some (LamO f (mk c c')) → H c' = some (CodeO c' (mk c c').qual) → H c = some (CellO c v) → Vals vs us →
    sp v vs (delH H c) (fun x H' => H' c = none → Q x (upd H' c (CellO c v))) C8.E0 → codeAny (model P w) A (.call (.ref f) ⟨us, []⟩) (CR C8.CX0 outer P w H s Q C8.E0) s
theorem lok_of {P : Program} {w : World} {K : PySem.W.Frag} {mg : Str → Option Value} {base : Heap} {k : Nat} {N ps : List Str} {y qual : Str} {params : Arguments} {body : Expr} {scope : Scope} {sp : V → Sp} (S : NScope N ps [y] scope)
    (hb : ∀ (cl : List (Str × Addr)) (c : Addr) (pm ctv : Value) (us : List Value), us.length = ps.length → bindArgs ((⟨qual, params, body, scope, cl, c⟩ : LF).fd pm ctv) ⟨us, []⟩ = pure (ps.zip us)) (len : ∀ v vs H Q E, sp v vs H Q E → vs.length = ps.length)
    (go : ∀ (A : Around) (outer : List Env) (s : Shared) (H : Hp) (vs : List V) (f c c' : Addr) (v : V) (Q : VK), Room k (A.deeper (envF (⟨qual, params, body, scope, [(y, c)], c'⟩ : LF).nf f s.heap.objs.size)) → sp v vs H Q C8.E0 →
      ∃ te, PE (ncx C8.CX0 P w K mg base N (⟨qual, params, body, scope, [(y, c)], c'⟩ : LF).nf f A outer s H C8.E0) body te ∧ te (startF N vs [some v]) H Q) :
    LOk P w K mg base (k + 1) (fun c c' => ⟨qual, params, body, scope, [(y, c)], c'⟩) ps sp :=
  ⟨len, fun A outer s H us vs f c c' v Q hr e0 hf hc hv r q => run_lam (F := ⟨qual, params, body, scope, [(y, c)], c'⟩) S (hb _ _) hr e0 hf hc rfl hv r (len _ _ _ _ _ q) fun hr' => go A outer s (delH H c) vs f c c' v _ hr' q⟩
def tFldL (K : PySem.W.Frag) (m : Str) (mk : Addr → Addr → LF) (sp : V → Sp) (ta : TE) (t : TA) : TE := fun σ H Q => ta σ H fun x H1 => ∃ a C dx fs f c c' v, x = .ref a ∧ H1 a = some (.ins C dx fs) ∧ Cls K C ∧ NoAttr K C m ∧ fs.lookup m = some (.ref f) ∧ H1 f = some (LamO f (mk c c')) ∧
  t σ H1 fun vs H2 => H2 f = some (LamO f (mk c c')) ∧ H2 c' = some (CodeO c' (mk c c').qual) ∧ H2 c = some (CellO c v) ∧ sp v vs (delH H2 c) (fun x H' => H' c = none → Q x (upd H' c (CellO c v))) C8.E0
section
variable {X : Cx} {k : Nat} {ps : List Str} {mk : Addr → Addr → LF} {sp : V → Sp} {m : Str} {pos apos : Pos} {e o : Expr} {es : List Expr} {ta : TE} {t : TA}
theorem lam_fnAt {pins : List (Addr × Obj)} {σ : L2.St} {H : Hp} {s : Shared} {f : Addr} {F : LF} (I : Inv X pins σ H s) (e : H f = some (LamO f F)) : PySem.W.FnAt f s.heap := by
  obtain ⟨pm, ctv, od, sl, z⟩ := lamO_at I.hok e
  exact ⟨_, od, _, sl, z⟩
theorem pe_fldL {pl : Sem Bool} (he : PE X o ta) (L : LOk X.prog X.w X.K X.mg X.base k mk ps sp) (hr : Room k X.A) (ha : PA X (e :: es) t)
    (st : starEach (e :: es) X.env = (false, eval e X.env) :: starEach es X.env := by rfl) (pn : (backTo pos (starEach es X.env)).any (·.1) = false := by rfl)
    (ev : eval (.Call (.Attribute o m apos) (e :: es) [] pos) X.env = (do let ov ← eval o X.env; standAt apos.atName; let (g, first) ← holding [ov] (getMethod ov m pl); callWith pos g first (backTo pos (starEach (e :: es) X.env)) (backToKw pos (keywordEach [] X.env))) := by rfl) :
    PE X (.Call (.Attribute o m apos) (e :: es) [] pos) (tFldL X.K m mk sp ta t) := by
  constructor
  intro pins s σ H Q I h
  refine PySem.W.methodCall_KW (pl := pl) (thn (he.run pins s σ H _ I h) fun u s1 hh => ?_) ev
  obtain ⟨x, H1, J, rx, a, C, dx, fs, f, c, c', v, rfl, ea, cC, n, l, lf, q⟩ := hh
  cases rx
  obtain ⟨mA, O, r, _, _, _⟩ := ins_get J.hok ea
  obtain ⟨w', hw, rw'⟩ := RelO.some_of (v := .ref f) (o := mA m) (by rw [← l]; exact r m)
  cases rw'
  obtain ⟨od, O', hl⟩ := O.look
  refine PySem.W.method_usual J.kIn O' (PySem.W.plainGet_of (cC.get m)).1 (PySem.W.plainGet_of (cC.get m)).2 n rfl ?_
  refine PySem.W.get_value J.kIn O' (PySem.W.plainGet_of (cC.get m)).1 (PySem.W.findObj_own cC.hd n rfl (by rw [hl, hw])) rfl ?_
  have J2 := J.tok (s.toks)
  refine PySem.W.callWith_F (first := []) (lam_fnAt (J.tok _) lf) (thn (ha.run pos pins _ σ H1 _ (J.tok _) q) fun us s2 gg => ?_) st pn
  obtain ⟨vs, H2, I2, r2, h1, h2, h3, q2⟩ := gg
  refine ⟨lam_fnAt I2 h1, wpAny_call (codeAny_mono (L.run X.A X.stack s2 H2 us vs f c c' v Q hr I2.env0 h1 h2 h3 r2 q2) fun res s3 out => ?_)⟩
  cases res with
  | error e => exact (show False from out).elim
  | ok fl =>
    cases fl with
    | ret u => exact I2.after out
    | next => exact False.elim out
    | brk => exact False.elim out
    | cont => exact False.elim out
end
/-! ### o.m(..), o of one of several classes -/
structure MOk (X : Cx) (CX : CXT) (k : Nat) (m : Str) (C : Addr) (sp : Sp) : Prop where
  ex : ∃ f fd ps, Cls X.K C ∧ Meth X.K C m f ∧ FnOk X.prog X.w X.K X.mg X.base CX k f fd ps sp ∧ Binds X.K fd ps []
def tMethA (m : Str) (Cs : List (Addr × Sp)) (E : XK) (ta : TE) (t : TA) : TE := fun σ H Q => ta σ H fun x H1 => ∃ p ∈ Cs, ∃ a dx fs, x = .ref a ∧ H1 a = some (.ins p.1 dx fs) ∧ fs.lookup m = none ∧ t σ H1 fun vs H2 => p.2 (x :: vs) H2 Q E
theorem pe_methA {X : Cx} {CX : CXT} {k : Nat} {m : Str} {Cs : List (Addr × Sp)} {E : XK} {o e : Expr} {es : List Expr} {ta : TE} {t : TA} {apos pos : Pos} {pl : Sem Bool} (he : PE X o ta) (M : ∀ p ∈ Cs, MOk X CX k m p.1 p.2) (hr : Room k X.A) (hx : Passes CX X E) (ha : PA X (e :: es) t)
    (st : starEach (e :: es) X.env = (false, eval e X.env) :: starEach es X.env := by rfl) (pn : (backTo pos (starEach es X.env)).any (·.1) = false := by rfl)
    (ev : eval (.Call (.Attribute o m apos) (e :: es) [] pos) X.env = (do let ov ← eval o X.env; standAt apos.atName; let (g, first) ← holding [ov] (getMethod ov m pl); callWith pos g first (backTo pos (starEach (e :: es) X.env)) (backToKw pos (keywordEach [] X.env))) := by rfl) :
    PE X (.Call (.Attribute o m apos) (e :: es) [] pos) (tMethA m Cs E ta t) := by
  constructor
  intro pins s σ H Q I h
  refine PySem.W.methodCall_KW (pl := pl) (thn (he.run pins s σ H _ I h) fun u s1 hh => ?_) ev
  obtain ⟨x, H1, J, rx, p, hp, a, dx, fs, rfl, ea, l, q⟩ := hh
  cases rx
  obtain ⟨f, fd, ps, cC, mM, F, B⟩ := (M p hp).ex
  refine getmeth_ok J ea cC mM l (PySem.W.callWith_K (first := [.ref a]) (h₀ := X.base) I.ok.mod.kin mM.kp (thn (ha.run pos pins s1 σ H1 _ J q) fun us s2 gg => ?_) st pn)
  obtain ⟨vs, H2, J2, r, q2⟩ := gg
  exact ⟨J2.kIn, run_fn (dvs := []) (ds := []) (us := .ref a :: us) (vs := .ref a :: vs) F hr B .nil hx J2 (.cons rfl r) (by rw [List.append_nil]; exact q2)⟩
end V5

set_option maxHeartbeats 4000000
/-! V5d: a dict in K whose values are pairs of a text and a tuple of texts; a tuple of texts in K. -/
namespace V5
open PySem PySem.Spec PyProof.Rows L2 V1 V2 V3
def strsIn (us : List Value) : Option (List Str) := us.mapM strIn
def formOf (K : PySem.W.Frag) (v : Value) : Option (Str × List Str) := match tupIn K v with
  | some [x, u] => (strIn x).bind fun a => ((tupIn K u).bind strsIn).map fun ps => (a, ps)
  | _ => none
def formsB (K : PySem.W.Frag) (a : Addr) (L : List (Str × Str × List Str)) : Bool := match dictIn K a with
  | some es => decide (es.map (fun e => strIn e.key) = L.map fun p => some p.1) && decide (es.map (fun e => formOf K e.val) = L.map fun p => some p.2)
  | none => false
def hashesOf (K : PySem.W.Frag) (a : Addr) : List Int := match dictIn K a with
  | some es => es.map (·.hash)
  | none => []
def strsB (K : PySem.W.Frag) (a : Addr) (L : List Str) : Bool := decide ((tupIn K (.ref a)).bind strsIn = some L)
theorem strsIn_of : ∀ {us : List Value} {ps : List Str}, strsIn us = some ps → Vals (ps.map V.str) us
  | [], ps, h => by
    simp [strsIn] at h
    subst h
    exact .nil
  | u :: us, ps, h => by
    simp only [strsIn, List.mapM_cons, Option.bind_eq_bind, Option.bind_eq_some_iff, Option.pure_def, Option.some.injEq] at h
    obtain ⟨x, hx, xs, hxs, rfl⟩ := h
    exact .cons (strIn_of hx) (strsIn_of hxs)
theorem strsB_of {K : PySem.W.Frag} {a : Addr} {L : List Str} (h : strsB K a L = true) (H : Hp) : SqT K H a (L.map V.str) := by
  have e := of_decide_eq_true h
  obtain ⟨us, e1, e2⟩ := Option.bind_eq_some_iff.mp e
  obtain ⟨b, eb, q⟩ := tupIn_of e1
  cases eb
  exact q H _ (strsIn_of e2)
/-- what the dict tells of a name -/
def lookF (L : List (Str × Str × List Str)) (x : Str) : Option (Str × List Str) := (L.find? fun p => decide (p.1 = x)).map (·.2)
structure Forms (K : PySem.W.Frag) (w : World) (a : Addr) (L : List (Str × Str × List Str)) : Prop where
  ex : ∃ ks, KD K w a ks ∧ ∀ x, (lookF L x = none → getK ks x = none) ∧ ∀ s ps, lookF L x = some (s, ps) → ∃ u t t', getK ks x = some u ∧ RelV (.ref t) u ∧ (∀ H, SqT K H t [.str s, .ref t']) ∧ ∀ H, SqT K H t' (ps.map V.str)
theorem formOf_of {K : PySem.W.Frag} {v : Value} {s : Str} {ps : List Str} (h : formOf K v = some (s, ps)) : ∃ t t', v = .ref t ∧ (∀ H, SqT K H t [.str s, .ref t']) ∧ ∀ H, SqT K H t' (ps.map V.str) := by
  unfold formOf at h
  split at h
  · rename_i x u e
    obtain ⟨a, ha, h⟩ := Option.bind_eq_some_iff.mp h
    obtain ⟨qs, hq, h⟩ := Option.map_eq_some_iff.mp h
    obtain ⟨us, hu, hs⟩ := Option.bind_eq_some_iff.mp hq
    cases h
    obtain ⟨t, rfl, q1⟩ := tupIn_of e
    obtain ⟨t', rfl, q2⟩ := tupIn_of hu
    exact ⟨t, t', rfl, fun H => q1 H _ (.cons (strIn_of ha) (.cons rfl .nil)), fun H => q2 H _ (strsIn_of hs)⟩
  · cases h
theorem forms_of {K : PySem.W.Frag} {w : World} {a : Addr} {L : List (Str × Str × List Str)} (h : formsB K a L = true) (hh : hashesOf K a = L.map fun p => hashStr w p.1) (nd : (L.map (·.1)).Nodup) : Forms K w a L := by
  unfold formsB at h
  unfold hashesOf at hh
  cases ed : dictIn K a with
  | none => rw [ed] at h; cases h
  | some es =>
    rw [ed] at h hh
    simp only [Bool.and_eq_true, decide_eq_true_eq] at h hh
    obtain ⟨h1, h2⟩ := h
    have len : es.length = L.length := by simpa using congrArg List.length h1
    let ks : List (Str × Value) := (L.map (·.1)).zip (es.map (·.val))
    have k1 : ks.map (·.1) = L.map (·.1) := by
      rw [List.map_fst_zip]
      simp [len]
    have k2 : ks.map (·.2) = es.map (·.val) := by
      rw [List.map_snd_zip]
      simp [len]
    have D : KD K w a ks := by
      refine kd_of ed ?_ ?_ k2.symm (by rw [k1]; exact nd)
      · rw [hh]
        have : (ks.map fun p => hashStr w p.1) = (ks.map (·.1)).map (hashStr w) := by rw [List.map_map]; rfl
        rw [this, k1, List.map_map]
        rfl
      · rw [h1]
        have : (ks.map fun p => some p.1) = (ks.map (·.1)).map some := by rw [List.map_map]; rfl
        rw [this, k1, List.map_map]
        rfl
    refine ⟨ks, D, fun x => ?_⟩
    have go : ∀ (L : List (Str × Str × List Str)) (es : List DictEntry), es.map (fun e => formOf K e.val) = L.map (fun p => some p.2) → (lookF L x = none → getK ((L.map (·.1)).zip (es.map (·.val))) x = none) ∧ ∀ s ps, lookF L x = some (s, ps) → ∃ u t t', getK ((L.map (·.1)).zip (es.map (·.val))) x = some u ∧ RelV (.ref t) u ∧ (∀ H, SqT K H t [.str s, .ref t']) ∧ ∀ H, SqT K H t' (ps.map V.str) := by
      intro L
      induction L with
      | nil => intro es _; exact ⟨fun _ => rfl, fun s ps h => by cases h⟩
      | cons p L ih => intro es he; cases es with
        | nil => cases he
        | cons e es =>
          rw [List.map_cons, List.map_cons] at he
          have z := List.cons.inj he
          have w := ih es z.2
          rw [List.map_cons, List.map_cons, List.zip_cons_cons]
          unfold lookF getK at w ⊢
          rw [List.find?_cons, List.find?_cons]
          by_cases q : p.1 = x
          · rw [decide_eq_true q]
            refine ⟨(fun h => by cases h), fun s ps h => ?_⟩
            have hp : p.2 = (s, ps) := Option.some.inj h
            rw [hp] at z
            obtain ⟨t, t', ev, a1, a2⟩ := formOf_of z.1
            exact ⟨e.val, t, t', rfl, ev, a1, a2⟩
          · rw [decide_eq_false q]
            exact w
    exact go L es h2
end V5

set_option maxHeartbeats 4000000
/-! V7a: a dict in K whose values are texts, or pairs of a text and a flag; its .get. -/
namespace V7
open PySem PySem.Spec PyProof.Rows L2 V1 V2 V3 V5
inductive CV where
  | str (x : Str)
  | pr (x : Str) (b : Bool)
  deriving DecidableEq
def cvOf (K : PySem.W.Frag) (v : Value) : Option CV := match strIn v with
  | some x => some (.str x)
  | none => match tupIn K v with
    | some [x, .bool b] => (strIn x).map fun y => .pr y b
    | _ => none
def dictB (K : PySem.W.Frag) (a : Addr) (L : List (Str × CV)) : Bool := match dictIn K a with
  | some es => decide (es.map (fun e => strIn e.key) = L.map fun p => some p.1) && decide (es.map (fun e => cvOf K e.val) = L.map fun p => some p.2)
  | none => false
def lookC (L : List (Str × CV)) (x : Str) : Option CV := (L.find? fun p => decide (p.1 = x)).map (·.2)
def RelC (K : PySem.W.Frag) : CV → Value → Prop
  | .str x, u => RelV (.str x) u
  | .pr x b, u => ∃ t, u = .ref t ∧ ∀ H, SqT K H t [.str x, .bl b]
structure CDict (K : PySem.W.Frag) (w : World) (a : Addr) (L : List (Str × CV)) : Prop where
  ex : ∃ ks, KD K w a ks ∧ ∀ x, (lookC L x = none → getK ks x = none) ∧ ∀ c, lookC L x = some c → ∃ u, getK ks x = some u ∧ RelC K c u
theorem cvOf_of {K : PySem.W.Frag} {v : Value} {c : CV} (h : cvOf K v = some c) : RelC K c v := by
  unfold cvOf at h
  cases e : strIn v with
  | some x =>
    rw [e] at h
    cases h
    exact strIn_of e
  | none =>
    rw [e] at h
    dsimp only at h
    split at h
    · rename_i x b e2
      obtain ⟨y, hy, h⟩ := Option.map_eq_some_iff.mp h
      subst h
      obtain ⟨t, rfl, q⟩ := tupIn_of e2
      exact ⟨t, rfl, fun H => q H _ (.cons (strIn_of hy) (.cons rfl .nil))⟩
    · cases h
theorem cdict_of {K : PySem.W.Frag} {w : World} {a : Addr} {L : List (Str × CV)} (h : dictB K a L = true) (hh : hashesOf K a = L.map fun p => hashStr w p.1) (nd : (L.map (·.1)).Nodup) : CDict K w a L := by
  unfold dictB at h
  unfold hashesOf at hh
  cases ed : dictIn K a with
  | none => rw [ed] at h; cases h
  | some es =>
    rw [ed] at h hh
    simp only [Bool.and_eq_true, decide_eq_true_eq] at h hh
    obtain ⟨h1, h2⟩ := h
    have len : es.length = L.length := by simpa using congrArg List.length h1
    let ks : List (Str × Value) := (L.map (·.1)).zip (es.map (·.val))
    have k1 : ks.map (·.1) = L.map (·.1) := by
      rw [List.map_fst_zip]
      simp [len]
    have k2 : ks.map (·.2) = es.map (·.val) := by
      rw [List.map_snd_zip]
      simp [len]
    have D : KD K w a ks := by
      refine kd_of ed ?_ ?_ k2.symm (by rw [k1]; exact nd)
      · rw [hh]
        have : (ks.map fun p => hashStr w p.1) = (ks.map (·.1)).map (hashStr w) := by rw [List.map_map]; rfl
        rw [this, k1, List.map_map]
        rfl
      · rw [h1]
        have : (ks.map fun p => some p.1) = (ks.map (·.1)).map some := by rw [List.map_map]; rfl
        rw [this, k1, List.map_map]
        rfl
    refine ⟨ks, D, fun x => ?_⟩
    have go : ∀ (L : List (Str × CV)) (es : List DictEntry), es.map (fun e => cvOf K e.val) = L.map (fun p => some p.2) → (lookC L x = none → getK ((L.map (·.1)).zip (es.map (·.val))) x = none) ∧ ∀ c, lookC L x = some c → ∃ u, getK ((L.map (·.1)).zip (es.map (·.val))) x = some u ∧ RelC K c u := by
      intro L
      induction L with
      | nil => intro es _; exact ⟨fun _ => rfl, fun c h => by cases h⟩
      | cons p L ih => intro es he; cases es with
        | nil => cases he
        | cons e es =>
          rw [List.map_cons, List.map_cons] at he
          have z := List.cons.inj he
          have w := ih es z.2
          rw [List.map_cons, List.map_cons, List.zip_cons_cons]
          unfold lookC getK at w ⊢
          rw [List.find?_cons, List.find?_cons]
          by_cases q : p.1 = x
          · rw [decide_eq_true q]
            refine ⟨(fun h => by cases h), fun c h => ?_⟩
            have hp : p.2 = c := Option.some.inj h
            rw [hp] at z
            exact ⟨e.val, rfl, cvOf_of z.1⟩
          · rw [decide_eq_false q]
            exact w
    exact go L es h2
/-- d.get(x), d in K -/
def tKGet1 (K : PySem.W.Frag) (w : World) (td ty : TE) : TE := fun σ H Q => td σ H fun x H1 => ∃ a ks, x = .ref a ∧ KD K w a ks ∧ ty σ H1 fun y H2 => ∃ k, y = .str k ∧ ((getK ks k = none ∧ Q .non H2) ∨ ∃ u v, getK ks k = some u ∧ RelV v u ∧ Q v H2)
section
variable {X : Cx} {o e : Expr} {apos cpos : Pos} {td ty : TE}
theorem pe_kget1 (ho : PE X o td) (he : PE X e ty) (m : M1 X o "get" apos e cpos) : PE X (.Call (.Attribute o "get" apos) [e] [] cpos) (tKGet1 X.K X.w td ty) := by
  refine ⟨fun pins s σ H Q I h => ?_⟩
  refine wpAny_Call_method m.base m.few m.line PySem.F.plainAttrs_dict PySem.F.slot_dict_get PySem.F.type_dict_get (thn (ho.run pins s σ H _ I h) fun u s1 ⟨x, H1, I1, rx, a, ks, ex, D, q1⟩ => ?_)
  subst ex
  obtain rfl : u = Value.ref a := rx
  have dd := D.at_ X.prog s1.heap I1.kIn
  refine ⟨dd.typeIs, ?_, ?_⟩
  · obtain ⟨ob, es, ep, e1, ⟨c1, c2, c3⟩, _⟩ := dd
    exact fun b eb => by
      cases eb
      exact ⟨ob, e1, c2⟩
  rw [m.trees]
  refine Calls.callWith_builtin rfl (Calls.evalArgs_plain (Calls.spliced_cons (thn (he.run pins s1 σ H1 _ I1 q1) fun iv s2 ⟨y, H2, I2, ry, k, ey, g⟩ => Calls.spliced_nil ?_)))
  subst ey
  have d2 := D.at_ X.prog s2.heap I2.kIn
  refine call_meetsIn PySem.F.slot_dict_get d2.typeIs PySem.F.entry_dict_get (PySem.F.args_dict_get_2 _ _) (meets_dict_get (mixKind X.prog X.w) a (kV_is (k := .inr k) ry) D.ne) ⟨_, d2.mapOf, ?_⟩
  rw [getK_at]
  rcases g with ⟨e1, q⟩ | ⟨u, v, e1, rv, q⟩
  · rw [e1]
    exact ⟨.non, H2, I2.tok _, rfl, q⟩
  · rw [e1]
    exact ⟨v, H2, I2.tok _, rv, q⟩
end
end V7

set_option maxHeartbeats 0
namespace K53
open PySem PySem.Spec PyProof.Rows L2 V1
def top (i : Nat) : Stmt := PySem.Challenge.pw_turnedtalk_k53_whole_spoilt_things.main.body.getD i (.Pass ⟨0, 0, 0, 0⟩)
abbrev s__wall : Stmt := top 0
def d__wall : He.DefD := ⟨("_wall", none), "_wall", "_wall", defArgs s__wall, defBody s__wall, defScope s__wall, [], []⟩
abbrev s_is_integer : Stmt := top 2
def d_is_integer : He.DefD := ⟨("is_integer", none), "is_integer", "is_integer", defArgs s_is_integer, defBody s_is_integer, defScope s_is_integer, [], []⟩
abbrev s_is_from_to : Stmt := top 3
def d_is_from_to : He.DefD := ⟨("is_from_to", none), "is_from_to", "is_from_to", defArgs s_is_from_to, defBody s_is_from_to, defScope s_is_from_to, [], []⟩
abbrev s_is_tuple_of : Stmt := top 4
def d_is_tuple_of : He.DefD := ⟨("is_tuple_of", none), "is_tuple_of", "is_tuple_of", defArgs s_is_tuple_of, defBody s_is_tuple_of, defScope s_is_tuple_of, [], []⟩
abbrev s_is_lot : Stmt := top 5
def d_is_lot : He.DefD := ⟨("is_lot", none), "is_lot", "is_lot", defArgs s_is_lot, defBody s_is_lot, defScope s_is_lot, [], []⟩
abbrev s_is_leaf : Stmt := top 16
def d_is_leaf : He.DefD := ⟨("is_leaf", none), "is_leaf", "is_leaf", defArgs s_is_leaf, defBody s_is_leaf, defScope s_is_leaf, [], []⟩
abbrev s_shape_of : Stmt := top 18
def d_shape_of : He.DefD := ⟨("shape_of", none), "shape_of", "shape_of", defArgs s_shape_of, defBody s_shape_of, defScope s_shape_of, [], []⟩
abbrev s_holds_tuples : Stmt := top 19
def d_holds_tuples : He.DefD := ⟨("holds_tuples", none), "holds_tuples", "holds_tuples", defArgs s_holds_tuples, defBody s_holds_tuples, defScope s_holds_tuples, [], []⟩
abbrev s_is_thing : Stmt := top 20
def d_is_thing : He.DefD := ⟨("is_thing", none), "is_thing", "is_thing", defArgs s_is_thing, defBody s_is_thing, defScope s_is_thing, [], []⟩
abbrev s_is_turned_letter : Stmt := top 22
def d_is_turned_letter : He.DefD := ⟨("is_turned_letter", none), "is_turned_letter", "is_turned_letter", defArgs s_is_turned_letter, defBody s_is_turned_letter, defScope s_is_turned_letter, [], []⟩
abbrev s_check_turned : Stmt := top 23
def d_check_turned : He.DefD := ⟨("check_turned", none), "check_turned", "check_turned", defArgs s_check_turned, defBody s_check_turned, defScope s_check_turned, [], []⟩
abbrev s_read_figures : Stmt := top 31
def d_read_figures : He.DefD := ⟨("read_figures", none), "read_figures", "read_figures", defArgs s_read_figures, defBody s_read_figures, defScope s_read_figures, [], []⟩
abbrev s_read_word : Stmt := top 32
def d_read_word : He.DefD := ⟨("read_word", none), "read_word", "read_word", defArgs s_read_word, defBody s_read_word, defScope s_read_word, [], []⟩
abbrev s_read_string : Stmt := top 33
def d_read_string : He.DefD := ⟨("read_string", none), "read_string", "read_string", defArgs s_read_string, defBody s_read_string, defScope s_read_string, [], []⟩
abbrev s_read_leaf : Stmt := top 34
def d_read_leaf : He.DefD := ⟨("read_leaf", none), "read_leaf", "read_leaf", defArgs s_read_leaf, defBody s_read_leaf, defScope s_read_leaf, [], []⟩
abbrev s_read_thing : Stmt := top 35
def d_read_thing : He.DefD := ⟨("read_thing", none), "read_thing", "read_thing", defArgs s_read_thing, defBody s_read_thing, defScope s_read_thing, [], []⟩
abbrev s__law_hand : Stmt := top 37
def d__law_hand : He.DefD := ⟨("_law_hand", none), "_law_hand", "_law_hand", defArgs s__law_hand, defBody s__law_hand, defScope s__law_hand, [], []⟩
abbrev s__law_draw : Stmt := top 38
def d__law_draw : He.DefD := ⟨("_law_draw", none), "_law_draw", "_law_draw", defArgs s__law_draw, defBody s__law_draw, defScope s__law_draw, [], []⟩
abbrev s__law_some : Stmt := top 39
def d__law_some : He.DefD := ⟨("_law_some", none), "_law_some", "_law_some", defArgs s__law_some, defBody s__law_some, defScope s__law_some, [], []⟩
abbrev s__law_is : Stmt := top 40
def d__law_is : He.DefD := ⟨("_law_is", none), "_law_is", "_law_is", defArgs s__law_is, defBody s__law_is, defScope s__law_is, [], []⟩
abbrev s__law_signs : Stmt := top 41
def d__law_signs : He.DefD := ⟨("_law_signs", none), "_law_signs", "_law_signs", defArgs s__law_signs, defBody s__law_signs, defScope s__law_signs, [], []⟩
abbrev s__law_string : Stmt := top 42
def d__law_string : He.DefD := ⟨("_law_string", none), "_law_string", "_law_string", defArgs s__law_string, defBody s__law_string, defScope s__law_string, [], []⟩
abbrev s__law_thing : Stmt := top 43
def d__law_thing : He.DefD := ⟨("_law_thing", none), "_law_thing", "_law_thing", defArgs s__law_thing, defBody s__law_thing, defScope s__law_thing, [], []⟩
abbrev s__law_depth : Stmt := top 44
def d__law_depth : He.DefD := ⟨("_law_depth", none), "_law_depth", "_law_depth", defArgs s__law_depth, defBody s__law_depth, defScope s__law_depth, [], []⟩
abbrev s__law_wrapped : Stmt := top 45
def d__law_wrapped : He.DefD := ⟨("_law_wrapped", none), "_law_wrapped", "_law_wrapped", defArgs s__law_wrapped, defBody s__law_wrapped, defScope s__law_wrapped, [], []⟩
abbrev s__law_written : Stmt := top 46
def d__law_written : He.DefD := ⟨("_law_written", none), "_law_written", "_law_written", defArgs s__law_written, defBody s__law_written, defScope s__law_written, [], []⟩
abbrev s__law_string_in : Stmt := top 47
def d__law_string_in : He.DefD := ⟨("_law_string_in", none), "_law_string_in", "_law_string_in", defArgs s__law_string_in, defBody s__law_string_in, defScope s__law_string_in, [], []⟩
abbrev s__law_word_in : Stmt := top 48
def d__law_word_in : He.DefD := ⟨("_law_word_in", none), "_law_word_in", "_law_word_in", defArgs s__law_word_in, defBody s__law_word_in, defScope s__law_word_in, [], []⟩
abbrev s__law_item_in : Stmt := top 49
def d__law_item_in : He.DefD := ⟨("_law_item_in", none), "_law_item_in", "_law_item_in", defArgs s__law_item_in, defBody s__law_item_in, defScope s__law_item_in, [], []⟩
abbrev s__law_read : Stmt := top 50
def d__law_read : He.DefD := ⟨("_law_read", none), "_law_read", "_law_read", defArgs s__law_read, defBody s__law_read, defScope s__law_read, [], []⟩
abbrev s__law_deep : Stmt := top 51
def d__law_deep : He.DefD := ⟨("_law_deep", none), "_law_deep", "_law_deep", defArgs s__law_deep, defBody s__law_deep, defScope s__law_deep, [], []⟩
abbrev s__law_bent : Stmt := top 52
def d__law_bent : He.DefD := ⟨("_law_bent", none), "_law_bent", "_law_bent", defArgs s__law_bent, defBody s__law_bent, defScope s__law_bent, [], []⟩
abbrev s__law_text : Stmt := top 53
def d__law_text : He.DefD := ⟨("_law_text", none), "_law_text", "_law_text", defArgs s__law_text, defBody s__law_text, defScope s__law_text, [], []⟩
abbrev s__law_told : Stmt := top 54
def d__law_told : He.DefD := ⟨("_law_told", none), "_law_told", "_law_told", defArgs s__law_told, defBody s__law_told, defScope s__law_told, [], []⟩
abbrev s_law : Stmt := top 55
def d_law : He.DefD := ⟨("law", none), "law", "law", defArgs s_law, defBody s_law, defScope s_law, [], []⟩
abbrev s_BadFaults__init__ : Stmt := inClass (top 8) 0
def d_BadFaults__init__ : He.DefD := ⟨("BadFaults", some "__init__"), "__init__", "BadFaults.__init__", defArgs s_BadFaults__init__, defBody s_BadFaults__init__, defScope s_BadFaults__init__, [], []⟩
abbrev s_BadThing__init__ : Stmt := inClass (top 9) 0
def d_BadThing__init__ : He.DefD := ⟨("BadThing", some "__init__"), "__init__", "BadThing.__init__", defArgs s_BadThing__init__, defBody s_BadThing__init__, defScope s_BadThing__init__, [], []⟩
abbrev s_Shelf__init__ : Stmt := inClass (top 17) 0
def d_Shelf__init__ : He.DefD := ⟨("Shelf", some "__init__"), "__init__", "Shelf.__init__", defArgs s_Shelf__init__, defBody s_Shelf__init__, defScope s_Shelf__init__, [], []⟩
abbrev s_Shelfmarks : Stmt := inClass (top 17) 1
def d_Shelfmarks : He.DefD := ⟨("Shelf", some "marks"), "marks", "Shelf.marks", defArgs s_Shelfmarks, defBody s_Shelfmarks, defScope s_Shelfmarks, [], []⟩
abbrev s_Shelfkeep : Stmt := inClass (top 17) 2
def d_Shelfkeep : He.DefD := ⟨("Shelf", some "keep"), "keep", "Shelf.keep", defArgs s_Shelfkeep, defBody s_Shelfkeep, defScope s_Shelfkeep, [], []⟩
abbrev s_Faults__init__ : Stmt := inClass (top 24) 0
def d_Faults__init__ : He.DefD := ⟨("Faults", some "__init__"), "__init__", "Faults.__init__", defArgs s_Faults__init__, defBody s_Faults__init__, defScope s_Faults__init__, [], []⟩
abbrev s_Faults__eq__ : Stmt := inClass (top 24) 1
def d_Faults__eq__ : He.DefD := ⟨("Faults", some "__eq__"), "__eq__", "Faults.__eq__", defArgs s_Faults__eq__, defBody s_Faults__eq__, defScope s_Faults__eq__, [], []⟩
abbrev s_Faultspasses : Stmt := inClass (top 24) 2
def d_Faultspasses : He.DefD := ⟨("Faults", some "passes"), "passes", "Faults.passes", defArgs s_Faultspasses, defBody s_Faultspasses, defScope s_Faultspasses, [], []⟩
abbrev s_Faultsear : Stmt := inClass (top 24) 3
def d_Faultsear : He.DefD := ⟨("Faults", some "ear"), "ear", "Faults.ear", defArgs s_Faultsear, defBody s_Faultsear, defScope s_Faultsear, [], []⟩
def fn : List He.DefD := [d__wall, d_is_integer, d_is_from_to, d_is_tuple_of, d_is_lot, d_is_leaf, d_shape_of, d_holds_tuples, d_is_thing, d_is_turned_letter, d_check_turned, d_read_figures, d_read_word, d_read_string, d_read_leaf, d_read_thing, d__law_hand, d__law_draw, d__law_some, d__law_is, d__law_signs, d__law_string, d__law_thing, d__law_depth, d__law_wrapped, d__law_written, d__law_string_in, d__law_word_in, d__law_item_in, d__law_read, d__law_deep, d__law_bent, d__law_text, d__law_told, d_law, d_BadFaults__init__, d_BadThing__init__, d_Shelf__init__, d_Shelfmarks, d_Shelfkeep, d_Faults__init__, d_Faults__eq__, d_Faultspasses, d_Faultsear]
def fa0 : List He.Fa := [.glo "_wall", .glo "is_integer", .glo "is_from_to", .glo "is_tuple_of", .glo "is_lot", .glo "TalkError", .glo "BadFaults", .glo "BadThing", .glo "Wordless", .int "MOST_LETTERS" 60, .int "PLAIN_LOOKS" 5000, .int "MOST_OF_A_SHAPE" 100, .glo "is_leaf", .glo "Shelf", .glo "shape_of", .glo "holds_tuples", .glo "is_thing", .glo "is_turned_letter", .glo "check_turned", .glo "Faults"]
def fa1 : List He.Fa := [.int "MOST_DEEP" 40, .int "MOST_FIGURES" 20, .glo "FIGURES", .glo "TILDES", .glo "WORDS", .glo "read_figures", .glo "read_word", .glo "read_string", .glo "read_leaf", .glo "read_thing", .glo "_law_hand", .glo "_law_draw", .glo "_law_some", .glo "_law_is", .glo "_law_signs", .glo "_law_string", .glo "_law_thing", .glo "_law_depth", .glo "_law_wrapped", .glo "_law_written"]
def fa2 : List He.Fa := [.glo "_law_string_in", .glo "_law_word_in", .glo "_law_item_in", .glo "_law_read", .glo "_law_deep", .glo "_law_bent", .glo "_law_text", .glo "_law_told", .glo "law", .free "ValueError", .free "abs", .free "any", .free "bool", .free "enumerate", .free "int", .free "isinstance", .free "len", .free "list", .free "max", .free "min"]
def fa3 : List He.Fa := [.free "range", .free "str", .free "tuple", .free "zip", .meth "BadFaults" "__init__", .meth "BadThing" "__init__", .noat "BadFaults" "part", .noat "BadThing" "place", .exc "TalkError", .cls "Shelf", .noat "Shelf" "_shapes", .mkr "Shelf", .meth "Shelf" "__init__", .meth "Shelf" "marks", .meth "Shelf" "keep", .cls "Faults", .noat "Faults" "_into", .noat "Faults" "lost", .noat "Faults" "turned", .mkr "Faults"]
def fa4 : List He.Fa := [.meth "Faults" "__init__", .meth "Faults" "__eq__", .meth "Faults" "passes", .meth "Faults" "ear"]
def fa : List He.Fa := fa0 ++ (fa1 ++ (fa2 ++ (fa3 ++ (fa4))))
def errs : List Str := ["BadFaults", "BadThing"]
def plainC : List Str := ["Shelf", "Faults"]
def exB0 (K : PySem.W.Frag) : Bool :=
  oexB K (He.ga K "TalkError") veB && (errs.all (fun x => oexB K (He.ga K x) (.ref (He.ga K "TalkError") :: veB)) && (decide ((He.ga K "TalkError" :: errs.map (He.ga K)).Nodup) && clsAttrB K))
def exI (K : PySem.W.Frag) : Bool := plainC.all fun x => V2.insB K (He.ga K x)
def exK (K : PySem.W.Frag) : Bool := plainC.all fun x => V3.kindB K (He.ga K x) && plainC.all fun y => (x == y) || (decide (PySem.W.kitOne K (.ref (He.ga K x)) (.ref (He.ga K y)) = some false) && PySem.W.notFirst K (He.ga K x) (.ref (He.ga K y)))
def exB1 (K : PySem.W.Frag) : Bool := exB0 K && (exI K && exK K)
def lamN : List Str := ["_law_draw"]
def dTILDES : List (Str × V7.CV) := [("~", .str "~"), ("'", .str "'"), ("n", .str "\n")]
def dWORDS : List (Str × V7.CV) := [("y", .pr "yes" true), ("n", .pr "no" false)]
def hashD (L : List (Str × V7.CV)) (w : World) : List Int := L.map fun p => hashStr w p.1
def exB2 (K : PySem.W.Frag) : Bool := exB1 K && ((lamN.all fun x => V4.lamB K (He.ga K x)) && decide ((lamN.map fun x => (V4.pairOf K (He.ga K x)).2).Nodup))
def exB (K : PySem.W.Frag) : Bool := exB2 K && (V7.dictB K (He.ga K "TILDES") dTILDES && (V7.dictB K (He.ga K "WORDS") dWORDS && (V5.strsB K (He.ga K "FIGURES") ["0", "1", "2", "3", "4", "5", "6", "7", "8", "9"])))
def emB (g : Addr → Option Obj) (K : PySem.W.Frag) : Bool := lamN.all fun x => V4.emptyT g (V4.pairOf K (He.ga K x)).2
abbrev AlE : Type := He.AlD × (Bool × (Bool × (List Int × List Int)))
def obsE (g : Addr → Option Obj) : AlE := (He.obsD fa fn (He.frG g (V4.asT g 4)), (exB (He.frG g (V4.asT g 4)), (emB g (He.frG g (V4.asT g 4)), (V5.hashesOf (He.frG g (V4.asT g 4)) (He.ga (He.frG g (V4.asT g 4)) "TILDES"), V5.hashesOf (He.frG g (V4.asT g 4)) (He.ga (He.frG g (V4.asT g 4)) "WORDS")))))
def hk : PySem.W.Hook where
  α := AlE
  obs := fun s => obsE s.heap.get?
  val := fun w => (He.valD fn, (true, (true, (hashD dTILDES w, hashD dWORDS w))))
  says := fun w h => ∃ K : PySem.W.Frag, K.In h ∧ He.SaysD fa fn K ∧ (exB K = true ∧ (V5.hashesOf K (He.ga K "TILDES") = hashD dTILDES w ∧ V5.hashesOf K (He.ga K "WORDS") = hashD dWORDS w) ∧ ∀ x ∈ lamN, h.get? (V4.pairOf K (He.ga K x)).2 = some { cls := .none, data := .fields #[] })
  of := fun _ _ e => ⟨_, He.frG_in, congrArg (fun z : AlE => z.1) e, congrArg (fun z : AlE => z.2.1) e, ⟨congrArg (fun z : AlE => z.2.2.2.1) e, congrArg (fun z : AlE => z.2.2.2.2) e⟩, fun x hx => V4.emptyT_is (List.all_eq_true.mp (show emB _ _ = true from congrArg (fun z : AlE => z.2.2.1) e) x hx)⟩
  keeps := fun _ _ _ ⟨K, inK, c, x, hh, t⟩ k => ⟨K, PySem.W.Frag.In.keeps inK k, c, x, hh, fun y hy => k _ _ (t y hy)⟩
theorem obsE_eq {g : Addr → Option Obj} {s : Shared} (h : ∀ a, g a = s.heap.get? a) : obsE g = hk.obs s := by
  have same : g = s.heap.get? := funext h
  rw [same] <;> rfl
abbrev R : PySem.W.OpenRow := PySem.W.OpenLaw.row PySem.Challenge.rw_turnedtalk_k53_whole_spoilt_things
def ob (s : PySem.W.SharedT) : AlE := obsE (HandSHeadRun.getT s)
theorem ob_eq (s : PySem.W.SharedT) : ob s = hk.obs s.abs := obsE_eq (HandSHeadRun.getT_eq s)
def nm0 : List PySem.Str := ["_wall", "is_integer", "is_from_to", "is_tuple_of", "is_lot", "TalkError", "BadFaults", "BadThing", "Wordless", "MOST_LETTERS", "PLAIN_LOOKS", "MOST_OF_A_SHAPE", "is_leaf", "Shelf", "shape_of", "holds_tuples", "is_thing", "is_turned_letter", "check_turned", "Faults", "MOST_DEEP", "MOST_FIGURES", "FIGURES", "TILDES", "WORDS"]
def nm1 : List PySem.Str := ["read_figures", "read_word", "read_string", "read_leaf", "read_thing", "_law_hand", "_law_draw", "_law_some", "_law_is", "_law_signs", "_law_string", "_law_thing", "_law_depth", "_law_wrapped", "_law_written", "_law_string_in", "_law_word_in", "_law_item_in", "_law_read", "_law_deep", "_law_bent", "_law_text", "_law_told"]
def names : List PySem.Str := nm0 ++ (nm1)
theorem run1 (w : World) : HandSHeadRun.RunEq R (PySem.W.view R.prog [55]) hk ob 60000 names (V3.wHab "special-get-raises" true w) := by
  intro os
  kernel_rfl
theorem run0 (w : World) : HandSHeadRun.RunEq R (PySem.W.view R.prog [55]) hk ob 60000 names (V3.wHab "special-get-raises" false w) := by
  intro os
  kernel_rfl
theorem run (w : World) : HandSHeadRun.RunEq R (PySem.W.view R.prog [55]) hk ob 60000 names w := V3.run_hab (p := fun w => HandSHeadRun.RunEq R (PySem.W.view R.prog [55]) hk ob 60000 names w) "special-get-raises" run1 run0 w
theorem exB_2 {K : PySem.W.Frag} (h : exB K = true) : exB2 K = true := (Bool.and_eq_true_iff.mp h).1
theorem exB_1 {K : PySem.W.Frag} (h : exB2 K = true) : exB1 K = true := (Bool.and_eq_true_iff.mp h).1
theorem lam_at {K : PySem.W.Frag} (h : exB2 K = true) {x : Str} (hx : x ∈ lamN) : V4.LamD K (He.ga K x) := V4.lamD_of (List.all_eq_true.mp (Bool.and_eq_true_iff.mp (Bool.and_eq_true_iff.mp h).2).1 x hx)
theorem tabs_nd {K : PySem.W.Frag} (h : exB2 K = true) : (lamN.map fun x => (V4.pairOf K (He.ga K x)).2).Nodup := of_decide_eq_true (Bool.and_eq_true_iff.mp (Bool.and_eq_true_iff.mp h).2).2
theorem TILDES_at {K : PySem.W.Frag} {w : World} (h : exB K = true) (hh : V5.hashesOf K (He.ga K "TILDES") = hashD dTILDES w) : V7.CDict K w (He.ga K "TILDES") dTILDES := V7.cdict_of (Bool.and_eq_true_iff.mp (Bool.and_eq_true_iff.mp h).2).1 hh (by decide +kernel)
theorem WORDS_at {K : PySem.W.Frag} {w : World} (h : exB K = true) (hh : V5.hashesOf K (He.ga K "WORDS") = hashD dWORDS w) : V7.CDict K w (He.ga K "WORDS") dWORDS := V7.cdict_of (Bool.and_eq_true_iff.mp (Bool.and_eq_true_iff.mp (Bool.and_eq_true_iff.mp h).2).2).1 hh (by decide +kernel)
theorem FIGURES_at {K : PySem.W.Frag} (h : exB K = true) (H : L2.Hp) : SqT K H (He.ga K "FIGURES") ((["0", "1", "2", "3", "4", "5", "6", "7", "8", "9"] : List Str).map V.str) := V5.strsB_of (Bool.and_eq_true_iff.mp (Bool.and_eq_true_iff.mp (Bool.and_eq_true_iff.mp h).2).2).2 H
structure Tx (K : PySem.W.Frag) (w : World) (mg : Str → Option Value) : Prop where
  c : He.SaysD fa fn K
  ex : exB1 K = true
  dTILDES : V7.CDict K w (He.ga K "TILDES") dTILDES
  dWORDS : V7.CDict K w (He.ga K "WORDS") dWORDS
  sFIGURES : ∀ H : L2.Hp, SqT K H (He.ga K "FIGURES") ((["0", "1", "2", "3", "4", "5", "6", "7", "8", "9"] : List Str).map V.str)
  lam : ∀ x ∈ lamN, V4.LamD K (He.ga K x)
  nd : (lamN.map fun x => (V4.pairOf K (He.ga K x)).2).Nodup
  h : ∃ h : Heap, K.In h ∧ h.Ns mainGlobals mg
section
variable {K : PySem.W.Frag} {w : World} {mg : Str → Option Value}
theorem Tx.glo (T : Tx K w mg) (i : Nat) {x : Str} (e : fa[i]? = some (.glo x)) : mg x = some (.ref (He.ga K x)) := by
  obtain ⟨h, X, G⟩ := T.h
  exact He.glo_ok X G (T.c.fact i e)
theorem Tx.free (T : Tx K w mg) (i : Nat) {x : Str} (e : fa[i]? = some (.free x)) : mg x = none := by
  obtain ⟨h, X, G⟩ := T.h
  exact He.free_ok X G (T.c.fact i e)
theorem Tx.int (T : Tx K w mg) (i : Nat) {x : Str} {n : Int} (e : fa[i]? = some (.int x n)) : ∃ t, mg x = some (.int n t) := by
  obtain ⟨h, X, G⟩ := T.h
  exact He.int_ok X G (T.c.fact i e)
theorem Tx.noat (T : Tx K w mg) (i : Nat) {x f : Str} (e : fa[i]? = some (.noat x f)) : PySem.W.findIn K (.ref (He.ga K x)) f = some none := He.noat_ok (T.c.fact i e)
theorem Tx.exq (T : Tx K w mg) (i : Nat) {x : Str} (e : fa[i]? = some (.exc x)) : PySem.W.excIn K (He.ga K x) He.veBase "ValueError.__new__" = true ∧ PySem.W.keepIn K (.ref (He.ga K x)) = true := by
  have z := He.exc_ok (T.c.fact i e)
  exact ⟨z.1, z.2.1⟩
end
end K53

set_option maxHeartbeats 4000000
/-! V7b: defs whose bodies want a token; a text's signs replaced one by one. -/
namespace V7
open PySem PySem.Spec PyProof.Rows L2 V1 V2 V3 V5 CwR
theorem okT {CX : CXT} {P : Program} {w : World} {K : PySem.W.Frag} {mg : Str → Option Value} {base : Heap} {x qual : Str} {params : Arguments} {body : List Stmt} {scope : Scope} {dvs : List V} {kws : List (Str × V)} {f : Addr} {fd : FuncData} {N ps : List Str} {k : Nat} {sp : Sp}
    (F : FunD K x qual params body scope dvs kws f fd) (S : FnScope N ps scope) (hnc : ∀ y ∈ scope.names, y.2 ≠ .cell) (hps : 1 ≤ ps.length) (len : ∀ vs H Q E, sp vs H Q E → vs.length = ps.length)
    (hbody : ∀ (cdv : Value) (A : Around) (outer : List Env) (s : Shared) (H : Hp) (vs : List V) (Q : VK) (E : XK), Room k (A.deeper (envOfC qual scope s.heap.objs.size f cdv)) → sp vs H Q E →
      ∃ t, PSsT (cxOf CX P w K mg base N qual scope f cdv A outer s H E) body t ∧ t { nx := fun _ H' => Q .non H', rt := Q } (start N vs) H) : FnOk P w K mg base CX (k + 1) f fd ps sp := by
  obtain ⟨oc, od, dV, kV, doc, pm, an, cdv, ct, osl, rfl, lk, hcd, _, _⟩ := F.ex
  exact fn_ofT lk hcd S hnc hps len fun A outer s H vs Q E hr hsp => hbody cdv A outer s H vs Q E hr hsp
end V7
namespace V7
open PySem PySem.Spec PyProof.Rows L2 V1 V2 V3 V5 CwR
def rep1 (c : Nat) (z : List Nat) (k : Nat) : List Nat := if k = c then z else [k]
theorem rep_free (c : Nat) (z : List Nat) : ∀ l : List Nat, c ∉ l → l.flatMap (rep1 c z) = l
  | [], _ => rfl
  | k :: r, h => by
    have h1 : ¬ k = c := fun e => h (e ▸ List.mem_cons_self ..)
    have h2 : c ∉ r := fun m => h (List.mem_cons_of_mem _ m)
    rw [List.flatMap_cons, rep_free c z r h2]
    unfold rep1
    rw [if_neg h1]
    rfl
theorem rep_join (c : Nat) (z : Str) : ∀ parts : List Str, (∀ p ∈ parts, c ∉ p.cps.toList) → (Str.join ⟨#[c]⟩ parts).cps.toList.flatMap (rep1 c z.cps.toList) = (Str.join z parts).cps.toList
  | [], _ => rfl
  | [p], h => rep_free c _ _ (h p (List.mem_singleton.mpr rfl))
  | p :: q :: r, h => by
    have ih := rep_join c z (q :: r) fun a ha => h a (List.mem_cons_of_mem _ ha)
    show (p ++ ⟨#[c]⟩ ++ Str.join ⟨#[c]⟩ (q :: r)).cps.toList.flatMap _ = (p ++ z ++ Str.join z (q :: r)).cps.toList
    simp only [Str.cps_append, Array.toList_append]
    rw [List.flatMap_append, List.flatMap_append, ih, rep_free c _ _ (h p (List.mem_cons_self ..))]
    have e : ([c] : List Nat).flatMap (rep1 c z.cps.toList) = z.cps.toList := by
      rw [List.flatMap_cons, List.flatMap_nil, List.append_nil]
      unfold rep1
      rw [if_pos rfl]
    show p.cps.toList ++ ([c] : List Nat).flatMap _ ++ _ = _
    rw [e]
theorem replace_at (x z : Str) (c : Nat) : (Txt.replace x ⟨#[c]⟩ z).cps.toList = x.cps.toList.flatMap (rep1 c z.cps.toList) := by
  rw [StrLaws.replace_one, ← rep_join c z _ (StrLaws.split_free x c), StrLaws.join_split]
/-- one sign as it is written within quotes -/
def esc1 (k : Nat) : List Nat := if k = 126 then [126, 126] else if k = 39 then [126, 39] else if k = 10 then [126, 110] else [k]
def escT (x : Str) : Str := Txt.replace (Txt.replace (Txt.replace x "~" "~~") "'" "~'") "\n" "~n"
theorem escT_at (x : Str) : (escT x).cps.toList = x.cps.toList.flatMap esc1 := by
  unfold escT
  rw [show (Str.ofString "\n") = ⟨#[10]⟩ from rfl, show (Str.ofString "'") = ⟨#[39]⟩ from rfl, show (Str.ofString "~") = ⟨#[126]⟩ from rfl, replace_at, replace_at, replace_at, List.flatMap_assoc, List.flatMap_assoc]
  congr 1
  funext k
  show ((rep1 126 [126, 126] k).flatMap fun j => (rep1 39 [126, 39] j).flatMap (rep1 10 [126, 110])) = esc1 k
  unfold rep1 esc1
  by_cases h1 : k = 126
  · subst h1
    decide
  · rw [if_neg h1, if_neg h1]
    by_cases h2 : k = 39
    · subst h2
      decide
    · rw [if_neg h2]
      simp only [List.flatMap_cons, List.flatMap_nil, List.append_nil]
      rw [if_neg h2]
      simp only [List.flatMap_cons, List.flatMap_nil, List.append_nil]
end V7

set_option maxHeartbeats 4000000
/-! V6b: t[::-1], t a text. -/
namespace V6
open PySem PySem.Spec PyProof.Rows L2 V1 V2 V3
def revS (x : Str) : Str := ⟨x.cps.toList.reverse.toArray⟩
theorem revS_len (x : Str) : (revS x).length = x.length := by
  show (x.cps.toList.reverse.toArray).size = x.cps.size
  simp
theorem picked_back (x : Str) (tk : Tok) : (slicePicked x none none (some (-1, tk))).filterMap (x.cps[·]?) = x.cps.toList.reverse := by
  unfold slicePicked
  have e : Builtin.Str.strSliceIndices none none (-1) x.length = (List.range x.length).map fun k => x.length - 1 - k := PySem.W.krv_sliceRange x.length
  show (Builtin.Str.strSliceIndices none none (-1) x.length).filterMap (x.cps[·]?) = _
  rw [e, PySem.W.krv_range, List.filterMap_reverse]
  show ((List.range x.cps.size).filterMap (x.cps[·]?)).reverse = _
  rw [PySem.W.krv_all]
def tBackS (te : TE) : TE := fun σ H Q => te σ H fun x H1 => ∃ z, x = .str z ∧ z.length ≤ 1000 ∧ Q (.str (revS z)) H1
theorem pe_backS {X : Cx} {e : Expr} {te : TE} {k : Nat} {p1 p2 p3 pos : Pos} (he : PE X e te) : PE X (.Subscript e (.Slice none none (some (.UnaryOp .USub (.Constant (.int 1) k p1) p2)) p3) pos) (tBackS te) := by
  refine ⟨fun pins s σ H Q I h => Subscript_ (thn (he.run pins s σ H _ I h) ?_)⟩
  rintro v s1 ⟨x, H1, I1, r1, z, rfl, hz, q⟩
  obtain ⟨t, rfl⟩ := r1
  have step : PO X (some (.UnaryOp .USub (.Constant (.int 1) k p1) p2)) (tPart (tUn (rU fun i => .int (-i)) (tC (.int 1)))) := po_some (pe_un un_neg pe_int)
  refine wpAny_Slice (thn (po_none.run pins s1 σ H1 (fun o H2 => o = none ∧ H2 = H1) I1 ⟨rfl, rfl⟩) ?_)
  rintro vl s2 ⟨l, H2, I2, pl, rfl, rfl⟩
  cases pl
  refine thn (po_none.run pins s2 σ H2 (fun o H3 => o = none ∧ H3 = H2) I2 ⟨rfl, rfl⟩) ?_
  rintro vu s3 ⟨u, H3, I3, pu, rfl, rfl⟩
  cases pu
  refine thn (step.run pins s3 σ H3 (fun o H4 => o = some (-1) ∧ H4 = H3) I3 ⟨1, rfl, -1, rfl, rfl, rfl⟩) ?_
  rintro vs s4 ⟨o, H4, I4, ps, rfl, rfl⟩
  have I5 : Inv X pins σ H4 { s4 with heap := s4.heap.push { cls := .type "slice", data := .fields #[.none, .none, vs] } } := I4.kept (t' := s4.toks) fun b ob q => Heap.get?_push_of_some _ q
  obtain ⟨st, es, e2⟩ := IsPart.raw ps
  subst es
  obtain ⟨i, tk, rfl⟩ : ∃ i tk, st = some (i, tk) := by
    cases st with
    | none => cases e2
    | some p => exact ⟨p.1, p.2, rfl⟩
  cases e2
  show wpAny (model X.prog X.w) X.A (subscriptTail e (.Slice none none (some (.UnaryOp .USub (.Constant (.int 1) k p1) p2)) p3) (.str z t) (.ref s4.heap.objs.size)) (EP X pins σ Q) X.xe _
  refine tail_any (ops := [.str z t, .ref s4.heap.objs.size]) (typeIs_str _ z t) PySem.F.slot_str_getitem.lookup ?_ (by with_unfolding_all rfl)
  refine wpAny_getItem_str_slice (l := none) (u := none) (st := some (-1, tk)) ⟨_, Heap.get?_push_size _ rfl, rfl, rfl⟩ rfl ?_
  have m : sliceMade z t none none (some (-1, tk)) = .str (revS z) := by
    unfold sliceMade
    rw [if_neg (by simp), picked_back]
    rfl
  rw [m]
  exact ⟨by rw [revS_len]; exact Nat.le_trans hz (by decide), ⟨.str (revS z), H4, I5.tok _, ⟨_, rfl⟩, q⟩⟩
end V6

set_option maxHeartbeats 4000000
/-! V6a: words, rows, the programs of the tongue as trees. -/
namespace V6
open PySem PySem.Spec PyProof.Rows L2 V1 V2 V3
/-- a word: of at most 40 signs, from the blank to the tilde -/
def wordX (x : Str) : Bool := decide (x.length ≤ 40) && (Txt.isascii x && Txt.isprintable x)
def wordD : PyData → Bool
  | .str x => wordX x
  | _ => false
def rowD : PyData → Bool
  | .tuple ds => decide (ds.length ≤ 400) && ds.all wordD
  | _ => false
def prC (c : Nat) : Bool := decide (32 ≤ c) && decide (c ≤ 126)
def signs : Str := " !\"#$&'()*+,-./0123456789:;<=>?@ABCDEFGHIJKLMNOPQRSTUVWXYZ[\\]^_`abcdefghijklmnopqrstuvwxyz{|}~"
def PrOk (x : Str) : Bool := x.cps.all prC
theorem asc_low : ∀ c, c < 128 → Unicode.isPrintable c = prC c := by decide +kernel
theorem asc_c (c : Nat) : (decide (c < 128) && Unicode.isPrintable c) = prC c := by
  by_cases h : c < 128
  · rw [decide_eq_true h, Bool.true_and, asc_low c h]
  · rw [decide_eq_false h, Bool.false_and]
    unfold prC
    rw [decide_eq_false (by omega : ¬ c ≤ 126), Bool.and_false]
theorem wordX_pr (x : Str) : wordX x = (decide (x.length ≤ 40) && PrOk x) := by
  unfold wordX PrOk
  congr 1
  show (x.cps.all (· < 128) && x.cps.all Unicode.isPrintable) = _
  rw [← Array.all_toList, ← Array.all_toList, ← Array.all_toList]
  induction x.cps.toList with
  | nil => rfl
  | cons c cs ih =>
    rw [List.all_cons, List.all_cons, List.all_cons, ← ih, ← asc_c c]
    cases decide (c < 128) <;> cases Unicode.isPrintable c <;> simp
theorem pr_app {a b : Str} (h : PrOk a = true) (k : PrOk b = true) : PrOk (a ++ b) = true := by
  unfold PrOk at h k ⊢
  show (a.cps ++ b.cps).all _ = true
  rw [Array.all_append, h, k]
  rfl
theorem len_app (a b : Str) : (a ++ b).length = a.length + b.length := by
  show (a.cps ++ b.cps).size = _
  rw [Array.size_append]
  rfl
theorem join_pr : ∀ {ys : List Str}, (∀ y ∈ ys, y.length = 1 ∧ PrOk y = true) → PrOk (Txt.join (Str.ofString "") ys) = true ∧ (Txt.join (Str.ofString "") ys).length = ys.length := fun {ys} h => by
  rw [TL.join_eq]
  induction ys with
  | nil => exact ⟨by decide +kernel, rfl⟩
  | cons y ys ih =>
    have h1 := h y List.mem_cons_self
    cases ys with
    | nil => exact ⟨h1.2, h1.1⟩
    | cons z ys =>
      have h2 := ih fun x hx => h x (List.mem_cons_of_mem _ hx)
      refine ⟨pr_app (pr_app h1.2 (by decide +kernel)) h2.1, ?_⟩
      show (y ++ Str.ofString "" ++ Str.join (Str.ofString "") (z :: ys)).length = _
      rw [len_app, len_app, h1.1, h2.2, show (Str.ofString "").length = 0 from rfl]
      simp only [List.length_cons]
      omega
theorem sum_one : ∀ {ys : List Str}, (∀ y ∈ ys, y.length = 1) → (ys.map (·.length)).sum = ys.length
  | [], _ => rfl
  | y :: ys, h => by
    rw [List.map_cons, List.sum_cons, h y List.mem_cons_self, sum_one fun z hz => h z (List.mem_cons_of_mem _ hz), List.length_cons]
    omega
theorem signs_pr : ∀ z ∈ signs.cps.toList, PrOk (⟨#[z]⟩ : Str) = true := by decide +kernel
theorem fold_pr {c : Array Nat} (h : c.all prC = true) : ∀ (n : Nat) (acc : Array Nat), acc.all prC = true → ((List.replicate n c).foldl (· ++ ·) acc).all prC = true ∧ ((List.replicate n c).foldl (· ++ ·) acc).size = acc.size + n * c.size
  | 0, acc, k => ⟨k, by simp⟩
  | n + 1, acc, k => by
    rw [List.replicate_succ, List.foldl_cons]
    obtain ⟨h1, h2⟩ := fold_pr h n (acc ++ c) (by rw [Array.all_append, k, h]; rfl)
    refine ⟨h1, ?_⟩
    rw [h2, Array.size_append, Nat.succ_mul]
    omega
theorem mulN {x : Str} (h : PrOk x = true) (l : x.length = 2) (n : Nat) (n1 : 1 ≤ n) : PrOk (Txt.mul x n) = true ∧ (Txt.mul x n).length = 2 * n := by
  by_cases e : n = 1
  · subst e
    have m : Txt.mul x ((1 : Nat) : Int) = x := by
      unfold Txt.mul
      rw [if_neg (by decide), if_pos (by rfl)]
    rw [m]
    exact ⟨h, l⟩
  have m : Txt.mul x n = ⟨(List.replicate n x.cps).foldl (· ++ ·) #[]⟩ := by
    unfold Txt.mul
    have n2 : ((n : Int) == 1) = false := beq_eq_false_iff_ne.mpr (by omega)
    rw [if_neg (by omega), if_neg (by rw [l, n2]; decide)]
    rfl
  obtain ⟨h1, h2⟩ := fold_pr (c := x.cps) h n #[] (by simp)
  rw [m]
  refine ⟨h1, ?_⟩
  show ((List.replicate n x.cps).foldl (· ++ ·) #[]).size = 2 * n
  rw [h2, show x.cps.size = 2 from l, Array.size_empty]
  omega
theorem wx {x : Str} (l : x.length ≤ 40) (p : PrOk x = true) : wordX x = true := by
  rw [wordX_pr, decide_eq_true l, p]
  rfl
theorem wx_len {x : Str} (h : wordX x = true) : x.length ≤ 40 := by
  have z : x.length ≤ 40 ∧ Txt.isascii x = true ∧ Txt.isprintable x = true := by simpa [wordX] using h
  exact z.1
theorem wx_pr {x : Str} (h : wordX x = true) : PrOk x = true := by
  rw [wordX_pr] at h
  exact (Bool.and_eq_true_iff.mp h).2
theorem pr_sub {x y : Str} (h : PrOk x = true) (s : ∀ c ∈ y.cps.toList, c ∈ x.cps.toList) : PrOk y = true := by
  unfold PrOk at h ⊢
  rw [← Array.all_toList, List.all_eq_true] at h ⊢
  exact fun c hc => h c (s c hc)
theorem pr_cut {x : Str} (h : PrOk x = true) (lo hi : Option Int) : PrOk (cutS x lo hi) = true := pr_sub h fun c hc => by
  unfold cutS at hc
  exact List.mem_of_mem_drop (List.mem_of_mem_take (by simpa using hc))
theorem pr_rev {x : Str} (h : PrOk x = true) : PrOk (revS x) = true := pr_sub h fun c hc => by
  unfold revS at hc
  simpa using hc
/-! ### forms -/
def formsL : List (Str × Str × List Str) := [("say", "statement", ["e"]), ("let", "statement", ["name", "e"]), ("if", "statement", ["c", "body", "body"]), ("each", "statement", ["name", "body"]), ("text", "e", ["word"]), ("name", "e", ["name"]), ("join", "e", ["e", "e"]), ("turn", "e", ["e"]), ("rest", "e", ["e"]), ("first", "e", ["e"]), ("many", "e", []), ("last", "e", []), ("same", "c", ["e", "e"]), ("ahead", "c", ["e", "e"]), ("in", "c", ["e", "e"]), ("not", "c", ["c"])]
def lettersX (x : Str) : Bool := (decide (1 ≤ x.length) && decide (x.length ≤ 8)) && (Txt.isascii x && (Txt.isalpha x && Txt.islower x))
def nameX (x : Str) : Bool := lettersX x && !decide (x ∈ [("many" : Str), "last"])
def nameD : PyData → Bool
  | .str x => nameX x
  | _ => false
def kindD : PyData → Option Str
  | .tuple (.str k :: _) => some k
  | _ => none
def formD (d : PyData) (s : Str) : Bool := match d with
  | .tuple (.str k :: rest) => match V5.lookF formsL k with
    | some (t, ps) => decide (t = s) && decide (rest.length = ps.length)
    | none => false
  | _ => false
def rightOf (s : Str) (d : PyData) (a e : Nat) : Bool :=
  if s = "body" then isTup d else if s = "name" then nameD d else if s = "word" then wordD d
  else (formD d s && decide (a < 20)) && (!decide (kindD d = some (Str.ofString "each")) || decide (e < 2))
abbrev It := Str × PyData × Nat × Nat
def innerOf (s : Str) (d : PyData) (a e : Nat) : List It :=
  if s = "body" then match d with
    | .tuple ds => ds.map fun x => ("statement", x, a, e)
    | _ => []
  else if s = "name" then [] else if s = "word" then []
  else match d with
    | .tuple (.str k :: rest) => match V5.lookF formsL k with
      | some (_, ps) => (ps.zip rest).map fun p => (p.1, p.2, a + 1, if k = "each" then e + 1 else e)
      | none => []
    | _ => []
def cnt (s : Str) : Nat := if s ∈ [("statement" : Str), "e", "c"] then 1 else 0
inductive Good : List It → Nat → Nat → Prop
  | nil : Good [] 0 0
  | cons {s d a e l n m n' m'} : rightOf s d a e = true → Good (innerOf s d a e) n m → Good l n' m' → Good ((s, d, a, e) :: l) (cnt s + n + n') (1 + m + m')
theorem Good.of {l : List It} {n m n' m' : Nat} (h : Good l n m) (e : n = n') (e' : m = m') : Good l n' m' := e ▸ e' ▸ h
theorem Good.app {l l' : List It} {n m n' m' : Nat} (h : Good l n m) (h' : Good l' n' m') : Good (l ++ l') (n + n') (m + m') := by
  induction h with
  | nil => exact h'.of (by omega) (by omega)
  | cons r i _ _ ih => exact (Good.cons r i ih).of (by omega) (by omega)
theorem Good.last {x : It} : ∀ {l : List It} {n m : Nat}, Good (l ++ [x]) n m → ∃ n1 m1 n2 m2, rightOf x.1 x.2.1 x.2.2.1 x.2.2.2 = true ∧ Good (innerOf x.1 x.2.1 x.2.2.1 x.2.2.2) n1 m1 ∧ Good l n2 m2 ∧ n = n2 + cnt x.1 + n1 ∧ m = m2 + 1 + m1
  | [], _, _, h => by
    cases h with | cons r i r' =>
    cases r'
    exact ⟨_, _, 0, 0, r, i, .nil, by dsimp only; omega, by omega⟩
  | y :: l, _, _, h => by
    cases h with | cons r i r' =>
    obtain ⟨n1, m1, n2, m2, h1, h2, h3, e1, e2⟩ := Good.last r'
    exact ⟨n1, m1, _, _, h1, h2, .cons r i h3, by omega, by omega⟩
/-! ### trees -/
inductive Ex where
  | text (w : Str)
  | name (n : Str)
  | join (a b : Ex)
  | turn (a : Ex)
  | rest (a : Ex)
  | first (a : Ex)
  | many
  | last
inductive Cn where
  | same (a b : Ex)
  | ahead (a b : Ex)
  | inn (a b : Ex)
  | not (c : Cn)
mutual
inductive St where
  | say (e : Ex)
  | let_ (n : Str) (e : Ex)
  | if_ (c : Cn) (a b : Bd)
  | each (n : Str) (b : Bd)
inductive Bd where
  | nil
  | cons (s : St) (b : Bd)
end
def Ex.d : Ex → PyData
  | .text w => .tuple [.str "text", .str w]
  | .name n => .tuple [.str "name", .str n]
  | .join a b => .tuple [.str "join", a.d, b.d]
  | .turn a => .tuple [.str "turn", a.d]
  | .rest a => .tuple [.str "rest", a.d]
  | .first a => .tuple [.str "first", a.d]
  | .many => .tuple [.str "many"]
  | .last => .tuple [.str "last"]
def Cn.d : Cn → PyData
  | .same a b => .tuple [.str "same", a.d, b.d]
  | .ahead a b => .tuple [.str "ahead", a.d, b.d]
  | .inn a b => .tuple [.str "in", a.d, b.d]
  | .not c => .tuple [.str "not", c.d]
mutual
def St.d : St → PyData
  | .say e => .tuple [.str "say", e.d]
  | .let_ n e => .tuple [.str "let", .str n, e.d]
  | .if_ c a b => .tuple [.str "if", c.d, .tuple a.ds, .tuple b.ds]
  | .each n b => .tuple [.str "each", .str n, .tuple b.ds]
def Bd.ds : Bd → List PyData
  | .nil => []
  | .cons s b => s.d :: b.ds
end
/-! ### what they tell -/
abbrev Mn := Str → Option Str
def putM (m : Mn) (n w : Str) : Mn := fun k => if k = n then some w else m k
def natS (n : Nat) : Str := toString (n : Int)
def Ex.val (row : List Str) (m : Mn) : Ex → Str
  | .text w => w
  | .name n => (m n).getD (Str.ofString "")
  | .join a b => cutS (a.val row m ++ b.val row m) none (some 40)
  | .turn a => revS (a.val row m)
  | .rest a => cutS (a.val row m) (some 1) none
  | .first a => cutS (a.val row m) none (some 1)
  | .many => natS row.length
  | .last => row.getLast?.getD (Str.ofString "")
def Cn.val (row : List Str) (m : Mn) : Cn → Bool
  | .same a b => decide (a.val row m = b.val row m)
  | .ahead a b => decide ((a.val row m).cps.toList < (b.val row m).cps.toList)
  | .inn a b => !(Builtin.Str.occurrences (b.val row m) (a.val row m) 0 (b.val row m).length 1).isEmpty
  | .not c => !c.val row m
def loopE (f : Mn → Option Str × Mn) (n : Str) : List Str → Mn → Option Str × Mn
  | [], m => (none, m)
  | w :: ws, m => match f (putM m n w) with
    | (some x, m') => (some x, m')
    | (none, m') => loopE f n ws m'
mutual
def St.run (row : List Str) : St → Mn → Option Str × Mn
  | .say e, m => (some (e.val row m), m)
  | .let_ n e, m => (none, putM m n (e.val row m))
  | .if_ c a b, m => if c.val row m = true then a.run row m else b.run row m
  | .each n b, m => loopE (fun m => b.run row m) n row m
def Bd.run (row : List Str) : Bd → Mn → Option Str × Mn
  | .nil, m => (none, m)
  | .cons s b, m => match s.run row m with
    | (some x, m') => (some x, m')
    | (none, m') => b.run row m'
end
/-! ### right ones -/
def Ex.ok : Ex → Bool
  | .text w => wordX w
  | .name n => nameX n
  | .join a b => a.ok && b.ok
  | .turn a | .rest a | .first a => a.ok
  | .many | .last => true
def Ex.deep : Ex → Nat
  | .join a b => 1 + max a.deep b.deep
  | .turn a | .rest a | .first a => 1 + a.deep
  | _ => 1
def Ex.cnt : Ex → Nat
  | .join a b => 1 + a.cnt + b.cnt
  | .turn a | .rest a | .first a => 1 + a.cnt
  | _ => 1
def Ex.all : Ex → Nat
  | .text _ | .name _ => 2
  | .join a b => 1 + a.all + b.all
  | .turn a | .rest a | .first a => 1 + a.all
  | .many | .last => 1
def Cn.ok : Cn → Bool
  | .same a b | .ahead a b | .inn a b => a.ok && b.ok
  | .not c => c.ok
def Cn.deep : Cn → Nat
  | .same a b | .ahead a b | .inn a b => 1 + max a.deep b.deep
  | .not c => 1 + c.deep
def Cn.cnt : Cn → Nat
  | .same a b | .ahead a b | .inn a b => 1 + a.cnt + b.cnt
  | .not c => 1 + c.cnt
def Cn.all : Cn → Nat
  | .same a b | .ahead a b | .inn a b => 1 + a.all + b.all
  | .not c => 1 + c.all
mutual
def St.ok : St → Bool
  | .say e => e.ok
  | .let_ n e => nameX n && e.ok
  | .if_ c a b => c.ok && (a.ok && b.ok)
  | .each n b => nameX n && b.ok
def Bd.ok : Bd → Bool
  | .nil => true
  | .cons s b => s.ok && b.ok
end
mutual
def St.deep : St → Nat
  | .say e => 1 + e.deep
  | .let_ _ e => 1 + e.deep
  | .if_ c a b => 1 + max c.deep (max a.deep b.deep)
  | .each _ b => 1 + b.deep
def Bd.deep : Bd → Nat
  | .nil => 0
  | .cons s b => max s.deep b.deep
end
mutual
def St.cnt : St → Nat
  | .say e => 1 + e.cnt
  | .let_ _ e => 1 + e.cnt
  | .if_ c a b => 1 + c.cnt + a.cnt + b.cnt
  | .each _ b => 1 + b.cnt
def Bd.cnt : Bd → Nat
  | .nil => 0
  | .cons s b => s.cnt + b.cnt
end
mutual
def St.all : St → Nat
  | .say e => 1 + e.all
  | .let_ _ e => 2 + e.all
  | .if_ c a b => 3 + c.all + a.all + b.all
  | .each _ b => 3 + b.all
def Bd.all : Bd → Nat
  | .nil => 0
  | .cons s b => s.all + b.all
end
mutual
/-- loops in loops -/
def St.lps : St → Nat
  | .say _ => 0
  | .let_ _ _ => 0
  | .if_ _ a b => max a.lps b.lps
  | .each _ b => 1 + b.lps
def Bd.lps : Bd → Nat
  | .nil => 0
  | .cons s b => max s.lps b.lps
end
theorem good_node {s k : Str} {rest : List PyData} {a e : Nat} {ps : List Str} {n m : Nat} (hs : (s ≠ "body" ∧ s ≠ "name" ∧ s ≠ "word") ∧ cnt s = 1) (hl : V5.lookF formsL k = some (s, ps)) (hr : rest.length = ps.length) (ha : a < 20) (hk : k ≠ "each") (kids : Good ((ps.zip rest).map fun p => (p.1, p.2, a + 1, e)) n m) :
    Good [(s, .tuple (.str k :: rest), a, e)] (1 + n) (1 + m) := by
  have r : rightOf s (.tuple (.str k :: rest)) a e = true := by
    unfold rightOf
    rw [if_neg hs.1.1, if_neg hs.1.2.1, if_neg hs.1.2.2]
    have f : formD (.tuple (.str k :: rest)) s = true := by
      unfold formD
      simp only [hl, decide_true, Bool.true_and]
      exact decide_eq_true hr
    rw [f, decide_eq_true ha, show kindD (.tuple (.str k :: rest)) = some k from rfl, decide_eq_false fun z => hk (Option.some.inj z)]
    rfl
  have i : innerOf s (.tuple (.str k :: rest)) a e = (ps.zip rest).map fun p => (p.1, p.2, a + 1, e) := by
    unfold innerOf
    rw [if_neg hs.1.1, if_neg hs.1.2.1, if_neg hs.1.2.2]
    simp only [hl, if_neg hk]
  exact (Good.cons (l := []) r (by rw [i]; exact kids) .nil).of (by rw [hs.2]; rfl) rfl
theorem good_each {rest : List PyData} {a e : Nat} {n m : Nat} (hr : rest.length = 2) (ha : a < 20) (he : e < 2) (kids : Good ((([("name" : Str), "body"]).zip rest).map fun p => (p.1, p.2, a + 1, e + 1)) n m) :
    Good [("statement", .tuple (.str "each" :: rest), a, e)] (1 + n) (1 + m) := by
  have hl : V5.lookF formsL "each" = some (Str.ofString "statement", [Str.ofString "name", Str.ofString "body"]) := by decide
  have hs : (("statement" : Str) ≠ "body" ∧ ("statement" : Str) ≠ "name" ∧ ("statement" : Str) ≠ "word") ∧ cnt "statement" = 1 := by decide
  have r : rightOf "statement" (.tuple (.str "each" :: rest)) a e = true := by
    unfold rightOf
    rw [if_neg hs.1.1, if_neg hs.1.2.1, if_neg hs.1.2.2]
    have f : formD (.tuple (.str "each" :: rest)) "statement" = true := by
      unfold formD
      simp only [hl, decide_true, Bool.true_and]
      exact decide_eq_true hr
    rw [f, decide_eq_true ha, decide_eq_true he, Bool.or_true]
    rfl
  have i : innerOf "statement" (.tuple (.str "each" :: rest)) a e = (([("name" : Str), "body"]).zip rest).map fun p => (p.1, p.2, a + 1, e + 1) := by
    unfold innerOf
    rw [if_neg hs.1.1, if_neg hs.1.2.1, if_neg hs.1.2.2]
    simp only [hl, if_pos]
  exact (Good.cons (l := []) r (by rw [i]; exact kids) .nil).of (by rw [hs.2]; rfl) rfl
theorem good_word {w : Str} {a e : Nat} (h : wordX w = true) : Good [("word", .str w, a, e)] 0 1 := .cons (show rightOf "word" (.str w) a e = true from h) .nil .nil
theorem good_name {n : Str} {a e : Nat} (h : nameX n = true) : Good [("name", .str n, a, e)] 0 1 := .cons (show rightOf "name" (.str n) a e = true from h) .nil .nil
theorem goodE : ∀ (x : Ex) (a e : Nat), x.ok = true → a + x.deep ≤ 20 → Good [("e", x.d, a, e)] x.cnt x.all
  | .text w, a, e, ok, dp => by
    simp only [Ex.deep] at dp
    exact (good_node (rest := [.str w]) (ps := [Str.ofString "word"]) (a := a) (e := e) (by decide) (by decide) rfl (by omega) (by decide) (show Good [("word", .str w, a + 1, e)] 0 1 from good_word ok)).of rfl rfl
  | .name n, a, e, ok, dp => by
    simp only [Ex.deep] at dp
    exact (good_node (rest := [.str n]) (ps := [Str.ofString "name"]) (a := a) (e := e) (by decide) (by decide) rfl (by omega) (by decide) (show Good [("name", .str n, a + 1, e)] 0 1 from good_name ok)).of rfl rfl
  | .join x y, a, e, ok, dp => by
    simp only [Ex.ok, Bool.and_eq_true] at ok
    simp only [Ex.deep] at dp
    have h1 := goodE x (a + 1) e ok.1 (by omega)
    have h2 := goodE y (a + 1) e ok.2 (by omega)
    exact (good_node (rest := [x.d, y.d]) (ps := [Str.ofString "e", Str.ofString "e"]) (a := a) (e := e) (by decide) (by decide) rfl (by omega) (by decide) (show Good [("e", x.d, a + 1, e), ("e", y.d, a + 1, e)] _ _ from h1.app h2)).of (by simp only [Ex.cnt]; omega) (by simp only [Ex.all]; omega)
  | .turn x, a, e, ok, dp => by
    simp only [Ex.deep] at dp
    exact (good_node (rest := [x.d]) (ps := [Str.ofString "e"]) (a := a) (e := e) (by decide) (by decide) rfl (by omega) (by decide) (show Good [("e", x.d, a + 1, e)] _ _ from goodE x (a + 1) e ok (by omega))).of rfl rfl
  | .rest x, a, e, ok, dp => by
    simp only [Ex.deep] at dp
    exact (good_node (rest := [x.d]) (ps := [Str.ofString "e"]) (a := a) (e := e) (by decide) (by decide) rfl (by omega) (by decide) (show Good [("e", x.d, a + 1, e)] _ _ from goodE x (a + 1) e ok (by omega))).of rfl rfl
  | .first x, a, e, ok, dp => by
    simp only [Ex.deep] at dp
    exact (good_node (rest := [x.d]) (ps := [Str.ofString "e"]) (a := a) (e := e) (by decide) (by decide) rfl (by omega) (by decide) (show Good [("e", x.d, a + 1, e)] _ _ from goodE x (a + 1) e ok (by omega))).of rfl rfl
  | .many, a, e, ok, dp => by
    simp only [Ex.deep] at dp
    exact (good_node (rest := []) (ps := []) (a := a) (e := e) (by decide) (by decide) rfl (by omega) (by decide) (show Good [] 0 0 from .nil)).of rfl rfl
  | .last, a, e, ok, dp => by
    simp only [Ex.deep] at dp
    exact (good_node (rest := []) (ps := []) (a := a) (e := e) (by decide) (by decide) rfl (by omega) (by decide) (show Good [] 0 0 from .nil)).of rfl rfl
theorem goodC : ∀ (x : Cn) (a e : Nat), x.ok = true → a + x.deep ≤ 20 → Good [("c", x.d, a, e)] x.cnt x.all
  | .same x y, a, e, ok, dp => by
    simp only [Cn.ok, Bool.and_eq_true] at ok
    simp only [Cn.deep] at dp
    exact (good_node (rest := [x.d, y.d]) (ps := [Str.ofString "e", Str.ofString "e"]) (a := a) (e := e) (by decide) (by decide) rfl (by omega) (by decide) (show Good [("e", x.d, a + 1, e), ("e", y.d, a + 1, e)] _ _ from (goodE x (a + 1) e ok.1 (by omega)).app (goodE y (a + 1) e ok.2 (by omega)))).of (by simp only [Cn.cnt]; omega) (by simp only [Cn.all]; omega)
  | .ahead x y, a, e, ok, dp => by
    simp only [Cn.ok, Bool.and_eq_true] at ok
    simp only [Cn.deep] at dp
    exact (good_node (rest := [x.d, y.d]) (ps := [Str.ofString "e", Str.ofString "e"]) (a := a) (e := e) (by decide) (by decide) rfl (by omega) (by decide) (show Good [("e", x.d, a + 1, e), ("e", y.d, a + 1, e)] _ _ from (goodE x (a + 1) e ok.1 (by omega)).app (goodE y (a + 1) e ok.2 (by omega)))).of (by simp only [Cn.cnt]; omega) (by simp only [Cn.all]; omega)
  | .inn x y, a, e, ok, dp => by
    simp only [Cn.ok, Bool.and_eq_true] at ok
    simp only [Cn.deep] at dp
    exact (good_node (rest := [x.d, y.d]) (ps := [Str.ofString "e", Str.ofString "e"]) (a := a) (e := e) (by decide) (by decide) rfl (by omega) (by decide) (show Good [("e", x.d, a + 1, e), ("e", y.d, a + 1, e)] _ _ from (goodE x (a + 1) e ok.1 (by omega)).app (goodE y (a + 1) e ok.2 (by omega)))).of (by simp only [Cn.cnt]; omega) (by simp only [Cn.all]; omega)
  | .not c, a, e, ok, dp => by
    simp only [Cn.deep] at dp
    exact (good_node (rest := [c.d]) (ps := [Str.ofString "c"]) (a := a) (e := e) (by decide) (by decide) rfl (by omega) (by decide) (show Good [("c", c.d, a + 1, e)] _ _ from goodC c (a + 1) e ok (by omega))).of rfl rfl
theorem good_body {b : Bd} {a e n m : Nat} (h : Good (b.ds.map fun x => ("statement", x, a, e)) n m) : Good [("body", .tuple b.ds, a, e)] n (1 + m) :=
  (Good.cons (l := []) (s := "body") (d := .tuple b.ds) (a := a) (e := e) rfl h .nil).of (by rw [show cnt "body" = 0 by decide]; omega) (by omega)
mutual
theorem goodS : ∀ (x : St) (a e : Nat), x.ok = true → a + x.deep ≤ 20 → e + x.lps ≤ 2 → Good [("statement", x.d, a, e)] x.cnt x.all
  | .say x, a, e, ok, dp, lp => by
    simp only [St.ok] at ok
    simp only [St.deep] at dp
    exact (good_node (rest := [x.d]) (ps := [Str.ofString "e"]) (a := a) (e := e) (by decide) (by decide) rfl (by omega) (by decide) (show Good [("e", x.d, a + 1, e)] _ _ from goodE x (a + 1) e ok (by omega))).of (by simp only [St.cnt]) (by simp only [St.all])
  | .let_ n x, a, e, ok, dp, lp => by
    simp only [St.ok, Bool.and_eq_true] at ok
    simp only [St.deep] at dp
    exact (good_node (rest := [.str n, x.d]) (ps := [Str.ofString "name", Str.ofString "e"]) (a := a) (e := e) (by decide) (by decide) rfl (by omega) (by decide) (show Good [("name", .str n, a + 1, e), ("e", x.d, a + 1, e)] _ _ from (good_name ok.1).app (goodE x (a + 1) e ok.2 (by omega)))).of (by simp only [St.cnt]; omega) (by simp only [St.all]; omega)
  | .if_ c x y, a, e, ok, dp, lp => by
    simp only [St.ok, Bool.and_eq_true] at ok
    simp only [St.deep] at dp
    simp only [St.lps] at lp
    have h1 := goodC c (a + 1) e ok.1 (by omega)
    have h2 := good_body (goodB x (a + 1) e ok.2.1 (by omega) (by omega))
    have h3 := good_body (goodB y (a + 1) e ok.2.2 (by omega) (by omega))
    exact (good_node (rest := [c.d, .tuple x.ds, .tuple y.ds]) (ps := [Str.ofString "c", Str.ofString "body", Str.ofString "body"]) (a := a) (e := e) (by decide) (by decide) rfl (by omega) (by decide) (show Good [("c", c.d, a + 1, e), ("body", .tuple x.ds, a + 1, e), ("body", .tuple y.ds, a + 1, e)] _ _ from h1.app (h2.app h3))).of (by simp only [St.cnt]; omega) (by simp only [St.all]; omega)
  | .each n b, a, e, ok, dp, lp => by
    simp only [St.ok, Bool.and_eq_true] at ok
    simp only [St.deep] at dp
    simp only [St.lps] at lp
    have h2 := good_body (goodB b (a + 1) (e + 1) ok.2 (by omega) (by omega))
    exact (good_each (rest := [.str n, .tuple b.ds]) (a := a) (e := e) rfl (by omega) (by omega) (show Good [("name", .str n, a + 1, e + 1), ("body", .tuple b.ds, a + 1, e + 1)] _ _ from (good_name ok.1).app h2)).of (by simp only [St.cnt]; omega) (by simp only [St.all]; omega)
theorem goodB : ∀ (b : Bd) (a e : Nat), b.ok = true → a + b.deep ≤ 20 → e + b.lps ≤ 2 → Good (b.ds.map fun x => ("statement", x, a, e)) b.cnt b.all
  | .nil, _, _, _, _, _ => by
    simp only [Bd.ds, List.map_nil, Bd.cnt, Bd.all]
    exact .nil
  | .cons s b, a, e, ok, dp, lp => by
    simp only [Bd.ok, Bool.and_eq_true] at ok
    simp only [Bd.deep] at dp
    simp only [Bd.lps] at lp
    simp only [Bd.ds, List.map_cons, Bd.cnt, Bd.all]
    exact (goodS s a e ok.1 (by omega) (by omega)).app (goodB b a e ok.2 (by omega) (by omega))
end
theorem goodP {b : Bd} (ok : b.ok = true) (dp : b.deep ≤ 20) (lp : b.lps ≤ 2) : Good [("body", .tuple b.ds, 0, 0)] b.cnt (1 + b.all) := good_body (goodB b 0 0 ok (by omega) (by omega))
theorem allE : ∀ x : Ex, x.all ≤ 4 * x.cnt
  | .text _ | .name _ | .many | .last => by simp [Ex.all, Ex.cnt]
  | .join a b => by have := allE a; have := allE b; simp only [Ex.all, Ex.cnt]; omega
  | .turn a | .rest a | .first a => by have := allE a; simp only [Ex.all, Ex.cnt]; omega
theorem allC : ∀ x : Cn, x.all ≤ 4 * x.cnt
  | .same a b | .ahead a b | .inn a b => by have := allE a; have := allE b; simp only [Cn.all, Cn.cnt]; omega
  | .not c => by have := allC c; simp only [Cn.all, Cn.cnt]; omega
mutual
theorem allS : ∀ x : St, x.all ≤ 4 * x.cnt
  | .say e => by have := allE e; simp only [St.all, St.cnt]; omega
  | .let_ _ e => by have := allE e; simp only [St.all, St.cnt]; omega
  | .if_ c a b => by have := allC c; have := allB a; have := allB b; simp only [St.all, St.cnt]; omega
  | .each _ b => by have := allB b; simp only [St.all, St.cnt]; omega
theorem allB : ∀ b : Bd, b.all ≤ 4 * b.cnt
  | .nil => by simp [Bd.all]
  | .cons s b => by have := allS s; have := allB b; simp only [Bd.all, Bd.cnt]; omega
end
/-! ### words stay words -/
structure Wd (row : List Str) (m : Mn) : Prop where
  ws : ∀ w ∈ row, wordX w = true
  len : row.length ≤ 400
  mean : ∀ n w, m n = some w → wordX w = true
theorem Wd.put {row : List Str} {m : Mn} {n w : Str} (h : Wd row m) (hw : wordX w = true) : Wd row (putM m n w) := ⟨h.ws, h.len, fun k x e => by
  unfold putM at e
  split at e
  · cases e
    exact hw
  · exact h.mean k x e⟩
theorem natS_w {n : Nat} (h : n ≤ 400) : wordX (natS n) = true := by
  have all : ∀ n : Fin 401, wordX (natS n.val) = true := by decide +kernel
  exact all ⟨n, by omega⟩
theorem empty_w : wordX (Str.ofString "") = true := by decide +kernel
theorem val_w {row : List Str} {m : Mn} (h : Wd row m) : ∀ e : Ex, e.ok = true → wordX (e.val row m) = true
  | .text w, ok => ok
  | .name n, ok => by
    show wordX ((m n).getD _) = true
    cases e : m n with
    | none => exact empty_w
    | some w => exact h.mean n w e
  | .join a b, ok => by
    simp only [Ex.ok, Bool.and_eq_true] at ok
    have h1 := val_w h a ok.1
    have h2 := val_w h b ok.2
    refine wx ?_ (pr_cut (pr_app (wx_pr h1) (wx_pr h2)) _ _)
    show ((((a.val row m ++ b.val row m).cps.toList.drop _).take _).toArray).size ≤ 40
    rw [List.size_toArray, List.length_take]
    refine Nat.le_trans (Nat.min_le_left _ _) ?_
    have : HT.sIx (a.val row m ++ b.val row m).length (a.val row m ++ b.val row m).length (some 40) ≤ 40 := by
      unfold HT.sIx
      simp
      omega
    omega
  | .turn a, ok => by
    have h1 := val_w h a ok
    exact wx (by rw [show Ex.val row m (.turn a) = revS (a.val row m) from rfl, revS_len]; exact wx_len h1) (pr_rev (wx_pr h1))
  | .rest a, ok => by
    have h1 := val_w h a ok
    exact wx (Nat.le_trans (cutS_length _ _ _) (wx_len h1)) (pr_cut (wx_pr h1) _ _)
  | .first a, ok => by
    have h1 := val_w h a ok
    exact wx (Nat.le_trans (cutS_length _ _ _) (wx_len h1)) (pr_cut (wx_pr h1) _ _)
  | .many, ok => natS_w h.len
  | .last, ok => by
    show wordX (row.getLast?.getD _) = true
    cases e : row.getLast? with
    | none => exact empty_w
    | some w => exact h.ws w (List.mem_of_getLast? e)
end V6

set_option maxHeartbeats 4000000
namespace V2
open PySem PySem.Spec PyProof.Rows L2 V1
def fromTo (lo hi : Int) : PyData → Bool
  | .int n => decide (lo ≤ n) && decide (n ≤ hi)
  | _ => false
def tupOf (lo hi : Int) : PyData → Bool
  | .tuple xs => decide (lo ≤ (xs.length : Int)) && decide ((xs.length : Int) ≤ hi)
  | _ => false
theorem fromTo_int {lo hi : Int} {d : PyData} (h : fromTo lo hi d = true) : ∃ n, d = .int n ∧ lo ≤ n ∧ n ≤ hi := by
  cases d with
  | int n =>
    have z : decide (lo ≤ n) = true ∧ decide (n ≤ hi) = true := by simpa [fromTo] using h
    exact ⟨n, rfl, of_decide_eq_true z.1, of_decide_eq_true z.2⟩
  | _ => cases h
theorem tupOf_tup {lo hi : Int} {d : PyData} (h : tupOf lo hi d = true) : ∃ xs, d = .tuple xs ∧ lo ≤ (xs.length : Int) ∧ (xs.length : Int) ≤ hi := by
  cases d with
  | tuple xs =>
    have z : decide (lo ≤ (xs.length : Int)) = true ∧ decide ((xs.length : Int) ≤ hi) = true := by simpa [tupOf] using h
    exact ⟨xs, rfl, of_decide_eq_true z.1, of_decide_eq_true z.2⟩
  | _ => cases h
theorem isInt_int {d : PyData} (h : isInt d = true) : ∃ n, d = .int n := by
  cases d with
  | int n => exact ⟨n, rfl⟩
  | _ => cases h
theorem isTup_tup {d : PyData} (h : isTup d = true) : ∃ n, d = .tuple n := by
  cases d with
  | tuple n => exact ⟨n, rfl⟩
  | _ => cases h
theorem Dq.int_inv {H : Hp} {v : V} {n : Int} (h : Dq H v (.int n)) : v = .int n := by
  cases h
  rfl
theorem Dq.tup_inv {H : Hp} {v : V} {ds : List PyData} (h : Dq H v (.tuple ds)) : ∃ a vs, v = .ref a ∧ H a = some (.tup vs) ∧ DqAll H vs ds := by
  cases h with
  | tup e r => exact ⟨_, _, rfl, e, r⟩
end V2
namespace K53
open PySem PySem.Spec PyProof.Rows L2 V1 V2 V3 V7 CwR
open Evl (pss_cut tCut sq_of st_of)
abbrev K [k : CurK] : PySem.W.Frag := k.K
section
variable {K : PySem.W.Frag} {mg : Str → Option Value}
theorem Tx.exs (T : Tx K w mg) : ExK K (He.ga K "TalkError") veB ∧ (∀ x ∈ errs, ExK K (He.ga K x) (.ref (He.ga K "TalkError") :: veB)) ∧ (He.ga K "TalkError" :: errs.map (He.ga K)).Nodup ∧ ClsAttr K := by
  have e := T.ex
  unfold exB1 exB0 at e
  simp only [Bool.and_eq_true, List.all_eq_true, decide_eq_true_eq] at e
  exact ⟨exK_of e.1.1, fun x hx => exK_of (e.1.2.1 x hx), e.1.2.2.1, clsAttr_of e.1.2.2.2⟩
theorem Tx.insK (T : Tx K w mg) (i : Nat) {x : Str} (h : plainC[i]? = some x) : InsK K (He.ga K x) := by
  have e := T.ex
  unfold exB1 exI at e
  simp only [Bool.and_eq_true, List.all_eq_true] at e
  exact insK_of (e.2.1 x (List.mem_of_getElem? h))
theorem Tx.kind (T : Tx K w mg) (i : Nat) {x : Str} (h : plainC[i]? = some x) : V3.kindB K (He.ga K x) = true := by
  have e := T.ex
  unfold exB1 exK at e
  simp only [Bool.and_eq_true, List.all_eq_true] at e
  exact (e.2.2 x (List.mem_of_getElem? h)).1
/-- two plain classes: neither holds the other's objects -/
theorem Tx.two (T : Tx K w mg) (i j : Nat) {x y : Str} (h : plainC[i]? = some x) (h' : plainC[j]? = some y) (ne : (x == y) = false) : PySem.W.kitOne K (.ref (He.ga K x)) (.ref (He.ga K y)) = some false ∧ PySem.W.notFirst K (He.ga K x) (.ref (He.ga K y)) = true := by
  have e := T.ex
  unfold exB1 exK at e
  simp only [Bool.and_eq_true, List.all_eq_true] at e
  have z := (e.2.2 x (List.mem_of_getElem? h)).2 y (List.mem_of_getElem? h')
  rw [ne, Bool.false_or, Bool.and_eq_true, decide_eq_true_eq] at z
  exact z
theorem Tx.one (T : Tx K w mg) (i : Nat) {x : Str} (h : errs[i]? = some x) : ExK K (He.ga K x) (.ref (He.ga K "TalkError") :: veB) := T.exs.2.1 x (List.mem_of_getElem? h)
end
theorem Tx.obC [CurK] {mg : Str → Option Value} (T : Tx K w mg) (i : Nat) {x : Str} (h : plainC[i]? = some x) (c : Cls K (He.ga K x)) : ObC (He.ga K x) := obC_of ((T.insK i h).ins c T.exs.2.2.2) (T.kind i h)
section
variable {K : PySem.W.Frag} {w : World} {mg : Str → Option Value}
theorem Tx.rai (T : Tx K w mg) (i : Nat) {x : Str} (e : fa[i]? = some (.exc x)) {X : Cx} (hX : X.K = K := by rfl) : Raises X (.ref (He.ga K x)) := by
  have z := He.exc_ok (T.c.fact i e)
  subst hX
  exact raises_own z.2.2.1 z.2.2.2
end
def leafD : PyData → Bool
  | .none | .bool _ | .int _ | .str _ => true
  | _ => false
def leafT : PyData → Str
  | .none => Str.ofString "-"
  | .bool b => if b = true then Str.ofString "yes" else Str.ofString "no"
  | .int i => toString i
  | .str x => Str.ofString "'" ++ escT x ++ Str.ofString "'"
  | _ => Str.ofString ""
/-- small enough -/
def okLeaf : PyData → Bool
  | .int i => decide (i.natAbs.log2 < 1900)
  | .str x => decide (x.length ≤ 100000)
  | _ => true
def spIsLeaf [CurK] : Sp := fun vs H Q _ => ∃ v d, vs = [v] ∧ Dx H v d ∧ ∀ H', Same H H' → Q (.bl (leafD d)) H'
def spLeafT [CurK] : Sp := fun vs H Q _ => ∃ v d, vs = [v] ∧ Dx H v d ∧ leafD d = true ∧ okLeaf d = true ∧ Q (.str (leafT d)) H
theorem rep_len (x y z : Str) (n : Nat) (h : x.length ≤ n) (k : z.length ≤ 2) : (Txt.replace x y z).length ≤ 3 * n + 2 := by
  have a := TK.replace_len x y z
  have b : (x.length + 1) * z.length ≤ (n + 1) * 2 := Nat.mul_le_mul (by omega) k
  omega
section
variable [CurK] {P : Program} {w : World} {mg : Str → Option Value} {base : Heap}
end
end K53

set_option maxHeartbeats 4000000
namespace K53
open PySem PySem.Spec PyProof.Rows L2 V1 V2 V3 V7 CwR
open Evl (pss_cut tCut sq_of st_of)
def joinC : List (List Nat) → List Nat
  | [] => []
  | [a] => a
  | a :: b :: r => a ++ 44 :: joinC (b :: r)
mutual
/-- the signs of the text of a thing that may hold so many tuples in one another; none if there is none -/
def textC : Nat → PyData → Option (List Nat)
  | 0, .tuple _ => none
  | n + 1, .tuple ds => (textCs n ds).map fun xs => 40 :: (joinC xs ++ [41])
  | _, .none => some (leafT .none).cps.toList
  | _, .bool b => some (leafT (.bool b)).cps.toList
  | _, .int i => some (leafT (.int i)).cps.toList
  | _, .str x => some (leafT (.str x)).cps.toList
  | _, .list _ => none
  | _, .dict _ => none
def textCs : Nat → List PyData → Option (List (List Nat))
  | _, [] => some []
  | n, d :: ds => (textC n d).bind fun x => (textCs n ds).map fun xs => x :: xs
end
mutual
def nodes : PyData → Nat
  | .tuple ds => 3 + nodess ds
  | _ => 1
def nodess : List PyData → Nat
  | [] => 0
  | d :: ds => nodes d + 1 + nodess ds
end
mutual
def okD : PyData → Bool
  | .tuple ds => okDs ds
  | .int i => okLeaf (.int i)
  | .str x => okLeaf (.str x)
  | _ => true
def okDs : List PyData → Bool
  | [] => true
  | d :: ds => okD d && okDs ds
end
theorem textC_leaf {n : Nat} {d : PyData} (h : isTup d = false) : textC n d = if leafD d = true then some (leafT d).cps.toList else none := by
  cases d <;> cases n <;> first | rfl | cases h
theorem okD_leaf {d : PyData} (h : isTup d = false) (k : okD d = true) : okLeaf d = true := by
  cases d <;> first | rfl | exact k | cases h
theorem nodes1 (d : PyData) : 1 ≤ nodes d := by
  cases d <;> simp only [nodes] <;> omega
theorem okDs_all : ∀ {ds : List PyData}, okDs ds = true → ∀ d ∈ ds, okD d = true
  | [], _, d, h => absurd h List.not_mem_nil
  | e :: ds, k, d, h => by
    simp only [okDs, Bool.and_eq_true] at k
    rcases List.mem_cons.mp h with rfl | h
    · exact k.1
    · exact okDs_all k.2 d h
section
variable [CurK]
theorem _root_.V3.Dx.sm {H H' : Hp} {v : V} {d : PyData} (h : Dx H v d) (s : Same H H') : Dx H' v d := Dx.same s d v h
theorem _root_.V3.DxAll.getv {H : Hp} {vs : List V} {ds : List PyData} (h : DxAll H vs ds) {i : Nat} (hi : i < ds.length) : ∃ v, vs[i]? = some v ∧ Dx H v (ds.getD i .none) := by
  have l := dxAll_len h
  have z : i < vs.length := by omega
  refine ⟨vs[i], List.getElem?_eq_getElem z, ?_⟩
  rw [List.getD_eq_getElem?_getD, List.getElem?_eq_getElem hi]
  exact h.at (List.getElem?_eq_getElem z) (List.getElem?_eq_getElem hi)
end
def chs (ws : List Str) : List Nat := ws.flatMap fun x => x.cps.toList
theorem chs_snoc (ws : List Str) (x : Str) : chs (ws ++ [x]) = chs ws ++ x.cps.toList := by
  unfold chs
  rw [List.flatMap_append]
  simp
theorem chs_len : ∀ ws : List Str, (ws.map (·.length)).sum = (chs ws).length
  | [] => rfl
  | x :: ws => by
    rw [List.map_cons, List.sum_cons, chs_len ws]
    show _ = (x.cps.toList ++ chs ws).length
    rw [List.length_append]
    simp [Str.length]
theorem join_chs (ws : List Str) : Txt.join (Str.ofString "") ws = ⟨(chs ws).toArray⟩ := by
  rw [TL.join_eq]
  induction ws with
  | nil => rfl
  | cons x ws ih =>
    cases ws with
    | nil =>
      show x = ⟨(x.cps.toList ++ []).toArray⟩
      rw [List.append_nil]
    | cons y ws =>
      have z : Str.join (Str.ofString "") (x :: y :: ws) = x ++ Str.ofString "" ++ Str.join (Str.ofString "") (y :: ws) := rfl
      rw [z, ih]
      show (⟨(x.cps ++ #[]) ++ (chs (y :: ws)).toArray⟩ : Str) = ⟨(x.cps.toList ++ chs (y :: ws)).toArray⟩
      simp
end K53

set_option maxHeartbeats 4000000
/-! V8a: the reading of things' texts, sign by sign, for every text. -/
namespace V8
open PySem PySem.Spec PyProof.Rows L2 V1 V2 V3 V5 V7
def figB (c : Nat) : Bool := decide (48 ≤ c) && decide (c ≤ 57)
def figs : Nat → List Nat → List Nat
  | n + 1, c :: l => if figB c = true then c :: figs n l else []
  | _, _ => []
/-- the figures of a number that begins here -/
def numR : List Nat → List Nat
  | [] => []
  | c :: l => if c = 48 then [48] else c :: figs 19 l
inductive LR where
  | bad (p : Nat)
  | ok (d : PyData) (l : List Nat) (at_ : Nat)
def wordR : List Nat → List Nat → Nat → PyData → LR
  | [], l, i, d => .ok d l i
  | _ :: _, [], i, _ => .bad i
  | w :: ws, c :: l, i, d => if c = w then wordR ws l (i + 1) d else .bad i
def tilde (c : Nat) : Option Nat := if c = 126 then some 126 else if c = 39 then some 39 else if c = 110 then some 10 else none
/-- within quotes; behind a tilde, or not -/
def strR : Bool → List Nat → List Nat → Nat → LR
  | _, _, [], i => .bad i
  | true, acc, e :: l, i => match tilde e with
    | some s => strR false (acc ++ [s]) l (i + 1)
    | none => .bad i
  | false, acc, c :: l, i =>
    if c = 39 then .ok (.str ⟨acc.toArray⟩) l (i + 1)
    else if c = 126 then strR true acc l (i + 1)
    else if V6.prC c = true then strR false (acc ++ [c]) l (i + 1) else .bad i
def numOf (l : List Nat) (i : Nat) (neg : Bool) : LR :=
  .ok (.int (if neg = true then -((NumText.digitsVal (numR l) : Nat) : Int) else ((NumText.digitsVal (numR l) : Nat) : Int))) (l.drop (numR l).length) (i + (numR l).length)
def minusR : List Nat → Nat → LR
  | [], i => .ok .none [] i
  | e :: l, i => if figB e = true ∧ e ≠ 48 then numOf (e :: l) i true else .ok .none (e :: l) i
def leafR : List Nat → Nat → LR
  | [], i => .bad i
  | c :: l, i =>
    if c = 39 then strR false [] l (i + 1)
    else if c = 121 then wordR [121, 101, 115] (c :: l) i (.bool true)
    else if c = 110 then wordR [110, 111] (c :: l) i (.bool false)
    else if figB c = true then numOf (c :: l) i false
    else if c = 45 then minusR l (i + 1)
    else .bad i
inductive TR where
  | ok (d : PyData)
  | bad (p : Nat)
def put (d : PyData) : List (List PyData) → List (List PyData)
  | [] => []
  | es :: st => (es ++ [d]) :: st
abbrev Cf := List (List PyData) × List Nat × Nat
/-- behind a thing: the tuples that end here, then the end, or a comma -/
def closing : PyData → List (List PyData) → List Nat → Nat → TR ⊕ Cf
  | d, [], [], _ => .inl (.ok d)
  | _, [], _ :: _, i => .inl (.bad i)
  | _, _ :: _, [], i => .inl (.bad i)
  | _, ds :: st, c :: l, i => if c = 41 then closing (.tuple ds) (put (.tuple ds) st) l (i + 1) else if c = 44 then .inr (ds :: st, l, i + 1) else .inl (.bad i)
def stepR : Cf → TR ⊕ Cf
  | (st, l, i) =>
    if l.head? = some 40 ∧ st.length < 40 then
      if l.tail.head? = some 41 then closing .none ([] :: st) l.tail (i + 1) else .inr ([] :: st, l.tail, i + 1)
    else match leafR l i with
      | .bad p => .inl (.bad p)
      | .ok d l' i' => closing d (put d st) l' i'
inductive GoR : Cf → TR → Prop
  | done {c : Cf} {r : TR} (h : stepR c = .inl r) : GoR c r
  | next {c c' : Cf} {r : TR} (h : stepR c = .inr c') (m : GoR c' r) : GoR c r
/-! lengths -/
theorem figs_len : ∀ (n : Nat) (l : List Nat), (figs n l).length ≤ l.length ∧ (figs n l).length ≤ n
  | 0, _ => by simp [figs]
  | n + 1, [] => by simp [figs]
  | n + 1, c :: l => by
    have z := figs_len n l
    rw [figs]
    split
    · simp only [List.length_cons]; omega
    · simp
theorem numR_len (l : List Nat) : (numR l).length ≤ l.length ∧ (numR l).length ≤ 20 := by
  cases l with
  | nil => simp [numR]
  | cons c l =>
    have z := figs_len 19 l
    rw [numR]
    split
    · simp
    · simp only [List.length_cons]; omega
theorem numR_pos {c : Nat} {l : List Nat} : 1 ≤ (numR (c :: l)).length := by
  rw [numR]
  split <;> simp
theorem figs_all : ∀ (n : Nat) (l : List Nat), ∀ c ∈ figs n l, figB c = true
  | 0, _, c, h => by simp [figs] at h
  | n + 1, [], c, h => by simp [figs] at h
  | n + 1, e :: l, c, h => by
    rw [figs] at h
    split at h
    · rename_i k
      rcases List.mem_cons.mp h with rfl | h
      · exact k
      · exact figs_all n l c h
    · cases h
theorem numR_all {c : Nat} {l : List Nat} (k : figB c = true) : ∀ e ∈ numR (c :: l), figB e = true := by
  intro e h
  rw [numR] at h
  split at h
  · rcases List.mem_cons.mp h with rfl | h
    · rfl
    · cases h
  · rcases List.mem_cons.mp h with rfl | h
    · exact k
    · exact figs_all 19 l e h
theorem figs_pre : ∀ (n : Nat) (l : List Nat), figs n l = l.take (figs n l).length
  | 0, _ => by simp [figs]
  | n + 1, [] => by simp [figs]
  | n + 1, c :: l => by
    rw [figs]
    split
    · rw [List.length_cons, List.take_succ_cons, ← figs_pre n l]
    · rfl
theorem numR_pre (l : List Nat) : numR l = l.take (numR l).length := by
  cases l with
  | nil => rfl
  | cons c l =>
    rw [numR]
    split
    · rename_i h
      rw [h]
      rfl
    · rw [List.length_cons, List.take_succ_cons, ← figs_pre 19 l]
theorem wordR_len : ∀ (ws l : List Nat) (i : Nat) (d d' : PyData) (l' : List Nat) (i' : Nat), wordR ws l i d = .ok d' l' i' → l'.length + ws.length = l.length ∧ i' = i + ws.length
  | [], l, i, d, d', l', i', h => by
    rw [wordR] at h
    cases h
    exact ⟨rfl, rfl⟩
  | w :: ws, [], i, d, d', l', i', h => by cases h
  | w :: ws, c :: l, i, d, d', l', i', h => by
    rw [wordR] at h
    split at h
    · have z := wordR_len ws l (i + 1) d d' l' i' h
      simp only [List.length_cons]
      omega
    · cases h
theorem strR_len : ∀ (l : List Nat) (b : Bool) (acc : List Nat) (i : Nat) (d' : PyData) (l' : List Nat) (i' : Nat), strR b acc l i = .ok d' l' i' → l'.length < l.length ∧ i' + l'.length = i + l.length
  | [], b, acc, i, d', l', i', h => by
    cases b <;> cases h
  | c :: l, true, acc, i, d', l', i', h => by
    rw [strR] at h
    split at h
    · have z := strR_len l _ _ _ _ _ _ h
      simp only [List.length_cons]
      omega
    · cases h
  | c :: l, false, acc, i, d', l', i', h => by
    rw [strR] at h
    split at h
    · cases h
      simp only [List.length_cons]
      omega
    · split at h
      · have z := strR_len l _ _ _ _ _ _ h
        simp only [List.length_cons]
        omega
      · split at h
        · have z := strR_len l _ _ _ _ _ _ h
          simp only [List.length_cons]
          omega
        · cases h
theorem numOf_len {c : Nat} {l : List Nat} {i : Nat} {b : Bool} {d : PyData} {l' : List Nat} {i' : Nat} (h : numOf (c :: l) i b = .ok d l' i') : l'.length < (c :: l).length ∧ i' + l'.length = i + (c :: l).length := by
  unfold numOf at h
  cases h
  have z := numR_len (c :: l)
  have y := numR_pos (c := c) (l := l)
  rw [List.length_drop]
  simp only [List.length_cons] at z ⊢
  omega
theorem minusR_len {l : List Nat} {i : Nat} {d : PyData} {l' : List Nat} {i' : Nat} (h : minusR l i = .ok d l' i') : l'.length ≤ l.length ∧ i' + l'.length = i + l.length := by
  cases l with
  | nil =>
    cases h
    simp
  | cons e l =>
    rw [minusR] at h
    split at h
    · have z := numOf_len h
      omega
    · cases h
      simp
theorem leafR_len {l : List Nat} {i : Nat} {d : PyData} {l' : List Nat} {i' : Nat} (h : leafR l i = .ok d l' i') : l'.length < l.length ∧ i' + l'.length = i + l.length := by
  cases l with
  | nil => cases h
  | cons c l =>
    rw [leafR] at h
    split at h
    · have z := strR_len _ _ _ _ _ _ _ h
      simp only [List.length_cons]
      omega
    · split at h
      · have z := wordR_len _ _ _ _ _ _ _ h
        simp only [List.length_cons, List.length_nil] at z ⊢
        omega
      · split at h
        · have z := wordR_len _ _ _ _ _ _ _ h
          simp only [List.length_cons, List.length_nil] at z ⊢
          omega
        · split at h
          · exact numOf_len h
          · split at h
            · have z := minusR_len h
              simp only [List.length_cons]
              omega
            · cases h
theorem closing_len : ∀ (l : List Nat) (d : PyData) (st : List (List PyData)) (i : Nat) (st' : List (List PyData)) (l' : List Nat) (i' : Nat), closing d st l i = .inr (st', l', i') → l'.length < l.length ∧ i' + l'.length = i + l.length ∧ st' ≠ []
  | [], d, [], i, _, _, _, h => by cases h
  | [], d, _ :: _, i, _, _, _, h => by cases h
  | _ :: _, d, [], i, _, _, _, h => by cases h
  | c :: l, d, ds :: st, i, st', l', i', h => by
    rw [closing] at h
    split at h
    · have z := closing_len l _ _ _ _ _ _ h
      simp only [List.length_cons]
      exact ⟨by omega, by omega, z.2.2⟩
    · split at h
      · cases h
        simp only [List.length_cons]
        exact ⟨by omega, by omega, List.cons_ne_nil _ _⟩
      · cases h
theorem stepR_len {st : List (List PyData)} {l : List Nat} {i : Nat} {st' : List (List PyData)} {l' : List Nat} {i' : Nat} (h : stepR (st, l, i) = .inr (st', l', i')) : l'.length < l.length ∧ i' + l'.length = i + l.length := by
  unfold stepR at h
  dsimp only at h
  split at h
  · rename_i k
    cases l with
    | nil => cases k.1
    | cons c l =>
      rw [List.tail_cons] at h
      split at h
      · have z := closing_len _ _ _ _ _ _ _ h
        simp only [List.length_cons]
        omega
      · cases h
        simp only [List.length_cons]
        omega
  · split at h
    · cases h
    · rename_i d l2 i2 e
      have z := leafR_len e
      have y := closing_len _ _ _ _ _ _ _ h
      omega
/-! what is made is a thing -/
theorem leafR_thing {l : List Nat} {i : Nat} {d : PyData} {l' : List Nat} {i' : Nat} (h : leafR l i = .ok d l' i') : d = .none ∨ (∃ b, d = .bool b) ∨ (∃ n, d = .int n) ∨ ∃ x, d = .str x := by
  have hw : ∀ (ws l : List Nat) (i : Nat) (e : PyData), wordR ws l i e = .ok d l' i' → d = e := by
    intro ws
    induction ws with
    | nil => intro l i e h; rw [wordR] at h; cases h; rfl
    | cons w ws ih =>
      intro l i e h
      cases l with
      | nil => cases h
      | cons c l =>
        rw [wordR] at h
        split at h
        · exact ih _ _ _ h
        · cases h
  have hs : ∀ (l : List Nat) (b : Bool) (acc : List Nat) (i : Nat), strR b acc l i = .ok d l' i' → ∃ x, d = .str x := by
    intro l
    induction l with
    | nil => intro b acc i h; cases b <;> cases h
    | cons c l ih =>
      intro b acc i h
      cases b with
      | true =>
        rw [strR] at h
        split at h
        · exact ih _ _ _ h
        · cases h
      | false =>
        rw [strR] at h
        split at h
        · cases h
          exact ⟨_, rfl⟩
        · split at h
          · exact ih _ _ _ h
          · split at h
            · exact ih _ _ _ h
            · cases h
  have hn : ∀ {l : List Nat} {i : Nat} {b : Bool}, numOf l i b = .ok d l' i' → ∃ n, d = .int n := by
    intro l i b h
    unfold numOf at h
    cases h
    exact ⟨_, rfl⟩
  cases l with
  | nil => cases h
  | cons c l =>
    rw [leafR] at h
    split at h
    · exact .inr (.inr (.inr (hs _ _ _ _ h)))
    · split at h
      · exact .inr (.inl ⟨_, hw _ _ _ _ h⟩)
      · split at h
        · exact .inr (.inl ⟨_, hw _ _ _ _ h⟩)
        · split at h
          · exact .inr (.inr (.inl (hn h)))
          · split at h
            · cases l with
              | nil =>
                cases h
                exact .inl rfl
              | cons e l2 =>
                rw [minusR] at h
                split at h
                · exact .inr (.inr (.inl (hn h)))
                · cases h
                  exact .inl rfl
            · cases h
/-! signs of a text -/
theorem cut_mid (x : Str) (i j : Nat) (h : i ≤ j) : cutS x (some ((i : Nat) : Int)) (some ((j : Nat) : Int)) = ⟨((x.cps.toList.drop i).take (j - i)).toArray⟩ := by
  unfold cutS
  rw [HT.sIx_nat, HT.sIx_nat]
  congr 2
  have e : x.cps.toList.length = x.length := by simp [Str.length]
  generalize x.cps.toList = l at e ⊢
  rw [← e]
  by_cases k : i ≤ l.length
  · rw [Nat.min_eq_left k]
    by_cases k2 : j ≤ l.length
    · rw [Nat.min_eq_left k2]
    · rw [Nat.min_eq_right (by omega), List.take_of_length_le (by rw [List.length_drop]; omega), List.take_of_length_le (by rw [List.length_drop]; omega)]
  · rw [List.drop_eq_nil_of_le (by omega : l.length ≤ i), List.take_nil, List.drop_eq_nil_of_le (by omega), List.take_nil]
theorem cut_at {x : Str} {i : Nat} {l : List Nat} (h : x.cps.toList.drop i = l) : cutS x (some ((i : Nat) : Int)) (some (((i : Nat) : Int) + 1)) = ⟨(l.take 1).toArray⟩ := by
  have z := cut_mid x i (i + 1) (by omega)
  rw [h, show i + 1 - i = 1 by omega] at z
  exact z
theorem drop_cons {x : List Nat} {i : Nat} {c : Nat} {l : List Nat} (h : x.drop i = c :: l) : x.drop (i + 1) = l ∧ x[i]? = some c ∧ i < x.length := by
  have e : i < x.length := by
    by_cases k : i < x.length
    · exact k
    · rw [List.drop_eq_nil_of_le (by omega)] at h
      cases h
  rw [List.drop_eq_getElem_cons e] at h
  have z := List.cons.inj h
  exact ⟨z.2, by rw [List.getElem?_eq_getElem e, z.1], e⟩
end V8

set_option maxHeartbeats 4000000
namespace K53
open PySem PySem.Spec PyProof.Rows L2 V1 V2 V3 V7 V8 CwR
open Evl (pss_cut tCut sq_of st_of)
def most : Nat := 12000000
section
variable [CurK]
def spFigs : Sp := fun vs H Q _ => ∃ (x : Str) (i : Nat) (c : Nat) (l : List Nat), vs = [.str x, .int ((i : Nat) : Int)] ∧ x.length ≤ most ∧ x.cps.toList.drop i = c :: l ∧ figB c = true ∧
  ∀ H' p, Same H H' → H' p = some (.tup [.int ((NumText.digitsVal (numR (c :: l)) : Nat) : Int), .int ((i + (numR (c :: l)).length : Nat) : Int)]) → Q (.ref p) H'
def lrE (H : Hp) (E : XK) : LR → Prop
  | .bad p => ∀ dd H', H dd = none → Same H H' → H' dd = some (.xd [("place", .int ((p : Nat) : Int))]) → E (.ref (He.ga K "BadThing")) (some dd) H'
  | _ => True
def lrQ (H : Hp) (Q : VK) : LR → Prop
  | .ok d _ i => ∀ H' p v, Same H H' → H' p = some (.tup [v, .int ((i : Nat) : Int)]) → Dx H' v d → Q (.ref p) H'
  | _ => True
def spWord : Sp := fun vs H Q E => ∃ (x : Str) (i : Nat) (c : Nat) (l : List Nat) (ws : List Nat) (b : Bool), vs = [.str x, .int ((i : Nat) : Int)] ∧ x.length ≤ most ∧ x.cps.toList.drop i = c :: l ∧
  ((c = 121 ∧ ws = [121, 101, 115] ∧ b = true) ∨ (c = 110 ∧ ws = [110, 111] ∧ b = false)) ∧ lrE H E (wordR ws (c :: l) i (.bool b)) ∧ lrQ H Q (wordR ws (c :: l) i (.bool b))
def spString : Sp := fun vs H Q E => ∃ (x : Str) (i : Nat) (c : Nat) (l : List Nat), vs = [.str x, .int ((i : Nat) : Int)] ∧ x.length ≤ most ∧ x.cps.toList.drop i = c :: l ∧
  lrE H E (strR false [] l (i + 1)) ∧ lrQ H Q (strR false [] l (i + 1))
def spLeaf : Sp := fun vs H Q E => ∃ (x : Str) (i : Nat), vs = [.str x, .int ((i : Nat) : Int)] ∧ x.length ≤ most ∧ lrE H E (leafR (x.cps.toList.drop i) i) ∧ lrQ H Q (leafR (x.cps.toList.drop i) i)
end
theorem scFigs : FnScope ["text", "at", "end"] ["text", "at"] (defScope s_read_figures) := ⟨rfl, rfl, rfl, by decide +kernel, rfl, by decide +kernel, by decide +kernel⟩
theorem scWord : FnScope ["text", "at", "word", "worth", "sign"] ["text", "at"] (defScope s_read_word) := ⟨rfl, rfl, rfl, by decide +kernel, rfl, by decide +kernel, by decide +kernel⟩
theorem scString : FnScope ["text", "at", "signs", "sign"] ["text", "at"] (defScope s_read_string) := ⟨rfl, rfl, rfl, by decide +kernel, rfl, by decide +kernel, by decide +kernel⟩
theorem scLeaf : FnScope ["text", "at", "sign", "figure", "number", "end"] ["text", "at"] (defScope s_read_leaf) := ⟨rfl, rfl, rfl, by decide +kernel, rfl, by decide +kernel, by decide +kernel⟩
theorem scBT : FnScope ["self", "place"] ["self", "place"] (defScope s_BadThing__init__) := ⟨rfl, rfl, rfl, by decide +kernel, rfl, by decide +kernel, by decide +kernel⟩
def tens : List V := (["0", "1", "2", "3", "4", "5", "6", "7", "8", "9"] : List Str).map V.str
def hdFig : List Nat → Bool
  | [] => false
  | c :: _ => figB c
theorem in_figs (l : List Nat) : inV (V.str ⟨(l.take 1).toArray⟩) tens = hdFig l := by
  cases l with
  | nil => rfl
  | cons c l =>
    show inV (V.str ⟨#[c]⟩) tens = figB c
    unfold figB
    by_cases h : 48 ≤ c ∧ c ≤ 57
    · rw [decide_eq_true h.1, decide_eq_true h.2]
      have z : c = 48 ∨ c = 49 ∨ c = 50 ∨ c = 51 ∨ c = 52 ∨ c = 53 ∨ c = 54 ∨ c = 55 ∨ c = 56 ∨ c = 57 := by omega
      rcases z with rfl | rfl | rfl | rfl | rfl | rfl | rfl | rfl | rfl | rfl <;> decide +kernel
    · have z : (decide (48 ≤ c) && decide (c ≤ 57)) = false := by
        simp only [Bool.and_eq_false_iff, decide_eq_false_iff_not]
        omega
      rw [z]
      have ne : ∀ e, 48 ≤ e → e ≤ 57 → eqV (V.str ⟨#[e]⟩) (V.str ⟨#[c]⟩) = false := fun e h1 h2 => by
        show ((⟨#[e]⟩ : Str) == ⟨#[c]⟩) = false
        refine beq_eq_false_iff_ne.mpr fun y => ?_
        have : e = c := by simpa using congrArg (fun q : Str => q.cps.toList) y
        omega
      show (eqV (V.str ⟨#[48]⟩) (V.str ⟨#[c]⟩) || (eqV (V.str ⟨#[49]⟩) (V.str ⟨#[c]⟩) || (eqV (V.str ⟨#[50]⟩) (V.str ⟨#[c]⟩) || (eqV (V.str ⟨#[51]⟩) (V.str ⟨#[c]⟩) || (eqV (V.str ⟨#[52]⟩) (V.str ⟨#[c]⟩) || (eqV (V.str ⟨#[53]⟩) (V.str ⟨#[c]⟩) || (eqV (V.str ⟨#[54]⟩) (V.str ⟨#[c]⟩) || (eqV (V.str ⟨#[55]⟩) (V.str ⟨#[c]⟩) || (eqV (V.str ⟨#[56]⟩) (V.str ⟨#[c]⟩) || (eqV (V.str ⟨#[57]⟩) (V.str ⟨#[c]⟩) || false)))))))))) = false
      rw [ne 48 (by omega) (by omega), ne 49 (by omega) (by omega), ne 50 (by omega) (by omega), ne 51 (by omega) (by omega), ne 52 (by omega) (by omega), ne 53 (by omega) (by omega), ne 54 (by omega) (by omega), ne 55 (by omega) (by omega), ne 56 (by omega) (by omega), ne 57 (by omega) (by omega)]
      rfl
theorem figs_at : ∀ (n : Nat) (l : List Nat) (k : Nat), k < (figs n l).length → (∃ e, l[k]? = some e ∧ figB e = true) ∧ k < n
  | 0, _, _, h => by simp [figs] at h
  | n + 1, [], _, h => by simp [figs] at h
  | n + 1, c :: l, k, h => by
    rw [figs] at h
    split at h
    · rename_i f
      cases k with
      | zero => exact ⟨⟨c, rfl, f⟩, by omega⟩
      | succ k =>
        have z := figs_at n l k (by simp only [List.length_cons] at h; omega)
        exact ⟨z.1, by omega⟩
    · simp at h
theorem figs_end : ∀ (n : Nat) (l : List Nat), (figs n l).length = n ∨ hdFig (l.drop (figs n l).length) = false
  | 0, _ => .inl (by simp [figs])
  | n + 1, [] => .inr (by simp [figs, hdFig])
  | n + 1, c :: l => by
    rw [figs]
    split
    · rcases figs_end n l with z | z
      · exact .inl (by rw [List.length_cons, z])
      · exact .inr z
    · rename_i f
      exact .inr (by simpa [hdFig] using f)
theorem str_ne (c e : Nat) : decide ((V.str ⟨#[c]⟩ : V) = V.str ⟨#[e]⟩) = decide (c = e) := by
  by_cases h : c = e
  · rw [h, decide_eq_true rfl, decide_eq_true rfl]
  · rw [decide_eq_false h, decide_eq_false fun z => h (by
      have y := congrArg (fun q : Str => q.cps.toList) (V.str.inj z)
      simpa using y)]
theorem sgn_go {a b : Nat} {σ : L2.St} {H : Hp} {Q : VK} {x : Str} {i : Nat} {l : List Nat} (ha : σ[a]? = some (some (.str x))) (hb : σ[b]? = some (some (.int ((i : Nat) : Int)))) (xl : x.length ≤ most) (h : x.cps.toList.drop i = l) (q : Q (.str ⟨(l.take 1).toArray⟩) H) :
    tSl rSlS (tVar a) (tPart (tVar b)) (tPart (tOp (rI0 fun i j => .int (i + j)) (tVar b) (tC (.int 1)))) σ H Q :=
  ⟨_, ha, _, hb, _, rfl, _, hb, _, _, rfl, rfl, _, rfl, x, rfl, Nat.le_trans xl (by decide), by rw [cut_at h]; exact q⟩
theorem str_nil (e : Nat) : decide ((V.str ⟨#[]⟩ : V) = V.str ⟨#[e]⟩) = false := decide_eq_false fun z => by
  have y := congrArg (fun q : Str => q.cps.toList) (V.str.inj z)
  simp at y
theorem chs_sgn : ∀ acc : List Nat, chs (acc.map fun c => (⟨#[c]⟩ : Str)) = acc
  | [] => rfl
  | c :: acc => by
    show [c] ++ chs _ = c :: acc
    rw [chs_sgn acc]
    rfl
theorem look_tilde (e : Nat) : lookC dTILDES ⟨#[e]⟩ = (tilde e).map fun y => CV.str ⟨#[y]⟩ := by
  have ne : ∀ k, k ≠ e → decide ((⟨#[k]⟩ : Str) = ⟨#[e]⟩) = false := fun k h => decide_eq_false fun z => h (by
    have y := congrArg (fun q : Str => q.cps.toList) z
    simpa using y)
  unfold tilde
  by_cases h1 : e = 126
  · subst h1
    decide +kernel
  · rw [if_neg h1]
    by_cases h2 : e = 39
    · subst h2
      decide +kernel
    · rw [if_neg h2]
      by_cases h3 : e = 110
      · subst h3
        decide +kernel
      · rw [if_neg h3]
        unfold lookC dTILDES
        rw [show (Str.ofString "~") = ⟨#[126]⟩ from rfl, show (Str.ofString "'") = ⟨#[39]⟩ from rfl, show (Str.ofString "n") = ⟨#[110]⟩ from rfl]
        simp only [List.find?_cons, ne 126 (Ne.symm h1), ne 39 (Ne.symm h2), ne 110 (Ne.symm h3), List.find?_nil]
        rfl
theorem look_words {e : Nat} (h1 : ¬ e = 121) (h2 : ¬ e = 110) : lookC dWORDS ⟨#[e]⟩ = none := by
  have ne : ∀ k, k ≠ e → decide ((⟨#[k]⟩ : Str) = ⟨#[e]⟩) = false := fun k h => decide_eq_false fun z => h (by
    have y := congrArg (fun q : Str => q.cps.toList) z
    simpa using y)
  unfold lookC dWORDS
  rw [show (Str.ofString "y") = ⟨#[121]⟩ from rfl, show (Str.ofString "n") = ⟨#[110]⟩ from rfl]
  simp only [List.find?_cons, ne 121 (Ne.symm h1), ne 110 (Ne.symm h2), List.find?_nil]
  rfl
theorem figB_bd {c : Nat} (h : figB c = true) : 48 ≤ c ∧ c ≤ 57 := by simpa [figB] using h
section
variable [CurK] {P : Program} {w : World} {mg : Str → Option Value} {base : Heap}
theorem fldBT (T : Tx K w mg) : Fld P w K mg base "BadThing" "place" := by
  obtain ⟨fd, F⟩ := T.c.def_ 36 (d := d_BadThing__init__) rfl
  exact fld_of F scBT rfl (T.glo 7 rfl) (T.one 1 rfl) rfl rfl (T.noat 67 rfl) (He.meth_ok (T.c.fact 65 rfl)) (by decide) (by decide) (Or.inl rfl) (Or.inl rfl) (fun _ => rfl) (FunD.bindsN F fun _ _ _ _ _ _ us hl => match us, hl with | [_, _], _ => rfl)
theorem ok_figs (T : Tx K w mg) : Has P w K mg base CX0 1 "read_figures" ["text", "at"] spFigs := by
  obtain ⟨fd, F⟩ := T.c.def_ 11 (d := d_read_figures) rfl
  obtain ⟨t20, g20⟩ := (T.int 21 rfl)
  refine ⟨fd, F.ok scFigs (fun vs H Q E h => ?_) (fun cdv A outer s H vs Q E hr h => ?_), FunD.bindsN F fun _ _ _ _ _ _ us hl => match us, hl with | [_, _], _ => rfl, F.kp, (T.glo 25 rfl)⟩
  · obtain ⟨x, i, c, l, rfl, _⟩ := h
    rfl
  · refine ⟨_, PSs.nox (pss_cons (ps_set (i := 2) scFigs.nd rfl (Or.inl rfl) (pe_op op_add (pv 1) pe_int))
 (pss_cons (ps_while PassesOwn.never (PW.pt (pw_and (pt_cmpR op_ne (pe_ix ix_str (pv 0) (pv 1) (fun _ _ => rfl)) pe_str (nomark _)) (pw_and (pt_cmpR op_in_seq (pe_slice sl_str (pv 0) (po_some (pv 2)) (po_some (pe_op op_add (pv 2) pe_int))) (pe_glob (v := .ref (He.ga K "FIGURES")) (by rfl) (T.glo 22 rfl) rfl) (by rfl)) (pw_and1 (pt_cmpR op_lt (pe_op op_sub (pv 2) (pv 1)) (pe_glob (v := .int 20) (by rfl) g20 ⟨_, rfl⟩) (nomark _))))))
 (pss_one (ps_aug (i := 2) scFigs.nd rfl (.inl rfl) pe_int ip_add)))
 (pss_one (ps_ret (pe_tup (pa_cons (pe_callTy call_int_str (by rfl) (T.free 54 rfl) (by decide +kernel) (pa_cons (pe_slice sl_str (pv 0) (po_some (pv 1)) (po_some (pv 2))) pa_nil)) (pa_cons (pv 2) pa_nil))))))), ?_⟩
    obtain ⟨x, i, c, l, rfl, xl, dr, fc, hQ⟩ := h
    have d1 := drop_cons dr
    have xl2 : x.length ≤ sizeLine := Nat.le_trans xl (by decide)
    have ds := numR_len (c :: l)
    have fin : ∀ k : Nat, 1 + k = (numR (c :: l)).length → (tRet (tTup (tCons (tCB (fun xs H Q => ∃ a n, xs = [V.str a] ∧ intText? a = some n ∧ a.length ≤ 640 ∧ Q (V.int n) H) (tCons (tSl rSlS (tVar 0) (tPart (tVar 1)) (tPart (tVar 2))) tNil)) (tCons (tVar 2) tNil)))) { nx := fun x H' => Q V.non H', rt := Q } [some (.str x), some (.int ((i : Nat) : Int)), some (.int ((i + 1 + k : Nat) : Int))] H := fun k hk => by
      have e : cutS x (some ((i : Nat) : Int)) (some ((i + 1 + k : Nat) : Int)) = ⟨(numR (c :: l)).toArray⟩ := by
        rw [cut_mid x i (i + 1 + k) (by omega), dr, show i + 1 + k - i = (numR (c :: l)).length by omega, ← numR_pre]
      have hi : intText? (cutS x (some ((i : Nat) : Int)) (some ((i + 1 + k : Nat) : Int))) = some ((NumText.digitsVal (numR (c :: l)) : Nat) : Int) := by
        rw [e]
        exact intText_digits (x := ⟨(numR (c :: l)).toArray⟩) (fun e he => figB_bd (numR_all fc e (by simpa using he))) (fun z => by have y := numR_pos (c := c) (l := l); have z : numR (c :: l) = [] := z; rw [z] at y; exact absurd y (by decide)) (by
          show (numR (c :: l)).toArray.size ≤ 4300
          simp
          omega)
      refine ⟨_, rfl, _, rfl, _, rfl, _, rfl, _, rfl, x, rfl, xl2, _, _, rfl, hi, ?_, _, rfl, (by show 2 ≤ sizeLine; decide), fun p np => hQ _ p (same_new np) ?_⟩
      · rw [e]
        show (numR (c :: l)).toArray.size ≤ 640
        simp
        omega
      · rw [show i + 1 + k = i + (numR (c :: l)).length by omega]
        exact upd_same
    refine ⟨_, rfl, _, _, rfl, rfl, ?_⟩
    refine ⟨fun m σ H' => ∃ k, σ = [some (.str x), some (.int ((i : Nat) : Int)), some (.int ((i + 1 + k : Nat) : Int))] ∧ H' = H ∧ k ≤ (figs 19 l).length ∧ m = (figs 19 l).length - k ∧ (c = 48 → k = 0), ⟨_, 0, rfl, rfl, Nat.zero_le _, rfl, fun _ => rfl⟩, ?_⟩
    rintro m σ H' ⟨k, rfl, rfl, kl, rfl, k0⟩
    refine ⟨_, rfl, _, rfl, x, _, c, rfl, rfl, xl2, atI_nat d1.2.1, rfl, _, rfl, ite2 (fun e => ?_) (fun e => ?_)⟩
    · have c48 : ¬ c = 48 := fun z => by
        rw [z] at e
        revert e
        decide +kernel
      have nr : numR (c :: l) = c :: figs 19 l := by rw [numR, if_neg c48]
      have dk : x.cps.toList.drop (i + 1 + k) = l.drop k := by rw [← d1.1, List.drop_drop]
      refine sgn_go rfl rfl xl dk ⟨_, tens, rfl, .inr (T.sFIGURES _), rfl, by decide +kernel, _, rfl, ?_⟩
      rw [show (if false = true then !inV _ tens else inV _ tens) = inV (V.str ⟨((l.drop k).take 1).toArray⟩) tens from rfl, in_figs]
      refine ite2 (fun e2 => ?_) (fun e2 => ?_)
      · refine ⟨_, rfl, _, rfl, _, _, rfl, rfl, _, _, rfl, rfl, _, rfl, ite2 (fun e3 => ?_) (fun e3 => ?_)⟩
        · have k19 : k < 19 := by
            have := of_decide_eq_true e3
            omega
          have kl2 : k < (figs 19 l).length := by
            rcases figs_end 19 l with z | z
            · omega
            · refine Nat.lt_of_le_of_ne kl fun y => ?_
              rw [y, z] at e2
              cases e2
          refine ⟨fun σ' H2 => σ' = [some (.str x), some (.int ((i : Nat) : Int)), some (.int ((i + 1 + (k + 1) : Nat) : Int))] ∧ H2 = H', ?_, _, rfl, _, _, rfl, rfl, rfl, rfl⟩
          rintro σ' H2 ⟨rfl, rfl⟩
          exact ⟨_, by omega, k + 1, rfl, rfl, kl2, rfl, fun z => absurd z c48⟩
        · refine fin k ?_
          have k19 : ¬ k < 19 := fun z => by
            exact e3 (decide_eq_true (by omega))
          have := (figs_len 19 l).2
          rw [nr, List.length_cons]
          omega
      · refine fin k ?_
        have kl2 : ¬ k < (figs 19 l).length := fun z => by
          obtain ⟨⟨e, h1, h2⟩, _⟩ := figs_at 19 l k z
          rw [List.drop_eq_getElem_cons (by have := (figs_len 19 l).1; omega)] at e2
          have h3 : l[k]'(by have := (figs_len 19 l).1; omega) = e := Option.some.inj ((List.getElem?_eq_getElem _).symm.trans h1)
          rw [h3] at e2
          exact e2 h2
        rw [nr, List.length_cons]
        omega
    · have c48 : c = 48 := by
        refine Classical.byContradiction fun z => ?_
        rw [show (Str.ofString "0") = ⟨#[48]⟩ from rfl, str_ne, decide_eq_false z] at e
        exact e rfl
      obtain rfl := k0 c48
      refine fin 0 ?_
      rw [numR, if_pos c48]
      rfl
theorem ok_rword (T : Tx K w mg) : Has P w K mg base (L2.CX P w) 3 "read_word" ["text", "at"] spWord := by
  obtain ⟨fd, F⟩ := T.c.def_ 12 (d := d_read_word) rfl
  refine ⟨fd, F.ok scWord (fun vs H Q E h => ?_) (fun cdv A outer s H vs Q E hr h => ?_), FunD.bindsN F fun _ _ _ _ _ _ us hl => match us, hl with | [_, _], _ => rfl, F.kp, (T.glo 26 rfl)⟩
  · obtain ⟨x, i, c, l, ws, b, rfl, _⟩ := h
    rfl
  · refine ⟨_, (pss_cons (ps_asg (V5.pe_kget (pe_glob (v := .ref (He.ga K "WORDS")) (by rfl) (T.glo 24 rfl) rfl) (pe_ix ix_str (pv 0) (pv 1) (fun _ _ => rfl)) (fun _ _ => rfl)) (pg_tup (by rfl) (pgs_cons (pg_name (i := 2) scWord.nd rfl (Or.inl rfl)) (pgs_cons (pg_name (i := 3) scWord.nd rfl (Or.inl rfl)) pgs_nil))))
 (pss_cons (ps_for (passes_of rfl) rfl (pi_str (pv 2)) (pg_name (i := 4) scWord.nd rfl (Or.inl rfl))
 (pss_cons (ps_if (pt_cmpR op_ne (pe_slice sl_str (pv 0) (po_some (pv 1)) (po_some (pe_op op_add (pv 1) pe_int))) (pv 4) (nomark _))
 (pss_one (ps_raise rfl (takes_of rfl rfl rfl rfl) (pmk_fld (fldBT T) (hr.mono (by decide)) (pa_cons (pv 1) pa_nil))))
 pss_nil)
 (pss_one (ps_aug (i := 1) scWord.nd rfl (.inl rfl) pe_int ip_add))))
 (pss_one (ps_ret (pe_tup (pa_cons (pv 3) (pa_cons (pv 1) pa_nil))))))), ?_⟩
    obtain ⟨x, i, c, l, ws, b, rfl, xl, dr, cw, hE, hQ⟩ := h
    have d1 := drop_cons dr
    have xl2 : x.length ≤ sizeLine := Nat.le_trans xl (by decide)
    obtain ⟨ks, D, hl⟩ := T.dWORDS.ex
    have lk : ∃ y : Str, lookC dWORDS ⟨#[c]⟩ = some (.pr y b) ∧ y.cps.toList = ws := by
      rcases cw with ⟨rfl, rfl, rfl⟩ | ⟨rfl, rfl, rfl⟩
      · exact ⟨"yes", by decide +kernel, by decide +kernel⟩
      · exact ⟨"no", by decide +kernel, by decide +kernel⟩
    obtain ⟨y, lk, ey⟩ := lk
    obtain ⟨u, gu, t, rfl, st⟩ := (hl _).2 _ lk
    refine ⟨_, rfl, _, rfl, x, _, c, rfl, rfl, xl2, atI_nat d1.2.1, _, ks, _, _, .ref t, rfl, D, rfl, gu, rfl, ?_⟩
    refine ⟨t, _, rfl, st H, rfl, _, _, rfl, _, _, rfl, rfl, ?_⟩
    have yl : y.cps.size = ws.length := by rw [← ey]; simp
    refine ⟨_, rfl, y, rfl, for_it walk_str (fun j σ H' => H' = H ∧ (∃ o, σ = [some (.str x), some (.int ((i + j : Nat) : Int)), some (.str y), some (.bl b), o]) ∧ wordR ws (c :: l) i (.bool b) = wordR (ws.drop j) ((c :: l).drop j) (i + j) (.bool b)) ⟨rfl, ⟨_, rfl⟩, rfl⟩ (fun _ _ _ _ _ => True.intro) ?_ ?_⟩
    · rintro j v σ H1 H2 hj ⟨rfl, ⟨o, rfl⟩, hw⟩ ⟨rfl, c', hc, rfl⟩
      have wj : ws.drop j = c' :: ws.drop (j + 1) := by
        have h1 : ws[j]? = some c' := by
          rw [← ey]
          simpa using hc
        have h2 : j < ws.length := by omega
        rw [List.drop_eq_getElem_cons h2]
        congr 1
        exact Option.some.inj ((List.getElem?_eq_getElem h2).symm.trans h1)
      have dj : x.cps.toList.drop (i + j) = (c :: l).drop j := by rw [← dr, List.drop_drop]
      rw [wj] at hw
      refine sgn_go rfl rfl xl dj ⟨_, rfl, rfl, _, rfl, ?_⟩
      cases e : (c :: l).drop j with
      | nil =>
        rw [e] at hw
        rw [show (⟨(List.take 1 ([] : List Nat)).toArray⟩ : Str) = ⟨#[]⟩ from rfl, str_nil]
        rw [hw] at hE
        exact iteT (raise_go (v := .int ((i + j : Nat) : Int)) (fun Q q => ⟨_, rfl, q⟩) fun dd H' nd sm hd => hE dd H' nd sm hd)
      | cons f l' =>
        rw [e] at hw
        have dj2 := drop_cons e
        rw [show (⟨(List.take 1 (f :: l')).toArray⟩ : Str) = ⟨#[f]⟩ from rfl, str_ne]
        by_cases fe : f = c'
        · rw [decide_eq_true fe]
          refine iteF ⟨_, rfl, _, _, rfl, rfl, rfl, ⟨_, rfl⟩, ?_⟩
          rw [hw, wordR, if_pos fe, dj2.1]
          rfl
        · rw [decide_eq_false fe]
          rw [hw, wordR, if_neg fe] at hE
          exact iteT (raise_go (v := .int ((i + j : Nat) : Int)) (fun Q q => ⟨_, rfl, q⟩) fun dd H' nd sm hd => hE dd H' nd sm hd)
    · rintro σ H1 ⟨rfl, ⟨o, rfl⟩, hw⟩
      rw [yl, List.drop_length] at hw
      rw [hw] at hQ
      exact ⟨_, rfl, _, rfl, (by show 2 ≤ sizeLine; decide), fun p np => by
        refine hQ _ p _ (same_new np) ?_ (.bl b)
        rw [← yl]
        exact upd_same⟩
theorem ok_rstring (T : Tx K w mg) : Has P w K mg base (L2.CX P w) 3 "read_string" ["text", "at"] spString := by
  obtain ⟨fd, F⟩ := T.c.def_ 13 (d := d_read_string) rfl
  refine ⟨fd, F.ok scString (fun vs H Q E h => ?_) (fun cdv A outer s H vs Q E hr h => ?_), FunD.bindsN F fun _ _ _ _ _ _ us hl => match us, hl with | [_, _], _ => rfl, F.kp, (T.glo 27 rfl)⟩
  · obtain ⟨x, i, c, l, rfl, _⟩ := h
    rfl
  · refine ⟨_, (pss_cons (ps_set (i := 2) scString.nd rfl (Or.inl rfl) (pe_lstS pa_nil))
 (pss_cons (ps_aug (i := 1) scString.nd rfl (.inl rfl) pe_int ip_add)
 (pss_cons (ps_while (passes_of rfl) (pt_cmpR op_ne (pe_slice sl_str (pv 0) (po_some (pv 1)) (po_some (pe_op op_add (pv 1) pe_int))) pe_str (nomark _))
 (pss_cons (ps_set (i := 3) scString.nd rfl (Or.inl rfl) (pe_slice sl_str (pv 0) (po_some (pv 1)) (po_some (pe_op op_add (pv 1) pe_int))))
 (pss_cons (ps_if (pt_cmpR op_eq (pv 3) pe_str (nomark _))
 (pss_cons (ps_aug (i := 1) scString.nd rfl (.inl rfl) pe_int ip_add)
 (pss_cons (ps_set (i := 3) scString.nd rfl (Or.inl rfl) (V7.pe_kget1 (pe_glob (v := .ref (He.ga K "TILDES")) (by rfl) (T.glo 23 rfl) rfl) (pe_slice sl_str (pv 0) (po_some (pv 1)) (po_some (pe_op op_add (pv 1) pe_int))) ⟨by rfl, by rfl, by rfl, by rfl⟩))
 (pss_one (ps_if (pt_cmpR op_isN (pv 3) pe_non (nomark _))
 (pss_one (ps_raise rfl (takes_of rfl rfl rfl rfl) (pmk_fld (fldBT T) (hr.mono (by decide)) (pa_cons (pv 1) pa_nil))))
 pss_nil))))
 (pss_one (ps_if (PW.pt (pw_or (pt_cmpR op_eq (pv 3) pe_str (nomark _)) (pw_or (pt_not (pt_val (pe_m0 PySem.F.slot_str_isascii PySem.F.type_str_isascii mt_isascii (pv 3)))) (pw_or1 (pt_not (pt_val (pe_m0 PySem.F.slot_str_isprintable PySem.F.type_str_isprintable mt_isprintable (pv 3))))))))
 (pss_one (ps_raise rfl (takes_of rfl rfl rfl rfl) (pmk_fld (fldBT T) (hr.mono (by decide)) (pa_cons (pv 1) pa_nil))))
 pss_nil)))
 (pss_cons (ps_expr (pe_bm PySem.F.plainAttrs_list PySem.F.slot_list_append PySem.F.type_list_append mt_append (pv 2) (pa_cons (pv 3) pa_nil)))
 (pss_one (ps_aug (i := 1) scString.nd rfl (.inl rfl) pe_int ip_add))))))
 (pss_one (ps_ret (pe_tup (pa_cons (pe_join pe_str (pv 2)) (pa_cons (pe_op op_add (pv 1) pe_int) pa_nil)))))))), ?_⟩
    obtain ⟨x, i, c, l, rfl, xl, dr, hE, hQ⟩ := h
    have d1 := drop_cons dr
    have ll : l.length ≤ most := by
      have z := congrArg List.length dr
      rw [List.length_drop, List.length_cons] at z
      have : x.cps.toList.length = x.length := by simp [Str.length]
      omega
    have xl2 : x.length ≤ sizeLine := Nat.le_trans xl (by decide)
    obtain ⟨ks, D, hl⟩ := T.dTILDES.ex
    refine ⟨(by show 0 ≤ sizeLine; decide), fun r nr _ => ?_⟩
    have s1 := same_new (o := HO.lst []) nr
    have er1 : upd H r (HO.lst []) r = some (.lst []) := upd_same
    generalize upd H r (HO.lst []) = H1 at s1 er1 ⊢
    refine ⟨_, rfl, _, _, rfl, rfl, ?_⟩
    refine ⟨fun m σ H' => ∃ (acc l' : List Nat) (i' : Nat), (∃ o, σ = [some (.str x), some (.int ((i' : Nat) : Int)), some (.ref r), o]) ∧ Same H H' ∧ H' r = some (.lst (acc.map fun c => V.str ⟨#[c]⟩)) ∧ x.cps.toList.drop i' = l' ∧ acc.length + l'.length ≤ l.length ∧ strR false [] l (i + 1) = strR false acc l' i' ∧ m = l'.length, ⟨_, [], l, i + 1, ⟨_, rfl⟩, s1, er1, d1.1, by simp, rfl, rfl⟩, ?_⟩
    rintro m σ H2 ⟨acc, l', i', ⟨o, rfl⟩, s2, er2, dl, al, es, rfl⟩
    refine sgn_go rfl rfl xl dl ⟨rfl, _, rfl, ?_⟩
    have accl : acc.length < sizeLine := Nat.lt_of_le_of_lt (Nat.le_trans (Nat.le_trans (Nat.le_add_right _ _) al) ll) (by decide)
    have step : ∀ (e : Nat) (l3 : List Nat) (i3 : Nat) (o' : Option V), x.cps.toList.drop (i3 + 1) = l3 → acc.length + 1 + l3.length ≤ l.length → l3.length < l'.length → strR false [] l (i + 1) = strR false (acc ++ [e]) l3 (i3 + 1) →
        ∃ m', m' < l'.length ∧ ∃ (acc2 l2 : List Nat) (i2 : Nat), (∃ o, [some (.str x), some (.int ((i3 + 1 : Nat) : Int)), some (.ref r), o'] = [some (.str x), some (.int ((i2 : Nat) : Int)), some (.ref r), o]) ∧ Same H (upd H2 r (.lst ((acc.map fun c => V.str ⟨#[c]⟩) ++ [.str ⟨#[e]⟩]))) ∧ upd H2 r (.lst ((acc.map fun c => V.str ⟨#[c]⟩) ++ [.str ⟨#[e]⟩])) r = some (.lst (acc2.map fun c => V.str ⟨#[c]⟩)) ∧ x.cps.toList.drop i2 = l2 ∧ acc2.length + l2.length ≤ l.length ∧ strR false [] l (i + 1) = strR false acc2 l2 i2 ∧ m' = l2.length :=
      fun e l3 i3 o' h1 h2 h3 h4 => ⟨_, h3, acc ++ [e], l3, i3 + 1, ⟨_, rfl⟩, fun b ob eb => by rw [upd_ne (ne_of_none eb nr)]; exact s2 b ob eb, by rw [upd_same, List.map_append]; rfl, h1, by rw [List.length_append, List.length_cons, List.length_nil]; omega, h4, rfl⟩
    cases l' with
    | nil =>
      rw [show (⟨(List.take 1 ([] : List Nat)).toArray⟩ : Str) = ⟨#[]⟩ from rfl, show (Str.ofString "'") = ⟨#[39]⟩ from rfl, str_nil]
      refine iteT ⟨fun σ' H' => ∃ m', m' < ([] : List Nat).length ∧ _, fun _ _ h => h, ?_⟩
      refine sgn_go rfl rfl xl dl ⟨_, rfl, rfl, false, rfl, iteF ⟨_, rfl, rfl, true, rfl, iteT (iteT ?_)⟩⟩
      rw [es] at hE
      exact raise_go (v := .int ((i' : Nat) : Int)) (fun Q q => ⟨_, rfl, q⟩) fun dd H' nd sm hd => hE dd H' (fresh_up s2 nd) (s2.trans sm) hd
    | cons c' l2 =>
      have d2 := drop_cons dl
      rw [show (⟨(List.take 1 (c' :: l2)).toArray⟩ : Str) = ⟨#[c']⟩ from rfl, show (Str.ofString "'") = ⟨#[39]⟩ from rfl, str_ne]
      rw [List.length_cons] at al
      by_cases q39 : c' = 39
      · rw [decide_eq_true q39]
        rw [strR, if_pos q39] at es
        rw [es] at hQ
        refine iteF ⟨⟨_, rfl⟩, _, rfl, _, r, acc.map fun c => (⟨#[c]⟩ : Str), rfl, rfl, .inl (sq_of (by rw [er2, List.map_map]; rfl)), ?_, _, rfl, _, _, rfl, rfl, (by show 2 ≤ sizeLine; decide), fun p np => ?_⟩
        · rw [chs_len, chs_sgn]
          show acc.length + _ * 0 ≤ 16777216
          have : most ≤ 16777216 := by decide
          omega
        · rw [join_chs, chs_sgn]
          exact hQ _ p _ (s2.trans (same_new np)) upd_same (.str _)
      rw [decide_eq_false q39]
      rw [strR, if_neg q39] at es
      refine iteT ⟨fun σ' H' => ∃ m', m' < (c' :: l2).length ∧ _, fun _ _ h => h, ?_⟩
      refine sgn_go rfl rfl xl dl ⟨_, rfl, rfl, ?_⟩
      rw [show (⟨(List.take 1 (c' :: l2)).toArray⟩ : Str) = ⟨#[c']⟩ from rfl, show (Str.ofString "~") = ⟨#[126]⟩ from rfl, str_ne]
      by_cases q126 : c' = 126
      · rw [decide_eq_true q126]
        rw [if_pos q126] at es
        refine ⟨_, rfl, iteT ⟨_, rfl, _, _, rfl, rfl, _, ks, rfl, D, ?_⟩⟩
        refine sgn_go (i := i' + 1) rfl rfl xl d2.1 ⟨_, rfl, ?_⟩
        cases l2 with
        | nil =>
          rw [strR] at es
          rw [es] at hE
          refine .inl ⟨(hl _).1 (by decide +kernel), _, rfl, rfl, true, rfl, iteT ?_⟩
          exact raise_go (v := .int ((i' + 1 : Nat) : Int)) (fun Q q => ⟨_, rfl, q⟩) fun dd H' nd sm hd => hE dd H' (fresh_up s2 nd) (s2.trans sm) hd
        | cons e l3 =>
          have d3 := drop_cons d2.1
          have lk := look_tilde e
          rw [strR] at es
          rw [show (⟨(List.take 1 (e :: l3)).toArray⟩ : Str) = ⟨#[e]⟩ from rfl]
          cases te : tilde e with
          | none =>
            rw [te] at lk es
            rw [es] at hE
            refine .inl ⟨(hl _).1 lk, _, rfl, rfl, true, rfl, iteT ?_⟩
            exact raise_go (v := .int ((i' + 1 : Nat) : Int)) (fun Q q => ⟨_, rfl, q⟩) fun dd H' nd sm hd => hE dd H' (fresh_up s2 nd) (s2.trans sm) hd
          | some y =>
            rw [te] at lk es
            obtain ⟨u, gu, ru⟩ := (hl _).2 _ lk
            refine .inr ⟨u, .str ⟨#[y]⟩, gu, ru, _, rfl, rfl, false, rfl, iteF ?_⟩
            simp only [List.length_cons] at al
            exact ⟨_, rfl, .inl ⟨rfl, _, sq_of er2⟩, _, rfl, r, _, _, rfl, rfl, er2, by rw [List.length_map]; exact accl, _, rfl, _, _, rfl, rfl, step y l3 (i' + 1) _ d3.1 (by omega) (by simp only [List.length_cons]; omega) es⟩
      · rw [decide_eq_false q126]
        rw [if_neg q126] at es
        refine ⟨_, rfl, iteF ?_⟩
        have pr : (Txt.isascii ⟨#[c']⟩ && Txt.isprintable ⟨#[c']⟩) = V6.prC c' := by
          rw [← V6.asc_c]
          simp [Txt.isascii, Txt.isprintable]
        have bad : V6.prC c' = false → tMkO (He.ga K "BadThing") (spIni K (He.ga K "BadThing") "place") [] (tCons (tVar 1) tNil) [some (.str x), some (.int ((i' : Nat) : Int)), some (.ref r), some (.str ⟨#[c']⟩)] H2 E := fun z => by
          rw [if_neg (by rw [z]; decide)] at es
          rw [es] at hE
          exact raise_go (v := .int ((i' : Nat) : Int)) (fun Q q => ⟨_, rfl, q⟩) fun dd H' nd sm hd => hE dd H' (fresh_up s2 nd) (s2.trans sm) hd
        refine ⟨_, rfl, rfl, false, congrArg V.bl (decide_eq_false fun z => by
          have y := congrArg (fun q : Str => q.cps.toList) (V.str.inj z)
          exact absurd y (List.cons_ne_nil _ _)), iteF ⟨_, rfl, ⟨_, rfl⟩, _, rfl, rfl, True.intro, _, rfl, ?_⟩⟩
        cases ia : Txt.isascii ⟨#[c']⟩ with
        | false => exact iteT (iteT (bad (by rw [← pr, ia]; rfl)))
        | true =>
          refine iteF ⟨_, rfl, ⟨_, rfl⟩, _, rfl, rfl, True.intro, _, rfl, ?_⟩
          cases ip : Txt.isprintable ⟨#[c']⟩ with
          | false => exact iteT (bad (by rw [← pr, ia, ip]; rfl))
          | true =>
            rw [if_pos (by rw [← pr, ia, ip]; rfl)] at es
            exact iteF ⟨_, rfl, .inl ⟨rfl, _, sq_of er2⟩, _, rfl, r, _, _, rfl, rfl, er2, by rw [List.length_map]; exact accl, _, rfl, _, _, rfl, rfl, step c' l2 i' _ d2.1 (by omega) (by simp only [List.length_cons]; omega) es⟩
theorem ok_rleaf (T : Tx K w mg) : Has P w K mg base (L2.CX P w) 4 "read_leaf" ["text", "at"] spLeaf := by
  obtain ⟨fd, F⟩ := T.c.def_ 14 (d := d_read_leaf) rfl
  have Hf := ok_figs (P := P) (w := w) (base := base) T
  have Hw := ok_rword (P := P) (w := w) (base := base) T
  have Hs := ok_rstring (P := P) (w := w) (base := base) T
  refine ⟨fd, F.ok scLeaf (fun vs H Q E h => ?_) (fun cdv A outer s H vs Q E hr h => ?_), FunD.bindsN F fun _ _ _ _ _ _ us hl => match us, hl with | [_, _], _ => rfl, F.kp, (T.glo 28 rfl)⟩
  · obtain ⟨x, i, rfl, _⟩ := h
    rfl
  · refine ⟨_, (pss_cons (ps_set (i := 2) scLeaf.nd rfl (Or.inl rfl) (pe_slice sl_str (pv 0) (po_some (pv 1)) (po_some (pe_op op_add (pv 1) pe_int))))
 (pss_cons (ps_if (pt_cmpR op_eq (pv 2) pe_str (nomark _))
 (pss_one (ps_ret (pe_has Hs (hr.mono (by decide)) (passes_call (takes_of rfl rfl rfl rfl) (fun _ _ _ _ h => h)) (pa_cons (pv 0) (pa_cons (pv 1) pa_nil)))))
 pss_nil)
 (pss_cons (ps_if (pt_cmpR V5.op_kIn (pv 2) (pe_glob (v := .ref (He.ga K "WORDS")) (by rfl) (T.glo 24 rfl) rfl) (by rfl))
 (pss_one (ps_ret (pe_has Hw (hr.mono (by decide)) (passes_call (takes_of rfl rfl rfl rfl) (fun _ _ _ _ h => h)) (pa_cons (pv 0) (pa_cons (pv 1) pa_nil)))))
 pss_nil)
 (pss_cons (ps_if (pt_cmpR op_in_seq (pv 2) (pe_glob (v := .ref (He.ga K "FIGURES")) (by rfl) (T.glo 22 rfl) rfl) (by rfl))
 (pss_one (ps_ret (pe_has Hf (hr.mono (by decide)) pass0 (pa_cons (pv 0) (pa_cons (pv 1) pa_nil)))))
 pss_nil)
 (pss_cons (ps_if (pt_cmpR op_ne (pv 2) pe_str (nomark _))
 (pss_one (ps_raise rfl (takes_of rfl rfl rfl rfl) (pmk_fld (fldBT T) (hr.mono (by decide)) (pa_cons (pv 1) pa_nil))))
 pss_nil)
 (pss_cons (ps_set (i := 3) scLeaf.nd rfl (Or.inl rfl) (pe_slice sl_str (pv 0) (po_some (pe_op op_add (pv 1) pe_int)) (po_some (pe_op op_add (pv 1) pe_int))))
 (pss_cons (ps_if (PW.pt (pw_or (pt_cmpR op_eq (pv 3) pe_str (nomark _)) (pw_or1 (pt_cmpR op_notIn_seq (pv 3) (pe_glob (v := .ref (He.ga K "FIGURES")) (by rfl) (T.glo 22 rfl) rfl) (by rfl)))))
 (pss_one (ps_ret (pe_tup (pa_cons pe_non (pa_cons (pe_op op_add (pv 1) pe_int) pa_nil)))))
 pss_nil)
 (pss_cons (ps_asg (pe_has Hf (hr.mono (by decide)) pass0 (pa_cons (pv 0) (pa_cons (pe_op op_add (pv 1) pe_int) pa_nil))) (pg_tup (by rfl) (pgs_cons (pg_name (i := 4) scLeaf.nd rfl (Or.inl rfl)) (pgs_cons (pg_name (i := 5) scLeaf.nd rfl (Or.inl rfl)) pgs_nil))))
 (pss_one (ps_ret (pe_tup (pa_cons (pe_un un_neg (pv 4)) (pa_cons (pv 5) pa_nil))))))))))))), ?_⟩
    obtain ⟨x, i, rfl, xl, hE, hQ⟩ := h
    have xl2 : x.length ≤ sizeLine := Nat.le_trans xl (by decide)
    obtain ⟨ks, D, hl⟩ := T.dWORDS.ex
    refine sgn_go rfl rfl xl rfl ?_
    have bad : leafR (x.cps.toList.drop i) i = .bad i → ∀ o, tMkO (He.ga K "BadThing") (spIni K (He.ga K "BadThing") "place") [] (tCons (tVar 1) tNil) [some (.str x), some (.int ((i : Nat) : Int)), o, none, none, none] H E := fun z o => by
      rw [z] at hE
      exact raise_go (v := .int ((i : Nat) : Int)) (fun Q q => ⟨_, rfl, q⟩) fun dd H' nd sm hd => hE dd H' nd sm hd
    cases e : x.cps.toList.drop i with
    | nil =>
      rw [e] at bad
      refine ⟨_, rfl, rfl, false, rfl, iteF ?_⟩
      refine ⟨_, rfl, _, ks, _, rfl, D, rfl, false, by rw [(hl _).1 (by decide +kernel)]; rfl, iteF ?_⟩
      refine ⟨_, rfl, _, tens, rfl, .inr (T.sFIGURES _), rfl, by decide +kernel, false, rfl, iteF ?_⟩
      exact ⟨_, rfl, rfl, true, rfl, iteT (bad rfl _)⟩
    | cons c l =>
      have d1 := drop_cons e
      rw [e] at hE hQ bad
      rw [show (⟨(List.take 1 (c :: l)).toArray⟩ : Str) = ⟨#[c]⟩ from rfl]
      refine ⟨_, rfl, rfl, _, rfl, ?_⟩
      rw [show (Str.ofString "'") = ⟨#[39]⟩ from rfl, str_ne]
      by_cases q39 : c = 39
      · rw [decide_eq_true q39]
        rw [leafR, if_pos q39] at hE hQ
        exact iteT ⟨_, rfl, _, rfl, x, i, c, l, rfl, xl, e, hE, hQ⟩
      rw [decide_eq_false q39]
      rw [leafR, if_neg q39] at hE hQ bad
      refine iteF ⟨_, rfl, _, ks, _, rfl, D, rfl, _, rfl, ?_⟩
      by_cases q121 : c = 121
      · obtain ⟨u, gu, _⟩ := (hl ⟨#[c]⟩).2 (.pr "yes" true) (by rw [q121]; decide +kernel)
        rw [gu]
        rw [if_pos q121] at hE hQ
        exact iteT ⟨_, rfl, _, rfl, x, i, c, l, _, _, rfl, xl, e, .inl ⟨q121, rfl, rfl⟩, hE, hQ⟩
      rw [if_neg q121] at hE hQ bad
      by_cases q110 : c = 110
      · obtain ⟨u, gu, _⟩ := (hl ⟨#[c]⟩).2 (.pr "no" false) (by rw [q110]; decide +kernel)
        rw [gu]
        rw [if_pos q110] at hE hQ
        exact iteT ⟨_, rfl, _, rfl, x, i, c, l, _, _, rfl, xl, e, .inr ⟨q110, rfl, rfl⟩, hE, hQ⟩
      rw [if_neg q110] at hE hQ bad
      rw [(hl ⟨#[c]⟩).1 (look_words q121 q110)]
      refine iteF ⟨_, rfl, _, tens, rfl, .inr (T.sFIGURES _), rfl, by decide +kernel, _, rfl, ?_⟩
      rw [show (if false = true then !inV (V.str ⟨#[c]⟩) tens else inV (V.str ⟨#[c]⟩) tens) = inV (V.str ⟨((c :: l).take 1).toArray⟩) tens from rfl, in_figs]
      show if figB c = true then _ else _
      by_cases qf : figB c = true
      · rw [if_pos qf]
        rw [if_pos qf] at hE hQ
        exact ⟨_, rfl, _, rfl, x, i, c, l, rfl, xl, e, qf, fun H' p s ep => hQ H' p _ s ep (.int _)⟩
      rw [if_neg qf]
      rw [if_neg qf] at hE hQ bad
      refine ⟨_, rfl, rfl, _, rfl, ?_⟩
      rw [show (Str.ofString "-") = ⟨#[45]⟩ from rfl, str_ne]
      by_cases q45 : c = 45
      case neg =>
        rw [decide_eq_false q45]
        rw [if_neg q45] at bad
        exact iteT (bad rfl _)
      rw [decide_eq_true q45]
      rw [if_pos q45] at hE hQ
      refine iteF ?_
      have cut : cutS x (some ((i : Nat) : Int) |>.map (· + 1)) (some (((i : Nat) : Int) + 2)) = ⟨(l.take 1).toArray⟩ := by
        have z := cut_mid x (i + 1) (i + 2) (by omega)
        rw [d1.1, show i + 2 - (i + 1) = 1 by omega] at z
        exact z
      refine ⟨_, rfl, _, rfl, _, _, rfl, rfl, _, rfl, _, rfl, _, _, rfl, rfl, _, rfl, x, rfl, xl2, ?_⟩
      show tSeq _ _ _ [_, _, _, some (V.str (cutS x (some ((i : Nat) : Int) |>.map (· + 1)) (some (((i : Nat) : Int) + 2)))), _, _] _
      rw [cut]
      have none_ : (∀ H' p, Same H H' → H' p = some (.tup [.non, .int ((i + 1 : Nat) : Int)]) → Q (.ref p) H') → tRet (tTup (tCons (tC .non) (tCons (tOp (rI0 fun i j => .int (i + j)) (tVar 1) (tC (.int 1))) tNil))) { nx := fun x H' => Q V.non H', rt := Q } [some (.str x), some (.int ((i : Nat) : Int)), some (.str ⟨#[c]⟩), some (.str ⟨(l.take 1).toArray⟩), none, none] H := fun q =>
        ⟨_, rfl, _, _, rfl, rfl, (by show 2 ≤ sizeLine; decide), fun p np => q _ p (same_new np) upd_same⟩
      refine ⟨_, rfl, rfl, _, rfl, ?_⟩
      cases l with
      | nil =>
        refine iteF ⟨_, rfl, _, tens, rfl, .inr (T.sFIGURES _), rfl, by decide +kernel, true, rfl, iteT (none_ fun H' p s ep => hQ H' p _ s ep .non)⟩
      | cons f l2 =>
        rw [show (⟨(List.take 1 (f :: l2)).toArray⟩ : Str) = ⟨#[f]⟩ from rfl, show (Str.ofString "0") = ⟨#[48]⟩ from rfl, str_ne]
        by_cases q48 : f = 48
        · rw [decide_eq_true q48]
          rw [minusR, if_neg (fun z => z.2 q48)] at hQ
          exact iteT (iteT (none_ fun H' p s ep => hQ H' p _ s ep .non))
        rw [decide_eq_false q48]
        refine iteF ⟨_, rfl, _, tens, rfl, .inr (T.sFIGURES _), rfl, by decide +kernel, _, rfl, ?_⟩
        rw [show (if true = true then !inV (V.str ⟨#[f]⟩) tens else inV (V.str ⟨#[f]⟩) tens) = !inV (V.str ⟨((f :: l2).take 1).toArray⟩) tens from rfl, in_figs]
        show if (!figB f) = true then _ else _
        cases qg : figB f with
        | false =>
          rw [minusR, if_neg (fun z => by rw [qg] at z; cases z.1)] at hQ
          exact iteT (none_ fun H' p s ep => hQ H' p _ s ep .non)
        | true =>
          rw [minusR, if_pos ⟨qg, q48⟩] at hQ
          refine iteF ⟨_, rfl, _, rfl, _, _, rfl, rfl, x, i + 1, f, l2, rfl, xl, d1.1, qg, fun H1 p s1 ep => ?_⟩
          refine ⟨p, _, rfl, st_of ep, rfl, _, _, rfl, _, _, rfl, rfl, ?_⟩
          exact ⟨_, rfl, _, rfl, _, rfl, (by show 2 ≤ sizeLine; decide), fun p2 np => hQ _ p2 _ (s1.trans (same_new np)) upd_same (.int _)⟩
end
end K53

set_option maxHeartbeats 4000000
/-! V8b: tuples read into being: open lists, innermost first, and what lies in them. -/
namespace V8
open PySem PySem.Spec PyProof.Rows L2 V1 V2 V3 V5 V7
mutual
def tupD : PyData → Bool
  | .none | .bool _ | .int _ | .str _ => true
  | .tuple ds => tupDs ds
  | _ => false
def tupDs : List PyData → Bool
  | [] => true
  | d :: ds => tupD d && tupDs ds
end
theorem tupDs_app : ∀ {ds es : List PyData}, tupDs ds = true → tupDs es = true → tupDs (ds ++ es) = true
  | [], _, _, h => h
  | d :: ds, es, h, k => by
    simp only [tupDs, Bool.and_eq_true] at h
    show (tupD d && tupDs (ds ++ es)) = true
    rw [h.1, tupDs_app h.2 k]
    rfl
theorem tupDs_one {d : PyData} (h : tupD d = true) : tupDs [d] = true := by
  simp [tupDs, h]
/-- tuples stay -/
def TupS (H H' : Hp) : Prop := ∀ b xs, H b = some (.tup xs) → H' b = some (.tup xs)
theorem TupS.of {H H' : Hp} (s : Same H H') : TupS H H' := fun b xs e => s b _ e
theorem TupS.lst {H : Hp} {a : Addr} {xs ys : List V} (e : H a = some (.lst xs)) : TupS H (upd H a (.lst ys)) := fun b zs eb => by
  rw [upd_ne (fun z => by rw [z, e] at eb; cases eb)]
  exact eb
mutual
theorem tup_same [CurK] {H H' : Hp} (s : TupS H H') : ∀ (d : PyData) (v : V), tupD d = true → Dx H v d → Dx H' v d
  | .none, _, _, h => by cases h; exact .non
  | .bool b, _, _, h => by cases h; exact .bl b
  | .int i, _, _, h => by cases h; exact .int i
  | .str x, _, _, h => by cases h; exact .str x
  | .list ds, _, t, h => by simp [tupD] at t
  | .tuple ds, _, t, h => by
    cases h with
    | tup at_ rest => exact .tup (s _ _ at_) (tups_same s ds _ (by simpa [tupD] using t) rest)
  | .dict ds, _, t, h => by simp [tupD] at t
theorem tups_same [CurK] {H H' : Hp} (s : TupS H H') : ∀ (ds : List PyData) (vs : List V), tupDs ds = true → DxAll H vs ds → DxAll H' vs ds
  | [], _, _, h => by cases h; exact .nil
  | d :: ds, _, t, h => by
    cases h with
    | cons one more =>
      have z : tupD d = true ∧ tupDs ds = true := by simpa [tupDs] using t
      exact .cons (tup_same s d _ z.1 one) (tups_same s ds _ z.2 more)
end
section
variable [CurK]
inductive Lv (H0 H : Hp) : List Addr → List (List PyData) → Prop
  | nil : Lv H0 H [] []
  | cons {q : Addr} {qs : List Addr} {vs : List V} {ds : List PyData} {st : List (List PyData)} (new : H0 q = none) (nq : q ∉ qs) (at_ : H q = some (.lst vs)) (dx : DxAll H vs ds) (td : tupDs ds = true) (more : Lv H0 H qs st) : Lv H0 H (q :: qs) (ds :: st)
structure Opn (H0 H : Hp) (o : Addr) (qs : List Addr) (st : List (List PyData)) : Prop where
  eo : H o = some (.lst (qs.reverse.map V.ref))
  no : H0 o = none
  sm : Same H0 H
  on : o ∉ qs
  lv : Lv H0 H qs st
section
variable {H0 H H' : Hp} {o q : Addr} {qs : List Addr} {st : List (List PyData)} {ds : List PyData}
theorem Lv.len (h : Lv H0 H qs st) : qs.length = st.length := by
  induction h with
  | nil => rfl
  | cons _ _ _ _ _ _ ih => rw [List.length_cons, List.length_cons, ih]
theorem Lv.at_ (h : Lv H0 H qs st) : ∀ a ∈ qs, ∃ vs, H a = some (.lst vs) := by
  induction h with
  | nil => exact fun _ h => absurd h List.not_mem_nil
  | cons _ _ at_ _ _ _ ih =>
    intro a ha
    rcases List.mem_cons.mp ha with rfl | ha
    · exact ⟨_, at_⟩
    · exact ih a ha
theorem Lv.new_ (h : Lv H0 H qs st) : ∀ a ∈ qs, H0 a = none := by
  induction h with
  | nil => exact fun _ h => absurd h List.not_mem_nil
  | cons n _ _ _ _ _ ih =>
    intro a ha
    rcases List.mem_cons.mp ha with rfl | ha
    · exact n
    · exact ih a ha
/-- what keeps the tuples and these lists keeps all -/
theorem Lv.keep (h : Lv H0 H qs st) (t : TupS H H') (k : ∀ a ∈ qs, H' a = H a) : Lv H0 H' qs st := by
  induction h with
  | nil => exact .nil
  | cons n nq at_ dx td more ih => exact .cons n nq (by rw [k _ List.mem_cons_self]; exact at_) (tups_same t _ _ td dx) td (ih fun a ha => k a (List.mem_cons_of_mem _ ha))
theorem Opn.new (h : Opn H0 H o qs st) (s : Same H H') : Opn H0 H' o qs st := by
  refine ⟨s _ _ h.eo, h.no, h.sm.trans s, h.on, h.lv.keep (.of s) fun a ha => ?_⟩
  obtain ⟨vs, e⟩ := h.lv.at_ a ha
  rw [e, s _ _ e]
theorem Opn.start (e : H o = some (.lst [])) (n : H0 o = none) (s : Same H0 H) : Opn H0 H o [] [] := ⟨e, n, s, List.not_mem_nil, .nil⟩
/-- a new list is opened -/
theorem Opn.push (h : Opn H0 H o qs st) (nq : H q = none) : Opn H0 (upd (upd H q (.lst [])) o (.lst (qs.reverse.map V.ref ++ [.ref q]))) o (q :: qs) ([] :: st) := by
  have h1 := h.new (same_new (o := HO.lst []) nq)
  have qo : q ≠ o := fun z => by rw [z, h.eo] at nq; cases nq
  have qq : q ∉ qs := fun m => by
    obtain ⟨vs, e⟩ := h.lv.at_ q m
    rw [e] at nq
    cases nq
  refine ⟨by rw [upd_same, List.reverse_cons, List.map_append]; rfl, h.no, fun b ob eb => by rw [upd_ne (ne_of_none eb h.no)]; exact h1.sm b ob eb, fun m => ?_, .cons ?_ qq (by rw [upd_ne qo]; exact upd_same) .nil rfl ?_⟩
  · rcases List.mem_cons.mp m with rfl | m
    · exact qo rfl
    · exact h.on m
  · cases e : H0 q with
    | none => rfl
    | some ob => rw [h.sm q ob e] at nq; cases nq
  · refine h1.lv.keep (.lst h1.eo) fun a ha => ?_
    rw [upd_ne (fun z => by rw [z] at ha; exact h.on ha)]
theorem Opn.add (h : Opn H0 H o (q :: qs) (ds :: st)) {v : V} {d : PyData} (dv : Dx H v d) (t : tupD d = true) : ∃ vs, H q = some (.lst vs) ∧ vs.length = ds.length ∧ Opn H0 (upd H q (.lst (vs ++ [v]))) o (q :: qs) ((ds ++ [d]) :: st) := by
  have l := h.lv
  cases l with
  | @cons _ _ vs _ _ new nq at_ dx td more =>
    have qo : o ≠ q := fun z => h.on (z ▸ List.mem_cons_self)
    have ts : TupS H (upd H q (.lst (vs ++ [v]))) := .lst at_
    refine ⟨vs, at_, dxAll_len dx, by rw [upd_ne qo]; exact h.eo, h.no, fun b ob eb => by rw [upd_ne (ne_of_none eb new)]; exact h.sm b ob eb, h.on, .cons new nq upd_same (DxAll.app (tups_same ts _ _ td dx) (.cons (tup_same ts _ _ t dv) .nil)) (tupDs_app td (tupDs_one t)) ?_⟩
    exact more.keep ts fun a ha => by rw [upd_ne (fun z => by rw [z] at ha; exact nq ha)]
theorem Opn.pop (h : Opn H0 H o (q :: qs) (ds :: st)) : ∃ vs, Opn H0 (upd H o (.lst (qs.reverse.map V.ref))) o qs st ∧ upd H o (.lst (qs.reverse.map V.ref)) q = some (.lst vs) ∧ DxAll (upd H o (.lst (qs.reverse.map V.ref))) vs ds ∧ tupDs ds = true := by
  have l := h.lv
  cases l with
  | @cons _ _ vs _ _ new nq at_ dx td more =>
    have qo : q ≠ o := fun z => h.on (z ▸ List.mem_cons_self)
    have ts : TupS H (upd H o (.lst (qs.reverse.map V.ref))) := .lst h.eo
    refine ⟨vs, ⟨upd_same, h.no, fun b ob eb => by rw [upd_ne (ne_of_none eb h.no)]; exact h.sm b ob eb, fun m => h.on (List.mem_cons_of_mem _ m), more.keep ts fun a ha => by rw [upd_ne (fun z => by rw [z] at ha; exact h.on (List.mem_cons_of_mem _ ha))]⟩, by rw [upd_ne qo]; exact at_, tups_same ts _ _ td dx, td⟩
end
end
theorem wordR_drop {x : List Nat} : ∀ (ws l : List Nat) (i : Nat) (d d' : PyData) (l' : List Nat) (i' : Nat), wordR ws l i d = .ok d' l' i' → x.drop i = l → x.drop i' = l'
  | [], l, i, d, d', l', i', h, e => by
    rw [wordR] at h
    cases h
    exact e
  | w :: ws, [], i, d, d', l', i', h, e => by cases h
  | w :: ws, c :: l, i, d, d', l', i', h, e => by
    rw [wordR] at h
    split at h
    · exact wordR_drop ws l (i + 1) d d' l' i' h (drop_cons e).1
    · cases h
theorem strR_drop {x : List Nat} : ∀ (l : List Nat) (b : Bool) (acc : List Nat) (i : Nat) (d' : PyData) (l' : List Nat) (i' : Nat), strR b acc l i = .ok d' l' i' → x.drop i = l → x.drop i' = l'
  | [], b, acc, i, d', l', i', h, e => by cases b <;> cases h
  | c :: l, true, acc, i, d', l', i', h, e => by
    rw [strR] at h
    split at h
    · exact strR_drop l _ _ _ _ _ _ h (drop_cons e).1
    · cases h
  | c :: l, false, acc, i, d', l', i', h, e => by
    rw [strR] at h
    split at h
    · cases h
      exact (drop_cons e).1
    · split at h
      · exact strR_drop l _ _ _ _ _ _ h (drop_cons e).1
      · split at h
        · exact strR_drop l _ _ _ _ _ _ h (drop_cons e).1
        · cases h
theorem numOf_drop {x : List Nat} {l : List Nat} {i : Nat} {b : Bool} {d : PyData} {l' : List Nat} {i' : Nat} (h : numOf l i b = .ok d l' i') (e : x.drop i = l) : x.drop i' = l' := by
  unfold numOf at h
  cases h
  rw [← e, List.drop_drop]
theorem leafR_drop {x : List Nat} {l : List Nat} {i : Nat} {d : PyData} {l' : List Nat} {i' : Nat} (h : leafR l i = .ok d l' i') (e : x.drop i = l) : x.drop i' = l' := by
  cases l with
  | nil => cases h
  | cons c l =>
    have d1 := drop_cons e
    rw [leafR] at h
    split at h
    · exact strR_drop _ _ _ _ _ _ _ h d1.1
    · split at h
      · exact wordR_drop _ _ _ _ _ _ _ h e
      · split at h
        · exact wordR_drop _ _ _ _ _ _ _ h e
        · split at h
          · exact numOf_drop h e
          · split at h
            · cases l with
              | nil =>
                cases h
                exact d1.1
              | cons f l2 =>
                rw [minusR] at h
                split at h
                · exact numOf_drop h d1.1
                · cases h
                  exact d1.1
            · cases h
/-! how the reading goes on -/
def Fin (r : TR) : TR ⊕ Cf → Prop
  | .inl r' => r' = r
  | .inr c => GoR c r
theorem GoR.fin {c : Cf} {r : TR} (h : GoR c r) : Fin r (stepR c) := by
  cases h with
  | done h => rw [h]; rfl
  | next h m => rw [h]; exact m
/-- no open list is longer than what was read -/
def Bd (i : Nat) (st : List (List PyData)) : Prop := ∀ ds ∈ st, ds.length ≤ i
theorem Bd.put {i j : Nat} {st : List (List PyData)} (h : Bd i st) (l : i + 1 ≤ j) (d : PyData) : Bd j (put d st) := by
  cases st with
  | nil => exact fun _ m => absurd m List.not_mem_nil
  | cons es st =>
    intro ds m
    rcases List.mem_cons.mp m with rfl | m
    · have := h es List.mem_cons_self
      rw [List.length_append, List.length_cons, List.length_nil]
      omega
    · have := h ds (List.mem_cons_of_mem _ m)
      omega
theorem Bd.mono {i j : Nat} {st : List (List PyData)} (h : Bd i st) (l : i ≤ j) : Bd j st := fun ds m => Nat.le_trans (h ds m) l
theorem Bd.tail {i : Nat} {ds : List PyData} {st : List (List PyData)} (h : Bd i (ds :: st)) : Bd i st := fun es m => h es (List.mem_cons_of_mem _ m)
theorem Bd.nil {i : Nat} {st : List (List PyData)} (h : Bd i st) : Bd i ([] :: st) := fun ds m => by
  rcases List.mem_cons.mp m with rfl | m
  · exact Nat.zero_le _
  · exact h ds m
end V8

set_option maxHeartbeats 4000000
namespace K53
open PySem PySem.Spec PyProof.Rows L2 V1 V2 V3 V7 V8 CwR
open Evl (pss_cut tCut sq_of st_of)
section
variable [CurK]
def trE (H : Hp) (E : XK) : TR → Prop
  | .bad p => ∀ dd H', H dd = none → Same H H' → H' dd = some (.xd [("place", .int ((p : Nat) : Int))]) → E (.ref (He.ga K "BadThing")) (some dd) H'
  | .ok _ => True
def trQ (H : Hp) (Q : VK) : TR → Prop
  | .ok d => ∀ H' v, Same H H' → Dx H' v d → tupD d = true → Q v H'
  | .bad _ => True
def spRead : Sp := fun vs H Q E => ∃ v d, vs = [v] ∧ Dx H v d ∧ (isStr d = false → ∀ dd H', H dd = none → Same H H' → H' dd = some (.xd [("place", .int (-1))]) → E (.ref (He.ga K "BadThing")) (some dd) H') ∧
  ∀ x : Str, d = .str x → x.length ≤ most ∧ ∃ r, GoR ([], x.cps.toList, 0) r ∧ trE H E r ∧ trQ H Q r
end
theorem and_go {t u : TT} {σ : L2.St} {H : Hp} {Q : Bool → Hp → Prop} (b1 b2 : Bool) (h1 : ∀ Q : Bool → Hp → Prop, Q b1 H → t σ H Q) (h2 : b1 = true → ∀ Q : Bool → Hp → Prop, Q b2 H → u σ H Q) (q : Q (b1 && b2) H) : tAnd t u σ H Q := h1 _ (by
  cases b1 with
  | false => exact iteF q
  | true => exact iteT (h2 rfl _ q))
theorem hd_eq (l : List Nat) (c : Nat) : decide ((V.str ⟨(l.take 1).toArray⟩ : V) = V.str ⟨#[c]⟩) = decide (l.head? = some c) := by
  cases l with
  | nil => exact (str_nil c).trans (decide_eq_false fun z => by cases z).symm
  | cons e l =>
    refine (str_ne e c).trans ?_
    by_cases h : e = c
    · rw [decide_eq_true h, decide_eq_true (show (e :: l).head? = some c by rw [h]; rfl)]
    · rw [decide_eq_false h, decide_eq_false (show ¬ (e :: l).head? = some c from fun z => h (Option.some.inj z))]
theorem scRead : FnScope ["text", "opened", "at", "thing"] ["text"] (defScope s_read_thing) := ⟨rfl, rfl, rfl, by decide +kernel, rfl, by decide +kernel, by decide +kernel⟩
section
variable [CurK] {P : Program} {w : World} {mg : Str → Option Value} {base : Heap}
theorem ok_read (T : Tx K w mg) : Has P w K mg base (L2.CX P w) 5 "read_thing" ["text"] spRead := by
  obtain ⟨fd, F⟩ := T.c.def_ 15 (d := d_read_thing) rfl
  have Hl := ok_rleaf (P := P) (w := w) (base := base) T
  obtain ⟨t40, g40⟩ := (T.int 20 rfl)
  refine ⟨fd, F.ok scRead (fun vs H Q E h => ?_) (fun cdv A outer s H vs Q E hr h => ?_), FunD.bindsN F fun _ _ _ _ _ _ us hl => match us, hl with | [_], _ => rfl, F.kp, (T.glo 29 rfl)⟩
  · obtain ⟨v, d, rfl, _⟩ := h
    rfl
  · refine ⟨_, (pss_cons (ps_if (pt_not (pt_val (pe_callB call_isi (by rfl) (T.free 55 rfl) (by decide +kernel) (pa_cons (pv 0) (pa_cons (pe_bltn (v := .ty "str") (by rfl) (T.free 61 rfl) (by decide +kernel) rfl) pa_nil)))))
 (pss_one (ps_raise rfl (takes_of rfl rfl rfl rfl) (pmk_fld (fldBT T) (hr.mono (by decide)) (pa_cons (pe_un un_neg pe_int) pa_nil))))
 pss_nil)
 (pss_cons (ps_set (i := 1) scRead.nd rfl (Or.inl rfl) (pe_lstS pa_nil))
 (pss_cons (ps_set (i := 2) scRead.nd rfl (Or.inl rfl) pe_int)
 (pss_one (ps_while (passes_of rfl) (pt_val pe_bl)
 (pss_cut (ps_if (PW.pt (pw_and (pt_cmpR op_eq (pe_slice sl_str (pv 0) (po_some (pv 2)) (po_some (pe_op op_add (pv 2) pe_int))) pe_str (nomark _)) (pw_and1 (pt_cmpR op_lt (pe_callB call_len (by rfl) (T.free 56 rfl) PySem.boot_len (pa_cons (pv 1) pa_nil)) (pe_glob (v := .int 40) (by rfl) g40 ⟨_, rfl⟩) (nomark _)))))
 (pss_cons (ps_expr (pe_bm PySem.F.plainAttrs_list PySem.F.slot_list_append PySem.F.type_list_append mt_append (pv 1) (pa_cons (pe_lstS pa_nil) pa_nil)))
 (pss_cons (ps_aug (i := 2) scRead.nd rfl (.inl rfl) pe_int ip_add)
 (pss_one (ps_if (pt_cmpR op_ne (pe_slice sl_str (pv 0) (po_some (pv 2)) (po_some (pe_op op_add (pv 2) pe_int))) pe_str (nomark _))
 (pss_one ps_continue)
 pss_nil))))
 (pss_cons (ps_asg (pe_has Hl (hr.mono (by decide)) (passes_call (takes_of rfl rfl rfl rfl) (fun _ _ _ _ h => h)) (pa_cons (pv 0) (pa_cons (pv 2) pa_nil))) (pg_tup (by rfl) (pgs_cons (pg_name (i := 3) scRead.nd rfl (Or.inl rfl)) (pgs_cons (pg_name (i := 2) scRead.nd rfl (Or.inl rfl)) pgs_nil))))
 (pss_one (ps_if (pt_truth (pv 1) (by intro _; rfl))
 (pss_one (ps_expr (pe_bm PySem.F.plainAttrs_list PySem.F.slot_list_append PySem.F.type_list_append mt_append (pe_ix ix_list (pv 1) (pe_un un_neg pe_int) (fun _ _ => rfl)) (pa_cons (pv 3) pa_nil))))
 pss_nil))))
 (pss_cons (ps_while (passes_of rfl) (PW.pt (pw_and (pt_truth (pv 1) (by intro _; rfl)) (pw_and1 (pt_cmpR op_eq (pe_slice sl_str (pv 0) (po_some (pv 2)) (po_some (pe_op op_add (pv 2) pe_int))) pe_str (nomark _)))))
 (pss_cons (ps_set (i := 3) scRead.nd rfl (Or.inl rfl) (pe_callTy call_tuple_of (by rfl) (T.free 62 rfl) (by decide +kernel) (pa_cons (pe_bm0 PySem.F.plainAttrs_list PySem.F.slot_list_pop PySem.F.type_list_pop mt_pop (pv 1)) pa_nil)))
 (pss_cons (ps_aug (i := 2) scRead.nd rfl (.inl rfl) pe_int ip_add)
 (pss_one (ps_if (pt_truth (pv 1) (by intro _; rfl))
 (pss_one (ps_expr (pe_bm PySem.F.plainAttrs_list PySem.F.slot_list_append PySem.F.type_list_append mt_append (pe_ix ix_list (pv 1) (pe_un un_neg pe_int) (fun _ _ => rfl)) (pa_cons (pv 3) pa_nil))))
 pss_nil)))))
 (pss_cons (ps_if (pt_not (pt_truth (pv 1) (by intro _; rfl)))
 (pss_cons (ps_if (pt_cmpR op_lt (pv 2) (pe_callB call_len (by rfl) (T.free 56 rfl) PySem.boot_len (pa_cons (pv 0) pa_nil)) (nomark _))
 (pss_one (ps_raise rfl (takes_of rfl rfl rfl rfl) (pmk_fld (fldBT T) (hr.mono (by decide)) (pa_cons (pv 2) pa_nil))))
 pss_nil)
 (pss_one (ps_ret (pv 3))))
 pss_nil)
 (pss_cons (ps_if (pt_cmpR op_ne (pe_slice sl_str (pv 0) (po_some (pv 2)) (po_some (pe_op op_add (pv 2) pe_int))) pe_str (nomark _))
 (pss_one (ps_raise rfl (takes_of rfl rfl rfl rfl) (pmk_fld (fldBT T) (hr.mono (by decide)) (pa_cons (pv 2) pa_nil))))
 pss_nil)
 (pss_one (ps_aug (i := 2) scRead.nd rfl (.inl rfl) pe_int ip_add))))))))))), ?_⟩
    obtain ⟨v, d, rfl, hd, hN, hS⟩ := h
    refine isx_go (kx_str d) (fun Q q => ⟨v, rfl, q⟩) hd ⟨_, rfl, ?_⟩
    cases is : isStr d with
    | false => exact iteT (raise_go (v := .int (-1)) (fun Q q => ⟨_, rfl, q⟩) fun dd H' nd sm hd => hN is dd H' nd sm hd)
    | true =>
      obtain ⟨x, rfl⟩ : ∃ x, d = .str x := by
        cases d with
        | str x => exact ⟨x, rfl⟩
        | _ => cases is
      obtain rfl := Dx.str_inv hd
      obtain ⟨xl, r, go, hE, hQ⟩ := hS x rfl
      have xc : x.cps.toList.length = x.length := by simp [Str.length]
      refine iteF ⟨(by show 0 ≤ sizeLine; decide), fun o no _ => ?_⟩
      have s1 := same_new (o := HO.lst []) no
      have eo1 : upd H o (HO.lst []) o = some (.lst []) := upd_same
      generalize upd H o (HO.lst []) = H1 at s1 eo1 ⊢
      refine ⟨fun m σ H' => ∃ (qs : List Addr) (st : List (List PyData)) (l : List Nat) (i : Nat), (∃ o3, σ = [some (.str x), some (.ref o), some (.int ((i : Nat) : Int)), o3]) ∧ Opn H H' o qs st ∧ x.cps.toList.drop i = l ∧ GoR (st, l, i) r ∧ i + l.length = x.length ∧ Bd i st ∧ m = l.length, ⟨_, [], [], x.cps.toList, 0, ⟨_, rfl⟩, .start eo1 no s1, rfl, go, by omega, fun _ m => absurd m List.not_mem_nil, rfl⟩, ?_⟩
      rintro m σ H2 ⟨qs, st, l, i, ⟨o3, rfl⟩, O, dl, go2, il, bd, rfl⟩
      have mostL : most < sizeLine := by decide
      refine ⟨_, rfl, iteT ⟨fun σ' H' => ∃ m', m' < l.length ∧ _, fun _ _ h => h, ?_⟩⟩
      refine ⟨fun σ' H' => ∃ (qs : List Addr) (st : List (List PyData)) (l2 : List Nat) (i2 : Nat) (th : Option V) (d : PyData), σ' = [some (.str x), some (.ref o), some (.int ((i2 : Nat) : Int)), th] ∧ Opn H H' o qs st ∧ x.cps.toList.drop i2 = l2 ∧ Fin r (closing d st l2 i2) ∧ i2 + l2.length = x.length ∧ Bd i2 st ∧ l2.length < l.length ∧ (st = [] → ∃ v, th = some v ∧ Dx H' v d ∧ tupD d = true), ?_, ?_⟩
      · have fin := go2.fin
        unfold stepR at fin
        dsimp only at fin
        refine and_go (decide (l.head? = some 40)) (decide (st.length < 40)) (fun Q q => sgn_go rfl rfl xl dl ⟨rfl, _, rfl, by rw [show (Str.ofString "(") = ⟨#[40]⟩ from rfl, hd_eq]; exact q⟩) (fun _ Q q => ⟨_, rfl, _, qs.length, rfl, .inl ⟨_, sq_of O.eo, by simp⟩, _, _, rfl, rfl, _, rfl, by
          have z : decide (((qs.length : Nat) : Int) < 40) = decide (st.length < 40) := decide_eq_decide.mpr (by have := O.lv.len; omega)
          rw [z]
          exact q⟩) ?_
        by_cases hA : l.head? = some 40 ∧ st.length < 40
        · rw [if_pos hA] at fin
          rw [decide_eq_true hA.1, decide_eq_true hA.2]
          refine iteT ⟨_, rfl, .inl ⟨rfl, _, sq_of O.eo⟩, (by show 0 ≤ sizeLine; decide), fun q nq _ => ⟨o, _, _, rfl, rfl, (same_new nq) _ _ O.eo, by
            rw [List.length_map, List.length_reverse, O.lv.len, sizeLine_eq]
            omega, ?_⟩⟩
          have O2 := O.push nq
          generalize e8 : upd (upd H2 q (.lst [])) o _ = H3
          replace O2 : Opn H H3 o (q :: qs) ([] :: st) := by rw [← e8]; exact O2
          obtain ⟨l2, rfl⟩ : ∃ l2, l = 40 :: l2 := by
            cases l with
            | nil => cases hA.1
            | cons c l2 => exact ⟨l2, by rw [Option.some.inj hA.1]⟩
          have d1 := drop_cons dl
          rw [List.tail_cons] at fin
          rw [List.length_cons] at il
          refine ⟨_, rfl, _, _, rfl, rfl, ?_⟩
          refine sgn_go (i := i + 1) rfl rfl xl d1.1 ⟨rfl, _, rfl, ?_⟩
          rw [show (Str.ofString ")") = ⟨#[41]⟩ from rfl, hd_eq]
          by_cases c41 : l2.head? = some 41
          · rw [decide_eq_true c41]
            rw [if_pos c41] at fin
            exact iteF ⟨q :: qs, [] :: st, l2, i + 1, _, .none, rfl, O2, d1.1, fin, by omega, (bd.mono (Nat.le_succ i)).nil, by rw [List.length_cons]; omega, fun z => by cases z⟩
          · rw [decide_eq_false c41]
            rw [if_neg c41] at fin
            exact iteT ⟨l2.length, by rw [List.length_cons]; omega, q :: qs, [] :: st, l2, i + 1, ⟨_, rfl⟩, O2, d1.1, fin, by omega, (bd.mono (Nat.le_succ i)).nil, rfl⟩
        · rw [if_neg hA] at fin
          rw [show (decide (l.head? = some 40) && decide (st.length < 40)) = false from by
            rw [← Bool.decide_and]
            exact decide_eq_false hA]
          refine iteF ⟨_, rfl, _, rfl, x, i, rfl, xl, ?_, ?_⟩
          · rw [dl]
            cases e : leafR l i with
            | bad p =>
              rw [e] at fin
              obtain rfl : TR.bad p = r := fin
              exact fun dd H' nd sm hd => hE dd H' (fresh_up O.sm nd) (O.sm.trans sm) hd
            | ok d l2 i2 => exact True.intro
          · rw [dl]
            cases e : leafR l i with
            | bad p => exact True.intro
            | ok d l2 i2 =>
              rw [e] at fin
              intro H3 p v s3 ep dv
              have ln := leafR_len e
              have td : tupD d = true := by
                rcases leafR_thing e with rfl | ⟨b, rfl⟩ | ⟨n, rfl⟩ | ⟨y, rfl⟩ <;> rfl
              have dl2 : x.cps.toList.drop i2 = l2 := leafR_drop e dl
              have O3 := O.new s3
              refine ⟨p, _, rfl, st_of ep, rfl, _, _, rfl, _, _, rfl, rfl, ?_⟩
              cases st with
              | nil =>
                obtain rfl : qs = [] := List.length_eq_zero_iff.mp O.lv.len
                refine ⟨_, rfl, false, .inl ⟨_, sq_of O3.eo, rfl⟩, iteF ?_⟩
                exact ⟨[], [], l2, i2, some v, d, rfl, O3, dl2, fin, by omega, fun _ m => absurd m List.not_mem_nil, by omega, fun _ => ⟨v, rfl, dv, td⟩⟩
              | cons ds st2 =>
                obtain ⟨q, qs2, rfl⟩ : ∃ q qs2, qs = q :: qs2 := by
                  cases qs with
                  | nil => have := O.lv.len; cases this
                  | cons q qs2 => exact ⟨q, qs2, rfl⟩
                obtain ⟨vs, eq, lv, O4⟩ := O3.add dv td
                have eo := O3.eo
                rw [List.reverse_cons, List.map_append] at eo
                refine ⟨_, rfl, true, .inl ⟨_, sq_of eo, by simp⟩, iteT ⟨_, rfl, _, rfl, o, _, _, .ref q, rfl, rfl, sq_of eo, atI_last _ _, .inl ⟨rfl, _, sq_of eq⟩, _, rfl, q, _, _, rfl, rfl, eq, by
                  have := bd ds List.mem_cons_self
                  omega, ?_⟩⟩
                exact ⟨q :: qs2, (ds ++ [d]) :: st2, l2, i2, some v, d, rfl, O4, dl2, fin, by omega, bd.put (by omega) d, by omega, fun z => by cases z⟩
      · rintro σ' H3 ⟨qs3, st3, l3, i3, th3, d3, rfl, O3, dl3, fin3, il3, bd3, ll3, hth3⟩
        refine ⟨fun m σ' H' => ∃ (qs : List Addr) (st : List (List PyData)) (l2 : List Nat) (i2 : Nat) (th : Option V) (d : PyData), σ' = [some (.str x), some (.ref o), some (.int ((i2 : Nat) : Int)), th] ∧ Opn H H' o qs st ∧ x.cps.toList.drop i2 = l2 ∧ Fin r (closing d st l2 i2) ∧ i2 + l2.length = x.length ∧ Bd i2 st ∧ l2.length < l.length ∧ (st = [] → ∃ v, th = some v ∧ Dx H' v d ∧ tupD d = true) ∧ m = l2.length, ⟨_, qs3, st3, l3, i3, th3, d3, rfl, O3, dl3, fin3, il3, bd3, ll3, hth3, rfl⟩, ?_⟩
        clear O3 dl3 fin3 il3 bd3 ll3 hth3 d3 th3 i3 l3 st3 qs3 O dl go2 il bd H2
        rintro m σ' H2 ⟨qs, st, l2, i2, th, d, rfl, O, dl, fin, il, bd, ll, hth, rfl⟩
        cases st with
        | nil =>
          obtain rfl : qs = [] := List.length_eq_zero_iff.mp O.lv.len
          refine and_go false false (fun Q q => ⟨_, rfl, false, .inl ⟨_, sq_of O.eo, rfl⟩, q⟩) (fun z => by cases z) ?_
          obtain ⟨v, rfl, dv, td⟩ := hth rfl
          refine iteF ⟨_, rfl, false, .inl ⟨_, sq_of O.eo, rfl⟩, iteT ⟨_, rfl, _, rfl, _, x.length, rfl, ⟨Nat.le_trans xl (by decide), rfl⟩, _, _, rfl, rfl, _, rfl, ?_⟩⟩
          cases l2 with
          | nil =>
            obtain rfl : TR.ok d = r := fin
            rw [List.length_nil] at il
            rw [decide_eq_false (show ¬ ((i2 : Nat) : Int) < ((x.length : Nat) : Int) by omega)]
            exact iteF ⟨_, rfl, hQ H2 v O.sm dv td⟩
          | cons c l4 =>
            obtain rfl : TR.bad i2 = r := fin
            rw [List.length_cons] at il
            rw [decide_eq_true (show ((i2 : Nat) : Int) < ((x.length : Nat) : Int) by omega)]
            exact iteT (raise_go (v := .int ((i2 : Nat) : Int)) (fun Q q => ⟨_, rfl, q⟩) fun dd H' nd sm hd => hE dd H' (fresh_up O.sm nd) (O.sm.trans sm) hd)
        | cons ds st2 =>
          obtain ⟨q, qs2, rfl⟩ : ∃ q qs2, qs = q :: qs2 := by
            cases qs with
            | nil => have := O.lv.len; cases this
            | cons q qs2 => exact ⟨q, qs2, rfl⟩
          have eo := O.eo
          rw [List.reverse_cons, List.map_append] at eo
          refine and_go true (decide (l2.head? = some 41)) (fun Q q => ⟨_, rfl, true, .inl ⟨_, sq_of eo, by simp⟩, q⟩) (fun _ Q q => sgn_go rfl rfl xl dl ⟨rfl, _, rfl, by rw [show (Str.ofString ")") = ⟨#[41]⟩ from rfl, hd_eq]; exact q⟩) ?_
          rw [Bool.true_and]
          by_cases c41 : l2.head? = some 41
          · rw [decide_eq_true c41]
            obtain ⟨l4, rfl⟩ : ∃ l4, l2 = 41 :: l4 := by
              cases l2 with
              | nil => cases c41
              | cons c l4 => exact ⟨l4, by rw [Option.some.inj c41]⟩
            have d1 := drop_cons dl
            rw [closing, if_pos rfl] at fin
            rw [List.length_cons] at il ll
            refine iteT ⟨fun σ' H' => ∃ m', m' < (41 :: l4).length ∧ _, fun _ _ h => h, ?_⟩
            obtain ⟨vs, O4, eq, dvs, tds⟩ := O.pop
            refine ⟨_, rfl, .inl ⟨rfl, _, sq_of eo⟩, o, qs2.reverse.map V.ref ++ [.ref q], .ref q, rfl, rfl, eo, by simp, ?_⟩
            rw [List.dropLast_concat]
            generalize upd H2 o (HO.lst (qs2.reverse.map V.ref)) = H4 at O4 eq dvs ⊢
            refine ⟨q, vs, rfl, .inl ⟨sq_of eq, fun p np => ?_⟩⟩
            have s5 := same_new (o := HO.tup vs) np
            have O5 := O4.new s5
            have dv : Dx (upd H4 p (HO.tup vs)) (.ref p) (.tuple ds) := .tup upd_same (DxAll.same s5 _ _ dvs)
            have td : tupD (.tuple ds) = true := tds
            generalize upd H4 p (HO.tup vs) = H5 at O5 dv ⊢
            refine ⟨_, rfl, _, _, rfl, rfl, ?_⟩
            cases st2 with
            | nil =>
              obtain rfl : qs2 = [] := List.length_eq_zero_iff.mp O5.lv.len
              refine ⟨_, rfl, false, .inl ⟨_, sq_of O5.eo, rfl⟩, iteF ?_⟩
              exact ⟨l4.length, by rw [List.length_cons]; omega, [], [], l4, i2 + 1, some (.ref p), .tuple ds, rfl, O5, d1.1, fin, by omega, fun _ m => absurd m List.not_mem_nil, by omega, fun _ => ⟨_, rfl, dv, td⟩, rfl⟩
            | cons es st3 =>
              obtain ⟨q2, qs3, rfl⟩ : ∃ q qs, qs2 = q :: qs := by
                cases qs2 with
                | nil => have := O5.lv.len; cases this
                | cons q qs => exact ⟨q, qs, rfl⟩
              obtain ⟨us, eq2, lus, O6⟩ := O5.add dv td
              have eo5 := O5.eo
              rw [List.reverse_cons, List.map_append] at eo5
              refine ⟨_, rfl, true, .inl ⟨_, sq_of eo5, by simp⟩, iteT ⟨_, rfl, _, rfl, o, _, _, .ref q2, rfl, rfl, sq_of eo5, atI_last _ _, .inl ⟨rfl, _, sq_of eq2⟩, _, rfl, q2, _, _, rfl, rfl, eq2, by
                have := bd.tail es List.mem_cons_self
                omega, ?_⟩⟩
              exact ⟨l4.length, by rw [List.length_cons]; omega, q2 :: qs3, (es ++ [PyData.tuple ds]) :: st3, l4, i2 + 1, some (.ref p), .tuple ds, rfl, O6, d1.1, fin, by omega, bd.tail.put (Nat.le_refl _) _, by omega, (fun z => by cases z), rfl⟩
          · rw [decide_eq_false c41]
            refine iteF ⟨_, rfl, true, .inl ⟨_, sq_of eo, by simp⟩, iteF ?_⟩
            refine sgn_go rfl rfl xl dl ⟨rfl, _, rfl, ?_⟩
            rw [show (Str.ofString ",") = ⟨#[44]⟩ from rfl, hd_eq]
            have bad : r = .bad i2 → tMkO (He.ga K "BadThing") (spIni K (He.ga K "BadThing") "place") [] (tCons (tVar 2) tNil) [some (.str x), some (.ref o), some (.int ((i2 : Nat) : Int)), th] H2 E := fun z => by
              rw [z] at hE
              exact raise_go (v := .int ((i2 : Nat) : Int)) (fun Q q => ⟨_, rfl, q⟩) fun dd H' nd sm hd => hE dd H' (fresh_up O.sm nd) (O.sm.trans sm) hd
            cases l2 with
            | nil => exact iteT (bad (Eq.symm fin))
            | cons c l4 =>
              have d1 := drop_cons dl
              rw [closing, if_neg (fun z => c41 (by rw [z]; rfl))] at fin
              rw [List.length_cons] at il ll
              by_cases c44 : c = 44
              · rw [if_pos c44] at fin
                rw [decide_eq_true (show (c :: l4).head? = some 44 by rw [c44]; rfl)]
                exact iteF ⟨_, rfl, _, _, rfl, rfl, l4.length, by omega, q :: qs2, ds :: st2, l4, i2 + 1, ⟨_, rfl⟩, O, d1.1, fin, by omega, bd.mono (Nat.le_succ _), rfl⟩
              · rw [if_neg c44] at fin
                rw [decide_eq_false (show ¬ (c :: l4).head? = some 44 from fun z => c44 (Option.some.inj z))]
                exact iteT (bad (Eq.symm fin))
end
end K53

set_option maxHeartbeats 4000000
namespace K53
open PySem PySem.Spec PyProof.Rows L2 V1 V2 V3 V7 V8 CwR
open TL (numL numL_digits numL_ne numL_val numL_len numL_lt numL_step tl_num)
/-! what was written is read again -/
/-- numbers of at most twenty figures, signs that may be written -/
def goodLeaf : PyData → Bool
  | .int i => decide (i.natAbs < 10 ^ 20)
  | .str x => x.cps.toList.all fun c => V6.prC c || decide (c = 10)
  | _ => true
mutual
def goodD : PyData → Bool
  | .tuple ds => goodDs ds
  | .int i => goodLeaf (.int i)
  | .str x => goodLeaf (.str x)
  | _ => true
def goodDs : List PyData → Bool
  | [] => true
  | d :: ds => goodD d && goodDs ds
end
def Stop (l : List Nat) : Prop := hdFig l = false
theorem figs_app : ∀ (ds : List Nat) (n : Nat) (rest : List Nat), (∀ c ∈ ds, figB c = true) → ds.length ≤ n → Stop rest → figs n (ds ++ rest) = ds
  | [], n, rest, _, _, s => by
    cases n with
    | zero => rfl
    | succ n =>
      cases rest with
      | nil => rfl
      | cons c l =>
        show figs (n + 1) (c :: l) = []
        have z : figB c = false := s
        rw [figs, if_neg (by rw [z]; decide)]
  | c :: ds, 0, rest, _, h, _ => by simp at h
  | c :: ds, n + 1, rest, h, hn, s => by
    show figs (n + 1) (c :: (ds ++ rest)) = _
    rw [figs, if_pos (h c List.mem_cons_self), figs_app ds n rest (fun e he => h e (List.mem_cons_of_mem _ he)) (by simp only [List.length_cons] at hn; omega) s]
theorem numL_head {n : Nat} (h : 1 ≤ n) : ∃ c l, numL n = c :: l ∧ c ≠ 48 := by
  induction n using Nat.strongRecOn with
  | _ n ih =>
    by_cases k : n < 10
    · exact ⟨48 + n, [], numL_lt k, by omega⟩
    · obtain ⟨c, l, e, ne⟩ := ih (n / 10) (by omega) (by omega)
      exact ⟨c, l ++ [48 + n % 10], by rw [numL_step (by omega), e]; rfl, ne⟩
theorem numL_fig (n : Nat) : ∀ c ∈ numL n, figB c = true := fun c h => by
  have z := numL_digits n c h
  unfold figB
  rw [decide_eq_true z.1, decide_eq_true z.2]
  rfl
theorem numR_num {n : Nat} {rest : List Nat} (h : n < 10 ^ 20) (s : Stop rest) : numR (numL n ++ rest) = numL n := by
  by_cases z : n = 0
  · rw [z, numL_lt (by decide)]
    rfl
  · obtain ⟨c, l, e, ne⟩ := numL_head (Nat.pos_of_ne_zero z)
    have ll := numL_len (k := 20) (by decide) h
    have lf := numL_fig n
    rw [e] at ll lf ⊢
    show numR (c :: (l ++ rest)) = _
    rw [numR, if_neg ne, figs_app l 19 rest (fun e he => lf e (List.mem_cons_of_mem _ he)) (by simp only [List.length_cons] at ll; omega) s]
theorem numOf_num {n : Nat} {rest : List Nat} {i : Nat} {b : Bool} (h : n < 10 ^ 20) (s : Stop rest) : numOf (numL n ++ rest) i b = .ok (.int (if b = true then -((n : Nat) : Int) else ((n : Nat) : Int))) rest (i + (numL n).length) := by
  unfold V8.numOf
  rw [numR_num h s, numL_val, List.drop_left]
theorem strR_esc : ∀ (xs acc rest : List Nat) (i : Nat), (xs.all fun c => V6.prC c || decide (c = 10)) = true → strR false acc (xs.flatMap esc1 ++ 39 :: rest) i = .ok (.str ⟨(acc ++ xs).toArray⟩) rest (i + (xs.flatMap esc1).length + 1)
  | [], acc, rest, i, _ => by
    show strR false acc (39 :: rest) i = _
    rw [strR, if_pos rfl, List.append_nil]
    rfl
  | c :: xs, acc, rest, i, h => by
    rw [List.all_cons, Bool.and_eq_true] at h
    rw [List.flatMap_cons, List.append_assoc, List.length_append]
    have ih := fun a j => strR_esc xs (acc ++ [a]) rest j h.2
    have e2 : ∀ k, c = k → acc ++ [k] ++ xs = acc ++ c :: xs := fun k h => by rw [h]; simp
    by_cases h1 : c = 126
    · rw [show esc1 c = [126, 126] by unfold esc1; rw [if_pos h1]]
      show strR false acc (126 :: 126 :: (xs.flatMap esc1 ++ 39 :: rest)) i = _
      rw [strR, if_neg (by decide), if_pos rfl, strR]
      show strR false (acc ++ [126]) _ _ = _
      rw [ih, e2 _ h1]
      congr 1
      simp only [List.length_cons, List.length_nil]
      omega
    by_cases h2 : c = 39
    · rw [show esc1 c = [126, 39] by unfold esc1; rw [if_neg h1, if_pos h2]]
      show strR false acc (126 :: 39 :: (xs.flatMap esc1 ++ 39 :: rest)) i = _
      rw [strR, if_neg (by decide), if_pos rfl, strR]
      show strR false (acc ++ [39]) _ _ = _
      rw [ih, e2 _ h2]
      congr 1
      simp only [List.length_cons, List.length_nil]
      omega
    by_cases h3 : c = 10
    · rw [show esc1 c = [126, 110] by unfold esc1; rw [if_neg h1, if_neg h2, if_pos h3]]
      show strR false acc (126 :: 110 :: (xs.flatMap esc1 ++ 39 :: rest)) i = _
      rw [strR, if_neg (by decide), if_pos rfl, strR]
      show strR false (acc ++ [10]) _ _ = _
      rw [ih, e2 _ h3]
      congr 1
      simp only [List.length_cons, List.length_nil]
      omega
    rw [show esc1 c = [c] by unfold esc1; rw [if_neg h1, if_neg h2, if_neg h3]]
    show strR false acc (c :: (xs.flatMap esc1 ++ 39 :: rest)) i = _
    have pr : V6.prC c = true := by simpa [h3] using h.1
    rw [strR, if_neg h2, if_neg h1, if_pos pr, ih, e2 _ rfl]
    congr 1
    simp only [List.length_cons, List.length_nil]
    omega
theorem int_nat (n : Nat) : (leafT (.int ((n : Nat) : Int))).cps.toList = numL n := tl_num n
theorem int_neg (n : Nat) : (leafT (.int (-((n + 1 : Nat) : Int)))).cps.toList = 45 :: numL (n + 1) := by
  show (Str.ofString (toString (-((n + 1 : Nat) : Int)))).cps.toList = _
  rw [PyProof.Rows.toString_neg (by omega), show (0 - -((n + 1 : Nat) : Int)) = ((n + 1 : Nat) : Int) by omega, ← tl_num]
  show _ = 45 :: (Str.ofString (toString ((n + 1 : Nat) : Int))).cps.toList
  rw [Str.ofString_eq_toList, Str.ofString_eq_toList]
  simp [String.toList_append]
theorem str_text (x : Str) : (leafT (.str x)).cps.toList = 39 :: (x.cps.toList.flatMap esc1 ++ [39]) := by
  show (Str.ofString "'" ++ escT x ++ Str.ofString "'").cps.toList = _
  rw [Str.cps_append, Str.cps_append, Array.toList_append, Array.toList_append, escT_at]
  rfl
theorem leaf_read {d : PyData} (lf : leafD d = true) (g : goodLeaf d = true) {rest : List Nat} (s : Stop rest) (i : Nat) : leafR ((leafT d).cps.toList ++ rest) i = .ok d rest (i + (leafT d).cps.toList.length) := by
  cases d with
  | none =>
    show leafR (45 :: rest) i = .ok .none rest (i + 1)
    rw [leafR, if_neg (by decide), if_neg (by decide), if_neg (by decide), if_neg (by decide), if_pos rfl]
    cases rest with
    | nil => rfl
    | cons e l =>
      have z : figB e = false := s
      rw [minusR, if_neg (fun y => by rw [z] at y; cases y.1)]
  | bool b =>
    cases b with
    | true =>
      show leafR (121 :: 101 :: 115 :: rest) i = .ok (.bool true) rest (i + 3)
      rw [leafR, if_neg (by decide), if_pos rfl]
      rfl
    | false =>
      show leafR (110 :: 111 :: rest) i = .ok (.bool false) rest (i + 2)
      rw [leafR, if_neg (by decide), if_neg (by decide), if_pos rfl]
      rfl
  | int j =>
    have g2 : j.natAbs < 10 ^ 20 := of_decide_eq_true g
    by_cases h : 0 ≤ j
    · obtain ⟨n, rfl⟩ := Int.eq_ofNat_of_zero_le h
      rw [int_nat]
      have nn : n < 10 ^ 20 := by simpa using g2
      obtain ⟨c, l, e⟩ : ∃ c l, numL n = c :: l := by
        cases e : numL n with
        | nil => exact absurd e (numL_ne n)
        | cons c l => exact ⟨c, l, rfl⟩
      have fc : figB c = true := numL_fig n c (by rw [e]; exact List.mem_cons_self)
      have bd := figB_bd fc
      have z := numOf_num (i := i) (b := false) nn s
      rw [e] at z ⊢
      show leafR (c :: (l ++ rest)) i = _
      rw [leafR, if_neg (by omega), if_neg (by omega), if_neg (by omega), if_pos fc]
      exact z
    · obtain ⟨n, rfl⟩ : ∃ n : Nat, j = -((n + 1 : Nat) : Int) := ⟨j.natAbs - 1, by omega⟩
      rw [int_neg]
      have nn : n + 1 < 10 ^ 20 := by
        rw [Int.natAbs_neg, Int.natAbs_natCast] at g2
        exact g2
      obtain ⟨c, l, e, ne⟩ := numL_head (n := n + 1) (by omega)
      have fc : figB c = true := numL_fig (n + 1) c (by rw [e]; exact List.mem_cons_self)
      have z := numOf_num (i := i + 1) (b := true) nn s
      rw [e] at z ⊢
      show leafR (45 :: (c :: (l ++ rest))) i = _
      rw [leafR, if_neg (by decide), if_neg (by decide), if_neg (by decide), if_neg (by decide), if_pos rfl, minusR, if_pos ⟨fc, ne⟩]
      refine z.trans ?_
      rw [if_pos rfl]
      congr 1
      simp only [List.length_cons]
      omega
  | str x =>
    rw [str_text]
    show leafR (39 :: (x.cps.toList.flatMap esc1 ++ [39] ++ rest)) i = _
    rw [leafR, if_pos rfl, List.append_assoc]
    refine (strR_esc x.cps.toList [] rest (i + 1) g).trans ?_
    rw [List.nil_append]
    congr 1
    simp only [List.length_cons, List.length_append, List.length_nil]
    omega
  | _ => cases lf
theorem goR_of {c : Cf} {r : TR} (h : Fin r (stepR c)) : GoR c r := by
  cases e : stepR c with
  | inl r' =>
    rw [e] at h
    obtain rfl : r' = r := h
    exact .done e
  | inr c' =>
    rw [e] at h
    exact .next e h
theorem leaf_head {d : PyData} (lf : leafD d = true) (g : goodLeaf d = true) : ∃ c l, (leafT d).cps.toList = c :: l ∧ c ≠ 40 ∧ c ≠ 41 := by
  have z := leaf_read lf g (rest := []) rfl 0
  rw [List.append_nil] at z
  cases e : (leafT d).cps.toList with
  | nil =>
    rw [e] at z
    cases z
  | cons c l =>
    rw [e] at z
    refine ⟨c, l, rfl, fun h => ?_, fun h => ?_⟩ <;> subst h <;> cases z
theorem textC_head {n : Nat} {d : PyData} {cs : List Nat} (h : textC n d = some cs) (g : goodD d = true) : ∃ c l, cs = c :: l ∧ c ≠ 41 := by
  cases tp : isTup d with
  | true =>
    obtain ⟨ds, rfl⟩ := isTup_tup tp
    cases n with
    | zero => cases h
    | succ n =>
      obtain ⟨xs, _, rfl⟩ := Option.map_eq_some_iff.mp (show (textCs n ds).map _ = some cs from h)
      exact ⟨40, _, rfl, by decide⟩
  | false =>
    rw [textC_leaf tp] at h
    split at h
    · rename_i lf
      cases h
      obtain ⟨c, l, e, _, k⟩ := leaf_head lf (by cases d <;> first | exact g | rfl)
      exact ⟨c, l, e, k⟩
    · cases h
theorem put_cons (d : PyData) (es : List PyData) (st : List (List PyData)) : put d (es :: st) = (es ++ [d]) :: st := rfl
theorem go_leaf {d : PyData} (lf : leafD d = true) (g : goodLeaf d = true) {cs : List Nat} (h : some (leafT d).cps.toList = some cs) {st : List (List PyData)} {rest : List Nat} {i : Nat} {r : TR} (sp : Stop rest) (fin : Fin r (closing d (put d st) rest (i + cs.length))) : GoR (st, cs ++ rest, i) r := by
  obtain rfl := Option.some.inj h
  refine goR_of ?_
  obtain ⟨c, l, e, k, _⟩ := leaf_head lf g
  unfold stepR
  dsimp only
  rw [if_neg (fun z => by rw [e] at z; exact k (Option.some.inj z.1)), leaf_read lf g sp]
  exact fin
mutual
theorem go_th : ∀ (d : PyData) (n : Nat) (cs : List Nat), textC n d = some cs → goodD d = true → ∀ (st : List (List PyData)) (rest : List Nat) (i : Nat) (r : TR), st.length + n ≤ 40 → Stop rest → Fin r (closing d (put d st) rest (i + cs.length)) → GoR (st, cs ++ rest, i) r
  | .tuple ds, n, cs, h, g, st, rest, i, r, ln, sp, fin => by
    cases n with
    | zero => cases h
    | succ n =>
      obtain ⟨xs, hx, rfl⟩ := Option.map_eq_some_iff.mp (show (textCs n ds).map _ = some cs from h)
      refine goR_of ?_
      show Fin r (stepR (st, 40 :: (joinC xs ++ [41] ++ rest), i))
      unfold stepR
      dsimp only
      rw [if_pos ⟨rfl, by omega⟩, List.tail_cons, List.append_assoc]
      cases ds with
      | nil =>
        cases hx
        show Fin r (closing (.tuple []) (put (.tuple []) st) rest (i + 1 + 1))
        exact fin
      | cons e es =>
        have hne : (joinC xs ++ ([41] ++ rest)).head? ≠ some 41 := by
          rw [textCs] at hx
          obtain ⟨x, h1, h2⟩ := Option.bind_eq_some_iff.mp hx
          obtain ⟨ys, h3, rfl⟩ := Option.map_eq_some_iff.mp h2
          simp only [goodD, goodDs, Bool.and_eq_true] at g
          obtain ⟨c, l, rfl, k⟩ := textC_head h1 g.1
          cases ys with
          | nil => exact fun z => k (Option.some.inj z)
          | cons y ys => exact fun z => k (Option.some.inj z)
        rw [if_neg hne]
        refine go_items (e :: es) n xs hx g (List.cons_ne_nil _ _) [] st rest (i + 1) r (by omega) ?_
        rw [List.nil_append]
        rw [show i + (40 :: (joinC xs ++ [41])).length = i + 1 + (joinC xs).length + 1 by simp only [List.length_cons, List.length_append, List.length_nil]; omega] at fin
        exact fin
  | .none, n, cs, h, g, st, rest, i, r, ln, sp, fin => go_leaf (d := .none) rfl rfl (by cases n <;> exact h) sp fin
  | .bool b, n, cs, h, g, st, rest, i, r, ln, sp, fin => go_leaf (d := .bool b) rfl rfl (by cases n <;> exact h) sp fin
  | .int j, n, cs, h, g, st, rest, i, r, ln, sp, fin => go_leaf (d := .int j) rfl g (by cases n <;> exact h) sp fin
  | .str x, n, cs, h, g, st, rest, i, r, ln, sp, fin => go_leaf (d := .str x) rfl g (by cases n <;> exact h) sp fin
  | .list ds, n, cs, h, g, st, rest, i, r, ln, sp, fin => by cases n <;> cases h
  | .dict ds, n, cs, h, g, st, rest, i, r, ln, sp, fin => by cases n <;> cases h
theorem go_items : ∀ (ds : List PyData) (n : Nat) (xs : List (List Nat)), textCs n ds = some xs → goodDs ds = true → ds ≠ [] → ∀ (es : List PyData) (st : List (List PyData)) (rest : List Nat) (i : Nat) (r : TR), st.length + 1 + n ≤ 40 →
    Fin r (closing (.tuple (es ++ ds)) (put (.tuple (es ++ ds)) st) rest (i + (joinC xs).length + 1)) → GoR (es :: st, joinC xs ++ ([41] ++ rest), i) r
  | [], _, _, _, _, ne, _, _, _, _, _, _, _ => absurd rfl ne
  | d :: ds, n, xs, h, g, _, es, st, rest, i, r, ln, fin => by
    rw [textCs] at h
    obtain ⟨x, h1, h2⟩ := Option.bind_eq_some_iff.mp h
    obtain ⟨ys, h3, rfl⟩ := Option.map_eq_some_iff.mp h2
    simp only [goodDs, Bool.and_eq_true] at g
    cases ds with
    | nil =>
      cases h3
      refine go_th d n x h1 g.1 (es :: st) ([41] ++ rest) i r (by simp only [List.length_cons]; omega) rfl ?_
      exact fin
    | cons e ds =>
      obtain ⟨y, ys', rfl⟩ : ∃ y ys', ys = y :: ys' := by
        rw [textCs] at h3
        obtain ⟨y, _, h4⟩ := Option.bind_eq_some_iff.mp h3
        obtain ⟨zs, _, rfl⟩ := Option.map_eq_some_iff.mp h4
        exact ⟨y, zs, rfl⟩
      show GoR (es :: st, x ++ 44 :: joinC (y :: ys') ++ ([41] ++ rest), i) r
      rw [List.append_assoc]
      refine go_th d n x h1 g.1 (es :: st) (44 :: joinC (y :: ys') ++ ([41] ++ rest)) i r (by simp only [List.length_cons]; omega) rfl ?_
      show GoR ((es ++ [d]) :: st, joinC (y :: ys') ++ ([41] ++ rest), i + x.length + 1) r
      refine go_items (e :: ds) n (y :: ys') h3 g.2 (List.cons_ne_nil _ _) (es ++ [d]) st rest (i + x.length + 1) r ln ?_
      rw [List.append_assoc]
      rw [show i + (joinC (x :: y :: ys')).length + 1 = i + x.length + 1 + (joinC (y :: ys')).length + 1 by
        show i + (x ++ 44 :: joinC (y :: ys')).length + 1 = _
        rw [List.length_append, List.length_cons]
        omega] at fin
      exact fin
end
theorem go_text {d : PyData} {cs : List Nat} (h : textC 40 d = some cs) (g : goodD d = true) : GoR ([], cs, 0) (.ok d) := by
  have z := go_th d 40 cs h g [] [] 0 (.ok d) (Nat.le_refl _) rfl rfl
  rw [List.append_nil] at z
  exact z
end K53

set_option maxHeartbeats 4000000
namespace K53
open PySem PySem.Spec PyProof.Rows L2 V1 V2 V3 V6
open Evl (pss_cut tCut sq_of st_of)
/-- at a: the hand: its cells' list, the four numbers -/
structure HandAt (H : Hp) (a : Addr) : Prop where
  ex : ∃ (c : Addr) (cs : List Int) (i1 i2 i3 i4 : Int), H a = some (.lst [.ref c, .int i1, .int i2, .int i3, .int i4]) ∧ (delH H a) c = some (.lst (cs.map V.int)) ∧ 0 ≤ i1 ∧ 0 ≤ i2
theorem HandAt.new {H H' : Hp} {a : Addr} (h : HandAt H a) (e : H' a = H a) (s : Same (delH H a) (delH H' a)) : HandAt H' a := by
  obtain ⟨c, cs, i1, i2, i3, i4, h1, h2, h3⟩ := h.ex
  exact ⟨c, cs, i1, i2, i3, i4, e.trans h1, s _ _ h2, h3⟩
def cellsOf (H : Hp) (a : Addr) : Option V := match H a with
  | some (.lst (x :: _)) => some x
  | _ => none
theorem cellsOf_at {H : Hp} {a : Addr} {x : V} {xs : List V} (h : H a = some (.lst (x :: xs))) : cellsOf H a = some x := by
  unfold cellsOf
  rw [h]
theorem HandAt.cells {H : Hp} {a : Addr} (h : HandAt H a) : ∃ (c : Addr) (cs : List Int), cellsOf H a = some (.ref c) ∧ c ≠ a ∧ H c = some (.lst (cs.map V.int)) := by
  obtain ⟨c, cs, i1, i2, i3, i4, e, e2, _⟩ := h.ex
  have ne : c ≠ a := fun z => by
    rw [z, delH_same] at e2
    cases e2
  exact ⟨c, cs, cellsOf_at e, ne, by rw [delH_ne ne] at e2; exact e2⟩
theorem HandAt.off {H : Hp} {a f c : Addr} (h : HandAt H a) (e : cellsOf H a = some (.ref c)) (nc : c ≠ f) (na : f ≠ a) : HandAt (delH H f) a := by
  obtain ⟨c', cs, i1, i2, i3, i4, e1, e2, p⟩ := h.ex
  rw [cellsOf_at e1] at e
  cases e
  refine ⟨c, cs, i1, i2, i3, i4, by rw [delH_ne (Ne.symm na)]; exact e1, ?_, p⟩
  have ne : c ≠ a := fun z => by
    rw [z, delH_same] at e2
    cases e2
  rw [delH_ne ne] at e2 ⊢
  rw [delH_ne nc]
  exact e2
def spDraw : Sp := fun vs H Q _ => ∃ (a : Addr) (m : Int), vs = [.ref a, .int m] ∧ HandAt H a ∧ 0 < m ∧ m < 1000000000 ∧
  ∀ (H' : Hp) (r : Int), HandAt H' a → delH H' a = delH H a → cellsOf H' a = cellsOf H a → 0 ≤ r → r < m → Q (.int r) H'
def spHand (K : PySem.W.Frag) : Sp := fun vs H Q _ => ∃ (a : Addr) (ns : List Int), vs = [.ref a] ∧ SqL K H a (ns.map V.int) ∧ ns.length ≤ 63 ∧ ∀ (H' : Hp) (p : Addr), Same H H' → H p = none → HandAt H' p → Q (.ref p) H'
theorem scHand : FnScope ["script", "cell"] ["script"] (defScope s__law_hand) := ⟨rfl, rfl, rfl, by decide +kernel, rfl, by decide +kernel, by decide +kernel⟩
theorem scDraw : FnScope ["hand", "many", "cell", "digit", "number"] ["hand", "many"] (defScope s__law_draw) := ⟨rfl, rfl, rfl, by decide +kernel, rfl, by decide +kernel, by decide +kernel⟩
theorem scSome : FnScope ["hand", "things"] ["hand", "things"] (defScope s__law_some) := ⟨rfl, rfl, rfl, by decide +kernel, rfl, by decide +kernel, by decide +kernel⟩
theorem rest_in (z : Int) {m : Int} (h : 0 < m) : 0 ≤ z % m ∧ z % m < m := ⟨Int.emod_nonneg _ (by omega), Int.emod_lt_of_pos _ h⟩
theorem ix0 {K : PySem.W.Frag} {σ : L2.St} {H : Hp} {Q : VK} {k : Nat} {a : Addr} {xs : List V} {n : Int} {v : V} (h0 : σ[k]? = some (some (.ref a))) (hH : H a = some (.lst xs)) (hv : atI xs n = some v) (q : Q v H) : tOp (rIxL K) (tVar k) (tC (.int n)) σ H Q :=
  ⟨_, h0, a, xs, n, v, rfl, rfl, sq_of hH, hv, q⟩

theorem cut63 (ns : List Int) : cutV (ns.map V.int) none (some 63) = (ns.take 63).map V.int := by
  unfold cutV
  rw [show HT.sIx (ns.map V.int).length (ns.map V.int).length (some 63) = min 63 (ns.map V.int).length from HT.sIx_nat _ _ 63, HT.sIx_none]
  simp [List.map_take, Nat.min_comm]
def teCell : TE := tCB (fun xs H Q => ∃ i, xs = [.int i] ∧ Q (.int (if i < 0 then -i else i)) H) (tCons (tCB (fun xs H Q => (∃ i, xs = [.int i] ∧ Q (.int i) H) ∨ ∃ k, xs = [.bl k] ∧ Q (.int (if k then 1 else 0)) H) (tCons (tVar 1) tNil)) tNil)
theorem hand_same {H H' : Hp} {a : Addr} (h : HandAt H a) (s : Same H H') : HandAt H' a := by
  obtain ⟨c, cs, i1, i2, i3, i4, e, _⟩ := h.ex
  exact h.new ((s _ _ e).trans e.symm) (same_del s)
theorem cells_same {H H' : Hp} {a : Addr} (h : HandAt H a) (s : Same H H') : cellsOf H' a = cellsOf H a := by
  obtain ⟨c, cs, i1, i2, i3, i4, e, _⟩ := h.ex
  rw [cellsOf_at e, cellsOf_at (s _ _ e)]
theorem HandAt.held {H : Hp} {a : Addr} (h : HandAt H a) : Held H a := by
  obtain ⟨c, cs, i1, i2, i3, i4, e, _⟩ := h.ex
  exact ⟨_, e⟩
theorem del2_upd {H : Hp} {a f : Addr} {o : HO} : delH (delH (upd H f o) a) f = delH (delH H a) f := by
  funext b
  by_cases e : b = f
  · rw [e, delH_same, delH_same]
  · rw [delH_ne e, delH_ne e]
    by_cases e2 : b = a
    · rw [e2, delH_same, delH_same]
    · rw [delH_ne e2, delH_ne e2, upd_ne e]
theorem tup_off {H : Hp} {a b : Addr} {xs : List V} (h : HandAt H a) (e : H b = some (.tup xs)) : (delH H a) b = some (.tup xs) := by
  have ne : b ≠ a := fun z => by
    obtain ⟨c, cs, i1, i2, i3, i4, e1, _⟩ := h.ex
    rw [z, e1] at e
    cases e
  rw [delH_ne ne]
  exact e
structure Go (a : Addr) (H H' : Hp) : Prop where
  hd : HandAt H' a
  ce : cellsOf H' a = cellsOf H a
  sm : Same (delH H a) (delH H' a)
theorem Go.refl {a : Addr} {H : Hp} (h : HandAt H a) : Go a H H := ⟨h, rfl, Same.refl _⟩
theorem Go.new {a : Addr} {H H' : Hp} (h : HandAt H a) (s : Same H H') : Go a H H' := ⟨hand_same h s, cells_same h s, same_del s⟩
theorem Go.draw {a : Addr} {H H' : Hp} (h1 : HandAt H' a) (h2 : delH H' a = delH H a) (h3 : cellsOf H' a = cellsOf H a) : Go a H H' := ⟨h1, h3, by rw [h2]; exact Same.refl _⟩
theorem Go.trans {a : Addr} {H H1 H2 : Hp} (g : Go a H H1) (g' : Go a H1 H2) : Go a H H2 := ⟨g'.hd, g'.ce.trans g.ce, g.sm.trans g'.sm⟩
theorem Go.at_ {a b : Addr} {H H' : Hp} {o : HO} (g : Go a H H') (h : delH H a b = some o) : delH H' a b = some o := g.sm _ _ h
theorem HandAt.ne_new {H : Hp} {a q : Addr} (h : HandAt H a) (n : H q = none) : q ≠ a := fun z => by
  obtain ⟨o, e⟩ := h.held
  rw [z, e] at n
  cases n
theorem del_comm {H : Hp} {a f : Addr} : delH (delH H a) f = delH (delH H f) a := by
  funext b
  by_cases e : b = f
  · subst e
    rw [delH_same]
    by_cases e2 : b = a
    · rw [e2, delH_same]
    · rw [delH_ne e2, delH_same]
  · by_cases e2 : b = a
    · rw [delH_ne e, e2, delH_same, delH_same]
    · rw [delH_ne e, delH_ne e2, delH_ne e2, delH_ne e]
theorem Go.draw_in {a D c : Addr} {H0 H H' : Hp} (g : Go a H0 (delH H D)) (hc : cellsOf H0 a = some (.ref c)) (cD : c ≠ D) (Da : D ≠ a) (h1 : HandAt H' a) (h2 : delH H' a = delH H a) (h3 : cellsOf H' a = cellsOf H a) : Go a H0 (delH H' D) ∧ H' D = H D := by
  have cel : ∀ {X : Hp}, cellsOf (delH X D) a = cellsOf X a := fun {X} => by
    unfold cellsOf
    rw [delH_ne (Ne.symm Da)]
  have z : cellsOf H' a = some (.ref c) := h3.trans ((cel.symm.trans g.ce).trans hc)
  refine ⟨⟨h1.off z cD Da, cel.trans (z.trans hc.symm), ?_⟩, ?_⟩
  · rw [del_comm, h2, del_comm]
    exact g.sm
  · have y := congrFun h2 D
    rw [delH_ne Da, delH_ne Da] at y
    exact y
theorem pos_of {xs : List Int} {i : Nat} {v : V} (h : (xs.map V.int)[i]? = some v) (p : ∀ x ∈ xs, 0 ≤ x) : ∃ z, v = .int z ∧ 0 ≤ z ∧ z ∈ xs := by
  rw [List.getElem?_map] at h
  obtain ⟨z, hz, rfl⟩ := Option.map_eq_some_iff.mp h
  exact ⟨z, rfl, p z (List.mem_of_getElem? hz), List.mem_of_getElem? hz⟩
section
variable [CurK]
theorem Go.dx {a : Addr} {H H' : Hp} {v : V} {d : PyData} (g : Go a H H') (h : Dx (delH H a) v d) : Dx (delH H' a) v d := Dx.same g.sm _ _ h
structure LD (H0 : Hp) (a f c : Addr) (ds : List PyData) (H : Hp) : Prop where
  hd : HandAt H a
  ce : cellsOf H a = some (.ref c)
  sm : Same (delH H0 a) (delH (delH H a) f)
  at_ : ∃ acc, H f = some (.lst acc) ∧ DxAll (delH (delH H a) f) acc ds
theorem LD.draw {H0 H H' : Hp} {a f c : Addr} {ds : List PyData} (h : LD H0 a f c ds H) (na : f ≠ a) (h1 : HandAt H' a) (h2 : delH H' a = delH H a) (h3 : cellsOf H' a = cellsOf H a) : LD H0 a f c ds H' := by
  obtain ⟨acc, e, d⟩ := h.at_
  refine ⟨h1, h3.trans h.ce, by rw [h2]; exact h.sm, acc, ?_, by rw [h2]; exact d⟩
  have z := congrFun h2 f
  rw [delH_ne na, delH_ne na] at z
  exact z.trans e
theorem LD.new {H0 H H' : Hp} {a f c : Addr} {ds : List PyData} (h : LD H0 a f c ds H) (s : Same H H') : LD H0 a f c ds H' := by
  obtain ⟨acc, e, d⟩ := h.at_
  exact ⟨hand_same h.hd s, (cells_same h.hd s).trans h.ce, h.sm.trans (same_del (same_del s)), acc, s _ _ e, DxAll.same (same_del (same_del s)) _ _ d⟩
theorem LD.put {H0 H : Hp} {a f c : Addr} {ds ds' : List PyData} {acc' : List V} (h : LD H0 a f c ds H) (na : f ≠ a) (nc : c ≠ f) (d : DxAll (delH (delH H a) f) acc' ds') :
    LD H0 a f c ds' (upd H f (.lst acc')) := by
  have o := h.hd.off h.ce nc na
  refine ⟨?_, ?_, ?_, acc', upd_same, ?_⟩
  · have z : HandAt (delH (upd H f (.lst acc')) f) a := by rw [delH_upd]; exact o
    exact hand_same z same_delH
  · have z := h.ce
    unfold cellsOf at z ⊢
    rw [upd_ne (Ne.symm na)]
    exact z
  · rw [del2_upd]
    exact h.sm
  · rw [del2_upd]
    exact d
theorem LD.held {H0 H : Hp} {a f c : Addr} {ds : List PyData} (h : LD H0 a f c ds H) : Held H f := by
  obtain ⟨acc, e, _⟩ := h.at_
  exact ⟨_, e⟩
end
/-- the items of a list, a tuple, a string -/
def ItsOf (H : Hp) (a : Addr) (x : V) (xs : List V) : Prop :=
  (∃ p, x = .ref p ∧ p ≠ a ∧ (H p = some (.lst xs) ∨ H p = some (.tup xs))) ∨ ∃ z : Str, x = .str z ∧ xs = z.cps.toList.map fun c => V.str ⟨#[c]⟩
def spSome : Sp := fun vs H Q _ => ∃ (a : Addr) (x : V) (xs : List V), vs = [.ref a, x] ∧ HandAt H a ∧ ItsOf H a x xs ∧ 0 < xs.length ∧ xs.length < 1000 ∧
  ∀ (H' : Hp) (i : Nat) (v : V), HandAt H' a → delH H' a = delH H a → cellsOf H' a = cellsOf H a → xs[i]? = some v → Q v H'
theorem some_ints {H : Hp} {a q : Addr} {Q : VK} (xs : List Int) (hd : HandAt H a) (nq : H q = none) (px : ∀ x ∈ xs, 0 ≤ x) (l0 : 0 < xs.length) (l1 : xs.length < 1000)
    (k : ∀ H2 (z : Nat), Go a H H2 → ((z : Nat) : Int) ∈ xs → Q (.int ((z : Nat) : Int)) H2) : spSome [.ref a, .ref q] (upd H q (.lst (xs.map V.int))) Q (fun _ _ _ => False) := by
  have s1 := same_new (o := HO.lst (xs.map V.int)) nq
  refine ⟨a, _, _, rfl, hand_same hd s1, .inl ⟨q, rfl, hd.ne_new nq, .inl upd_same⟩, by rw [List.length_map]; exact l0, by rw [List.length_map]; exact l1, fun H2 i v hd2 e2 c2 ev => ?_⟩
  obtain ⟨z, rfl, z0, zm⟩ := pos_of ev px
  obtain ⟨j, rfl⟩ := Int.eq_ofNat_of_zero_le z0
  exact k H2 j ((Go.new hd s1).trans (Go.draw hd2 e2 c2)) zm
theorem some_data [CurK] {H : Hp} {a : Addr} {v : V} {d : PyData} {ds : List PyData} {Q : VK} (hd : HandAt H a) (q : Dx (delH H a) v d) (ed : d = .list ds ∨ d = .tuple ds) (l0 : 0 < ds.length) (l1 : ds.length < 1000)
    (k : ∀ H2 w d, Go a H H2 → d ∈ ds → Dx (delH H2 a) w d → Q w H2) : spSome [.ref a, v] H Q (fun _ _ _ => False) := by
  obtain ⟨p, xs, rfl, at_, rest⟩ : ∃ p xs, v = .ref p ∧ (delH H a p = some (.lst xs) ∨ delH H a p = some (.tup xs)) ∧ DxAll (delH H a) xs ds := by
    rcases ed with rfl | rfl
    · cases q with | lst at_ low rest => exact ⟨_, _, rfl, .inl at_, rest⟩
    · cases q with | tup at_ rest => exact ⟨_, _, rfl, .inr at_, rest⟩
  have na : p ≠ a := fun z => by
    rw [z, delH_same] at at_
    rcases at_ with h | h <;> cases h
  rw [delH_ne na] at at_
  have lr := dxAll_len rest
  refine ⟨a, _, _, rfl, hd, .inl ⟨p, rfl, na, at_⟩, by rw [lr]; exact l0, by rw [lr]; exact l1, fun H2 i w hd2 e2 c2 ev => ?_⟩
  obtain ⟨d, m, z⟩ := DxAll.some rest ev
  exact k H2 w d (Go.draw hd2 e2 c2) m (by rw [e2]; exact z)
theorem cells_del {H : Hp} {a D : Addr} (n : D ≠ a) : cellsOf (delH H D) a = cellsOf H a := by
  unfold cellsOf
  rw [delH_ne (Ne.symm n)]
theorem Go.undel {a D : Addr} {H0 H : Hp} (g : Go a H0 (delH H D)) (n : D ≠ a) : Go a H0 H := ⟨hand_same g.hd same_delH, (cells_del n).symm.trans g.ce, fun b o e => by
  have z := g.sm b o e
  rw [del_comm] at z
  exact same_delH _ _ z⟩
theorem go_cell {a c : Addr} {H H' : Hp} {cs : List Int} (g : Go a H H') (hce : cellsOf H a = some (.ref c)) (nca : c ≠ a) (hc : H c = some (.lst (cs.map V.int))) : cellsOf H' a = some (.ref c) ∧ H' c = some (.lst (cs.map V.int)) :=
  ⟨g.ce.trans hce, same_delH _ _ (g.sm _ _ (by rw [delH_ne nca]; exact hc))⟩

section
variable [CurK] {P : Program} {w : World} {mg : Str → Option Value} {base : Heap}
theorem ok_hand (T : Tx K w mg) : Has P w K mg base CX0 1 "_law_hand" ["script"] (spHand K) := by
  obtain ⟨fd, F⟩ := T.c.def_ 16 (d := d__law_hand) rfl
  refine ⟨fd, F.ok scHand (fun vs H Q E h => ?_) (fun cdv A outer s H vs Q E hr h => ?_), FunD.bindsN F fun _ _ _ _ _ _ us hl => match us, hl with | [_], _ => rfl, F.kp, (T.glo 30 rfl)⟩
  · obtain ⟨a, ns, rfl, _⟩ := h
    rfl
  · refine ⟨_, PSs.nox (pss_one (ps_ret (pe_lst (pa_cons (pe_lc (own := [("cell", 1)]) (g := gName 1) (tt := tYes) (te := teCell) (by rfl) scHand.nd (pi_list (pe_slice sl_list (pv 0) po_none (po_some pe_int)))
 (blkOk_by (own := [("cell", 1)]) (N := ["script", "cell"]) (sc := defScope s__law_hand) (by decide +kernel)) (fun _ _ _ _ _ => pg_name (i := 1) scHand.nd rfl (Or.inl rfl)) (fun _ _ _ _ _ => pts_nil) (fun _ _ _ _ _ => (pe_callB call_abs (by rfl) (T.free 50 rfl) (by decide +kernel) (pa_cons (pe_callTy call_int1 (by rfl) (T.free 54 rfl) (by decide +kernel) (pa_cons (pv 1) pa_nil)) pa_nil)))) (pa_cons pe_int (pa_cons pe_int (pa_cons (pe_op op_add pe_int (pe_callB call_len (by rfl) (T.free 56 rfl) PySem.boot_len (pa_cons (pe_slice sl_list (pv 0) po_none (po_some pe_int)) pa_nil))) (pa_cons pe_int pa_nil)))))))), ?_⟩
    obtain ⟨a, ns, rfl, hS, hl, hQ⟩ := h
    refine ⟨_, rfl, 63, rfl, a, _, rfl, hS, fun p np => ?_⟩
    rw [cut63]
    have sp := same_new (o := .lst ((ns.take 63).map V.int)) np
    refine ⟨p, rfl, ⟨_, sq_of upd_same⟩, fun D nD => ?_⟩
    refine lc_gen (σ := [some (.ref a), none]) (vs := [1]) (walk_list (K := K) (a := p) (xs := (ns.take 63).map V.int)) nD (fun i acc H' => Same (upd H p (.lst ((ns.take 63).map V.int))) H' ∧ ∃ cs : List Int, acc = cs.map V.int) ⟨Same.refl _, [], rfl⟩ (fun i acc H' _ z => sq_of (same_delH _ _ (z.1 _ _ upd_same))) ?_ ?_
    · rintro i acc x H1 H2 hi l e ⟨sm, cs, rfl⟩ ⟨rfl, hx⟩
      rw [List.getElem?_map] at hx
      obtain ⟨z, hz, rfl⟩ := Option.map_eq_some_iff.mp hx
      refine ⟨rfl, ?_⟩
      simp only [tYes, if_true]
      have li : i < 1000 := by
        rw [List.length_map, List.length_take] at hi
        omega
      exact ⟨_, rfl, .inl ⟨z, rfl, z, rfl, lc_put l li e ⟨sm, cs ++ [if z < 0 then -z else z], by rw [List.map_append]; rfl⟩⟩⟩
    · rintro acc H1 l e ⟨sm, cs, rfl⟩
      have s1 : Same H H1 := fun b o ob => same_delH _ _ (sm _ _ (sp _ _ ob))
      have hS1 : SqL K H1 a (ns.map V.int) := hS.ext s1
      refine ⟨_, rfl, 63, rfl, a, _, rfl, hS1, fun p2 np2 => ?_⟩
      rw [cut63]
      have s2 := same_new (o := .lst ((ns.take 63).map V.int)) np2
      refine ⟨_, _, rfl, .inl ⟨_, sq_of upd_same, rfl⟩, _, _, rfl, rfl, (by show 5 ≤ sizeLine; decide), fun q nq => ?_⟩
      refine hQ _ q ((s1.trans s2).trans (same_new nq)) (fresh_up (s1.trans s2) nq) ⟨D, cs, _, _, _, _, upd_same, ?_, by decide, by decide⟩
      rw [delH_new nq]
      exact s2 _ _ e
theorem ok_draw (T : Tx K w mg) : Has P w K mg base CX0 1 "_law_draw" ["hand", "many"] spDraw := by
  obtain ⟨fd, F⟩ := T.c.def_ 17 (d := d__law_draw) rfl
  refine ⟨fd, F.ok scDraw (fun vs H Q E h => ?_) (fun cdv A outer s H vs Q E hr h => ?_), FunD.bindsN F fun _ _ _ _ _ _ us hl => match us, hl with | [_, _], _ => rfl, F.kp, (T.glo 31 rfl)⟩
  · obtain ⟨a, m, rfl, _⟩ := h
    rfl
  · refine ⟨_, PSs.nox (pss_cut (ps_if (PW.pt (pw_and (pt_cmpR op_eq (pe_ix ix_list (pv 0) pe_int (fun _ _ => rfl)) pe_int (nomark _)) (pw_and1 (pt_cmpR op_lt (pe_ix ix_list (pv 0) pe_int (fun _ _ => rfl)) (pe_callB call_len (by rfl) (T.free 56 rfl) PySem.boot_len (pa_cons (pe_ix ix_list (pv 0) pe_int (fun _ _ => rfl)) pa_nil)) (nomark _)))))
 (pss_cons (ps_set (i := 2) scDraw.nd rfl (Or.inl rfl) (pe_ix ix_list (pe_ix ix_list (pv 0) pe_int (fun _ _ => rfl)) (pe_ix ix_list (pv 0) pe_int (fun _ _ => rfl)) (fun _ _ => rfl)))
 (pss_cons (ps_asg (pe_op op_add (pe_ix ix_list (pv 0) pe_int (fun _ _ => rfl)) pe_int) (pg_sub (pv 0) pe_int set_list))
 (pss_cons (ps_asg (pe_op op_mod (pe_callTy call_int1 (by rfl) (T.free 54 rfl) (by decide +kernel) (pa_cons (pe_op op_add (pe_op op_add (pe_op op_mul (pe_ix ix_list (pv 0) pe_int (fun _ _ => rfl)) pe_int) (pv 2)) pe_int) pa_nil)) pe_int) (pg_sub (pv 0) pe_int set_list))
 (pss_one (ps_if (pt_cmpR op_ge (pv 2) (pe_op op_pow pe_int pe_int) (nomark _))
 (pss_one (ps_asg (pv 2) (pg_sub (pv 0) pe_int set_list)))
 pss_nil)))))
 pss_nil)
 (pss_cons (ps_if (pt_cmpR op_gt (pe_ix ix_list (pv 0) pe_int (fun _ _ => rfl)) pe_int (nomark _))
 (pss_cons (ps_set (i := 3) scDraw.nd rfl (Or.inl rfl) (pe_op op_mod (pe_callTy call_int1 (by rfl) (T.free 54 rfl) (by decide +kernel) (pa_cons (pe_ix ix_list (pv 0) pe_int (fun _ _ => rfl)) pa_nil)) (pv 1)))
 (pss_cons (ps_asg (pe_op op_fdiv (pe_ix ix_list (pv 0) pe_int (fun _ _ => rfl)) (pv 1)) (pg_sub (pv 0) pe_int set_list))
 (pss_one (ps_ret (pv 3)))))
 pss_nil)
 (pss_cons (ps_asg (pe_op op_add (pe_ix ix_list (pv 0) pe_int (fun _ _ => rfl)) pe_int) (pg_sub (pv 0) pe_int set_list))
 (pss_cons (ps_set (i := 4) scDraw.nd rfl (Or.inl rfl) (pe_op op_mod (pe_callTy call_int1 (by rfl) (T.free 54 rfl) (by decide +kernel) (pa_cons (pe_op op_mul (pe_op op_add (pe_ix ix_list (pv 0) pe_int (fun _ _ => rfl)) (pe_op op_mul pe_int (pe_ix ix_list (pv 0) pe_int (fun _ _ => rfl)))) pe_int) pa_nil)) pe_int))
 (pss_cons (ps_set (i := 4) scDraw.nd rfl (Or.inl rfl) (pe_op op_mod (pe_callTy call_int1 (by rfl) (T.free 54 rfl) (by decide +kernel) (pa_cons (pe_op op_mul (pv 4) (pe_op op_add (pe_op op_fdiv (pv 4) pe_int) pe_int)) pa_nil)) pe_int))
 (pss_cons (ps_set (i := 4) scDraw.nd rfl (Or.inl rfl) (pe_op op_mod (pe_callTy call_int1 (by rfl) (T.free 54 rfl) (by decide +kernel) (pa_cons (pe_op op_mul (pv 4) (pe_op op_add (pe_op op_fdiv (pv 4) pe_int) pe_int)) pa_nil)) pe_int))
 (pss_one (ps_ret (pe_op op_mod (pe_callTy call_int1 (by rfl) (T.free 54 rfl) (by decide +kernel) (pa_cons (pe_op op_fdiv (pv 4) pe_int) pa_nil)) (pv 1)))))))))), ?_⟩
    obtain ⟨a, m, rfl, hd, m0, m1, hQ⟩ := h
    obtain ⟨c, cs, i1, i2, i3, i4, h1, h2, h3, h4⟩ := hd.ex
    refine ⟨fun σ H1 => ∃ (j1 j2 j3 j4 : Int) (v2 : Option V), σ = [some (.ref a), some (.int m), v2, none, none] ∧ H1 a = some (.lst [.ref c, .int j1, .int j2, .int j3, .int j4]) ∧ delH H1 a = delH H a ∧ 0 ≤ j1 ∧ 0 ≤ j2, ?_, ?_⟩
    · -- a new cell is taken
      have hc : H c = some (.lst (cs.map V.int)) := same_delH _ _ h2
      have nca : c ≠ a := fun z => by
        rw [z, delH_same] at h2
        cases h2
      refine ix0 rfl h1 rfl ⟨rfl, _, rfl, ?_⟩
      refine ite2 (fun e2 => ?_) (fun _ => ?_)
      · refine ix0 rfl h1 rfl (ix0 rfl h1 rfl ⟨_, _, rfl, .inl ⟨_, sq_of hc, rfl⟩, _, _, rfl, rfl, _, rfl, ?_⟩)
        refine ite2 (fun e1 => ?_) (fun _ => ?_)
        · have e1' := of_decide_eq_true e1
          rw [List.length_map] at e1'
          obtain ⟨j, rfl⟩ := Int.eq_ofNat_of_zero_le h3
          have hj : j < cs.length := by omega
          have at_ : atI (cs.map V.int) ((j : Nat) : Int) = some (.int cs[j]) := atI_nat (by rw [List.getElem?_map, List.getElem?_eq_getElem hj]; rfl)
          refine ix0 rfl h1 rfl (ix0 rfl h1 rfl ⟨c, _, _, _, rfl, rfl, sq_of hc, at_, ?_⟩)
          refine ix0 rfl h1 rfl ⟨_, _, rfl, rfl, _, rfl, a, _, _, 1, rfl, rfl, h1, rfl, ?_⟩
          refine ix0 rfl upd_same rfl ⟨_, _, rfl, rfl, .inr ⟨by decide, by decide⟩, _, rfl, _, _, rfl, rfl, _, _, rfl, rfl, .inl ⟨_, rfl, _, _, rfl, rfl, (by show (0 : Int) < 2147483629; decide), _, rfl, a, _, _, 3, rfl, rfl, upd_same, rfl, ?_⟩⟩
          rw [upd_upd]
          refine ⟨_, rfl, _, _, rfl, rfl, ⟨by decide, by decide, by decide⟩, _, _, rfl, rfl, _, rfl, ?_⟩
          refine ite2 (fun big => ?_) (fun _ => ?_)
          · refine ⟨_, rfl, _, rfl, a, _, _, 2, rfl, rfl, upd_same, rfl, ?_⟩
            rw [upd_upd]
            refine ⟨_, _, _, _, _, rfl, upd_same, by rw [delH_upd], by omega, ?_⟩
            have b := of_decide_eq_true big
            exact Int.le_trans (by decide) b
          · refine ⟨_, _, _, _, _, rfl, upd_same, by rw [delH_upd], by omega, h4⟩
        · exact ⟨_, _, _, _, _, rfl, h1, rfl, h3, h4⟩
      · exact ⟨_, _, _, _, _, rfl, h1, rfl, h3, h4⟩
    · rintro σ H1 ⟨j1, j2, j3, j4, v2, rfl, g1, g2, g3, g4⟩
      refine ix0 rfl g1 rfl ⟨_, _, rfl, rfl, _, rfl, ?_⟩
      refine ite2 (fun e => ?_) (fun e => ?_)
      · refine ix0 rfl g1 rfl (.inl ⟨_, rfl, _, rfl, _, _, rfl, rfl, m0, ?_⟩)
        refine ix0 rfl g1 rfl ⟨_, rfl, _, _, rfl, rfl, ⟨m0, by omega⟩, _, rfl, a, _, _, 2, rfl, rfl, g1, rfl, _, rfl, ?_⟩
        refine hQ _ _ ⟨c, cs, j1, j2 / m, j3, j4, upd_same, ?_, g3, Int.ediv_nonneg g4 (by omega)⟩ (by rw [delH_upd, g2]) ((cellsOf_at (x := .ref c) upd_same).trans (cellsOf_at h1).symm) (Int.emod_nonneg _ (by omega)) (Int.emod_lt_of_pos _ m0)
        rw [delH_upd, g2]
        exact h2
      · refine ix0 rfl g1 rfl ⟨_, _, rfl, rfl, _, rfl, a, _, _, 4, rfl, rfl, g1, rfl, ?_⟩
        refine ix0 rfl upd_same rfl (ix0 rfl upd_same rfl ⟨_, _, rfl, rfl, .inl ⟨by decide, by decide⟩, _, _, rfl, rfl, _, _, rfl, rfl, .inr ⟨by decide, by decide⟩, .inl ⟨_, rfl, _, _, rfl, rfl, (by show (0 : Int) < 2147483647; decide), ?_⟩⟩)
        have b1 := rest_in ((j3 + 7919 * (j4 + 1)) * 48271) (m := 2147483647) (by decide)
        refine ⟨_, rfl, _, rfl, _, _, rfl, rfl, ⟨by decide, by decide⟩, _, _, rfl, rfl, _, _, rfl, rfl, .inl ⟨by omega, by omega⟩, .inl ⟨_, rfl, _, _, rfl, rfl, (by show (0 : Int) < 2147483647; decide), ?_⟩⟩
        have b2 := fun z : Int => rest_in z (m := 2147483647) (by decide)
        refine ⟨_, rfl, _, rfl, _, _, rfl, rfl, ⟨by decide, by decide⟩, _, _, rfl, rfl, _, _, rfl, rfl, .inl ⟨Int.lt_of_lt_of_le (by decide) (b2 _).1, Int.lt_of_lt_of_le (b2 _).2 (by decide)⟩, .inl ⟨_, rfl, _, _, rfl, rfl, (by show (0 : Int) < 2147483399; decide), ?_⟩⟩
        refine ⟨_, rfl, _, _, rfl, rfl, ⟨by decide, by decide⟩, .inl ⟨_, rfl, _, rfl, _, _, rfl, rfl, m0, ?_⟩⟩
        refine hQ _ _ ⟨c, cs, j1, j2, j3, j4 + 1, upd_same, ?_, g3, g4⟩ (by rw [delH_upd, g2]) ((cellsOf_at (x := .ref c) upd_same).trans (cellsOf_at h1).symm) (Int.emod_nonneg _ (by omega)) (Int.emod_lt_of_pos _ m0)
        rw [delH_upd, g2]
        exact h2
theorem ok_some (T : Tx K w mg) : Has P w K mg base CX0 2 "_law_some" ["hand", "things"] spSome := by
  obtain ⟨fd, F⟩ := T.c.def_ 18 (d := d__law_some) rfl
  have Hd := ok_draw (P := P) (w := w) (base := base) T
  refine ⟨fd, F.ok scSome (fun vs H Q E h => ?_) (fun cdv A outer s H vs Q E hr h => ?_), FunD.bindsN F fun _ _ _ _ _ _ us hl => match us, hl with | [_, _], _ => rfl, F.kp, (T.glo 32 rfl)⟩
  · obtain ⟨a, p, xs, rfl, _⟩ := h
    rfl
  · refine ⟨_, PSs.nox (pss_one (ps_ret (pe_ix ix_seq (pv 1) (pe_has Hd (hr.mono (by decide)) pass0 (pa_cons (pv 0) (pa_cons (pe_callB call_len (by rfl) (T.free 56 rfl) PySem.boot_len (pa_cons (pv 1) pa_nil)) pa_nil))) (fun _ _ => rfl)))), ?_⟩
    obtain ⟨a, x, xs, rfl, hd, hp, l0, l1, hQ⟩ := h
    refine ⟨_, rfl, _, rfl, ?_⟩
    rcases hp with ⟨p, rfl, ne, hp⟩ | ⟨z, rfl, rfl⟩
    · refine ⟨_, rfl, _, _, rfl, (show LenV K (.ref p) H xs.length from hp.elim (fun e => .inl ⟨xs, sq_of e, rfl⟩) (fun e => .inr ⟨xs, st_of e, rfl⟩)), a, _, rfl, hd, by omega, by omega, fun H' r hd' e ec r0 r1 => ?_⟩
      obtain ⟨j, rfl⟩ := Int.eq_ofNat_of_zero_le r0
      have hj : j < xs.length := by omega
      have e' : ∀ o, H p = some o → H' p = some o := fun o h => by
        have z := congrFun e p
        rw [delH_ne ne, delH_ne ne] at z
        exact z.trans h
      rcases hp with hp | hp
      · exact .inl ⟨p, xs, _, xs[j], rfl, rfl, sq_of (e' _ hp), atI_nat (List.getElem?_eq_getElem hj), hQ H' j _ hd' e ec (List.getElem?_eq_getElem hj)⟩
      · exact .inr (.inl ⟨p, xs, _, xs[j], rfl, rfl, st_of (e' _ hp), atI_nat (List.getElem?_eq_getElem hj), hQ H' j _ hd' e ec (List.getElem?_eq_getElem hj)⟩)
    · rw [List.length_map] at l0 l1
      have lz : z.length = z.cps.toList.length := by simp [Str.length]
      refine ⟨_, rfl, _, _, rfl, (show LenV K (.str z) H z.length from ⟨Nat.le_of_lt (small1000 (by omega)), rfl⟩), a, _, rfl, hd, by omega, by omega, fun H' r hd' e ec r0 r1 => ?_⟩
      obtain ⟨j, rfl⟩ := Int.eq_ofNat_of_zero_le r0
      have hj : j < z.cps.toList.length := by omega
      exact .inr (.inr ⟨z, _, z.cps.toList[j], rfl, rfl, Nat.le_of_lt (small1000 (by omega)), atI_nat (List.getElem?_eq_getElem hj), hQ H' j _ hd' e ec (by rw [List.getElem?_map, List.getElem?_eq_getElem hj]; rfl)⟩)

end
end K53

set_option maxHeartbeats 4000000
namespace K53
open PySem PySem.Spec PyProof.Rows L2 V1 V2 V3 V7 V8 CwR
open Evl (pss_cut tCut sq_of st_of)
theorem walk_zipTT {K : PySem.W.Frag} {a b : Addr} {xs ys : List V} {n : Nat} (hn : n = min xs.length ys.length) : Walk (RZ.ItzT K a b) n (fun H => SqT K H a xs ∧ SqT K H b ys) (YPair (fun i => xs[i]?) (fun i => ys[i]?)) := by
  constructor
  · intro i H hi q
    obtain ⟨g1, g2⟩ : i < xs.length ∧ i < ys.length := by omega
    exact ⟨xs, ys, xs[i], ys[i], q.1, q.2, List.getElem?_eq_getElem g1, List.getElem?_eq_getElem g2⟩
  · exact fun H q => ⟨xs, ys, q.1, q.2, by omega⟩
  · rintro i H v H' hi q ⟨t, x, z, e1, e2, e3, e4, e5⟩
    exact ⟨t, x, z, e1, e2, e3, e4 xs q.1, e5 ys q.2⟩
mutual
/-- tuples in one another -/
def depthT : PyData → Nat
  | .tuple ds => 1 + depthTs ds
  | _ => 0
def depthTs : List PyData → Nat
  | [] => 0
  | d :: ds => max (depthT d) (depthTs ds)
end
mutual
/-- no text of it is longer, nor has it more parts -/
def mass : PyData → Nat
  | .tuple ds => 4 + masss ds
  | .str x => 2 * x.length + 4
  | _ => 30
def masss : List PyData → Nat
  | [] => 0
  | d :: ds => mass d + 1 + masss ds
end
theorem depthTs_mem : ∀ {ds : List PyData} {d : PyData}, d ∈ ds → depthT d ≤ depthTs ds
  | e :: ds, d, h => by
    rw [depthTs]
    rcases List.mem_cons.mp h with rfl | h
    · exact Nat.le_max_left _ _
    · exact Nat.le_trans (depthTs_mem h) (Nat.le_max_right _ _)
theorem masss_mem : ∀ {ds : List PyData} {d : PyData}, d ∈ ds → mass d + 1 ≤ masss ds
  | e :: ds, d, h => by
    rw [masss]
    rcases List.mem_cons.mp h with rfl | h
    · omega
    · have := masss_mem h
      omega
theorem masss_len : ∀ ds : List PyData, ds.length ≤ masss ds
  | [] => Nat.le_refl _
  | d :: ds => by
    have := masss_len ds
    rw [masss, List.length_cons]
    omega
theorem tupDs_mem : ∀ {ds : List PyData} {d : PyData}, tupDs ds = true → d ∈ ds → tupD d = true
  | e :: ds, d, h, m => by
    simp only [tupDs, Bool.and_eq_true] at h
    rcases List.mem_cons.mp m with rfl | m
    · exact h.1
    · exact tupDs_mem h.2 m
section
variable [CurK]
def spIs : Nat → Sp
  | 0 => fun _ _ _ _ => False
  | n + 1 => fun vs H Q _ => ∃ v u d, vs = [v, u] ∧ Dx H v d ∧ Dx H u d ∧ tupD d = true ∧ depthT d ≤ n ∧ mass d ≤ 10000000 ∧ ∀ H', Same H H' → Q (.bl true) H'
end
theorem scIs : FnScope ["told", "due", "one", "other"] ["told", "due"] (defScope s__law_is) := ⟨rfl, rfl, rfl, by decide +kernel, rfl, by decide +kernel, by decide +kernel⟩
section
variable [CurK] {P : Program} {w : World} {mg : Str → Option Value} {base : Heap}
theorem ok_is (T : Tx K w mg) : ∀ n : Nat, Has P w K mg base CX0 (n + 1) "_law_is" ["told", "due"] (spIs n)
  | 0 => by
    obtain ⟨fd, F⟩ := T.c.def_ 19 (d := d__law_is) rfl
    exact ⟨fd, ⟨fun _ _ _ _ h => h.elim, fun _ _ _ _ _ _ _ _ _ _ _ _ _ h => h.elim⟩, FunD.bindsN F fun _ _ _ _ _ _ us hl => match us, hl with | [_, _], _ => rfl, F.kp, (T.glo 33 rfl)⟩
  | n + 1 => by
    obtain ⟨fd, F⟩ := T.c.def_ 19 (d := d__law_is) rfl
    have Hr := ok_is T n
    refine ⟨fd, F.ok scIs (fun vs H Q E h => ?_) (fun cdv A outer s H vs Q E hr h => ?_), FunD.bindsN F fun _ _ _ _ _ _ us hl => match us, hl with | [_, _], _ => rfl, F.kp, (T.glo 33 rfl)⟩
    · obtain ⟨v, u, d, rfl, _⟩ := h
      rfl
    · refine ⟨_, PSs.nox (pss_cons (ps_if (pt_val (pe_callB call_isiT (by rfl) (T.free 55 rfl) (by decide +kernel) (pa_cons (pv 1) (pa_cons (pe_tup (pa_cons (pe_bltn (v := .ty "tuple") (by rfl) (T.free 62 rfl) (by decide +kernel) rfl) (pa_cons (pe_bltn (v := .ty "list") (by rfl) (T.free 57 rfl) (by decide +kernel) rfl) pa_nil))) pa_nil))))
 (pss_cons (ps_if (PW.pt (pw_or (pt_cmpR op_ne (pe_callB call_isi (by rfl) (T.free 55 rfl) (by decide +kernel) (pa_cons (pv 0) (pa_cons (pe_bltn (v := .ty "tuple") (by rfl) (T.free 62 rfl) (by decide +kernel) rfl) pa_nil))) (pe_callB call_isi (by rfl) (T.free 55 rfl) (by decide +kernel) (pa_cons (pv 1) (pa_cons (pe_bltn (v := .ty "tuple") (by rfl) (T.free 62 rfl) (by decide +kernel) rfl) pa_nil))) (nomark _)) (pw_or1 (pt_cmpR op_ne (pe_callB call_isi (by rfl) (T.free 55 rfl) (by decide +kernel) (pa_cons (pv 0) (pa_cons (pe_bltn (v := .ty "list") (by rfl) (T.free 57 rfl) (by decide +kernel) rfl) pa_nil))) (pe_callB call_isi (by rfl) (T.free 55 rfl) (by decide +kernel) (pa_cons (pv 1) (pa_cons (pe_bltn (v := .ty "list") (by rfl) (T.free 57 rfl) (by decide +kernel) rfl) pa_nil))) (nomark _)))))
 (pss_one (ps_ret pe_bl))
 pss_nil)
 (pss_cons (ps_if (pt_cmpR op_ne (pe_callB call_len (by rfl) (T.free 56 rfl) PySem.boot_len (pa_cons (pv 0) pa_nil)) (pe_callB call_len (by rfl) (T.free 56 rfl) PySem.boot_len (pa_cons (pv 1) pa_nil)) (nomark _))
 (pss_one (ps_ret pe_bl))
 pss_nil)
 (pss_cons (ps_for PassesOwn.never rfl (RZ.pi_zipA (by rfl) (T.free 63 rfl) (pa_cons (pv 0) (pa_cons (pv 1) pa_nil))) (pg_tup (by rfl) (pgs_cons (pg_name (i := 2) scIs.nd rfl (Or.inl rfl)) (pgs_cons (pg_name (i := 3) scIs.nd rfl (Or.inl rfl)) pgs_nil)))
 (pss_one (ps_if (pt_not (pt_val (pe_has Hr (hr) pass0 (pa_cons (pv 2) (pa_cons (pv 3) pa_nil)))))
 (pss_one (ps_ret pe_bl))
 pss_nil)))
 (pss_one (ps_ret pe_bl)))))
 pss_nil)
 (pss_cons (ps_if (pt_cmpR op_isN (pv 1) pe_non (nomark _))
 (pss_one (ps_ret (pe_cmpR op_isN (pv 0) pe_non (nomark _))))
 pss_nil)
 (pss_cons (ps_if (PW.pt (pw_or (pt_val (pe_callB call_isi (by rfl) (T.free 55 rfl) (by decide +kernel) (pa_cons (pv 1) (pa_cons (pe_bltn (v := .ty "bool") (by rfl) (T.free 52 rfl) (by decide +kernel) rfl) pa_nil)))) (pw_or1 (pt_val (pe_callB call_isi (by rfl) (T.free 55 rfl) (by decide +kernel) (pa_cons (pv 1) (pa_cons (pe_bltn (v := .ty "int") (by rfl) (T.free 54 rfl) (by decide +kernel) rfl) pa_nil)))))))
 (pss_one (ps_ret (pe_and (pe_callB call_isi (by rfl) (T.free 55 rfl) (by decide +kernel) (pa_cons (pv 0) (pa_cons (pe_bltn (v := .ty "int") (by rfl) (T.free 54 rfl) (by decide +kernel) rfl) pa_nil))) (pe_and (pe_cmpR op_eq (pe_callB call_isi (by rfl) (T.free 55 rfl) (by decide +kernel) (pa_cons (pv 0) (pa_cons (pe_bltn (v := .ty "bool") (by rfl) (T.free 52 rfl) (by decide +kernel) rfl) pa_nil))) (pe_callB call_isi (by rfl) (T.free 55 rfl) (by decide +kernel) (pa_cons (pv 1) (pa_cons (pe_bltn (v := .ty "bool") (by rfl) (T.free 52 rfl) (by decide +kernel) rfl) pa_nil))) (nomark _)) (pe_one (pe_cmpR op_eq (pv 0) (pv 1) (nomark _)))))))
 pss_nil)
 (pss_one (ps_ret (pe_and (pe_callB call_isi (by rfl) (T.free 55 rfl) (by decide +kernel) (pa_cons (pv 0) (pa_cons (pe_bltn (v := .ty "str") (by rfl) (T.free 61 rfl) (by decide +kernel) rfl) pa_nil))) (pe_one (pe_cmpR op_eq (pv 0) (pv 1) (nomark _))))))))), ?_⟩
      obtain ⟨v, u, d, rfl, hv, hu, td, dp, ms, hQ⟩ := h
      refine isxT_go (kx_tup d) (kx_lst d) (fun Q q => ⟨u, rfl, q⟩) hu fun p np => ⟨_, rfl, ?_⟩
      have s1 := same_new (o := HO.tup [.ty "tuple", .ty "list"]) np
      have hv1 := hv.sm s1
      have hu1 := hu.sm s1
      generalize upd H p (HO.tup [.ty "tuple", .ty "list"]) = H1 at s1 hv1 hu1
      cases d with
      | none =>
        obtain rfl := hv1.none_inv
        obtain rfl := hu1.none_inv
        exact iteF ⟨_, rfl, rfl, true, rfl, iteT ⟨_, rfl, rfl, hQ _ s1⟩⟩
      | bool b =>
        obtain rfl := hv1.bool_inv
        obtain rfl := hu1.bool_inv
        refine iteF ⟨_, rfl, rfl, false, rfl, iteF ?_⟩
        show tCB (rIsi K) (tCons (tVar 1) (tCons (tC (.ty "bool")) tNil)) _ H1 _
        refine isx_go (kx_bool _) (fun Q q => ⟨_, rfl, q⟩) hu1 ⟨_, rfl, iteT (iteT ?_)⟩
        show tCB (rIsi K) (tCons (tVar 0) (tCons (tC (.ty "int")) tNil)) _ H1 _
        refine isx_go (kx_int _) (fun Q q => ⟨_, rfl, q⟩) hv1 ⟨_, rfl, iteT ?_⟩
        show tCB (rIsi K) (tCons (tVar 0) (tCons (tC (.ty "bool")) tNil)) _ H1 _
        refine isx_go (kx_bool _) (fun Q q => ⟨_, rfl, q⟩) hv1 (isx_go (kx_bool _) (fun Q q => ⟨_, rfl, q⟩) hu1 ⟨rfl, true, rfl, iteT ⟨_, rfl, _, rfl, rfl, ?_⟩⟩)
        rw [decide_eq_true rfl]
        exact hQ _ s1
      | int i =>
        obtain rfl := hv1.int_inv
        obtain rfl := hu1.int_inv
        refine iteF ⟨_, rfl, rfl, false, rfl, iteF ?_⟩
        show tCB (rIsi K) (tCons (tVar 1) (tCons (tC (.ty "bool")) tNil)) _ H1 _
        refine isx_go (kx_bool _) (fun Q q => ⟨_, rfl, q⟩) hu1 ⟨_, rfl, iteF ?_⟩
        show tCB (rIsi K) (tCons (tVar 1) (tCons (tC (.ty "int")) tNil)) _ H1 _
        refine isx_go (kx_int _) (fun Q q => ⟨_, rfl, q⟩) hu1 ⟨_, rfl, iteT ?_⟩
        show tCB (rIsi K) (tCons (tVar 0) (tCons (tC (.ty "int")) tNil)) _ H1 _
        refine isx_go (kx_int _) (fun Q q => ⟨_, rfl, q⟩) hv1 ⟨_, rfl, iteT ?_⟩
        show tCB (rIsi K) (tCons (tVar 0) (tCons (tC (.ty "bool")) tNil)) _ H1 _
        refine isx_go (kx_bool _) (fun Q q => ⟨_, rfl, q⟩) hv1 (isx_go (kx_bool _) (fun Q q => ⟨_, rfl, q⟩) hu1 ⟨rfl, true, rfl, iteT ⟨_, rfl, _, rfl, rfl, ?_⟩⟩)
        rw [decide_eq_true rfl]
        exact hQ _ s1
      | str x =>
        obtain rfl := hv1.str_inv
        obtain rfl := hu1.str_inv
        refine iteF ⟨_, rfl, rfl, false, rfl, iteF ?_⟩
        show tCB (rIsi K) (tCons (tVar 1) (tCons (tC (.ty "bool")) tNil)) _ H1 _
        refine isx_go (kx_bool _) (fun Q q => ⟨_, rfl, q⟩) hu1 ⟨_, rfl, iteF ?_⟩
        show tCB (rIsi K) (tCons (tVar 1) (tCons (tC (.ty "int")) tNil)) _ H1 _
        refine isx_go (kx_int _) (fun Q q => ⟨_, rfl, q⟩) hu1 ⟨_, rfl, iteF ?_⟩
        show tCB (rIsi K) (tCons (tVar 0) (tCons (tC (.ty "str")) tNil)) _ H1 _
        refine isx_go (kx_str _) (fun Q q => ⟨_, rfl, q⟩) hv1 ⟨_, rfl, iteT ⟨_, rfl, _, rfl, rfl, ?_⟩⟩
        rw [decide_eq_true rfl]
        exact hQ _ s1
      | tuple ds =>
        refine iteT ?_
        show tCB (rIsi K) (tCons (tVar 0) (tCons (tC (.ty "tuple")) tNil)) _ H1 _
        refine isx_go (kx_tup _) (fun Q q => ⟨_, rfl, q⟩) hv1 (isx_go (kx_tup _) (fun Q q => ⟨_, rfl, q⟩) hu1 ⟨rfl, false, rfl, iteF ?_⟩)
        show tCB (rIsi K) (tCons (tVar 0) (tCons (tC (.ty "list")) tNil)) _ H1 _
        refine isx_go (kx_lst _) (fun Q q => ⟨_, rfl, q⟩) hv1 (isx_go (kx_lst _) (fun Q q => ⟨_, rfl, q⟩) hu1 ⟨rfl, false, rfl, iteF ?_⟩)
        obtain ⟨a, vs, rfl, ha, ra⟩ := hv1.tup_inv
        obtain ⟨b, us, rfl, hb, rb⟩ := hu1.tup_inv
        have la := dxAll_len ra
        have lb := dxAll_len rb
        have tds : tupDs ds = true := td
        have dpt : 1 + depthTs ds ≤ n := dp
        have mst : 4 + masss ds ≤ 10000000 := ms
        obtain ⟨n, rfl⟩ : ∃ m, n = m + 1 := ⟨n - 1, by omega⟩
        refine ⟨_, rfl, _, _, rfl, .inr ⟨vs, st_of ha, rfl⟩, _, rfl, _, _, rfl, .inr ⟨us, st_of hb, rfl⟩, rfl, false, by rw [la, lb]; simp, iteF ?_⟩
        have nm : ds.length = min vs.length us.length := by omega
        refine ⟨_, rfl, _, rfl, a, b, vs, us, rfl, .inr ⟨st_of ha, st_of hb, ?_⟩⟩
        refine for_it (walk_zipTT (K := K) (a := a) (b := b) (xs := vs) (ys := us) nm) (fun i σ H' => Same H1 H' ∧ ∃ o2 o3, σ = [some (.ref a), some (.ref b), o2, o3]) ⟨Same.refl _, _, _, rfl⟩ (fun i σ H' _ z => ⟨st_of (z.1 _ _ ha), st_of (z.1 _ _ hb)⟩) ?_ ?_
        · rintro i x σ H3 H4' hi ⟨sm, o2, o3, rfl⟩ ⟨t, x1, y1, rfl, nt, rfl, e1, e2⟩
          have di : ds[i]? = some ds[i] := List.getElem?_eq_getElem hi
          have st := same_new (o := HO.tup [x1, y1]) nt
          have et : upd H3 t (HO.tup [x1, y1]) t = some (.tup [x1, y1]) := upd_same
          generalize upd H3 t (HO.tup [x1, y1]) = H4 at st et ⊢
          have s4 := sm.trans st
          have mm := List.getElem_mem hi
          refine ⟨t, _, rfl, st_of et, rfl, _, _, rfl, _, _, rfl, rfl, ?_⟩
          refine ⟨_, rfl, _, rfl, _, _, ds[i], rfl, (ra.at e1 di).sm s4, (rb.at e2 di).sm s4, tupDs_mem tds mm, by have := depthTs_mem mm; omega, by have := masss_mem mm; omega, fun H5 s5 => ⟨_, rfl, iteF ⟨s4.trans s5, _, _, rfl⟩⟩⟩
        · rintro σ H3 ⟨sm, o2, o3, rfl⟩
          exact hQ _ (s1.trans sm)
      | list ds => cases td
      | dict ds => cases td
end
end K53

set_option maxHeartbeats 4000000
/-! V8c: signs that may be written; texts so often. -/
namespace V8
open PySem PySem.Spec PyProof.Rows L2 V1 V2 V3 V5 V7
/-- a sign that a text may hold -/
def gC (c : Nat) : Bool := V6.prC c || decide (c = 10)
def GdS (x : Str) : Bool := x.cps.toList.all gC
theorem gd_app {a b : Str} (h : GdS a = true) (k : GdS b = true) : GdS (a ++ b) = true := by
  unfold GdS at h k ⊢
  rw [Str.cps_append, Array.toList_append, List.all_append, h, k]
  rfl
theorem fold_gd {c : Array Nat} (h : c.toList.all gC = true) : ∀ (n : Nat) (acc : Array Nat), acc.toList.all gC = true → ((List.replicate n c).foldl (· ++ ·) acc).toList.all gC = true ∧ ((List.replicate n c).foldl (· ++ ·) acc).size = acc.size + n * c.size
  | 0, acc, k => ⟨k, by simp⟩
  | n + 1, acc, k => by
    rw [List.replicate_succ, List.foldl_cons]
    obtain ⟨h1, h2⟩ := fold_gd h n (acc ++ c) (by rw [Array.toList_append, List.all_append, k, h]; rfl)
    refine ⟨h1, ?_⟩
    rw [h2, Array.size_append, Nat.succ_mul]
    omega
end V8
namespace V8
open PySem PySem.Spec PyProof.Rows L2 V1 V2 V3 V5 V7
theorem mul_gd {x : Str} (h : GdS x = true) {n : Int} (n1 : 1 ≤ n) : GdS (Txt.mul x n) = true ∧ (Txt.mul x n).length ≤ x.length * n.toNat := by
  unfold Txt.mul
  rw [if_neg (by omega)]
  split
  · exact ⟨h, Nat.le_mul_of_pos_right _ (by omega)⟩
  · obtain ⟨h1, h2⟩ := fold_gd (c := x.cps) h n.toNat #[] rfl
    refine ⟨h1, ?_⟩
    show ((List.replicate n.toNat x.cps).foldl (· ++ ·) #[]).size ≤ x.cps.size * n.toNat
    rw [h2, Nat.mul_comm, Array.size_empty]
    omega
end V8

set_option maxHeartbeats 4000000
namespace K53
open PySem PySem.Spec PyProof.Rows L2 V1 V2 V3 V7 V8 CwR
open Evl (pss_cut tCut sq_of st_of)
def marks : Str := " !\"#$&'()*+,-./0123456789:;<=>?@"
def letters : Str := "ABCDEFGHIJKLMNOPQRSTUVWXYZ[\\]^_`abcdefghijklmnopqrstuvwxyz{|}~"
def signsX : Str := marks ++ letters
theorem signs_gd : ∀ z ∈ signsX.cps.toList, GdS ⟨#[z]⟩ = true := by decide +kernel
theorem signs2_gd : ∀ z ∈ (signsX ++ "\n'~").cps.toList, GdS ⟨#[z]⟩ = true := by decide +kernel
def teSign : TE := tCall spSome [] (fun _ _ _ => False) (tCons (tVar 0) (tCons (tOp (fun x y H Q => ∃ i j, x = .str i ∧ y = .str j ∧ i.length + j.length ≤ sizeLine ∧ Q (.str (i ++ j)) H) (tCall (fun vs H Q _ => vs = [] ∧ Q (.str signsX) H) [] (fun _ _ _ => False) tNil) (tC (.str "\n'~"))) tNil))
section
variable [CurK]
def spSigns : Sp := fun vs H Q _ => vs = [] ∧ Q (.str signsX) H
def spString2 : Sp := fun vs H Q _ => ∃ a, vs = [.ref a] ∧ HandAt H a ∧ ∀ H' x, Go a H H' → GdS x = true → x.length ≤ 1000 → Q (.str x) H'
end
theorem pick_sign {H : Hp} {a : Addr} {Q : VK} {E : XK} {z : Str} (hz : ∀ c ∈ z.cps.toList, GdS ⟨#[c]⟩ = true) (l0 : 0 < z.cps.toList.length) (l1 : z.cps.toList.length < 1000) (hd : HandAt H a) (k : ∀ H2 c, HandAt H2 a → delH H2 a = delH H a → cellsOf H2 a = cellsOf H a → GdS (⟨#[c]⟩ : Str) = true → Q (.str ⟨#[c]⟩) H2) : spSome [.ref a, .str z] H Q E := by
  refine ⟨a, .str z, _, rfl, hd, .inr ⟨z, rfl, rfl⟩, (by rw [List.length_map]; exact l0), (by rw [List.length_map]; exact l1), fun H6 j v hd6 e6 c6 ev => ?_⟩
  rw [List.getElem?_map] at ev
  obtain ⟨c, hc, rfl⟩ := Option.map_eq_some_iff.mp ev
  exact k H6 c hd6 e6 c6 (hz c (List.mem_of_getElem? hc))
theorem scSigns : FnScope ["marks"] [] (defScope s__law_signs) := ⟨rfl, rfl, rfl, by decide +kernel, rfl, by decide +kernel, by decide +kernel⟩
theorem scString2 : FnScope ["hand", "kind", "many", "turn"] ["hand"] (defScope s__law_string) := ⟨rfl, rfl, rfl, by decide +kernel, rfl, by decide +kernel, by decide +kernel⟩
def menuS : List PyData := [.str "", .str "'", .str "~", .str "\n", .str "~n", .str "''", .str "n", .str "yes", .str "-", .str "(", .str ",", .str "a b", .str "0", .str "~'"]
theorem menuS_ok : ∀ d ∈ menuS, ∃ x, d = .str x ∧ GdS x = true ∧ x.length ≤ 1000 := by
  intro d h
  simp only [menuS, List.mem_cons, List.not_mem_nil, or_false] at h
  rcases h with rfl | rfl | rfl | rfl | rfl | rfl | rfl | rfl | rfl | rfl | rfl | rfl | rfl | rfl <;> exact ⟨_, rfl, by decide +kernel, by decide +kernel⟩
section
variable [CurK] {P : Program} {w : World} {mg : Str → Option Value} {base : Heap}
theorem ok_signs (T : Tx K w mg) : Has P w K mg base CX0 1 "_law_signs" [] spSigns := by
  obtain ⟨fd, F⟩ := T.c.def_ 20 (d := d__law_signs) rfl
  refine ⟨fd, F.ok scSigns (fun vs H Q E h => ?_) (fun cdv A outer s H vs Q E hr h => ?_), FunD.bindsN F fun _ _ _ _ _ _ us hl => match us, hl with | [], _ => rfl, F.kp, (T.glo 34 rfl)⟩
  · obtain ⟨rfl, _⟩ := h
    rfl
  · refine ⟨_, PSs.nox (pss_cons (ps_set (i := 0) scSigns.nd rfl (Or.inl rfl) pe_str)
 (pss_one (ps_ret (pe_op op_add_str (pv 0) pe_str)))), ?_⟩
    obtain ⟨rfl, hQ⟩ := h
    exact ⟨_, rfl, marks, letters, rfl, rfl, by decide +kernel, hQ⟩
theorem ok_string2 (T : Tx K w mg) : Has P w K mg base CX0 3 "_law_string" ["hand"] spString2 := by
  obtain ⟨fd, F⟩ := T.c.def_ 21 (d := d__law_string) rfl
  have Hd := ok_draw (P := P) (w := w) (base := base) T
  have Hs := ok_some (P := P) (w := w) (base := base) T
  have Hg := ok_signs (P := P) (w := w) (base := base) T
  refine ⟨fd, F.ok scString2 (fun vs H Q E h => ?_) (fun cdv A outer s H vs Q E hr h => ?_), FunD.bindsN F fun _ _ _ _ _ _ us hl => match us, hl with | [_], _ => rfl, F.kp, (T.glo 35 rfl)⟩
  · obtain ⟨a, rfl, _⟩ := h
    rfl
  · refine ⟨_, PSs.nox (pss_cons (ps_set (i := 1) scString2.nd rfl (Or.inl rfl) (pe_has Hd (hr.mono (by decide)) pass0 (pa_cons (pv 0) (pa_cons pe_int pa_nil))))
 (pss_cons (ps_if (pt_cmpR op_lt (pv 1) pe_int (nomark _))
 (pss_one (ps_ret (pe_has Hs (hr.mono (by decide)) pass0 (pa_cons (pv 0) (pa_cons (pe_lstS (pa_cons pe_str (pa_cons pe_str (pa_cons pe_str (pa_cons pe_str (pa_cons pe_str (pa_cons pe_str (pa_cons pe_str (pa_cons pe_str (pa_cons pe_str (pa_cons pe_str (pa_cons pe_str (pa_cons pe_str (pa_cons pe_str (pa_cons pe_str pa_nil))))))))))))))) pa_nil)))))
 pss_nil)
 (pss_cons (ps_if (pt_cmpR op_eq (pv 1) pe_int (nomark _))
 (pss_one (ps_ret (pe_op V4.op_mulS (pe_op op_add_str pe_str (pe_has Hs (hr.mono (by decide)) pass0 (pa_cons (pv 0) (pa_cons (pe_has0 Hg (hr.mono (by decide)) pass0) pa_nil)))) (pe_has Hs (hr.mono (by decide)) pass0 (pa_cons (pv 0) (pa_cons (pe_lstS (pa_cons pe_int (pa_cons pe_int (pa_cons pe_int pa_nil)))) pa_nil))))))
 pss_nil)
 (pss_cons (ps_set (i := 2) scString2.nd rfl (Or.inl rfl) (pe_has Hs (hr.mono (by decide)) pass0 (pa_cons (pv 0) (pa_cons (pe_lstS (pa_cons pe_int (pa_cons pe_int (pa_cons pe_int (pa_cons pe_int pa_nil))))) pa_nil))))
 (pss_one (ps_ret (pe_join pe_str (pe_lc (own := [("turn", 3)]) (g := gName 3) (tt := tYes) (te := teSign) (by rfl) scString2.nd (pi_range1 (by rfl) (T.free 60 rfl) (pa_cons (pv 2) pa_nil))
 (blkOk_by (own := [("turn", 3)]) (N := ["hand", "kind", "many", "turn"]) (sc := defScope s__law_string) (by decide +kernel)) (fun _ _ _ _ _ => pg_name (i := 3) scString2.nd rfl (Or.inl rfl)) (fun _ _ _ _ _ => pts_nil) (fun _ _ _ _ _ => (pe_has Hs (hr.mono (by decide)) pass0 (pa_cons (pv 0) (pa_cons (pe_op op_add_str (pe_has0 Hg (hr.mono (by decide)) pass0) pe_str) pa_nil)))))))))))), ?_⟩
    obtain ⟨a, rfl, hd, hQ⟩ := h
    refine ⟨_, rfl, a, 8, rfl, hd, by decide, by decide, fun H1 kd hd1 e1 c1 k0 k1 => ?_⟩
    have g1 := Go.draw hd1 e1 c1
    refine ⟨_, rfl, _, _, rfl, rfl, _, rfl, ite2 (fun e2 => ?_) (fun e2 => ?_)⟩
    · refine ⟨_, rfl, ?_⟩
      refine mkn_lst (ds := menuS) (mkna_cons (mkn_str _) (mkna_cons (mkn_str _) (mkna_cons (mkn_str _) (mkna_cons (mkn_str _) (mkna_cons (mkn_str _) (mkna_cons (mkn_str _) (mkna_cons (mkn_str _) (mkna_cons (mkn_str _) (mkna_cons (mkn_str _) (mkna_cons (mkn_str _) (mkna_cons (mkn_str _) (mkna_cons (mkn_str _) (mkna_cons (mkn_str _) (mkna_cons (mkn_str _) mkna_nil)))))))))))))) (by decide) H1 _ fun v H2 s2 q2 => ?_
      refine some_data (hand_same hd1 s2) (Dx.same (newH_off hd1.held) _ _ (dx_of _ _ q2)) (.inl rfl) (by decide) (by decide) fun H3 w d g3 m q3 => ?_
      obtain ⟨x, rfl, gx, lx⟩ := menuS_ok d m
      obtain rfl := q3.str_inv
      exact hQ _ _ ((g1.trans (Go.new hd1 s2)).trans g3) gx lx
    refine ⟨_, rfl, rfl, _, rfl, ite2 (fun e3 => ?_) (fun e3 => ?_)⟩
    · refine ⟨_, rfl, rfl, pick_sign (E := fun _ _ _ => False) signs_gd (by decide +kernel) (by decide +kernel) hd1 fun H2 c hd2 e2 c2 gc => ?_⟩
      have g2 := g1.trans (Go.draw hd2 e2 c2)
      refine ⟨_, _, rfl, rfl, (by show 4 ≤ sizeLine; decide), _, rfl, (by show 3 ≤ sizeLine; decide), fun q nq _ => ?_⟩
      refine some_ints [1, 5, 40] hd2 nq (by decide) (by decide) (by decide) fun H3 z g3 m => ?_
      have gs : GdS ((Str.ofString "'~\n") ++ ⟨#[c]⟩) = true := gd_app (by decide +kernel) gc
      have z1 : 1 ≤ z ∧ z ≤ 40 := by
        simp only [List.mem_cons, List.not_mem_nil, or_false] at m
        omega
      obtain ⟨m1, m2⟩ := mul_gd gs (n := ((z : Nat) : Int)) (by omega)
      have l4 : ((Str.ofString "'~\n") ++ (⟨#[c]⟩ : Str)).length = 4 := rfl
      refine ⟨_, _, rfl, rfl, by omega, by omega, by rw [l4]; decide, hQ _ _ (g2.trans g3) m1 ?_⟩
      rw [l4, Int.toNat_natCast] at m2
      omega
    · refine ⟨_, rfl, (by show 4 ≤ sizeLine; decide), fun q nq _ => ?_⟩
      refine some_ints [1, 2, 5, 20] hd1 nq (by decide) (by decide) (by decide) fun H2 m g2 mm => ?_
      have m20 : m ≤ 20 := by
        simp only [List.mem_cons, List.not_mem_nil, or_false] at mm
        omega
      have g12 := g1.trans g2
      have hd2 := g2.hd
      obtain ⟨c, cs, hce, nca, hc⟩ := hd2.cells
      refine ⟨⟨_, rfl⟩, _, rfl, _, rfl, by omega, by omega, fun D nD => ?_⟩
      rw [Int.toNat_natCast]
      have Da : D ≠ a := hd2.ne_new nD
      have cD : c ≠ D := fun z => by
        rw [← z, hc] at nD
        cases nD
      refine lc_gen (σ := [some (.ref a), some (.int kd), some (.int ((m : Nat) : Int)), none]) (vs := [3]) (walk_range (lo := 0) (n := m)) nD (fun i acc H' => Go a H2 H' ∧ ∃ cs : List Nat, acc = (cs.map fun c => (⟨#[c]⟩ : Str)).map V.str ∧ ∀ c ∈ cs, GdS (⟨#[c]⟩ : Str) = true) ⟨Go.refl hd2, [], rfl, fun _ h => absurd h List.not_mem_nil⟩ (fun _ _ _ _ _ => True.intro) ?_ ?_
      · rintro i acc x H4 H5 hi l e ⟨g4, ds, rfl, hy⟩ ⟨rfl, rfl⟩
        refine ⟨rfl, ?_⟩
        simp only [tYes, if_true]
        refine ⟨_, rfl, rfl, _, _, rfl, rfl, by decide +kernel, pick_sign (E := fun _ _ _ => False) signs2_gd (by decide +kernel) (by decide +kernel) (hand_same g4.hd same_delH) fun H6 z hd6 e6 c6 zo => ?_⟩
        obtain ⟨g6, eD⟩ := g4.draw_in hce cD Da hd6 e6 c6
        exact lc_put l (by omega) (eD.trans e) ⟨g6, ds ++ [z], by rw [List.map_append, List.map_append]; rfl, fun y h => by
          rcases List.mem_append.mp h with h | h
          · exact hy y h
          · simp only [List.mem_cons, List.not_mem_nil, or_false] at h
            rw [h]
            exact zo⟩
      · rintro acc H4 l e ⟨g4, ds, rfl, hy⟩
        rw [List.length_map, List.length_map] at l
        have gd : GdS ⟨ds.toArray⟩ = true := by
          unfold GdS
          refine List.all_eq_true.mpr fun x hx => ?_
          have z := hy x (by simpa using hx)
          simpa [GdS] using z
        refine ⟨_, D, _, rfl, rfl, .inl (sq_of e), ?_, ?_⟩
        · rw [chs_len, chs_sgn, List.length_map]
          show ds.length + ds.length * 0 ≤ 16777216
          omega
        · rw [join_chs, chs_sgn]
          refine hQ _ _ (g12.trans (g4.undel Da)) gd ?_
          show ds.toArray.size ≤ 1000
          simp
          omega
end
end K53

set_option maxHeartbeats 4000000
namespace K53
open PySem PySem.Spec PyProof.Rows L2 V1 V2 V3 V7 V8 CwR
open Evl (pss_cut tCut sq_of st_of)
theorem tups_trans {H H1 H2 : Hp} (s : V8.TupS H H1) (t : V8.TupS H1 H2) : V8.TupS H H2 := fun b xs e => t _ _ (s _ _ e)
theorem tups_del {H : Hp} {a : Addr} {xs : List V} (h : H a = some (.lst xs)) : V8.TupS H (delH H a) := fun b ys e => by
  have n : b ≠ a := fun z => by
    rw [z, h] at e
    cases e
  rw [delH_ne n]
  exact e
theorem HandAt.tups {H : Hp} {a : Addr} (h : HandAt H a) : V8.TupS H (delH H a) := by
  obtain ⟨c, cs, i1, i2, i3, i4, e, _⟩ := h.ex
  exact tups_del e
theorem Go.tups {a : Addr} {H H' : Hp} (h : HandAt H a) (g : Go a H H') : V8.TupS H H' := tups_trans (tups_trans h.tups (TupS.of g.sm)) (TupS.of same_delH)
theorem Go.go_in {a D c : Addr} {H0 H H' : Hp} {o : HO} (g : Go a H0 (delH H D)) (hc : cellsOf H0 a = some (.ref c)) (cD : c ≠ D) (Da : D ≠ a) (e : H D = some o) (g' : Go a H H') : Go a H0 (delH H' D) ∧ H' D = some o := by
  have z : cellsOf H' a = some (.ref c) := g'.ce.trans (((cells_del Da).symm.trans g.ce).trans hc)
  refine ⟨⟨g'.hd.off z cD Da, (cells_del Da).trans (z.trans hc.symm), ?_⟩, same_delH _ _ (g'.sm _ _ (by rw [delH_ne Da]; exact e))⟩
  refine g.sm.trans ?_
  rw [del_comm, del_comm (H := H')]
  exact same_del g'.sm
theorem tupDs_of : ∀ {ds : List PyData}, (∀ d ∈ ds, tupD d = true) → tupDs ds = true
  | [], _ => rfl
  | d :: ds, h => by
    rw [tupDs, h d List.mem_cons_self, tupDs_of fun x hx => h x (List.mem_cons_of_mem _ hx)]
    rfl
theorem goodDs_of : ∀ {ds : List PyData}, (∀ d ∈ ds, goodD d = true) → goodDs ds = true
  | [], _ => rfl
  | d :: ds, h => by
    rw [goodDs, h d List.mem_cons_self, goodDs_of fun x hx => h x (List.mem_cons_of_mem _ hx)]
    rfl
/-- a thing that may be written -/
structure Tg (n z : Nat) (d : PyData) : Prop where
  tp : tupD d = true
  gd : goodD d = true
  dp : depthT d ≤ n
  ms : mass d ≤ z
  ok : okD d = true
theorem Tg.mono {n z n' z' : Nat} {d : PyData} (h : Tg n z d) (a : n ≤ n') (b : z ≤ z') : Tg n' z' d := ⟨h.tp, h.gd, Nat.le_trans h.dp a, Nat.le_trans h.ms b, h.ok⟩
theorem okDs_of : ∀ {ds : List PyData}, (∀ d ∈ ds, okD d = true) → okDs ds = true
  | [], _ => rfl
  | d :: ds, h => by
    rw [okDs, h d List.mem_cons_self, okDs_of fun x hx => h x (List.mem_cons_of_mem _ hx)]
    rfl
theorem ok_int {j : Int} (h : j.natAbs < 10 ^ 20) : okLeaf (.int j) = true := by
  refine decide_eq_true ?_
  by_cases z : j.natAbs = 0
  · rw [z]
    decide
  · have l : j.natAbs.log2 < 70 := (Nat.log2_lt z).mpr (Nat.lt_of_lt_of_le h (by decide))
    omega
theorem masss_le {z : Nat} : ∀ {ds : List PyData}, (∀ d ∈ ds, mass d ≤ z) → masss ds ≤ (z + 1) * ds.length
  | [], _ => Nat.zero_le _
  | d :: ds, h => by
    have h1 := h d List.mem_cons_self
    have h2 := masss_le fun x hx => h x (List.mem_cons_of_mem _ hx)
    rw [masss, List.length_cons, Nat.mul_succ]
    omega
theorem depthTs_le {n : Nat} : ∀ {ds : List PyData}, (∀ d ∈ ds, depthT d ≤ n) → depthTs ds ≤ n
  | [], _ => Nat.zero_le _
  | d :: ds, h => by
    rw [depthTs]
    exact Nat.max_le.mpr ⟨h d List.mem_cons_self, depthTs_le fun x hx => h x (List.mem_cons_of_mem _ hx)⟩
theorem tg_tup {n z k : Nat} {ds : List PyData} (h : ∀ d ∈ ds, Tg n z d) (l : ds.length ≤ k) : Tg (n + 1) (4 + (z + 1) * k) (.tuple ds) := by
  refine ⟨tupDs_of fun d hd => (h d hd).tp, goodDs_of fun d hd => (h d hd).gd, ?_, ?_, okDs_of fun d hd => (h d hd).ok⟩
  · have := depthTs_le fun d hd => (h d hd).dp
    show 1 + depthTs ds ≤ n + 1
    omega
  · have := masss_le fun d hd => (h d hd).ms
    have y : (z + 1) * ds.length ≤ (z + 1) * k := Nat.mul_le_mul_left _ l
    show 4 + masss ds ≤ _
    omega
def zN : Nat → Nat
  | 0 => 2004
  | n + 1 => 4 + (zN n + 1) * 4
theorem zN_ge (n : Nat) : 2004 ≤ zN n := by
  cases n with
  | zero => exact Nat.le_refl _
  | succ n =>
    have := zN_ge n
    show 2004 ≤ 4 + (zN n + 1) * 4
    omega
def spThg [CurK] : Nat → Sp
  | 0 => fun _ _ _ _ => False
  | n + 1 => fun vs H Q _ => ∃ a, vs = [.ref a, .int ((n : Nat) : Int)] ∧ HandAt H a ∧ ∀ H' v d, Go a H H' → Dx H' v d → Tg n (zN n) d → Q v H'
theorem tg_int {j : Int} (h : j.natAbs < 10 ^ 20) : Tg 0 2004 (.int j) := ⟨rfl, decide_eq_true h, Nat.le_refl _, by show 30 ≤ 2004; decide, ok_int h⟩
theorem tg_str {x : Str} (h : GdS x = true) (l : x.length ≤ 1000) : Tg 0 2004 (.str x) := ⟨rfl, h, Nat.le_refl _, by show 2 * x.length + 4 ≤ 2004; omega, decide_eq_true (by omega)⟩
theorem some_any {H : Hp} {a q : Addr} {Q : VK} (xs : List Int) (hd : HandAt H a) (nq : H q = none) (l0 : 0 < xs.length) (l1 : xs.length < 1000)
    (k : ∀ H2 (z : Int), Go a H H2 → z ∈ xs → Q (.int z) H2) : spSome [.ref a, .ref q] (upd H q (.lst (xs.map V.int))) Q (fun _ _ _ => False) := by
  have s1 := same_new (o := HO.lst (xs.map V.int)) nq
  refine ⟨a, _, _, rfl, hand_same hd s1, .inl ⟨q, rfl, hd.ne_new nq, .inl upd_same⟩, by rw [List.length_map]; exact l0, by rw [List.length_map]; exact l1, fun H2 i v hd2 e2 c2 ev => ?_⟩
  rw [List.getElem?_map] at ev
  obtain ⟨z, hz, rfl⟩ := Option.map_eq_some_iff.mp ev
  exact k H2 z ((Go.new hd s1).trans (Go.draw hd2 e2 c2)) (List.mem_of_getElem? hz)
theorem asg_nx {i : Nat} {v : V} {σ : L2.St} {H : Hp} {Q : L2.St → Hp → Prop} (h : Q (σ.set i (some v)) H) : gName i v σ H Q := h
theorem and_seq {c1 c2 : TT} {t u v : TS} {D : Ends} {σ : L2.St} {H : Hp} (b1 b2 : Bool) (h1 : ∀ Q : Bool → Hp → Prop, Q b1 H → c1 σ H Q) (h2 : b1 = true → ∀ Q : Bool → Hp → Prop, Q b2 H → c2 σ H Q) (q : if (b1 && b2) = true then t { D with nx := v D } σ H else u { D with nx := v D } σ H) : tSeq (tIfS (tAnd c1 c2) t u) v D σ H := and_go b1 b2 h1 h2 q
theorem scThg : FnScope ["hand", "deep", "kind", "turn"] ["hand", "deep"] (defScope s__law_thing) := ⟨rfl, rfl, rfl, by decide +kernel, rfl, by decide +kernel, by decide +kernel⟩
section
variable [CurK] {P : Program} {w : World} {mg : Str → Option Value} {base : Heap}
theorem ok_thg (T : Tx K w mg) : ∀ n : Nat, Has P w K mg base CX0 (n + 4) "_law_thing" ["hand", "deep"] (spThg n)
  | 0 => by
    obtain ⟨fd, F⟩ := T.c.def_ 22 (d := d__law_thing) rfl
    exact ⟨fd, ⟨fun _ _ _ _ h => h.elim, fun _ _ _ _ _ _ _ _ _ _ _ _ _ h => h.elim⟩, FunD.bindsN F fun _ _ _ _ _ _ us hl => match us, hl with | [_, _], _ => rfl, F.kp, (T.glo 36 rfl)⟩
  | n + 1 => by
    obtain ⟨fd, F⟩ := T.c.def_ 22 (d := d__law_thing) rfl
    have Hr := ok_thg T n
    have Hd := ok_draw (P := P) (w := w) (base := base) T
    have Hs := ok_some (P := P) (w := w) (base := base) T
    have Hw := ok_string2 (P := P) (w := w) (base := base) T
    refine ⟨fd, F.ok scThg (fun vs H Q E h => ?_) (fun cdv A outer s H vs Q E hr h => ?_), FunD.bindsN F fun _ _ _ _ _ _ us hl => match us, hl with | [_, _], _ => rfl, F.kp, (T.glo 36 rfl)⟩
    · obtain ⟨a, rfl, _⟩ := h
      rfl
    · refine ⟨_, PSs.nox (pss_cons (ps_set (i := 2) scThg.nd rfl (Or.inl rfl) (pe_has Hd (hr.mono (by omega)) pass0 (pa_cons (pv 0) (pa_cons pe_int pa_nil))))
 (pss_cons (ps_if (PW.pt (pw_and (pt_cmpR op_lt (pv 2) pe_int (nomark _)) (pw_and1 (pt_cmpR op_gt (pv 1) pe_int (nomark _)))))
 (pss_one (ps_ret (pe_callTy call_tuple_of (by rfl) (T.free 62 rfl) (by decide +kernel) (pa_cons (pe_lc (own := [("turn", 3)]) (g := gName 3) (tt := tYes) (te := tCall (spThg n) [] (fun _ _ _ => False) (tCons (tVar 0) (tCons (tOp (rI0 fun i j => V.int (i - j)) (tVar 1) (tC (.int 1))) tNil))) (by rfl) scThg.nd (pi_range1 (by rfl) (T.free 60 rfl) (pa_cons (pe_has Hd (hr.mono (by omega)) pass0 (pa_cons (pv 0) (pa_cons pe_int pa_nil))) pa_nil))
 (blkOk_by (own := [("turn", 3)]) (N := ["hand", "deep", "kind", "turn"]) (sc := defScope s__law_thing) (by decide +kernel)) (fun _ _ _ _ _ => pg_name (i := 3) scThg.nd rfl (Or.inl rfl)) (fun _ _ _ _ _ => pts_nil) (fun _ _ _ _ _ => (pe_has Hr (hr) pass0 (pa_cons (pv 0) (pa_cons (pe_op op_sub (pv 1) pe_int) pa_nil))))) pa_nil))))
 pss_nil)
 (pss_cons (ps_if (pt_cmpR op_lt (pv 2) pe_int (nomark _))
 (pss_one (ps_ret (pe_has Hs (hr.mono (by omega)) pass0 (pa_cons (pv 0) (pa_cons (pe_lstS (pa_cons pe_int (pa_cons pe_int (pa_cons (pe_un un_neg pe_int) (pa_cons pe_int (pa_cons (pe_un un_neg pe_int) (pa_cons (pe_op op_pow pe_int pe_int) (pa_cons (pe_op op_sub pe_int (pe_op op_pow pe_int pe_int)) (pa_cons (pe_op op_sub (pe_op op_pow pe_int pe_int) pe_int) (pa_cons (pe_op op_sub (pe_has Hd (hr.mono (by omega)) pass0 (pa_cons (pv 0) (pa_cons pe_int pa_nil))) pe_int) pa_nil)))))))))) pa_nil)))))
 pss_nil)
 (pss_cons (ps_if (pt_cmpR op_lt (pv 2) pe_int (nomark _))
 (pss_one (ps_ret (pe_has Hw (hr.mono (by omega)) pass0 (pa_cons (pv 0) pa_nil))))
 pss_nil)
 (pss_one (ps_ret (pe_has Hs (hr.mono (by omega)) pass0 (pa_cons (pv 0) (pa_cons (pe_lstS (pa_cons pe_non (pa_cons pe_bl (pa_cons pe_bl pa_nil)))) pa_nil))))))))), ?_⟩
      obtain ⟨a, rfl, hd, hQ⟩ := h
      have fin : ∀ {H' v d}, Go a H H' → Dx H' v d → Tg 0 2004 d → Q v H' := fun g q sm => hQ _ _ _ g q (sm.mono (Nat.zero_le _) (zN_ge n))
      refine ⟨_, rfl, a, 12, rfl, hd, by decide, by decide, fun H1 kd hd1 e1 c1 k0 k1 => ?_⟩
      have g1 := Go.draw hd1 e1 c1
      refine asg_nx ?_
      dsimp only
      refine and_seq (decide (kd < 5)) (decide (0 < ((n : Nat) : Int))) (fun Q q => ⟨_, rfl, _, _, rfl, rfl, _, rfl, q⟩) (fun _ Q q => ⟨_, rfl, _, _, rfl, rfl, _, rfl, q⟩) ?_
      refine ite2 (fun e => ?_) (fun e => ?_)
      · rw [Bool.and_eq_true, decide_eq_true_eq, decide_eq_true_eq] at e
        obtain ⟨m, rfl⟩ : ∃ m, n = m + 1 := ⟨n - 1, by omega⟩
        refine ⟨_, rfl, a, 5, rfl, hd1, by decide, by decide, fun H2 r hd2 e5 c2 r0 r1 => ⟨r, rfl, by omega, by omega, fun D nD => ?_⟩⟩
        obtain ⟨j, rfl⟩ := Int.eq_ofNat_of_zero_le r0
        rw [Int.toNat_natCast]
        have g2 := g1.trans (Go.draw hd2 e5 c2)
        obtain ⟨c, cs, hce, nca, hc⟩ := hd2.cells
        have Da : D ≠ a := hd2.ne_new nD
        have cD : c ≠ D := fun z => by
          rw [← z, hc] at nD
          cases nD
        refine lc_gen (σ := [some (.ref a), some (.int (((m + 1 : Nat)) : Int)), some (.int kd), none]) (vs := [3]) (walk_range (lo := 0) (n := j)) nD (fun i acc H' => Go a H2 H' ∧ ∃ ds, DxAll H' acc ds ∧ ∀ d ∈ ds, Tg m (zN m) d) ⟨Go.refl hd2, [], .nil, fun _ h => absurd h List.not_mem_nil⟩ (fun _ _ _ _ _ => True.intro) ?_ ?_
        · rintro i acc x H4 H5 hi l e6 ⟨g4, ds, qs, sm⟩ ⟨rfl, rfl⟩
          refine ⟨rfl, ?_⟩
          simp only [tYes, if_true]
          have h5 := hand_same g4.hd (same_delH (H := H5) (a := D))
          refine ⟨_, rfl, _, rfl, _, _, rfl, rfl, a, ?_, h5, fun H6 v d g6 q6 s6 => ?_⟩
          · show [V.ref a, V.int (((m + 1 : Nat) : Int) - 1)] = _
            rw [show (((m + 1 : Nat) : Int) - 1) = ((m : Nat) : Int) by omega]
          obtain ⟨g7, eD⟩ := g4.go_in hce cD Da e6 g6
          have t6 : V8.TupS (delH H5 D) (delH H6 D) := tups_trans (tups_trans (TupS.of same_delH) (g6.tups h5)) (tups_del eD)
          refine lc_put l (by omega) eD ⟨g7, ds ++ [d], DxAll.app (tups_same t6 _ _ (tupDs_of fun x hx => (sm x hx).tp) qs) (.cons (tup_same (tups_del eD) _ _ s6.tp q6) .nil), fun y h => ?_⟩
          rcases List.mem_append.mp h with h | h
          · exact sm y h
          · simp only [List.mem_cons, List.not_mem_nil, or_false] at h
            rw [h]
            exact s6
        · rintro acc H7 l e6 ⟨g4, ds, qs, sm⟩
          refine ⟨D, acc, rfl, .inl ⟨sq_of e6, fun p np => ?_⟩⟩
          have lq := dxAll_len qs
          have s8 := same_new (o := HO.tup acc) np
          have g8 := g2.trans (g4.undel Da)
          exact hQ _ _ (.tuple ds) (g8.trans (Go.new g8.hd s8)) (.tup upd_same (DxAll.same s8 _ _ (DxAll.same same_delH _ _ qs))) (tg_tup sm (by omega))
      refine ⟨_, rfl, _, _, rfl, rfl, _, rfl, ite2 (fun e2 => ?_) (fun e2 => ?_)⟩
      · refine ⟨_, rfl, _, rfl, _, rfl, _, _, rfl, rfl, ⟨by decide, by decide, by decide⟩, _, _, rfl, rfl, ⟨by decide, by decide, by decide⟩, _, _, rfl, rfl, _, _, rfl, rfl, ⟨by decide, by decide, by decide⟩, _, _, rfl, rfl, ?_⟩
        refine ⟨_, rfl, a, 1000, rfl, hd1, by decide, by decide, fun H2 r hd2 e5 c2 r0 r1 => ⟨_, _, rfl, rfl, (by show 9 ≤ sizeLine; decide), fun q nq _ => ?_⟩⟩
        refine some_any [0, 1, -1, 10, -10, (10 : Int) ^ (19 : Int).toNat, 1 - (10 : Int) ^ (20 : Int).toNat, (10 : Int) ^ (20 : Int).toNat - 1, r - 500] hd2 nq (by show 0 < 9; decide) (by show 9 < 1000; decide) fun H3 z g3 m => ?_
        refine fin ((g1.trans (Go.draw hd2 e5 c2)).trans g3) (.int z) (tg_int ?_)
        simp only [List.mem_cons, List.not_mem_nil, or_false] at m
        rcases m with rfl | rfl | rfl | rfl | rfl | rfl | rfl | rfl | rfl
        · decide
        · decide
        · decide
        · decide
        · decide
        · decide
        · decide
        · decide
        · have : (1000 : Nat) < 10 ^ 20 := by decide
          omega
      refine ⟨_, rfl, _, _, rfl, rfl, _, rfl, ite2 (fun e3 => ?_) (fun e3 => ?_)⟩
      · exact ⟨_, rfl, a, rfl, hd1, fun H2 x g2 gx lx => fin (g1.trans g2) (.str x) (tg_str gx lx)⟩
      · refine ⟨_, rfl, ?_⟩
        refine mkn_lst (ds := [.none, .bool true, .bool false]) (mkna_cons mkn_non (mkna_cons (mkn_bl true) (mkna_cons (mkn_bl false) mkna_nil))) (by decide) H1 _ fun v H2 s2 q2 => ?_
        refine some_data (hand_same hd1 s2) (Dx.same (newH_off hd1.held) _ _ (dx_of _ _ q2)) (.inl rfl) (by decide) (by decide) fun H3 w d g3 m q3 => ?_
        simp only [List.mem_cons, List.not_mem_nil, or_false] at m
        refine fin ((g1.trans (Go.new hd1 s2)).trans g3) (q3.sm same_delH) ?_
        rcases m with rfl | rfl | rfl <;> exact ⟨rfl, rfl, Nat.le_refl _, by decide, rfl⟩
end
end K53

set_option maxHeartbeats 4000000
namespace K53
open PySem PySem.Spec PyProof.Rows L2 V1 V2 V3 V7 V8 CwR
open Evl (pss_cut tCut sq_of st_of)
/-- so many tuples around it -/
inductive Wr : Nat → PyData → PyData → Prop
  | zero {d : PyData} : Wr 0 d d
  | one {n : Nat} {d e : PyData} (h : Wr n d e) : Wr (n + 1) d (.tuple [.none, e])
  | two {n : Nat} {d e : PyData} (h : Wr n d e) : Wr (n + 1) d (.tuple [e, .str "a", .int (-3)])
  | three {n : Nat} {d e : PyData} (h : Wr n d e) : Wr (n + 1) d (.tuple [e])
theorem Wr.tp {n : Nat} {d e : PyData} (h : Wr n d e) : tupD e = tupD d := by
  induction h with
  | zero => rfl
  | one h ih => simp only [tupD, tupDs, ih, Bool.and_true, Bool.true_and]
  | two h ih => simp only [tupD, tupDs, ih, Bool.and_true, Bool.true_and]
  | three h ih => simp only [tupD, tupDs, ih, Bool.and_true, Bool.true_and]
theorem Wr.gd {n : Nat} {d e : PyData} (h : Wr n d e) : goodD e = goodD d := by
  have g1 : goodLeaf (.str "a") = true := by decide +kernel
  have g2 : goodLeaf (.int (-3)) = true := by decide +kernel
  induction h with
  | zero => rfl
  | one h ih => simp only [goodD, goodDs, ih, Bool.and_true, Bool.true_and]
  | two h ih => simp only [goodD, goodDs, ih, g1, g2, Bool.and_true, Bool.true_and]
  | three h ih => simp only [goodD, goodDs, ih, Bool.and_true, Bool.true_and]
theorem Wr.ok {n : Nat} {d e : PyData} (h : Wr n d e) : okD e = okD d := by
  have g1 : okLeaf (.str "a") = true := by decide +kernel
  have g2 : okLeaf (.int (-3)) = true := ok_int (by decide)
  induction h with
  | zero => rfl
  | one h ih => simp only [okD, okDs, ih, Bool.and_true, Bool.true_and]
  | two h ih => simp only [okD, okDs, ih, g1, g2, Bool.and_true, Bool.true_and]
  | three h ih => simp only [okD, okDs, ih, Bool.and_true, Bool.true_and]
theorem Wr.dp {n : Nat} {d e : PyData} (h : Wr n d e) : depthT e = n + depthT d := by
  induction h with
  | zero => omega
  | one h ih => simp only [depthT, depthTs, ih]; omega
  | two h ih => simp only [depthT, depthTs, ih]; omega
  | three h ih => simp only [depthT, depthTs, ih]; omega
theorem Wr.ms {n : Nat} {d e : PyData} (h : Wr n d e) : mass e ≤ mass d + 50 * n := by
  have g1 : (Str.ofString "a").length = 1 := rfl
  induction h with
  | zero => omega
  | one h ih => simp only [mass, masss]; omega
  | two h ih => simp only [mass, masss, g1]; omega
  | three h ih => simp only [mass, masss]; omega
section
variable [CurK]
def spWrap : Sp := fun vs H Q _ => ∃ a v d, ∃ n : Nat, vs = [.ref a, v, .int ((n : Nat) : Int)] ∧ HandAt H a ∧ n ≤ 1000 ∧ Dx (delH H a) v d ∧ ∀ H' v' d', Go a H H' → Dx (delH H' a) v' d' → Wr n d d' → Q v' H'
end
theorem scWrap : FnScope ["hand", "thing", "many", "turn", "way"] ["hand", "thing", "many"] (defScope s__law_wrapped) := ⟨rfl, rfl, rfl, by decide +kernel, rfl, by decide +kernel, by decide +kernel⟩
section
variable [CurK] {P : Program} {w : World} {mg : Str → Option Value} {base : Heap}
theorem ok_wrap (T : Tx K w mg) : Has P w K mg base CX0 2 "_law_wrapped" ["hand", "thing", "many"] spWrap := by
  obtain ⟨fd, F⟩ := T.c.def_ 24 (d := d__law_wrapped) rfl
  have Hd := ok_draw (P := P) (w := w) (base := base) T
  refine ⟨fd, F.ok scWrap (fun vs H Q E h => ?_) (fun cdv A outer s H vs Q E hr h => ?_), FunD.bindsN F fun _ _ _ _ _ _ us hl => match us, hl with | [_, _, _], _ => rfl, F.kp, (T.glo 38 rfl)⟩
  · obtain ⟨a, v, d, n, rfl, _⟩ := h
    rfl
  · refine ⟨_, PSs.nox (pss_cons (ps_for PassesOwn.never rfl (pi_range1 (by rfl) (T.free 60 rfl) (pa_cons (pv 2) pa_nil)) (pg_name (i := 3) scWrap.nd rfl (Or.inl rfl))
 (pss_cons (ps_set (i := 4) scWrap.nd rfl (Or.inl rfl) (pe_has Hd (hr.mono (by decide)) pass0 (pa_cons (pv 0) (pa_cons pe_int pa_nil))))
 (pss_one (ps_if (pt_cmpR op_eq (pv 4) pe_int (nomark _))
 (pss_one (ps_set (i := 1) scWrap.nd rfl (Or.inl rfl) (pe_tup (pa_cons pe_non (pa_cons (pv 1) pa_nil)))))
 (pss_one (ps_if (pt_cmpR op_eq (pv 4) pe_int (nomark _))
 (pss_one (ps_set (i := 1) scWrap.nd rfl (Or.inl rfl) (pe_tup (pa_cons (pv 1) (pa_cons pe_str (pa_cons (pe_un un_neg pe_int) pa_nil))))))
 (pss_one (ps_set (i := 1) scWrap.nd rfl (Or.inl rfl) (pe_tup (pa_cons (pv 1) pa_nil))))))))))
 (pss_one (ps_ret (pv 1)))), ?_⟩
    obtain ⟨a, v, d, n, rfl, hd, n1, dx, hQ⟩ := h
    refine ⟨_, rfl, _, rfl, by omega, by omega, ?_⟩
    rw [Int.toNat_natCast]
    refine for_it (walk_range (lo := 0) (n := n)) (fun i σ H' => Go a H H' ∧ ∃ v' d' o3 o4, σ = [some (.ref a), some v', some (.int ((n : Nat) : Int)), o3, o4] ∧ Dx (delH H' a) v' d' ∧ Wr i d d') ⟨Go.refl hd, v, d, _, _, rfl, dx, .zero⟩ (fun _ _ _ _ _ => True.intro) ?_ ?_
    · rintro i x σ H1 H2 hi ⟨g1, v', d', o3, o4, rfl, dx', wr⟩ ⟨rfl, rfl⟩
      refine ⟨_, rfl, a, 6, rfl, g1.hd, by decide, by decide, fun H3 kd hd3 e3 c3 k0 k1 => ?_⟩
      have g3 := g1.trans (Go.draw hd3 e3 c3)
      have dx3 := (Go.draw hd3 e3 c3).dx dx'
      have mk : ∀ (t : Addr) (us : List V) (ds : List PyData), H3 t = none → DxAll (delH H3 a) us ds → Go a H (upd H3 t (.tup us)) ∧ Dx (delH (upd H3 t (.tup us)) a) (.ref t) (.tuple ds) := fun t us ds nt ua => by
        have s4 := same_new (o := HO.tup us) nt
        exact ⟨g3.trans (Go.new hd3 s4), .tup (by rw [delH_ne (hd3.ne_new nt)]; exact upd_same) (DxAll.same (same_del s4) _ _ ua)⟩
      refine ⟨_, rfl, rfl, _, rfl, ite2 (fun e => ?_) (fun e => ?_)⟩
      · refine ⟨_, rfl, (by show 2 ≤ sizeLine; decide), fun t nt => ?_⟩
        obtain ⟨g4, d4⟩ := mk t _ _ nt (.cons .non (.cons dx3 .nil))
        exact ⟨g4, _, _, _, _, rfl, d4, .one wr⟩
      refine ⟨_, rfl, rfl, _, rfl, ite2 (fun e => ?_) (fun e => ?_)⟩
      · refine ⟨_, rfl, _, rfl, (by show 3 ≤ sizeLine; decide), fun t nt => ?_⟩
        obtain ⟨g4, d4⟩ := mk t _ _ nt (.cons dx3 (.cons (.str "a") (.cons (.int (-3)) .nil)))
        exact ⟨g4, _, _, _, _, rfl, d4, .two wr⟩
      · refine ⟨_, rfl, (by show 1 ≤ sizeLine; decide), fun t nt => ?_⟩
        obtain ⟨g4, d4⟩ := mk t _ _ nt (.cons dx3 .nil)
        exact ⟨g4, _, _, _, _, rfl, d4, .three wr⟩
    · rintro σ H1 ⟨g1, v', d', o3, o4, rfl, dx', wr⟩
      exact ⟨_, rfl, hQ _ _ _ g1 dx' wr⟩
end
end K53

set_option maxHeartbeats 4000000
namespace K53
open PySem PySem.Spec PyProof.Rows L2 V1 V2 V3 V7 V8 CwR
open Evl (pss_cut tCut sq_of st_of)
open TL (numL numL_digits numL_ne numL_val numL_len numL_lt numL_step tl_num)
mutual
/-- the signs of the text of a thing, however deep -/
def wtext : PyData → List Nat
  | .tuple ds => 40 :: (joinC (wtexts ds) ++ [41])
  | .none => (leafT .none).cps.toList
  | .bool b => (leafT (.bool b)).cps.toList
  | .int i => (leafT (.int i)).cps.toList
  | .str x => (leafT (.str x)).cps.toList
  | _ => []
def wtexts : List PyData → List (List Nat)
  | [] => []
  | d :: ds => wtext d :: wtexts ds
end
theorem wtexts_len : ∀ ds : List PyData, (wtexts ds).length = ds.length
  | [] => rfl
  | d :: ds => by rw [wtexts, List.length_cons, List.length_cons, wtexts_len ds]
mutual
theorem textC_eq : ∀ (d : PyData) (n : Nat), textC n d = if (tupD d && decide (depthT d ≤ n)) = true then some (wtext d) else none
  | .none, n => by cases n <;> rfl
  | .bool b, n => by cases n <;> rfl
  | .int i, n => by cases n <;> rfl
  | .str x, n => by cases n <;> rfl
  | .list ds, n => by cases n <;> rfl
  | .dict ds, n => by cases n <;> rfl
  | .tuple ds, 0 => by
    rw [show (tupD (.tuple ds) && decide (depthT (.tuple ds) ≤ 0)) = false from by
      rw [decide_eq_false (by show ¬ 1 + depthTs ds ≤ 0; omega), Bool.and_false]]
    rfl
  | .tuple ds, n + 1 => by
    rw [textC, textCs_eq ds n]
    have z : (tupD (.tuple ds) && decide (depthT (.tuple ds) ≤ n + 1)) = (tupDs ds && decide (depthTs ds ≤ n)) := by
      show (tupDs ds && decide (1 + depthTs ds ≤ n + 1)) = _
      congr 1
      exact decide_eq_decide.mpr (by omega)
    rw [z]
    split
    · rfl
    · rfl
theorem textCs_eq : ∀ (ds : List PyData) (n : Nat), textCs n ds = if (tupDs ds && decide (depthTs ds ≤ n)) = true then some (wtexts ds) else none
  | [], n => by
    rw [textCs, show (tupDs [] && decide (depthTs [] ≤ n)) = true from by
      rw [decide_eq_true (by show 0 ≤ n; omega)]
      rfl]
    rfl
  | d :: ds, n => by
    rw [textCs, textC_eq d n, textCs_eq ds n]
    have z : (tupDs (d :: ds) && decide (depthTs (d :: ds) ≤ n)) = ((tupD d && decide (depthT d ≤ n)) && (tupDs ds && decide (depthTs ds ≤ n))) := by
      show ((tupD d && tupDs ds) && decide (max (depthT d) (depthTs ds) ≤ n)) = _
      rw [decide_eq_decide.mpr (Nat.max_le), Bool.decide_and]
      cases tupD d <;> cases tupDs ds <;> cases decide (depthT d ≤ n) <;> rfl
    rw [z]
    cases (tupD d && decide (depthT d ≤ n)) with
    | false => rfl
    | true =>
      cases (tupDs ds && decide (depthTs ds ≤ n)) with
      | false => rfl
      | true => rfl
end
theorem wtexts_app : ∀ (a b : List PyData), wtexts (a ++ b) = wtexts a ++ wtexts b
  | [], _ => rfl
  | d :: a, b => by
    show wtext d :: wtexts (a ++ b) = _
    rw [wtexts_app a b]
    rfl
theorem goodDs_mem : ∀ {ds : List PyData} {d : PyData}, goodDs ds = true → d ∈ ds → goodD d = true
  | e :: ds, d, h, m => by
    simp only [goodDs, Bool.and_eq_true] at h
    rcases List.mem_cons.mp m with rfl | m
    · exact h.1
    · exact goodDs_mem h.2 m
theorem esc1_len (k : Nat) : (esc1 k).length ≤ 2 := by
  unfold esc1
  split
  · exact Nat.le_refl _
  · split
    · exact Nat.le_refl _
    · split
      · exact Nat.le_refl _
      · exact Nat.le_succ _
theorem esc_len : ∀ xs : List Nat, (xs.flatMap esc1).length ≤ 2 * xs.length
  | [] => Nat.le_refl _
  | c :: xs => by
    have := esc_len xs
    have := esc1_len c
    rw [List.flatMap_cons, List.length_append, List.length_cons]
    omega
theorem leaf_len {d : PyData} (lf : leafD d = true) (g : goodLeaf d = true) : (leafT d).cps.toList.length ≤ mass d := by
  cases d with
  | none => decide
  | bool b => cases b <;> decide
  | int j =>
    have g2 : j.natAbs < 10 ^ 20 := of_decide_eq_true g
    by_cases h : 0 ≤ j
    · obtain ⟨n, rfl⟩ := Int.eq_ofNat_of_zero_le h
      rw [int_nat]
      have := numL_len (n := n) (k := 20) (by decide) (by simpa using g2)
      show _ ≤ 30
      omega
    · obtain ⟨n, rfl⟩ : ∃ n : Nat, j = -((n + 1 : Nat) : Int) := ⟨j.natAbs - 1, by omega⟩
      rw [int_neg, List.length_cons]
      rw [Int.natAbs_neg, Int.natAbs_natCast] at g2
      have := numL_len (n := n + 1) (k := 20) (by decide) g2
      show _ ≤ 30
      omega
  | str x =>
    rw [str_text]
    have := esc_len x.cps.toList
    have e : x.cps.toList.length = x.length := by simp [Str.length]
    simp only [List.length_cons, List.length_append, List.length_nil]
    show _ ≤ 2 * x.length + 4
    omega
  | _ => cases lf
mutual
theorem wtext_len : ∀ (d : PyData), goodD d = true → (wtext d).length ≤ mass d
  | .none, g => leaf_len (d := .none) rfl rfl
  | .bool b, g => leaf_len (d := .bool b) rfl rfl
  | .int i, g => leaf_len (d := .int i) rfl g
  | .str x, g => leaf_len (d := .str x) rfl g
  | .list ds, _ => Nat.zero_le _
  | .dict ds, _ => Nat.zero_le _
  | .tuple ds, g => by
    have := wtexts_sum ds g
    simp only [wtext, List.length_cons, List.length_append, List.length_nil, mass]
    omega
theorem wtexts_sum : ∀ (ds : List PyData), goodDs ds = true → (joinC (wtexts ds)).length ≤ masss ds
  | [], _ => Nat.le_refl _
  | d :: ds, g => by
    simp only [goodDs, Bool.and_eq_true] at g
    have h1 := wtext_len d g.1
    have h2 := wtexts_sum ds g.2
    rw [wtexts, masss]
    cases e : wtexts ds with
    | nil =>
      show (wtext d).length ≤ _
      omega
    | cons y ys =>
      rw [e] at h2
      show (wtext d ++ 44 :: joinC (y :: ys)).length ≤ _
      rw [List.length_append, List.length_cons]
      omega
end
theorem joinC_L : ∀ xs : List (List Nat), TL.joinL [44] xs = joinC xs
  | [] => rfl
  | [x] => rfl
  | x :: y :: r => by
    have ih := joinC_L (y :: r)
    show x ++ ([44] ++ TL.joinL [44] (y :: r)) = x ++ 44 :: joinC (y :: r)
    rw [ih]
    rfl
theorem join_comma (xs : List (List Nat)) : Txt.join (Str.ofString ",") (xs.map fun x => (⟨x.toArray⟩ : Str)) = ⟨(joinC xs).toArray⟩ := by
  have z := SX.join_S [44] xs
  rw [joinC_L] at z
  exact z
theorem joinC_len : ∀ xs : List (List Nat), ((xs.map fun x => (⟨x.toArray⟩ : Str)).map (·.length)).sum + xs.length ≤ (joinC xs).length + 1
  | [] => by decide
  | [x] => by
    show x.toArray.size + 0 + 1 ≤ x.length + 1
    simp
  | x :: y :: r => by
    have ih := joinC_len (y :: r)
    show x.toArray.size + (((y :: r).map fun x => (⟨x.toArray⟩ : Str)).map (·.length)).sum + ((y :: r).length + 1) ≤ (x ++ 44 :: joinC (y :: r)).length + 1
    generalize (((y :: r).map fun x => (⟨x.toArray⟩ : Str)).map (·.length)).sum = s at ih ⊢
    rw [List.length_append, List.length_cons (a := 44), List.size_toArray]
    omega
theorem depthTs_in : ∀ ds : List PyData, ((depthTs ds : Nat) : Int) ∈ (0 :: ds.map fun d => ((depthT d : Nat) : Int))
  | [] => List.mem_cons_self
  | d :: ds => by
    have ih := depthTs_in ds
    rw [depthTs, List.map_cons]
    by_cases h : depthT d ≤ depthTs ds
    · rw [Nat.max_eq_right h]
      rcases List.mem_cons.mp ih with h | h
      · rw [h]
        exact List.mem_cons_self
      · exact List.mem_cons_of_mem _ (List.mem_cons_of_mem _ h)
    · rw [Nat.max_eq_left (by omega)]
      exact List.mem_cons_of_mem _ List.mem_cons_self
theorem lc_putL {D : Addr} {Pv : Nat → List V → Hp → Prop} {i : Nat} {H : Hp} {acc : List V} {y : V} (l : acc.length ≤ i) (z : i < sizeLine) (e : H D = some (.lst acc)) (p : Pv (i + 1) (acc ++ [y]) (delH H D)) :
    ∃ acc, H D = some (.lst acc) ∧ acc.length < sizeLine ∧ Lc D Pv (i + 1) (upd H D (.lst (acc ++ [y]))) :=
  ⟨acc, e, Nat.lt_of_le_of_lt l z, acc ++ [y], by rw [List.length_append]; simp; omega, upd_same, by rw [delH_upd]; exact p⟩
section
variable [CurK]
def spDepth : Nat → Sp
  | 0 => fun _ _ _ _ => False
  | n + 1 => fun vs H Q _ => ∃ v d, vs = [v] ∧ Dx H v d ∧ depthT d ≤ n ∧ mass d ≤ 10000000 ∧ ∀ H', Same H H' → Q (.int ((depthT d : Nat) : Int)) H'
def spWr : Nat → Sp
  | 0 => fun _ _ _ _ => False
  | n + 1 => fun vs H Q _ => ∃ v d, vs = [v] ∧ Dx H v d ∧ tupD d = true ∧ goodD d = true ∧ okD d = true ∧ depthT d ≤ n ∧ mass d ≤ 1000000 ∧ ∀ H', Same H H' → Q (.str ⟨(wtext d).toArray⟩) H'
end
theorem scDepth : FnScope ["thing", "one"] ["thing"] (defScope s__law_depth) := ⟨rfl, rfl, rfl, by decide +kernel, rfl, by decide +kernel, by decide +kernel⟩
theorem scWritten : FnScope ["thing", "one"] ["thing"] (defScope s__law_written) := ⟨rfl, rfl, rfl, by decide +kernel, rfl, by decide +kernel, by decide +kernel⟩
section
variable [CurK] {P : Program} {w : World} {mg : Str → Option Value} {base : Heap}
theorem ok_depth (T : Tx K w mg) : ∀ n : Nat, Has P w K mg base CX0 (n + 1) "_law_depth" ["thing"] (spDepth n)
  | 0 => by
    obtain ⟨fd, F⟩ := T.c.def_ 23 (d := d__law_depth) rfl
    exact ⟨fd, ⟨fun _ _ _ _ h => h.elim, fun _ _ _ _ _ _ _ _ _ _ _ _ _ h => h.elim⟩, FunD.bindsN F fun _ _ _ _ _ _ us hl => match us, hl with | [_], _ => rfl, F.kp, (T.glo 37 rfl)⟩
  | n + 1 => by
    obtain ⟨fd, F⟩ := T.c.def_ 23 (d := d__law_depth) rfl
    have Hr := ok_depth T n
    refine ⟨fd, F.ok scDepth (fun vs H Q E h => ?_) (fun cdv A outer s H vs Q E hr h => ?_), FunD.bindsN F fun _ _ _ _ _ _ us hl => match us, hl with | [_], _ => rfl, F.kp, (T.glo 37 rfl)⟩
    · obtain ⟨v, d, rfl, _⟩ := h
      rfl
    · refine ⟨_, PSs.nox (pss_cons (ps_if (pt_not (pt_val (pe_callB call_isi (by rfl) (T.free 55 rfl) (by decide +kernel) (pa_cons (pv 0) (pa_cons (pe_bltn (v := .ty "tuple") (by rfl) (T.free 62 rfl) (by decide +kernel) rfl) pa_nil)))))
 (pss_one (ps_ret pe_int))
 pss_nil)
 (pss_one (ps_ret (pe_op op_add pe_int (pe_callB (cr_max rfl) (by rfl) (T.free 58 rfl) (by decide +kernel) (pa_cons (pe_op op_cat (pe_lstS (pa_cons pe_int pa_nil)) (pe_lc (own := [("one", 1)]) (g := gName 1) (tt := tYes) (te := tCall (spDepth n) [] (fun _ _ _ => False) (tCons (tVar 1) tNil)) (by rfl) scDepth.nd (pi_tup (pv 0))
 (blkOk_by (own := [("one", 1)]) (N := ["thing", "one"]) (sc := defScope s__law_depth) (by decide +kernel)) (fun _ _ _ _ _ => pg_name (i := 1) scDepth.nd rfl (Or.inl rfl)) (fun _ _ _ _ _ => pts_nil) (fun _ _ _ _ _ => (pe_has Hr (hr) pass0 (pa_cons (pv 1) pa_nil))))) pa_nil)))))), ?_⟩
      obtain ⟨v, d, rfl, hd, dp, ms, hQ⟩ := h
      refine isx_go (kx_tup d) (fun Q q => ⟨v, rfl, q⟩) hd ⟨_, rfl, ?_⟩
      cases tp : isTup d with
      | false =>
        have z : depthT d = 0 := by cases d <;> first | rfl | cases tp
        rw [z] at hQ
        exact iteT (hQ H (Same.refl _))
      | true =>
        obtain ⟨ds, rfl⟩ := isTup_tup tp
        have dp1 : 1 + depthTs ds ≤ n := dp
        obtain ⟨n, rfl⟩ : ∃ m, n = m + 1 := ⟨n - 1, by omega⟩
        have ms1 : 4 + masss ds ≤ 10000000 := ms
        obtain ⟨a, us, rfl, ea, dus⟩ := hd.tup_inv
        have lus := dxAll_len dus
        have ml := masss_len ds
        refine iteF ⟨(by show 1 ≤ sizeLine; decide), fun q nq _ => ?_⟩
        have s1 := same_new (o := HO.lst [.int 0]) nq
        have eq1 : upd H q (HO.lst [.int 0]) q = some (.lst [.int 0]) := upd_same
        generalize upd H q (HO.lst [.int 0]) = H1 at s1 eq1 ⊢
        refine ⟨_, rfl, a, rfl, ⟨_, st_of (s1 _ _ ea)⟩, fun D nD => ?_⟩
        refine lc_gen (σ := [some (.ref a), none]) (vs := [1]) (walk_tup (K := K) (a := a) (xs := us)) nD (fun i acc H' => Same H1 H' ∧ acc = ((ds.take i).map fun d => ((depthT d : Nat) : Int)).map V.int) ⟨Same.refl _, rfl⟩ (fun i acc H' _ z => st_of (same_delH _ _ (z.1 _ _ (s1 _ _ ea)))) ?_ ?_
        · rintro i acc x H3 H4 hi l e ⟨sm, rfl⟩ ⟨rfl, hx⟩
          refine ⟨rfl, ?_⟩
          simp only [tYes, if_true]
          have hi2 : i < ds.length := by omega
          have di : ds[i]? = some ds[i] := List.getElem?_eq_getElem hi2
          have up : Same H H4 := s1.trans (sm.trans same_delH)
          have mm := List.getElem_mem hi2
          refine ⟨_, rfl, _, ds[i], rfl, (dus.at hx di).sm up, by have := depthTs_mem mm; omega, by have := masss_mem mm; omega, fun H5 s5 => ?_⟩
          refine lc_putL l (by rw [sizeLine_eq]; omega) (s5 _ _ e) ⟨sm.trans (same_del s5), ?_⟩
          rw [List.take_succ, di, List.map_append, List.map_append]
          rfl
        · rintro acc H3 l e ⟨sm, rfl⟩
          have s3 : Same H1 H3 := sm.trans same_delH
          rw [lus, List.take_length] at e
          refine ⟨q, D, _, _, rfl, rfl, s3 _ _ eq1, e, by rw [List.length_map, List.length_map, sizeLine_eq]; simp only [List.length_cons, List.length_nil]; omega, fun p np => ?_⟩
          refine ⟨p, 0 :: ds.map fun d => ((depthT d : Nat) : Int), rfl, sq_of upd_same, by simp, fun m hm hle => ⟨1, m, rfl, rfl, ?_⟩⟩
          have z : m = ((depthTs ds : Nat) : Int) := Int.le_antisymm (by
            rcases List.mem_cons.mp hm with rfl | hm
            · omega
            · obtain ⟨d, hd, rfl⟩ := List.mem_map.mp hm
              have := depthTs_mem hd
              omega) (hle _ (depthTs_in ds))
          rw [z]
          exact hQ _ ((s1.trans s3).trans (same_new np))
theorem ok_written (T : Tx K w mg) : ∀ n : Nat, Has P w K mg base CX0 (n + 1) "_law_written" ["thing"] (spWr n)
  | 0 => by
    obtain ⟨fd, F⟩ := T.c.def_ 25 (d := d__law_written) rfl
    exact ⟨fd, ⟨fun _ _ _ _ h => h.elim, fun _ _ _ _ _ _ _ _ _ _ _ _ _ h => h.elim⟩, FunD.bindsN F fun _ _ _ _ _ _ us hl => match us, hl with | [_], _ => rfl, F.kp, (T.glo 39 rfl)⟩
  | n + 1 => by
    obtain ⟨fd, F⟩ := T.c.def_ 25 (d := d__law_written) rfl
    have Hr := ok_written T n
    refine ⟨fd, okT F scWritten (by decide +kernel) (by decide) (fun vs H Q E h => ?_) (fun cdv A outer s H vs Q E hr h => ?_), FunD.bindsN F fun _ _ _ _ _ _ us hl => match us, hl with | [_], _ => rfl, F.kp, (T.glo 39 rfl)⟩
    · obtain ⟨v, d, rfl, _⟩ := h
      rfl
    · refine ⟨_, (psst_cons (PST.of (ps_if (pt_cmpR op_isN (pv 0) pe_non (nomark _))
 (pss_one (ps_ret pe_str))
 pss_nil))
 (psst_cons (PST.of (ps_if (pt_val (pe_callB call_isi (by rfl) (T.free 55 rfl) (by decide +kernel) (pa_cons (pv 0) (pa_cons (pe_bltn (v := .ty "bool") (by rfl) (T.free 52 rfl) (by decide +kernel) rfl) pa_nil))))
 (pss_one (ps_ret (pe_ifExp (pt_val (pv 0)) pe_str pe_str)))
 pss_nil))
 (psst_cons (PST.of (ps_if (pt_val (pe_callB call_isi (by rfl) (T.free 55 rfl) (by decide +kernel) (pa_cons (pv 0) (pa_cons (pe_bltn (v := .ty "int") (by rfl) (T.free 54 rfl) (by decide +kernel) rfl) pa_nil))))
 (pss_one (ps_ret (pe_callTy call_str_int (by rfl) (T.free 61 rfl) (by decide +kernel) (pa_cons (pv 0) pa_nil))))
 pss_nil))
 (psst_cons (PST.of (ps_if (pt_val (pe_callB call_isi (by rfl) (T.free 55 rfl) (by decide +kernel) (pa_cons (pv 0) (pa_cons (pe_bltn (v := .ty "tuple") (by rfl) (T.free 62 rfl) (by decide +kernel) rfl) pa_nil))))
 (pss_one (ps_ret (pe_op op_add_str (pe_op op_add_str pe_str (pe_join pe_str (pe_lc (own := [("one", 1)]) (g := gName 1) (tt := tYes) (te := tCall (spWr n) [] (fun _ _ _ => False) (tCons (tVar 1) tNil)) (by rfl) scWritten.nd (pi_tup (pv 0))
 (blkOk_by (own := [("one", 1)]) (N := ["thing", "one"]) (sc := defScope s__law_written) (by decide +kernel)) (fun _ _ _ _ _ => pg_name (i := 1) scWritten.nd rfl (Or.inl rfl)) (fun _ _ _ _ _ => pts_nil) (fun _ _ _ _ _ => (pe_has Hr (hr) pass0 (pa_cons (pv 1) pa_nil)))))) pe_str)))
 pss_nil))
 (psst_one (pst_ret (pet_op op_add_str (pet_op op_add_str (PET.of pe_str) (pet_replT (pet_replT (pet_replC (pv 0))))) (PET.of pe_str)))))))), ?_⟩
      obtain ⟨v, d, rfl, hd, td, gd, od, dp, ms, hQ⟩ := h
      have hQ0 := hQ H (Same.refl _)
      refine ⟨_, rfl, rfl, ?_⟩
      have hd' := hd
      cases d with
      | none =>
        obtain rfl := hd.none_inv
        exact ⟨true, rfl, iteT hQ0⟩
      | bool b =>
        obtain rfl := hd.bool_inv
        refine ⟨false, rfl, iteF ?_⟩
        show tCB (rIsi K) (tCons (tVar 0) (tCons (tC (.ty "bool")) tNil)) _ H _
        refine isx_go (kx_bool _) (fun Q q => ⟨_, rfl, q⟩) hd' ⟨true, rfl, iteT ?_⟩
        refine ⟨_, rfl, b, rfl, ?_⟩
        cases b with
        | true => exact iteT hQ0
        | false => exact iteF hQ0
      | int i =>
        obtain rfl := hd.int_inv
        refine ⟨false, rfl, iteF ?_⟩
        show tCB (rIsi K) (tCons (tVar 0) (tCons (tC (.ty "bool")) tNil)) _ H _
        refine isx_go (kx_bool _) (fun Q q => ⟨_, rfl, q⟩) hd' ⟨false, rfl, iteF ?_⟩
        show tCB (rIsi K) (tCons (tVar 0) (tCons (tC (.ty "int")) tNil)) _ H _
        refine isx_go (kx_int _) (fun Q q => ⟨_, rfl, q⟩) hd' ⟨true, rfl, iteT ?_⟩
        have l : i.natAbs.log2 < 1900 := of_decide_eq_true od
        exact ⟨_, rfl, i, rfl, by omega, hQ0⟩
      | str x =>
        obtain rfl := hd.str_inv
        refine ⟨false, rfl, iteF ?_⟩
        show tCB (rIsi K) (tCons (tVar 0) (tCons (tC (.ty "bool")) tNil)) _ H _
        refine isx_go (kx_bool _) (fun Q q => ⟨_, rfl, q⟩) hd' ⟨false, rfl, iteF ?_⟩
        show tCB (rIsi K) (tCons (tVar 0) (tCons (tC (.ty "int")) tNil)) _ H _
        refine isx_go (kx_int _) (fun Q q => ⟨_, rfl, q⟩) hd' ⟨false, rfl, iteF ?_⟩
        show tCB (rIsi K) (tCons (tVar 0) (tCons (tC (.ty "tuple")) tNil)) _ H _
        refine isx_go (kx_tup _) (fun Q q => ⟨_, rfl, q⟩) hd' ⟨false, rfl, iteF ?_⟩
        have l0 : x.length ≤ 100000 := of_decide_eq_true od
        have l1 := rep_len x (Str.ofString "~") (Str.ofString "~~") 100000 l0 (by decide)
        have l2 := rep_len _ (Str.ofString "'") (Str.ofString "~'") _ l1 (by decide)
        have l3 := rep_len _ (Str.ofString "\n") (Str.ofString "~n") _ l2 (by decide)
        have z1 : (Str.ofString "'").length = 1 := rfl
        have z2 : (Str.ofString "~~").length = 2 := rfl
        have z3 : (Str.ofString "~'").length = 2 := rfl
        have z4 : (Str.ofString "~n").length = 2 := rfl
        refine ⟨_, rfl, x, rfl, by rw [z2]; omega, _, rfl, by rw [z3]; omega, _, rfl, by rw [z4]; omega, _, _, rfl, rfl, ?_, _, _, rfl, rfl, ?_, hQ0⟩
        · rw [sizeLine_eq]
          omega
        · rw [sizeLine_eq, V6.len_app]
          omega
      | tuple ds =>
        refine ⟨false, by obtain ⟨a, us, rfl, _⟩ := hd.tup_inv; rfl, iteF ?_⟩
        show tCB (rIsi K) (tCons (tVar 0) (tCons (tC (.ty "bool")) tNil)) _ H _
        refine isx_go (kx_bool _) (fun Q q => ⟨_, rfl, q⟩) hd' ⟨false, rfl, iteF ?_⟩
        show tCB (rIsi K) (tCons (tVar 0) (tCons (tC (.ty "int")) tNil)) _ H _
        refine isx_go (kx_int _) (fun Q q => ⟨_, rfl, q⟩) hd' ⟨false, rfl, iteF ?_⟩
        show tCB (rIsi K) (tCons (tVar 0) (tCons (tC (.ty "tuple")) tNil)) _ H _
        refine isx_go (kx_tup _) (fun Q q => ⟨_, rfl, q⟩) hd' ⟨true, rfl, iteT ?_⟩
        obtain ⟨a, us, rfl, ea, dus⟩ := hd.tup_inv
        have dp1 : 1 + depthTs ds ≤ n := dp
        obtain ⟨n, rfl⟩ : ∃ m, n = m + 1 := ⟨n - 1, by omega⟩
        have ms1 : 4 + masss ds ≤ 1000000 := ms
        have lus := dxAll_len dus
        have ml := masss_len ds
        have gds : goodDs ds = true := gd
        have wl := wtexts_sum ds gds
        refine ⟨⟨_, rfl⟩, _, rfl, a, rfl, ⟨_, st_of ea⟩, fun D nD => ?_⟩
        refine lc_gen (σ := [some (.ref a), none]) (vs := [1]) (walk_tup (K := K) (a := a) (xs := us)) nD (fun i acc H' => Same H H' ∧ acc = ((wtexts (ds.take i)).map fun x => (⟨x.toArray⟩ : Str)).map V.str) ⟨Same.refl _, rfl⟩ (fun i acc H' _ z => st_of (same_delH _ _ (z.1 _ _ ea))) ?_ ?_
        · rintro i acc x H3 H4 hi l e ⟨sm, rfl⟩ ⟨rfl, hx⟩
          refine ⟨rfl, ?_⟩
          simp only [tYes, if_true]
          have hi2 : i < ds.length := by omega
          have di : ds[i]? = some ds[i] := List.getElem?_eq_getElem hi2
          have up : Same H H4 := sm.trans same_delH
          have mm := List.getElem_mem hi2
          refine ⟨_, rfl, _, ds[i], rfl, (dus.at hx di).sm up, tupDs_mem td mm, goodDs_mem gds mm, okDs_all od _ mm, by have := depthTs_mem mm; omega, by have := masss_mem mm; omega, fun H5 s5 => ?_⟩
          refine lc_putL l (by rw [sizeLine_eq]; omega) (s5 _ _ e) ⟨sm.trans (same_del s5), ?_⟩
          rw [List.take_succ, di, wtexts_app, List.map_append, List.map_append]
          rfl
        · rintro acc H3 l e ⟨sm, rfl⟩
          have s3 : Same H H3 := sm.trans same_delH
          rw [lus, List.take_length] at e
          have jl := joinC_len (wtexts ds)
          refine ⟨_, D, _, rfl, rfl, .inl (sq_of e), ?_, ?_⟩
          · rw [List.length_map, show (Str.ofString ",").length = 1 from rfl]
            omega
          · rw [join_comma]
            have e1 : (⟨(joinC (wtexts ds)).toArray⟩ : Str).length = (joinC (wtexts ds)).length := by simp [Str.length]
            refine ⟨_, _, rfl, rfl, ?_, _, _, rfl, rfl, ?_, ?_⟩
            · rw [e1, sizeLine_eq, show (Str.ofString "(").length = 1 from rfl]
              omega
            · rw [V6.len_app, e1, sizeLine_eq, show (Str.ofString "(").length = 1 from rfl, show (Str.ofString ")").length = 1 from rfl]
              omega
            · have z : (Str.ofString "(") ++ (⟨(joinC (wtexts ds)).toArray⟩ : Str) ++ (Str.ofString ")") = ⟨(wtext (.tuple ds)).toArray⟩ := by
                show (⟨#[40] ++ (joinC (wtexts ds)).toArray ++ #[41]⟩ : Str) = ⟨(40 :: (joinC (wtexts ds) ++ [41])).toArray⟩
                simp
              rw [z]
              exact hQ _ s3
      | list ds => cases td
      | dict ds => cases td
end
end K53

set_option maxHeartbeats 4000000
/-! V8d: list(text). -/
namespace V8
open PySem PySem.Spec PyProof.Rows L2 V1 V2 V3 V5 V7
def rListS : List V → Hp → VK → Prop := fun xs H Q => ∃ z : Str, xs = [.str z] ∧ z.length ≤ sizeLine ∧ ∀ q, H q = none → (q == sysModules) = false → Q (.ref q) (upd H q (.lst (z.cps.toList.map fun c => V.str ⟨#[c]⟩)))
theorem call_listS {X : Cx} (hc : X.calm = true) : CallR X (.type "list") rListS := by
  rintro pins s σ H xs us Q I r ⟨z, rfl, hz, q⟩
  obtain ⟨u, rfl, rx⟩ := vals1 r
  obtain ⟨t, rfl⟩ := rx
  refine PySem.call_list_str (I.ok.hd hc) z t (fun h' tk acc' c' hk hS hacc => ?_) hz
  refine ⟨.ref s.heap.objs.size, upd H s.heap.objs.size (.lst (z.cps.toList.map fun c => V.str ⟨#[c]⟩)), I.laid hk (Nat.le_refl _) (show ObjOk X.prog X.w _ _ _ (.lst (z.cps.toList.map fun c => V.str ⟨#[c]⟩)) from ⟨?_, acc'.toList, c', ?_, ?_⟩), rfl, q _ (I.hok.fresh (Nat.le_refl _)) (beq_eq_false_iff_ne.mpr (Nat.ne_of_gt I.big))⟩
  · rw [List.length_map]
    exact hz
  · refine vals_of_idx _ _ (by rw [List.length_map, Array.length_toList, Array.length_toList]; exact hacc.1) fun j u hj => ?_
    obtain ⟨c, tk2, e1, rfl⟩ := hacc.2 j u (by rw [← Array.getElem?_toList]; exact hj)
    exact ⟨.str ⟨#[c]⟩, by rw [List.getElem?_map, Array.getElem?_toList, e1]; rfl, ⟨_, rfl⟩⟩
  · rw [Array.toArray_toList]
    exact hS
end V8

set_option maxHeartbeats 4000000
namespace K53
open PySem PySem.Spec PyProof.Rows L2 V1 V2 V3 V7 V8 CwR
open Evl (pss_cut tCut sq_of st_of)
section
variable [CurK]
/-- what the law's own reading of an item tells -/
def lwQ (H : Hp) (Q : VK) : LR → Prop
  | .ok d _ i => ∀ H' p v, Same H H' → H' p = some (.tup [.int ((i : Nat) : Int), v, .bl true]) → Dx H' v d → Q (.ref p) H'
  | .bad j => ∀ H' p, Same H H' → H' p = some (.tup [.int ((j : Nat) : Int), .non, .bl false]) → Q (.ref p) H'
def spSin : Sp := fun vs H Q _ => ∃ (x : Str) (i : Nat) (c : Nat) (l : List Nat), vs = [.str x, .int ((i : Nat) : Int)] ∧ x.length ≤ most ∧ GdS x = true ∧ x.cps.toList.drop i = c :: l ∧ lwQ H Q (strR false [] l (i + 1))
def spWin : Sp := fun vs H Q _ => ∃ (x : Str) (i : Nat) (c : Nat) (l ws : List Nat) (b : Bool), vs = [.str x, .int ((i : Nat) : Int), .str ⟨ws.toArray⟩, .bl b] ∧ x.length ≤ most ∧ ws.length ≤ 10 ∧ x.cps.toList.drop i = c :: l ∧ lwQ H Q (wordR ws (c :: l) i (.bool b))
end
theorem scSin : FnScope ["text", "at", "found", "tilde", "place", "sign"] ["text", "at"] (defScope s__law_string_in) := ⟨rfl, rfl, rfl, by decide +kernel, rfl, by decide +kernel, by decide +kernel⟩
theorem scWin : FnScope ["text", "at", "word", "thing", "k"] ["text", "at", "word", "thing"] (defScope s__law_word_in) := ⟨rfl, rfl, rfl, by decide +kernel, rfl, by decide +kernel, by decide +kernel⟩
theorem str_eqb (k e : Nat) : eqV (V.str ⟨#[k]⟩) (V.str ⟨#[e]⟩) = decide (k = e) := by
  show ((⟨#[k]⟩ : Str) == ⟨#[e]⟩) = decide (k = e)
  by_cases h : k = e
  · rw [h, decide_eq_true rfl]
    exact beq_self_eq_true _
  · rw [decide_eq_false h]
    refine beq_eq_false_iff_ne.mpr fun y => h ?_
    simpa using congrArg (fun q : Str => q.cps.toList) y
theorem in_tildes (e : Nat) : inV (V.str ⟨#[e]⟩) [V.str ⟨#[39]⟩, V.str ⟨#[126]⟩, V.str ⟨#[110]⟩] = (tilde e).isSome := by
  show (eqV (V.str ⟨#[39]⟩) (V.str ⟨#[e]⟩) || (eqV (V.str ⟨#[126]⟩) (V.str ⟨#[e]⟩) || (eqV (V.str ⟨#[110]⟩) (V.str ⟨#[e]⟩) || false))) = _
  rw [str_eqb, str_eqb, str_eqb]
  unfold tilde
  by_cases h1 : e = 126
  · subst h1
    decide
  · by_cases h2 : e = 39
    · subst h2
      decide
    · by_cases h3 : e = 110
      · subst h3
        decide
      · rw [if_neg h1, if_neg h2, if_neg h3, decide_eq_false (Ne.symm h1), decide_eq_false (Ne.symm h2), decide_eq_false (Ne.symm h3)]
        rfl
theorem gd_at {x : Str} (g : GdS x = true) {i c : Nat} (h : x.cps.toList[i]? = some c) : V6.prC c = true ∨ c = 10 := by
  have z := List.all_eq_true.mp g c (List.mem_of_getElem? h)
  simpa [gC] using z
section
variable [CurK] {P : Program} {w : World} {mg : Str → Option Value} {base : Heap}
theorem ok_sin (T : Tx K w mg) : Has P w K mg base CX0 1 "_law_string_in" ["text", "at"] spSin := by
  obtain ⟨fd, F⟩ := T.c.def_ 26 (d := d__law_string_in) rfl
  refine ⟨fd, F.ok scSin (fun vs H Q E h => ?_) (fun cdv A outer s H vs Q E hr h => ?_), FunD.bindsN F fun _ _ _ _ _ _ us hl => match us, hl with | [_, _], _ => rfl, F.kp, (T.glo 40 rfl)⟩
  · obtain ⟨x, i, c, l, rfl, _⟩ := h
    rfl
  · refine ⟨_, PSs.nox (pss_cons (ps_set (i := 2) scSin.nd rfl (Or.inl rfl) pe_str)
 (pss_cons (ps_set (i := 3) scSin.nd rfl (Or.inl rfl) pe_bl)
 (pss_cons (ps_for PassesOwn.never rfl (pi_range2 (by rfl) (T.free 60 rfl) (pa_cons (pe_op op_add (pv 1) pe_int) (pa_cons (pe_callB call_len (by rfl) (T.free 56 rfl) PySem.boot_len (pa_cons (pv 0) pa_nil)) pa_nil))) (pg_name (i := 4) scSin.nd rfl (Or.inl rfl))
 (pss_cons (ps_set (i := 5) scSin.nd rfl (Or.inl rfl) (pe_ix ix_str (pv 0) (pv 4) (fun _ _ => rfl)))
 (pss_one (ps_if (pt_val (pv 3))
 (pss_cons (ps_if (pt_cmpR op_notIn_seq (pv 5) (pe_lstS (pa_cons pe_str (pa_cons pe_str (pa_cons pe_str pa_nil)))) (by rfl))
 (pss_one (ps_ret (pe_tup (pa_cons (pv 4) (pa_cons pe_non (pa_cons pe_bl pa_nil))))))
 pss_nil)
 (pss_cons (ps_if (pt_cmpR op_eq (pv 5) pe_str (nomark _))
 (pss_one (ps_set (i := 5) scSin.nd rfl (Or.inl rfl) pe_str))
 pss_nil)
 (pss_cons (ps_set (i := 2) scSin.nd rfl (Or.inl rfl) (pe_op op_add_str (pv 2) (pv 5)))
 (pss_one (ps_set (i := 3) scSin.nd rfl (Or.inl rfl) pe_bl)))))
 (pss_one (ps_if (pt_cmpR op_eq (pv 5) pe_str (nomark _))
 (pss_one (ps_ret (pe_tup (pa_cons (pe_op op_add (pv 4) pe_int) (pa_cons (pv 2) (pa_cons pe_bl pa_nil))))))
 (pss_one (ps_if (pt_cmpR op_eq (pv 5) pe_str (nomark _))
 (pss_one (ps_ret (pe_tup (pa_cons (pv 4) (pa_cons pe_non (pa_cons pe_bl pa_nil))))))
 (pss_one (ps_if (pt_cmpR op_eq (pv 5) pe_str (nomark _))
 (pss_one (ps_set (i := 3) scSin.nd rfl (Or.inl rfl) pe_bl))
 (pss_one (ps_set (i := 2) scSin.nd rfl (Or.inl rfl) (pe_op op_add_str (pv 2) (pv 5))))))))))))))
 (pss_one (ps_ret (pe_tup (pa_cons (pe_callB call_len (by rfl) (T.free 56 rfl) PySem.boot_len (pa_cons (pv 0) pa_nil)) (pa_cons pe_non (pa_cons pe_bl pa_nil))))))))), ?_⟩
    obtain ⟨x, i, c, l, rfl, xl, gd, dr, hQ⟩ := h
    have d1 := drop_cons dr
    have xl2 : x.length ≤ sizeLine := Nat.le_trans xl (by decide)
    have xc : x.cps.toList.length = x.length := by simp [Str.length]
    have ll : i + 1 + l.length = x.length := by
      have z := congrArg List.length dr
      rw [List.length_drop, List.length_cons] at z
      omega
    have mostB : most = 12000000 := rfl
    refine ⟨_, rfl, _, _, rfl, rfl, _, rfl, _, _, rfl, ⟨xl2, rfl⟩, _, _, rfl, ⟨by omega, by omega, by omega, by omega⟩, ?_⟩
    rw [show (((x.length : Nat) : Int) - (((i : Nat) : Int) + 1)).toNat = l.length by omega]
    refine for_it walk_range (fun j σ H' => Same H H' ∧ ∃ (acc : List Nat) (t : Bool) (o4 o5 : Option V), σ = [some (.str x), some (.int ((i : Nat) : Int)), some (.str ⟨acc.toArray⟩), some (.bl t), o4, o5] ∧ acc.length ≤ j ∧ strR false [] l (i + 1) = strR t acc (l.drop j) (i + 1 + j)) ⟨Same.refl _, [], false, _, _, rfl, Nat.le_refl _, rfl⟩ (fun _ _ _ _ _ => True.intro) ?_ ?_
    · rintro j v σ H2 H1 hj ⟨sm, acc, t, o4, o5, rfl, al, es⟩ ⟨rfl, ev⟩
      obtain rfl : v = .int ((i + 1 + j : Nat) : Int) := ev.trans (congrArg V.int (by omega))
      have dj : x.cps.toList.drop (i + 1 + j) = l.drop j := by rw [← d1.1, List.drop_drop]
      obtain ⟨e, l2, el⟩ : ∃ e l2, l.drop j = e :: l2 := ⟨_, _, List.drop_eq_getElem_cons hj⟩
      rw [el] at dj es
      have d3 := drop_cons dj
      have lj : l.drop (j + 1) = l2 := (drop_cons el).1
      have acl : ∀ k : Nat, (⟨acc.toArray⟩ : Str) ++ ⟨#[k]⟩ = ⟨(acc ++ [k]).toArray⟩ := fun k => by
        show (⟨acc.toArray ++ #[k]⟩ : Str) = _
        simp
      have accl : (⟨acc.toArray⟩ : Str).length = acc.length := by simp [Str.length]
      have szk : ∀ k : Nat, (⟨acc.toArray⟩ : Str).length + (⟨#[k]⟩ : Str).length ≤ sizeLine := fun k => by
        rw [accl, sizeLine_eq]
        show acc.length + 1 ≤ _
        omega
      refine ⟨_, rfl, _, rfl, x, _, e, rfl, rfl, xl2, atI_nat d3.2.1, _, rfl, t, rfl, ?_⟩
      rw [es] at hQ
      cases t with
      | true =>
        rw [strR] at es hQ
        refine iteT ⟨_, rfl, (by show 3 ≤ sizeLine; decide), fun q nq _ => ⟨q, _, rfl, .inl (sq_of upd_same), rfl, rfl, _, rfl, ?_⟩⟩
        have s2 := same_new (o := HO.lst [V.str ⟨#[39]⟩, V.str ⟨#[126]⟩, V.str ⟨#[110]⟩]) nq
        have s12 := sm.trans s2
        rw [show (if true = true then !inV (V.str ⟨#[e]⟩) [V.str (Str.ofString "'"), V.str (Str.ofString "~"), V.str (Str.ofString "n")] else inV (V.str ⟨#[e]⟩) [V.str (Str.ofString "'"), V.str (Str.ofString "~"), V.str (Str.ofString "n")]) = !(tilde e).isSome from congrArg not (in_tildes e)]
        cases te : tilde e with
        | none =>
          rw [te] at hQ
          exact iteT ⟨_, rfl, (by show 3 ≤ sizeLine; decide), fun p np => hQ _ p (s12.trans (same_new np)) upd_same⟩
        | some y =>
          rw [te] at es
          refine iteF ⟨_, rfl, rfl, _, rfl, ?_⟩
          rw [show (Str.ofString "n") = ⟨#[110]⟩ from rfl, str_ne]
          by_cases e110 : e = 110
          · have y10 : y = 10 := by
              rw [e110] at te
              exact (Option.some.inj te).symm
            rw [decide_eq_true e110]
            refine iteT ⟨_, rfl, _, rfl, _, _, rfl, rfl, szk 10, ?_⟩
            rw [show (Str.ofString "\n") = ⟨#[10]⟩ from rfl, acl 10]
            exact ⟨s12, acc ++ [10], false, _, _, rfl, by rw [List.length_append]; simp only [List.length_cons, List.length_nil]; omega, by rw [lj]; rw [y10] at es; exact es⟩
          · have ye : y = e := by
              unfold tilde at te
              by_cases h1 : e = 126
              · rw [if_pos h1] at te
                exact (Option.some.inj te).symm.trans h1.symm
              · rw [if_neg h1] at te
                by_cases h2 : e = 39
                · rw [if_pos h2] at te
                  exact (Option.some.inj te).symm.trans h2.symm
                · rw [if_neg h2, if_neg e110] at te
                  cases te
            rw [decide_eq_false e110]
            refine iteF ⟨_, rfl, _, rfl, _, _, rfl, rfl, szk e, ?_⟩
            rw [acl e]
            exact ⟨s12, acc ++ [e], false, _, _, rfl, by rw [List.length_append]; simp only [List.length_cons, List.length_nil]; omega, by rw [lj]; rw [ye] at es; exact es⟩
      | false =>
        rw [strR] at es hQ
        refine iteF ⟨_, rfl, rfl, _, rfl, ?_⟩
        rw [show (Str.ofString "'") = ⟨#[39]⟩ from rfl, str_ne]
        by_cases e39 : e = 39
        · rw [decide_eq_true e39]
          rw [if_pos e39] at hQ
          exact iteT ⟨_, rfl, _, _, rfl, rfl, _, rfl, (by show 3 ≤ sizeLine; decide), fun p np => hQ _ p _ (sm.trans (same_new np)) upd_same (.str _)⟩
        rw [decide_eq_false e39]
        rw [if_neg e39] at hQ es
        refine iteF ⟨_, rfl, rfl, _, rfl, ?_⟩
        rw [show (Str.ofString "\n") = ⟨#[10]⟩ from rfl, str_ne]
        by_cases e10 : e = 10
        · rw [decide_eq_true e10]
          rw [if_neg (by omega), if_neg (by rw [e10]; decide)] at hQ
          exact iteT ⟨_, rfl, (by show 3 ≤ sizeLine; decide), fun p np => hQ _ p (sm.trans (same_new np)) upd_same⟩
        rw [decide_eq_false e10]
        refine iteF ⟨_, rfl, rfl, _, rfl, ?_⟩
        rw [show (Str.ofString "~") = ⟨#[126]⟩ from rfl, str_ne]
        by_cases e126 : e = 126
        · rw [decide_eq_true e126]
          rw [if_pos e126] at es
          exact iteT ⟨sm, acc, true, _, _, rfl, by omega, by rw [lj]; exact es⟩
        rw [decide_eq_false e126]
        have pr : V6.prC e = true := (gd_at gd d3.2.1).resolve_right e10
        rw [if_neg e126, if_pos pr] at es
        refine iteF ⟨_, rfl, _, rfl, _, _, rfl, rfl, szk e, ?_⟩
        rw [acl e]
        exact ⟨sm, acc ++ [e], false, _, _, rfl, by rw [List.length_append]; simp only [List.length_cons, List.length_nil]; omega, by rw [lj]; exact es⟩
    · rintro σ H1 ⟨sm, acc, t, o4, o5, rfl, al, es⟩
      rw [List.drop_length] at es
      have e2 : strR t acc [] (i + 1 + l.length) = .bad (i + 1 + l.length) := by cases t <;> rfl
      rw [es, e2, ll] at hQ
      exact ⟨_, rfl, _, _, rfl, ⟨xl2, rfl⟩, (by show 3 ≤ sizeLine; decide), fun p np => hQ _ p (sm.trans (same_new np)) upd_same⟩
theorem ok_win (T : Tx K w mg) : Has P w K mg base CX0 1 "_law_word_in" ["text", "at", "word", "thing"] spWin := by
  obtain ⟨fd, F⟩ := T.c.def_ 27 (d := d__law_word_in) rfl
  refine ⟨fd, F.ok scWin (fun vs H Q E h => ?_) (fun cdv A outer s H vs Q E hr h => ?_), FunD.bindsN F fun _ _ _ _ _ _ us hl => match us, hl with | [_, _, _, _], _ => rfl, F.kp, (T.glo 41 rfl)⟩
  · obtain ⟨x, i, c, l, ws, b, rfl, _⟩ := h
    rfl
  · refine ⟨_, PSs.nox (pss_cons (ps_for PassesOwn.never rfl (pi_range1 (by rfl) (T.free 60 rfl) (pa_cons (pe_callB call_len (by rfl) (T.free 56 rfl) PySem.boot_len (pa_cons (pv 2) pa_nil)) pa_nil)) (pg_name (i := 4) scWin.nd rfl (Or.inl rfl))
 (pss_one (ps_if (pt_cmpR op_ne (pe_slice sl_str (pv 0) (po_some (pe_op op_add (pv 1) (pv 4))) (po_some (pe_op op_add (pe_op op_add (pv 1) (pv 4)) pe_int))) (pe_ix ix_str (pv 2) (pv 4) (fun _ _ => rfl)) (nomark _))
 (pss_one (ps_ret (pe_tup (pa_cons (pe_op op_add (pv 1) (pv 4)) (pa_cons pe_non (pa_cons pe_bl pa_nil))))))
 pss_nil)))
 (pss_one (ps_ret (pe_tup (pa_cons (pe_op op_add (pv 1) (pe_callB call_len (by rfl) (T.free 56 rfl) PySem.boot_len (pa_cons (pv 2) pa_nil))) (pa_cons (pv 3) (pa_cons pe_bl pa_nil))))))), ?_⟩
    obtain ⟨x, i, c, l, ws, b, rfl, xl, w10, dr, hQ⟩ := h
    have xl2 : x.length ≤ sizeLine := Nat.le_trans xl (by decide)
    have wl : (⟨ws.toArray⟩ : Str).length = ws.length := by simp [Str.length]
    have wl2 : (⟨ws.toArray⟩ : Str).length ≤ sizeLine := by rw [wl, sizeLine_eq]; omega
    refine ⟨_, rfl, _, _, rfl, ⟨wl2, rfl⟩, _, rfl, by omega, by omega, ?_⟩
    rw [Int.toNat_natCast, wl]
    refine for_it (walk_range (lo := 0) (n := ws.length)) (fun j σ H' => H' = H ∧ (∃ o4, σ = [some (.str x), some (.int ((i : Nat) : Int)), some (.str ⟨ws.toArray⟩), some (.bl b), o4]) ∧ wordR ws (c :: l) i (.bool b) = wordR (ws.drop j) ((c :: l).drop j) (i + j) (.bool b)) ⟨rfl, ⟨_, rfl⟩, rfl⟩ (fun _ _ _ _ _ => True.intro) ?_ ?_
    · rintro j v σ H2 H1 hj ⟨rfl, ⟨o4, rfl⟩, hw⟩ ⟨rfl, ev⟩
      obtain rfl : v = .int ((j : Nat) : Int) := ev.trans (congrArg V.int (by omega))
      obtain ⟨c', ws2, ew⟩ : ∃ e l2, ws.drop j = e :: l2 := ⟨_, _, List.drop_eq_getElem_cons hj⟩
      have dw := drop_cons ew
      have dj : x.cps.toList.drop (i + j) = (c :: l).drop j := by rw [← dr, List.drop_drop]
      rw [ew] at hw
      rw [hw] at hQ
      have cut := cut_at dj
      rw [show ((i + j : Nat) : Int) = ((i : Nat) : Int) + ((j : Nat) : Int) by omega] at cut
      refine ⟨_, rfl, _, rfl, _, rfl, _, _, rfl, rfl, _, rfl, _, rfl, _, rfl, _, _, rfl, rfl, _, _, rfl, rfl, _, rfl, x, rfl, xl2, _, rfl, _, rfl, ⟨ws.toArray⟩, _, c', rfl, rfl, wl2, atI_nat (by simpa using dw.2.1), rfl, _, rfl, ?_⟩
      rw [cut]
      cases e : (c :: l).drop j with
      | nil =>
        rw [e] at hQ
        rw [show (⟨(List.take 1 ([] : List Nat)).toArray⟩ : Str) = ⟨#[]⟩ from rfl, str_nil]
        exact iteT ⟨_, rfl, _, rfl, _, _, rfl, rfl, (by show 3 ≤ sizeLine; decide), fun p np => hQ _ p (same_new np) (by rw [show ((i + j : Nat) : Int) = ((i : Nat) : Int) + ((j : Nat) : Int) by omega]; exact upd_same)⟩
      | cons f l' =>
        have dj2 := drop_cons e
        rw [show (⟨(List.take 1 (f :: l')).toArray⟩ : Str) = ⟨#[f]⟩ from rfl, str_ne]
        by_cases fe : f = c'
        · rw [decide_eq_true fe]
          refine iteF ⟨rfl, ⟨_, rfl⟩, ?_⟩
          rw [hw, e, wordR, if_pos fe, dj2.1, dw.1]
          rfl
        · rw [decide_eq_false fe]
          rw [e, wordR, if_neg fe] at hQ
          exact iteT ⟨_, rfl, _, rfl, _, _, rfl, rfl, (by show 3 ≤ sizeLine; decide), fun p np => hQ _ p (same_new np) (by rw [show ((i + j : Nat) : Int) = ((i : Nat) : Int) + ((j : Nat) : Int) by omega]; exact upd_same)⟩
    · rintro σ H1 ⟨rfl, ⟨o4, rfl⟩, hw⟩
      rw [List.drop_length] at hw
      rw [hw] at hQ
      refine ⟨_, rfl, _, rfl, _, _, rfl, ⟨wl2, rfl⟩, _, _, rfl, rfl, _, rfl, (by show 3 ≤ sizeLine; decide), fun p np => hQ _ p _ (same_new np) ?_ (.bl b)⟩
      rw [show ((i + ws.length : Nat) : Int) = ((i : Nat) : Int) + ((ws.length : Nat) : Int) by omega, ← wl]
      exact upd_same
end
end K53

set_option maxHeartbeats 4000000
namespace K53
open PySem PySem.Spec PyProof.Rows L2 V1 V2 V3 V7 V8 CwR
open Evl (pss_cut tCut sq_of st_of)
/-- the figures that count -/
def fz : List Nat → List Nat
  | [] => []
  | c :: l => if c = 48 then [] else figs 20 (c :: l)
theorem fz_len (l : List Nat) : (fz l).length ≤ l.length ∧ (fz l).length ≤ 20 := by
  cases l with
  | nil => exact ⟨Nat.le_refl _, Nat.zero_le _⟩
  | cons c l =>
    rw [fz]
    split
    · exact ⟨Nat.zero_le _, Nat.zero_le _⟩
    · exact figs_len 20 (c :: l)
theorem fz_fig {c : Nat} {l : List Nat} (h : figB c = true) (n : c ≠ 48) : fz (c :: l) = numR (c :: l) := by
  rw [fz, if_neg n, numR, if_neg n, figs, if_pos h]
theorem fz_no {c : Nat} {l : List Nat} (h : figB c = false) : fz (c :: l) = [] := by
  rw [fz]
  split
  · rfl
  · rw [figs, if_neg (by rw [h]; decide)]
/-- where the counting stops -/
theorem fz_stop {l : List Nat} {i c : Nat} (hi : i ≤ (fz l).length) (hl : l[i]? = some c) (h : figB c = false ∨ (i = 0 ∧ c = 48)) : i = (fz l).length := by
  refine Nat.le_antisymm hi (Nat.le_of_not_lt fun lt => ?_)
  cases l with
  | nil => cases hl
  | cons e l =>
    rw [fz] at lt
    split at lt
    · exact absurd lt (Nat.not_lt_zero _)
    · rename_i n
      obtain ⟨⟨f, h1, h2⟩, _⟩ := figs_at 20 (e :: l) i lt
      rw [hl] at h1
      obtain rfl := Option.some.inj h1
      rcases h with h | ⟨rfl, rfl⟩
      · rw [h] at h2
        cases h2
      · exact n (Option.some.inj hl)
theorem fz_go {l : List Nat} {i c : Nat} (hi : i ≤ (fz l).length) (i20 : i < 20) (hl : l[i]? = some c) (h : figB c = true) (z : i = 0 → c ≠ 48) : i + 1 ≤ (fz l).length := by
  cases l with
  | nil => cases hl
  | cons e l =>
    by_cases n : e = 48
    · rw [fz, if_pos n] at hi
      have i0 : i = 0 := by simpa using hi
      subst i0
      exact absurd ((Option.some.inj hl).symm.trans n) (z rfl)
    · rw [fz, if_neg n] at hi ⊢
      refine Nat.lt_of_le_of_ne hi fun eq => ?_
      rcases figs_end 20 (e :: l) with y | y
      · omega
      · rw [← eq] at y
        have li : i < (e :: l).length := (List.getElem?_eq_some_iff.mp hl).1
        rw [List.drop_eq_getElem_cons li] at y
        have h3 : (e :: l)[i] = c := Option.some.inj ((List.getElem?_eq_getElem li).symm.trans hl)
        rw [h3] at y
        have y : figB c = false := y
        rw [h] at y
        cases y
theorem numOf_48 {c : Nat} {l : List Nat} {i : Nat} {b : Bool} (h : c = 48) : V8.numOf (c :: l) i b = .ok (.int 0) l (i + 1) := by
  unfold V8.numOf
  rw [show numR (c :: l) = [48] by rw [numR, if_pos h]]
  cases b <;> rfl
section
variable [CurK]
def spItem : Sp := fun vs H Q _ => ∃ (x : Str) (i : Nat) (c : Nat) (l : List Nat), vs = [.str x, .int ((i : Nat) : Int)] ∧ x.length ≤ most ∧ GdS x = true ∧ x.cps.toList.drop i = c :: l ∧ lwQ H Q (leafR (c :: l) i)
end
theorem scItem : FnScope ["text", "at", "sign", "first", "figures", "figure"] ["text", "at"] (defScope s__law_item_in) := ⟨rfl, rfl, rfl, by decide +kernel, rfl, by decide +kernel, by decide +kernel⟩
theorem dig_tens : ((Str.ofString "0123456789").cps.toList.map fun c => V.str ⟨#[c]⟩) = tens := by decide +kernel
section
variable [CurK] {P : Program} {w : World} {mg : Str → Option Value} {base : Heap}
theorem ok_item (T : Tx K w mg) : Has P w K mg base CX0 2 "_law_item_in" ["text", "at"] spItem := by
  obtain ⟨fd, F⟩ := T.c.def_ 28 (d := d__law_item_in) rfl
  have Hs := ok_sin (P := P) (w := w) (base := base) T
  have Hw := ok_win (P := P) (w := w) (base := base) T
  refine ⟨fd, F.ok scItem (fun vs H Q E h => ?_) (fun cdv A outer s H vs Q E hr h => ?_), FunD.bindsN F fun _ _ _ _ _ _ us hl => match us, hl with | [_, _], _ => rfl, F.kp, (T.glo 42 rfl)⟩
  · obtain ⟨x, i, c, l, rfl, _⟩ := h
    rfl
  · refine ⟨_, PSs.nox (pss_cons (ps_set (i := 2) scItem.nd rfl (Or.inl rfl) (pe_ix ix_str (pv 0) (pv 1) (fun _ _ => rfl)))
 (pss_cons (ps_if (pt_cmpR op_eq (pv 2) pe_str (nomark _))
 (pss_one (ps_ret (pe_has Hs (hr.mono (by decide)) pass0 (pa_cons (pv 0) (pa_cons (pv 1) pa_nil)))))
 pss_nil)
 (pss_cons (ps_if (pt_cmpR op_eq (pv 2) pe_str (nomark _))
 (pss_one (ps_ret (pe_has Hw (hr.mono (by decide)) pass0 (pa_cons (pv 0) (pa_cons (pv 1) (pa_cons pe_str (pa_cons pe_bl pa_nil)))))))
 pss_nil)
 (pss_cons (ps_if (pt_cmpR op_eq (pv 2) pe_str (nomark _))
 (pss_one (ps_ret (pe_has Hw (hr.mono (by decide)) pass0 (pa_cons (pv 0) (pa_cons (pv 1) (pa_cons pe_str (pa_cons pe_bl pa_nil)))))))
 pss_nil)
 (pss_cons (ps_if (pt_cmpR op_eq (pv 2) pe_str (nomark _))
 (pss_one (ps_ret (pe_tup (pa_cons (pe_op op_add (pv 1) pe_int) (pa_cons pe_int (pa_cons pe_bl pa_nil))))))
 pss_nil)
 (pss_cons (ps_set (i := 3) scItem.nd rfl (Or.inl rfl) (pv 1))
 (pss_cut (ps_if (pt_cmpR op_eq (pv 2) pe_str (nomark _))
 (pss_one (ps_set (i := 3) scItem.nd rfl (Or.inl rfl) (pe_op op_add (pv 1) pe_int)))
 pss_nil)
 (pss_cons (ps_set (i := 4) scItem.nd rfl (Or.inl rfl) pe_int)
 (pss_cut (ps_for PassesOwn.never rfl (pi_str (pe_slice sl_str (pv 0) (po_some (pv 3)) (po_some (pe_op op_add (pv 3) pe_int)))) (pg_name (i := 5) scItem.nd rfl (Or.inl rfl))
 (pss_cons (ps_if (PW.pt (pw_or (pt_cmpR op_notIn_seq (pv 5) (pe_callTy (V8.call_listS rfl) (by rfl) (T.free 57 rfl) (by decide +kernel) (pa_cons pe_str pa_nil)) (by rfl)) (pw_or1 (PW.pt (pw_and (pt_cmpR op_eq (pv 4) pe_int (nomark _)) (pw_and1 (pt_cmpR op_eq (pv 5) pe_str (nomark _))))))))
 (pss_one ps_break)
 pss_nil)
 (pss_one (ps_set (i := 4) scItem.nd rfl (Or.inl rfl) (pe_op op_add (pv 4) pe_int)))))
 (pss_cons (ps_if (pt_cmpR op_gt (pv 4) pe_int (nomark _))
 (pss_one (ps_ret (pe_tup (pa_cons (pe_op op_add (pv 3) (pv 4)) (pa_cons (pe_callTy call_int_str (by rfl) (T.free 54 rfl) (by decide +kernel) (pa_cons (pe_slice sl_str (pv 0) (po_some (pv 1)) (po_some (pe_op op_add (pv 3) (pv 4)))) pa_nil)) (pa_cons pe_bl pa_nil))))))
 pss_nil)
 (pss_one (ps_ret (pe_tup (pa_cons (pv 3) (pa_cons pe_non (pa_cons (pe_cmpR op_eq (pv 2) pe_str (nomark _)) pa_nil)))))))))))))))), ?_⟩
    obtain ⟨x, i, c, l, rfl, xl, gd, dr, hQ⟩ := h
    have d1 := drop_cons dr
    have xl2 : x.length ≤ sizeLine := Nat.le_trans xl (by decide)
    have xc : x.cps.toList.length = x.length := by simp [Str.length]
    have ll : i + 1 + l.length = x.length := by
      have z := congrArg List.length dr
      rw [List.length_drop, List.length_cons] at z
      omega
    have mostB : most = 12000000 := rfl
    refine ⟨_, rfl, _, rfl, x, _, c, rfl, rfl, xl2, atI_nat d1.2.1, ?_⟩
    refine ⟨_, rfl, rfl, _, rfl, ?_⟩
    rw [show (Str.ofString "'") = ⟨#[39]⟩ from rfl, str_ne]
    by_cases q39 : c = 39
    · rw [decide_eq_true q39]
      rw [leafR, if_pos q39] at hQ
      exact iteT ⟨_, rfl, _, rfl, x, i, c, l, rfl, xl, gd, dr, hQ⟩
    rw [decide_eq_false q39]
    rw [leafR, if_neg q39] at hQ
    refine iteF ⟨_, rfl, rfl, _, rfl, ?_⟩
    rw [show (Str.ofString "y") = ⟨#[121]⟩ from rfl, str_ne]
    by_cases q121 : c = 121
    · rw [decide_eq_true q121]
      rw [if_pos q121] at hQ
      exact iteT ⟨_, rfl, _, rfl, x, i, c, l, [121, 101, 115], true, rfl, xl, by decide, dr, hQ⟩
    rw [decide_eq_false q121]
    rw [if_neg q121] at hQ
    refine iteF ⟨_, rfl, rfl, _, rfl, ?_⟩
    rw [show (Str.ofString "n") = ⟨#[110]⟩ from rfl, str_ne]
    by_cases q110 : c = 110
    · rw [decide_eq_true q110]
      rw [if_pos q110] at hQ
      exact iteT ⟨_, rfl, _, rfl, x, i, c, l, [110, 111], false, rfl, xl, by decide, dr, hQ⟩
    rw [decide_eq_false q110]
    rw [if_neg q110] at hQ
    refine iteF ⟨_, rfl, rfl, _, rfl, ?_⟩
    rw [show (Str.ofString "0") = ⟨#[48]⟩ from rfl, str_ne]
    by_cases q48 : c = 48
    · rw [decide_eq_true q48]
      rw [if_pos (by rw [q48]; rfl), numOf_48 q48] at hQ
      exact iteT ⟨_, rfl, _, _, rfl, rfl, (by show 3 ≤ sizeLine; decide), fun p np => hQ _ p _ (same_new np) upd_same (.int _)⟩
    rw [decide_eq_false q48]
    refine iteF ?_
    -- where the figures begin
    refine ⟨_, rfl, fun σ H' => H' = H ∧ σ = [some (.str x), some (.int ((i : Nat) : Int)), some (.str ⟨#[c]⟩), some (.int ((if c = 45 then i + 1 else i : Nat) : Int)), none, none], ?_, ?_⟩
    · refine ⟨_, rfl, rfl, _, rfl, ?_⟩
      rw [show (Str.ofString "-") = ⟨#[45]⟩ from rfl, str_ne]
      by_cases q45 : c = 45
      · rw [decide_eq_true q45, if_pos q45]
        exact iteT ⟨_, rfl, _, _, rfl, rfl, rfl, rfl⟩
      · rw [decide_eq_false q45, if_neg q45]
        exact iteF ⟨rfl, rfl⟩
    · rintro σ H0 ⟨rfl, rfl⟩
      -- the signs from there on, and how many count
      obtain ⟨fst, l0, ef, el, df⟩ : ∃ (fst : Nat) (l0 : List Nat), (if c = 45 then i + 1 else i) = fst ∧ (if c = 45 then l else c :: l) = l0 ∧ x.cps.toList.drop fst = l0 := ⟨_, _, rfl, rfl, by split; exact d1.1; exact dr⟩
      rw [ef]
      have fl := fz_len l0
      have fx : fst + l0.length = x.length := by
        rw [← ef, ← el]
        split
        · omega
        · rw [List.length_cons]
          omega
      have cutF : cutS x (some ((fst : Nat) : Int)) (some (((fst : Nat) : Int) + 20)) = ⟨(l0.take 20).toArray⟩ := by
        have z := cut_mid x fst (fst + 20) (by omega)
        rw [df, show fst + 20 - fst = 20 by omega] at z
        exact z
      refine ⟨fun σ H' => Same H0 H' ∧ ∃ o5, σ = [some (.str x), some (.int ((i : Nat) : Int)), some (.str ⟨#[c]⟩), some (.int ((fst : Nat) : Int)), some (.int (((fz l0).length : Nat) : Int)), o5], ?_, ?_⟩
      · refine ⟨_, rfl, _, rfl, _, rfl, _, rfl, _, _, rfl, rfl, _, rfl, x, rfl, xl2, _, rfl, ?_⟩
        rw [cutF]
        have sz : (⟨(l0.take 20).toArray⟩ : Str).cps.size = min 20 l0.length := by simp
        refine for_it walk_str (fun j σ H' => Same H0 H' ∧ j ≤ (fz l0).length ∧ ∃ o5, σ = [some (.str x), some (.int ((i : Nat) : Int)), some (.str ⟨#[c]⟩), some (.int ((fst : Nat) : Int)), some (.int ((j : Nat) : Int)), o5]) ⟨Same.refl _, Nat.zero_le _, _, rfl⟩ (fun _ _ _ _ _ => True.intro) ?_ ?_
        · rintro j v σ H2 H1 hj ⟨sm, jl, o5, rfl⟩ ⟨rfl, e, he, rfl⟩
          rw [sz] at hj
          have hl : l0[j]? = some e := by
            have z : (l0.take 20)[j]? = some e := by simpa using he
            rw [List.getElem?_take, if_pos (by omega)] at z
            exact z
          refine ⟨_, rfl, ?_⟩
          refine ⟨Str.ofString "0123456789", rfl, by decide, fun q nq low => ⟨q, tens, rfl, .inl (sq_of (by rw [upd_same, dig_tens])), rfl, by decide +kernel, _, rfl, ?_⟩⟩
          have s2 := sm.trans (same_new (o := HO.lst ((Str.ofString "0123456789").cps.toList.map fun c => V.str ⟨#[c]⟩)) nq)
          rw [show (if true = true then !inV (V.str ⟨#[e]⟩) tens else inV (V.str ⟨#[e]⟩) tens) = !figB e from congrArg not (in_figs [e])]
          have brk : (figB e = false ∨ (j = 0 ∧ e = 48)) → ∀ o5, Same H0 (upd H1 q (HO.lst ((Str.ofString "0123456789").cps.toList.map fun c => V.str ⟨#[c]⟩))) ∧ ∃ o, [some (V.str x), some (V.int ((i : Nat) : Int)), some (V.str ⟨#[c]⟩), some (V.int ((fst : Nat) : Int)), some (V.int ((j : Nat) : Int)), o5] = [some (.str x), some (.int ((i : Nat) : Int)), some (.str ⟨#[c]⟩), some (.int ((fst : Nat) : Int)), some (.int (((fz l0).length : Nat) : Int)), o] := fun h o5 => by
            have z := fz_stop jl hl h
            rw [← z]
            exact ⟨s2, _, rfl⟩
          cases fe : figB e with
          | false => exact iteT (iteT (brk (.inl fe) _))
          | true =>
            refine iteF ⟨_, rfl, rfl, _, rfl, ?_⟩
            by_cases j0 : j = 0
            · rw [decide_eq_true (show V.int ((j : Nat) : Int) = V.int 0 by rw [j0]; rfl)]
              refine iteT ⟨_, rfl, rfl, _, rfl, ?_⟩
              rw [str_ne]
              by_cases e48 : e = 48
              · rw [decide_eq_true e48]
                exact iteT (brk (.inr ⟨j0, e48⟩) _)
              · rw [decide_eq_false e48]
                exact iteF ⟨_, rfl, _, _, rfl, rfl, s2, fz_go jl (by omega) hl fe (fun _ => e48), _, rfl⟩
            · rw [decide_eq_false (show ¬ V.int ((j : Nat) : Int) = V.int 0 from fun z => j0 (by have z := V.int.inj z; omega))]
              exact iteF (iteF ⟨_, rfl, _, _, rfl, rfl, s2, fz_go jl (by omega) hl fe (fun z => absurd z j0), _, rfl⟩)
        · rintro σ H1 ⟨sm, jl, o5, rfl⟩
          rw [sz] at jl ⊢
          have z : min 20 l0.length = (fz l0).length := by omega
          rw [z]
          exact ⟨sm, _, rfl⟩
      · rintro σ H1 ⟨sm, o5, rfl⟩
        have zero : (fz l0).length = 0 → (∀ H' p, Same H0 H' → H' p = some (.tup [.int ((fst : Nat) : Int), .non, .bl (decide (c = 45))]) → Q (.ref p) H') → (tSeq
            (tIfS (tTest (tOp (rI0 fun i j => V.bl (decide (j < i))) (tVar 4) (tC (V.int 0))))
              (tRet (tTup (tCons (tOp (rI0 fun i j => V.int (i + j)) (tVar 3) (tVar 4)) (tCons (tCB (fun xs H Q => ∃ a n, xs = [V.str a] ∧ intText? a = some n ∧ a.length ≤ 640 ∧ Q (V.int n) H) (tCons (tSl rSlS (tVar 0) (tPart (tVar 1)) (tPart (tOp (rI0 fun i j => V.int (i + j)) (tVar 3) (tVar 4)))) tNil)) (tCons (tC (V.bl true)) tNil))))) tNext)
            (tRet (tTup (tCons (tVar 3) (tCons (tC V.non) (tCons (tOp rEq (tVar 2) (tC (V.str (Str.ofString "-")))) tNil)))))) { nx := fun x H' => Q V.non H', rt := Q }
            [some (V.str x), some (V.int ((i : Nat) : Int)), some (V.str ⟨#[c]⟩), some (V.int ((fst : Nat) : Int)), some (V.int (((fz l0).length : Nat) : Int)), o5] H1 := fun z q => by
          refine ⟨_, rfl, _, _, rfl, rfl, false, congrArg V.bl (decide_eq_false (by omega)), iteF ⟨_, rfl, _, rfl, rfl, (by show 3 ≤ sizeLine; decide), fun p np => q _ p (sm.trans (same_new np)) ?_⟩⟩
          rw [show (Str.ofString "-") = ⟨#[45]⟩ from rfl, str_ne]
          exact upd_same
        have pos : ∀ n : Int, 0 < (fz l0).length → intText? (cutS x (some ((i : Nat) : Int)) (some (((fst : Nat) : Int) + (((fz l0).length : Nat) : Int)))) = some n → (cutS x (some ((i : Nat) : Int)) (some (((fst : Nat) : Int) + (((fz l0).length : Nat) : Int)))).length ≤ 640 → (∀ H' p, Same H0 H' → H' p = some (.tup [.int ((fst + (fz l0).length : Nat) : Int), .int n, .bl true]) → Q (.ref p) H') → (tSeq
            (tIfS (tTest (tOp (rI0 fun i j => V.bl (decide (j < i))) (tVar 4) (tC (V.int 0))))
              (tRet (tTup (tCons (tOp (rI0 fun i j => V.int (i + j)) (tVar 3) (tVar 4)) (tCons (tCB (fun xs H Q => ∃ a n, xs = [V.str a] ∧ intText? a = some n ∧ a.length ≤ 640 ∧ Q (V.int n) H) (tCons (tSl rSlS (tVar 0) (tPart (tVar 1)) (tPart (tOp (rI0 fun i j => V.int (i + j)) (tVar 3) (tVar 4)))) tNil)) (tCons (tC (V.bl true)) tNil))))) tNext)
            (tRet (tTup (tCons (tVar 3) (tCons (tC V.non) (tCons (tOp rEq (tVar 2) (tC (V.str (Str.ofString "-")))) tNil)))))) { nx := fun x H' => Q V.non H', rt := Q }
            [some (V.str x), some (V.int ((i : Nat) : Int)), some (V.str ⟨#[c]⟩), some (V.int ((fst : Nat) : Int)), some (V.int (((fz l0).length : Nat) : Int)), o5] H1 := fun n z hi hl q => by
          refine ⟨_, rfl, _, _, rfl, rfl, true, congrArg V.bl (decide_eq_true (by omega)), iteT ⟨_, rfl, _, rfl, _, _, rfl, rfl, _, rfl, _, rfl, _, rfl, _, rfl, _, rfl, _, _, rfl, rfl, _, rfl, x, rfl, xl2, _, n, rfl, hi, hl, (by show 3 ≤ sizeLine; decide), fun p np => q _ p (sm.trans (same_new np)) ?_⟩⟩
          rw [show ((fst + (fz l0).length : Nat) : Int) = ((fst : Nat) : Int) + (((fz l0).length : Nat) : Int) by omega]
          exact upd_same
        by_cases qf : figB c = true
        · rw [if_pos qf] at hQ
          have c45 : c ≠ 45 := fun z => by rw [z] at qf; cases qf
          rw [if_neg c45] at ef el
          subst ef el
          have fr := fz_fig (l := l) qf q48
          have np := numR_pos (c := c) (l := l)
          have nl := numR_len (c :: l)
          rw [fr] at pos
          have cu : cutS x (some ((i : Nat) : Int)) (some (((i : Nat) : Int) + (((numR (c :: l)).length : Nat) : Int))) = ⟨(numR (c :: l)).toArray⟩ := by
            have z := cut_mid x i (i + (numR (c :: l)).length) (by omega)
            rw [dr, show i + (numR (c :: l)).length - i = (numR (c :: l)).length by omega, ← numR_pre, show ((i + (numR (c :: l)).length : Nat) : Int) = ((i : Nat) : Int) + (((numR (c :: l)).length : Nat) : Int) by omega] at z
            exact z
          rw [fr]
          refine pos _ np (by
            rw [cu]
            exact intText_digits (x := ⟨(numR (c :: l)).toArray⟩) (fun e he => figB_bd (numR_all qf e (by simpa using he))) (fun z => by have y := np; have z : numR (c :: l) = [] := z; rw [z] at y; exact absurd y (by decide)) (by
              show (numR (c :: l)).toArray.size ≤ 4300
              simp
              omega)) (by
            rw [cu]
            show (numR (c :: l)).toArray.size ≤ 640
            simp
            omega) (fun H' p sm' ep => hQ H' p _ sm' ep (.int _))
        · rw [if_neg qf] at hQ
          have qf' : figB c = false := by simpa using qf
          by_cases c45 : c = 45
          · rw [if_pos c45] at hQ ef el
            subst ef el
            cases l with
            | nil => exact zero rfl fun H' p sm' ep => hQ H' p _ sm' (by rw [ep, decide_eq_true c45]) .non
            | cons e l2 =>
              rw [minusR] at hQ
              by_cases k : figB e = true ∧ e ≠ 48
              · rw [if_pos k] at hQ
                have fr := fz_fig (l := l2) k.1 k.2
                have np := numR_pos (c := e) (l := l2)
                have nl := numR_len (e :: l2)
                rw [fr] at pos
                have cu : cutS x (some ((i : Nat) : Int)) (some (((i + 1 : Nat) : Int) + (((numR (e :: l2)).length : Nat) : Int))) = ⟨(45 :: numR (e :: l2)).toArray⟩ := by
                  have z := cut_mid x i (i + 1 + (numR (e :: l2)).length) (by omega)
                  rw [dr, show i + 1 + (numR (e :: l2)).length - i = (numR (e :: l2)).length + 1 by omega, List.take_succ_cons, ← numR_pre, c45, show ((i + 1 + (numR (e :: l2)).length : Nat) : Int) = ((i + 1 : Nat) : Int) + (((numR (e :: l2)).length : Nat) : Int) by omega] at z
                  exact z
                rw [fr]
                refine pos _ np (by
                  rw [cu]
                  exact intText_neg (x := ⟨(45 :: numR (e :: l2)).toArray⟩) (cs := numR (e :: l2)) rfl (fun f hf => figB_bd (numR_all k.1 f hf)) (fun z => by have y := np; rw [z] at y; exact absurd y (by decide)) (by
                    show (45 :: numR (e :: l2)).toArray.size ≤ 4300
                    simp
                    omega)) (by
                  rw [cu]
                  show (45 :: numR (e :: l2)).toArray.size ≤ 640
                  simp
                  omega) (fun H' p sm' ep => hQ H' p _ sm' ep (.int _))
              · rw [if_neg k] at hQ
                have fn : fz (e :: l2) = [] := by
                  by_cases e48 : e = 48
                  · rw [fz, if_pos e48]
                  · exact fz_no (by
                      cases h : figB e with
                      | false => rfl
                      | true => exact absurd ⟨h, e48⟩ k)
                exact zero (by rw [fn]; rfl) fun H' p sm' ep => hQ H' p _ sm' (by rw [ep, decide_eq_true c45]) .non
          · rw [if_neg c45] at hQ ef el
            subst ef el
            exact zero (by rw [fz_no qf']; rfl) fun H' p sm' ep => hQ H' p sm' (by rw [ep, decide_eq_false c45])
end
end K53

set_option maxHeartbeats 4000000
namespace K53
open PySem PySem.Spec PyProof.Rows L2 V1 V2 V3 V7 V8 CwR
open Evl (pss_cut tCut sq_of st_of)
/-- where the law's own reading stands, and what it leads to -/
def Lead (r : TR) (w : Str) (fs : List (List PyData)) (l : List Nat) (i : Nat) : Prop :=
  (w = "item" ∧ ∃ st : List (List PyData), fs = st ++ [[]] ∧ GoR (st, l, i) r) ∨
  (w = "first" ∧ ∃ st : List (List PyData), fs = ([] :: st) ++ [[]] ∧ Fin r (if l.head? = some 41 then closing .none ([] :: st) l i else .inr ([] :: st, l, i))) ∨
  (w = "done" ∧ ((∃ d, fs = [[d]] ∧ Fin r (closing d [] l i)) ∨ ∃ (ds : List PyData) (st : List (List PyData)) (d : PyData), fs = (ds :: st) ++ [[]] ∧ Fin r (closing d (ds :: st) l i)))
theorem or_go {t u : TT} {σ : L2.St} {H : Hp} {Q : Bool → Hp → Prop} (b1 b2 : Bool) (h1 : ∀ Q : Bool → Hp → Prop, Q b1 H → t σ H Q) (h2 : b1 = false → ∀ Q : Bool → Hp → Prop, Q b2 H → u σ H Q) (q : Q (b1 || b2) H) : tOr t u σ H Q := h1 _ (by
  cases b1 with
  | true => exact iteT q
  | false => exact iteF (h2 rfl _ q))
theorem str_dec (a b : Str) : decide ((V.str a : V) = V.str b) = decide (a = b) := decide_eq_decide.mpr ⟨fun z => V.str.inj z, fun z => by rw [z]⟩
theorem lead_end {r : TR} {w : Str} {fs : List (List PyData)} {i : Nat} (h : Lead r w fs [] i) : (∃ d, w = "done" ∧ fs = [[d]] ∧ r = .ok d) ∨ (r = .bad i ∧ ¬ (w = "done" ∧ fs.length = 1)) := by
  rcases h with ⟨rfl, st, rfl, g⟩ | ⟨rfl, st, rfl, f⟩ | ⟨rfl, ⟨d, rfl, f⟩ | ⟨ds, st, d, rfl, f⟩⟩
  · refine .inr ⟨?_, fun z => absurd z.1 (by decide +kernel)⟩
    have f := g.fin
    unfold stepR at f
    exact (show TR.bad i = r from f).symm
  · refine .inr ⟨?_, fun z => absurd z.1 (by decide +kernel)⟩
    have f : GoR ([] :: st, [], i) r := f
    have f := f.fin
    unfold stepR at f
    exact (show TR.bad i = r from f).symm
  · exact .inl ⟨d, rfl, rfl, (show TR.ok d = r from f).symm⟩
  · refine .inr ⟨(show TR.bad i = r from f).symm, fun z => ?_⟩
    have := z.2
    simp only [List.length_cons, List.length_append] at this
    omega
/-- a tuple ends -/
theorem lead_close {r : TR} {ds : List PyData} {st : List (List PyData)} {l : List Nat} {i : Nat} {es : List PyData} {rest : List (List PyData)} (e : st ++ [[]] = es :: rest) (f : Fin r (closing (.tuple ds) (put (.tuple ds) st) l i)) : Lead r "done" ((es ++ [.tuple ds]) :: rest) l i := by
  refine .inr (.inr ⟨rfl, ?_⟩)
  cases st with
  | nil =>
    cases e
    exact .inl ⟨_, rfl, f⟩
  | cons e1 st =>
    cases e
    exact .inr ⟨_, _, _, rfl, f⟩
/-- a thing that is no tuple -/
theorem lead_item {r : TR} {d : PyData} {st : List (List PyData)} {l : List Nat} {i : Nat} {es : List PyData} {rest : List (List PyData)} (e : st ++ [[]] = es :: rest) (f : Fin r (closing d (put d st) l i)) : Lead r "done" ((es ++ [d]) :: rest) l i := by
  refine .inr (.inr ⟨rfl, ?_⟩)
  cases st with
  | nil =>
    cases e
    exact .inl ⟨_, rfl, f⟩
  | cons e1 st =>
    cases e
    exact .inr ⟨_, _, _, rfl, f⟩
section
variable [CurK]
def rdQ (H : Hp) (Q : VK) : TR → Prop
  | .ok d => ∀ H' t v, Same H H' → H' t = some (.tup [.str "let", v]) → Dx H' v d → tupD d = true → Q (.ref t) H'
  | .bad p => ∀ H' t, Same H H' → H' t = some (.tup [.str "bad", .int ((p : Nat) : Int)]) → Q (.ref t) H'
def spLRead : Sp := fun vs H Q _ => ∃ v d, vs = [v] ∧ Dx H v d ∧ (isStr d = false → ∀ H' t, Same H H' → H' t = some (.tup [.str "bad", .int (-1)]) → Q (.ref t) H') ∧
  ∀ x : Str, d = .str x → x.length ≤ most ∧ GdS x = true ∧ ∃ r, GoR ([], x.cps.toList, 0) r ∧ rdQ H Q r
end
theorem scLRead : FnScope ["text", "at", "stack", "due", "turn", "sign", "row", "thing", "whole"] ["text"] (defScope s__law_read) := ⟨rfl, rfl, rfl, by decide +kernel, rfl, by decide +kernel, by decide +kernel⟩
section
variable [CurK] {P : Program} {w : World} {mg : Str → Option Value} {base : Heap}
theorem ok_lread (T : Tx K w mg) : Has P w K mg base CX0 3 "_law_read" ["text"] spLRead := by
  obtain ⟨fd, F⟩ := T.c.def_ 29 (d := d__law_read) rfl
  have Hi := ok_item (P := P) (w := w) (base := base) T
  refine ⟨fd, F.ok scLRead (fun vs H Q E h => ?_) (fun cdv A outer s H vs Q E hr h => ?_), FunD.bindsN F fun _ _ _ _ _ _ us hl => match us, hl with | [_], _ => rfl, F.kp, (T.glo 43 rfl)⟩
  · obtain ⟨v, d, rfl, _⟩ := h
    rfl
  · refine ⟨_, PSs.nox (pss_cons (ps_if (pt_not (pt_val (pe_callB call_isi (by rfl) (T.free 55 rfl) (by decide +kernel) (pa_cons (pv 0) (pa_cons (pe_bltn (v := .ty "str") (by rfl) (T.free 61 rfl) (by decide +kernel) rfl) pa_nil)))))
 (pss_one (ps_ret (pe_tup (pa_cons pe_str (pa_cons (pe_un un_neg pe_int) pa_nil)))))
 pss_nil)
 (pss_cons (ps_set (i := 1) scLRead.nd rfl (Or.inl rfl) pe_int)
 (pss_cons (ps_set (i := 2) scLRead.nd rfl (Or.inl rfl) (pe_lstS (pa_cons (pe_lstS pa_nil) pa_nil)))
 (pss_cons (ps_set (i := 3) scLRead.nd rfl (Or.inl rfl) pe_str)
 (pss_cut (ps_for PassesOwn.never rfl (pi_range1 (by rfl) (T.free 60 rfl) (pa_cons (pe_callB call_len (by rfl) (T.free 56 rfl) PySem.boot_len (pa_cons (pv 0) pa_nil)) pa_nil)) (pg_name (i := 4) scLRead.nd rfl (Or.inl rfl))
 (pss_cons (ps_if (pt_cmpR op_ge (pv 1) (pe_callB call_len (by rfl) (T.free 56 rfl) PySem.boot_len (pa_cons (pv 0) pa_nil)) (nomark _))
 (pss_one ps_break)
 pss_nil)
 (pss_cut (ps_set (i := 5) scLRead.nd rfl (Or.inl rfl) (pe_ix ix_str (pv 0) (pv 1) (fun _ _ => rfl)))
 (pss_one (ps_if (PW.pt (pw_and (pt_cmpR op_gt (pe_callB call_len (by rfl) (T.free 56 rfl) PySem.boot_len (pa_cons (pv 2) pa_nil)) pe_int (nomark _)) (pw_and1 (PW.pt (pw_or (PW.pt (pw_and (pt_cmpR op_eq (pv 5) pe_str (nomark _)) (pw_and1 (pt_cmpR op_ne (pv 3) pe_str (nomark _))))) (pw_or1 (PW.pt (pw_and (pt_cmpR op_eq (pv 5) pe_str (nomark _)) (pw_and1 (pt_cmpR op_eq (pv 3) pe_str (nomark _)))))))))))
 (pss_cons (ps_set (i := 1) scLRead.nd rfl (Or.inl rfl) (pe_op op_add (pv 1) pe_int))
 (pss_cons (ps_set (i := 3) scLRead.nd rfl (Or.inl rfl) pe_str)
 (pss_one (ps_if (pt_cmpR op_eq (pv 5) pe_str (nomark _))
 (pss_cons (ps_set (i := 6) scLRead.nd rfl (Or.inl rfl) (pe_callTy call_tuple_of (by rfl) (T.free 62 rfl) (by decide +kernel) (pa_cons (pe_bm0 PySem.F.plainAttrs_list PySem.F.slot_list_pop PySem.F.type_list_pop mt_pop (pv 2)) pa_nil)))
 (pss_cons (ps_expr (pe_bm PySem.F.plainAttrs_list PySem.F.slot_list_append PySem.F.type_list_append mt_append (pe_ix ix_list (pv 2) (pe_un un_neg pe_int) (fun _ _ => rfl)) (pa_cons (pv 6) pa_nil)))
 (pss_one (ps_set (i := 3) scLRead.nd rfl (Or.inl rfl) pe_str))))
 pss_nil))))
 (pss_one (ps_if (pt_cmpR op_eq (pv 3) pe_str (nomark _))
 (pss_one (ps_ret (pe_tup (pa_cons pe_str (pa_cons (pv 1) pa_nil)))))
 (pss_one (ps_if (pt_cmpR op_eq (pv 5) pe_str (nomark _))
 (pss_cons (ps_if (pt_cmpR op_gt (pe_callB call_len (by rfl) (T.free 56 rfl) PySem.boot_len (pa_cons (pv 2) pa_nil)) pe_int (nomark _))
 (pss_one (ps_ret (pe_tup (pa_cons pe_str (pa_cons (pv 1) pa_nil)))))
 pss_nil)
 (pss_cons (ps_expr (pe_bm PySem.F.plainAttrs_list PySem.F.slot_list_append PySem.F.type_list_append mt_append (pv 2) (pa_cons (pe_lstS pa_nil) pa_nil)))
 (pss_cons (ps_set (i := 1) scLRead.nd rfl (Or.inl rfl) (pe_op op_add (pv 1) pe_int))
 (pss_one (ps_set (i := 3) scLRead.nd rfl (Or.inl rfl) pe_str)))))
 (pss_cons (ps_asg (pe_has Hi (hr.mono (by decide)) pass0 (pa_cons (pv 0) (pa_cons (pv 1) pa_nil))) (pg_tup (by rfl) (pgs_cons (pg_name (i := 1) scLRead.nd rfl (Or.inl rfl)) (pgs_cons (pg_name (i := 7) scLRead.nd rfl (Or.inl rfl)) (pgs_cons (pg_name (i := 8) scLRead.nd rfl (Or.inl rfl)) pgs_nil)))))
 (pss_cons (ps_if (pt_not (pt_val (pv 8)))
 (pss_one (ps_ret (pe_tup (pa_cons pe_str (pa_cons (pv 1) pa_nil)))))
 pss_nil)
 (pss_cons (ps_expr (pe_bm PySem.F.plainAttrs_list PySem.F.slot_list_append PySem.F.type_list_append mt_append (pe_ix ix_list (pv 2) (pe_un un_neg pe_int) (fun _ _ => rfl)) (pa_cons (pv 7) pa_nil)))
 (pss_one (ps_set (i := 3) scLRead.nd rfl (Or.inl rfl) pe_str))))))))))))))
 (pss_cons (ps_if (PW.pt (pw_and (pt_cmpR op_eq (pv 3) pe_str (nomark _)) (pw_and1 (pt_cmpR op_eq (pe_callB call_len (by rfl) (T.free 56 rfl) PySem.boot_len (pa_cons (pv 2) pa_nil)) pe_int (nomark _)))))
 (pss_one (ps_ret (pe_tup (pa_cons pe_str (pa_cons (pe_ix ix_list (pe_ix ix_list (pv 2) pe_int (fun _ _ => rfl)) pe_int (fun _ _ => rfl)) pa_nil)))))
 pss_nil)
 (pss_one (ps_ret (pe_tup (pa_cons pe_str (pa_cons (pe_callB call_len (by rfl) (T.free 56 rfl) PySem.boot_len (pa_cons (pv 0) pa_nil)) pa_nil))))))))))), ?_⟩
    obtain ⟨v, d, rfl, hd, hN, hS⟩ := h
    refine isx_go (kx_str d) (fun Q q => ⟨v, rfl, q⟩) hd ⟨_, rfl, ?_⟩
    cases is : isStr d with
    | false => exact iteT ⟨_, rfl, (by show 2 ≤ sizeLine; decide), fun p np => hN is _ p (same_new np) upd_same⟩
    | true =>
      obtain ⟨x, rfl⟩ : ∃ x, d = .str x := by
        cases d with
        | str x => exact ⟨x, rfl⟩
        | _ => cases is
      obtain rfl := Dx.str_inv hd
      obtain ⟨xl, gd, r, go, hQ⟩ := hS x rfl
      have xc : x.cps.toList.length = x.length := by simp [Str.length]
      have xl2 : x.length ≤ sizeLine := Nat.le_trans xl (by decide)
      have mostB : most = 12000000 := rfl
      refine iteF ⟨(by show 0 ≤ sizeLine; decide), fun q0 nq0 _ => ⟨(by show 1 ≤ sizeLine; decide), fun o no _ => ?_⟩⟩
      have sA := same_new (o := HO.lst []) nq0
      have sB := same_new (o := HO.lst [.ref q0]) no
      have q0o : q0 ≠ o := fun z => by rw [← z, upd_same] at no; cases no
      have O0 : Opn H (upd (upd H q0 (HO.lst [])) o (HO.lst [.ref q0])) o [q0] [[]] := ⟨upd_same, fresh_up sA no, sA.trans sB, fun z => q0o (List.mem_singleton.mp z).symm, .cons nq0 List.not_mem_nil (by rw [upd_ne q0o]; exact upd_same) .nil rfl .nil⟩
      generalize upd (upd H q0 (HO.lst [])) o (HO.lst [.ref q0]) = H1 at O0 ⊢
      -- behind the loop
      refine ⟨fun σ H' => ∃ (qs : List Addr) (fs : List (List PyData)) (wd : Str), (∃ o4 o5 o6 o7 o8, σ = [some (.str x), some (.int ((x.length : Nat) : Int)), some (.ref o), some (.str wd), o4, o5, o6, o7, o8]) ∧ Opn H H' o qs fs ∧ Lead r wd fs [] x.length, ?_, ?_⟩
      · refine ⟨_, rfl, _, _, rfl, ⟨xl2, rfl⟩, _, rfl, by omega, by omega, ?_⟩
        rw [Int.toNat_natCast]
        refine for_it walk_range (fun j σ H' => ∃ (qs : List Addr) (fs : List (List PyData)) (wd : Str) (l : List Nat) (i : Nat), (∃ o4 o5 o6 o7 o8, σ = [some (.str x), some (.int ((i : Nat) : Int)), some (.ref o), some (.str wd), o4, o5, o6, o7, o8]) ∧ Opn H H' o qs fs ∧ Lead r wd fs l i ∧ x.cps.toList.drop i = l ∧ i + l.length = x.length ∧ Bd i fs ∧ j ≤ i) ⟨[q0], [[]], "item", x.cps.toList, 0, ⟨_, _, _, _, _, rfl⟩, O0, .inl ⟨rfl, [], rfl, go⟩, rfl, by omega, (fun ds m => by rw [List.mem_singleton.mp m]; exact Nat.le_refl _), Nat.le_refl _⟩ (fun _ _ _ _ _ => True.intro) ?_ ?_
        · rintro j v σ H3 H2 hj ⟨qs, fs, wd, l, i, ⟨o4, o5, o6, o7, o8, rfl⟩, O, ld, dl, il, bd, ji⟩ ⟨rfl, ev⟩
          refine ⟨_, rfl, _, rfl, _, _, rfl, ⟨xl2, rfl⟩, _, _, rfl, rfl, _, rfl, ?_⟩
          refine ite2 (fun e => ?_) (fun e => ?_)
          · have ge := of_decide_eq_true e
            obtain rfl : l = [] := List.length_eq_zero_iff.mp (by omega)
            obtain rfl : i = x.length := by simpa using il
            exact ⟨qs, fs, wd, ⟨_, _, _, _, _, rfl⟩, O, ld⟩
          have lt : i < x.length := Nat.lt_of_not_le fun z => e (decide_eq_true (by omega))
          obtain ⟨c, l2, rfl⟩ : ∃ c l2, l = c :: l2 := by
            cases l with
            | nil => simp at il; omega
            | cons c l2 => exact ⟨c, l2, rfl⟩
          have d1 := drop_cons dl
          rw [List.length_cons] at il
          refine ⟨fun σ H' => H' = H2 ∧ σ = [some (.str x), some (.int ((i : Nat) : Int)), some (.ref o), some (.str wd), some v, some (.str ⟨#[c]⟩), o6, o7, o8], ⟨_, rfl, _, rfl, x, _, c, rfl, rfl, xl2, atI_nat d1.2.1, rfl, rfl⟩, ?_⟩
          rintro σ H4 ⟨rfl, rfl⟩
          have ql := O.lv.len
          refine and_go (decide (1 < fs.length)) ((decide (c = 41) && !decide (wd = "item")) || (decide (c = 44) && decide (wd = "done"))) (fun Q q => ⟨_, rfl, _, qs.length, rfl, .inl ⟨_, sq_of O.eo, by simp⟩, _, _, rfl, rfl, _, rfl, by
            rw [show decide ((1 : Int) < ((qs.length : Nat) : Int)) = decide (1 < fs.length) from decide_eq_decide.mpr (by omega)]
            exact q⟩) (fun _ Q q => or_go _ _ (fun Q q => and_go _ _ (fun Q q => ⟨_, rfl, rfl, _, rfl, by rw [show (Str.ofString ")") = ⟨#[41]⟩ from rfl, str_ne]; exact q⟩) (fun _ Q q => ⟨_, rfl, rfl, _, rfl, by rw [str_dec]; exact q⟩) q) (fun _ Q q => and_go _ _ (fun Q q => ⟨_, rfl, rfl, _, rfl, by rw [show (Str.ofString ",") = ⟨#[44]⟩ from rfl, str_ne]; exact q⟩) (fun _ Q q => ⟨_, rfl, rfl, _, rfl, by rw [str_dec]; exact q⟩) q) q) ?_
          by_cases CC : (decide (1 < fs.length) && ((decide (c = 41) && !decide (wd = "item")) || (decide (c = 44) && decide (wd = "done")))) = true
          · rw [CC]
            simp only [Bool.and_eq_true, Bool.or_eq_true, decide_eq_true_eq, Bool.not_eq_true', decide_eq_false_iff_not] at CC
            obtain ⟨f1, f2⟩ := CC
            refine iteT ⟨_, rfl, _, _, rfl, rfl, ?_⟩
            refine ⟨_, rfl, rfl, _, rfl, ?_⟩
            rw [show (Str.ofString ")") = ⟨#[41]⟩ from rfl, str_ne]
            by_cases c41 : c = 41
            · rw [decide_eq_true c41]
              obtain ⟨ds, st, ef, f⟩ : ∃ (ds : List PyData) (st : List (List PyData)), fs = (ds :: st) ++ [[]] ∧ Fin r (closing (.tuple ds) (put (.tuple ds) st) l2 (i + 1)) := by
                rcases ld with ⟨rfl, st, rfl, g⟩ | ⟨rfl, st, rfl, f⟩ | ⟨rfl, ⟨d, rfl, f⟩ | ⟨ds, st, d, rfl, f⟩⟩
                · rcases f2 with z | z
                  · exact absurd rfl z.2
                  · omega
                · rw [if_pos (show (c :: l2).head? = some 41 by rw [c41]; rfl), closing, if_pos c41] at f
                  exact ⟨_, _, rfl, f⟩
                · exact absurd f1 (by simp)
                · rw [closing, if_pos c41] at f
                  exact ⟨_, _, rfl, f⟩
              obtain ⟨es, rest, er⟩ : ∃ es rest, st ++ [[]] = es :: rest := by
                cases st with
                | nil => exact ⟨_, _, rfl⟩
                | cons a b => exact ⟨_, _, rfl⟩
              rw [List.cons_append, er] at ef
              subst ef
              obtain ⟨q, q2, qs3, rfl⟩ : ∃ q q2 qs3, qs = q :: q2 :: qs3 := by
                cases qs with
                | nil => simp at ql
                | cons q qs =>
                  cases qs with
                  | nil => simp at ql
                  | cons q2 qs3 => exact ⟨q, q2, qs3, rfl⟩
              have eo := O.eo
              rw [List.reverse_cons, List.map_append] at eo
              obtain ⟨vs, O4, eq, dvs, tds⟩ := O.pop
              refine iteT ⟨_, rfl, .inl ⟨rfl, _, sq_of eo⟩, o, (q2 :: qs3).reverse.map V.ref ++ [.ref q], .ref q, rfl, rfl, eo, by simp, ?_⟩
              rw [List.dropLast_concat]
              generalize upd H4 o (HO.lst ((q2 :: qs3).reverse.map V.ref)) = H5 at O4 eq dvs ⊢
              refine ⟨q, vs, rfl, .inl ⟨sq_of eq, fun p np => ?_⟩⟩
              have s5 := same_new (o := HO.tup vs) np
              have O5 := O4.new s5
              have dv : Dx (upd H5 p (HO.tup vs)) (.ref p) (.tuple ds) := .tup upd_same (DxAll.same s5 _ _ dvs)
              have td : tupD (.tuple ds) = true := tds
              generalize upd H5 p (HO.tup vs) = H6 at O5 dv ⊢
              obtain ⟨us, eq2, lus, O6⟩ := O5.add dv td
              have eo5 := O5.eo
              rw [List.reverse_cons, List.map_append] at eo5
              refine ⟨_, rfl, _, rfl, o, _, _, .ref q2, rfl, rfl, sq_of eo5, atI_last _ _, .inl ⟨rfl, _, sq_of eq2⟩, _, rfl, q2, _, _, rfl, rfl, eq2, by
                have := bd.tail es List.mem_cons_self
                rw [sizeLine_eq]
                omega, ?_⟩
              exact ⟨q2 :: qs3, (es ++ [PyData.tuple ds]) :: rest, "done", l2, i + 1, ⟨_, _, _, _, _, rfl⟩, O6, lead_close er f, d1.1, by omega, bd.tail.put (Nat.le_refl _) _, by omega⟩
            · rw [decide_eq_false c41]
              have f3 : c = 44 ∧ wd = "done" := f2.resolve_left fun z => c41 z.1
              refine iteF ⟨qs, fs, "item", l2, i + 1, ⟨_, _, _, _, _, rfl⟩, O, ?_, d1.1, by omega, bd.mono (Nat.le_succ i), by omega⟩
              rcases ld with ⟨rfl, st, rfl, g⟩ | ⟨rfl, st, rfl, f⟩ | ⟨rfl, ⟨d, rfl, f⟩ | ⟨ds, st, d, rfl, f⟩⟩
              · exact absurd f3.2 (by decide +kernel)
              · exact absurd f3.2 (by decide +kernel)
              · exact absurd f1 (by simp)
              · rw [closing, if_neg c41, if_pos f3.1] at f
                exact .inl ⟨rfl, _, rfl, f⟩
          · have CF : (decide (1 < fs.length) && ((decide (c = 41) && !decide (wd = "item")) || (decide (c = 44) && decide (wd = "done")))) = false := by simpa using CC
            rw [CF]
            simp only [Bool.and_eq_true, Bool.or_eq_true, decide_eq_true_eq, Bool.not_eq_true', decide_eq_false_iff_not] at CC
            refine iteF ⟨_, rfl, rfl, _, rfl, ?_⟩
            rw [str_dec]
            by_cases wdn : wd = "done"
            · rw [decide_eq_true wdn]
              have rb : r = .bad i := by
                rcases ld with ⟨rfl, st, rfl, g⟩ | ⟨rfl, st, rfl, f⟩ | ⟨rfl, ⟨d, rfl, f⟩ | ⟨ds, st, d, rfl, f⟩⟩
                · exact absurd wdn (by decide +kernel)
                · exact absurd wdn (by decide +kernel)
                · exact (show TR.bad i = r from f).symm
                · have f1 : 1 < ((ds :: st) ++ [[]]).length := by simp
                  rw [closing, if_neg (fun z => CC ⟨f1, .inl ⟨z, by decide +kernel⟩⟩), if_neg (fun z => CC ⟨f1, .inr ⟨z, rfl⟩⟩)] at f
                  exact (show TR.bad i = r from f).symm
              rw [rb] at hQ
              exact iteT ⟨_, rfl, (by show 2 ≤ sizeLine; decide), fun p np => hQ _ p (O.sm.trans (same_new np)) upd_same⟩
            rw [decide_eq_false wdn]
            obtain ⟨st, rfl, g⟩ : ∃ st : List (List PyData), fs = st ++ [[]] ∧ GoR (st, c :: l2, i) r := by
              rcases ld with ⟨rfl, st, rfl, g⟩ | ⟨rfl, st, rfl, f⟩ | ⟨rfl, _⟩
              · exact ⟨st, rfl, g⟩
              · have f1 : 1 < (([] :: st) ++ [[]] : List (List PyData)).length := by simp
                rw [if_neg (show ¬ (c :: l2).head? = some 41 from fun z => CC ⟨f1, .inl ⟨Option.some.inj z, by decide +kernel⟩⟩)] at f
                exact ⟨_, rfl, f⟩
              · exact absurd rfl wdn
            have fin := g.fin
            unfold stepR at fin
            dsimp only at fin
            refine iteF ⟨_, rfl, rfl, _, rfl, ?_⟩
            rw [show (Str.ofString "(") = ⟨#[40]⟩ from rfl, str_ne]
            rw [List.length_append, List.length_cons, List.length_nil] at ql
            by_cases c40 : c = 40
            · rw [decide_eq_true c40]
              refine iteT ⟨_, rfl, _, qs.length, rfl, .inl ⟨_, sq_of O.eo, by simp⟩, _, _, rfl, rfl, _, rfl, ?_⟩
              by_cases s40 : st.length < 40
              · rw [decide_eq_false (show ¬ (40 : Int) < ((qs.length : Nat) : Int) by omega)]
                rw [if_pos ⟨by rw [c40]; rfl, s40⟩, List.tail_cons] at fin
                refine iteF ⟨_, rfl, .inl ⟨rfl, _, sq_of O.eo⟩, (by show 0 ≤ sizeLine; decide), fun q nq _ => ⟨o, _, _, rfl, rfl, (same_new nq) _ _ O.eo, by
                  rw [List.length_map, List.length_reverse, sizeLine_eq]
                  omega, ?_⟩⟩
                have O2 := O.push nq
                generalize e8 : upd (upd H4 q (.lst [])) o _ = H5
                replace O2 : Opn H H5 o (q :: qs) ([] :: (st ++ [[]])) := by rw [← e8]; exact O2
                refine ⟨_, rfl, _, _, rfl, rfl, q :: qs, [] :: (st ++ [[]]), "first", l2, i + 1, ⟨_, _, _, _, _, rfl⟩, O2, .inr (.inl ⟨rfl, st, rfl, ?_⟩), d1.1, by omega, (bd.mono (Nat.le_succ i)).nil, by omega⟩
                by_cases c41 : l2.head? = some 41
                · rw [if_pos c41] at fin ⊢
                  exact fin
                · rw [if_neg c41] at fin ⊢
                  exact fin
              · rw [decide_eq_true (show (40 : Int) < ((qs.length : Nat) : Int) by omega)]
                rw [if_neg (fun z => s40 z.2), c40] at fin
                have rb : r = .bad i := (show TR.bad i = r from fin).symm
                rw [rb] at hQ
                exact iteT ⟨_, rfl, (by show 2 ≤ sizeLine; decide), fun p np => hQ _ p (O.sm.trans (same_new np)) upd_same⟩
            · rw [decide_eq_false c40]
              rw [if_neg (fun z => c40 (Option.some.inj z.1))] at fin
              refine iteF ⟨_, rfl, _, rfl, x, i, c, l2, rfl, xl, gd, dl, ?_⟩
              cases el : leafR (c :: l2) i with
              | bad p =>
                rw [el] at fin
                have rb : r = .bad p := (show TR.bad p = r from fin).symm
                rw [rb] at hQ
                intro H5 t s5 et
                refine ⟨t, _, rfl, st_of et, rfl, _, _, rfl, _, _, rfl, _, _, rfl, rfl, ?_⟩
                exact ⟨_, rfl, false, rfl, iteT ⟨_, rfl, (by show 2 ≤ sizeLine; decide), fun p np => hQ _ p (O.sm.trans (s5.trans (same_new np))) upd_same⟩⟩
              | ok d l' i' =>
                rw [el] at fin
                intro H5 t v' s5 et dv
                have ln := leafR_len el
                rw [List.length_cons] at ln
                have td : tupD d = true := by
                  rcases leafR_thing el with rfl | ⟨b, rfl⟩ | ⟨n, rfl⟩ | ⟨y, rfl⟩ <;> rfl
                have dl2 : x.cps.toList.drop i' = l' := leafR_drop el dl
                have O3 := O.new s5
                obtain ⟨es, rest, er⟩ : ∃ es rest, st ++ [[]] = es :: rest := by
                  cases st with
                  | nil => exact ⟨_, _, rfl⟩
                  | cons a b => exact ⟨_, _, rfl⟩
                rw [er] at O3 bd
                obtain ⟨q, qs3, rfl⟩ : ∃ q qs3, qs = q :: qs3 := by
                  cases qs with
                  | nil => simp at ql
                  | cons q qs3 => exact ⟨q, qs3, rfl⟩
                refine ⟨t, _, rfl, st_of et, rfl, _, _, rfl, _, _, rfl, _, _, rfl, rfl, ?_⟩
                obtain ⟨us, eq2, lus, O6⟩ := O3.add dv td
                have eo5 := O3.eo
                rw [List.reverse_cons, List.map_append] at eo5
                refine ⟨_, rfl, true, rfl, iteF ⟨_, rfl, _, rfl, o, _, _, .ref q, rfl, rfl, sq_of eo5, atI_last _ _, .inl ⟨rfl, _, sq_of eq2⟩, _, rfl, q, _, _, rfl, rfl, eq2, by
                  have := bd es List.mem_cons_self
                  rw [sizeLine_eq]
                  omega, ?_⟩⟩
                exact ⟨q :: qs3, (es ++ [d]) :: rest, "done", l', i', ⟨_, _, _, _, _, rfl⟩, O6, lead_item er fin, dl2, by omega, bd.put (by omega) _, by omega⟩
        · rintro σ H2 ⟨qs, fs, wd, l, i, ⟨o4, o5, o6, o7, o8, rfl⟩, O, ld, dl, il, bd, ji⟩
          obtain rfl : l = [] := List.length_eq_zero_iff.mp (by omega)
          obtain rfl : i = x.length := by simpa using il
          exact ⟨qs, fs, wd, ⟨_, _, _, _, _, rfl⟩, O, ld⟩
      · rintro σ H2 ⟨qs, fs, wd, ⟨o4, o5, o6, o7, o8, rfl⟩, O, ld⟩
        have ql := O.lv.len
        have sm := O.sm
        rcases lead_end ld with ⟨d, rfl, rfl, rfl⟩ | ⟨rfl, nd⟩
        · refine and_seq true true (fun Q q => ⟨_, rfl, rfl, _, rfl, by rw [decide_eq_true rfl]; exact q⟩) (fun _ Q q => ⟨_, rfl, _, qs.length, rfl, .inl ⟨_, sq_of O.eo, by simp⟩, rfl, _, rfl, by rw [ql, decide_eq_true (show V.int ((([[d]] : List (List PyData)).length : Nat) : Int) = V.int 1 from rfl)]; exact q⟩) ?_
          have lv := O.lv
          cases lv with
          | @cons q qs2 vs _ _ new nq at_ dx td more =>
            cases more
            cases dx with
            | @cons v vs _ _ one more =>
              cases more
              have td1 : tupD d = true := tupDs_mem td List.mem_cons_self
              exact iteT ⟨_, rfl, o, _, _, .ref q, rfl, rfl, sq_of O.eo, rfl, q, _, _, v, rfl, rfl, sq_of at_, rfl, (by show 2 ≤ sizeLine; decide), fun p np => hQ _ p v (sm.trans (same_new np)) upd_same (one.sm (same_new np)) td1⟩
        · refine and_seq (decide (wd = "done")) (decide (fs.length = 1)) (fun Q q => ⟨_, rfl, rfl, _, rfl, by rw [str_dec]; exact q⟩) (fun _ Q q => ⟨_, rfl, _, qs.length, rfl, .inl ⟨_, sq_of O.eo, by simp⟩, rfl, _, rfl, by
            rw [show decide (V.int ((qs.length : Nat) : Int) = V.int 1) = decide (fs.length = 1) from decide_eq_decide.mpr ⟨fun z => by have z := V.int.inj z; omega, fun z => by rw [ql, z]; rfl⟩]
            exact q⟩) ?_
          rw [← Bool.decide_and, decide_eq_false nd]
          exact iteF ⟨_, rfl, _, _, rfl, ⟨xl2, rfl⟩, (by show 2 ≤ sizeLine; decide), fun p np => hQ _ p (sm.trans (same_new np)) upd_same⟩
end
end K53

set_option maxHeartbeats 4000000
namespace K53
open PySem PySem.Spec PyProof.Rows L2 V1 V2 V3 V7 V8 CwR
open Evl (pss_cut tCut sq_of st_of)
theorem cut_gd {x : Str} (g : GdS x = true) (lo hi : Option Int) : GdS (cutS x lo hi) = true := by
  unfold GdS at g ⊢
  refine List.all_eq_true.mpr fun c hc => List.all_eq_true.mp g c ?_
  have z : c ∈ (x.cps.toList.drop (HT.sIx x.length 0 lo)).take (HT.sIx x.length x.length hi - HT.sIx x.length 0 lo) := by simpa [cutS] using hc
  exact List.mem_of_mem_drop (List.mem_of_mem_take z)
section
variable [CurK]
def spBent : Sp := fun vs H Q _ => ∃ (a : Addr) (x : Str), vs = [.ref a, .str x] ∧ HandAt H a ∧ GdS x = true ∧ x.length ≤ 9000 ∧ ∀ H' y, Go a H H' → GdS y = true → y.length ≤ 20000 → Q (.str y) H'
end
theorem scBent : FnScope ["hand", "text", "at", "to", "way", "odd", "part"] ["hand", "text"] (defScope s__law_bent) := ⟨rfl, rfl, rfl, by decide +kernel, rfl, by decide +kernel, by decide +kernel⟩
/-- texts that may be written, all short -/
def Shs (xs : List V) : Prop := ∀ v ∈ xs, ∃ y : Str, v = .str y ∧ GdS y = true ∧ y.length ≤ 100
theorem shs_nil : Shs [] := fun _ h => absurd h List.not_mem_nil
theorem shs_cons {y : Str} {xs : List V} (g : GdS y = true) (l : y.length ≤ 100) (h : Shs xs) : Shs (.str y :: xs) := fun v m => by
  rcases List.mem_cons.mp m with rfl | m
  · exact ⟨y, rfl, g, l⟩
  · exact h v m
theorem shs_app {xs ys : List V} (h : Shs xs) (k : Shs ys) : Shs (xs ++ ys) := fun v m => by
  rcases List.mem_append.mp m with m | m
  · exact h v m
  · exact k v m
theorem some_shs {H : Hp} {a p : Addr} {Q : VK} {xs : List V} (hd : HandAt H a) (pa : p ≠ a) (e : H p = some (.lst xs)) (l0 : 0 < xs.length) (l1 : xs.length < 1000) (s : Shs xs) (k : ∀ H2 (y : Str), Go a H H2 → GdS y = true → y.length ≤ 100 → Q (.str y) H2) : spSome [.ref a, .ref p] H Q (fun _ _ _ => False) := by
  refine ⟨a, .ref p, xs, rfl, hd, .inl ⟨p, rfl, pa, .inl e⟩, l0, l1, fun H2 i v hd2 e2 c2 ev => ?_⟩
  obtain ⟨y, rfl, g, l⟩ := s v (List.mem_of_getElem? ev)
  exact k H2 y (Go.draw hd2 e2 c2) g l
def oddV : List V := [.str "'", .str "~", .str "(", .str ")", .str ",", .str "-", .str "0", .str "7", .str "y", .str "yes", .str "no", .str "\n", .str " ", .str "n", .str (Txt.mul (Str.ofString "9") 20), .str (Txt.mul (Str.ofString "1") 21), .str "()", .str "~n", .str "~x"]
theorem oddV_ok : Shs oddV := shs_cons (by decide +kernel) (by decide +kernel) (shs_cons (by decide +kernel) (by decide +kernel) (shs_cons (by decide +kernel) (by decide +kernel) (shs_cons (by decide +kernel) (by decide +kernel) (shs_cons (by decide +kernel) (by decide +kernel) (shs_cons (by decide +kernel) (by decide +kernel) (shs_cons (by decide +kernel) (by decide +kernel) (shs_cons (by decide +kernel) (by decide +kernel) (shs_cons (by decide +kernel) (by decide +kernel) (shs_cons (by decide +kernel) (by decide +kernel) (shs_cons (by decide +kernel) (by decide +kernel) (shs_cons (by decide +kernel) (by decide +kernel) (shs_cons (by decide +kernel) (by decide +kernel) (shs_cons (by decide +kernel) (by decide +kernel) (shs_cons (by decide +kernel) (by decide +kernel) (shs_cons (by decide +kernel) (by decide +kernel) (shs_cons (by decide +kernel) (by decide +kernel) (shs_cons (by decide +kernel) (by decide +kernel) (shs_cons (by decide +kernel) (by decide +kernel) (shs_nil)))))))))))))))))))
def odd2V (c : Nat) : List V := [.str (Txt.mul (Str.ofString "(") 40), .str "-0", .str "00", .str "(-)", .str ",'a'", .str ⟨#[c]⟩]
theorem odd2V_ok {c : Nat} (g : GdS ⟨#[c]⟩ = true) : Shs (odd2V c) := shs_cons (by decide +kernel) (by decide +kernel) (shs_cons (by decide +kernel) (by decide +kernel) (shs_cons (by decide +kernel) (by decide +kernel) (shs_cons (by decide +kernel) (by decide +kernel) (shs_cons (by decide +kernel) (by decide +kernel) (shs_cons g (by show 1 ≤ 100; decide) shs_nil)))))
theorem cut_len (x : Str) (lo hi : Option Int) : (cutS x lo hi).length ≤ x.length := cutS_length x lo hi
section
variable [CurK] {P : Program} {w : World} {mg : Str → Option Value} {base : Heap}
theorem ok_bent (T : Tx K w mg) : Has P w K mg base CX0 3 "_law_bent" ["hand", "text"] spBent := by
  obtain ⟨fd, F⟩ := T.c.def_ 31 (d := d__law_bent) rfl
  have Hd := ok_draw (P := P) (w := w) (base := base) T
  have Hs := ok_some (P := P) (w := w) (base := base) T
  have Hg := ok_signs (P := P) (w := w) (base := base) T
  refine ⟨fd, F.ok scBent (fun vs H Q E h => ?_) (fun cdv A outer s H vs Q E hr h => ?_), FunD.bindsN F fun _ _ _ _ _ _ us hl => match us, hl with | [_, _], _ => rfl, F.kp, (T.glo 45 rfl)⟩
  · obtain ⟨a, x, rfl, _⟩ := h
    rfl
  · refine ⟨_, PSs.nox (pss_cons (ps_set (i := 2) scBent.nd rfl (Or.inl rfl) (pe_has Hd (hr.mono (by decide)) pass0 (pa_cons (pv 0) (pa_cons (pe_op op_add (pe_callB call_len (by rfl) (T.free 56 rfl) PySem.boot_len (pa_cons (pv 1) pa_nil)) pe_int) pa_nil))))
 (pss_cons (ps_set (i := 3) scBent.nd rfl (Or.inl rfl) (pe_has Hd (hr.mono (by decide)) pass0 (pa_cons (pv 0) (pa_cons (pe_op op_add (pe_callB call_len (by rfl) (T.free 56 rfl) PySem.boot_len (pa_cons (pv 1) pa_nil)) pe_int) pa_nil))))
 (pss_cons (ps_set (i := 4) scBent.nd rfl (Or.inl rfl) (pe_has Hd (hr.mono (by decide)) pass0 (pa_cons (pv 0) (pa_cons pe_int pa_nil))))
 (pss_cons (ps_set (i := 5) scBent.nd rfl (Or.inl rfl) (pe_lstS (pa_cons pe_str (pa_cons pe_str (pa_cons pe_str (pa_cons pe_str (pa_cons pe_str (pa_cons pe_str (pa_cons pe_str (pa_cons pe_str (pa_cons pe_str (pa_cons pe_str (pa_cons pe_str (pa_cons pe_str (pa_cons pe_str (pa_cons pe_str (pa_cons (pe_op V4.op_mulS pe_str pe_int) (pa_cons (pe_op V4.op_mulS pe_str pe_int) (pa_cons pe_str (pa_cons pe_str (pa_cons pe_str pa_nil)))))))))))))))))))))
 (pss_cut (ps_set (i := 6) scBent.nd rfl (Or.inl rfl) (pe_has Hs (hr.mono (by decide)) pass0 (pa_cons (pv 0) (pa_cons (pe_op op_cat (pv 5) (pe_lstS (pa_cons (pe_op V4.op_mulS pe_str pe_int) (pa_cons pe_str (pa_cons pe_str (pa_cons pe_str (pa_cons pe_str (pa_cons (pe_has Hs (hr.mono (by decide)) pass0 (pa_cons (pv 0) (pa_cons (pe_has0 Hg (hr.mono (by decide)) pass0) pa_nil))) pa_nil)))))))) pa_nil))))
 (pss_cons (ps_if (pt_cmpR op_lt (pv 4) pe_int (nomark _))
 (pss_one (ps_ret (pe_op op_add_str (pe_op op_add_str (pe_slice sl_str (pv 1) po_none (po_some (pv 2))) (pv 6)) (pe_slice sl_str (pv 1) (po_some (pv 2)) po_none))))
 pss_nil)
 (pss_cons (ps_if (pt_cmpR op_eq (pv 4) pe_int (nomark _))
 (pss_one (ps_ret (pe_op op_add_str (pe_slice sl_str (pv 1) po_none (po_some (pv 2))) (pe_slice sl_str (pv 1) (po_some (pe_op op_add (pv 2) pe_int)) po_none))))
 pss_nil)
 (pss_cons (ps_if (pt_cmpR op_eq (pv 4) pe_int (nomark _))
 (pss_one (ps_ret (pe_op op_add_str (pe_op op_add_str (pe_slice sl_str (pv 1) po_none (po_some (pv 2))) (pv 6)) (pe_slice sl_str (pv 1) (po_some (pe_op op_add (pv 2) pe_int)) po_none))))
 pss_nil)
 (pss_cons (ps_if (pt_cmpR op_eq (pv 4) pe_int (nomark _))
 (pss_one (ps_ret (pe_slice sl_str (pv 1) po_none (po_some (pv 2)))))
 pss_nil)
 (pss_cons (ps_if (pt_cmpR op_eq (pv 4) pe_int (nomark _))
 (pss_one (ps_ret (pe_op op_add_str (pe_slice sl_str (pv 1) po_none (po_some (pe_callB (call_max2 rfl) (by rfl) (T.free 58 rfl) (by decide +kernel) (pa_cons (pv 2) (pa_cons (pv 3) pa_nil))))) (pe_slice sl_str (pv 1) (po_some (pe_callB (call_min2 rfl) (by rfl) (T.free 59 rfl) (by decide +kernel) (pa_cons (pv 2) (pa_cons (pv 3) pa_nil)))) po_none))))
 pss_nil)
 (pss_one (ps_ret (pe_op op_add_str (pv 1) (pv 6)))))))))))))), ?_⟩
    obtain ⟨a, x, rfl, hd, gx, xl, hQ⟩ := h
    have xl2 : x.length ≤ sizeLine := by rw [sizeLine_eq]; omega
    have xLen : ∀ H, LenV K (.str x) H x.length := fun H => ⟨xl2, rfl⟩
    refine ⟨_, rfl, _, rfl, _, _, rfl, xLen _, _, _, rfl, rfl, a, _, rfl, hd, by omega, by omega, fun H1 at_ hd1 e1 c1 a0 a1 => ?_⟩
    refine ⟨_, rfl, _, rfl, _, _, rfl, xLen _, _, _, rfl, rfl, a, _, rfl, hd1, by omega, by omega, fun H2 to hd2 e2 c2 t0 t1 => ?_⟩
    refine ⟨_, rfl, a, 8, rfl, hd2, by decide, by decide, fun H3 way hd3 e3 c3 w0 w1 => ?_⟩
    have g3 := ((Go.draw hd1 e1 c1).trans (Go.draw hd2 e2 c2)).trans (Go.draw hd3 e3 c3)
    refine ⟨_, _, rfl, rfl, by decide, by decide, by decide, _, _, rfl, rfl, by decide, by decide, by decide, (by show 19 ≤ sizeLine; decide), fun q nq _ => ?_⟩
    have sq1 := same_new (o := HO.lst oddV) nq
    have eq1 : upd H3 q (HO.lst oddV) q = some (.lst oddV) := upd_same
    have qa := hd3.ne_new nq
    have g4 := g3.trans (Go.new hd3 sq1)
    have hd4 := g4.hd
    refine ⟨fun σ H' => ∃ y : Str, σ = [some (.ref a), some (.str x), some (.int at_), some (.int to), some (.int way), some (.ref q), some (.str y)] ∧ Go a H H' ∧ GdS y = true ∧ y.length ≤ 100, ?_, ?_⟩
    · refine ⟨_, rfl, _, rfl, _, _, rfl, rfl, by decide, by decide, by decide, _, rfl, rfl, pick_sign (E := fun _ _ _ => False) signs_gd (by decide +kernel) (by decide +kernel) hd4 fun H5 c hd5 e5 c5 gc => ?_⟩
      have g5 := g4.trans (Go.draw hd5 e5 c5)
      have eq5 : H5 q = some (.lst oddV) := by
        have z := congrFun e5 q
        rw [delH_ne qa, delH_ne qa] at z
        exact z.trans eq1
      refine ⟨(by show 6 ≤ sizeLine; decide), fun q2 nq2 _ => ?_⟩
      have s2 := same_new (o := HO.lst (odd2V c)) nq2
      refine ⟨q, q2, oddV, odd2V c, rfl, rfl, s2 _ _ eq5, upd_same, (by show 25 ≤ sizeLine; decide), fun q3 nq3 => ?_⟩
      have s3 := same_new (o := HO.lst (oddV ++ odd2V c)) nq3
      have g6 := g5.trans (Go.new hd5 (s2.trans s3))
      have q3a : q3 ≠ a := (hand_same hd5 s2).ne_new nq3
      refine some_shs g6.hd q3a upd_same (by show 0 < 25; decide) (by show 25 < 1000; decide) (shs_app oddV_ok (odd2V_ok gc)) fun H7 y g7 gy yl => ?_
      exact ⟨y, rfl, g6.trans g7, gy, yl⟩
    · clear eq1 sq1 g4 hd4 qa nq
      rintro σ H5 ⟨y, rfl, g5, gy, yl⟩
      have fin : ∀ z : Str, GdS z = true → z.length ≤ 20000 → Q (.str z) H5 := fun z g l => hQ _ _ g5 g l
      have ct := fun lo hi => cut_len x lo hi
      have cg := fun lo hi => cut_gd gx lo hi
      have add2 : ∀ lo1 hi1 lo2 hi2, (cutS x lo1 hi1).length + y.length ≤ sizeLine ∧ (cutS x lo1 hi1 ++ y).length + (cutS x lo2 hi2).length ≤ sizeLine ∧ Q (.str (cutS x lo1 hi1 ++ y ++ cutS x lo2 hi2)) H5 := fun lo1 hi1 lo2 hi2 => by
        have l1 := ct lo1 hi1
        have l2 := ct lo2 hi2
        refine ⟨by rw [sizeLine_eq]; omega, by rw [V6.len_app, sizeLine_eq]; omega, fin _ (gd_app (gd_app (cg _ _) gy) (cg _ _)) (by rw [V6.len_app, V6.len_app]; omega)⟩
      have add1 : ∀ lo1 hi1 lo2 hi2, (cutS x lo1 hi1).length + (cutS x lo2 hi2).length ≤ sizeLine ∧ Q (.str (cutS x lo1 hi1 ++ cutS x lo2 hi2)) H5 := fun lo1 hi1 lo2 hi2 => by
        have l1 := ct lo1 hi1
        have l2 := ct lo2 hi2
        exact ⟨by rw [sizeLine_eq]; omega, fin _ (gd_app (cg _ _) (cg _ _)) (by rw [V6.len_app]; omega)⟩
      refine ⟨_, rfl, _, _, rfl, rfl, _, rfl, ite2 (fun _ => ?_) (fun _ => ?_)⟩
      · obtain ⟨p1, p2, p3⟩ := add2 none (some at_) (some at_) none
        exact ⟨_, rfl, _, rfl, _, rfl, x, rfl, xl2, _, rfl, _, _, rfl, rfl, p1, _, rfl, _, rfl, _, rfl, x, rfl, xl2, _, _, rfl, rfl, p2, p3⟩
      refine ⟨_, rfl, rfl, _, rfl, ite2 (fun _ => ?_) (fun _ => ?_)⟩
      · obtain ⟨p1, p2⟩ := add1 none (some at_) (some (at_ + 1)) none
        exact ⟨_, rfl, _, rfl, _, rfl, x, rfl, xl2, _, rfl, _, rfl, _, _, rfl, rfl, _, rfl, x, rfl, xl2, _, _, rfl, rfl, p1, p2⟩
      refine ⟨_, rfl, rfl, _, rfl, ite2 (fun _ => ?_) (fun _ => ?_)⟩
      · obtain ⟨p1, p2, p3⟩ := add2 none (some at_) (some (at_ + 1)) none
        exact ⟨_, rfl, _, rfl, _, rfl, x, rfl, xl2, _, rfl, _, _, rfl, rfl, p1, _, rfl, _, rfl, _, _, rfl, rfl, _, rfl, x, rfl, xl2, _, _, rfl, rfl, p2, p3⟩
      refine ⟨_, rfl, rfl, _, rfl, ite2 (fun _ => ?_) (fun _ => ?_)⟩
      · exact ⟨_, rfl, _, rfl, _, rfl, x, rfl, xl2, fin _ (cg _ _) (by have := ct none (some at_); omega)⟩
      refine ⟨_, rfl, rfl, _, rfl, ite2 (fun _ => ?_) (fun _ => ?_)⟩
      · obtain ⟨p1, p2⟩ := add1 none (some (if to > at_ then to else at_)) (some (if to < at_ then to else at_)) none
        exact ⟨_, rfl, _, rfl, _, rfl, _, _, rfl, _, rfl, x, rfl, xl2, _, rfl, _, rfl, _, rfl, _, _, rfl, _, rfl, x, rfl, xl2, _, _, rfl, rfl, p1, p2⟩
      · exact ⟨_, rfl, _, rfl, _, _, rfl, rfl, by rw [sizeLine_eq]; omega, fin _ (gd_app gx gy) (by rw [V6.len_app]; omega)⟩
end
end K53

set_option maxHeartbeats 4000000
namespace K53
open PySem PySem.Spec PyProof.Rows L2 V1 V2 V3 V7 V8 CwR
open Evl (pss_cut tCut sq_of st_of)
theorem gc_fig {c : Nat} (h : figB c = true) : gC c = true := by
  have z := figB_bd h
  unfold gC V6.prC
  rw [decide_eq_true (show 32 ≤ c by omega), decide_eq_true (show c ≤ 126 by omega)]
  rfl
theorem gc_esc {c : Nat} (h : gC c = true) : (esc1 c).all gC = true := by
  unfold esc1
  split
  · rfl
  · split
    · rfl
    · split
      · rfl
      · rw [List.all_cons, h]
        rfl
theorem gd_leaf {d : PyData} (lf : leafD d = true) (g : goodLeaf d = true) : (leafT d).cps.toList.all gC = true := by
  cases d with
  | none => decide
  | bool b => cases b <;> decide
  | int j =>
    by_cases h : 0 ≤ j
    · obtain ⟨n, rfl⟩ := Int.eq_ofNat_of_zero_le h
      rw [int_nat]
      exact List.all_eq_true.mpr fun c hc => gc_fig (numL_fig n c hc)
    · obtain ⟨n, rfl⟩ : ∃ n : Nat, j = -((n + 1 : Nat) : Int) := ⟨j.natAbs - 1, by omega⟩
      rw [int_neg, List.all_cons]
      rw [show gC 45 = true from rfl, Bool.true_and]
      exact List.all_eq_true.mpr fun c hc => gc_fig (numL_fig (n + 1) c hc)
  | str x =>
    rw [str_text, List.all_cons, List.all_append]
    have z : (x.cps.toList.flatMap esc1).all gC = true := List.all_eq_true.mpr fun c hc => by
      obtain ⟨k, hk, hc⟩ := List.mem_flatMap.mp hc
      exact List.all_eq_true.mp (gc_esc (List.all_eq_true.mp (show x.cps.toList.all gC = true from g) k hk)) c hc
    rw [z]
    rfl
  | _ => cases lf
mutual
theorem gd_wtext : ∀ d : PyData, goodD d = true → (wtext d).all gC = true
  | .none, _ => gd_leaf (d := .none) rfl rfl
  | .bool b, _ => gd_leaf (d := .bool b) rfl rfl
  | .int i, g => gd_leaf (d := .int i) rfl g
  | .str x, g => gd_leaf (d := .str x) rfl g
  | .list _, _ => rfl
  | .dict _, _ => rfl
  | .tuple ds, g => by
    have z := gd_wtexts ds g
    rw [wtext, List.all_cons, List.all_append, z]
    rfl
theorem gd_wtexts : ∀ ds : List PyData, goodDs ds = true → (joinC (wtexts ds)).all gC = true
  | [], _ => rfl
  | d :: ds, g => by
    simp only [goodDs, Bool.and_eq_true] at g
    have h1 := gd_wtext d g.1
    have h2 := gd_wtexts ds g.2
    rw [wtexts]
    cases e : wtexts ds with
    | nil => exact h1
    | cons y ys =>
      rw [e] at h2
      show (wtext d ++ 44 :: joinC (y :: ys)).all gC = true
      rw [List.all_append, List.all_cons, h1, h2]
      rfl
end
def tx1 : List V := [.str (Str.ofString ""), .str ((Txt.mul (Str.ofString "(") 40) ++ (Txt.mul (Str.ofString ")") 40)), .str (Txt.mul (Str.ofString "(") 41), .str ((Txt.mul (Str.ofString "(") 41) ++ (Txt.mul (Str.ofString ")") 41)), .str ((Txt.mul (Str.ofString "(") 40) ++ (Str.ofString "0")), .str (Txt.mul (Str.ofString "1") 20), .str (Txt.mul (Str.ofString "1") 21), .str ((Str.ofString "-") ++ (Txt.mul (Str.ofString "9") 20))]
def tx2 : List V := [.str ((Str.ofString "-") ++ (Txt.mul (Str.ofString "9") 21)), .str (Str.ofString "-0"), .str (Str.ofString "00"), .str (Str.ofString "0"), .str (Str.ofString "-"), .str (Str.ofString "--"), .str (Str.ofString "yes"), .str (Str.ofString "ye"), .str (Str.ofString "yess"), .str (Str.ofString "no"), .str (Str.ofString "n"), .str (Str.ofString "yesno"), .str (Str.ofString "(,)"), .str (Str.ofString "(1,)")]
def tx3 : List V := [.str (Str.ofString "()"), .str (Str.ofString "("), .str (Str.ofString ")"), .str (Str.ofString "(1 ,2)"), .str (Str.ofString "'a"), .str (Str.ofString "'~"), .str (Str.ofString "'~n'"), .str (Str.ofString "'\n'"), .str (Str.ofString "'a'b"), .str (Str.ofString "''"), .str (Str.ofString "(())("), .str (Str.ofString "1,2"), .str (Str.ofString " 1"), .str (Str.ofString "1 "), .str (Str.ofString "+1")]
theorem tx1_ok : Shs tx1 := (shs_cons (by decide +kernel) (by decide +kernel) (shs_cons (by decide +kernel) (by decide +kernel) (shs_cons (by decide +kernel) (by decide +kernel) (shs_cons (by decide +kernel) (by decide +kernel) (shs_cons (by decide +kernel) (by decide +kernel) (shs_cons (by decide +kernel) (by decide +kernel) (shs_cons (by decide +kernel) (by decide +kernel) (shs_cons (by decide +kernel) (by decide +kernel) shs_nil))))))))
theorem tx2_ok : Shs tx2 := (shs_cons (by decide +kernel) (by decide +kernel) (shs_cons (by decide +kernel) (by decide +kernel) (shs_cons (by decide +kernel) (by decide +kernel) (shs_cons (by decide +kernel) (by decide +kernel) (shs_cons (by decide +kernel) (by decide +kernel) (shs_cons (by decide +kernel) (by decide +kernel) (shs_cons (by decide +kernel) (by decide +kernel) (shs_cons (by decide +kernel) (by decide +kernel) (shs_cons (by decide +kernel) (by decide +kernel) (shs_cons (by decide +kernel) (by decide +kernel) (shs_cons (by decide +kernel) (by decide +kernel) (shs_cons (by decide +kernel) (by decide +kernel) (shs_cons (by decide +kernel) (by decide +kernel) (shs_cons (by decide +kernel) (by decide +kernel) shs_nil))))))))))))))
theorem tx3_ok : Shs tx3 := (shs_cons (by decide +kernel) (by decide +kernel) (shs_cons (by decide +kernel) (by decide +kernel) (shs_cons (by decide +kernel) (by decide +kernel) (shs_cons (by decide +kernel) (by decide +kernel) (shs_cons (by decide +kernel) (by decide +kernel) (shs_cons (by decide +kernel) (by decide +kernel) (shs_cons (by decide +kernel) (by decide +kernel) (shs_cons (by decide +kernel) (by decide +kernel) (shs_cons (by decide +kernel) (by decide +kernel) (shs_cons (by decide +kernel) (by decide +kernel) (shs_cons (by decide +kernel) (by decide +kernel) (shs_cons (by decide +kernel) (by decide +kernel) (shs_cons (by decide +kernel) (by decide +kernel) (shs_cons (by decide +kernel) (by decide +kernel) (shs_cons (by decide +kernel) (by decide +kernel) shs_nil)))))))))))))))
section
variable [CurK]
def spText2 : Sp := fun vs H Q _ => ∃ a, vs = [.ref a] ∧ HandAt H a ∧ ∀ H' y, Go a H H' → GdS y = true → y.length ≤ 1000000 → Q (.str y) H'
end
theorem scText2 : FnScope ["hand", "some", "thing", "many"] ["hand"] (defScope s__law_text) := ⟨rfl, rfl, rfl, by decide +kernel, rfl, by decide +kernel, by decide +kernel⟩
section
variable [CurK] {P : Program} {w : World} {mg : Str → Option Value} {base : Heap}
theorem ok_text2 (T : Tx K w mg) : Has P w K mg base CX0 70 "_law_text" ["hand"] spText2 := by
  obtain ⟨fd, F⟩ := T.c.def_ 32 (d := d__law_text) rfl
  have Hd := ok_draw (P := P) (w := w) (base := base) T
  have Hs := ok_some (P := P) (w := w) (base := base) T
  have Hg := ok_thg (P := P) (w := w) (base := base) T 4
  have Hde := ok_depth (P := P) (w := w) (base := base) T 61
  have Hw := ok_wrap (P := P) (w := w) (base := base) T
  have Hwr := ok_written (P := P) (w := w) (base := base) T 61
  refine ⟨fd, F.ok scText2 (fun vs H Q E h => ?_) (fun cdv A outer s H vs Q E hr h => ?_), FunD.bindsN F fun _ _ _ _ _ _ us hl => match us, hl with | [_], _ => rfl, F.kp, (T.glo 46 rfl)⟩
  · obtain ⟨a, rfl, _⟩ := h
    rfl
  · refine ⟨_, PSs.nox (pss_cut (ps_if (pt_cmpR op_eq (pe_has Hd (hr.mono (by decide)) pass0 (pa_cons (pv 0) (pa_cons pe_int pa_nil))) pe_int (nomark _))
 (pss_cons (ps_set (i := 1) scText2.nd rfl (Or.inl rfl) (pe_lstS (pa_cons pe_str (pa_cons (pe_op op_add_str (pe_op V4.op_mulS pe_str pe_int) (pe_op V4.op_mulS pe_str pe_int)) (pa_cons (pe_op V4.op_mulS pe_str pe_int) (pa_cons (pe_op op_add_str (pe_op V4.op_mulS pe_str pe_int) (pe_op V4.op_mulS pe_str pe_int)) (pa_cons (pe_op op_add_str (pe_op V4.op_mulS pe_str pe_int) pe_str) (pa_cons (pe_op V4.op_mulS pe_str pe_int) (pa_cons (pe_op V4.op_mulS pe_str pe_int) (pa_cons (pe_op op_add_str pe_str (pe_op V4.op_mulS pe_str pe_int)) pa_nil))))))))))
 (pss_cons (ps_set (i := 1) scText2.nd rfl (Or.inl rfl) (pe_op op_cat (pv 1) (pe_lstS (pa_cons (pe_op op_add_str pe_str (pe_op V4.op_mulS pe_str pe_int)) (pa_cons pe_str (pa_cons pe_str (pa_cons pe_str (pa_cons pe_str (pa_cons pe_str (pa_cons pe_str (pa_cons pe_str (pa_cons pe_str (pa_cons pe_str (pa_cons pe_str (pa_cons pe_str (pa_cons pe_str (pa_cons pe_str pa_nil)))))))))))))))))
 (pss_cons (ps_set (i := 1) scText2.nd rfl (Or.inl rfl) (pe_op op_cat (pv 1) (pe_lstS (pa_cons pe_str (pa_cons pe_str (pa_cons pe_str (pa_cons pe_str (pa_cons pe_str (pa_cons pe_str (pa_cons pe_str (pa_cons pe_str (pa_cons pe_str (pa_cons pe_str (pa_cons pe_str (pa_cons pe_str (pa_cons pe_str (pa_cons pe_str (pa_cons pe_str pa_nil))))))))))))))))))
 (pss_one (ps_ret (pe_has Hs (hr.mono (by decide)) pass0 (pa_cons (pv 0) (pa_cons (pv 1) pa_nil))))))))
 pss_nil)
 (pss_cons (ps_set (i := 2) scText2.nd rfl (Or.inl rfl) (pe_has Hg (hr.mono (by decide)) pass0 (pa_cons (pv 0) (pa_cons pe_int pa_nil))))
 (pss_cons (ps_set (i := 3) scText2.nd rfl (Or.inl rfl) (pe_has Hs (hr.mono (by decide)) pass0 (pa_cons (pv 0) (pa_cons (pe_lstS (pa_cons pe_int (pa_cons pe_int (pa_cons pe_int (pa_cons pe_int (pa_cons (pe_op op_sub pe_int (pe_has Hde (hr.mono (by decide)) pass0 (pa_cons (pv 2) pa_nil))) (pa_cons (pe_op op_sub pe_int (pe_has Hde (hr.mono (by decide)) pass0 (pa_cons (pv 2) pa_nil))) pa_nil))))))) pa_nil))))
 (pss_one (ps_ret (pe_has Hwr (hr.mono (by decide)) pass0 (pa_cons (pe_has Hw (hr.mono (by decide)) pass0 (pa_cons (pv 0) (pa_cons (pv 2) (pa_cons (pv 3) pa_nil)))) pa_nil))))))), ?_⟩
    obtain ⟨a, rfl, hd, hQ⟩ := h
    refine ⟨fun σ H' => σ = [some (.ref a), none, none, none] ∧ Go a H H', ?_, ?_⟩
    · refine ⟨_, rfl, a, 4, rfl, hd, by decide, by decide, fun H1 r hd1 e1 c1 r0 r1 => ⟨rfl, _, rfl, ite2 (fun e => ?_) (fun e => ?_)⟩⟩
      · have g1 := Go.draw hd1 e1 c1
        refine ⟨_, _, rfl, rfl, by decide, by decide, by decide, _, _, rfl, rfl, by decide, by decide, by decide, _, _, rfl, rfl, by decide +kernel, ?_⟩
        refine ⟨_, _, rfl, rfl, by decide, by decide, by decide, ?_⟩
        refine ⟨_, _, rfl, rfl, by decide, by decide, by decide, _, _, rfl, rfl, by decide, by decide, by decide, _, _, rfl, rfl, by decide +kernel, ?_⟩
        refine ⟨_, _, rfl, rfl, by decide, by decide, by decide, _, _, rfl, rfl, by decide +kernel, ?_⟩
        refine ⟨_, _, rfl, rfl, by decide, by decide, by decide, ?_⟩
        refine ⟨_, _, rfl, rfl, by decide, by decide, by decide, ?_⟩
        refine ⟨_, _, rfl, rfl, by decide, by decide, by decide, _, _, rfl, rfl, by decide +kernel, ?_⟩
        refine ⟨(by show 8 ≤ sizeLine; decide), fun q1 nq1 _ => ?_⟩
        have s1 := same_new (o := HO.lst tx1) nq1
        have eq1 : upd H1 q1 (HO.lst tx1) q1 = some (.lst tx1) := upd_same
        refine ⟨_, rfl, _, _, rfl, rfl, by decide, by decide, by decide, _, _, rfl, rfl, by decide +kernel, (by show 14 ≤ sizeLine; decide), fun q2 nq2 _ => ?_⟩
        have s2 := same_new (o := HO.lst tx2) nq2
        refine ⟨q1, q2, tx1, tx2, rfl, rfl, s2 _ _ eq1, upd_same, (by show 8 + 14 ≤ sizeLine; decide), fun q3 nq3 => ?_⟩
        have s3 := same_new (o := HO.lst (tx1 ++ tx2)) nq3
        refine ⟨_, rfl, (by show 15 ≤ sizeLine; decide), fun q4 nq4 _ => ?_⟩
        have s4 := same_new (o := HO.lst tx3) nq4
        refine ⟨q3, q4, tx1 ++ tx2, tx3, rfl, rfl, s4 _ _ upd_same, upd_same, (by show 8 + 14 + 15 ≤ sizeLine; decide), fun q5 nq5 => ?_⟩
        have s5 := same_new (o := HO.lst (tx1 ++ tx2 ++ tx3)) nq5
        have s15 := s1.trans (s2.trans (s3.trans (s4.trans s5)))
        have g2 := g1.trans (Go.new hd1 s15)
        have q5a : q5 ≠ a := (hand_same hd1 (s1.trans (s2.trans (s3.trans s4)))).ne_new nq5
        refine ⟨_, rfl, _, rfl, some_shs g2.hd q5a upd_same (by show 0 < 8 + 14 + 15; decide) (by show 8 + 14 + 15 < 1000; decide) (shs_app (shs_app tx1_ok tx2_ok) tx3_ok) fun H7 y g7 gy yl => hQ _ _ (g2.trans g7) gy (by omega)⟩
      · exact ⟨rfl, Go.draw hd1 e1 c1⟩
    · rintro σ H1 ⟨rfl, g1⟩
      refine ⟨_, rfl, a, rfl, g1.hd, fun H4 v d g4 q4 t4 => ?_⟩
      have q4' : Dx (delH H4 a) v d := tup_same g4.hd.tups _ _ t4.tp q4
      refine ⟨_, rfl, _, rfl, v, d, rfl, q4, Nat.le_trans t4.dp (by decide), Nat.le_trans t4.ms (by decide), fun H5 s5 => ⟨_, _, rfl, rfl, ?_⟩⟩
      refine ⟨_, rfl, v, d, rfl, q4.sm s5, Nat.le_trans t4.dp (by decide), Nat.le_trans t4.ms (by decide), fun H6 s6 => ⟨_, _, rfl, rfl, (by show 6 ≤ sizeLine; decide), fun q nq _ => ?_⟩⟩
      have s56 := s5.trans s6
      have hd6 := hand_same g4.hd s56
      have dp : depthT d ≤ 3 := t4.dp
      refine some_any [0, 0, 0, 1, 40 - ((depthT d : Nat) : Int), 41 - ((depthT d : Nat) : Int)] hd6 nq (by show 0 < 6; decide) (by show 6 < 1000; decide) fun H7 z g7 m => ?_
      have zb : 0 ≤ z ∧ z ≤ 41 := by
        simp only [List.mem_cons, List.not_mem_nil, or_false] at m
        omega
      obtain ⟨n, rfl⟩ := Int.eq_ofNat_of_zero_le zb.1
      have g17 := (g1.trans g4).trans ((Go.new g4.hd s56).trans g7)
      have dx7 : Dx (delH H7 a) v d := g7.dx (q4'.sm (same_del s56))
      refine ⟨_, rfl, _, rfl, _, rfl, a, v, d, n, rfl, g7.hd, by omega, dx7, fun H8 v8 d8 g8 q8 wr => ?_⟩
      have ms : zN 3 ≤ 200000 := by decide
      have wms := wr.ms
      have tms : mass d ≤ zN 3 := t4.ms
      have gd8 : goodD d8 = true := wr.gd.trans t4.gd
      have ms8 : mass d8 ≤ 1000000 := by omega
      refine ⟨v8, d8, rfl, q8.sm same_delH, wr.tp.trans t4.tp, gd8, wr.ok.trans t4.ok, (show depthT d8 ≤ 60 by rw [wr.dp]; omega), ms8, fun H9 s9 => ?_⟩
      have wl := wtext_len d8 gd8
      refine hQ _ _ ((g17.trans g8).trans (Go.new g8.hd s9)) (gd_wtext d8 gd8) ?_
      show (wtext d8).toArray.size ≤ 1000000
      simp
      omega
end
end K53

set_option maxHeartbeats 4000000
namespace K53
open PySem PySem.Spec PyProof.Rows L2 V1 V2 V3 V7 V8 CwR
open Evl (pss_cut tCut sq_of st_of)
section
variable {K : PySem.W.Frag} {w : World} {mg : Str → Option Value}
theorem Tx.xf (T : Tx K w mg) (i : Nat) {x : Str} (h : errs[i]? = some x) : XfC K (He.ga K x) := by
  have E := T.one i h
  exact ⟨E.ga, E.gg, by rw [E.sub]; rfl, E.hasDict⟩
end
def deepK (b : Bool) : Nat → PyData
  | 0 => .none
  | n + 1 => if b = true then .list [deepK b n] else .tuple [deepK b n]
section
variable [CurK]
def clB (a : Addr) (cls : Value) (d : Option Addr) : TS := tAsg (tTup (tCons (tC (.str "bad")) (tCons (tXf a cls d (He.ga K "BadThing") "place" (tVar 2)) tNil))) (gName 1)
def clO : TS := tAsg (tTup (tCons (tC (.str "other")) (tCons (tC .non) tNil))) (gName 1)
def spTold : Sp := fun vs H Q _ => ∃ v d, vs = [v] ∧ Dx H v d ∧ (isStr d = false → ∀ H' t, Same H H' → H' t = some (.tup [.str "bad", .int (-1)]) → Q (.ref t) H') ∧
  ∀ x : Str, d = .str x → x.length ≤ most ∧ ∃ r, GoR ([], x.cps.toList, 0) r ∧ rdQ H Q r
def spDeep : Sp := fun vs H Q _ => ∃ k : Int, vs = [.int k] ∧ ∀ H' v, Same H H' → Dx (newH H H') v (deepK (decide (k = 0)) 36) → Q v H'
end
theorem scTold : FnScope ["text", "found", "e"] ["text"] (defScope s__law_told) := ⟨rfl, rfl, rfl, by decide +kernel, rfl, by decide +kernel, by decide +kernel⟩
theorem scDeep : FnScope ["kind", "found", "turn"] ["kind"] (defScope s__law_deep) := ⟨rfl, rfl, rfl, by decide +kernel, rfl, by decide +kernel, by decide +kernel⟩
section
variable [CurK] {P : Program} {w : World} {mg : Str → Option Value} {base : Heap}
theorem ok_told (T : Tx K w mg) : Has P w K mg base CX0 7 "_law_told" ["text"] spTold := by
  obtain ⟨fd, F⟩ := T.c.def_ 33 (d := d__law_told) rfl
  obtain ⟨fR, GR, bR, kR, gR⟩ := ok_read (P := P) (w := w) (base := base) T
  refine ⟨fd, F.ok scTold (fun vs H Q E h => ?_) (fun cdv A outer s H vs Q E hr h => ?_), FunD.bindsN F fun _ _ _ _ _ _ us hl => match us, hl with | [_], _ => rfl, F.kp, (T.glo 47 rfl)⟩
  · obtain ⟨v, d, rfl, _⟩ := h
    rfl
  · refine ⟨_, PSs.nox (pss_cons (ps_set (i := 1) scTold.nd rfl (Or.inl rfl) (pe_tup (pa_cons pe_str (pa_cons pe_non pa_nil))))
 (pss_cut (ps_try_cl (tb := fun W => tAsg (tTup (tCons (tC (.str "let")) (tCons (tCallS spRead (WE W) (tCons (tVar 0) tNil)) tNil))) (gName 1)) (Wout := fun _ _ _ _ => False) (l := [(.ref (He.ga K "BadThing"), some 2, clB), (.ref (He.ga K "TalkError"), none, fun _ _ _ => clO)]) rfl rfl scTold.nd L2.takes0
 (fun W pn xe tk _ => pss_one (ps_set (i := 1) scTold.nd rfl (Or.inl rfl) (pe_tup (pa_cons pe_str (pa_cons (by exact (pe_callS GR (hr.mono (by decide)) rfl gR kR bR (fun σ => passAt tk σ) (by exact (pa_cons (pv 0) pa_nil)))) pa_nil)))))
 (.named (i := 2) (c := .ref (He.ga K "BadThing")) (ts := clB) rfl rfl ⟨rfl, by decide, .inl (T.glo 7 rfl)⟩ (fun a oe cls d pn hz hf => (pss_one (ps_set (i := 1) scTold.nd rfl (Or.inl rfl) (pe_tup (pa_cons pe_str (pa_cons (pe_xf (T.xf 1 rfl) (T.noat 67 rfl) hz hf (pv 2)) pa_nil))))))
 (.plain (c := .ref (He.ga K "TalkError")) (ts := fun _ _ _ => clO) ⟨rfl, by decide, .inl (T.glo 5 rfl)⟩ (fun a oe cls d pn hz hf => (pss_one (ps_set (i := 1) scTold.nd rfl (Or.inl rfl) (pe_tup (pa_cons pe_str (pa_cons pe_non pa_nil)))))) .nil)))
 (pss_one (ps_ret (pv 1))))), ?_⟩
    obtain ⟨v, d, rfl, hd, hN, hS⟩ := h
    refine ⟨(by show 2 ≤ sizeLine; decide), fun p0 np0 => ?_⟩
    have s0 := same_new (o := HO.tup [.str "other", .non]) np0
    generalize upd H p0 (HO.tup [.str "other", .non]) = H0 at s0 ⊢
    refine ⟨fun σ H' => ∃ p o2, σ = [some v, some (.ref p), o2] ∧ Q (.ref p) H', ?_, ?_⟩
    · have E := T.one 1 (x := "BadThing") rfl
      have em : PySem.W.exmOne K (.ref (He.ga K "BadThing")) (.ref (He.ga K "BadThing")) = some true := by
        rw [E.exm E rfl, decide_eq_true rfl, Bool.true_or]
      refine ⟨_, rfl, v, d, rfl, hd.sm s0, fun is dd H1 nd s1 hdd => ?_, fun x ex => ?_⟩
      · refine wCl_take em fun a na => ?_
        refine ⟨_, rfl, rfl, rfl, dd, _, .int (-1), rfl, hdd, (by simp [List.lookup]), (by show 2 ≤ sizeLine; decide), fun t nt => ?_⟩
        exact ⟨t, _, rfl, hN is _ t ((s0.trans s1).trans (same_new nt)) upd_same⟩
      · obtain ⟨xl, r, go, hQ⟩ := hS x ex
        refine ⟨xl, r, go, ?_, ?_⟩
        · cases r with
          | ok d' => exact True.intro
          | bad p =>
            intro dd H1 nd s1 hdd
            refine wCl_take em fun a na => ?_
            refine ⟨_, rfl, rfl, rfl, dd, _, .int ((p : Nat) : Int), rfl, hdd, (by simp [List.lookup]), (by show 2 ≤ sizeLine; decide), fun t nt => ?_⟩
            exact ⟨t, _, rfl, hQ _ t ((s0.trans s1).trans (same_new nt)) upd_same⟩
        · cases r with
          | bad p => exact True.intro
          | ok d' =>
            intro H1 v1 s1 d1 t1
            refine ⟨(by show 2 ≤ sizeLine; decide), fun t nt => ?_⟩
            exact ⟨t, _, rfl, hQ _ t v1 ((s0.trans s1).trans (same_new nt)) upd_same (d1.sm (same_new nt)) t1⟩
    · rintro σ H1 ⟨p, o2, rfl, hq⟩
      exact ⟨_, rfl, hq⟩
theorem ok_deep (T : Tx K w mg) : Has P w K mg base CX0 1 "_law_deep" ["kind"] spDeep := by
  obtain ⟨fd, F⟩ := T.c.def_ 30 (d := d__law_deep) rfl
  refine ⟨fd, F.ok scDeep (fun vs H Q E h => ?_) (fun cdv A outer s H vs Q E hr h => ?_), FunD.bindsN F fun _ _ _ _ _ _ us hl => match us, hl with | [_], _ => rfl, F.kp, (T.glo 44 rfl)⟩
  · obtain ⟨k, rfl, _⟩ := h
    rfl
  · refine ⟨_, PSs.nox (pss_cons (ps_set (i := 1) scDeep.nd rfl (Or.inl rfl) pe_non)
 (pss_cons (ps_for PassesOwn.never rfl (pi_range1 (by rfl) (T.free 60 rfl) (pa_cons pe_int pa_nil)) (pg_name (i := 2) scDeep.nd rfl (Or.inl rfl))
 (pss_one (ps_set (i := 1) scDeep.nd rfl (Or.inl rfl) (pe_ifExp (pt_cmpR op_eq (pv 0) pe_int (nomark _)) (pe_lstS (pa_cons (pv 1) pa_nil)) (pe_tup (pa_cons (pv 1) pa_nil))))))
 (pss_one (ps_ret (pv 1))))), ?_⟩
    obtain ⟨k, rfl, hQ⟩ := h
    refine ⟨36, rfl, by decide, by decide, ?_⟩
    refine for_it (walk_range (lo := 0) (n := 36)) (fun i σ H' => Same H H' ∧ ∃ v o2, σ = [some (.int k), some v, o2] ∧ Dx (newH H H') v (deepK (decide (k = 0)) i)) ⟨Same.refl _, _, _, rfl, .non⟩ (fun _ _ _ _ _ => True.intro) ?_ ?_
    · rintro i x σ H1 H2 hi ⟨sm, v, o2, rfl, dv⟩ ⟨rfl, rfl⟩
      refine ⟨_, rfl, rfl, _, rfl, ?_⟩
      by_cases k0 : k = 0
      · rw [decide_eq_true (show V.int k = V.int 0 by rw [k0])]
        refine iteT ⟨_, rfl, (by show 1 ≤ sizeLine; decide), fun p np lp => ?_⟩
        have s2 := same_new (o := HO.lst [v]) np
        refine ⟨sm.trans s2, _, _, rfl, ?_⟩
        rw [deepK, decide_eq_true k0, if_pos rfl]
        rw [decide_eq_true k0] at dv
        exact .lst (by rw [newH_at (fresh_up sm np)]; exact upd_same) lp (.cons (dv.sm (newH_up s2)) .nil)
      · rw [decide_eq_false (show ¬ V.int k = V.int 0 from fun z => k0 (V.int.inj z))]
        refine iteF ⟨_, rfl, (by show 1 ≤ sizeLine; decide), fun p np => ?_⟩
        have s2 := same_new (o := HO.tup [v]) np
        refine ⟨sm.trans s2, _, _, rfl, ?_⟩
        rw [deepK, decide_eq_false k0, if_neg (by decide)]
        rw [decide_eq_false k0] at dv
        exact .tup (by rw [newH_at (fresh_up sm np)]; exact upd_same) (.cons (dv.sm (newH_up s2)) .nil)
    · rintro σ H1 ⟨sm, v, o2, rfl, dv⟩
      exact ⟨_, rfl, hQ _ _ sm dv⟩
end
end K53

set_option maxHeartbeats 4000000
namespace K53
open PySem PySem.Spec PyProof.Rows L2 V1 V2 V3 V7 V8
/-! what is read is not too deep, nor too great -/
def DI : List (List PyData) → Prop
  | [] => True
  | ds :: st => (∀ d ∈ ds, depthT d + (st.length + 1) ≤ 40) ∧ DI st
def tot : List (List PyData) → Nat
  | [] => 0
  | ds :: st => masss ds + tot st
theorem masss_app : ∀ a b : List PyData, masss (a ++ b) = masss a + masss b
  | [], b => by simp [masss]
  | d :: a, b => by
    show mass d + 1 + masss (a ++ b) = _
    rw [masss_app a b, masss]
    omega
theorem DI.put {st : List (List PyData)} {d : PyData} (h : DI st) (k : depthT d + st.length ≤ 40) : DI (put d st) := by
  cases st with
  | nil => exact True.intro
  | cons es st =>
    refine ⟨fun e m => ?_, h.2⟩
    rcases List.mem_append.mp m with m | m
    · exact h.1 e m
    · rw [List.mem_singleton.mp m]
      exact k
theorem tot_put (st : List (List PyData)) (d : PyData) : tot (put d st) ≤ tot st + mass d + 1 := by
  cases st with
  | nil => exact Nat.zero_le _
  | cons es st =>
    show masss (es ++ [d]) + tot st ≤ masss es + tot st + mass d + 1
    rw [masss_app]
    simp only [masss]
    omega
theorem put_len (d : PyData) (st : List (List PyData)) : (put d st).length = st.length := by
  cases st <;> rfl
/-- what a step ends with, or goes on with -/
def OkS (n : Nat) : TR ⊕ Cf → Prop
  | .inl (.ok d) => depthT d ≤ 40 ∧ mass d ≤ 32 * n
  | .inl (.bad _) => True
  | .inr (st, _, i) => DI st ∧ st.length ≤ 40 ∧ tot st ≤ 32 * i
theorem closing_ok : ∀ (l : List Nat) (d : PyData) (st : List (List PyData)) (i : Nat), DI st → st.length ≤ 40 → tot st ≤ 32 * i → (st = [] → depthT d ≤ 40 ∧ mass d + 1 ≤ 32 * i) → OkS (i + l.length) (closing d st l i)
  | [], d, [], i, _, _, _, h => by
    have z := h rfl
    exact ⟨z.1, by rw [List.length_nil]; omega⟩
  | [], d, _ :: _, i, _, _, _, _ => True.intro
  | _ :: _, d, [], i, _, _, _, _ => True.intro
  | c :: l, d, ds :: st, i, h1, h2, h3, _ => by
    rw [closing]
    rw [List.length_cons] at h2
    have ht : masss ds + tot st ≤ 32 * i := h3
    split
    · have dp : depthT (.tuple ds) + st.length ≤ 40 := by
        show 1 + depthTs ds + st.length ≤ 40
        have z : depthTs ds ≤ 40 - (st.length + 1) := depthTs_le fun d hd => by
          have := h1.1 d hd
          omega
        omega
      have tp := tot_put st (.tuple ds)
      have mt : mass (.tuple ds) = 4 + masss ds := rfl
      have z := closing_ok l (.tuple ds) (put (.tuple ds) st) (i + 1) (DI.put h1.2 dp) (by rw [put_len]; omega) (by omega) (fun e => by
        have e0 : st = [] := by
          cases st with
          | nil => rfl
          | cons a b => cases e
        subst e0
        exact ⟨by rw [List.length_nil] at dp; omega, by omega⟩)
      rw [List.length_cons, show i + (l.length + 1) = i + 1 + l.length by omega]
      exact z
    · split
      · exact ⟨h1, h2, by show masss ds + tot st ≤ 32 * (i + 1); omega⟩
      · exact True.intro
theorem strR_sz : ∀ (l : List Nat) (b : Bool) (acc : List Nat) (i : Nat) (d : PyData) (l' : List Nat) (i' : Nat), strR b acc l i = .ok d l' i' → ∃ y : Str, d = .str y ∧ y.length + i + 1 ≤ acc.length + i'
  | [], b, acc, i, d, l', i', h => by cases b <;> cases h
  | c :: l, true, acc, i, d, l', i', h => by
    rw [strR] at h
    split at h
    · obtain ⟨y, e, z⟩ := strR_sz l _ _ _ _ _ _ h
      rw [List.length_append, List.length_cons, List.length_nil] at z
      exact ⟨y, e, by omega⟩
    · cases h
  | c :: l, false, acc, i, d, l', i', h => by
    rw [strR] at h
    split at h
    · cases h
      refine ⟨_, rfl, ?_⟩
      show acc.toArray.size + i + 1 ≤ _
      simp
      omega
    · split at h
      · obtain ⟨y, e, z⟩ := strR_sz l _ _ _ _ _ _ h
        exact ⟨y, e, by omega⟩
      · split at h
        · obtain ⟨y, e, z⟩ := strR_sz l _ _ _ _ _ _ h
          rw [List.length_append, List.length_cons, List.length_nil] at z
          exact ⟨y, e, by omega⟩
        · cases h
theorem leaf_ok {l : List Nat} {i : Nat} {d : PyData} {l' : List Nat} {i' : Nat} (h : leafR l i = .ok d l' i') : depthT d = 0 ∧ mass d + 1 + 32 * i ≤ 32 * i' := by
  have ln := leafR_len h
  have small : mass d ≤ 30 → depthT d = 0 → depthT d = 0 ∧ mass d + 1 + 32 * i ≤ 32 * i' := fun a b => ⟨b, by omega⟩
  rcases leafR_thing h with rfl | ⟨b, rfl⟩ | ⟨n, rfl⟩ | ⟨x, rfl⟩
  · exact small (Nat.le_refl _) rfl
  · exact small (Nat.le_refl _) rfl
  · exact small (Nat.le_refl _) rfl
  · refine ⟨rfl, ?_⟩
    have key : x.length + i + 2 ≤ i' := by
      have wd : ∀ (ws l : List Nat) (i : Nat) (e : PyData), wordR ws l i e = .ok (.str x) l' i' → e = .str x := by
        intro ws
        induction ws with
        | nil => intro l i e h; rw [wordR] at h; cases h; rfl
        | cons w ws ih =>
          intro l i e h
          cases l with
          | nil => cases h
          | cons c l =>
            rw [wordR] at h
            split at h
            · exact ih _ _ _ h
            · cases h
      cases l with
      | nil => cases h
      | cons c l =>
        rw [leafR] at h
        split at h
        · obtain ⟨y, e, z⟩ := strR_sz _ _ _ _ _ _ _ h
          cases e
          rw [List.length_nil] at z
          omega
        · split at h
          · cases wd _ _ _ _ h
          · split at h
            · cases wd _ _ _ _ h
            · split at h
              · unfold V8.numOf at h
                cases h
              · split at h
                · cases l with
                  | nil => cases h
                  | cons e l2 =>
                    rw [minusR] at h
                    split at h
                    · unfold V8.numOf at h
                      cases h
                    · cases h
                · cases h
    show 2 * x.length + 4 + 1 + 32 * i ≤ 32 * i'
    omega
theorem step_ok {st : List (List PyData)} {l : List Nat} {i : Nat} (h1 : DI st) (h2 : st.length ≤ 40) (h3 : tot st ≤ 32 * i) : OkS (i + l.length) (stepR (st, l, i)) := by
  unfold stepR
  dsimp only
  split
  · rename_i k
    cases l with
    | nil => cases k.1
    | cons c l =>
      rw [List.tail_cons]
      have d0 : DI ([] :: st) := ⟨fun _ m => absurd m List.not_mem_nil, h1⟩
      split
      · have z := closing_ok l .none ([] :: st) (i + 1) d0 (by rw [List.length_cons]; omega) (by show 0 + tot st ≤ _; omega) (fun e => by cases e)
        rw [List.length_cons, show i + (l.length + 1) = i + 1 + l.length by omega]
        exact z
      · exact ⟨d0, by rw [List.length_cons]; omega, by show 0 + tot st ≤ _; omega⟩
  · split
    · exact True.intro
    · rename_i d l2 i2 e
      obtain ⟨a, b⟩ := leaf_ok e
      have ln := leafR_len e
      have tp := tot_put st d
      have z := closing_ok l2 d (put d st) i2 (DI.put h1 (by omega)) (by rw [put_len]; exact h2) (by omega) (fun _ => ⟨by omega, by omega⟩)
      rw [ln.2] at z
      exact z
theorem go_ok : ∀ {c : Cf} {r : TR}, GoR c r → ∀ (st : List (List PyData)) (l : List Nat) (i : Nat), c = (st, l, i) → DI st → st.length ≤ 40 → tot st ≤ 32 * i → ∀ d, r = .ok d → depthT d ≤ 40 ∧ mass d ≤ 32 * (i + l.length) := by
  intro c r g
  induction g with
  | done h =>
    intro st l i e h1 h2 h3 d er
    subst e er
    have z := step_ok (l := l) h1 h2 h3
    rw [h] at z
    exact z
  | @next c c' r h m ih =>
    intro st l i e h1 h2 h3 d er
    subst e
    obtain ⟨st', l', i'⟩ := c'
    have z := step_ok (l := l) h1 h2 h3
    rw [h] at z
    have ln := stepR_len h
    have y := ih st' l' i' rfl z.1 z.2.1 z.2.2 d er
    rw [ln.2] at y
    exact y
theorem read_ok {z : List Nat} {d : PyData} (g : GoR ([], z, 0) (.ok d)) : depthT d ≤ 40 ∧ mass d ≤ 32 * z.length := by
  have y := go_ok g [] z 0 rfl True.intro (Nat.zero_le _) (Nat.zero_le _) d rfl
  rw [Nat.zero_add] at y
  exact y
/-- every text leads somewhere -/
theorem goes : ∀ (n : Nat) (st : List (List PyData)) (l : List Nat) (i : Nat), l.length ≤ n → ∃ r, GoR (st, l, i) r
  | n, st, l, i, hn => by
    cases e : stepR (st, l, i) with
    | inl r => exact ⟨r, .done e⟩
    | inr c =>
      obtain ⟨st', l', i'⟩ := c
      have ln := stepR_len e
      cases n with
      | zero => omega
      | succ n =>
        obtain ⟨r, g⟩ := goes n st' l' i' (by omega)
        exact ⟨r, .next e g⟩
end K53

set_option maxHeartbeats 4000000
namespace K53
open PySem PySem.Spec PyProof.Rows L2 V1 V2 V3 V7 V8 CwR
open Evl (pss_cut tCut sq_of st_of)
def spNo : Sp := fun _ _ _ _ => False
theorem passF {X : Cx} : Passes (L2.CX X.prog X.w) X (fun _ _ _ => False) := fun _ _ _ _ _ _ _ c => by
  obtain ⟨_, _, _, _, _, _, _, _, _, _, _, _, z⟩ := c
  exact z.elim
section
variable [CurK]
def spLot : Sp := fun vs H Q _ => ∃ a m, vs = [.ref a, .int m] ∧ H a = some (.tup []) ∧ Q (.bl true) H
def spCheck : Sp := fun vs H Q _ => ∃ a b, vs = [.ref a, .ref b] ∧ H b = some (.tup []) ∧ Q .non H
def spFInit : Sp := fun vs H Q _ => ∃ p dx a b, vs = [.ref p, .ref a, .ref b] ∧ H p = some (.ins (He.ga K "Faults") dx []) ∧ H a = some (.tup []) ∧ H b = some (.tup []) ∧
  ∀ H' fs, (∀ c o, c ≠ p → H c = some o → H' c = some o) → H' p = some (.ins (He.ga K "Faults") dx fs) → Q .non H'
def teFaults : TE := tMake (He.ga K "Faults") spFInit [] (fun _ _ _ => False) (tCons (tTup tNil) (tCons (tTup tNil) tNil))
def teOdds : TE := (tLstS (tCons (tC .non) (tCons (tC (.int 0)) (tCons (tC (.bl true)) (tCons (tTup tNil) (tCons (tLstS (tCons (tVar 3) tNil)) (tCons (tTup (tCons (tVar 3) tNil)) (tCons tDNewK (tCons teFaults (tCons (tCall spDeep [] (fun _ _ _ => False) (tCons (tC (.int 0)) tNil)) (tCons (tCall spDeep [] (fun _ _ _ => False) (tCons (tC (.int 1)) tNil)) tNil)))))))))))
end
def oddsD (y : Str) : List PyData := [.none, .int 0, .bool true, .tuple [], .list [.str y], .tuple [.str y], .dict [], objD, deepK (decide ((0 : Int) = 0)) 36, deepK (decide ((1 : Int) = 0)) 36]
theorem scLot : FnScope ["thing", "many", "least", "number"] ["thing", "many"] (defScope s_is_lot) := ⟨rfl, rfl, rfl, by decide +kernel, rfl, by decide +kernel, by decide +kernel⟩
theorem scCheck : FnScope ["lost", "turned", "at", "pair"] ["lost", "turned"] (defScope s_check_turned) := ⟨rfl, rfl, rfl, by decide +kernel, rfl, by decide +kernel, by decide +kernel⟩
theorem scInit : FnScope ["self", "lost", "turned", "number", "thing"] ["self", "lost", "turned"] (defScope s_Faults__init__) := ⟨rfl, rfl, rfl, by decide +kernel, rfl, by decide +kernel, by decide +kernel⟩
theorem scBF : FnScope ["self", "part"] ["self", "part"] (defScope s_BadFaults__init__) := ⟨rfl, rfl, rfl, by decide +kernel, rfl, by decide +kernel, by decide +kernel⟩
section
variable [CurK] {P : Program} {w : World} {mg : Str → Option Value} {base : Heap} {σ : L2.St}
theorem fldBF (T : Tx K w mg) : Fld P w K mg base "BadFaults" "part" := by
  obtain ⟨fd, F⟩ := T.c.def_ 35 (d := d_BadFaults__init__) rfl
  exact fld_of F scBF rfl (T.glo 6 rfl) (T.one 0 rfl) rfl rfl (T.noat 66 rfl) (He.meth_ok (T.c.fact 64 rfl)) (by decide) (by decide) (Or.inl rfl) (Or.inl rfl) (fun _ => rfl) (FunD.bindsN F fun _ _ _ _ _ _ us hl => match us, hl with | [_, _], _ => rfl)
theorem no_from (T : Tx K w mg) : Has P w K mg base CX0 1 "is_from_to" ["thing", "least", "most"] spNo := by
  obtain ⟨fd, F⟩ := T.c.def_ 2 (d := d_is_from_to) rfl
  exact ⟨fd, ⟨fun _ _ _ _ h => h.elim, fun _ _ _ _ _ _ _ _ _ _ _ _ _ h => h.elim⟩, FunD.bindsN F fun _ _ _ _ _ _ us hl => match us, hl with | [_, _, _], _ => rfl, F.kp, (T.glo 2 rfl)⟩
theorem no_tl (T : Tx K w mg) : Has P w K mg base CX0 1 "is_turned_letter" ["thing"] spNo := by
  obtain ⟨fd, F⟩ := T.c.def_ 9 (d := d_is_turned_letter) rfl
  exact ⟨fd, ⟨fun _ _ _ _ h => h.elim, fun _ _ _ _ _ _ _ _ _ _ _ _ _ h => h.elim⟩, FunD.bindsN F fun _ _ _ _ _ _ us hl => match us, hl with | [_], _ => rfl, F.kp, (T.glo 17 rfl)⟩
theorem ok_lot (T : Tx K w mg) : Has P w K mg base CX0 3 "is_lot" ["thing", "many"] spLot := by
  obtain ⟨fd, F⟩ := T.c.def_ 4 (d := d_is_lot) rfl
  have Hf := no_from (P := P) (w := w) (base := base) T
  refine ⟨fd, F.ok scLot (fun vs H Q E h => ?_) (fun cdv A outer s H vs Q E hr h => ?_), FunD.bindsN F fun _ _ _ _ _ _ us hl => match us, hl with | [_, _], _ => rfl, F.kp, (T.glo 4 rfl)⟩
  · obtain ⟨a, m, rfl, _⟩ := h
    rfl
  · refine ⟨_, PSs.nox (pss_cons (ps_if (pt_not (pt_val (pe_callB call_isi (by rfl) (T.free 55 rfl) (by decide +kernel) (pa_cons (pv 0) (pa_cons (pe_bltn (v := .ty "tuple") (by rfl) (T.free 62 rfl) (by decide +kernel) rfl) pa_nil)))))
 (pss_one (ps_ret pe_bl))
 pss_nil)
 (pss_cons (ps_set (i := 2) scLot.nd rfl (Or.inl rfl) pe_int)
 (pss_cons (ps_for PassesOwn.never rfl (pi_tup (pv 0)) (pg_name (i := 3) scLot.nd rfl (Or.inl rfl))
 (pss_cons (ps_if (pt_not (pt_val (pe_has Hf (hr.mono (by decide)) pass0 (pa_cons (pv 3) (pa_cons (pv 2) (pa_cons (pe_op op_sub (pv 1) pe_int) pa_nil))))))
 (pss_one (ps_ret pe_bl))
 pss_nil)
 (pss_one (ps_set (i := 2) scLot.nd rfl (Or.inl rfl) (pe_op op_add (pv 3) pe_int)))))
 (pss_one (ps_ret pe_bl))))), ?_⟩
    obtain ⟨a, m, rfl, ha, hQ⟩ := h
    have hd : Dx H (.ref a) (.tuple []) := .tup ha .nil
    refine isx_go (kx_tup _) (fun Q q => ⟨_, rfl, q⟩) hd ⟨_, rfl, iteF ⟨_, rfl, a, rfl, ⟨_, st_of ha⟩, ?_⟩⟩
    exact for_it walk_tup (fun i σ H' => H' = H) rfl (fun i σ H' _ p => by rw [p]; exact st_of ha) (fun i x σ H1 H2 hi => absurd hi (Nat.not_lt_zero _)) (fun σ H' p => by rw [p]; exact hQ)
theorem ok_check (T : Tx K w mg) : Has P w K mg base (L2.CX P w) 5 "check_turned" ["lost", "turned"] spCheck := by
  obtain ⟨fd, F⟩ := T.c.def_ 10 (d := d_check_turned) rfl
  have Htl := no_tl (P := P) (w := w) (base := base) T
  refine ⟨fd, F.ok scCheck (fun vs H Q E h => ?_) (fun cdv A outer s H vs Q E hr h => ?_), FunD.bindsN F fun _ _ _ _ _ _ us hl => match us, hl with | [_, _], _ => rfl, F.kp, (T.glo 18 rfl)⟩
  · obtain ⟨a, b, rfl, _⟩ := h
    rfl
  · refine ⟨_, (pss_one (ps_for (passes_of rfl) rfl (pi_enumT (by rfl) (T.free 53 rfl) (pa_cons (pv 1) pa_nil)) (pg_tup (by rfl) (pgs_cons (pg_name (i := 2) scCheck.nd rfl (Or.inl rfl)) (pgs_cons (pg_name (i := 3) scCheck.nd rfl (Or.inl rfl)) pgs_nil)))
 (pss_cons (ps_if (pt_not (pt_val (pe_has Htl (hr.mono (by decide)) pass0 (pa_cons (pv 3) pa_nil))))
 (pss_one (ps_raise rfl (takes_of rfl rfl rfl rfl) (pmk_fld (fldBF T) (hr.mono (by decide)) (pa_cons (pv 2) pa_nil))))
 pss_nil)
 (pss_cons (ps_if (PW.pt (pw_and (pt_cmpR op_gt (pv 2) pe_int (nomark _)) (pw_and1 (pt_cmpR op_le (pe_ix ix_tup (pv 3) pe_int (fun _ _ => rfl)) (pe_ix ix_tup (pe_ix ix_tup (pv 1) (pe_op op_sub (pv 2) pe_int) (fun _ _ => rfl)) pe_int (fun _ _ => rfl)) (nomark _)))))
 (pss_one (ps_raise rfl (takes_of rfl rfl rfl rfl) (pmk_fld (fldBF T) (hr.mono (by decide)) (pa_cons (pv 2) pa_nil))))
 pss_nil)
 (pss_one (ps_if (pt_cmpR op_in_seq (pe_ix ix_tup (pv 3) pe_int (fun _ _ => rfl)) (pv 0) (by rfl))
 (pss_one (ps_raise rfl (takes_of rfl rfl rfl rfl) (pmk_fld (fldBF T) (hr.mono (by decide)) (pa_cons (pv 2) pa_nil))))
 pss_nil)))))), ?_⟩
    obtain ⟨a, b, rfl, hb, hQ⟩ := h
    refine ⟨_, rfl, b, [], rfl, st_of hb, ?_⟩
    exact for_it walk_enumT (fun i σ H' => H' = H) rfl (fun i σ H' _ p => by rw [p]; exact st_of hb) (fun i x σ H1 H2 hi => absurd hi (Nat.not_lt_zero _)) (fun σ H' p => by rw [p]; exact hQ)
theorem ok_finit (T : Tx K w mg) : HasC P w K mg base (L2.CX P w) 6 "Faults" ["self", "lost", "turned"] spFInit := by
  obtain ⟨fd, F⟩ := T.c.def_ 40 (d := d_Faults__init__) rfl
  have Hl := ok_lot (P := P) (w := w) (base := base) T
  have Hc := ok_check (P := P) (w := w) (base := base) T
  obtain ⟨tML, gML⟩ := (T.int 9 rfl)
  have cS : Cls K (He.ga K "Faults") := He.cls_ok (T.c.fact 75 rfl)
  have n1 : NoAttr K (He.ga K "Faults") "lost" := He.noat_ok (T.c.fact 77 rfl)
  have n2 : NoAttr K (He.ga K "Faults") "turned" := He.noat_ok (T.c.fact 78 rfl)
  have n3 : NoAttr K (He.ga K "Faults") "_into" := He.noat_ok (T.c.fact 76 rfl)
  refine ⟨_, fd, He.mkr_ok (T.c.fact 79 rfl), F.ok scInit (fun vs H Q E h => ?_) (fun cdv A outer s H vs Q E hr h => ?_), FunD.bindsN F fun _ _ _ _ _ _ us hl => match us, hl with | [_, _, _], _ => rfl, (T.glo 19 rfl)⟩
  · obtain ⟨p, dx, a, b, rfl, _⟩ := h
    rfl
  · refine ⟨_, (pss_cons (ps_if (pt_not (pt_val (pe_has Hl (hr.mono (by decide)) pass0 (pa_cons (pv 1) (pa_cons (pe_glob (v := .int 60) (by rfl) gML ⟨_, rfl⟩) pa_nil)))))
 (pss_one (ps_raise rfl (takes_of rfl rfl rfl rfl) (pmk_fld (fldBF T) (hr.mono (by decide)) (pa_cons pe_str pa_nil))))
 pss_nil)
 (pss_cons (ps_if (pt_not (pt_val (pe_callB call_isi (by rfl) (T.free 55 rfl) (by decide +kernel) (pa_cons (pv 2) (pa_cons (pe_bltn (v := .ty "tuple") (by rfl) (T.free 62 rfl) (by decide +kernel) rfl) pa_nil)))))
 (pss_one (ps_raise rfl (takes_of rfl rfl rfl rfl) (pmk_fld (fldBF T) (hr.mono (by decide)) (pa_cons pe_str pa_nil))))
 pss_nil)
 (pss_cons (ps_expr (pe_has Hc (hr.mono (by decide)) (passes_call (takes_of rfl rfl rfl rfl) (fun _ _ _ _ h => h)) (pa_cons (pv 1) (pa_cons (pv 2) pa_nil))))
 (pss_cons (ps_fld (pv 0) (pv 1) (by rfl))
 (pss_cons (ps_fld (pv 0) (pv 2) (by rfl))
 (pss_one (ps_fld (pv 0) (pe_dc (own := [("number", 3), ("thing", 4)]) (g := gTup K 2 (gCons (gName 3) (gCons (gName 4) gNil))) (tt := tYes) (tk := tVar 3) (tv := tVar 4) rfl scInit.nd (pi_tup (pv 2))
 (blkOk_by (own := [("number", 3), ("thing", 4)]) (N := ["self", "lost", "turned", "number", "thing"]) (sc := defScope s_Faults__init__) (by decide +kernel)) (fun _ _ _ _ _ => pg_tup (by rfl) (pgs_cons (pg_name (i := 3) scInit.nd rfl (Or.inl rfl)) (pgs_cons (pg_name (i := 4) scInit.nd rfl (Or.inl rfl)) pgs_nil))) (fun _ _ _ _ _ => pts_nil) (fun _ _ _ _ _ => (pv 3)) (fun _ _ _ _ _ => (pv 4))) (by rfl)))))))), ?_⟩
    obtain ⟨p, dx, a, b, rfl, hp, ha, hb, hQ⟩ := h
    have hd2 : Dx H (.ref b) (.tuple []) := .tup hb .nil
    refine ⟨_, rfl, a, 60, rfl, ha, _, rfl, iteF ?_⟩
    obtain ⟨ty, tyx, kk⟩ := kx_of (kx_tup _) hd2
    refine ⟨_, rfl, _, .ty "tuple", _, _, _, rfl, .ty "tuple", tyx, kk, _, rfl, iteF ?_⟩
    refine ⟨_, rfl, _, rfl, a, b, rfl, hb, ?_⟩
    refine ⟨_, rfl, _, rfl, p, _, dx, [], rfl, hp, cS, n1, (by show 0 < 1000; decide), _, rfl, _, rfl, p, _, dx, _, rfl, upd_same, cS, n2, (by show 1 < 1000; decide), ?_⟩
    have ep2 : upd (upd H p (.ins (He.ga K "Faults") dx (putF "lost" (.ref a) []))) p (.ins (He.ga K "Faults") dx (putF "turned" (.ref b) (putF "lost" (.ref a) []))) p = some (.ins (He.ga K "Faults") dx [("lost", .ref a), ("turned", .ref b)]) := upd_same
    have st2 : ∀ c o, c ≠ p → H c = some o → upd (upd H p (.ins (He.ga K "Faults") dx (putF "lost" (.ref a) []))) p (.ins (He.ga K "Faults") dx (putF "turned" (.ref b) (putF "lost" (.ref a) []))) c = some o := fun c o ne e => by
      rw [upd_ne ne, upd_ne ne]
      exact e
    generalize upd (upd H p (.ins (He.ga K "Faults") dx (putF "lost" (.ref a) []))) p (.ins (He.ga K "Faults") dx (putF "turned" (.ref b) (putF "lost" (.ref a) []))) = H2 at st2 ep2 ⊢
    have bp : b ≠ p := fun z => by rw [z, hp] at hb; cases hb
    have hb2 := st2 _ _ bp hb
    refine ⟨_, rfl, b, rfl, ⟨_, st_of hb2⟩, fun D nD => ?_⟩
    have Dp : D ≠ p := fun z => by rw [z, ep2] at nD; cases nD
    refine dc_tup (σ := [some (.ref p), some (.ref a), some (.ref b), none, none]) (vs := [3, 4]) (K := K) (a := b) (xs := []) (fun i H'' => H'' = upd H2 D (.dK [])) rfl (fun i H'' _ z => by rw [z]; exact st_of (same_new nD _ _ hb2)) (fun i x H3 hx => by cases hx) ?_
    rintro H3 rfl
    refine ⟨_, rfl, p, _, dx, _, rfl, same_new nD _ _ ep2, cS, n3, (by show 2 < 1000; decide), hQ _ _ (fun c o ne e => ?_) upd_same⟩
    rw [upd_ne ne]
    exact same_new nD _ _ (st2 c o ne e)
theorem mkx_faults (T : Tx K w mg) : MkX teFaults σ objD := fun H Q q => by
  refine ⟨by show 0 ≤ sizeLine; decide, fun p1 n1 => ⟨by show 0 ≤ sizeLine; decide, fun p2 n2 => ?_⟩⟩
  have s1 := same_new (o := HO.tup []) n1
  have s2 := same_new (o := HO.tup []) n2
  have h1 : upd (upd H p1 (HO.tup [])) p2 (HO.tup []) p1 = some (.tup []) := s2 _ _ upd_same
  have h2 : upd (upd H p1 (HO.tup [])) p2 (HO.tup []) p2 = some (.tup []) := upd_same
  have s12 := s1.trans s2
  generalize upd (upd H p1 (HO.tup [])) p2 (HO.tup []) = H1 at h1 h2 s12
  intro x dx nx nd ne
  have up : ∀ c o, H1 c = some o → upd (upd H1 dx (.own x)) x (.ins (He.ga K "Faults") dx []) c = some o := fun c o e => by
    rw [upd_ne (ne_of_none e nx), upd_ne (ne_of_none e nd)]
    exact e
  refine ⟨x, dx, p1, p2, rfl, upd_same, up _ _ h1, up _ _ h2, fun H' fs keep ep => ⟨rfl, ?_⟩⟩
  have sm : Same H H' := fun c o e => keep c o (ne_of_none (s12 _ _ e) nx) (up _ _ (s12 _ _ e))
  exact q _ _ sm (.ob ((newH_at (fresh_up s12 nx)).trans ep) (T.obC 1 (x := "Faults") rfl (He.cls_ok (T.c.fact 75 rfl))))
theorem mkx_deep (k : Int) : MkX (tCall spDeep [] (fun _ _ _ => False) (tCons (tC (.int k)) tNil)) σ (deepK (decide (k = 0)) 36) := fun H Q q => ⟨k, rfl, fun H' v s d => q v H' s d⟩
theorem mkx_txt {y : Str} (hs : σ[3]? = some (some (.str y))) : MkX (tVar 3) σ (.str y) := fun H Q q => ⟨_, hs, q _ _ (Same.refl H) (.str y)⟩
theorem mkx_odds (T : Tx K w mg) {y : Str} (hs : σ[3]? = some (some (.str y))) : MkX teOdds σ (.list (oddsD y)) := mkx_lst (mkxa_cons (mkx_of mkn_non) (mkxa_cons (mkx_of (mkn_int 0)) (mkxa_cons (mkx_of (mkn_bl true)) (mkxa_cons (mkx_tup mkxa_nil (Nat.zero_le _)) (mkxa_cons (mkx_lst (mkxa_cons (mkx_txt hs) mkxa_nil) (by show 1 ≤ 1000; decide)) (mkxa_cons (mkx_tup (mkxa_cons (mkx_txt hs) mkxa_nil) (by show 1 ≤ 1000; decide)) (mkxa_cons (mkx_of mkn_dict0) (mkxa_cons (mkx_faults T) (mkxa_cons (mkx_deep 0) (mkxa_cons (mkx_deep 1) mkxa_nil)))))))))) (by show 10 ≤ 1000; decide)
/-- what both readings tell of a thing -/
inductive Rs : PyData → Str → PyData → Prop where
  | no {d : PyData} : isStr d = false → Rs d "bad" (.int (-1))
  | ok {x : Str} {e : PyData} : x.length ≤ 9000 → GdS x = true → GoR ([], x.cps.toList, 0) (.ok e) → Rs (.str x) "let" e
  | bad {x : Str} {p : Nat} : x.length ≤ 9000 → GdS x = true → GoR ([], x.cps.toList, 0) (.bad p) → Rs (.str x) "bad" (.int ((p : Nat) : Int))
theorem Rs.of_text {x : Str} (l : x.length ≤ 9000) (g : GdS x = true) : ∃ wd d', Rs (.str x) wd d' := by
  obtain ⟨r, h⟩ := goes x.cps.toList.length [] x.cps.toList 0 (Nat.le_refl _)
  cases r with
  | ok e => exact ⟨_, _, .ok l g h⟩
  | bad p => exact ⟨_, _, .bad l g h⟩
theorem Rs.of_no {d : PyData} (h : isStr d = false) : ∃ wd d', Rs d wd d' := ⟨_, _, .no h⟩
theorem Rs.small {d : PyData} {wd : Str} {d' : PyData} (h : Rs d wd d') : depthT d' ≤ 40 ∧ mass d' ≤ 1000000 := by
  cases h with
  | no h => exact ⟨Nat.zero_le _, by simp [mass]⟩
  | bad l g h => exact ⟨Nat.zero_le _, by simp [mass]⟩
  | @ok x e l g h =>
    obtain ⟨a, b⟩ := read_ok h
    have z : x.cps.toList.length = x.length := Array.length_toList
    exact ⟨a, by omega⟩
theorem odds_Rs (y : Str) (l : y.length ≤ 9000) (g : GdS y = true) : ∀ d ∈ oddsD y, ∃ wd d', Rs d wd d' := by
  have z : (oddsD y).all (fun d => !isStr d) = true := rfl
  intro d m
  have e := List.all_eq_true.mp z d m
  exact Rs.of_no (by simpa using e)
end
end K53

set_option maxHeartbeats 4000000
namespace K53
open PySem PySem.Spec PyProof.Rows L2 V1 V2 V3 V7 V8 CwR
open Evl (pss_cut tCut sq_of st_of)
abbrev lawSl : List Str := ["script", "hand", "turn", "text", "change", "odd", "word", "told", "due"]
theorem scLaw : FnScope lawSl ["script"] (defScope s_law) := ⟨rfl, rfl, rfl, by decide +kernel, rfl, by decide +kernel, by decide +kernel⟩
theorem cut_le (x : Str) (n : Nat) (hn : n ≤ 100000) : (cutS x none (some (n : Int))).length ≤ n := by
  have z : (cutS x none (some (n : Int))).length = ((x.cps.toList.drop (HT.sIx x.length 0 none)).take (HT.sIx x.length x.length (some (n : Int)) - HT.sIx x.length 0 none)).length := by
    simp [cutS, Str.length]
  rw [z, List.length_take]
  have y : HT.sIx x.length x.length (some (n : Int)) ≤ n := by
    unfold HT.sIx
    dsimp only
    rw [if_neg (by omega)]
    exact Nat.le_trans (Nat.min_le_left _ _) (Nat.le_of_eq (Int.toNat_natCast n))
  omega
def spLaw (K : PySem.W.Frag) : Sp := fun vs H Q _ => ∃ (a : Addr) (ns : List Int), vs = [.ref a] ∧ SqL K H a (ns.map V.int) ∧ ns.length ≤ 63 ∧ ∀ H', Q (.bl true) H'
def MidA (a0 a : Addr) (σ : L2.St) (H' : Hp) : Prop := HandAt H' a ∧ ∃ (o2 : Option V) (y : Str) (o4 o5 o6 o7 o8 : Option V), σ = [some (.ref a0), some (.ref a), o2, some (.str y), o4, o5, o6, o7, o8] ∧ GdS y = true ∧ y.length ≤ 9000
section
variable [CurK]
def MidB (a0 a : Addr) (σ : L2.St) (H' : Hp) : Prop := HandAt H' a ∧ ∃ (o2 : Option V) (v : V) (d : PyData) (o4 o5 o6 o7 o8 : Option V), σ = [some (.ref a0), some (.ref a), o2, some v, o4, o5, o6, o7, o8] ∧ Dx H' v d ∧ ∃ wd d', Rs d wd d'
def MidO (a0 a : Addr) (σ : L2.St) (H' : Hp) : Prop := HandAt H' a ∧ ∃ (o2 : Option V) (y : Str) (o4 : Option V) (v : V) (o6 o7 o8 : Option V), σ = [some (.ref a0), some (.ref a), o2, some (.str y), o4, some v, o6, o7, o8] ∧ Dx (delH H' a) v (.list (oddsD y)) ∧ GdS y = true ∧ y.length ≤ 9000
def MidC (a0 a : Addr) (σ : L2.St) (H' : Hp) : Prop := HandAt H' a ∧ ∃ (o2 : Option V) (v : V) (d : PyData) (o4 o5 : Option V) (wd : Str) (u : V) (d' : PyData) (o8 : Option V), σ = [some (.ref a0), some (.ref a), o2, some v, o4, o5, some (.str wd), some u, o8] ∧ Dx H' v d ∧ Rs d wd d' ∧ Dx H' u d' ∧ tupD d' = true
def MidD (a0 a : Addr) (σ : L2.St) (H' : Hp) : Prop := HandAt H' a ∧ ∃ (o2 o3 o4 o5 : Option V) (wd : Str) (u : V) (d' : PyData) (t : Addr) (u2 : V), σ = [some (.ref a0), some (.ref a), o2, o3, o4, o5, some (.str wd), some u, some (.ref t)] ∧ H' t = some (.tup [.str wd, u2]) ∧ Dx H' u d' ∧ Dx H' u2 d' ∧ tupD d' = true ∧ depthT d' ≤ 40 ∧ mass d' ≤ 1000000
end
section
variable [CurK] {P : Program} {w : World} {mg : Str → Option Value}
theorem asg_odds (T : Tx K w mg) {σ : L2.St} {y : Str} {D : Ends} {H : Hp} (hs : σ[3]? = some (some (.str y))) (k : ∀ v H', Same H H' → Dx (newH H H') v (.list (oddsD y)) → D.nx (σ.set 5 (some v)) H') : tAsg teOdds (gName 5) D σ H := mkx_odds T hs H _ fun v H' s q => k v H' s q
theorem ok_law (T : Tx K w mg) : ∃ fd, (∀ base : Heap, LawOk P w K mg base (He.ga K "law") fd "script" (spLaw K)) ∧ ∀ (s : Shared) (u : Value), BindsTo s fd ⟨[u], []⟩ [("script", u)] := by
  obtain ⟨fd, F⟩ := T.c.def_ 34 (d := d_law) rfl
  have bind := FunD.bindsA (ps := ["script"]) F fun _ _ _ _ _ _ us hl => match us, hl with | [_], _ => rfl
  refine ⟨fd, fun base => ?_, fun s u => bind s [u] rfl⟩
  have Hh := ok_hand (P := P) (w := w) (base := base) T
  have Hd := ok_draw (P := P) (w := w) (base := base) T
  have Hs := ok_some (P := P) (w := w) (base := base) T
  have Ht := ok_text2 (P := P) (w := w) (base := base) T
  have Hb := ok_bent (P := P) (w := w) (base := base) T
  have Hto := ok_told (P := P) (w := w) (base := base) T
  have Hr := ok_lread (P := P) (w := w) (base := base) T
  have Hi := ok_is (P := P) (w := w) (base := base) T 61
  have Hdp := ok_deep (P := P) (w := w) (base := base) T
  have Hf := ok_finit (P := P) (w := w) (base := base) T
  refine lawOk_of (k := 80) F scLaw ⟨rfl, by decide, by decide⟩ fun cdv s H v0 Q hr gd h => ?_
  refine ⟨_, PSs.nox (pss_cons (ps_set (i := 1) scLaw.nd rfl (Or.inl rfl) (pe_has Hh (hr.mono (by decide)) pass0 (pa_cons (pv 0) pa_nil)))
 (pss_cons (ps_for PassesOwn.never rfl (pi_range1 (by rfl) (T.free 60 rfl) (pa_cons pe_int pa_nil)) (pg_name (i := 2) scLaw.nd rfl (Or.inl rfl))
 (pss_cons (ps_set (i := 3) scLaw.nd rfl (Or.inl rfl) (pe_slice sl_str (pe_has Ht (hr.mono (by decide)) pass0 (pa_cons (pv 1) pa_nil)) po_none (po_some pe_int)))
 (pss_cut (ps_for PassesOwn.never rfl (pi_range1 (by rfl) (T.free 60 rfl) (pa_cons (pe_has Hd (hr.mono (by decide)) pass0 (pa_cons (pv 1) (pa_cons pe_int pa_nil))) pa_nil)) (pg_name (i := 4) scLaw.nd rfl (Or.inl rfl))
 (pss_one (ps_set (i := 3) scLaw.nd rfl (Or.inl rfl) (pe_slice sl_str (pe_has Hb (hr.mono (by decide)) pass0 (pa_cons (pv 1) (pa_cons (pv 3) pa_nil))) po_none (po_some pe_int)))))
 (pss_cut (ps_if (pt_cmpR op_eq (pe_has Hd (hr.mono (by decide)) pass0 (pa_cons (pv 1) (pa_cons pe_int pa_nil))) pe_int (nomark _))
 (pss_cut (ps_set (i := 5) scLaw.nd rfl (Or.inl rfl) (show PE _ _ teOdds from (pe_lstS (pa_cons pe_non (pa_cons pe_int (pa_cons pe_bl (pa_cons (pe_tup pa_nil) (pa_cons (pe_lstS (pa_cons (pv 3) pa_nil)) (pa_cons (pe_tup (pa_cons (pv 3) pa_nil)) (pa_cons pe_dnewK (pa_cons (pe_hasC Hf (hr.mono (by decide)) passF (pa_cons (pe_tup pa_nil) (pa_cons (pe_tup pa_nil) pa_nil))) (pa_cons (pe_has Hdp (hr.mono (by decide)) pass0 (pa_cons pe_int pa_nil)) (pa_cons (pe_has Hdp (hr.mono (by decide)) pass0 (pa_cons pe_int pa_nil)) pa_nil)))))))))))))
 (pss_one (ps_set (i := 3) scLaw.nd rfl (Or.inl rfl) (pe_has Hs (hr.mono (by decide)) pass0 (pa_cons (pv 1) (pa_cons (pv 5) pa_nil))))))
 pss_nil)
 (pss_cut (ps_asg (pe_has Hto (hr.mono (by decide)) pass0 (pa_cons (pv 3) pa_nil)) (pg_tup (by rfl) (pgs_cons (pg_name (i := 6) scLaw.nd rfl (Or.inl rfl)) (pgs_cons (pg_name (i := 7) scLaw.nd rfl (Or.inl rfl)) pgs_nil))))
 (pss_cut (ps_set (i := 8) scLaw.nd rfl (Or.inl rfl) (pe_has Hr (hr.mono (by decide)) pass0 (pa_cons (pv 3) pa_nil)))
 (pss_one (ps_if (PW.pt (pw_or (pt_cmpR op_ne (pv 6) (pe_ix ix_tup (pv 8) pe_int (fun _ _ => rfl)) (nomark _)) (pw_or1 (pt_not (pt_val (pe_has Hi (hr.mono (by decide)) pass0 (pa_cons (pv 7) (pa_cons (pe_ix ix_tup (pv 8) pe_int (fun _ _ => rfl)) pa_nil))))))))
 (pss_one (ps_ret pe_bl))
 pss_nil))))))))
 (pss_one (ps_ret pe_bl)))), ?_⟩
  obtain ⟨a0, ns, e0, hS, hl, hQ⟩ := h
  cases e0
  refine ⟨_, rfl, a0, ns, rfl, hS, hl, fun H1 a s1 n1' hd1 => ?_⟩
  refine ⟨10, rfl, by decide, by decide, ?_⟩
  refine for_it (walk_range (lo := 0) (n := (10 : Int).toNat)) (fun i σ H' => HandAt H' a ∧ ∃ o2 o3 o4 o5 o6 o7 o8, σ = [some (.ref a0), some (.ref a), o2, o3, o4, o5, o6, o7, o8]) ⟨hd1, _, _, _, _, _, _, _, rfl⟩ (fun _ _ _ _ _ => True.intro) ?_ (fun σ H' p => hQ H')
  clear hQ hl hS
  rintro i x σ H2 H3 hi ⟨hd2, o2, o3, o4, o5, o6, o7, o8, rfl⟩ ⟨rfl, rfl⟩
  refine ⟨_, rfl, a, rfl, hd2, fun H4 y g4 gy ly => ?_⟩
  refine ⟨_, rfl, y, rfl, by rw [sizeLine_eq]; omega, ?_⟩
  have gy1 := cut_gd gy none (some (4000 : Int))
  have ly1 : (cutS y none (some (4000 : Int))).length ≤ 9000 := Nat.le_trans (cut_le y 4000 (by decide)) (by decide)
  have hd4 := g4.hd
  revert gy1 ly1
  generalize cutS y none (some (4000 : Int)) = y1
  intro gy1 ly1
  refine ⟨MidA a0 a, ?_, ?_⟩
  · refine ⟨_, rfl, a, 4, rfl, hd4, by decide, by decide, fun H5 r hd5 e5 c5 r0 r1 => ⟨r, rfl, by omega, by omega, ?_⟩⟩
    refine for_it (walk_range (lo := 0) (n := r.toNat)) (fun i σ H' => MidA a0 a σ H') ⟨hd5, _, _, _, _, _, _, _, rfl, gy1, ly1⟩ (fun _ _ _ _ _ => True.intro) ?_ (fun σ H' p => p)
    rintro i x σ H6 H7 hi ⟨hd6, p2, z, p4, p5, p6, p7, p8, rfl, gz, lz⟩ ⟨rfl, rfl⟩
    refine ⟨_, rfl, _, rfl, a, z, rfl, hd6, gz, lz, fun H8 z2 g8 gz2 lz2 => ⟨_, rfl, z2, rfl, by rw [sizeLine_eq]; omega, ?_⟩⟩
    exact ⟨g8.hd, _, _, _, _, _, _, _, rfl, cut_gd gz2 none (some (9000 : Int)), cut_le z2 9000 (by decide)⟩
  clear gy1 ly1 y1 hd4 g4 gy ly y H4 hd2 o2 o3 o4 o5 o6 o7 o8
  rintro σ H4 ⟨hd4, o2, y, o4, o5, o6, o7, o8, rfl, gy, ly⟩
  refine ⟨MidB a0 a, ?_, ?_⟩
  · refine ⟨_, rfl, a, 12, rfl, hd4, by decide, by decide, fun H5 r hd5 e5 c5 r0 r1 => ⟨rfl, _, rfl, ite2 (fun e => ?_) (fun e => ?_)⟩⟩
    · refine ⟨MidO a0 a, ?_, ?_⟩
      · refine asg_odds T (y := y) (σ := [some (.ref a0), some (.ref a), o2, some (.str y), o4, o5, o6, o7, o8]) (H := H5) rfl fun v6 H6 s6 q6 => ?_
        exact ⟨hand_same hd5 s6, o2, y, o4, v6, o6, o7, o8, rfl, Dx.same (newH_off hd5.held) _ _ q6, gy, ly⟩
      clear gy ly y o2 o4 o5 o6 o7 o8
      rintro σ H6 ⟨hd6, o2, y, o4, v6, o6, o7, o8, rfl, q6, gy, ly⟩
      refine ⟨_, rfl, _, rfl, ?_⟩
      refine some_data hd6 q6 (.inl rfl) (by show 0 < 10; decide) (by show 10 < 1000; decide) fun H7 w7 d7 g7 m7 q7 => ?_
      exact ⟨g7.hd, o2, w7, d7, o4, some v6, o6, o7, o8, rfl, q7.sm same_delH, odds_Rs y ly gy d7 m7⟩
    · exact ⟨hd5, _, _, .str y, _, _, _, _, _, rfl, .str y, Rs.of_text ly gy⟩
  clear hd4 gy ly y o2 o4 o5 o6 o7 o8 H4
  rintro σ H4 ⟨hd4, o2, v, d, o4, o5, o6, o7, o8, rfl, dx, wd, d', rs⟩
  refine ⟨MidC a0 a, ?_, ?_⟩
  · refine ⟨_, rfl, v, d, rfl, dx, fun is H' t s e => ?_, fun x ex => ?_⟩
    · cases rs with
      | no _ => exact ⟨t, _, rfl, st_of e, rfl, _, _, rfl, _, _, rfl, rfl, hand_same hd4 s, _, v, d, _, _, _, _, _, _, rfl, dx.sm s, .no is, .int _, rfl⟩
      | ok _ _ _ => cases is
      | bad _ _ _ => cases is
    · subst ex
      cases rs with
      | no z => cases z
      | ok l g go =>
        refine ⟨Nat.le_trans l (by decide), _, go, fun H' t u s e du td => ?_⟩
        exact ⟨t, _, rfl, st_of e, rfl, _, _, rfl, _, _, rfl, rfl, hand_same hd4 s, _, v, _, _, _, _, _, _, _, rfl, dx.sm s, .ok l g go, du, td⟩
      | bad l g go =>
        refine ⟨Nat.le_trans l (by decide), _, go, fun H' t s e => ?_⟩
        exact ⟨t, _, rfl, st_of e, rfl, _, _, rfl, _, _, rfl, rfl, hand_same hd4 s, _, v, _, _, _, _, _, _, _, rfl, dx.sm s, .bad l g go, .int _, rfl⟩
  clear dx rs hd4 v d o2 o4 o5 o6 o7 o8 wd d' H4
  rintro σ H4 ⟨hd4, o2, v, d, o4, o5, wd, u, d', o8, rfl, dx, rs, du, td⟩
  refine ⟨MidD a0 a, ?_, ?_⟩
  · obtain ⟨dp, ms⟩ := rs.small
    refine ⟨_, rfl, v, d, rfl, dx, fun is H' t s e => ?_, fun x ex => ?_⟩
    · cases rs with
      | no _ => exact ⟨hand_same hd4 s, _, _, _, _, _, u, _, t, _, rfl, e, du.sm s, .int _, rfl, dp, ms⟩
      | ok _ _ _ => cases is
      | bad _ _ _ => cases is
    · subst ex
      cases rs with
      | no z => cases z
      | ok l g go =>
        refine ⟨Nat.le_trans l (by decide), g, _, go, fun H' t u2 s e du2 td2 => ?_⟩
        exact ⟨hand_same hd4 s, _, _, _, _, _, u, _, t, u2, rfl, e, du.sm s, du2, td, dp, ms⟩
      | bad l g go =>
        refine ⟨Nat.le_trans l (by decide), g, _, go, fun H' t s e => ?_⟩
        exact ⟨hand_same hd4 s, _, _, _, _, _, u, _, t, _, rfl, e, du.sm s, .int _, rfl, dp, ms⟩
  clear dx rs du td hd4 v d o2 o4 o5 o8 wd d' u H4
  rintro σ H4 ⟨hd4, o2, o3, o4, o5, wd, u, d', t, u2, rfl, et, du, du2, td, dp, ms⟩
  refine ⟨_, rfl, _, rfl, t, _, _, .str wd, rfl, rfl, st_of et, rfl, rfl, _, rfl, ?_⟩
  rw [decide_eq_true rfl]
  refine iteF ?_
  refine ⟨_, rfl, _, rfl, t, _, _, u2, rfl, rfl, st_of et, rfl, u, u2, d', rfl, du, du2, td, Nat.le_trans dp (by decide), Nat.le_trans ms (by decide), fun H5 s5 => ⟨_, rfl, iteF ?_⟩⟩
  exact ⟨hand_same hd4 s5, _, _, _, _, _, _, _, rfl⟩
end
end K53

set_option maxHeartbeats 0
open PySem PySem.W PySem.Calls PyProof.Rows
theorem PySem.Challenge.cw_turnedtalk_k53_whole_spoilt_things_holds : PySem.Challenge.rw_turnedtalk_k53_whole_spoilt_things.Holds := by
  w_on; o_law
  refine HandSHeadRun.head_any (r := OpenLaw.row PySem.Challenge.rw_turnedtalk_k53_whole_spoilt_things) (q := view (OpenLaw.row PySem.Challenge.rw_turnedtalk_k53_whole_spoilt_things).prog [55]) (H := K53.hk) (ob := K53.ob) (M := 60000) (loose := K53.names)
    (d := HandSHeadRun.topDef (OpenLaw.row PySem.Challenge.rw_turnedtalk_k53_whole_spoilt_things).prog 55) (kwd := []) K53.ob_eq
    (by kernel_rfl) (fun s => by kernel_rfl) K53.run (by kernel_rfl) (by kernel_rfl) (by kernel_rfl) (by rfl) (by first | assumption | decide +kernel) (by decide +kernel) ⟨rfl, rfl, rfl, rfl, rfl, by decide +kernel⟩ ?hw ?hc
  case hw => w_witness2
  case hc =>
    refine V4.walk_lawT (l := PySem.Challenge.rw_turnedtalk_k53_whole_spoilt_things) (n := 63) (x := "script") rfl (by decide) (by kernel_rfl) ?F
    intro w mg fa h Y G hmg0
    obtain ⟨K, KX, c, ex, hh, tabs⟩ := Y
    have hmg : mg ("law" : PySem.Str) = some (.ref fa) := by
      have e : (HandSHeadRun.topDef (OpenLaw.row PySem.Challenge.rw_turnedtalk_k53_whole_spoilt_things).prog 55).name = ("law" : PySem.Str) := by kernel_rfl
      rw [← e]
      exact hmg0
    have T : K53.Tx K w mg := ⟨c, K53.exB_1 (K53.exB_2 ex), K53.TILDES_at ex hh.1, K53.WORDS_at ex hh.2, fun H => K53.FIGURES_at ex H, fun x hx => K53.lam_at (K53.exB_2 ex) hx, K53.tabs_nd (K53.exB_2 ex), h, KX, G⟩
    cases hmg.symm.trans (T.glo 48 rfl)
    letI : V3.CurK := ⟨K⟩
    obtain ⟨fd, ok, bind⟩ := K53.ok_law (P := (PySem.Challenge.rw_turnedtalk_k53_whole_spoilt_things).prog) (w := w) T
    refine ⟨K, fd, K53.spLaw K, K53.lamN.map fun x => V4.pairOf K (He.ga K x), KX, fun p hp => ?_, fun p hp => ?_, fun p hp => ?_, bind, fun H a ns hl ht hS => ⟨a, ns, rfl, hS, hl, fun _ => rfl⟩, fun base _ _ hb => ok base⟩
    · obtain ⟨x, hx, rfl⟩ := List.mem_map.mp hp
      exact tabs x hx
    · obtain ⟨x, hx, rfl⟩ := List.mem_map.mp hp
      exact (T.lam x hx).off
    · obtain ⟨x, hx, rfl⟩ := List.mem_map.mp hp
      exact (T.lam x hx).hd _ KX

