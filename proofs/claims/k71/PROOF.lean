import PyProof.Rows.All
import Wide.All
import OpenK.AllK
import Wide.FinOn
import HandS.ForMost
import HandS.Exc
import HandS.ExcOwn
import HandS.ExcValue
import HandS.ExcInit
import HandS.ExcField
import HandS.ExcIs
import HandS.IsInst
import HandS.DictComp
import KE.KExcIs
import KE.KIsAll
import PyProof.ReprRoads
import PyProof.ExcFactsAll.LookupError
import PyProof.ExcFactsAll.RuntimeError
import PyProof.ExcFactsAll.ValueError
import PyProof.EqAt
import PyProof.EqKinds
import PyProof.FactsAll.subtypes_3
import PyProof.FactsAll.subtypes_4
import PyProof.FactsAll.dict_1
import PyProof.CallFns
import PyProof.Draws
import PyProof.EnumMake
import PyProof.TupleIter
import HandS.AnyAll
import HandS.EndBits
import HandS.Lambda
import KE.KLam
import HandS.Walk
import HandS.Style
import HandS.TupAny
import HandS.More
import HandS.Deep
import PyProof.Rows.IntBool
import PyProof.CallStr
import HandS.Wide
import PyProof.ReprBulk
import HandS.TryOnly
import PyProof.Rows.StrMeet
import PyProof.Rows.ReprOcc
import KE.GoesZip
import PyProof.GenCompD
import HandS.Zip
import KE.KDictZip
import HandS.Flow
import HandS.Iter
import HandS.Text
import HandS.FStr
import KE.IntTextLaws
import HandS.GenList
import HandS.Nested
import PyProof.ListNew
import HandS.WordsExc
import PyProof.Rows.StrSplitJoin
import HandS.TryMany
import PySem.Challenge.RW_pawldials_k71_chains_written_and_read
set_option Elab.async false
set_option maxRecDepth 100000
/-! Own rules: errors that are held as values, and data of any depth with dicts in it. -/
namespace Pk
open PySem L2 PySem.Spec PyProof.Rows

theorem sameNew {H : Hp} {p : Addr} (h : H p = none) (o : HO) : Same H (upd H p o) := fun b u q => by rw [upd_ne (ne_of_none q h)]; exact q

/-! ### errors as values -/
/-- at a: an error of the class at C, with these fields -/
def Exq (H : Hp) (a C : Addr) (fs : List (Str × V)) : Prop :=
  (fs = [] ∧ H a = some (ExO (.ref C) a)) ∨ ∃ d, H a = some (exo a C (some d)) ∧ H d = some (exd d fs)
theorem Exq.same {H H' : Hp} {a C : Addr} {fs : List (Str × V)} (s : Same H H') (e : Exq H a C fs) : Exq H' a C fs := by
  rcases e with ⟨h, e⟩ | ⟨d, e, f⟩
  · exact .inl ⟨h, s _ _ e⟩
  · exact .inr ⟨d, s _ _ e, s _ _ f⟩
section
variable {X : Cx}
/-- C(), a class without an own __init__ -/
theorem pe_exq0 {C : Addr} {bmB : List Value} {B newId initId : String} {x : Str} {p pos : Pos} (F : ExcBaseFacts B newId initId bmB) (q : PySem.W.excIn X.K C bmB newId = true) (gC : X.mg x = some (.ref C)) (kC : PySem.W.keepIn X.K (.ref C) = true) (hg : Gl X x)
    (hdg : (x == ("__debug__" : Str)) = false := by decide) :
    PE X (.Call (.Name x p) [] [] pos) (fun σ H Q => ∀ a H', Same H H' → Exq H' a C [] → Q (.ref a) H') := by
  refine ⟨fun pz s σ H Q I h => ?_⟩
  refine wpAny_Call_Name_kw (ld_glob I hg gC ?_ hdg)
  refine PySem.W.callWith_K0 I.kIn kC ?_
  show wpAny _ _ (call (.ref C) []) _ _ _
  obtain ⟨bm, N, n0, qn, bs, hdct, sn, sub, ab, col, dd, k0, k1, k2, k3, k5, mN, hcl0, hN, hni, TT⟩ := exc_obj I.kIn q
  refine wpAny_call_exc_subT F TT hcl0 hN hni (fun h' a hm => ?_) (by show 0 ≤ sizeLine; omega)
  have hn : H a = none := I.hok.gone hm.new
  obtain ⟨t, htt, _, _⟩ := hm.there
  exact ⟨.ref a, upd H a (ExO (.ref C) a), I.laidN hm.keeps hm.new hn (exO_ok htt ⟨rfl, rfl⟩ rfl rfl rfl (show 4 < 6 by decide)), rfl, h a _ (sameNew hn _) (.inl ⟨rfl, upd_same⟩)⟩
/-- C(e, ..), C's own __init__ keeping sp; the error is the value -/
def tMkV (C : Addr) (sp : Sp) (ta : TA) : TE := fun σ H Q => ta σ H fun vs Ha => vs.length ≤ 1000 ∧ ∀ a, Ha a = none → sp (.ref a :: vs) (upd Ha a (exo a C none)) (fun v H2 => v = .non ∧ Q (.ref a) H2) (fun _ _ _ => False)
theorem pe_mkV {e : Expr} {es : List Expr} {ta : TA} {p pos : Pos} {CX : CXT} {x : Str} {C fI : Addr} {k : Nat} {fd : FuncData} {ps : List Str} {sp : Sp} (TT : OexC X.K C) (iC : PySem.W.findIn X.K (.ref C) "__init__" = some (some (.ref fI))) (tI : PySem.W.typeIn X.K (.ref fI) = some (.type "function"))
    (F1 : FnOk X.prog X.w X.K X.mg X.base CX k fI fd ps sp) (hr : Room (k + 1) X.A) (hb : Binds X.K fd ps []) (hx : Passes CX X (fun _ _ _ => False)) (hg : Gl X x) (hm : X.mg x = some (.ref C)) (ha : PA X (e :: es) ta)
    (hdg : (x == ("__debug__" : Str)) = false := by decide) (he : starEach (e :: es) X.env = (false, eval e X.env) :: starEach es X.env := by rfl) (hpz : (backTo pos (starEach es X.env)).any (·.1) = false := by rfl) :
    PE X (.Call (.Name x p) (e :: es) [] pos) (tMkV C sp ta) := by
  refine ⟨fun pz s σ H Q I h => ?_⟩
  obtain ⟨n0, q, N, bs, bm, sn, sub, ab, col, dd, k0, k1, k2, k3, k5, hcl0, hbq⟩ := TT.cls
  refine wpAny_Call_Name_kw (ld_glob I hg hm ?_ hdg)
  refine PySem.W.callWith_K (h₀ := X.base) I.ok.mod.kin TT.kC (thn (ha.run pos pz s σ H _ I h) fun ua sa ⟨vs, Ha, Ia, ra, hy, qa⟩ => ⟨Ia.kIn, ?_⟩) he hpz
  show wpAny _ _ (call (.ref C) ua) _ _ _
  obtain ⟨hq, g, dw, tz, oz⟩ := sa
  have hsa : hq.objs.size ≤ hq.objs.size + 1 := Nat.le_succ _
  have hn : Ha (hq.objs.size + 1) = none := Ia.hok.fresh hsa
  have hf0 := qa (hq.objs.size + 1) hn
  have kq : ∀ b o, hq.get? b = some o → ((hq.push (PySem.W.kdv_tup ua)).push (PySem.HandSPX.excO C hq.objs.size)).get? b = some o := fun b o e => Heap.get?_push_of_some _ (Heap.get?_push_of_some _ e)
  have hgq : ((hq.push (PySem.W.kdv_tup ua)).push (PySem.HandSPX.excO C hq.objs.size)).get? (hq.objs.size + 1) = some (PySem.HandSPX.excO C hq.objs.size) := by heap_get
  have Ib : Inv X pz σ (upd Ha (hq.objs.size + 1) (exo (hq.objs.size + 1) C none)) ⟨(hq.push (PySem.W.kdv_tup ua)).push (PySem.HandSPX.excO C hq.objs.size), g, dw, tz, oz⟩ :=
    Ia.laid (t' := tz) (a := hq.objs.size + 1) (o := exo (hq.objs.size + 1) C none) (h' := (hq.push (PySem.W.kdv_tup ua)).push (PySem.HandSPX.excO C hq.objs.size)) kq hsa (exo_ok hgq)
  have rb : Vals (V.ref (hq.objs.size + 1) :: vs) (Value.ref (hq.objs.size + 1) :: ua) := .cons rfl ra
  have hl : (Value.ref (hq.objs.size + 1) :: ua).length = ps.length := by
    have e := rb.length
    rw [F1.len _ _ _ _ hf0] at e
    exact e.symm
  have hua : ua.length ≤ sizeLine := by
    rw [← Paired.length ra, sizeLine_eq]
    omega
  have b := hb ⟨(hq.push (PySem.W.kdv_tup ua)).push (PySem.HandSPX.excO C hq.objs.size), g, dw, tz, oz⟩ (Value.ref (hq.objs.size + 1) :: ua) Ib.kIn (by rw [List.append_nil]; exact hl)
  rw [List.append_nil] at b
  refine wpAny_call (PySem.HandSPX.call_own F.excBase_ValueError (fun Y => PySem.HandSPX.refsVE_contains Y bm hbq) (Ia.kIn _ _ hcl0) (PySem.W.looks_findIn Ia.kIn iC) (fun self => PySem.W.bind_fn Ia.kIn self tI) hua
    (codeAny_mono (F1.run _ X.stack _ _ ⟨Value.ref (hq.objs.size + 1) :: ua, []⟩ (Value.ref (hq.objs.size + 1) :: ua) _ _ (fun _ _ _ => False) (hr.make C ua []) (Ib.env0.make C ua []) b rb hf0) fun r s' hw' => ?_))
  cases r with
  | error ee => exact hx pz σ _ _ ee s' Ib hw'
  | ok fl =>
    cases fl with
    | ret u =>
      obtain ⟨v, H', Ic, rz, ev, q3⟩ := Ib.after hw'
      subst ev
      exact ⟨rz, ⟨V.ref (hq.objs.size + 1), H', Ic, rfl, q3⟩⟩
    | next => exact hw'.elim
    | brk => exact hw'.elim
    | cont => exact hw'.elim
/-- e.f of an error that is held as a value -/
theorem pe_exf {e : Expr} {te : TE} {pos : Pos} {n : Str} (he : PE X e te) (hb : attributeBase e n X.env (eval e X.env) = eval e X.env := by rfl) :
    PE X (.Attribute e n pos) (fun σ H Q => te σ H fun x Ha => ∃ (a C : Addr) (fs : List (Str × V)) (v : V), x = .ref a ∧ Exq Ha a C fs ∧ XfC X.K C ∧ PySem.W.findIn X.K (.ref C) n = some none ∧ fs.lookup n = some v ∧ Q v Ha) := by
  refine ⟨fun pz s σ H Q I h => ?_⟩
  refine attr_of hb (thn (he.run pz s σ H _ I h) fun u sa hw => ?_)
  obtain ⟨x, Ha, Ia, ry, a, C, fs, v, ex, ea, TT, hnn, l, q⟩ := hw
  subst ex
  cases (show u = .ref a from ry)
  rcases ea with ⟨hf, _⟩ | ⟨dd, e1, e2⟩
  · subst hf
    cases l
  · obtain ⟨t1, ha⟩ := exo_at Ia.hok e1
    obtain ⟨mq, hnq, hr⟩ := exd_at Ia.hok e2
    obtain ⟨oq, ho, hl⟩ := lookIn_ns hnq
    obtain ⟨u, hu, ru⟩ := RelO.some_of (v := v) (o := mq n) (by rw [← l]; exact hr n)
    have J : PySem.W.InstAt sa.heap a { cls := .ref C, dict := some dd, data := .fields #[.ref t1, .none, .none, .none, .bool false, .none] } C (some oq) := ⟨ha, rfl, rfl, ho⟩
    exact HandSPX.exc_get Ia.kIn J TT.ga TT.gg TT.exC (PySem.W.findObj_own TT.hdC hnn rfl (by rw [hl, hu])) (handed_of ru) ⟨v, Ha, Ia.tok _, ru, q⟩
/-- what isinstance asks of such an error -/
theorem Exq.kit {pz : List (Addr × Obj)} {σ : L2.St} {H : Hp} {s : Shared} {a C : Addr} {fs : List (Str × V)} (I : L2.Inv X pz σ H s) (e : Exq H a C fs) (TT : ExcC X.K C) : ∃ P : Heap → Prop, PySem.W.KitX X.K (.ref a) (.ref C) P ∧ P s.heap := by
  have hcl : (PySem.W.clsIn X.K C).isSome = true := by
    obtain ⟨cd, hc, _⟩ := PySem.W.any_some TT.hd
    rw [hc]
    rfl
  rcases e with ⟨_, e⟩ | ⟨dd, e1, e2⟩
  · obtain ⟨⟨oe, vs, ho, hy, hd, _⟩, _, _⟩ := I.hok a _ e
    refine ⟨_, PySem.W.kitx_exc (ox := oe) (od := none) hcl TT.hg TT.hk TT.hs TT.ha TT.hn TT.ht TT.hm, ?_⟩
    obtain ⟨oc, oq, oda, osl⟩ := oe
    obtain ⟨h1, h2⟩ := hy
    dsimp only at h1 h2 hd
    subst h1 h2 hd
    exact ⟨ho, rfl, rfl, trivial⟩
  · obtain ⟨t1, ha⟩ := exo_at I.hok e1
    obtain ⟨mq, hnq, hr⟩ := exd_at I.hok e2
    obtain ⟨oq, ho, hl⟩ := lookIn_ns hnq
    exact ⟨_, PySem.W.kitx_exc (ox := { cls := .ref C, dict := some dd, data := .fields #[.ref t1, .none, .none, .none, .bool false, .none] }) (od := some oq) hcl TT.hg TT.hk TT.hs TT.ha TT.hn TT.ht TT.hm, ⟨ha, rfl, rfl, ho⟩⟩
/-- isinstance(e, c) -/
theorem call_isQ : CallR X (.builtin "isinstance") (fun xs H Q => ∃ (a C : Addr) (fs : List (Str × V)) (c : V) (u : Value) (b : Bool), xs = [.ref a, c] ∧ Exq H a C fs ∧ ExcC X.K C ∧ ClsV c u ∧ PySem.W.kitOne X.K (.ref C) u = some b ∧ Q (.bl b) H) := by
  intro pz s σ H xs ua Q I r h
  obtain ⟨a, C, fs, c, u, b, rfl, ea, TT, k, e, q⟩ := h
  obtain ⟨u1, u2, rfl, ra, rb⟩ := vals2 r
  have e2 := k.eq rb
  subst e2
  cases (show u1 = Value.ref a from ra)
  obtain ⟨P, Z, p⟩ := ea.kit I TT
  exact PySem.W.kia_one Z I.kIn p e (fun z => nomatch z) fun tz => ⟨.bl b, H, I.tok tz, rfl, q⟩
/-- isinstance(e, (c1, c2, ..)) -/
theorem call_isQT : CallR X (.builtin "isinstance") (fun xs H Q => ∃ (a C : Addr) (fs : List (Str × V)) (tp : Addr) (cs : List V) (ws : List Value) (b : Bool), xs = [.ref a, .ref tp] ∧ Exq H a C fs ∧ ExcC X.K C ∧ H tp = some (.tup cs) ∧ Paired ClsV cs ws ∧ PySem.W.kitAny X.K (.ref C) ws = some b ∧ Q (.bl b) H) := by
  intro pz s σ H xs ua Q I r h
  obtain ⟨a, C, fs, tp, cs, ws, b, rfl, ea, TT, htp, k, e, q⟩ := h
  obtain ⟨u1, u2, rfl, ra, rb⟩ := vals2 r
  cases (show u2 = Value.ref tp from rb)
  cases (show u1 = Value.ref a from ra)
  obtain ⟨P, Z, p⟩ := ea.kit I TT
  obtain ⟨_, itz, rz, o, h1, h2, n, h3⟩ := (show ObjOk X.prog X.w H s.heap tp (.tup cs) from I.hok tp _ htp)
  have e3 := ClsV.all k rz
  subst e3
  obtain ⟨oc, oq, dt, sl⟩ := o
  simp only at h2 h3
  subst h2 h3
  exact PySem.W.kia_tup Z I.kIn p h1 e (fun z => nomatch z) fun tz => ⟨.bl b, H, I.tok tz, rfl, q⟩
end
end Pk
namespace Pk
open PySem L2 PySem.Spec PyProof.Rows

/-! ### data of any depth in the heap -/
/-- a key as data -/
def keyD : Key → PyData
  | .inl i => .int i
  | .inr x => .str x
mutual
/-- v is this data -/
inductive Tr (H : Hp) : V → PyData → Prop
  | non : Tr H .non .none
  | bl (b : Bool) : Tr H (.bl b) (.bool b)
  | int (i : Int) : Tr H (.int i) (.int i)
  | str (x : Str) : Tr H (.str x) (.str x)
  | lst {a : Addr} {xs : List V} {ds : List PyData} : H a = some (.lst xs) → TrAll H xs ds → Tr H (.ref a) (.list ds)
  | tup {a : Addr} {xs : List V} {ds : List PyData} : H a = some (.tup xs) → TrAll H xs ds → Tr H (.ref a) (.tuple ds)
  | dct {a : Addr} {kvs : List (Key × V)} {es : List (PyData × PyData)} : H a = some (.dK kvs) → (kvs.map (·.1)).Nodup → es.map (·.1) = kvs.map (fun p => keyD p.1) → TrAll H (kvs.map (·.2)) (es.map (·.2)) → Tr H (.ref a) (.dict es)
inductive TrAll (H : Hp) : List V → List PyData → Prop
  | nil : TrAll H [] []
  | cons {v : V} {vs : List V} {d : PyData} {ds : List PyData} : Tr H v d → TrAll H vs ds → TrAll H (v :: vs) (d :: ds)
end
mutual
theorem Tr.same {H H' : Hp} (s : Same H H') : ∀ {v : V} {d : PyData}, Tr H v d → Tr H' v d
  | _, _, .non => .non
  | _, _, .bl b => .bl b
  | _, _, .int i => .int i
  | _, _, .str x => .str x
  | _, _, .lst h a => .lst (s _ _ h) (TrAll.same s a)
  | _, _, .tup h a => .tup (s _ _ h) (TrAll.same s a)
  | _, _, .dct h n e a => .dct (s _ _ h) n e (TrAll.same s a)
theorem TrAll.same {H H' : Hp} (s : Same H H') : ∀ {vs : List V} {ds : List PyData}, TrAll H vs ds → TrAll H' vs ds
  | _, _, .nil => .nil
  | _, _, .cons h t => .cons (Tr.same s h) (TrAll.same s t)
end
theorem TrAll.length {H : Hp} : ∀ {vs : List V} {ds : List PyData}, TrAll H vs ds → vs.length = ds.length
  | _, _, .nil => rfl
  | _, _, .cons _ t => by rw [List.length_cons, List.length_cons, TrAll.length t]
theorem TrAll.get {H : Hp} : ∀ {vs : List V} {ds : List PyData} {i : Nat} {v : V}, TrAll H vs ds → vs[i]? = some v → ∃ d, ds[i]? = some d ∧ Tr H v d
  | _, _, i, v, .nil, h => by simp at h
  | _, _, 0, v, .cons h t, e => by
    cases (show some _ = some v from e)
    exact ⟨_, rfl, h⟩
  | _, _, i + 1, v, .cons h t, e => by
    exact TrAll.get (i := i) t e
theorem TrAll.snoc {H : Hp} : ∀ {vs : List V} {ds : List PyData} {v : V} {d : PyData}, TrAll H vs ds → Tr H v d → TrAll H (vs ++ [v]) (ds ++ [d])
  | _, _, _, _, .nil, one => .cons one .nil
  | _, _, _, _, .cons h t, g => .cons h (TrAll.snoc t g)
theorem TrAll.append {H : Hp} : ∀ {vs ws : List V} {ds es : List PyData}, TrAll H vs ds → TrAll H ws es → TrAll H (vs ++ ws) (ds ++ es)
  | _, _, _, _, .nil, g => g
  | _, _, _, _, .cons h t, g => .cons h (TrAll.append t g)
theorem Tr.isList {H : Hp} {v : V} {ds : List PyData} (h : Tr H v (.list ds)) : ∃ a xs, v = .ref a ∧ H a = some (.lst xs) ∧ TrAll H xs ds := by
  cases h with
  | lst h t => exact ⟨_, _, rfl, h, t⟩
theorem Tr.isTup {H : Hp} {v : V} {ds : List PyData} (h : Tr H v (.tuple ds)) : ∃ a xs, v = .ref a ∧ H a = some (.tup xs) ∧ TrAll H xs ds := by
  cases h with
  | tup h t => exact ⟨_, _, rfl, h, t⟩
theorem TrAll.rep {H : Hp} {v : V} {d : PyData} (h : Tr H v d) : ∀ n : Nat, TrAll H (List.replicate n v) (List.replicate n d)
  | 0 => .nil
  | n + 1 => .cons h (TrAll.rep h n)
/-- the keys of a dict, read -/
theorem reads_keys {P : Program} {w : World} {h : Heap} : ∀ {es : List DictEntry} {kvs : List (Key × V)} {vs : List (Key × Value)}, Pairs (mixKind P w) es vs → KV kvs vs → ReadsAll h (es.map (·.key)) (kvs.map (fun p => keyD p.1)) []
  | _, _, _, .nil, .nil => .nil
  | _, _, _, .cons hk hv t, .cons r rs => by
    have ih := reads_keys (h := h) t rs
    simp only [List.map_cons]
    refine ReadsAll.cons (as := []) (bs := []) ?_ ih
    rw [← r.1] at hk
    rcases keyIs_shape hk with ⟨i, u, e1, e2⟩ | ⟨x, u, e1, e2⟩
    · rw [e1, e2]
      exact Reads.int i u
    · rw [e1, e2]
      exact Reads.str x u
theorem vals_of_pairs {P : Program} {w : World} : ∀ {es : List DictEntry} {kvs : List (Key × V)} {vs : List (Key × Value)}, Pairs (mixKind P w) es vs → KV kvs vs → Vals (kvs.map (·.2)) (es.map (·.val))
  | _, _, _, .nil, .nil => .nil
  | _, _, _, .cons hk hv t, .cons r rs => by
    rw [List.map_cons, List.map_cons, hv]
    exact .cons r.2 (vals_of_pairs t rs)
section
variable {X : Cx} {H : Hp} {s : Shared} {σ : L2.St} {pins : List (Addr × Obj)}
mutual
theorem Tr.reads (I : L2.Inv X pins σ H s) : ∀ {v : V} {d : PyData}, Tr H v d → ∀ u : Value, RelV v u → ∃ as, Reads s.heap u d as
  | _, _, .non, u, r => by
    cases (show u = Value.none from r)
    exact ⟨_, Reads.none⟩
  | _, _, .bl b, u, r => by
    cases (show u = Value.bool b from r)
    exact ⟨_, Reads.bool b⟩
  | _, _, .int i, u, r => by
    obtain ⟨t, e⟩ := (show ∃ t, u = Value.int i t from r)
    cases e
    exact ⟨_, Reads.int i t⟩
  | _, _, .str x, u, r => by
    obtain ⟨t, e⟩ := (show ∃ t, u = Value.str x t from r)
    cases e
    exact ⟨_, Reads.str x t⟩
  | _, _, @Tr.lst _ a xs ds h al, u, r => by
    cases (show u = Value.ref a from r)
    obtain ⟨_, its, n, rv, ho⟩ := (show ObjOk X.prog X.w H s.heap a (.lst xs) from I.hok a _ h)
    obtain ⟨as, q⟩ := TrAll.reads I al its rv
    exact ⟨_, Reads.list ho rfl rfl (by simpa using q)⟩
  | _, _, @Tr.tup _ a xs ds h al, u, r => by
    cases (show u = Value.ref a from r)
    obtain ⟨_, its, rv, o, ho, hc, n, hd⟩ := (show ObjOk X.prog X.w H s.heap a (.tup xs) from I.hok a _ h)
    obtain ⟨as, q⟩ := TrAll.reads I al its rv
    exact ⟨_, Reads.tuple ho hc hd (by simpa using q)⟩
  | _, _, @Tr.dct _ a kvs es h nd ek al, u, r => by
    cases (show u = Value.ref a from r)
    obtain ⟨_, _, vs, rel, o, des, ep, ho, hx, hd, _, pr, _⟩ := (show ObjOk X.prog X.w H s.heap a (.dK kvs) from I.hok a _ h)
    obtain ⟨bs, q⟩ := TrAll.reads I al _ (vals_of_pairs pr rel)
    exact ⟨_, Reads.dict ho hx.1 hd (by rw [ek]; exact reads_keys pr rel) q⟩
theorem TrAll.reads (I : L2.Inv X pins σ H s) : ∀ {vs : List V} {ds : List PyData}, TrAll H vs ds → ∀ us : List Value, Vals vs us → ∃ as, ReadsAll s.heap us ds as
  | _, _, .nil, us, r => by
    cases r
    exact ⟨_, ReadsAll.nil⟩
  | _, _, .cons h t, us, r => by
    cases r with
    | cons r1 r2 =>
      obtain ⟨as, q1⟩ := Tr.reads I h _ r1
      obtain ⟨bs, q2⟩ := TrAll.reads I t _ r2
      exact ⟨as ++ bs, .cons q1 q2⟩
end
end
/-- data without lists and dicts in it that stand at an address of their own -/
def plainD : PyData → Bool
  | .int _ | .str _ | .none | .bool _ => true
  | _ => false
def plainAll : (ds : List PyData) → Bool
  | [] => true
  | d :: ds => plainD d && plainAll ds
/-- a dict of plain things -/
def flatDict : PyData → Bool
  | .dict es => plainAll (es.map (·.2))
  | _ => false
section
variable {X : Cx} {H : Hp} {s : Shared} {σ : L2.St} {pins : List (Addr × Obj)}
theorem plain_reads {h : Heap} : ∀ {us : List Value} {ds : List PyData} {as : List Addr}, ReadsAll h us ds as → plainAll ds = true → as = []
  | _, _, _, .nil, _ => rfl
  | _, _, _, .cons hd tl, e => by
    rw [plainAll, Bool.and_eq_true] at e
    have ih := plain_reads tl e.2
    subst ih
    cases hd with
    | none => rfl
    | bool b => rfl
    | int i t => rfl
    | str x t => rfl
    | list _ _ _ _ => exact absurd e.1 (by simp [plainD])
    | tuple _ _ _ _ => exact absurd e.1 (by simp [plainD])
    | dict _ _ _ _ _ => exact absurd e.1 (by simp [plainD])
/-- flat dicts side by side lie at no address that the system keeps -/
theorem TrAll.flat (I : L2.Inv X pins σ H s) : ∀ {vs : List V} {ds : List PyData}, TrAll H vs ds → (∀ d ∈ ds, flatDict d = true) → ∀ us : List Value, Vals vs us → ∃ as, ReadsAll s.heap us ds as ∧ sysModules ∉ as
  | _, _, .nil, _, us, r => by
    cases r
    exact ⟨_, ReadsAll.nil, by simp⟩
  | _, _, @TrAll.cons _ v vs d ds h t, f, us, r => by
    cases r with
    | cons r1 r2 =>
      rename_i u us
      obtain ⟨bs, q2, n2⟩ := TrAll.flat I t (fun d hd => f d (List.mem_cons_of_mem _ hd)) _ r2
      have fd := f d List.mem_cons_self
      cases h with
      | non => cases fd
      | bl b => cases fd
      | int i => cases fd
      | str x => cases fd
      | lst _ _ => cases fd
      | tup _ _ => cases fd
      | @dct a kvs es h nd ek al =>
        cases (show u = Value.ref a from r1)
        obtain ⟨_, hsys, vs, rel, o, des, ep, ho, hx, hd, _, pr, _⟩ := (show ObjOk X.prog X.w H s.heap a (.dK kvs) from I.hok a _ h)
        obtain ⟨cs, q⟩ := TrAll.reads I al _ (vals_of_pairs pr rel)
        have ec := plain_reads q fd
        subst ec
        refine ⟨_, ReadsAll.cons (Reads.dict ho hx.1 hd (by rw [ek]; exact reads_keys pr rel) q) q2, ?_⟩
        intro z
        rcases List.mem_append.mp z with z | z
        · have z' : sysModules = a := by simpa using z
          rw [z'] at hsys
          simp at hsys
        · exact n2 z
end
/-- repr of a list, where what stands in it lies at no address that the system keeps -/
theorem repr_listD {prog : Program} {w : World} {A : Around} {E : Value → Shared → Prop} {s : Shared} {Q : Value → Shared → Prop} {a : Addr} {o : Obj} {vs : List Value} {n : Nat} {xs : List PyData} {as : List Addr}
    (h1 : s.heap.get? a = some o) (h2 : o.cls = .type "list") (h3 : o.data = .seq vs.toArray n) (h4 : ReadsAll s.heap vs xs as) (hs : PyData.showableAll xs = true) (hm : PyData.hasDictAll xs = true → sysModules ∉ as) (hg : A.guards = some [])
    (hu : A.units + (PyData.depth (.list xs) + 1) < cLine) (hsz : (PyData.shown (.list xs)).length ≤ sizeLine)
    (hQ : ∀ h' u tk, (∀ b o, s.heap.get? b = some o → h'.get? b = some o) → Q (.str (PyData.shown (.list xs)) u) { s with heap := h', toks := tk }) : wpAny (model prog w) A (call (.builtin "repr") [.ref a]) Q E s := by
  have zl : (listText (PyData.shownAll xs)).length ≤ sizeLine := by simpa only [PyData.shown] using hsz
  obtain ⟨bs, hb, hk⟩ := ReprAllK.of_readsAll (prog := prog) (w := w) h4 hs hm (fun t ht => Nat.le_trans (listText_mem_le ht) zl)
  have r0 : Reads s.heap (.ref a) (.list xs) (a :: as) := Reads.list h1 h2 h3 (by simpa using h4)
  have na : a ∉ bs := not_mem_of_deeper r0 (by simp only [PyData.depth]; omega) hb
  simp only [PyData.depth] at hu; simp only [PyData.shown] at hQ
  refine call_repr_slot (by omega) ⟨o, h1, h2⟩ F.slot_list_repr.toG ?_
  cases vs with
  | nil =>
    cases h4
    simp only [listText_nil, PyData.shownAll] at hQ
    exact call_list_repr_empty ⟨o, h1, h2⟩ h1 h3 ⟨_, _, rfl, hQ s.heap _ _ fun _ _ e => e⟩
  | cons x l =>
    exact call_list_reprK (h₀ := s.heap) h1 h2 h3 na (by simpa using hk.length_eq) (fun i y e => hk.item i y (by simpa using e)) hg (fun b _ => Clear.nil b) (by show A.units + 1 + (PyData.depthAll xs + 1) < cLine; omega) (fun _ _ e => e) (fun h' u tk k => ⟨_, _, rfl, hQ h' u tk k⟩) zl
/-- repr(xs), xs a list: things without dicts, or flat dicts alone -/
theorem call_reprL {X : Cx} (hg : X.A.guards = some []) (hu : X.A.units + 100 < cLine) : CallR X (.builtin "repr") (fun xs H Q => ∃ (a : Addr) (zs : List V) (ds : List PyData), xs = [.ref a] ∧ H a = some (.lst zs) ∧ TrAll H zs ds ∧ (PyData.hasDictAll ds = false ∨ ∀ d ∈ ds, flatDict d = true) ∧
    PyData.showableAll ds = true ∧ PyData.depthAll ds ≤ 60 ∧ (PyData.shown (.list ds)).length ≤ sizeLine ∧ Q (.str (PyData.shown (.list ds))) H) := by
  intro pz s σ H xs ua Q I r h
  obtain ⟨a, zs, ds, rfl, ha, al, hd, hs, hdep, hsz, q⟩ := h
  obtain rfl := Vals.ref1 r
  obtain ⟨_, its, n, rv, ho⟩ := (show ObjOk X.prog X.w H s.heap a (.lst zs) from I.hok a _ ha)
  have key : ∃ as, ReadsAll s.heap its ds as ∧ (PyData.hasDictAll ds = true → sysModules ∉ as) := by
    rcases hd with hd | hd
    · obtain ⟨as, q⟩ := TrAll.reads I al its rv
      exact ⟨as, q, fun z => by rw [hd] at z; cases z⟩
    · obtain ⟨as, q, nq⟩ := TrAll.flat I al hd its rv
      exact ⟨as, q, fun _ => nq⟩
  obtain ⟨as, q4, hm⟩ := key
  refine repr_listD ho rfl rfl q4 hs hm hg (by simp only [PyData.depth]; omega) hsz fun h' u tk k => ?_
  exact ⟨.str _, H, I.kept (t' := tk) k, ⟨u, rfl⟩, q⟩
end Pk
namespace Pk
open PySem L2
/-! ### written data: an expression that makes new things alone -/
/-- what of H' is new -/
def newP (H H' : Hp) : Hp := fun b => match H b with
  | none => H' b
  | some _ => none
theorem newP_at {H H' : Hp} {b : Addr} (h : H b = none) : newP H H' b = H' b := by
  unfold newP
  rw [h]
theorem newP_some {H H' : Hp} {b : Addr} {o : HO} (h : newP H H' b = some o) : H b = none ∧ H' b = some o := by
  unfold newP at h
  cases e : H b with
  | none =>
    rw [e] at h
    exact ⟨rfl, h⟩
  | some u =>
    rw [e] at h
    cases h
theorem newP_grow {H H1 H2 : Hp} (s : Same H1 H2) : Same (newP H H1) (newP H H2) := fun b o e => by
  obtain ⟨h1, h2⟩ := newP_some e
  rw [newP_at h1]
  exact s b o h2
theorem newP_back {H H1 H2 : Hp} (s : Same H H1) : Same (newP H1 H2) (newP H H2) := fun b o e => by
  obtain ⟨h1, h2⟩ := newP_some e
  rw [newP_at (s.free h1)]
  exact h2
theorem newP_all {H H' : Hp} : Same (newP H H') H' := fun b o e => (newP_some e).2
/-- new things are no place that was there -/
theorem newP_del {H H' : Hp} {p : Addr} {o : HO} (h : H p = some o) : Same (newP H H') (del H' p) := fun b u e => by
  obtain ⟨h1, h2⟩ := newP_some e
  rw [del_ne (fun z => by rw [z, h] at h1; cases h1)]
  exact h2
def tD (d : PyData) : TE := fun _ H Q => ∀ v H', Same H H' → Tr (newP H H') v d → Q v H'
def tDs (ds : List PyData) : TA := fun _ H Q => ∀ vs H', Same H H' → TrAll (newP H H') vs ds → Q vs H'
section
variable {X : Cx} {e : Expr} {es : List Expr} {d : PyData} {ds : List PyData} {pos p1 p2 : Pos} {j : Nat}
theorem peW {t t' : TE} (h : PE X e t) (f : ∀ σ H Q, t' σ H Q → t σ H Q) : PE X e t' := ⟨fun pz s σ H Q I q => h.run pz s σ H Q I (f σ H Q q)⟩
theorem paW {t t' : TA} (h : PA X es t) (f : ∀ σ H Q, t' σ H Q → t σ H Q) : PA X es t' := ⟨fun po pz s σ H Q I q => h.run po pz s σ H Q I (f σ H Q q)⟩
theorem pd_int {i : Int} (h : PE X e (tC (.int i))) : PE X e (tD (.int i)) := peW h fun _ H Q q => q _ H (Same.refl _) (.int i)
theorem pd_str {i : Str} (h : PE X e (tC (.str i))) : PE X e (tD (.str i)) := peW h fun _ H Q q => q _ H (Same.refl _) (.str i)
theorem pd_bl {i : Bool} (h : PE X e (tC (.bl i))) : PE X e (tD (.bool i)) := peW h fun _ H Q q => q _ H (Same.refl _) (.bl i)
theorem pd_non (h : PE X e (tC .non)) : PE X e (tD .none) := peW h fun _ H Q q => q _ H (Same.refl _) .non
theorem pd_nil : PA X [] (tDs []) := paW pa_nil fun _ H Q q => q [] H (Same.refl _) .nil
theorem pd_cons (h : PE X e (tD d)) (t : PA X es (tDs ds)) (hs : starEach (e :: es) X.env = (false, eval e X.env) :: starEach es X.env := by rfl) : PA X (e :: es) (tDs (d :: ds)) := by
  refine paW (pa_cons h t hs) fun σ H Q q => ?_
  intro v H1 s1 r1 vs H2 s2 r2
  exact q (v :: vs) H2 (s1.trans s2) (.cons (r1.same (newP_grow s2)) (r2.same (newP_back s1)))
theorem pd_tup {x1} (h : PA X es (tDs ds)) (hl : ds.length ≤ 1000 := by decide) : PE X (.Tuple es x1 pos) (tD (.tuple ds)) := by
  refine peW (pe_tup h) fun σ H Q q => ?_
  intro vs H1 s1 r1
  have e1 : vs.length ≤ sizeLine := Nat.le_of_lt (small1000 (by rw [r1.length]; exact hl))
  refine ⟨e1, fun p hp => ?_⟩
  have s2 := sameNew hp (.tup vs)
  refine q (.ref p) _ (s1.trans s2) (.tup ?_ (r1.same (newP_grow s2)))
  rw [newP_at (s1.free hp), upd_same]
theorem pd_lst (h : PA X es (tDs ds)) (hl : ds.length ≤ 1000 := by decide) : PE X (.List es pos) (tD (.list ds)) := by
  refine peW (pe_lst h) fun σ H Q q => ?_
  intro vs H1 s1 r1
  have e1 : vs.length ≤ sizeLine := Nat.le_of_lt (small1000 (by rw [r1.length]; exact hl))
  refine ⟨e1, fun p hp => ?_⟩
  have s2 := sameNew hp (.lst vs)
  refine q (.ref p) _ (s1.trans s2) (.lst ?_ (r1.same (newP_grow s2)))
  rw [newP_at (s1.free hp), upd_same]
theorem pd_d0 : PE X (.Dict [] [] pos) (tD (.dict [])) := by
  refine peW pe_dnewK fun σ H Q q => ?_
  intro p hp
  refine q (.ref p) _ (sameNew hp _) (.dct (kvs := []) ?_ List.nodup_nil rfl .nil)
  rw [newP_at hp, upd_same]
/-- {'a': 0} -/
theorem pd_d1 {k : Str} {i : Int} {po : Pos} {kx vx : Expr} (hk : PE X kx (tC (.str k))) (hv : PE X vx (tC (.int i))) : PE X (.Dict [some kx] [vx] po) (tD (.dict [(.str k, .int i)])) := by
  refine peW (pe_disp (pps_cons hk hv pps_nil) (by rfl) (by rfl) (fun z => by cases z) (by show 1 ≤ 15; decide)) fun σ H Q q => ?_
  intro p hp
  refine ⟨upd_same, [(Sum.inr k, .int i)], rfl, (by show 1 ≤ 15; decide), ?_⟩
  rw [upd_upd]
  refine q (.ref p) _ (sameNew hp _) (.dct (kvs := [(Sum.inr k, .int i)]) ?_ (by simp) rfl (.cons (.int i) .nil))
  rw [newP_at hp, upd_same]
  rfl
/-- 10 ** 18 and the like -/
theorem pd_pow {a b : Expr} {i k : Int} (ha : PE X a (tC (.int i))) (hb : PE X b (tC (.int k))) (h : CPow i k := by exact ⟨by decide, by decide, by decide⟩) : PE X (.BinOp a .Pow b pos) (tC (.int (i ^ k.toNat))) :=
  peW (pe_op op_pow ha hb) fun σ H Q q => ⟨_, _, rfl, rfl, h, q⟩
theorem pd_neg {a : Expr} {i : Int} (ha : PE X a (tC (.int i))) : PE X (.UnaryOp .USub a pos) (tC (.int (-i))) :=
  peW (pe_un un_neg ha) fun σ H Q q => ⟨_, rfl, q⟩
end
end Pk
namespace Pk
open PySem L2 PySem.Spec PyProof.Rows
/-! ### defs that are run where no text of a list is under way (for repr) -/
/-- the def at f keeps sp, where no repr is under way -/
structure FnG (P : Program) (w : World) (K : PySem.W.Frag) (mg : Str → Option Value) (bs : Heap) (k : Nat) (f : Addr) (fd : FuncData) (ps : List Str) (sp : Sp) : Prop where
  len : ∀ va H Q E, sp va H Q E → va.length = ps.length
  run : ∀ (A : Around) (out : List Env) (s : Shared) (H : Hp) (ar : Args) (ua : List Value) (va : List V) (Q : VK) (E : XK), A.guards = some [] → Room k A → Env0 P w K mg bs A out s H → BindsTo s fd ar (ps.zip ua) → Vals va ua → sp va H Q E →
    codeAny (model P w) A (.call (.ref f) ar) (CR CX0 out P w H s Q E) s
theorem Fun.okG {P : Program} {w : World} {K : PySem.W.Frag} {mg : Str → Option Value} {bs : Heap} {x ql : Str} {st : Stmt} {f : Addr} {fd : FuncData} {N ps : List Str} {k : Nat} {sp : Sp} (F : Fun K x ql st f fd) (S : FnScope N ps (defScope st)) (len : ∀ va H Q E, sp va H Q E → va.length = ps.length)
    (hbd : ∀ (cv : Value) (A : Around) (out : List Env) (s : Shared) (H : Hp) (va : List V) (Q : VK) (E : XK), A.guards = some [] → Room k (A.deeper (envOfC ql (defScope st) s.heap.objs.size f cv)) → sp va H Q E →
      ∃ t, PSs (cxOf CX0 P w K mg bs N ql (defScope st) f cv A out s H E).nox (defBody st) t ∧ t { nx := fun _ H' => Q .non H', rt := Q } (L2.start N va) H) : FnG P w K mg bs (k + 1) f fd ps sp := by
  obtain ⟨oc, oq, kV, doc, pm, an, cv, ct, osl, rfl, lk, hcd⟩ := F.ex
  refine ⟨len, fun A out s H ar ua va Q E hgd hr ez hbt rr hq => ?_⟩
  have hlen := len _ _ _ _ hq
  have inK : K.In s.heap := ez.mod.kin.keeps fun b o e => (ez.bs b o e).1
  have noL : s.heap.NoLimit := ez.mod.nolimit.keeps fun b o e => (ez.bs b o e).1
  refine codeAny_call_function hr.depth (inK _ _ lk) rfl S.co S.gen rfl (PySem.W.codeRec_of inK hcd) (hbt _ _ _ _ (wpAny_newFunctionEnv_cells S.kind (fun ⟨n, v⟩ hy => ?_) fun env he sz xx => ?_))
  · rcases S.par n (List.of_mem_zip hy).1 with z | z
    · exact .inl z
    · exact .inr ⟨z, PySem.W.cellsFrom_some _ _ _ (.inl z)⟩
  · subst he
    refine ⟨noL.keeps xx.toInCall.keep, codeAny_func ?_⟩
    obtain ⟨t, ht, hw⟩ := hbd cv A out s H va Q E hgd (hr.deeper _) hq
    have J : L2.Inv (cxOf CX0 P w K mg bs N ql (defScope st) f cv A out s H E) [] (L2.start N va) H sz := inv_start S hr.hd ez hlen rr xx
    refine wpAny_mono (ht.nox.run [] sz _ H _ J hw) (fun fl sy hy => ?_) fun e sy hy => hy
    cases fl with
    | ret u =>
      obtain ⟨v, σy, Hy, Jy, rv, qy⟩ := hy
      exact ⟨v, Hy, Jy.os, Jy.bare, Jy.base, Jy.hok, rv, qy⟩
    | next =>
      obtain ⟨σy, Hy, Jy, qy⟩ := hy
      exact ⟨.non, Hy, Jy.os, Jy.bare, Jy.base, Jy.hok, rfl, qy⟩
    | brk =>
      obtain ⟨_, _, _, qy⟩ := hy
      exact qy.elim
    | cont =>
      obtain ⟨_, _, _, qy⟩ := hy
      exact qy.elim
/-- f(e, ..) of such a def, where no repr is under way -/
theorem pe_callG {X : Cx} {k : Nat} {f : Addr} {fd : FuncData} {ps : List Str} {sp : Sp} {x : Str} {p pos : Pos} {e : Expr} {es : List Expr} {t : TA} (hgd : X.A.guards = some []) (G : FnG X.prog X.w X.K X.mg X.base k f fd ps sp) (hr : Room k X.A) (hg : Gl X x) (hm : X.mg x = some (.ref f)) (hk : PySem.W.keepIn X.K (.ref f) = true)
    (hb : Binds X.K fd ps []) (ha : PA X (e :: es) t) (hdg : (x == ("__debug__" : Str)) = false := by decide) (he : starEach (e :: es) X.env = (false, eval e X.env) :: starEach es X.env := by rfl) (hpz : (backTo pos (starEach es X.env)).any (·.1) = false := by rfl) :
    PE X (.Call (.Name x p) (e :: es) [] pos) (fun σ H Q => t σ H fun va Ha => sp va Ha Q fun _ _ _ => False) := by
  refine ⟨fun pz s σ H Q I hq => wpAny_Call_Name_kw (ld_glob I hg hm (PySem.W.callWith_K (h₀ := X.base) I.ok.mod.kin hk (thn (ha.run pos pz s σ H _ I hq) fun ua sa ⟨va, Ha, Ia, ra, qa⟩ => ⟨Ia.kIn, ?_⟩) he hpz) hdg)⟩
  have hlen : ua.length = ps.length := by
    rw [← ra.length]
    exact G.len _ _ _ _ qa
  have bt := hb sa ua Ia.kIn (by rw [List.append_nil]; exact hlen)
  rw [List.append_nil] at bt
  refine wpAny_call (codeAny_mono (G.run X.A X.stack sa Ha ⟨ua, []⟩ ua va Q (fun _ _ _ => False) hgd hr Ia.env0 bt ra qa) fun rr sy hy => ?_)
  cases rr with
  | error ee => exact hy.elim
  | ok fl =>
    cases fl with
    | ret u => exact Ia.after hy
    | next => exact hy.elim
    | brk => exact hy.elim
    | cont => exact hy.elim
/-- the law's call from outside: at the heap behind the top nothing but the script is tracked -/
theorem lawG {P : Program} {w : World} {K : PySem.W.Frag} {mg mb : Str → Option Value} {k : Nat} {fa a : Addr} {fd : FuncData} {x : Str} {sp : Sp} {sz : Shared} {va : List Value} {ns : List Int}
    (inK : K.In sz.heap) (hn : sz.heap.Ns mainGlobals mg) (hbn : sz.heap.Ns builtinsNs mb) (hbb : ∀ x : Str, x ≠ "__name__" → mb x = bootBuiltins x) (noL : sz.heap.NoLimit) (hgn : sz.gens = #[])
    (ha : sz.heap.get? a = some { cls := .type "list", data := .seq va.toArray }) (hi : IntsAre va ns) (hl : ns.length ≤ sizeLine) (hr : Room k callerA)
    (G : ∀ bs : Heap, K.In bs → bs.Ns mainGlobals mg → FnG P w K mg bs k fa fd [x] sp) (hbt : ∀ (s : Shared) (u : Value), BindsTo s fd ⟨[u], []⟩ [(x, u)])
    (hq : ∀ H : Hp, SqL K H a (ns.map V.int) → sp [.ref a] H (fun v _ => v = .bl true) fun _ _ _ => False) :
    codeAny (model P w) callerA (.call (.ref fa) ⟨[.ref a], []⟩) (fun r s' => r = .ok (.ret (.bool true)) ∧ OldK sz.heap s'.heap ∧ s'.os = sz.os ∧ AllBare s'.gens) sz := by
  have rr := vals_ints hi
  have ln := hi.length
  have main : ∀ H : Hp, L2.Only H → SqL K H a (ns.map V.int) → HOk P w H sz.heap → (∀ b, H b ≠ none → b = a) → (H a ≠ none → K.lookup a = none) →
      codeAny (model P w) callerA (.call (.ref fa) ⟨[.ref a], []⟩) (fun r s' => r = .ok (.ret (.bool true)) ∧ OldK sz.heap s'.heap ∧ s'.os = sz.os ∧ AllBare s'.gens) sz := by
    intro H only hS hok hA hK
    have isA : ∀ {b : Addr} {u : HO}, H b = some u → b = a := fun {b u} z => hA b (by rw [z]; simp)
    have free : ∀ {b : Addr} {o : Obj} {es : Array DictEntry} {ep : Nat}, sz.heap.get? b = some o → o.data = .dict es ep → H b = none := fun {b o es ep} e d => by
      cases z : H b with
      | none => rfl
      | some u =>
        have eb := isA z
        subst eb
        rw [ha] at e
        cases e
        cases (show Data.seq va.toArray _ = Data.dict es ep from d)
    have nsB : ∀ {b : Addr} {m : Str → Option Value}, sz.heap.Ns b m → (hidT sz.heap H).Ns b m := fun {b m} ⟨o, es, ep, e, d, z⟩ => ⟨o, es, ep, hidT_get e (free e d), d, z⟩
    have kB : K.In (hidT sz.heap H) := fun b o e => hidT_get (inK b o e) (by
      cases z : H b with
      | none => rfl
      | some u =>
        have eb := isA z
        subst eb
        rw [hK (by rw [z]; simp)] at e
        cases e)
    have md : Mod K mg (hidT sz.heap H) := ⟨kB, nsB hn, ⟨mb, nsB hbn, hbb⟩, let ⟨mc, z1, z2⟩ := noL; ⟨mc, nsB z1, z2⟩⟩
    have ez : Env0 P w K mg (hidT sz.heap H) callerA [] sz H := ⟨rfl, md, fun b o e => of_hidT e, Nat.le_of_eq (hidT_size _ _), trivial, fun b hb => absurd (show b ∈ ([] : List Addr) from hb) (by simp), hok, .of_eq hgn⟩
    refine codeAny_mono ((G _ kB (nsB hn)).run callerA [] sz H ⟨[.ref a], []⟩ [.ref a] [.ref a] _ _ rfl hr ez (hbt sz (.ref a)) (.cons rfl .nil) (hq H hS)) fun rz sy hy => ?_
    cases rz with
    | error e => exact hy.elim
    | ok fl =>
      cases fl with
      | next => exact hy.elim
      | brk => exact hy.elim
      | cont => exact hy.elim
      | ret u =>
        obtain ⟨v, Hy, osy, bry, un, oky, rv, qy⟩ := hy
        cases (show v = .bl true from qy)
        cases (show u = Value.bool true from rv)
        refine ⟨rfl, OldK.of_keep fun b o e => ?_, osy, bry⟩
        cases z : H b with
        | none => exact un.keep b o e z (fun q => absurd (show b ∈ ([] : List Addr) from q) (by simp)) (by simp)
        | some u =>
          rcases only b with q | ⟨ob, xs, q⟩
          · rw [z] at q
            cases q
          · obtain ⟨g1, _⟩ := hok b _ q
            obtain ⟨g2, _⟩ := oky b _ (un.frzs b ob _ q)
            rw [e] at g1
            cases g1
            exact g2
  cases hk : K.lookup a with
  | some o =>
    have e := inK a o hk
    rw [ha] at e
    cases e
    exact main (fun _ => none) (fun _ => .inl rfl) (.inr ⟨_, va.toArray, _, hk, rfl, rfl, rfl, by rw [List.size_toArray, ln]; exact hl, by simpa using rr⟩) (fun b u z => by cases (show (none : Option HO) = some u from z)) (fun b z => absurd rfl z) fun z => absurd rfl z
  | none =>
    refine main (fun b => if b = a then some (.frz { cls := .type "list", data := .seq va.toArray } (.lst (ns.map V.int))) else none) (fun b => ?_) (.inl (.inr ⟨{ cls := .type "list", data := .seq va.toArray }, if_pos rfl⟩)) (fun b u z => ?_) (fun b z => ?_) fun _ => hk
    · by_cases hb : b = a
      · right; exact ⟨_, _, if_pos hb⟩
      · exact .inl (if_neg hb)
    · by_cases hb : b = a
      · cases (if_pos hb).symm.trans z
        subst hb
        exact ⟨ha, by rw [List.length_map]; exact hl, va, _, rr, ha⟩
      · cases (if_neg hb).symm.trans z
    · by_cases hb : b = a
      · exact hb
      · exact absurd (if_neg hb) z
/-- the goal that the head leaves, from the law's promise -/
theorem walkG {l : PySem.W.OpenLaw} {n k : Nat} {q : Program} {loose : List Str} {XP : (Str → Option Value) → Heap → Prop} {YP : World → Heap → Prop} {d : DefRec} {K : Params → PySem.W.Frag} {sp : PySem.W.Frag → Sp} {x : Str}
    (hr : Room k callerA) (hn : l.most = some n) (hn2 : n ≤ sizeLine) (hdf : d.params.defaults = []) (hY : ∀ (w : World) (h : Heap), YP w h → (K w.params).In h)
    (G : ∀ (w : World) (mg : Str → Option Value) (fa : Addr) (h : Heap), (K w.params).In h → h.Ns mainGlobals mg → mg d.name = some (.ref fa) →
      ∃ fd : FuncData, (∀ (s : Shared) (u : Value), BindsTo s fd ⟨[u], []⟩ [(x, u)]) ∧ ∀ bs : Heap, (K w.params).In bs → bs.Ns mainGlobals mg → FnG l.prog w (K w.params) mg bs k fa fd [x] (sp (K w.params)))
    (hq : ∀ (K : PySem.W.Frag) (H : Hp) (a : Addr) (ns : List Int), ns.length ≤ n → SqL K H a (ns.map V.int) → sp K [.ref a] H (fun v _ => v = .bl true) fun _ _ _ => False) :
    PySem.W.WalkO q loose XP YP l.row.toRowW d [] (fun f va => PySem.call f va) := by
  refine Att.attach_call hn hdf fun w sy sz mg mb fa o pm cd doc a va ns Gr Y ho hd hcd hmg hob hin hle hgn => ?_
  have inK := hY w _ Y
  obtain ⟨fd, hbt, hG⟩ := G w mg fa _ inK Gr.T.g hmg
  exact lawG inK Gr.T.g Gr.T.b Gr.T.builtins Gr.T.nolimit hgn hob hin (Nat.le_trans hle hn2) hr hG hbt fun H hS => hq _ H a ns hle hS
end Pk
/-! a dict is no text -/
namespace Pk
open PySem PySem.SeqAt PySem.MeetsSeq PySem.AutoSeq1
theorem strNoDict (b : Str) (u : Tok) (l : Addr) (es : Array DictEntry) (n : Nat) (dd : Option Addr) (sl : Array (Option Value)) :
    Meets (Builtin.«str.__eq__» ⟨[.str b u, .ref l], []⟩) (fun _ R s => s.heap.get? l = some { cls := .type "dict", dict := dd, data := .dict es n, slots := sl } ∧ R (.ok (.ret .notImplemented)) s) :=
  .of_wp fun prog w A R s h => by
    obtain ⟨hp, g, d, tk, os⟩ := s
    obtain ⟨hl, h⟩ := h
    wp_walk using wpAny_loadPart' hl, wpAny_load hl
    exact ⟨_, rfl, h⟩
theorem dictNoStr (b : Str) (u : Tok) (l : Addr) (es : Array DictEntry) (n : Nat) (dd : Option Addr) (sl : Array (Option Value)) :
    Meets (Builtin.«dict.__eq__» ⟨[.ref l, .str b u], []⟩) (fun _ R s => s.heap.get? l = some { cls := .type "dict", dict := dd, data := .dict es n, slots := sl } ∧ R (.ok (.ret .notImplemented)) s) :=
  .of_wp fun prog w A R s h => by
    obtain ⟨hp, g, d, tk, os⟩ := s
    obtain ⟨hl, h⟩ := h
    wp_walk using wpAny_loadPart' hl, wpAny_load hl
    refine wpAny_of_eq (a := false) F.sub_str_dict ?_
    wp_walk using wpAny_loadPart' hl, wpAny_load hl
    exact ⟨_, rfl, h⟩
section
variable {A : Around} {s : Shared}
theorem rcStrDict {l : Addr} {es : Array DictEntry} {n : Nat} {dd : Option Addr} {sl : Array (Option Value)} (b : Str) (u : Tok) (hl : s.heap.get? l = some { cls := .type "dict", dict := dd, data := .dict es n, slots := sl }) (hu : A.units < cLine) : RcAt A s (.str b u) (.ref l) false := fun prog w E Q h =>
  rc_eq_decline_or (k := false) (typeIs_str s b u) ⟨_, hl, rfl⟩ (by decide) F.sub_dict_str F.slot_str_eq F.slot_dict_eq_refl
    (fun _ q => call_meets F.slot_str_eq (typeIs_str s b u) F.entry_str_eq (F.args_str_eq_2 _ _) (strNoDict b u l es n dd sl) ⟨hl, q⟩)
    (fun _ q => call_meets F.slot_dict_eq_refl ⟨_, hl, rfl⟩ F.entry_dict_eq (F.args_dict_eq_2 _ _) (dictNoStr b u l es n dd sl) ⟨hl, q⟩)
    (fun _ q => wpAny_of_eq (rfl : isSame (.str b u) (.ref l) = pure false) q) (.inr hu) h
theorem rcDictStr {l : Addr} {es : Array DictEntry} {n : Nat} {dd : Option Addr} {sl : Array (Option Value)} (b : Str) (u : Tok) (hl : s.heap.get? l = some { cls := .type "dict", dict := dd, data := .dict es n, slots := sl }) (hu : A.units < cLine) : RcAt A s (.ref l) (.str b u) false := fun prog w E Q h =>
  rc_eq_decline_or (k := false) ⟨_, hl, rfl⟩ (typeIs_str s b u) (by decide) F.sub_str_dict F.slot_dict_eq F.slot_str_eq_refl
    (fun _ q => call_meets F.slot_dict_eq ⟨_, hl, rfl⟩ F.entry_dict_eq (F.args_dict_eq_2 _ _) (dictNoStr b u l es n dd sl) ⟨hl, q⟩)
    (fun _ q => call_meets F.slot_str_eq_refl (typeIs_str s b u) F.entry_str_eq (F.args_str_eq_2 _ _) (strNoDict b u l es n dd sl) ⟨hl, q⟩)
    (fun _ q => wpAny_of_eq (rfl : isSame (.ref l) (.str b u) = pure false) q) (.inr hu) h
theorem eqStrDict {l : Addr} {es : Array DictEntry} {n : Nat} {dd : Option Addr} {sl : Array (Option Value)} (b : Str) (u : Tok) (hl : s.heap.get? l = some { cls := .type "dict", dict := dd, data := .dict es n, slots := sl }) (hu : A.units < cLine) : EqAt A s (.str b u) (.ref l) false := fun prog w E Q h => by
  unfold eqBool
  exact wpAny_holding (wpAny_ite_split (fun hab => absurd (eq_of_beq hab) nofun) fun _ => wpAny_bind (rcStrDict b u hl hu prog w E _ (wpAny_truthy_bool h)))
end
end Pk
namespace Pk
open PySem L2
/-- the data is this text -/
def strIs (y : Str) : PyData → Bool
  | .str z => y == z
  | _ => false
section
variable {X : Cx} {pz : List (Addr × Obj)} {σ : L2.St} {H : Hp} {s : Shared} {A : Around} {x : V} {d : PyData} {v : Value}
theorem Tr.eqStr (I : L2.Inv X pz σ H s) (t : Tr H x d) (r : RelV x v) (hu : A.units < cLine) (y : Str) (u : Tok) : SeqAt.EqAt A s (.str y u) v (strIs y d) := by
  cases t with
  | non => cases (show v = .none from r); exact SeqAt.EqAt.str_none y u
  | bl b => cases (show v = .bool b from r); exact SeqAt.EqAt.str_bool y u b
  | int i => obtain ⟨k, e⟩ := (show ∃ k, v = .int i k from r); cases e; exact SeqAt.EqAt.str_int y u i k
  | str z => obtain ⟨k, e⟩ := (show ∃ k, v = .str z k from r); cases e; exact SeqAt.EqAt.str_str y u z k
  | @lst a xs ds h al =>
    cases (show v = .ref a from r)
    obtain ⟨_, its, n, rv, ho⟩ := (show ObjOk X.prog X.w H s.heap a (.lst xs) from I.hok a _ h)
    exact SeqAt.EqAt.str_list y u ⟨_, ho, rfl, n, rfl⟩ hu
  | @tup a xs ds h al =>
    cases (show v = .ref a from r)
    obtain ⟨_, its, rv, ho⟩ := (show ObjOk X.prog X.w H s.heap a (.tup xs) from I.hok a _ h)
    exact SeqAt.EqAt.str_tuple y u ho hu
  | @dct a kvs es h nd ek al =>
    cases (show v = .ref a from r)
    obtain ⟨_, _, vs, rel, ⟨oc, od, odt, osl⟩, des, ep, ho, hx, hd, _⟩ := (show ObjOk X.prog X.w H s.heap a (.dK kvs) from I.hok a _ h)
    obtain ⟨x1, x2, x3⟩ := hx
    dsimp only at x1 x2 x3 hd
    subst x1 x2 x3 hd
    exact eqStrDict y u ho hu
theorem Tr.rcStr (I : L2.Inv X pz σ H s) (t : Tr H x d) (r : RelV x v) (hu : A.units < cLine) (y : Str) (u : Tok) : SeqAt.RcAt A s v (.str y u) (strIs y d) := by
  cases t with
  | non => cases (show v = .none from r); exact SeqAt.RcAt.none_str y u
  | bl b => cases (show v = .bool b from r); exact SeqAt.RcAt.bool_str b y u
  | int i => obtain ⟨k, e⟩ := (show ∃ k, v = .int i k from r); cases e; exact SeqAt.RcAt.int_str i k y u
  | str z =>
    obtain ⟨k, e⟩ := (show ∃ k, v = .str z k from r)
    cases e
    have q := SeqAt.RcAt.str_str (A := A) (s := s) z k y u
    have e : strIs y (.str z) = (z == y) := by
      show (y == z) = (z == y)
      by_cases h : y = z
      · subst h; rfl
      · rw [beq_eq_false_iff_ne.mpr h, beq_eq_false_iff_ne.mpr (Ne.symm h)]
    rw [e]
    exact q
  | @lst a xs ds h al =>
    cases (show v = .ref a from r)
    obtain ⟨_, its, n, rv, ho⟩ := (show ObjOk X.prog X.w H s.heap a (.lst xs) from I.hok a _ h)
    exact SeqAt.RcAt.list_str y u ⟨_, ho, rfl, n, rfl⟩ hu
  | @tup a xs ds h al =>
    cases (show v = .ref a from r)
    obtain ⟨_, its, rv, ho⟩ := (show ObjOk X.prog X.w H s.heap a (.tup xs) from I.hok a _ h)
    exact SeqAt.RcAt.tuple_str y u ho hu
  | @dct a kvs es h nd ek al =>
    cases (show v = .ref a from r)
    obtain ⟨_, _, vs, rel, ⟨oc, od, odt, osl⟩, des, ep, ho, hx, hd, _⟩ := (show ObjOk X.prog X.w H s.heap a (.dK kvs) from I.hok a _ h)
    obtain ⟨x1, x2, x3⟩ := hx
    dsimp only at x1 x2 x3 hd
    subst x1 x2 x3 hd
    exact rcDictStr y u ho hu
end
section
variable {X : Cx}
/-- x == 'text', x any data -/
theorem op_eqS (hu : X.A.units + 1 < cLine) : OpR X (compareOp .Eq) (fun x y H Q => ∃ d z, Tr H x d ∧ y = .str z ∧ Q (.bl (strIs z d)) H) := by
  intro pz s σ H x y v u Q I rx ry h
  obtain ⟨d, z, t, rfl, q⟩ := h
  obtain ⟨k, e⟩ := (show ∃ k, u = .str z k from ry)
  cases e
  exact t.rcStr I rx (by omega) z k X.prog X.w X.xe _ ⟨.bl _, H, I, rfl, q⟩
theorem anyStr {e : Value → Bool} {f : Str → Bool} (h : ∀ z k, e (.str z k) = f z) : ∀ {zs : List Str} {us : List Value}, Vals (zs.map V.str) us → us.any e = zs.any f
  | [], _, .nil => rfl
  | z :: zs, _, .cons r t => by
    obtain ⟨k, e1⟩ := (show ∃ k, _ = Value.str z k from r)
    cases e1
    rw [List.any_cons, List.any_cons, h, anyStr h t]
/-- a text's sake: the answer of a text beside the data -/
def isS (d : PyData) : Value → Bool
  | .str z _ => strIs z d
  | _ => false
theorem memStr {zs : List Str} {us : List Value} (r : Vals (zs.map V.str) us) {y : Value} (h : y ∈ us) : ∃ z k, y = .str z k := by
  induction zs generalizing us with
  | nil => cases r; cases h
  | cons z zs ih =>
    cases r with
    | cons r t =>
      rcases List.mem_cons.mp h with e | h
      · subst e
        obtain ⟨k, e1⟩ := (show ∃ k, y = Value.str z k from r)
        exact ⟨z, k, e1⟩
      · exact ih t h
/-- x in (texts), x any data -/
theorem op_inS (hu : X.A.units + 1 < cLine) : OpR X (compareOp .In) (fun x y H Q => ∃ (d : PyData) (a : Addr) (zs : List Str), Tr H x d ∧ y = .ref a ∧ (SqL X.K H a (zs.map V.str) ∨ SqT X.K H a (zs.map V.str)) ∧ Q (.bl (zs.any fun z => strIs z d)) H) := by
  intro pz s σ H x y v u Q I rx ry h
  obtain ⟨d, a, zs, t, rfl, hs, q⟩ := h
  cases (show u = .ref a from ry)
  rcases hs with hs | hs
  · obtain ⟨its, rv, pl, _⟩ := I.list hs
    refine SeqAt.in_listAt (isS d) pl.isList (fun y hy => ?_) ⟨.bl _, H, I, ?_, q⟩
    · obtain ⟨z, k, rfl⟩ := memStr rv (by simpa using hy)
      exact t.eqStr I rx (by show X.A.units + 1 < cLine; omega) z k
    · show Value.bool _ = Value.bool _
      rw [List.any_toArray, anyStr (e := isS d) (f := fun z => strIs z d) (fun _ _ => rfl) rv]
  · obtain ⟨its, rv, pl, _⟩ := I.tuple hs
    refine SeqAt.in_tupleAt (isS d) pl (fun y hy => ?_) ⟨.bl _, H, I, ?_, q⟩
    · obtain ⟨z, k, rfl⟩ := memStr rv (by simpa using hy)
      exact t.eqStr I rx (by show X.A.units + 1 < cLine; omega) z k
    · show Value.bool _ = Value.bool _
      rw [List.any_toArray, anyStr (e := isS d) (f := fun z => strIs z d) (fun _ _ => rfl) rv]
theorem op_notInS (hu : X.A.units + 1 < cLine) : OpR X (compareOp .NotIn) (fun x y H Q => ∃ (d : PyData) (a : Addr) (zs : List Str), Tr H x d ∧ y = .ref a ∧ (SqL X.K H a (zs.map V.str) ∨ SqT X.K H a (zs.map V.str)) ∧ Q (.bl (!zs.any fun z => strIs z d)) H) := by
  intro pz s σ H x y v u Q I rx ry h
  obtain ⟨d, a, zs, t, rfl, hs, q⟩ := h
  cases (show u = .ref a from ry)
  rcases hs with hs | hs
  · obtain ⟨its, rv, pl, _⟩ := I.list hs
    refine SeqAt.notIn_listAt (isS d) pl.isList (fun y hy => ?_) ⟨.bl _, H, I, ?_, q⟩
    · obtain ⟨z, k, rfl⟩ := memStr rv (by simpa using hy)
      exact t.eqStr I rx (by show X.A.units + 1 < cLine; omega) z k
    · show Value.bool _ = Value.bool _
      rw [List.any_toArray, anyStr (e := isS d) (f := fun z => strIs z d) (fun _ _ => rfl) rv]
  · obtain ⟨its, rv, pl, _⟩ := I.tuple hs
    refine SeqAt.notIn_tupleAt (isS d) pl (fun y hy => ?_) ⟨.bl _, H, I, ?_, q⟩
    · obtain ⟨z, k, rfl⟩ := memStr rv (by simpa using hy)
      exact t.eqStr I rx (by show X.A.units + 1 < cLine; omega) z k
    · show Value.bool _ = Value.bool _
      rw [List.any_toArray, anyStr (e := isS d) (f := fun z => strIs z d) (fun _ _ => rfl) rv]
end
end Pk
/-! ### repr of any data -/
namespace Pk
open PySem L2 PySem.Spec PyProof.Rows
section
variable {X : Cx} {pz : List (Addr × Obj)} {σ : L2.St} {H : Hp} {s : Shared}
mutual
theorem Tr.reprK (I : L2.Inv X pz σ H s) : ∀ {x : V} {d : PyData}, Tr H x d → ∀ v : Value, RelV x v → d.showable = true → d.shown.length ≤ sizeLine → ∃ bs, ReadAtMost s.heap d.depth bs ∧ ReprK X.prog X.w bs s.heap d.depth v d.shown
  | _, _, .non, v, r, _, _ => by
    cases (show v = .none from r)
    exact ⟨[], (fun _ h => nomatch h), by simp only [PyData.shown]; exact .of_is ReprIs.none _ _ _⟩
  | _, _, .bl b, v, r, _, _ => by
    cases (show v = .bool b from r)
    exact ⟨[], (fun _ h => nomatch h), by simp only [PyData.shown]; exact .of_is (ReprIs.bool b) _ _ _⟩
  | _, _, .int i, v, r, hs, _ => by
    obtain ⟨k, e⟩ := (show ∃ k, v = .int i k from r)
    cases e
    exact ⟨[], (fun _ h => nomatch h), by simp only [PyData.shown]; exact .of_is (ReprIs.int k (by simpa [PyData.showable] using hs)) _ _ _⟩
  | _, _, .str z, v, r, _, hz => by
    obtain ⟨k, e⟩ := (show ∃ k, v = .str z k from r)
    cases e
    exact ⟨[], (fun _ h => nomatch h), by simp only [PyData.shown]; exact .of_is (ReprIs.str z k (by simpa only [PyData.shown] using hz)) _ _ _⟩
  | _, _, @Tr.lst _ a xs ds h al, v, r, hs, hz => by
    cases (show v = .ref a from r)
    obtain ⟨_, its, n, rv, ho⟩ := (show ObjOk X.prog X.w H s.heap a (.lst xs) from I.hok a _ h)
    have zl : (listText (PyData.shownAll ds)).length ≤ sizeLine := by simpa only [PyData.shown] using hz
    obtain ⟨bs, hb, hk⟩ := TrAll.reprK I al its rv (by simpa [PyData.showable] using hs) (fun t ht => Nat.le_trans (listText_mem_le ht) zl)
    obtain ⟨as, r4⟩ := TrAll.reads I al its rv
    have r0 : Reads s.heap (.ref a) (.list ds) _ := .list ho rfl rfl (by simpa using r4)
    have na : a ∉ bs := not_mem_of_deeper r0 (by simp only [PyData.depth]; omega) hb
    refine ⟨a :: bs, ReadAtMost.cons r0 (by simp only [PyData.depth]; omega) hb, ?_⟩
    simp only [PyData.depth, PyData.shown]
    cases its with
    | nil =>
      cases r4
      simp only [PyData.shownAll, listText_nil]
      exact ReprK.listEmpty ho rfl rfl
    | cons y l => exact ReprK.list ho rfl rfl na (by simpa using hk.length_eq) (fun i y e => hk.item i y (by simpa using e))
  | _, _, @Tr.tup _ a xs ds h al, v, r, hs, hz => by
    cases (show v = .ref a from r)
    obtain ⟨_, its, rv, o, ho, hc, n, hd⟩ := (show ObjOk X.prog X.w H s.heap a (.tup xs) from I.hok a _ h)
    have zl : (tupleText (PyData.shownAll ds)).length ≤ sizeLine := by simpa only [PyData.shown] using hz
    obtain ⟨bs, hb, hk⟩ := TrAll.reprK I al its rv (by simpa [PyData.showable] using hs) (fun t ht => Nat.le_trans (tupleText_mem_le ht) zl)
    obtain ⟨as, r4⟩ := TrAll.reads I al its rv
    have r0 : Reads s.heap (.ref a) (.tuple ds) _ := .tuple ho hc hd (by simpa using r4)
    have na : a ∉ bs := not_mem_of_deeper r0 (by simp only [PyData.depth]; omega) hb
    refine ⟨a :: bs, ReadAtMost.cons r0 (by simp only [PyData.depth]; omega) hb, ?_⟩
    simp only [PyData.depth, PyData.shown]
    exact ReprK.tuple ho hc hd na (by simpa using hk)
  | _, _, @Tr.dct _ a kvs es h nd ek al, v, r, hs, hz => by
    cases (show v = .ref a from r)
    obtain ⟨_, hsys, vs, rel, o, des, ep, ho, hx, hd, _, pr, _⟩ := (show ObjOk X.prog X.w H s.heap a (.dK kvs) from I.hok a _ h)
    have zl : (dictText (PyData.shownKv es)).length ≤ sizeLine := by simpa only [PyData.shown] using hz
    obtain ⟨hs1, hs2⟩ := PyData.showableKv_split es (by simpa [PyData.showable] using hs)
    have r1 : ReadsAll s.heap (des.toList.map (·.key)) (es.map (·.1)) [] := by rw [ek]; exact reads_keys pr rel
    obtain ⟨b1, hb1, k1⟩ := ReprAllK.of_readsAll (prog := X.prog) (w := X.w) r1 hs1 (fun _ z => by cases z) (fun t ht => let ⟨p, hp, hl⟩ := PyData.shownKv_key_le es t ht; Nat.le_trans hl (Nat.le_trans (dictText_mem_le hp) zl))
    obtain ⟨b2, hb2, k2⟩ := TrAll.reprK I al _ (vals_of_pairs pr rel) hs2 (fun t ht => let ⟨p, hp, hl⟩ := PyData.shownKv_val_le es t ht; Nat.le_trans hl (Nat.le_trans (dictText_mem_le hp) zl))
    obtain ⟨as, r2⟩ := TrAll.reads I al _ (vals_of_pairs pr rel)
    have r0 : Reads s.heap (.ref a) (.dict es) _ := .dict ho hx.1 hd r1 r2
    have hb : ReadAtMost s.heap (PyData.depthKv es) (b1 ++ b2) := (hb1.mono (PyData.depthAll_keys_le es)).append (hb2.mono (PyData.depthAll_vals_le es))
    have na : a ∉ b1 ++ b2 := not_mem_of_deeper r0 (by simp only [PyData.depth]; omega) hb
    refine ⟨a :: (b1 ++ b2), ReadAtMost.cons r0 (by simp only [PyData.depth]; omega) hb, ?_⟩
    simp only [PyData.depth, PyData.shown, PyData.shownKv_eq]
    exact ReprK.dict ho hx.1 hd hsys na (ReprEntriesK.of_two des.toList _ _ (k1.more_le (fun b hb => List.mem_append_left _ hb) (PyData.depthAll_keys_le es)) (k2.more_le (fun b hb => List.mem_append_right _ hb) (PyData.depthAll_vals_le es)))
theorem TrAll.reprK (I : L2.Inv X pz σ H s) : ∀ {xs : List V} {ds : List PyData}, TrAll H xs ds → ∀ us : List Value, Vals xs us → PyData.showableAll ds = true → (∀ t ∈ PyData.shownAll ds, t.length ≤ sizeLine) →
    ∃ bs, ReadAtMost s.heap (PyData.depthAll ds) bs ∧ ReprAllK X.prog X.w bs s.heap (PyData.depthAll ds) us (PyData.shownAll ds)
  | _, _, .nil, us, r, _, _ => by
    cases r
    exact ⟨[], (fun _ h => nomatch h), by simp only [PyData.shownAll]; exact .nil⟩
  | _, _, @TrAll.cons _ x xs d ds h t, us, r, hs, hz => by
    cases r with
    | cons ra rb =>
      have hs' : d.showable = true ∧ PyData.showableAll ds = true := by simpa [PyData.showableAll] using hs
      obtain ⟨b1, hb1, k1⟩ := Tr.reprK I h _ ra hs'.1 (hz _ (by simp only [PyData.shownAll]; exact List.mem_cons_self ..))
      obtain ⟨b2, hb2, k2⟩ := TrAll.reprK I t _ rb hs'.2 (fun y hy => hz y (by simp only [PyData.shownAll]; exact List.mem_cons_of_mem _ hy))
      refine ⟨b1 ++ b2, ?_, ?_⟩
      · simp only [PyData.depthAll]
        exact (hb1.mono (Nat.le_max_left _ _)).append (hb2.mono (Nat.le_max_right _ _))
      · simp only [PyData.depthAll, PyData.shownAll]
        exact .cons ((k1.more fun b hb => List.mem_append_left _ hb).level_le (Nat.le_max_left _ _)) (k2.more_le (fun b hb => List.mem_append_right _ hb) (Nat.le_max_right _ _))
end
end
end Pk
namespace Pk
open PySem L2 PySem.Spec PyProof.Rows
/-- repr(x), x any data -/
theorem call_reprT {X : Cx} (hg : X.A.guards = some []) (hu : X.A.units + 100 < cLine) : CallR X (.builtin "repr") (fun xs H Q => ∃ (x : V) (d : PyData), xs = [x] ∧ Tr H x d ∧ d.showable = true ∧ d.depth ≤ 60 ∧ d.shown.length ≤ sizeLine ∧ Q (.str d.shown) H) := by
  intro pz s σ H xs us Q I r h
  obtain ⟨x, d, rfl, t, hs, hdep, hz, q⟩ := h
  cases r with
  | cons r1 r2 =>
  cases r2
  rename_i v
  have fin : ∀ (h' : Heap) (u tk : Tok), (∀ b o, s.heap.get? b = some o → h'.get? b = some o) → EP X pz σ Q (.str d.shown u) { s with heap := h', toks := tk } := fun h' u tk k => ⟨.str _, H, I.kept (t' := tk) k, ⟨u, rfl⟩, q⟩
  have fin0 : ∀ (u tk : Tok), EP X pz σ Q (.str d.shown u) { s with toks := tk } := fun u tk => fin s.heap u tk fun _ _ e => e
  cases t with
  | non =>
    cases (show v = .none from r1)
    simp only [PyData.shown] at fin0
    exact P.repr_of_none (fin0 _ _)
  | bl b =>
    cases (show v = .bool b from r1)
    simp only [PyData.shown] at fin0
    exact P.repr_of_bool (fin0 _ _)
  | int i =>
    obtain ⟨k, e⟩ := (show ∃ k, v = .int i k from r1)
    cases e
    simp only [PyData.shown] at fin0
    exact P.repr_of_int (by simpa [PyData.showable] using hs) (fin0 _ _)
  | str z =>
    obtain ⟨k, e⟩ := (show ∃ k, v = .str z k from r1)
    cases e
    simp only [PyData.shown] at fin0 hz
    exact P.repr_of_str (fin0 _ _) hz
  | @lst a xs ds h al =>
    cases (show v = .ref a from r1)
    obtain ⟨_, its, n, rv, ho⟩ := (show ObjOk X.prog X.w H s.heap a (.lst xs) from I.hok a _ h)
    have zl : (listText (PyData.shownAll ds)).length ≤ sizeLine := by simpa only [PyData.shown] using hz
    obtain ⟨bs, hb, hk⟩ := TrAll.reprK I al its rv (by simpa [PyData.showable] using hs) (fun t ht => Nat.le_trans (listText_mem_le ht) zl)
    obtain ⟨as, r4⟩ := TrAll.reads I al its rv
    have r0 : Reads s.heap (.ref a) (.list ds) _ := .list ho rfl rfl (by simpa using r4)
    have na : a ∉ bs := not_mem_of_deeper r0 (by simp only [PyData.depth]; omega) hb
    simp only [PyData.depth] at hdep
    simp only [PyData.shown] at fin
    refine call_repr_slot (by omega) ⟨_, ho, rfl⟩ F.slot_list_repr.toG ?_
    cases its with
    | nil =>
      cases r4
      simp only [listText_nil, PyData.shownAll] at fin
      exact call_list_repr_empty ⟨_, ho, rfl⟩ ho rfl ⟨_, _, rfl, fin s.heap _ _ fun _ _ e => e⟩
    | cons y l =>
      exact call_list_reprK (h₀ := s.heap) ho rfl rfl na (by simpa using hk.length_eq) (fun i y e => hk.item i y (by simpa using e)) hg (fun b _ => Clear.nil b) (by show X.A.units + 1 + (PyData.depthAll ds + 1) < cLine; omega) (fun _ _ e => e) (fun h' u tk k => ⟨_, _, rfl, fin h' u tk k⟩) zl
  | @tup a xs ds h al =>
    cases (show v = .ref a from r1)
    obtain ⟨_, its, rv, o, ho, hc, n, hd⟩ := (show ObjOk X.prog X.w H s.heap a (.tup xs) from I.hok a _ h)
    have zl : (tupleText (PyData.shownAll ds)).length ≤ sizeLine := by simpa only [PyData.shown] using hz
    obtain ⟨bs, hb, hk⟩ := TrAll.reprK I al its rv (by simpa [PyData.showable] using hs) (fun t ht => Nat.le_trans (tupleText_mem_le ht) zl)
    obtain ⟨as, r4⟩ := TrAll.reads I al its rv
    have r0 : Reads s.heap (.ref a) (.tuple ds) _ := .tuple ho hc hd (by simpa using r4)
    have na : a ∉ bs := not_mem_of_deeper r0 (by simp only [PyData.depth]; omega) hb
    simp only [PyData.depth] at hdep
    simp only [PyData.shown] at fin
    refine call_repr_slot (by omega) ⟨_, ho, hc⟩ F.slot_tuple_repr ?_
    exact call_tuple_reprK (h₀ := s.heap) ho hc hd na (by simpa using hk) hg (fun b _ => Clear.nil b) (by show X.A.units + 1 + (PyData.depthAll ds + 1) < cLine; omega) (fun _ _ e => e) (fun h' u tk k => ⟨_, _, rfl, fin h' u tk k⟩) zl
  | @dct a kvs es h nd ek al =>
    cases (show v = .ref a from r1)
    obtain ⟨_, hsys, vs, rel, o, des, ep, ho, hx, hd, _, pr, _⟩ := (show ObjOk X.prog X.w H s.heap a (.dK kvs) from I.hok a _ h)
    have zl : (dictText (PyData.shownKv es)).length ≤ sizeLine := by simpa only [PyData.shown] using hz
    obtain ⟨hs1, hs2⟩ := PyData.showableKv_split es (by simpa [PyData.showable] using hs)
    have rk : ReadsAll s.heap (des.toList.map (·.key)) (es.map (·.1)) [] := by rw [ek]; exact reads_keys pr rel
    obtain ⟨b1, hb1, k1⟩ := ReprAllK.of_readsAll (prog := X.prog) (w := X.w) rk hs1 (fun _ z => by cases z) (fun t ht => let ⟨p, hp, hl⟩ := PyData.shownKv_key_le es t ht; Nat.le_trans hl (Nat.le_trans (dictText_mem_le hp) zl))
    obtain ⟨b2, hb2, k2⟩ := TrAll.reprK I al _ (vals_of_pairs pr rel) hs2 (fun t ht => let ⟨p, hp, hl⟩ := PyData.shownKv_val_le es t ht; Nat.le_trans hl (Nat.le_trans (dictText_mem_le hp) zl))
    obtain ⟨as, r2⟩ := TrAll.reads I al _ (vals_of_pairs pr rel)
    have r0 : Reads s.heap (.ref a) (.dict es) _ := .dict ho hx.1 hd rk r2
    have hb : ReadAtMost s.heap (PyData.depthKv es) (b1 ++ b2) := (hb1.mono (PyData.depthAll_keys_le es)).append (hb2.mono (PyData.depthAll_vals_le es))
    have na : a ∉ b1 ++ b2 := not_mem_of_deeper r0 (by simp only [PyData.depth]; omega) hb
    simp only [PyData.depth] at hdep
    simp only [PyData.shown, PyData.shownKv_eq] at fin
    refine call_repr_slot (by omega) ⟨_, ho, hx.1⟩ F.slot_dict_repr ?_
    exact call_dict_reprK (h₀ := s.heap) ho hx.1 hd hsys na (ReprEntriesK.of_two des.toList _ _ (k1.more_le (fun b hb => List.mem_append_left _ hb) (PyData.depthAll_keys_le es)) (k2.more_le (fun b hb => List.mem_append_right _ hb) (PyData.depthAll_vals_le es)))
      hg (fun b _ => Clear.nil b) (by show X.A.units + 1 + (PyData.depthKv es + 1) < cLine; omega) (fun _ _ e => e) (fun h' u tk k => ⟨_, _, rfl, fin h' u tk k⟩) (by rw [← PyData.shownKv_eq]; exact zl)
/-! ### kinds -/
/-- the type's name -/
def tyD : PyData → String
  | .none => "NoneType"
  | .bool _ => "bool"
  | .int _ => "int"
  | .str _ => "str"
  | .list _ => "list"
  | .tuple _ => "tuple"
  | .dict _ => "dict"
theorem Tr.ty {K : PySem.W.Frag} {H : Hp} {x : V} {d : PyData} (t : Tr H x d) : TyX K H x (.type (tyD d)) := by
  cases t with
  | non => exact .base .non
  | bl b => exact .base (.bl b)
  | int i => exact .base (.int i)
  | str z => exact .base (.str z)
  | lst h _ => exact .base (.lst h)
  | tup h _ => exact .base (.tup h)
  | dct h _ _ _ => exact .base (.dK h)
/-- the answers of isinstance for the kinds of data -/
def isB : PyData → Bool
  | .bool _ => true
  | _ => false
def isI : PyData → Bool
  | .bool _ => true
  | .int _ => true
  | _ => false
def isStr : PyData → Bool
  | .str _ => true
  | _ => false
def isTup : PyData → Bool
  | .tuple _ => true
  | _ => false
def isLst : PyData → Bool
  | .list _ => true
  | _ => false
theorem kB : ∀ d : PyData, kitB (tyD d) "bool" = some (isB d) := by intro d; cases d <;> (simp only [tyD, isB]; decide +kernel)
theorem kI : ∀ d : PyData, kitB (tyD d) "int" = some (isI d) := by intro d; cases d <;> (simp only [tyD, isI]; decide +kernel)
theorem kS : ∀ d : PyData, kitB (tyD d) "str" = some (isStr d) := by intro d; cases d <;> (simp only [tyD, isStr]; decide +kernel)
theorem kT : ∀ d : PyData, kitB (tyD d) "tuple" = some (isTup d) := by intro d; cases d <;> (simp only [tyD, isTup]; decide +kernel)
theorem kL : ∀ d : PyData, kitB (tyD d) "list" = some (isLst d) := by intro d; cases d <;> (simp only [tyD, isLst]; decide +kernel)
/-- isinstance(e, T) -/
theorem call_isT {X : Cx} : CallR X (.builtin "isinstance") (fun xs H Q => ∃ (x : V) (T : String) (d : PyData) (g : PyData → Bool), xs = [x, .ty T] ∧ (∀ d, kitB (tyD d) T = some (g d)) ∧ Tr H x d ∧ Q (.bl (g d)) H) := by
  intro pz s σ H xs us Q I r h
  obtain ⟨x, T, d, g, rfl, hk, t, q⟩ := h
  exact call_isi pz s σ H _ us Q I r ⟨x, .ty T, _, _, _, rfl, .ty T, t.ty, kit_ty (hk d), q⟩
end Pk
/-! enumerate(a tuple) -/
namespace Pk
open PySem PySem.AutoSeq1
section
variable {prog : Program} {w : World} {A : Around} {E : Value → Shared → Prop} {s : Shared} {q t : Addr} {i : Nat} {its : Array Value}
theorem tupNext {x : Value} {Q : Value → Shared → Prop} (hq : s.heap.IsTupleIter q t i) (ht : s.heap.IsTuple t its) (hx : its[i]? = some x)
    (k : ∀ hz, hz.IsTupleIter q t (i + 1) → Heap.SameBut q s.heap hz → Q x { s with heap := hz }) : wpAny (model prog w) A (Builtin.SmallTypes.nextOf (.ref q)) Q E s := by
  obtain ⟨ob, g1, g2, g3⟩ := id hq
  obtain ⟨ot, g4, _, nt, g5⟩ := ht
  unfold Builtin.SmallTypes.nextOf
  refine wpAny_bind (wpAny_callSpecial?_slot (name := Str.ofString "__next__") hq.typeIs F.slot_tuple_iterator_next (wpAny_call_entry F.slot_tuple_iterator_next hq.typeIs F.entry_tuple_iterator_next ?_ (F.args_tuple_iterator_next_1 _)))
  show wpAny _ _ (field (.ref q) 0 >>= _) _ _ s
  refine wpAny_bind (wpAny_field g1 g3 (x := .ref t) rfl ?_)
  show wpAny _ _ (if (Value.ref t == Value.none) = true then _ else _) _ _ s
  rw [if_neg (show ¬ ((Value.ref t == Value.none) = true) from Bool.false_ne_true)]
  show wpAny _ _ (field (.ref q) 1 >>= _) _ _ s
  refine wpAny_bind (wpAny_field g1 g3 (x := .int i 0) rfl ?_)
  show wpAny _ _ (seqItems? (.ref t) >>= _) _ _ s
  refine wpAny_bind (wpAny_seqItems g4 g5 ?_)
  simp only [Int.toNat_natCast, hx]
  refine wpAny_bind (wpAny_setField g1 g3 (by simp) (wpAny_pure ⟨x, rfl, wpAny_pure (k _ ?_ (Heap.SameBut.update ..))⟩))
  exact ⟨_, Heap.get?_update_self _ g1 (Obj.isFreed_of_fields (Obj.data_mapFields g3 _)), (Obj.cls_mapFields ..).trans g2, by rw [Obj.data_mapFields g3]; simp [rawInt]⟩
theorem tupDone {Q : Value → Shared → Prop} (hh : A.handled = none) (hq : s.heap.IsTupleIter q t i) (ht : s.heap.IsTuple t its) (hx : its[i]? = none)
    (k : ∀ hz e, Heap.ExtBut q s.heap hz → (∃ o, hz.get? e = some o ∧ o.cls = .type "StopIteration") → E (.ref e) { s with heap := hz }) : wpAny (model prog w) A (Builtin.SmallTypes.nextOf (.ref q)) Q E s := by
  obtain ⟨ob, g1, g2, g3⟩ := id hq
  obtain ⟨ot, g4, _, nt, g5⟩ := ht
  unfold Builtin.SmallTypes.nextOf
  refine wpAny_bind (wpAny_callSpecial?_slot (name := Str.ofString "__next__") hq.typeIs F.slot_tuple_iterator_next (wpAny_call_entry F.slot_tuple_iterator_next hq.typeIs F.entry_tuple_iterator_next ?_ (F.args_tuple_iterator_next_1 _)))
  show wpAny _ _ (field (.ref q) 0 >>= _) _ _ s
  refine wpAny_bind (wpAny_field g1 g3 (x := .ref t) rfl ?_)
  show wpAny _ _ (if (Value.ref t == Value.none) = true then _ else _) _ _ s
  rw [if_neg (show ¬ ((Value.ref t == Value.none) = true) from Bool.false_ne_true)]
  show wpAny _ _ (field (.ref q) 1 >>= _) _ _ s
  refine wpAny_bind (wpAny_field g1 g3 (x := .int i 0) rfl ?_)
  show wpAny _ _ (seqItems? (.ref t) >>= _) _ _ s
  refine wpAny_bind (wpAny_seqItems g4 g5 ?_)
  simp only [Int.toNat_natCast, hx]
  refine wpAny_bind (wpAny_rule (wpAny_bind (wpAny_setField g1 g3 (by simp) ?_)))
  show wpAny _ _ (newExc (.type "StopIteration") [] >>= _) _ _ _
  refine wpAny_bind ?_
  simp only [newExc, newTuple]
  refine wpAny_bind (wpAny_newObj_type ?_ (by size_fits))
  refine wpAny_bind (m := firstArgMember _ _) (wpAny_of_eq (a := Value.none) (by first | rfl | (simp only [firstArgMember]; rfl)) ?_)
  refine wpAny_newObj_type ?_ (by size_fits)
  simp only [raiseNew]
  refine wpAny_bind (wpAny_handled ?_)
  first | rw [show A.in1.handled = none from hh] | rw [hh]
  refine wpAny_bind (wpAny_pure (wpAny_throw ?_))
  exact k _ _ (((Heap.SameBut.update ..).extBut.push _).push _) ⟨_, Heap.get?_push_size _ rfl, rfl⟩
end
theorem drawsTup {prog : Program} {w : World} {A : Around} (hh : A.handled = none) (q t : Addr) (hne : t ≠ q) (its : Array Value) : Draws prog w A q [q, t] its.size (fun i v => its[i]? = some v) (fun i h => h.IsTupleIter q t i ∧ h.IsTuple t its) where
  live := fun _ _ z => let ⟨o, ho, _⟩ := z.1; ⟨o, ho⟩
  frame := fun _ _ _ z hk => ⟨z.1.at fun o e => hk q (by simp) o e, let ⟨o, ho, r⟩ := z.2; ⟨o, hk t (by simp) o ho, r⟩⟩
  item := fun i s Q E hi z k => by
    refine tupNext z.1 z.2 (x := its[i]) (by simp [hi]) fun hz h1 h2 => ?_
    exact k _ hz s.toks (by simp [hi]) ⟨h1, let ⟨o, ho, r⟩ := z.2; ⟨o, (h2.2 t hne).trans ho, r⟩⟩ h2
  done := fun s Q E z k => tupDone hh z.1 z.2 (by simp) k
set_option maxHeartbeats 1000000 in
theorem enumNewTup (l : Addr) (its : Array Value) (n : Nat) (dd : Option Addr) (sl : Array (Option Value)) :
    Meets (Builtin.«enumerate.__new__» ⟨[.type "enumerate", .ref l], []⟩) (fun _ R s => s.heap.get? l = some { cls := .type "tuple", dict := dd, data := .seq its n, slots := sl } ∧
      R (.ok (.ret (.ref (s.heap.push { cls := .type "tuple_iterator", data := .fields #[.ref l, .int 0 0] }).objs.size)))
        { s with heap := (s.heap.push { cls := .type "tuple_iterator", data := .fields #[.ref l, .int 0 0] }).push { cls := .type "enumerate", data := .fields #[.none, .bool false, .ref s.heap.objs.size, rawInt 0, .none, .none] } }) :=
  .of_wp fun prog w A R s h => by
    obtain ⟨hp, g, d, tk, os⟩ := s
    obtain ⟨hl, h⟩ := h
    have hsub := sub_enumerate
    have hL : Heap.IsTuple (Shared.heap ⟨hp, g, d, tk, os⟩) l its := ⟨_, hl, rfl, n, rfl⟩
    wp_walk using wpAny_loadPart' hl
    refine wpAny_stack_any fun st => wpAny_pure ?_
    split
    · rename_i c _ _ _ _ _
      cases (c == Value.type "enumerate")
      · wp_walk using wpAny_loadPart' hl, wpAny_pyIter_tuple hL
        exact ⟨_, rfl, h⟩
      · wp_walk using wpAny_loadPart' hl, wpAny_pyIter_tuple hL
        exact ⟨_, rfl, h⟩
    · wp_walk using wpAny_loadPart' hl, wpAny_pyIter_tuple hL
      exact ⟨_, rfl, h⟩
theorem callEnumTup {prog : Program} {w : World} {A : Around} {E : Value → Shared → Prop} {s : Shared} {l : Addr} {its : Array Value} {Q : Value → Shared → Prop} (hL : s.heap.IsTuple l its)
    (k : ∀ hz, IsEnum hz (s.heap.objs.size + 1) s.heap.objs.size 0 .none → hz.IsTupleIter s.heap.objs.size l 0 → (∀ b o, s.heap.get? b = some o → hz.get? b = some o) → Q (.ref (s.heap.objs.size + 1)) { s with heap := hz }) :
    wpAny (model prog w) A (call (.type "enumerate") [.ref l]) Q E s := by
  obtain ⟨⟨c, dd, dt, sl⟩, hl, hc, n, hd⟩ := hL
  dsimp only at hc hd
  subst hc hd
  refine callType_new F.called_enumerate (by decide) (F.typeCall_enumerate_1 _) (F.newCall_enumerate_1 _) (fun obj => F.args_object_init_2 obj _) F.entry_enumerate_new (enumNewTup l its n dd sl) ⟨hl, ?_⟩
  have z1 : (s.heap.push { cls := .type "tuple_iterator", data := .fields #[.ref l, .int 0 0] }).objs.size = s.heap.objs.size + 1 := Heap.size_push ..
  show _ ∧ _
  rw [z1]
  have he : IsEnum ((s.heap.push { cls := .type "tuple_iterator", data := .fields #[.ref l, .int 0 0] }).push { cls := .type "enumerate", data := .fields #[.none, .bool false, .ref s.heap.objs.size, rawInt 0, .none, .none] }) (s.heap.objs.size + 1) s.heap.objs.size 0 .none := by
    have z2 := Heap.get?_push_size (s.heap.push { cls := .type "tuple_iterator", data := .fields #[.ref l, .int 0 0] }) (o := { cls := .type "enumerate", data := .fields #[.none, .bool false, .ref s.heap.objs.size, rawInt 0, .none, .none] }) rfl
    rw [z1] at z2
    exact z2
  exact ⟨⟨_, he, rfl⟩, k _ he ⟨_, Heap.get?_push_of_some _ (Heap.get?_push_size _ rfl), rfl, rfl⟩ fun b o x => Heap.get?_push_of_some _ (Heap.get?_push_of_some _ x)⟩
end Pk
namespace Pk
open PySem L2 PySem.Spec PyProof.Rows
/-- the items of the tuple at a, each with its number in a new pair -/
def IteT (K : PySem.W.Frag) (a : Addr) : It :=
  ⟨fun i H => ∃ (xs : List V) (x : V), SqT K H a xs ∧ xs[i]? = some x, fun i H v H' => ∃ T x, v = .ref T ∧ H T = none ∧ H' = upd H T (.tup [.int (i : Nat), x]) ∧ ∀ xs, SqT K H a xs → xs[i]? = some x, fun i H => ∃ xs : List V, SqT K H a xs ∧ xs.length ≤ i⟩
theorem turnEnumT {P : Program} {w : World} {K : PySem.W.Frag} {elts : List Expr} {kk : Nat} {tp : Pos} (a e it : Addr) :
    Turn P w K (.Tuple elts kk tp) (IteT K a) [e, it] e (fun i h => (∃ old, IsEnum h e it ((i : Nat) : Int) old) ∧ h.IsTupleIter it a i ∧ e ≠ it ∧ a ≠ it ∧ e ≠ a) where
  mem := by simp
  obj := fun i h z b hb => by
    obtain ⟨⟨old, he⟩, ⟨o, ho, hc, hd⟩, _⟩ := z
    rcases (show b = e ∨ b = it by simpa using hb) with y | y
    · rw [y]; exact ⟨_, he, fun v q => nomatch q⟩
    · rw [y]; exact ⟨o, ho, fun v q => by rw [hd] at q; cases q⟩
  keep := fun i h h' z k => let ⟨⟨old, he⟩, hi, hne⟩ := z; ⟨⟨old, k e (by simp) _ he⟩, hi.at fun o q => k it (by simp) o q, hne⟩
  item := by
    intro X hP hw hK hc i pz s σ H E I hf z hg
    subst hP hw hK
    obtain ⟨⟨old, he⟩, hit, hne, hai, hea⟩ := z
    obtain ⟨xs, x, hq, hx⟩ := hg
    obtain ⟨its, rv, p, hz⟩ := I.tuple hq
    obtain ⟨u, hu, ru⟩ := rv.get hx
    have l1 : e < s.heap.objs.size := Heap.lt_size he
    have l2 : it < s.heap.objs.size := by obtain ⟨_, y, _⟩ := hit; exact Heap.lt_size y
    have hlt : i < its.toArray.size := by
      have y := (List.getElem?_eq_some_iff.mp hu).1
      simpa using y
    refine wpAny_pyNext_enum_itemD (drawsTup (show X.A.in1.handled = none from I.ok.hd hc) it a hai its.toArray) he ⟨hit, p⟩ hlt hne (by simp; exact ⟨hne, hea⟩) fun y h' tk hy ho hs' hT hsz hk => ?_
    have eu : y = u := by
      have y1 : its.toArray[i]? = some u := by simpa using hu
      rw [hy] at y1
      exact Option.some.inj y1
    subst eu
    refine ⟨_, rfl, wpAny_letOwnedTupleGo_enum (s := { s with heap := h', toks := tk + 1 }) ho fun h'' he' sb => ?_⟩
    have hT2 : h''.get? s.heap.objs.size = some { cls := .type "tuple", data := .seq #[.int i tk, y] } := (sb.2 _ (Nat.ne_of_gt l1)).trans hT
    have new : ObjOk X.prog X.w (upd H s.heap.objs.size (.tup [.int (i : Nat), x])) h'' s.heap.objs.size (.tup [.int (i : Nat), x]) :=
      ⟨by show 2 ≤ sizeLine; decide, [.int i tk, y], .cons ⟨_, rfl⟩ (.cons ru .nil), ⟨_, hT2, rfl, _, rfl⟩⟩
    have Ia : L2.Inv X pz σ (upd H s.heap.objs.size (.tup [.int (i : Nat), x])) { s with heap := h'', toks := tk + 1 } :=
      I.turnedNew (ch := [e, it]) (fun b ob hb q => (sb.2 b (fun z => hb (by simp [z]))).trans (hk b ob (fun z => hb (by simp [z])) (fun z => hb (by simp [z])) q)) hf (Nat.le_refl _) new
    refine ⟨.ref s.heap.objs.size, _, Ia, rfl, ⟨_, x, rfl, I.hok.fresh (Nat.le_refl _), rfl, fun ys hy => by rw [I.tuple_inj hy hq]; exact hx⟩, ⟨⟨y, ?_⟩, hs'.1.at fun o q => (sb.2 it (Ne.symm hne)).trans q, hne, hai, hea⟩, fun b hb => ?_⟩
    · have y1 : ((i + 1 : Nat) : Int) = (i : Int) + 1 := by omega
      rw [y1]
      exact he'
    · have hb' : b < s.heap.objs.size := by
        rcases (show b = e ∨ b = it by simpa using hb) with z | z
        · rw [z]; exact l1
        · rw [z]; exact l2
      rw [upd_ne (Nat.ne_of_lt hb')]
      exact (hf b hb).1
  done := by
    intro X hP hw hK hc i pz s σ H E I hf z hg
    subst hP hw hK
    obtain ⟨⟨old, he⟩, hit, hne, hai, hea⟩ := z
    obtain ⟨xs, hq, hx⟩ := hg
    obtain ⟨its, rv, p, hz⟩ := I.tuple hq
    obtain ⟨f0, f1, f2, f3, f4, f5⟩ := hf it (by simp)
    have hl := rv.length
    have hT : s.TypeIs (.ref e) "enumerate" := ⟨_, he, rfl⟩
    unfold pyNext
    refine wpAny_bind (wpAny_attempt (wpAny_callSpecial?_slot (name := Str.ofString "__next__") hT F.slot_enumerate_next (wpAny_call_entry F.slot_enumerate_next hT F.entry_enumerate_next ?_ (F.args_enumerate_next_1 _))))
    show wpAny _ _ (field (.ref e) 2 >>= _) _ _ _
    refine wpAny_bind (wpAny_field he rfl (x := .ref it) rfl ?_)
    refine wpAny_bind (tupDone (show X.A.in1.handled = none from I.ok.hd hc) hit (show s.heap.IsTuple a its.toArray from p) (by simp; omega) fun h' x he' hx' => ?_)
    obtain ⟨o, ho, hcl⟩ := hx'
    refine wpAny_bind (wpAny_isInstance (T := "StopIteration") (b := true) ⟨o, ho, hcl⟩ isSubtype_stop ?_)
    exact wpAny_pure ⟨rfl, I.turned (t' := s.toks) (fun b o hb q => he' b o hb q) f0 f1 f3 f4 f5⟩
  self := fun A i s Q E z h => let ⟨⟨_, he⟩, _⟩ := z; wpAny_pyIter_enum he h
def iEnumT (K : PySem.W.Frag) (ta : TA) : TI := fun σ H R => ta σ H fun va Ha => ∃ a xs, va = [.ref a] ∧ SqT K Ha a xs ∧ R (IteT K a) Ha
theorem pi_enumT {X : Cx} {e : Expr} {ta : TA} {p pos tp : Pos} {elts : List Expr} {kk : Nat} (hg : Gl X "enumerate") (hm : X.mg "enumerate" = none) (ha : PA X [e] ta) (hs : starEach [e] X.env = [(false, eval e X.env)] := by rfl) :
    PI X (.Tuple elts kk tp) (.Call (.Name "enumerate" p) [e] [] pos) (iEnumT X.K ta) := by
  refine ⟨fun pz s σ H R I h => ?_⟩
  refine Call_ (ld_blt I hg hm boot_enumerate (PyProof.Rows.callWith_type1 (thn (ha.run pos pz s σ H _ I h) fun ua sa ⟨va, Ha, Ia, ra, qa⟩ => ?_) hs rfl))
  obtain ⟨a, xs, ex, hq, q⟩ := qa
  subst ex
  cases ra with
  | cons r rr =>
    cases rr
    cases (show _ = Value.ref a from r)
    obtain ⟨its, rv, p', hz⟩ := Ia.tuple hq
    have la : a < sa.heap.objs.size := by obtain ⟨_, y, _⟩ := p'; exact Heap.lt_size y
    refine callEnumTup p' fun hz' he hit hk => wpAny_pyIter_enum he ?_
    have Ib : L2.Inv X pz σ Ha { sa with heap := hz' } := Ia.kept (t' := sa.toks) hk
    refine ⟨sa.heap.objs.size + 1, [sa.heap.objs.size + 1, sa.heap.objs.size], _, _, Ha, rfl, Ib, turnEnumT a (sa.heap.objs.size + 1) sa.heap.objs.size, ⟨⟨.none, he⟩, hit, Nat.succ_ne_self _, Nat.ne_of_lt la, Nat.ne_of_gt (Nat.lt_succ_of_lt la)⟩, fun b hb => ?_, q⟩
    have hle : sa.heap.objs.size ≤ b := by
      rcases (show b = sa.heap.objs.size + 1 ∨ b = sa.heap.objs.size by simpa using hb) with z | z
      · rw [z]; exact Nat.le_succ _
      · rw [z]; exact Nat.le_refl _
    exact Ia.fpOk hle (Ia.hok.fresh hle)
end Pk
namespace Pk
open PySem L2 PySem.Spec PyProof.Rows GxR
/-- 'a' <= sign <= 'z' -/
def smallC (c : Nat) : Bool := decide (97 ≤ c) && decide (c ≤ 122)
theorem lt1 (a b : Nat) : decide (([a] : List Nat) < [b]) = decide (a < b) := by
  by_cases h : a < b
  · rw [decide_eq_true h]
    exact decide_eq_true (by simp [List.cons_lt_cons_iff, h])
  · rw [decide_eq_false h]
    exact decide_eq_false (by simp [List.cons_lt_cons_iff, h])
theorem elt_az {prog : Program} {w : World} {scope : Scope} {x : Str} {j1 j2 : Nat} {p1 p2 p3 p4 : Pos} (hk : scope.kind = .function) (hl : scope.names.lookup x = some .local) (hd : (x == ("__debug__" : Str)) = false := by decide) :
    EltP prog w scope x (.Compare (.Constant (.str "a") j1 p1) [.LtE, .LtE] [.Name x p2, .Constant (.str "z") j2 p3] p4) smallC := by
  intro cenv A' E' c t sz m hs hn hm
  have e1 : (!decide ((⟨#[c]⟩ : Str).cps.toList < ("a" : Str).cps.toList)) = decide (97 ≤ c) := by
    show (!decide ([c] < [97])) = decide (97 ≤ c)
    rw [lt1]
    by_cases h : c < 97
    · rw [decide_eq_true h, decide_eq_false (by omega)]; rfl
    · rw [decide_eq_false h, decide_eq_true (by omega)]; rfl
  have e2 : (!decide (("z" : Str).cps.toList < (⟨#[c]⟩ : Str).cps.toList)) = decide (c ≤ 122) := by
    show (!decide ([122] < [c])) = decide (c ≤ 122)
    rw [lt1]
    by_cases h : 122 < c
    · rw [decide_eq_true h, decide_eq_false (by omega)]; rfl
    · rw [decide_eq_false h, decide_eq_true (by omega)]; rfl
  refine Compare_chain (Calls.Constant_str (chain_link (wpAny_Name (wpAny_loadName_local (by rw [hs]; exact hk) (show cenv.scope.names.lookup x = some .local by rw [hs]; exact hl) hn hm ?_) hd))) (by with_unfolding_all rfl)
  refine PySem.P.le_str ?_
  rw [e1]
  refine wpAny_truthy_bool ?_
  cases h1 : decide (97 ≤ c) with
  | false => exact ite_ff ⟨by unfold smallC; rw [h1]; rfl, keeps_tok _ _⟩
  | true =>
    refine ite_tt (chain_last (Calls.Constant_str (PySem.P.le_str ?_)))
    rw [e2]
    exact ⟨by unfold smallC; rw [h1]; rfl, keeps_tok _ _⟩
/-! ### x in a tuple of data -/
section
variable {X : Cx}
theorem op_inDT (hu : X.A.units + 65 < cLine) : OpR X (compareOp .In) (fun x y H Q => ∃ (d : PyData) (ds : List PyData), Dp X.K H x d ∧ Dp X.K H y (.tuple ds) ∧ SeqAt.shaped d = true ∧ SeqAt.shaped (.tuple ds) = true ∧ Q (.bl (ds.any fun z => PyData.eqv z d)) H) := by
  intro pz s σ H x y v u Q I rx ry h
  obtain ⟨d, ds, hd, he, sd, se, q⟩ := h
  obtain ⟨as, r1⟩ := Dp.reads I d x v hd rx
  obtain ⟨bs, r2⟩ := Dp.reads I (.tuple ds) y u he ry
  exact SeqAt.in_tuple_reads r2 r1 (SeqAt.canLay_of_shaped se) (SeqAt.canLay_of_shaped sd) (room_in_shaped sd hu) ⟨.bl _, H, I, rfl, q⟩
end
end Pk
namespace Pk
open PySem L2 PySem.Spec PyProof.Rows
/-- the law's call from outside, with tables of code objects (cs: code object, its table) -/
theorem lawGT {P : Program} {w : World} {K : PySem.W.Frag} {mg mb : Str → Option Value} {k : Nat} {fa a : Addr} {cs : List (Addr × Addr)} {fd : FuncData} {x : Str} {sp : Sp} {sz : Shared} {va : List Value} {ns : List Int}
    (inK : K.In sz.heap) (hn : sz.heap.Ns mainGlobals mg) (hbn : sz.heap.Ns builtinsNs mb) (hbb : ∀ x : Str, x ≠ "__name__" → mb x = bootBuiltins x) (noL : sz.heap.NoLimit) (hgn : sz.gens = #[])
    (tabs : ∀ p ∈ cs, sz.heap.get? p.2 = some { cls := .none, data := .fields #[] }) (notK : ∀ p ∈ cs, K.lookup p.2 = none) (hds : ∀ p ∈ cs, PySem.W.CodeHd sz.heap p.1 p.2)
    (hbm : ∃ (bm : Addr) (ob : Obj), mg "__builtins__" = some (.ref bm) ∧ bm ≠ builtinsNs ∧ sz.heap.get? bm = some ob ∧ ob.cls = .type "module" ∧ ob.dict = some builtinsNs ∧ ob.data = .plain)
    (ha : sz.heap.get? a = some { cls := .type "list", data := .seq va.toArray }) (hi : IntsAre va ns) (hl : ns.length ≤ sizeLine) (hr : Room k callerA)
    (G : ∀ bs : Heap, K.In bs → bs.Ns mainGlobals mg → (∀ p ∈ cs, GxR.TabB bs mg p.1 p.2) → FnG P w K mg bs k fa fd [x] sp) (hbt : ∀ (s : Shared) (u : Value), BindsTo s fd ⟨[u], []⟩ [(x, u)])
    (hq : ∀ H : Hp, (∀ p ∈ cs, H p.2 = some (.tbl #[])) → SqL K H a (ns.map V.int) → sp [.ref a] H (fun v _ => v = .bl true) fun _ _ _ => False) :
    codeAny (model P w) callerA (.call (.ref fa) ⟨[.ref a], []⟩) (fun r s' => r = .ok (.ret (.bool true)) ∧ OldK sz.heap s'.heap ∧ s'.os = sz.os ∧ AllBare s'.gens) sz := by
  have rr := vals_ints hi
  have ln := hi.length
  have isTab : ∀ b : Addr, b ∈ cs.map (·.2) → sz.heap.get? b = some { cls := .none, data := .fields #[] } := fun b hb => by
    obtain ⟨p, hp, e⟩ := List.mem_map.mp hb
    subst e
    exact tabs p hp
  have noTab : a ∉ cs.map (·.2) := fun z => by
    have y := (isTab a z).symm.trans ha
    cases y
  have inT : ∀ p ∈ cs, p.2 ∈ cs.map (·.2) := fun p hp => List.mem_map.mpr ⟨p, hp, rfl⟩
  have main : ∀ H : Hp, (∀ p ∈ cs, H p.2 = some (.tbl #[])) → (∀ b u, H b = some u → b ∈ cs.map (·.2) ∨ (b = a ∧ ∃ o xs, u = .frz o (.lst xs))) → SqL K H a (ns.map V.int) → HOk P w H sz.heap → (H a ≠ none → K.lookup a = none) →
      codeAny (model P w) callerA (.call (.ref fa) ⟨[.ref a], []⟩) (fun r s' => r = .ok (.ret (.bool true)) ∧ OldK sz.heap s'.heap ∧ s'.os = sz.os ∧ AllBare s'.gens) sz := by
    intro H hT only hS hok hK
    have free : ∀ {b : Addr} {o : Obj}, sz.heap.get? b = some o → (∀ v n, o.data ≠ .seq v n) → o.data ≠ .fields #[] → H b = none := fun {b o} e n1 n2 => by
      cases z : H b with
      | none => rfl
      | some u =>
        rcases only b u z with y | ⟨y, _⟩
        · rw [isTab b y] at e
          cases e
          exact (n2 rfl).elim
        · rw [y, ha] at e
          cases e
          exact (n1 _ _ rfl).elim
    have freeD : ∀ {b : Addr} {o : Obj} {es : Array DictEntry} {ep : Nat}, sz.heap.get? b = some o → o.data = .dict es ep → H b = none := fun {b o es ep} e d => free e (fun v n z => by rw [d] at z; cases z) fun z => by rw [d] at z; cases z
    have nsB : ∀ {b : Addr} {m : Str → Option Value}, sz.heap.Ns b m → (hidT sz.heap H).Ns b m := fun {b m} ⟨o, es, ep, e, d, z⟩ => ⟨o, es, ep, hidT_get e (freeD e d), d, z⟩
    have kB : K.In (hidT sz.heap H) := fun b o e => hidT_get (inK b o e) (by
      cases z : H b with
      | none => rfl
      | some u =>
        rcases only b u z with y | ⟨y, _⟩
        · obtain ⟨p, hp, ep⟩ := List.mem_map.mp y
          subst ep
          rw [notK p hp] at e
          cases e
        · subst y
          rw [hK (by rw [z]; simp)] at e
          cases e)
    have md : L2.Mod K mg (hidT sz.heap H) := ⟨kB, nsB hn, ⟨mb, nsB hbn, hbb⟩, let ⟨mc, z1, z2⟩ := noL; ⟨mc, nsB z1, z2⟩⟩
    have tb : ∀ p ∈ cs, GxR.TabB (hidT sz.heap H) mg p.1 p.2 := fun p hp => by
      have tp := tabs p hp
      refine ⟨?_, ?_, fun z => ?_⟩
      · obtain ⟨o, us, file, tf, flags, tg, inF, text, tt, e1, g1, g2, g3, g4, g5, g6, g7, g8, g9⟩ := hds p hp
        refine ⟨o, us, file, tf, flags, tg, inF, text, tt, hidT_get e1 (free e1 (fun v n z => ?_) fun z => ?_), g1, g2, g3, g4, g5, g6, g7, g8, g9⟩
        · rw [g2] at z
          cases z
        · rw [g2] at z
          cases z
          simp at g3
      · obtain ⟨bm, ob, b1, b2, b3, b4, b5, b6⟩ := hbm
        have n1 : bm ≠ mainGlobals := fun q => by
          obtain ⟨o, es, ep, e, hd, _⟩ := hn
          subst q
          rw [e] at b3
          cases b3
          rw [hd] at b6
          cases b6
        have n2 : bm ≠ p.2 := fun q => by
          subst q
          rw [tp] at b3
          cases b3
          cases b6
        exact ⟨bm, ob, b1, b2, n1, n2, hidT_get b3 (free b3 (fun v n z => by rw [b6] at z; cases z) fun z => by rw [b6] at z; cases z), b4, b5, b6⟩
      · obtain ⟨o, es, ep, e, hd, _⟩ := hn
        rw [z, tp] at e
        cases e
        cases hd
    have ez : Env0 P w K mg (hidT sz.heap H) callerA [] sz H := ⟨rfl, md, fun b o e => of_hidT e, Nat.le_of_eq (hidT_size _ _), trivial, fun b hb => absurd (show b ∈ ([] : List Addr) from hb) (by simp), hok, .of_eq hgn⟩
    refine codeAny_mono ((G _ kB (nsB hn) tb).run callerA [] sz H ⟨[.ref a], []⟩ [.ref a] [.ref a] _ _ rfl hr ez (hbt sz (.ref a)) (.cons rfl .nil) (hq H hT hS)) fun rz sy hy => ?_
    cases rz with
    | error e => exact hy.elim
    | ok fl =>
      cases fl with
      | next => exact hy.elim
      | brk => exact hy.elim
      | cont => exact hy.elim
      | ret u =>
        obtain ⟨v, Hy, osy, bry, un, oky, rv, qy⟩ := hy
        cases (show v = .bl true from qy)
        cases (show u = Value.bool true from rv)
        have same : ∀ b o, b ∉ cs.map (·.2) → sz.heap.get? b = some o → sy.heap.get? b = some o := fun b o nb e => by
          cases z : H b with
          | none => exact un.keep b o e z (fun q => absurd (show b ∈ ([] : List Addr) from q) (by simp)) (by simp)
          | some u =>
            rcases only b u z with y | ⟨_, ob, xs, y⟩
            · exact absurd y nb
            · subst y
              obtain ⟨g1, _⟩ := hok b _ z
              obtain ⟨g2, _⟩ := oky b _ (un.frzs b ob _ z)
              rw [e] at g1
              cases g1
              exact g2
        have grown : ∀ p ∈ cs, ∃ more : Array Value, sy.heap.get? p.2 = some { cls := .none, data := .fields more } := fun p hp => by
          obtain ⟨more, z⟩ := un.tbls p.2 #[] (hT p hp)
          exact ⟨_, oky p.2 _ z⟩
        refine ⟨rfl, ⟨fun b o e => ?_, fun b o e => ?_⟩, osy, bry⟩
        · by_cases hb : b ∈ cs.map (·.2)
          · obtain ⟨p, hp, ep⟩ := List.mem_map.mp hb
            subst ep
            obtain ⟨more, hm⟩ := grown p hp
            rw [tabs p hp] at e
            cases e
            exact .inr (.inl ⟨((hds p hp).tab (tabs p hp)).isCodeTable, rfl, #[], more, rfl, by rw [Array.empty_append]; exact hm⟩)
          · exact .inl (same b o hb e)
        · by_cases hb : b ∈ cs.map (·.2)
          · obtain ⟨p, hp, ep⟩ := List.mem_map.mp hb
            subst ep
            obtain ⟨more, hm⟩ := grown p hp
            exact ⟨_, hm⟩
          · exact ⟨o, same b o hb e⟩
  cases hk : K.lookup a with
  | some o =>
    have e := inK a o hk
    rw [ha] at e
    cases e
    refine main (fun b => if b ∈ cs.map (·.2) then some (.tbl #[]) else none) (fun p hp => if_pos (inT p hp)) (fun b u z => ?_) (.inr ⟨_, va.toArray, _, hk, rfl, rfl, rfl, by rw [List.size_toArray, ln]; exact hl, by simpa using rr⟩) (fun b u z => ?_) fun z => absurd (show (if a ∈ cs.map (·.2) then some (HO.tbl #[]) else none) = none from if_neg noTab) z
    · by_cases hb : b ∈ cs.map (·.2)
      · exact .inl hb
      · cases (if_neg hb).symm.trans z
    · by_cases hb : b ∈ cs.map (·.2)
      · cases (if_pos hb).symm.trans z
        exact isTab b hb
      · cases (if_neg hb).symm.trans z
  | none =>
    refine main (fun b => if b = a then some (.frz { cls := .type "list", data := .seq va.toArray } (.lst (ns.map V.int))) else if b ∈ cs.map (·.2) then some (.tbl #[]) else none)
      (fun p hp => (if_neg (show ¬ p.2 = a from fun z => noTab (by rw [← z]; exact inT p hp))).trans (if_pos (inT p hp))) (fun b u z => ?_) (.inl (.inr ⟨{ cls := .type "list", data := .seq va.toArray }, if_pos rfl⟩)) (fun b u z => ?_) fun _ => hk
    · by_cases hb : b = a
      · cases (if_pos hb).symm.trans z
        exact .inr ⟨hb, _, _, rfl⟩
      · by_cases hb2 : b ∈ cs.map (·.2)
        · exact .inl hb2
        · cases ((if_neg hb).trans (if_neg hb2)).symm.trans z
    · by_cases hb : b = a
      · cases (if_pos hb).symm.trans z
        subst hb
        exact ⟨ha, by rw [List.length_map]; exact hl, va, _, rr, ha⟩
      · by_cases hb2 : b ∈ cs.map (·.2)
        · cases ((if_neg hb).trans (if_pos hb2)).symm.trans z
          exact isTab b hb2
        · cases ((if_neg hb).trans (if_neg hb2)).symm.trans z
/-- the goal that the head leaves, from the law's promise; nms: the defs that hold generator expressions -/
theorem walkGT {l : PySem.W.OpenLaw} {n k : Nat} {q : Program} {loose : List Str} {XP : (Str → Option Value) → Heap → Prop} {YP : World → Heap → Prop} {d : DefRec} {K : Params → PySem.W.Frag} {sp : PySem.W.Frag → List (Addr × Addr) → Sp} {x : Str}
    (hr : Room k callerA) (hn : l.most = some n) (hn2 : n ≤ sizeLine) (hdf : d.params.defaults = []) (hY : ∀ (w : World) (h : Heap), YP w h → (K w.params).In h)
    (G : ∀ (w : World) (mg : Str → Option Value) (fa : Addr) (h : Heap), (K w.params).In h → h.Ns mainGlobals mg → mg d.name = some (.ref fa) →
      ∃ (fd : FuncData) (cs : List (Addr × Addr)), (∀ p ∈ cs, ∃ (y : Str) (dr : DefRec), (recsOf q).find? (fun e => e.name == y) = some dr ∧ PySem.W.tabIn (K w.params) y = some p ∧ (K w.params).lookup p.2 = none) ∧
        (∀ (s : Shared) (u : Value), BindsTo s fd ⟨[u], []⟩ [(x, u)]) ∧ ∀ bs : Heap, (K w.params).In bs → bs.Ns mainGlobals mg → (∀ p ∈ cs, GxR.TabB bs mg p.1 p.2) → FnG l.prog w (K w.params) mg bs k fa fd [x] (sp (K w.params) cs))
    (hq : ∀ (K : PySem.W.Frag) (cs : List (Addr × Addr)) (H : Hp) (a : Addr) (ns : List Int), ns.length ≤ n → (∀ p ∈ cs, H p.2 = some (.tbl #[])) → SqL K H a (ns.map V.int) → sp K cs [.ref a] H (fun v _ => v = .bl true) fun _ _ _ => False) :
    PySem.W.WalkO q loose XP YP l.row.toRowW d [] (fun f va => PySem.call f va) := by
  refine Att.attach_call hn hdf fun w sy sz mg mb fa o pm cd doc a va ns Gr Y ho hd hcd hmg hob hin hle hgn => ?_
  have inK := hY w _ Y
  obtain ⟨fd, cs, hcs, hbt, hG⟩ := G w mg fa _ inK Gr.T.g hmg
  have tb : ∀ p ∈ cs, PySem.W.CodeHd sz.heap p.1 p.2 ∧ sz.heap.get? p.2 = some { cls := .none, data := .fields #[] } := fun p hp => by
    obtain ⟨y, dr, h1, h2, _⟩ := hcs p hp
    exact PySem.W.tab_of Gr.T inK h1 h2
  exact lawGT inK Gr.T.g Gr.T.b Gr.T.builtins Gr.T.nolimit hgn (fun p hp => (tb p hp).2) (fun p hp => let ⟨_, _, _, _, z⟩ := hcs p hp; z) (fun p hp => (tb p hp).1) Gr.T.bmain hob hin (Nat.le_trans hle hn2) hr hG hbt fun H hT hS => hq _ cs H a ns hle hT hS
end Pk
/-! The mirror: what is a house, told of data. -/
namespace Pk
open PySem
def wholeD (lo hi : Int) : PyData → Bool
  | .int i => decide (lo ≤ i) && decide (i ≤ hi)
  | _ => false
def tupD (a b : Int) : PyData → Bool
  | .tuple ds => decide (a ≤ (ds.length : Int)) && decide ((ds.length : Int) ≤ b)
  | _ => false
def nameD : PyData → Bool
  | .str z => decide ((1 : Int) ≤ (z.length : Int)) && (decide ((z.length : Int) ≤ 8) && z.cps.toList.all smallC)
  | _ => false
def inS (zs : List Str) (d : PyData) : Bool := zs.any fun z => strIs z d
def farS : Int := 1000000000000000000
def greatS : Int := 100000000000000000000
def ways3 : List Str := ["both", "up", "down"]
def sorts2 : List Str := ["least", "most"]
def pairs3 : List Str := ["off", "most", "least"]
/-- a dial's numbers -/
def dialR : PyData → PyData → PyData → PyData → Bool
  | .int l, hi, up, down => wholeD (-farS) farS (.int l) && (wholeD l farS hi && (wholeD 1 1000000 up && wholeD 1 1000000 down))
  | _, _, _, _ => false
def dialD : PyData → Bool
  | .tuple [n, lo, hi, way, up, down] => nameD n && (inS ways3 way && dialR lo hi up down)
  | _ => false
def sayingD (ns : List Str) : PyData → Bool
  | .tuple [n, s, i] => inS ns n && (inS sorts2 s && wholeD (-greatS) greatS i)
  | _ => false
/-- two data that are the same text -/
def sameS : PyData → PyData → Bool
  | .str a, .str b => a == b
  | _, _ => false
def ruleD (ns : List Str) : PyData → Bool
  | .tuple [w, p, q] => strIs "one" w && (sayingD ns p && sayingD ns q)
  | .tuple [w, a, b, c] => inS pairs3 w && (inS ns a && (inS ns b && (!sameS a b && wholeD (-greatS) greatS c)))
  | _ => false
def formD : PyData → Bool
  | .tuple [d, r] => tupD 1 12 d && tupD 0 40 r
  | _ => false
/-- the name of a dial, as a text -/
def nameOf : PyData → Str
  | .tuple (.str z :: _) => z
  | _ => ""
/-- text below or alike -/
def leS (a b : Str) : Bool := !decide (b.cps.toList < a.cps.toList)
/-- the first faulty dial, from the k-th on; prev: the one ahead -/
def fDial (k : Nat) (prev : Option Str) : List PyData → Option Nat
  | [] => none
  | d :: ds => if dialD d = true then (match prev with
      | some p => if leS (nameOf d) p = true then some k else fDial (k + 1) (some (nameOf d)) ds
      | none => fDial (k + 1) (some (nameOf d)) ds) else some k
/-- the first faulty rule, from the k-th on, past: those ahead -/
def fRule (ns : List Str) (k : Nat) (past : List PyData) : List PyData → Option Nat
  | [] => none
  | r :: rs => if ruleD ns r = true then (if (past.any fun z => PyData.eqv z r) = true then some k else fRule ns (k + 1) (past ++ [r]) rs) else some k
def dialsOf : PyData → List PyData
  | .tuple (.tuple ds :: _) => ds
  | _ => []
def rulesOf : PyData → List PyData
  | .tuple [_, .tuple rs] => rs
  | _ => []
def faultD (d : PyData) : PyData :=
  if formD d = true then (match fDial 0 none (dialsOf d) with
    | some k => .tuple [.str "dial", .int k]
    | none => match fRule ((dialsOf d).map nameOf) 0 [] (rulesOf d) with
      | some k => .tuple [.str "rule", .int k]
      | none => .none)
  else .tuple [.str "house"]
end Pk
namespace Pk
open PySem L2
def topH (i : Nat) : Stmt := PySem.Challenge.pw_pawldials_k71_chains_written_and_read.main.body.getD i (.Pass ⟨0, 0, 0, 0⟩)
abbrev sWhole : Stmt := topH 1
abbrev sTupOf : Stmt := topH 2
abbrev sIsName : Stmt := topH 12
abbrev sIsSaying : Stmt := topH 13
/-- the built-in names that these defs ask -/
structure BltH (mg : Str → Option Value) : Prop where
  isinstance : mg "isinstance" = none
  bool : mg "bool" = none
  int : mg "int" = none
  str : mg "str" = none
  tuple : mg "tuple" = none
  list : mg "list" = none
  len : mg "len" = none
  all : mg "all" = none
  enumerate : mg "enumerate" = none
/-- the module's own constants -/
structure Cons (K : PySem.W.Frag) (mg : Str → Option Value) (W S R : Addr) : Prop where
  great : ∃ t, mg "GREATEST" = some (.int greatS t)
  long : ∃ t, mg "LONGEST_NAME" = some (.int 8 t)
  mS : mg "SORTS" = some (.ref S)
  sorts : ∀ H, SqT K H S (sorts2.map V.str)
def spWhole : Sp := fun vs H Q _ => ∃ (x : V) (d : PyData) (lo hi : Int), vs = [x, .int lo, .int hi] ∧ Tr H x d ∧ Q (.bl (wholeD lo hi d)) H
def spTupOf : Sp := fun vs H Q _ => ∃ (x : V) (d : PyData) (a b : Int), vs = [x, .int a, .int b] ∧ Tr H x d ∧ Q (.bl (tupD a b d)) H
def spPrice : Sp := fun vs H Q _ => ∃ (x : V) (d : PyData), vs = [x] ∧ Tr H x d ∧ Q (.bl (wholeD 1 1000000 d)) H
/-- all stays, but a table may grow -/
def Gr (P : Addr) (H H' : Hp) : Prop := GxR.TabG H' P ∧ ∀ b o, b ≠ P → H b = some o → H' b = some o
theorem Gr.of {P : Addr} {H H' : Hp} (h : GxR.Tabbed P H H') : Gr P H H' := ⟨h.1, fun b o hb e => by rw [h.2 b hb]; exact e⟩
theorem Gr.refl {P : Addr} {H : Hp} (h : GxR.TabG H P) : Gr P H H := ⟨h, fun _ _ _ e => e⟩
theorem Gr.trans {P : Addr} {H H1 H2 : Hp} (a : Gr P H H1) (b : Gr P H1 H2) : Gr P H H2 := ⟨b.1, fun c o hc e => b.2 c o hc (a.2 c o hc e)⟩
theorem Gr.same {P : Addr} {H H' : Hp} (t : GxR.TabG H P) (s : Same H H') : Gr P H H' := ⟨let ⟨ps, h1, h2⟩ := t; ⟨ps, s _ _ h1, h2⟩, fun b o _ e => s b o e⟩
mutual
theorem Tr.gr {P : Addr} {H H' : Hp} (t : GxR.TabG H P) (g : Gr P H H') : ∀ {v : V} {d : PyData}, Tr H v d → Tr H' v d
  | _, _, .non => .non
  | _, _, .bl b => .bl b
  | _, _, .int i => .int i
  | _, _, .str x => .str x
  | _, _, .lst h a => .lst (g.2 _ _ (let ⟨_, z, _⟩ := t; ne_of h z (by intro y; cases y)) h) (TrAll.gr t g a)
  | _, _, .tup h a => .tup (g.2 _ _ (let ⟨_, z, _⟩ := t; ne_of h z (by intro y; cases y)) h) (TrAll.gr t g a)
  | _, _, .dct h n e a => .dct (g.2 _ _ (let ⟨_, z, _⟩ := t; ne_of h z (by intro y; cases y)) h) n e (TrAll.gr t g a)
theorem TrAll.gr {P : Addr} {H H' : Hp} (t : GxR.TabG H P) (g : Gr P H H') : ∀ {vs : List V} {ds : List PyData}, TrAll H vs ds → TrAll H' vs ds
  | _, _, .nil => .nil
  | _, _, .cons h u => .cons (Tr.gr t g h) (TrAll.gr t g u)
end
def spIsName (P : Addr) : Sp := fun vs H Q _ => ∃ (x : V) (d : PyData), vs = [x] ∧ Tr H x d ∧ GxR.TabG H P ∧ (∀ z, d = .str z → z.length ≤ sizeLine) ∧ ∀ H', Gr P H H' → Q (.bl (nameD d)) H'
section
variable {P : Program} {w : World} {K : PySem.W.Frag} {mg : Str → Option Value} {base : Heap} {W S R : Addr}
theorem wholeD_int (lo hi i : Int) : wholeD lo hi (.int i) = (decide (lo ≤ i) && decide (i ≤ hi)) := rfl
theorem scWhole : FnScope ["thing", "low", "high"] ["thing", "low", "high"] (defScope sWhole) := ⟨rfl, rfl, rfl, by decide +kernel, rfl, by decide +kernel, by decide +kernel⟩
theorem ok_whole {f : Addr} {fd : FuncData} (F : Fun K "is_whole" "is_whole" sWhole f fd) (B : BltH mg) : FnOk P w K mg base CX0 1 f fd ["thing", "low", "high"] spWhole := by
  refine F.ok scWhole (fun vs H Q E h => ?_) (fun cdv A outer s H vs Q E hr h => ?_)
  · obtain ⟨x, d, lo, hi, rfl, _⟩ := h
    rfl
  obtain ⟨x, d, lo, hi, rfl, t, k⟩ := h
  refine ⟨_, pss_cons (ps_if (PW.pt (pw_or (pt_val (pe_callB call_isT (by rfl) B.isinstance (by decide +kernel) (pa_cons (pv 0) (pa_cons (pe_bltn (v := .ty "bool") (by rfl) B.bool (by decide +kernel) rfl) pa_nil))))
      (pw_or1 (pt_not (pt_val (pe_callB call_isT (by rfl) B.isinstance (by decide +kernel) (pa_cons (pv 0) (pa_cons (pe_bltn (v := .ty "int") (by rfl) B.int (by decide +kernel) rfl) pa_nil)))))))) (pss_one (ps_ret pe_bl)) pss_nil) <|
    pss_one (ps_ret (pe_chain op_le op_le (pv 1) (pv 0) (pv 2))), ?_⟩
  refine ⟨_, rfl, x, "bool", d, isB, rfl, kB, t, _, rfl, ?_⟩
  have no : isI d = false → wholeD lo hi d = false → (H : Hp) → Tr H x d → True := fun _ _ _ _ => trivial
  cases t with
  | int i =>
    refine iteF ?_
    refine ⟨_, rfl, _, "int", _, isI, rfl, kI, .int i, _, rfl, iteF ?_⟩
    refine ⟨_, rfl, _, rfl, _, _, rfl, rfl, _, rfl, ?_⟩
    refine ite2 (fun c => ?_) (fun c => ?_)
    · refine ⟨_, rfl, _, _, rfl, rfl, ?_⟩
      have e : wholeD lo hi (.int i) = decide (i ≤ hi) := by rw [wholeD_int, c]; rfl
      rw [e] at k
      exact k
    · have e : wholeD lo hi (.int i) = false := by rw [wholeD_int, Bool.eq_false_iff.mpr c]; rfl
      rw [e] at k
      exact k
  | bl b => exact iteT k
  | non => exact iteF ⟨_, rfl, _, "int", _, isI, rfl, kI, .non, _, rfl, iteT k⟩
  | str z => exact iteF ⟨_, rfl, _, "int", _, isI, rfl, kI, .str z, _, rfl, iteT k⟩
  | lst h a => exact iteF ⟨_, rfl, _, "int", _, isI, rfl, kI, .lst h a, _, rfl, iteT k⟩
  | tup h a => exact iteF ⟨_, rfl, _, "int", _, isI, rfl, kI, .tup h a, _, rfl, iteT k⟩
  | dct h n e a => exact iteF ⟨_, rfl, _, "int", _, isI, rfl, kI, .dct h n e a, _, rfl, iteT k⟩
theorem scTupOf : FnScope ["thing", "least", "most"] ["thing", "least", "most"] (defScope sTupOf) := ⟨rfl, rfl, rfl, by decide +kernel, rfl, by decide +kernel, by decide +kernel⟩
theorem ok_tupOf {f : Addr} {fd : FuncData} (F : Fun K "is_tuple_of" "is_tuple_of" sTupOf f fd) (B : BltH mg) : FnOk P w K mg base CX0 1 f fd ["thing", "least", "most"] spTupOf := by
  refine F.ok scTupOf (fun vs H Q E h => ?_) (fun cdv A outer s H vs Q E hr h => ?_)
  · obtain ⟨x, d, lo, hi, rfl, _⟩ := h
    rfl
  obtain ⟨x, d, lo, hi, rfl, t, k⟩ := h
  refine ⟨_, pss_one (ps_ret (pe_and (pe_callB call_isT (by rfl) B.isinstance (by decide +kernel) (pa_cons (pv 0) (pa_cons (pe_bltn (v := .ty "tuple") (by rfl) B.tuple (by decide +kernel) rfl) pa_nil)))
    (pe_one (pe_chain op_le op_le (pv 1) (pe_callB call_len_seq (by rfl) B.len PySem.boot_len (pa_cons (pv 0) pa_nil)) (pv 2))))), ?_⟩
  refine ⟨_, rfl, x, "tuple", d, isTup, rfl, kT, t, _, rfl, ?_⟩
  cases t with
  | @tup a xs ds h al =>
    refine iteT ?_
    have el := al.length
    refine ⟨_, rfl, _, rfl, a, _, rfl, .inr (SqT.of h), _, _, rfl, rfl, _, rfl, ?_⟩
    refine ite2 (fun c => ?_) (fun c => ?_)
    · refine ⟨_, rfl, _, _, rfl, rfl, ?_⟩
      have e : tupD lo hi (.tuple ds) = decide (((xs.length : Nat) : Int) ≤ hi) := by show (decide (lo ≤ ((ds.length : Nat) : Int)) && decide (((ds.length : Nat) : Int) ≤ hi)) = _; rw [← el, c]; rfl
      rw [e] at k
      exact k
    · have e : tupD lo hi (.tuple ds) = false := by show (decide (lo ≤ ((ds.length : Nat) : Int)) && decide (((ds.length : Nat) : Int) ≤ hi)) = _; rw [← el, Bool.eq_false_iff.mpr c]; rfl
      rw [e] at k
      exact k
  | int i => exact iteF k
  | bl b => exact iteF k
  | non => exact iteF k
  | str z => exact iteF k
  | lst h a => exact iteF k
  | dct h n e a => exact iteF k
/-- the scope of the generator expression over a name's signs -/
def scSign : Scope := { kind := .function, names := [((".0" : Str), NameKind.local), (("sign" : Str), NameKind.local)], isGenerator := true, isCoroutine := false }
theorem gsSign (env : Env) : GxR.GenS env scSign "sign" := by
  refine ⟨rfl, rfl, by decide +kernel, rfl, rfl, fun y hy e => ?_⟩
  have z : y = ((".0" : Str), NameKind.local) ∨ y = (("sign" : Str), NameKind.local) := by simpa [scSign] using hy
  rcases z with z | z
  · rw [z] at e
    cases e
  · rw [z] at e
    cases e
theorem nameD_str (z : Str) : nameD (.str z) = (decide ((1 : Int) ≤ (z.length : Int)) && (decide ((z.length : Int) ≤ 8) && z.cps.toList.all smallC)) := rfl
theorem scIsName : FnScope ["thing"] ["thing"] (defScope sIsName) := ⟨rfl, rfl, rfl, by decide +kernel, rfl, by decide +kernel, by decide +kernel⟩
theorem ok_isName {f c Pt : Addr} {oc : Value} {od an : Option Addr} {osl : Array (Option Value)} {kV doc pm ct : Value} (lk : K.lookup f = some ⟨oc, od, .func (PySem.W.fnOf "is_name" "is_name" (defArgs sIsName) (defBody sIsName) (defScope sIsName) .none kV doc pm an (.ref c) ct), osl⟩) (hcd : PySem.W.codeIn K (.ref c) "is_name" = true)
    (TB : GxR.TabB base mg c Pt) (C : Cons K mg W S R) (B : BltH mg) : FnOk P w K mg base CX0 2 f (PySem.W.fnOf "is_name" "is_name" (defArgs sIsName) (defBody sIsName) (defScope sIsName) .none kV doc pm an (.ref c) ct) ["thing"] (spIsName Pt) := by
  refine fn_of lk hcd scIsName (fun vs H Q E h => ?_) (fun A outer s H vs Q E hr h => ?_)
  · obtain ⟨x, d, rfl, _⟩ := h
    rfl
  obtain ⟨x, d, rfl, t, tg, hz, k⟩ := h
  obtain ⟨tk, hlong⟩ := C.long
  refine ⟨_, PSs.nox (pss_cons (ps_if (PW.pt (pw_or (pt_not (pt_val (pe_callB call_isT (by rfl) B.isinstance (by decide +kernel) (pa_cons (pv 0) (pa_cons (pe_bltn (v := .ty "str") (by rfl) B.str (by decide +kernel) rfl) pa_nil)))))
      (pw_or1 (pt_not (pt_chain op_le op_le pe_int (pe_callB call_len_str (by rfl) B.len PySem.boot_len (pa_cons (pv 0) pa_nil)) (pe_glob (v := .int 8) (by rfl) hlong ⟨_, rfl⟩)))))) (pss_one (ps_ret pe_bl)) pss_nil) <|
    pss_one (ps_ret (GxR.pe_allS hr (by rfl) B.all (by decide +kernel) TB rfl (gsSign _) (pv 0) (elt_az rfl rfl) (fun _ => rfl)))), ?_⟩
  refine ⟨_, rfl, x, "str", d, isStr, rfl, kS, t, _, rfl, ?_⟩
  cases t with
  | str z =>
    refine iteF ?_
    have hz := hz z rfl
    refine ⟨_, rfl, _, rfl, hz, _, _, rfl, rfl, _, rfl, ?_⟩
    refine ite2 (fun c1 => ?_) (fun c1 => ?_)
    · refine ⟨_, _, rfl, rfl, _, rfl, ?_⟩
      cases c2 : decide ((z.length : Int) ≤ 8) with
      | true =>
        refine iteF ⟨_, rfl, z, rfl, tg, fun H2 tb => ?_⟩
        have e : nameD (.str z) = z.cps.toList.all smallC := by rw [nameD_str, c1, c2]; rfl
        have q := k H2 (Gr.of tb)
        rw [e] at q
        exact q
      | false =>
        have e : nameD (.str z) = false := by rw [nameD_str, c1, c2]; rfl
        have q := k H (Gr.refl tg)
        rw [e] at q
        exact iteT q
    · have e : nameD (.str z) = false := by rw [nameD_str, Bool.eq_false_iff.mpr c1]; rfl
      have q := k H (Gr.refl tg)
      rw [e] at q
      exact ⟨_, rfl, iteT q⟩
  | int i => exact iteT (k H (Gr.refl tg))
  | bl b => exact iteT (k H (Gr.refl tg))
  | non => exact iteT (k H (Gr.refl tg))
  | tup h a => exact iteT (k H (Gr.refl tg))
  | lst h a => exact iteT (k H (Gr.refl tg))
  | dct h n e a => exact iteT (k H (Gr.refl tg))
end
end Pk
namespace Pk
open PySem L2
mutual
/-- texts in it are not too long -/
def okS : PyData → Bool
  | .str z => decide (z.length ≤ 100000)
  | .list xs | .tuple xs => okSs xs
  | .dict es => okKv es
  | .none | .bool _ | .int _ => true
def okSs : List PyData → Bool
  | [] => true
  | x :: xs => okS x && okSs xs
def okKv : List (PyData × PyData) → Bool
  | [] => true
  | (_, x) :: xs => okS x && okKv xs
end
theorem okSs_get : ∀ {ds : List PyData} {i : Nat} {d : PyData}, okSs ds = true → ds[i]? = some d → okS d = true
  | [], i, d, _, h => by simp at h
  | x :: xs, 0, d, e, h => by
    cases (show some x = some d from h)
    rw [okSs, Bool.and_eq_true] at e
    exact e.1
  | x :: xs, i + 1, d, e, h => by
    rw [okSs, Bool.and_eq_true] at e
    exact okSs_get (i := i) e.2 h
theorem okS_str {d : PyData} (h : okS d = true) : ∀ z, d = .str z → z.length ≤ sizeLine := fun z e => by
  subst e
  simp only [okS, decide_eq_true_eq] at h
  have := sizeLine_eq
  omega
theorem tupD6 {d : PyData} (h : tupD 6 6 d = true) : ∃ a b c e f g, d = .tuple [a, b, c, e, f, g] := by
  cases d with
  | tuple ds =>
    simp only [tupD, Bool.and_eq_true, decide_eq_true_eq] at h
    match ds, h with
    | [a, b, c, e, f, g], _ => exact ⟨a, b, c, e, f, g, rfl⟩
    | [], h => simp at h
    | [_], h => simp at h
    | [_, _], h => simp at h
    | [_, _, _], h => simp at h
    | [_, _, _, _], h => simp at h
    | [_, _, _, _, _], h => simp at h
    | _ :: _ :: _ :: _ :: _ :: _ :: _ :: _, h => simp at h; omega
  | _ => cases h
theorem tupD_not6 {d : PyData} (h : tupD 6 6 d = false) : dialD d = false := by
  unfold dialD
  split
  · cases (show true = false from h)
  · rfl
def spIsDial (Pt : Addr) : Sp := fun vs H Q _ => ∃ (x : V) (d : PyData), vs = [x] ∧ Tr H x d ∧ GxR.TabG H Pt ∧ okS d = true ∧ ∀ H', Gr Pt H H' → Q (.bl (dialD d)) H'
section
variable {P : Program} {w : World} {K : PySem.W.Frag} {mg : Str → Option Value} {base : Heap} {W S R Pt : Addr}
end
end Pk
namespace Pk
open PySem L2
theorem walk_enumT {K : PySem.W.Frag} {a : Addr} {xs : List V} : Walk (IteT K a) xs.length (fun H => SqT K H a xs) (YPair (fun i => some (.int (i : Nat))) (fun i => xs[i]?)) where
  goes := fun i H hi h => ⟨xs, xs[i], h, by simp [hi]⟩
  stops := fun H h => ⟨xs, h, Nat.le_refl _⟩
  yields := fun i H x H' hi h ⟨T, y, e1, e2, e3, e4⟩ => ⟨T, .int (i : Nat), y, e1, e2, e3, rfl, e4 xs h⟩
theorem tupD3 {d : PyData} (h : tupD 3 3 d = true) : ∃ a b c, d = .tuple [a, b, c] := by
  cases d with
  | tuple ds =>
    simp only [tupD, Bool.and_eq_true, decide_eq_true_eq] at h
    match ds, h with
    | [a, b, c], _ => exact ⟨a, b, c, rfl⟩
    | [], h => simp at h
    | [_], h => simp at h
    | [_, _], h => simp at h
    | _ :: _ :: _ :: _ :: _, h => simp at h; omega
  | _ => cases h
theorem tupD4 {d : PyData} (h : tupD 4 4 d = true) : ∃ a b c e, d = .tuple [a, b, c, e] := by
  cases d with
  | tuple ds =>
    simp only [tupD, Bool.and_eq_true, decide_eq_true_eq] at h
    match ds, h with
    | [a, b, c, e], _ => exact ⟨a, b, c, e, rfl⟩
    | [], h => simp at h
    | [_], h => simp at h
    | [_, _], h => simp at h
    | [_, _, _], h => simp at h
    | _ :: _ :: _ :: _ :: _ :: _, h => simp at h; omega
  | _ => cases h
theorem tupD2 {d : PyData} (h : tupD 2 2 d = true) : ∃ a b, d = .tuple [a, b] := by
  cases d with
  | tuple ds =>
    simp only [tupD, Bool.and_eq_true, decide_eq_true_eq] at h
    match ds, h with
    | [a, b], _ => exact ⟨a, b, rfl⟩
    | [], h => simp at h
    | [_], h => simp at h
    | _ :: _ :: _ :: _, h => simp at h; omega
  | _ => cases h
theorem sayD_not {ns : List Str} {d : PyData} (h : tupD 3 3 d = false) : sayingD ns d = false := by
  unfold sayingD
  split
  · cases (show true = false from h)
  · rfl
theorem inS_str {zs : List Str} {d : PyData} (h : inS zs d = true) : ∃ z, d = .str z := by
  unfold inS at h
  obtain ⟨z, _, hz⟩ := List.any_eq_true.mp h
  cases d with
  | str y => exact ⟨y, rfl⟩
  | _ => cases hz
def spIsSaying : Sp := fun vs H Q _ => ∃ (a : Addr) (ns : List Str) (x : V) (d : PyData), vs = [.ref a, x] ∧ H a = some (.lst (ns.map V.str)) ∧ Tr H x d ∧ Q (.bl (sayingD ns d)) H
def spIsRule : Sp := fun vs H Q _ => ∃ (a : Addr) (ns : List Str) (x : V) (d : PyData), vs = [.ref a, x] ∧ H a = some (.lst (ns.map V.str)) ∧ Tr H x d ∧ Q (.bl (ruleD ns d)) H
def spForm : Sp := fun vs H Q _ => ∃ (x : V) (d : PyData), vs = [x] ∧ Tr H x d ∧ Q (.bl (formD d)) H
section
variable {P : Program} {w : World} {K : PySem.W.Frag} {mg : Str → Option Value} {base : Heap} {W S R Pt : Addr}
theorem scIsSaying : FnScope ["names", "thing", "name", "sort", "i"] ["names", "thing"] (defScope sIsSaying) := ⟨rfl, rfl, rfl, by decide +kernel, rfl, by decide +kernel, by decide +kernel⟩
theorem ok_isSaying {f g1 g2 : Addr} {fd d1 d2 : FuncData} (F : Fun K "is_saying" "is_saying" sIsSaying f fd)
    (G1 : FnOk P w K mg base CX0 1 g1 d1 ["thing", "low", "high"] spWhole) (b1 : Binds K d1 ["thing", "low", "high"] []) (k1 : PySem.W.keepIn K (.ref g1) = true) (m1 : mg "is_whole" = some (.ref g1))
    (G2 : FnOk P w K mg base CX0 1 g2 d2 ["thing", "least", "most"] spTupOf) (b2 : Binds K d2 ["thing", "least", "most"] []) (k2 : PySem.W.keepIn K (.ref g2) = true) (m2 : mg "is_tuple_of" = some (.ref g2))
    (C : Cons K mg W S R) : FnOk P w K mg base CX0 2 f fd ["names", "thing"] spIsSaying := by
  refine F.ok scIsSaying (fun vs H Q E h => ?_) (fun cdv A outer s H vs Q E hr h => ?_)
  · obtain ⟨a, ns, x, d, rfl, _⟩ := h
    rfl
  obtain ⟨a, ns, x, d, rfl, hns, t, q⟩ := h
  obtain ⟨tf, hgr⟩ := C.great
  have hu := hu_of hr
  refine ⟨_, pss_cons (ps_if (pt_not (pt_val (pe_call G2 hr rfl m2 k2 b2 .nil pass0 (pa_cons (pv 1) (pa_cons pe_int (pa_cons pe_int pa_nil)))))) (pss_one (ps_ret pe_bl)) pss_nil) <|
    pss_cons (ps_asg (pv 1) (pg_tup (by rfl) (pgs_cons (pg_name (i := 2) scIsSaying.nd rfl (.inl rfl)) <| pgs_cons (pg_name (i := 3) scIsSaying.nd rfl (.inl rfl)) <| pgs_cons (pg_name (i := 4) scIsSaying.nd rfl (.inl rfl)) pgs_nil))) <|
    pss_one (ps_ret (pe_and (pe_cmpR (op_inS hu) (pv 2) (pv 0) (by rfl)) (pe_and (pe_cmpR (op_inS hu) (pv 3) (pe_glob (v := .ref S) (by rfl) C.mS rfl) (by rfl))
      (pe_one (pe_call G1 hr rfl m1 k1 b1 .nil pass0 (pa_cons (pv 4) (pa_cons (pe_un un_neg (pe_glob (v := .int greatS) (by rfl) hgr ⟨_, rfl⟩)) (pa_cons (pe_glob (v := .int greatS) (by rfl) hgr ⟨_, rfl⟩) pa_nil)))))))), ?_⟩
  refine ⟨_, rfl, x, d, 3, 3, rfl, t, _, rfl, ?_⟩
  cases c1 : tupD 3 3 d with
  | false =>
    rw [sayD_not c1] at q
    exact iteT q
  | true =>
    refine iteF ?_
    obtain ⟨da, db, dc, rfl⟩ := tupD3 c1
    cases t with
    | @tup b xs _ h al =>
    match xs, al with
    | [xa, xb, xc], .cons ta (.cons tb (.cons tc .nil)) =>
    refine ⟨_, rfl, b, _, rfl, SqT.of h, rfl, _, _, rfl, _, _, rfl, _, _, rfl, rfl, ?_⟩
    have q : Q (.bl (inS ns da && (inS sorts2 db && wholeD (-greatS) greatS dc))) H := q
    refine ⟨_, rfl, _, rfl, da, a, ns, ta, rfl, .inl (SqL.of hns), _, rfl, ?_⟩
    cases c2 : inS ns da with
    | false =>
      rw [c2] at q
      have c2' : (ns.any fun z => strIs z da) = false := c2
      rw [c2']
      exact iteF q
    | true =>
      rw [c2] at q
      have c2' : (ns.any fun z => strIs z da) = true := c2
      rw [c2']
      have q : Q (.bl (inS sorts2 db && wholeD (-greatS) greatS dc)) H := q
      refine iteT ⟨_, rfl, db, S, _, tb, rfl, .inr (C.sorts H), _, rfl, ?_⟩
      cases c3 : inS sorts2 db with
      | false =>
        rw [c3] at q
        have c3' : (sorts2.any fun z => strIs z db) = false := c3
        rw [c3']
        exact iteF q
      | true =>
        rw [c3] at q
        have c3' : (sorts2.any fun z => strIs z db) = true := c3
        rw [c3']
        exact iteT ⟨_, rfl, _, rfl, xc, dc, -greatS, greatS, rfl, tc, q⟩
end
end Pk
namespace Pk
open PySem L2
def optV : Option Nat → V
  | none => .non
  | some k => .int (k : Nat)
def spFDial (Pt : Addr) : Sp := fun vs H Q _ => ∃ (a : Addr) (xs : List V) (ds : List PyData), vs = [.ref a] ∧ H a = some (.tup xs) ∧ TrAll H xs ds ∧ GxR.TabG H Pt ∧ okSs ds = true ∧ xs.length ≤ 1000 ∧ ∀ H', Gr Pt H H' → Q (optV (fDial 0 none ds)) H'
theorem atV {xs : List V} {i : Nat} {x : V} (h : xs[i]? = some x) : atI xs ((i : Nat) : Int) = some x := atI_nat h
/-- a dial: its first thing is its name -/
theorem dial_name {d : PyData} (h : dialD d = true) {H : Hp} {x : V} (t : Tr H x d) : ∃ b xs, x = .ref b ∧ H b = some (.tup xs) ∧ xs[0]? = some (.str (nameOf d)) := by
  unfold dialD at h
  split at h
  · rename_i n lo hi way up down
    rw [Bool.and_eq_true] at h
    cases n with
    | str z =>
      cases t with
      | @tup b xs _ hb al =>
        cases al with
        | cons t0 _ =>
          cases t0
          exact ⟨b, _, rfl, hb, rfl⟩
    | _ => cases h.1
  · cases h
/-- the name of the dial ahead of the i-th -/
def prevAt (ds : List PyData) : Nat → Option Str
  | 0 => none
  | i + 1 => (ds[i]?).map nameOf
theorem fDial_cons (k : Nat) (prev : Option Str) (d : PyData) (ds : List PyData) : fDial k prev (d :: ds) = if dialD d = true then (match prev with
      | some p => if leS (nameOf d) p = true then some k else fDial (k + 1) (some (nameOf d)) ds
      | none => fDial (k + 1) (some (nameOf d)) ds) else some k := rfl
theorem fDial_step {ds : List PyData} {i : Nat} {d : PyData} (h : ds[i]? = some d) (hd : dialD d = true) (hp : ∀ p, prevAt ds i = some p → leS (nameOf d) p = false) : fDial i (prevAt ds i) (ds.drop i) = fDial (i + 1) (prevAt ds (i + 1)) (ds.drop (i + 1)) := by
  obtain ⟨hi, e⟩ := List.getElem?_eq_some_iff.mp h
  rw [List.drop_eq_getElem_cons hi, e, fDial_cons, if_pos hd]
  have ep : prevAt ds (i + 1) = some (nameOf d) := by
    show (ds[i]?).map nameOf = _
    rw [h]
    rfl
  rw [ep]
  cases c : prevAt ds i with
  | none => rfl
  | some p =>
    show (if leS (nameOf d) p = true then some i else _) = _
    rw [hp p c, if_neg Bool.false_ne_true]
theorem fDial_bad {ds : List PyData} {i : Nat} {d : PyData} (h : ds[i]? = some d) (hd : dialD d = false) : fDial i (prevAt ds i) (ds.drop i) = some i := by
  obtain ⟨hi, e⟩ := List.getElem?_eq_some_iff.mp h
  rw [List.drop_eq_getElem_cons hi, e, fDial_cons, if_neg (by rw [hd]; exact Bool.false_ne_true)]
theorem fDial_low {ds : List PyData} {i : Nat} {d : PyData} {p : Str} (h : ds[i]? = some d) (hd : dialD d = true) (hp : prevAt ds i = some p) (hl : leS (nameOf d) p = true) : fDial i (prevAt ds i) (ds.drop i) = some i := by
  obtain ⟨hi, e⟩ := List.getElem?_eq_some_iff.mp h
  rw [List.drop_eq_getElem_cons hi, e, hp, fDial_cons, if_pos hd]
  show (if leS (nameOf d) p = true then some i else _) = _
  rw [if_pos hl]
section
variable {P : Program} {w : World} {K : PySem.W.Frag} {mg : Str → Option Value} {base : Heap} {W S R Pt : Addr}
end
end Pk
namespace Pk
open PySem L2
theorem take_more {α : Type} {ds : List α} {i : Nat} {d : α} (h : ds[i]? = some d) : ds.take (i + 1) = ds.take i ++ [d] := by
  rw [List.take_add_one, h]
  rfl
mutual
/-- data without dicts, as the layer reads it -/
theorem Tr.dp {K : PySem.W.Frag} {H : Hp} : ∀ {v : V} {d : PyData}, Tr H v d → d.hasDict = false → Dp K H v d
  | _, _, .non, _ => .non
  | _, _, .bl b, _ => .bl b
  | _, _, .int i, _ => .int i
  | _, _, .str x, _ => .str x
  | _, _, .lst h a, e => .lst (SqL.of h) (TrAll.dp a (by simpa only [PyData.hasDict] using e))
  | _, _, .tup h a, e => .tup (SqT.of h) (TrAll.dp a (by simpa only [PyData.hasDict] using e))
  | _, _, .dct _ _ _ _, e => by simp [PyData.hasDict] at e
theorem TrAll.dp {K : PySem.W.Frag} {H : Hp} : ∀ {vs : List V} {ds : List PyData}, TrAll H vs ds → PyData.hasDictAll ds = false → DpAll K H vs ds
  | _, _, .nil, _ => .nil
  | _, _, .cons h t, e => by
    simp only [PyData.hasDictAll, Bool.or_eq_false_iff] at e
    exact .cons (h.dp e.1) (TrAll.dp t e.2)
end
theorem whole_lay {lo hi : Int} {d : PyData} (h : wholeD lo hi d = true) : d.canLay0 = true ∧ d.depth = 0 := by
  cases d with
  | int i => exact ⟨by simp only [PyData.canLay0], by simp only [PyData.depth]⟩
  | _ => cases h
theorem strIs_is {z : Str} {d : PyData} (h : strIs z d = true) : d = .str z := by
  cases d with
  | str y =>
    have e : z = y := by simpa [strIs] using h
    rw [e]
  | _ => cases h
theorem inS_lay {zs : List Str} {d : PyData} (hn : ∀ z ∈ zs, PyData.strOk z = true) (h : inS zs d = true) : d.canLay0 = true ∧ d.depth = 0 := by
  unfold inS at h
  obtain ⟨z, hz, e⟩ := List.any_eq_true.mp h
  rw [strIs_is e]
  exact ⟨by simpa only [PyData.canLay0] using hn z hz, by simp only [PyData.depth]⟩
theorem sorts_ok : ∀ z ∈ sorts2, PyData.strOk z = true := by decide +kernel
theorem pairs_ok : ∀ z ∈ pairs3, PyData.strOk z = true := by decide +kernel
theorem say_lay {ns : List Str} {d : PyData} (hn : ∀ z ∈ ns, PyData.strOk z = true) (h : sayingD ns d = true) : d.canLay0 = true ∧ d.depth ≤ 1 := by
  unfold sayingD at h
  split at h
  · simp only [Bool.and_eq_true] at h
    obtain ⟨a1, a2⟩ := inS_lay hn h.1
    obtain ⟨b1, b2⟩ := inS_lay sorts_ok h.2.1
    obtain ⟨c1, c2⟩ := whole_lay h.2.2
    exact ⟨by simp [PyData.canLay0, PyData.canLayAll0, a1, b1, c1], by simp [PyData.depth, PyData.depthAll, a2, b2, c2]⟩
  · cases h
theorem rule_lay {ns : List Str} {d : PyData} (hn : ∀ z ∈ ns, PyData.strOk z = true) (h : ruleD ns d = true) : d.canLay0 = true ∧ d.depth ≤ 2 := by
  unfold ruleD at h
  split at h
  · simp only [Bool.and_eq_true] at h
    have e := strIs_is h.1
    subst e
    obtain ⟨b1, b2⟩ := say_lay hn h.2.1
    obtain ⟨c1, c2⟩ := say_lay hn h.2.2
    have o : PyData.strOk ("one" : Str) = true := by decide +kernel
    refine ⟨by simp [PyData.canLay0, PyData.canLayAll0, b1, c1, o], ?_⟩
    simp only [PyData.depth, PyData.depthAll]
    omega
  · simp only [Bool.and_eq_true] at h
    obtain ⟨a1, a2⟩ := inS_lay pairs_ok h.1
    obtain ⟨b1, b2⟩ := inS_lay hn h.2.1
    obtain ⟨c1, c2⟩ := inS_lay hn h.2.2.1
    obtain ⟨e1, e2⟩ := whole_lay h.2.2.2.2
    refine ⟨by simp [PyData.canLay0, PyData.canLayAll0, a1, b1, c1, e1], ?_⟩
    simp only [PyData.depth, PyData.depthAll]
    omega
  · cases h
theorem shaped_of {d : PyData} (h : d.canLay0 = true) (hd : d.depth ≤ 64) : SeqAt.shaped d = true := by
  unfold SeqAt.shaped
  rw [Bool.and_eq_true]
  exact ⟨h, decide_eq_true hd⟩
theorem all_lay : ∀ {ds : List PyData}, (∀ d ∈ ds, d.canLay0 = true ∧ d.depth ≤ 2) → PyData.canLayAll0 ds = true ∧ PyData.depthAll ds ≤ 2
  | [], _ => ⟨by simp only [PyData.canLayAll0], by simp [PyData.depthAll]⟩
  | d :: ds, h => by
    obtain ⟨a1, a2⟩ := h d List.mem_cons_self
    obtain ⟨b1, b2⟩ := all_lay fun e he => h e (List.mem_cons_of_mem _ he)
    refine ⟨by simp [PyData.canLayAll0, a1, b1], ?_⟩
    simp only [PyData.depthAll]
    omega
theorem noDict_of {d : PyData} (h : d.canLay0 = true) : d.hasDict = false := PyData.hasDict_of_canLay d h
theorem TrAll.take {H : Hp} : ∀ {xs : List V} {ds : List PyData} (n : Nat), TrAll H xs ds → TrAll H (xs.take n) (ds.take n)
  | _, _, 0, _ => .nil
  | _, _, _ + 1, .nil => .nil
  | _, _, n + 1, .cons h t => .cons h (TrAll.take n t)
theorem fRule_cons (ns : List Str) (k : Nat) (past : List PyData) (r : PyData) (rs : List PyData) : fRule ns k past (r :: rs) = if ruleD ns r = true then (if (past.any fun z => PyData.eqv z r) = true then some k else fRule ns (k + 1) (past ++ [r]) rs) else some k := rfl
theorem cut_take {xs : List V} {i : Nat} (h : i < xs.length) : cutV xs none (some (i : Int)) = xs.take i := by
  unfold cutV
  rw [HT.sIx_none, HT.sIx_nat]
  rw [Nat.min_eq_left (Nat.le_of_lt h), List.drop_zero, Nat.sub_zero]
def spFRule : Sp := fun vs H Q _ => ∃ (a b : Addr) (ns : List Str) (xs : List V) (rs : List PyData), vs = [.ref b, .ref a] ∧ H b = some (.lst (ns.map V.str)) ∧ (∀ z ∈ ns, PyData.strOk z = true) ∧ H a = some (.tup xs) ∧ TrAll H xs rs ∧ xs.length ≤ 1000 ∧ ∀ H', Same H H' → Q (optV (fRule ns 0 [] rs)) H'
section
variable {P : Program} {w : World} {K : PySem.W.Frag} {mg : Str → Option Value} {base : Heap} {W S R Pt : Addr}
end
end Pk
namespace Pk
open PySem L2
def isN : PyData → Bool
  | .none => true
  | _ => false
theorem Tr.isN {H : Hp} {v : V} {d : PyData} (t : Tr H v d) : decide (v = .non) = Pk.isN d := by
  cases t <;> simp [Pk.isN]
def spFault (Pt : Addr) : Sp := fun vs H Q _ => ∃ (x : V) (d : PyData), vs = [x] ∧ Tr H x d ∧ GxR.TabG H Pt ∧ okS d = true ∧ ∀ v H', Gr Pt H H' → Tr H' v (faultD d) → Q v H'
def spHouse (Pt : Addr) : Sp := fun vs H Q _ => ∃ (x : V) (d : PyData), vs = [x] ∧ Tr H x d ∧ GxR.TabG H Pt ∧ okS d = true ∧ ∀ H', Gr Pt H H' → Q (.bl (isN (faultD d))) H'
theorem fDial_none : ∀ {ds : List PyData} {k : Nat} {p : Option Str}, fDial k p ds = none → ∀ d ∈ ds, dialD d = true
  | [], _, _, _, d, h => absurd h (by simp)
  | d :: ds, k, p, e, d', h => by
    rw [fDial_cons] at e
    by_cases c : dialD d = true
    · rw [if_pos c] at e
      have rest : ∀ {o : Option Str}, fDial (k + 1) o ds = none → dialD d' = true := fun {o} e2 => by
        rcases List.mem_cons.mp h with h | h
        · rw [h]; exact c
        · exact fDial_none e2 d' h
      cases p with
      | none => exact rest e
      | some p =>
        simp only at e
        by_cases c2 : leS (nameOf d) p = true
        · rw [if_pos c2] at e
          cases e
        · rw [if_neg c2] at e
          exact rest e
    · rw [if_neg c] at e
      cases e
theorem name_ok {d : PyData} (h : dialD d = true) : PyData.strOk (nameOf d) = true := by
  unfold dialD at h
  split at h
  · rename_i n lo hi way up down
    simp only [Bool.and_eq_true] at h
    cases n with
    | str z =>
      have h1 := h.1
      rw [nameD_str] at h1
      simp only [Bool.and_eq_true] at h1
      show PyData.strOk z = true
      unfold PyData.strOk
      have h2 := h1.2.2
      rw [Array.all_toList] at h2
      rw [Array.all_eq_true] at h2 ⊢
      intro i hi
      have q := h2 i hi
      simp only [smallC, Bool.and_eq_true, decide_eq_true_eq] at q
      simp only [decide_eq_true_eq]
      omega
    | _ => cases h.1
  · cases h
theorem form_is {d : PyData} (h : formD d = true) : ∃ ds rs, d = .tuple [.tuple ds, .tuple rs] ∧ ds.length ≤ 12 ∧ rs.length ≤ 40 := by
  unfold formD at h
  split at h
  · rename_i a b
    simp only [Bool.and_eq_true] at h
    cases a with
    | tuple ds =>
      cases b with
      | tuple rs =>
        have h1 := h.1
        have h2 := h.2
        simp only [tupD, Bool.and_eq_true, decide_eq_true_eq] at h1 h2
        exact ⟨ds, rs, rfl, by omega, by omega⟩
      | _ => cases h.2
    | _ => cases h.1
  · cases h
section
variable {P : Program} {w : World} {K : PySem.W.Frag} {mg : Str → Option Value} {base : Heap} {W S R Pt : Addr}
end
end Pk
section
set_option maxHeartbeats 1000000
/-! Rules of my own: a list beside the empty one; a truth as a number; a tuple turned about; not in a list of data. -/
namespace Pk
open PySem L2
section
variable {X : Cx}
theorem op_eqNil (hu : X.A.units < cLine) : OpR X (compareOp .Eq) (fun x y H Q => ∃ (a b : Addr) (xs : List V), x = .ref a ∧ y = .ref b ∧ SqL X.K H a xs ∧ SqL X.K H b [] ∧ Q (.bl xs.isEmpty) H) := by
  intro pz s σ H x y v u Q I rx ry h
  obtain ⟨a, b, xs, rfl, rfl, ha, hb, q⟩ := h
  cases rx
  cases ry
  obtain ⟨its, r, hl, _⟩ := I.list ha
  obtain ⟨its2, r2, hl2, _⟩ := I.list hb
  cases r2
  cases r with
  | nil => exact SeqAt.eq_listAt (e := fun _ => true) hl.isList hl2.isList rfl hu (fun j h1 => absurd h1 (by simp)) ⟨.bl true, H, I, rfl, q⟩
  | cons _ _ => exact SeqAt.eq_list_lengthsAt hl.isList hl2.isList (by simp) hu ⟨.bl false, H, I, rfl, q⟩
theorem op_neNil (hu : X.A.units < cLine) : OpR X (compareOp .NotEq) (fun x y H Q => ∃ (a b : Addr) (xs : List V), x = .ref a ∧ y = .ref b ∧ SqL X.K H a xs ∧ SqL X.K H b [] ∧ Q (.bl (!xs.isEmpty)) H) := by
  intro pz s σ H x y v u Q I rx ry h
  obtain ⟨a, b, xs, rfl, rfl, ha, hb, q⟩ := h
  cases rx
  cases ry
  obtain ⟨its, r, hl, _⟩ := I.list ha
  obtain ⟨its2, r2, hl2, _⟩ := I.list hb
  cases r2
  cases r with
  | nil => exact SeqAt.RcNeAt.lists (e := fun _ => true) hl.isList hl2.isList rfl hu (fun j h1 => absurd h1 (by simp)) X.prog X.w X.xe _ ⟨.bl false, H, I, rfl, q⟩
  | cons _ _ => exact SeqAt.RcNeAt.lists_lengths hl.isList hl2.isList (by simp) hu X.prog X.w X.xe _ ⟨.bl true, H, I, rfl, q⟩
/-- a number, or a truth as one -/
def numV : V → Option Int
  | .int i => some i
  | .bl b => some (if b = true then 1 else 0)
  | _ => none
theorem op_addN : OpR X (binaryOp .Add) (fun x y H Q => ∃ i j, numV x = some i ∧ y = .int j ∧ Q (.int (i + j)) H) := by
  intro pz s σ H x y v u Q I rx ry h
  obtain ⟨i, j, hx, rfl, q⟩ := h
  cases x with
  | int n =>
    cases hx
    exact op_add pz s σ H _ _ v u Q I rx ry ⟨_, _, rfl, rfl, q⟩
  | bl b =>
    cases hx
    cases rx
    obtain ⟨t, rfl⟩ := ry
    exact PySem.IntBool.add_bool_int ⟨.int _, H, I.tok _, ⟨_, rfl⟩, q⟩
  | _ => cases hx
theorem op_subN : OpR X (binaryOp .Sub) (fun x y H Q => ∃ i j, numV x = some i ∧ y = .int j ∧ Q (.int (i - j)) H) := by
  intro pz s σ H x y v u Q I rx ry h
  obtain ⟨i, j, hx, rfl, q⟩ := h
  cases x with
  | int n =>
    cases hx
    exact op_sub pz s σ H _ _ v u Q I rx ry ⟨_, _, rfl, rfl, q⟩
  | bl b =>
    cases hx
    cases rx
    obtain ⟨t, rfl⟩ := ry
    exact PySem.IntBool.sub_bool_int ⟨.int _, H, I.tok _, ⟨_, rfl⟩, q⟩
  | _ => cases hx
theorem op_subM : OpR X (binaryOp .Sub) (fun x y H Q => ∃ i j, x = .int i ∧ numV y = some j ∧ Q (.int (i - j)) H) := by
  intro pz s σ H x y v u Q I rx ry h
  obtain ⟨i, j, rfl, hy, q⟩ := h
  cases y with
  | int n =>
    cases hy
    exact op_sub pz s σ H _ _ v u Q I rx ry ⟨_, _, rfl, rfl, q⟩
  | bl b =>
    cases hy
    cases ry
    obtain ⟨t, rfl⟩ := rx
    exact PySem.IntBool.sub_int_bool ⟨.int _, H, I.tok _, ⟨_, rfl⟩, q⟩
  | _ => cases hy
/-- the text of a number, or of a truth -/
def textV : V → Str
  | .int i => toString i
  | .bl b => if b then "True" else "False"
  | _ => ""
theorem call_strN : CallR X (.type "str") (fun xs H Q => ∃ x i, xs = [x] ∧ numV x = some i ∧ i.natAbs.log2 < 1920 ∧ Q (.str (textV x)) H) := by
  intro pz s σ H xs us Q I r h
  obtain ⟨x, i, rfl, hx, hz, q⟩ := h
  cases x with
  | int n =>
    cases hx
    exact call_str_int pz s σ H _ us Q I r ⟨_, rfl, hz, q⟩
  | bl b =>
    obtain ⟨u, rfl, r1⟩ := vals1 r
    cases r1
    exact PySem.P.str_of_bool ⟨.str _, H, I.tok _, ⟨_, rfl⟩, q⟩
  | _ => cases hx
end
end Pk
namespace Pk
open PySem PySem.Spec PyProof.Rows L2 HT
section
variable {prog : Program} {w : World} {A : Around} {E : Value → Shared → Prop} {s : Shared}
theorem applied_rev {sl : Addr} {vs : Value} {n : Nat} {Q : Int × Int × Nat → Shared → Prop} (hs : s.heap.IsSliceOf sl .none .none vs) (ps : IsPart vs (some (-1)))
    (h : Q ((n : Int) - 1, -1, n) s) : wpAny (model prog w) A (Builtin.Slice.sliceApplied (.ref sl) (pure (n : Int))) Q E s := by
  obtain ⟨os, hos, hcs, hds⟩ := id hs
  unfold Builtin.Slice.sliceApplied Builtin.Slice.sliceFields
  refine wpAny_bind (wpAny_bind (wpAny_field hos hds (x := .none) rfl (wpAny_bind (wpAny_field hos hds (x := .none) rfl (wpAny_bind (wpAny_field hos hds (x := vs) rfl (wpAny_pure ?_)))))))
  refine wpAny_bind (slicePart_ ps ?_)
  show wpAny _ _ (if ((-1 : Int) == 0) = true then _ else _) _ _ s
  rw [if_neg (by decide)]
  refine wpAny_bind (slicePart_none (wpAny_bind (slicePart_none (wpAny_bind (wpAny_pure ?_)))))
  show wpAny _ _ (pure ((n : Int) - 1, (-1 : Int), Builtin.Slice.slicePlaces ((n : Int) - 1) (-1) (-1))) _ _ s
  have e : Builtin.Slice.slicePlaces ((n : Int) - 1) (-1) (-1) = n := by
    unfold Builtin.Slice.slicePlaces
    rw [if_neg (by decide)]
    by_cases h : (n : Int) - 1 > -1
    · rw [if_pos h, show (-(-1) : Int) = 1 by decide, Int.ediv_one]
      omega
    · rw [if_neg h]
      omega
  rw [e]
  exact wpAny_pure h
theorem filterMap_same {α β : Type} {f g : α → Option β} : ∀ {l : List α}, (∀ x ∈ l, f x = g x) → l.filterMap f = l.filterMap g
  | [], _ => rfl
  | x :: l, h => by
    rw [List.filterMap_cons, List.filterMap_cons, h x List.mem_cons_self, filterMap_same fun y hy => h y (List.mem_cons_of_mem _ hy)]
theorem pick_rev (xs : Array Value) : ((List.range xs.size).filterMap fun (m : Nat) => xs[(((xs.size : Int) - 1) + (m : Int) * (-1)).toNat]?).toArray = xs.toList.reverse.toArray := by
  have e := PySem.W.krv_pick xs
  unfold slicePick at e
  rw [PySem.W.krv_bounds] at e
  rw [← e]
  show _ = ((sliceRange ((xs.size : Int) - 1) (-1) (-1)).filterMap (xs[·]?)).toArray
  rw [PySem.W.krv_sliceRange, List.filterMap_map]
  congr 1
  apply filterMap_same
  intro m hm
  have := List.mem_range.mp hm
  show xs[_]? = xs[xs.size - 1 - m]?
  congr 1
  omega
theorem getItem_tup_rev {t sl : Addr} {items : Array Value} {vs : Value} {Q : Value → Shared → Prop} (ht : IsTup s.heap t items) (hs : s.heap.IsSliceOf sl .none .none vs) (ps : IsPart vs (some (-1)))
    (h : Q (.ref s.heap.objs.size) { s with heap := s.heap.push { cls := .type "tuple", data := .seq items.toList.reverse.toArray } })
    (hsz : items.size ≤ sizeLine) : wpAny (model prog w) A (getItem (.ref t) (.ref sl)) Q E s := by
  have htake : sizeOk (.seq items.toList.reverse.toArray) := by
    show items.toList.reverse.toArray.size ≤ sizeLine
    rw [List.size_toArray, List.length_reverse, Array.length_toList]
    omega
  obtain ⟨os, hos, hcs, hds⟩ := id hs
  have hTs : s.TypeIs (.ref sl) "slice" := ⟨os, hos, hcs⟩
  unfold getItem
  try with_reducible refine wpAny_holding ?_
  first | refine wpAny_bind (wpAny_pure ?_) | skip
  refine wpAny_bind (wpAny_sequenceKey ht.typeIs (by decide) ?_)
  refine wpAny_bind (wpAny_callSpecial?_slot (name := Str.ofString "__getitem__") ht.typeIs PyProof.Rows.slot_tuple_getitem
    (wpAny_call_entry PyProof.Rows.slot_tuple_getitem ht.typeIs entry_tuple_getitem ?_ (args_tuple_getitem _ _)))
  show wpAny _ _ (Builtin.Tuple.tupleItemsOf (.ref t) >>= _) _ _ s
  refine wpAny_bind (tupleItemsOf_ ht ?_)
  refine wpAny_bind (wpAny_typeOf hTs ?_)
  rw [if_pos (by decide)]
  refine wpAny_bind (applied_rev hs ps ?_)
  have hno : ¬ ((((items.size : Int) - 1) == 0 && (-1 : Int) == 1 && items.size == items.size) = true) := by simp
  show wpAny _ _ (if (((items.size : Int) - 1) == 0 && (-1 : Int) == 1 && items.size == items.size) = true then _ else _) _ _ s
  rw [if_neg hno, pick_rev]
  first
    | exact wpAny_bind (m := Builtin.Tuple.tupleExact _) (wpAny_newObj_type (wpAny_pure ⟨_, rfl, wpAny_pure h⟩) htake)
    | exact wpAny_bind (m := Builtin.Tuple.tupleExact _) (wpAny_newObj_type (wpAny_bind (wpAny_pure (wpAny_pure ⟨_, rfl, wpAny_pure h⟩))) htake)
    | exact wpAny_bind (wpAny_bind (m := Builtin.Tuple.tupleExact _) (wpAny_newObj_type (wpAny_pure (wpAny_pure ⟨_, rfl, wpAny_pure h⟩)) htake))
    | exact wpAny_bind (wpAny_bind (m := Builtin.Tuple.tupleExact _) (wpAny_newObj_type (wpAny_pure ⟨_, rfl, wpAny_pure h⟩) htake))
end
section
variable {X : Cx}
/-- t[::-1], t a tuple -/
def tRevT (K : PySem.W.Frag) (te : TE) : TE := fun σ H Q => te σ H fun x H1 => ∃ a xs, x = .ref a ∧ SqT K H1 a xs ∧ ∀ p, H1 p = none → Q (.ref p) (upd H1 p (.tup xs.reverse))
theorem pe_revT {e : Expr} {te : TE} {k : Nat} {p1 p2 p3 pos : Pos} (he : PE X e te) : PE X (.Subscript e (.Slice none none (some (.UnaryOp .USub (.Constant (.int 1) k p1) p2)) p3) pos) (tRevT X.K te) := by
  refine ⟨fun pins s σ H Q I h => ?_⟩
  refine Subscript_ (thn (he.run pins s σ H _ I h) fun v s1 ⟨x, H1, I1, r1, q1⟩ => ?_)
  obtain ⟨a, xs, ex, hx, q⟩ := q1
  subst ex
  cases r1
  have hst : PO X (some (.UnaryOp .USub (.Constant (.int 1) k p1) p2)) (tPart (tUn (rU fun i => .int (-i)) (tC (.int 1)))) := po_some (pe_un un_neg pe_int)
  refine wpAny_Slice (thn (po_none.run pins s1 σ H1 (fun o H2 => o = none ∧ H2 = H1) I1 ⟨rfl, rfl⟩) fun vl s2 ⟨l, H2, I2, pl, el, e2⟩ => ?_)
  subst el e2
  refine thn (po_none.run pins s2 σ H2 (fun o H3 => o = none ∧ H3 = H2) I2 ⟨rfl, rfl⟩) fun vu s3 ⟨u, H3, I3, pu, eu, e3⟩ => ?_
  subst eu e3
  refine thn (hst.run pins s3 σ H3 (fun o H4 => o = some (-1) ∧ H4 = H3) I3 ⟨1, rfl, -1, rfl, rfl, rfl⟩) fun vs s4 ⟨o, H4, I4, ps, eo, e4⟩ => ?_
  subst eo e4
  cases pl
  cases pu
  have I5 : L2.Inv X pins σ H4 { s4 with heap := s4.heap.push { cls := .type "slice", data := .fields #[.none, .none, vs] } } := I4.kept (t' := s4.toks) fun b ob q => Heap.get?_push_of_some _ q
  obtain ⟨its, r, ht, hz⟩ := I5.tuple hx
  have hlen := r.length
  show wpAny (model X.prog X.w) X.A (subscriptTail e (.Slice none none (some (.UnaryOp .USub (.Constant (.int 1) k p1) p2)) p3) (.ref a) (.ref s4.heap.objs.size)) (EP X pins σ Q) X.xe _
  refine tail_any (ops := [.ref a, .ref s4.heap.objs.size]) ht.typeIs (PyProof.Rows.slot_tuple_getitem.lookup) ?_ (by with_unfolding_all rfl)
  refine getItem_tup_rev ht (Heap.IsSliceOf.new _ .none .none vs) ps ?_ (by rw [List.size_toArray]; omega)
  refine ⟨.ref _, _, I5.laid (t' := s4.toks) (o := .tup xs.reverse) (fun b ob q => Heap.get?_push_of_some _ q) (Nat.le_refl _) ?_, rfl, q _ (I5.hok.fresh (Nat.le_refl _))⟩
  exact ⟨by rw [List.length_reverse]; exact hz, _, r.reverse, IsTup.new _ _⟩
end
end Pk
end
/-! The law's own look: the same as the mirror. -/
namespace Pk
open PySem L2
def letters : Str := "abcdefghijklmnopqrstuvwxyz"
theorem lettersL : letters.cps.toList = List.range' 97 26 := by decide +kernel
theorem in_letters (c : Nat) : decide (c ∈ letters.cps.toList) = smallC c := by
  rw [lettersL]
  unfold smallC
  by_cases h1 : 97 ≤ c <;> by_cases h2 : c ≤ 122 <;> simp [List.mem_range'_1, h1, h2] <;> omega
def spLName : Sp := fun vs H Q _ => ∃ (x : V) (d : PyData), vs = [x] ∧ Tr H x d ∧ okS d = true ∧ ∀ H', Same H H' → Q (.bl (nameD d)) H'
def spLDial : Sp := fun vs H Q _ => ∃ (x : V) (d : PyData), vs = [x] ∧ Tr H x d ∧ okS d = true ∧ ∀ H', Same H H' → Q (.bl (dialD d)) H'
def spLSay : Sp := fun vs H Q _ => ∃ (a : Addr) (ns : List Str) (x : V) (d : PyData), vs = [.ref a, x] ∧ H a = some (.lst (ns.map V.str)) ∧ Tr H x d ∧ ∀ H', Same H H' → Q (.bl (sayingD ns d)) H'
def spLRule : Sp := fun vs H Q _ => ∃ (a : Addr) (ns : List Str) (x : V) (d : PyData), vs = [.ref a, x] ∧ H a = some (.lst (ns.map V.str)) ∧ Tr H x d ∧ ∀ H', Same H H' → Q (.bl (ruleD ns d)) H'
theorem e18 : (10 : Int) ^ (18 : Int).toNat = farS := by decide +kernel
theorem e20 : (10 : Int) ^ (20 : Int).toNat = greatS := by decide +kernel
theorem e6 : (10 : Int) ^ (6 : Int).toNat = 1000000 := by decide +kernel
section
variable {P : Program} {w : World} {K : PySem.W.Frag} {mg : Str → Option Value} {base : Heap}
end
end Pk
namespace Pk
open PySem L2
abbrev sPen : Stmt := topH 31
abbrev sDraw : Stmt := topH 32
abbrev sPick : Stmt := topH 33
abbrev sSay : Stmt := topH 36
abbrev sLaw : Stmt := topH 44
theorem small {n : Nat} (h : n ≤ 1000) : n ≤ sizeLine := Nat.le_of_lt (small1000 h)
/-- all but p stays -/
def Sb (p : Addr) (H H' : Hp) : Prop := Same (del H p) (del H' p)
theorem Sb.of {p : Addr} {H H' : Hp} (h : ∀ b o, b ≠ p → H b = some o → H' b = some o) : Sb p H H' := fun b o e => by
  by_cases hb : b = p
  · subst hb
    rw [del_same] at e
    cases e
  · rw [del_ne hb] at e ⊢
    exact h b o hb e
theorem Sb.to {p : Addr} {H H' : Hp} (s : Sb p H H') {b : Addr} {o : HO} (hb : b ≠ p) (e : H b = some o) : H' b = some o := by
  have z := s b o (by rw [del_ne hb]; exact e)
  rw [del_ne hb] at z
  exact z
theorem Sb.same {p : Addr} {H H' : Hp} (s : Same H H') : Sb p H H' := .of fun b o _ e => s b o e
theorem Sb.trans {p : Addr} {H H1 H2 : Hp} (a : Sb p H H1) (b : Sb p H1 H2) : Sb p H H2 := Same.trans a b
theorem Sb.refl (p : Addr) (H : Hp) : Sb p H H := Same.refl _
theorem Sb.upd {p : Addr} {H : Hp} (o : HO) : Sb p H (upd H p o) := .of fun b u hb e => by rw [upd_ne hb]; exact e
/-- what stands apart from p stands -/
theorem delSame {p : Addr} {H : Hp} : Same (del H p) H := fun b o e => by
  by_cases hb : b = p
  · subst hb
    rw [del_same] at e
    cases e
  · rw [del_ne hb] at e
    exact e
theorem delNew {H : Hp} {p q : Addr} (h : p ≠ q) (hq : H q = none) (o : HO) : del (upd H q o) p q = some o := by
  rw [del_ne h.symm, upd_same]

/-- the pen: its cells at c, the turn, what is left of a great cell -/
abbrev penL (c : Addr) (t r : Int) : List V := [.ref c, .int t, .int r]
structure PenAt (H : Hp) (p c : Addr) (ns : List Int) (t r : Int) : Prop where
  at_ : H p = some (.lst (penL c t r))
  cells : H c = some (.lst (ns.map V.int))
  ne : c ≠ p
  len : ns.length ≤ 63
  t0 : 0 ≤ t
  r0 : 0 ≤ r
theorem PenAt.upd {H : Hp} {p c : Addr} {ns : List Int} {t r t' r' : Int} (P : PenAt H p c ns t r) (h1 : 0 ≤ t') (h2 : 0 ≤ r') : PenAt (upd H p (.lst (penL c t' r'))) p c ns t' r' :=
  ⟨upd_same, by rw [upd_ne P.ne]; exact P.cells, P.ne, P.len, h1, h2⟩
theorem PenAt.same {H H' : Hp} {p c : Addr} {ns : List Int} {t r : Int} (P : PenAt H p c ns t r) (s : Same H H') : PenAt H' p c ns t r := ⟨s _ _ P.at_, s _ _ P.cells, P.ne, P.len, P.t0, P.r0⟩
/-- a cell -/
theorem atCell {ns : List Int} {k : Int} (h0 : 0 ≤ k) (h : k < (ns.length : Int)) : ∃ v : Int, atI (ns.map V.int) k = some (.int v) := by
  have hk : k.toNat < ns.length := by omega
  have ek : k = ((k.toNat : Nat) : Int) := by omega
  have q : atI (ns.map V.int) ((k.toNat : Nat) : Int) = some (.int ns[k.toNat]) := atI_nat (by rw [List.getElem?_map, List.getElem?_eq_getElem hk] <;> rfl)
  rw [← ek] at q
  exact ⟨_, q⟩

theorem modB {a q : Int} (h : 0 < q) : 0 ≤ a % q ∧ a % q < q := ⟨Int.emod_nonneg a (by omega), Int.emod_lt_of_pos a h⟩
theorem mulL {i j : Int} (h1 : -18446744073709551616 < i) (h2 : i < 18446744073709551616) : CMul i j := .inl ⟨h1, h2⟩
theorem mulR {i j : Int} (h1 : -18446744073709551616 < j) (h2 : j < 18446744073709551616) : CMul i j := .inr ⟨h1, h2⟩
/-! ### promises -/
/-- _law_draw: a number below many; the pen goes on -/
theorem log_m {m : Int} (h1 : 1 ≤ m) (h2 : m ≤ 2000000000000000000) : m.natAbs.log2 < 9000 := by
  have h3 : m.natAbs ≠ 0 := by omega
  have h4 : m.natAbs.log2 < 64 := (Nat.log2_lt h3).mpr (by have : m.natAbs ≤ 2000000000000000000 := by omega
                                                           omega)
  omega
def spDraw : Sp := fun vs H Q _ => ∃ (p c : Addr) (ns : List Int) (t r m : Int), vs = [.ref p, .int m] ∧ PenAt H p c ns t r ∧ t ≤ 1000000000 ∧ 1 ≤ m ∧ m ≤ 2000000000000000000 ∧
  ∀ (v t' r' : Int) (H' : Hp), 0 ≤ v → v < m → t' ≤ t + 1 → PenAt H' p c ns t' r' → Sb p H H' → Q (.int v) H'
structure Blt (mg : Str → Option Value) : Prop where
  len : mg "len" = none
  abs : mg "abs" = none
  list : mg "list" = none
  tuple : mg "tuple" = none
  dict : mg "dict" = none
  isinstance : mg "isinstance" = none
  range : mg "range" = none
  repr : mg "repr" = none
  sorted : mg "sorted" = none
  min : mg "min" = none
  max : mg "max" = none
  int : mg "int" = none
  str : mg "str" = none
section
variable {P : Program} {w : World} {K : PySem.W.Frag} {mg : Str → Option Value} {base : Heap}
abbrev nDraw : List Str := ["_law_pen_here", "_law_many", "_law_found", "_law_at", "_law_cell", "_law_number"]
theorem scDraw : FnScope nDraw ["_law_pen_here", "_law_many"] (defScope sDraw) := ⟨rfl, rfl, rfl, by decide +kernel, rfl, by decide +kernel, by decide +kernel⟩
set_option maxHeartbeats 4000000 in
theorem ok_draw {f : Addr} {fd : FuncData} (F : Fun K "_law_draw" "_law_draw" sDraw f fd) (B : Blt mg) : FnOk P w K mg base CX0 1 f fd ["_law_pen_here", "_law_many"] spDraw := by
  refine F.ok scDraw (fun vs H Q E h => ?_) (fun cdv A outer s H vs Q E hr h => ?_)
  · obtain ⟨p, c, ns, t, r, m, rfl, _⟩ := h
    rfl
  obtain ⟨p, c, ns, t, r, m, rfl, pen, ht, hm1, hm2, k⟩ := h
  refine ⟨_, pss_cons (ps_if (pt_cmpR op_gt (pe_ix ix_list (pv 0) pe_int (fun _ _ => rfl)) pe_int (nomark _))
      (pss_cons (ps_set (i := 2) scDraw.nd rfl (.inl rfl) (pe_op op_mod (pe_ix ix_list (pv 0) pe_int (fun _ _ => rfl)) (pv 1)))
      (pss_cons (ps_asg (pe_op op_fdivW (pe_ix ix_list (pv 0) pe_int (fun _ _ => rfl)) (pv 1)) (pg_sub (pv 0) pe_int set_list))
      (pss_one (ps_ret (pv 2))))) pss_nil) <|
    pss_cons (ps_set (i := 3) scDraw.nd rfl (.inl rfl) (pe_ix ix_list (pv 0) pe_int (fun _ _ => rfl))) <|
    pss_cons (ps_asg (pe_op op_add (pv 3) pe_int) (pg_sub (pv 0) pe_int set_list)) <|
    pss_cons (ps_set (i := 4) scDraw.nd rfl (.inl rfl) pe_int) <|
    pss_cons (ps_if (pt_cmpR op_gt (pe_callB call_len_seq (by rfl) B.len PySem.boot_len (pa_cons (pe_ix ix_list (pv 0) pe_int (fun _ _ => rfl)) pa_nil)) pe_int (nomark _))
      (pss_one (ps_set (i := 4) scDraw.nd rfl (.inl rfl) (pe_callB call_abs (by rfl) B.abs (by decide +kernel) (pa_cons (pe_ix ix_list (pe_ix ix_list (pv 0) pe_int (fun _ _ => rfl)) (pe_op op_mod (pv 3) (pe_callB call_len_seq (by rfl) B.len PySem.boot_len (pa_cons (pe_ix ix_list (pv 0) pe_int (fun _ _ => rfl)) pa_nil))) (fun _ _ => rfl)) pa_nil)))) pss_nil) <|
    pss_cons (ps_if (PW.pt (pw_and (pt_cmpR op_lt (pv 3) (pe_callB call_len_seq (by rfl) B.len PySem.boot_len (pa_cons (pe_ix ix_list (pv 0) pe_int (fun _ _ => rfl)) pa_nil)) (nomark _))
        (pw_and1 (pt_cmpR op_ge (pv 4) (pe_op op_pow pe_int pe_int) (nomark _)))))
      (pss_cons (ps_asg (pe_op op_fdivW (pe_op op_sub (pv 4) (pe_op op_pow pe_int pe_int)) (pv 1)) (pg_sub (pv 0) pe_int set_list))
      (pss_one (ps_ret (pe_op op_mod (pe_op op_sub (pv 4) (pe_op op_pow pe_int pe_int)) (pv 1))))) pss_nil) <|
    pss_cons (ps_set (i := 5) scDraw.nd rfl (.inl rfl) (pe_op op_mod (pe_op op_mul (pe_op op_add (pe_op op_mod (pv 4) pe_int) pe_int) (pe_op op_add (pe_op op_add (pe_op op_mul (pv 3) (pv 3)) (pe_op op_mul pe_int (pv 3))) pe_int)) pe_int)) <|
    pss_cons (ps_set (i := 5) scDraw.nd rfl (.inl rfl) (pe_op op_mod (pe_op op_mul (pe_op op_mod (pe_op op_add (pe_op op_pow (pv 5) pe_int) (pe_op op_mul pe_int (pv 3))) pe_int) pe_int) pe_int)) <|
    pss_one (ps_ret (pe_op op_mod (pe_op op_fdiv (pv 5) pe_int) (pv 1))), ?_⟩
  -- is something left
  refine ⟨_, rfl, p, _, _, _, rfl, rfl, SqL.of pen.at_, (rfl : atI (penL c t r) 2 = some (.int r)), _, _, rfl, rfl, _, rfl, ?_⟩
  refine ite2 (fun cz => ?_) (fun cz => ?_)
  · refine ⟨_, rfl, p, _, _, _, rfl, rfl, SqL.of pen.at_, (rfl : atI (penL c t r) 2 = some (.int r)), _, rfl, _, _, rfl, rfl, (show (0 : Int) < m by omega), ?_⟩
    refine ⟨_, rfl, p, _, _, _, rfl, rfl, SqL.of pen.at_, (rfl : atI (penL c t r) 2 = some (.int r)), _, rfl, _, _, rfl, rfl, (show CDivW _ m from ⟨by omega, log_m hm1 hm2⟩), _, rfl, p, _, _, 2, rfl, rfl, pen.at_, rfl, ?_⟩
    refine ⟨_, rfl, ?_⟩
    exact k _ t (r / m) _ (Int.emod_nonneg _ (by omega)) (Int.emod_lt_of_pos _ (by omega)) (by omega) (pen.upd pen.t0 (Int.ediv_nonneg pen.r0 (by omega))) (Sb.upd _)
  -- a turn more
  refine ⟨_, rfl, p, _, _, _, rfl, rfl, SqL.of pen.at_, (rfl : atI (penL c t r) 1 = some (.int t)), ?_⟩
  refine ⟨_, rfl, _, _, rfl, rfl, _, rfl, p, _, _, 1, rfl, rfl, pen.at_, rfl, ?_⟩
  have pen1 : PenAt (upd H p (.lst ((penL c t r).set 1 (.int (t + 1))))) p c ns (t + 1) r := pen.upd (t' := t + 1) (r' := r) (by have := pen.t0; omega) pen.r0
  have s1 : Sb p H (upd H p (.lst ((penL c t r).set 1 (.int (t + 1))))) := Sb.upd _
  generalize upd H p (.lst ((penL c t r).set 1 (.int (t + 1)))) = H1 at pen1 s1 ⊢
  have hl : (ns.map V.int).length = ns.length := List.length_map _
  have ht0 := pen.t0
  refine ⟨_, rfl, p, _, _, _, rfl, rfl, SqL.of pen1.at_, (rfl : atI (penL c (t + 1) r) 0 = some (.ref c)), c, _, rfl, .inl (SqL.of pen1.cells), _, _, rfl, rfl, _, rfl, ?_⟩
  refine ite2 (fun cy => ?w1) (fun cy => ?w2)
  case' w1 =>
    have hne : 0 < ns.length := by
      have q := of_decide_eq_true cy
      rw [hl] at q
      omega
    have hb0 : 0 ≤ t % (ns.length : Int) := Int.emod_nonneg _ (by omega)
    have hb1 : t % (ns.length : Int) < (ns.length : Int) := Int.emod_lt_of_pos _ (by omega)
    obtain ⟨z, hz⟩ := atCell hb0 hb1
    refine ⟨_, rfl, p, _, _, _, rfl, rfl, SqL.of pen1.at_, (rfl : atI (penL c (t + 1) r) 0 = some (.ref c)), _, rfl, _, rfl, p, _, _, _, rfl, rfl, SqL.of pen1.at_, (rfl : atI (penL c (t + 1) r) 0 = some (.ref c)), c, _, rfl, .inl (SqL.of pen1.cells), _, _, rfl, rfl, (by show (0 : Int) < (((ns.map V.int).length : Nat) : Int); rw [hl]; omega), ?_⟩
    refine ⟨c, _, _, _, rfl, rfl, SqL.of pen1.cells, (by rw [hl]; exact hz), z, rfl, ?_⟩
    generalize (if z < 0 then -z else z) = cl
  case' w2 =>
    generalize (29 : Int) = cl
  all_goals
    -- a great cell
    refine ⟨_, rfl, _, rfl, p, _, _, _, rfl, rfl, SqL.of pen1.at_, (rfl : atI (penL c (t + 1) r) 0 = some (.ref c)), c, _, rfl, .inl (SqL.of pen1.cells), _, _, rfl, rfl, _, rfl, ?_⟩
    refine ite2 (fun cx => ?_) (fun cx => ?_)
    · refine ⟨_, rfl, _, _, rfl, rfl, ⟨by decide, by decide, by decide⟩, _, _, rfl, rfl, _, rfl, ?_⟩
      refine ite2 (fun cw => ?_) (fun cw => ?_)
      · have cw' := of_decide_eq_true cw
        refine ⟨_, rfl, _, _, rfl, rfl, ⟨by decide, by decide, by decide⟩, _, _, rfl, rfl, _, rfl, _, _, rfl, rfl, (show CDivW _ m from ⟨by omega, log_m hm1 hm2⟩), _, rfl, p, _, _, 2, rfl, rfl, pen1.at_, rfl, ?_⟩
        refine ⟨_, rfl, _, _, rfl, rfl, ⟨by decide, by decide, by decide⟩, _, _, rfl, rfl, _, rfl, _, _, rfl, rfl, (show (0 : Int) < m by omega), ?_⟩
        exact k _ (t + 1) _ _ (Int.emod_nonneg _ (by omega)) (Int.emod_lt_of_pos _ (by omega)) (by omega) (pen1.upd (by omega) (Int.ediv_nonneg (by omega) (by omega))) (s1.trans (Sb.upd _))
      · obtain ⟨z0, z1⟩ := modB (a := cl) (q := 2147483629) (by decide)
        refine ⟨_, rfl, _, _, rfl, rfl, (by show (0 : Int) < 2147483629; decide), _, _, rfl, rfl, _, rfl, _, rfl, _, _, rfl, rfl, mulL (by omega) (by omega), _, rfl, _, _, rfl, rfl, mulL (by decide) (by decide), _, _, rfl, rfl, _, _, rfl, rfl, _, _, rfl, rfl, mulL (by omega) (by omega), _, _, rfl, rfl, (by show (0 : Int) < 2147483647; decide), ?_⟩
        have x3 : CPow ((cl % 2147483629 + 31) * (t * t + 5 * t + 11) % 2147483647) 3 := by
          obtain ⟨x0, x2⟩ := modB (a := (cl % 2147483629 + 31) * (t * t + 5 * t + 11)) (q := 2147483647) (by decide)
          generalize (cl % 2147483629 + 31) * (t * t + 5 * t + 11) % 2147483647 = x1 at x0 x2 ⊢
          exact ⟨by decide, by decide, by omega⟩
        refine ⟨_, rfl, _, _, rfl, rfl, x3, _, rfl, _, _, rfl, rfl, mulL (by decide) (by decide), _, _, rfl, rfl, _, _, rfl, rfl, (by show (0 : Int) < 2147483587; decide), _, _, rfl, rfl, mulR (by decide) (by decide), _, _, rfl, rfl, (by show (0 : Int) < 2147483399; decide), ?_⟩
        refine ⟨_, rfl, _, _, rfl, rfl, ⟨by decide, by decide⟩, _, rfl, _, _, rfl, rfl, (show (0 : Int) < m by omega), ?_⟩
        exact k _ (t + 1) r _ (Int.emod_nonneg _ (by omega)) (Int.emod_lt_of_pos _ (by omega)) (by omega) pen1 s1
    · obtain ⟨z0, z1⟩ := modB (a := cl) (q := 2147483629) (by decide)
      refine ⟨_, rfl, _, _, rfl, rfl, (by show (0 : Int) < 2147483629; decide), _, _, rfl, rfl, _, rfl, _, rfl, _, _, rfl, rfl, mulL (by omega) (by omega), _, rfl, _, _, rfl, rfl, mulL (by decide) (by decide), _, _, rfl, rfl, _, _, rfl, rfl, _, _, rfl, rfl, mulL (by omega) (by omega), _, _, rfl, rfl, (by show (0 : Int) < 2147483647; decide), ?_⟩
      have x3 : CPow ((cl % 2147483629 + 31) * (t * t + 5 * t + 11) % 2147483647) 3 := by
        obtain ⟨x0, x2⟩ := modB (a := (cl % 2147483629 + 31) * (t * t + 5 * t + 11)) (q := 2147483647) (by decide)
        generalize (cl % 2147483629 + 31) * (t * t + 5 * t + 11) % 2147483647 = x1 at x0 x2 ⊢
        exact ⟨by decide, by decide, by omega⟩
      refine ⟨_, rfl, _, _, rfl, rfl, x3, _, rfl, _, _, rfl, rfl, mulL (by decide) (by decide), _, _, rfl, rfl, _, _, rfl, rfl, (by show (0 : Int) < 2147483587; decide), _, _, rfl, rfl, mulR (by decide) (by decide), _, _, rfl, rfl, (by show (0 : Int) < 2147483399; decide), ?_⟩
      refine ⟨_, rfl, _, _, rfl, rfl, ⟨by decide, by decide⟩, _, rfl, _, _, rfl, rfl, (show (0 : Int) < m by omega), ?_⟩
      exact k _ (t + 1) r _ (Int.emod_nonneg _ (by omega)) (Int.emod_lt_of_pos _ (by omega)) (by omega) pen1 s1
end
end Pk
namespace Pk
open PySem L2
/-! ### the pen's state, and what stands apart from some addresses -/
def PenC (H : Hp) (p c : Addr) (n : Int) : Prop := ∃ ns t r, PenAt H p c ns t r ∧ t ≤ n
theorem PenC.same {H H' : Hp} {p c : Addr} {n : Int} (P : PenC H p c n) (s : Same H H') : PenC H' p c n := let ⟨ns, t, r, h, e⟩ := P; ⟨ns, t, r, h.same s, e⟩
theorem PenC.mono {H : Hp} {p c : Addr} {n m : Int} (P : PenC H p c n) (h : n ≤ m) : PenC H p c m := let ⟨ns, t, r, h1, e⟩ := P; ⟨ns, t, r, h1, by omega⟩
theorem PenC.upd {H : Hp} {p c D : Addr} {n : Int} (P : PenC H p c n) (hp : D ≠ p) (hc : D ≠ c) (o : HO) : PenC (L2.upd H D o) p c n := by
  obtain ⟨ns, t, r, h, e⟩ := P
  exact ⟨ns, t, r, ⟨by rw [upd_ne hp.symm]; exact h.at_, by rw [upd_ne hc.symm]; exact h.cells, h.ne, h.len, h.t0, h.r0⟩, e⟩
theorem PenC.atp {H : Hp} {p c : Addr} {n : Int} (P : PenC H p c n) : ∃ kv, H p = some (.lst kv) := let ⟨_, _, _, h, _⟩ := P; ⟨_, h.at_⟩
theorem PenC.atc {H : Hp} {p c : Addr} {n : Int} (P : PenC H p c n) : ∃ xs, H c = some (.lst xs) := let ⟨_, _, _, h, _⟩ := P; ⟨_, h.cells⟩
theorem PenC.newp {H : Hp} {p c D : Addr} {n : Int} (P : PenC H p c n) (h : H D = none) : D ≠ p := fun z => by
  obtain ⟨kv, e⟩ := P.atp
  rw [z, e] at h
  cases h
theorem PenC.newc {H : Hp} {p c D : Addr} {n : Int} (P : PenC H p c n) (h : H D = none) : D ≠ c := fun z => by
  obtain ⟨kv, e⟩ := P.atc
  rw [z, e] at h
  cases h
theorem PenC.tupp {H : Hp} {p c D : Addr} {n : Int} {xs : List V} (P : PenC H p c n) (h : H D = some (.tup xs)) : D ≠ p := fun z => by
  obtain ⟨kv, e⟩ := P.atp
  rw [z, e] at h
  cases h
/-- but p, what stood stands -/
theorem Sb.new {p : Addr} {H H' : Hp} {D : Addr} (s : Sb p H H') (hD : H D = none) (hp : D ≠ p) (o : HO) : Sb p H (L2.upd H' D o) := .of fun b u hb e => by
  rw [upd_ne (ne_of_none e hD)]
  exact s.to hb e
theorem Sb.free {p l : Addr} {H H' : Hp} (s : Sb p H H') (hp : l ≠ p) (h : H' l = none) : H l = none := by
  cases e : H l with
  | none => rfl
  | some o => rw [s.to hp e] at h; cases h
theorem ints10 : (10 : Int) ^ (18 : Int).toNat = 1000000000000000000 := by decide +kernel
/-- _law_draw -/
def spDrawC : Sp := fun vs H Q _ => ∃ (p c : Addr) (n m : Int), vs = [.ref p, .int m] ∧ PenC H p c n ∧ n ≤ 1000000000 ∧ 1 ≤ m ∧ m ≤ 2000000000000000000 ∧ ∀ (v : Int) (H' : Hp), 0 ≤ v → v < m → PenC H' p c (n + 1) → Sb p H H' → Q (.int v) H'
theorem draw_imp : ∀ vs H Q E, spDrawC vs H Q E → spDraw vs H Q E := by
  rintro vs H Q E ⟨p, c, n, m, rfl, ⟨ns, t, r, h, e⟩, hn, m1, m2, k⟩
  exact ⟨p, c, ns, t, r, m, rfl, h, by omega, m1, m2, fun v t' r' H' v0 v1 ht' h' sb => k v H' v0 v1 ⟨ns, t', r', h', by omega⟩ sb⟩
/-- _law_pick: of a list, a tuple, or of a text's signs -/
def spPickL : Sp := fun vs H Q _ => ∃ (p c l : Addr) (n : Int) (xs : List V), vs = [.ref p, .ref l] ∧ PenC H p c n ∧ n ≤ 1000000000 ∧ l ≠ p ∧ (H l = some (.lst xs) ∨ H l = some (.tup xs)) ∧ 1 ≤ xs.length ∧ xs.length ≤ 1000000 ∧
  ∀ (x : V) (H' : Hp), x ∈ xs → PenC H' p c (n + 1) → Sb p H H' → Q x H'
def spPickS : Sp := fun vs H Q _ => ∃ (p c : Addr) (n : Int) (z : Str), vs = [.ref p, .str z] ∧ PenC H p c n ∧ n ≤ 1000000000 ∧ 1 ≤ z.length ∧ z.length ≤ 1000000 ∧
  ∀ (x : Nat) (H' : Hp), x ∈ z.cps.toList → PenC H' p c (n + 1) → Sb p H H' → Q (.str ⟨#[x]⟩) H'
def spPick : Sp := fun vs H Q E => spPickL vs H Q E ∨ spPickS vs H Q E
theorem seqIx {i : Int} {n : Nat} (h0 : 0 ≤ i) (h1 : i < n) : seqIndex? i n = some i.toNat := by
  have e : ¬ i < 0 := by omega
  unfold seqIndex?
  simp only [e, if_false]
  rw [if_pos (by simp; omega)]
theorem erase_map {α β : Type} (f : α → β) : ∀ (l : List α) (i : Nat), (l.map f).eraseIdx i = (l.eraseIdx i).map f
  | [], _ => by simp
  | _ :: _, 0 => by simp
  | _ :: l, i + 1 => by simp [erase_map f l i]
theorem perm_erase {α : Type} : ∀ {l : List α} {i : Nat} (h : i < l.length), (l[i] :: l.eraseIdx i).Perm l
  | [], _, h => absurd h (by simp)
  | x :: l, 0, _ => by simp
  | x :: l, i + 1, h => by
    have h' : i < l.length := by simpa using h
    have q := perm_erase h'
    rw [List.eraseIdx_cons_succ, List.getElem_cons_succ]
    exact (List.Perm.swap _ _ _).trans (List.Perm.cons x q)
section
variable {P : Program} {w : World} {K : PySem.W.Frag} {mg : Str → Option Value} {base : Heap}
theorem scPick : FnScope ["_law_pen_here", "_law_lot"] ["_law_pen_here", "_law_lot"] (defScope sPick) := ⟨rfl, rfl, rfl, by decide +kernel, rfl, by decide +kernel, by decide +kernel⟩
theorem ok_pick {f g : Addr} {fd gd : FuncData} (F : Fun K "_law_pick" "_law_pick" sPick f fd) (G : FnOk P w K mg base CX0 1 g gd ["_law_pen_here", "_law_many"] spDrawC) (bG : Binds K gd ["_law_pen_here", "_law_many"] []) (kG : PySem.W.keepIn K (.ref g) = true) (mG : mg "_law_draw" = some (.ref g)) (B : Blt mg) :
    FnOk P w K mg base CX0 2 f fd ["_law_pen_here", "_law_lot"] spPick := by
  refine F.ok scPick (fun vs H Q E h => ?_) (fun cdv A outer s H vs Q E hr h => ?_)
  · rcases h with ⟨p, c, l, n, xs, rfl, _⟩ | ⟨p, c, n, z, rfl, _⟩ <;> rfl
  refine ⟨_, pss_one (ps_ret (pe_ix ix_seq (pv 1) (pe_call G hr rfl mG kG bG .nil pass0 (pa_cons (pv 0) (pa_cons (pe_callB call_len (by rfl) B.len PySem.boot_len (pa_cons (pv 1) pa_nil)) pa_nil))) (fun _ _ => rfl))), ?_⟩
  rcases h with ⟨p, c, l, n, xs, rfl, pen, hn, lp, hl, l1, l2, k⟩ | ⟨p, c, n, z, rfl, pen, hn, l1, l2, k⟩
  · have ln : LenV K (.ref l) H xs.length := by
      rcases hl with hl | hl
      · exact .inl ⟨xs, SqL.of hl, rfl⟩
      · exact .inr ⟨xs, SqT.of hl, rfl⟩
    refine ⟨_, rfl, _, rfl, _, rfl, _, xs.length, rfl, ln, p, c, n, _, rfl, pen, hn, by omega, by omega, fun v H' v0 v1 pen' sb => ?_⟩
    have hv : v.toNat < xs.length := by omega
    have ev : v = ((v.toNat : Nat) : Int) := by omega
    have q : atI xs ((v.toNat : Nat) : Int) = some xs[v.toNat] := atI_nat (List.getElem?_eq_getElem hv)
    rw [← ev] at q
    rcases hl with hl | hl
    · exact .inl ⟨l, xs, v, _, rfl, rfl, SqL.of (sb.to lp hl), q, k _ H' (List.getElem_mem hv) pen' sb⟩
    · exact .inr (.inl ⟨l, xs, v, _, rfl, rfl, SqT.of (sb.to lp hl), q, k _ H' (List.getElem_mem hv) pen' sb⟩)
  · refine ⟨_, rfl, _, rfl, _, rfl, _, z.length, rfl, ⟨by have := sizeLine_eq; omega, rfl⟩, p, c, n, _, rfl, pen, hn, by omega, by omega, fun v H' v0 v1 pen' sb => ?_⟩
    have hz : z.cps.toList.length = z.length := Array.length_toList
    have hv : v.toNat < z.cps.toList.length := by omega
    have ev : v = ((v.toNat : Nat) : Int) := by omega
    have q : atI z.cps.toList ((v.toNat : Nat) : Int) = some z.cps.toList[v.toNat] := atI_nat (List.getElem?_eq_getElem hv)
    rw [← ev] at q
    exact .inr (.inr ⟨z, v, _, rfl, rfl, by have := sizeLine_eq; omega, q, k _ H' (List.getElem_mem hv) pen' sb⟩)
end
end Pk
/-! Names drawn: unlike ones. -/
namespace Pk
open PySem
theorem nodup_at {ss : List Str} {pre : List Nat} {c : Nat → Nat} (h : ∀ j z, ss[j]? = some z → ∃ tl, z.cps.toList = pre ++ c j :: tl) (inj : ∀ i j, i < ss.length → j < ss.length → c i = c j → i = j) : ss.Nodup := by
  unfold List.Nodup
  rw [List.pairwise_iff_getElem]
  intro i j hi hj hij e
  obtain ⟨t1, e1⟩ := h i _ (List.getElem?_eq_getElem hi)
  obtain ⟨t2, e2⟩ := h j _ (List.getElem?_eq_getElem hj)
  rw [e, e2] at e1
  have e3 := List.append_cancel_left e1
  have := inj j i hj hi (List.cons.inj e3).1
  omega
theorem nodup_set {ss : List Str} {pre : List Nat} {c : Nat → Nat} {k : Nat} {y : Str} (h : ∀ j z, ss[j]? = some z → ∃ tl, z.cps.toList = pre ++ c j :: tl) (inj : ∀ i j, i < ss.length → j < ss.length → c i = c j → i = j) (hy : y.cps.toList = pre) : (ss.set k y).Nodup := by
  have out : ∀ z ∈ ss, z ≠ y := fun z hz e => by
    obtain ⟨j, hj, ej⟩ := List.getElem_of_mem hz
    obtain ⟨tl, e1⟩ := h j z (by rw [List.getElem?_eq_getElem hj, ej])
    rw [e, hy] at e1
    have := congrArg List.length e1
    simp at this
  have nd := nodup_at h inj
  unfold List.Nodup at nd ⊢
  rw [List.pairwise_iff_getElem] at nd ⊢
  intro i j hi hj hij e
  rw [List.getElem_set, List.getElem_set] at e
  rw [List.length_set] at hi hj
  by_cases c1 : k = i
  · rw [if_pos c1, if_neg (by omega)] at e
    exact out _ (List.getElem_mem hj) e.symm
  · rw [if_neg c1] at e
    by_cases c2 : k = j
    · rw [if_pos c2] at e
      exact out _ (List.getElem_mem hi) e
    · rw [if_neg c2] at e
      exact nd i j hi hj hij e
def byL : List Int := [1, 3, 5, 7, 9, 11, 15, 17, 19, 21, 23, 25]
theorem inj26 {fi b : Int} (hb : b ∈ byL) {i j : Nat} (hi : i < 12) (hj : j < 12) (h : 97 + ((fi + b * (i : Int)) % 26).toNat = 97 + ((fi + b * (j : Int)) % 26).toNat) : i = j := by
  simp only [byL, List.mem_cons, List.not_mem_nil, or_false] at hb
  have p1 := Int.emod_nonneg (fi + b * (i : Int)) (show (26 : Int) ≠ 0 by decide)
  have p2 := Int.emod_nonneg (fi + b * (j : Int)) (show (26 : Int) ≠ 0 by decide)
  have h' : (fi + b * (i : Int)) % 26 = (fi + b * (j : Int)) % 26 := by omega
  rcases hb with rfl | rfl | rfl | rfl | rfl | rfl | rfl | rfl | rfl | rfl | rfl | rfl <;> omega
/-! Texts in their order -/
theorem lt_of_le_ne {a b : Str} (h : ¬ b.cps.toList < a.cps.toList) (hn : a ≠ b) : leS b a = false := by
  unfold leS
  have : a.cps.toList < b.cps.toList := by
    rcases Decidable.em (a.cps.toList < b.cps.toList) with q | q
    · exact q
    · exfalso
      have e := List.le_antisymm (show a.cps.toList ≤ b.cps.toList from h) (show b.cps.toList ≤ a.cps.toList from q)
      apply hn
      cases a
      cases b
      congr 1
      exact Array.ext' e
  simp [this]
end Pk
namespace Pk
open PySem L2
/-- a name by form: few signs, each a letter -/
def nmOk (z : Str) : Prop := z.length ≤ 30 ∧ ∀ c ∈ z.cps.toList, smallC c = true
theorem len_cps (z : Str) : z.cps.toList.length = z.length := Array.length_toList
theorem cps_app (a b : Str) : (a ++ b).cps.toList = a.cps.toList ++ b.cps.toList := by
  show (a.cps ++ b.cps).toList = _
  rw [Array.toList_append]
theorem join_cps {e : Str} (he : e.cps.toList = []) : ∀ ys : List Str, (Str.join e ys).cps.toList = (ys.map fun y => y.cps.toList).flatten
  | [] => rfl
  | [x] => by simp [Str.join]
  | x :: y :: r => by
    show (x ++ e ++ Str.join e (y :: r)).cps.toList = _
    rw [cps_app, cps_app, he, join_cps he (y :: r)]
    simp
theorem join_signs (cs : List Nat) : (Txt.join ("" : Str) (cs.map fun c => (⟨#[c]⟩ : Str))).cps.toList = cs := by
  unfold Txt.join
  rw [StrLaws.glued_eq_join, join_cps rfl, List.map_map]
  induction cs with
  | nil => rfl
  | cons c cs ih => simpa using ih
theorem cutS_cps (z : Str) (lo hi : Option Int) : (cutS z lo hi).cps.toList = (z.cps.toList.drop (HT.sIx z.length 0 lo)).take (HT.sIx z.length z.length hi - HT.sIx z.length 0 lo) := by
  unfold cutS
  simp
theorem cutS_mem {z : Str} {lo hi : Option Int} {c : Nat} (h : c ∈ (cutS z lo hi).cps.toList) : c ∈ z.cps.toList := by
  rw [cutS_cps] at h
  exact List.mem_of_mem_drop (List.mem_of_mem_take h)
theorem cutS_len (z : Str) (lo hi : Option Int) : (cutS z lo hi).length ≤ z.length := by
  rw [← len_cps, cutS_cps, ← len_cps z]
  simp only [List.length_take, List.length_drop]
  omega
theorem app_len (a b : Str) : (a ++ b).length = a.length + b.length := by
  rw [← len_cps, cps_app, List.length_append, len_cps, len_cps]
theorem cut_from {xs : List V} {i : Nat} (h : i ≤ xs.length) : cutV xs (some (i : Int)) none = xs.drop i := by
  unfold cutV
  rw [HT.sIx_none, HT.sIx_nat, Nat.min_eq_left h, List.take_of_length_le (by simp)]
theorem cut_to {xs : List V} {i : Nat} (h : i ≤ xs.length) : cutV xs none (some (i : Int)) = xs.take i := by
  unfold cutV
  rw [HT.sIx_none, HT.sIx_nat, Nat.min_eq_left h, List.drop_zero, Nat.sub_zero]
theorem sum_signs : ∀ cs : List Nat, ((cs.map fun x => (⟨#[x]⟩ : Str)).map (·.length)).sum = cs.length
  | [] => rfl
  | c :: cs => by
    simp only [List.map_cons, List.sum_cons, List.length_cons, sum_signs cs]
    show 1 + cs.length = _
    omega
theorem cutS_to (z : Str) (i : Nat) : (cutS z none (some (i : Int))).cps.toList = z.cps.toList.take (min i z.length) := by
  rw [cutS_cps, HT.sIx_none, HT.sIx_nat, List.drop_zero, Nat.sub_zero]
theorem cutS_from_len (z : Str) (i : Nat) : (cutS z (some (i : Int)) none).length ≤ z.length - i := by
  rw [← len_cps, cutS_cps, HT.sIx_none, HT.sIx_nat]
  simp only [List.length_take, List.length_drop, len_cps]
  omega
theorem letters_ok : ∀ c ∈ letters.cps.toList, smallC c = true := fun c hc => by rw [← in_letters, decide_eq_true hc]
theorem letters_len : letters.length = 26 := by decide +kernel
/-- the dict of names -/
def kvT (ks : List Str) : List (Key × V) := ks.map fun z => (Sum.inr z, V.bl true)
def insN (ks : List Str) (z : Str) : List Str := if z ∈ ks then ks else ks ++ [z]
theorem put_T (ks : List Str) (z : Str) : putK (kvT ks) (Sum.inr z) (.bl true) = kvT (insN ks z) := by
  unfold putK insN kvT
  by_cases c : z ∈ ks
  · rw [if_pos c, if_pos, List.map_map]
    · apply List.map_congr_left
      intro x _
      show (if (Sum.inr x : Key) = Sum.inr z then (Sum.inr x, V.bl true) else (Sum.inr x, V.bl true)) = _
      split <;> rfl
    · rw [List.any_eq_true]
      exact ⟨_, List.mem_map.mpr ⟨z, c, rfl⟩, by simp⟩
  · rw [if_neg c, if_neg, List.map_append]
    · rfl
    · rw [List.any_eq_true]
      rintro ⟨kv, hk, ek⟩
      obtain ⟨x, hx, rfl⟩ := List.mem_map.mp hk
      exact c (by rw [← Sum.inr.inj (of_decide_eq_true ek)]; exact hx)
theorem insN_nd {ks : List Str} {z : Str} (h : ks.Nodup) : (insN ks z).Nodup := by
  unfold insN
  by_cases c : z ∈ ks
  · rw [if_pos c]; exact h
  · rw [if_neg c, List.nodup_append]
    refine ⟨h, by simp, fun a ha b hb e => ?_⟩
    rw [List.mem_singleton.mp hb] at e
    exact c (e ▸ ha)
theorem insN_len (ks : List Str) (z : Str) : (insN ks z).length ≤ ks.length + 1 ∧ 1 ≤ (insN ks z).length := by
  unfold insN
  by_cases c : z ∈ ks
  · rw [if_pos c]
    exact ⟨by omega, List.length_pos_of_mem c⟩
  · rw [if_neg c]
    simp
theorem insN_mem {ks : List Str} {z x : Str} (h : x ∈ insN ks z) : x ∈ ks ∨ x = z := by
  unfold insN at h
  by_cases c : z ∈ ks
  · rw [if_pos c] at h; exact .inl h
  · rw [if_neg c] at h
    rcases List.mem_append.mp h with h | h
    · exact .inl h
    · exact .inr (List.mem_singleton.mp h)
def spNames : Sp := fun vs H Q _ => ∃ (p c : Addr) (n : Int) (m : Nat), vs = [.ref p, .int (m : Nat)] ∧ PenC H p c n ∧ n ≤ 400000000 ∧ 1 ≤ m ∧ m ≤ 12 ∧
  ∀ (l : Addr) (ss : List Str) (H' : Hp), PenC H' p c (n + 30) → Sb p H H' → H l = none → H' l = some (.lst (ss.map V.str)) → 1 ≤ ss.length → ss.length ≤ m → (∀ z ∈ ss, nmOk z) → (∀ z ∈ ss, 1 ≤ z.length ∧ z.length ≤ 8) → ss.Nodup → PyProof.Rows.sortedS ss = true → Q (.ref l) H'
abbrev nNames : List Str := ["_law_pen_here", "_law_many", "_law_found", "_law_letters", "_law_base", "_law_k", "_law_at", "_law_by"]
section
variable {P : Program} {w : World} {K : PySem.W.Frag} {mg : Str → Option Value} {base : Heap}
end
end Pk
namespace Pk
open PySem L2
def spDialL : Sp := fun vs H Q _ => ∃ (p c : Addr) (n wd : Int) (nm : Str), vs = [.ref p, .str nm, .int wd] ∧ 0 ≤ wd ∧ wd ≤ 100 ∧ PenC H p c n ∧ n ≤ 300000000 ∧
  ∀ (t : Addr) (lo hi up dn : Int) (way : Str) (H' : Hp), PenC H' p c (n + 40) → Sb p H H' → H t = none → H' t = some (.tup [.str nm, .int lo, .int hi, .str way, .int up, .int dn]) → -farS ≤ lo → lo ≤ hi → hi ≤ farS → way ∈ ways3 → 1 ≤ up → up ≤ 1000000 → 1 ≤ dn → dn ≤ 1000000 → Q (.ref t) H'
def spSayL : Sp := fun vs H Q _ => ∃ (p c a b : Addr) (n : Int) (ss : List Str) (is : List Int), vs = [.ref p, .ref a, .ref b] ∧ PenC H p c n ∧ n ≤ 300000000 ∧ H a = some (.lst (ss.map V.str)) ∧ 1 ≤ ss.length ∧ ss.length ≤ 40 ∧ H b = some (.lst (is.map V.int)) ∧ 1 ≤ is.length ∧ is.length ≤ 40 ∧ (∀ i ∈ is, -farS ≤ i ∧ i ≤ farS) ∧
  ∀ (t : Addr) (z so : Str) (i : Int) (H' : Hp), PenC H' p c (n + 20) → Sb p H H' → H t = none → H' t = some (.tup [.str z, .str so, .int i]) → z ∈ ss → so ∈ sorts2 → -greatS ≤ i → i ≤ greatS → Q (.ref t) H'
def kvOf (e : Str × Int) : Key × V := (Sum.inr e.1, .int e.2)
theorem val_kv {z : Str} : ∀ {es : List (Str × Int)}, z ∈ es.map (·.1) → ∃ i, (z, i) ∈ es ∧ valV (es.map kvOf) (Sum.inr z) = some (.int i)
  | [], h => absurd h (by simp)
  | (y, i) :: es, h => by
    by_cases e : y = z
    · subst e
      refine ⟨i, List.mem_cons_self, ?_⟩
      unfold valV
      rw [List.map_cons, List.find?_cons_of_pos (by simp [kvOf])]
      rfl
    · have h' : z ∈ es.map (·.1) := by
        rcases List.mem_cons.mp h with h | h
        · exact absurd h.symm e
        · exact h
      obtain ⟨j, h1, h2⟩ := val_kv h'
      refine ⟨j, List.mem_cons_of_mem _ h1, ?_⟩
      unfold valV at h2 ⊢
      rw [List.map_cons, List.find?_cons_of_neg (by simpa [kvOf] using e)]
      exact h2
theorem dg_kv {H : Hp} {d : Addr} {es : List (Str × Int)} {z : Str} {i : Int} (h : H d = some (.dK (es.map kvOf))) (hv : valV (es.map kvOf) (Sum.inr z) = some (.int i)) : DGet H d (.str z) (some (.int i)) := .inl ⟨_, .inr z, .inl h, rfl, hv.symm⟩
/-- the number of a name -/
def lookE (es : List (Str × Int)) (z : Str) : Int := match valV (es.map kvOf) (Sum.inr z) with
  | some (.int i) => i
  | _ => 0
theorem look_dg {H : Hp} {d : Addr} {es : List (Str × Int)} {z : Str} (h : H d = some (.dK (es.map kvOf))) (hz : z ∈ es.map (·.1)) : DGet H d (.str z) (some (.int (lookE es z))) := by
  obtain ⟨i, _, e⟩ := val_kv hz
  have q : lookE es z = i := by
    unfold lookE
    rw [e]
  rw [q]
  exact dg_kv h e
def holdsS (f : Str → Int) : PyData → Bool
  | .tuple [.str z, .str so, .int i] => if decide (so = "least") = true then decide (i ≤ f z) else decide (f z ≤ i)
  | _ => false
def ruleH (f : Str → Int) : PyData → Bool
  | .tuple [_, p, q] => holdsS f p || holdsS f q
  | .tuple [.str w, .str a, .str b, .int c] => if decide (w = "off") = true then decide (f a ≤ f b + c) else if decide (w = "most") = true then decide (f a + f b ≤ c) else decide (c ≤ f a + f b)
  | _ => false
def spTSay : Sp := fun vs H Q _ => ∃ (p c d : Addr) (n sl : Int) (es : List (Str × Int)), vs = [.ref p, .ref d, .int sl] ∧ PenC H p c n ∧ n ≤ 300000000 ∧ H d = some (.dK (es.map kvOf)) ∧ 1 ≤ es.length ∧ es.length ≤ 40 ∧ (∀ e ∈ es, -farS ≤ e.2 ∧ e.2 ≤ farS) ∧ 0 ≤ sl ∧ sl ≤ 5 ∧
  ∀ (t : Addr) (z so : Str) (i : Int) (H' : Hp), PenC H' p c (n + 20) → Sb p H H' → H t = none → H' t = some (.tup [.str z, .str so, .int i]) → z ∈ es.map (·.1) → so ∈ sorts2 → -greatS ≤ i → i ≤ greatS → holdsS (lookE es) (.tuple [.str z, .str so, .int i]) = true → Q (.ref t) H'
theorem sorts_mem {x : V} (h : x ∈ [V.str "least", V.str "most"]) : ∃ so ∈ sorts2, x = .str so := by
  simp only [List.mem_cons, List.not_mem_nil, or_false] at h
  rcases h with rfl | rfl
  · exact ⟨_, by decide +kernel, rfl⟩
  · exact ⟨_, by decide +kernel, rfl⟩
theorem farG : farS = 1000000000000000000 := rfl
theorem greatG : greatS = 100000000000000000000 := rfl
theorem kv_keys (es : List (Str × Int)) : (es.map kvOf).map (fun kv => kV kv.1) = (es.map (·.1)).map V.str := by
  simp only [List.map_map]
  rfl
section
variable {P : Program} {w : World} {K : PySem.W.Frag} {mg : Str → Option Value} {base : Heap}
end
end Pk
/-! What stands apart from some addresses; data that is small enough. -/
namespace Pk
open PySem L2
def zn (X : List Addr) (H : Hp) : Hp := fun b => if b ∈ X then none else H b
theorem zn_in {X : List Addr} {H : Hp} {b : Addr} (h : b ∈ X) : zn X H b = none := if_pos h
theorem zn_out {X : List Addr} {H : Hp} {b : Addr} (h : b ∉ X) : zn X H b = H b := if_neg h
theorem zn_some {X : List Addr} {H : Hp} {b : Addr} {o : HO} (h : zn X H b = some o) : b ∉ X ∧ H b = some o := by
  by_cases hb : b ∈ X
  · rw [zn_in hb] at h
    cases h
  · rw [zn_out hb] at h
    exact ⟨hb, h⟩
theorem zn_le {X : List Addr} {H : Hp} : Same (zn X H) H := fun _ _ e => (zn_some e).2
theorem zn_mono {X : List Addr} {H H' : Hp} (s : Same H H') : Same (zn X H) (zn X H') := fun b o e => by
  obtain ⟨h1, h2⟩ := zn_some e
  rw [zn_out h1]
  exact s _ _ h2
theorem zn_sb {X : List Addr} {p : Addr} {H H' : Hp} (s : Sb p H H') (hp : p ∈ X) : Same (zn X H) (zn X H') := fun b o e => by
  obtain ⟨h1, h2⟩ := zn_some e
  rw [zn_out h1]
  exact s.to (fun z => h1 (z ▸ hp)) h2
theorem zn_drop {X : List Addr} {D : Addr} {H : Hp} : Same (zn (D :: X) H) (zn X H) := fun b o e => by
  obtain ⟨h1, h2⟩ := zn_some e
  rw [zn_out fun z => h1 (List.mem_cons_of_mem _ z)]
  exact h2
theorem zn_fresh {X : List Addr} {D : Addr} {H : Hp} (h : H D = none) : Same (zn X H) (zn (D :: X) H) := fun b o e => by
  obtain ⟨h1, h2⟩ := zn_some e
  rw [zn_out fun z => by
    rcases List.mem_cons.mp z with z | z
    · rw [z, h] at h2
      cases h2
    · exact h1 z]
  exact h2
theorem zn_upd {X : List Addr} {D : Addr} {H : Hp} {o : HO} (hD : D ∈ X) : Same (zn X H) (zn X (upd H D o)) := fun b u e => by
  obtain ⟨h1, h2⟩ := zn_some e
  have hb : b ≠ D := fun z => h1 (by rw [z]; exact hD)
  rw [zn_out h1, upd_ne hb]
  exact h2
/-- the addresses are taken; p is one of them -/
structure Al (p : Addr) (X : List Addr) (H : Hp) : Prop where
  mem : p ∈ X
  alc : ∀ b ∈ X, ∃ o, H b = some o
theorem Al.out {p t : Addr} {X : List Addr} {H : Hp} (a : Al p X H) (h : H t = none) : t ∉ X := fun z => by
  obtain ⟨o, e⟩ := a.alc t z
  rw [e] at h
  cases h
theorem Al.sb {p c : Addr} {n : Int} {X : List Addr} {H H' : Hp} (a : Al p X H) (s : Sb p H H') (h : PenC H' p c n) : Al p X H' := ⟨a.mem, fun b hb => by
  by_cases e : b = p
  · subst e
    obtain ⟨kv, h⟩ := h.atp
    exact ⟨_, h⟩
  · obtain ⟨o, ho⟩ := a.alc b hb
    exact ⟨o, s.to e ho⟩⟩
theorem Al.same {p : Addr} {X : List Addr} {H H' : Hp} (a : Al p X H) (s : Same H H') : Al p X H' := ⟨a.mem, fun b hb => let ⟨o, ho⟩ := a.alc b hb; ⟨o, s _ _ ho⟩⟩
theorem Al.upd {p : Addr} {X : List Addr} {H : Hp} {D : Addr} {o : HO} (a : Al p X H) : Al p X (L2.upd H D o) := ⟨a.mem, fun b hb => by
  by_cases e : b = D
  · subst e
    exact ⟨o, upd_same⟩
  · obtain ⟨u, hu⟩ := a.alc b hb
    exact ⟨u, by rw [upd_ne e]; exact hu⟩⟩
theorem Al.new {p : Addr} {X : List Addr} {H : Hp} {D : Addr} {o : HO} (a : Al p X H) (h : H D = none) : Al p (D :: X) (L2.upd H D o) := ⟨List.mem_cons_of_mem _ a.mem, fun b hb => by
  rcases List.mem_cons.mp hb with e | hb
  · rw [e]
    exact ⟨o, upd_same⟩
  · exact (a.upd (D := D) (o := o)).alc b hb⟩
/-! ### data that is small enough -/
def oddDict : List (PyData × PyData) → Bool
  | [] => true
  | [(.str z, .int i)] => decide (z = "a") && decide (i = 0)
  | _ => false
mutual
def lv (k : Nat) : PyData → Bool
  | .none | .bool _ => true
  | .int i => decide (i.natAbs ≤ 10 ^ 60 + k)
  | .str z => z.cps.toList.all fun c => decide (c ≤ 2000000 * (k + 1))
  | .list xs | .tuple xs => lvs k xs
  | .dict es => oddDict es
def lvs (k : Nat) : List PyData → Bool
  | [] => true
  | x :: xs => lv k x && lvs k xs
end
theorem lvs_all {k : Nat} : ∀ {ds : List PyData}, (∀ d ∈ ds, lv k d = true) → lvs k ds = true
  | [], _ => rfl
  | d :: ds, h => by
    rw [lvs, h d List.mem_cons_self, lvs_all fun e he => h e (List.mem_cons_of_mem _ he)]
    rfl
theorem lvs_mem {k : Nat} : ∀ {ds : List PyData} {d : PyData}, lvs k ds = true → d ∈ ds → lv k d = true
  | [], _, _, h => absurd h (by simp)
  | x :: xs, d, e, h => by
    rw [lvs, Bool.and_eq_true] at e
    rcases List.mem_cons.mp h with h | h
    · rw [h]; exact e.1
    · exact lvs_mem e.2 h
mutual
theorem lv_mono {k : Nat} : ∀ {d : PyData}, lv k d = true → lv (k + 1) d = true
  | .none, _ => rfl
  | .bool _, _ => rfl
  | .int i, h => by
    simp only [lv, decide_eq_true_eq] at h ⊢
    omega
  | .str z, h => by
    simp only [lv, List.all_eq_true, decide_eq_true_eq] at h ⊢
    intro c hc
    have := h c hc
    omega
  | .list xs, h => by
    simp only [lv] at h ⊢
    exact lvs_mono h
  | .tuple xs, h => by
    simp only [lv] at h ⊢
    exact lvs_mono h
  | .dict es, h => by simpa only [lv] using h
theorem lvs_mono {k : Nat} : ∀ {ds : List PyData}, lvs k ds = true → lvs (k + 1) ds = true
  | [], _ => rfl
  | d :: ds, h => by
    rw [lvs, Bool.and_eq_true] at h ⊢
    exact ⟨lv_mono h.1, lvs_mono h.2⟩
end
theorem bulk_mem : ∀ {ds : List PyData} {d : PyData}, d ∈ ds → d.bulk + 1 ≤ PyData.bulkAll ds
  | [], _, h => absurd h (by simp)
  | x :: xs, d, h => by
    rw [PyData.bulkAll]
    rcases List.mem_cons.mp h with h | h
    · rw [h]; omega
    · have := bulk_mem h
      omega
theorem bulk_len : ∀ ds : List PyData, ds.length ≤ PyData.bulkAll ds
  | [] => by simp
  | x :: xs => by
    have := bulk_len xs
    rw [PyData.bulkAll, List.length_cons]
    omega
theorem bulk_app : ∀ (as bs : List PyData), PyData.bulkAll (as ++ bs) = PyData.bulkAll as + PyData.bulkAll bs
  | [], bs => by simp [PyData.bulkAll]
  | a :: as, bs => by
    rw [List.cons_append, PyData.bulkAll, PyData.bulkAll, bulk_app as bs]
    omega
theorem depth_mem : ∀ {ds : List PyData} {d : PyData}, d ∈ ds → d.depth ≤ PyData.depthAll ds
  | [], _, h => absurd h (by simp)
  | x :: xs, d, h => by
    rw [PyData.depthAll]
    rcases List.mem_cons.mp h with h | h
    · rw [h]; omega
    · have := depth_mem h
      omega
theorem depth_all {n : Nat} : ∀ {ds : List PyData}, (∀ d ∈ ds, d.depth ≤ n) → PyData.depthAll ds ≤ n
  | [], _ => by simp [PyData.depthAll]
  | d :: ds, h => by
    have h1 := h d List.mem_cons_self
    have h2 := depth_all fun e he => h e (List.mem_cons_of_mem _ he)
    rw [PyData.depthAll]
    omega
theorem bulk_all {n : Nat} : ∀ {ds : List PyData}, (∀ d ∈ ds, d.bulk ≤ n) → PyData.bulkAll ds ≤ (n + 1) * ds.length
  | [], _ => by simp [PyData.bulkAll]
  | d :: ds, h => by
    have h1 := h d List.mem_cons_self
    have h2 := bulk_all fun e he => h e (List.mem_cons_of_mem _ he)
    rw [PyData.bulkAll, List.length_cons, Nat.mul_succ]
    omega
theorem lay_all : ∀ {ds : List PyData}, (∀ d ∈ ds, d.canLay0 = true) → PyData.canLayAll0 ds = true
  | [], _ => by simp only [PyData.canLayAll0]
  | d :: ds, h => by
    rw [PyData.canLayAll0, h d List.mem_cons_self, lay_all fun e he => h e (List.mem_cons_of_mem _ he)]
    rfl
theorem int_short {i : Int} {k : Nat} (hk : k ≤ 10) (h : i.natAbs ≤ 10 ^ 60 + k) : i.natAbs.log2 < 1920 ∧ (PyData.shown (.int i)).length ≤ 100 := by
  have h1 : i.natAbs < 10 ^ 61 := by
    have : (10 : Nat) ^ 60 + 10 < 10 ^ 61 := by decide +kernel
    omega
  constructor
  · by_cases h0 : i.natAbs = 0
    · rw [h0]; decide
    · rw [Nat.log2_lt h0]
      exact Nat.lt_trans h1 (by decide +kernel)
  · have h2 := int_text_length_le10 (k := 61) (by decide) h1
    have e : (PyData.shown (.int i)).length = (toString i).length := by
      simp only [PyData.shown]
      exact ofString_length _
    omega
mutual
/-- what the looks ask of data -/
theorem lv_ok {k : Nat} (hk : k ≤ 10) : ∀ {d : PyData}, lv k d = true → d.bulk ≤ 100000 → okS d = true ∧ d.showable = true ∧ d.leavesShort 100 = true
  | .none, _, _ => ⟨rfl, rfl, rfl⟩
  | .bool _, _, _ => ⟨rfl, rfl, rfl⟩
  | .int i, h, _ => by
    simp only [lv, decide_eq_true_eq] at h
    obtain ⟨a, b⟩ := int_short hk h
    exact ⟨rfl, by simp only [PyData.showable, decide_eq_true_eq]; exact a, by simp only [PyData.leavesShort, decide_eq_true_eq]; exact b⟩
  | .str z, h, hb => by
    simp only [lv, List.all_eq_true, decide_eq_true_eq] at h
    simp only [PyData.bulk] at hb
    refine ⟨by simp only [okS, decide_eq_true_eq]; exact hb, rfl, ?_⟩
    simp only [PyData.leavesShort, List.all_eq_true, decide_eq_true_eq]
    intro c hc
    have q := h c hc
    have e : (16 : Nat) ^ 8 = 4294967296 := by decide
    have : 2000000 * (k + 1) ≤ 22000000 := by omega
    omega
  | .list xs, h, hb => by
    simp only [lv] at h
    simp only [PyData.bulk] at hb
    simpa only [okS, PyData.showable, PyData.leavesShort] using lvs_ok hk h hb
  | .tuple xs, h, hb => by
    simp only [lv] at h
    simp only [PyData.bulk] at hb
    simpa only [okS, PyData.showable, PyData.leavesShort] using lvs_ok hk h hb
  | .dict es, h, hb => by
    simp only [lv] at h
    unfold oddDict at h
    split at h
    · exact ⟨rfl, rfl, rfl⟩
    · rename_i z i
      rw [Bool.and_eq_true, decide_eq_true_eq, decide_eq_true_eq] at h
      obtain ⟨rfl, rfl⟩ := h
      exact ⟨by decide +kernel, by decide +kernel, by decide +kernel⟩
    · cases h
theorem lvs_ok {k : Nat} (hk : k ≤ 10) : ∀ {ds : List PyData}, lvs k ds = true → PyData.bulkAll ds ≤ 100000 → okSs ds = true ∧ PyData.showableAll ds = true ∧ PyData.leavesShortAll 100 ds = true
  | [], _, _ => ⟨rfl, rfl, rfl⟩
  | d :: ds, h, hb => by
    rw [lvs, Bool.and_eq_true] at h
    rw [PyData.bulkAll] at hb
    obtain ⟨a1, a2, a3⟩ := lv_ok hk h.1 (by omega)
    obtain ⟨b1, b2, b3⟩ := lvs_ok hk h.2 (by omega)
    exact ⟨by rw [okSs, a1, b1]; rfl, by rw [PyData.showableAll, a2, b2]; rfl, by rw [PyData.leavesShortAll, a3, b3]; rfl⟩
end
theorem lv_shown {k : Nat} (hk : k ≤ 10) {d : PyData} (h : lv k d = true) (hb : d.bulk ≤ 100000) : d.shown.length ≤ sizeLine := by
  have h1 := PyData.shown_le_bulk 100 (by decide) d (lv_ok hk h hb).2.2
  rw [sizeLine_eq]
  omega
end Pk
namespace Pk
open PySem L2
structure RuleG (ns : List Str) (r : PyData) : Prop where
  rule : ruleD ns r = true
  lay : r.canLay0 = true
  depth : r.depth ≤ 2
  bulk : r.bulk ≤ 120
  lv : lv 0 r = true
theorem nm_str {z : Str} (h : nmOk z) : PyData.strOk z = true ∧ Pk.lv 0 (.str z) = true ∧ z.cps.size ≤ 30 := by
  refine ⟨?_, ?_, h.1⟩
  · unfold PyData.strOk
    rw [← Array.all_toList, List.all_eq_true]
    intro c hc
    have q := h.2 c hc
    simp only [smallC, Bool.and_eq_true, decide_eq_true_eq] at q
    simp only [decide_eq_true_eq]
    omega
  · simp only [Pk.lv, List.all_eq_true, decide_eq_true_eq]
    intro c hc
    have q := h.2 c hc
    simp only [smallC, Bool.and_eq_true, decide_eq_true_eq] at q
    omega
theorem great_lt : greatS.natAbs * 10 ≤ 10 ^ 60 := by decide +kernel
theorem int_lv {i : Int} (h1 : -(10 * greatS) ≤ i) (h2 : i ≤ 10 * greatS) : Pk.lv 0 (.int i) = true := by
  simp only [Pk.lv, decide_eq_true_eq]
  have := great_lt
  have := greatG
  omega
structure SayG (ns : List Str) (r : PyData) : Prop where
  say : sayingD ns r = true
  lay : r.canLay0 = true
  depth : r.depth ≤ 1
  bulk : r.bulk ≤ 50
  lv : Pk.lv 0 r = true
theorem words_nm : ∀ z ∈ (["one", "off", "most", "least", "both", "up", "down"] : List Str), nmOk z := by
  have h : ∀ z ∈ (["one", "off", "most", "least", "both", "up", "down"] : List Str), z.length ≤ 30 ∧ z.cps.toList.all smallC = true := by decide +kernel
  exact fun z hz => ⟨(h z hz).1, fun c hc => List.all_eq_true.mp (h z hz).2 c hc⟩
theorem sort_size : ∀ z ∈ sorts2, z.cps.size ≤ 5 := by decide +kernel
theorem sort_nm {z : Str} (h : z ∈ sorts2) : nmOk z := by
  have e : ∀ z ∈ sorts2, z ∈ (["one", "off", "most", "least", "both", "up", "down"] : List Str) := by decide +kernel
  exact words_nm z (e z h)
theorem pair_nm {z : Str} (h : z ∈ pairs3) : nmOk z := by
  have e : ∀ z ∈ pairs3, z ∈ (["one", "off", "most", "least", "both", "up", "down"] : List Str) := by decide +kernel
  exact words_nm z (e z h)
theorem way_nm {z : Str} (h : z ∈ ways3) : nmOk z := by
  have e : ∀ z ∈ ways3, z ∈ (["one", "off", "most", "least", "both", "up", "down"] : List Str) := by decide +kernel
  exact words_nm z (e z h)
theorem inS_of {zs : List Str} {z : Str} (h : z ∈ zs) : inS zs (.str z) = true := by
  unfold inS
  rw [List.any_eq_true]
  exact ⟨z, h, by simp [strIs]⟩
theorem say_of {ns : List Str} {z so : Str} {i : Int} (h : z ∈ ns) (hs : so ∈ sorts2) (h1 : -greatS ≤ i) (h2 : i ≤ greatS) : sayingD ns (.tuple [.str z, .str so, .int i]) = true := by
  show (inS ns (.str z) && (inS sorts2 (.str so) && wholeD (-greatS) greatS (.int i))) = true
  rw [inS_of h, inS_of hs, wholeD, decide_eq_true h1, decide_eq_true h2]
  rfl
theorem say_g {ns : List Str} {z so : Str} {i : Int} (hz : z ∈ ns) (h : nmOk z) (hs : so ∈ sorts2) (g1 : -greatS ≤ i) (g2 : i ≤ greatS) : SayG ns (.tuple [.str z, .str so, .int i]) := by
  have gg := greatG
  have h1 : -(10 * greatS) ≤ i := by omega
  have h2 : i ≤ 10 * greatS := by omega
  obtain ⟨a1, a2, a3⟩ := nm_str h
  obtain ⟨b1, b2, _⟩ := nm_str (sort_nm hs)
  have b3 := sort_size so hs
  have c := int_lv h1 h2
  refine ⟨say_of hz hs g1 g2, by simp [PyData.canLay0, PyData.canLayAll0, a1, b1], by simp [PyData.depth, PyData.depthAll], ?_, by simp only [Pk.lv, lvs, Bool.and_true, Bool.and_eq_true] at *; exact ⟨a2, b2, c⟩⟩
  simp only [PyData.bulk, PyData.bulkAll]
  omega
theorem rule_one {ns : List Str} {a b : PyData} (ha : SayG ns a) (hb : SayG ns b) : RuleG ns (.tuple [.str "one", a, b]) := by
  have o : PyData.strOk ("one" : Str) = true := by decide +kernel
  have l : Pk.lv 0 (.str "one") = true := by decide +kernel
  have z : ("one" : Str).cps.size = 3 := by decide +kernel
  have d1 := ha.depth
  have d2 := hb.depth
  have e1 := ha.bulk
  have e2 := hb.bulk
  refine ⟨?_, by simp [PyData.canLay0, PyData.canLayAll0, ha.lay, hb.lay, o], ?_, ?_, ?_⟩
  · show (strIs "one" (.str "one") && (sayingD ns a && sayingD ns b)) = true
    rw [ha.say, hb.say]
    simp [strIs]
  · simp only [PyData.depth, PyData.depthAll]
    omega
  · simp only [PyData.bulk, PyData.bulkAll, z]
    omega
  · rw [Pk.lv, lvs, lvs, lvs, l, ha.lv, hb.lv]
    rfl
theorem rule_pair_of {ns : List Str} {w a b : Str} {i : Int} (hw : w ∈ pairs3) (za : a ∈ ns) (zb : b ∈ ns) (ne : a ≠ b) (g1 : -greatS ≤ i) (g2 : i ≤ greatS) : ruleD ns (.tuple [.str w, .str a, .str b, .int i]) = true := by
  show (inS pairs3 (.str w) && (inS ns (.str a) && (inS ns (.str b) && (!sameS (.str a) (.str b) && wholeD (-greatS) greatS (.int i))))) = true
  rw [inS_of hw, inS_of za, inS_of zb, wholeD, decide_eq_true g1, decide_eq_true g2]
  simp [sameS, ne]
theorem rule_pair {ns : List Str} {w a b : Str} {i : Int} (hw : w ∈ pairs3) (za : a ∈ ns) (zb : b ∈ ns) (ne : a ≠ b) (ha : nmOk a) (hb : nmOk b) (g1 : -greatS ≤ i) (g2 : i ≤ greatS) : RuleG ns (.tuple [.str w, .str a, .str b, .int i]) := by
  have gg := greatG
  have h1 : -(10 * greatS) ≤ i := by omega
  have h2 : i ≤ 10 * greatS := by omega
  obtain ⟨w1, w2, w3⟩ := nm_str (pair_nm hw)
  obtain ⟨a1, a2, a3⟩ := nm_str ha
  obtain ⟨b1, b2, b3⟩ := nm_str hb
  have c := int_lv h1 h2
  refine ⟨rule_pair_of hw za zb ne g1 g2, by simp [PyData.canLay0, PyData.canLayAll0, a1, b1, w1], by simp [PyData.depth, PyData.depthAll], ?_, ?_⟩
  · simp only [PyData.bulk, PyData.bulkAll]
    omega
  · rw [Pk.lv, lvs, lvs, lvs, lvs, w2, a2, b2, c]
    rfl
def spTRule : Sp := fun vs H Q _ => ∃ (p c d : Addr) (X : List Addr) (n sl : Int) (es : List (Str × Int)), vs = [.ref p, .ref d, .int sl] ∧ PenC H p c n ∧ Al p X H ∧ n ≤ 200000000 ∧ H d = some (.dK (es.map kvOf)) ∧ 1 ≤ es.length ∧ es.length ≤ 12 ∧ (∀ e ∈ es, nmOk e.1 ∧ -farS ≤ e.2 ∧ e.2 ≤ farS) ∧ (es.map (·.1)).Nodup ∧ 0 ≤ sl ∧ sl ≤ 5 ∧
  ∀ (t : Addr) (r : PyData) (H' : Hp), PenC H' p c (n + 100) → Sb p H H' → Tr (zn X H') (.ref t) r → RuleG (es.map (·.1)) r → ruleH (lookE es) r = true → Q (.ref t) H'
abbrev nTRule : List Str := ["_law_pen_here", "_law_at", "_law_slack", "_law_names_here", "_law_way", "_law_by", "_law_one", "_law_two", "_law_name", "_law_both"]
section
variable {P : Program} {w : World} {K : PySem.W.Frag} {mg : Str → Option Value} {base : Heap}
end
end Pk
namespace Pk
open PySem L2
/-- a dial by its kinds -/
def DialG (d : PyData) : Prop := ∃ (nm way : Str) (lo hi up dn : Int), d = .tuple [.str nm, .int lo, .int hi, .str way, .int up, .int dn] ∧ nmOk nm ∧ (1 ≤ nm.length ∧ nm.length ≤ 8) ∧ way ∈ ways3 ∧ -farS ≤ lo ∧ lo ≤ hi ∧ hi ≤ farS ∧ 1 ≤ up ∧ up ≤ 1000000 ∧ 1 ≤ dn ∧ dn ≤ 1000000
theorem dial_lv {d : PyData} (h : DialG d) : lv 0 d = true ∧ d.bulk ≤ 80 ∧ d.depth ≤ 1 := by
  obtain ⟨nm, way, lo, hi, up, dn, rfl, h1, _, h2, b1, b2, b3, b4, b5, b6, b7⟩ := h
  obtain ⟨_, a2, a3⟩ := nm_str h1
  obtain ⟨_, w2, w3⟩ := nm_str (way_nm h2)
  have fg := farG
  have gg := greatG
  have i1 := int_lv (i := lo) (by omega) (by omega)
  have i2 := int_lv (i := hi) (by omega) (by omega)
  have i3 := int_lv (i := up) (by omega) (by omega)
  have i4 := int_lv (i := dn) (by omega) (by omega)
  refine ⟨?_, ?_, ?_⟩
  · rw [lv, lvs, lvs, lvs, lvs, lvs, lvs, a2, i1, i2, w2, i3, i4]
    rfl
  · simp only [PyData.bulk, PyData.bulkAll]
    omega
  · simp only [PyData.depth, PyData.depthAll]
    omega
theorem dial_tup {H : Hp} {x : V} {d : PyData} (t : Tr H x d) (h : DialG d) : ∃ (b : Addr) (nm way : Str) (lo hi up dn : Int), x = .ref b ∧ H b = some (.tup [.str nm, .int lo, .int hi, .str way, .int up, .int dn]) ∧ -farS ≤ lo ∧ lo ≤ hi ∧ hi ≤ farS ∧ nmOk nm ∧ d = .tuple [.str nm, .int lo, .int hi, .str way, .int up, .int dn] := by
  obtain ⟨nm, way, lo, hi, up, dn, rfl, h1, _, h2, b1, b2, b3, _⟩ := h
  cases t with
  | @tup b xs _ hb al =>
    match xs, al with
    | [_, _, _, _, _, _], .cons (.str _) (.cons (.int _) (.cons (.int _) (.cons (.str _) (.cons (.int _) (.cons (.int _) .nil))))) => exact ⟨b, nm, way, lo, hi, up, dn, rfl, hb, b1, b2, b3, h1, rfl⟩
theorem dial_ok {d : PyData} (h : DialG d) : dialD d = true := by
  obtain ⟨nm, way, lo, hi, up, dn, rfl, h1, h0, h2, b1, b2, b3, b4, b5, b6, b7⟩ := h
  have e1 : nameD (.str nm) = true := by
    rw [nameD_str, decide_eq_true (by omega), decide_eq_true (by omega), List.all_eq_true.mpr h1.2]
    rfl
  show (nameD (.str nm) && (inS ways3 (.str way) && (wholeD (-farS) farS (.int lo) && (wholeD lo farS (.int hi) && (wholeD 1 1000000 (.int up) && wholeD 1 1000000 (.int dn)))))) = true
  rw [e1, inS_of h2, wholeD_int, wholeD_int, wholeD_int, wholeD_int, decide_eq_true b1, decide_eq_true (show lo ≤ farS by omega), decide_eq_true b2, decide_eq_true b3, decide_eq_true b4, decide_eq_true b5, decide_eq_true b6, decide_eq_true b7]
  rfl
theorem dial_name_of {d : PyData} (h : DialG d) : nmOk (nameOf d) ∧ 1 ≤ (nameOf d).length ∧ (nameOf d).length ≤ 8 := by
  obtain ⟨nm, way, lo, hi, up, dn, rfl, h1, h0, _⟩ := h
  exact ⟨h1, h0⟩
theorem rise_none : ∀ {ds : List PyData} {k : Nat} {p : Str}, (∀ d ∈ ds, dialD d = true) → PyProof.Rows.risingS p (ds.map nameOf) = true → (p :: ds.map nameOf).Nodup → fDial k (some p) ds = none
  | [], _, _, _, _, _ => rfl
  | d :: ds, k, p, hd, hr, nd => by
    rw [List.map_cons, PyProof.Rows.risingS, Bool.and_eq_true] at hr
    rw [List.map_cons] at nd
    rw [fDial_cons, if_pos (hd d List.mem_cons_self)]
    have e : leS (nameOf d) p = false := by
      refine lt_of_le_ne (a := p) ?_ fun z => ?_
      · have q := hr.1
        rw [PyProof.Rows.ltCps_eq] at q
        simpa using q
      · rw [List.nodup_cons] at nd
        exact nd.1 (by rw [z]; exact List.mem_cons_self)
    simp only [e]
    exact rise_none (fun x hx => hd x (List.mem_cons_of_mem _ hx)) hr.2 (List.nodup_cons.mp nd).2
theorem fd_none {ds : List PyData} (hd : ∀ d ∈ ds, dialD d = true) (hs : PyProof.Rows.sortedS (ds.map nameOf) = true) (nd : (ds.map nameOf).Nodup) : fDial 0 none ds = none := by
  cases ds with
  | nil => rfl
  | cons d ds =>
    rw [fDial_cons, if_pos (hd d List.mem_cons_self)]
    exact rise_none (fun x hx => hd x (List.mem_cons_of_mem _ hx)) hs nd
theorem fr_snoc {ns : List Str} {r : PyData} (hr : ruleD ns r = true) : ∀ {rs : List PyData} {k : Nat} {past : List PyData}, fRule ns k past rs = none → ((past ++ rs).any fun z => PyData.eqv z r) = false → fRule ns k past (rs ++ [r]) = none
  | [], k, past, _, h2 => by
    rw [List.append_nil] at h2
    rw [List.nil_append, fRule_cons, if_pos hr, h2]
    rfl
  | x :: rs, k, past, h1, h2 => by
    rw [fRule_cons] at h1
    rw [List.cons_append, fRule_cons]
    by_cases c : ruleD ns x = true
    · rw [if_pos c] at h1 ⊢
      by_cases c2 : (past.any fun z => PyData.eqv z x) = true
      · rw [if_pos c2] at h1
        cases h1
      · rw [if_neg c2] at h1 ⊢
        exact fr_snoc hr h1 (by rw [List.append_assoc]; exact h2)
    · rw [if_neg c] at h1
      cases h1
theorem put_nd {acc : List (Str × Int)} {e : Str × Int} (h : e.1 ∉ acc.map (·.1)) : putK (acc.map kvOf) (Sum.inr e.1) (.int e.2) = (acc ++ [e]).map kvOf := by
  unfold putK
  rw [if_neg, List.map_append]
  · rfl
  · rw [List.any_eq_true]
    rintro ⟨kv, hk, ek⟩
    obtain ⟨x, hx, rfl⟩ := List.mem_map.mp hk
    exact h (List.mem_map.mpr ⟨x, hx, Sum.inr.inj (of_decide_eq_true ek)⟩)
theorem merge_nd : ∀ (es acc : List (Str × Int)), ((acc ++ es).map (·.1)).Nodup → mergeK (acc.map kvOf) (es.map kvOf) = (acc ++ es).map kvOf
  | [], acc, _ => by
    rw [List.append_nil]
    rfl
  | e :: es, acc, h => by
    have h' : ((acc ++ [e] ++ es).map (·.1)).Nodup := by rw [List.append_assoc]; exact h
    have q := merge_nd es (acc ++ [e]) h'
    have hn : e.1 ∉ acc.map (·.1) := by
      intro hm
      rw [List.map_append, List.nodup_append] at h
      exact h.2.2 _ hm e.1 (by simp) rfl
    rw [List.append_assoc] at q
    rw [← put_nd hn] at q
    exact q
structure HouseG (ds rs : List PyData) : Prop where
  d1 : 1 ≤ ds.length
  d2 : ds.length ≤ 12
  r2 : rs.length ≤ 40
  dials : ∀ d ∈ ds, DialG d
  rules : ∀ r ∈ rs, RuleG (ds.map nameOf) r
  nd : (ds.map nameOf).Nodup
  fd : fDial 0 none ds = none
  fr : fRule (ds.map nameOf) 0 [] rs = none
theorem HouseG.fault {ds rs : List PyData} (h : HouseG ds rs) : faultD (.tuple [.tuple ds, .tuple rs]) = .none := by
  have e1 : formD (.tuple [.tuple ds, .tuple rs]) = true := by
    show ((decide ((1 : Int) ≤ (ds.length : Int)) && decide ((ds.length : Int) ≤ 12)) && (decide ((0 : Int) ≤ (rs.length : Int)) && decide ((rs.length : Int) ≤ 40))) = true
    have := h.d1
    have := h.d2
    have := h.r2
    rw [decide_eq_true (by omega), decide_eq_true (by omega), decide_eq_true (by omega), decide_eq_true (by omega)]
    rfl
  unfold faultD
  rw [if_pos e1]
  show (match fDial 0 none ds with
    | some k => PyData.tuple [.str "dial", .int k]
    | none => match fRule (ds.map nameOf) 0 [] rs with
      | some k => .tuple [.str "rule", .int k]
      | none => .none) = _
  rw [h.fd, h.fr]
theorem put_kv (acc : List (Str × Int)) (e : Str × Int) (Pr : Str × Int → Prop) (hm : ∀ (z : Str) (i : Int), Pr (z, i) → Pr e → Pr (z, e.2)) (ha : ∀ x ∈ acc, Pr x) (he : Pr e) : ∃ es : List (Str × Int), putK (acc.map kvOf) (Sum.inr e.1) (.int e.2) = es.map kvOf ∧ es.length ≤ acc.length + 1 ∧ 1 ≤ es.length ∧ ∀ x ∈ es, Pr x := by
  unfold putK
  by_cases c : ((acc.map kvOf).any fun kv => decide (kv.1 = Sum.inr e.1)) = true
  · rw [if_pos c]
    refine ⟨acc.map fun x => if x.1 = e.1 then (x.1, e.2) else x, ?_, by rw [List.length_map]; omega, ?_, fun x hx => ?_⟩
    · rw [List.map_map, List.map_map]
      apply List.map_congr_left
      intro x _
      show (if (kvOf x).1 = Sum.inr e.1 then ((kvOf x).1, V.int e.2) else kvOf x) = kvOf (if x.1 = e.1 then (x.1, e.2) else x)
      by_cases h : x.1 = e.1
      · rw [if_pos h, if_pos (by rw [← h]; rfl)]
        rfl
      · rw [if_neg h, if_neg (show ¬ (kvOf x).1 = Sum.inr e.1 from fun z => h (Sum.inr.inj z))]
    · rw [List.length_map]
      cases acc with
      | nil => simp at c
      | cons _ _ => simp
    · obtain ⟨y, hy, rfl⟩ := List.mem_map.mp hx
      by_cases h : y.1 = e.1
      · simp only [if_pos h]
        exact hm y.1 y.2 (ha y hy) he
      · simp only [if_neg h]
        exact ha y hy
  · rw [if_neg c]
    refine ⟨acc ++ [e], by rw [List.map_append]; rfl, by simp, by simp, fun x hx => ?_⟩
    rcases List.mem_append.mp hx with hx | hx
    · exact ha x hx
    · rw [List.mem_singleton.mp hx]
      exact he
theorem merge_kv (Pr : Str × Int → Prop) (hm : ∀ z i y j, Pr (z, i) → Pr (y, j) → Pr (z, j)) : ∀ (es acc : List (Str × Int)), (∀ x ∈ acc, Pr x) → (∀ x ∈ es, Pr x) → ∃ es' : List (Str × Int), mergeK (acc.map kvOf) (es.map kvOf) = es'.map kvOf ∧ es'.length ≤ acc.length + es.length ∧ (1 ≤ acc.length + es.length → 1 ≤ es'.length) ∧ ∀ x ∈ es', Pr x
  | [], acc, ha, _ => ⟨acc, rfl, by simp, fun h => by simpa using h, ha⟩
  | e :: es, acc, ha, he => by
    obtain ⟨a2, e1, e2, e3, e4⟩ := put_kv acc e Pr (fun z i h1 h2 => hm z i e.1 e.2 h1 h2) ha (he e List.mem_cons_self)
    obtain ⟨a3, f1, f2, f3, f4⟩ := merge_kv Pr hm es a2 e4 fun x hx => he x (List.mem_cons_of_mem _ hx)
    refine ⟨a3, ?_, by rw [List.length_cons]; omega, fun _ => f3 (by omega), f4⟩
    rw [← f1, ← e1]
    rfl
theorem Al.cons {p D : Addr} {X : List Addr} {H : Hp} {o : HO} (a : Al p X H) (h : H D = some o) : Al p (D :: X) H := ⟨List.mem_cons_of_mem _ a.mem, fun b hb => by
  rcases List.mem_cons.mp hb with e | hb
  · rw [e]; exact ⟨o, h⟩
  · exact a.alc b hb⟩
theorem pairedMap {α β γ : Type} {F : α → β → Prop} {G : α → γ → Prop} {f : β → γ} : ∀ {l₁ : List α} {l₂ : List β}, Paired F l₁ l₂ → (∀ a b, F a b → G a (f b)) → Paired G l₁ (l₂.map f)
  | _, _, .nil, _ => .nil
  | _, _, .cons a t, h => .cons (h _ _ a) (pairedMap t h)
theorem atStr {ss : List Str} {i : Nat} {z : Str} (h : ss[i]? = some z) : atI (ss.map V.str) ((i : Nat) : Int) = some (.str z) := atI_nat (by rw [List.getElem?_map, h]; rfl)
theorem atInt {is : List Int} {i : Nat} {z : Int} (h : is[i]? = some z) : atI (is.map V.int) ((i : Nat) : Int) = some (.int z) := atI_nat (by rw [List.getElem?_map, h]; rfl)
theorem zip_maps : ∀ (es : List (Str × Int)), (es.map (·.1)).zip (es.map (·.2)) = es
  | [] => rfl
  | e :: es => by rw [List.map_cons, List.map_cons, List.zip_cons_cons, zip_maps es]
theorem zip_snoc {ds : List PyData} {is : List Int} {i : Nat} {d : PyData} {v : Int} {F : PyData × Int → Prop} (hl : is.length = i) (hd : ds[i]? = some d) (h : ∀ p ∈ ds.zip is, F p) (h2 : F (d, v)) : ∀ p ∈ ds.zip (is ++ [v]), F p := by
  induction is generalizing ds i with
  | nil =>
    subst hl
    cases ds with
    | nil => simp at hd
    | cons d0 ds =>
      simp at hd
      subst hd
      intro p hp
      simp at hp
      rw [hp]
      exact h2
  | cons j is ih =>
    subst hl
    cases ds with
    | nil => simp at hd
    | cons d0 ds =>
      intro p hp
      rw [List.cons_append, List.zip_cons_cons] at hp
      rcases List.mem_cons.mp hp with e | hp
      · exact h p (by rw [e, List.zip_cons_cons]; exact List.mem_cons_self)
      · exact ih rfl (by simpa using hd) (fun q hq => h q (by rw [List.zip_cons_cons]; exact List.mem_cons_of_mem _ hq)) p hp
/-- a number of a dial's span -/
def inSpan : PyData → Int → Prop
  | .tuple [_, .int lo, .int hi, _, _, _], i => lo ≤ i ∧ i ≤ hi
  | _, _ => False
def spHouseL : Sp := fun vs H Q _ => ∃ (p c : Addr) (X : List Addr) (n wd rl : Int) (m : Nat), vs = [.ref p, .int (m : Nat), .int wd, .int rl] ∧ 0 ≤ wd ∧ wd ≤ 100 ∧ PenC H p c n ∧ Al p X H ∧ n ≤ 100000000 ∧ 1 ≤ m ∧ m ≤ 12 ∧ 0 ≤ rl ∧ rl ≤ 40 ∧
  ∀ (t h y : Addr) (ds rs : List PyData) (is : List Int) (H' : Hp), PenC H' p c (n + 5000) → Sb p H H' → H' t = some (.tup [.ref h, .ref y]) → t ≠ p → Tr (zn X H') (.ref h) (.tuple [.tuple ds, .tuple rs]) → H' y = some (.tup (is.map V.int)) → y ∉ X → is.length = ds.length → (∀ j ∈ is, -farS ≤ j ∧ j ≤ farS) → HouseG ds rs → (∀ p ∈ ds.zip is, inSpan p.1 p.2) → (∀ r ∈ rs, ruleH (lookE ((ds.map nameOf).zip is)) r = true) → Q (.ref t) H'
abbrev nHouse : List Str := ["_law_pen_here", "_law_many", "_law_wide", "_law_rules", "_law_names_here", "_law_lot", "_law_name", "_law_dials", "_law_dial_here", "_law_numbers", "_law_at", "_law_k", "_law_rule"]
section
variable {P : Program} {w : World} {K : PySem.W.Frag} {mg : Str → Option Value} {base : Heap}
end
end Pk
namespace Pk
open PySem L2
/-- what _law_odd picks from -/
def odds : List PyData :=
  [.none, .bool true, .bool false, .int 0, .int 1, .int (-1), .int (10 ^ 18), .int (10 ^ 20), .int (-10 ^ 59), .str "", .str "0", .str "a", .str "least", .tuple [], .tuple [.int 0], .list [], .list [.int 0], .dict []] ++
  [.tuple [.none], .tuple [.str "a", .int 0], .tuple [.str "a", .str "least", .int 0], .tuple [.tuple [.str "a", .str "least", .int 0]], .list [.tuple [.str "a", .str "least", .int 0]], .dict [(.str "a", .int 0)], .tuple [.tuple []]] ++
  [.tuple [.tuple [], .tuple []], .tuple [.str "one", .tuple [.str "a", .str "least", .int 0], .tuple [.str "a", .str "most", .int 0]], .tuple [.str "off", .str "a", .str "b", .int 0]]
theorem odds_ok : (odds.all fun d => lv 0 d && decide (d.bulk ≤ 30) && decide (d.depth ≤ 3)) = true := by decide +kernel
theorem odd_lv {d : PyData} (h : d ∈ odds) : lv 0 d = true ∧ d.bulk ≤ 30 ∧ d.depth ≤ 3 := by
  have q := List.all_eq_true.mp odds_ok d h
  simp only [Bool.and_eq_true, decide_eq_true_eq] at q
  exact ⟨q.1.1, q.1.2, q.2⟩
theorem newP_zn {p : Addr} {X : List Addr} {H H' : Hp} (a : Al p X H) : Same (newP H H') (zn X H') := fun b o e => by
  obtain ⟨h1, h2⟩ := newP_some e
  rw [zn_out (a.out h1)]
  exact h2
def spOddL : Sp := fun vs H Q _ => ∃ (p c : Addr) (X : List Addr) (n : Int), vs = [.ref p] ∧ PenC H p c n ∧ Al p X H ∧ n ≤ 900000000 ∧
  ∀ (x : V) (d : PyData) (H' : Hp), d ∈ odds → Tr (zn X H') x d → PenC H' p c (n + 1) → Sb p H H' → Q x H'
theorem call_isTL {X : Cx} : CallR X (.builtin "isinstance") (fun xs H Q => ∃ (x : V) (tp : Addr) (d : PyData), xs = [x, .ref tp] ∧ H tp = some (.tup [.ty "tuple", .ty "list"]) ∧ Tr H x d ∧ Q (.bl (isTup d || isLst d)) H) := by
  intro pz s σ H xs us Q I r h
  obtain ⟨x, tp, d, rfl, ht, t, q⟩ := h
  refine call_isiT pz s σ H _ us Q I r ⟨x, tp, _, _, [.type "tuple", .type "list"], _, rfl, ht, .cons (.ty _) (.cons (.ty _) .nil), t.ty, ?_, q⟩
  have h2 : PySem.W.kitAny X.K (.type (tyD d)) [.type "list"] = some (isLst d) := kitAny_cons (b := isLst d) (r := isLst d) (kit_ty (kL d)) (fun e => by rw [e]; exact kitAny_nil) (fun e => e)
  cases c : isTup d with
  | true => exact kitAny_cons (b := true) (r := true) (by rw [← c]; exact kit_ty (kT d)) (fun e => by cases e) (fun _ => rfl)
  | false => exact kitAny_cons (b := false) (r := isLst d) (by rw [← c]; exact kit_ty (kT d)) (fun _ => h2) (fun e => by cases e)
/-! ### texts -/
theorem ofS_le (s : String) : ∀ c ∈ (Str.ofString s).cps.toList, c ≤ 1114112 := fun c hc => by
  rw [PyProof.Rows.signs_ofString] at hc
  obtain ⟨ch, _, rfl⟩ := List.mem_map.mp hc
  have h := ch.valid
  have h2 : ch.val.toNat < 1114112 := by
    rcases h with h | ⟨_, h⟩
    · omega
    · exact h
  exact Nat.le_of_lt h2
theorem shifted_le {M : Nat} : ∀ {one : List (Nat × Nat × Nat)} {c v : Nat}, (one.all fun e => decide (e.2.2 ≤ M)) = true → Unicode.shifted one c = some v → v ≤ M + c
  | [], c, v, _, h => by cases h
  | (a, b, t) :: rest, c, v, hm, h => by
    rw [List.all_cons, Bool.and_eq_true, decide_eq_true_eq] at hm
    unfold Unicode.shifted at h
    split at h
    · cases h
    · split at h
      · cases h
        have h3 : t ≤ M := hm.1
        omega
      · exact shifted_le hm.2 h
theorem lookup_all {M : Nat} : ∀ {sv : List (Nat × List Nat)} {c : Nat} {cs : List Nat}, (sv.all fun e => e.2.all fun x => decide (x ≤ M)) = true → sv.lookup c = some cs → ∀ x ∈ cs, x ≤ M
  | [], c, cs, _, h => by cases h
  | (a, l) :: rest, c, cs, hm, h => by
    rw [List.all_cons, Bool.and_eq_true] at hm
    rw [List.lookup_cons] at h
    split at h
    · cases h
      intro x hx
      have := List.all_eq_true.mp hm.1 x hx
      exact of_decide_eq_true this
    · exact lookup_all hm.2 h
theorem tabs1 : (UnicodeData.oneUpper.all fun e => decide (e.2.2 ≤ 1200000)) = true := by decide +kernel
theorem tabs2 : (UnicodeData.severalUpper.all fun e => e.2.all fun x => decide (x ≤ 1200000)) = true := by decide +kernel
theorem upperOf_le {c x : Nat} (h : x ∈ Unicode.upperOf c) : x ≤ 1200000 + c := by
  unfold Unicode.upperOf Unicode.image at h
  split at h
  · rename_i cs e
    have := lookup_all tabs2 e x h
    omega
  · cases e : Unicode.shifted UnicodeData.oneUpper c with
    | none =>
      rw [e] at h
      have : x = c := by simpa using h
      omega
    | some v =>
      rw [e] at h
      have : x = v := by simpa using h
      rw [this]
      exact shifted_le tabs1 e
theorem upper_mem {z : Str} {x : Nat} (h : x ∈ (Txt.upper z).cps.toList) : ∃ c ∈ z.cps.toList, x ≤ 1200000 + c := by
  unfold Txt.upper at h
  have h : x ∈ ((z.cps.mapIdx fun _ c => (Unicode.upperOf c).toArray).flatten).toList := h
  rw [Array.mem_toList_iff, Array.mem_flatten] at h
  obtain ⟨as, h1, h2⟩ := h
  rw [Array.mem_mapIdx] at h1
  obtain ⟨i, hi, rfl⟩ := h1
  exact ⟨z.cps[i], by simp, upperOf_le (by simpa using h2)⟩
section
variable {P : Program} {w : World} {K : PySem.W.Frag} {mg : Str → Option Value} {base : Heap}
end
end Pk
namespace Pk
open PySem L2
theorem lv_le {j k : Nat} (h : j ≤ k) {d : PyData} (hl : lv j d = true) : lv k d = true := by
  induction h with
  | refl => exact hl
  | step _ ih => exact lv_mono ih
theorem TrAll.drop {H : Hp} : ∀ {xs : List V} {ds : List PyData} (n : Nat), TrAll H xs ds → TrAll H (xs.drop n) (ds.drop n)
  | _, _, 0, h => h
  | _, _, _ + 1, .nil => .nil
  | _, _, n + 1, .cons _ t => TrAll.drop n t
theorem TrAll.rev {H : Hp} : ∀ {xs : List V} {ds : List PyData}, TrAll H xs ds → TrAll H xs.reverse ds.reverse
  | _, _, .nil => .nil
  | _, _, .cons h t => by
    rw [List.reverse_cons, List.reverse_cons]
    exact (TrAll.rev t).snoc h
theorem TrAll.set {H : Hp} {y : V} {e : PyData} (hy : Tr H y e) : ∀ {xs : List V} {ds : List PyData} (n : Nat), TrAll H xs ds → TrAll H (xs.set n y) (ds.set n e)
  | _, _, _, .nil => .nil
  | _, _, 0, .cons _ t => .cons hy t
  | _, _, n + 1, .cons h t => .cons h (TrAll.set hy n t)
theorem TrAll.erase {H : Hp} : ∀ {xs : List V} {ds : List PyData} (n : Nat), TrAll H xs ds → TrAll H (xs.eraseIdx n) (ds.eraseIdx n)
  | _, _, _, .nil => .nil
  | _, _, 0, .cons _ t => t
  | _, _, n + 1, .cons h t => .cons h (TrAll.erase n t)
def cutD (ds : List PyData) (lo hi : Option Int) : List PyData := (ds.drop (HT.sIx ds.length 0 lo)).take (HT.sIx ds.length ds.length hi - HT.sIx ds.length 0 lo)
theorem TrAll.cut {H : Hp} {xs : List V} {ds : List PyData} (h : TrAll H xs ds) (lo hi : Option Int) : TrAll H (cutV xs lo hi) (cutD ds lo hi) := by
  unfold cutV cutD
  rw [h.length]
  exact (h.drop _).take _
theorem cutD_mem {ds : List PyData} {lo hi : Option Int} {d : PyData} (h : d ∈ cutD ds lo hi) : d ∈ ds := List.mem_of_mem_drop (List.mem_of_mem_take h)
theorem bulk_take (ds : List PyData) (n : Nat) : PyData.bulkAll (ds.take n) + PyData.bulkAll (ds.drop n) = PyData.bulkAll ds := by rw [← bulk_app, List.take_append_drop]
theorem bulk_cut (ds : List PyData) (lo hi : Option Int) : PyData.bulkAll (cutD ds lo hi) ≤ PyData.bulkAll ds := by
  unfold cutD
  have h1 := bulk_take ds (HT.sIx ds.length 0 lo)
  have h2 := bulk_take (ds.drop (HT.sIx ds.length 0 lo)) (HT.sIx ds.length ds.length hi - HT.sIx ds.length 0 lo)
  omega
theorem bulk_rev : ∀ ds : List PyData, PyData.bulkAll ds.reverse = PyData.bulkAll ds
  | [] => rfl
  | d :: ds => by
    rw [List.reverse_cons, bulk_app, bulk_rev ds, PyData.bulkAll, PyData.bulkAll, PyData.bulkAll]
    omega
theorem bulk_set {d e : PyData} : ∀ {ds : List PyData} {i : Nat}, ds[i]? = some d → PyData.bulkAll (ds.set i e) + d.bulk = PyData.bulkAll ds + e.bulk
  | [], i, h => by simp at h
  | x :: xs, 0, h => by
    cases (show some x = some d from h)
    rw [List.set_cons_zero, PyData.bulkAll, PyData.bulkAll]
    omega
  | x :: xs, i + 1, h => by
    have q := bulk_set (e := e) (ds := xs) (i := i) h
    rw [List.set_cons_succ, PyData.bulkAll, PyData.bulkAll]
    omega
theorem bulk_erase : ∀ (ds : List PyData) (i : Nat), PyData.bulkAll (ds.eraseIdx i) ≤ PyData.bulkAll ds
  | [], i => by simp
  | x :: xs, 0 => by
    rw [List.eraseIdx_cons_zero, PyData.bulkAll]
    omega
  | x :: xs, i + 1 => by
    have := bulk_erase xs i
    rw [List.eraseIdx_cons_succ, PyData.bulkAll, PyData.bulkAll]
    omega
/-- a tuple (tp) or a list -/
def obj (tp : Bool) (xs : List V) : HO := if tp = true then .tup xs else .lst xs
def mkD (tp : Bool) (ds : List PyData) : PyData := if tp = true then .tuple ds else .list ds
theorem seq_of {H : Hp} {x : V} {d : PyData} (t : Tr H x d) (h : (isTup d || isLst d) = true) : ∃ a xs ds tp, x = .ref a ∧ H a = some (obj tp xs) ∧ TrAll H xs ds ∧ d = mkD tp ds := by
  cases t with
  | @lst a xs ds h' al => exact ⟨a, xs, ds, false, rfl, h', al, rfl⟩
  | @tup a xs ds h' al => exact ⟨a, xs, ds, true, rfl, h', al, rfl⟩
  | _ => cases h
theorem mk_bulk (tp : Bool) (ds : List PyData) : (mkD tp ds).bulk = PyData.bulkAll ds := by cases tp <;> rfl
theorem mk_lv (k : Nat) (tp : Bool) (ds : List PyData) : lv k (mkD tp ds) = lvs k ds := by cases tp <;> rfl
theorem mk_depth (tp : Bool) (ds : List PyData) : (mkD tp ds).depth = (PyData.tuple ds).depth := by cases tp <;> simp [mkD, PyData.depth]
theorem depth_tup (ds : List PyData) : (PyData.tuple ds).depth = PyData.depthAll ds + 1 := by simp [PyData.depth, Nat.add_comm]
theorem mk_isT (tp : Bool) (ds : List PyData) : isTup (mkD tp ds) = tp := by cases tp <;> rfl
theorem mk_isI (tp : Bool) (ds : List PyData) : isI (mkD tp ds) = false := by cases tp <;> rfl
theorem mk_isS (tp : Bool) (ds : List PyData) : isStr (mkD tp ds) = false := by cases tp <;> rfl
theorem sq_obj {K : PySem.W.Frag} {H : Hp} {a : Addr} {tp : Bool} {xs : List V} (h : H a = some (obj tp xs)) : SqL K H a xs ∨ SqT K H a xs := by
  cases tp with
  | true => exact .inr (SqT.of h)
  | false => exact .inl (SqL.of h)
theorem tr_obj {H : Hp} {a : Addr} {tp : Bool} {xs : List V} {ds : List PyData} (h : H a = some (obj tp xs)) (al : TrAll H xs ds) : Tr H (.ref a) (mkD tp ds) := by
  cases tp with
  | true => exact .tup h al
  | false => exact .lst h al
theorem ix_obj {K : PySem.W.Frag} {H : Hp} {a : Addr} {tp : Bool} {xs : List V} {i : Int} {y : V} {Q : VK} (h : H a = some (obj tp xs)) (hi : atI xs i = some y) (q : Q y H) : rIx K (.ref a) (.int i) H Q := by
  cases tp with
  | true => exact .inr (.inl ⟨a, xs, i, y, rfl, rfl, SqT.of h, hi, q⟩)
  | false => exact .inl ⟨a, xs, i, y, rfl, rfl, SqL.of h, hi, q⟩
def spBent (m : Nat) : Sp := fun vs H Q _ => ∃ (p c : Addr) (X : List Addr) (n : Int) (k : Nat) (x : V) (d : PyData), vs = [.ref p, x] ∧ PenC H p c n ∧ Al p X H ∧ n + 4 * m ≤ 500000000 ∧ Tr (zn X H) x d ∧ lv k d = true ∧ k ≤ 5 ∧ d.bulk ≤ 30000 ∧ d.depth < m ∧ m ≤ 100 ∧
  ∀ (y : V) (d' : PyData) (H' : Hp), PenC H' p c (n + 4 * m) → Sb p H H' → Tr (zn X H') y d' → lv (k + 1) d' = true → d'.bulk ≤ 4 * d.bulk + 100 → d'.depth ≤ d.depth + 4 → Q y H'
abbrev nBent : List Str := ["_law_pen_here", "_law_thing", "_law_at", "_law_way", "_law_rows", "_law_pair", "_law_some"]
section
variable {P : Program} {w : World} {K : PySem.W.Frag} {mg : Str → Option Value} {base : Heap}
theorem bent_none {f : Addr} {fd : FuncData} {j : Nat} : FnOk P w K mg base CX0 j f fd ["_law_pen_here", "_law_thing"] (spBent 0) := by
  have no : ∀ vs H Q E, ¬ spBent 0 vs H Q E := fun vs H Q E h => by
    obtain ⟨p, c, X, n, k, x, d, _, _, _, _, _, _, _, _, h0, _⟩ := h
    omega
  exact ⟨fun vs H Q E h => absurd h (no vs H Q E), fun A outer s H args us vs Q E _ _ _ _ h => absurd h (no vs H Q E)⟩
end
end Pk
/-! Quiet runs: what a def does that is called within a generator expression. -/
namespace Pk
open PySem PySem.Spec PyProof.Rows L2
/-- the surroundings of a quiet run: env's names are m -/
structure Qe (K : PySem.W.Frag) (mg : Str → Option Value) (env : Env) (m : Str → Option Value) (s : Shared) : Prop where
  kind : env.scope.kind = .function
  glob : env.globals = mainGlobals
  blt : env.builtins = builtinsNs
  ns : s.heap.Ns env.locals m
  kin : K.In s.heap
  gns : s.heap.Ns mainGlobals mg
  bns : ∃ mb, s.heap.Ns builtinsNs mb ∧ ∀ x : Str, x ≠ "__name__" → mb x = bootBuiltins x
  noL : s.heap.NoLimit
theorem Qe.ext {K : PySem.W.Frag} {mg : Str → Option Value} {env : Env} {m : Str → Option Value} {s s' : Shared} (q : Qe K mg env m s) (k : ∀ b o, s.heap.get? b = some o → s'.heap.get? b = some o) : Qe K mg env m s' :=
  ⟨q.kind, q.glob, q.blt, q.ns.keeps k, q.kin.keeps k, q.gns.keeps k, let ⟨mb, h1, h2⟩ := q.bns; ⟨mb, h1.keeps k, h2⟩, q.noL.keeps k⟩
theorem Qe.tok {K : PySem.W.Frag} {mg : Str → Option Value} {env : Env} {m : Str → Option Value} {s : Shared} (q : Qe K mg env m s) (t : Nat) : Qe K mg env m { s with toks := t } := q.ext fun _ _ e => e
section
variable {P : Program} {w : World} {K : PySem.W.Frag} {mg : Str → Option Value} {A : Around} {E : Value → Shared → Prop} {env : Env} {m : Str → Option Value} {s : Shared} {Q : Value → Shared → Prop}
theorem q_loc {x : Str} {v : Value} {p : Pos} (q : Qe K mg env m s) (hl : env.scope.names.lookup x = some .local) (hm : m x = some v) (h : Q v s) (hd : (x == ("__debug__" : Str)) = false := by decide) : wpAny (model P w) A (eval (.Name x p) env) Q E s :=
  wpAny_Name (wpAny_loadName_local q.kind hl q.ns hm h) hd
theorem q_blt {x : Str} {u : Value} {p : Pos} (q : Qe K mg env m s) (hg : env.scope.names.lookup x = some .globalImplicit) (hm : mg x = none) (hv : bootBuiltins x = some u) (h : Q u s)
    (hn : x ≠ "__name__" := by decide) (hd : (x == ("__debug__" : Str)) = false := by decide) : wpAny (model P w) A (eval (.Name x p) env) Q E s := by
  obtain ⟨mb, h1, h2⟩ := q.bns
  exact Calls.Name_function_global q.kind hg (Calls.loadGlobal_builtin (by rw [q.glob]; exact q.gns) hm (by rw [q.blt]; exact h1) ((h2 x hn).trans hv) h) hd
theorem q_glob {x : Str} {u : Value} {p : Pos} (q : Qe K mg env m s) (hg : env.scope.names.lookup x = some .globalImplicit) (hm : mg x = some u) (h : Q u s)
    (hd : (x == ("__debug__" : Str)) = false := by decide) : wpAny (model P w) A (eval (.Name x p) env) Q E s :=
  Calls.Name_function_global q.kind hg (Calls.loadGlobal_global (by rw [q.glob]; exact q.gns) hm h) hd
theorem q_isB {e : Expr} {Qb : Bool → Shared → Prop} (h : wpAny (model P w) A (eval e env) (fun v s1 => ∃ b, v = .bool b ∧ Qb b s1) E s) (he : ∀ whole, isTrue e env whole = (do let v ← whole; standAt e.pos; holding [v] (truthy v)) := by intro _; rfl) :
    wpAny (model P w) A (isTrue e env (eval e env)) Qb E s :=
  isTrue_plain (thn h fun v s1 ⟨b, e1, q⟩ => by
    subst e1
    exact wpAny_truthy_bool q) (he _)
/-- isinstance(x, T), x a local -/
theorem q_isi {x T : Str} {p1 p2 p3 pos : Pos} {u : Value} {Ty : String} {t : Value} {b : Bool} {Pz : Heap → Prop} (q : Qe K mg env m s) (hl : env.scope.names.lookup x = some .local) (hm : m x = some u) (hi : env.scope.names.lookup ("isinstance" : Str) = some .globalImplicit) (mi : mg "isinstance" = none)
    (hT : env.scope.names.lookup T = some .globalImplicit) (mT : mg T = none) (bT : bootBuiltins T = some (.type Ty)) (Z : PySem.W.KitX K u t Pz) (pz : Pz s.heap) (ek : PySem.W.kitOne K t (.type Ty) = some b) (hu : u ≠ .builtin "__main__.__loader__#opaque")
    (h : ∀ tk, Q (.bool b) { s with toks := tk }) (nT : T ≠ "__name__" := by decide) (dT : (T == ("__debug__" : Str)) = false := by decide) (dx : (x == ("__debug__" : Str)) = false := by decide) :
    wpAny (model P w) A (eval (.Call (.Name "isinstance" p1) [.Name x p2, .Name T p3] [] pos) env) Q E s := by
  refine wpAny_Call_Name_kw (q_blt (u := .builtin "isinstance") q hi mi (by decide +kernel) ?_)
  refine PyProof.Rows.callWith_builtin1 ?_ (by rfl) (by rfl)
  refine Calls.spliced_cons (q_loc q hl hm ?_ dx)
  refine Calls.spliced_cons (q_blt q hT mT bT ?_ nT dT)
  refine Calls.spliced_nil ?_
  exact PySem.W.kia_one Z q.kin pz ek hu h
end
/-- is_whole of any data, with nothing but tokens and its own frame left behind -/
theorem quietWhole {P : Program} {w : World} {K : PySem.W.Frag} {mg : Str → Option Value} {A : Around} {s : Shared} {f : Addr} {fd : FuncData} (F : Fun K "is_whole" "is_whole" sWhole f fd) (bG : Binds K fd ["thing", "low", "high"] []) (B : BltH mg)
    (inK : K.In s.heap) (gl : s.heap.Ns mainGlobals mg) (bl : ∃ mb, s.heap.Ns builtinsNs mb ∧ ∀ x : Str, x ≠ "__name__" → mb x = bootBuiltins x) (noL : s.heap.NoLimit) (hd : A.depth < recursionLimit)
    {u : Value} {d : PyData} {lo hi : Int} {t1 t2 : Tok} {Pz : Heap → Prop} (Z : PySem.W.KitX K u (.type (tyD d)) Pz) (pz : ∀ h' : Heap, (∀ b o, s.heap.get? b = some o → h'.get? b = some o) → Pz h') (hu : u ≠ .builtin "__main__.__loader__#opaque") (hi' : ∀ i, d = .int i → ∃ t, u = .int i t) :
    codeAny (model P w) A (.call (.ref f) ⟨[u, .int lo t1, .int hi t2], []⟩) (fun r s' => r = .ok (.ret (.bool (wholeD lo hi d))) ∧ Keeps s s') s := by
  have hbt := bG s [u, .int lo t1, .int hi t2] inK rfl
  obtain ⟨oc, oq, kV, doc, pm, an, cv, ct, osl, rfl, lk, hcd⟩ := F.ex
  refine codeAny_call_function hd (inK _ _ lk) rfl scWhole.co scWhole.gen rfl (PySem.W.codeRec_of inK hcd) (hbt _ _ _ _ (wpAny_newFunctionEnv_cells scWhole.kind (fun y hy => ?_) fun env he sz xx => ?_))
  · rcases scWhole.par y.1 (List.of_mem_zip (show (y.1, y.2) ∈ List.zip (["thing", "low", "high"] : List Str) ([u, .int lo t1, .int hi t2] ++ []) from hy)).1 with z | z
    · exact .inl z
    · exact .inr ⟨z, PySem.W.cellsFrom_some _ _ _ (.inl z)⟩
  · subst he
    have kp := xx.toInCall.keep
    refine ⟨noL.keeps kp, codeAny_func ?_⟩
    obtain ⟨h1, tk1, e1⟩ := xx.toInCall.same
    have q : Qe K mg _ _ sz := ⟨scWhole.kind, rfl, rfl, xx.toInCall.ns, inK.keeps kp, gl.keeps kp, let ⟨mb, z1, z2⟩ := bl; ⟨mb, z1.keeps kp, z2⟩, noL.keeps kp⟩
    have pzz : Pz sz.heap := pz _ kp
    have done : ∀ (t : Nat) (b : Bool), b = wholeD lo hi d → ((.ok (.ret (.bool b)) : Result) = .ok (.ret (.bool (wholeD lo hi d)))) ∧ Keeps s { sz with toks := t } := fun t b e => by
      subst e
      refine ⟨rfl, sz.heap, t, ?_, kp⟩
      rw [e1]
    have isB : PySem.W.kitOne K (.type (tyD d)) (.type "bool") = some (isB d) := kit_ty (kB d)
    have isI' : PySem.W.kitOne K (.type (tyD d)) (.type "int") = some (isI d) := kit_ty (kI d)
    refine wpAny_execs_cons (wpAny_If ?_)
    refine isTrue_or (q_isB (q_isi q rfl (by rfl) rfl B.isinstance rfl B.bool (by decide +kernel) Z pzz isB hu fun tk => ⟨_, rfl, ?_⟩))
    cases hB : Pk.isB d with
    | true =>
      have e : false = wholeD lo hi d := by cases d <;> first | rfl | (simp [Pk.isB] at hB)
      exact wpAny_execs_cons (wpAny_Return_some (Constant_bool (done _ _ e)))
    | false =>
      refine isTrue_or (isTrue_not (q_isB (q_isi (q.tok tk) rfl (by rfl) rfl B.isinstance rfl B.int (by decide +kernel) Z pzz isI' hu fun tk2 => ⟨_, rfl, ?_⟩)))
      cases hI : Pk.isI d with
      | false =>
        have e : false = wholeD lo hi d := by cases d <;> first | rfl | (simp [Pk.isI] at hI)
        exact wpAny_execs_cons (wpAny_Return_some (Constant_bool (done _ _ e)))
      | true =>
        refine isTrue_or_nil ?_
        refine wpAny_execs_nil (wpAny_execs_cons (wpAny_Return_some ?_))
        obtain ⟨i, rfl⟩ : ∃ i, d = .int i := by cases d <;> first | exact ⟨_, rfl⟩ | (simp [Pk.isI, Pk.isB] at hI hB)
        obtain ⟨t, rfl⟩ := hi' i rfl
        refine Compare_chain (q_loc (q.tok tk2) rfl (by rfl) (chain_link (q_loc (q.tok tk2) rfl (by rfl) (le_int (wpAny_truthy_bool ?_)))))
        have ew := wholeD_int lo hi i
        by_cases c : lo ≤ i
        · rw [decide_eq_true c] at ew ⊢
          exact chain_last (q_loc (q.tok _) rfl (by rfl) (le_int (done _ _ ew.symm)))
        · rw [decide_eq_false c] at ew ⊢
          exact done _ _ ew.symm
end Pk
section
set_option maxHeartbeats 2000000
/-! all(test of x, y for x, y in zip(two tuples)), the test a quiet run. -/
namespace Pk
open PySem PySem.Spec PyProof.Rows L2
theorem notNew {q n : Nat} (h : q < n) : q ≠ n + 4 ∧ q ≠ n + 3 ∧ q ≠ n ∧ q ≠ n + 1 := by omega
theorem out4 {q n : Addr} (h : q < n) : q ∉ [n + 4, n + 3, n, n + 1] := fun z => by
  obtain ⟨h1, h2, h3, h4⟩ := notNew h
  simp only [List.mem_cons, List.not_mem_nil, or_false] at z
  rcases z with e | e | e | e
  · exact h1 e
  · exact h2 e
  · exact h3 e
  · exact h4 e
theorem zip_sep {z TI TO i1 i2 a b : Addr} (D : ZipApart z TI TO i1 i2 a b) : ZipSep2 z TI TO i1 i2 [i1, a] [i2, b] := by
  refine ⟨D.TIz, D.TOz, D.TITO, D.TIi1, List.mem_cons_self, fun q => ?_, fun q => ?_, D.TIi2, List.mem_cons_self, fun q => ?_, fun q => ?_, fun q => ?_, fun q => ?_⟩ <;> simp only [List.mem_cons, List.not_mem_nil, or_false] at q <;> rcases q with e | e
  · exact D.i1z e.symm
  · exact D.l1z e.symm
  · exact D.TOi1 e
  · exact D.l1TO e.symm
  · exact D.i2z e.symm
  · exact D.l2z e.symm
  · exact D.TOi2 e
  · exact D.l2TO e.symm
  · exact D.i12 e
  · exact D.l2i1 e.symm
  · exact D.i12 e.symm
  · exact D.l1i2 e.symm
/-- all but the table at P stands as it stood -/
def KeptBut (P : Addr) (h h' : Heap) : Prop := ∀ b o, b ≠ P → h.get? b = some o → h'.get? b = some o
theorem Tr.kitAt {X : Cx} {pz : List (Addr × Obj)} {σ : L2.St} {H : Hp} {s : Shared} {x : V} {d : PyData} {v : Value} {P : Addr} {ps : Array Value} (I : L2.Inv X pz σ H s) (t : Tr H x d) (r : RelV x v) (hP : H P = some (.tbl ps)) :
    ∃ Pz : Heap → Prop, PySem.W.KitX X.K v (.type (tyD d)) Pz ∧ (∀ h', KeptBut P s.heap h' → Pz h') ∧ v ≠ .builtin "__main__.__loader__#opaque" := by
  cases t with
  | non =>
    cases (show v = Value.none from r)
    exact ⟨_, PySem.W.kitx_none, fun _ _ => True.intro, fun z => nomatch z⟩
  | bl b =>
    cases (show v = Value.bool b from r)
    exact ⟨_, PySem.W.kitx_bool, fun _ _ => True.intro, fun z => nomatch z⟩
  | int i =>
    obtain ⟨t, q⟩ := (show ∃ t, v = Value.int i t from r)
    cases q
    exact ⟨_, PySem.W.kitx_int, fun _ _ => True.intro, fun z => nomatch z⟩
  | str y =>
    obtain ⟨t, q⟩ := (show ∃ t, v = Value.str y t from r)
    cases q
    exact ⟨_, PySem.W.kitx_str, fun _ _ => True.intro, fun z => nomatch z⟩
  | @lst a xs ds ha _ =>
    cases (show v = Value.ref a from r)
    obtain ⟨_, _, n, _, h1⟩ := (show ObjOk X.prog X.w H s.heap a (.lst xs) from I.hok a _ ha)
    exact ⟨_, PySem.W.kitx_list, fun h' k => ⟨_, k _ _ (ne_of ha hP (by intro z; cases z)) h1, rfl⟩, fun z => nomatch z⟩
  | @tup a xs ds ha _ =>
    cases (show v = Value.ref a from r)
    obtain ⟨_, _, _, o, h1, h2, _⟩ := (show ObjOk X.prog X.w H s.heap a (.tup xs) from I.hok a _ ha)
    exact ⟨_, PySem.W.kitx_tuple, fun h' k => ⟨o, k _ _ (ne_of ha hP (by intro z; cases z)) h1, h2⟩, fun z => nomatch z⟩
  | @dct a kvs es ha _ _ _ =>
    cases (show v = Value.ref a from r)
    obtain ⟨_, _, vs, _, o, es, ep, h1, h2, _⟩ := (show ObjOk X.prog X.w H s.heap a (.dK kvs) from I.hok a _ ha)
    exact ⟨_, PySem.W.kitx_dict, fun h' k => ⟨o, k _ _ (ne_of ha hP (by intro z; cases z)) h1, h2.1⟩, fun z => nomatch z⟩
/-- the scope of a generator expression over pairs -/
structure GenZ (env : Env) (scope : Scope) (xa xb : Str) : Prop where
  kind : scope.kind = .function
  co : scope.isCoroutine = false
  cell : ∀ y ∈ scope.names, y.2 ≠ .cell
  dot : scope.names.lookup (".0" : Str) = some NameKind.local
  la : scope.names.lookup xa = some .local
  lb : scope.names.lookup xb = some .local
  ab : xa ≠ xb
  free : ∀ y ∈ scope.names, y.2 = .free → ∃ c, env.cells.lookup y.1 = some c
/-- the element: of data with ok the truth f, quietly -/
def EltZ (X : Cx) (P : Addr) (scope : Scope) (xa xb : Str) (elt : Expr) (f : PyData → PyData → Bool) (ok : PyData → PyData → Prop) : Prop :=
  ∀ (pins : List (Addr × Obj)) (σ : L2.St) (H1 : Hp) (s1 : Shared) (ps : Array Value) (dx dy : PyData) (vx vy : V) (ux uy : Value) (cenv : Env) (A' : Around) (E' : Value → Shared → Prop) (u : Shared) (m : Str → Option Value),
    L2.Inv X pins σ H1 s1 → H1 P = some (.tbl ps) → Tr H1 vx dx → Tr H1 vy dy → RelV vx ux → RelV vy uy → ok dx dy → A'.handled = none → A'.depth ≤ X.A.depth + 1 → A'.units ≤ X.A.units + 8 → cenv.scope = scope → Qe X.K X.mg cenv m u → m xa = some ux → m xb = some uy → KeptBut P s1.heap u.heap →
    wpAny (model X.prog X.w) A' (eval elt cenv) (fun y u' => y = .bool (f dx dy) ∧ Keeps u u') E' u
/-- a generator g that hands out n truths, ready to be walked -/
def ReadyN (X : Cx) (pins : List (Addr × Obj)) (σ : L2.St) (H1 : Hp) (P : Addr) (n : Nat) (tr : Nat → Bool) (g : Addr) (u : Shared) : Prop :=
  ∃ (fp wr : List Addr) (G : Array GenState → Array GenState → Prop) (F : Nat → Value → Prop) (St : Nat → Shared → Prop),
    WalksS X.prog X.w X.A.in1 g fp wr G n F St ∧ St 0 u ∧ TruthOf X.prog X.w X.A.in1 F tr ∧ ∀ u', Moved wr G u u' → ∃ H2, GxR.Tabbed P H1 H2 ∧ L2.Inv X pins σ H2 u'
def trZ (f : PyData → PyData → Bool) (l : List (PyData × PyData)) (j : Nat) : Bool := match l[j]? with
  | some p => f p.1 p.2
  | none => false
theorem trZ_some {f : PyData → PyData → Bool} {l : List (PyData × PyData)} {j : Nat} {p : PyData × PyData} (h : l[j]? = some p) : trZ f l j = f p.1 p.2 := by
  unfold trZ
  rw [h]
theorem all_trZ (f : PyData → PyData → Bool) (l : List (PyData × PyData)) : (List.range l.length).all (trZ f l) = l.all fun p => f p.1 p.2 := by
  rw [Bool.eq_iff_iff, List.all_eq_true, List.all_eq_true]
  constructor
  · intro h p hp
    obtain ⟨j, hj, e⟩ := List.getElem_of_mem hp
    have q := h j (List.mem_range.mpr hj)
    rw [trZ_some (List.getElem?_eq_getElem hj), e] at q
    exact q
  · intro h j hj
    have hj' := List.mem_range.mp hj
    rw [trZ_some (List.getElem?_eq_getElem hj')]
    exact h _ (List.getElem_mem hj')
theorem vals_back : ∀ {xs : List V} {us : List Value} {i : Nat} {u : Value}, Vals xs us → us[i]? = some u → ∃ x, xs[i]? = some x ∧ RelV x u
  | _, _, _, _, .nil, h => by simp at h
  | _, _, 0, _, .cons r _, h => by
    simp only [List.getElem?_cons_zero, Option.some.injEq] at h
    subst h
    exact ⟨_, rfl, r⟩
  | _, _, i + 1, _, .cons _ t, h => by
    simp only [List.getElem?_cons_succ] at h ⊢
    exact vals_back t h
section
variable {X : Cx} {pins : List (Addr × Obj)} {σ : L2.St} {H : Hp} {s : Shared}
theorem gen_zip {c P : Addr} {elt e1 e2 : Expr} {xa xb : Str} {pa pb pt pz gpos ipos : Pos} {kt : Nat} {scope : Scope} {ta : TA} {k : Nat} {f : PyData → PyData → Bool} {ok : PyData → PyData → Prop} {Q' : Value → Shared → Prop} {R : List PyData → List PyData → Hp → Prop}
    (hr : Room k X.A) (TB : GxR.TabB X.base X.mg c P) (hcode : X.env.code = .ref c) (S : GenZ X.env scope xa xb) (hg : Gl X "zip") (hm : X.mg "zip" = none) (ha : PA X [e1, e2] ta) (hel : EltZ X P scope xa xb elt f ok)
    (hs : ∀ v, genFold (.Call (.Name "zip" pz) [e1, e2] [] ipos) X.env v = pure v) (hst : starEach [e1, e2] X.env = (false, eval e1 X.env) :: starEach [e2] X.env) (hpl : (backTo ipos (starEach [e2] X.env)).any (·.1) = false) (I : L2.Inv X pins σ H s)
    (h : ta σ H fun vs H1 => ∃ (a b : Addr) (xs ys : List V) (ds es : List PyData), vs = [.ref a, .ref b] ∧ H1 a = some (.tup xs) ∧ H1 b = some (.tup ys) ∧ TrAll H1 xs ds ∧ TrAll H1 ys es ∧ (∀ p ∈ ds.zip es, ok p.1 p.2) ∧ GxR.TabG H1 P ∧ R ds es H1)
    (hQ : ∀ ds es H1 g u, R ds es H1 → ReadyN X pins σ H1 P (ds.zip es).length (trZ f (ds.zip es)) g u → Q' (.ref g) u) :
    wpAny (model X.prog X.w) X.A (eval (.GeneratorExp elt [⟨.Tuple [.Name xa pa, .Name xb pb] kt pt, .Call (.Name "zip" pz) [e1, e2] [] ipos, [], 0⟩] scope gpos) X.env) Q' X.xe s := by
  refine wpAny_GeneratorExp_walksQTD hr.hd S.co (closure_ok S.free) S.cell S.dot S.la S.lb S.ab S.kind (by have := hr.dp; omega) ?_ hs
  refine Call_ (ld_blt I hg hm PyProof.Rows.boot_zip (PyProof.Rows.callWith_type1 (thn (ha.run ipos pins s σ H _ I h) fun us s1 ⟨vs, H1, I1, r1, q1⟩ => ?_) hst hpl))
  obtain ⟨a, b, xs, ys, ds, es, rfl, hA, hB, tA, tB, hok, ⟨ps, hP, ht⟩, q1⟩ := q1
  obtain ⟨u1, u2, rfl, ra, rb⟩ := vals2 r1
  cases ra
  cases rb
  obtain ⟨its, rv, p1, _⟩ := I1.tuple (SqT.of hA)
  obtain ⟨its2, rv2, p2, _⟩ := I1.tuple (SqT.of hB)
  have a9 : a < s1.heap.objs.size := let ⟨_, e, _⟩ := p1; Heap.lt_size e
  have b9 : b < s1.heap.objs.size := let ⟨_, e, _⟩ := p2; Heap.lt_size e
  have hPs : s1.heap.get? P = some { cls := .none, data := .fields ps } := I1.hok P _ hP
  have hP9 : P < s1.heap.objs.size := Heap.lt_size hPs
  refine RZ.call_zipT (show s1.heap.IsTuple a its.toArray from p1) (show s1.heap.IsTuple b its2.toArray from p2) fun hz z1 z2 z3 z4 z5 zsz zk => wpAny_pyIter_zip z1 ?_
  generalize hn : s1.heap.objs.size = n at a9 b9 hP9 z1 z2 z3 z4 z5 zsz
  have sep : ZipSep2 (n + 4) (n + 2) (n + 3) n (n + 1) [n, a] [n + 1, b] := zip_sep (PySem.W.ktu_apart n a b a9 b9)
  have na : a ≠ n := Nat.ne_of_lt a9
  have nb : b ≠ n + 1 := Nat.ne_of_lt (Nat.lt_succ_of_lt b9)
  have Wk : ∀ A' : Around, A'.handled = none → WalksU X.prog X.w A' (n + 4) _ _ _ _ _ _ := fun A' hA' => (WalksT.zipD2 sep (drawsTup (A := A'.in1) hA' n a na its.toArray) (drawsTup (A := A'.in1) hA' (n + 1) b nb its2.toArray)).toU
  have hPz : hz.get? P = some { cls := .none, data := .fields ps } := zk _ _ hPs
  have cd : PySem.W.CodeHd hz c P := TB.code.keeps fun b u e => zk _ _ (I1.bk b u e)
  have limz : hz.NoLimit := I1.nolimit.keeps zk
  have l1 := rv.length
  have l2 := rv2.length
  have l3 := tA.length
  have l4 := tB.length
  have hnn : min its.toArray.size its2.toArray.size = (ds.zip es).length := by simp [List.length_zip]; omega
  have notP : ∀ b o, X.base.get? b = some o → b ≠ P := fun b o e z => by
    have q := (I1.bs b o e).2
    rw [z, hP] at q
    cases q
  have cont : ∀ (code : Value) (h3 : Heap) (tk : Nat) (ps' : Array Value), Heap.ExtBut P hz h3 → hz.objs.size ≤ h3.objs.size → h3.get? P = some { cls := .none, data := .fields ps' } → (∃ more, ps' = ps ++ more) → TriplesOk ps'.toList →
      wpAny (model X.prog X.w) X.A (builtinsFor X.env.globals X.env.builtins) (fun bi s4 =>
        ∃ Ia fp wr n0 Pt St0 Mid pz F, Value.ref (n + 4) = .ref Ia ∧ (∀ A' : Around, A'.handled = none → WalksU X.prog X.w A' Ia fp wr n0 Pt St0 Mid) ∧ (∀ i vals, Pt i vals → ∃ va vb, vals = #[va, vb]) ∧ St0 0 s4.heap ∧ (∀ b ∈ fp, b < s4.heap.objs.size) ∧ s4.heap.NoLimit ∧ cStatics ∉ wr ∧
          (∀ href : Heap, (∀ b o, s4.heap.get? b = some o → href.get? b = some o) →
            QuietGenTD X.prog X.w (genEnv scope (cloFrom X.env.cells scope.names []) s4.heap.objs.size code bi X.env) xa xb [] elt (List.range s4.heap.objs.size) wr Pt pz F href (X.A.depth + 1) (X.A.units + 8)) ∧
          (∀ g h5 tk gs, gs.bare = true → s4.heap.objs.size < g → h5.objs.size = g + 1 → (∀ b o, s4.heap.get? b = some o → h5.get? b = some o) →
            WalksS X.prog X.w X.A.in4 g (g :: s4.heap.objs.size :: List.range s4.heap.objs.size) (s4.heap.objs.size :: wr) (GenOnlyQ s4.gens.size) (passing pz n0 0).length
              (fun j y => ∃ i, (passing pz n0 0)[j]? = some i ∧ F i y) (GenAt X.prog X.w X.A.in4 g s4.gens.size s4.heap.objs.size (List.range s4.heap.objs.size) wr pz n0 F) →
            GenAt X.prog X.w X.A.in4 g s4.gens.size s4.heap.objs.size (List.range s4.heap.objs.size) wr pz n0 F 0 { s4 with gens := s4.gens.push gs, toks := tk, heap := h5 } →
            Q' (.ref g) { s4 with gens := s4.gens.push gs, toks := tk, heap := h5 })) X.xe { s1 with heap := h3, toks := tk } := by
    intro code h3 tk ps' hx hsz hP3 hmore ht3
    obtain ⟨bm, ob, g1, g2, g3, g4, g5, g6, g7, g8⟩ := TB.bm
    have kept3 : KeptBut P s1.heap h3 := fun b u hb e => hx b u hb (zk _ _ e)
    have hcP : cStatics ≠ P := fun e => by
      obtain ⟨_, hns, _⟩ := I1.nolimit
      obtain ⟨o', es', ep, ho, hd, _⟩ := hns
      rw [e, hPs] at ho
      cases ho
      cases hd
    have hcl : cStatics < s1.heap.objs.size := let ⟨_, hns, _⟩ := I1.nolimit; hns.lt
    have up : ∀ {q : Addr} {o : Obj}, n ≤ q → hz.get? q = some o → h3.get? q = some o := fun {q o} hq e => hx q o (fun z => by rw [z] at hq; exact absurd hP9 (Nat.not_lt.mpr hq)) e
    refine wpAny_builtinsFor (m := X.mg) (by rw [I1.ok.glob]; exact ((I1.mod.glob.keeps I1.bk).keeps zk).extBut hx TB.gP) g1 g2 (kept3 _ _ g4 (I1.bk _ _ g5)) g6 g7 g8 ?_
    refine ⟨n + 4, _, _, _, _, _, _, (fun _ => true), (fun i y => ∃ p, (ds.zip es)[i]? = some p ∧ y = .bool (f p.1 p.2)), rfl, Wk, ?_, ?_, ?_, limz.extBut hx hcP, ?_, ?_, ?_⟩
    · rintro i vals ⟨x1, x2, _, _, e⟩
      exact ⟨x1, x2, e⟩
    · refine ⟨up (by omega) z1, up (by omega) z2, ⟨_, _, up (by omega) z3⟩, ⟨?_, ?_⟩, ?_, ?_⟩
      · exact z4.at fun o e => up (Nat.le_refl _) e
      · obtain ⟨o, e, r⟩ := p1
        exact ⟨o, kept3 _ _ (ne_of hA hP (by intro z; cases z)) e, r⟩
      · exact z5.at fun o e => up (by omega) e
      · obtain ⟨o, e, r⟩ := p2
        exact ⟨o, kept3 _ _ (ne_of hB hP (by intro z; cases z)) e, r⟩
    · intro q hq
      have lt9 : ∀ {q : Addr} {o : Obj}, hz.get? q = some o → q < h3.objs.size := fun e => Nat.lt_of_lt_of_le (Heap.lt_size e) hsz
      simp only [List.cons_append, List.nil_append, List.mem_cons, List.not_mem_nil, or_false] at hq
      rcases hq with e | e | e | e | e | e | e
      · rw [e]; exact lt9 z1
      · rw [e]; exact lt9 z2
      · rw [e]; exact lt9 z3
      · rw [e]; obtain ⟨_, y, _⟩ := z4; exact lt9 y
      · rw [e]; obtain ⟨_, y, _⟩ := p1; exact lt9 (zk _ _ y)
      · rw [e]; obtain ⟨_, y, _⟩ := z5; exact lt9 y
      · rw [e]; obtain ⟨_, y, _⟩ := p2; exact lt9 (zk _ _ y)
    · rw [hn] at hcl
      exact out4 hcl
    · intro href hhref
      refine ⟨fun A' E' i va vb u m hA' _ _ _ _ _ _ _ => ?_, fun A' E' i va vb u m hA' hdp hun hPv _ hns hma hmb hkp => ?_⟩
      · simp only [List.forIn_nil]
        exact wpAny_pure ⟨rfl, GxR.keeps_refl _⟩
      · obtain ⟨x1, x2, i1, i2, e⟩ := hPv
        have e' : va = x1 ∧ vb = x2 := by simpa using congrArg Array.toList e
        obtain ⟨rfl, rfl⟩ := e'
        obtain ⟨vx, hvx, rx⟩ := vals_back rv (show its[i]? = some va by simpa using i1)
        obtain ⟨vy, hvy, ry⟩ := vals_back rv2 (show its2[i]? = some vb by simpa using i2)
        obtain ⟨dx, hdx, tx⟩ := tA.get hvx
        obtain ⟨dy, hdy, ty⟩ := tB.get hvy
        have hz2 : (ds.zip es)[i]? = some (dx, dy) := by simp [List.getElem?_zip_eq_some, hdx, hdy]
        have kb : KeptBut P s1.heap u.heap := fun q o hq e => by
          have hlt : q < s1.heap.objs.size := Heap.lt_size e
          rw [hn] at hlt
          refine hkp q (List.mem_range.mpr ?_) (out4 hlt) o (hhref q o (kept3 q o hq e))
          exact Nat.lt_of_lt_of_le (Heap.lt_size (zk _ _ e)) hsz
        have bk : ∀ q o, X.base.get? q = some o → u.heap.get? q = some o := fun q o e => kb q o (notP q o e) (I1.bk q o e)
        have qe : Qe X.K X.mg (genEnv scope (cloFrom X.env.cells scope.names []) h3.objs.size code builtinsNs X.env) m u :=
          ⟨S.kind, I1.ok.glob, rfl, hns, I1.mod.kin.keeps bk, I1.mod.glob.keeps bk, let ⟨mb, y1, y2⟩ := I1.mod.blt; ⟨mb, y1.keeps bk, y2⟩, I1.mod.nolimit.keeps bk⟩
        exact thn (hel pins σ H1 s1 ps dx dy vx vy va vb _ A' E' u m I1 hP tx ty rx ry (hok (dx, dy) (List.mem_of_getElem? hz2)) hA' hdp hun rfl qe hma hmb kb) fun y u' r => ⟨⟨_, hz2, r.1⟩, r.2⟩
    · intro g h5 tk5 gs hgb hag hsz5 hk5 W5 hat
      simp only [GxR.passing_true, List.length_range] at W5
      rw [hnn] at W5 hat
      refine hQ ds es H1 g _ q1 ⟨_, _, _, _, _, W5.in4_1, hat, ?_, fun u' hm => ?_⟩
      · intro j y sj Qj Ej hy hQj
        obtain ⟨i, hij, p, hp, rfl⟩ := hy
        obtain ⟨hj, ej⟩ := List.getElem?_eq_some_iff.mp hij
        rw [List.getElem_range] at ej
        subst ej
        have hQ2 : Qj (trZ f (ds.zip es) j) sj := hQj
        rw [trZ_some hp] at hQ2
        exact wpAny_truthy_bool hQ2
      · obtain ⟨more, em⟩ := hmore
        have nwr : ∀ q o, s1.heap.get? q = some o → q ∉ h3.objs.size :: [n + 4, n + 3, n, n + 1] := fun q o e hb => by
          have hl : q < s1.heap.objs.size := Heap.lt_size e
          rw [hn] at hl
          rcases List.mem_cons.mp hb with z | z
          · have := Heap.lt_size (zk _ _ e)
            rw [z] at this
            exact absurd (Nat.lt_of_lt_of_le this hsz) (Nat.lt_irrefl _)
          · exact out4 hl z
        have J := GxR.inv_tab (more := more) (h' := u'.heap) (g' := u'.gens) (d' := u'.drawn) (t' := u'.toks) I1 hP (fun q o hb e => hm.heap q o (nwr q o e) (hk5 q o (kept3 q o hb e)))
          (by rw [← em]; exact hm.heap P _ (nwr P _ hPs) (hk5 P _ hP3)) (AllBare.movedS (I1.bare.push hgb) hm)
        rw [GxR.sh_eta s1 u' hm.os] at J
        exact ⟨upd H1 P (.tbl (ps ++ more)), ⟨⟨ps ++ more, upd_same, by rw [← em]; exact ht3⟩, fun b hb => upd_ne hb⟩, J⟩
  refine ⟨limz, ?_⟩
  cases hf : codeAmong gpos ps.toList with
  | none =>
    refine wpAny_genexprCodeX hcode (cd.code hPz ht) (cd.tab hPz) hf fun c' h' tk hx hge hlt hco' _ htab' _ => ?_
    obtain ⟨o1, vs, f1, tf, fl, tg, inF, tx, tt, op, _, _, _, _, _, _, _, _, _, htr, _⟩ := hco'
    exact cont _ h' tk _ hx (Nat.le_trans hge (Nat.le_of_lt hlt)) htab'.2 ⟨_, rfl⟩ htr
  | some cv =>
    refine wpAny_genexprCode_hit hcode (cd.code hPz ht) hf ?_
    exact cont cv hz s1.toks ps (Heap.ExtBut.refl _ _) (Nat.le_refl _) hPz ⟨#[], by simp⟩ ht
end
end Pk
end
/-! are_numbers. -/
namespace Pk
open PySem PySem.Spec PyProof.Rows L2
section
variable {X : Cx}
/-- all(test for x, y in zip(e1, e2)) -/
def tAllZ (P : Addr) (f : PyData → PyData → Bool) (ok : PyData → PyData → Prop) (ta : TA) : TE := fun σ H Q => ta σ H fun vs H1 => ∃ (a b : Addr) (xs ys : List V) (ds es : List PyData), vs = [.ref a, .ref b] ∧ H1 a = some (.tup xs) ∧ H1 b = some (.tup ys) ∧ TrAll H1 xs ds ∧ TrAll H1 ys es ∧ (∀ p ∈ ds.zip es, ok p.1 p.2) ∧ GxR.TabG H1 P ∧
  ∀ H2, GxR.Tabbed P H1 H2 → Q (.bl ((ds.zip es).all fun p => f p.1 p.2)) H2
theorem pe_allZ {c P : Addr} {elt e1 e2 : Expr} {xa xb : Str} {pa pb pt pz gpos ipos p pos : Pos} {kt : Nat} {scope : Scope} {ta : TA} {k : Nat} {f : PyData → PyData → Bool} {ok : PyData → PyData → Prop}
    (hr : Room k X.A) (hgA : Gl X "all") (hmA : X.mg "all" = none) (hb : bootBuiltins "all" = some (.builtin "all")) (TB : GxR.TabB X.base X.mg c P) (hcode : X.env.code = .ref c) (S : GenZ X.env scope xa xb) (hg : Gl X "zip") (hm : X.mg "zip" = none) (ha : PA X [e1, e2] ta) (hel : EltZ X P scope xa xb elt f ok)
    (hs : ∀ v, genFold (.Call (.Name "zip" pz) [e1, e2] [] ipos) X.env v = pure v) (hst : starEach [e1, e2] X.env = (false, eval e1 X.env) :: starEach [e2] X.env := by rfl) (hpl : (backTo ipos (starEach [e2] X.env)).any (·.1) = false := by rfl)
    (he : starEach [.GeneratorExp elt [⟨.Tuple [.Name xa pa, .Name xb pb] kt pt, .Call (.Name "zip" pz) [e1, e2] [] ipos, [], 0⟩] scope gpos] X.env = (false, eval (.GeneratorExp elt [⟨.Tuple [.Name xa pa, .Name xb pb] kt pt, .Call (.Name "zip" pz) [e1, e2] [] ipos, [], 0⟩] scope gpos) X.env) :: starEach [] X.env := by rfl) :
    PE X (.Call (.Name "all" p) [.GeneratorExp elt [⟨.Tuple [.Name xa pa, .Name xb pb] kt pt, .Call (.Name "zip" pz) [e1, e2] [] ipos, [], 0⟩] scope gpos] [] pos) (tAllZ P f ok ta) := by
  refine ⟨fun pins s σ H Q I h => wpAny_Call_Name_kw (ld_blt I hgA hmA hb ?_)⟩
  refine PyProof.Rows.callWith_builtin1 ?_ he (by rfl)
  rw [he]
  show wpAny _ _ (spliced ((false, eval (.GeneratorExp elt [⟨.Tuple [.Name xa pa, .Name xb pb] kt pt, .Call (.Name "zip" pz) [e1, e2] [] ipos, [], 0⟩] scope gpos) X.env) :: backTo pos (starEach [] X.env))) _ _ s
  refine Calls.spliced_cons (gen_zip (R := fun ds es H1 => ∀ H2, GxR.Tabbed P H1 H2 → Q (.bl ((ds.zip es).all fun p => f p.1 p.2)) H2) hr TB hcode S hg hm ha hel hs hst hpl I h fun ds es H1 g u hR hG => Calls.spliced_nil ?_)
  obtain ⟨fp, wr, G, F, St, W, h0, htr, hI⟩ := hG
  refine call_all_walkS (W.self 0 _ _ _ h0 ⟨g, fp, wr, G, _, F, St, _, rfl, W, h0, htr, fun u' hmv => ?_⟩)
  obtain ⟨H2, hT, J⟩ := hI u' hmv
  refine ⟨.bl _, H2, J, rfl, ?_⟩
  rw [all_trZ]
  exact hR H2 hT
end
/-- a number of a dial's span -/
def numD : PyData → PyData → Bool
  | .tuple [_, .int lo, .int hi, _, _, _], d => wholeD lo hi d
  | _, _ => false
def spanOk (d _e : PyData) : Prop := ∃ n lo hi w u v, d = .tuple [n, .int lo, .int hi, w, u, v]
/-- numbers of these dials -/
def numsD (ds : List PyData) : PyData → Bool
  | .tuple es => decide (es.length = ds.length) && ((ds.zip es).all fun p => numD p.1 p.2)
  | _ => false
def scNum : Scope := { kind := .function, names := [((".0" : Str), NameKind.local), (("dial" : Str), NameKind.local), (("number" : Str), NameKind.local), (("is_whole" : Str), NameKind.globalImplicit)], isGenerator := true, isCoroutine := false }
theorem gzNum (env : Env) : GenZ env scNum "dial" "number" := by
  refine ⟨rfl, rfl, by decide +kernel, rfl, rfl, rfl, by decide, fun y hy e => ?_⟩
  have h : ∀ y ∈ scNum.names, y.2 ≠ .free := by decide +kernel
  exact absurd e (h y hy)
/-- x[j], x a local that holds a tuple -/
theorem q_ix {P : Program} {w : World} {K : PySem.W.Frag} {mg : Str → Option Value} {A : Around} {E : Value → Shared → Prop} {env : Env} {m : Str → Option Value} {s : Shared} {Q : Value → Shared → Prop} {x : Str} {p1 p2 pos : Pos} {kk : Nat} {a : Addr} {its : List Value} {i : Int} {j : Nat} {v : Value}
    (q : Qe K mg env m s) (hl : env.scope.names.lookup x = some .local) (hm : m x = some (.ref a)) (ht : IsTup s.heap a its.toArray) (hi0 : 0 ≤ i) (hi1 : i < 1000) (ej : j = i.toNat) (hj : its[j]? = some v) (h : Q v { s with toks := s.toks + 1 }) (hd : (x == ("__debug__" : Str)) = false := by decide) :
    wpAny (model P w) A (eval (.Subscript (.Name x p1) (.Constant (.int i) kk p2) pos) env) Q E s := by
  subst ej
  refine Subscript_ (q_loc q hl hm (wpAny_Constant_int ?_) hd)
  have hlt : i.toNat < its.length := (List.getElem?_eq_some_iff.mp hj).1
  refine subscriptTail_builtinR (x := v) (show ({ s with toks := s.toks + 1 } : Shared).TypeIs (.ref a) "tuple" from ht.typeIs) slot_tuple_getitem.lookup (getItem_tuple (s := { s with toks := s.toks + 1 }) (j := i.toNat) (Q := fun r s' => r = v ∧ Q r s') ht (by omega) (by omega) ?_ (by simpa using hj) ⟨rfl, h⟩) (by with_unfolding_all rfl)
  rw [List.size_toArray]
  exact seqIx hi0 (by omega)
theorem elt_num {X : Cx} {Pt f : Addr} {fd : FuncData} {p0 p1 p2 p3 p4 p5 p6 p7 p8 : Pos} {k1 k2 : Nat} (F : Fun X.K "is_whole" "is_whole" sWhole f fd) (bG : Binds X.K fd ["thing", "low", "high"] []) (mG : X.mg "is_whole" = some (.ref f)) (kG : PySem.W.keepIn X.K (.ref f) = true) (B : BltH X.mg) (hroom : X.A.depth + 1 < recursionLimit) :
    EltZ X Pt scNum "dial" "number" (.Call (.Name "is_whole" p0) [.Name "number" p1, .Subscript (.Name "dial" p2) (.Constant (.int 1) k1 p3) p4, .Subscript (.Name "dial" p5) (.Constant (.int 2) k2 p6) p7] [] p8) numD spanOk := by
  intro pins σ H1 s1 ps dx dy vx vy ux uy cenv A' E' u m I hP tx ty rx ry hok hh hdp hun hsc qe ma mb kb
  obtain ⟨n, lo, hi, w, u1, u2, rfl⟩ := hok
  cases tx with
  | @tup a xs _ ha al =>
    match xs, al with
    | [x0, _, _, x3, x4, x5], .cons _ (.cons (.int _) (.cons (.int _) (.cons _ (.cons _ (.cons _ .nil))))) =>
      cases (show ux = Value.ref a from rx)
      obtain ⟨its, rv, pt, _⟩ := I.tuple (SqT.of ha)
      have pt' : IsTup u.heap a its.toArray := by
        obtain ⟨o, e, r⟩ := pt
        exact ⟨o, kb _ _ (ne_of ha hP (by intro z; cases z)) e, r⟩
      obtain ⟨v1, e1, r1⟩ := rv.get (i := 1) rfl
      obtain ⟨v2, e2, r2⟩ := rv.get (i := 2) rfl
      obtain ⟨t1, rfl⟩ := (show ∃ t, v1 = Value.int lo t from r1)
      obtain ⟨t2, rfl⟩ := (show ∃ t, v2 = Value.int hi t from r2)
      have sc1 : cenv.scope.names.lookup ("number" : Str) = some .local := by rw [hsc]; rfl
      have sc2 : cenv.scope.names.lookup ("dial" : Str) = some .local := by rw [hsc]; rfl
      have sc3 : cenv.scope.names.lookup ("is_whole" : Str) = some .globalImplicit := by rw [hsc]; rfl
      obtain ⟨Pz, Z, pz, nl⟩ := ty.kitAt I ry hP
      refine wpAny_Call_Name_kw (q_glob qe sc3 mG (PySem.W.callWith_K (h₀ := u.heap) qe.kin kG (Calls.spliced_cons (q_loc qe sc1 mb (Calls.spliced_cons (q_ix (a := a) (its := its) (j := 1) qe sc2 ma pt' (by decide) (by decide) rfl e1 (Calls.spliced_cons (q_ix (a := a) (its := its) (j := 2) (qe.tok _) sc2 ma pt' (by decide) (by decide) rfl e2 (Calls.spliced_nil ?_))))))) (by rfl) (by rfl)))
      refine ⟨qe.kin, wpAny_call (codeAny_mono (quietWhole F bG B (s := { u with toks := u.toks + 1 + 1 }) qe.kin qe.gns qe.bns qe.noL (by omega) Z (fun h' k => pz h' fun b o hb e => k b o (kb b o hb e)) nl (fun i e => ?_)) fun r s' hr => ?_)⟩
      · subst e
        cases ty with
        | int i => exact ry
      · obtain ⟨rfl, h', tk, e, hk⟩ := hr
        exact ⟨rfl, h', tk, by rw [e], hk⟩
end Pk
/-! are_numbers, check_house. -/
namespace Pk
open PySem L2
def spAreN (Pt : Addr) : Sp := fun vs H Q _ => ∃ (h : Addr) (x : V) (ds rs : List PyData) (d : PyData), vs = [.ref h, x] ∧ Tr H (.ref h) (.tuple [.tuple ds, .tuple rs]) ∧ ds.length ≤ 12 ∧ (∀ e ∈ ds, DialG e) ∧ Tr H x d ∧ GxR.TabG H Pt ∧ ∀ H', Gr Pt H H' → Q (.bl (numsD ds d)) H'
theorem dial_span {d e : PyData} (h : DialG d) : spanOk d e := by
  obtain ⟨nm, way, lo, hi, up, dn, rfl, _⟩ := h
  exact ⟨_, _, _, _, _, _, rfl⟩
theorem nums_not {ds : List PyData} {d : PyData} (h : tupD (ds.length : Int) (ds.length : Int) d = false) : numsD ds d = false := by
  cases d with
  | tuple es =>
    show (decide (es.length = ds.length) && _) = false
    rw [decide_eq_false (fun e => ?_)]
    · rfl
    · rw [tupD, e, decide_eq_true (Int.le_refl _)] at h
      cases h
  | _ => rfl
theorem nums_tup {ds : List PyData} {d : PyData} (h : tupD (ds.length : Int) (ds.length : Int) d = true) : ∃ es, d = .tuple es ∧ es.length = ds.length ∧ numsD ds d = (ds.zip es).all fun p => numD p.1 p.2 := by
  cases d with
  | tuple es =>
    rw [tupD, Bool.and_eq_true, decide_eq_true_eq, decide_eq_true_eq] at h
    have e : es.length = ds.length := by omega
    refine ⟨es, rfl, e, ?_⟩
    show (decide (es.length = ds.length) && _) = _
    rw [decide_eq_true e]
    rfl
  | _ => cases h
section
variable {P : Program} {w : World} {K : PySem.W.Frag} {mg : Str → Option Value} {base : Heap} {Pt : Addr}
end
end Pk
section
set_option maxHeartbeats 2000000
/-! dict(zip(a, b)), a a list, b a tuple; any two iterators that draw. -/
namespace Pk
open PySem
section
variable {prog : Program} {w : World} {A : Around} {E : Value → Shared → Prop} {s : Shared} {z TI TO i1 i2 T : Addr} {fp1 fp2 : List Addr} {n1 n2 i : Nat} {P1 P2 : Nat → Value → Prop} {St1 St2 : Nat → Heap → Prop} {f : Bool} {oT : Obj}
theorem heldItem {Q : Value → Shared → Prop} (S : ZipSep2 z TI TO i1 i2 fp1 fp2) (D1 : Draws prog w A i1 fp1 n1 P1 St1) (D2 : Draws prog w A i2 fp2 n2 P2 St2) (hz : IsZipHeld s.heap z TI TO T f) (hT : s.heap.get? T = some oT) (hI : IsPair s.heap TI (.ref i1) (.ref i2))
    (st1 : St1 i s.heap) (st2 : St2 i s.heap) (l1 : i < n1) (l2 : i < n2)
    (k : ∀ x1 x2 h' tk, P1 i x1 → P2 i x2 → IsZipHeld h' z TI TO T true → St1 (i + 1) h' → St2 (i + 1) h' → IsPair h' s.heap.objs.size x1 x2 → (∀ c o, c ≠ z → c ≠ i1 → c ≠ i2 → s.heap.get? c = some o → h'.get? c = some o) → Q (.ref s.heap.objs.size) { s with heap := h', toks := tk }) :
    wpAny (model prog w) A (Builtin.«zip.__next__» ⟨[.ref z], []⟩) (fun fin s' => ∃ v, fin = .done (.ret v) ∧ Q v s') E s := by
  show wpAny _ _ (field (.ref z) 2 >>= _) _ _ _
  refine wpAny_bind (wpAny_field hz rfl (x := .bool false) rfl ?_)
  show wpAny _ _ (field (.ref z) 3 >>= _) _ _ _
  refine wpAny_bind (wpAny_field hz rfl (x := .ref TI) rfl (wpAny_bind (wpAny_seqItems hI rfl ?_)))
  show wpAny _ _ (Builtin.SmallTypes.ownedTupleIsFree (.ref z) >>= _) _ _ _
  refine wpAny_bind (wpAny_tupleHeld_zip hz hT fun g1 y1 e1 => ?_)
  simp only [Bool.false_eq_true, if_false]
  refine wpAny_bind ?_
  rw [← Array.forIn_toList]
  simp only [List.forIn_cons, List.forIn_nil]
  refine wpAny_bind (wpAny_bind (wpAny_holding ?_))
  show wpAny _ _ (Builtin.SmallTypes.nextOf (.ref i1) >>= _) _ _ _
  refine wpAny_bind (D1.item i { s with heap := g1 } _ _ l1 (D1.over st1 e1 S.zf1) fun x1 g2 t2 p1 d1 e2 => wpAny_pure (wpAny_pure ?_))
  refine wpAny_bind (wpAny_bind (wpAny_holding ?_))
  show wpAny _ _ (Builtin.SmallTypes.nextOf (.ref i2) >>= _) _ _ _
  have d2 : St2 i g2 := D2.over (D2.over st2 e1 S.zf2) e2 S.sep1_2
  refine wpAny_bind (D2.item i { s with heap := g2, toks := t2 } _ _ l2 d2 fun x2 g3 t3 p2 d3 e3 => wpAny_pure (wpAny_pure (wpAny_pure ?_)))
  show wpAny _ _ (newTuple [x1, x2] >>= _) _ _ _
  refine wpAny_bind (wpAny_newTuple (wpAny_pure ⟨_, rfl, ?_⟩))
  have sz : g3.objs.size = s.heap.objs.size := by rw [e3.1, e2.1, e1.1]
  have y3 : IsZipHeld g3 z TI TO T true := e3.extBut _ _ S.zi2 (e2.extBut _ _ S.zi1 y1)
  have d4 : St1 (i + 1) g3 := D1.over d1 e3 S.sep2_1
  have hp : IsPair (g3.push { cls := .type "tuple", data := .seq #[x1, x2] }) g3.objs.size x1 x2 := Heap.get?_push_size _ rfl
  show Q (.ref g3.objs.size) _
  rw [sz] at hp ⊢
  exact k x1 x2 _ _ p1 p2 (Heap.get?_push_of_some _ y3) (D1.frame _ _ _ d4 fun b _ o q => Heap.get?_push_of_some _ q) (D2.frame _ _ _ d3 fun b _ o q => Heap.get?_push_of_some _ q) hp fun c o c1 c2 c3 q => Heap.get?_push_of_some _ (e3.extBut _ _ c3 (e2.extBut _ _ c2 (e1.extBut _ _ c1 q)))
theorem heldEnd {Q : Fin → Shared → Prop} (S : ZipSep2 z TI TO i1 i2 fp1 fp2) (D1 : Draws prog w A i1 fp1 n1 P1 St1) (D2 : Draws prog w A i2 fp2 n2 P2 St2) (hz : IsZipHeld s.heap z TI TO T f) (hT : s.heap.get? T = some oT) (hI : IsPair s.heap TI (.ref i1) (.ref i2))
    (st1 : St1 i s.heap) (st2 : St2 i s.heap) (hl1 : i ≤ n1) (hl2 : i ≤ n2) (he : i = n1 ∨ i = n2)
    (k : ∀ h' tk e, (∀ c o, c ≠ z → c ≠ i1 → c ≠ i2 → s.heap.get? c = some o → h'.get? c = some o) → (∃ o, h'.get? e = some o ∧ o.cls = .type "StopIteration") → E (.ref e) { s with heap := h', toks := tk }) :
    wpAny (model prog w) A (Builtin.«zip.__next__» ⟨[.ref z], []⟩) Q E s := by
  show wpAny _ _ (field (.ref z) 2 >>= _) _ _ _
  refine wpAny_bind (wpAny_field hz rfl (x := .bool false) rfl ?_)
  show wpAny _ _ (field (.ref z) 3 >>= _) _ _ _
  refine wpAny_bind (wpAny_field hz rfl (x := .ref TI) rfl (wpAny_bind (wpAny_seqItems hI rfl ?_)))
  show wpAny _ _ (Builtin.SmallTypes.ownedTupleIsFree (.ref z) >>= _) _ _ _
  refine wpAny_bind (wpAny_tupleHeld_zip hz hT fun g1 y1 e1 => ?_)
  simp only [Bool.false_eq_true, if_false]
  refine wpAny_bind ?_
  rw [← Array.forIn_toList]
  simp only [List.forIn_cons, List.forIn_nil]
  refine wpAny_bind (wpAny_bind (wpAny_holding ?_))
  show wpAny _ _ (Builtin.SmallTypes.nextOf (.ref i1) >>= _) _ _ _
  by_cases c1 : i = n1
  · subst c1
    refine wpAny_bind (D1.done { s with heap := g1 } _ _ (D1.over st1 e1 S.zf1) fun g2 e x2 ho => ?_)
    exact k g2 s.toks e (fun c o a1 a2 _ q => x2 _ _ a2 (e1.extBut _ _ a1 q)) ho
  · have c2 : i = n2 := by rcases he with q | q; exact absurd q c1; exact q
    refine wpAny_bind (D1.item i { s with heap := g1 } _ _ (by omega) (D1.over st1 e1 S.zf1) fun x1 g2 t2 p1 d1 e2 => wpAny_pure (wpAny_pure ?_))
    refine wpAny_bind (wpAny_bind (wpAny_holding ?_))
    show wpAny _ _ (Builtin.SmallTypes.nextOf (.ref i2) >>= _) _ _ _
    have d2 : St2 i g2 := D2.over (D2.over st2 e1 S.zf2) e2 S.sep1_2
    subst c2
    refine wpAny_bind (D2.done { s with heap := g2, toks := t2 } _ _ d2 fun g3 e x3 ho => ?_)
    exact k g3 t2 e (fun c o a1 a2 a3 q => x3 _ _ a3 (e2.extBut _ _ a2 (e1.extBut _ _ a1 q))) ho
end
/-- a zip of two iterators that draw, as what dict() is made of -/
theorem pairZip {prog : Program} {w : World} {z TI TO i1 i2 : Addr} {fp1 fp2 : List Addr} {n1 n2 : Nat} {P1 P2 : Nat → Value → Prop} {St1 St2 : Nat → Heap → Prop} (S : ZipSep2 z TI TO i1 i2 fp1 fp2)
    (D1 : ∀ A : Around, A.handled = none → Draws prog w A i1 fp1 n1 P1 St1) (D2 : ∀ A : Around, A.handled = none → Draws prog w A i2 fp2 n2 P2 St2) (L1 : ∀ h, St1 0 h → ∀ b ∈ fp1, ∃ o, h.get? b = some o) (L2 : ∀ h, St2 0 h → ∀ b ∈ fp2, ∃ o, h.get? b = some o) :
    PairArg prog w "zip" z (z :: TI :: TO :: (fp1 ++ fp2)) [z, TO, i1, i2] (min n1 n2) (fun i k v => P1 i k ∧ P2 i v) (fun h => IsZip h z TI TO .none ∧ IsPair h TI (.ref i1) (.ref i2) ∧ (∃ a b, IsPair h TO a b) ∧ St1 0 h ∧ St2 0 h) where
  type := fun s ok => ⟨_, ok.1, rfl⟩
  notDict := by decide
  keep := fun h h' ok hk => by
    obtain ⟨hz, hI, ⟨a, b, hO⟩, s1, s2⟩ := ok
    exact ⟨hk _ _ hz, hk _ _ hI, ⟨a, b, hk _ _ hO⟩, (D1 callerA rfl).frame _ _ _ s1 fun b _ o e => hk b o e, (D2 callerA rfl).frame _ _ _ s2 fun b _ o e => hk b o e⟩
  there := fun h ok b hb => by
    obtain ⟨hz, hI, ⟨a, c, hO⟩, s1, s2⟩ := ok
    rcases List.mem_cons.mp hb with e | hb
    · rw [e]; exact ⟨_, hz⟩
    rcases List.mem_cons.mp hb with e | hb
    · rw [e]; exact ⟨_, hI⟩
    rcases List.mem_cons.mp hb with e | hb
    · rw [e]; exact ⟨_, hO⟩
    rcases List.mem_append.mp hb with hb | hb
    · exact L1 h s1 b hb
    · exact L2 h s2 b hb
  sub := fun b hb => by
    simp only [List.mem_cons, List.not_mem_nil, or_false] at hb
    rcases hb with rfl | rfl | rfl | rfl
    · exact List.mem_cons_self
    · exact List.mem_cons_of_mem _ (List.mem_cons_of_mem _ List.mem_cons_self)
    · exact List.mem_cons_of_mem _ (List.mem_cons_of_mem _ (List.mem_cons_of_mem _ (List.mem_append_left _ S.mem1)))
    · exact List.mem_cons_of_mem _ (List.mem_cons_of_mem _ (List.mem_cons_of_mem _ (List.mem_append_right _ S.mem2)))
  noKeys := fun A s Q E hA ok h => getAttrOr_miss_zip ok.1 rfl rfl rfl zip_no_keys (by decide +kernel) hA h
  iter := fun A s d Q E hA ok hd hdf h => by
    obtain ⟨hz, hI, ⟨a, b, hO⟩, s1, s2⟩ := ok
    have dz : d ≠ z := fun e => hdf (by rw [e]; exact List.mem_cons_self)
    have dI : d ≠ TI := fun e => hdf (by rw [e]; exact List.mem_cons_of_mem _ List.mem_cons_self)
    have dO : d ≠ TO := fun e => hdf (by rw [e]; exact List.mem_cons_of_mem _ (List.mem_cons_of_mem _ List.mem_cons_self))
    have d1 : ∀ b ∈ fp1, b ≠ d := fun b hb e => hdf (List.mem_cons_of_mem _ (List.mem_cons_of_mem _ (List.mem_cons_of_mem _ (List.mem_append_left _ (e ▸ hb)))))
    have d2 : ∀ b ∈ fp2, b ≠ d := fun b hb e => hdf (List.mem_cons_of_mem _ (List.mem_cons_of_mem _ (List.mem_cons_of_mem _ (List.mem_append_right _ (e ▸ hb)))))
    refine wpAny_pyIter_zip hz (h z [z, TO, i1, i2] (fun i g => IsPair g TI (.ref i1) (.ref i2) ∧ St1 i g ∧ St2 i g ∧ ((IsZip g z TI TO .none ∧ ∃ a b, IsPair g TO a b) ∨ ∃ T f oT, IsZipHeld g z TI TO T f ∧ g.get? T = some oT ∧ T ≠ z ∧ T ≠ i1 ∧ T ≠ i2 ∧ T ≠ d)) s.heap s.toks ?_ ⟨hI, s1, s2, .inl ⟨hz, a, b, hO⟩⟩ (fun _ _ e => e) fun b hb => .inl hb)
    refine ⟨fun hm => ?_, fun i g g' st hk => ?_, fun i u Q1 E1 hi st hds hQ => ?_, fun u Q1 E1 st hQ => ?_⟩
    · simp only [List.mem_cons, List.not_mem_nil, or_false] at hm
      rcases hm with e | e | e | e
      · exact dz e
      · exact dO e
      · exact d1 i1 S.mem1 e.symm
      · exact d2 i2 S.mem2 e.symm
    · obtain ⟨hI, s1, s2, hz⟩ := st
      refine ⟨hk _ _ dI.symm hI, (D1 callerA rfl).frame _ _ _ s1 fun b hb o e => hk b o (d1 b hb) e, (D2 callerA rfl).frame _ _ _ s2 fun b hb o e => hk b o (d2 b hb) e, ?_⟩
      rcases hz with ⟨hz, a, b, hO⟩ | ⟨T, f, oT, hz, hT, r1, r2, r3, r4⟩
      · exact .inl ⟨hk _ _ dz.symm hz, a, b, hk _ _ dO.symm hO⟩
      · exact .inr ⟨T, f, oT, hk _ _ dz.symm hz, hk _ _ r4 hT, r1, r2, r3, r4⟩
    · obtain ⟨hI, s1, s2, hz⟩ := st
      have hi1 : i < n1 := by omega
      have hi2 : i < n2 := by omega
      have lt : ∀ {c : Addr} {o : Obj}, u.heap.get? c = some o → u.heap.objs.size ≠ c := fun e => Nat.ne_of_gt (Heap.lt_size e)
      have ne1 : u.heap.objs.size ≠ i1 := let ⟨_, e⟩ := (D1 callerA rfl).live _ _ s1; lt e
      have ne2 : u.heap.objs.size ≠ i2 := let ⟨_, e⟩ := (D2 callerA rfl).live _ _ s2; lt e
      have mem : ∀ {c : Addr}, c ∉ [z, TO, i1, i2] → c ≠ z ∧ c ≠ TO ∧ c ≠ i1 ∧ c ≠ i2 := fun {c} hc => by
        simp only [List.mem_cons, List.not_mem_nil, or_false, not_or] at hc
        exact hc
      rcases hz with ⟨hz, a, b, hO⟩ | ⟨T, f, oT, hz, hT, r1, r2, r3, r4⟩
      · refine wpAny_pyNext_zipD2_item S (D1 A.in1 hA) (D2 A.in1 hA) hz hI hO s1 s2 hi1 hi2 fun x1 x2 g tk p1 p2 a1 a2 a3 a4 a5 a6 hk => ?_
        exact hQ u.heap.objs.size x1 x2 g tk ⟨p1, p2⟩ (.inl ⟨_, a5, rfl, _, rfl⟩) ⟨hk _ _ S.TIz S.TITO S.TIi1 S.TIi2 hI, a3, a4, .inr ⟨_, false, _, a1, a5, lt hz, ne1, ne2, Nat.ne_of_gt hds⟩⟩
          fun c o hc e => let ⟨m1, m2, m3, m4⟩ := mem hc; hk c o m1 m2 m3 m4 e
      · have hTy : u.TypeIs (.ref z) "zip" := ⟨_, hz, rfl⟩
        unfold pyNext
        refine wpAny_bind (wpAny_attempt (wpAny_callSpecial?_slot (name := Str.ofString "__next__") hTy F.slot_zip_next (wpAny_call_entry F.slot_zip_next hTy F.entry_zip_next (heldItem S (D1 A.in1 hA) (D2 A.in1 hA) hz hT hI s1 s2 hi1 hi2 fun x1 x2 g tk p1 p2 a1 a3 a4 a5 hk => wpAny_pure ?_) (F.args_zip_next_1 _))))
        exact hQ u.heap.objs.size x1 x2 g tk ⟨p1, p2⟩ (.inl ⟨_, a5, rfl, _, rfl⟩) ⟨hk _ _ S.TIz S.TIi1 S.TIi2 hI, a3, a4, .inr ⟨T, true, oT, a1, hk _ _ r1 r2 r3 hT, r1, r2, r3, r4⟩⟩
          fun c o hc e => let ⟨m1, m2, m3, m4⟩ := mem hc; hk c o m1 m3 m4 e
    · obtain ⟨hI, s1, s2, hz⟩ := st
      have mem : ∀ {c : Addr}, c ∉ [z, TO, i1, i2] → c ≠ z ∧ c ≠ TO ∧ c ≠ i1 ∧ c ≠ i2 := fun {c} hc => by
        simp only [List.mem_cons, List.not_mem_nil, or_false, not_or] at hc
        exact hc
      rcases hz with ⟨hz, a, b, hO⟩ | ⟨T, f, oT, hz, hT, r1, r2, r3, r4⟩
      · exact wpAny_pyNext_zipD2_end S (D1 A.in1 hA) (D2 A.in1 hA) hz hI hO s1 s2 (by omega) (by omega) (by omega) fun g tk hk => hQ g tk fun c o hc e => let ⟨m1, m2, m3, m4⟩ := mem hc; hk c o m1 m2 m3 m4 e
      · have hTy : u.TypeIs (.ref z) "zip" := ⟨_, hz, rfl⟩
        unfold pyNext
        refine wpAny_bind (wpAny_attempt (wpAny_callSpecial?_slot (name := Str.ofString "__next__") hTy F.slot_zip_next (wpAny_call_entry F.slot_zip_next hTy F.entry_zip_next (heldEnd S (D1 A.in1 hA) (D2 A.in1 hA) hz hT hI s1 s2 (by omega) (by omega) (by omega) fun g tk e hk ho => ?_) (F.args_zip_next_1 _))))
        obtain ⟨o, ho, hc⟩ := ho
        refine wpAny_bind (wpAny_isInstance (T := "StopIteration") (b := true) ⟨o, ho, hc⟩ isSubtype_stop ?_)
        exact wpAny_pure (hQ g tk fun c o hc e => let ⟨m1, m2, m3, m4⟩ := mem hc; hk c o m1 m3 m4 e)
/-! zip(a, b), a a list, b a tuple -/
abbrev mix1 (h : Heap) (a : Addr) : Heap := h.push { cls := .type "list_iterator", data := .fields #[.ref a, .int 0 0] }
abbrev mix2 (h : Heap) (a b : Addr) : Heap := (mix1 h a).push { cls := .type "tuple_iterator", data := .fields #[.ref b, .int 0 0] }
abbrev mix3 (h : Heap) (a b : Addr) : Heap := (mix2 h a b).push { cls := .type "tuple", data := .seq #[.ref h.objs.size, .ref (mix1 h a).objs.size] }
abbrev mix4 (h : Heap) (a b : Addr) : Heap := (mix3 h a b).push { cls := .type "tuple", data := .seq #[.none, .none] }
abbrev mix5 (h : Heap) (a b : Addr) : Heap := (mix4 h a b).push { cls := .type "zip", data := .fields #[.none, .bool false, .bool false, .ref (mix2 h a b).objs.size, .ref (mix3 h a b).objs.size] }
theorem mixNew (a b : Addr) (xs ys : Array Value) : Meets (Builtin.«zip.__new__» ⟨[.type "zip", .ref a, .ref b], []⟩) (fun _ R s => s.heap.IsList a xs ∧ s.heap.IsTuple b ys ∧ R (.ok (.ret (.ref (mix4 s.heap a b).objs.size))) { s with heap := mix5 s.heap a b }) :=
  .of_wp fun prog w A R s h => by
    obtain ⟨hp, g, d, tk, os⟩ := s
    obtain ⟨ha, hb, h⟩ := h
    have hsub := sub_zip
    have hA : Heap.IsList (Shared.heap ⟨hp, g, d, tk, os⟩) a xs := ha
    have hB : Heap.IsTuple (Shared.heap ⟨hp.push { cls := .type "list_iterator", data := .fields #[.ref a, .int 0 0] }, g, d, tk, os⟩) b ys := Heap.IsTuple.push hb _
    wp_walk using wpAny_pyIter_list hA, wpAny_pyIter_tuple hB
    exact ⟨_, rfl, h⟩
theorem callMix {prog : Program} {w : World} {A : Around} {E : Value → Shared → Prop} {s : Shared} {a b : Addr} {xs ys : Array Value} {Q : Value → Shared → Prop} (ha : s.heap.IsList a xs) (hb : s.heap.IsTuple b ys)
    (k : ∀ h', IsZip h' (s.heap.objs.size + 4) (s.heap.objs.size + 2) (s.heap.objs.size + 3) .none → IsPair h' (s.heap.objs.size + 2) (.ref s.heap.objs.size) (.ref (s.heap.objs.size + 1)) → IsPair h' (s.heap.objs.size + 3) .none .none →
      h'.IsListIter s.heap.objs.size a 0 → h'.IsTupleIter (s.heap.objs.size + 1) b 0 → (∀ c o, s.heap.get? c = some o → h'.get? c = some o) → Q (.ref (s.heap.objs.size + 4)) { s with heap := h' }) :
    wpAny (model prog w) A (call (.type "zip") [.ref a, .ref b]) Q E s := by
  refine callType_new F.called_zip (by decide) (F.typeCall_zip_2 _ _) (F.newCall_zip_2 _ _) (fun obj => F.args_object_init_3 obj _ _) F.entry_zip_new (mixNew a b xs ys) ⟨ha, hb, ?_⟩
  have y1 : (mix1 s.heap a).objs.size = s.heap.objs.size + 1 := Heap.size_push ..
  have y2 : (mix2 s.heap a b).objs.size = s.heap.objs.size + 2 := by rw [Heap.size_push, y1]
  have y3 : (mix3 s.heap a b).objs.size = s.heap.objs.size + 3 := by rw [Heap.size_push, y2]
  have y4 : (mix4 s.heap a b).objs.size = s.heap.objs.size + 4 := by rw [Heap.size_push, y3]
  have up : ∀ {h : Heap} {o : Obj} {c : Addr} {u : Obj}, h.get? c = some u → (h.push o).get? c = some u := fun e => Heap.get?_push_of_some _ e
  have g5 : (mix5 s.heap a b).get? (mix4 s.heap a b).objs.size = some _ := Heap.get?_push_size _ rfl
  have g4 : (mix5 s.heap a b).get? (mix3 s.heap a b).objs.size = some _ := up (Heap.get?_push_size _ rfl)
  have g3 : (mix5 s.heap a b).get? (mix2 s.heap a b).objs.size = some _ := up (up (Heap.get?_push_size _ rfl))
  have g2 : (mix5 s.heap a b).get? (mix1 s.heap a).objs.size = some _ := up (up (up (Heap.get?_push_size _ rfl)))
  have g1 : (mix5 s.heap a b).get? s.heap.objs.size = some _ := up (up (up (up (Heap.get?_push_size _ rfl))))
  show _ ∧ _
  rw [y2, y3, y4] at g5
  rw [y1, y2] at g3
  rw [y3] at g4
  rw [y1] at g2
  rw [y4]
  exact ⟨⟨_, g5, rfl⟩, k _ g5 g3 g4 ⟨_, g1, rfl, rfl⟩ ⟨_, g2, rfl, rfl⟩ fun c o e => up (up (up (up (up e))))⟩
end Pk
end
section
set_option maxHeartbeats 2000000
/-! The rule for dict(zip(names, things)). -/
namespace Pk
open PySem PySem.Spec PyProof.Rows L2
def strKv (e : Str × V) : Key × V := (Sum.inr e.1, e.2)
def tDictZ (K : PySem.W.Frag) (ta : TA) : TE := fun σ H Q => ta σ H fun vs H1 => ∃ (a b : Addr) (ss : List Str) (ys : List V), vs = [.ref a, .ref b] ∧ SqL K H1 a (ss.map V.str) ∧ SqT K H1 b ys ∧ ss.length = ys.length ∧ ∀ p, H1 p = none → Q (.ref p) (upd H1 p (.dK (mergeK [] ((ss.zip ys).map strKv))))
theorem kv_zip : ∀ {ss : List Str} {ys : List V} {us ws : List Value}, Vals (ss.map V.str) us → Vals ys ws → ss.length = ys.length →
    ∃ prs : List (Key × Value), KV ((ss.zip ys).map strKv) prs ∧ prs.length = ss.length ∧ ∀ (i : Nat) (u v : Value), us[i]? = some u → ws[i]? = some v → ∃ z t, u = .str z t ∧ prs[i]? = some (Sum.inr z, v)
  | [], [], _, _, .nil, .nil, _ => ⟨[], .nil, rfl, fun i u v h => by simp at h⟩
  | [], _ :: _, _, _, _, _, h => by simp at h
  | _ :: _, [], _, _, _, _, h => by simp at h
  | z :: ss, y :: ys, _, _, .cons r t, .cons q t2, h => by
    obtain ⟨prs, k, l, f⟩ := kv_zip t t2 (by simpa using h)
    obtain ⟨tk, rfl⟩ := (show ∃ t, _ = Value.str z t from r)
    refine ⟨(Sum.inr z, _) :: prs, .cons ⟨rfl, q⟩ k, by simp [l], fun i u v h1 h2 => ?_⟩
    cases i with
    | zero =>
      cases h1
      cases h2
      exact ⟨z, tk, rfl, rfl⟩
    | succ i => exact f i u v h1 h2
theorem pe_dictZ {X : Cx} {e1 e2 : Expr} {ta : TA} {p pz pos ipos : Pos} (hc : X.calm = true) (hgd : Gl X "dict") (hmd : X.mg "dict" = none) (hgz : Gl X "zip") (hmz : X.mg "zip" = none) (ha : PA X [e1, e2] ta)
    (hst : starEach [e1, e2] X.env = (false, eval e1 X.env) :: starEach [e2] X.env := by rfl) (hpl : (backTo ipos (starEach [e2] X.env)).any (·.1) = false := by rfl)
    (hs2 : starEach [.Call (.Name "zip" pz) [e1, e2] [] ipos] X.env = (false, eval (.Call (.Name "zip" pz) [e1, e2] [] ipos) X.env) :: starEach [] X.env := by rfl) :
    PE X (.Call (.Name "dict" p) [.Call (.Name "zip" pz) [e1, e2] [] ipos] [] pos) (tDictZ X.K ta) := by
  refine ⟨fun pins s σ H Q I h => wpAny_Call_Name_kw (ld_blt (u := .type "dict") I hgd hmd (by decide +kernel) ?_)⟩
  refine PyProof.Rows.callWith_type1 ?_ hs2 (by rfl)
  rw [hs2]
  show wpAny _ _ (spliced ((false, eval (.Call (.Name "zip" pz) [e1, e2] [] ipos) X.env) :: backTo pos (starEach [] X.env))) _ _ s
  refine Calls.spliced_cons (Call_ (ld_blt I hgz hmz PyProof.Rows.boot_zip (PyProof.Rows.callWith_type1 (thn (ha.run ipos pins s σ H _ I h) fun us s1 ⟨vs, H1, I1, r1, q1⟩ => ?_) hst hpl)))
  obtain ⟨a, b, ss, ys, rfl, hA, hB, hl, q⟩ := q1
  obtain ⟨u1, u2, rfl, ra, rb⟩ := vals2 r1
  cases ra
  cases rb
  obtain ⟨its, rv, p1, z1⟩ := I1.list hA
  obtain ⟨its2, rv2, p2, z2⟩ := I1.tuple hB
  have pl := p1.isList
  have a9 : a < s1.heap.objs.size := let ⟨_, e, _⟩ := pl; Heap.lt_size e
  have b9 : b < s1.heap.objs.size := let ⟨_, e, _⟩ := p2; Heap.lt_size e
  refine callMix pl (show s1.heap.IsTuple b its2.toArray from p2) fun hz y1 y2 y3 y4 y5 zk => ?_
  generalize hn : s1.heap.objs.size = n at a9 b9 y1 y2 y3 y4 y5
  refine Calls.spliced_nil ?_
  have D := PySem.W.ktu_apart n a b a9 b9
  have sep : ZipSep2 (n + 4) (n + 2) (n + 3) n (n + 1) [n, a] [n + 1, b] := by
    refine ⟨D.TIz, D.TOz, D.TITO, D.TIi1, List.mem_cons_self, fun q => ?_, fun q => ?_, D.TIi2, List.mem_cons_self, fun q => ?_, fun q => ?_, fun q => ?_, fun q => ?_⟩ <;> simp only [List.mem_cons, List.not_mem_nil, or_false] at q <;> rcases q with e | e
    · exact D.i1z e.symm
    · exact D.l1z e.symm
    · exact D.TOi1 e
    · exact D.l1TO e.symm
    · exact D.i2z e.symm
    · exact D.l2z e.symm
    · exact D.TOi2 e
    · exact D.l2TO e.symm
    · exact D.i12 e
    · exact D.l2i1 e.symm
    · exact D.i12 e.symm
    · exact D.l1i2 e.symm
  have PA := pairZip (prog := X.prog) (w := X.w) sep (fun A hA => Draws.list hA n a (Nat.ne_of_lt a9) its.toArray) (fun A hA => drawsTup hA (n + 1) b (Nat.ne_of_lt (Nat.lt_succ_of_lt b9)) its2.toArray)
    (fun h st q hq => by
      simp only [List.mem_cons, List.not_mem_nil, or_false] at hq
      rcases hq with e | e
      · rw [e]; obtain ⟨o, ho, _⟩ := st.1; exact ⟨o, ho⟩
      · rw [e]; obtain ⟨o, ho, _⟩ := st.2; exact ⟨o, ho⟩)
    (fun h st q hq => by
      simp only [List.mem_cons, List.not_mem_nil, or_false] at hq
      rcases hq with e | e
      · rw [e]; obtain ⟨o, ho, _⟩ := st.1; exact ⟨o, ho⟩
      · rw [e]; obtain ⟨o, ho, _⟩ := st.2; exact ⟨o, ho⟩)
  have pl' : hz.IsList a its.toArray := let ⟨o, e, r⟩ := pl; ⟨o, zk _ _ e, r⟩
  have p2' : hz.IsTuple b its2.toArray := let ⟨o, e, r⟩ := p2; ⟨o, zk _ _ e, r⟩
  obtain ⟨prs, kv, lp, fp⟩ := kv_zip rv rv2 hl
  have l1 := rv.length
  have l2 := rv2.length
  rw [List.length_map] at l1
  have hnn : min its.toArray.size its2.toArray.size = prs.length := by simp; omega
  refine PySem.call_dict_pairs (knd := mixKind X.prog X.w) (kvs := prs) PA (I1.ok.hd hc) ⟨y1, y2, ⟨_, _, y3⟩, ⟨y4, pl'⟩, ⟨y5, p2'⟩⟩ ⟨hnn.symm, fun i key v hkv => ?_⟩ (by rw [hnn, lp]; rw [List.length_map] at z1; exact z1) fun h' tk hd' hk => ?_
  · obtain ⟨z, t, e1, e2⟩ := fp i key v (by simpa using hkv.1) (by simpa using hkv.2)
    exact ⟨_, e2, by rw [e1]; exact mixKind_str X.prog X.w z t⟩
  · have sz : s1.heap.objs.size ≤ hz.objs.size := by
      rw [hn]
      exact Nat.le_of_lt (Nat.lt_of_le_of_lt (Nat.le_add_right n 4) (Heap.lt_size y1))
    have kp : ∀ b u, s1.heap.get? b = some u → h'.get? b = some u := fun c u e => hk c u (fun hm => by
      have hlt : c < s1.heap.objs.size := Heap.lt_size e
      rw [hn] at hlt
      have q : ∀ {c n : Nat}, c < n → c ≠ n + 4 ∧ c ≠ n + 3 ∧ c ≠ n ∧ c ≠ n + 1 := fun h => by omega
      obtain ⟨m1, m2, m3, m4⟩ := q hlt
      simp only [List.mem_cons, List.not_mem_nil, or_false] at hm
      rcases hm with e | e | e | e
      · exact m1 e
      · exact m2 e
      · exact m3 e
      · exact m4 e) (zk _ _ e)
    have hm : (hz.objs.size == sysModules) = false := beq_eq_false_iff_ne.mpr (Nat.ne_of_gt (Nat.lt_of_lt_of_le I1.big sz))
    have hlen : (mergeK [] ((ss.zip ys).map strKv)).length ≤ sizeLine := by
      refine Nat.le_trans (length_mergeK _ []) ?_
      rw [List.length_nil, Nat.zero_add, kv.length, lp]
      rw [List.length_map] at z1
      exact z1
    exact ⟨.ref hz.objs.size, upd H1 hz.objs.size (.dK (mergeK [] ((ss.zip ys).map strKv))), I1.laid (t' := tk) kp sz (show ObjOk X.prog X.w _ _ _ (.dK (mergeK [] ((ss.zip ys).map strKv))) from ⟨hlen, hm, merged [] prs, KV.merge kv .nil, hd'⟩), rfl, q _ (I1.hok.fresh sz)⟩
end Pk
end
/-! holds, rule_holds; the law's own. -/
namespace Pk
open PySem L2
theorem inS_is {zs : List Str} {d : PyData} (h : inS zs d = true) : ∃ z ∈ zs, d = .str z := by
  unfold inS at h
  obtain ⟨z, hz, e⟩ := List.any_eq_true.mp h
  exact ⟨z, hz, strIs_is e⟩
theorem whole_is {lo hi : Int} {d : PyData} (h : wholeD lo hi d = true) : ∃ i, d = .int i := by
  cases d with
  | int i => exact ⟨i, rfl⟩
  | _ => cases h
theorem say_is {ns : List Str} {d : PyData} (h : sayingD ns d = true) : ∃ z so i, d = .tuple [.str z, .str so, .int i] ∧ z ∈ ns ∧ so ∈ sorts2 := by
  unfold sayingD at h
  split at h
  · rw [Bool.and_eq_true, Bool.and_eq_true] at h
    obtain ⟨z, hz, rfl⟩ := inS_is h.1
    obtain ⟨so, hs, rfl⟩ := inS_is h.2.1
    obtain ⟨i, rfl⟩ := whole_is h.2.2
    exact ⟨z, so, i, rfl, hz, hs⟩
  · cases h
theorem rule_is {ns : List Str} {d : PyData} (h : ruleD ns d = true) : (∃ p q, d = .tuple [.str "one", p, q] ∧ sayingD ns p = true ∧ sayingD ns q = true) ∨ ∃ w a b c, d = .tuple [.str w, .str a, .str b, .int c] ∧ w ∈ pairs3 ∧ a ∈ ns ∧ b ∈ ns := by
  unfold ruleD at h
  split at h
  · rw [Bool.and_eq_true, Bool.and_eq_true] at h
    exact .inl ⟨_, _, by rw [strIs_is h.1], h.2.1, h.2.2⟩
  · rw [Bool.and_eq_true, Bool.and_eq_true, Bool.and_eq_true, Bool.and_eq_true] at h
    obtain ⟨w, hw, rfl⟩ := inS_is h.1
    obtain ⟨a, ha, rfl⟩ := inS_is h.2.1
    obtain ⟨b, hb, rfl⟩ := inS_is h.2.2.1
    obtain ⟨c, rfl⟩ := whole_is h.2.2.2.2
    exact .inr ⟨w, a, b, c, rfl, hw, ha, hb⟩
  · cases h
theorem pairs_one : ∀ w ∈ pairs3, decide (w = ("one" : Str)) = false := by decide +kernel
def spHolds : Sp := fun vs H Q _ => ∃ (x : V) (d : Addr) (es : List (Str × Int)) (sd : PyData), vs = [x, .ref d] ∧ Tr H x sd ∧ sayingD (es.map (·.1)) sd = true ∧ H d = some (.dK (es.map kvOf)) ∧ Q (.bl (holdsS (lookE es) sd)) H
def spRuleH : Sp := fun vs H Q _ => ∃ (x : V) (d : Addr) (es : List (Str × Int)) (rd : PyData), vs = [x, .ref d] ∧ Tr H x rd ∧ ruleD (es.map (·.1)) rd = true ∧ H d = some (.dK (es.map kvOf)) ∧ Q (.bl (ruleH (lookE es) rd)) H
theorem tup3 {H : Hp} {x : V} {a b c : PyData} (t : Tr H x (.tuple [a, b, c])) : ∃ (p : Addr) (u v w : V), x = .ref p ∧ H p = some (.tup [u, v, w]) ∧ Tr H u a ∧ Tr H v b ∧ Tr H w c := by
  cases t with
  | @tup p xs _ h al =>
    match xs, al with
    | [_, _, _], .cons t1 (.cons t2 (.cons t3 .nil)) => exact ⟨p, _, _, _, rfl, h, t1, t2, t3⟩
theorem tup4 {H : Hp} {x : V} {a b c d : PyData} (t : Tr H x (.tuple [a, b, c, d])) : ∃ (p : Addr) (u v w y : V), x = .ref p ∧ H p = some (.tup [u, v, w, y]) ∧ Tr H u a ∧ Tr H v b ∧ Tr H w c ∧ Tr H y d := by
  cases t with
  | @tup p xs _ h al =>
    match xs, al with
    | [_, _, _, _], .cons t1 (.cons t2 (.cons t3 (.cons t4 .nil))) => exact ⟨p, _, _, _, _, rfl, h, t1, t2, t3, t4⟩
theorem Tr.strV {H : Hp} {x : V} {z : Str} (t : Tr H x (.str z)) : x = .str z := by cases t; rfl
theorem Tr.intV {H : Hp} {x : V} {z : Int} (t : Tr H x (.int z)) : x = .int z := by cases t; rfl
section
variable {P : Program} {w : World} {K : PySem.W.Frag} {mg : Str → Option Value} {base : Heap}
end
end Pk
section
set_option maxHeartbeats 2000000
/-! try .. except X as n, the error kept behind the suite. -/
namespace Pk
open PySem PySem.Spec PyProof.Rows L2
/-- at a: an error that was caught, of the class cls, its dict at d -/
def keptX (a : Addr) (cls : Value) (d : Option Addr) : HO := .ext fun h => ∃ (oe : Obj) (vs : Array Value), h.get? a = some oe ∧ Zc cls d oe ∧ oe.data = .fields vs
theorem keptX_ok {P : Program} {w : World} {H : Hp} {h : Heap} {a : Addr} {cls : Value} {d : Option Addr} {oe : Obj} {vs : Array Value} (e : h.get? a = some oe) (z : Zc cls d oe) (hd : oe.data = .fields vs) : ObjOk P w H h a (keptX a cls d) :=
  ⟨⟨oe, vs, e, z, hd⟩, ⟨oe, e⟩, fun _ _ ⟨o, v, q, r⟩ k => ⟨o, v, k o q, r⟩⟩
section
variable {X : Cx} {pins : List (Addr × Obj)} {σ : L2.St} {H : Hp} {s : Shared}
/-- what came since the entry may be tracked from now on -/
theorem track {a : Addr} {o : HO} (I : L2.Inv X pins σ H s) (na : H a = none) (n0 : X.s_0.heap.get? a = none) (nL : a ≠ X.env.locals) (nC : ∀ x c, X.env.cells.lookup x = some c → c ≠ a) (np : ∀ p ∈ X.pn ++ pins, p.1 ≠ a) (new : ObjOk X.prog X.w (upd H a o) s.heap a o) : L2.Inv X pins σ (upd H a o) s where
  ok := I.ok
  os := I.os
  bare := I.bare
  base := ⟨I.base.keep, I.base.slot, fun b u e n hx => by
      rw [upd_ne (fun z => by rw [z, n0] at e; cases e)]
      exact I.base.free b u e n hx, I.base.there, fun b xs e => by
      have q := I.base.tups b xs e
      rw [upd_ne (ne_of_none q na)]
      exact q, fun b u v e => by
      have q := I.base.frzs b u v e
      rw [upd_ne (ne_of_none q na)]
      exact q, fun b ps e => by
      obtain ⟨more, q⟩ := I.base.tbls b ps e
      exact ⟨more, by rw [upd_ne (ne_of_none q na)]; exact q⟩⟩
  loc := I.loc
  cell := I.cell
  free := by rw [upd_ne nL.symm]; exact I.free
  freeC := fun x c e => by rw [upd_ne (nC x c e)]; exact I.freeC x c e
  pin := fun p hp => by
    obtain ⟨h1, h2, h3⟩ := I.pin p hp
    exact ⟨h1, by rw [upd_ne (np p hp)]; exact h2, h3⟩
  hok := I.hok.laidN (fun _ _ e => e) na new
  len := I.len
end
def wKeep (K : PySem.W.Frag) (c : Value) (i : Nat) (ts : Addr → Value → Option Addr → TS) (Wout : WX) (D : Ends) : WX := fun cls d σ H =>
  ∃ b, PySem.W.exmOne K cls c = some b ∧ (b = true → ∀ a, H a = none → ts a cls d { nx := fun σ' H' => H' a = none → D.nx (σ'.set i none) (upd H' a (keptX a cls d)), rt := fun _ _ => False, bk := fun _ _ => False, ct := fun _ _ => False } (σ.set i (some (.ref a))) H) ∧ (b = false → Wout cls d σ H)
section
variable {X : Cx} {x n : Str} {c : Value} {i : Nat} {body suite : List Stmt} {b0 : Stmt} {np pos pos' : Pos} {tb : WX → TS} {ts : Addr → Value → Option Addr → TS} {Wout : WX}
theorem ps_try_keep (hex : X.ex = []) (hs : X.stack = X.env :: X.outer) (hf : X.env.frame = some X.env.locals) (hN : X.N.Nodup) (hi : X.N[i]? = some n) (hln : X.env.kindOf n = some .local) (hc : Names X x c) (tk : Takes X Wout)
    (hb : ∀ (W : WX) (pn : List (Addr × Obj)) (xe : Value → Shared → Prop), Takes (X.tr pn xe) W → PassesOwn (model X.prog X.w) X.A X.env xe → PSs (X.tr pn xe) body (tb W))
    (hsu : ∀ (a : Addr) (oe : Obj) (cls : Value) (d : Option Addr) (pn : List (Addr × Obj)), Zc cls d oe → (∃ vs, oe.data = .fields vs) → PSs (X.suite a ((a, oe) :: pn)) (b0 :: suite) (ts a cls d)) :
    PS X (.Try body [.ExceptHandler (some (.Name x np)) (some n) (b0 :: suite) pos'] [] [] pos) (fun D σ H => tb (wKeep X.K c i ts Wout D) D σ H) := by
  refine ⟨fun pins s σ H D I h => ?_⟩
  have ok := I.ok
  have hfr : X.A.frames = some (X.env :: X.outer) := by rw [ok.frames, hs]
  refine wpAny_Try_except (wpAny_mono ((hb (wKeep X.K c i ts Wout D) (X.pn ++ pins) (fun e u1 => wpAny (model X.prog X.w) X.A (noteFrame e X.env) (fun _ u2 => wpAny (model X.prog X.w) X.A (setFlight e none) (fun _ u3 =>
    wpAny (model X.prog X.w) X.A (handleBy e X.env [.ExceptHandler (some (.Name x np)) (some n) (b0 :: suite) pos']) (SP X pins D) X.xe u3) X.xe u2) X.xe u1) (fun u s' xx => ?_) PassesOwn.looking).run [] s σ H D (I.toTry _) h) (fun f s1 hsp => ?_) (fun e s1 he => he))
  · obtain ⟨a, B, sI, pins', σ', H', cls, d, rfl, J', nb, up, sky, na, os, ag, b, hb1, hyes, hno⟩ := xx
    have J : L2.Inv X pins σ' H' sI := J'.ofTry ok
    show wpAny (model X.prog X.w) X.A (noteFrame (.ref a) X.env) _ _ _
    refine Sky.land Zc.steady hfr hf (show Sky B (X.env :: X.outer) a (Zc cls d) X.env.locals s'.heap by rw [← hs]; exact sky) fun h3 fl3 up3 => ?_
    have J3 : L2.Inv X pins σ' H' { s' with heap := h3 } := J.landed nb fl3.1 (up.trans up3) os ag
    obtain ⟨oe3, vs3, he3, hz3, hd3⟩ := fl3.there
    have nfr : a ∉ frs (X.env :: X.outer) := fun hm => by
      obtain ⟨_, o', e', hnf⟩ := fl3.2.2.1.mem hm
      rw [he3] at e'
      cases e'
      exact hnf _ hd3
    have nI : sI.heap.get? a = none := by
      cases e : sI.heap.get? a with
      | none => rfl
      | some o =>
        have q := nb a o e (by rw [hs]; exact nfr)
        rw [fl3.2.1] at q
        cases q
    have n0 : X.s_0.heap.get? a = none := by
      cases e : X.s_0.heap.get? a with
      | none => rfl
      | some o =>
        obtain ⟨o', q⟩ := J.base.there a o e (by rw [hex]; simp)
        rw [nI] at q
        cases q
    have nP : ∀ p ∈ X.pn ++ pins, p.1 ≠ a := fun p hp z => by
      have q := (J.pin p hp).1
      rw [z, nI] at q
      cases q
    have nL : a ≠ X.env.locals := fun z => nfr (List.mem_filterMap.mpr ⟨X.env, List.mem_cons_self, by rw [hf, z]⟩)
    have nF : a ∉ X.fs := fun hm => by
      obtain ⟨e, he, q⟩ := List.mem_filterMap.mp hm
      exact nfr (List.mem_filterMap.mpr ⟨e, List.mem_cons_of_mem _ he, q⟩)
    have S3 := J3.suite he3 hd3 na nL nF
    refine wpAny_handleBy_cons (codeAny_handlers_test ?_) (by intro q; cases q)
    have LT : PySem.W.Looks (model X.prog X.w) h3 (typeOf (.ref a)) cls := fun A Q E u k q => wpAny_typeOf_ref (k _ _ he3) (by rw [hz3.1]; exact q)
    have LM := PySem.W.exm_one (M := model X.prog X.w) J3.kIn LT hb1
    have test : ∀ {Q : Value → Shared → Prop} {E : Value → Shared → Prop}, Q c { s' with heap := h3 } → wpAny (model X.prog X.w) (X.A.mark (some (.ref a))) (eval (.Name x np) X.env) Q E { s' with heap := h3 } := fun {Q E} q => by
      obtain ⟨hg, hdbg, hm | ⟨hm, hv, hnn⟩⟩ := hc
      · exact ld_glob (X := X.suite a ((a, oe3) :: (X.pn ++ pins))) S3 hg hm q hdbg
      · exact ld_blt (X := X.suite a ((a, oe3) :: (X.pn ++ pins))) S3 hg hm hv q hnn hdbg
    refine test (LM.here ?_)
    cases b with
    | true =>
      refine codeAny_handlers_suite_as (HandSPX.lands_againZ fl3 fun h4 fl4 up4 => ?_)
      have J4 : L2.Inv X pins σ' H' { s' with heap := h4 } := J.landed nb fl4.1 ((up.trans up3).trans up4) os ag
      obtain ⟨oe4, vs4, he4, hz4, hd4⟩ := fl4.there
      have S4 := J4.suite he4 hd4 na nL nF
      refine store_ok (X := X.suite a ((a, oe4) :: (X.pn ++ pins))) (v := .ref a) S4 hN hi (.inl hln) rfl (fun s5 S5 => ?_) (.inr hln)
      refine wpAny_mono ((hsu a oe4 cls d (X.pn ++ pins) hz4 ⟨_, hd4⟩).run [] s5 _ H' _ S5 (hyes rfl a na)) (fun f s6 hsp => ?_) (fun _ _ z => False.elim z)
      cases f with
      | next =>
        obtain ⟨σ6, H6, S6, q6⟩ := hsp
        obtain ⟨e6, n6, _⟩ := S6.pin (a, oe4) (List.mem_append_left _ List.mem_cons_self)
        have I6 := S6.unsuite ok
        have I7 := track (o := keptX a cls d) I6 n6 n0 nL (fun y cc hy z => by
          obtain ⟨v, o, h1, h2⟩ := I6.cell y cc hy
          rw [z] at h1
          have h1' : s6.heap.get? a = some o := h1
          rw [show s6.heap.get? a = some oe4 from e6] at h1'
          cases h1'
          rw [hd4] at h2
          cases h2) nP (keptX_ok e6 hz4 hd4)
        exact gone_ok I7 hN hi hln fun s7 J7 => ⟨_, _, J7, q6 n6⟩
      | brk =>
        obtain ⟨_, _, _, q6⟩ := hsp
        exact q6.elim
      | cont =>
        obtain ⟨_, _, _, q6⟩ := hsp
        exact q6.elim
      | ret u =>
        obtain ⟨_, _, _, _, _, q6⟩ := hsp
        exact q6.elim
    | false =>
      show wpAny _ X.A (handleBy (.ref a) X.env []) _ _ _
      refine wpAny_handleBy_nil ?_
      obtain ⟨k1, k2, k3, oe, vs, T, oT, ts', he, hz, hd, h1, hr⟩ := id fl3
      unfold PySem.passOn
      refine wpAny_bind (wpAny_field he hd h1 ?_)
      rw [if_neg (show ¬ ((Value.ref T == Value.none) = true) from by simp)]
      have fin : wpAny (model X.prog X.w) X.A (setFlight (.ref a) X.env.frame) (fun _ u4 => wpAny (model X.prog X.w) X.A (throw (.ref a) : Sem Flow) (SP X pins D) X.xe u4) X.xe { s' with heap := h3 } := by
        rw [hf]
        refine HandSPX.setFlight_upZ fl3 fun h4 hh4 up4 => wpAny_throw (tk _ _ ?_)
        exact ⟨a, B, sI, pins, σ', H', cls, d, rfl, J, nb, (up.trans up3).trans up4, .inr (.inr (by rw [hs]; exact hh4)), na, os, ag, hno rfl⟩
      first
        | exact wpAny_bind (wpAny_pure (wpAny_bind fin))
        | exact wpAny_bind fin
  · cases f with
    | next =>
      obtain ⟨σ', H', J', q⟩ := hsp
      exact wpAny_execs_nil ⟨σ', H', J'.ofTry ok, q⟩
    | brk =>
      obtain ⟨σ', H', J', q⟩ := hsp
      exact ⟨σ', H', J'.ofTry ok, q⟩
    | cont =>
      obtain ⟨σ', H', J', q⟩ := hsp
      exact ⟨σ', H', J'.ofTry ok, q⟩
    | ret u =>
      obtain ⟨v, σ', H', J', r, q⟩ := hsp
      exact ⟨v, σ', H', J'.ofTry ok, r, q⟩
end
section
variable {X : Cx}
/-- what isinstance asks of an error that was kept -/
theorem kept_kit {pz : List (Addr × Obj)} {σ : L2.St} {H : Hp} {s : Shared} {a C : Addr} (I : L2.Inv X pz σ H s) (e : H a = some (keptX a (.ref C) none)) (TT : ExcC X.K C) : ∃ P : Heap → Prop, PySem.W.KitX X.K (.ref a) (.ref C) P ∧ P s.heap := by
  have hcl : (PySem.W.clsIn X.K C).isSome = true := by
    obtain ⟨cd, hc, _⟩ := PySem.W.any_some TT.hd
    rw [hc]
    rfl
  obtain ⟨⟨oe, vs, ho, hy, hd⟩, _, _⟩ := I.hok a _ e
  refine ⟨_, PySem.W.kitx_exc (ox := oe) (od := none) hcl TT.hg TT.hk TT.hs TT.ha TT.hn TT.ht TT.hm, ?_⟩
  obtain ⟨oc, oq, oda, osl⟩ := oe
  obtain ⟨h1, h2⟩ := hy
  dsimp only at h1 h2 hd
  subst h1 h2 hd
  exact ⟨ho, rfl, rfl, trivial⟩
theorem call_isK : CallR X (.builtin "isinstance") (fun xs H Q => ∃ (a C : Addr) (c : V) (u : Value) (b : Bool), xs = [.ref a, c] ∧ H a = some (keptX a (.ref C) none) ∧ ExcC X.K C ∧ ClsV c u ∧ PySem.W.kitOne X.K (.ref C) u = some b ∧ Q (.bl b) H) := by
  intro pz s σ H xs ua Q I r h
  obtain ⟨a, C, c, u, b, rfl, ea, TT, k, e, q⟩ := h
  obtain ⟨u1, u2, rfl, ra, rb⟩ := vals2 r
  have e2 := k.eq rb
  subst e2
  cases (show u1 = Value.ref a from ra)
  obtain ⟨P, Z, p⟩ := kept_kit I ea TT
  exact PySem.W.kia_one Z I.kIn p e (fun z => nomatch z) fun tz => ⟨.bl b, H, I.tok tz, rfl, q⟩
theorem call_isKT : CallR X (.builtin "isinstance") (fun xs H Q => ∃ (a C : Addr) (tp : Addr) (cs : List V) (ws : List Value) (b : Bool), xs = [.ref a, .ref tp] ∧ H a = some (keptX a (.ref C) none) ∧ ExcC X.K C ∧ H tp = some (.tup cs) ∧ Paired ClsV cs ws ∧ PySem.W.kitAny X.K (.ref C) ws = some b ∧ Q (.bl b) H) := by
  intro pz s σ H xs ua Q I r h
  obtain ⟨a, C, tp, cs, ws, b, rfl, ea, TT, htp, k, e, q⟩ := h
  obtain ⟨u1, u2, rfl, ra, rb⟩ := vals2 r
  cases (show u2 = Value.ref tp from rb)
  cases (show u1 = Value.ref a from ra)
  obtain ⟨P, Z, p⟩ := kept_kit I ea TT
  obtain ⟨_, itz, rz, o, h1, h2, n, h3⟩ := (show ObjOk X.prog X.w H s.heap tp (.tup cs) from I.hok tp _ htp)
  have e3 := ClsV.all k rz
  subst e3
  obtain ⟨oc, oq, dt, sl⟩ := o
  simp only at h2 h3
  subst h2 h3
  exact PySem.W.kia_tup Z I.kIn p h1 e (fun z => nomatch z) fun tz => ⟨.bl b, H, I.tok tz, rfl, q⟩
end
end Pk
end
/-! by_names, broken_rules, stands, check_house. -/
namespace Pk
open PySem L2
/-- all stays, but these tables may grow -/
def GrS (Ps : List Addr) (H H' : Hp) : Prop := (∀ P ∈ Ps, GxR.TabG H' P) ∧ ∀ b o, b ∉ Ps → H b = some o → H' b = some o
def Tabs (Ps : List Addr) (H : Hp) : Prop := ∀ P ∈ Ps, GxR.TabG H P
theorem Tabs.not {Ps : List Addr} {H : Hp} {a : Addr} {o : HO} (t : Tabs Ps H) (h : H a = some o) (n : ∀ q, o ≠ .tbl q) : a ∉ Ps := fun hm => by
  obtain ⟨ps, z, _⟩ := t a hm
  rw [h] at z
  cases z
  exact n ps rfl
theorem GrS.refl {Ps : List Addr} {H : Hp} (t : Tabs Ps H) : GrS Ps H H := ⟨t, fun _ _ _ e => e⟩
theorem GrS.trans {Ps : List Addr} {H H1 H2 : Hp} (a : GrS Ps H H1) (b : GrS Ps H1 H2) : GrS Ps H H2 := ⟨b.1, fun c o hc e => b.2 c o hc (a.2 c o hc e)⟩
theorem GrS.of {Ps : List Addr} {P : Addr} {H H' : Hp} (hP : P ∈ Ps) (t : Tabs Ps H) (g : Gr P H H') : GrS Ps H H' := ⟨fun Q hQ => by
  by_cases e : Q = P
  · rw [e]; exact g.1
  · obtain ⟨ps, z, y⟩ := t Q hQ
    exact ⟨ps, g.2 _ _ e z, y⟩, fun b o hb e => g.2 b o (fun z => hb (by rw [z]; exact hP)) e⟩
theorem GrS.same {Ps : List Addr} {H H' : Hp} (t : Tabs Ps H) (s : Same H H') : GrS Ps H H' := ⟨fun Q hQ => let ⟨ps, z, y⟩ := t Q hQ; ⟨ps, s _ _ z, y⟩, fun b o _ e => s b o e⟩
theorem GrS.at {Ps : List Addr} {H H' : Hp} {a : Addr} {o : HO} (g : GrS Ps H H') (t : Tabs Ps H) (h : H a = some o) (n : ∀ q, o ≠ .tbl q) : H' a = some o := g.2 a o (t.not h n) h
mutual
theorem Tr.grs {Ps : List Addr} {H H' : Hp} (t : Tabs Ps H) (g : GrS Ps H H') : ∀ {v : V} {d : PyData}, Tr H v d → Tr H' v d
  | _, _, .non => .non
  | _, _, .bl b => .bl b
  | _, _, .int i => .int i
  | _, _, .str x => .str x
  | _, _, .lst h a => .lst (g.at t h (by intro q z; cases z)) (TrAll.grs t g a)
  | _, _, .tup h a => .tup (g.at t h (by intro q z; cases z)) (TrAll.grs t g a)
  | _, _, .dct h n e a => .dct (g.at t h (by intro q z; cases z)) n e (TrAll.grs t g a)
theorem TrAll.grs {Ps : List Addr} {H H' : Hp} (t : Tabs Ps H) (g : GrS Ps H H') : ∀ {vs : List V} {ds : List PyData}, TrAll H vs ds → TrAll H' vs ds
  | _, _, .nil => .nil
  | _, _, .cons h u => .cons (Tr.grs t g h) (TrAll.grs t g u)
end
end Pk
/-! The law's own: the pen, and what the law says of its things. -/
namespace Pk
open PySem L2
/-- _law_pen: a new pen -/
theorem canInts : ∀ ns : List Int, PyData.canLayAll0 (ns.map PyData.int) = true
  | [] => by simp only [List.map_nil, PyData.canLayAll0]
  | n :: ns => by simp [PyData.canLayAll0, PyData.canLay0, canInts ns]
theorem depthInts : ∀ ns : List Int, PyData.depthAll (ns.map PyData.int) = 0
  | [] => by simp only [List.map_nil, PyData.depthAll]
  | n :: ns => by simp [PyData.depthAll, PyData.depth, depthInts ns]
theorem shapedInts (ns : List Int) : SeqAt.shaped (.list (ns.map PyData.int)) = true := by
  unfold SeqAt.shaped
  rw [Bool.and_eq_true]
  refine ⟨by simp only [PyData.canLay0]; exact canInts ns, decide_eq_true ?_⟩
  simp only [PyData.depth, depthInts]
  omega
theorem dpInts {K : PySem.W.Frag} {H : Hp} : ∀ ns : List Int, DpAll K H (ns.map V.int) (ns.map PyData.int)
  | [] => .nil
  | n :: ns => .cons (.int n) (dpInts ns)
theorem eqvNil (ns : List Int) : PyData.eqv (.list (ns.map PyData.int)) (.list []) = ns.isEmpty := by
  cases ns with
  | nil => rfl
  | cons n ns => rfl
def spPenL (K : PySem.W.Frag) : Sp := fun vs H Q _ => ∃ (a : Addr) (ns : List Int), vs = [.ref a] ∧ SqL K H a (ns.map V.int) ∧ ns.length ≤ 63 ∧
  ∀ (p c : Addr) (H' : Hp), PenC H' p c 0 → Same H H' → Q (.ref p) H'
theorem tab_sb {H H' : Hp} {Pt p c : Addr} {n : Int} (t : GxR.TabG H Pt) (P : PenC H p c n) (s : Sb p H H') : GxR.TabG H' Pt := by
  obtain ⟨ps, h1, h2⟩ := t
  obtain ⟨kv, e⟩ := P.atp
  exact ⟨ps, s.to (ne_of h1 e (by intro z; cases z)) h1, h2⟩
theorem PenC.al {H : Hp} {p c : Addr} {n : Int} (P : PenC H p c n) : Al p [p] H := ⟨List.mem_cons_self, fun b hb => by
  rw [List.mem_singleton.mp hb]
  obtain ⟨kv, e⟩ := P.atp
  exact ⟨_, e⟩⟩

theorem Tabs.same {Ps : List Addr} {H H' : Hp} (t : Tabs Ps H) (s : Same H H') : Tabs Ps H' := fun P hP => let ⟨ps, h1, h2⟩ := t P hP; ⟨ps, s _ _ h1, h2⟩
theorem Tabs.sb {Ps : List Addr} {H H' : Hp} {p c : Addr} {n : Int} (t : Tabs Ps H) (P : PenC H p c n) (s : Sb p H H') : Tabs Ps H' := fun Q hQ => tab_sb (t Q hQ) P s
theorem PenC.grs {Ps : List Addr} {H H' : Hp} {p c : Addr} {n : Int} (P : PenC H p c n) (t : Tabs Ps H) (g : GrS Ps H H') : PenC H' p c n := by
  obtain ⟨ns, u, r, h, e⟩ := P
  exact ⟨ns, u, r, ⟨g.at t h.at_ (by intro q z; cases z), g.at t h.cells (by intro q z; cases z), h.ne, h.len, h.t0, h.r0⟩, e⟩
/-- a list or a tuple of numbers -/
theorem trIntsAll {H : Hp} : ∀ is : List Int, TrAll H (is.map V.int) (is.map PyData.int)
  | [] => .nil
  | i :: is => .cons (.int i) (trIntsAll is)
theorem bulkInts : ∀ is : List Int, PyData.bulkAll (is.map PyData.int) = is.length
  | [] => by simp [PyData.bulkAll]
  | i :: is => by
    simp only [List.map_cons, PyData.bulkAll, PyData.bulk, List.length_cons, bulkInts is]
    omega
theorem lvInts : ∀ {is : List Int}, (∀ j ∈ is, -(5 * farS) ≤ j ∧ j ≤ 5 * farS) → lvs 0 (is.map PyData.int) = true
  | [], _ => rfl
  | i :: is, h => by
    have h0 := h i List.mem_cons_self
    have f : farS = 1000000000000000000 := rfl
    have g := greatG
    rw [List.map_cons, lvs, int_lv (i := i) (by omega) (by omega), lvInts fun j hj => h j (List.mem_cons_of_mem _ hj)]
    rfl
/-- a thing that the law may hand in -/
structure ThingN (d : PyData) : Prop where
  lv : lv 5 d = true
  bulk : d.bulk ≤ 30000
  depth : d.depth ≤ 50
theorem lv_tup {k : Nat} {ds : List PyData} : lv k (.tuple ds) = lvs k ds := by rw [lv]
theorem lv_lst {k : Nat} {ds : List PyData} : lv k (.list ds) = lvs k ds := by rw [lv]
theorem ints_tup {is : List Int} (hl : is.length ≤ 100) (h : ∀ j ∈ is, -(5 * farS) ≤ j ∧ j ≤ 5 * farS) : Pk.lv 0 (.tuple (is.map PyData.int)) = true ∧ (PyData.tuple (is.map PyData.int)).bulk ≤ 100 ∧ (PyData.tuple (is.map PyData.int)).depth ≤ 1 := by
  refine ⟨by rw [lv_tup]; exact lvInts h, ?_, ?_⟩
  · simp only [PyData.bulk, bulkInts]
    omega
  · simp only [PyData.depth, depthInts]
    omega
theorem ThingN.tup {is : List Int} (hl : is.length ≤ 100) (h : ∀ j ∈ is, -(5 * farS) ≤ j ∧ j ≤ 5 * farS) : ThingN (.tuple (is.map PyData.int)) := by
  obtain ⟨h1, h2, h3⟩ := ints_tup hl h
  exact ⟨lv_le (by omega) h1, by omega, by omega⟩
theorem lv_les {is : List Int} (h : ∀ j ∈ is, -(5 * farS) ≤ j ∧ j ≤ 5 * farS) : lvs 5 (is.map PyData.int) = true := by
  have z := lv_le (j := 0) (k := 5) (by omega) (d := .tuple (is.map PyData.int)) (by rw [lv_tup]; exact lvInts h)
  rw [lv_tup] at z
  exact z
theorem ThingN.lst {is : List Int} (hl : is.length ≤ 100) (h : ∀ j ∈ is, -(5 * farS) ≤ j ∧ j ≤ 5 * farS) : ThingN (.list (is.map PyData.int)) := by
  refine ⟨by rw [lv_lst]; exact lv_les h, ?_, ?_⟩
  · simp only [PyData.bulk, bulkInts]
    omega
  · simp only [PyData.depth, depthInts]
    omega

theorem noInts : ∀ is : List Int, PyData.hasDictAll (is.map PyData.int) = false
  | [] => by simp [PyData.hasDictAll]
  | i :: is => by simp [PyData.hasDictAll, PyData.hasDict, noInts is]
theorem pssW {X : Cx} {b : List Stmt} {t u : TS} (h : PSs X b t) (i : ∀ D σ H, u D σ H → t D σ H) : PSs X b u := ⟨fun pins s σ H D I q => h.run pins s σ H D I (i D σ H q)⟩
section
variable {P : Program} {w : World} {K : PySem.W.Frag} {mg : Str → Option Value} {base : Heap}
theorem cutInts (ns : List Int) (lo hi : Option Int) : ∃ ms : List Int, cutV (ns.map V.int) lo hi = ms.map V.int ∧ ms.length ≤ ns.length := by
  have e : cutV (ns.map V.int) lo hi = ((ns.drop (HT.sIx (ns.map V.int).length 0 lo)).take (HT.sIx (ns.map V.int).length (ns.map V.int).length hi - HT.sIx (ns.map V.int).length 0 lo)).map V.int := by
    unfold cutV
    simp only [List.map_take, List.map_drop]
  refine ⟨_, e, ?_⟩
  simp only [List.length_take, List.length_drop]
  omega
theorem scPen : FnScope ["_law_script"] ["_law_script"] (defScope sPen) := ⟨rfl, rfl, rfl, by decide +kernel, rfl, by decide +kernel, by decide +kernel⟩
theorem ok_pen {f : Addr} {fd : FuncData} (F : Fun K "_law_pen" "_law_pen" sPen f fd) (B : Blt mg) : FnOk P w K mg base CX0 1 f fd ["_law_script"] (spPenL K) := by
  refine F.ok scPen (fun vs H Q E h => ?_) (fun cdv A outer s H vs Q E hr h => ?_)
  · obtain ⟨a, ns, rfl, _⟩ := h
    rfl
  obtain ⟨a, ns, rfl, hS, hl, k⟩ := h
  refine ⟨_, pss_one (ps_ret (pe_lst (pa_cons (pe_callTy call_list_of (by rfl) B.list (by decide +kernel) (pa_cons (pe_slice sl_list (pv 0) po_none (po_some pe_int)) pa_nil)) (pa_cons pe_int (pa_cons pe_int pa_nil))))), ?_⟩
  obtain ⟨ms, em, hm⟩ := cutInts ns none (some 63)
  refine ⟨_, rfl, 63, rfl, a, _, rfl, hS, fun q hq => ?_⟩
  have s2 := sameNew hq (.lst (cutV (ns.map V.int) none (some 63)))
  refine ⟨q, _, rfl, .inl (SqL.of upd_same), fun c hc => ?_⟩
  have s3 := sameNew hc (.lst (cutV (ns.map V.int) none (some 63)))
  refine ⟨by show 3 ≤ sizeLine; decide, fun p hp => ?_⟩
  have s4 := sameNew hp (.lst (penL c 0 0))
  have cp : c ≠ p := fun z => by
    rw [← z, upd_same] at hp
    cases hp
  refine k p c _ ⟨ms, 0, 0, ⟨upd_same, ?_, cp, by omega, by omega, by omega⟩, by omega⟩ (s2.trans (s3.trans s4))
  rw [upd_ne cp, upd_same, em]
end
end Pk
section
set_option maxHeartbeats 1000000
/-! The keys of a dict of the module; figures; what is never come to. -/
namespace Pk
open PySem PySem.Spec PyProof.Rows L2 GxR
/-- at d: a written dict of the module with these keys, in their order -/
structure KKeys (K : PySem.W.Frag) (d : Addr) (zs : List Str) : Prop where
  low : (d == sysModules) = false
  at_ : ∃ (es : Array DictEntry) (n : Nat), K.lookup d = some ⟨.type "dict", none, .dict es n, #[]⟩ ∧ es.size = zs.length ∧ ∀ (i : Nat) (z : Str), zs[i]? = some z → ∃ (e : DictEntry) (t : Tok), es[i]? = some e ∧ e.key = .str z t
def Itkk (zs : List Str) : It := ⟨fun i _ => i < zs.length, fun i H x H' => H' = H ∧ ∃ z, zs[i]? = some z ∧ x = .str z, fun i _ => zs.length ≤ i⟩
def iKKeys (K : PySem.W.Frag) (td : TE) : TI := fun σ H R => td σ H fun x H1 => ∃ (d : Addr) (zs : List Str), x = .ref d ∧ KKeys K d zs ∧ R (Itkk zs) H1
theorem turn_kk {P : Program} {w : World} {K : PySem.W.Frag} {tg : Expr} {d : Addr} {zs : List Str} {es : Array DictEntry} {ep : Nat} (it : Addr) (hl : K.lookup d = some ⟨.type "dict", none, .dict es ep, #[]⟩) (hz : es.size = zs.length) (hk : ∀ (i : Nat) (z : Str), zs[i]? = some z → ∃ (e : DictEntry) (t : Tok), es[i]? = some e ∧ e.key = .str z t) :
    Turn P w K tg (Itkk zs) [it] it (fun i h => h.IsKeyIter it d i zs.length ep) where
  mem := List.mem_singleton.mpr rfl
  obj := fun i h st b hb => by
    obtain rfl := List.mem_singleton.mp hb
    obtain ⟨oi, e, c, q⟩ := st
    exact ⟨oi, e, fun v z => by rw [q] at z; cases z⟩
  keep := fun i h h' st k => st.at fun oi e => k it (List.mem_singleton.mpr rfl) oi e
  item := by
    intro X hP hw hK hc i pins s σ H E I hf st hi
    subst hP hw hK
    obtain ⟨f0, f1, f2, f3, f4, f5⟩ := hf it (List.mem_singleton.mpr rfl)
    obtain ⟨en, t, hen, key⟩ := hk i zs[i] (List.getElem?_eq_getElem hi)
    refine next_key_item st (I.kIn _ _ hl) rfl hz hen fun h' st' sb => ?_
    have J : Inv X pins σ H { s with heap := h' } := I.turned (t' := s.toks) (fun b ob hb e => (sb.2 b hb).trans e) f0 f1 f3 f4 f5
    obtain ⟨oi, e, c, q⟩ := id st'
    exact ⟨en.key, rfl, go_of (s := { s with heap := h' }) e c q (by decide +kernel) ⟨.str zs[i], H, J, by rw [key]; exact ⟨t, rfl⟩, ⟨rfl, _, List.getElem?_eq_getElem hi, rfl⟩, st', fun b hb => (hf b hb).1⟩⟩
  done := by
    intro X hP hw hK hc i pins s σ H E I hf st hi
    subst hP hw hK
    obtain ⟨f0, f1, f2, f3, f4, f5⟩ := hf it (List.mem_singleton.mpr rfl)
    exact next_key_end (I.ok.hd hc) st (I.kIn _ _ hl) rfl hz hi fun h' eb => ⟨rfl, I.turned (t' := s.toks) (fun b ob hb e => eb b ob hb e) f0 f1 f3 f4 f5⟩
  self := fun A i s Q E st h => wpAny_pyIter_keyiter st h
theorem pi_kkeys {X : Cx} {tg e : Expr} {td : TE} (he : PE X e td) : PI X tg e (iKKeys X.K td) := by
  refine ⟨fun pins s σ H R I h => thn (he.run pins s σ H _ I h) fun u s1 ⟨x, H1, I1, rx, d, zs, ex, kk, q⟩ => ?_⟩
  subst ex
  obtain rfl : u = Value.ref d := rx
  obtain ⟨es, n, hl, hz, hk⟩ := kk.at_
  refine iter_keys kk.low (I1.kIn _ _ hl) ⟨rfl, rfl, rfl⟩ rfl (pi_one (tk := s1.toks) I1 _ (turn_kk _ hl hz hk) ⟨_, Heap.get?_push_size _ rfl, rfl, ?_⟩ q)
  rw [hz] <;> rfl
/-- '0' <= sign <= '9' -/
def figC (c : Nat) : Bool := decide (48 ≤ c) && decide (c ≤ 57)
theorem elt_09 {prog : Program} {w : World} {scope : Scope} {x : Str} {j1 j2 : Nat} {p1 p2 p3 p4 : Pos} (hk : scope.kind = .function) (hl : scope.names.lookup x = some .local) (hd : (x == ("__debug__" : Str)) = false := by decide) :
    EltP prog w scope x (.Compare (.Constant (.str "0") j1 p1) [.LtE, .LtE] [.Name x p2, .Constant (.str "9") j2 p3] p4) figC := by
  intro cenv A' E' c t sz m hs hn hm
  have e1 : (!decide ((⟨#[c]⟩ : Str).cps.toList < ("0" : Str).cps.toList)) = decide (48 ≤ c) := by
    show (!decide ([c] < [48])) = decide (48 ≤ c)
    rw [lt1]
    by_cases h : c < 48
    · rw [decide_eq_true h, decide_eq_false (by omega)]; rfl
    · rw [decide_eq_false h, decide_eq_true (by omega)]; rfl
  have e2 : (!decide (("9" : Str).cps.toList < (⟨#[c]⟩ : Str).cps.toList)) = decide (c ≤ 57) := by
    show (!decide ([57] < [c])) = decide (c ≤ 57)
    rw [lt1]
    by_cases h : 57 < c
    · rw [decide_eq_true h, decide_eq_false (by omega)]; rfl
    · rw [decide_eq_false h, decide_eq_true (by omega)]; rfl
  refine Compare_chain (Calls.Constant_str (chain_link (wpAny_Name (wpAny_loadName_local (by rw [hs]; exact hk) (show cenv.scope.names.lookup x = some .local by rw [hs]; exact hl) hn hm ?_) hd))) (by with_unfolding_all rfl)
  refine PySem.P.le_str ?_
  rw [e1]
  refine wpAny_truthy_bool ?_
  cases h1 : decide (48 ≤ c) with
  | false => exact ite_ff ⟨by unfold figC; rw [h1]; rfl, keeps_tok _ _⟩
  | true =>
    refine ite_tt (chain_last (Calls.Constant_str (PySem.P.le_str ?_)))
    rw [e2]
    exact ⟨by unfold figC; rw [h1]; rfl, keeps_tok _ _⟩
end Pk
end
section
set_option maxHeartbeats 1000000
/-! Houses as texts: numbers, words, rows only. -/
namespace Pk
open PySem PySem.Spec PyProof.Rows L2 TL
def numS (i : Int) : Str := Str.ofString (toString i)
def sgnS (so : Str) : Str := if so = "least" then ">=" else "<="
def sayS : PyData → Str
  | .tuple [.str z, .str so, .int i] => z ++ sgnS so ++ numS i
  | _ => ""
def wordsR : PyData → List Str
  | .tuple [.str w, p, q] => [w, sayS p, sayS q]
  | .tuple [.str w, .str a, .str b, .int c] => [w, a, b, numS c]
  | _ => []
def wordsD : PyData → List Str
  | .tuple [.str nm, .int lo, .int hi, .str way, .int up, .int dn] => ["dial", nm, numS lo, numS hi, way, numS up, numS dn]
  | _ => []
def rowS (ws : List Str) : Str := Txt.join " " ws
def rowsH (ds rs : List PyData) : List Str := ds.map (fun d => rowS (wordsD d)) ++ rs.map (fun r => rowS (wordsR r))
def houseS (ds rs : List PyData) : Str := Txt.join "\n" (rowsH ds rs)
theorem num_nat (n : Nat) : tl (numS (n : Int)) = numL n := tl_num n
theorem num_neg (n : Nat) : tl (numS (Int.negSucc n)) = 45 :: numL (n + 1) := by
  have e : toString (Int.negSucc n) = "-" ++ toString (n + 1) := rfl
  show tl (Str.ofString (toString (Int.negSucc n))) = _
  rw [e, tl_ofString, String.toList_append, List.map_append]
  have q := tl_num (n + 1)
  rw [tl_ofString] at q
  show 45 :: (toString (n + 1)).toList.map Char.toNat = _
  exact congrArg (45 :: ·) q
theorem num_signs {i : Int} {c : Nat} (h : c ∈ tl (numS i)) : c = 45 ∨ (48 ≤ c ∧ c ≤ 57) := by
  cases i with
  | ofNat n =>
    have h' : c ∈ numL n := by rw [← num_nat]; exact h
    exact .inr (numL_digits n c h')
  | negSucc n =>
    rw [num_neg] at h
    rcases List.mem_cons.mp h with rfl | h
    · exact .inl rfl
    · exact .inr (numL_digits _ c h)
theorem num_len {i : Int} (h1 : -greatS ≤ i) (h2 : i ≤ greatS) : (numS i).length ≤ 22 := by
  have gg : greatS = 100000000000000000000 := rfl
  rw [len_tl]
  cases i with
  | ofNat n =>
    show (tl (numS (n : Int))).length ≤ 22
    rw [num_nat]
    have h3 : (n : Int) ≤ greatS := h2
    have q := numL_len (n := n) (k := 21) (by decide) (by omega)
    omega
  | negSucc n =>
    rw [num_neg, List.length_cons]
    have q := numL_len (n := n + 1) (k := 21) (by decide) (by omega)
    omega
theorem num_pos {i : Int} : 1 ≤ (numS i).length := by
  rw [len_tl]
  cases i with
  | ofNat n =>
    show 1 ≤ (tl (numS (n : Int))).length
    rw [num_nat]
    have q := numL_ne n
    cases e : numL n with
    | nil => exact absurd e q
    | cons a l => simp
  | negSucc n => rw [num_neg, List.length_cons]; omega
theorem num_back {i : Int} (h1 : -greatS ≤ i) (h2 : i ≤ greatS) : intText? (numS i) = some i := by
  have hl := num_len h1 h2
  cases i with
  | ofNat n =>
    have q : intText? (Str.ofString (toString ((n : Nat) : Int))) = some (n : Int) := int_num (by
      have q := num_nat n
      have q2 := len_tl (numS (n : Int))
      rw [q] at q2
      have hl' : (numS (n : Int)).length ≤ 22 := hl
      omega)
    exact q
  | negSucc n =>
    have q := PySem.intText_neg (num_neg n) (numL_digits _) (numL_ne _) (by omega)
    rw [q, numL_val]
    rfl
/-- a word: no blank, no line end, not long -/
def wordOk (x : Str) : Prop := x.length ≤ 60 ∧ ∀ c ∈ tl x, c ≠ 32 ∧ c ≠ 10
theorem nm_word {z : Str} (h : nmOk z) : wordOk z := by
  refine ⟨by have := h.1; omega, fun c hc => ?_⟩
  have q := h.2 c hc
  simp only [smallC, Bool.and_eq_true, decide_eq_true_eq] at q
  omega
theorem num_word {i : Int} (h1 : -greatS ≤ i) (h2 : i ≤ greatS) : wordOk (numS i) := by
  refine ⟨by have := num_len h1 h2; omega, fun c hc => ?_⟩
  have q := num_signs hc
  omega
theorem sgn_word (so : Str) : (sgnS so).length ≤ 2 ∧ ∀ c ∈ tl (sgnS so), c = 60 ∨ c = 61 ∨ c = 62 := by
  unfold sgnS
  split <;> decide +kernel
theorem len_app (x y : Str) : (x ++ y).length = x.length + y.length := by rw [len_tl, len_tl, len_tl, tl_append, List.length_append]
theorem say_word {z so : Str} {i : Int} (h : nmOk z) (h1 : -greatS ≤ i) (h2 : i ≤ greatS) : wordOk (sayS (.tuple [.str z, .str so, .int i])) := by
  show wordOk (z ++ sgnS so ++ numS i)
  have a := nm_word h
  have b := sgn_word so
  have c := num_word h1 h2
  have d := num_len h1 h2
  have e := h.1
  refine ⟨by rw [len_app, len_app]; omega, fun k hk => ?_⟩
  rw [tl_append, tl_append] at hk
  rcases List.mem_append.mp hk with hk | hk
  · rcases List.mem_append.mp hk with hk | hk
    · exact a.2 k hk
    · have := b.2 k hk
      omega
  · exact c.2 k hk
theorem split_row {ws : List Str} (hne : ws ≠ []) (h : ∀ x ∈ ws, wordOk x) : Txt.split (rowS ws) " " = ws :=
  split_join (y := " ") (s := 32) (S := []) (by decide +kernel) (by decide +kernel) hne fun p hp hm => ((h p hp).2 32 hm).1 rfl
theorem mem_join {y : Str} {c : Nat} : ∀ {ws : List Str}, c ∈ tl (Txt.join y ws) → c ∈ tl y ∨ ∃ x ∈ ws, c ∈ tl x
  | ws, h => by
    rw [join_eq, tl_join] at h
    have go : ∀ ws : List Str, c ∈ joinL (tl y) (ws.map tl) → c ∈ tl y ∨ ∃ x ∈ ws, c ∈ tl x := by
      intro ws
      induction ws with
      | nil => intro h; cases h
      | cons x r ih =>
        intro h
        cases r with
        | nil => exact .inr ⟨x, List.mem_cons_self, h⟩
        | cons z r =>
          have h' : c ∈ tl x ++ (tl y ++ joinL (tl y) ((z :: r).map tl)) := h
          rcases List.mem_append.mp h' with h' | h'
          · exact .inr ⟨x, List.mem_cons_self, h'⟩
          · rcases List.mem_append.mp h' with h' | h'
            · exact .inl h'
            · rcases ih h' with q | ⟨w, hw, q⟩
              · exact .inl q
              · exact .inr ⟨w, List.mem_cons_of_mem _ hw, q⟩
    exact go ws h
theorem row_free {ws : List Str} (h : ∀ x ∈ ws, wordOk x) : 10 ∉ tl (rowS ws) := fun hm => by
  rcases mem_join hm with q | ⟨x, hx, q⟩
  · exact absurd q (by decide +kernel)
  · exact ((h x hx).2 10 q).2 rfl
theorem len_join {y : Str} {n : Nat} : ∀ {ws : List Str}, (∀ x ∈ ws, x.length ≤ n) → (Txt.join y ws).length ≤ ws.length * (n + y.length)
  | ws, h => by
    rw [len_tl, join_eq, tl_join]
    have go : ∀ ws : List Str, (∀ x ∈ ws, x.length ≤ n) → (joinL (tl y) (ws.map tl)).length ≤ ws.length * (n + (tl y).length) := by
      intro ws
      induction ws with
      | nil => intro _; exact Nat.zero_le _
      | cons x r ih =>
        intro h
        have hx : (tl x).length ≤ n := by rw [← len_tl]; exact h x List.mem_cons_self
        cases r with
        | nil =>
          show (tl x).length ≤ _
          rw [List.length_singleton]
          omega
        | cons z r =>
          have q := ih fun w hw => h w (List.mem_cons_of_mem _ hw)
          show (tl x ++ (tl y ++ joinL (tl y) ((z :: r).map tl))).length ≤ _
          rw [List.length_append, List.length_append, List.length_cons, Nat.succ_mul]
          omega
    have q := go ws h
    rw [← len_tl] at q
    exact q
theorem sum_len {n : Nat} : ∀ {ws : List Str}, (∀ x ∈ ws, x.length ≤ n) → (ws.map (·.length)).sum ≤ ws.length * n
  | [], _ => by simp
  | x :: ws, h => by
    have q := sum_len fun w hw => h w (List.mem_cons_of_mem _ hw)
    have r := h x List.mem_cons_self
    rw [List.map_cons, List.sum_cons, List.length_cons, Nat.succ_mul]
    omega
end Pk
end
section
set_option maxHeartbeats 1000000
/-! written_saying, written_rule; the law's own show_saying. -/
namespace Pk
open PySem PySem.Spec PyProof.Rows L2 TL
abbrev sWSay : Stmt := topH 20
abbrev sLSay : Stmt := topH 34
structure SignC (K : PySem.W.Frag) (w : World) (mg : Str → Option Value) (S : Addr) : Prop where
  gl : mg "SIGNS" = some (.ref S)
  le : KDct K w S "least" (.str ">=")
  mo : KDct K w S "most" (.str "<=")
  ks : KKeys K S ["least", "most"]
theorem SignC.at {K : PySem.W.Frag} {w : World} {mg : Str → Option Value} {S : Addr} (C : SignC K w mg S) {so : Str} (h : so ∈ sorts2) : KDct K w S so (.str (sgnS so)) := by
  have q : so = "least" ∨ so = "most" := by
    simp only [sorts2, List.mem_cons, List.not_mem_nil, or_false] at h
    exact h
  rcases q with rfl | rfl
  · exact C.le
  · exact C.mo
theorem emp_app (x : Str) : Str.empty ++ x = x := ext_tl (by rw [tl_append]; rfl)
theorem log_n {i : Int} (h1 : -greatS ≤ i) (h2 : i ≤ greatS) : i.natAbs.log2 < 1920 := by
  have gg : greatS = 100000000000000000000 := rfl
  by_cases h0 : i.natAbs = 0
  · rw [h0]; decide
  · have h4 : i.natAbs.log2 < 70 := (Nat.log2_lt h0).mpr (by have : i.natAbs ≤ 100000000000000000000 := by omega
                                                             omega)
    omega
/-- the parts of a rule -/
theorem rule_shape {ds rs : List PyData} (hg : HouseG ds rs) {r : PyData} (hr : r ∈ rs) : (∃ (z1 so1 z2 so2 : Str) (i1 i2 : Int), r = .tuple [.str "one", .tuple [.str z1, .str so1, .int i1], .tuple [.str z2, .str so2, .int i2]] ∧ z1 ∈ ds.map nameOf ∧ z2 ∈ ds.map nameOf ∧ so1 ∈ sorts2 ∧ so2 ∈ sorts2 ∧ (-greatS ≤ i1 ∧ i1 ≤ greatS) ∧ (-greatS ≤ i2 ∧ i2 ≤ greatS)) ∨
    ∃ (w a b : Str) (c : Int), r = .tuple [.str w, .str a, .str b, .int c] ∧ w ∈ pairs3 ∧ a ∈ ds.map nameOf ∧ b ∈ ds.map nameOf ∧ -greatS ≤ c ∧ c ≤ greatS := by
  have h := (hg.rules r hr).rule
  have inn : ∀ {zs : List Str} {d : PyData}, inS zs d = true → ∃ z, d = .str z ∧ z ∈ zs := fun {zs d} q => by
    unfold inS at q
    obtain ⟨z, hz, e⟩ := List.any_eq_true.mp q
    exact ⟨z, strIs_is e, hz⟩
  have who : ∀ {lo hi : Int} {d : PyData}, wholeD lo hi d = true → ∃ i, d = .int i ∧ lo ≤ i ∧ i ≤ hi := fun {lo hi d} q => by
    obtain ⟨i, rfl⟩ := whole_is q
    rw [wholeD_int, Bool.and_eq_true, decide_eq_true_eq, decide_eq_true_eq] at q
    exact ⟨i, rfl, q.1, q.2⟩
  have say : ∀ {d : PyData}, sayingD (ds.map nameOf) d = true → ∃ z so i, d = .tuple [.str z, .str so, .int i] ∧ z ∈ ds.map nameOf ∧ so ∈ sorts2 ∧ -greatS ≤ i ∧ i ≤ greatS := fun {d} q => by
    unfold sayingD at q
    split at q
    · rw [Bool.and_eq_true, Bool.and_eq_true] at q
      obtain ⟨z, rfl, hz⟩ := inn q.1
      obtain ⟨so, rfl, hs⟩ := inn q.2.1
      obtain ⟨i, rfl, b1, b2⟩ := who q.2.2
      exact ⟨z, so, i, rfl, hz, hs, b1, b2⟩
    · cases q
  unfold ruleD at h
  split at h
  · rw [Bool.and_eq_true, Bool.and_eq_true] at h
    have e := strIs_is h.1
    obtain ⟨z1, so1, i1, rfl, a1, a2, a3, a4⟩ := say h.2.1
    obtain ⟨z2, so2, i2, rfl, b1, b2, b3, b4⟩ := say h.2.2
    rw [e]
    exact .inl ⟨z1, so1, z2, so2, i1, i2, rfl, a1, b1, a2, b2, ⟨a3, a4⟩, b3, b4⟩
  · rw [Bool.and_eq_true, Bool.and_eq_true, Bool.and_eq_true, Bool.and_eq_true] at h
    obtain ⟨z1, rfl, a1⟩ := inn h.1
    obtain ⟨z2, rfl, a2⟩ := inn h.2.1
    obtain ⟨z3, rfl, a3⟩ := inn h.2.2.1
    obtain ⟨i, rfl, b1, b2⟩ := who h.2.2.2.2
    exact .inr ⟨z1, z2, z3, i, rfl, a1, a2, a3, b1, b2⟩
  · cases h
theorem nmH_ok {ds rs : List PyData} (hg : HouseG ds rs) {z : Str} (h : z ∈ ds.map nameOf) : nmOk z ∧ nameD (.str z) = true := by
  obtain ⟨d, hd, rfl⟩ := List.mem_map.mp h
  obtain ⟨nm, way, lo, hi, up, dn, rfl, h1, h2, _⟩ := hg.dials d hd
  refine ⟨h1, ?_⟩
  show (decide ((1 : Int) ≤ (nm.length : Int)) && (decide ((nm.length : Int) ≤ 8) && nm.cps.toList.all smallC)) = true
  rw [decide_eq_true (by omega), decide_eq_true (by omega), List.all_eq_true.mpr fun c hc => h1.2 c hc]
  rfl
/-- a saying at a, short enough to be written -/
def SayAt (H : Hp) (a : Addr) (z so : Str) (i : Int) : Prop := H a = some (.tup [.str z, .str so, .int i]) ∧ nmOk z ∧ so ∈ sorts2 ∧ -greatS ≤ i ∧ i ≤ greatS
def spWSay : Sp := fun vs H Q _ => ∃ (a : Addr) (z so : Str) (i : Int), vs = [.ref a] ∧ SayAt H a z so i ∧ Q (.str (z ++ sgnS so ++ numS i)) H
section
variable {P : Program} {w : World} {K : PySem.W.Frag} {mg : Str → Option Value} {base : Heap}
abbrev nWSay : List Str := ["saying", "name", "sort", "i"]
theorem scWSay : FnScope nWSay ["saying"] (defScope sWSay) := ⟨rfl, rfl, rfl, by decide +kernel, rfl, by decide +kernel, by decide +kernel⟩
theorem ok_wsay {f S : Addr} {fd : FuncData} (F : Fun K "written_saying" "written_saying" sWSay f fd) (C : SignC K w mg S) : FnOk P w K mg base CX0 1 f fd ["saying"] spWSay := by
  refine F.ok scWSay (fun vs H Q E h => ?_) (fun cdv A outer s H vs Q E hr h => ?_)
  · obtain ⟨a, z, so, i, rfl, _⟩ := h
    rfl
  obtain ⟨a, z, so, i, rfl, ⟨ha, hz, hs, b1, b2⟩, k⟩ := h
  refine ⟨_, pss_cons (ps_asg (pv 0) (pg_tup (by rfl) (pgs_cons (pg_name (i := 1) scWSay.nd rfl (.inl rfl)) <| pgs_cons (pg_name (i := 2) scWSay.nd rfl (.inl rfl)) <| pgs_cons (pg_name (i := 3) scWSay.nd rfl (.inl rfl)) pgs_nil))) <|
    pss_one (ps_ret (pe_joined (.cons (pe_fmt (pv 1)) (.cons (pe_fmt (pe_ix ix_kdict (pe_glob (v := .ref S) (by rfl) C.gl rfl) (pv 2) (fun _ _ => rfl))) (.cons (pe_fmt (pv 3)) .nil))))), ?_⟩
  have z1 := hz.1
  have s1 := (sgn_word so).1
  have n1 := num_len b1 b2
  have sl := sizeLine_eq
  refine ⟨_, rfl, a, _, rfl, SqT.of ha, rfl, _, _, rfl, _, _, rfl, _, _, rfl, rfl, ?_⟩
  refine ⟨_, rfl, .inl ⟨z, rfl, by omega, _, rfl, by rw [emp_app]; omega, ?_⟩⟩
  refine ⟨_, rfl, S, so, _, rfl, rfl, C.at hs, .inl ⟨_, rfl, by omega, _, rfl, by rw [emp_app, len_app]; omega, ?_⟩⟩
  refine ⟨_, rfl, .inr ⟨i, rfl, log_n b1 b2, _, rfl, by rw [emp_app, len_app, len_app]; show _ + (numS i).length ≤ _; omega, ?_⟩⟩
  rw [emp_app]
  exact k
end
end Pk
end
section
set_option maxHeartbeats 1000000
/-! Words of any kind: what they write. -/
namespace Pk
open PySem PySem.Spec PyProof.Rows L2 TL
abbrev Say := Str × Str × Int
abbrev sayV (s : Say) : List V := [.str s.1, .str s.2.1, .int s.2.2]
abbrev sayP (s : Say) : PyData := .tuple [.str s.1, .str s.2.1, .int s.2.2]
theorem starts1 (x : Str) (c : Nat) : Txt.startswith x ⟨#[c]⟩ = decide ((tl x)[0]? = some c) := by
  rw [Bool.eq_iff_iff, decide_eq_true_eq, ← PySem.StrLaws.subAt_one x c 0]
  unfold Txt.startswith
  rw [Bool.and_eq_true, decide_eq_true_eq]
theorem minus_is : ("-" : Str) = ⟨#[45]⟩ := by decide +kernel
theorem zero_is : ("0" : Str) = ⟨#[48]⟩ := by decide +kernel
/-- the figures of a word, without a sign -/
def figW (x : Str) : Str := if Txt.startswith x "-" = true then cutS x (some 1) none else x
theorem cut1_tl (x : Str) : tl (cutS x (some 1) none) = (tl x).drop 1 := by
  show (cutS x (some ((1 : Nat) : Int)) none).cps.toList = _
  rw [cutS_cps, HT.sIx_none, HT.sIx_nat]
  have l := len_tl x
  by_cases h : 1 ≤ x.length
  · rw [Nat.min_eq_left h]
    show ((tl x).drop 1).take _ = _
    exact List.take_of_length_le (by rw [List.length_drop]; omega)
  · have e : tl x = [] := List.eq_nil_of_length_eq_zero (by omega)
    show ((tl x).drop _).take _ = (tl x).drop 1
    rw [e]
    simp
def isNum (x : Str) : Bool := decide (1 ≤ (figW x).length) && (decide ((figW x).length ≤ 60) && ((figW x).cps.toList.all figC && !(Txt.startswith (figW x) "0" && !decide (x = "0"))))
def numW (x : Str) : Option Int := if isNum x = true then some ((intText? x).getD 0) else none
theorem figW_tl (x : Str) : (Txt.startswith x "-" = true ∧ tl x = 45 :: tl (figW x)) ∨ (Txt.startswith x "-" = false ∧ figW x = x) := by
  unfold figW
  cases h : Txt.startswith x "-" with
  | true =>
    refine .inl ⟨rfl, ?_⟩
    rw [if_pos rfl, cut1_tl]
    rw [minus_is, starts1, decide_eq_true_eq] at h
    cases e : tl x with
    | nil => rw [e] at h; cases h
    | cons c r =>
      rw [e] at h
      cases h
      rfl
  | false => exact .inr ⟨rfl, by simp⟩
theorem figC_digits {l : List Nat} (h : l.all figC = true) : NumText.AllDigits l := fun c hc => by
  have q := List.all_eq_true.mp h c hc
  simp only [figC, Bool.and_eq_true, decide_eq_true_eq] at q
  exact q
theorem isNum_parts {x : Str} (h : isNum x = true) : 1 ≤ (figW x).length ∧ (figW x).length ≤ 60 ∧ NumText.AllDigits (tl (figW x)) ∧ x.length ≤ 61 := by
  unfold isNum at h
  simp only [Bool.and_eq_true, decide_eq_true_eq] at h
  obtain ⟨h1, h2, h3, _⟩ := h
  refine ⟨h1, h2, figC_digits h3, ?_⟩
  rcases figW_tl x with ⟨_, e⟩ | ⟨_, e⟩
  · rw [len_tl, e, List.length_cons, ← len_tl]
    omega
  · rw [e] at h2
    omega
theorem isNum_int {x : Str} (h : isNum x = true) : ∃ i, intText? x = some i := by
  obtain ⟨h1, h2, h3, h4⟩ := isNum_parts h
  have ne : tl (figW x) ≠ [] := fun e => by
    rw [len_tl, e] at h1
    simp at h1
  rcases figW_tl x with ⟨_, e⟩ | ⟨_, e⟩
  · exact ⟨_, intText_neg e h3 ne (by omega)⟩
  · rw [e] at h3 ne
    exact ⟨_, intText_digits h3 ne (by omega)⟩
theorem numW_int {x : Str} (h : isNum x = true) : ∃ i, intText? x = some i ∧ numW x = some i := by
  obtain ⟨i, e⟩ := isNum_int h
  exact ⟨i, e, by unfold numW; rw [if_pos h, e]; rfl⟩
theorem numW_no {x : Str} (h : isNum x = false) : numW x = none := by unfold numW; rw [h]; rfl
theorem numW_some {x : Str} {i : Int} (h : numW x = some i) : isNum x = true := by
  unfold numW at h
  by_cases c : isNum x = true
  · exact c
  · rw [if_neg c] at h
    cases h
/-- the signs of a number's word -/
theorem isNum_signs {x : Str} (h : isNum x = true) : ∀ c ∈ tl x, c = 45 ∨ (48 ≤ c ∧ c ≤ 57) := fun c hc => by
  obtain ⟨_, _, h3, _⟩ := isNum_parts h
  rcases figW_tl x with ⟨_, e⟩ | ⟨_, e⟩
  · rw [e] at hc
    rcases List.mem_cons.mp hc with rfl | hc
    · exact .inl rfl
    · exact .inr (h3 c hc)
  · rw [e] at h3
    exact .inr (h3 c hc)
/-- of a number that is written -/
theorem numL_head : ∀ n : Nat, 1 ≤ n → ∃ c r, numL n = c :: r ∧ 49 ≤ c ∧ c ≤ 57 := by
  intro n
  induction n using Nat.strongRecOn with
  | _ n ih =>
    intro h
    by_cases h10 : n < 10
    · exact ⟨48 + n, [], numL_lt h10, by omega, by omega⟩
    · obtain ⟨c, r, e, b⟩ := ih (n / 10) (by omega) (by omega)
      exact ⟨c, r ++ [48 + n % 10], by rw [numL_step (by omega), e]; rfl, b⟩
theorem starts_minus (i : Int) : Txt.startswith (numS i) "-" = decide (i < 0) := by
  rw [minus_is, starts1, Bool.eq_iff_iff, decide_eq_true_eq, decide_eq_true_eq]
  cases i with
  | ofNat n =>
    refine ⟨fun z => ?_, fun z => absurd z (Int.not_lt.mpr (Int.natCast_nonneg n))⟩
    have z' : (numL n)[0]? = some 45 := by rw [← num_nat]; exact z
    have q := numL_digits n 45 (List.mem_of_getElem? z')
    omega
  | negSucc n => exact ⟨fun _ => Int.negSucc_lt_zero n, fun _ => by rw [num_neg]; rfl⟩
theorem fig_tl (i : Int) : tl (figW (numS i)) = numL i.natAbs := by
  unfold figW
  rw [starts_minus]
  cases i with
  | ofNat n =>
    rw [decide_eq_false (show ¬ Int.ofNat n < 0 from Int.not_lt.mpr (Int.natCast_nonneg n)), if_neg Bool.false_ne_true]
    exact num_nat n
  | negSucc n =>
    rw [decide_eq_true (Int.negSucc_lt_zero n), if_pos rfl, cut1_tl, num_neg]
    rfl
theorem num_isNum {i : Int} (h1 : -greatS ≤ i) (h2 : i ≤ greatS) : isNum (numS i) = true := by
  have gg : greatS = 100000000000000000000 := rfl
  have e := fig_tl i
  have l : (figW (numS i)).length = (numL i.natAbs).length := by rw [len_tl, e]
  have q := numL_len (n := i.natAbs) (k := 21) (by decide) (by omega)
  have r := numL_ne i.natAbs
  have l1 : 1 ≤ (numL i.natAbs).length := by
    cases ee : numL i.natAbs with
    | nil => exact absurd ee r
    | cons a t => simp
  have al : (figW (numS i)).cps.toList.all figC = true := by
    show (tl (figW (numS i))).all figC = true
    rw [e, List.all_eq_true]
    intro c hc
    have z := numL_digits _ c hc
    simp only [figC, Bool.and_eq_true, decide_eq_true_eq]
    exact z
  have zz : (Txt.startswith (figW (numS i)) "0" && !decide (numS i = "0")) = false := by
    cases hs : Txt.startswith (figW (numS i)) "0" with
    | false => rfl
    | true =>
      rw [zero_is, starts1, decide_eq_true_eq, e] at hs
      by_cases z : 1 ≤ i.natAbs
      · obtain ⟨c, t, ee, b1, b2⟩ := numL_head _ z
        rw [ee] at hs
        have : c = 48 := Option.some.inj hs
        omega
      · have ei : i = 0 := by omega
        rw [ei]
        decide +kernel
  unfold isNum
  rw [l, decide_eq_true l1, decide_eq_true (by omega), al, zz]
  rfl
theorem num_numW {i : Int} (h1 : -greatS ≤ i) (h2 : i ≤ greatS) : numW (numS i) = some i := by
  unfold numW
  rw [if_pos (num_isNum h1 h2), num_back h1 h2]
  rfl
theorem numW_empty : numW Str.empty = none := by
  refine numW_no ?_
  decide +kernel
/-! ### cut at a sign -/
theorem spl_pass0 {S : List Nat} : ∀ (k : Nat) (acc l : List Nat), spl S k acc l = spl S 0 acc (l.drop k)
  | 0, acc, l => by rw [List.drop_zero]
  | k + 1, acc, [] => by rw [List.drop_nil, spl_nil, spl_nil]
  | k + 1, acc, c :: r => by
    show spl S k acc r = _
    rw [spl_pass0 k acc r, List.drop_succ_cons]
theorem spl_par {S : List Nat} (hS : S ≠ []) : ∀ (l acc : List Nat), spl S 0 acc l = match par S acc l with | some (a, r) => a :: spl S 0 [] r | none => [acc ++ l]
  | [], acc => by
    rw [spl_nil]
    show [acc] = [acc ++ []]
    rw [List.append_nil]
  | c :: r, acc => by
    by_cases h : pre S (c :: r) = true
    · rw [spl_hit h, par_hit h]
      show acc :: spl S (S.length - 1) [] r = acc :: spl S 0 [] ((c :: r).drop S.length)
      rw [spl_pass0]
      cases S with
      | nil => exact absurd rfl hS
      | cons s S => rfl
    · have h' : pre S (c :: r) = false := by simpa using h
      rw [spl_miss h', par_miss h', spl_par hS r (acc ++ [c])]
      cases par S (acc ++ [c]) r with
      | none => simp
      | some p => rfl
theorem par_app {S : List Nat} (hS : S ≠ []) : ∀ {l acc a r : List Nat}, par S acc l = some (a, r) → acc ++ l = a ++ (S ++ r)
  | [], acc, a, r, h => by cases h
  | c :: l, acc, a, r, h => by
    by_cases hp : pre S (c :: l) = true
    · rw [par_hit hp] at h
      cases h
      have e : (c :: l).take S.length = S := eq_of_beq hp
      have t := List.take_append_drop S.length (c :: l)
      rw [e] at t
      rw [t]
    · have h' : pre S (c :: l) = false := by simpa using hp
      rw [par_miss h'] at h
      have q := par_app hS h
      rw [List.append_assoc] at q
      exact q
theorem tl_ge : tl (">=" : Str) = [62, 61] := by decide +kernel
theorem tl_lq : tl ("<=" : Str) = [60, 61] := by decide +kernel
theorem ge_ok : (">=" : Str).cps.all (· < 256) = true := by decide +kernel
theorem lq_ok : ("<=" : Str).cps.all (· < 256) = true := by decide +kernel
/-- x cut at its first mark: ahead of it, behind it -/
def cutM (x m : Str) : Option (Str × Str) := match par (tl m) [] (tl x) with | some (a, r) => some (⟨a.toArray⟩, ⟨r.toArray⟩) | none => none
theorem part_cut {x m : Str} (h : tl m ≠ []) : Txt.partition x m = match cutM x m with | some (a, r) => (a, m, r) | none => (x, Str.empty, Str.empty) := by
  rw [partition_par x m h]
  unfold cutM
  cases par (tl m) [] (tl x) with
  | none => rfl
  | some p => rfl
theorem cutM_app {x m a r : Str} (hm : tl m ≠ []) (h : cutM x m = some (a, r)) : tl x = tl a ++ (tl m ++ tl r) := by
  unfold cutM at h
  cases e : par (tl m) [] (tl x) with
  | none => rw [e] at h; cases h
  | some p =>
    obtain ⟨a', r'⟩ := p
    rw [e] at h
    cases h
    exact par_app hm e
theorem split_cut {x m : Str} (h : tl m ≠ []) (hk : m.cps.all (· < 256) = true) : Txt.split x m = match cutM x m with | some (a, r) => a :: Txt.split r m | none => [x] := by
  refine map_tl_inj ?_
  rw [split_spl x m h (kind_ok hk), spl_par h]
  unfold cutM
  cases e : par (tl m) [] (tl x) with
  | none => rfl
  | some p =>
    obtain ⟨a, r⟩ := p
    show a :: spl (tl m) 0 [] r = tl ⟨a.toArray⟩ :: (Txt.split ⟨r.toArray⟩ m).map tl
    rw [split_spl _ m h (kind_ok hk)]
theorem cutM_no {x m : Str} {s : Nat} {S : List Nat} (em : tl m = s :: S) (h : s ∉ tl x) : cutM x m = none := by
  unfold cutM
  rw [em, par_none1 h]
end Pk
end
section
set_option maxHeartbeats 1000000
/-! all(..), any(..) of a generator expression whose element is any expression: defs may be called in it. -/
namespace Pk
open PySem PySem.Spec PyProof.Rows L2 GenW NdefX
/-- a generator expression's scope, beside the def's; own: the names of its target -/
structure GenO (N : List Str) (sc scope : Scope) (own : List Str) : Prop where
  kind : scope.kind = .function
  co : scope.isCoroutine = false
  cell : ∀ y ∈ scope.names, y.2 ≠ .cell
  dot : scope.names.lookup (".0" : Str) = some NameKind.local
  free : ∀ y ∈ scope.names, y.2 = .free → sc.names.lookup y.1 = some .cell ∨ sc.names.lookup y.1 = some .free
  loc : ∀ y ∈ scope.names, y.2 = .local → y.1 ∉ N
/-- the context of its frame -/
abbrev gnx (X : Cx) (scope : Scope) (own : List Str) (A : Around) (s : Shared) (H : Hp) (C : Addr) (code : Value) (fp : List Addr) (pn : List (Addr × Obj)) : Cx :=
  { X with A := A.deeper (genEnv scope (cloFrom X.env.cells scope.names []) C code builtinsNs X.env), N := own ++ X.N, s_0 := s, H_0 := H, env := genEnv scope (cloFrom X.env.cells scope.names []) C code builtinsNs X.env, outer := X.stack, stack := genEnv scope (cloFrom X.env.cells scope.names []) C code builtinsNs X.env :: X.stack, ex := fp, fn := fun _ => false, calm := true, pn := pn, xe := fun _ _ => False }
theorem over_loopG {A : Around} {elt : Expr} {gs : List Comprehension} {scope : Scope} {pos : Pos} {it acc : Value} {env : Env} : A.over (.compLoop (.GeneratorExp elt gs scope pos) 0 it acc env) [] = A.deeper env := by
  first
    | rfl
    | (obtain ⟨hd, d, fr, gs, u⟩ := A; simp [Around.over, Around.deeper, marksOver, frameCount, unitsOf, envsOf, guardsOf, pushEnvs, pushGuards, Code.envs, Code.env?, Code.isFrame, Code.guards, Code.isGuard, Code.weight, Code.frames, Code.isCreation, Code.isCaller, Code.cUnits])
theorem over_startG {A : Around} {elt : Expr} {gs : List Comprehension} {scope : Scope} {pos : Pos} {it acc : Value} {env : Env} : A.over (.compStart (.GeneratorExp elt gs scope pos) 0 it acc env) [] = A.deeper env := by
  first
    | rfl
    | (obtain ⟨hd, d, fr, gs, u⟩ := A; simp [Around.over, Around.deeper, marksOver, frameCount, unitsOf, envsOf, guardsOf, pushEnvs, pushGuards, Code.envs, Code.env?, Code.isFrame, Code.guards, Code.isGuard, Code.weight, Code.frames, Code.isCreation, Code.isCaller, Code.cUnits])
abbrev own0 (own : List Str) (σ : L2.St) : L2.St := List.replicate own.length none ++ σ
section
variable {X : Cx} {pins : List (Addr × Obj)} {σ : L2.St} {H : Hp} {s : Shared}
theorem GenO.has {scope : Scope} {own : List Str} (I : L2.Inv X pins σ H s) (S : GenO X.N X.env.scope scope own) : ∀ y ∈ scope.names, y.2 = .free → ∃ c, X.env.cells.lookup y.1 = some c := fun y hy e =>
  (S.free y hy e).elim (fun z => I.ok.has _ (.inl z)) fun z => I.ok.has _ (.inr z)
theorem gnx_start {scope : Scope} {own : List Str} {A : Around} {C a : Addr} {code : Value} {fp : List Addr} {go : Obj} {t : Shared} {m0 : Str → Option Value} (I : L2.Inv X pins σ H s) (S : GenO X.N X.env.scope scope own) (hA : A.handled = none) (hfr : A.frames = some X.stack) (hC : C = s.heap.objs.size)
    (hfp : ∀ b ∈ fp, FpOk X pins H b ∧ b < s.heap.objs.size) (hns : t.heap.Ns C m0) (hk : ∀ b o, s.heap.get? b = some o → t.heap.get? b = some o) (hos : t.os = s.os) (hb : AllBare t.gens) (ha : s.heap.objs.size < a) (hao : t.heap.get? a = some go) (hgo : ∀ v, go.data ≠ .cell v) :
    L2.Inv (gnx X scope own A s H C code fp [(a, go)]) [] (own0 own σ) H t := by
  have hfree := S.has I
  have cm : ∀ {y : Str} {c : Addr}, (cloFrom X.env.cells scope.names []).lookup y = some c → X.env.cells.lookup y = some c := fun e => clo_cm hfree e
  have fk : ∀ {y : Str}, scope.names.lookup y = some .free → ∃ c, (cloFrom X.env.cells scope.names []).lookup y = some c ∧ X.env.cells.lookup y = some c := fun {y} hl => by
    have hy := PySem.mem_of_lookup hl
    obtain ⟨c, hc⟩ := hfree (y, .free) hy rfl
    exact ⟨c, clo_has hfree hy hc, hc⟩
  have nocell : ∀ {y : Str}, scope.names.lookup y ≠ some .cell := fun {y} e => S.cell _ (PySem.mem_of_lookup e) rfl
  have okG : (gnx X scope own A s H C code fp [(a, go)]).Ok := by
    refine ⟨I.ok.mod, S.kind, I.ok.glob, rfl, Nat.le_of_eq hC.symm, fun x y c e1 e2 => I.ok.inj x y c (cm e1) (cm e2), fun y hy => ?_, fun y c h => ?_, fun _ => hA, Around.frames_deeper hfr, .inr ⟨rfl, rfl⟩, fun b hb => ⟨?_, fun y c e z => ?_⟩, I.bs, Nat.le_trans I.ok.bsz I.sz, fun b o e hb => ?_, fun b hb z => ?_, I.stack, I.stkFree⟩
    · rcases hy with hy | hy
      · exact absurd hy nocell
      · obtain ⟨c, h1, _⟩ := fk hy
        exact ⟨c, h1⟩
    · cases h
    · show b ≠ C
      rw [hC]
      exact Nat.ne_of_lt (hfp b hb).2
    · exact (hfp b hb).1.2.2.2.2.1 y c (cm e) z
    · rcases (hfp b hb).1.2.2.2.1 with z | z
      · exact I.ok.noex b o e z
      · exact absurd (Nat.lt_of_lt_of_le (Heap.lt_size e) (Nat.le_trans I.ok.bsz z)) (Nat.lt_irrefl _)
    · rcases List.mem_cons.mp (I.stkSub b z) with z | z
      · exact (hfp b hb).1.2.1 z
      · exact (hfp b hb).1.2.2.1 z
  refine ⟨okG, hos, hb, Un.kept hk, ⟨m0, hns, fun i y v e1 e2 e3 => ?_⟩, fun y c e => ?_, ?_, fun y c e => I.freeC y c (cm e), fun p hp => ?_, I.hok.kept hk, ?_⟩
  · by_cases hi : i < own.length
    · unfold own0 at e2
      rw [List.getElem?_append_left (by simpa using hi), List.getElem?_replicate, if_pos hi] at e2
      cases e2
    · unfold own0 at e2
      rw [List.getElem?_append_right (by simpa using hi), List.length_replicate] at e2
      have e1 : (own ++ X.N)[i]? = some y := e1
      rw [List.getElem?_append_right (by simpa using hi)] at e1
      have hyN := List.mem_of_getElem? e1
      have hfr : scope.names.lookup y = some .free := by
        rcases (show Vis scope y from e3) with z | z | z
        · exact absurd hyN (S.loc _ (PySem.mem_of_lookup z) rfl)
        · exact absurd z nocell
        · exact z
      obtain ⟨m, hn, hl⟩ := I.loc
      have hs := S.free _ (PySem.mem_of_lookup hfr) rfl
      have hvis : Vis X.env.scope y := hs.elim (fun k => .inr (.inl k)) (fun k => .inr (.inr k))
      obtain ⟨u, r, q⟩ := hl _ y v e1 e2 hvis
      refine ⟨u, r, .inr ⟨.inr hfr, ?_⟩⟩
      obtain ⟨c, h1, h2⟩ := fk hfr
      rcases q with ⟨k, _⟩ | ⟨_, c', e', z⟩
      · have k : X.env.scope.names.lookup y = some .local := k
        rcases hs with k' | k' <;> rw [show X.env.scope.names.lookup y = _ from k'] at k <;> cases k
      · rw [h2] at e'
        cases e'
        exact ⟨c, h1, z.keeps hk⟩
  · obtain ⟨w, z⟩ := I.cell y c (cm e)
    exact ⟨w, z.keeps hk⟩
  · show H C = none
    rw [hC]
    exact I.hok.fresh (Nat.le_refl _)
  · have hp : p ∈ [(a, go)] ++ ([] : List (Addr × Obj)) := hp
    rw [List.append_nil] at hp
    rw [List.mem_singleton.mp hp]
    refine ⟨hao, I.hok.fresh (Nat.le_of_lt ha), ?_, fun z => ?_, hgo⟩
    · show a ≠ C
      rw [hC]
      exact Nat.ne_of_gt ha
    · rcases List.mem_cons.mp (I.stkSub a z) with z | z
      · have := I.lt
        rw [← z] at this
        exact absurd (Nat.lt_trans ha this) (Nat.lt_irrefl _)
      · exact I.nofs (Nat.le_of_lt ha) z
  · show (List.replicate own.length none ++ σ).length = (own ++ X.N).length
    rw [List.length_append, List.length_append, List.length_replicate, I.len]
/-- where it has come to an end for its consumer -/
def FinA (X : Cx) (fp : List Addr) (s0 : Shared) (H0 : Hp) (Qb : Hp → Prop) (s1 : Shared) : Prop := ∃ H', s1.os = s0.os ∧ AllBare s1.gens ∧ Un (frs X.stack) fp H0 H' s0.heap s1.heap ∧ HOk X.prog X.w H' s1.heap ∧ Qb H'
theorem FinA.set {fp : List Addr} {s0 s1 : Shared} {H0 : Hp} {Qb : Hp → Prop} (h : FinA X fp s0 H0 Qb s1) {g : Nat} {gs : GenState} (hb : gs.bare = true) : FinA X fp s0 H0 Qb (s1.setGen g gs) :=
  let ⟨H', h1, h2, h3, h4, h5⟩ := h
  ⟨H', h1, allBare_setGen h2 hb, h3, h4, h5⟩
theorem FinA.grow {fp : List Addr} {s0 s1 : Shared} {H0 : Hp} {Qb : Hp → Prop} (h : FinA X fp s0 H0 Qb s1) {h' : Heap} (hk : ∀ b o, s1.heap.get? b = some o → h'.get? b = some o) : FinA X fp s0 H0 Qb { s1 with heap := h' } :=
  let ⟨H', h1, h2, h3, h4, h5⟩ := h
  ⟨H', h1, h2, h3.trans (Un.kept hk), h4.kept hk, h5⟩
/-- what is handed out: a truth; with the one that stops the consumer it is at its end, with the other it sleeps -/
def GYA (X : Cx) (fp : List Addr) (s0 : Shared) (H0 : Hp) (a : Addr) (g : Nat) (sb : Bool) (Q : VK) : Protocol := fun _ _ v s1 kap =>
  ∃ b, v = Value.bool b ∧ (b = sb → FinA X fp s0 H0 (Q (.bl sb)) s1) ∧ (b ≠ sb → s1.os = s0.os ∧ AllBare s1.gens ∧ s1.heap.NoLimit ∧ s1.heap.IsGen a g ∧
    ∀ s' : Shared, s'.os = s1.os → AllBare s'.gens → (∀ b o, s1.heap.get? b = some o → s'.heap.get? b = some o) → kap (.send .none) s')
abbrev GRA (X : Cx) (fp : List Addr) (s0 : Shared) (H0 : Hp) (sb : Bool) (Q : VK) : GenEnd := fun _ _ r s1 => r = .ok .next ∧ FinA X fp s0 H0 (Q (.bl (!sb))) s1
/-- a turn -/
def TurnA (J : It) (g : TG) (te : TE) (own : List Str) (σ : L2.St) (sb : Bool) (Q : VK) (W : Nat → Nat → Hp → Prop) : Prop := ∀ i m H, W i m H →
  (J.stop i H ∧ Q (.bl (!sb)) H) ∨ (J.go i H ∧ ∃ Nx : Hp → Prop, (∀ H', Nx H' → ∃ m', m' < m ∧ W (i + 1) m' H') ∧ ∀ x H', J.yld i H x H' → g x (own0 own σ) H' fun σ2 H2 => L2.wipe σ2 (List.range own.length) = own0 own σ ∧
    te σ2 H2 fun v H3 => ∃ b, v = .bl b ∧ (b = sb → Q (.bl sb) H3) ∧ (b ≠ sb → Nx H3))
theorem segA {elt tg iter : Expr} {scope : Scope} {own : List Str} {gpos : Pos} {A : Around} {s0 : Shared} {H0 : Hp} {C a it : Addr} {code : Value} {fp : List Addr} {go : Obj} {gn : Nat} {tn : Nat → Heap → Prop} {J : It} {g : TG} {te : TE} {sb : Bool} {Q : VK} {W : Nat → Nat → Hp → Prop}
    (T : Turn X.prog X.w X.K tg J fp it tn) (hg : PG (gnx X scope own A s0 H0 C code fp [(a, go)]) tg g) (he : PE (gnx X scope own A s0 H0 C code fp [(a, go)]) elt te) (hgo : ∀ h : Heap, h.get? a = some go → h.IsGen a gn) (hco : scope.isCoroutine = false) (fa : a ∉ fp)
    (turn : TurnA J g te own σ sb Q W) :
    ∀ (n i m : Nat) (t0 t : Shared) (H : Hp), m < n → W i m H → L2.Inv (gnx X scope own A s0 H0 C code fp [(a, go)]) [] (own0 own σ) H t → (∀ b ∈ fp, H b = none) → tn i t.heap →
      Seg (model X.prog X.w) A (GRA X fp s0 H0 sb Q) (GYA X fp s0 H0 a gn sb Q) n t0 (.compLoop (.GeneratorExp elt [⟨tg, iter, [], 0⟩] scope gpos) 0 (.ref it) .none (genEnv scope (cloFrom X.env.cells scope.names []) C code builtinsNs X.env))
        ((model X.prog X.w).den (.compLoop (.GeneratorExp elt [⟨tg, iter, [], 0⟩] scope gpos) 0 (.ref it) .none (genEnv scope (cloFrom X.env.cells scope.names []) C code builtinsNs X.env))) [] t := by
  intro n
  induction n with
  | zero => intro i m t0 t H hm; exact absurd hm (Nat.not_lt_zero _)
  | succ n ih =>
    intro i m t0 t H hm w I nf st
    have stat : ∀ {pins' : List (Addr × Obj)} {σ' : L2.St} {H' : Hp} {s' : Shared}, L2.Inv (gnx X scope own A s0 H0 C code fp [(a, go)]) pins' σ' H' s' → (∀ b ∈ fp, H' b = none) → ∀ b ∈ fp, FpOk (gnx X scope own A s0 H0 C code fp [(a, go)]) [] H' b := fun {pins' σ' H' s'} I' hn b hb =>
      ⟨hn b hb, (I'.ok.exf b hb).1, I'.ok.exfs b hb, .inl hb, fun x c e => (I'.ok.exf b hb).2 x c e, fun p hp z => by
        have hp : p ∈ [(a, go)] ++ ([] : List (Addr × Obj)) := hp
        rw [List.append_nil] at hp
        rw [List.mem_singleton.mp hp] at z
        have z : a = b := z
        exact fa (by rw [z]; exact hb)⟩
    generalize hY : gnx X scope own A s0 H0 C code fp [(a, go)] = Y at hg he I stat ih
    generalize hE : genEnv scope (cloFrom X.env.cells scope.names []) C code builtinsNs X.env = env at ih ⊢
    have yP : Y.prog = X.prog := by rw [← hY]
    have yW : Y.w = X.w := by rw [← hY]
    have yK : Y.K = X.K := by rw [← hY]
    have yA : Y.A = A.deeper env := by rw [← hY, ← hE]
    have yE : Y.env = env := by rw [← hY, ← hE]
    have yX : Y.xe = fun _ _ => False := by rw [← hY]
    have yC : Y.calm = true := by rw [← hY]
    have fin : ∀ {pins' : List (Addr × Obj)} {σ' : L2.St} {H' : Hp} {s' : Shared} {Qb : Hp → Prop}, L2.Inv Y pins' σ' H' s' → Qb H' → FinA X fp s0 H0 Qb s' := fun {pins' σ' H' s' Qb} I' q => by
      subst hY
      exact ⟨H', I'.os, I'.bare, I'.base, I'.hok, q⟩
    have pinG : ∀ {pins' : List (Addr × Obj)} {σ' : L2.St} {H' : Hp} {s' : Shared}, L2.Inv Y pins' σ' H' s' → s'.heap.IsGen a gn ∧ s'.os = s0.os ∧ s'.heap.NoLimit := fun {pins' σ' H' s'} I' => by
      have l := I'.nolimit
      subst hY
      exact ⟨hgo _ (I'.pin (a, go) (List.mem_append_left _ (List.mem_singleton.mpr rfl))).1, I'.os, l⟩
    have hy : ∀ v, yieldOut env v = yieldValue v := fun v => by
      have e : env.scope.isCoroutine = false := by rw [← hE]; exact hco
      simp only [yieldOut, e, Bool.false_eq_true, if_false]
    show Seg _ A _ _ _ t0 _ ((compTurn (.GeneratorExp elt [⟨tg, iter, [], 0⟩] scope gpos) 0 (.ref it) .none env).onRaise (leaving env)) [] t
    rw [compTurn_gen, Sem.onRaise_eq_wrap]
    refine seg_bind_wrap (wpAny_standAt ?_)
    rcases turn i m H w with ⟨stop, q⟩ | ⟨go', Nx, hN, step⟩
    · have td := T.done Y yP yW yK yC i [] t _ H (fun _ _ => False) I (stat I nf) st stop
      rw [yA] at td
      refine seg_bind_wrap ?_
      rw [over_loopG]
      refine thnF td fun r t1 ⟨hr, I1⟩ => ?_
      subst hr
      exact seg_end (.ok .next) ⟨rfl, fin I1 q⟩
    · have ti := T.item Y yP yW yK yC i [] t _ H (fun _ _ => False) I (stat I nf) st go'
      rw [yA] at ti
      refine seg_bind_wrap ?_
      rw [over_loopG]
      refine thnF ti fun r t1 ⟨u, hr, h1⟩ => ?_
      subst hr
      refine seg_bind_wrap ?_
      rw [over_loopG]
      refine thnF h1 fun _ t2 ⟨x, H2, I2, r2, y2, st2, n2⟩ => ?_
      have I2' := I2.pinned (stat I2 n2) (T.obj _ _ st2)
      have ga := hg.run _ t2 _ H2 x u _ I2' r2 (step x H2 y2)
      rw [yA, yE, yX, yP, yW] at ga
      refine seg_bind_wrap ?_
      rw [over_loopG]
      refine thnF ga fun _ t3 ⟨σ3, H3, I3, hw, q3⟩ => ?_
      refine seg_bind_wrap ?_
      simp only [List.forIn_nil]
      refine wpAny_pure ?_
      simp only [if_true]
      simp only [hy]
      rw [Sem.bind_eq_wrap', Sem.bind_eq_wrap', Sem.wrap_wrap, Sem.wrap_wrap]
      have ge := he.run _ t3 σ3 H3 _ I3 q3
      rw [yA, yE, yX, yP, yW] at ge
      refine seg_wrap ?_
      rw [over_loopG]
      refine thnF ge fun y t4 ⟨v, H4, I4, r4, b, hv, qf, qt⟩ => ?_
      subst hv
      cases (show y = Value.bool b from r4)
      obtain ⟨g1, g2, g3⟩ := pinG I4
      refine seg_at (seg_yield rfl rfl rfl ⟨b, rfl, fun e => fin I4 (qf e), fun e => ⟨g2, I4.bare, g3, g1, fun t5 ho hb hk => ?_⟩⟩)
      obtain ⟨m', hm', w'⟩ := hN H4 (qt e)
      have pin' : ∀ b ∈ fp, ∀ o, t2.heap.get? b = some o → t4.heap.get? b = some o ∧ H4 b = none := fun b hb o e =>
        let z := I4.pin (b, o) (List.mem_append_right _ (List.mem_append_right _ (mem_pinsAt hb e)))
        ⟨z.1, z.2.1⟩
      have hl : (own0 own σ).length = σ3.length := by rw [← hw, L2.wipe_length]
      have I5 : L2.Inv Y [] (own0 own σ) H4 t4 := (I4.unpinned (pins := [])).weak hl fun j v e => by
        rw [← hw] at e
        exact (wipe_some e).1
      have I6 : L2.Inv Y [] (own0 own σ) H4 t5 := I5.call' (ch := []) ho (Un.kept hk) (I5.hok.kept hk) hb fun b z => absurd z (by simp)
      refine seg_again rfl (ih (i + 1) m' t5 t5 H4 (by omega) w' I6 (fun b hb => ?_) (T.keep _ _ _ st2 fun b hb o e => hk b o (pin' b hb o e).1))
      obtain ⟨o, e, _⟩ := T.obj _ _ st2 b hb
      exact (pin' b hb o e).2
end
end Pk
end
section
set_option maxHeartbeats 1000000
/-! The rules: all(elt for tg in iter), any(elt for tg in iter). -/
namespace Pk
open PySem PySem.Spec PyProof.Rows L2 GenW NdefX
section
variable {X : Cx} {pins : List (Addr × Obj)} {σ : L2.St} {H : Hp} {s : Shared}
/-- asleep, n things at most to come -/
def AslA (X : Cx) (A : Around) (fp : List Addr) (s0 : Shared) (H0 : Hp) (a : Addr) (g : Nat) (sb : Bool) (Q : VK) (n : Nat) (t : Shared) : Prop :=
  t.heap.IsGen a g ∧ t.heap.NoLimit ∧ AllBare t.gens ∧ ∃ gs, t.gens[g]? = some gs ∧ ∀ t2 : Shared, t2.os = t.os → AllBare t2.gens → (∀ b o, t.heap.get? b = some o → t2.heap.get? b = some o) → gs.Goes (model X.prog X.w) A (GRA X fp s0 H0 sb Q) (GYA X fp s0 H0 a g sb Q) n (.send .none) t2
/-- one thing more -/
theorem AslA.next {A : Around} {fp : List Addr} {s0 t : Shared} {H0 : Hp} {a : Addr} {g n : Nat} {sb : Bool} {Q : VK} {Qn : Option Value → Shared → Prop} {E : Value → Shared → Prop} (hA : A.handled = none) (hd : A.depth < recursionLimit) (h : AslA X A.in1 fp s0 H0 a g sb Q n t)
    (hs : ∀ t', FinA X fp s0 H0 (Q (.bl sb)) t' → Qn (some (.bool sb)) t') (hy : ∀ m t', n = m + 1 → AslA X A.in1 fp s0 H0 a g sb Q m t' → Qn (some (.bool (!sb))) t') (he : ∀ t', FinA X fp s0 H0 (Q (.bl (!sb))) t' → Qn none t') :
    wpAny (model X.prog X.w) A (pyNext (.ref a)) Qn E t := by
  obtain ⟨hg, hl, hb, gs, hgs, hgo⟩ := h
  have hgl : g < t.gens.size := (Array.getElem?_eq_some_iff.mp hgs).1
  have hgo' := hgo (t.setGen g .running) rfl (allBare_setGen hb rfl) fun _ _ e => e
  refine wpAny_gsz (n := g + 1) hgl (wpAny_pyNext_genexpQ (P := fun _ _ s1 => FinA X fp s0 H0 (Q (.bl (!sb))) s1) hA hl hd hg hgs hgo' (fun v s1 gs' hbare hv hsz => ?_) (fun s1 hp h' hk _ => ?_))
  · obtain ⟨b, rfl, hf, ht⟩ := hv
    by_cases e : b = sb
    · rw [e]
      exact hs _ ((hf e).set hbare)
    · have eb : b = !sb := by cases b <;> cases sb <;> first | rfl | exact absurd rfl e
      obtain ⟨os1, hb1, hl1, hg1, kap⟩ := ht e
      rw [eb]
      have hsz1 : g < s1.gens.size := by
        have q : (s1.setGen g gs').gens.size = s1.gens.size := setGen_size _ _ _
        omega
      cases n with
      | zero => exact (kap s1 rfl hb1 fun _ _ e => e).elim
      | succ m => exact hy m _ rfl ⟨hg1, hl1, allBare_setGen hb1 hbare, gs', setGen_at hsz1, fun t2 h1 h2 h3 => kap t2 h1 h2 h3⟩
  · have q := (FinA.set (g := g) (gs := .finished) hp rfl).grow (h' := h') hk
    exact he _ q
theorem all_loopG {A : Around} {fp : List Addr} {s0 : Shared} {H0 : Hp} {a : Addr} {g : Nat} {Q : VK} {R : Result → Shared → Prop} (hA : A.handled = none) (hd : A.depth < recursionLimit) (hR : ∀ b t', FinA X fp s0 H0 (Q (.bl b)) t' → R (.ok (.ret (.bool b))) t') :
    ∀ (n : Nat) (t : Shared), AslA X A.in1.in1 fp s0 H0 a g false Q n t → codeAny (model X.prog X.w) A (.builtin "all.loop" ⟨[.ref a], []⟩) R t := by
  intro n
  induction n with
  | zero =>
    intro t st
    refine codeAny_builtin PySem.F.entry_all_loop ?_
    rw [Around.under_plainId PySem.F.plain_all_loop _]
    show wpAny _ A.in1 (pyNext (.ref a) >>= _) _ _ t
    refine wpAny_bind (st.next (A := A.in1) hA hd (fun t' hf => ?_) (fun m t' e => absurd e (by omega)) fun t' hf => wpAny_bind (wpAny_rule (wpAny_pure (hR true t' hf))))
    refine wpAny_bind (wpAny_holding (wpAny_truthy_bool (wpAny_bind (wpAny_letGo ?_))))
    simp only [Bool.false_eq_true, if_false]
    exact wpAny_bind (wpAny_rule (wpAny_pure (hR false t' hf)))
  | succ n ih =>
    intro t st
    refine codeAny_builtin PySem.F.entry_all_loop ?_
    rw [Around.under_plainId PySem.F.plain_all_loop _]
    show wpAny _ A.in1 (pyNext (.ref a) >>= _) _ _ t
    refine wpAny_bind (st.next (A := A.in1) hA hd (fun t' hf => ?_) (fun m t' e st' => ?_) fun t' hf => wpAny_bind (wpAny_rule (wpAny_pure (hR true t' hf))))
    · refine wpAny_bind (wpAny_holding (wpAny_truthy_bool (wpAny_bind (wpAny_letGo ?_))))
      simp only [Bool.false_eq_true, if_false]
      exact wpAny_bind (wpAny_rule (wpAny_pure (hR false t' hf)))
    · refine wpAny_bind (wpAny_holding (wpAny_truthy_bool (wpAny_bind (wpAny_letGo ?_))))
      simp only [Bool.not_false, if_true]
      have em : m = n := by omega
      subst em
      exact wpAny_pure ⟨plainId_quiet PySem.F.plain_all_loop _, ih t' st'⟩
theorem any_loopG {A : Around} {fp : List Addr} {s0 : Shared} {H0 : Hp} {a : Addr} {g : Nat} {Q : VK} {R : Result → Shared → Prop} (hA : A.handled = none) (hd : A.depth < recursionLimit) (hR : ∀ b t', FinA X fp s0 H0 (Q (.bl b)) t' → R (.ok (.ret (.bool b))) t') :
    ∀ (n : Nat) (t : Shared), AslA X A.in1.in1 fp s0 H0 a g true Q n t → codeAny (model X.prog X.w) A (.builtin "any.loop" ⟨[.ref a], []⟩) R t := by
  intro n
  induction n with
  | zero =>
    intro t st
    refine codeAny_builtin PySem.F.entry_any_loop ?_
    rw [Around.under_plainId PySem.F.plain_any_loop _]
    show wpAny _ A.in1 (pyNext (.ref a) >>= _) _ _ t
    refine wpAny_bind (st.next (A := A.in1) hA hd (fun t' hf => ?_) (fun m t' e => absurd e (by omega)) fun t' hf => wpAny_bind (wpAny_rule (wpAny_pure (hR false t' hf))))
    refine wpAny_bind (wpAny_holding (wpAny_truthy_bool (wpAny_bind (wpAny_letGo ?_))))
    simp only [if_true]
    exact wpAny_bind (wpAny_rule (wpAny_pure (hR true t' hf)))
  | succ n ih =>
    intro t st
    refine codeAny_builtin PySem.F.entry_any_loop ?_
    rw [Around.under_plainId PySem.F.plain_any_loop _]
    show wpAny _ A.in1 (pyNext (.ref a) >>= _) _ _ t
    refine wpAny_bind (st.next (A := A.in1) hA hd (fun t' hf => ?_) (fun m t' e st' => ?_) fun t' hf => wpAny_bind (wpAny_rule (wpAny_pure (hR false t' hf))))
    · refine wpAny_bind (wpAny_holding (wpAny_truthy_bool (wpAny_bind (wpAny_letGo ?_))))
      simp only [if_true]
      exact wpAny_bind (wpAny_rule (wpAny_pure (hR true t' hf)))
    · refine wpAny_bind (wpAny_holding (wpAny_truthy_bool (wpAny_bind (wpAny_letGo ?_))))
      simp only [Bool.not_true, Bool.false_eq_true, if_false]
      have em : m = n := by omega
      subst em
      exact wpAny_pure ⟨plainId_quiet PySem.F.plain_any_loop _, ih t' st'⟩
/-- the reading: W by the turn and a measure; sb: the truth that stops it (all: False, any: True) -/
def tQuG (P : Addr) (sb : Bool) (wi : TI) (g : TG) (te : TE) (own : List Str) : TE := fun σ H Q => wi σ H fun J H1 => GxR.TabG H1 P ∧ ∀ H2, GxR.Tabbed P H1 H2 → ∃ W : Nat → Nat → Hp → Prop, (∃ m, W 0 m H2) ∧ TurnA J g te own σ sb Q W
/-- made: it sleeps ahead of its first thing -/
theorem made_gen {c P : Addr} {elt tg iter : Expr} {gpos : Pos} {scope : Scope} {own : List Str} {wi : TI} {g : TG} {te : TE} {k : Nat} {sb : Bool} {Q : VK} {Q' : Value → Shared → Prop}
    (hr : Room (k + 2) X.A) (TB : GxR.TabB X.base X.mg c P) (hcode : X.env.code = .ref c) (S : GenO X.N X.env.scope scope own) (hi : PI X tg iter wi)
    (hg : ∀ (A : Around) (s : Shared) (H : Hp) (C : Addr) (code : Value) (fp : List Addr) (pn : List (Addr × Obj)), Room k (A.deeper (genEnv scope (cloFrom X.env.cells scope.names []) C code builtinsNs X.env)) → PG (gnx X scope own A s H C code fp pn) tg g)
    (he : ∀ (A : Around) (s : Shared) (H : Hp) (C : Addr) (code : Value) (fp : List Addr) (pn : List (Addr × Obj)), Room k (A.deeper (genEnv scope (cloFrom X.env.cells scope.names []) C code builtinsNs X.env)) → PE (gnx X scope own A s H C code fp pn) elt te)
    (hs : ∀ v, genFold iter X.env v = pure v) (I : L2.Inv X pins σ H s) (h : tQuG P sb wi g te own σ H Q)
    (hQ : ∀ (a : Addr) (gn : Nat) (fp : List Addr) (s0 : Shared) (H0 : Hp) (n : Nat) (t : Shared), AslA X X.A.in1.in1 fp s0 H0 a gn sb Q n t → (∀ b t', FinA X fp s0 H0 (Q (.bl b)) t' → EP X pins σ Q (.bool b) t') → Q' (.ref a) t) :
    wpAny (model X.prog X.w) X.A (eval (.GeneratorExp elt [⟨tg, iter, [], 0⟩] scope gpos) X.env) Q' X.xe s := by
  refine wpAny_GeneratorExp_make S.co (closure_ok (S.has I)) S.cell S.dot S.kind (by have := hr.dp; omega) (thn (hi.run pins s σ H _ I h) fun xv s1 hx => thn hx fun itv s2 h2 => ?_) hs
  obtain ⟨it, fp, tn, J, H1, rfl, I1, T, st1, f1, ⟨ps, hP, ht⟩, q⟩ := h2
  refine ⟨I1.nolimit, ?_⟩
  have hPs : s2.heap.get? P = some { cls := .none, data := .fields ps } := I1.hok P _ hP
  have cd : PySem.W.CodeHd s2.heap c P := TB.code.keeps fun b u e => I1.bk b u e
  have nfP : ∀ b ∈ fp, b ≠ P := fun b hb z => by
    have e := (f1 b hb).1
    rw [z, hP] at e
    cases e
  have cont : ∀ (code : Value) (h3 : Heap) (tk : Nat) (H2 : Hp), L2.Inv X pins σ H2 { s2 with heap := h3, toks := tk } → GxR.Tabbed P H1 H2 → (∀ b o, b ≠ P → s2.heap.get? b = some o → h3.get? b = some o) →
      wpAny (model X.prog X.w) X.A (builtinsFor X.env.globals X.env.builtins) (fun bi s4 => ∀ h' : Heap, h'.Ns s4.heap.objs.size (fun y => if y = ".0" then some (.ref it) else none) → Heap.SameBut s4.heap.objs.size (s4.heap.push { cls := .type "frame", data := .dict #[] }) h' →
        Q' (.ref h'.objs.size) { s4 with gens := s4.gens.push (.fresh (.compStart (.GeneratorExp elt [⟨tg, iter, [], 0⟩] scope gpos) 0 (.ref it) .none (genEnv scope (cloFrom X.env.cells scope.names []) s4.heap.objs.size code bi X.env))), toks := s4.toks + 1 + 1 + 1, heap := h'.push { cls := .type "generator", data := .fields #[.int s4.gens.size 0, .str "<genexpr>" (s4.toks + 1), .str (X.env.qual ++ "<genexpr>") (s4.toks + 1 + 1)] } }) X.xe { s2 with heap := h3, toks := tk } := by
    intro code h3 tk H2 I2 hT kp3
    obtain ⟨bm, ob, e1, e2, e3, e4, e5, e6, e7, e8⟩ := TB.bm
    refine wpAny_builtinsFor (m := X.mg) (by rw [I2.ok.glob]; exact I2.mod.glob.keeps I2.bk) e1 e2 (I2.bk _ _ e5) e6 e7 e8 ?_
    intro h' hn' hs'
    generalize hs3 : ({ s2 with heap := h3, toks := tk } : Shared) = s3 at I2 hn' hs' ⊢
    have h33 : s3.heap = h3 := by rw [← hs3]
    have hsz : h'.objs.size = s3.heap.objs.size + 1 := by rw [hs'.1, Heap.size_push]
    have keep' : ∀ b o, s3.heap.get? b = some o → h'.get? b = some o := fun b o e => hs'.extBut b o (Nat.ne_of_lt (Heap.lt_size e)) (Heap.get?_push_of_some _ e)
    obtain ⟨W, ⟨m0, w0⟩, turn⟩ := q H2 hT
    generalize hgo : ({ cls := .type "generator", data := .fields #[.int s3.gens.size 0, .str "<genexpr>" (s3.toks + 1), .str (X.env.qual ++ "<genexpr>") (s3.toks + 1 + 1)] } : Obj) = go
    have gat : (h'.push go).get? h'.objs.size = some go := Heap.get?_push_size _ (by rw [← hgo]; rfl)
    have isG : ∀ h : Heap, h.get? h'.objs.size = some go → h.IsGen h'.objs.size s3.gens.size := fun h e => ⟨go, _, _, e, by rw [← hgo], by rw [← hgo], by rw [← hgo]⟩
    have nocell : ∀ v, go.data ≠ .cell v := fun v z => by rw [← hgo] at z; cases z
    have keep5 : ∀ b o, s3.heap.get? b = some o → (h'.push go).get? b = some o := fun b o e => Heap.get?_push_of_some _ (keep' b o e)
    have f2 : ∀ b ∈ fp, FpOk X pins H2 b ∧ b < s3.heap.objs.size := fun b hb => by
      refine ⟨⟨by rw [hT.2 b (nfP b hb)]; exact (f1 b hb).1, (f1 b hb).2⟩, ?_⟩
      obtain ⟨o, e, _⟩ := T.obj _ _ st1 b hb
      rw [h33]
      exact Heap.lt_size (kp3 b o (nfP b hb) e)
    have st3 : tn 0 s3.heap := T.keep _ _ _ st1 fun b hb o e => by rw [h33]; exact kp3 b o (nfP b hb) e
    have hrA : Room (k + 1) X.A.in1.in1 := ⟨hr.hd, by have := hr.dp; show X.A.depth + 3 * (k + 1) + 5 < _; omega, by have := hr.un; show X.A.units + 1 + 1 + 16 * (k + 1) + 200 < _; omega⟩
    have fa : h'.objs.size ∉ fp := fun z => by
      have h9 : (h'.objs.size : Nat) < s3.heap.objs.size := (f2 _ z).2
      omega
    have hrD := hrA.deeper (genEnv scope (cloFrom X.env.cells scope.names []) s3.heap.objs.size code builtinsNs X.env)
    have pg := hg X.A.in1.in1 s3 H2 s3.heap.objs.size code fp [(h'.objs.size, go)] hrD
    have pe := he X.A.in1.in1 s3 H2 s3.heap.objs.size code fp [(h'.objs.size, go)] hrD
    have hfr : X.A.in1.in1.frames = some X.stack := I2.ok.frames
    refine hQ h'.objs.size s3.gens.size fp s3 H2 (m0 + 1) _ ⟨isG _ gat, I2.nolimit.keeps keep5, I2.bare.push rfl, _, Array.getElem?_push_size .., fun t2 ho hb2 hk => ⟨rfl, ?_⟩⟩ (fun b t' hf => ?_)
    · have kt : ∀ b o, s3.heap.get? b = some o → t2.heap.get? b = some o := fun b o e => hk b o (keep5 b o e)
      have ho3 : t2.os = s3.os := ho
      have I3 := gnx_start (code := code) (t := t2) I2 S hrA.hd hfr rfl f2 ((hn'.push go).keeps hk) kt ho3 hb2 (by omega) (hk _ _ gat) nocell
      have st5 : tn 0 t2.heap := T.keep _ _ _ st3 fun b _ o e => kt b o e
      have loop := segA (iter := iter) (gpos := gpos) (gn := s3.gens.size) T pg pe isG S.co fa turn (m0 + 1) 0 m0 t2 t2 H2 (Nat.lt_succ_self _) w0 I3 (fun b hb => (f2 b hb).1.1) st5
      show Seg _ X.A.in1.in1 _ _ _ t2 _ ((compStart (.GeneratorExp elt [⟨tg, iter, [], 0⟩] scope gpos) 0 (.ref it) .none (genEnv scope (cloFrom X.env.cells scope.names []) s3.heap.objs.size code builtinsNs X.env)).onRaise (leaving _)) [] t2
      unfold compStart
      rw [Sem.onRaise_eq_wrap]
      show Seg _ X.A.in1.in1 _ _ _ t2 _ ((ask >>= _).wrap _ _ _ _) [] t2
      refine seg_bind_wrap (wpAny_askSetting ?_)
      split
      · exact seg_again rfl loop
      · first
          | exact seg_bind_wrap (wpAny_rule (seg_bind_wrap (wpAny_standAt (seg_bind_wrap (T.self _ 0 t2 _ _ st5 (seg_again rfl loop))))))
          | (refine seg_bind_wrap (wpAny_rule ?_); show Seg _ X.A.in1.in1 _ _ _ t2 _ ((standAt iter.pos >>= _).wrap _ _ _ _) [] t2; exact seg_bind_wrap (wpAny_standAt (seg_bind_wrap (T.self _ 0 t2 _ _ st5 (seg_again rfl loop)))))
    · obtain ⟨H', h1, h2, h3', h4, h5⟩ := hf
      exact ⟨.bl b, H', I2.call' (ch := fp) h1 h3' h4 h2 (fun b hb => ⟨(f2 b hb).1.2.2.2.1, (f2 b hb).1.2.1, (f2 b hb).1.2.2.2.2.1, (f2 b hb).1.2.2.2.2.2⟩), rfl, h5⟩
  cases hf : codeAmong gpos ps.toList with
  | none =>
    refine wpAny_genexprCodeX hcode (cd.code hPs ht) (cd.tab hPs) hf fun c' h' tk hx hge hlt hco' _ htab' _ => ?_
    obtain ⟨o1, vs, f1', tf, fl, tg', inF, tx, tt, op, _, _, _, _, _, _, _, _, _, htr, _⟩ := hco'
    have kp : ∀ b o, b ≠ P → s2.heap.get? b = some o → h'.get? b = some o := fun b o hb e => hx b o hb e
    refine cont _ h' tk (upd H1 P (.tbl (ps ++ #[rawInt gpos.line, rawInt gpos.col, .ref c']))) (GxR.inv_tab (g' := s2.gens) (d' := s2.drawn) (t' := tk) I1 hP kp htab'.2 I1.bare) ⟨⟨_, upd_same, htr⟩, fun b hb => upd_ne hb⟩ kp
  | some cv =>
    refine wpAny_genexprCode_hit hcode (cd.code hPs ht) hf ?_
    exact cont cv s2.heap s2.toks H1 (I1.tok _) ⟨⟨ps, hP, ht⟩, fun _ _ => rfl⟩ fun _ _ _ e => e
theorem pe_allG {c P : Addr} {elt tg iter : Expr} {gpos p pos : Pos} {scope : Scope} {own : List Str} {wi : TI} {g : TG} {te : TE} {k : Nat}
    (hr : Room (k + 2) X.A) (hgA : Gl X "all") (hmA : X.mg "all" = none) (TB : GxR.TabB X.base X.mg c P) (hcode : X.env.code = .ref c) (S : GenO X.N X.env.scope scope own) (hi : PI X tg iter wi)
    (hg : ∀ (A : Around) (s : Shared) (H : Hp) (C : Addr) (code : Value) (fp : List Addr) (pn : List (Addr × Obj)), Room k (A.deeper (genEnv scope (cloFrom X.env.cells scope.names []) C code builtinsNs X.env)) → PG (gnx X scope own A s H C code fp pn) tg g)
    (he : ∀ (A : Around) (s : Shared) (H : Hp) (C : Addr) (code : Value) (fp : List Addr) (pn : List (Addr × Obj)), Room k (A.deeper (genEnv scope (cloFrom X.env.cells scope.names []) C code builtinsNs X.env)) → PE (gnx X scope own A s H C code fp pn) elt te)
    (hs : ∀ v, genFold iter X.env v = pure v)
    (hst : starEach [.GeneratorExp elt [⟨tg, iter, [], 0⟩] scope gpos] X.env = (false, eval (.GeneratorExp elt [⟨tg, iter, [], 0⟩] scope gpos) X.env) :: starEach [] X.env := by rfl) :
    PE X (.Call (.Name "all" p) [.GeneratorExp elt [⟨tg, iter, [], 0⟩] scope gpos] [] pos) (tQuG P false wi g te own) := by
  refine ⟨fun pins s σ H Q I h => wpAny_Call_Name_kw (ld_blt I hgA hmA (by decide +kernel : bootBuiltins "all" = some (.builtin "all")) ?_)⟩
  refine PyProof.Rows.callWith_builtin1 ?_ hst (by rfl)
  rw [hst]
  show wpAny _ _ (spliced ((false, eval (.GeneratorExp elt [⟨tg, iter, [], 0⟩] scope gpos) X.env) :: backTo pos (starEach [] X.env))) _ _ s
  refine Calls.spliced_cons (made_gen hr TB hcode S hi hg he hs I h fun a gn fp s0 H0 n t st hE => Calls.spliced_nil ?_)
  refine call_function_tree PySem.F.kind_all PySem.F.plain_all PySem.F.entry_all (PySem.F.args_all1 _) ?_
  unfold Builtin.«all»
  refine wpAny_bind (m := oneArg "all" _) (wpAny_pure ?_)
  refine wpAny_bind (wpAny_pyIter_gen st.1 ?_)
  exact wpAny_pure ⟨plainId_quiet PySem.F.plain_all_loop _, all_loopG hr.hd (by have := hr.dp; omega) hE n t st⟩
theorem pe_anyG {c P : Addr} {elt tg iter : Expr} {gpos p pos : Pos} {scope : Scope} {own : List Str} {wi : TI} {g : TG} {te : TE} {k : Nat}
    (hr : Room (k + 2) X.A) (hgA : Gl X "any") (hmA : X.mg "any" = none) (TB : GxR.TabB X.base X.mg c P) (hcode : X.env.code = .ref c) (S : GenO X.N X.env.scope scope own) (hi : PI X tg iter wi)
    (hg : ∀ (A : Around) (s : Shared) (H : Hp) (C : Addr) (code : Value) (fp : List Addr) (pn : List (Addr × Obj)), Room k (A.deeper (genEnv scope (cloFrom X.env.cells scope.names []) C code builtinsNs X.env)) → PG (gnx X scope own A s H C code fp pn) tg g)
    (he : ∀ (A : Around) (s : Shared) (H : Hp) (C : Addr) (code : Value) (fp : List Addr) (pn : List (Addr × Obj)), Room k (A.deeper (genEnv scope (cloFrom X.env.cells scope.names []) C code builtinsNs X.env)) → PE (gnx X scope own A s H C code fp pn) elt te)
    (hs : ∀ v, genFold iter X.env v = pure v)
    (hst : starEach [.GeneratorExp elt [⟨tg, iter, [], 0⟩] scope gpos] X.env = (false, eval (.GeneratorExp elt [⟨tg, iter, [], 0⟩] scope gpos) X.env) :: starEach [] X.env := by rfl) :
    PE X (.Call (.Name "any" p) [.GeneratorExp elt [⟨tg, iter, [], 0⟩] scope gpos] [] pos) (tQuG P true wi g te own) := by
  refine ⟨fun pins s σ H Q I h => wpAny_Call_Name_kw (ld_blt I hgA hmA (by decide +kernel : bootBuiltins "any" = some (.builtin "any")) ?_)⟩
  refine PyProof.Rows.callWith_builtin1 ?_ hst (by rfl)
  rw [hst]
  show wpAny _ _ (spliced ((false, eval (.GeneratorExp elt [⟨tg, iter, [], 0⟩] scope gpos) X.env) :: backTo pos (starEach [] X.env))) _ _ s
  refine Calls.spliced_cons (made_gen hr TB hcode S hi hg he hs I h fun a gn fp s0 H0 n t st hE => Calls.spliced_nil ?_)
  refine call_function_tree PySem.F.kind_any PySem.F.plain_any PySem.F.entry_any (PySem.F.args_any1 _) ?_
  unfold Builtin.«any»
  refine wpAny_bind (m := oneArg "any" _) (wpAny_pure ?_)
  refine wpAny_bind (wpAny_pyIter_gen st.1 ?_)
  exact wpAny_pure ⟨plainId_quiet PySem.F.plain_any_loop _, any_loopG hr.hd (by have := hr.dp; omega) hE n t st⟩
end
end Pk
end
section
set_option maxHeartbeats 1000000
/-! Readings of all, any over what walks; slices of lists with a step. -/
namespace Pk
open PySem PySem.Spec PyProof.Rows L2 GenW NdefX
/-- over anything that walks -/
theorem qu_it {J : It} {n : Nat} {G : Hp → Prop} {Y : Nat → Hp → V → Hp → Prop} (w : L2.Walk J n G Y) {g : TG} {te : TE} {own : List Str} {σ : L2.St} {sb : Bool} {Q : VK} {H0 : Hp} (Pv : Nat → Hp → Prop) (h0 : Pv 0 H0) (hG : ∀ i H, i ≤ n → Pv i H → G H)
    (hs : ∀ i x H H', i < n → Pv i H → Y i H x H' → g x (own0 own σ) H' fun σ2 H2 => L2.wipe σ2 (List.range own.length) = own0 own σ ∧ te σ2 H2 fun v H3 => ∃ b, v = .bl b ∧ (b = sb → Q (.bl sb) H3) ∧ (b ≠ sb → Pv (i + 1) H3))
    (hd : ∀ H, Pv n H → Q (.bl (!sb)) H) : ∃ W : Nat → Nat → Hp → Prop, (∃ m, W 0 m H0) ∧ TurnA J g te own σ sb Q W := by
  refine ⟨fun i m H => m = n - i ∧ i ≤ n ∧ Pv i H, ⟨n, by simp, Nat.zero_le _, h0⟩, ?_⟩
  rintro i m H ⟨rfl, hi, p⟩
  have q := hG i H hi p
  by_cases hlt : i < n
  · exact .inr ⟨w.goes i H hlt q, Pv (i + 1), fun H' p' => ⟨n - (i + 1), by omega, rfl, hlt, p'⟩, fun x H' y => hs i x H H' hlt p (w.yields i H x H' hlt q y)⟩
  · have e : i = n := by omega
    subst e
    exact .inl ⟨w.stops H q, hd H p⟩
/-- what a slice picks -/
def pickV {α : Type} (xs : List α) (lo hi st : Option Int) : List α := (sliceRange (sliceBounds lo hi st xs.length).1 (sliceBounds lo hi st xs.length).2.1 (sliceBounds lo hi st xs.length).2.2).filterMap (xs[·]?)
theorem pick_vals {xs : List V} {us : List Value} (r : Vals xs us) (is : List Nat) : Vals (is.filterMap (xs[·]?)) (is.filterMap (us[·]?)) := by
  induction is with
  | nil => exact .nil
  | cons i is ih =>
    rw [List.filterMap_cons, List.filterMap_cons]
    cases e : xs[i]? with
    | none =>
      rw [Vals.none_of r e]
      exact ih
    | some x =>
      obtain ⟨u, hu, ru⟩ := r.get e
      rw [hu]
      exact .cons ru ih
theorem pick_slice {xs : List V} {us : List Value} (r : Vals xs us) (lo hi st : Option Int) : ∃ ws : List Value, slicePick us.toArray lo hi st = ws.toArray ∧ Vals (pickV xs lo hi st) ws := by
  refine ⟨_, rfl, ?_⟩
  have l := r.length
  unfold pickV
  rw [l, ← List.size_toArray]
  have e : ((us.toArray[·]?) : Nat → Option Value) = (us[·]?) := by funext i; simp
  rw [e]
  exact pick_vals r _
section
variable {X : Cx}
def tStep (K : PySem.W.Frag) (st : Int) (te : TE) (tl th : L2.TO) : TE := fun σ H Q => te σ H fun x H1 => tl σ H1 fun lo H2 => th σ H2 fun hi H3 => ∃ a xs, x = .ref a ∧ SqL K H3 a xs ∧ (pickV xs lo hi (some st)).length ≤ sizeLine ∧ ∀ p, H3 p = none → Q (.ref p) (upd H3 p (.lst (pickV xs lo hi (some st))))
theorem pe_stepL {e : Expr} {te : TE} {tl th : L2.TO} {lo hi : Option Expr} {st : Int} {k : Nat} {p1 p2 pos : Pos} (he : PE X e te) (hl : PO X lo tl) (hh : PO X hi th) (h0 : (some st : Option Int) ≠ some 0) :
    PE X (.Subscript e (.Slice lo hi (some (.Constant (.int st) k p1)) p2) pos) (tStep X.K st te tl th) := by
  refine ⟨fun pins s σ H Q I h => ?_⟩
  refine Subscript_ (thn (he.run pins s σ H _ I h) fun v s1 ⟨x, H1, I1, r1, q1⟩ => ?_)
  have hst : PO X (some (.Constant (.int st) k p1)) (tPart (tC (.int st))) := po_some pe_int
  refine wpAny_Slice (thn (hl.run pins s1 σ H1 _ I1 q1) fun vl s2 ⟨l, H2, I2, pl, q2⟩ => ?_)
  refine thn (hh.run pins s2 σ H2 _ I2 q2) fun vu s3 ⟨u, H3, I3, pu, q3⟩ => ?_
  obtain ⟨a, xs, ex, hx, hln, q⟩ := q3
  subst ex
  cases r1
  refine thn (hst.run pins s3 σ H3 (fun o H4 => o = some st ∧ H4 = H3) I3 ⟨st, rfl, rfl, rfl⟩) fun vs s4 ⟨o, H4, I4, ps, eo, e4⟩ => ?_
  subst eo e4
  have I5 : L2.Inv X pins σ H4 { s4 with heap := s4.heap.push { cls := .type "slice", data := .fields #[vl, vu, vs] } } := I4.kept (t' := s4.toks) fun b ob q => Heap.get?_push_of_some _ q
  obtain ⟨its, r, ht, hz⟩ := I5.list hx
  have hlen := r.length
  show wpAny (model X.prog X.w) X.A (subscriptTail e (.Slice lo hi (some (.Constant (.int st) k p1)) p2) (.ref a) (.ref s4.heap.objs.size)) (EP X pins σ Q) X.xe { s4 with heap := s4.heap.push { cls := .type "slice", data := .fields #[vl, vu, vs] } }
  refine tail_any (ops := [.ref a, .ref s4.heap.objs.size]) ht.isList.typeIs (PySem.slot_list_getitem.lookup) ?_ (by with_unfolding_all rfl)
  refine wpAny_getItem_list_slice ht.isList (Heap.IsSliceOf.new _ vl vu vs) pl pu ps h0 ?_ (by rw [List.size_toArray]; omega)
  obtain ⟨ws, ew, rw'⟩ := pick_slice r l u (some st)
  rw [ew]
  refine ⟨.ref _, _, I5.laid (t' := s4.toks) (o := .lst (pickV xs l u (some st))) (fun b ob q => Heap.get?_push_of_some _ q) (Nat.le_refl _) ?_, rfl, q _ (I5.hok.fresh (Nat.le_refl _))⟩
  exact ⟨hln, ws, 0, rw', Heap.get?_push_size _ rfl⟩
end
/-- every second one -/
def evens {α : Type} : List α → List α
  | [] => []
  | [x] => [x]
  | x :: _ :: r => x :: evens r
def odds2 {α : Type} : List α → List α
  | [] => []
  | [_] => []
  | _ :: y :: r => y :: odds2 r
theorem evens_len {α : Type} : ∀ xs : List α, (evens xs).length = (xs.length + 1) / 2
  | [] => by simp [evens]
  | [x] => by simp [evens]
  | x :: y :: r => by
    rw [evens, List.length_cons, evens_len r, List.length_cons, List.length_cons]
    omega
theorem odds_len {α : Type} : ∀ xs : List α, (odds2 xs).length = xs.length / 2
  | [] => by simp [odds2]
  | [x] => by simp [odds2]
  | x :: y :: r => by
    rw [odds2, List.length_cons, odds_len r, List.length_cons, List.length_cons]
    omega
theorem evens_get {α : Type} : ∀ (xs : List α) (i : Nat), (evens xs)[i]? = xs[2 * i]?
  | [], i => by simp [evens]
  | [x], 0 => rfl
  | [x], i + 1 => by simp [evens]
  | x :: y :: r, 0 => rfl
  | x :: y :: r, i + 1 => by
    rw [evens, List.getElem?_cons_succ, evens_get r i, show 2 * (i + 1) = 2 * i + 1 + 1 by omega, List.getElem?_cons_succ, List.getElem?_cons_succ]
theorem odds_get {α : Type} : ∀ (xs : List α) (i : Nat), (odds2 xs)[i]? = xs[2 * i + 1]?
  | [], i => by simp [odds2]
  | [x], i => by simp [odds2]
  | x :: y :: r, 0 => rfl
  | x :: y :: r, i + 1 => by
    rw [odds2, List.getElem?_cons_succ, odds_get r i, show 2 * (i + 1) + 1 = 2 * i + 1 + 1 + 1 by omega, List.getElem?_cons_succ, List.getElem?_cons_succ]
theorem pick_get {α : Type} {xs : List α} {f : Nat → Nat} : ∀ {n : Nat}, (∀ i, i < n → f i < xs.length) → ((List.range n).map f).filterMap (xs[·]?) = (List.range n).filterMap fun i => xs[f i]? := fun {n} _ => by
  rw [List.filterMap_map]
  rfl
theorem fm_all {α : Type} : ∀ (n : Nat) (ys : List α), ys.length = n → (List.range n).filterMap (fun i => ys[i]?) = ys := by
  intro n
  induction n with
  | zero => intro ys h; rw [List.eq_nil_of_length_eq_zero h]; rfl
  | succ n ih =>
    intro ys h
    rw [List.range_succ, List.filterMap_append]
    have e1 : (List.range n).filterMap (fun i => ys[i]?) = (List.range n).filterMap fun i => (ys.take n)[i]? := filterMap_same fun i hi => by
      rw [List.getElem?_take_of_lt (List.mem_range.mp hi)]
    have hn : n < ys.length := by omega
    rw [e1, ih (ys.take n) (by rw [List.length_take]; omega), List.filterMap_cons, List.getElem?_eq_getElem hn, List.filterMap_nil]
    have q := List.take_append_getElem (l := ys) (i := n) hn
    show ys.take n ++ [ys[n]] = ys
    rw [q]
    exact List.take_of_length_le (by omega)
theorem fm_range {α : Type} {g : Nat → Option α} {ys : List α} {n : Nat} (hl : ys.length = n) (h : ∀ i, i < n → g i = ys[i]?) : (List.range n).filterMap g = ys := by
  rw [filterMap_same fun i hi => h i (List.mem_range.mp hi)]
  exact fm_all n ys hl
theorem pick_evens {α : Type} (xs : List α) : pickV xs none none (some 2) = evens xs := by
  unfold pickV
  have b : sliceBounds none none (some 2) xs.length = (0, (xs.length : Int), 2) := by simp [sliceBounds]
  rw [b]
  show (sliceRange 0 (xs.length : Int) 2).filterMap (xs[·]?) = _
  unfold sliceRange
  have c : (if (2 : Int) > 0 then (if (0 : Int) < (xs.length : Int) then ((xs.length : Int) - 0 + 2 - 1) / 2 else 0) else (if (0 : Int) > (xs.length : Int) then (0 - (xs.length : Int) - 2 - 1) / (-2) else 0)).toNat = (xs.length + 1) / 2 := by
    rw [if_pos (by decide)]
    split <;> omega
  simp only [c]
  rw [List.filterMap_map]
  refine fm_range (evens_len xs) fun i _ => ?_
  rw [evens_get]
  show xs[(0 + 2 * (i : Int)).toNat]? = _
  congr 1
  omega
theorem pick_odds {α : Type} (xs : List α) : pickV xs (some 1) none (some 2) = odds2 xs := by
  unfold pickV
  have b : sliceBounds (some 1) none (some 2) xs.length = (max 0 (min 1 (xs.length : Int)), (xs.length : Int), 2) := by simp [sliceBounds]
  rw [b]
  show (sliceRange (max 0 (min 1 (xs.length : Int))) (xs.length : Int) 2).filterMap (xs[·]?) = _
  by_cases h0 : xs.length = 0
  · have e : xs = [] := List.eq_nil_of_length_eq_zero h0
    subst e
    rfl
  have m : max 0 (min 1 (xs.length : Int)) = 1 := by omega
  rw [m]
  unfold sliceRange
  have c : (if (2 : Int) > 0 then (if (1 : Int) < (xs.length : Int) then ((xs.length : Int) - 1 + 2 - 1) / 2 else 0) else (if (1 : Int) > (xs.length : Int) then (1 - (xs.length : Int) - 2 - 1) / (-2) else 0)).toNat = xs.length / 2 := by
    rw [if_pos (by decide)]
    split <;> omega
  simp only [c]
  rw [List.filterMap_map]
  refine fm_range (odds_len xs) fun i _ => ?_
  rw [odds_get]
  show xs[(1 + 2 * (i : Int)).toNat]? = _
  congr 1
  omega
end Pk
end
section
set_option maxHeartbeats 2000000
/-! list(zip(a, b)) of two lists. -/
namespace Pk
open PySem PySem.Spec PyProof.Rows L2
theorem zip_no_len : typeLookup (.type "zip") "__len__" = pure none := am_miss_of_fast (by decide +kernel)
theorem zip_no_hint : typeLookup (.type "zip") "__length_hint__" = pure none := am_miss_of_fast (by decide +kernel)
section
variable {prog : Program} {w : World} {A : Around} {E : Value → Shared → Prop} {z TI TO i1 i2 S : Addr} {fp1 fp2 : List Addr} {n1 n2 : Nat} {P1 P2 : Nat → Value → Prop} {St1 St2 : Nat → Heap → Prop}
/-- a zip that is drawn from, the tuples kept -/
def ZSt (z TI TO i1 i2 S : Addr) (St1 St2 : Nat → Heap → Prop) (i : Nat) (g : Heap) : Prop := IsPair g TI (.ref i1) (.ref i2) ∧ St1 i g ∧ St2 i g ∧ ((IsZip g z TI TO .none ∧ ∃ a b, IsPair g TO a b) ∨ ∃ T f oT, IsZipHeld g z TI TO T f ∧ g.get? T = some oT ∧ T ≠ z ∧ T ≠ i1 ∧ T ≠ i2 ∧ T ≠ S)
theorem zst_frame (D1 : Draws prog w A i1 fp1 n1 P1 St1) (D2 : Draws prog w A i2 fp2 n2 P2 St2) (hS : S ∉ z :: TI :: TO :: (fp1 ++ fp2)) {i : Nat} {g g' : Heap} (st : ZSt z TI TO i1 i2 S St1 St2 i g) (hk : ∀ b o, b ≠ S → g.get? b = some o → g'.get? b = some o) : ZSt z TI TO i1 i2 S St1 St2 i g' := by
  have dz : z ≠ S := fun e => hS (by rw [← e]; exact List.mem_cons_self)
  have dI : TI ≠ S := fun e => hS (by rw [← e]; exact List.mem_cons_of_mem _ List.mem_cons_self)
  have dO : TO ≠ S := fun e => hS (by rw [← e]; exact List.mem_cons_of_mem _ (List.mem_cons_of_mem _ List.mem_cons_self))
  have d1 : ∀ b ∈ fp1, b ≠ S := fun b hb e => hS (List.mem_cons_of_mem _ (List.mem_cons_of_mem _ (List.mem_cons_of_mem _ (List.mem_append_left _ (e ▸ hb)))))
  have d2 : ∀ b ∈ fp2, b ≠ S := fun b hb e => hS (List.mem_cons_of_mem _ (List.mem_cons_of_mem _ (List.mem_cons_of_mem _ (List.mem_append_right _ (e ▸ hb)))))
  obtain ⟨hI, s1, s2, hz⟩ := st
  refine ⟨hk _ _ dI hI, D1.frame _ _ _ s1 fun b hb o e => hk b o (d1 b hb) e, D2.frame _ _ _ s2 fun b hb o e => hk b o (d2 b hb) e, ?_⟩
  rcases hz with ⟨hz, a, b, hO⟩ | ⟨T, f, oT, hz, hT, r1, r2, r3, r4⟩
  · exact .inl ⟨hk _ _ dz hz, a, b, hk _ _ dO hO⟩
  · exact .inr ⟨T, f, oT, hk _ _ dz hz, hk _ _ r4 hT, r1, r2, r3, r4⟩
theorem zst_item (sep : ZipSep2 z TI TO i1 i2 fp1 fp2) (D1 : Draws prog w A.in1 i1 fp1 n1 P1 St1) (D2 : Draws prog w A.in1 i2 fp2 n2 P2 St2) {i : Nat} {u : Shared} {Q : Option Value → Shared → Prop} (st : ZSt z TI TO i1 i2 S St1 St2 i u.heap) (h1 : i < n1) (h2 : i < n2) (hS : S < u.heap.objs.size)
    (k : ∀ x1 x2 g tk, P1 i x1 → P2 i x2 → IsPair g u.heap.objs.size x1 x2 → ZSt z TI TO i1 i2 S St1 St2 (i + 1) g → (∀ c o, c ∉ [z, TO, i1, i2] → u.heap.get? c = some o → g.get? c = some o) → Q (some (.ref u.heap.objs.size)) { u with heap := g, toks := tk }) :
    wpAny (model prog w) A (pyNext (.ref z)) Q E u := by
  obtain ⟨hI, s1, s2, hz⟩ := st
  have lt : ∀ {c : Addr} {o : Obj}, u.heap.get? c = some o → u.heap.objs.size ≠ c := fun e => Nat.ne_of_gt (Heap.lt_size e)
  have ne1 : u.heap.objs.size ≠ i1 := let ⟨_, e⟩ := D1.live _ _ s1; lt e
  have ne2 : u.heap.objs.size ≠ i2 := let ⟨_, e⟩ := D2.live _ _ s2; lt e
  have mem : ∀ {c : Addr}, c ∉ [z, TO, i1, i2] → c ≠ z ∧ c ≠ TO ∧ c ≠ i1 ∧ c ≠ i2 := fun {c} hc => by
    simp only [List.mem_cons, List.not_mem_nil, or_false, not_or] at hc
    exact hc
  rcases hz with ⟨hz, a, b, hO⟩ | ⟨T, f, oT, hz, hT, r1, r2, r3, r4⟩
  · refine wpAny_pyNext_zipD2_item sep D1 D2 hz hI hO s1 s2 h1 h2 fun x1 x2 g tk p1 p2 a1 a2 a3 a4 a5 a6 hk => ?_
    exact k x1 x2 g tk p1 p2 a5 ⟨hk _ _ sep.TIz sep.TITO sep.TIi1 sep.TIi2 hI, a3, a4, .inr ⟨_, false, _, a1, a5, lt hz, ne1, ne2, Nat.ne_of_gt hS⟩⟩
      fun c o hc e => let ⟨m1, m2, m3, m4⟩ := mem hc; hk c o m1 m2 m3 m4 e
  · have hTy : u.TypeIs (.ref z) "zip" := ⟨_, hz, rfl⟩
    unfold pyNext
    refine wpAny_bind (wpAny_attempt (wpAny_callSpecial?_slot (name := Str.ofString "__next__") hTy F.slot_zip_next (wpAny_call_entry F.slot_zip_next hTy F.entry_zip_next (heldItem sep D1 D2 hz hT hI s1 s2 h1 h2 fun x1 x2 g tk p1 p2 a1 a3 a4 a5 hk => wpAny_pure ?_) (F.args_zip_next_1 _))))
    exact k x1 x2 g tk p1 p2 a5 ⟨hk _ _ sep.TIz sep.TIi1 sep.TIi2 hI, a3, a4, .inr ⟨T, true, oT, a1, hk _ _ r1 r2 r3 hT, r1, r2, r3, r4⟩⟩
      fun c o hc e => let ⟨m1, m2, m3, m4⟩ := mem hc; hk c o m1 m3 m4 e
theorem zst_done (sep : ZipSep2 z TI TO i1 i2 fp1 fp2) (D1 : Draws prog w A.in1 i1 fp1 n1 P1 St1) (D2 : Draws prog w A.in1 i2 fp2 n2 P2 St2) {i : Nat} {u : Shared} {Q : Option Value → Shared → Prop} (st : ZSt z TI TO i1 i2 S St1 St2 i u.heap) (h1 : i ≤ n1) (h2 : i ≤ n2) (he : i = n1 ∨ i = n2)
    (k : ∀ g tk, (∀ c o, c ∉ [z, TO, i1, i2] → u.heap.get? c = some o → g.get? c = some o) → Q none { u with heap := g, toks := tk }) : wpAny (model prog w) A (pyNext (.ref z)) Q E u := by
  obtain ⟨hI, s1, s2, hz⟩ := st
  have mem : ∀ {c : Addr}, c ∉ [z, TO, i1, i2] → c ≠ z ∧ c ≠ TO ∧ c ≠ i1 ∧ c ≠ i2 := fun {c} hc => by
    simp only [List.mem_cons, List.not_mem_nil, or_false, not_or] at hc
    exact hc
  rcases hz with ⟨hz, a, b, hO⟩ | ⟨T, f, oT, hz, hT, r1, r2, r3, r4⟩
  · exact wpAny_pyNext_zipD2_end sep D1 D2 hz hI hO s1 s2 h1 h2 he fun g tk hk => k g tk fun c o hc e => let ⟨m1, m2, m3, m4⟩ := mem hc; hk c o m1 m2 m3 m4 e
  · have hTy : u.TypeIs (.ref z) "zip" := ⟨_, hz, rfl⟩
    unfold pyNext
    refine wpAny_bind (wpAny_attempt (wpAny_callSpecial?_slot (name := Str.ofString "__next__") hTy F.slot_zip_next (wpAny_call_entry F.slot_zip_next hTy F.entry_zip_next (heldEnd sep D1 D2 hz hT hI s1 s2 h1 h2 he fun g tk e hk ho => ?_) (F.args_zip_next_1 _))))
    obtain ⟨o, ho, hc⟩ := ho
    refine wpAny_bind (wpAny_isInstance (T := "StopIteration") (b := true) ⟨o, ho, hc⟩ isSubtype_stop ?_)
    exact wpAny_pure (k g tk fun c o hc e => let ⟨m1, m2, m3, m4⟩ := mem hc; hk c o m1 m3 m4 e)
/-- what has been drawn: the list at S, its tuples, each new -/
def Got (lo : Nat) (P1 P2 : Nat → Value → Prop) (S : Addr) (i : Nat) (g : Heap) : Prop := ∃ (Ts : List Addr) (c : Nat), Ts.length = i ∧ g.get? S = some (lstObj (Ts.map Value.ref).toArray c) ∧ Ts.Nodup ∧ (∀ T ∈ Ts, lo ≤ T ∧ T ≠ S) ∧ ∀ j T, Ts[j]? = some T → ∃ x y, P1 j x ∧ P2 j y ∧ IsPair g T x y
theorem zip_loop {lo : Nat} {R : Result → Shared → Prop} {res : Value} (hA : A.handled = none) (sep : ZipSep2 z TI TO i1 i2 fp1 fp2) (D1 : ∀ B : Around, B.handled = none → Draws prog w B i1 fp1 n1 P1 St1) (D2 : ∀ B : Around, B.handled = none → Draws prog w B i2 fp2 n2 P2 St2) (hS : S ∉ z :: TI :: TO :: (fp1 ++ fp2)) (hSw : S ∉ [z, TO, i1, i2]) (hn : min n1 n2 ≤ sizeLine)
    (hw : ∀ b ∈ [z, TO, i1, i2], b < lo) {s0 : Shared} (hlo : ∀ g : Heap, g.get? S ≠ none → lo ≤ g.objs.size → True)
    (hR : ∀ g tk, (∀ c o, c ∉ S :: [z, TO, i1, i2] → s0.heap.get? c = some o → g.get? c = some o) → Got lo P1 P2 S (min n1 n2) g → R (.ok (.ret res)) { s0 with heap := g, toks := tk }) :
    ∀ (k i : Nat) (g : Heap) (tk : Nat), min n1 n2 - i = k → i ≤ min n1 n2 → ZSt z TI TO i1 i2 S St1 St2 i g → Got lo P1 P2 S i g → lo ≤ g.objs.size → (∀ c o, c ∉ S :: [z, TO, i1, i2] → s0.heap.get? c = some o → g.get? c = some o) →
      codeAny (model prog w) A (.builtin "list.extend.loop" ⟨[.ref S, .ref z, res], []⟩) R { s0 with heap := g, toks := tk } := by
  intro k
  induction k with
  | zero =>
    intro i g tk hk hi st got hl kp
    have e : i = min n1 n2 := by omega
    subst e
    refine codeAny_builtin PySem.F.entry_extend_loop ?_
    rw [Around.under_plainId PySem.F.plain_extend_loop _]
    show wpAny _ A.in1 (pyNext (.ref z) >>= _) _ _ _
    refine wpAny_bind (zst_done (A := A.in1) sep (D1 _ hA) (D2 _ hA) st (by omega) (by omega) (by omega) fun g' tk' hk' => wpAny_pure (hR g' tk' (fun c o hc e => hk' c o (fun z => hc (List.mem_cons_of_mem _ z)) (kp c o hc e)) ?_))
    obtain ⟨Ts, c, h1, h2, h3, h4, h5⟩ := got
    refine ⟨Ts, c, h1, hk' S _ hSw h2, h3, h4, fun j T hj => ?_⟩
    obtain ⟨x, y, p1, p2, ip⟩ := h5 j T hj
    exact ⟨x, y, p1, p2, hk' T _ (fun z => absurd (hw T z) (Nat.not_lt.mpr (h4 T (List.mem_of_getElem? hj)).1)) ip⟩
  | succ k ih =>
    intro i g tk hk hi st got hl kp
    have hlt : i < min n1 n2 := by omega
    obtain ⟨Ts, c, h1, h2, h3, h4, h5⟩ := got
    have hSs : S < g.objs.size := Heap.lt_size h2
    refine codeAny_builtin PySem.F.entry_extend_loop ?_
    rw [Around.under_plainId PySem.F.plain_extend_loop _]
    show wpAny _ A.in1 (pyNext (.ref z) >>= _) _ _ _
    refine wpAny_bind (zst_item (A := A.in1) sep (D1 _ hA) (D2 _ hA) st (by omega) (by omega) hSs fun x1 x2 g' tk' p1 p2 ip st' hk' => ?_)
    have hS' := hk' S _ hSw h2
    show wpAny _ A.in1 (updateSeq S (·.push (.ref g.objs.size)) >>= _) _ _ _
    refine wpAny_bind ?_
    have oth : ∀ b o, b ≠ S → g'.get? b = some o → (g'.update S (Obj.mapSeq (·.push (.ref g.objs.size)))).get? b = some o := fun b o hb e => (Heap.get?_update_other _ _ (Ne.symm hb)).trans e
    have gS : g.objs.size ≠ S := Nat.ne_of_gt hSs
    have hz1 : (Ts.map Value.ref).toArray.size ≤ sizeLine := by rw [List.size_toArray, List.length_map]; omega
    obtain ⟨c2, hq⟩ : ∃ c2, (g'.update S (Obj.mapSeq (·.push (Value.ref g.objs.size)))).get? S = some (lstObj ((Ts.map Value.ref).toArray.push (.ref g.objs.size)) c2) := ⟨_, Heap.get?_update_self _ hS' rfl⟩
    refine wpAny_updateSeq hS' rfl (wpAny_pure ⟨plainId_quiet PySem.F.plain_extend_loop _, ih (i + 1) _ _ (by omega) hlt (zst_frame (D1 _ hA) (D2 _ hA) hS st' oth) ⟨Ts ++ [g.objs.size], c2, by simp [h1], ?_, ?_, fun T hT => ?_, fun j T hj => ?_⟩ ?_ fun c o hc e => ?_⟩)
      hz1 (by show ((Ts.map Value.ref).toArray.push _).size ≤ sizeLine + 1; rw [Array.size_push]; omega)
    · rw [hq]
      simp
    · rw [List.nodup_append]
      refine ⟨h3, by simp, fun a ha b hb e => ?_⟩
      rw [List.mem_singleton.mp hb] at e
      obtain ⟨j, hj⟩ := List.getElem?_of_mem ha
      obtain ⟨x, y, _, _, ip'⟩ := h5 j a hj
      have q := Heap.lt_size ip'
      rw [e] at q
      exact Nat.lt_irrefl _ q
    · rcases List.mem_append.mp hT with hT | hT
      · exact h4 T hT
      · rw [List.mem_singleton.mp hT]
        exact ⟨hl, gS⟩
    · by_cases hji : j < Ts.length
      · rw [List.getElem?_append_left hji] at hj
        obtain ⟨x, y, q1, q2, ip'⟩ := h5 j T hj
        have hT := h4 T (List.mem_of_getElem? hj)
        exact ⟨x, y, q1, q2, oth T _ hT.2 (hk' T _ (fun z => absurd (hw T z) (Nat.not_lt.mpr hT.1)) ip')⟩
      · rw [List.getElem?_append_right (by omega)] at hj
        have e : j = Ts.length := by
          by_cases c : j - Ts.length = 0
          · omega
          · obtain ⟨m, hm⟩ : ∃ m, j - Ts.length = m + 1 := ⟨j - Ts.length - 1, by omega⟩
            rw [hm] at hj
            simp at hj
        subst e
        rw [Nat.sub_self] at hj
        cases hj
        exact ⟨x1, x2, by rw [h1]; exact p1, by rw [h1]; exact p2, oth _ _ gS ip⟩
    · have hx : g.objs.size < g'.objs.size := Heap.lt_size ip
      have hy : (g'.update S (Obj.mapSeq (·.push (Value.ref g.objs.size)))).objs.size = g'.objs.size := by simp [Heap.update]
      rw [hy]
      exact Nat.le_trans hl (Nat.le_of_lt hx)
    · exact oth c o (fun z => hc (by rw [z]; exact List.mem_cons_self)) (hk' c o (fun z => hc (List.mem_cons_of_mem _ z)) (kp c o hc e))
end
/-- new tuples, one after another -/
def updT (H : Hp) : List (Addr × List V) → Hp
  | [] => H
  | (a, xs) :: r => upd (updT H r) a (.tup xs)
theorem updT_none {H : Hp} {b : Addr} : ∀ {l : List (Addr × List V)}, b ∉ l.map (·.1) → updT H l b = H b
  | [], _ => rfl
  | (a, xs) :: r, h => by
    rw [List.map_cons, List.mem_cons, not_or] at h
    show upd (updT H r) a _ b = _
    rw [upd_ne h.1, updT_none h.2]
theorem updT_at {H : Hp} : ∀ {l : List (Addr × List V)} {a : Addr} {xs : List V}, (l.map (·.1)).Nodup → (a, xs) ∈ l → updT H l a = some (.tup xs)
  | (b, ys) :: r, a, xs, nd, h => by
    rw [List.map_cons, List.nodup_cons] at nd
    show upd (updT H r) b _ a = _
    rcases List.mem_cons.mp h with e | h
    · cases e
      exact upd_same
    · have ne : a ≠ b := fun e => nd.1 (by rw [← e]; exact List.mem_map.mpr ⟨(a, xs), h, rfl⟩)
      rw [upd_ne ne]
      exact updT_at nd.2 h
section
variable {X : Cx} {pins : List (Addr × Obj)} {σ : L2.St} {H : Hp} {s : Shared}
theorem inv_tups (I : L2.Inv X pins σ H s) {h' : Heap} {tk : Nat} (kp : ∀ b o, s.heap.get? b = some o → h'.get? b = some o) : ∀ {l : List (Addr × List V)}, (l.map (·.1)).Nodup → (∀ p ∈ l, s.heap.objs.size ≤ p.1 ∧ p.2.length ≤ sizeLine ∧ ∃ us, Vals p.2 us ∧ IsTup h' p.1 us.toArray) →
    L2.Inv X pins σ (updT H l) { s with heap := h', toks := tk }
  | [], _, _ => I.kept (t' := tk) kp
  | (a, xs) :: r, nd, h => by
    rw [List.map_cons, List.nodup_cons] at nd
    have J := inv_tups I (tk := tk) kp nd.2 fun p hp => h p (List.mem_cons_of_mem _ hp)
    obtain ⟨h1, h2, us, rv, ht⟩ := h (a, xs) List.mem_cons_self
    have na : updT H r a = none := by
      rw [updT_none nd.1]
      exact I.hok.fresh h1
    have f := I.fpOk h1 (I.hok.fresh h1)
    have K := J.call' (s' := { s with heap := h', toks := tk }) (H' := upd (updT H r) a (.tup xs)) (ch := [a]) rfl ⟨fun b o q _ _ _ => q, fun b o q _ _ _ => ⟨o.slots, q⟩, fun b o q n hx => ?_, fun b o q _ => ⟨o, q⟩, fun b ys q => ?_, fun b o u q => ?_, fun b ps q => ?_⟩ (fun b u q => ?_) J.bare fun b hb => ?_
    · exact K
    · rw [upd_ne (fun z => hx (by rw [z]; exact List.mem_singleton.mpr rfl))]
      exact n
    · rw [upd_ne (ne_of_none q na)]
      exact q
    · rw [upd_ne (ne_of_none q na)]
      exact q
    · exact ⟨#[], by rw [upd_ne (ne_of_none q na), q]; simp⟩
    · by_cases e : b = a
      · subst e
        rw [upd_same] at q
        cases q
        exact ⟨h2, us, rv, ht⟩
      · rw [upd_ne e] at q
        exact (J.hok b u q).stay (fun _ _ _ z => z) (fun d z => by rw [upd_ne (ne_of_none z na)]; exact z) fun d xs z => by rw [upd_ne (ne_of_none z na)]; exact z
    · rw [List.mem_singleton.mp hb]
      exact ⟨f.2.2.2.1, f.2.1, f.2.2.2.2.1, f.2.2.2.2.2⟩
def tListZ (K : PySem.W.Frag) (ta : TA) : TE := fun σ H Q => ta σ H fun vs H1 => ∃ (a b : Addr) (xs ys : List V), vs = [.ref a, .ref b] ∧ SqL K H1 a xs ∧ SqL K H1 b ys ∧
  ∀ (p : Addr) (Ts : List Addr) (H' : Hp), Same H1 H' → H1 p = none → H' p = some (.lst (Ts.map V.ref)) → Ts.length = min xs.length ys.length → (∀ T ∈ Ts, H1 T = none ∧ T ≠ p) → (∀ (j : Nat) (T : Addr), Ts[j]? = some T → ∃ x y, xs[j]? = some x ∧ ys[j]? = some y ∧ H' T = some (.tup [x, y])) → Q (.ref p) H'
theorem vals_at : ∀ {xs : List V} {us : List Value} {i : Nat} {u : Value}, Vals xs us → us[i]? = some u → ∃ x, xs[i]? = some x ∧ RelV x u
  | _, _, _, _, .nil, h => by simp at h
  | _, _, 0, _, .cons r _, h => by
    simp only [List.getElem?_cons_zero, Option.some.injEq] at h
    subst h
    exact ⟨_, rfl, r⟩
  | _, _, i + 1, _, .cons _ t, h => by
    simp only [List.getElem?_cons_succ] at h ⊢
    exact vals_at t h
theorem pe_listZ {e1 e2 : Expr} {ta : TA} {p pz pos ipos : Pos} (hc : X.calm = true) (hgd : Gl X "list") (hmd : X.mg "list" = none) (hgz : Gl X "zip") (hmz : X.mg "zip" = none) (ha : PA X [e1, e2] ta)
    (hst : starEach [e1, e2] X.env = (false, eval e1 X.env) :: starEach [e2] X.env := by rfl) (hpl : (backTo ipos (starEach [e2] X.env)).any (·.1) = false := by rfl)
    (hs2 : starEach [.Call (.Name "zip" pz) [e1, e2] [] ipos] X.env = (false, eval (.Call (.Name "zip" pz) [e1, e2] [] ipos) X.env) :: starEach [] X.env := by rfl) :
    PE X (.Call (.Name "list" p) [.Call (.Name "zip" pz) [e1, e2] [] ipos] [] pos) (tListZ X.K ta) := by
  refine ⟨fun pins s σ H Q I h => wpAny_Call_Name_kw (ld_blt (u := .type "list") I hgd hmd (by decide +kernel) ?_)⟩
  refine PyProof.Rows.callWith_type1 ?_ hs2 (by rfl)
  rw [hs2]
  show wpAny _ _ (spliced ((false, eval (.Call (.Name "zip" pz) [e1, e2] [] ipos) X.env) :: backTo pos (starEach [] X.env))) _ _ s
  refine Calls.spliced_cons (Call_ (ld_blt I hgz hmz PyProof.Rows.boot_zip (PyProof.Rows.callWith_type1 (thn (ha.run ipos pins s σ H _ I h) fun us s1 ⟨vs, H1, I1, r1, q1⟩ => ?_) hst hpl)))
  obtain ⟨a, b, xs, ys, rfl, hA, hB, q⟩ := q1
  obtain ⟨u1, u2, rfl, ra, rb⟩ := vals2 r1
  cases ra
  cases rb
  obtain ⟨its, rv, p1, z1⟩ := I1.list hA
  obtain ⟨its2, rv2, p2, z2⟩ := I1.list hB
  have pl1 := p1.isList
  have pl2 := p2.isList
  have a9 : a < s1.heap.objs.size := p1.lt
  have b9 : b < s1.heap.objs.size := p2.lt
  refine call_zip_2 pl1 pl2 fun hz y1 y2 y3 y4 y5 hsz zk => ?_
  refine Calls.spliced_nil ?_
  have D := PySem.W.ktu_apart s1.heap.objs.size a b a9 b9
  have hA0 : X.A.handled = none := I1.ok.hd hc
  generalize hn : s1.heap.objs.size = n at a9 b9 y1 y2 y3 y4 y5 hsz D
  have sep : ZipSep2 (n + 4) (n + 2) (n + 3) n (n + 1) [n, a] [n + 1, b] := by
    refine ⟨D.TIz, D.TOz, D.TITO, D.TIi1, List.mem_cons_self, fun q => ?_, fun q => ?_, D.TIi2, List.mem_cons_self, fun q => ?_, fun q => ?_, fun q => ?_, fun q => ?_⟩ <;> simp only [List.mem_cons, List.not_mem_nil, or_false] at q <;> rcases q with e | e
    · exact D.i1z e.symm
    · exact D.l1z e.symm
    · exact D.TOi1 e
    · exact D.l1TO e.symm
    · exact D.i2z e.symm
    · exact D.l2z e.symm
    · exact D.TOi2 e
    · exact D.l2TO e.symm
    · exact D.i12 e
    · exact D.l2i1 e.symm
    · exact D.i12 e.symm
    · exact D.l1i2 e.symm
  have hS9 : ∀ c, c < n → c < hz.objs.size := fun c h => by have := Heap.lt_size y1; omega
  -- the new list
  refine callType_codes (Q₁ := fun obj s2 => obj = .ref hz.objs.size ∧ s2 = { s1 with heap := hz.push { cls := .type "list", data := .seq #[] } }) PySem.F.called_list (PySem.F.typeCall_list_1 _) PySem.F.entry_list_init
    (code_list_new _ ⟨rfl, rfl⟩) fun obj s2 h2 => ?_
  obtain ⟨rfl, rfl⟩ := h2
  have hS : (hz.push { cls := .type "list", data := .seq #[] }).get? hz.objs.size = some { cls := .type "list", data := .seq #[] } := Heap.get?_push_size _ rfl
  refine ⟨⟨_, hS, rfl⟩, PySem.F.args_list_init_2 _ _, ?_⟩
  have zS : n + 4 < hz.objs.size := Heap.lt_size y1
  generalize hSn : hz.objs.size = S at hS zS
  show wpAny _ X.A.in1.in1 (do let old ← Builtin.List.listItems (.ref S); Builtin.List.listUpdate (.ref S) (fun _ => #[]); letGo old.toList.reverse; Builtin.List.listExtendWith (.ref S) (.ref (n + 4)) .none) _ _ _
  refine wpAny_bind ?_
  unfold Builtin.List.listItems
  refine wpAny_bind (wpAny_seqItems hS rfl (wpAny_pure ?_))
  show wpAny _ X.A.in1.in1 (updateSeq S (fun _ => #[]) >>= fun _ => letGo (#[] : Array Value).toList.reverse >>= fun _ => Builtin.List.listExtendWith (.ref S) (.ref (n + 4)) .none) _ _ _
  refine wpAny_bind (wpAny_updateSeq hS rfl ?_)
  have hS2 := Heap.get?_update_self (Obj.mapSeq (fun _ => (#[] : Array Value))) hS rfl
  refine wpAny_bind (wpAny_letGo ?_)
  unfold Builtin.List.listExtendWith
  have up : ∀ (h : Heap) (f : Obj → Obj), (∀ b o, hz.get? b = some o → h.get? b = some o) → ∀ b o, hz.get? b = some o → (h.update S f).get? b = some o := fun h f q b o e =>
    (Heap.get?_update_other _ _ (Ne.symm (Nat.ne_of_lt (by rw [← hSn]; exact Heap.lt_size e)))).trans (q b o e)
  have k1 : ∀ b o, hz.get? b = some o → (hz.push { cls := .type "list", data := .seq #[] }).get? b = some o := fun b o e => Heap.get?_push_of_some _ e
  have k2 := up _ (Obj.mapSeq (fun _ => (#[] : Array Value))) k1
  have zty : ∀ {s' : Shared}, (∀ b o, hz.get? b = some o → s'.heap.get? b = some o) → s'.TypeIs (.ref (n + 4)) "zip" := fun {s'} q => ⟨_, q _ _ y1, rfl⟩
  refine wpAny_bind (wpAny_typeOf (zty (s' := { s1 with heap := _ }) k2) ?_)
  have h1 : Builtin.List.listSameRef (.ref S) (.ref (n + 4)) = false := by simp [Builtin.List.listSameRef, Nat.ne_of_gt zS]
  have h2 : (Value.type "zip" == Value.type "list") = false := by decide
  have h3 : (Value.type "zip" == Value.type "tuple") = false := by decide
  simp only [h1, h2, h3, Bool.or_false, Bool.false_eq_true, if_false]
  refine wpAny_bind (wpAny_pyIter_zip (k2 _ _ y1) ?_)
  refine wpAny_bind (wpAny_holding ?_)
  unfold Builtin.List.listLengthHint
  refine wpAny_bind (wpAny_specialOf (zty (s' := { s1 with heap := _ }) k2) zip_no_len ?_)
  show wpAny _ X.A.in1.in1 (specialOf (Value.ref (n + 4)) (Str.ofString "__length_hint__") >>= _) _ _ _
  refine wpAny_bind (wpAny_specialOf (zty (s' := { s1 with heap := _ }) k2) zip_no_hint ?_)
  refine wpAny_pure ?_
  show wpAny _ X.A.in1.in1 (rule "list.extend.makes-room" >>= fun _ => Builtin.List.listTouch (.ref S) >>= fun _ =>
    again (.builtin "list.extend.loop" ⟨[.ref S, .ref (n + 4), .none], []⟩)) _ _ _
  refine wpAny_bind (wpAny_rule ?_)
  refine wpAny_bind ?_
  show wpAny _ X.A.in1.in1 (updateSeq S (·.push .none) >>= fun _ => updateSeq S (·.pop)) _ _ _
  refine wpAny_bind (wpAny_updateSeq hS2 rfl ?_)
  have hS3 := Heap.get?_update_self (Obj.mapSeq (·.push Value.none)) hS2 rfl
  refine wpAny_updateSeq (hz := by seq_fits) hS3 rfl ?_
  have hS4 := Heap.get?_update_self (Obj.mapSeq (·.pop)) hS3 rfl
  have k4 := up _ (Obj.mapSeq (·.pop)) (up _ (Obj.mapSeq (·.push Value.none)) k2)
  refine wpAny_pure ⟨plainId_quiet PySem.F.plain_extend_loop _, ?_⟩
  have a10 : (a : Nat) < S := Nat.lt_of_lt_of_le a9 (by omega)
  have b10 : (b : Nat) < S := Nat.lt_of_lt_of_le b9 (by omega)
  have hmem : ∀ c ∈ (n + 4) :: (n + 2) :: (n + 3) :: ([n, a] ++ [n + 1, b]), c < S := fun c hm => by
    simp only [List.cons_append, List.nil_append, List.mem_cons, List.not_mem_nil, or_false] at hm
    rcases hm with e | e | e | e | e | e | e
    · omega
    · omega
    · omega
    · omega
    · rw [e]; exact a10
    · omega
    · rw [e]; exact b10
  have hwm : ∀ c ∈ [n + 4, n + 3, n, n + 1], n ≤ c ∧ c < S := fun c hm => by
    simp only [List.mem_cons, List.not_mem_nil, or_false] at hm
    rcases hm with e | e | e | e <;> omega
  have l1 := rv.length
  have l2 := rv2.length
  refine zip_loop (A := X.A.in1) (lo := S) (s0 := { s1 with heap := hz }) (P1 := fun i v => its.toArray[i]? = some v) (P2 := fun i v => its2.toArray[i]? = some v) (n1 := its.toArray.size) (n2 := its2.toArray.size) hA0 sep (fun B hB => Draws.list hB n a (Nat.ne_of_lt a9) its.toArray) (fun B hB => Draws.list hB (n + 1) b (Nat.ne_of_lt (Nat.lt_succ_of_lt b9)) its2.toArray)
    (fun hm => Nat.lt_irrefl _ (hmem S hm)) (fun hm => Nat.lt_irrefl _ (hwm S hm).2) (by rw [List.size_toArray, List.size_toArray]; omega) (fun c hm => (hwm c hm).2) (fun _ _ _ => trivial) (fun g tk kp got => ⟨rfl, ?main⟩) _ 0 _ _ rfl (Nat.zero_le _) ⟨k4 _ _ y2, ?l1, ?l2, .inl ⟨k4 _ _ y1, _, _, k4 _ _ y3⟩⟩ ⟨[], _, rfl, hS4, .nil, fun T hT => (by cases hT), fun j T hj => by simp at hj⟩ ?sz (fun c o hc e => k4 c o e)
  case main =>
    obtain ⟨Ts, c, t1, t2, t3, t4, t5⟩ := got
    have kp1 : ∀ c o, s1.heap.get? c = some o → g.get? c = some o := fun c o e => kp c o (fun hm => by
      have hlt : (c : Nat) < n := by rw [← hn]; exact Heap.lt_size e
      rcases List.mem_cons.mp hm with z | z
      · rw [z] at hlt
        exact absurd (Nat.lt_of_lt_of_le hlt (by omega : n ≤ S)) (Nat.lt_irrefl _)
      · exact absurd (Nat.lt_of_lt_of_le hlt (hwm c z).1) (Nat.lt_irrefl _)) (zk c o e)
    have hnS : n ≤ S := by omega
    have pr : ∀ j T, Ts[j]? = some T → ∃ x y ux uy, xs[j]? = some x ∧ ys[j]? = some y ∧ RelV x ux ∧ RelV y uy ∧ IsPair g T ux uy := fun j T hj => by
      obtain ⟨x, y, e1, e2, ip⟩ := t5 j T hj
      obtain ⟨vx, g1, g2⟩ := vals_at rv (show its[j]? = some x by simpa using e1)
      obtain ⟨vy, g3, g4⟩ := vals_at rv2 (show its2[j]? = some y by simpa using e2)
      exact ⟨vx, vy, x, y, g1, g3, g2, g4, ip⟩
    -- the tuples, tracked
    have tl : Ts.length = min xs.length ys.length := by rw [t1, List.size_toArray, List.size_toArray]; omega
    have zl : (Ts.zip ((xs.zip ys).map fun p => [p.1, p.2])).map (·.1) = Ts := by
      rw [List.map_fst_zip]
      rw [List.length_map, List.length_zip]
      omega
    have J := inv_tups I1 (tk := tk) kp1 (l := Ts.zip ((xs.zip ys).map fun p => [p.1, p.2])) (by rw [zl]; exact t3) fun p hp => by
      obtain ⟨j, hj⟩ := List.getElem?_of_mem hp
      rw [List.getElem?_zip_eq_some, List.getElem?_map] at hj
      obtain ⟨hj1, hj2⟩ := hj
      obtain ⟨⟨x', y'⟩, hj2, ej⟩ := Option.map_eq_some_iff.mp hj2
      rw [List.getElem?_zip_eq_some] at hj2
      obtain ⟨x, y, ux, uy, e1, e2, e3, e4, ip⟩ := pr j p.1 hj1
      have f1 : x' = x := Option.some.inj (hj2.1.symm.trans e1)
      have f2 : y' = y := Option.some.inj (hj2.2.symm.trans e2)
      subst f1 f2
      have f3 := (t4 p.1 (List.mem_of_getElem? hj1)).1
      refine ⟨by rw [hn]; omega, ?_, [ux, uy], ?_, ⟨_, ip, rfl, _, rfl⟩⟩
      · rw [← ej]
        show 2 ≤ sizeLine
        decide
      · rw [← ej]
        exact .cons e3 (.cons e4 .nil)
    have nS : updT H1 (Ts.zip ((xs.zip ys).map fun p => [p.1, p.2])) S = none := by
      rw [updT_none (by rw [zl]; exact fun hm => (t4 S hm).2 rfl)]
      exact I1.hok.fresh (by rw [hn]; exact hnS)
    have hsl : Ts.length ≤ sizeLine := by rw [tl]; omega
    have f := I1.fpOk (by rw [hn]; exact hnS) (I1.hok.fresh (by rw [hn]; exact hnS))
    have sm : Same H1 (upd (updT H1 (Ts.zip ((xs.zip ys).map fun p => [p.1, p.2]))) S (.lst (Ts.map V.ref))) := fun c o e => by
      have hc0 : H1 S = none := I1.hok.fresh (by rw [hn]; exact hnS)
      rw [upd_ne (ne_of_none e hc0), updT_none]
      · exact e
      · rw [zl]
        intro hm
        have := (t4 c hm).1
        have h0 : H1 c = none := I1.hok.fresh (by rw [hn]; omega)
        rw [e] at h0
        cases h0
    have K := J.call' (s' := { s1 with heap := g, toks := tk }) (H' := upd (updT H1 (Ts.zip ((xs.zip ys).map fun p => [p.1, p.2]))) S (.lst (Ts.map V.ref))) (ch := [S]) rfl ⟨fun b o q _ _ _ => q, fun b o q _ _ _ => ⟨o.slots, q⟩, fun b o q n hx => ?_, fun b o q _ => ⟨o, q⟩, fun b ys q => ?_, fun b o u q => ?_, fun b ps q => ?_⟩ (fun b u q => ?_) J.bare fun b hb => ?_
    · refine ⟨.ref S, _, K, rfl, q S Ts _ sm (I1.hok.fresh (by rw [hn]; exact hnS)) upd_same tl (fun T hT => ⟨I1.hok.fresh (by rw [hn]; have := (t4 T hT).1; omega), (t4 T hT).2⟩) fun j T hj => ?_⟩
      obtain ⟨x, y, ux, uy, e1, e2, _, _, _⟩ := pr j T hj
      refine ⟨x, y, e1, e2, ?_⟩
      rw [upd_ne (t4 T (List.mem_of_getElem? hj)).2]
      refine updT_at (by rw [zl]; exact t3) ?_
      refine List.mem_of_getElem? (i := j) ?_
      rw [List.getElem?_zip_eq_some, List.getElem?_map]
      refine ⟨hj, ?_⟩
      have e : (xs.zip ys)[j]? = some (x, y) := by rw [List.getElem?_zip_eq_some]; exact ⟨e1, e2⟩
      rw [e]
      rfl
    · rw [upd_ne (fun z => hx (by rw [z]; exact List.mem_singleton.mpr rfl))]
      exact n
    · rw [upd_ne (ne_of_none q nS)]
      exact q
    · rw [upd_ne (ne_of_none q nS)]
      exact q
    · exact ⟨#[], by rw [upd_ne (ne_of_none q nS), q]; simp⟩
    · by_cases e : b = S
      · subst e
        rw [upd_same] at q
        cases q
        refine ⟨by rw [List.length_map]; exact hsl, Ts.map Value.ref, c, ?_, t2⟩
        clear t1 t2 t3 t4 t5 tl zl J nS hsl f sm pr
        induction Ts with
        | nil => exact .nil
        | cons T r ih => exact .cons rfl ih
      · rw [upd_ne e] at q
        exact (J.hok b u q).stay (fun _ _ _ z => z) (fun d z => by rw [upd_ne (ne_of_none z nS)]; exact z) fun d xs z => by rw [upd_ne (ne_of_none z nS)]; exact z
    · rw [List.mem_singleton.mp hb]
      exact ⟨f.2.2.2.1, f.2.1, f.2.2.2.2.1, f.2.2.2.2.2⟩
  case l1 => exact ⟨y4.at fun o e => k4 _ o e, let ⟨o, e, r⟩ := pl1; ⟨o, k4 _ _ (zk _ _ e), r⟩⟩
  case l2 => exact ⟨y5.at fun o e => k4 _ o e, let ⟨o, e, r⟩ := pl2; ⟨o, k4 _ _ (zk _ _ e), r⟩⟩
  case sz =>
    have := Heap.lt_size hS4
    exact Nat.le_of_lt this
end
end Pk
end
section
set_option maxHeartbeats 1000000
/-! Sayings, links and chains that words write: as the program reads them, as the law does. -/
namespace Pk
open PySem PySem.Spec PyProof.Rows L2 TL
/-- one sort: the words with this mark -/
def sayS1 (x m so : Str) : Option Say := match cutM x m with
  | some (a, r) => if nameD (.str a) && (numW r).isSome then some (a, so, (numW r).getD 0) else none
  | none => none
/-- as the program reads it -/
def sayR (x : Str) : Option Say := match sayS1 x ">=" "least" with
  | some s => some s
  | none => sayS1 x "<=" "most"
/-- as the law does -/
def sayQ (x m so : Str) : Option (Option Say) := match cutM x m with
  | some (a, r) => match cutM r m with
    | none => some (if nameD (.str a) && (match numW r with | some i => decide (-greatS ≤ i) && decide (i ≤ greatS) | none => false) then some (a, so, (numW r).getD 0) else none)
    | some _ => none
  | none => none
def sayL (x : Str) : Option Say := match sayQ x ">=" "least" with
  | some s => s
  | none => match sayQ x "<=" "most" with
    | some s => s
    | none => none
def sayB (s : Say) : Bool := decide (-greatS ≤ s.2.2) && decide (s.2.2 ≤ greatS)
theorem ge_ne : tl (">=" : Str) ≠ [] := by rw [tl_ge]; simp
theorem lq_ne : tl ("<=" : Str) ≠ [] := by rw [tl_lq]; simp
theorem num_nomark {r : Str} {i : Int} (h : numW r = some i) : cutM r ">=" = none ∧ cutM r "<=" = none :=
  ⟨cutM_no tl_ge fun z => by have := isNum_signs (numW_some h) _ z; omega, cutM_no tl_lq fun z => by have := isNum_signs (numW_some h) _ z; omega⟩
theorem name_letters {a : Str} (h : nameD (.str a) = true) : ∀ c ∈ tl a, 97 ≤ c ∧ c ≤ 122 := fun c hc => by
  rw [nameD_str, Bool.and_eq_true, Bool.and_eq_true, List.all_eq_true] at h
  have q := h.2.2 c hc
  simp only [smallC, Bool.and_eq_true, decide_eq_true_eq] at q
  exact q
/-- a word with the other mark in it is none of this sort -/
theorem other_none {x : Str} (h : 62 ∈ tl x) : sayS1 x "<=" "most" = none := by
  unfold sayS1
  cases e : cutM x "<=" with
  | none => rfl
  | some p =>
    obtain ⟨a, r⟩ := p
    show (if (nameD (.str a) && (numW r).isSome) = true then _ else none) = none
    by_cases c : (nameD (.str a) && (numW r).isSome) = true
    · exfalso
      rw [Bool.and_eq_true, Option.isSome_iff_exists] at c
      obtain ⟨c1, i, c2⟩ := c
      have ap := cutM_app lq_ne e
      rw [ap, tl_lq] at h
      rcases List.mem_append.mp h with q | q
      · have := name_letters c1 _ q
        omega
      · rcases List.mem_append.mp q with q | q
        · simp at q
        · have := isNum_signs (numW_some c2) _ q
          omega
    · rw [if_neg c]
theorem q_of {x m so : Str} (hn : ∀ {r : Str} {i : Int}, numW r = some i → cutM r m = none) : (sayQ x m so = none ∧ sayS1 x m so = none) ∨ ∃ o : Option Say, sayQ x m so = some o ∧ o = (sayS1 x m so).filter sayB := by
  cases e : cutM x m with
  | none => exact .inl ⟨by unfold sayQ; rw [e], by unfold sayS1; rw [e]⟩
  | some p =>
    obtain ⟨a, r⟩ := p
    have e1 : sayQ x m so = match cutM r m with
      | none => some (if nameD (.str a) && (match numW r with | some i => decide (-greatS ≤ i) && decide (i ≤ greatS) | none => false) then some (a, so, (numW r).getD 0) else none)
      | some _ => none := by unfold sayQ; rw [e]
    have e2 : sayS1 x m so = if nameD (.str a) && (numW r).isSome then some (a, so, (numW r).getD 0) else none := by unfold sayS1; rw [e]
    rw [e1, e2]
    cases n : numW r with
    | none =>
      have z : (if (nameD (.str a) && (none : Option Int).isSome) = true then some (a, so, (none : Option Int).getD 0) else none) = (none : Option Say) := by simp
      rw [z]
      cases cutM r m with
      | some p => exact .inl ⟨rfl, rfl⟩
      | none => exact .inr ⟨_, rfl, by simp⟩
    | some i =>
      rw [hn n]
      refine .inr ⟨_, rfl, ?_⟩
      cases nameD (.str a) with
      | false => rfl
      | true =>
        show (if (decide (-greatS ≤ i) && decide (i ≤ greatS)) = true then some (a, so, i) else none) = Option.filter sayB (some (a, so, i))
        rw [Option.filter_some]
        rfl
theorem sayL_eq (x : Str) : sayL x = (sayR x).filter sayB := by
  unfold sayL sayR
  rcases q_of (x := x) (m := ">=") (so := "least") fun h => (num_nomark h).1 with ⟨e1, e2⟩ | ⟨o, e1, e2⟩
  · rw [e1, e2]
    rcases q_of (x := x) (m := "<=") (so := "most") fun h => (num_nomark h).2 with ⟨e3, e4⟩ | ⟨o, e3, e4⟩
    · rw [e3, e4]
      rfl
    · rw [e3]
      exact e4
  · rw [e1]
    show o = _
    rw [e2]
    cases e : sayS1 x ">=" "least" with
    | some s => rfl
    | none =>
      have hx : 62 ∈ tl x := by
        unfold sayQ at e1
        cases ec : cutM x ">=" with
        | none => rw [ec] at e1; cases e1
        | some p =>
          have ap := cutM_app ge_ne (a := p.1) (r := p.2) ec
          rw [ap, tl_ge]
          simp
      show none = (sayS1 x "<=" "most").filter sayB
      rw [other_none hx]
      rfl
/-- the mark of a sort is that of sgnS -/
theorem sgn_cut {so : Str} (hs : so ∈ sorts2) : (so = "least" ∧ sgnS so = ">=") ∨ (so = "most" ∧ sgnS so = "<=") := by
  simp only [sorts2, List.mem_cons, List.not_mem_nil, or_false] at hs
  rcases hs with rfl | rfl
  · exact .inl ⟨rfl, by decide +kernel⟩
  · exact .inr ⟨rfl, by decide +kernel⟩
structure SayW (s : Say) : Prop where
  nm : nmOk s.1
  na : nameD (.str s.1) = true
  so : s.2.1 ∈ sorts2
  b1 : -greatS ≤ s.2.2
  b2 : s.2.2 ≤ greatS
abbrev sayW (s : Say) : Str := s.1 ++ sgnS s.2.1 ++ numS s.2.2
theorem cut_app {a m b : Str} {s : Nat} {S : List Nat} (em : tl m = s :: S) (h : s ∉ tl a) : cutM (a ++ m ++ b) m = some (a, b) := by
  unfold cutM
  rw [tl_append, tl_append, em, List.append_assoc, par_part1 h]
  show some ((⟨([] ++ tl a).toArray⟩ : Str), (⟨(tl b).toArray⟩ : Str)) = _
  rw [List.nil_append, mk_tl, mk_tl]
/-- what is written is read -/
theorem sayR_written {s : Say} (h : SayW s) : sayR (sayW s) = some s := by
  obtain ⟨z, so, i⟩ := s
  have hn : ∀ c ∈ tl z, 97 ≤ c ∧ c ≤ 122 := name_letters h.na
  have hnum := num_numW h.b1 h.b2
  have na : nameD (.str z) = true := h.na
  unfold sayR
  rcases sgn_cut h.so with ⟨e1, e2⟩ | ⟨e1, e2⟩
  · have e1 : so = "least" := e1
    subst e1
    have c : cutM (z ++ sgnS "least" ++ numS i) ">=" = some (z, numS i) := by
      rw [e2]
      exact cut_app tl_ge fun q => by have := hn _ q; omega
    show (match sayS1 (z ++ sgnS "least" ++ numS i) ">=" "least" with | some s => some s | none => _) = _
    unfold sayS1
    rw [c]
    show (match (if (nameD (.str z) && (numW (numS i)).isSome) = true then some (z, ("least" : Str), (numW (numS i)).getD 0) else none) with | some s => some s | none => _) = _
    rw [na, show numW (numS i) = some i from hnum]
    rfl
  · have e1 : so = "most" := e1
    subst e1
    have c0 : cutM (z ++ sgnS "most" ++ numS i) ">=" = none := by
      refine cutM_no tl_ge fun q => ?_
      rw [tl_append, tl_append, e2, tl_lq] at q
      rcases List.mem_append.mp q with q | q
      · rcases List.mem_append.mp q with q | q
        · have := hn _ q; omega
        · simp at q
      · have := num_signs q
        omega
    have c : cutM (z ++ sgnS "most" ++ numS i) "<=" = some (z, numS i) := by
      rw [e2]
      exact cut_app tl_lq fun q => by have := hn _ q; omega
    show (match sayS1 (z ++ sgnS "most" ++ numS i) ">=" "least" with | some s => some s | none => sayS1 (z ++ sgnS "most" ++ numS i) "<=" "most") = _
    unfold sayS1
    rw [c0, c]
    show (if (nameD (.str z) && (numW (numS i)).isSome) = true then some (z, ("most" : Str), (numW (numS i)).getD 0) else none) = _
    rw [na, show numW (numS i) = some i from hnum]
    rfl
/-! ### rules' numbers -/
def byQ (x : Str) : Option Int := if x = "=" then some (-1) else numW x
def byR (x : Str) : Option Int := if x = "=" then some (-1) else if numW x = some (-1) then none else numW x
def byOk (x : Str) : Bool := match byQ x with
  | some n => decide (n ≤ 39) && !(decide (n < 0) && !decide (x = "="))
  | none => false
def oI : Option Int → PyData
  | some i => .int i
  | none => .none
def oS : Option Say → PyData
  | some s => sayP s
  | none => .none
theorem by_eq (x : Str) : wholeD (-1) 39 (oI (byR x)) = byOk x ∧ (byOk x = true → byR x = byQ x) := by
  unfold byOk byQ byR
  by_cases c : x = "="
  · rw [if_pos c, if_pos c]
    refine ⟨?_, fun _ => rfl⟩
    show (decide ((-1 : Int) ≤ -1) && decide ((-1 : Int) ≤ 39)) = (decide ((-1 : Int) ≤ 39) && !(decide ((-1 : Int) < 0) && !decide (x = "=")))
    rw [decide_eq_true c]
    decide
  · rw [if_neg c, if_neg c]
    cases e : numW x with
    | none => exact ⟨by simp [oI, wholeD], fun h => by cases h⟩
    | some n =>
      by_cases m : n = -1
      · subst m
        rw [if_pos rfl]
        refine ⟨?_, fun h => ?_⟩
        · simp [oI, wholeD, c]
        · simp [c] at h
      · rw [if_neg (fun z => m (Option.some.inj z))]
        refine ⟨?_, fun _ => rfl⟩
        show (decide ((-1 : Int) ≤ n) && decide (n ≤ 39)) = (decide (n ≤ 39) && !(decide (n < 0) && !decide (x = "=")))
        rw [decide_eq_false c]
        by_cases a : n < 0
        · rw [decide_eq_false (show ¬ (-1 : Int) ≤ n by omega), decide_eq_true a]
          simp
        · rw [decide_eq_true (show (-1 : Int) ≤ n by omega), decide_eq_false a]
          simp
/-! ### a chain by its form -/
def anySayD : PyData → Bool
  | .tuple [n, so, i] => nameD n && (inS sorts2 so && wholeD (-greatS) greatS i)
  | _ => false
def linkD : PyData → Bool
  | .tuple [s, b] => anySayD s && wholeD (-1) 39 b
  | _ => false
def firstD : PyData → Bool
  | .tuple [s, .none] => anySayD s
  | _ => false
def formC : PyData → Bool
  | .list (f :: r) => decide ((f :: r).length ≤ 2000) && (firstD f && r.all linkD)
  | _ => false
theorem say_form (s : Say) : anySayD (sayP s) = (nameD (.str s.1) && (inS sorts2 (.str s.2.1) && sayB s)) := rfl
theorem inS_str2 {so : Str} (h : so ∈ sorts2) : inS sorts2 (.str so) = true := List.any_eq_true.mpr ⟨so, h, by simp [strIs]⟩
theorem sayS1_name {x m so : Str} {s : Say} (h : sayS1 x m so = some s) : nameD (.str s.1) = true ∧ s.2.1 = so := by
  unfold sayS1 at h
  cases e : cutM x m with
  | none => rw [e] at h; cases h
  | some p =>
    obtain ⟨a, r⟩ := p
    rw [e] at h
    have h : (if (nameD (.str a) && (numW r).isSome) = true then some (a, so, (numW r).getD 0) else none) = some s := h
    by_cases c : (nameD (.str a) && (numW r).isSome) = true
    · rw [if_pos c] at h
      cases h
      rw [Bool.and_eq_true] at c
      exact ⟨c.1, rfl⟩
    · rw [if_neg c] at h
      cases h
theorem sayR_good {x : Str} {s : Say} (h : sayR x = some s) : nameD (.str s.1) = true ∧ s.2.1 ∈ sorts2 := by
  unfold sayR at h
  cases e : sayS1 x ">=" "least" with
  | some t =>
    rw [e] at h
    cases h
    obtain ⟨h1, h2⟩ := sayS1_name e
    exact ⟨h1, by rw [h2]; decide +kernel⟩
  | none =>
    rw [e] at h
    obtain ⟨h1, h2⟩ := sayS1_name (show sayS1 x "<=" "most" = some s from h)
    exact ⟨h1, by rw [h2]; decide +kernel⟩
theorem say_link (x : Str) : anySayD (oS (sayR x)) = (sayL x).isSome ∧ ((sayL x).isSome = true → sayR x = sayL x) := by
  rw [sayL_eq]
  cases e : sayR x with
  | none => exact ⟨rfl, fun h => by cases h⟩
  | some s =>
    obtain ⟨h1, h2⟩ := sayR_good e
    rw [Option.filter_some]
    have f : anySayD (oS (some s)) = sayB s := by
      show anySayD (sayP s) = _
      rw [say_form, h1, inS_str2 h2]
      rfl
    rw [f]
    cases sayB s with
    | true => exact ⟨rfl, fun _ => rfl⟩
    | false => exact ⟨rfl, fun h => by cases h⟩
end Pk
end
section
set_option maxHeartbeats 1000000
/-! Chains that words write. -/
namespace Pk
open PySem PySem.Spec PyProof.Rows L2 TL
def linkX (a b : Str) : PyData := .tuple [oS (sayR a), oI (byR b)]
def linkQ (a b : Str) : PyData := .tuple [oS (sayL a), oI (byQ b)]
def restX (es os : List Str) : List PyData := List.zipWith linkX es os
def restQ (es os : List Str) : List PyData := List.zipWith linkQ es os
def chainX (ws : List Str) : List PyData := match evens ws with
  | [] => []
  | e :: es => .tuple [oS (sayR e), .none] :: restX es (odds2 ws)
def chainQ (ws : List Str) : List PyData := match evens ws with
  | [] => []
  | e :: es => .tuple [oS (sayL e), .none] :: restQ es (odds2 ws)
def goodX (ws : List Str) : Bool := decide ((evens ws).length = (odds2 ws).length + 1) && formC (.list (chainX ws))
def dueB (ws : List Str) : Bool := decide (ws.length % 2 = 1) && (decide (ws.length ≤ 3999) && ((odds2 ws).all byOk && (evens ws).all fun w => (sayL w).isSome))
theorem rest_all : ∀ (es os : List Str), es.length = os.length → (restX es os).all linkD = (os.all byOk && es.all fun w => (sayL w).isSome)
  | [], [], _ => rfl
  | [], _ :: _, h => by simp at h
  | _ :: _, [], h => by simp at h
  | e :: es, o :: os, h => by
    have ih := rest_all es os (by simpa using h)
    show (linkD (linkX e o) && (restX es os).all linkD) = _
    rw [ih, List.all_cons, List.all_cons]
    have l : linkD (linkX e o) = ((sayL e).isSome && byOk o) := by
      show (anySayD (oS (sayR e)) && wholeD (-1) 39 (oI (byR o))) = _
      rw [(say_link e).1, (by_eq o).1]
    rw [l]
    cases (sayL e).isSome <;> cases byOk o <;> simp
theorem rest_same : ∀ (es os : List Str), (os.all byOk && es.all fun w => (sayL w).isSome) = true → restQ es os = restX es os
  | [], _, _ => rfl
  | _ :: _, [], _ => rfl
  | e :: es, o :: os, h => by
    rw [Bool.and_eq_true, List.all_cons, List.all_cons, Bool.and_eq_true, Bool.and_eq_true] at h
    obtain ⟨⟨h1, h2⟩, h3, h4⟩ := h
    have ih := rest_same es os (by rw [h2, h4]; rfl)
    show linkQ e o :: restQ es os = linkX e o :: restX es os
    rw [ih]
    unfold linkQ linkX
    rw [(say_link e).2 h3, (by_eq o).2 h1]
theorem rest_len (es os : List Str) (h : es.length = os.length) : (restX es os).length = es.length := by
  unfold restX
  rw [List.length_zipWith]
  omega
theorem due_good (ws : List Str) : goodX ws = dueB ws ∧ (dueB ws = true → chainQ ws = chainX ws) := by
  have l1 := evens_len ws
  have l2 := odds_len ws
  by_cases c : ws.length % 2 = 1
  · unfold goodX dueB
    rw [decide_eq_true c, decide_eq_true (show (evens ws).length = (odds2 ws).length + 1 by omega), Bool.true_and, Bool.true_and]
    unfold chainX chainQ
    cases e : evens ws with
    | nil => rw [e] at l1; simp at l1; omega
    | cons a es =>
      rw [e, List.length_cons] at l1
      have le : es.length = (odds2 ws).length := by omega
      have f : formC (.list (.tuple [oS (sayR a), .none] :: restX es (odds2 ws))) = (decide (ws.length ≤ 3999) && ((sayL a).isSome && ((odds2 ws).all byOk && es.all fun w => (sayL w).isSome))) := by
        show (decide ((PyData.tuple [oS (sayR a), .none] :: restX es (odds2 ws)).length ≤ 2000) && (anySayD (oS (sayR a)) && (restX es (odds2 ws)).all linkD)) = _
        rw [(say_link a).1, rest_all _ _ le, List.length_cons, rest_len _ _ le]
        have : decide (es.length + 1 ≤ 2000) = decide (ws.length ≤ 3999) := by
          rw [Bool.eq_iff_iff, decide_eq_true_eq, decide_eq_true_eq]
          omega
        rw [this]
      refine ⟨?_, fun h => ?_⟩
      · rw [f, List.all_cons]
        cases decide (ws.length ≤ 3999) <;> cases (sayL a).isSome <;> cases (odds2 ws).all byOk <;> simp
      · rw [List.all_cons] at h
        simp only [Bool.and_eq_true] at h
        obtain ⟨_, h1, h2, h3⟩ := h
        show PyData.tuple [oS (sayL a), .none] :: restQ es (odds2 ws) = .tuple [oS (sayR a), .none] :: restX es (odds2 ws)
        rw [(say_link a).2 h2, rest_same es (odds2 ws) (by rw [h1, Bool.true_and]; exact h3)]
  · unfold goodX dueB
    rw [decide_eq_false c, decide_eq_false (show ¬ (evens ws).length = (odds2 ws).length + 1 by omega)]
    exact ⟨rfl, fun h => by cases h⟩
/-! ### chains that are written -/
def byW (b : Int) : Str := if b = -1 then "=" else numS b
def wordsC (s0 : Say) : List (Say × Int) → List Str
  | l => sayW s0 :: l.flatMap fun p => [byW p.2, sayW p.1]
def chainP (s0 : Say) (l : List (Say × Int)) : List PyData := .tuple [sayP s0, .none] :: l.map fun p => .tuple [sayP p.1, .int p.2]
structure ChainG (s0 : Say) (l : List (Say × Int)) : Prop where
  s0 : SayW s0
  ss : ∀ p ∈ l, SayW p.1 ∧ -1 ≤ p.2 ∧ p.2 ≤ 39
theorem evens_flat : ∀ (x : Str) (l : List (Say × Int)), evens (x :: l.flatMap fun p => [byW p.2, sayW p.1]) = x :: l.map (fun p => sayW p.1)
  | x, [] => by simp [evens]
  | x, p :: l => by
    show evens (x :: byW p.2 :: (sayW p.1 :: l.flatMap fun p => [byW p.2, sayW p.1])) = _
    rw [evens, evens_flat (sayW p.1) l]
    rfl
theorem odds_flat : ∀ (x : Str) (l : List (Say × Int)), odds2 (x :: l.flatMap fun p => [byW p.2, sayW p.1]) = l.map (fun p => byW p.2)
  | x, [] => by simp [odds2]
  | x, p :: l => by
    show odds2 (x :: byW p.2 :: (sayW p.1 :: l.flatMap fun p => [byW p.2, sayW p.1])) = _
    rw [odds2, odds_flat (sayW p.1) l]
    rfl
theorem num_noeq {i : Int} : numS i ≠ "=" := fun e => by
  have q : 61 ∈ tl (numS i) := by rw [e]; decide +kernel
  have := num_signs q
  omega
theorem byR_written {b : Int} (h1 : -1 ≤ b) (h2 : b ≤ 39) : byR (byW b) = some b := by
  have gg : greatS = 100000000000000000000 := rfl
  unfold byR byW
  by_cases c : b = -1
  · rw [if_pos c, if_pos rfl, c]
  · rw [if_neg c, if_neg num_noeq, num_numW (by omega) (by omega), if_neg (fun e => c (Option.some.inj e))]
theorem chain_written {s0 : Say} {l : List (Say × Int)} (h : ChainG s0 l) : chainX (wordsC s0 l) = chainP s0 l := by
  unfold chainX wordsC
  rw [evens_flat, odds_flat]
  show PyData.tuple [oS (sayR (sayW s0)), .none] :: restX (l.map fun p => sayW p.1) (l.map fun p => byW p.2) = _
  rw [sayR_written h.s0]
  have go : ∀ l : List (Say × Int), (∀ p ∈ l, SayW p.1 ∧ -1 ≤ p.2 ∧ p.2 ≤ 39) → restX (l.map fun p => sayW p.1) (l.map fun p => byW p.2) = l.map fun p => PyData.tuple [sayP p.1, .int p.2] := by
    intro l
    induction l with
    | nil => intro _; rfl
    | cons p l ih =>
      intro hh
      obtain ⟨a, b, c⟩ := hh p List.mem_cons_self
      show linkX (sayW p.1) (byW p.2) :: restX (l.map fun p => sayW p.1) (l.map fun p => byW p.2) = _
      rw [ih fun q hq => hh q (List.mem_cons_of_mem _ hq)]
      unfold linkX
      rw [sayR_written a, byR_written b c]
      rfl
  rw [go l h.ss]
  rfl
theorem say_ok {s : Say} (h : SayW s) : anySayD (sayP s) = true := by
  rw [say_form, h.na, inS_str2 h.so]
  unfold sayB
  rw [decide_eq_true h.b1, decide_eq_true h.b2]
  rfl
theorem chain_form {s0 : Say} {l : List (Say × Int)} (h : ChainG s0 l) : formC (.list (chainP s0 l)) = decide (l.length + 1 ≤ 2000) := by
  show (decide ((chainP s0 l).length ≤ 2000) && (anySayD (sayP s0) && (l.map fun p => PyData.tuple [sayP p.1, .int p.2]).all linkD)) = _
  have e : (l.map fun p => PyData.tuple [sayP p.1, .int p.2]).all linkD = true := by
    rw [List.all_eq_true]
    intro d hd
    obtain ⟨p, hp, rfl⟩ := List.mem_map.mp hd
    obtain ⟨a, b, c⟩ := h.ss p hp
    show (anySayD (sayP p.1) && (decide (-1 ≤ p.2) && decide (p.2 ≤ 39))) = true
    rw [say_ok a, decide_eq_true b, decide_eq_true c]
    rfl
  rw [say_ok h.s0, e, Bool.and_true, Bool.and_true]
  unfold chainP
  rw [List.length_cons, List.length_map]
theorem chain_goodX {s0 : Say} {l : List (Say × Int)} (h : ChainG s0 l) : goodX (wordsC s0 l) = decide (l.length + 1 ≤ 2000) := by
  unfold goodX
  rw [chain_written h, chain_form h]
  have : (evens (wordsC s0 l)).length = (odds2 (wordsC s0 l)).length + 1 := by
    unfold wordsC
    rw [evens_flat, odds_flat, List.length_cons, List.length_map, List.length_map]
  rw [decide_eq_true this, Bool.true_and]
theorem by_word {b : Int} (h1 : -1 ≤ b) (h2 : b ≤ 39) : wordOk (byW b) := by
  have gg : greatS = 100000000000000000000 := rfl
  unfold byW
  split
  · exact ⟨by decide +kernel, by decide +kernel⟩
  · exact num_word (by omega) (by omega)
theorem sayW_word {s : Say} (h : SayW s) : wordOk (sayW s) := say_word (so := s.2.1) h.nm h.b1 h.b2
theorem wordsC_ok {s0 : Say} {l : List (Say × Int)} (h : ChainG s0 l) : ∀ x ∈ wordsC s0 l, wordOk x := fun x hx => by
  unfold wordsC at hx
  rcases List.mem_cons.mp hx with rfl | hx
  · exact sayW_word h.s0
  · obtain ⟨p, hp, hx⟩ := List.mem_flatMap.mp hx
    obtain ⟨a, b, c⟩ := h.ss p hp
    simp only [List.mem_cons, List.not_mem_nil, or_false] at hx
    rcases hx with rfl | rfl
    · exact by_word b c
    · exact sayW_word a
theorem wordsC_len (s0 : Say) (l : List (Say × Int)) : (wordsC s0 l).length = 1 + 2 * l.length := by
  unfold wordsC
  rw [List.length_cons]
  have : ∀ l : List (Say × Int), (l.flatMap fun p => [byW p.2, sayW p.1]).length = 2 * l.length := by
    intro l
    induction l with
    | nil => rfl
    | cons p l ih =>
      show ([byW p.2, sayW p.1] ++ l.flatMap fun p => [byW p.2, sayW p.1]).length = _
      rw [List.length_append, ih, List.length_cons, List.length_cons, List.length_cons, List.length_nil]
      omega
  rw [this]
  omega
/-- the text of a chain -/
def textC (s0 : Say) (l : List (Say × Int)) : Str := rowS (wordsC s0 l)
theorem split_text {s0 : Say} {l : List (Say × Int)} (h : ChainG s0 l) : Txt.split (textC s0 l) " " = wordsC s0 l := split_row (by unfold wordsC; simp) (wordsC_ok h)
/-- the reading of a text -/
def readX (x : Str) : Option PyData := if goodX (Txt.split x " ") = true then some (.list (chainX (Txt.split x " "))) else none
theorem read_text {s0 : Say} {l : List (Say × Int)} (h : ChainG s0 l) : readX (textC s0 l) = if l.length + 1 ≤ 2000 then some (.list (chainP s0 l)) else none := by
  unfold readX
  rw [split_text h, chain_goodX h, chain_written h]
  by_cases c : l.length + 1 ≤ 2000
  · rw [decide_eq_true c, if_pos rfl, if_pos c]
  · rw [decide_eq_false c, if_neg Bool.false_ne_true, if_neg c]
end Pk
end
section
set_option maxHeartbeats 1000000
/-! read_number, read_saying, read_by: of any word. -/
namespace Pk
open PySem PySem.Spec PyProof.Rows L2 TL
abbrev sRNum : Stmt := topH 21
abbrev sRSay : Stmt := topH 22
abbrev sRBy : Stmt := topH 28
def vI : Option Int → V
  | some i => .int i
  | none => .non
def spRNum (Pt : Addr) : Sp := fun vs H Q _ => ∃ x : Str, vs = [.str x] ∧ x.length ≤ sizeLine ∧ GxR.TabG H Pt ∧ ∀ H', Gr Pt H H' → Q (vI (numW x)) H'
theorem figW_len (x : Str) : (figW x).length ≤ x.length := by
  rcases figW_tl x with ⟨_, e⟩ | ⟨_, e⟩
  · rw [len_tl x, e, List.length_cons, ← len_tl]
    omega
  · rw [e]
    exact Nat.le_refl _
section
variable {P : Program} {w : World} {K : PySem.W.Frag} {mg : Str → Option Value} {base : Heap}
abbrev nRNum : List Str := ["word", "figures"]
theorem scRNum : FnScope nRNum ["word"] (defScope sRNum) := ⟨rfl, rfl, rfl, by decide +kernel, rfl, by decide +kernel, by decide +kernel⟩
theorem ok_rnum {f c Pt : Addr} {oc : Value} {od an : Option Addr} {osl : Array (Option Value)} {kV doc pm ct : Value} (lk : K.lookup f = some ⟨oc, od, .func (PySem.W.fnOf "read_number" "read_number" (defArgs sRNum) (defBody sRNum) (defScope sRNum) .none kV doc pm an (.ref c) ct), osl⟩) (hcd : PySem.W.codeIn K (.ref c) "read_number" = true)
    (TB : GxR.TabB base mg c Pt) (B : BltH mg) (m60 : ∃ t, mg "MOST_FIGURES" = some (.int 60 t)) : FnOk P w K mg base CX0 2 f (PySem.W.fnOf "read_number" "read_number" (defArgs sRNum) (defBody sRNum) (defScope sRNum) .none kV doc pm an (.ref c) ct) ["word"] (spRNum Pt) := by
  refine fn_of lk hcd scRNum (fun vs H Q E h => ?_) (fun A outer s H vs Q E hr h => ?_)
  · obtain ⟨x, rfl, _⟩ := h
    rfl
  obtain ⟨x, rfl, xl, tg, k⟩ := h
  obtain ⟨tk, h60⟩ := m60
  refine ⟨_, PSs.nox (pss_cons (ps_set (i := 1) scRNum.nd rfl (.inl rfl) (pe_ifExp (pt_val (pe_bm PySem.F.plainAttrs_str PySem.F.slot_str_startswith PySem.F.type_str_startswith mt_startswith (pv 0) (pa_cons pe_str pa_nil))) (pe_slice sl_str (pv 0) (po_some pe_int) po_none) (pv 0))) <|
    pss_cons (ps_if (PW.pt (pw_or (pt_not (pt_chain op_le op_le pe_int (pe_callB call_len_str (by rfl) B.len PySem.boot_len (pa_cons (pv 1) pa_nil)) (pe_glob (v := .int 60) (by rfl) h60 ⟨_, rfl⟩))) (pw_or1 (pt_not (pt_val (GxR.pe_allS hr (by rfl) B.all (by decide +kernel) TB rfl (gsSign _) (pv 1) (elt_09 rfl rfl) (fun _ => rfl))))))) (pss_one (ps_ret pe_non)) pss_nil) <|
    pss_cons (ps_if (PW.pt (pw_and (pt_val (pe_bm PySem.F.plainAttrs_str PySem.F.slot_str_startswith PySem.F.type_str_startswith mt_startswith (pv 1) (pa_cons pe_str pa_nil))) (pw_and1 (pt_cmpR op_ne (pv 0) pe_str (nomark _))))) (pss_one (ps_ret pe_non)) pss_nil) <|
    pss_one (ps_ret (pe_callTy call_int_str (by rfl) B.int (by decide +kernel) (pa_cons (pv 0) pa_nil)))), ?_⟩
  have sl := sizeLine_eq
  have fl := figW_len x
  refine ⟨_, rfl, rfl, _, _, rfl, rfl, _, rfl, ?_⟩
  cases hs : Txt.startswith x "-" with
  | true =>
    have hY : cutS x (some 1) none = figW x := by unfold figW; rw [if_pos hs]
    have hYl : (cutS x (some 1) none).length ≤ sizeLine := by rw [hY]; omega
    refine iteT ⟨_, rfl, 1, rfl, _, rfl, by omega, ?_⟩
    generalize cutS x (some 1) none = Y at hY hYl
    refine ⟨_, rfl, Y, rfl, hYl, _, _, rfl, rfl, _, rfl, ?_⟩
    by_cases c1 : 1 ≤ (Y).length
    · rw [decide_eq_true (show (1 : Int) ≤ ((Str.length (Y) : Nat) : Int) by omega)]
      refine iteT ⟨_, _, rfl, rfl, _, rfl, ?_⟩
      by_cases c2 : (Y).length ≤ 60
      · rw [decide_eq_true (show ((Str.length (Y) : Nat) : Int) ≤ 60 by omega)]
        refine iteF ⟨_, rfl, Y, rfl, tg, fun H2 tb => ?_⟩
        cases c3 : (Y).cps.toList.all figC with
        | false =>
          have en : numW x = none := numW_no (by unfold isNum; rw [← hY, c3]; simp)
          rw [en] at k
          exact ⟨_, rfl, iteT (k H2 (Gr.of tb))⟩
        | true =>
          refine ⟨_, rfl, iteF ⟨_, rfl, rfl, _, _, rfl, rfl, _, rfl, ?_⟩⟩
          cases c4 : Txt.startswith (Y) "0" with
          | true =>
            refine iteT ⟨_, rfl, rfl, _, rfl, ?_⟩
            by_cases c5 : x = "0"
            · rw [decide_eq_true (show V.str x = V.str "0" by rw [c5])]
              have hn : isNum x = true := by unfold isNum; rw [← hY, c3, c4, decide_eq_true c1, decide_eq_true c2, decide_eq_true c5]; rfl
              obtain ⟨i, e1, e2⟩ := numW_int hn
              have l61 := (isNum_parts hn).2.2.2
              rw [e2] at k
              exact iteF ⟨_, rfl, _, i, rfl, e1, by omega, k _ (Gr.of tb)⟩
            · rw [decide_eq_false (fun z => c5 (V.str.inj z))]
              have en : numW x = none := numW_no (by unfold isNum; rw [← hY, c4, decide_eq_false c5]; simp)
              rw [en] at k
              exact iteT (k H2 (Gr.of tb))
          | false =>
            have hn : isNum x = true := by unfold isNum; rw [← hY, c3, c4, decide_eq_true c1, decide_eq_true c2]; rfl
            obtain ⟨i, e1, e2⟩ := numW_int hn
            have l61 := (isNum_parts hn).2.2.2
            rw [e2] at k
            exact iteF (iteF ⟨_, rfl, _, i, rfl, e1, by omega, k _ (Gr.of tb)⟩)
      · rw [decide_eq_false (show ¬ ((Str.length (Y) : Nat) : Int) ≤ 60 by omega)]
        have en : numW x = none := numW_no (by unfold isNum; rw [← hY, decide_eq_false c2]; simp)
        rw [en] at k
        exact iteT (k H (Gr.refl tg))
    · rw [decide_eq_false (show ¬ (1 : Int) ≤ ((Str.length (Y) : Nat) : Int) by omega)]
      have en : numW x = none := numW_no (by unfold isNum; rw [← hY, decide_eq_false c1]; rfl)
      rw [en] at k
      exact iteF ⟨_, rfl, iteT (k H (Gr.refl tg))⟩
  | false =>
    have hY : x = figW x := by unfold figW; rw [hs]; rfl
    have hYl : x.length ≤ sizeLine := xl
    refine iteF ⟨_, rfl, ?_⟩
    refine ⟨_, rfl, x, rfl, hYl, _, _, rfl, rfl, _, rfl, ?_⟩
    by_cases c1 : 1 ≤ (x).length
    · rw [decide_eq_true (show (1 : Int) ≤ ((Str.length (x) : Nat) : Int) by omega)]
      refine iteT ⟨_, _, rfl, rfl, _, rfl, ?_⟩
      by_cases c2 : (x).length ≤ 60
      · rw [decide_eq_true (show ((Str.length (x) : Nat) : Int) ≤ 60 by omega)]
        refine iteF ⟨_, rfl, x, rfl, tg, fun H2 tb => ?_⟩
        cases c3 : (x).cps.toList.all figC with
        | false =>
          have en : numW x = none := numW_no (by unfold isNum; rw [← hY, c3]; simp)
          rw [en] at k
          exact ⟨_, rfl, iteT (k H2 (Gr.of tb))⟩
        | true =>
          refine ⟨_, rfl, iteF ⟨_, rfl, rfl, _, _, rfl, rfl, _, rfl, ?_⟩⟩
          cases c4 : Txt.startswith (x) "0" with
          | true =>
            refine iteT ⟨_, rfl, rfl, _, rfl, ?_⟩
            by_cases c5 : x = "0"
            · rw [decide_eq_true (show V.str x = V.str "0" by rw [c5])]
              have hn : isNum x = true := by unfold isNum; rw [← hY, c3, c4, decide_eq_true c1, decide_eq_true c2, decide_eq_true c5]; rfl
              obtain ⟨i, e1, e2⟩ := numW_int hn
              have l61 := (isNum_parts hn).2.2.2
              rw [e2] at k
              exact iteF ⟨_, rfl, _, i, rfl, e1, by omega, k _ (Gr.of tb)⟩
            · rw [decide_eq_false (fun z => c5 (V.str.inj z))]
              have en : numW x = none := numW_no (by unfold isNum; rw [← hY, c4, decide_eq_false c5]; simp)
              rw [en] at k
              exact iteT (k H2 (Gr.of tb))
          | false =>
            have hn : isNum x = true := by unfold isNum; rw [← hY, c3, c4, decide_eq_true c1, decide_eq_true c2]; rfl
            obtain ⟨i, e1, e2⟩ := numW_int hn
            have l61 := (isNum_parts hn).2.2.2
            rw [e2] at k
            exact iteF (iteF ⟨_, rfl, _, i, rfl, e1, by omega, k _ (Gr.of tb)⟩)
      · rw [decide_eq_false (show ¬ ((Str.length (x) : Nat) : Int) ≤ 60 by omega)]
        have en : numW x = none := numW_no (by unfold isNum; rw [← hY, decide_eq_false c2]; simp)
        rw [en] at k
        exact iteT (k H (Gr.refl tg))
    · rw [decide_eq_false (show ¬ (1 : Int) ≤ ((Str.length (x) : Nat) : Int) by omega)]
      have en : numW x = none := numW_no (by unfold isNum; rw [← hY, decide_eq_false c1]; rfl)
      rw [en] at k
      exact iteF ⟨_, rfl, iteT (k H (Gr.refl tg))⟩
end
end Pk
end
section
set_option maxHeartbeats 1000000
/-! read_saying, read_by. -/
namespace Pk
open PySem PySem.Spec PyProof.Rows L2 TL
theorem GrS.new {Ps : List Addr} {H H' : Hp} {D : Addr} {o : HO} (t : Tabs Ps H) (g : GrS Ps H H') (h : H D = none) (n : ∀ q, o ≠ .tbl q) : GrS Ps H (L2.upd H' D o) := by
  have nD : D ∉ Ps := fun z => by
    obtain ⟨ps, e, _⟩ := t D z
    rw [h] at e
    cases e
  refine ⟨fun P hP => ?_, fun b u hb e => ?_⟩
  · obtain ⟨ps, e, r⟩ := g.1 P hP
    exact ⟨ps, by rw [upd_ne (fun z => nD (by rw [← z]; exact hP))]; exact e, r⟩
  · rw [upd_ne (ne_of_none e h)]
    exact g.2 b u hb e
theorem for_kk {zs : List Str} {g : TG} {tb : TS} {D : Ends} {σ : L2.St} {H : Hp} (Pv : Nat → L2.St → Hp → Prop) (h0 : Pv 0 σ H)
    (hs : ∀ i z σ H, zs[i]? = some z → Pv i σ H → g (.str z) σ H fun σ2 H2 => tb { D with nx := Pv (i + 1), ct := Pv (i + 1), bk := D.nx } σ2 H2) (hd : ∀ σ H, Pv zs.length σ H → D.nx σ H) :
    ∃ W : Nat → Nat → L2.St → Hp → Prop, (∃ m, W 0 m σ H) ∧ ∀ i m σ H, W i m σ H →
      ((Itkk zs).stop i H ∧ D.nx σ H) ∨ ((Itkk zs).go i H ∧ ∃ N : L2.St → Hp → Prop, (∀ σ' H', N σ' H' → ∃ m', m' < m ∧ W (i + 1) m' σ' H') ∧ ∀ x H', (Itkk zs).yld i H x H' → g x σ H' fun σ2 H2 => tb { D with nx := N, ct := N, bk := D.nx } σ2 H2) := by
  refine ⟨fun i m σ H => m = zs.length - i ∧ i ≤ zs.length ∧ Pv i σ H, ⟨_, rfl, Nat.zero_le _, h0⟩, fun i m σ H ⟨em, hi, pv⟩ => ?_⟩
  by_cases lt : i < zs.length
  · refine .inr ⟨lt, Pv (i + 1), fun σ' H' q => ⟨zs.length - (i + 1), by omega, rfl, lt, q⟩, fun x H' ⟨e, z, hz, ex⟩ => ?_⟩
    rw [e, ex]
    exact hs i z σ H hz pv
  · have e : i = zs.length := by omega
    rw [e] at pv
    exact .inl ⟨Nat.le_of_eq e.symm, hd σ H pv⟩
/-- a saying, or None -/
def SayO (H : Hp) (v : V) : Option Say → Prop
  | none => v = .non
  | some s => ∃ q, v = .ref q ∧ H q = some (.tup (sayV s))
theorem SayO.tr {H : Hp} {v : V} {o : Option Say} (h : SayO H v o) : Tr H v (oS o) := by
  cases o with
  | none =>
    cases (show v = .non from h)
    exact .non
  | some s =>
    obtain ⟨q, rfl, hq⟩ := h
    exact .tup hq (.cons (.str _) (.cons (.str _) (.cons (.int _) .nil)))
theorem SayO.grs {Ps : List Addr} {H H' : Hp} {v : V} {o : Option Say} (t : Tabs Ps H) (h : SayO H v o) (g : GrS Ps H H') : SayO H' v o := by
  cases o with
  | none => exact h
  | some s =>
    obtain ⟨q, e, hq⟩ := h
    exact ⟨q, e, g.at t hq (by intro q z; cases z)⟩
theorem SayO.upd {H : Hp} {v : V} {o : Option Say} {D : Addr} {xs : List V} {u : HO} (h : SayO H v o) (hD : H D = some (.lst xs)) : SayO (L2.upd H D u) v o := by
  cases o with
  | none => exact h
  | some s =>
    obtain ⟨q, e, hq⟩ := h
    exact ⟨q, e, by rw [upd_ne (fun z => by rw [z, hD] at hq; cases hq)]; exact hq⟩
theorem trI (H : Hp) (o : Option Int) : Tr H (vI o) (oI o) := by
  cases o with
  | none => exact .non
  | some i => exact .int i
def spRSay (Ps : List Addr) : Sp := fun vs H Q _ => ∃ x : Str, vs = [.str x] ∧ x.length ≤ sizeLine ∧ Tabs Ps H ∧ ∀ (v : V) (H' : Hp), GrS Ps H H' → SayO H' v (sayR x) → Q v H'
def spRBy (Ps : List Addr) : Sp := fun vs H Q _ => ∃ x : Str, vs = [.str x] ∧ x.length ≤ sizeLine ∧ Tabs Ps H ∧ ∀ H', GrS Ps H H' → Q (vI (byR x)) H'
section
variable {P : Program} {w : World} {K : PySem.W.Frag} {mg : Str → Option Value} {base : Heap} {Ps : List Addr} {P1 P2 : Addr}
abbrev nRSay : List Str := ["word", "sort", "name", "sign", "figures", "i"]
theorem scRSay : FnScope nRSay ["word"] (defScope sRSay) := ⟨rfl, rfl, rfl, by decide +kernel, rfl, by decide +kernel, by decide +kernel⟩
theorem ok_rsay {f g n S : Addr} {fd gd nd : FuncData} (h1 : P1 ∈ Ps) (h2 : P2 ∈ Ps) (F : Fun K "read_saying" "read_saying" sRSay f fd) (C : SignC K w mg S)
    (G : FnOk P w K mg base CX0 2 g gd ["word"] (spRNum P1)) (bG : Binds K gd ["word"] []) (kG : PySem.W.keepIn K (.ref g) = true) (mG : mg "read_number" = some (.ref g))
    (N : FnOk P w K mg base CX0 2 n nd ["thing"] (spIsName P2)) (bN : Binds K nd ["thing"] []) (kN : PySem.W.keepIn K (.ref n) = true) (mN : mg "is_name" = some (.ref n)) :
    FnOk P w K mg base CX0 3 f fd ["word"] (spRSay Ps) := by
  refine F.ok scRSay (fun vs H Q E h => ?_) (fun cdv A outer s H vs Q E hr h => ?_)
  · obtain ⟨x, rfl, _⟩ := h
    rfl
  obtain ⟨x, rfl, xl, tb, k⟩ := h
  refine ⟨_, pss_cons (ps_for PassesOwn.never rfl (pi_kkeys (pe_glob (v := .ref S) (by rfl) C.gl rfl)) (pg_name (i := 1) scRSay.nd rfl (.inl rfl))
      (pss_cons (ps_asg (pe_partition (pv 0) (pe_ix ix_kdict (pe_glob (v := .ref S) (by rfl) C.gl rfl) (pv 1) (fun _ _ => rfl))) (pg_tup (by rfl) (pgs_cons (pg_name (i := 2) scRSay.nd rfl (.inl rfl)) <| pgs_cons (pg_name (i := 3) scRSay.nd rfl (.inl rfl)) <| pgs_cons (pg_name (i := 4) scRSay.nd rfl (.inl rfl)) pgs_nil))) <|
       pss_cons (ps_set (i := 5) scRSay.nd rfl (.inl rfl) (pe_call G hr rfl mG kG bG .nil pass0 (pa_cons (pv 4) pa_nil))) <|
       pss_one (ps_if (PW.pt (pw_and (pt_val (pe_call N hr rfl mN kN bN .nil pass0 (pa_cons (pv 2) pa_nil))) (pw_and1 (pt_cmpR op_notN (pv 5) pe_non (nomark _))))) (pss_one (ps_ret (pe_tup (pa_cons (pv 2) (pa_cons (pv 1) (pa_cons (pv 5) pa_nil)))))) pss_nil))) <|
    pss_one (ps_ret pe_non), ?_⟩
  have sl := sizeLine_eq
  refine ⟨S, _, rfl, C.ks, for_kk (zs := ["least", "most"]) (fun j σ H1 => ∃ v1 v2 v3 v4 v5 : Option V, σ = [some (.str x), v1, v2, v3, v4, v5] ∧ GrS Ps H H1 ∧ (1 ≤ j → sayS1 x ">=" "least" = none) ∧ (2 ≤ j → sayS1 x "<=" "most" = none))
    ⟨none, none, none, none, none, rfl, GrS.refl tb, by omega, by omega⟩ ?_ ?_⟩
  · rintro j y σ H1 hj ⟨v1, v2, v3, v4, v5, rfl, g1, hm1, hm2⟩
    have jc : (j = 0 ∧ y = "least" ∧ sgnS y = ">=") ∨ (j = 1 ∧ y = "most" ∧ sgnS y = "<=") := by
      match j, hj with
      | 0, e => exact .inl ⟨rfl, (Option.some.inj e).symm, by rw [← Option.some.inj e]; decide +kernel⟩
      | 1, e => exact .inr ⟨rfl, (Option.some.inj e).symm, by rw [← Option.some.inj e]; decide +kernel⟩
      | j + 2, e => simp at e
    have ys : y ∈ sorts2 := by
      rcases jc with ⟨_, e3, _⟩ | ⟨_, e3, _⟩ <;> rw [e3] <;> decide +kernel
    have sgl : ((sgnS y).length == 0) = false := by
      rcases jc with ⟨_, _, e3⟩ | ⟨_, _, e3⟩ <;> rw [e3] <;> decide +kernel
    have sgn : tl (sgnS y) ≠ [] := by
      rcases jc with ⟨_, _, e3⟩ | ⟨_, _, e3⟩ <;> rw [e3]
      · exact ge_ne
      · exact lq_ne
    -- what is found, or not
    have hit : ∀ t : Say, sayS1 x (sgnS y) y = some t → sayR x = some t := fun t e => by
      unfold sayR
      rcases jc with ⟨_, e2, e3⟩ | ⟨e1, e2, e3⟩
      · rw [e3, e2] at e
        rw [e]
      · rw [e3, e2] at e
        rw [hm1 (by omega)]
        exact e
    have miss : sayS1 x (sgnS y) y = none → (1 ≤ j + 1 → sayS1 x ">=" "least" = none) ∧ (2 ≤ j + 1 → sayS1 x "<=" "most" = none) := fun e => by
      rcases jc with ⟨e1, e2, e3⟩ | ⟨e1, e2, e3⟩
      · rw [e3, e2] at e
        exact ⟨fun _ => e, fun h => by omega⟩
      · rw [e3, e2] at e
        exact ⟨fun _ => hm1 (by omega), fun _ => e⟩
    refine ⟨_, rfl, ⟨_, rfl⟩, _, rfl, S, y, _, rfl, rfl, C.at ys, _, _, rfl, rfl, sgl, by omega, fun p hp => ?_⟩
    -- the three parts
    obtain ⟨a, m, r, epart, al, rl, sone⟩ : ∃ a m r : Str, Txt.partition x (sgnS y) = (a, m, r) ∧ a.length ≤ x.length ∧ r.length ≤ x.length ∧ sayS1 x (sgnS y) y = if (nameD (.str a) && (numW r).isSome) = true then some (a, y, (numW r).getD 0) else none := by
      rw [part_cut sgn]
      unfold sayS1
      cases e : cutM x (sgnS y) with
      | none => exact ⟨x, Str.empty, Str.empty, rfl, Nat.le_refl _, Nat.zero_le _, by rw [numW_empty]; simp⟩
      | some p =>
        obtain ⟨a, r⟩ := p
        have ap := congrArg List.length (cutM_app sgn e)
        rw [List.length_append, List.length_append, ← len_tl x, ← len_tl a, ← len_tl r] at ap
        exact ⟨a, sgnS y, r, rfl, by omega, by omega, rfl⟩
    rw [epart]
    have s2 := GrS.new g1.1 (GrS.refl g1.1) hp (o := .tup [.str a, .str m, .str r]) (by intro q z; cases z)
    refine ⟨p, _, rfl, SqT.of upd_same, rfl, _, _, rfl, _, _, rfl, _, _, rfl, rfl, ?_⟩
    have g2 := g1.trans s2
    show tSeq _ _ _ _ (L2.upd H1 p (.tup [.str a, .str m, .str r]))
    generalize L2.upd H1 p (.tup [.str a, .str m, .str r]) = H2 at g2
    refine ⟨_, rfl, r, rfl, by omega, g2.1 _ h1, fun H3 g3 => ?_⟩
    have g3' := g2.trans (GrS.of h1 g2.1 g3)
    refine ⟨_, rfl, _, _, rfl, .str a, g3'.1 _ h2, fun z e => by cases e; show a.length ≤ sizeLine; omega, fun H4 g4 => ?_⟩
    have g4' := g3'.trans (GrS.of h2 g3'.1 g4)
    refine ⟨_, rfl, ?_⟩
    cases nd' : nameD (.str a) with
    | false =>
      rw [nd'] at sone
      refine iteF (iteF ⟨_, _, _, _, _, rfl, g4', miss ?_⟩)
      rw [sone]
      rfl
    | true =>
      rw [nd'] at sone
      refine iteT ⟨_, rfl, rfl, _, rfl, ?_⟩
      cases en : numW r with
      | none =>
        rw [en] at sone
        exact iteF ⟨_, _, _, _, _, rfl, g4', miss (by rw [sone]; rfl)⟩
      | some i =>
        rw [en] at sone
        refine iteT ⟨_, rfl, _, rfl, _, rfl, by show 3 ≤ sizeLine; decide, fun q hq => ?_⟩
        refine k (.ref q) _ (GrS.new g4'.1 (GrS.refl g4'.1) hq (by intro q z; cases z) |> fun s => g4'.trans s) ?_
        rw [hit (a, y, i) (by rw [sone]; rfl)]
        exact ⟨q, rfl, upd_same⟩
  · rintro σ H1 ⟨v1, v2, v3, v4, v5, rfl, g1, hm1, hm2⟩
    refine k .non H1 g1 ?_
    unfold sayR
    rw [hm1 (by decide), hm2 (by decide)]
    rfl
abbrev nRBy : List Str := ["word", "number"]
theorem scRBy : FnScope nRBy ["word"] (defScope sRBy) := ⟨rfl, rfl, rfl, by decide +kernel, rfl, by decide +kernel, by decide +kernel⟩
theorem ok_rby {f g : Addr} {fd gd : FuncData} (h1 : P1 ∈ Ps) (F : Fun K "read_by" "read_by" sRBy f fd) (mBY : ∃ t, mg "BY_ITSELF" = some (.int (-1) t))
    (G : FnOk P w K mg base CX0 2 g gd ["word"] (spRNum P1)) (bG : Binds K gd ["word"] []) (kG : PySem.W.keepIn K (.ref g) = true) (mG : mg "read_number" = some (.ref g)) :
    FnOk P w K mg base CX0 3 f fd ["word"] (spRBy Ps) := by
  refine F.ok scRBy (fun vs H Q E h => ?_) (fun cdv A outer s H vs Q E hr h => ?_)
  · obtain ⟨x, rfl, _⟩ := h
    rfl
  obtain ⟨x, rfl, xl, tb, k⟩ := h
  obtain ⟨tk, hby⟩ := mBY
  refine ⟨_, pss_cons (ps_if (pt_cmpR op_eq (pv 0) pe_str (nomark _)) (pss_one (ps_ret (pe_glob (v := .int (-1)) (by rfl) hby ⟨_, rfl⟩))) pss_nil) <|
    pss_cons (ps_set (i := 1) scRBy.nd rfl (.inl rfl) (pe_call G hr rfl mG kG bG .nil pass0 (pa_cons (pv 0) pa_nil))) <|
    pss_one (ps_ret (pe_ifExp (pt_cmpR op_eq (pv 1) (pe_glob (v := .int (-1)) (by rfl) hby ⟨_, rfl⟩) (nomark _)) pe_non (pv 1))), ?_⟩
  refine ⟨_, rfl, rfl, _, rfl, ?_⟩
  by_cases c : x = "="
  · rw [decide_eq_true (show V.str x = V.str "=" by rw [c])]
    have q := k H (GrS.refl tb)
    unfold byR at q
    rw [if_pos c] at q
    exact iteT q
  · rw [decide_eq_false (fun z => c (V.str.inj z))]
    refine iteF ⟨_, rfl, x, rfl, xl, tb _ h1, fun H2 g2 => ?_⟩
    have q := k H2 (GrS.of h1 tb g2)
    unfold byR at q
    rw [if_neg c] at q
    refine ⟨_, rfl, ?_, _, rfl, ?_⟩
    · cases numW x <;> rfl
    cases e : numW x with
    | none =>
      rw [e, if_neg (by simp)] at q
      rw [decide_eq_false (show ¬ vI none = V.int (-1) by simp [vI])]
      exact iteF ⟨_, rfl, q⟩
    | some i =>
      by_cases m : i = -1
      · rw [e, m, if_pos rfl] at q
        rw [m, decide_eq_true (show vI (some (-1)) = V.int (-1) from rfl)]
        exact iteT q
      · rw [e, if_neg (fun z => m (Option.some.inj z))] at q
        rw [decide_eq_false (show ¬ vI (some i) = V.int (-1) by simpa [vI] using m)]
        exact iteF ⟨_, rfl, q⟩
end
end Pk
end
section
set_option maxHeartbeats 1000000
/-! is_any_saying, is_any_link, has_chain_form. -/
namespace Pk
open PySem PySem.Spec PyProof.Rows L2 TL
abbrev sASay : Stmt := topH 24
abbrev sALink : Stmt := topH 25
abbrev sForm : Stmt := topH 26
def spASay (Ps : List Addr) : Sp := fun vs H Q _ => ∃ (x : V) (d : PyData), vs = [x] ∧ Tr H x d ∧ okS d = true ∧ Tabs Ps H ∧ ∀ H', GrS Ps H H' → Q (.bl (anySayD d)) H'
def spALink (Ps : List Addr) : Sp := fun vs H Q _ => ∃ (x : V) (d : PyData), vs = [x] ∧ Tr H x d ∧ okS d = true ∧ Tabs Ps H ∧ ∀ H', GrS Ps H H' → Q (.bl (linkD d)) H'
def spFormC (Ps : List Addr) : Sp := fun vs H Q _ => ∃ (x : V) (d : PyData), vs = [x] ∧ Tr H x d ∧ okS d = true ∧ Tabs Ps H ∧ ∀ H', GrS Ps H H' → Q (.bl (formC d)) H'
theorem anySay_not {d : PyData} (h : tupD 3 3 d = false) : anySayD d = false := by
  unfold anySayD
  split
  · simp [tupD] at h
  · rfl
theorem link_not {d : PyData} (h : tupD 2 2 d = false) : linkD d = false := by
  unfold linkD
  split
  · simp [tupD] at h
  · rfl
theorem first_not {d : PyData} (h : tupD 2 2 d = false) : firstD d = false := by
  unfold firstD
  split
  · simp [tupD] at h
  · rfl
theorem strIs_self (z : Str) : strIs z (.str z) = true := by simp [strIs]
section
variable {P : Program} {w : World} {K : PySem.W.Frag} {mg : Str → Option Value} {base : Heap} {Ps : List Addr} {P1 P2 : Addr}
theorem scASay : FnScope ["thing"] ["thing"] (defScope sASay) := ⟨rfl, rfl, rfl, by decide +kernel, rfl, by decide +kernel, by decide +kernel⟩
theorem ok_asay {f g1 g2 g3 : Addr} {fd d1 d2 d3 : FuncData} (h2 : P2 ∈ Ps) (F : Fun K "is_any_saying" "is_any_saying" sASay f fd)
    (G1 : FnOk P w K mg base CX0 1 g1 d1 ["thing", "least", "most"] spTupOf) (b1 : Binds K d1 ["thing", "least", "most"] []) (k1 : PySem.W.keepIn K (.ref g1) = true) (m1 : mg "is_tuple_of" = some (.ref g1))
    (G2 : FnOk P w K mg base CX0 2 g2 d2 ["thing"] (spIsName P2)) (b2 : Binds K d2 ["thing"] []) (k2 : PySem.W.keepIn K (.ref g2) = true) (m2 : mg "is_name" = some (.ref g2))
    (G3 : FnOk P w K mg base CX0 2 g3 d3 ["names", "thing"] spIsSaying) (b3 : Binds K d3 ["names", "thing"] []) (k3 : PySem.W.keepIn K (.ref g3) = true) (m3 : mg "is_saying" = some (.ref g3)) :
    FnOk P w K mg base CX0 3 f fd ["thing"] (spASay Ps) := by
  refine F.ok scASay (fun vs H Q E h => ?_) (fun cdv A outer s H vs Q E hr h => ?_)
  · obtain ⟨x, d, rfl, _⟩ := h
    rfl
  obtain ⟨x, d, rfl, t, ok, tb, k⟩ := h
  have hr1 : Room 1 _ := hr.mono (by decide)
  refine ⟨_, pss_one (ps_ret (pe_and (pe_call G1 hr1 rfl m1 k1 b1 .nil pass0 (pa_cons (pv 0) (pa_cons pe_int (pa_cons pe_int pa_nil)))) (pe_and (pe_call G2 hr rfl m2 k2 b2 .nil pass0 (pa_cons (pe_ix ix_tup (pv 0) pe_int (fun _ _ => rfl)) pa_nil))
      (pe_one (pe_call G3 hr rfl m3 k3 b3 .nil pass0 (pa_cons (pe_lst (pa_cons (pe_ix ix_tup (pv 0) pe_int (fun _ _ => rfl)) pa_nil)) (pa_cons (pv 0) pa_nil))))))), ?_⟩
  refine ⟨_, rfl, x, d, 3, 3, rfl, t, _, rfl, ?_⟩
  cases c1 : tupD 3 3 d with
  | false =>
    have q := k H (GrS.refl tb)
    rw [anySay_not c1] at q
    exact iteF q
  | true =>
    obtain ⟨da, db, dc, rfl⟩ := tupD3 c1
    cases t with
    | @tup b xs _ h al =>
    match xs, al with
    | [xa, xb, xc], .cons ta (.cons tb' (.cons tc .nil)) =>
    refine iteT ⟨_, rfl, b, _, _, _, rfl, rfl, SqT.of h, rfl, xa, da, rfl, ta, tb _ h2, fun z e => ?_, fun H2 g2 => ⟨_, rfl, ?_⟩⟩
    · subst e
      rw [okS, okSs, Bool.and_eq_true] at ok
      have := of_decide_eq_true (show decide (z.length ≤ 100000) = true from ok.1)
      have sl := sizeLine_eq
      omega
    have gs := GrS.of h2 tb g2
    have h' := gs.at tb h (by intro q z; cases z)
    have ta' := ta.grs tb gs
    cases c2 : nameD da with
    | false =>
      have q := k H2 gs
      rw [show anySayD (.tuple [da, db, dc]) = (nameD da && (inS sorts2 db && wholeD (-greatS) greatS dc)) from rfl, c2] at q
      exact iteF q
    | true =>
      obtain ⟨z, rfl⟩ : ∃ z, da = .str z := by cases da <;> first | exact ⟨_, rfl⟩ | (simp [nameD] at c2)
      cases ta'
      refine iteT ⟨_, rfl, b, _, _, _, rfl, rfl, SqT.of h', rfl, by show 1 ≤ sizeLine; decide, fun l hl => ?_⟩
      have s3 := sameNew hl (.lst [V.str z])
      have g3 := gs.trans (GrS.same gs.1 s3)
      refine ⟨_, rfl, l, [z], .ref b, .tuple [.str z, db, dc], rfl, upd_same, ?_, ?_⟩
      · exact (Tr.tup h (.cons (.str z) (.cons tb' (.cons tc .nil)))).grs tb g3
      · have q := k _ g3
        rw [show anySayD (.tuple [.str z, db, dc]) = (nameD (.str z) && (inS sorts2 db && wholeD (-greatS) greatS dc)) from rfl, c2] at q
        have e : sayingD [z] (.tuple [.str z, db, dc]) = (inS sorts2 db && wholeD (-greatS) greatS dc) := by
          show (inS [z] (.str z) && (inS sorts2 db && wholeD (-greatS) greatS dc)) = _
          have : inS [z] (.str z) = true := by unfold inS; simp [strIs]
          rw [this]
          rfl
        rw [e]
        exact q
theorem scALink : FnScope ["thing"] ["thing"] (defScope sALink) := ⟨rfl, rfl, rfl, by decide +kernel, rfl, by decide +kernel, by decide +kernel⟩
theorem ok_alink {f g1 g2 g3 : Addr} {fd d1 d2 d3 : FuncData} (F : Fun K "is_any_link" "is_any_link" sALink f fd) (mBY : ∃ t, mg "BY_ITSELF" = some (.int (-1) t)) (mMR : ∃ t, mg "MOST_RULES" = some (.int 40 t))
    (G1 : FnOk P w K mg base CX0 1 g1 d1 ["thing", "least", "most"] spTupOf) (b1 : Binds K d1 ["thing", "least", "most"] []) (k1 : PySem.W.keepIn K (.ref g1) = true) (m1 : mg "is_tuple_of" = some (.ref g1))
    (G2 : FnOk P w K mg base CX0 3 g2 d2 ["thing"] (spASay Ps)) (b2 : Binds K d2 ["thing"] []) (k2 : PySem.W.keepIn K (.ref g2) = true) (m2 : mg "is_any_saying" = some (.ref g2))
    (G3 : FnOk P w K mg base CX0 1 g3 d3 ["thing", "low", "high"] spWhole) (b3 : Binds K d3 ["thing", "low", "high"] []) (k3 : PySem.W.keepIn K (.ref g3) = true) (m3 : mg "is_whole" = some (.ref g3)) :
    FnOk P w K mg base CX0 4 f fd ["thing"] (spALink Ps) := by
  refine F.ok scALink (fun vs H Q E h => ?_) (fun cdv A outer s H vs Q E hr h => ?_)
  · obtain ⟨x, d, rfl, _⟩ := h
    rfl
  obtain ⟨x, d, rfl, t, ok, tb, k⟩ := h
  obtain ⟨tk, hby⟩ := mBY
  obtain ⟨tm, hmr⟩ := mMR
  have hr1 : Room 1 _ := hr.mono (by decide)
  refine ⟨_, pss_cons (ps_if (pt_not (pt_val (pe_call G1 hr1 rfl m1 k1 b1 .nil pass0 (pa_cons (pv 0) (pa_cons pe_int (pa_cons pe_int pa_nil)))))) (pss_one (ps_ret pe_bl)) pss_nil) <|
    pss_one (ps_ret (pe_and (pe_call G2 hr rfl m2 k2 b2 .nil pass0 (pa_cons (pe_ix ix_tup (pv 0) pe_int (fun _ _ => rfl)) pa_nil))
      (pe_one (pe_call G3 hr1 rfl m3 k3 b3 .nil pass0 (pa_cons (pe_ix ix_tup (pv 0) pe_int (fun _ _ => rfl)) (pa_cons (pe_glob (v := .int (-1)) (by rfl) hby ⟨_, rfl⟩) (pa_cons (pe_op op_sub (pe_glob (v := .int 40) (by rfl) hmr ⟨_, rfl⟩) pe_int) pa_nil))))))), ?_⟩
  refine ⟨_, rfl, x, d, 2, 2, rfl, t, _, rfl, ?_⟩
  cases c1 : tupD 2 2 d with
  | false =>
    have q := k H (GrS.refl tb)
    rw [link_not c1] at q
    exact iteT q
  | true =>
    obtain ⟨da, db, rfl⟩ := tupD2 c1
    cases t with
    | @tup b xs _ h al =>
    match xs, al with
    | [xa, xb], .cons ta (.cons tb' .nil) =>
    have oka : okS da = true := by
      rw [okS, okSs, Bool.and_eq_true] at ok
      exact ok.1
    refine iteF ⟨_, rfl, b, _, _, _, rfl, rfl, SqT.of h, rfl, xa, da, rfl, ta, oka, tb, fun H2 gs => ⟨_, rfl, ?_⟩⟩
    have h' := gs.at tb h (by intro q z; cases z)
    have q := k H2 gs
    rw [show linkD (.tuple [da, db]) = (anySayD da && wholeD (-1) 39 db) from rfl] at q
    cases c2 : anySayD da with
    | false =>
      rw [c2] at q
      exact iteF q
    | true =>
      rw [c2] at q
      exact iteT ⟨_, rfl, b, _, _, _, rfl, rfl, SqT.of h', rfl, _, _, rfl, rfl, xb, db, -1, 39, rfl, tb'.grs tb gs, q⟩
end
end Pk
end
section
set_option maxHeartbeats 1000000
/-! has_chain_form. -/
namespace Pk
open PySem PySem.Spec PyProof.Rows L2 TL
theorem okSs_mem : ∀ {ds : List PyData}, okSs ds = true → ∀ d ∈ ds, okS d = true
  | [], _, _, h => by cases h
  | x :: ds, h, d, hd => by
    rw [okSs, Bool.and_eq_true] at h
    rcases List.mem_cons.mp hd with rfl | hd
    · exact h.1
    · exact okSs_mem h.2 d hd
theorem cutV_tail {xs : List V} : cutV xs (some 1) none = xs.drop 1 := by
  unfold cutV
  rw [HT.sIx_none, show (some (1 : Int)) = some ((1 : Nat) : Int) from rfl, HT.sIx_nat]
  by_cases h : 1 ≤ xs.length
  · rw [Nat.min_eq_left h, List.take_of_length_le (by rw [List.length_drop]; exact Nat.le_refl _)]
  · rw [Nat.min_eq_right (by omega), Nat.sub_self, List.take_zero, List.drop_of_length_le (by omega)]
section
variable {P : Program} {w : World} {K : PySem.W.Frag} {mg : Str → Option Value} {base : Heap} {Ps : List Addr} {P1 P2 P3 : Addr}
abbrev nForm : List Str := ["thing", "first"]
theorem scForm : FnScope nForm ["thing"] (defScope sForm) := ⟨rfl, rfl, rfl, by decide +kernel, rfl, by decide +kernel, by decide +kernel⟩
/-- the scope of its generator expression -/
def scGenF : Scope := { kind := .function, names := [(".0", .local), ("link", .local), ("is_any_link", .globalImplicit)], isGenerator := true, isCoroutine := false }
theorem ndForm : ((["link"] : List Str) ++ nForm).Nodup := by decide +kernel
theorem goForm : GenO nForm (defScope sForm) scGenF ["link"] := ⟨rfl, rfl, by decide +kernel, rfl, by decide +kernel, by decide +kernel⟩
theorem ok_form {f c g1 g2 g3 : Addr} {d1 d2 d3 : FuncData} {oc : Value} {od an : Option Addr} {osl : Array (Option Value)} {kV doc pm ct : Value} (h3 : P3 ∈ Ps) (lk : K.lookup f = some ⟨oc, od, .func (PySem.W.fnOf "has_chain_form" "has_chain_form" (defArgs sForm) (defBody sForm) (defScope sForm) .none kV doc pm an (.ref c) ct), osl⟩) (hcd : PySem.W.codeIn K (.ref c) "has_chain_form" = true)
    (TB : GxR.TabB base mg c P3) (B : BltH mg) (mLC : ∃ t, mg "LONGEST_CHAIN" = some (.int 2000 t))
    (G1 : FnOk P w K mg base CX0 1 g1 d1 ["thing", "least", "most"] spTupOf) (b1 : Binds K d1 ["thing", "least", "most"] []) (k1 : PySem.W.keepIn K (.ref g1) = true) (m1 : mg "is_tuple_of" = some (.ref g1))
    (G2 : FnOk P w K mg base CX0 3 g2 d2 ["thing"] (spASay Ps)) (b2 : Binds K d2 ["thing"] []) (k2 : PySem.W.keepIn K (.ref g2) = true) (m2 : mg "is_any_saying" = some (.ref g2))
    (G3 : FnOk P w K mg base CX0 4 g3 d3 ["thing"] (spALink Ps)) (b3 : Binds K d3 ["thing"] []) (k3 : PySem.W.keepIn K (.ref g3) = true) (m3 : mg "is_any_link" = some (.ref g3)) :
    FnOk P w K mg base CX0 7 f (PySem.W.fnOf "has_chain_form" "has_chain_form" (defArgs sForm) (defBody sForm) (defScope sForm) .none kV doc pm an (.ref c) ct) ["thing"] (spFormC Ps) := by
  refine fn_of lk hcd scForm (fun vs H Q E h => ?_) (fun A outer s H vs Q E hr h => ?_)
  · obtain ⟨x, d, rfl, _⟩ := h
    rfl
  obtain ⟨x, d, rfl, t, ok, tb, k⟩ := h
  obtain ⟨tl0, hlc⟩ := mLC
  have hr1 : Room 1 _ := hr.mono (by decide)
  have hr3 : Room 3 _ := hr.mono (by decide)
  have hr6 : Room (4 + 2) _ := hr
  refine ⟨_, PSs.nox (pss_cons (ps_if (PW.pt (pw_or (pt_not (pt_val (pe_callB call_isT (by rfl) B.isinstance (by decide +kernel) (pa_cons (pv 0) (pa_cons (pe_bltn (v := .ty "list") (by rfl) B.list (by decide +kernel) rfl) pa_nil))))) (pw_or1 (pt_not (pt_chain op_le op_le pe_int (pe_callB call_len_seq (by rfl) B.len PySem.boot_len (pa_cons (pv 0) pa_nil)) (pe_glob (v := .int 2000) (by rfl) hlc ⟨_, rfl⟩)))))) (pss_one (ps_ret pe_bl)) pss_nil) <|
    pss_cons (ps_set (i := 1) scForm.nd rfl (.inl rfl) (pe_ix ix_list (pv 0) pe_int (fun _ _ => rfl))) <|
    pss_cons (ps_if (PW.pt (pw_or (pt_not (pt_val (pe_call G1 hr1 rfl m1 k1 b1 .nil pass0 (pa_cons (pv 1) (pa_cons pe_int (pa_cons pe_int pa_nil)))))) (pw_or (pt_not (pt_val (pe_call G2 hr3 rfl m2 k2 b2 .nil pass0 (pa_cons (pe_ix ix_tup (pv 1) pe_int (fun _ _ => rfl)) pa_nil)))) (pw_or1 (pt_cmpR op_notN (pe_ix ix_tup (pv 1) pe_int (fun _ _ => rfl)) pe_non (nomark _)))))) (pss_one (ps_ret pe_bl)) pss_nil) <|
    pss_one (ps_ret (pe_allG (own := ["link"]) (k := 4) hr6 (by rfl) B.all TB rfl goForm (pi_list (pe_slice sl_list (pv 0) (po_some pe_int) po_none))
      (fun A' s' H' C' code fp pn _ => pg_name (i := 0) ndForm rfl (.inl rfl))
      (fun A' s' H' C' code fp pn hr' => pe_call G3 hr' rfl m3 k3 b3 .nil pass0 (pa_cons (pv 0) pa_nil)) (fun _ => rfl)))), ?_⟩
  cases hl : isLst d with
  | false =>
    have q := k H (GrS.refl tb)
    have e : formC d = false := by cases d <;> first | rfl | (simp [isLst] at hl)
    rw [e] at q
    refine ⟨_, rfl, x, "list", d, isLst, rfl, kL, t, _, rfl, ?_⟩
    rw [hl]
    exact iteT q
  | true =>
    obtain ⟨ds, rfl⟩ : ∃ ds, d = .list ds := by cases d <;> first | exact ⟨_, rfl⟩ | (simp [isLst] at hl)
    cases t with
    | @lst a xs _ ha al =>
    have ll := al.length
    refine ⟨_, rfl, _, "list", .list ds, isLst, rfl, kL, .lst ha al, _, rfl, ?_⟩
    rw [hl]
    refine iteF ⟨_, rfl, a, _, rfl, .inl (SqL.of ha), _, _, rfl, rfl, _, rfl, ?_⟩
    by_cases c1 : 1 ≤ xs.length
    · rw [decide_eq_true (show (1 : Int) ≤ ((xs.length : Nat) : Int) by omega)]
      refine iteT ⟨_, _, rfl, rfl, _, rfl, ?_⟩
      by_cases c2 : xs.length ≤ 2000
      · rw [decide_eq_true (show ((xs.length : Nat) : Int) ≤ 2000 by omega)]
        cases al with
        | nil => simp at c1
        | @cons x0 vs d0 ds' t0 al' =>
        have okd : okS d0 = true ∧ okSs ds' = true := by
          rw [okS, okSs, Bool.and_eq_true] at ok
          exact ok
        have ef : formC (.list (d0 :: ds')) = (firstD d0 && ds'.all linkD) := by
          show (decide ((d0 :: ds').length ≤ 2000) && (firstD d0 && ds'.all linkD)) = _
          rw [decide_eq_true (by rw [← ll]; exact c2), Bool.true_and]
        rw [ef] at k
        refine iteF ⟨_, rfl, a, _, _, _, rfl, rfl, SqL.of ha, atI_nat (xs := x0 :: vs) (j := 0) (v := x0) rfl, ?_⟩
        refine ⟨_, rfl, x0, d0, 2, 2, rfl, t0, _, rfl, ?_⟩
        cases c3 : tupD 2 2 d0 with
        | false =>
          have q := k H (GrS.refl tb)
          rw [first_not c3] at q
          exact iteT q
        | true =>
          obtain ⟨da, db, rfl⟩ := tupD2 c3
          cases t0 with
          | @tup b ys _ hb alb =>
          match ys, alb with
          | [xa, xb], .cons ta (.cons tb' .nil) =>
          have oka : okS da = true := by
            have := okd.1
            rw [okS, okSs, Bool.and_eq_true] at this
            exact this.1
          refine iteF ⟨_, rfl, b, _, _, _, rfl, rfl, SqT.of hb, rfl, xa, da, rfl, ta, oka, tb, fun H2 gs => ⟨_, rfl, ?_⟩⟩
          have hb' := gs.at tb hb (by intro q z; cases z)
          have ha' := gs.at tb ha (by intro q z; cases z)
          cases c4 : anySayD da with
          | false =>
            have q := k H2 gs
            have e : firstD (.tuple [da, db]) = false := by
              unfold firstD
              split
              · rename_i s e
                cases e
                exact c4
              · rfl
            rw [e] at q
            exact iteT q
          | true =>
            refine iteF ⟨_, rfl, b, _, _, _, rfl, rfl, SqT.of hb', rfl, rfl, _, rfl, ?_⟩
            by_cases c5 : db = .none
            · subst c5
              cases tb'
              have e : firstD (.tuple [da, .none]) = true := c4
              rw [e] at k
              refine iteF ⟨_, rfl, 1, rfl, a, _, rfl, SqL.of ha', fun D hD => ?_⟩
              have s3 := sameNew hD (.lst (cutV (.ref b :: vs) (some 1) none))
              have g3 := gs.trans (GrS.same gs.1 s3)
              have al3 : TrAll (L2.upd H2 D (.lst (cutV (.ref b :: vs) (some 1) none))) vs ds' := al'.grs tb g3
              have hD3 : L2.upd H2 D (.lst (cutV (.ref b :: vs) (some 1) none)) D = some (.lst vs) := by rw [upd_same, cutV_tail]; rfl
              generalize L2.upd H2 D (.lst (cutV (.ref b :: vs) (some 1) none)) = H3 at g3 al3 hD3
              refine ⟨D, rfl, ⟨_, SqL.of hD3⟩, g3.1 _ h3, fun H4 tb4 => ?_⟩
              have g4 := g3.trans (GrS.of h3 g3.1 (Gr.of tb4))
              refine qu_it (walk_list (xs := vs)) (fun i H5 => GrS Ps H H5 ∧ GrS Ps H3 H5 ∧ (ds'.take i).all linkD = true) ⟨g4, GrS.of h3 g3.1 (Gr.of tb4), rfl⟩ (fun i H5 _ ⟨_, g5, _⟩ => SqL.of (g5.at g3.1 hD3 (by intro q z; cases z))) ?_ ?_
              · rintro i y H5 H6 hi ⟨g5, g35, ta5⟩ ⟨rfl, hy⟩
                obtain ⟨dy, hdy, ty⟩ := al3.get hy
                refine ⟨rfl, _, rfl, y, dy, rfl, ty.grs g3.1 g35, okSs_mem okd.2 dy (List.mem_of_getElem? hdy), g5.1, fun H7 g7 => ⟨_, rfl, fun e => ?_, fun e => ⟨g5.trans g7, g35.trans g7, ?_⟩⟩⟩
                · have q := k H7 (g5.trans g7)
                  have : ds'.all linkD = false := by
                    rw [Bool.eq_false_iff]
                    intro z
                    have := List.all_eq_true.mp z dy (List.mem_of_getElem? hdy)
                    rw [e] at this
                    cases this
                  rw [this] at q
                  exact q
                · rw [take_more hdy, List.all_append, ta5]
                  cases hh : linkD dy with
                  | true => simp [hh]
                  | false => exact absurd hh e
              · rintro H5 ⟨g5, _, ta5⟩
                have q := k H5 g5
                have lv : vs.length = ds'.length := al'.length
                rw [lv, List.take_length] at ta5
                rw [ta5] at q
                exact q
            · have nx : xb ≠ .non := fun z => by
                subst z
                cases tb'
                exact c5 rfl
              rw [decide_eq_false nx]
              have q := k H2 gs
              have e : firstD (.tuple [da, db]) = false := by
                unfold firstD
                split
                · rename_i s e
                  cases e
                  exact absurd rfl c5
                · rfl
              rw [e] at q
              exact iteT q
      · rw [decide_eq_false (show ¬ ((xs.length : Nat) : Int) ≤ 2000 by omega)]
        have q := k H (GrS.refl tb)
        have e : formC (.list ds) = false := by
          cases ds with
          | nil => rfl
          | cons f r =>
            show (decide ((f :: r).length ≤ 2000) && _) = false
            rw [decide_eq_false (by rw [← ll]; exact c2)]
            rfl
        rw [e] at q
        exact iteT q
    · rw [decide_eq_false (show ¬ (1 : Int) ≤ ((xs.length : Nat) : Int) by omega)]
      have q := k H (GrS.refl tb)
      have e : formC (.list ds) = false := by
        cases ds with
        | nil => rfl
        | cons f r => rw [List.length_cons] at ll; omega
      rw [e] at q
      exact iteF ⟨_, rfl, iteT q⟩
end
end Pk
end
section
set_option maxHeartbeats 1000000
/-! show_chain. -/
namespace Pk
open PySem PySem.Spec PyProof.Rows L2 TL
abbrev sShow : Stmt := topH 27
mutual
/-- data without lists and dicts -/
def noL : PyData → Bool
  | .list _ => false
  | .dict _ => false
  | .tuple ds => noLs ds
  | _ => true
def noLs : List PyData → Bool
  | [] => true
  | d :: ds => noL d && noLs ds
end
mutual
theorem Tr.keepL {H : Hp} {a : Addr} {ys : List V} {o : HO} (ha : H a = some (.lst ys)) : ∀ {v : V} {d : PyData}, Tr H v d → noL d = true → Tr (L2.upd H a o) v d
  | _, _, .non, _ => .non
  | _, _, .bl b, _ => .bl b
  | _, _, .int i, _ => .int i
  | _, _, .str x, _ => .str x
  | _, _, .lst _ _, h => by simp [noL] at h
  | _, _, .dct _ _ _ _, h => by simp [noL] at h
  | _, _, .tup h al, hn => .tup (by rw [upd_ne (fun z => by rw [z, ha] at h; cases h)]; exact h) (TrAll.keepL ha al (by simpa [noL] using hn))
theorem TrAll.keepL {H : Hp} {a : Addr} {ys : List V} {o : HO} (ha : H a = some (.lst ys)) : ∀ {vs : List V} {ds : List PyData}, TrAll H vs ds → noLs ds = true → TrAll (L2.upd H a o) vs ds
  | _, _, .nil, _ => .nil
  | _, _, .cons h t, hn => by
    rw [noLs, Bool.and_eq_true] at hn
    exact .cons (Tr.keepL ha h hn.1) (TrAll.keepL ha t hn.2)
end
theorem noLs_all : ∀ {ds : List PyData}, (∀ d ∈ ds, noL d = true) → noLs ds = true
  | [], _ => rfl
  | d :: ds, h => by rw [noLs, h d List.mem_cons_self, noLs_all fun e he => h e (List.mem_cons_of_mem _ he)]; rfl
theorem noLs_links (l : List (Say × Int)) : noLs (l.map fun p => PyData.tuple [sayP p.1, .int p.2]) = true := noLs_all fun d hd => by
  obtain ⟨p, _, rfl⟩ := List.mem_map.mp hd
  rfl
structure RefTxt (K : PySem.W.Frag) (mg : Str → Option Value) (x : Str) (C : Addr) : Prop where
  q : PySem.W.excIn K C [.type "ValueError", .type "Exception", .type "BaseException", .type "object"] "ValueError.__new__" = true
  gC : mg x = some (.ref C)
  kC : PySem.W.keepIn K (.ref C) = true
  sB : PySem.W.subIn K (.ref C) (.type "BaseException") = some true
  tC : PySem.W.typeIn K (.ref C) = some (.type "type")
/-- the words of a chain's first k things -/
def wordsT (s0 : Say) (l : List (Say × Int)) (i : Nat) : List Str := sayW s0 :: (l.take i).flatMap fun p => [byW p.2, sayW p.1]
theorem wordsT_all (s0 : Say) (l : List (Say × Int)) : wordsT s0 l l.length = wordsC s0 l := by
  unfold wordsT wordsC
  rw [List.take_length]
theorem wordsT_step {s0 : Say} {l : List (Say × Int)} {i : Nat} {p : Say × Int} (h : l[i]? = some p) : wordsT s0 l (i + 1) = wordsT s0 l i ++ [byW p.2, sayW p.1] := by
  unfold wordsT
  rw [take_more h, List.flatMap_append, List.cons_append]
  rfl
theorem wordsT_len (s0 : Say) (l : List (Say × Int)) (i : Nat) (h : i ≤ l.length) : (wordsT s0 l i).length = 1 + 2 * i := by
  have := wordsC_len s0 (l.take i)
  rw [List.length_take, Nat.min_eq_left h] at this
  exact this
/-- a saying where it stands -/
theorem say_at {H : Hp} {x : V} {s : Say} (t : Tr H x (sayP s)) : ∃ a, x = .ref a ∧ H a = some (.tup (sayV s)) := by
  cases t with
  | @tup a xs _ ha al =>
  match xs, al with
  | [_, _, _], .cons (.str _) (.cons (.str _) (.cons (.int _) .nil)) => exact ⟨a, rfl, ha⟩
theorem say_At {H : Hp} {a : Addr} {s : Say} (w : SayW s) (h : H a = some (.tup (sayV s))) : SayAt H a s.1 s.2.1 s.2.2 := ⟨h, w.nm, w.so, w.b1, w.b2⟩
theorem chain_okS {s0 : Say} {l : List (Say × Int)} (h : ChainG s0 l) : okS (.list (chainP s0 l)) = true := by
  have one : ∀ s : Say, SayW s → okS (sayP s) = true := fun s w => by
    have a := w.nm.1
    have b : s.2.1.length ≤ 100000 := by
      rcases sgn_cut w.so with ⟨e, _⟩ | ⟨e, _⟩ <;> rw [e] <;> decide +kernel
    show (decide (s.1.length ≤ 100000) && (decide (s.2.1.length ≤ 100000) && (true && true))) = true
    rw [decide_eq_true (by omega), decide_eq_true b]
    rfl
  show okSs (chainP s0 l) = true
  unfold chainP
  rw [okSs]
  have r : okSs (l.map fun p => PyData.tuple [sayP p.1, .int p.2]) = true := by
    have : ∀ l : List (Say × Int), (∀ p ∈ l, SayW p.1) → okSs (l.map fun p => PyData.tuple [sayP p.1, .int p.2]) = true := by
      intro l
      induction l with
      | nil => intro _; rfl
      | cons p l ih =>
        intro hh
        show (okS (.tuple [sayP p.1, .int p.2]) && okSs (l.map fun p => PyData.tuple [sayP p.1, .int p.2])) = true
        rw [ih fun q hq => hh q (List.mem_cons_of_mem _ hq)]
        show ((okS (sayP p.1) && (true && true)) && true) = true
        rw [one p.1 (hh p List.mem_cons_self)]
        rfl
    exact this l fun p hp => (h.ss p hp).1
  rw [r]
  show ((okS (sayP s0) && (true && true)) && true) = true
  rw [one s0 h.s0]
  rfl
/-- what a chain lies on -/
theorem chain_items {H : Hp} {x : V} {s0 : Say} {l : List (Say × Int)} (t : Tr H x (.list (chainP s0 l))) : ∃ (a b q : Addr) (vs : List V), x = .ref a ∧ H a = some (.lst (.ref b :: vs)) ∧ H b = some (.tup [.ref q, .non]) ∧ H q = some (.tup (sayV s0)) ∧ TrAll H vs (l.map fun p => PyData.tuple [sayP p.1, .int p.2]) := by
  cases t with
  | @lst a xs _ ha al =>
    cases al with
    | @cons x0 vs d0 ds' t0 al' =>
      cases t0 with
      | @tup b ys _ hb alb =>
      match ys, alb with
      | [xa, _], .cons ta (.cons .non .nil) =>
      obtain ⟨q, rfl, hq⟩ := say_at ta
      exact ⟨a, b, q, vs, rfl, ha, hb, hq, al'⟩
theorem link_at {H : Hp} {y : V} {p : Say × Int} (t : Tr H y (.tuple [sayP p.1, .int p.2])) : ∃ b q, y = .ref b ∧ H b = some (.tup [.ref q, .int p.2]) ∧ H q = some (.tup (sayV p.1)) := by
  cases t with
  | @tup b ys _ hb alb =>
  match ys, alb with
  | [xa, _], .cons ta (.cons (.int _) .nil) =>
  obtain ⟨q, rfl, hq⟩ := say_at ta
  exact ⟨b, q, rfl, hb, hq⟩
def spShowC (Ps : List Addr) (CN : Addr) : Sp := fun vs H Q E => ∃ (x : V) (d : PyData), vs = [x] ∧ Tr H x d ∧ okS d = true ∧ Tabs Ps H ∧
  ((∃ s0 l, d = .list (chainP s0 l) ∧ ChainG s0 l ∧ l.length + 1 ≤ 2000 ∧ ∀ H', GrS Ps H H' → Q (.str (textC s0 l)) H') ∨ (formC d = false ∧ ∀ H', GrS Ps H H' → E (.ref CN) none H'))
section
variable {P : Program} {w : World} {K : PySem.W.Frag} {mg : Str → Option Value} {base : Heap} {Ps : List Addr} {P1 P2 P3 : Addr}
abbrev nShow : List Str := ["chain", "words", "saying", "by"]
theorem scShow : FnScope nShow ["chain"] (defScope sShow) := ⟨rfl, rfl, rfl, by decide +kernel, rfl, by decide +kernel, by decide +kernel⟩
theorem ok_show {f g1 g2 CN : Addr} {fd d1 d2 : FuncData} (F : Fun K "show_chain" "show_chain" sShow f fd) (R : RefTxt K mg "NoChain" CN) (mBY : ∃ t, mg "BY_ITSELF" = some (.int (-1) t)) (mS : mg "str" = none)
    (G1 : FnOk P w K mg base CX0 7 g1 d1 ["thing"] (spFormC Ps)) (b1 : Binds K d1 ["thing"] []) (k1 : PySem.W.keepIn K (.ref g1) = true) (m1 : mg "has_chain_form" = some (.ref g1))
    (G2 : FnOk P w K mg base CX0 1 g2 d2 ["saying"] spWSay) (b2 : Binds K d2 ["saying"] []) (k2 : PySem.W.keepIn K (.ref g2) = true) (m2 : mg "written_saying" = some (.ref g2)) :
    FnOk P w K mg base (L2.CX P w) 8 f fd ["chain"] (spShowC Ps CN) := by
  refine F.okX scShow (fun vs H Q E h => ?_) (fun cdv A outer s H vs Q E hr h => ?_)
  · obtain ⟨x, d, rfl, _⟩ := h
    rfl
  obtain ⟨x, d, rfl, t, ok, tb, h⟩ := h
  obtain ⟨tk, hby⟩ := mBY
  have hr1 : Room 1 _ := hr.mono (by decide)
  refine ⟨_, pss_cons (ps_if (pt_not (pt_val (pe_call (E := E) G1 hr rfl m1 k1 b1 .nil pass0 (pa_cons (pv 0) pa_nil)))) (pss_one (ps_raise rfl (takes_of rfl rfl rfl rfl) (pmk_own PySem.F.excBase_ValueError R.q R.gC R.kC (raises_own R.sB R.tC) rfl))) pss_nil) <|
    pss_cons (ps_set (i := 1) scShow.nd rfl (.inl rfl) (pe_lst (pa_cons (pe_call G2 hr1 rfl m2 k2 b2 .nil pass0 (pa_cons (pe_ix ix_tup (pe_ix ix_list (pv 0) pe_int (fun _ _ => rfl)) pe_int (fun _ _ => rfl)) pa_nil)) pa_nil))) <|
    pss_cons (ps_for (passes_of rfl) rfl (pi_list (pe_slice sl_list (pv 0) (po_some pe_int) po_none)) (pg_tup rfl (pgs_cons (pg_name (i := 2) scShow.nd rfl (.inl rfl)) (pgs_cons (pg_name (i := 3) scShow.nd rfl (.inl rfl)) pgs_nil)))
      (pss_cons (ps_expr (pe_bm PySem.F.plainAttrs_list PySem.F.slot_list_append PySem.F.type_list_append mt_append (pv 1) (pa_cons (pe_ifExp (pt_cmpR op_eq (pv 3) (pe_glob (v := .int (-1)) (by rfl) hby ⟨_, rfl⟩) (nomark _)) pe_str (pe_callTy call_str_int (by rfl) mS (by decide +kernel) (pa_cons (pv 3) pa_nil))) pa_nil))) <|
       pss_one (ps_expr (pe_bm PySem.F.plainAttrs_list PySem.F.slot_list_append PySem.F.type_list_append mt_append (pv 1) (pa_cons (pe_call G2 hr1 rfl m2 k2 b2 .nil pass0 (pa_cons (pv 2) pa_nil)) pa_nil))))) <|
    pss_one (ps_ret (pe_join pe_str (pv 1))), ?_⟩
  rcases h with ⟨s0, l, rfl, hg, hl, k⟩ | ⟨hf, k⟩
  · refine ⟨_, rfl, x, _, rfl, t, ok, tb, fun H1 g1 => ⟨_, rfl, ?_⟩⟩
    rw [chain_form hg, decide_eq_true hl]
    refine iteF ?_
    obtain ⟨a, b, q, vs, rfl, ha, hb, hq, al⟩ := chain_items (t.grs tb g1)
    have sl := sizeLine_eq
    have vl := al.length
    rw [List.length_map] at vl
    refine ⟨_, rfl, a, _, _, _, rfl, rfl, SqL.of ha, atI_nat (xs := .ref b :: vs) (j := 0) (v := .ref b) rfl, b, _, _, _, rfl, rfl, SqT.of hb, rfl, q, s0.1, s0.2.1, s0.2.2, rfl, say_At hg.s0 hq, by show 1 ≤ sizeLine; omega, fun D hD => ?_⟩
    have s2 := sameNew hD (.lst [V.str (sayW s0)])
    have g2 := g1.trans (GrS.same g1.1 s2)
    have ha2 := s2 _ _ ha
    have al2 := al.same s2
    have hD2 : L2.upd H1 D (.lst [V.str (sayW s0)]) D = some (.lst ((wordsT s0 l 0).map V.str)) := upd_same
    have aD : a ≠ D := ne_of_none ha hD
    have D0 : H D = none := by
      cases e : H D with
      | none => rfl
      | some u =>
        obtain ⟨u', hu⟩ : ∃ u', H1 D = some u' := by
          by_cases hP : D ∈ Ps
          · obtain ⟨ps, hps, _⟩ := g1.1 D hP
            exact ⟨_, hps⟩
          · exact ⟨u, g1.2 D u hP e⟩
        rw [hD] at hu
        cases hu
    show tSeq _ _ _ _ (L2.upd H1 D (.lst [V.str (sayW s0)]))
    generalize L2.upd H1 D (.lst [V.str (sayW s0)]) = H2 at g2 ha2 al2 hD2
    refine ⟨_, rfl, 1, rfl, a, _, rfl, SqL.of ha2, fun L hL => ?_⟩
    have s3 := sameNew hL (.lst (cutV (.ref b :: vs) (some 1) none))
    have g3 := g2.trans (GrS.same g2.1 s3)
    have al3 := al2.same s3
    have hD3 := s3 _ _ hD2
    have hL3 : L2.upd H2 L (.lst (cutV (.ref b :: vs) (some 1) none)) L = some (.lst vs) := by rw [upd_same, cutV_tail]; rfl
    have LD : L ≠ D := fun z => by rw [z, hD2] at hL; cases hL
    generalize L2.upd H2 L (.lst (cutV (.ref b :: vs) (some 1) none)) = H3 at g3 al3 hD3 hL3
    refine ⟨L, rfl, ⟨_, SqL.of hL3⟩, for_it (walk_list (xs := vs)) (fun i σ H4 => ∃ v2 v3 : Option V, σ = [some (.ref a), some (.ref D), v2, v3] ∧ H4 D = some (.lst ((wordsT s0 l i).map V.str)) ∧ H4 L = some (.lst vs) ∧ TrAll H4 vs (l.map fun p => PyData.tuple [sayP p.1, .int p.2]) ∧ GrS Ps H H4)
      ⟨none, none, rfl, hD3, hL3, al3, g3⟩ (fun i σ H4 _ ⟨_, _, _, _, q, _⟩ => SqL.of q) ?_ ?_⟩
    · rintro i y σ H9 H4 hi ⟨v2, v3, rfl, hD4, hL4, al4, g4⟩ ⟨rfl, hy⟩
      obtain ⟨dy, hdy, ty⟩ := al4.get hy
      rw [List.getElem?_map] at hdy
      obtain ⟨p, hp, rfl⟩ := Option.map_eq_some_iff.mp hdy
      obtain ⟨pw, pb1, pb2⟩ := hg.ss p (List.mem_of_getElem? hp)
      obtain ⟨b', q', rfl, hb', hq'⟩ := link_at ty
      have il : i < l.length := (List.getElem?_eq_some_iff.mp hp).1
      have wl := wordsT_len s0 l i (by omega)
      refine ⟨b', _, rfl, SqT.of hb', rfl, _, _, rfl, _, _, rfl, rfl, ?_⟩
      have gg : greatS = 100000000000000000000 := rfl
      refine ⟨_, rfl, .inl ⟨rfl, _, SqL.of hD4⟩, _, rfl, rfl, _, rfl, ?_⟩
      have ll : ((wordsT s0 l i).map V.str).length < sizeLine := by rw [List.length_map, wl]; omega
      by_cases c : p.2 = -1
      · have ez : "=" = byW p.2 := by unfold byW; rw [if_pos c]
        rw [decide_eq_true (show V.int p.2 = V.int (-1) by rw [c])]
        refine iteT ⟨D, _, _, rfl, rfl, hD4, ll, ?_⟩
        have hD5 : L2.upd H4 D (.lst ((wordsT s0 l i).map V.str ++ [V.str "="])) D = some (.lst ((wordsT s0 l i).map V.str ++ [V.str "="])) := upd_same
        have hq5 : L2.upd H4 D (.lst ((wordsT s0 l i).map V.str ++ [V.str "="])) q' = some (.tup (sayV p.1)) := by rw [upd_ne (fun z => by rw [z, hD4] at hq'; cases hq')]; exact hq'
        have hL5 : L2.upd H4 D (.lst ((wordsT s0 l i).map V.str ++ [V.str "="])) L = some (.lst vs) := by rw [upd_ne LD]; exact hL4
        have al5 := TrAll.keepL (o := .lst ((wordsT s0 l i).map V.str ++ [V.str "="])) hD4 al4 (noLs_links l)
        have g5 := GrS.new (o := .lst ((wordsT s0 l i).map V.str ++ [V.str "="])) tb g4 D0 (by intro q z; cases z)
        generalize L2.upd H4 D (.lst ((wordsT s0 l i).map V.str ++ [V.str "="])) = H5 at hD5 hq5 hL5 al5 g5
        refine ⟨_, rfl, .inl ⟨rfl, _, SqL.of hD5⟩, _, rfl, q', p.1.1, p.1.2.1, p.1.2.2, rfl, say_At pw hq5, D, _, _, rfl, rfl, hD5, by rw [List.length_append, List.length_map, wl, List.length_singleton]; omega, ⟨_, _, rfl, ?_, ?_, TrAll.keepL hD5 al5 (noLs_links l), GrS.new tb g5 D0 (by intro q z; cases z)⟩⟩
        · rw [upd_same, wordsT_step hp, List.map_append, List.append_assoc, ← ez]
          rfl
        · rw [upd_ne LD]; exact hL5
      · have ez : numS p.2 = byW p.2 := by unfold byW; rw [if_neg c]
        rw [decide_eq_false (fun z => c (V.int.inj z))]
        refine iteF ⟨_, rfl, p.2, rfl, log_n (by omega) (by omega), D, _, _, rfl, rfl, hD4, ll, ?_⟩
        rw [show Str.ofString (toString p.2) = numS p.2 from rfl]
        have hD5 : L2.upd H4 D (.lst ((wordsT s0 l i).map V.str ++ [V.str (numS p.2)])) D = some (.lst ((wordsT s0 l i).map V.str ++ [V.str (numS p.2)])) := upd_same
        have hq5 : L2.upd H4 D (.lst ((wordsT s0 l i).map V.str ++ [V.str (numS p.2)])) q' = some (.tup (sayV p.1)) := by rw [upd_ne (fun z => by rw [z, hD4] at hq'; cases hq')]; exact hq'
        have hL5 : L2.upd H4 D (.lst ((wordsT s0 l i).map V.str ++ [V.str (numS p.2)])) L = some (.lst vs) := by rw [upd_ne LD]; exact hL4
        have al5 := TrAll.keepL (o := .lst ((wordsT s0 l i).map V.str ++ [V.str (numS p.2)])) hD4 al4 (noLs_links l)
        have g5 := GrS.new (o := .lst ((wordsT s0 l i).map V.str ++ [V.str (numS p.2)])) tb g4 D0 (by intro q z; cases z)
        generalize L2.upd H4 D (.lst ((wordsT s0 l i).map V.str ++ [V.str (numS p.2)])) = H5 at hD5 hq5 hL5 al5 g5
        refine ⟨_, rfl, .inl ⟨rfl, _, SqL.of hD5⟩, _, rfl, q', p.1.1, p.1.2.1, p.1.2.2, rfl, say_At pw hq5, D, _, _, rfl, rfl, hD5, by rw [List.length_append, List.length_map, wl, List.length_singleton]; omega, ⟨_, _, rfl, ?_, ?_, TrAll.keepL hD5 al5 (noLs_links l), GrS.new tb g5 D0 (by intro q z; cases z)⟩⟩
        · rw [upd_same, wordsT_step hp, List.map_append, List.append_assoc, ← ez]
          rfl
        · rw [upd_ne LD]; exact hL5
    · rintro σ H4 ⟨v2, v3, rfl, hD4, hL4, al4, g4⟩
      rw [vl, wordsT_all] at hD4
      have wk := wordsC_ok hg
      refine ⟨⟨_, rfl⟩, _, rfl, _, D, wordsC s0 l, rfl, rfl, .inl (SqL.of hD4), ?_, k H4 g4⟩
      have q := sum_len (n := 60) fun x hx => (wk x hx).1
      have n := wordsC_len s0 l
      have e : (" " : Str).length = 1 := by decide +kernel
      rw [e]
      have : (wordsC s0 l).length * 60 ≤ 4000 * 60 := Nat.mul_le_mul_right _ (by omega)
      omega
  · refine ⟨_, rfl, x, d, rfl, t, ok, tb, fun H1 g1 => ⟨_, rfl, ?_⟩⟩
    rw [hf]
    exact iteT (k H1 g1)
end
end Pk
end
section
set_option maxHeartbeats 1000000
/-! kept of a fault, NoHouse's making, check_house, is_house. -/
namespace Pk
open PySem PySem.Spec PyProof.Rows L2 TL
abbrev sKept : Stmt := topH 3
theorem house_lv {ds rs : List PyData} (hg : HouseG ds rs) : lv 0 (.tuple [.tuple ds, .tuple rs]) = true ∧ (PyData.tuple [.tuple ds, .tuple rs]).bulk ≤ 6000 ∧ (PyData.tuple [.tuple ds, .tuple rs]).depth ≤ 4 := by
  have a1 : lvs 0 ds = true := lvs_all fun d hd => (dial_lv (hg.dials d hd)).1
  have b1 : lvs 0 rs = true := lvs_all fun d hd => (hg.rules d hd).lv
  have a3 : PyData.depthAll ds ≤ 1 := depth_all fun d hd => (dial_lv (hg.dials d hd)).2.2
  have b3 : PyData.depthAll rs ≤ 2 := depth_all fun d hd => (hg.rules d hd).depth
  refine ⟨by rw [lv, lvs, lvs, lvs, lv, lv, a1, b1]; rfl, ?_, ?_⟩
  · have q1 := bulk_all (n := 80) fun d hd => (dial_lv (hg.dials d hd)).2.1
    have q2 := bulk_all (n := 120) fun r hr => (hg.rules r hr).bulk
    have l1 : (80 + 1) * ds.length ≤ 81 * 12 := Nat.mul_le_mul_left _ hg.d2
    have l2 : (120 + 1) * rs.length ≤ 121 * 40 := Nat.mul_le_mul_left _ hg.r2
    simp only [PyData.bulk, PyData.bulkAll]
    omega
  · simp only [PyData.depth, PyData.depthAll]
    omega
theorem house_okS {ds rs : List PyData} (hg : HouseG ds rs) : okS (.tuple [.tuple ds, .tuple rs]) = true := by
  obtain ⟨h1, h2, _⟩ := house_lv hg
  exact (lv_ok (by omega) h1 (by omega)).1
/-- a fault: a word, perhaps a number -/
def isFault (d : PyData) : Prop := (∃ z, d = .tuple [.str z]) ∨ ∃ z k, d = .tuple [.str z, .int k]
theorem fault_shape (d : PyData) : faultD d = .none ∨ isFault (faultD d) := by
  unfold faultD
  split
  · split
    · exact .inr (.inr ⟨_, _, rfl⟩)
    · split
      · exact .inr (.inr ⟨_, _, rfl⟩)
      · exact .inl rfl
  · exact .inr (.inl ⟨_, rfl⟩)
def scalV : V → Prop
  | .int _ => True
  | .str _ => True
  | _ => False
def spKeptS : Sp := fun vs H Q _ => ∃ x : V, vs = [x] ∧ scalV x ∧ Q x H
def spKeptT : Sp := fun vs H Q _ => ∃ (a : Addr) (xs : List V), vs = [.ref a] ∧ H a = some (.tup xs) ∧ xs.length ≤ 2 ∧ (∀ x ∈ xs, scalV x) ∧ ∀ (t : Addr) (H' : Hp), Same H H' → H' t = some (.tup xs) → Q (.ref t) H'
def spNHI (C : Addr) : Sp := fun vs H Q _ => ∃ (a t : Addr) (xs : List V), vs = [.ref a, .ref t] ∧ H a = some (exo a C none) ∧ H t = some (.tup xs) ∧ xs.length ≤ 2 ∧ (∀ x ∈ xs, scalV x) ∧ ∀ (t' : Addr) (H1 : Hp), Same H H1 → H1 t' = some (.tup xs) → ∀ dx, H1 dx = none → dx ≠ a → Q .non (upd (upd H1 dx (exd dx [("fault", .ref t')])) a (exo a C (some dx)))
section
variable {P : Program} {w : World} {K : PySem.W.Frag} {mg : Str → Option Value} {base : Heap} {Ps : List Addr} {P1 P2 : Addr}
theorem scKept : FnScope ["thing", "part", "key"] ["thing"] (defScope sKept) := ⟨rfl, rfl, rfl, by decide +kernel, rfl, by decide +kernel, by decide +kernel⟩
theorem ok_keptS {f : Addr} {fd : FuncData} (F : Fun K "kept" "kept" sKept f fd) (B : BltH mg) (mD : mg "dict" = none) : FnOk P w K mg base CX0 1 f fd ["thing"] spKeptS := by
  refine F.ok scKept (fun vs H Q E h => ?_) (fun cdv A outer s H vs Q E hr h => ?_)
  · obtain ⟨x, rfl, _⟩ := h
    rfl
  obtain ⟨x, rfl, sx, k⟩ := h
  refine ⟨_, pss_cons (ps_if (pt_val (pe_callB call_isi (by rfl) B.isinstance (by decide +kernel) (pa_cons (pv 0) (pa_cons (pe_bltn (v := .ty "list") (by rfl) B.list (by decide +kernel) rfl) pa_nil)))) (pss_one ps_never) pss_nil) <|
    pss_cons (ps_if (pt_val (pe_callB call_isi (by rfl) B.isinstance (by decide +kernel) (pa_cons (pv 0) (pa_cons (pe_bltn (v := .ty "tuple") (by rfl) B.tuple (by decide +kernel) rfl) pa_nil)))) (pss_one ps_never) pss_nil) <|
    pss_cons (ps_if (pt_val (pe_callB call_isi (by rfl) B.isinstance (by decide +kernel) (pa_cons (pv 0) (pa_cons (pe_bltn (v := .ty "dict") (by rfl) mD (by decide +kernel) rfl) pa_nil)))) (pss_one ps_never) pss_nil) <|
    pss_one (ps_ret (pv 0)), ?_⟩
  cases x with
  | int i =>
    refine ⟨_, rfl, _, .ty "list", _, _, _, rfl, .ty _, .base (.int i), kit_ty (show kitB "int" "list" = some false by decide +kernel), _, rfl, iteF ?_⟩
    refine ⟨_, rfl, _, .ty "tuple", _, _, _, rfl, .ty _, .base (.int i), kit_ty (show kitB "int" "tuple" = some false by decide +kernel), _, rfl, iteF ?_⟩
    refine ⟨_, rfl, _, .ty "dict", _, _, _, rfl, .ty _, .base (.int i), kit_ty (show kitB "int" "dict" = some false by decide +kernel), _, rfl, iteF ?_⟩
    exact ⟨_, rfl, k⟩
  | str i =>
    refine ⟨_, rfl, _, .ty "list", _, _, _, rfl, .ty _, .base (.str i), kit_ty (show kitB "str" "list" = some false by decide +kernel), _, rfl, iteF ?_⟩
    refine ⟨_, rfl, _, .ty "tuple", _, _, _, rfl, .ty _, .base (.str i), kit_ty (show kitB "str" "tuple" = some false by decide +kernel), _, rfl, iteF ?_⟩
    refine ⟨_, rfl, _, .ty "dict", _, _, _, rfl, .ty _, .base (.str i), kit_ty (show kitB "str" "dict" = some false by decide +kernel), _, rfl, iteF ?_⟩
    exact ⟨_, rfl, k⟩
  | _ => exact (show False from sx).elim
theorem ok_keptT {f : Addr} {fd : FuncData} (F : Fun K "kept" "kept" sKept f fd) (B : BltH mg) (G : FnOk P w K mg base CX0 1 f fd ["thing"] spKeptS) (bG : Binds K fd ["thing"] []) (kG : PySem.W.keepIn K (.ref f) = true) (mG : mg "kept" = some (.ref f)) : FnOk P w K mg base CX0 2 f fd ["thing"] spKeptT := by
  refine F.ok scKept (fun vs H Q E h => ?_) (fun cdv A outer s H vs Q E hr h => ?_)
  · obtain ⟨a, xs, rfl, _⟩ := h
    rfl
  obtain ⟨a, xs, rfl, ha, xl, sx, k⟩ := h
  refine ⟨_, pss_cons (ps_if (pt_val (pe_callB call_isi (by rfl) B.isinstance (by decide +kernel) (pa_cons (pv 0) (pa_cons (pe_bltn (v := .ty "list") (by rfl) B.list (by decide +kernel) rfl) pa_nil)))) (pss_one ps_never) pss_nil) <|
    pss_cons (ps_if (pt_val (pe_callB call_isi (by rfl) B.isinstance (by decide +kernel) (pa_cons (pv 0) (pa_cons (pe_bltn (v := .ty "tuple") (by rfl) B.tuple (by decide +kernel) rfl) pa_nil)))) (pss_one (ps_ret (pe_callTy call_tuple_of (by rfl) B.tuple (by decide +kernel) (pa_cons (pe_lc (own := [("part", 1)]) (g := gName 1) (by rfl) scKept.nd (pi_tup (pv 0)) (blkOk_by (N := ["thing", "part", "key"]) (sc := defScope sKept) (by decide +kernel)) (fun _ _ _ _ _ => pg_name (i := 1) scKept.nd rfl (Or.inl rfl)) (fun _ _ _ _ _ => pts_nil) (fun _ _ _ _ _ => pe_call G hr rfl mG kG bG .nil pass0 (pa_cons (pv 1) pa_nil))) pa_nil)))) pss_nil) <|
    pss_cons ps_never <| pss_one ps_never, ?_⟩
  refine ⟨_, rfl, _, .ty "list", _, _, _, rfl, .ty _, .base (.tup ha), kit_ty (show kitB "tuple" "list" = some false by decide +kernel), _, rfl, iteF ?_⟩
  refine ⟨_, rfl, _, .ty "tuple", _, _, _, rfl, .ty _, .base (.tup ha), kit_ty (show kitB "tuple" "tuple" = some true by decide +kernel), _, rfl, iteT ?_⟩
  refine ⟨_, rfl, a, rfl, ⟨_, SqT.of ha⟩, fun D hD => lc_tup (K := K) (a := a) (xs := xs) (fun i H1 => H1 D = some (.lst (xs.take i)) ∧ Same H H1)
    ⟨upd_same, sameNew hD _⟩ (fun i H1 _ ⟨_, s1⟩ => SqT.of (s1 _ _ ha)) ?_ ?_⟩
  · rintro i y H1 hy ⟨e1, s1⟩
    have il : i < xs.length := (List.getElem?_eq_some_iff.mp hy).1
    refine ⟨rfl, _, rfl, y, rfl, sx y (List.mem_of_getElem? hy), _, e1, small1000 (by rw [List.length_take]; omega), ?_, fun c o e => ?_⟩
    · rw [upd_same, take_more hy]
    · rw [upd_ne (ne_of_none e hD)]
      exact s1 _ _ e
  · rintro H1 ⟨e1, s1⟩
    rw [List.take_length] at e1
    exact ⟨D, _, rfl, .inl ⟨SqL.of e1, fun l hl => k l _ (s1.trans (sameNew hl _)) upd_same⟩⟩
end
end Pk
end
section
set_option maxHeartbeats 1000000
/-! read_chain. -/
namespace Pk
open PySem PySem.Spec PyProof.Rows L2 TL
abbrev sNTI : Stmt := inClass (topH 7) 0
abbrev sRead : Stmt := topH 29
def spNTI (C : Addr) : Sp := fun vs H Q _ => ∃ (a : Addr) (x : V), vs = [.ref a, x] ∧ scalV x ∧ H a = some (exo a C none) ∧ ∀ dx, H dx = none → dx ≠ a → Q .non (upd (upd H dx (exd dx [("row", x)])) a (exo a C (some dx)))
def spReadC (Ps : List Addr) (CT : Addr) : Sp := fun vs H Q E => ∃ (x : V) (d : PyData), vs = [x] ∧ Tr H x d ∧ Tabs Ps H ∧ (∀ z, d = .str z → z.length + 2 ≤ sizeLine) ∧
  (∀ z dd, d = .str z → readX z = some dd → ∀ (p : Addr) (xs : List V) (H' : Hp), GrS Ps H H' → H p = none → H' p = some (.lst xs) → Tr H' (.ref p) dd → Q (.ref p) H') ∧
  ((∀ z, d = .str z → readX z = none) → ∀ (dx : Addr) (H' : Hp), GrS Ps H H' → H' dx = some (.xd [("row", .int 0)]) → E (.ref CT) (some dx) H')
theorem word_len {x : Str} {w : Str} (h : w ∈ Txt.split x " ") : w.length ≤ x.length + 1 := by
  have q := split_weight x " " (by decide +kernel)
  have : ∀ l : List Str, w ∈ l → w.length ≤ (l.map (·.length)).sum := by
    intro l
    induction l with
    | nil => intro h; cases h
    | cons a l ih =>
      intro h
      rw [List.map_cons, List.sum_cons]
      rcases List.mem_cons.mp h with rfl | h
      · omega
      · have := ih h
        omega
  have r := this _ h
  omega
theorem mem_evens {α : Type} {a : α} : ∀ {l : List α}, a ∈ evens l → a ∈ l
  | [], h => by simp [evens] at h
  | [x], h => by simpa [evens] using h
  | x :: y :: r, h => by
    rw [evens] at h
    rcases List.mem_cons.mp h with rfl | h
    · exact List.mem_cons_self
    · exact List.mem_cons_of_mem _ (List.mem_cons_of_mem _ (mem_evens h))
theorem mem_odds {α : Type} {a : α} : ∀ {l : List α}, a ∈ odds2 l → a ∈ l
  | [], h => by simp [odds2] at h
  | [x], h => by simp [odds2] at h
  | x :: y :: r, h => by
    rw [odds2] at h
    rcases List.mem_cons.mp h with rfl | h
    · exact List.mem_cons_of_mem _ List.mem_cons_self
    · exact List.mem_cons_of_mem _ (List.mem_cons_of_mem _ (mem_odds h))
theorem trAll_of {H : Hp} : ∀ {vs : List V} {ds : List PyData}, vs.length = ds.length → (∀ (j : Nat) (v : V) (d : PyData), vs[j]? = some v → ds[j]? = some d → Tr H v d) → TrAll H vs ds
  | [], [], _, _ => .nil
  | [], _ :: _, h, _ => by simp at h
  | _ :: _, [], h, _ => by simp at h
  | v :: vs, d :: ds, h, f => .cons (f 0 v d rfl rfl) (trAll_of (by simpa using h) fun j v' d' h1 h2 => f (j + 1) v' d' h1 h2)
theorem paired_get {α β : Type} {F : α → β → Prop} : ∀ {l1 : List α} {l2 : List β} {j : Nat} {a : α} {b : β}, Paired F l1 l2 → l1[j]? = some a → l2[j]? = some b → F a b
  | _, _, _, _, _, .nil, h, _ => by simp at h
  | _, _, 0, _, _, .cons f _, h1, h2 => by
    cases h1
    cases h2
    exact f
  | _, _, j + 1, _, _, .cons _ t, h1, h2 => paired_get t (by simpa using h1) (by simpa using h2)
theorem upd_none {H : Hp} {a dx : Addr} {o : HO} (h : upd H a o dx = none) (ne : dx ≠ a) : H dx = none := by
  rw [upd_ne ne] at h
  exact h
theorem grs_none {Ps : List Addr} {H H2 : Hp} {D : Addr} (g : GrS Ps H H2) (h : H2 D = none) : H D = none := by
  cases e : H D with
  | none => rfl
  | some u =>
    by_cases hP : D ∈ Ps
    · obtain ⟨ps, hps, _⟩ := g.1 D hP
      rw [h] at hps
      cases hps
    · have q := g.2 D u hP e
      rw [h] at q
      cases q
theorem evens_map {α β : Type} (f : α → β) : ∀ l : List α, evens (l.map f) = (evens l).map f
  | [] => by simp [evens]
  | [x] => by simp [evens]
  | x :: y :: r => by
    show evens (f x :: f y :: r.map f) = _
    rw [evens, evens, evens_map f r]
    rfl
theorem odds_map {α β : Type} (f : α → β) : ∀ l : List α, odds2 (l.map f) = (odds2 l).map f
  | [] => by simp [odds2]
  | [x] => by simp [odds2]
  | x :: y :: r => by
    show odds2 (f x :: f y :: r.map f) = _
    rw [odds2, odds2, odds_map f r]
    rfl
theorem rest_get : ∀ {es os : List Str} {j : Nat} {d : PyData}, (restX es os)[j]? = some d → ∃ e o, es[j]? = some e ∧ os[j]? = some o ∧ d = linkX e o := fun {es os j d} h => by
  unfold restX at h
  rw [List.getElem?_zipWith] at h
  cases he : es[j]? with
  | none => rw [he] at h; simp at h
  | some e =>
    cases ho : os[j]? with
    | none => rw [he, ho] at h; simp at h
    | some o =>
      rw [he, ho] at h
      exact ⟨e, o, rfl, rfl, (Option.some.inj h).symm⟩
theorem say_okS {x : Str} : okS (oS (sayR x)) = true := by
  cases e : sayR x with
  | none => rfl
  | some s =>
    obtain ⟨h1, h2⟩ := sayR_good e
    have b : s.2.1.length ≤ 100000 := by
      rcases sgn_cut h2 with ⟨e, _⟩ | ⟨e, _⟩ <;> rw [e] <;> decide +kernel
    rw [nameD_str, Bool.and_eq_true, Bool.and_eq_true, decide_eq_true_eq, decide_eq_true_eq] at h1
    show (decide (s.1.length ≤ 100000) && (decide (s.2.1.length ≤ 100000) && (true && true))) = true
    rw [decide_eq_true (by omega), decide_eq_true b]
    rfl
theorem int_okS {o : Option Int} : okS (oI o) = true := by cases o <;> rfl
theorem chainX_okS (ws : List Str) : okS (.list (chainX ws)) = true := by
  show okSs (chainX ws) = true
  have all : ∀ l : List PyData, (∀ d ∈ l, okS d = true) → okSs l = true := by
    intro l
    induction l with
    | nil => intro _; rfl
    | cons d l ih =>
      intro h
      rw [okSs, h d List.mem_cons_self, ih fun e he => h e (List.mem_cons_of_mem _ he)]
      rfl
  refine all _ fun d hd => ?_
  unfold chainX at hd
  cases e : evens ws with
  | nil => rw [e] at hd; cases hd
  | cons a es =>
    rw [e] at hd
    rcases List.mem_cons.mp hd with rfl | hd
    · show (okS (oS (sayR a)) && (true && true)) = true
      rw [say_okS]
      rfl
    · obtain ⟨j, hj⟩ := List.getElem?_of_mem hd
      obtain ⟨x, y, _, _, rfl⟩ := rest_get hj
      show (okS (oS (sayR x)) && (okS (oI (byR y)) && true)) = true
      rw [say_okS, int_okS]
      rfl
/-- behind the making of the error -/
theorem noText_end {Ps : List Addr} {H0 H : Hp} {a dx C : Addr} (g : GrS Ps H0 H) (na : H a = none) (nd : H dx = none) (ne : dx ≠ a) : GrS Ps H0 (upd (del (upd (upd (upd H a (exo a C none)) dx (exd dx [("row", .int 0)])) a (exo a C (some dx))) a) dx (.xd [("row", .int 0)])) := by
  refine g.trans (GrS.same g.1 fun b o e => ?_)
  have q1 := ne_of_none e na
  have q2 := ne_of_none e nd
  rw [upd_ne q2, del_ne q1, upd_ne q1, upd_ne q2, upd_ne q1]
  exact e
section
variable {P : Program} {w : World} {K : PySem.W.Frag} {mg : Str → Option Value} {base : Heap} {Ps : List Addr} {P1 P2 P3 : Addr}
theorem scNTI : FnScope ["self", "row"] ["self", "row"] (defScope sNTI) := ⟨rfl, rfl, rfl, by decide +kernel, rfl, by decide +kernel, by decide +kernel⟩
theorem ok_nti {f g C : Addr} {fd gd : FuncData} (F : Fun K "__init__" "NoText.__init__" sNTI f fd) (O : OexC K C) (hno : PySem.W.findIn K (.ref C) "row" = some none) (G : FnOk P w K mg base CX0 1 g gd ["thing"] spKeptS) (bG : Binds K gd ["thing"] []) (kG : PySem.W.keepIn K (.ref g) = true) (mG : mg "kept" = some (.ref g)) :
    FnOk P w K mg base CX0 2 f fd ["self", "row"] (spNTI C) := by
  refine F.ok scNTI (fun vs H Q E h => ?_) (fun cdv A outer s H vs Q E hr h => ?_)
  · obtain ⟨a, x, rfl, _⟩ := h
    rfl
  obtain ⟨a, x, rfl, sx, e, q⟩ := h
  refine ⟨_, pss_one (ps_ost (pv 0) (pe_call G hr rfl mG kG bG .nil pass0 (pa_cons (pv 1) pa_nil))), ?_⟩
  exact ⟨_, rfl, x, rfl, sx, ⟨_, rfl, a, C, rfl, O, hno, .inl ⟨e, fun dx h1 h2 => q dx h1 h2⟩⟩⟩
abbrev nRead : List Str := ["text", "words", "sayings", "word", "numbers", "chain"]
theorem scRead : FnScope nRead ["text"] (defScope sRead) := ⟨rfl, rfl, rfl, by decide +kernel, rfl, by decide +kernel, by decide +kernel⟩
theorem ok_read {f g1 g2 g3 gI CT : Addr} {fd d1 d2 d3 dI : FuncData} (F : Fun K "read_chain" "read_chain" sRead f fd) (B : BltH mg) (mZ : mg "zip" = none)
    (O : OexC K CT) (iC : PySem.W.findIn K (.ref CT) "__init__" = some (some (.ref gI))) (tI : PySem.W.typeIn K (.ref gI) = some (.type "function")) (GI : FnOk P w K mg base CX0 2 gI dI ["self", "row"] (spNTI CT)) (bI : Binds K dI ["self", "row"] []) (mT : mg "NoText" = some (.ref CT))
    (G1 : FnOk P w K mg base CX0 3 g1 d1 ["word"] (spRSay Ps)) (b1 : Binds K d1 ["word"] []) (k1 : PySem.W.keepIn K (.ref g1) = true) (m1 : mg "read_saying" = some (.ref g1))
    (G2 : FnOk P w K mg base CX0 3 g2 d2 ["word"] (spRBy Ps)) (b2 : Binds K d2 ["word"] []) (k2 : PySem.W.keepIn K (.ref g2) = true) (m2 : mg "read_by" = some (.ref g2))
    (G3 : FnOk P w K mg base CX0 7 g3 d3 ["thing"] (spFormC Ps)) (b3 : Binds K d3 ["thing"] []) (k3 : PySem.W.keepIn K (.ref g3) = true) (m3 : mg "has_chain_form" = some (.ref g3)) :
    FnOk P w K mg base (L2.CX P w) 8 f fd ["text"] (spReadC Ps CT) := by
  refine F.okX scRead (fun vs H Q E h => ?_) (fun cdv A outer s H vs Q E hr h => ?_)
  · obtain ⟨x, d, rfl, _⟩ := h
    rfl
  obtain ⟨x, d, rfl, t, tb, zl, kQ, kE⟩ := h
  have hr3 : Room 3 _ := hr.mono (by decide)
  refine ⟨_, pss_cons (ps_if (pt_not (pt_val (pe_callB call_isT (by rfl) B.isinstance (by decide +kernel) (pa_cons (pv 0) (pa_cons (pe_bltn (v := .ty "str") (by rfl) B.str (by decide +kernel) rfl) pa_nil))))) (pss_one (ps_raise rfl (takes_of rfl rfl rfl rfl) (pmk_oex O iC tI GI hr3 bI .nil pass0 (by rfl) mT (pa_cons pe_int pa_nil)))) pss_nil) <|
    pss_cons (ps_set (i := 1) scRead.nd rfl (.inl rfl) (pe_split (pv 0) pe_str)) <|
    pss_cons (ps_setLc (i := 2) (own := [("word", 3)]) (g := gName 3) (by rfl) scRead.nd rfl rfl (sw_true rfl rfl rfl (by decide +kernel)) (pi_list (pe_stepL (pv 1) po_none po_none (by decide))) (blkOk_by (N := nRead) (sc := defScope sRead) (by decide +kernel)) (fun _ _ _ _ _ => pg_name (i := 3) scRead.nd rfl (Or.inl rfl)) (fun _ _ _ _ _ => pts_nil) (fun _ _ _ _ _ => pe_call G1 hr3 rfl m1 k1 b1 .nil pass0 (pa_cons (pv 3) pa_nil))) <|
    pss_cons (ps_set (i := 4) scRead.nd rfl (.inl rfl) (pe_op op_cat (pe_lst (pa_cons pe_non pa_nil)) (pe_lc (own := [("word", 3)]) (g := gName 3) (by rfl) scRead.nd (pi_list (pe_stepL (pv 1) (po_some pe_int) po_none (by decide))) (blkOk_by (N := nRead) (sc := defScope sRead) (by decide +kernel)) (fun _ _ _ _ _ => pg_name (i := 3) scRead.nd rfl (Or.inl rfl)) (fun _ _ _ _ _ => pts_nil) (fun _ _ _ _ _ => pe_call G2 hr3 rfl m2 k2 b2 .nil pass0 (pa_cons (pv 3) pa_nil))))) <|
    pss_cons (ps_set (i := 5) scRead.nd rfl (.inl rfl) (pe_listZ rfl (by rfl) B.list (by rfl) mZ (pa_cons (pv 2) (pa_cons (pv 4) pa_nil)))) <|
    pss_cons (ps_if (PW.pt (pw_or (pt_cmpR op_ne (pe_callB call_len_seq (by rfl) B.len PySem.boot_len (pa_cons (pv 2) pa_nil)) (pe_callB call_len_seq (by rfl) B.len PySem.boot_len (pa_cons (pv 4) pa_nil)) (nomark _)) (pw_or1 (pt_not (pt_val (pe_call (E := E) G3 hr rfl m3 k3 b3 .nil pass0 (pa_cons (pv 5) pa_nil))))))) (pss_one (ps_raise rfl (takes_of rfl rfl rfl rfl) (pmk_oex O iC tI GI hr3 bI .nil pass0 (by rfl) mT (pa_cons pe_int pa_nil)))) pss_nil) <|
    pss_one (ps_ret (pv 5)), ?_⟩
  have sl := sizeLine_eq
  refine ⟨_, rfl, x, "str", d, isStr, rfl, kS, t, _, rfl, ?_⟩
  cases hs : isStr d with
  | false =>
    have no : ∀ z, d = .str z → readX z = none := fun z e => by rw [e] at hs; cases hs
    refine iteT ?_
    have kE := kE no
    exact ⟨by show 1 ≤ 1000; decide, fun a hna => ⟨a, .int 0, rfl, trivial, upd_same, fun dx n1 n2 => ⟨rfl, dx, [("row", .int 0)], upd_same, by rw [upd_ne n2]; exact upd_same, upd_none n1 n2, kE dx _ (noText_end (GrS.refl tb) hna (upd_none n1 n2) n2) upd_same⟩⟩⟩
  | true =>
    obtain ⟨z, rfl⟩ : ∃ z, d = .str z := by cases d <;> first | exact ⟨_, rfl⟩ | (simp [isStr] at hs)
    cases t
    have zl' := zl z rfl
    have kQ : ∀ dd, readX z = some dd → _ := fun dd e => kQ z dd rfl e
    have kE : readX z = none → _ := fun e => kE fun z' e' => by cases e'; exact e
    have ge : ∀ e : V, V.str z = V.str z := fun _ => rfl
    refine iteF ⟨_, rfl, ⟨_, rfl⟩, _, _, rfl, rfl, by decide +kernel, zl', fun W nW => ?_⟩
    have wle : ∀ w ∈ Txt.split z " ", w.length ≤ sizeLine := fun w hw => by have := word_len hw; omega
    have wll : (Txt.split z " ").length ≤ sizeLine := by have := PyProof.Rows.split_le z " "; omega
    have hrd : readX z = if goodX (Txt.split z " ") = true then some (.list (chainX (Txt.split z " "))) else none := rfl
    have s1 := sameNew nW (.lst ((Txt.split z " ").map V.str))
    have g1 := GrS.same tb s1
    have hW1 : L2.upd H W (.lst ((Txt.split z " ").map V.str)) W = some (.lst ((Txt.split z " ").map V.str)) := upd_same
    show tSeq _ _ _ _ (L2.upd H W (.lst ((Txt.split z " ").map V.str)))
    generalize L2.upd H W (.lst ((Txt.split z " ").map V.str)) = H1 at g1 hW1
    generalize Txt.split z " " = ws at wle wll hrd hW1
    have el := evens_len ws
    have ol := odds_len ws
    -- the sayings
    refine ⟨_, rfl, W, _, rfl, SqL.of hW1, by rw [pick_evens, evens_map, List.length_map]; omega, fun p hp => ?_⟩
    rw [pick_evens, evens_map]
    have s2 := sameNew hp (.lst ((evens ws).map V.str))
    have g2 := g1.trans (GrS.same g1.1 s2)
    have hW2 := s2 _ _ hW1
    have hp2 : L2.upd H1 p (.lst ((evens ws).map V.str)) p = some (.lst ((evens ws).map V.str)) := upd_same
    generalize L2.upd H1 p (.lst ((evens ws).map V.str)) = H2 at g2 hW2 hp2
    refine ⟨p, rfl, ⟨_, SqL.of hp2⟩, fun D hD => ?_⟩
    have D0 := grs_none g2 hD
    have pD : p ≠ D := ne_of_none hp2 hD
    have WD : W ≠ D := ne_of_none hW2 hD
    refine lc_list (K := K) (a := p) (xs := (evens ws).map V.str) (fun i H3 => ∃ vs, H3 D = some (.lst vs) ∧ Paired (fun v w => SayO H3 v (sayR w)) vs ((evens ws).take i) ∧ GrS Ps H H3 ∧ H3 p = some (.lst ((evens ws).map V.str)) ∧ H3 W = some (.lst (ws.map V.str)))
      ⟨[], upd_same, .nil, GrS.new tb g2 D0 (by intro q z; cases z), by rw [upd_ne pD]; exact hp2, by rw [upd_ne WD]; exact hW2⟩ (fun i H3 _ ⟨_, _, _, _, q, _⟩ => SqL.of q) ?_ ?_
    · rintro i y H3 hy ⟨vs, hD3, pr, g3, hp3, hW3⟩
      rw [List.getElem?_map] at hy
      obtain ⟨w, hw, rfl⟩ := Option.map_eq_some_iff.mp hy
      have pl := pr.length
      rw [List.length_take] at pl
      refine ⟨rfl, _, rfl, w, rfl, wle w (mem_evens (List.mem_of_getElem? hw)), g3.1, fun v H4 g4 so => ?_⟩
      have hD4 := g4.at g3.1 hD3 (by intro q z; cases z)
      have il : i < (evens ws).length := (List.getElem?_eq_some_iff.mp hw).1
      refine ⟨vs, hD4, by omega, vs ++ [v], upd_same, ?_, GrS.new tb (g3.trans g4) D0 (by intro q z; cases z), ?_, ?_⟩
      · rw [take_more hw]
        exact .snoc (L2.Paired.mapP pr fun a b h => (h.grs g3.1 g4).upd hD4) (so.upd hD4)
      · rw [upd_ne pD]; exact g4.at g3.1 hp3 (by intro q z; cases z)
      · rw [upd_ne WD]; exact g4.at g3.1 hW3 (by intro q z; cases z)
    · rintro H3 ⟨vs, hD3, pr, g3, _, hW3⟩
      rw [List.length_map, List.take_length] at pr
      have pl := pr.length
      -- the numbers
      refine ⟨by show 1 ≤ sizeLine; decide, fun N hN => ?_⟩
      have s4 := sameNew hN (.lst [V.non])
      have g4 := g3.trans (GrS.same g3.1 s4)
      have hD4 := s4 _ _ hD3
      have hW4 := s4 _ _ hW3
      have hN4 : L2.upd H3 N (.lst [V.non]) N = some (.lst [V.non]) := upd_same
      have pr4 := L2.Paired.mapP pr fun a b h => h.grs g3.1 (GrS.same g3.1 s4)
      generalize L2.upd H3 N (.lst [V.non]) = H4 at g4 hD4 hW4 hN4 pr4
      refine ⟨_, rfl, 1, rfl, W, _, rfl, SqL.of hW4, by rw [pick_odds, odds_map, List.length_map]; omega, fun p2 hp2' => ?_⟩
      rw [pick_odds, odds_map]
      have s5 := sameNew hp2' (.lst ((odds2 ws).map V.str))
      have g5 := g4.trans (GrS.same g4.1 s5)
      have hD5 := s5 _ _ hD4
      have hN5 := s5 _ _ hN4
      have pr5 := L2.Paired.mapP pr4 fun a b h => h.grs g4.1 (GrS.same g4.1 s5)
      have hp5 : L2.upd H4 p2 (.lst ((odds2 ws).map V.str)) p2 = some (.lst ((odds2 ws).map V.str)) := upd_same
      generalize L2.upd H4 p2 (.lst ((odds2 ws).map V.str)) = H5 at g5 hD5 hN5 pr5 hp5
      refine ⟨p2, rfl, ⟨_, SqL.of hp5⟩, fun D2 hD2 => ?_⟩
      have D20 := grs_none g5 hD2
      have a1 : p2 ≠ D2 := ne_of_none hp5 hD2
      have a2 : D ≠ D2 := ne_of_none hD5 hD2
      have a3 : N ≠ D2 := ne_of_none hN5 hD2
      refine lc_list (K := K) (a := p2) (xs := (odds2 ws).map V.str) (fun i H6 => H6 D2 = some (.lst (((odds2 ws).take i).map fun w => vI (byR w))) ∧ GrS Ps H H6 ∧ GrS Ps H5 H6 ∧ H6 p2 = some (.lst ((odds2 ws).map V.str)) ∧ H6 D = some (.lst vs) ∧ H6 N = some (.lst [V.non]))
        ⟨upd_same, GrS.new tb g5 D20 (by intro q z; cases z), GrS.new g5.1 (GrS.refl g5.1) hD2 (by intro q z; cases z), by rw [upd_ne a1]; exact hp5, by rw [upd_ne a2]; exact hD5, by rw [upd_ne a3]; exact hN5⟩ (fun i H6 _ ⟨_, _, _, q, _⟩ => SqL.of q) ?_ ?_
      · rintro i y H6 hy ⟨e6, g6, g56, hp6, hD6, hN6⟩
        rw [List.getElem?_map] at hy
        obtain ⟨w, hw, rfl⟩ := Option.map_eq_some_iff.mp hy
        have il : i < (odds2 ws).length := (List.getElem?_eq_some_iff.mp hw).1
        refine ⟨rfl, _, rfl, w, rfl, wle w (mem_odds (List.mem_of_getElem? hw)), g6.1, fun H7 g7 => ?_⟩
        have e7 := g7.at g6.1 e6 (by intro q z; cases z)
        refine ⟨_, e7, by rw [List.length_map, List.length_take]; omega, ?_, GrS.new tb (g6.trans g7) D20 (by intro q z; cases z), GrS.new g5.1 (g56.trans g7) hD2 (by intro q z; cases z), ?_, ?_, ?_⟩
        · rw [upd_same, take_more hw, List.map_append]
          rfl
        · rw [upd_ne a1]; exact g7.at g6.1 hp6 (by intro q z; cases z)
        · rw [upd_ne a2]; exact g7.at g6.1 hD6 (by intro q z; cases z)
        · rw [upd_ne a3]; exact g7.at g6.1 hN6 (by intro q z; cases z)
      · rintro H6 ⟨e6, g6, g56, _, hD6, hN6⟩
        rw [List.length_map, List.take_length] at e6
        have pr6 := L2.Paired.mapP pr5 fun a b h => h.grs g5.1 g56
        refine ⟨N, D2, _, _, rfl, rfl, hN6, e6, by rw [List.length_singleton, List.length_map]; omega, fun M hM => ?_⟩
        have s7 := sameNew hM (.lst ([V.non] ++ (odds2 ws).map fun w => vI (byR w)))
        have g7 := g6.trans (GrS.same g6.1 s7)
        have hD7 := s7 _ _ hD6
        have pr7 := L2.Paired.mapP pr6 fun a b h => h.grs g6.1 (GrS.same g6.1 s7)
        have hM7 : L2.upd H6 M (.lst ([V.non] ++ (odds2 ws).map fun w => vI (byR w))) M = some (.lst (V.non :: (odds2 ws).map fun w => vI (byR w))) := upd_same
        generalize L2.upd H6 M (.lst ([V.non] ++ (odds2 ws).map fun w => vI (byR w))) = H7 at g7 hD7 pr7 hM7
        -- the chain
        refine ⟨_, rfl, _, rfl, D, M, _, _, rfl, SqL.of hD7, SqL.of hM7, fun C Ts H8 s8 nC hC tlen tnew tat => ?_⟩
        have g8 := g7.trans (GrS.same g7.1 s8)
        have hD8 := s8 _ _ hD7
        have hM8 := s8 _ _ hM7
        have pr8 := L2.Paired.mapP pr7 fun a b h => h.grs g7.1 (GrS.same g7.1 s8)
        rw [List.length_cons, List.length_map] at tlen
        refine ⟨_, rfl, D, _, rfl, .inl (SqL.of hD8), _, rfl, M, _, rfl, .inl (SqL.of hM8), rfl, _, rfl, ?_⟩
        by_cases c : vs.length = (odds2 ws).length + 1
        · rw [decide_eq_true (show V.int ((vs.length : Nat) : Int) = V.int (((V.non :: (odds2 ws).map fun w => vI (byR w)).length : Nat) : Int) by rw [List.length_cons, List.length_map, c])]
          have c2 : (evens ws).length = (odds2 ws).length + 1 := by omega
          -- what it is
          have tr : Tr H8 (.ref C) (.list (chainX ws)) := by
            refine .lst hC (trAll_of ?_ ?_)
            · unfold chainX
              cases e : evens ws with
              | nil => rw [e] at c2; simp at c2
              | cons a es =>
                rw [e, List.length_cons] at c2
                rw [List.length_map, List.length_cons, rest_len _ _ (by omega)]
                omega
            · intro j v d hv hd
              rw [List.getElem?_map] at hv
              obtain ⟨T, hT, rfl⟩ := Option.map_eq_some_iff.mp hv
              obtain ⟨x, y, e1, e2, e3⟩ := tat j T hT
              unfold chainX at hd
              cases e : evens ws with
              | nil => rw [e] at hd; simp at hd
              | cons a es =>
                rw [e] at hd pr8
                cases j with
                | zero =>
                  cases hd
                  cases e2
                  exact .tup e3 (.cons (paired_get pr8 e1 (show (a :: es)[0]? = some a from rfl)).tr (.cons .non .nil))
                | succ j =>
                  obtain ⟨w, o, h1, h2, rfl⟩ := rest_get (show (restX es (odds2 ws))[j]? = some d from hd)
                  have e2' : ((odds2 ws).map fun w => vI (byR w))[j]? = some y := e2
                  rw [List.getElem?_map, h2] at e2'
                  cases e2'
                  exact .tup e3 (.cons (paired_get pr8 e1 (show (a :: es)[j + 1]? = some w from h1)).tr (.cons (trI _ _) .nil))
          refine iteF ⟨_, rfl, .ref C, _, rfl, tr, chainX_okS ws, g8.1, fun H9 g9 => ⟨_, rfl, ?_⟩⟩
          have gE := g8.trans g9
          cases cf : formC (.list (chainX ws)) with
          | true =>
            have rd : readX z = some (.list (chainX ws)) := by rw [hrd]; unfold goodX; rw [decide_eq_true c2, cf]; rfl
            refine iteF ⟨_, rfl, kQ _ rd C _ H9 gE (grs_none g7 nC) (g9.at g8.1 hC (by intro q z; cases z)) (tr.grs g8.1 g9)⟩
          | false =>
            have rd : readX z = none := by rw [hrd]; unfold goodX; rw [cf]; simp
            have kE := kE rd
            exact iteT ⟨by show 1 ≤ 1000; decide, fun a hna => ⟨a, .int 0, rfl, trivial, upd_same, fun dx n1 n2 => ⟨rfl, dx, [("row", .int 0)], upd_same, by rw [upd_ne n2]; exact upd_same, upd_none n1 n2, kE dx _ (noText_end gE hna (upd_none n1 n2) n2) upd_same⟩⟩⟩
        · rw [decide_eq_false (show ¬ V.int ((vs.length : Nat) : Int) = V.int (((V.non :: (odds2 ws).map fun w => vI (byR w)).length : Nat) : Int) by intro q; have := V.int.inj q; rw [List.length_cons, List.length_map] at this; omega)]
          have rd : readX z = none := by rw [hrd]; unfold goodX; rw [decide_eq_false (by omega)]; simp
          have kE := kE rd
          exact iteT ⟨by show 1 ≤ 1000; decide, fun a hna => ⟨a, .int 0, rfl, trivial, upd_same, fun dx n1 n2 => ⟨rfl, dx, [("row", .int 0)], upd_same, by rw [upd_ne n2]; exact upd_same, upd_none n1 n2, kE dx _ (noText_end g8 hna (upd_none n1 n2) n2) upd_same⟩⟩⟩
end
end Pk
end
section
set_option maxHeartbeats 1000000
/-! The law's own: read_number, read_saying. -/
namespace Pk
open PySem PySem.Spec PyProof.Rows L2 TL
abbrev sLNum : Stmt := topH 37
abbrev sLRSay : Stmt := topH 38
/-- a comprehension over a text's signs that keeps some of them -/
def keepSigns (p : Nat → Bool) (l : List Nat) : List V := (l.filter p).map fun c => V.str ⟨#[c]⟩
theorem keep_snoc {p : Nat → Bool} {l : List Nat} {i : Nat} {c : Nat} (h : l[i]? = some c) : keepSigns p (l.take (i + 1)) = if p c = true then keepSigns p (l.take i) ++ [.str ⟨#[c]⟩] else keepSigns p (l.take i) := by
  unfold keepSigns
  rw [take_more h, List.filter_append]
  by_cases q : p c = true
  · rw [if_pos q, List.filter_cons_of_pos q, List.map_append]
    rfl
  · rw [if_neg q, List.filter_cons_of_neg q]
    simp
theorem keep_len (p : Nat → Bool) (l : List Nat) : (keepSigns p l).length ≤ l.length := by
  unfold keepSigns
  rw [List.length_map]
  exact List.length_filter_le _ _
theorem keep_nil {p : Nat → Bool} {l : List Nat} : (keepSigns p l).isEmpty = l.all fun c => !p c := by
  unfold keepSigns
  induction l with
  | nil => rfl
  | cons c l ih =>
    rw [List.all_cons]
    by_cases q : p c = true
    · rw [List.filter_cons_of_pos q, q]
      rfl
    · rw [List.filter_cons_of_neg q, show p c = false by simpa using q]
      exact ih
theorem digits_in (c : Nat) : decide (c ∈ ("0123456789" : Str).cps.toList) = figC c := by
  have e : ("0123456789" : Str).cps.toList = [48, 49, 50, 51, 52, 53, 54, 55, 56, 57] := by decide +kernel
  rw [e, Bool.eq_iff_iff, decide_eq_true_eq]
  unfold figC
  simp only [List.mem_cons, List.not_mem_nil, or_false, Bool.and_eq_true, decide_eq_true_eq]
  omega
theorem letters_in (c : Nat) : decide (c ∈ ("abcdefghijklmnopqrstuvwxyz" : Str).cps.toList) = smallC c := by
  have e : ("abcdefghijklmnopqrstuvwxyz" : Str).cps.toList = [97, 98, 99, 100, 101, 102, 103, 104, 105, 106, 107, 108, 109, 110, 111, 112, 113, 114, 115, 116, 117, 118, 119, 120, 121, 122] := by decide +kernel
  rw [e, Bool.eq_iff_iff, decide_eq_true_eq]
  unfold smallC
  simp only [List.mem_cons, List.not_mem_nil, or_false, Bool.and_eq_true, decide_eq_true_eq]
  omega
theorem len_tl' {x : Str} : x.length = x.cps.toList.length := len_tl x
theorem cut1_eq (x : Str) : decide (V.str (cutS x none (some 1)) = V.str "-") = Txt.startswith x "-" := by
  rw [minus_is, starts1, Bool.eq_iff_iff, decide_eq_true_eq, decide_eq_true_eq]
  have e : tl (cutS x none (some 1)) = (tl x).take 1 := by
    show (cutS x none (some ((1 : Nat) : Int))).cps.toList = _
    rw [cutS_cps, HT.sIx_none, HT.sIx_nat, List.drop_zero, Nat.sub_zero]
    by_cases h : 1 ≤ x.length
    · rw [Nat.min_eq_left h]
    · have e : tl x = [] := List.eq_nil_of_length_eq_zero (by rw [← len_tl]; omega)
      show (tl x).take _ = (tl x).take 1
      rw [e]
      simp
  constructor
  · intro h
    have q := V.str.inj h
    rw [q] at e
    have e2 : (tl x).take 1 = [45] := e.symm
    cases hx : tl x with
    | nil => rw [hx] at e2; simp at e2
    | cons c r =>
      rw [hx] at e2
      simp at e2
      rw [e2]
      rfl
  · intro h
    have e2 : (tl x).take 1 = [45] := by
      cases hx : tl x with
      | nil => rw [hx] at h; simp at h
      | cons c r =>
        rw [hx] at h
        simp at h
        rw [h]
        rfl
    rw [e2] at e
    have : cutS x none (some 1) = ⟨#[45]⟩ := ext_tl e
    rw [this]
def spLNum : Sp := fun vs H Q _ => ∃ x : Str, vs = [.str x] ∧ x.length ≤ sizeLine ∧ ∀ H', Same H H' → Q (vI (numW x)) H'
section
variable {P : Program} {w : World} {K : PySem.W.Frag} {mg : Str → Option Value} {base : Heap}
abbrev nLNum : List Str := ["_law_text", "_law_figures", "_law_sign"]
theorem scLNum : FnScope nLNum ["_law_text"] (defScope sLNum) := ⟨rfl, rfl, rfl, by decide +kernel, rfl, by decide +kernel, by decide +kernel⟩
theorem ok_lnum {f : Addr} {fd : FuncData} (F : Fun K "_law_read_number" "_law_read_number" sLNum f fd) (B : BltH mg) : FnOk P w K mg base CX0 1 f fd ["_law_text"] spLNum := by
  refine F.ok scLNum (fun vs H Q E h => ?_) (fun cdv A outer s H vs Q E hr h => ?_)
  · obtain ⟨x, rfl, _⟩ := h
    rfl
  obtain ⟨x, rfl, xl, k⟩ := h
  have hu := hu_of hr
  have hu0 : (A.deeper (PyProof.Rows.envOfC "_law_read_number" (defScope sLNum) s.heap.objs.size f cdv)).units < cLine := by omega
  refine ⟨_, pss_cons (ps_set (i := 1) scLNum.nd rfl (.inl rfl) (pe_ifExp (pt_cmpR op_eq (pe_slice sl_str (pv 0) po_none (po_some pe_int)) pe_str (nomark _)) (pe_slice sl_str (pv 0) (po_some pe_int) po_none) (pv 0))) <|
    pss_cons (ps_if (PW.pt (pw_or (pt_not (pt_chain op_le op_le pe_int (pe_callB call_len_str (by rfl) B.len PySem.boot_len (pa_cons (pv 1) pa_nil)) pe_int)) (pw_or1 (pt_cmpR (op_neNil hu0) (pe_lc (own := [("_law_sign", 2)]) (g := gName 2) (by rfl) scLNum.nd (pi_str (pv 1)) (blkOk_by (N := nLNum) (sc := defScope sLNum) (by decide +kernel)) (fun _ _ _ _ _ => pg_name (i := 2) scLNum.nd rfl (Or.inl rfl)) (fun _ _ _ _ _ => pts_one (pt_cmpR op_notIn_sign (pv 2) pe_str (by rfl))) (fun _ _ _ _ _ => pv 2)) (pe_lst pa_nil) (nomark _))))) (pss_one (ps_ret pe_non)) pss_nil) <|
    pss_one (ps_ret (pe_ifExp (PW.pt (pw_and (pt_cmpR op_eq (pe_ix ix_str (pv 1) pe_int (fun _ _ => rfl)) pe_str (nomark _)) (pw_and1 (pt_cmpR op_ne (pv 0) pe_str (nomark _))))) pe_non (pe_callTy call_int_str (by rfl) B.int (by decide +kernel) (pa_cons (pv 0) pa_nil)))), ?_⟩
  have sl := sizeLine_eq
  have fl := figW_len x
  refine ⟨_, rfl, 1, rfl, _, rfl, xl, rfl, _, rfl, ?_⟩
  rw [cut1_eq]
  cases hs : Txt.startswith x "-" with
  | true =>
    have hY : cutS x (some 1) none = figW x := by unfold figW; rw [if_pos hs]
    have hYl : (cutS x (some 1) none).length ≤ sizeLine := by rw [hY]; omega
    refine iteT ⟨_, rfl, 1, rfl, _, rfl, by omega, ?_⟩
    generalize cutS x (some 1) none = Y at hY hYl
    refine ⟨_, rfl, Y, rfl, hYl, _, _, rfl, rfl, _, rfl, ?_⟩
    by_cases c1 : 1 ≤ (Y).length
    · rw [decide_eq_true (show (1 : Int) ≤ ((Str.length (Y) : Nat) : Int) by omega)]
      refine iteT ⟨_, _, rfl, rfl, _, rfl, ?_⟩
      by_cases c2 : (Y).length ≤ 60
      · rw [decide_eq_true (show ((Str.length (Y) : Nat) : Int) ≤ 60 by omega)]
        refine iteF ⟨_, rfl, Y, rfl, fun D hD => lc_it walk_str (fun i H1 => H1 D = some (.lst (keepSigns (fun c => !figC c) ((Y).cps.toList.take i))) ∧ Same H H1) ⟨upd_same, sameNew hD _⟩ (fun _ _ _ _ => trivial) ?_ ?_⟩
        · rintro i y H9 H1 hi ⟨e1, s1⟩ ⟨rfl, c, hc, rfl⟩
          have hc' : (Y).cps.toList[i]? = some c := by rw [Array.getElem?_toList]; exact hc
          refine ⟨rfl, _, rfl, c, _, rfl, rfl, _, rfl, ?_⟩
          rw [digits_in]
          have kl := keep_len (fun c => !figC c) ((Y).cps.toList.take i)
          have tl' : ((Y).cps.toList.take i).length ≤ 60 := by rw [List.length_take, ← len_tl']; omega
          have st := keep_snoc (p := fun c => !figC c) hc'
          cases fc : figC c with
          | true =>
            rw [fc] at st
            refine iteF ⟨?_, s1⟩
            rw [e1, st]
            rfl
          | false =>
            rw [fc] at st
            refine iteT ⟨_, rfl, _, e1, by omega, ?_, fun b o e => ?_⟩
            · rw [upd_same, st]
              rfl
            · rw [upd_ne (ne_of_none e hD)]
              exact s1 _ _ e
        · rintro H1 ⟨e1, s1⟩
          have ll : (Y).cps.toList.take (Y).cps.size = (Y).cps.toList := List.take_of_length_le (by rw [Array.length_toList]; exact Nat.le_refl _)
          rw [ll] at e1
          refine ⟨by show 0 ≤ sizeLine; omega, fun L hL => ?_⟩
          have s2 := sameNew hL (.lst [])
          refine ⟨D, L, _, rfl, rfl, SqL.of (s2 _ _ e1), SqL.of upd_same, _, rfl, ?_⟩
          have k := k _ (s1.trans s2)
          rw [keep_nil, show (fun c => !!figC c) = figC by funext c; simp]
          cases c3 : (Y).cps.toList.all figC with
          | false =>
            have en : numW x = none := numW_no (by unfold isNum; rw [← hY, c3]; simp)
            rw [en] at k
            exact iteT k
          | true =>
            have hne : ∃ c r, (Y).cps.toList = c :: r := by
              cases e : (Y).cps.toList with
              | nil => rw [len_tl', e] at c1; simp at c1
              | cons c r => exact ⟨c, r, rfl⟩
            obtain ⟨c, r, ecr⟩ := hne
            refine iteF ⟨_, rfl, Y, 0, c, rfl, rfl, by omega, by rw [ecr]; exact atI_nat (xs := c :: r) (j := 0) (v := c) rfl, rfl, _, rfl, ?_⟩
            have c4e : Txt.startswith (Y) "0" = decide (V.str ⟨#[c]⟩ = V.str "0") := by
              have e0 : (tl (Y))[0]? = some c := by
                show ((Y).cps.toList)[0]? = _
                rw [ecr]
                rfl
              rw [zero_is, starts1, Bool.eq_iff_iff, decide_eq_true_eq, decide_eq_true_eq, e0]
              constructor
              · intro h
                cases h
                rfl
              · intro h
                have h := V.str.inj h
                cases h
                rfl
            rw [← c4e]
            cases c4 : Txt.startswith (Y) "0" with
            | true =>
              refine iteT ⟨_, rfl, rfl, _, rfl, ?_⟩
              by_cases c5 : x = "0"
              · rw [decide_eq_true (show V.str x = V.str "0" by rw [c5])]
                have hn : isNum x = true := by unfold isNum; rw [← hY, c3, c4, decide_eq_true c1, decide_eq_true c2, decide_eq_true c5]; rfl
                obtain ⟨i, e1', e2⟩ := numW_int hn
                have l61 := (isNum_parts hn).2.2.2
                rw [e2] at k
                exact iteF ⟨_, rfl, _, i, rfl, e1', by omega, k⟩
              · rw [decide_eq_false (fun z => c5 (V.str.inj z))]
                have en : numW x = none := numW_no (by unfold isNum; rw [← hY, c4, decide_eq_false c5]; simp)
                rw [en] at k
                exact iteT k
            | false =>
              have hn : isNum x = true := by unfold isNum; rw [← hY, c3, c4, decide_eq_true c1, decide_eq_true c2]; rfl
              obtain ⟨i, e1', e2⟩ := numW_int hn
              have l61 := (isNum_parts hn).2.2.2
              rw [e2] at k
              exact iteF ⟨_, rfl, _, i, rfl, e1', by omega, k⟩
      · rw [decide_eq_false (show ¬ ((Str.length (Y) : Nat) : Int) ≤ 60 by omega)]
        have en : numW x = none := numW_no (by unfold isNum; rw [← hY, decide_eq_false c2]; simp)
        have k := k H (Same.refl _)
        rw [en] at k
        exact iteT k
    · rw [decide_eq_false (show ¬ (1 : Int) ≤ ((Str.length (Y) : Nat) : Int) by omega)]
      have en : numW x = none := numW_no (by unfold isNum; rw [← hY, decide_eq_false c1]; rfl)
      have k := k H (Same.refl _)
      rw [en] at k
      exact iteF ⟨_, rfl, iteT k⟩
  | false =>
    have hY : x = figW x := by unfold figW; rw [hs]; rfl
    have hYl : x.length ≤ sizeLine := xl
    refine iteF ⟨_, rfl, ?_⟩
    refine ⟨_, rfl, x, rfl, hYl, _, _, rfl, rfl, _, rfl, ?_⟩
    by_cases c1 : 1 ≤ (x).length
    · rw [decide_eq_true (show (1 : Int) ≤ ((Str.length (x) : Nat) : Int) by omega)]
      refine iteT ⟨_, _, rfl, rfl, _, rfl, ?_⟩
      by_cases c2 : (x).length ≤ 60
      · rw [decide_eq_true (show ((Str.length (x) : Nat) : Int) ≤ 60 by omega)]
        refine iteF ⟨_, rfl, x, rfl, fun D hD => lc_it walk_str (fun i H1 => H1 D = some (.lst (keepSigns (fun c => !figC c) ((x).cps.toList.take i))) ∧ Same H H1) ⟨upd_same, sameNew hD _⟩ (fun _ _ _ _ => trivial) ?_ ?_⟩
        · rintro i y H9 H1 hi ⟨e1, s1⟩ ⟨rfl, c, hc, rfl⟩
          have hc' : (x).cps.toList[i]? = some c := by rw [Array.getElem?_toList]; exact hc
          refine ⟨rfl, _, rfl, c, _, rfl, rfl, _, rfl, ?_⟩
          rw [digits_in]
          have kl := keep_len (fun c => !figC c) ((x).cps.toList.take i)
          have tl' : ((x).cps.toList.take i).length ≤ 60 := by rw [List.length_take, ← len_tl']; omega
          have st := keep_snoc (p := fun c => !figC c) hc'
          cases fc : figC c with
          | true =>
            rw [fc] at st
            refine iteF ⟨?_, s1⟩
            rw [e1, st]
            rfl
          | false =>
            rw [fc] at st
            refine iteT ⟨_, rfl, _, e1, by omega, ?_, fun b o e => ?_⟩
            · rw [upd_same, st]
              rfl
            · rw [upd_ne (ne_of_none e hD)]
              exact s1 _ _ e
        · rintro H1 ⟨e1, s1⟩
          have ll : (x).cps.toList.take (x).cps.size = (x).cps.toList := List.take_of_length_le (by rw [Array.length_toList]; exact Nat.le_refl _)
          rw [ll] at e1
          refine ⟨by show 0 ≤ sizeLine; omega, fun L hL => ?_⟩
          have s2 := sameNew hL (.lst [])
          refine ⟨D, L, _, rfl, rfl, SqL.of (s2 _ _ e1), SqL.of upd_same, _, rfl, ?_⟩
          have k := k _ (s1.trans s2)
          rw [keep_nil, show (fun c => !!figC c) = figC by funext c; simp]
          cases c3 : (x).cps.toList.all figC with
          | false =>
            have en : numW x = none := numW_no (by unfold isNum; rw [← hY, c3]; simp)
            rw [en] at k
            exact iteT k
          | true =>
            have hne : ∃ c r, (x).cps.toList = c :: r := by
              cases e : (x).cps.toList with
              | nil => rw [len_tl', e] at c1; simp at c1
              | cons c r => exact ⟨c, r, rfl⟩
            obtain ⟨c, r, ecr⟩ := hne
            refine iteF ⟨_, rfl, x, 0, c, rfl, rfl, by omega, by rw [ecr]; exact atI_nat (xs := c :: r) (j := 0) (v := c) rfl, rfl, _, rfl, ?_⟩
            have c4e : Txt.startswith (x) "0" = decide (V.str ⟨#[c]⟩ = V.str "0") := by
              have e0 : (tl (x))[0]? = some c := by
                show ((x).cps.toList)[0]? = _
                rw [ecr]
                rfl
              rw [zero_is, starts1, Bool.eq_iff_iff, decide_eq_true_eq, decide_eq_true_eq, e0]
              constructor
              · intro h
                cases h
                rfl
              · intro h
                have h := V.str.inj h
                cases h
                rfl
            rw [← c4e]
            cases c4 : Txt.startswith (x) "0" with
            | true =>
              refine iteT ⟨_, rfl, rfl, _, rfl, ?_⟩
              by_cases c5 : x = "0"
              · rw [decide_eq_true (show V.str x = V.str "0" by rw [c5])]
                have hn : isNum x = true := by unfold isNum; rw [← hY, c3, c4, decide_eq_true c1, decide_eq_true c2, decide_eq_true c5]; rfl
                obtain ⟨i, e1', e2⟩ := numW_int hn
                have l61 := (isNum_parts hn).2.2.2
                rw [e2] at k
                exact iteF ⟨_, rfl, _, i, rfl, e1', by omega, k⟩
              · rw [decide_eq_false (fun z => c5 (V.str.inj z))]
                have en : numW x = none := numW_no (by unfold isNum; rw [← hY, c4, decide_eq_false c5]; simp)
                rw [en] at k
                exact iteT k
            | false =>
              have hn : isNum x = true := by unfold isNum; rw [← hY, c3, c4, decide_eq_true c1, decide_eq_true c2]; rfl
              obtain ⟨i, e1', e2⟩ := numW_int hn
              have l61 := (isNum_parts hn).2.2.2
              rw [e2] at k
              exact iteF ⟨_, rfl, _, i, rfl, e1', by omega, k⟩
      · rw [decide_eq_false (show ¬ ((Str.length (x) : Nat) : Int) ≤ 60 by omega)]
        have en : numW x = none := numW_no (by unfold isNum; rw [← hY, decide_eq_false c2]; simp)
        have k := k H (Same.refl _)
        rw [en] at k
        exact iteT k
    · rw [decide_eq_false (show ¬ (1 : Int) ≤ ((Str.length (x) : Nat) : Int) by omega)]
      have en : numW x = none := numW_no (by unfold isNum; rw [← hY, decide_eq_false c1]; rfl)
      have k := k H (Same.refl _)
      rw [en] at k
      exact iteF ⟨_, rfl, iteT k⟩
end
end Pk
end
section
set_option maxHeartbeats 1000000
/-! The law's own: read_saying. -/
namespace Pk
open PySem PySem.Spec PyProof.Rows L2 TL
theorem SayO.same {H H' : Hp} {v : V} {o : Option Say} (h : SayO H v o) (s : Same H H') : SayO H' v o := by
  cases o with
  | none => exact h
  | some t =>
    obtain ⟨q, e, hq⟩ := h
    exact ⟨q, e, s _ _ hq⟩
def spLRSay : Sp := fun vs H Q _ => ∃ x : Str, vs = [.str x] ∧ x.length + 2 ≤ sizeLine ∧ ∀ (v : V) (H' : Hp), Same H H' → SayO H' v (sayL x) → Q v H'
section
variable {P : Program} {w : World} {K : PySem.W.Frag} {mg : Str → Option Value} {base : Heap}
abbrev nLRSay : List Str := ["_law_text", "_law_sort", "_law_mark", "_law_parts", "_law_number", "_law_odd_here", "_law_sign", "_law_good"]
theorem scLRSay : FnScope nLRSay ["_law_text"] (defScope sLRSay) := ⟨rfl, rfl, rfl, by decide +kernel, rfl, by decide +kernel, by decide +kernel⟩
theorem ok_lrsay {f g : Addr} {fd gd : FuncData} (F : Fun K "_law_read_saying" "_law_read_saying" sLRSay f fd) (B : BltH mg) (mA : mg "abs" = none)
    (G : FnOk P w K mg base CX0 1 g gd ["_law_text"] spLNum) (bG : Binds K gd ["_law_text"] []) (kG : PySem.W.keepIn K (.ref g) = true) (mG : mg "_law_read_number" = some (.ref g)) : FnOk P w K mg base CX0 2 f fd ["_law_text"] spLRSay := by
  refine F.ok scLRSay (fun vs H Q E h => ?_) (fun cdv A outer s H vs Q E hr h => ?_)
  · obtain ⟨x, rfl, _⟩ := h
    rfl
  obtain ⟨x, rfl, xl, k⟩ := h
  have hu := hu_of hr
  have hu0 : (A.deeper (PyProof.Rows.envOfC "_law_read_saying" (defScope sLRSay) s.heap.objs.size f cdv)).units < cLine := by omega
  refine ⟨_, pss_cons (ps_for PassesOwn.never rfl (pi_tup (pe_tup (pa_cons (pe_tup (pa_cons pe_str (pa_cons pe_str pa_nil))) (pa_cons (pe_tup (pa_cons pe_str (pa_cons pe_str pa_nil))) pa_nil)))) (pg_tup rfl (pgs_cons (pg_name (i := 1) scLRSay.nd rfl (.inl rfl)) (pgs_cons (pg_name (i := 2) scLRSay.nd rfl (.inl rfl)) pgs_nil)))
      (pss_cons (ps_set (i := 3) scLRSay.nd rfl (.inl rfl) (pe_split (pv 0) (pv 2))) <|
       pss_one (ps_if (pt_cmpR op_eq (pe_callB call_len_seq (by rfl) B.len PySem.boot_len (pa_cons (pv 3) pa_nil)) pe_int (nomark _))
        (pss_cons (ps_set (i := 4) scLRSay.nd rfl (.inl rfl) (pe_call G hr rfl mG kG bG .nil pass0 (pa_cons (pe_ix ix_list (pv 3) pe_int (fun _ _ => rfl)) pa_nil))) <|
         pss_cons (ps_setLc (i := 5) (own := [("_law_sign", 6)]) (g := gName 6) (by rfl) scLRSay.nd rfl rfl (sw_true rfl rfl rfl (by decide +kernel)) (pi_str (pe_ix ix_list (pv 3) pe_int (fun _ _ => rfl))) (blkOk_by (N := nLRSay) (sc := defScope sLRSay) (by decide +kernel)) (fun _ _ _ _ _ => pg_name (i := 6) scLRSay.nd rfl (Or.inl rfl)) (fun _ _ _ _ _ => pts_one (pt_cmpR op_notIn_sign (pv 6) pe_str (by rfl))) (fun _ _ _ _ _ => pv 6)) <|
         pss_cons (ps_set (i := 7) scLRSay.nd rfl (.inl rfl) (pe_and (pe_cmpR (op_eqNil hu0) (pv 5) (pe_lst pa_nil) (nomark _)) (pe_and (pe_chain op_le op_le pe_int (pe_callB call_len_str (by rfl) B.len PySem.boot_len (pa_cons (pe_ix ix_list (pv 3) pe_int (fun _ _ => rfl)) pa_nil)) pe_int) (pe_and (pe_cmpR op_notN (pv 4) pe_non (nomark _)) (pe_one (pe_cmpR op_le (pe_callB call_abs (by rfl) mA (by decide +kernel) (pa_cons (pv 4) pa_nil)) (pe_op op_pow pe_int pe_int) (nomark _))))))) <|
         pss_one (ps_ret (pe_ifExp (pt_val (pv 7)) (pe_tup (pa_cons (pe_ix ix_list (pv 3) pe_int (fun _ _ => rfl)) (pa_cons (pv 1) (pa_cons (pv 4) pa_nil)))) pe_non))) pss_nil))) <|
    pss_one (ps_ret pe_non), ?_⟩
  have sl := sizeLine_eq
  refine ⟨by show 2 ≤ sizeLine; decide, fun t1 n1 => ?_⟩
  have u1 := sameNew n1 (.tup [V.str "least", V.str ">="])
  have e1 : L2.upd H t1 (.tup [V.str "least", V.str ">="]) t1 = some (.tup [V.str "least", V.str ">="]) := upd_same
  generalize L2.upd H t1 (.tup [V.str "least", V.str ">="]) = Ha at u1 e1
  refine ⟨by show 2 ≤ sizeLine; decide, fun t2 n2 => ?_⟩
  have u2 := sameNew n2 (.tup [V.str "most", V.str "<="])
  have e2 : L2.upd Ha t2 (.tup [V.str "most", V.str "<="]) t2 = some (.tup [V.str "most", V.str "<="]) := upd_same
  have e1 := u2 _ _ e1
  generalize L2.upd Ha t2 (.tup [V.str "most", V.str "<="]) = Hb at u2 e1 e2
  refine ⟨by show 2 ≤ sizeLine; decide, fun t3 n3 => ?_⟩
  have u3 := sameNew n3 (.tup [V.ref t1, V.ref t2])
  have e3 : L2.upd Hb t3 (.tup [V.ref t1, V.ref t2]) t3 = some (.tup [V.ref t1, V.ref t2]) := upd_same
  have e1 := u3 _ _ e1
  have e2 := u3 _ _ e2
  have u13 := (u1.trans u2).trans u3
  generalize L2.upd Hb t3 (.tup [V.ref t1, V.ref t2]) = H0 at u3 e1 e2 e3 u13
  refine ⟨t3, rfl, ⟨_, SqT.of e3⟩, for_it (walk_tup (xs := [V.ref t1, V.ref t2])) (fun j σ H1 => ∃ v1 v2 v3 v4 v5 v6 v7 : Option V, σ = [some (.str x), v1, v2, v3, v4, v5, v6, v7] ∧ Same H0 H1 ∧ (1 ≤ j → sayQ x ">=" "least" = none) ∧ (2 ≤ j → sayQ x "<=" "most" = none))
    ⟨none, none, none, none, none, none, none, rfl, Same.refl _, by omega, by omega⟩ (fun j σ H1 _ ⟨_, _, _, _, _, _, _, _, s1, _⟩ => SqT.of (s1 _ _ e3)) ?_ ?_⟩
  · rintro j y σ H9 H1 hj ⟨v1, v2, v3, v4, v5, v6, v7, rfl, s1, hm1, hm2⟩ ⟨rfl, hy⟩
    obtain ⟨tj, so, m, rfl, htj, jc⟩ : ∃ (tj : Addr) (so m : Str), y = .ref tj ∧ H0 tj = some (.tup [V.str so, V.str m]) ∧ ((j = 0 ∧ so = "least" ∧ m = ">=") ∨ (j = 1 ∧ so = "most" ∧ m = "<=")) := by
      match j, hy with
      | 0, hy => exact ⟨t1, _, _, (Option.some.inj hy).symm, e1, .inl ⟨rfl, rfl, rfl⟩⟩
      | 1, hy => exact ⟨t2, _, _, (Option.some.inj hy).symm, e2, .inr ⟨rfl, rfl, rfl⟩⟩
      | j + 2, hy => simp at hy
    have mne : tl m ≠ [] := by
      rcases jc with ⟨_, _, q⟩ | ⟨_, _, q⟩ <;> rw [q]
      · exact ge_ne
      · exact lq_ne
    have mk : m.cps.all (· < 256) = true := by
      rcases jc with ⟨_, _, q⟩ | ⟨_, _, q⟩ <;> rw [q]
      · exact ge_ok
      · exact lq_ok
    have m0 : (m.length == 0) = false := by
      rcases jc with ⟨_, _, q⟩ | ⟨_, _, q⟩ <;> rw [q] <;> decide +kernel
    have m1 : 1 ≤ m.length := by
      rcases jc with ⟨_, _, q⟩ | ⟨_, _, q⟩ <;> rw [q] <;> decide +kernel
    -- what is found, or not
    have hit : ∀ o : Option Say, sayQ x m so = some o → sayL x = o := fun o e => by
      unfold sayL
      rcases jc with ⟨_, q2, q3⟩ | ⟨q1, q2, q3⟩
      · rw [q3, q2] at e
        rw [e]
      · rw [q3, q2] at e
        rw [hm1 (by omega), e]
    have miss : sayQ x m so = none → (1 ≤ j + 1 → sayQ x ">=" "least" = none) ∧ (2 ≤ j + 1 → sayQ x "<=" "most" = none) := fun e => by
      rcases jc with ⟨q1, q2, q3⟩ | ⟨q1, q2, q3⟩
      · rw [q3, q2] at e
        exact ⟨fun _ => e, fun h => by omega⟩
      · rw [q3, q2] at e
        exact ⟨fun _ => hm1 (by omega), fun _ => e⟩
    refine ⟨tj, _, rfl, SqT.of (s1 _ _ htj), rfl, _, _, rfl, _, _, rfl, rfl, ?_⟩
    refine ⟨_, rfl, ⟨_, rfl⟩, _, rfl, _, _, rfl, rfl, m0, xl, fun L hL => ?_⟩
    have s2 := sameNew hL (.lst ((Txt.split x m).map V.str))
    have hL2 : L2.upd H1 L (.lst ((Txt.split x m).map V.str)) L = some (.lst ((Txt.split x m).map V.str)) := upd_same
    have s12 := s1.trans s2
    generalize L2.upd H1 L (.lst ((Txt.split x m).map V.str)) = H2 at hL2 s12
    have spw := PyProof.Rows.split_weight x m m1
    refine ⟨_, rfl, L, _, rfl, .inl (SqL.of hL2), rfl, _, rfl, ?_⟩
    rw [List.length_map]
    have sc := split_cut (x := x) mne mk
    cases ec : cutM x m with
    | none =>
      rw [ec] at sc
      have e1l : (Txt.split x m).length = 1 := by rw [sc]; rfl
      rw [e1l, decide_eq_false (show ¬ V.int ((1 : Nat) : Int) = V.int 2 by intro z; cases z)]
      refine iteF ⟨_, _, _, _, _, _, _, rfl, s12, miss ?_⟩
      unfold sayQ
      rw [ec]
    | some p =>
      obtain ⟨a, r⟩ := p
      rw [ec] at sc
      have sc : Txt.split x m = a :: Txt.split r m := sc
      have sr := split_cut (x := r) mne mk
      cases er : cutM r m with
      | some q =>
        obtain ⟨a2, r2⟩ := q
        rw [er] at sr
        have sr : Txt.split r m = a2 :: Txt.split r2 m := sr
        have pos := PyProof.Rows.split_pos r2 m
        have e3l : 3 ≤ (Txt.split x m).length := by rw [sc, sr, List.length_cons, List.length_cons]; omega
        rw [decide_eq_false (show ¬ V.int (((Txt.split x m).length : Nat) : Int) = V.int 2 by intro z; have := V.int.inj z; omega)]
        refine iteF ⟨_, _, _, _, _, _, _, rfl, s12, miss ?_⟩
        unfold sayQ
        rw [ec]
        show (match cutM r m with | none => _ | some _ => none) = none
        rw [er]
      | none =>
        rw [er] at sr
        have sr : Txt.split r m = [r] := sr
        rw [sr] at sc
        rw [sc] at hL2 spw
        have hL2 : H2 L = some (.lst [V.str a, V.str r]) := hL2
        rw [List.map_cons, List.map_cons, List.map_nil, List.sum_cons, List.sum_cons, List.sum_nil, List.length_cons, List.length_cons, List.length_nil] at spw
        rw [sc]
        rw [decide_eq_true (show V.int ((([a, r] : List Str).length : Nat) : Int) = V.int 2 from rfl)]
        have al : a.length ≤ sizeLine := by omega
        have rl : r.length ≤ sizeLine := by omega
        refine iteT ⟨_, rfl, L, _, _, _, rfl, rfl, SqL.of hL2, rfl, r, rfl, rl, fun H3 s3 => ?_⟩
        have hL3 := s3 _ _ hL2
        have s13 := s12.trans s3
        refine ⟨_, rfl, L, _, _, _, rfl, rfl, SqL.of hL3, rfl, a, rfl, fun D hD => lc_it walk_str (fun i H4 => H4 D = some (.lst (keepSigns (fun c => !smallC c) (a.cps.toList.take i))) ∧ Same H3 H4) ⟨upd_same, sameNew hD _⟩ (fun _ _ _ _ => trivial) ?_ ?_⟩
        · rintro i y H9 H4 hi ⟨e4, s4⟩ ⟨rfl, c, hc, rfl⟩
          have hc' : a.cps.toList[i]? = some c := by rw [Array.getElem?_toList]; exact hc
          refine ⟨rfl, _, rfl, c, _, rfl, rfl, _, rfl, ?_⟩
          rw [letters_in]
          have kl := keep_len (fun c => !smallC c) (a.cps.toList.take i)
          have hi' : i < a.length := hi
          have tl' : (a.cps.toList.take i).length ≤ i := by rw [List.length_take]; omega
          have st := keep_snoc (p := fun c => !smallC c) hc'
          cases fc : smallC c with
          | true =>
            rw [fc] at st
            refine iteF ⟨?_, s4⟩
            rw [e4, st]
            rfl
          | false =>
            rw [fc] at st
            refine iteT ⟨_, rfl, _, e4, by omega, ?_, fun b o e => ?_⟩
            · rw [upd_same, st]
              rfl
            · rw [upd_ne (ne_of_none e hD)]
              exact s4 _ _ e
        · rintro H4 ⟨e4, s4⟩
          have ll : a.cps.toList.take a.cps.size = a.cps.toList := List.take_of_length_le (by rw [Array.length_toList]; exact Nat.le_refl _)
          rw [ll] at e4
          have s14 := s13.trans s4
          have hL4 := s4 _ _ hL3
          refine ⟨_, rfl, by show 0 ≤ sizeLine; omega, fun N hN => ?_⟩
          have s5 := sameNew hN (.lst [])
          have e5 := s5 _ _ e4
          have hL5 := s5 _ _ hL4
          have hN5 : L2.upd H4 N (.lst []) N = some (.lst []) := upd_same
          have s15 := s14.trans s5
          generalize L2.upd H4 N (.lst []) = H5 at e5 hL5 hN5 s15
          refine ⟨D, N, _, rfl, rfl, SqL.of e5, SqL.of hN5, _, rfl, ?_⟩
          rw [keep_nil, show (fun c => !!smallC c) = smallC by funext c; simp]
          have s0 := u13.trans s15
          have q0 : sayQ x m so = some (if (nameD (.str a) && (match numW r with | some i => decide (-greatS ≤ i) && decide (i ≤ greatS) | none => false)) = true then some (a, so, (numW r).getD 0) else none) := by
            unfold sayQ
            rw [ec]
            show (match cutM r m with | none => some (if (nameD (.str a) && (match numW r with | some i => decide (-greatS ≤ i) && decide (i ≤ greatS) | none => false)) = true then some (a, so, (numW r).getD 0) else none) | some _ => none) = _
            rw [er]
          have bad : (nameD (.str a) && (match numW r with | some i => decide (-greatS ≤ i) && decide (i ≤ greatS) | none => false)) = false → Q .non H5 := fun e => k .non H5 s0 (by
            rw [hit none (by rw [q0, e]; rfl)]
            exact rfl)
          have good : ∀ i, numW r = some i → (nameD (.str a) && (decide (-greatS ≤ i) && decide (i ≤ greatS))) = true → ∀ (q : Addr) (H6 : Hp), Same H5 H6 → H6 q = some (.tup [V.str a, V.str so, V.int i]) → Q (.ref q) H6 := fun i en e q H6 s6 hq => k (.ref q) H6 (s0.trans s6) (by
            rw [hit (some (a, so, i)) (by rw [q0, en]; show some (if (nameD (.str a) && (decide (-greatS ≤ i) && decide (i ≤ greatS))) = true then _ else none) = _; rw [e]; rfl)]
            exact ⟨q, rfl, hq⟩)
          have nmd := nameD_str a
          cases c1 : a.cps.toList.all smallC with
          | false =>
            rw [c1] at nmd
            exact iteF ⟨_, rfl, _, rfl, iteF (bad (by rw [nmd]; simp))⟩
          | true =>
            rw [c1] at nmd
            refine iteT ⟨_, rfl, L, _, _, _, rfl, rfl, SqL.of hL5, rfl, a, rfl, al, _, _, rfl, rfl, _, rfl, ?_⟩
            by_cases c2 : 1 ≤ a.length
            · rw [decide_eq_true (show (1 : Int) ≤ ((Str.length a : Nat) : Int) by omega)] at nmd ⊢
              refine iteT ⟨_, _, rfl, rfl, _, rfl, ?_⟩
              by_cases c3 : a.length ≤ 8
              · rw [decide_eq_true (show ((Str.length a : Nat) : Int) ≤ 8 by omega)] at nmd ⊢
                refine iteT ⟨_, rfl, rfl, _, rfl, ?_⟩
                cases en : numW r with
                | none => exact iteF ⟨_, rfl, _, rfl, iteF (bad (by rw [en]; simp))⟩
                | some i =>
                  refine iteT ⟨_, rfl, i, rfl, _, _, rfl, rfl, ⟨by decide, by decide, by decide⟩, _, _, rfl, rfl, ?_⟩
                  have e20 : (10 : Int) ^ (20 : Int).toNat = 100000000000000000000 := by decide
                  have gg : greatS = 100000000000000000000 := rfl
                  rw [e20]
                  show gName 7 (V.bl (decide ((if i < 0 then -i else i) ≤ 100000000000000000000))) _ _ _
                  by_cases c4 : (if i < 0 then -i else i) ≤ 100000000000000000000
                  · rw [decide_eq_true c4]
                    have ok : (decide (-greatS ≤ i) && decide (i ≤ greatS)) = true := by
                      rw [gg, Bool.and_eq_true, decide_eq_true_eq, decide_eq_true_eq]
                      split at c4 <;> omega
                    refine ⟨_, rfl, _, rfl, iteT ⟨_, rfl, L, _, _, _, rfl, rfl, SqL.of hL5, rfl, _, rfl, _, rfl, by show 3 ≤ sizeLine; omega, fun q hq => ?_⟩⟩
                    exact good i en (by rw [nmd, ok]; rfl) q _ (sameNew hq _) upd_same
                  · rw [decide_eq_false c4]
                    have ok : (decide (-greatS ≤ i) && decide (i ≤ greatS)) = false := by
                      rw [gg, ← Bool.not_eq_true, Bool.and_eq_true, decide_eq_true_eq, decide_eq_true_eq]
                      split at c4 <;> omega
                    exact ⟨_, rfl, _, rfl, iteF (bad (by rw [nmd, en]; exact ok))⟩
              · rw [decide_eq_false (show ¬ ((Str.length a : Nat) : Int) ≤ 8 by omega)] at nmd ⊢
                exact iteF ⟨_, rfl, _, rfl, iteF (bad (by rw [nmd]; simp))⟩
            · rw [decide_eq_false (show ¬ (1 : Int) ≤ ((Str.length a : Nat) : Int) by omega)] at nmd ⊢
              exact iteF ⟨_, rfl, iteF ⟨_, rfl, _, rfl, iteF (bad (by rw [nmd]; simp))⟩⟩
  · rintro σ H1 ⟨v1, v2, v3, v4, v5, v6, v7, rfl, s1, hm1, hm2⟩
    refine k .non H1 (u13.trans s1) ?_
    unfold sayL
    rw [hm1 (by simp), hm2 (by simp)]
    rfl
end
end Pk
end
section
set_option maxHeartbeats 1000000
/-! The law's own: show_saying, show_chain. -/
namespace Pk
open PySem PySem.Spec PyProof.Rows L2 TL
abbrev sLShow : Stmt := topH 35
abbrev nShSay : List Str := ["_law_saying_here"]
theorem scShSay : FnScope nShSay ["_law_saying_here"] (defScope sLSay) := ⟨rfl, rfl, rfl, by decide +kernel, rfl, by decide +kernel, by decide +kernel⟩
def spShSay : Sp := fun vs H Q _ => ∃ (a : Addr) (z so : Str) (i : Int), vs = [.ref a] ∧ SayAt H a z so i ∧ ∀ H', Same H H' → Q (.str (z ++ sgnS so ++ numS i)) H'
def spLShow : Sp := fun vs H Q _ => ∃ (x : V) (s0 : Say) (l : List (Say × Int)), vs = [x] ∧ Tr H x (.list (chainP s0 l)) ∧ ChainG s0 l ∧ l.length ≤ 2000 ∧ ∀ H', Same H H' → Q (.str (textC s0 l)) H'
section
variable {P : Program} {w : World} {K : PySem.W.Frag} {mg : Str → Option Value} {base : Heap}
theorem ok_shSay {f : Addr} {fd : FuncData} (F : Fun K "_law_show_saying" "_law_show_saying" sLSay f fd) (mS : mg "str" = none) : FnOk P w K mg base CX0 1 f fd ["_law_saying_here"] spShSay := by
  refine F.ok scShSay (fun vs H Q E h => ?_) (fun cdv A outer s H vs Q E hr h => ?_)
  · obtain ⟨a, z, so, i, rfl, _⟩ := h
    rfl
  obtain ⟨a, z, so, i, rfl, ⟨ha, hz, hs, b1, b2⟩, k⟩ := h
  have hu := hu_of hr
  refine ⟨_, pss_one (ps_ret (pe_op op_add_str (pe_op op_add_str (pe_ix ix_tup (pv 0) pe_int (fun _ _ => rfl)) (pe_dget hu (pe_disp (pps_cons pe_str pe_str (pps_cons pe_str pe_str pps_nil)) (by rfl) rfl (by simp) (by decide)) (pe_ix ix_tup (pv 0) pe_int (fun _ _ => rfl)) (fun _ _ => rfl))) (pe_callTy call_str_int (by rfl) mS (by decide +kernel) (pa_cons (pe_ix ix_tup (pv 0) pe_int (fun _ _ => rfl)) pa_nil)))), ?_⟩
  have z1 := hz.1
  have s1 := (sgn_word so).1
  have n1 := num_len b1 b2
  have sl := sizeLine_eq
  refine ⟨_, rfl, a, _, _, _, rfl, rfl, SqT.of ha, rfl, fun p hp => ⟨upd_same, [(Sum.inr "least", .str ">="), (Sum.inr "most", .str "<=")], rfl, by decide, ?_⟩⟩
  rw [upd_upd]
  have s2 := sameNew hp (.dK (mergeK [] [(Sum.inr "least", .str ">="), (Sum.inr "most", .str "<=")]))
  refine ⟨_, rfl, a, _, _, _, rfl, rfl, SqT.of (s2 _ _ ha), rfl, p, .str (sgnS so), rfl, .inl ⟨_, Sum.inr so, .inl upd_same, rfl, ?_⟩, _, _, rfl, rfl, by omega, _, rfl, a, _, _, _, rfl, rfl, SqT.of (s2 _ _ ha), rfl, i, rfl, log_n b1 b2, _, _, rfl, rfl, by rw [len_app]; show _ + (numS i).length ≤ _; omega, k _ s2⟩
  have q : so = "least" ∨ so = "most" := by
    simp only [sorts2, List.mem_cons, List.not_mem_nil, or_false] at hs
    exact hs
  rcases q with rfl | rfl <;> rfl
abbrev nLShow : List Str := ["_law_chain", "_law_words", "_law_saying_here", "_law_by"]
theorem scLShow : FnScope nLShow ["_law_chain"] (defScope sLShow) := ⟨rfl, rfl, rfl, by decide +kernel, rfl, by decide +kernel, by decide +kernel⟩
theorem ok_lshow {f g2 : Addr} {fd d2 : FuncData} (F : Fun K "_law_show_chain" "_law_show_chain" sLShow f fd) (mS : mg "str" = none)
    (G2 : FnOk P w K mg base CX0 1 g2 d2 ["_law_saying_here"] spShSay) (b2 : Binds K d2 ["_law_saying_here"] []) (k2 : PySem.W.keepIn K (.ref g2) = true) (m2 : mg "_law_show_saying" = some (.ref g2)) :
    FnOk P w K mg base CX0 2 f fd ["_law_chain"] spLShow := by
  refine F.ok scLShow (fun vs H Q E h => ?_) (fun cdv A outer s H vs Q E hr h => ?_)
  · obtain ⟨x, s0, l, rfl, _⟩ := h
    rfl
  obtain ⟨x, s0, l, rfl, t, hg, hl, k⟩ := h
  refine ⟨_, pss_cons (ps_set (i := 1) scLShow.nd rfl (.inl rfl) (pe_lst (pa_cons (pe_call G2 hr rfl m2 k2 b2 .nil pass0 (pa_cons (pe_ix ix_tup (pe_ix ix_list (pv 0) pe_int (fun _ _ => rfl)) pe_int (fun _ _ => rfl)) pa_nil)) pa_nil))) <|
    pss_cons (ps_for PassesOwn.never rfl (pi_list (pe_slice sl_list (pv 0) (po_some pe_int) po_none)) (pg_tup rfl (pgs_cons (pg_name (i := 2) scLShow.nd rfl (.inl rfl)) (pgs_cons (pg_name (i := 3) scLShow.nd rfl (.inl rfl)) pgs_nil)))
      (pss_one (ps_expr (pe_bm PySem.F.plainAttrs_list PySem.F.slot_list_extend PySem.F.type_list_extend mt_extend (pv 1) (pa_cons (pe_lst (pa_cons (pe_ifExp (pt_cmpR op_eq (pv 3) (pe_op op_sub pe_int pe_int) (nomark _)) pe_str (pe_callTy call_str_int (by rfl) mS (by decide +kernel) (pa_cons (pv 3) pa_nil))) (pa_cons (pe_call G2 hr rfl m2 k2 b2 .nil pass0 (pa_cons (pv 2) pa_nil)) pa_nil))) pa_nil))))) <|
    pss_one (ps_ret (pe_join pe_str (pv 1))), ?_⟩
  obtain ⟨a, b, q, vs, rfl, ha, hb, hq, al⟩ := chain_items t
  have sl := sizeLine_eq
  have vl := al.length
  rw [List.length_map] at vl
  refine ⟨_, rfl, a, _, _, _, rfl, rfl, SqL.of ha, atI_nat (xs := .ref b :: vs) (j := 0) (v := .ref b) rfl, b, _, _, _, rfl, rfl, SqT.of hb, rfl, q, s0.1, s0.2.1, s0.2.2, rfl, say_At hg.s0 hq, fun H1 s1 => ⟨by show 1 ≤ sizeLine; omega, fun D hD => ?_⟩⟩
  have D0 : H D = none := by
    cases e : H D with
    | none => rfl
    | some u => rw [s1 _ _ e] at hD; cases hD
  have s2 := s1.trans (sameNew hD (.lst [V.str (sayW s0)]))
  have ha2 := s2 _ _ ha
  have al2 := al.same s2
  have hD2 : L2.upd H1 D (.lst [V.str (sayW s0)]) D = some (.lst ((wordsT s0 l 0).map V.str)) := upd_same
  have aD : a ≠ D := ne_of_none ha D0
  show tSeq _ _ _ _ (L2.upd H1 D (.lst [V.str (sayW s0)]))
  generalize L2.upd H1 D (.lst [V.str (sayW s0)]) = H2 at s2 ha2 al2 hD2
  refine ⟨_, rfl, 1, rfl, a, _, rfl, SqL.of ha2, fun L hL => ?_⟩
  have s3 := s2.trans (sameNew hL (.lst (cutV (.ref b :: vs) (some 1) none)))
  have al3 := al.same s3
  have hD3 := sameNew hL (.lst (cutV (.ref b :: vs) (some 1) none)) _ _ hD2
  have hL3 : L2.upd H2 L (.lst (cutV (.ref b :: vs) (some 1) none)) L = some (.lst vs) := by rw [upd_same, cutV_tail]; rfl
  have LD : L ≠ D := fun z => by rw [z, hD2] at hL; cases hL
  generalize L2.upd H2 L (.lst (cutV (.ref b :: vs) (some 1) none)) = H3 at s3 al3 hD3 hL3
  refine ⟨L, rfl, ⟨_, SqL.of hL3⟩, for_it (walk_list (xs := vs)) (fun i σ H4 => ∃ v2 v3 : Option V, σ = [some (.ref a), some (.ref D), v2, v3] ∧ H4 D = some (.lst ((wordsT s0 l i).map V.str)) ∧ H4 L = some (.lst vs) ∧ Same H H4)
    ⟨none, none, rfl, hD3, hL3, s3⟩ (fun i σ H4 _ ⟨_, _, _, _, q, _⟩ => SqL.of q) ?_ ?_⟩
  · rintro i y σ H9 H4 hi ⟨v2, v3, rfl, hD4, hL4, s4⟩ ⟨rfl, hy⟩
    obtain ⟨dy, hdy, ty⟩ := (al.same s4).get hy
    rw [List.getElem?_map] at hdy
    obtain ⟨p, hp, rfl⟩ := Option.map_eq_some_iff.mp hdy
    obtain ⟨pw, pb1, pb2⟩ := hg.ss p (List.mem_of_getElem? hp)
    obtain ⟨b', q', rfl, hb', hq'⟩ := link_at ty
    have il : i < l.length := (List.getElem?_eq_some_iff.mp hp).1
    have wl := wordsT_len s0 l i (by omega)
    have gg : greatS = 100000000000000000000 := rfl
    refine ⟨b', _, rfl, SqT.of hb', rfl, _, _, rfl, _, _, rfl, rfl, ?_⟩
    have fin : ∀ (H5 : Hp), Same H4 H5 → ∀ M, H5 M = some (.lst [V.str (byW p.2), V.str (sayW p.1)]) → D ≠ M → ∃ v2 v3 : Option V, [some (V.ref a), some (V.ref D), some (V.ref q'), some (V.int p.2)] = [some (V.ref a), some (V.ref D), v2, v3] ∧ L2.upd H5 D (.lst ((wordsT s0 l i).map V.str ++ [V.str (byW p.2), V.str (sayW p.1)])) D = some (.lst ((wordsT s0 l (i + 1)).map V.str)) ∧ L2.upd H5 D (.lst ((wordsT s0 l i).map V.str ++ [V.str (byW p.2), V.str (sayW p.1)])) L = some (.lst vs) ∧ Same H (L2.upd H5 D (.lst ((wordsT s0 l i).map V.str ++ [V.str (byW p.2), V.str (sayW p.1)]))) := fun H5 s5 M hM ne => ⟨_, _, rfl, by
      rw [upd_same, wordsT_step hp, List.map_append]
      rfl, by rw [upd_ne LD]; exact s5 _ _ hL4, fun b o e => by
      rw [upd_ne (ne_of_none e D0)]
      exact s5 _ _ (s4 _ _ e)⟩
    have lw : ((wordsT s0 l i).map V.str).length + [V.str (byW p.2), V.str (sayW p.1)].length ≤ sizeLine := by rw [List.length_map, wl]; show 1 + 2 * i + 2 ≤ _; omega
    refine ⟨_, rfl, .inl ⟨rfl, _, SqL.of hD4⟩, _, rfl, _, _, rfl, rfl, rfl, _, rfl, ?_⟩
    refine ite2 (fun c => ?_) (fun c => ?_)
    · have c : p.2 = -1 := V.int.inj (of_decide_eq_true c)
      have ez : "=" = byW p.2 := by unfold byW; rw [if_pos c]
      rw [ez]
      refine ⟨_, rfl, q', p.1.1, p.1.2.1, p.1.2.2, rfl, say_At pw hq', fun H5 s5 => ⟨by show 2 ≤ sizeLine; omega, fun M hM => ?_⟩⟩
      have s6 := s5.trans (sameNew hM (.lst [V.str (byW p.2), V.str (sayW p.1)]))
      exact ⟨D, M, _, _, rfl, rfl, s6 _ _ hD4, upd_same, lw, fin _ s6 M upd_same (ne_of_none (s5 _ _ hD4) hM)⟩
    · have c : p.2 ≠ -1 := fun z => c (decide_eq_true (by rw [z]; rfl))
      have ez : numS p.2 = byW p.2 := by unfold byW; rw [if_neg c]
      refine ⟨_, rfl, p.2, rfl, log_n (by omega) (by omega), ?_⟩
      rw [show Str.ofString (toString p.2) = numS p.2 from rfl, ez]
      refine ⟨_, rfl, q', p.1.1, p.1.2.1, p.1.2.2, rfl, say_At pw hq', fun H5 s5 => ⟨by show 2 ≤ sizeLine; omega, fun M hM => ?_⟩⟩
      have s6 := s5.trans (sameNew hM (.lst [V.str (byW p.2), V.str (sayW p.1)]))
      exact ⟨D, M, _, _, rfl, rfl, s6 _ _ hD4, upd_same, lw, fin _ s6 M upd_same (ne_of_none (s5 _ _ hD4) hM)⟩
  · rintro σ H4 ⟨v2, v3, rfl, hD4, hL4, s4⟩
    rw [vl, wordsT_all] at hD4
    have wk := wordsC_ok hg
    refine ⟨⟨_, rfl⟩, _, rfl, _, D, wordsC s0 l, rfl, rfl, .inl (SqL.of hD4), ?_, k H4 s4⟩
    have q := sum_len (n := 60) fun x hx => (wk x hx).1
    have n := wordsC_len s0 l
    have e : (" " : Str).length = 1 := by decide +kernel
    rw [e]
    have : (wordsC s0 l).length * 60 ≤ 4001 * 60 := Nat.mul_le_mul_right _ (by omega)
    omega
end
end Pk
end
section
set_option maxHeartbeats 1000000
/-! The law's own: the chain that a text writes. -/
namespace Pk
open PySem PySem.Spec PyProof.Rows L2 TL
abbrev sLDue : Stmt := topH 39
theorem rgc_two {n m : Nat} (h : n ≤ 1073741824) (o : 2 * m = n + 1) : RgC 0 (n : Int) 2 m := by
  have e : Builtin.Range.rangeSize 0 (n : Int) 2 = (m : Int) := by
    unfold Builtin.Range.rangeSize
    rw [if_pos (by decide), if_pos (by omega)]
    omega
  refine ⟨by decide, by decide, ?_, e⟩
  have f : ∀ a : Int, -1073741825 ≤ a → a ≤ 1073741826 → Builtin.Range.rangeFitsLong a = true := fun a h1 h2 => by
    unfold Builtin.Range.rangeFitsLong
    have x1 : -(2 : Int) ^ 63 ≤ a := by omega
    have x2 : a < (2 : Int) ^ 63 := by omega
    first | exact decide_eq_true ⟨x1, x2⟩ | (rw [Bool.and_eq_true]; exact ⟨decide_eq_true x1, decide_eq_true x2⟩)
  unfold Builtin.Range.small
  rw [e]
  rw [f 0 (by omega) (by omega), f n (by omega) (by omega), f 2 (by omega) (by omega), f m (by omega) (by omega)]
  show (_ && (_ || (if (2 : Int) > 0 then Builtin.Range.rangeFitsLong ((n : Int) + (2 - 1)) else _))) = true
  rw [if_pos (by decide), f (n + (2 - 1)) (by omega) (by omega)]
  simp
theorem q_first {ws : List Str} {a : Str} (h : ws[0]? = some a) : (chainQ ws)[0]? = some (.tuple [oS (sayL a), .none]) := by
  unfold chainQ
  have q := evens_get ws 0
  rw [show 2 * 0 = 0 from rfl, h] at q
  cases e : evens ws with
  | nil => rw [e] at q; cases q
  | cons b es =>
    rw [e] at q
    cases q
    rfl
theorem q_next {ws : List Str} {a b : Str} {j : Nat} (h : ws[2 * (j + 1)]? = some a) (hb : ws[2 * j + 1]? = some b) : (chainQ ws)[j + 1]? = some (linkQ a b) := by
  unfold chainQ
  have q := evens_get ws (j + 1)
  rw [h] at q
  have r := odds_get ws j
  rw [hb] at r
  cases e : evens ws with
  | nil => rw [e] at q; cases q
  | cons c es =>
    rw [e, List.getElem?_cons_succ] at q
    show (restQ es (odds2 ws))[j]? = _
    unfold restQ
    rw [List.getElem?_zipWith, q, r]
theorem q_len {ws : List Str} (o : ws.length % 2 = 1) : (chainQ ws).length = (ws.length + 1) / 2 := by
  have l1 := evens_len ws
  have l2 := odds_len ws
  unfold chainQ
  cases e : evens ws with
  | nil => rw [e] at l1; simp at l1; omega
  | cons c es =>
    rw [e, List.length_cons] at l1
    show (restQ es (odds2 ws)).length + 1 = _
    unfold restQ
    rw [List.length_zipWith]
    omega
def firstQ : PyData → PyData
  | .tuple (s :: _) => s
  | _ => .none
theorem q_firsts {ws : List Str} (o : ws.length % 2 = 1) : (chainQ ws).map firstQ = (evens ws).map fun e => oS (sayL e) := by
  have l1 := evens_len ws
  have l2 := odds_len ws
  unfold chainQ
  cases e : evens ws with
  | nil => rfl
  | cons c es =>
    rw [e, List.length_cons] at l1
    have le : es.length = (odds2 ws).length := by omega
    show oS (sayL c) :: (restQ es (odds2 ws)).map firstQ = oS (sayL c) :: es.map fun e => oS (sayL e)
    have : ∀ es os : List Str, es.length = os.length → (restQ es os).map firstQ = es.map fun e => oS (sayL e) := by
      intro es
      induction es with
      | nil => intro os _; rfl
      | cons a es ih =>
        intro os h
        cases os with
        | nil => simp at h
        | cons b os =>
          show oS (sayL a) :: (restQ es os).map firstQ = oS (sayL a) :: _
          rw [ih os (by simpa using h)]
    rw [this es _ le]
theorem none_any (l : List Str) : ((l.map fun e => oS (sayL e)).any fun z => PyData.eqv z .none) = !(l.all fun w => (sayL w).isSome) := by
  induction l with
  | nil => rfl
  | cons a l ih =>
    rw [List.map_cons, List.any_cons, ih, List.all_cons]
    cases e : sayL a with
    | none => rfl
    | some s => rfl
theorem vI_tr (H : Hp) (o : Option Int) : Tr H (vI o) (oI o) := by
  cases o with
  | none => exact .non
  | some i => exact .int i
theorem noL_oS (o : Option Say) : noL (oS o) = true := by cases o <;> rfl
theorem noL_oI (o : Option Int) : noL (oI o) = true := by cases o <;> rfl
theorem noLs_Q (ws : List Str) (i : Nat) : noLs ((chainQ ws).take i) = true := by
  refine noLs_all fun d hd => ?_
  have hd := List.mem_of_mem_take hd
  unfold chainQ at hd
  cases e : evens ws with
  | nil => rw [e] at hd; cases hd
  | cons c es =>
    rw [e] at hd
    rcases List.mem_cons.mp hd with rfl | hd
    · show (noL (oS (sayL c)) && (true && true)) = true
      rw [noL_oS]
      rfl
    · unfold restQ at hd
      obtain ⟨j, hj⟩ := List.getElem?_of_mem hd
      rw [List.getElem?_zipWith] at hj
      cases h1 : es[j]? with
      | none => rw [h1] at hj; simp at hj
      | some a =>
        cases h2 : (odds2 ws)[j]? with
        | none => rw [h1, h2] at hj; simp at hj
        | some b =>
          rw [h1, h2] at hj
          cases hj
          show (noL (oS (sayL a)) && (noL (oI (byQ b)) && true)) = true
          rw [noL_oS, noL_oI]
          rfl
theorem say_layS {e : Str} : (oS (sayL e)).canLay0 = true ∧ (oS (sayL e)).depth ≤ 1 := by
  cases h : sayL e with
  | none => exact ⟨rfl, by decide⟩
  | some s =>
    have h' : sayR e = some s := by
      rw [sayL_eq] at h
      exact (Option.filter_eq_some_iff.mp h).1
    obtain ⟨g1, g2⟩ := sayR_good h'
    rw [nameD_str, Bool.and_eq_true, Bool.and_eq_true, decide_eq_true_eq, decide_eq_true_eq] at g1
    have nm : nmOk s.1 := ⟨by omega, fun c hc => List.all_eq_true.mp (by first | exact g1.2.2 | exact g1.1) c hc⟩
    refine ⟨?_, ?_⟩
    · show (PyData.strOk s.1 && (PyData.strOk s.2.1 && (true && true))) = true
      rw [(nm_str nm).1, sorts_ok _ g2]
      rfl
    · show PyData.depth (.tuple [.str s.1, .str s.2.1, .int s.2.2]) ≤ 1
      simp [PyData.depth, PyData.depthAll]
theorem layS : ∀ l : List Str, PyData.canLayAll0 (l.map fun e => oS (sayL e)) = true ∧ PyData.depthAll (l.map fun e => oS (sayL e)) ≤ 1
  | [] => ⟨rfl, by simp [PyData.depthAll]⟩
  | e :: l => by
    obtain ⟨a, b⟩ := layS l
    obtain ⟨c, d⟩ := say_layS (e := e)
    refine ⟨?_, ?_⟩
    · rw [List.map_cons, PyData.canLayAll0, a, c]
      rfl
    · rw [List.map_cons, PyData.depthAll]
      omega
theorem q_shape {ws : List Str} {i : Nat} {d : PyData} (h : (chainQ ws)[i]? = some d) : ∃ a b, d = .tuple [a, b] := by
  unfold chainQ at h
  cases e : evens ws with
  | nil => rw [e] at h; simp at h
  | cons c es =>
    rw [e] at h
    cases i with
    | zero => cases h; exact ⟨_, _, rfl⟩
    | succ j =>
      rw [List.getElem?_cons_succ] at h
      unfold restQ at h
      rw [List.getElem?_zipWith] at h
      cases h1 : es[j]? with
      | none => rw [h1] at h; simp at h
      | some a =>
        cases h2 : (odds2 ws)[j]? with
        | none => rw [h1, h2] at h; simp at h
        | some b =>
          rw [h1, h2] at h
          cases h
          exact ⟨_, _, rfl⟩
theorem all_odds {ws : List Str} (h : ∀ j b, ws[2 * j + 1]? = some b → byOk b = true) : (odds2 ws).all byOk = true := by
  rw [List.all_eq_true]
  intro b hb
  obtain ⟨j, hj⟩ := List.getElem?_of_mem hb
  rw [odds_get] at hj
  exact h j b hj
theorem due_not {ws : List Str} {b : Str} {j : Nat} (hb : ws[2 * j + 1]? = some b) (h : byOk b = false) : dueB ws = false := by
  have r := odds_get ws j
  rw [hb] at r
  have q : (odds2 ws).all byOk = false := by
    rw [List.all_eq_false]
    exact ⟨b, List.mem_of_getElem? r, by rw [h]; exact Bool.false_ne_true⟩
  unfold dueB
  rw [q]
  simp
def spLDue : Sp := fun vs H Q _ => ∃ x : Str, vs = [.str x] ∧ x.length + 8 ≤ sizeLine ∧
  (readX x = none → ∀ H', Same H H' → Q .non H') ∧
  (∀ dd, readX x = some dd → ∀ (p : Addr) (H' : Hp), Same H H' → Tr H' (.ref p) dd → Q (.ref p) H')
section
variable {P : Program} {w : World} {K : PySem.W.Frag} {mg : Str → Option Value} {base : Heap}
abbrev nLDue : List Str := ["_law_text", "_law_words", "_law_found", "_law_k", "_law_by", "_law_saying_here"]
theorem scLDue : FnScope nLDue ["_law_text"] (defScope sLDue) := ⟨rfl, rfl, rfl, by decide +kernel, rfl, by decide +kernel, by decide +kernel⟩
theorem ok_ldue {f g1 g2 : Addr} {fd d1 d2 : FuncData} (F : Fun K "_law_due" "_law_due" sLDue f fd) (B : BltH mg) (mR : mg "range" = none)
    (G1 : FnOk P w K mg base CX0 1 g1 d1 ["_law_text"] spLNum) (b1 : Binds K d1 ["_law_text"] []) (k1 : PySem.W.keepIn K (.ref g1) = true) (m1 : mg "_law_read_number" = some (.ref g1))
    (G2 : FnOk P w K mg base CX0 2 g2 d2 ["_law_text"] spLRSay) (b2 : Binds K d2 ["_law_text"] []) (k2 : PySem.W.keepIn K (.ref g2) = true) (m2 : mg "_law_read_saying" = some (.ref g2)) :
    FnOk P w K mg base CX0 3 f fd ["_law_text"] spLDue := by
  refine F.ok scLDue (fun vs H Q E h => ?_) (fun cdv A outer s H vs Q E hr h => ?_)
  · obtain ⟨x, rfl, _⟩ := h
    rfl
  obtain ⟨x, rfl, xl, kn, ky⟩ := h
  have hu65 : (A.deeper (PyProof.Rows.envOfC "_law_due" (defScope sLDue) s.heap.objs.size f cdv)).units + 65 < cLine := by
    have := hr.un
    omega
  have hr1 : Room 1 _ := hr.mono (by decide)
  refine ⟨_, pss_cons (ps_par (i := 1) (j := 2) (by rfl) scLDue.nd rfl rfl (by decide) rfl rfl (pa_cons (pe_split (pv 0) pe_str) (pa_cons (pe_lst pa_nil) pa_nil)) (by rfl)) <|
    pss_cons (ps_if (PW.pt (pw_or (pt_cmpR op_eq (pe_op op_mod (pe_callB call_len_seq (by rfl) B.len PySem.boot_len (pa_cons (pv 1) pa_nil)) pe_int) pe_int (nomark _)) (pw_or1 (pt_cmpR op_gt (pe_callB call_len_seq (by rfl) B.len PySem.boot_len (pa_cons (pv 1) pa_nil)) pe_int (nomark _))))) (pss_one (ps_ret pe_non)) pss_nil) <|
    pss_cons (ps_for PassesOwn.never rfl (pi_range3 (by rfl) mR (pa_cons pe_int (pa_cons (pe_callB call_len_seq (by rfl) B.len PySem.boot_len (pa_cons (pv 1) pa_nil)) (pa_cons pe_int pa_nil)))) (pg_name (i := 3) scLDue.nd rfl (.inl rfl))
      (pss_cons (ps_set (i := 4) scLDue.nd rfl (.inl rfl) pe_non) <|
       pss_cons (ps_if (pt_cmpR op_gt (pv 3) pe_int (nomark _))
        (pss_cons (ps_set (i := 4) scLDue.nd rfl (.inl rfl) (pe_ifExp (pt_cmpR op_eq (pe_ix ix_list (pv 1) (pe_op op_sub (pv 3) pe_int) (fun _ _ => rfl)) pe_str (nomark _)) (pe_op op_sub pe_int pe_int) (pe_call G1 hr1 rfl m1 k1 b1 .nil pass0 (pa_cons (pe_ix ix_list (pv 1) (pe_op op_sub (pv 3) pe_int) (fun _ _ => rfl)) pa_nil)))) <|
         pss_one (ps_if (PW.pt (pw_or (pt_cmpR op_isN (pv 4) pe_non (nomark _)) (pw_or (pt_cmpR op_gt (pv 4) pe_int (nomark _)) (pw_or1 (PW.pt (pw_and (pt_cmpR op_lt (pv 4) pe_int (nomark _)) (pw_and1 (pt_cmpR op_ne (pe_ix ix_list (pv 1) (pe_op op_sub (pv 3) pe_int) (fun _ _ => rfl)) pe_str (nomark _)))))))))
           (pss_one (ps_ret pe_non)) pss_nil)) pss_nil) <|
       pss_one (ps_expr (pe_bm PySem.F.plainAttrs_list PySem.F.slot_list_append PySem.F.type_list_append mt_append (pv 2) (pa_cons (pe_tup (pa_cons (pe_call G2 hr rfl m2 k2 b2 .nil pass0 (pa_cons (pe_ix ix_list (pv 1) (pv 3) (fun _ _ => rfl)) pa_nil)) (pa_cons (pv 4) pa_nil))) pa_nil))))) <|
    pss_one (ps_ret (pe_ifExp (pt_cmpR (op_inD hu65) pe_non (pe_lc (own := [("_law_saying_here", 5), ("_law_by", 4)]) (g := gTup K 2 (gCons (gName 5) (gCons (gName 4) gNil))) (by rfl) scLDue.nd (pi_list (pv 2)) (blkOk_by (N := nLDue) (sc := defScope sLDue) (by decide +kernel)) (fun _ _ _ _ _ => pg_tup rfl (pgs_cons (pg_name (i := 5) scLDue.nd rfl (Or.inl rfl)) (pgs_cons (pg_name (i := 4) scLDue.nd rfl (Or.inl rfl)) pgs_nil))) (fun _ _ _ _ _ => pts_nil) (fun _ _ _ _ _ => pv 5)) (by rfl)) pe_non (pv 2))), ?_⟩
  have sl := sizeLine_eq
  refine ⟨_, rfl, ⟨_, rfl⟩, _, _, rfl, rfl, by decide +kernel, by omega, fun W nW => ?_⟩
  have wle : ∀ w ∈ Txt.split x " ", w.length + 2 ≤ sizeLine := fun w hw => by have := word_len hw; omega
  have wll : (Txt.split x " ").length ≤ sizeLine := by have := PyProof.Rows.split_le x " "; omega
  have hrd : readX x = if goodX (Txt.split x " ") = true then some (.list (chainX (Txt.split x " "))) else none := rfl
  have s1 := sameNew nW (.lst ((Txt.split x " ").map V.str))
  have hW1 : L2.upd H W (.lst ((Txt.split x " ").map V.str)) W = some (.lst ((Txt.split x " ").map V.str)) := upd_same
  show tCons _ _ _ (L2.upd H W (.lst ((Txt.split x " ").map V.str))) _
  generalize L2.upd H W (.lst ((Txt.split x " ").map V.str)) = H1 at s1 hW1
  generalize Txt.split x " " = ws at wle wll hrd hW1
  obtain ⟨dg, dq⟩ := due_good ws
  rw [dg] at hrd
  have kn : dueB ws = false → ∀ H', Same H H' → Q .non H' := fun e => kn (by rw [hrd, e]; rfl)
  have ky : dueB ws = true → ∀ (p : Addr) (H' : Hp), Same H H' → Tr H' (.ref p) (.list (chainQ ws)) → Q (.ref p) H' := fun e p H' s t => ky _ (by rw [hrd, e]; rfl) p H' s (by rw [← dq e]; exact t)
  refine ⟨by show 0 ≤ sizeLine; omega, fun N hN => ⟨_, _, rfl, ?_⟩⟩
  have N0 : H N = none := by
    cases e : H N with
    | none => rfl
    | some u => rw [s1 _ _ e] at hN; cases hN
  have s2 := s1.trans (sameNew hN (.lst []))
  have hW2 := sameNew hN (.lst []) _ _ hW1
  have WN : W ≠ N := ne_of_none hW1 hN
  have hN2 : L2.upd H1 N (.lst []) N = some (.lst []) := upd_same
  generalize L2.upd H1 N (.lst []) = H2 at s2 hW2 hN2
  have ml : (ws.map V.str).length = ws.length := List.length_map _
  refine ⟨_, rfl, W, _, rfl, .inl (SqL.of hW2), _, _, rfl, rfl, (by show (0 : Int) < 2; decide), rfl, _, rfl, ?_⟩
  refine ite2 (fun c => ?_) (fun c => ?_)
  · refine kn ?_ H2 s2
    have c := V.int.inj (of_decide_eq_true c)
    rw [ml] at c
    unfold dueB
    rw [decide_eq_false (show ¬ ws.length % 2 = 1 by omega)]
    rfl
  have od : ws.length % 2 = 1 := by
    rcases Nat.mod_two_eq_zero_or_one ws.length with q | q
    · refine (c (decide_eq_true ?_)).elim
      rw [ml]
      show V.int ((ws.length : Int) % 2) = V.int 0
      rw [show ((ws.length : Int) % 2) = 0 by omega]
    · exact q
  refine ⟨_, rfl, W, _, rfl, .inl (SqL.of hW2), _, _, rfl, rfl, _, rfl, ?_⟩
  refine ite2 (fun c => ?_) (fun c => ?_)
  · refine kn ?_ H2 s2
    have c := of_decide_eq_true c
    rw [ml] at c
    unfold dueB
    rw [decide_eq_false (show ¬ ws.length ≤ 3999 by omega)]
    simp
  have ls : ws.length ≤ 3999 := by
    by_cases h : ws.length ≤ 3999
    · exact h
    · refine (c (decide_eq_true ?_)).elim
      rw [ml]
      omega
  obtain ⟨m, hm⟩ : ∃ m, 2 * m = ws.length + 1 := ⟨(ws.length + 1) / 2, by omega⟩
  refine ⟨_, rfl, W, _, rfl, .inl (SqL.of hW2), 0, _, 2, m, rfl, (by rw [ml]; exact rgc_two (by omega) hm), for_rangeC (fun i σ H4 => ∃ v3 v4 v5 : Option V, σ = [some (.str x), some (.ref W), some (.ref N), v3, v4, v5] ∧ H4 W = some (.lst (ws.map V.str)) ∧ (∃ vs, H4 N = some (.lst vs) ∧ TrAll H4 vs ((chainQ ws).take i)) ∧ Same H H4 ∧ (∀ j, j + 1 < i → ∀ b, ws[2 * j + 1]? = some b → byOk b = true))
    ⟨none, none, none, rfl, hW2, ⟨[], hN2, .nil⟩, s2, fun j h => by omega⟩ ?_ ?_⟩
  · rintro i σ H4 hi ⟨v3, v4, v5, rfl, hW4, ⟨vs, hN4, al⟩, s4, hok⟩
    have vl := al.length
    rw [List.length_take, q_len od] at vl
    obtain ⟨a, ha⟩ : ∃ a, ws[2 * i]? = some a := ⟨_, List.getElem?_eq_getElem (by omega)⟩
    have hat : atI (ws.map V.str) (0 + ((i : Nat) : Int) * 2) = some (.str a) := by
      rw [show (0 + ((i : Nat) : Int) * 2) = ((2 * i : Nat) : Int) by omega]
      exact atI_nat (by rw [List.getElem?_map, ha]; rfl)
    refine ⟨_, rfl, _, _, rfl, rfl, _, rfl, ?_⟩
    refine ite2 (fun c => ?_) (fun c => ?w0)
    · have c := of_decide_eq_true c
      obtain ⟨j, rfl⟩ : ∃ j, i = j + 1 := ⟨i - 1, by omega⟩
      obtain ⟨b, hb⟩ : ∃ b, ws[2 * j + 1]? = some b := ⟨_, List.getElem?_eq_getElem (by omega)⟩
      have hbt : atI (ws.map V.str) (0 + ((j + 1 : Nat) : Int) * 2 - 1) = some (.str b) := by
        rw [show (0 + ((j + 1 : Nat) : Int) * 2 - 1) = ((2 * j + 1 : Nat) : Int) by omega]
        exact atI_nat (by rw [List.getElem?_map, hb]; rfl)
      have hq := q_next ha hb
      have bad : byOk b = false → ∀ H', Same H H' → Q .non H' := fun e => kn (due_not hb e)
      refine ⟨_, rfl, _, rfl, _, _, rfl, rfl, W, _, _, _, rfl, rfl, SqL.of hW4, hbt, rfl, _, rfl, ?_⟩
      refine ite2 (fun c1 => ?_) (fun c1 => ?_)
      · have eb : b = "=" := V.str.inj (of_decide_eq_true c1)
        obtain ⟨d4, tv4, hq4⟩ : ∃ d4, (∀ H, Tr H (V.int (0 - 1)) d4) ∧ (chainQ ws)[j + 1]? = some (.tuple [oS (sayL a), d4]) := ⟨_, fun H => .int _, by rw [hq, eb]; rfl⟩
        have hok' : ∀ j', j' + 1 < j + 1 + 1 → ∀ b, ws[2 * j' + 1]? = some b → byOk b = true := fun j' h b' hb' => by
          by_cases e : j' = j
          · subst e
            rw [hb] at hb'
            cases hb'
            rw [eb]
            decide
          · exact hok j' (by omega) b' hb'
        refine ⟨_, _, rfl, rfl, _, rfl, rfl, _, rfl, ite2 (fun z => by cases of_decide_eq_true z) (fun _ => ?_)⟩
        refine ⟨_, rfl, _, _, rfl, rfl, _, rfl, ite2 (fun z => absurd z (by decide)) (fun _ => ?_)⟩
        refine ⟨_, rfl, _, _, rfl, rfl, _, rfl, ite2 (fun _ => ?_) (fun z => absurd z (by decide))⟩
        refine ⟨_, rfl, _, rfl, _, _, rfl, rfl, W, _, _, _, rfl, rfl, SqL.of hW4, hbt, rfl, _, rfl, ite2 (fun z => by rw [eb] at z; exact absurd z (by decide +kernel)) (fun _ => ?_)⟩
        have s45 := s4
        have hW5 := hW4
        have hN5 := hN4
        have al5 := al
        refine ⟨_, rfl, .inl ⟨rfl, _, SqL.of hN5⟩, _, rfl, _, rfl, W, _, _, _, rfl, rfl, SqL.of hW5, hat, a, rfl, wle a (List.mem_of_getElem? ha), fun v H6 s6 so => ?_⟩
        refine ⟨_, rfl, by show 2 ≤ sizeLine; omega, fun T hT => ?_⟩
        have s7 := s6.trans (sameNew hT (.tup [v, V.int (0 - 1)]))
        have tr7 : Tr (L2.upd H6 T (.tup [v, V.int (0 - 1)])) (.ref T) (.tuple [oS (sayL a), d4]) := .tup upd_same (.cons (so.same (sameNew hT _)).tr (.cons (tv4 _) .nil))
        have hN7 := s7 _ _ hN5
        have hW7 := s7 _ _ hW5
        have al7 := al5.same s7
        have s07 := s45.trans s7
        refine ⟨N, vs, _, rfl, rfl, hN7, by rw [vl]; omega, ⟨_, _, _, rfl, ?_, ⟨vs ++ [.ref T], upd_same, ?_⟩, ?_, hok'⟩⟩
        · rw [upd_ne WN]
          exact hW7
        · rw [take_more hq4]
          exact TrAll.keepL hN7 (al7.snoc tr7) (by rw [← take_more hq4]; exact noLs_Q ws _)
        · intro b o e
          rw [upd_ne (ne_of_none e N0)]
          exact s07 _ _ e
      · have eb : b ≠ "=" := fun z => c1 (decide_eq_true (by rw [z]))
        have hb8 := wle b (List.mem_of_getElem? hb)
        have bq : byQ b = numW b := by unfold byQ; rw [if_neg eb]
        refine ⟨_, rfl, _, rfl, _, _, rfl, rfl, W, _, _, _, rfl, rfl, SqL.of hW4, hbt, b, rfl, by omega, fun H5 s5 => ?_⟩
        have s45 := s4.trans s5
        have hW5 := s5 _ _ hW4
        have hN5 := s5 _ _ hN4
        have al5 := al.same s5
        cases en : numW b with
        | none =>
          refine ⟨_, rfl, rfl, _, rfl, ite2 (fun z => ?_) (fun z => absurd rfl z)⟩
          refine bad ?_ _ s45
          unfold byOk
          rw [bq, en]
        | some n =>
          have bk : byOk b = (decide (n ≤ 39) && !(decide (n < 0) && !decide (b = "="))) := by
            unfold byOk
            rw [bq, en]
          rw [decide_eq_false eb] at bk
          refine ⟨_, rfl, rfl, _, rfl, ite2 (fun z => by cases of_decide_eq_true z) (fun _ => ?_)⟩
          refine ⟨_, rfl, _, _, rfl, rfl, _, rfl, ite2 (fun z => ?_) (fun z1 => ?_)⟩
          · have z := of_decide_eq_true z
            exact bad (by rw [bk, decide_eq_false (by omega)]; rfl) _ s45
          refine ⟨_, rfl, _, _, rfl, rfl, _, rfl, ite2 (fun z => ?_) (fun z2 => ?_)⟩
          · have z := of_decide_eq_true z
            refine ⟨_, rfl, _, rfl, _, _, rfl, rfl, W, _, _, _, rfl, rfl, SqL.of hW5, hbt, rfl, _, rfl, ite2 (fun z' => ?_) (fun z' => ?_)⟩
            · exact bad (by rw [bk, decide_eq_true z]; simp) _ s45
            · exact (z' (by rw [decide_eq_false (fun q => eb (V.str.inj q))]; rfl)).elim
          · have z1 : n ≤ 39 := by
              by_cases h : n ≤ 39
              · exact h
              · exact (z1 (decide_eq_true (by omega))).elim
            have z2 : ¬ n < 0 := fun h => z2 (decide_eq_true h)
            obtain ⟨d4, tv4, hq4⟩ : ∃ d4, (∀ H, Tr H (V.int n) d4) ∧ (chainQ ws)[j + 1]? = some (.tuple [oS (sayL a), d4]) := ⟨_, fun H => .int _, by rw [hq]; unfold linkQ; rw [bq, en]; rfl⟩
            have hok' : ∀ j', j' + 1 < j + 1 + 1 → ∀ b, ws[2 * j' + 1]? = some b → byOk b = true := fun j' h b' hb' => by
              by_cases e : j' = j
              · subst e
                rw [hb] at hb'
                cases hb'
                rw [bk, decide_eq_true z1, decide_eq_false z2]
                rfl
              · exact hok j' (by omega) b' hb'
            refine ⟨_, rfl, .inl ⟨rfl, _, SqL.of hN5⟩, _, rfl, _, rfl, W, _, _, _, rfl, rfl, SqL.of hW5, hat, a, rfl, wle a (List.mem_of_getElem? ha), fun v H6 s6 so => ?_⟩
            refine ⟨_, rfl, by show 2 ≤ sizeLine; omega, fun T hT => ?_⟩
            have s7 := s6.trans (sameNew hT (.tup [v, V.int n]))
            have tr7 : Tr (L2.upd H6 T (.tup [v, V.int n])) (.ref T) (.tuple [oS (sayL a), d4]) := .tup upd_same (.cons (so.same (sameNew hT _)).tr (.cons (tv4 _) .nil))
            have hN7 := s7 _ _ hN5
            have hW7 := s7 _ _ hW5
            have al7 := al5.same s7
            have s07 := s45.trans s7
            refine ⟨N, vs, _, rfl, rfl, hN7, by rw [vl]; omega, ⟨_, _, _, rfl, ?_, ⟨vs ++ [.ref T], upd_same, ?_⟩, ?_, hok'⟩⟩
            · rw [upd_ne WN]
              exact hW7
            · rw [take_more hq4]
              exact TrAll.keepL hN7 (al7.snoc tr7) (by rw [← take_more hq4]; exact noLs_Q ws _)
            · intro b o e
              rw [upd_ne (ne_of_none e N0)]
              exact s07 _ _ e
    case' w0 =>
      have c : i = 0 := by
        by_cases h : i = 0
        · exact h
        · exact (c (decide_eq_true (by omega))).elim
      subst c
      obtain ⟨d4, tv4, hq4⟩ : ∃ d4, (∀ H, Tr H V.non d4) ∧ (chainQ ws)[0]? = some (.tuple [oS (sayL a), d4]) := ⟨_, fun H => .non, q_first ha⟩
      have hok' : ∀ j', j' + 1 < 0 + 1 → ∀ b, ws[2 * j' + 1]? = some b → byOk b = true := fun j' h => by omega
      have s45 := s4
      have hW5 := hW4
      have hN5 := hN4
      have al5 := al
      refine ⟨_, rfl, .inl ⟨rfl, _, SqL.of hN5⟩, _, rfl, _, rfl, W, _, _, _, rfl, rfl, SqL.of hW5, hat, a, rfl, wle a (List.mem_of_getElem? ha), fun v H6 s6 so => ?_⟩
      refine ⟨_, rfl, by show 2 ≤ sizeLine; omega, fun T hT => ?_⟩
      have s7 := s6.trans (sameNew hT (.tup [v, V.non]))
      have tr7 : Tr (L2.upd H6 T (.tup [v, V.non])) (.ref T) (.tuple [oS (sayL a), d4]) := .tup upd_same (.cons (so.same (sameNew hT _)).tr (.cons (tv4 _) .nil))
      have hN7 := s7 _ _ hN5
      have hW7 := s7 _ _ hW5
      have al7 := al5.same s7
      have s07 := s45.trans s7
      refine ⟨N, vs, _, rfl, rfl, hN7, by rw [vl]; omega, ⟨_, _, _, rfl, ?_, ⟨vs ++ [.ref T], upd_same, ?_⟩, ?_, hok'⟩⟩
      · rw [upd_ne WN]
        exact hW7
      · rw [take_more hq4]
        exact TrAll.keepL hN7 (al7.snoc tr7) (by rw [← take_more hq4]; exact noLs_Q ws _)
      · intro b o e
        rw [upd_ne (ne_of_none e N0)]
        exact s07 _ _ e
  · rintro σ H4 ⟨v3, v4, v5, rfl, hW4, ⟨vs, hN4, al⟩, s4, hok⟩
    have ql := q_len od
    have ml' : m = (ws.length + 1) / 2 := by omega
    rw [ml', ← ql, List.take_length] at al
    have vl := al.length
    have ao : (odds2 ws).all byOk = true := all_odds fun j b hb => hok j (by have := (List.getElem?_eq_some_iff.mp hb).1; omega) b hb
    have du : dueB ws = (evens ws).all fun w => (sayL w).isSome := by
      unfold dueB
      rw [decide_eq_true od, decide_eq_true ls, ao]
      rfl
    refine ⟨_, rfl, N, rfl, ⟨_, SqL.of hN4⟩, fun D hD => ?_⟩
    have ND : N ≠ D := ne_of_none hN4 hD
    refine lc_list (K := K) (a := N) (xs := vs) (fun i H5 => ∃ us, H5 D = some (.lst us) ∧ TrAll H4 us (((chainQ ws).map firstQ).take i) ∧ Same H4 H5)
      ⟨[], upd_same, .nil, sameNew hD _⟩ (fun i H5 _ ⟨_, _, _, q⟩ => SqL.of (q _ _ hN4)) ?_ ?_
    · rintro i y H5 hy ⟨us, hD5, ul, s5⟩
      obtain ⟨dy, hdy, ty⟩ := al.get hy
      obtain ⟨d1, d2, rfl⟩ := q_shape hdy
      have ull := ul.length
      rw [List.length_take, List.length_map, ql] at ull
      cases ty with
      | @tup t ys _ ht ta =>
      match ys, ta with
      | [y1, y2], .cons t1 (.cons t2 .nil) =>
      have hf : ((chainQ ws).map firstQ)[i]? = some d1 := by rw [List.getElem?_map, hdy]; rfl
      refine ⟨t, _, rfl, SqT.of (s5 _ _ ht), rfl, _, _, rfl, _, _, rfl, rfl, rfl, ?_⟩
      refine ⟨_, rfl, _, hD5, by omega, us ++ [y1], upd_same, ?_, fun b o e => ?_⟩
      · rw [take_more hf]
        exact ul.snoc t1
      · rw [upd_ne (ne_of_none e hD)]
        exact s5 _ _ e
    · rintro H5 ⟨us, hD5, ul, s5⟩
      rw [vl, ← List.length_map (f := firstQ), List.take_length, q_firsts od] at ul
      obtain ⟨la, ld⟩ := layS (evens ws)
      have wl : (PyData.list ((evens ws).map fun e => oS (sayL e))).canLay0 = true := by rw [PyData.canLay0]; exact la
      have wd : (PyData.list ((evens ws).map fun e => oS (sayL e))).depth ≤ 2 := by rw [PyData.depth]; omega
      refine ⟨.none, _, Tr.dp .non rfl, Tr.dp (.lst hD5 (ul.same s5)) (noDict_of wl), rfl, shaped_of wl (by omega), _, rfl, ?_⟩
      rw [none_any, ← du]
      cases e : dueB ws with
      | false => exact iteT (kn e _ (s4.trans s5))
      | true => exact iteF ⟨_, rfl, ky e N _ (s4.trans s5) (.lst (s5 _ _ hN4) (al.same s5))⟩
end
end Pk
end
section
set_option maxHeartbeats 2000000
/-! try .. except X as n .. (more clauses), where the first clause takes whatever comes. -/
namespace Pk
open PySem PySem.Spec PyProof.Rows L2
def wFirst (K : PySem.W.Frag) (c : Value) (i : Nat) (ts : Addr → Value → Option Addr → TS) (D : Ends) : WX := fun cls d σ H =>
  PySem.W.exmOne K cls c = some true ∧ ∀ a, H a = none → ts a cls d { nx := fun σ' H' => D.nx (σ'.set i none) H', rt := D.rt, bk := fun σ' H' => D.bk (σ'.set i none) H', ct := fun σ' H' => D.ct (σ'.set i none) H' } (σ.set i (some (.ref a))) H
section
variable {X : Cx} {x n : Str} {c : Value} {i : Nat} {body suite : List Stmt} {b0 : Stmt} {np pos pos' : Pos} {tb : WX → TS} {ts : Addr → Value → Option Addr → TS}
theorem ps_try_first {rest : List ExceptHandler} (hs : X.stack = X.env :: X.outer) (hf : X.env.frame = some X.env.locals) (hN : X.N.Nodup) (hi : X.N[i]? = some n) (hln : X.env.kindOf n = some .local) (hc : Names X x c)
    (hb : ∀ (W : WX) (pn : List (Addr × Obj)) (xe : Value → Shared → Prop), Takes (X.tr pn xe) W → PassesOwn (model X.prog X.w) X.A X.env xe → PSs (X.tr pn xe) body (tb W))
    (hsu : ∀ (a : Addr) (oe : Obj) (cls : Value) (d : Option Addr) (pn : List (Addr × Obj)), Zc cls d oe → (∃ vs, oe.data = .fields vs) → PSs (X.suite a ((a, oe) :: pn)) (b0 :: suite) (ts a cls d)) :
    PS X (.Try body (.ExceptHandler (some (.Name x np)) (some n) (b0 :: suite) pos' :: rest) [] [] pos) (fun D σ H => tb (wFirst X.K c i ts D) D σ H) := by
  refine ⟨fun pins s σ H D I h => ?_⟩
  have ok := I.ok
  have hfr : X.A.frames = some (X.env :: X.outer) := by rw [ok.frames, hs]
  refine wpAny_Try_except (wpAny_mono ((hb (wFirst X.K c i ts D) (X.pn ++ pins) (fun e u1 => wpAny (model X.prog X.w) X.A (noteFrame e X.env) (fun _ u2 => wpAny (model X.prog X.w) X.A (setFlight e none) (fun _ u3 =>
    wpAny (model X.prog X.w) X.A (handleBy e X.env (.ExceptHandler (some (.Name x np)) (some n) (b0 :: suite) pos' :: rest)) (SP X pins D) X.xe u3) X.xe u2) X.xe u1) (fun u s' xx => ?_) PassesOwn.looking).run [] s σ H D (I.toTry _) h) (fun f s1 hsp => ?_) (fun e s1 he => he))
  · obtain ⟨a, B, sI, pins', σ', H', cls, d, rfl, J', nb, up, sky, na, os, ag, hb1, hyes⟩ := xx
    have J : L2.Inv X pins σ' H' sI := J'.ofTry ok
    show wpAny (model X.prog X.w) X.A (noteFrame (.ref a) X.env) _ _ _
    refine Sky.land Zc.steady hfr hf (show Sky B (X.env :: X.outer) a (Zc cls d) X.env.locals s'.heap by rw [← hs]; exact sky) fun h3 fl3 up3 => ?_
    have J3 : L2.Inv X pins σ' H' { s' with heap := h3 } := J.landed nb fl3.1 (up.trans up3) os ag
    obtain ⟨oe3, vs3, he3, hz3, hd3⟩ := fl3.there
    have nfr : a ∉ frs (X.env :: X.outer) := fun hm => by
      obtain ⟨_, o', e', hnf⟩ := fl3.2.2.1.mem hm
      rw [he3] at e'
      cases e'
      exact hnf _ hd3
    have nL : a ≠ X.env.locals := fun z => nfr (List.mem_filterMap.mpr ⟨X.env, List.mem_cons_self, by rw [hf, z]⟩)
    have nF : a ∉ X.fs := fun hm => by
      obtain ⟨e, he, q⟩ := List.mem_filterMap.mp hm
      exact nfr (List.mem_filterMap.mpr ⟨e, List.mem_cons_of_mem _ he, q⟩)
    have S3 := J3.suite he3 hd3 na nL nF
    refine wpAny_handleBy_cons (codeAny_handlers_test ?_) (by intro q; cases q)
    have LT : PySem.W.Looks (model X.prog X.w) h3 (typeOf (.ref a)) cls := fun A Q E u k q => wpAny_typeOf_ref (k _ _ he3) (by rw [hz3.1]; exact q)
    have LM := PySem.W.exm_one (M := model X.prog X.w) J3.kIn LT hb1
    have test : ∀ {Q : Value → Shared → Prop} {E : Value → Shared → Prop}, Q c { s' with heap := h3 } → wpAny (model X.prog X.w) (X.A.mark (some (.ref a))) (eval (.Name x np) X.env) Q E { s' with heap := h3 } := fun {Q E} q => by
      obtain ⟨hg, hdbg, hm | ⟨hm, hv, hnn⟩⟩ := hc
      · exact ld_glob (X := X.suite a ((a, oe3) :: (X.pn ++ pins))) S3 hg hm q hdbg
      · exact ld_blt (X := X.suite a ((a, oe3) :: (X.pn ++ pins))) S3 hg hm hv q hnn hdbg
    refine test (LM.here ?_)
    refine codeAny_handlers_suite_as (HandSPX.lands_againZ fl3 fun h4 fl4 up4 => ?_)
    have J4 : L2.Inv X pins σ' H' { s' with heap := h4 } := J.landed nb fl4.1 ((up.trans up3).trans up4) os ag
    obtain ⟨oe4, vs4, he4, hz4, hd4⟩ := fl4.there
    have S4 := J4.suite he4 hd4 na nL nF
    refine store_ok (X := X.suite a ((a, oe4) :: (X.pn ++ pins))) (v := .ref a) S4 hN hi (.inl hln) rfl (fun s5 S5 => ?_) (.inr hln)
    refine wpAny_mono ((hsu a oe4 cls d (X.pn ++ pins) hz4 ⟨_, hd4⟩).run [] s5 _ H' _ S5 (hyes a na)) (fun f s6 hsp => ?_) (fun _ _ z => False.elim z)
    have gone : ∀ {σ6 : L2.St} {H6 : Hp} {Qs : Shared → Prop}, L2.Inv (X.suite a ((a, oe4) :: (X.pn ++ pins))) [] σ6 H6 s6 → (∀ s7, L2.Inv X pins (σ6.set i none) H6 s7 → Qs s7) → wpAny (model X.prog X.w) X.A (do bindName X.env n .none; unbindBehindTheSuite X.env n pos') (fun _ s7 => Qs s7) X.xe s6 :=
      fun {σ6 H6 Qs} S6 hq => gone_ok (S6.unsuite ok) hN hi hln hq
    cases f with
    | next =>
      obtain ⟨σ6, H6, S6, q6⟩ := hsp
      exact gone S6 fun s7 J7 => ⟨_, _, J7, q6⟩
    | brk =>
      obtain ⟨σ6, H6, S6, q6⟩ := hsp
      exact gone S6 fun s7 J7 => ⟨_, _, J7, q6⟩
    | cont =>
      obtain ⟨σ6, H6, S6, q6⟩ := hsp
      exact gone S6 fun s7 J7 => ⟨_, _, J7, q6⟩
    | ret u =>
      obtain ⟨v6, σ6, H6, S6, r6, q6⟩ := hsp
      exact gone S6 fun s7 J7 => ⟨_, _, _, J7, r6, q6⟩
  · cases f with
    | next =>
      obtain ⟨σ', H', J', q⟩ := hsp
      exact wpAny_execs_nil ⟨σ', H', J'.ofTry ok, q⟩
    | brk =>
      obtain ⟨σ', H', J', q⟩ := hsp
      exact ⟨σ', H', J'.ofTry ok, q⟩
    | cont =>
      obtain ⟨σ', H', J', q⟩ := hsp
      exact ⟨σ', H', J'.ofTry ok, q⟩
    | ret u =>
      obtain ⟨v, σ', H', J', r, q⟩ := hsp
      exact ⟨v, σ', H', J'.ofTry ok, r, q⟩
end
end Pk
end
section
set_option maxHeartbeats 1000000
/-! The law's own: told and word. -/
namespace Pk
open PySem PySem.Spec PyProof.Rows L2 TL
abbrev sLTold : Stmt := topH 40
abbrev sLWord : Stmt := topH 42
def spLTold (Ps : List Addr) : Sp := fun vs H Q _ => ∃ (x : V) (d : PyData), vs = [x] ∧ Tr H x d ∧ Tabs Ps H ∧ (∀ z, d = .str z → z.length + 2 ≤ sizeLine) ∧
  (∀ z dd, d = .str z → readX z = some dd → ∀ (p : Addr) (xs : List V) (H' : Hp), GrS Ps H H' → H p = none → H' p = some (.lst xs) → Tr H' (.ref p) dd → Q (.ref p) H') ∧
  ((∀ z, d = .str z → readX z = none) → ∀ (p : Addr) (H' : Hp), GrS Ps H H' → H' p = some (.tup [V.str "row", V.int 0]) → Q (.ref p) H')
def spLWord (Ps : List Addr) : Sp := fun vs H Q _ => ∃ (x : V) (d : PyData), vs = [x] ∧ Tr H x d ∧ okS d = true ∧ Tabs Ps H ∧
  ((∃ s0 l, d = .list (chainP s0 l) ∧ ChainG s0 l ∧ l.length + 1 ≤ 2000 ∧ ∀ H', GrS Ps H H' → Q (.str "told") H') ∨ (formC d = false ∧ ∀ H', GrS Ps H H' → Q (.str "chain") H'))
section
variable {P : Program} {w : World} {K : PySem.W.Frag} {mg : Str → Option Value} {base : Heap} {Ps : List Addr}
abbrev nLTold : List Str := ["_law_text", "_law_found", "e"]
theorem scLTold : FnScope nLTold ["_law_text"] (defScope sLTold) := ⟨rfl, rfl, rfl, by decide +kernel, rfl, by decide +kernel, by decide +kernel⟩
theorem ok_ltold {f g CT : Addr} {fd gd : FuncData} (F : Fun K "_law_told" "_law_told" sLTold f fd) (X : XfC K CT) (hno : PySem.W.findIn K (.ref CT) "row" = some none) (mN : mg "NoText" = some (.ref CT)) (te : PySem.W.exmOne K (.ref CT) (.ref CT) = some true)
    (G : FnOk P w K mg base (L2.CX P w) 8 g gd ["text"] (spReadC Ps CT)) (bG : Binds K gd ["text"] []) (kG : PySem.W.keepIn K (.ref g) = true) (mG : mg "read_chain" = some (.ref g)) :
    FnOk P w K mg base CX0 9 f fd ["_law_text"] (spLTold Ps) := by
  refine F.ok scLTold (fun vs H Q E h => ?_) (fun cdv A outer s H vs Q E hr h => ?_)
  · obtain ⟨x, d, rfl, _⟩ := h
    rfl
  obtain ⟨x, d, rfl, tx, tb, zl, ky, kn⟩ := h
  refine ⟨_, pss_cons (ps_set (i := 1) scLTold.nd rfl (.inl rfl) pe_non) <|
    pss_cons (ps_try_first (i := 2) (c := .ref CT) (tb := fun W => tAsg (tCallS (spReadC Ps CT) (WE W) (tCons (tVar 0) tNil)) (gName 1)) (ts := fun a cls d => tAsg (tTup (tCons (tC (.str "row")) (tCons (tXf a cls d CT "row" (tVar 2)) tNil))) (gName 1)) rfl rfl scLTold.nd rfl rfl ⟨rfl, by decide, Or.inl mN⟩
      (fun W pn xe tk _ => pss_one (ps_set (i := 1) scLTold.nd rfl (.inl rfl) (by exact (pe_callS G hr rfl mG kG bG (fun σ => passAt tk σ) (by exact (pa_cons (pv 0) pa_nil))))))
      (fun a oe cls d pn hz hf => pss_one (ps_set (i := 1) scLTold.nd rfl (Or.inl rfl) (by exact (pe_tup (pa_cons pe_str (pa_cons (pe_xf X hno hz hf (pv 2)) pa_nil))))))) <|
    pss_one (ps_ret (pv 1)), ?_⟩
  refine ⟨_, rfl, x, d, rfl, tx, tb, zl, fun z dd e1 e2 p xs H1 g1 hp hp1 t1 => ?_, fun hno dx H1 g1 hx => ?_⟩
  · exact ⟨_, rfl, ky z dd e1 e2 p xs H1 g1 hp hp1 t1⟩
  · refine ⟨te, fun a na => ?_⟩
    refine ⟨_, rfl, rfl, rfl, dx, _, .int 0, rfl, hx, rfl, by show 2 ≤ sizeLine; decide, fun T hT => ⟨_, rfl, kn hno T _ (g1.trans (GrS.same g1.1 (sameNew hT _))) upd_same⟩⟩
end
section
variable {P : Program} {w : World} {K : PySem.W.Frag} {mg : Str → Option Value} {base : Heap} {Ps : List Addr}
abbrev nLWord : List Str := ["_law_thing", "_law_found"]
theorem scLWord : FnScope nLWord ["_law_thing"] (defScope sLWord) := ⟨rfl, rfl, rfl, by decide +kernel, rfl, by decide +kernel, by decide +kernel⟩
theorem ok_lword {f g CN CD : Addr} {fd gd : FuncData} (F : Fun K "_law_word" "_law_word" sLWord f fd) (mN : mg "NoChain" = some (.ref CN)) (mD : mg "DialError" = some (.ref CD)) (te : PySem.W.exmOne K (.ref CN) (.ref CN) = some true)
    (G : FnOk P w K mg base (L2.CX P w) 8 g gd ["chain"] (spShowC Ps CN)) (bG : Binds K gd ["chain"] []) (kG : PySem.W.keepIn K (.ref g) = true) (mG : mg "show_chain" = some (.ref g)) :
    FnOk P w K mg base CX0 9 f fd ["_law_thing"] (spLWord Ps) := by
  refine F.ok scLWord (fun vs H Q E h => ?_) (fun cdv A outer s H vs Q E hr h => ?_)
  · obtain ⟨x, d, rfl, _⟩ := h
    rfl
  obtain ⟨x, d, rfl, tx, ok, tb, hv⟩ := h
  refine ⟨_, pss_cons (ps_set (i := 1) scLWord.nd rfl (.inl rfl) pe_str) <|
    pss_cons (ps_try_many (l := [(.ref CN, fun _ _ _ => tAsg (tC (.str "chain")) (gName 1)), (.ref CD, fun _ _ _ => tAsg (tC (.str "other")) (gName 1))]) (tb := fun W => tDrop (tCallS (spShowC Ps CN) (WE W) (tCons (tVar 0) tNil))) (Wout := fun _ _ _ _ => False) rfl rfl takes0
      (fun W pn xe tk _ => pss_one (ps_expr (by exact (pe_callS G hr rfl mG kG bG (fun σ => passAt tk σ) (by exact (pa_cons (pv 0) pa_nil))))))
      (.cons ⟨rfl, by decide, Or.inl mN⟩ (fun a oe cls d pn hz hf => pss_one (ps_set (i := 1) scLWord.nd rfl (Or.inl rfl) pe_str)) (.cons ⟨rfl, by decide, Or.inl mD⟩ (fun a oe cls d pn hz hf => pss_one (ps_set (i := 1) scLWord.nd rfl (Or.inl rfl) pe_str)) .nil))) <|
    pss_one (ps_ret (pv 1)), ?_⟩
  refine ⟨_, rfl, x, d, rfl, tx, ok, tb, ?_⟩
  rcases hv with ⟨s0, l, e, hg, hl, k⟩ | ⟨hf, k⟩
  · exact .inl ⟨s0, l, e, hg, hl, fun H1 g1 => ⟨_, rfl, k H1 g1⟩⟩
  · exact .inr ⟨hf, fun H1 g1 => ⟨true, te, fun _ a na => ⟨_, rfl, k H1 g1⟩, fun q => Bool.noConfusion q⟩⟩
end
end Pk
end
section
set_option maxHeartbeats 1000000
/-! The law's own: a saying drawn. -/
namespace Pk
open PySem PySem.Spec PyProof.Rows L2 TL
def spLSayD : Sp := fun vs H Q _ => ∃ (p c : Addr) (n : Int), vs = [.ref p] ∧ PenC H p c n ∧ n ≤ 400000000 ∧
  ∀ (q : Addr) (s : Say) (H' : Hp), PenC H' p c (n + 20) → Sb p H H' → SayW s → H' q = some (.tup (sayV s)) → Q (.ref q) H'
abbrev nSayD : List Str := ["_law_pen_here", "_law_name", "_law_k", "_law_number"]
theorem scSayD : FnScope nSayD ["_law_pen_here"] (defScope sSay) := ⟨rfl, rfl, rfl, by decide +kernel, rfl, by decide +kernel, by decide +kernel⟩
theorem abc6_ok : ∀ x ∈ ("abcxyz" : Str).cps.toList, smallC x = true := by decide +kernel
section
variable {P : Program} {w : World} {K : PySem.W.Frag} {mg : Str → Option Value} {base : Heap}
theorem ok_lsayd {f g g2 : Addr} {fd gd gd2 : FuncData} (F : Fun K "_law_saying" "_law_saying" sSay f fd) (B : Blt mg)
    (G : FnOk P w K mg base CX0 1 g gd ["_law_pen_here", "_law_many"] spDrawC) (bG : Binds K gd ["_law_pen_here", "_law_many"] []) (kG : PySem.W.keepIn K (.ref g) = true) (mG : mg "_law_draw" = some (.ref g))
    (G2 : FnOk P w K mg base CX0 2 g2 gd2 ["_law_pen_here", "_law_lot"] spPick) (bG2 : Binds K gd2 ["_law_pen_here", "_law_lot"] []) (kG2 : PySem.W.keepIn K (.ref g2) = true) (mG2 : mg "_law_pick" = some (.ref g2)) :
    FnOk P w K mg base CX0 3 f fd ["_law_pen_here"] spLSayD := by
  refine F.ok scSayD (fun vs H Q E h => ?_) (fun cdv A outer s H vs Q E hr h => ?_)
  · obtain ⟨p, c, n, rfl, _⟩ := h
    rfl
  obtain ⟨p, c, n, rfl, pen, hn, k⟩ := h
  have hr1 : Room 1 _ := hr.mono (by decide)
  refine ⟨_, pss_cons (ps_set (i := 1) scSayD.nd rfl (.inl rfl) (pe_join pe_str (pe_lc (own := [("_law_k", 2)]) (g := gName 2) (by rfl) scSayD.nd (pi_range1 (by rfl) B.range (pa_cons (pe_op op_add pe_int (pe_call G hr1 rfl mG kG bG .nil pass0 (pa_cons (pv 0) (pa_cons pe_int pa_nil)))) pa_nil)) (blkOk_by (N := nSayD) (sc := defScope sSay) (by decide +kernel)) (fun _ _ _ _ _ => pg_name (i := 2) scSayD.nd rfl (Or.inl rfl)) (fun _ _ _ _ _ => pts_nil) (fun _ _ _ _ _ => pe_call G2 hr rfl mG2 kG2 bG2 .nil pass0 (pa_cons (pv 0) (pa_cons pe_str pa_nil)))))) <|
    pss_cons (ps_set (i := 3) scSayD.nd rfl (.inl rfl) (pe_op op_mul (pe_call G2 hr rfl mG2 kG2 bG2 .nil pass0 (pa_cons (pv 0) (pa_cons (pe_lst (pa_cons pe_int <| pa_cons pe_int <| pa_cons (pe_op op_pow pe_int pe_int) <| pa_cons (pe_call G hr1 rfl mG kG bG .nil pass0 (pa_cons (pv 0) (pa_cons (pe_op op_pow pe_int pe_int) pa_nil))) pa_nil)) pa_nil))) (pe_call G2 hr rfl mG2 kG2 bG2 .nil pass0 (pa_cons (pv 0) (pa_cons (pe_lst (pa_cons pe_int <| pa_cons (pe_op op_sub pe_int pe_int) pa_nil)) pa_nil))))) <|
    pss_one (ps_ret (pe_tup (pa_cons (pv 1) (pa_cons (pe_call G2 hr rfl mG2 kG2 bG2 .nil pass0 (pa_cons (pv 0) (pa_cons (pe_lst (pa_cons pe_str <| pa_cons pe_str pa_nil)) pa_nil))) (pa_cons (pv 3) pa_nil))))), ?_⟩
  refine ⟨⟨_, rfl⟩, _, rfl, p, c, n, _, rfl, pen, by omega, by decide, by decide, fun v3 H3 b0 b1 pen3 sb3 => ?_⟩
  refine ⟨_, _, rfl, rfl, _, rfl, by omega, by omega, fun D hD => lc_range (lo := 0) (n := (1 + v3).toNat) (fun i H4 => ∃ cs : List Nat, H4 D = some (.lst ((cs.map fun x => (⟨#[x]⟩ : Str)).map V.str)) ∧ cs.length = i ∧ (∀ x ∈ cs, smallC x = true) ∧ PenC H4 p c (n + 1 + i) ∧ Sb p H3 H4)
    ⟨[], upd_same, rfl, fun _ h => absurd h (by simp), (pen3.same (sameNew hD _)).mono (by omega), Sb.same (sameNew hD _)⟩ ?_ ?_⟩
  · rintro i H4 hi ⟨cs, e1, e2, e3, pen4, sb4⟩
    have Dp := pen3.newp hD
    have Dc := pen3.newc hD
    refine ⟨rfl, _, rfl, .inr ⟨p, c, n + 1 + i, _, rfl, pen4, by omega, by decide +kernel, by decide +kernel, fun x H5 hx pen5 sb5 => ?_⟩⟩
    refine ⟨_, sb5.to Dp e1, small1000 (by simp only [List.length_map]; omega), cs ++ [x], ?_, by simp [e2], fun y hy => ?_, ?_, ?_⟩
    · rw [upd_same, List.map_append, List.map_append]
      rfl
    · rcases List.mem_append.mp hy with hy | hy
      · exact e3 y hy
      · rw [List.mem_singleton.mp hy]
        exact abc6_ok x hx
    · exact (pen5.upd Dp Dc _).mono (by omega)
    · exact (sb4.trans sb5).new hD Dp _
  rintro H4 ⟨cs, e1, e2, e3, pen4, sb4'⟩
  have sb4 := sb3.trans sb4'
  have hcl : cs.length ≤ 8 ∧ 1 ≤ cs.length := by omega
  refine ⟨_, D, cs.map fun x => (⟨#[x]⟩ : Str), rfl, rfl, .inl (SqL.of e1), ?_, ?_⟩
  · rw [sum_signs, List.length_map]
    show cs.length + cs.length * 0 ≤ _
    omega
  have hzb := join_signs cs
  generalize Txt.join (Str.ofString "") (cs.map fun x => (⟨#[x]⟩ : Str)) = zb at hzb ⊢
  have hzl : zb.length = cs.length := by rw [← len_cps, hzb]
  have hzc : ∀ x ∈ zb.cps.toList, smallC x = true := by rw [hzb]; exact e3
  have hnm : nameD (.str zb) = true := by
    rw [nameD_str, decide_eq_true (by omega), decide_eq_true (by omega), List.all_eq_true.mpr hzc]
    rfl
  clear e1 hzb
  have e20 : (10 : Int) ^ (20 : Int).toNat = 100000000000000000000 := by decide
  have N4 := pen4.mono (show n + 1 + (((1 + v3).toNat : Nat) : Int) ≤ n + 9 by omega)
  refine ⟨_, rfl, _, _, rfl, rfl, ⟨by decide, by decide, by decide⟩, _, rfl, _, _, rfl, rfl, ⟨by decide, by decide, by decide⟩, p, c, n + 9, _, rfl, N4, by omega, by rw [ints10]; decide, by rw [ints10]; decide, fun v5 H5 c0 c1 pen5 sb5 => ?_⟩
  rw [ints10] at c1
  refine ⟨by show 4 ≤ sizeLine; decide, fun L hL => ?_⟩
  refine .inl ⟨p, c, L, _, _, rfl, pen5.same (sameNew hL _), by omega, pen5.newp hL, .inl upd_same, by simp, by simp, fun x6 H6 hx6 pen6 sb6 => ?_⟩
  have sC := sb4.trans (sb5.trans ((Sb.same (sameNew hL _)).trans sb6))
  refine ⟨_, rfl, _, _, rfl, rfl, by show 2 ≤ sizeLine; decide, fun M hM => ?_⟩
  refine .inl ⟨p, c, M, _, _, rfl, pen6.same (sameNew hM _), by omega, pen6.newp hM, .inl upd_same, by simp, by simp, fun x7 H7 hx7 pen7 sb7 => ?_⟩
  have sD := sC.trans ((Sb.same (sameNew hM _)).trans sb7)
  obtain ⟨a, rfl, a0, a1⟩ : ∃ a : Int, x6 = .int a ∧ 0 ≤ a ∧ a ≤ greatS := by
    have gg : greatS = 100000000000000000000 := rfl
    simp only [List.mem_cons, List.not_mem_nil, or_false] at hx6
    rcases hx6 with rfl | rfl | rfl | rfl
    · exact ⟨_, rfl, by decide, by decide⟩
    · exact ⟨_, rfl, by decide, by decide⟩
    · exact ⟨_, rfl, by rw [e20]; decide, by rw [e20]; decide⟩
    · exact ⟨_, rfl, c0, by omega⟩
  obtain ⟨b, rfl, hb⟩ : ∃ b : Int, x7 = .int b ∧ (b = 1 ∨ b = -1) := by
    simp only [List.mem_cons, List.not_mem_nil, or_false] at hx7
    rcases hx7 with rfl | rfl
    · exact ⟨_, rfl, .inl rfl⟩
    · exact ⟨_, rfl, .inr rfl⟩
  have hab : -greatS ≤ a * b ∧ a * b ≤ greatS := by
    rcases hb with rfl | rfl <;> omega
  refine ⟨_, _, rfl, rfl, mulR (by omega) (by omega), ?_⟩
  refine ⟨_, rfl, _, rfl, by show 2 ≤ sizeLine; decide, fun S hS => ?_⟩
  refine .inl ⟨p, c, S, _, _, rfl, pen7.same (sameNew hS _), by omega, pen7.newp hS, .inl upd_same, by simp, by simp, fun x8 H8 hx8 pen8 sb8 => ?_⟩
  have sE := sD.trans ((Sb.same (sameNew hS _)).trans sb8)
  obtain ⟨so, rfl, hso⟩ : ∃ so : Str, x8 = .str so ∧ so ∈ sorts2 := by
    simp only [List.mem_cons, List.not_mem_nil, or_false] at hx8
    rcases hx8 with rfl | rfl
    · exact ⟨_, rfl, by decide +kernel⟩
    · exact ⟨_, rfl, by decide +kernel⟩
  refine ⟨_, rfl, by show 3 ≤ sizeLine; decide, fun q hq => ?_⟩
  exact k q (zb, so, a * b) _ ((pen8.same (sameNew hq _)).mono (by omega)) (sE.trans (Sb.same (sameNew hq _))) ⟨⟨by show zb.length ≤ 30; omega, hzc⟩, hnm, hso, hab.1, hab.2⟩ upd_same
end
end Pk
end
section
set_option maxHeartbeats 1000000
/-! The law's own: a text with one thing otherwise. -/
namespace Pk
open PySem PySem.Spec PyProof.Rows L2 TL
abbrev sLBent : Stmt := topH 41
theorem joinL_le (s : List Nat) : ∀ ws : List (List Nat), (joinL s ws).length ≤ (ws.map (·.length)).sum + ws.length * s.length
  | [] => by simp [joinL]
  | [a] => by simp [joinL]
  | a :: b :: r => by
    have ih := joinL_le s (b :: r)
    rw [joinL]
    simp only [List.length_append, List.map_cons, List.sum_cons, List.length_cons] at ih ⊢
    rw [Nat.add_mul, Nat.add_mul] at *
    omega
theorem join_le (y : Str) (ws : List Str) : (Txt.join y ws).length ≤ (ws.map (·.length)).sum + ws.length * y.length := by
  have h := joinL_le (tl y) (ws.map tl)
  rw [join_eq, ← len_cps]
  show (tl (Str.join y ws)).length ≤ _
  rw [tl_join]
  rw [List.map_map, List.length_map] at h
  have e : (ws.map ((fun x => x.length) ∘ tl)) = ws.map (·.length) := List.map_congr_left fun x _ => len_cps x
  rw [e] at h
  have e2 : (tl y).length = y.length := len_cps y
  rw [e2] at h
  exact h
def spLBent : Sp := fun vs H Q _ => ∃ (p c : Addr) (n : Int) (x : Str), vs = [.ref p, .str x] ∧ PenC H p c n ∧ n ≤ 400000000 ∧ x.length ≤ 2000 ∧
  ∀ (y : Str) (H' : Hp), PenC H' p c (n + 20) → Sb p H H' → y.length + 8 ≤ sizeLine → Q (.str y) H'
abbrev nLBent : List Str := ["_law_pen_here", "_law_text", "_law_words", "_law_turn", "_law_k", "_law_some", "_law_fresh", "_law_at"]
theorem scLBent : FnScope nLBent ["_law_pen_here", "_law_text"] (defScope sLBent) := ⟨rfl, rfl, rfl, by decide +kernel, rfl, by decide +kernel, by decide +kernel⟩
section
variable {P : Program} {w : World} {K : PySem.W.Frag} {mg : Str → Option Value} {base : Heap}
theorem ok_lbent {f g g2 : Addr} {fd gd gd2 : FuncData} (F : Fun K "_law_bent" "_law_bent" sLBent f fd) (B : Blt mg)
    (G : FnOk P w K mg base CX0 1 g gd ["_law_pen_here", "_law_many"] spDrawC) (bG : Binds K gd ["_law_pen_here", "_law_many"] []) (kG : PySem.W.keepIn K (.ref g) = true) (mG : mg "_law_draw" = some (.ref g))
    (G2 : FnOk P w K mg base CX0 2 g2 gd2 ["_law_pen_here", "_law_lot"] spPick) (bG2 : Binds K gd2 ["_law_pen_here", "_law_lot"] []) (kG2 : PySem.W.keepIn K (.ref g2) = true) (mG2 : mg "_law_pick" = some (.ref g2)) :
    FnOk P w K mg base CX0 3 f fd ["_law_pen_here", "_law_text"] spLBent := by
  refine F.ok scLBent (fun vs H Q E h => ?_) (fun cdv A outer s H vs Q E hr h => ?_)
  · obtain ⟨p, c, n, x, rfl, _⟩ := h
    rfl
  obtain ⟨p, c, n, x, rfl, pen, hn, xl, k⟩ := h
  have hr1 : Room 1 _ := hr.mono (by decide)
  refine ⟨_, pss_cons (ps_par (i := 2) (j := 3) (by rfl) scLBent.nd rfl rfl (by decide) rfl rfl (pa_cons (pe_split (pv 1) pe_str) (pa_cons (pe_call G hr1 rfl mG kG bG .nil pass0 (pa_cons (pv 0) (pa_cons pe_int pa_nil))) pa_nil)) (by rfl)) <|
    pss_cons (ps_set (i := 4) scLBent.nd rfl (.inl rfl) (pe_call G hr1 rfl mG kG bG .nil pass0 (pa_cons (pv 0) (pa_cons (pe_callB call_len_seq (by rfl) B.len PySem.boot_len (pa_cons (pv 2) pa_nil)) pa_nil)))) <|
    pss_cons (ps_if (pt_cmpR op_eq (pv 3) pe_int (nomark _)) (pss_one (ps_ret (pe_join pe_str (pe_op op_cat (pe_slice sl_list (pv 2) po_none (po_some (pv 4))) (pe_slice sl_list (pv 2) (po_some (pe_op op_add (pv 4) pe_int)) po_none))))) pss_nil) <|
    pss_cons (ps_if (pt_cmpR op_eq (pv 3) pe_int (nomark _)) (pss_one (ps_ret (pe_join pe_str (pe_op op_cat (pe_slice sl_list (pv 2) po_none (po_some (pe_op op_add (pv 4) pe_int))) (pe_slice sl_list (pv 2) (po_some (pv 4)) po_none))))) pss_nil) <|
    pss_cons (ps_if (pt_cmpR op_eq (pv 3) pe_int (nomark _))
      (pss_cons (ps_set (i := 5) scLBent.nd rfl (.inl rfl) (pe_lst (pa_cons pe_str <| pa_cons pe_str <| pa_cons pe_str <| pa_cons pe_str <| pa_cons pe_str <| pa_cons pe_str <| pa_cons pe_str <| pa_cons pe_str <| pa_cons pe_str <| pa_cons pe_str <| pa_cons pe_str <| pa_cons pe_str <| pa_cons pe_str <| pa_cons pe_str pa_nil))) <|
       pss_cons (ps_set (i := 6) scLBent.nd rfl (.inl rfl) (pe_call G2 hr rfl mG2 kG2 bG2 .nil pass0 (pa_cons (pv 0) (pa_cons (pv 5) pa_nil)))) <|
       pss_one (ps_ret (pe_join pe_str (pe_op op_cat (pe_op op_cat (pe_slice sl_list (pv 2) po_none (po_some (pv 4))) (pe_lst (pa_cons (pv 6) pa_nil))) (pe_slice sl_list (pv 2) (po_some (pe_op op_add (pv 4) pe_int)) po_none))))) pss_nil) <|
    pss_cons (ps_set (i := 7) scLBent.nd rfl (.inl rfl) (pe_call G hr1 rfl mG kG bG .nil pass0 (pa_cons (pv 0) (pa_cons (pe_op op_add (pe_callB call_len_str (by rfl) B.len PySem.boot_len (pa_cons (pv 1) pa_nil)) pe_int) pa_nil)))) <|
    pss_one (ps_ret (pe_op op_add_str (pe_op op_add_str (pe_slice sl_str (pv 1) po_none (po_some (pv 7))) (pe_call G2 hr rfl mG2 kG2 bG2 .nil pass0 (pa_cons (pv 0) (pa_cons (pe_lst (pa_cons pe_str <| pa_cons pe_str <| pa_cons pe_str <| pa_cons pe_str <| pa_cons pe_str <| pa_cons pe_str <| pa_cons pe_str <| pa_cons pe_str pa_nil)) pa_nil)))) (pe_slice sl_str (pv 1) (po_some (pe_op op_add (pv 7) (pe_call G hr1 rfl mG kG bG .nil pass0 (pa_cons (pv 0) (pa_cons pe_int pa_nil))))) po_none))), ?_⟩
  have sl := sizeLine_eq
  refine ⟨_, rfl, ⟨_, rfl⟩, _, _, rfl, rfl, by decide +kernel, by omega, fun W nW => ?_⟩
  have wle : ∀ w ∈ Txt.split x " ", w.length ≤ 2001 := fun w hw => by have := word_len hw; omega
  have wll : (Txt.split x " ").length ≤ 2002 := by have := PyProof.Rows.split_le x " "; omega
  have wl1 : 1 ≤ (Txt.split x " ").length := PyProof.Rows.split_pos x " "
  have s1 := sameNew nW (.lst ((Txt.split x " ").map V.str))
  have hW1 : L2.upd H W (.lst ((Txt.split x " ").map V.str)) W = some (.lst ((Txt.split x " ").map V.str)) := upd_same
  show tCons _ _ _ (L2.upd H W (.lst ((Txt.split x " ").map V.str))) _
  generalize L2.upd H W (.lst ((Txt.split x " ").map V.str)) = H1 at s1 hW1
  generalize Txt.split x " " = ws at wle wll wl1 hW1
  have ml : (ws.map V.str).length = ws.length := List.length_map _
  have Wp := pen.newp nW
  refine ⟨_, rfl, p, c, n, _, rfl, pen.same s1, by omega, by decide, by decide, fun v2 H2 b0 b1 pen2 sb2' => ⟨_, _, rfl, ?_⟩⟩
  have hW2 := sb2'.to Wp hW1
  have sb2 := (Sb.same s1).trans sb2'
  refine ⟨_, rfl, _, rfl, W, _, rfl, .inl (SqL.of hW2), p, c, n + 1, _, rfl, pen2, by omega, by rw [ml]; omega, by rw [ml]; omega, fun v3 H3 c0 c1 pen3 sb3' => ?_⟩
  rw [ml] at c1
  have hW3 := sb3'.to Wp hW2
  have sb3 := sb2.trans sb3'
  obtain ⟨i, rfl⟩ : ∃ i : Nat, v3 = (i : Int) := ⟨v3.toNat, by omega⟩
  -- what is joined
  have fin : ∀ (ys : List Str) (H4 : Hp), (∀ y ∈ ys, y ∈ ws ∨ y.length ≤ 2001) → ys.length ≤ 2004 → PenC H4 p c (n + 20) → Sb p H H4 → (ys.map (·.length)).sum + ys.length * (" " : Str).length ≤ 16777216 ∧ Q (.str (Txt.join " " ys)) H4 := fun ys H4 hy hl pen4 sb4 => by
    have e : (" " : Str).length = 1 := by decide +kernel
    have q := sum_len (n := 2001) (ws := ys) fun y h => (hy y h).elim (fun z => wle y z) id
    have q2 : ys.length * 2001 ≤ 2004 * 2001 := Nat.mul_le_mul_right _ hl
    have j := join_le " " ys
    rw [e] at j ⊢
    exact ⟨by omega, k _ H4 pen4 sb4 (by omega)⟩
  have tw : ∀ i : Nat, ws.length < i → ws.take i = ws := fun i h => List.take_of_length_le (by omega)
  have mt : ∀ {i : Nat} {y : Str}, y ∈ ws.take i → y ∈ ws := fun h => List.mem_of_mem_take h
  have md : ∀ {i : Nat} {y : Str}, y ∈ ws.drop i → y ∈ ws := fun h => List.mem_of_mem_drop h
  have ii : i < ws.length := by omega
  have e1 : ∀ i : Nat, i ≤ ws.length → cutV (ws.map V.str) none (some (i : Int)) = (ws.take i).map V.str := fun i h => by
    rw [cut_to (by rw [ml]; exact h), List.map_take]
  have e2 : ∀ i : Nat, i ≤ ws.length → cutV (ws.map V.str) (some (i : Int)) none = (ws.drop i).map V.str := fun i h => by
    rw [cut_from (by rw [ml]; exact h), List.map_drop]
  refine ⟨_, rfl, rfl, _, rfl, ite2 (fun _ => ?_) (fun _ => ?_)⟩
  · refine ⟨⟨_, rfl⟩, _, rfl, _, rfl, i, rfl, W, _, rfl, SqL.of hW3, fun q nq => ?_⟩
    rw [e1 i (by omega)]
    have s4 := sameNew nq (.lst ((ws.take i).map V.str))
    have hW4 := s4 _ _ hW3
    refine ⟨_, rfl, _, rfl, _, _, rfl, rfl, _, rfl, W, _, rfl, SqL.of hW4, fun q2 nq2 => ?_⟩
    rw [show ((i : Int) + 1) = ((i + 1 : Nat) : Int) by omega, e2 (i + 1) (by omega)]
    have s5 := sameNew nq2 (.lst ((ws.drop (i + 1)).map V.str))
    refine ⟨q, q2, _, _, rfl, rfl, s5 _ _ upd_same, upd_same, by simp only [List.length_map, List.length_take, List.length_drop]; omega, fun r nr => ?_⟩
    rw [← List.map_append]
    have s6 := s4.trans (s5.trans (sameNew nr (.lst ((ws.take i ++ ws.drop (i + 1)).map V.str))))
    have z := fin (ws.take i ++ ws.drop (i + 1)) _ (fun y h => .inl (by rcases List.mem_append.mp h with h | h; exact mt h; exact md h)) (by simp only [List.length_append, List.length_take, List.length_drop]; omega) ((pen3.same s6).mono (by omega)) (sb3.trans (Sb.same s6))
    exact ⟨_, r, _, rfl, rfl, .inl (SqL.of upd_same), z.1, z.2⟩
  refine ⟨_, rfl, rfl, _, rfl, ite2 (fun _ => ?_) (fun _ => ?_)⟩
  · refine ⟨⟨_, rfl⟩, _, rfl, _, rfl, _, _, rfl, rfl, _, rfl, W, _, rfl, SqL.of hW3, fun q nq => ?_⟩
    rw [show ((i : Int) + 1) = ((i + 1 : Nat) : Int) by omega, e1 (i + 1) (by omega)]
    have s4 := sameNew nq (.lst ((ws.take (i + 1)).map V.str))
    have hW4 := s4 _ _ hW3
    refine ⟨_, rfl, _, rfl, i, rfl, W, _, rfl, SqL.of hW4, fun q2 nq2 => ?_⟩
    rw [e2 i (by omega)]
    have s5 := sameNew nq2 (.lst ((ws.drop i).map V.str))
    refine ⟨q, q2, _, _, rfl, rfl, s5 _ _ upd_same, upd_same, by simp only [List.length_map, List.length_take, List.length_drop]; omega, fun r nr => ?_⟩
    rw [← List.map_append]
    have s6 := s4.trans (s5.trans (sameNew nr (.lst ((ws.take (i + 1) ++ ws.drop i).map V.str))))
    have z := fin (ws.take (i + 1) ++ ws.drop i) _ (fun y h => .inl (by rcases List.mem_append.mp h with h | h; exact mt h; exact md h)) (by simp only [List.length_append, List.length_take, List.length_drop]; omega) ((pen3.same s6).mono (by omega)) (sb3.trans (Sb.same s6))
    exact ⟨_, r, _, rfl, rfl, .inl (SqL.of upd_same), z.1, z.2⟩
  refine ⟨_, rfl, rfl, _, rfl, ite2 (fun _ => ?_) (fun _ => ?_)⟩
  · refine ⟨by show 14 ≤ sizeLine; omega, fun L hL => ?_⟩
    have s4 := sameNew hL (.lst ((["=", "0", "39", "40", "-1", "-0", "01", "a>=5", "a<=-5", "a>5", "", "A<=1", "a>=1<=2", "b<=+1"] : List Str).map V.str))
    have hW4 := s4 _ _ hW3
    have Lp := pen3.newp hL
    refine ⟨_, rfl, _, rfl, .inl ⟨p, c, L, _, _, rfl, pen3.same s4, by omega, Lp, .inl upd_same, by simp, by simp, fun x6 H6 hx6 pen6 sb6 => ?_⟩⟩
    obtain ⟨fr, rfl, hfr⟩ : ∃ fr : Str, x6 = .str fr ∧ fr.length ≤ 2001 := by
      have q : ∀ z ∈ (["=", "0", "39", "40", "-1", "-0", "01", "a>=5", "a<=-5", "a>5", "", "A<=1", "a>=1<=2", "b<=+1"] : List Str), z.length ≤ 2001 := by decide +kernel
      obtain ⟨z, hz, e⟩ := List.mem_map.mp (show x6 ∈ (["=", "0", "39", "40", "-1", "-0", "01", "a>=5", "a<=-5", "a>5", "", "A<=1", "a>=1<=2", "b<=+1"] : List Str).map V.str from hx6)
      exact ⟨z, e.symm, q z hz⟩
    have hW6 := sb6.to Wp hW4
    have sb7 := sb3.trans ((Sb.same s4).trans sb6)
    refine ⟨⟨_, rfl⟩, _, rfl, _, rfl, i, rfl, W, _, rfl, SqL.of hW6, fun q nq => ?_⟩
    rw [e1 i (by omega)]
    have s8 := sameNew nq (.lst ((ws.take i).map V.str))
    have hW8 := s8 _ _ hW6
    refine ⟨_, rfl, by show 1 ≤ sizeLine; omega, fun q1 nq1 => ?_⟩
    have s9 := sameNew nq1 (.lst [V.str fr])
    have hW9 := s9 _ _ hW8
    refine ⟨q, q1, _, _, rfl, rfl, s9 _ _ upd_same, upd_same, by simp only [List.length_map, List.length_take, List.length_singleton]; omega, fun r nr => ?_⟩
    have s10 := sameNew nr (.lst ((ws.take i).map V.str ++ [V.str fr]))
    have hW10 := s10 _ _ hW9
    refine ⟨_, rfl, _, rfl, _, _, rfl, rfl, _, rfl, W, _, rfl, SqL.of hW10, fun q2 nq2 => ?_⟩
    rw [show ((i : Int) + 1) = ((i + 1 : Nat) : Int) by omega, e2 (i + 1) (by omega)]
    have s11 := sameNew nq2 (.lst ((ws.drop (i + 1)).map V.str))
    refine ⟨r, q2, _, _, rfl, rfl, s11 _ _ upd_same, upd_same, by simp only [List.length_map, List.length_take, List.length_append, List.length_singleton, List.length_drop]; omega, fun r2 nr2 => ?_⟩
    rw [show (ws.take i).map V.str ++ [V.str fr] ++ (ws.drop (i + 1)).map V.str = (ws.take i ++ [fr] ++ ws.drop (i + 1)).map V.str by rw [List.map_append, List.map_append]; rfl]
    have s12 := s8.trans (s9.trans (s10.trans (s11.trans (sameNew nr2 (.lst ((ws.take i ++ [fr] ++ ws.drop (i + 1)).map V.str))))))
    have z := fin (ws.take i ++ [fr] ++ ws.drop (i + 1)) _ (fun y h => by
      rcases List.mem_append.mp h with h | h
      · rcases List.mem_append.mp h with h | h
        · exact .inl (mt h)
        · rw [List.mem_singleton.mp h]
          exact .inr hfr
      · exact .inl (md h)) (by simp only [List.length_append, List.length_take, List.length_drop, List.length_singleton]; omega) ((pen6.same s12).mono (by omega)) (sb7.trans (Sb.same s12))
    exact ⟨_, r2, _, rfl, rfl, .inl (SqL.of upd_same), z.1, z.2⟩
  refine ⟨_, rfl, _, rfl, x, rfl, by omega, _, _, rfl, rfl, p, c, n + 1 + 1, _, rfl, pen3, by omega, by omega, by omega, fun v4 H4 d0 d1 pen4 sb4 => ?_⟩
  obtain ⟨j, rfl⟩ : ∃ j : Nat, v4 = (j : Int) := ⟨v4.toNat, by omega⟩
  refine ⟨_, rfl, _, rfl, j, rfl, x, rfl, by omega, _, rfl, by show 8 ≤ sizeLine; omega, fun L hL => ?_⟩
  have s5 := sameNew hL (.lst ((["", " ", "0", "-", "=", "<", "a", "\n"] : List Str).map V.str))
  refine .inl ⟨p, c, L, _, _, rfl, pen4.same s5, by omega, pen4.newp hL, .inl upd_same, by simp, by simp, fun x6 H6 hx6 pen6 sb6 => ?_⟩
  obtain ⟨fr, rfl, hfr⟩ : ∃ fr : Str, x6 = .str fr ∧ fr.length ≤ 1 := by
    have q : ∀ z ∈ (["", " ", "0", "-", "=", "<", "a", "\n"] : List Str), z.length ≤ 1 := by decide +kernel
    obtain ⟨z, hz, e⟩ := List.mem_map.mp (show x6 ∈ (["", " ", "0", "-", "=", "<", "a", "\n"] : List Str).map V.str from hx6)
    exact ⟨z, e.symm, q z hz⟩
  have q1 := cutS_len x none (some (j : Int))
  refine ⟨_, _, rfl, rfl, by omega, _, rfl, _, rfl, _, rfl, p, c, n + 1 + 1 + 1 + 1, _, rfl, pen6, by omega, by decide, by decide, fun v7 H7 f0 f1 pen7 sb7 => ?_⟩
  have q2 := cutS_len x (some ((j : Int) + v7)) none
  refine ⟨_, _, rfl, rfl, _, rfl, x, rfl, by omega, _, _, rfl, rfl, by rw [len_app]; omega, ?_⟩
  exact k _ H7 (pen7.mono (by omega)) (sb3.trans (sb4.trans ((Sb.same s5).trans (sb6.trans sb7)))) (by rw [len_app, len_app]; omega)
end
end Pk
end
section
set_option maxHeartbeats 1000000
/-! The law's own: what is no chain by form. -/
namespace Pk
open PySem PySem.Spec PyProof.Rows L2 TL
abbrev sLOdd : Stmt := topH 43
/-- a thing that is no chain by form -/
def OddC (H : Hp) (v : V) : Prop := ∃ d, Tr H v d ∧ okS d = true ∧ formC d = false
theorem OddC.same {H H' : Hp} {v : V} (h : OddC H v) (s : Same H H') : OddC H' v := let ⟨d, a, b, c⟩ := h; ⟨d, a.same s, b, c⟩
theorem okSs_app2 : ∀ {a b : List PyData}, okSs a = true → okSs b = true → okSs (a ++ b) = true
  | [], _, _, h => h
  | x :: a, b, h, h' => by
    rw [okSs, Bool.and_eq_true] at h
    rw [List.cons_append, okSs, h.1, okSs_app2 h.2 h']
    rfl
theorem app_bad {s0 : Say} {l : List (Say × Int)} {x : PyData} (h : linkD x = false) : formC (.list (chainP s0 l ++ [x])) = false := by
  show (decide (_ ≤ 2000) && (_ && ((l.map fun p => PyData.tuple [sayP p.1, .int p.2]) ++ [x]).all linkD)) = false
  rw [List.all_append, List.all_cons, h]
  simp
/-- chain + [(v, w)] -/
theorem app_odd {H0 H : Hp} {xs : List V} {s0 : Say} {l : List (Say × Int)} {T M Y : Addr} {v w : V} {dv dw : PyData} {o : HO} {e : PyData} (hg : ChainG s0 l) (s : Same H0 H) (al : TrAll H0 xs (chainP s0 l)) (hT : H T = none)
    (oe : (o = .tup [v, w] ∧ e = .tuple [dv, dw]) ∨ (o = .lst [v, w] ∧ e = .list [dv, dw]))
    (hM : L2.upd H T o M = none) (hY : L2.upd (L2.upd H T o) M (.lst [.ref T]) Y = none) (tv : Tr H v dv) (tw : Tr H w dw) (ov : okS dv = true) (ow : okS dw = true) (bad : linkD e = false) :
    Same H (L2.upd (L2.upd (L2.upd H T o) M (.lst [.ref T])) Y (.lst (xs ++ [.ref T]))) ∧ OddC (L2.upd (L2.upd (L2.upd H T o) M (.lst [.ref T])) Y (.lst (xs ++ [.ref T]))) (.ref Y) := by
  have s1 := sameNew hT o
  have s2 := sameNew hM (.lst [.ref T])
  have s3 := sameNew hY (.lst (xs ++ [.ref T]))
  have s13 := s1.trans (s2.trans s3)
  refine ⟨s13, .list (chainP s0 l ++ [e]), .lst upd_same ((al.same (s.trans s13)).snoc ?_), ?_, app_bad bad⟩
  · have tv := tv.same s13
    have tw := tw.same s13
    have hT3 := (s2.trans s3) _ _ (upd_same (H := H) (a := T) (o := o))
    rcases oe with ⟨rfl, rfl⟩ | ⟨rfl, rfl⟩
    · exact .tup hT3 (.cons tv (.cons tw .nil))
    · exact .lst hT3 (.cons tv (.cons tw .nil))
  · show okSs (chainP s0 l ++ [e]) = true
    refine okSs_app2 (chain_okS hg) ?_
    rcases oe with ⟨rfl, rfl⟩ | ⟨rfl, rfl⟩ <;>
    · show ((okS dv && (okS dw && true)) && true) = true
      rw [ov, ow]
      rfl
theorem say_okP {s : Say} (w : SayW s) : okS (sayP s) = true := by
  have a := w.nm.1
  have b : s.2.1.length ≤ 100000 := by
    rcases sgn_cut w.so with ⟨e, _⟩ | ⟨e, _⟩ <;> rw [e] <;> decide +kernel
  show (decide (s.1.length ≤ 100000) && (decide (s.2.1.length ≤ 100000) && (true && true))) = true
  rw [decide_eq_true (by omega), decide_eq_true b]
  rfl
/-- what stands apart from some addresses -/
def offs (as : List Addr) (H : Hp) : Hp := fun b => if b ∈ as then none else H b
theorem offs_in {as : List Addr} {H : Hp} {b : Addr} (h : b ∈ as) : offs as H b = none := if_pos h
theorem offs_out {as : List Addr} {H : Hp} {b : Addr} (h : b ∉ as) : offs as H b = H b := if_neg h
theorem offs_mono {as bs : List Addr} {H H' : Hp} (s : Same H H') (h : ∀ b ∈ bs, b ∈ as ∨ H b = none) : Same (offs as H) (offs bs H') := fun b o e => by
  by_cases ha : b ∈ as
  · rw [offs_in ha] at e
    cases e
  · rw [offs_out ha] at e
    rw [offs_out (fun hb => (h b hb).elim ha fun z => by rw [z] at e; cases e)]
    exact s b o e
theorem offs_upd {as : List Addr} {H : Hp} {T : Addr} {o : HO} (h : T ∉ as) : offs as (L2.upd H T o) = L2.upd (offs as H) T o := by
  funext b
  by_cases hb : b = T
  · subst hb
    rw [offs_out h, upd_same, upd_same]
  · rw [upd_ne hb]
    unfold offs
    rw [upd_ne hb]
theorem offs_mut {as : List Addr} {H : Hp} {T : Addr} {o : HO} (h : T ∈ as) : offs as (L2.upd H T o) = offs as H := by
  funext b
  by_cases hb : b = T
  · subst hb
    rw [offs_in h, offs_in h]
  · unfold offs
    rw [upd_ne hb]
theorem offs_del {p : Addr} {H : Hp} : offs [p] H = del H p := by
  funext b
  by_cases hb : b = p
  · subst hb
    rw [offs_in (by simp), del_same]
  · rw [offs_out (by simpa using hb), del_ne hb]
theorem offs_none {as : List Addr} {H : Hp} {T : Addr} (h : H T = none) : offs as H T = none := by
  by_cases ha : T ∈ as
  · exact offs_in ha
  · rw [offs_out ha]
    exact h
theorem offs_new {as : List Addr} {H : Hp} {T : Addr} (hp : ∀ b ∈ as, H b ≠ none) (h : H T = none) : T ∉ as := fun z => hp T z h
theorem app_oddO {as : List Addr} {H0 H : Hp} {xs : List V} {s0 : Say} {l : List (Say × Int)} {T M Y : Addr} {v w : V} {dv dw : PyData} {o : HO} {e : PyData} (hp : ∀ b ∈ as, H b ≠ none) (hg : ChainG s0 l) (s : Same H0 (offs as H)) (al : TrAll H0 xs (chainP s0 l)) (hT : H T = none)
    (oe : (o = .tup [v, w] ∧ e = .tuple [dv, dw]) ∨ (o = .lst [v, w] ∧ e = .list [dv, dw]))
    (hM : L2.upd H T o M = none) (hY : L2.upd (L2.upd H T o) M (.lst [.ref T]) Y = none) (tv : Tr (offs as H) v dv) (tw : Tr (offs as H) w dw) (ov : okS dv = true) (ow : okS dw = true) (bad : linkD e = false) :
    Same H (L2.upd (L2.upd (L2.upd H T o) M (.lst [.ref T])) Y (.lst (xs ++ [.ref T]))) ∧ OddC (offs as (L2.upd (L2.upd (L2.upd H T o) M (.lst [.ref T])) Y (.lst (xs ++ [.ref T])))) (.ref Y) := by
  have up : ∀ {H1 : Hp} {T : Addr} {o : HO}, (∀ b ∈ as, H1 b ≠ none) → ∀ b ∈ as, L2.upd H1 T o b ≠ none := fun {H1 T o} h b hb => by
    by_cases e : b = T
    · subst e
      rw [upd_same]
      exact fun z => by cases z
    · rw [upd_ne e]
      exact h b hb
  have nT := offs_new hp hT
  have nM := offs_new (up hp) hM
  have nY := offs_new (up (up hp)) hY
  have eT : offs as (L2.upd H T o) = L2.upd (offs as H) T o := offs_upd nT
  have eM : offs as (L2.upd (L2.upd H T o) M (.lst [.ref T])) = L2.upd (L2.upd (offs as H) T o) M (.lst [.ref T]) := by rw [offs_upd nM, eT]
  have q := app_odd hg s al (offs_none hT) oe (by rw [← eT]; exact offs_none hM) (by rw [← eM]; exact offs_none hY) tv tw ov ow bad
  refine ⟨(sameNew hT _).trans ((sameNew hM _).trans (sameNew hY _)), ?_⟩
  rw [offs_upd nY, eM]
  exact q.2
def OddAll (H : Hp) (vs : List V) : Prop := ∀ v ∈ vs, OddC H v
theorem OddAll.same {H H' : Hp} {vs : List V} (h : OddAll H vs) (s : Same H H') : OddAll H' vs := fun v hv => (h v hv).same s
theorem OddAll.app {H : Hp} {vs ws : List V} (h : OddAll H vs) (h' : OddAll H ws) : OddAll H (vs ++ ws) := fun v hv => (List.mem_append.mp hv).elim (h v) (h' v)
theorem OddAll.one {H : Hp} {v : V} (h : OddC H v) : OddAll H [v] := fun w hw => by rw [List.mem_singleton.mp hw]; exact h
theorem OddAll.cons {H : Hp} {v : V} {vs : List V} (h : OddC H v) (t : OddAll H vs) : OddAll H (v :: vs) := fun w hw => (List.mem_cons.mp hw).elim (fun e => e ▸ h) (t w)
theorem OddAll.nil {H : Hp} : OddAll H [] := fun _ h => by cases h
theorem form_s1 {s : Say} : formC (.list [sayP s]) = false := by
  unfold formC
  show (_ && (false && _)) = false
  simp
theorem form_s2 {s : Say} {i : Int} : formC (.list [.tuple [sayP s, .int i]]) = false := by
  unfold formC
  show (_ && (false && _)) = false
  simp
def spLOdd : Sp := fun vs H Q _ => ∃ (p c L : Addr) (n : Int) (s0 : Say) (l : List (Say × Int)), vs = [.ref p, .ref L] ∧ PenC H p c n ∧ n ≤ 400000000 ∧ Tr (del H p) (.ref L) (.list (chainP s0 l)) ∧ ChainG s0 l ∧ l.length ≤ 2001 ∧
  ∀ (v : V) (H' : Hp), PenC H' p c (n + 1) → Sb p H H' → OddC (del H' p) v → Q v H'
abbrev nLOdd : List Str := ["_law_pen_here", "_law_chain", "_law_saying_here", "_law_lot", "_law_some", "_law_odd_here"]
theorem scLOdd : FnScope nLOdd ["_law_pen_here", "_law_chain"] (defScope sLOdd) := ⟨rfl, rfl, rfl, by decide +kernel, rfl, by decide +kernel, by decide +kernel⟩
section
variable {P : Program} {w : World} {K : PySem.W.Frag} {mg : Str → Option Value} {base : Heap}
theorem ok_lodd {f g2 : Addr} {fd gd2 : FuncData} (F : Fun K "_law_odd" "_law_odd" sLOdd f fd) (B : Blt mg)
    (G2 : FnOk P w K mg base CX0 2 g2 gd2 ["_law_pen_here", "_law_lot"] spPick) (bG2 : Binds K gd2 ["_law_pen_here", "_law_lot"] []) (kG2 : PySem.W.keepIn K (.ref g2) = true) (mG2 : mg "_law_pick" = some (.ref g2)) :
    FnOk P w K mg base CX0 3 f fd ["_law_pen_here", "_law_chain"] spLOdd := by
  refine F.ok scLOdd (fun vs H Q E h => ?_) (fun cdv A outer s H vs Q E hr h => ?_)
  · obtain ⟨p, c, L, n, s0, l, rfl, _⟩ := h
    rfl
  obtain ⟨p, c, L, n, s0, l, rfl, pen, hn, tL, hg, ll, k⟩ := h
  refine ⟨_, pss_cons (ps_set (i := 2) scLOdd.nd rfl (.inl rfl) (pe_ix ix_tup (pe_ix ix_list (pv 1) pe_int (fun _ _ => rfl)) pe_int (fun _ _ => rfl))) <|
    pss_cons (ps_set (i := 3) scLOdd.nd rfl (.inl rfl) (pe_lst (pa_cons (pe_lst pa_nil) <| pa_cons (pe_callTy call_tuple_of (by rfl) B.tuple (by decide +kernel) (pa_cons (pv 1) pa_nil)) <| pa_cons pe_non <| pa_cons pe_str <| pa_cons pe_dnewK <| pa_cons (pe_lst (pa_cons (pv 2) pa_nil)) <|
      pa_cons (pe_op op_cat (pv 1) (pe_lst (pa_cons (pe_tup (pa_cons (pv 2) (pa_cons pe_int pa_nil))) pa_nil))) <| pa_cons (pe_op op_cat (pv 1) (pe_lst (pa_cons (pe_tup (pa_cons (pv 2) (pa_cons pe_non pa_nil))) pa_nil))) pa_nil))) <|
    pss_cons (ps_expr (pe_bm PySem.F.plainAttrs_list PySem.F.slot_list_append PySem.F.type_list_append mt_append (pv 3) (pa_cons (pe_op op_cat (pv 1) (pe_lst (pa_cons (pe_tup (pa_cons (pv 2) (pa_cons pe_bl pa_nil))) pa_nil))) pa_nil))) <|
    pss_cons (ps_set (i := 3) scLOdd.nd rfl (.inl rfl) (pe_op op_cat (pv 3) (pe_lst (pa_cons (pe_op op_cat (pv 1) (pe_lst (pa_cons (pe_tup (pa_cons (pv 2) (pa_cons (pe_op op_sub pe_int pe_int) pa_nil))) pa_nil))) <|
      pa_cons (pe_lst (pa_cons (pe_tup (pa_cons (pv 2) (pa_cons (pe_op op_sub pe_int pe_int) pa_nil))) pa_nil)) <|
      pa_cons (pe_op op_cat (pv 1) (pe_lst (pa_cons (pe_tup (pa_cons (pe_slice sl_tup (pv 2) po_none (po_some pe_int)) (pa_cons pe_int pa_nil))) pa_nil))) <|
      pa_cons (pe_op op_cat (pv 1) (pe_lst (pa_cons (pe_lst (pa_cons (pv 2) (pa_cons pe_int pa_nil))) pa_nil))) pa_nil)))) <|
    pss_cons (ps_set (i := 4) scLOdd.nd rfl (.inl rfl) (pe_lst (pa_cons (pe_tup (pa_cons (pe_op op_add_str (pe_ix ix_tup (pv 2) pe_int (fun _ _ => rfl)) pe_str) (pa_cons pe_str (pa_cons pe_int pa_nil)))) <|
      pa_cons (pe_tup (pa_cons pe_str (pa_cons pe_str (pa_cons pe_int pa_nil)))) <| pa_cons (pe_tup (pa_cons pe_str (pa_cons pe_str (pa_cons pe_int pa_nil)))) <|
      pa_cons (pe_tup (pa_cons (pe_lst (pa_cons pe_str pa_nil)) (pa_cons pe_str (pa_cons pe_int pa_nil)))) pa_nil))) <|
    pss_cons (ps_expr (pe_bm PySem.F.plainAttrs_list PySem.F.slot_list_extend PySem.F.type_list_extend mt_extend (pv 3) (pa_cons (pe_lc (own := [("_law_odd_here", 5)]) (g := gName 5) (by rfl) scLOdd.nd (pi_list (pe_op op_cat (pv 4) (pe_lst (pa_cons (pe_tup (pa_cons pe_str (pa_cons pe_str (pa_cons (pe_op op_add (pe_op op_pow pe_int pe_int) pe_int) pa_nil)))) pa_nil)))) (blkOk_by (N := nLOdd) (sc := defScope sLOdd) (by decide +kernel)) (fun _ _ _ _ _ => pg_name (i := 5) scLOdd.nd rfl (Or.inl rfl)) (fun _ _ _ _ _ => pts_nil)
      (fun _ _ _ _ _ => pe_op op_cat (pv 1) (pe_lst (pa_cons (pe_tup (pa_cons (pv 5) (pa_cons pe_int pa_nil))) pa_nil)))) pa_nil))) <|
    pss_one (ps_ret (pe_call G2 hr rfl mG2 kG2 bG2 .nil pass0 (pa_cons (pv 0) (pa_cons (pe_op op_cat (pv 3) (pe_lst (pa_cons (pe_op op_cat (pv 1) (pe_lst (pa_cons (pe_tup (pa_cons (pe_tup (pa_cons pe_str (pa_cons pe_str (pa_cons pe_bl pa_nil)))) (pa_cons pe_int pa_nil))) pa_nil))) <|
      pa_cons (pe_op op_cat (pv 1) (pe_lst (pa_cons (pe_tup (pa_cons (pe_tup (pa_cons pe_str (pa_cons pe_str (pa_cons pe_str pa_nil)))) (pa_cons pe_int pa_nil))) pa_nil))) pa_nil))) pa_nil)))), ?_⟩
  -- BODY
  have sl := sizeLine_eq
  obtain ⟨xs, hLp, al⟩ : ∃ xs, del H p L = some (.lst xs) ∧ TrAll (del H p) xs (chainP s0 l) := by
    cases tL with
    | lst h a => exact ⟨_, h, a⟩
  obtain ⟨_, b, q, vs, e0, ha, hbp, hqp, _⟩ := chain_items tL
  cases e0
  have ex : xs = .ref b :: vs := by rw [ha] at hLp; exact (HO.lst.inj (Option.some.inj hLp)).symm
  have hxl : xs.length ≤ 2002 := by
    have := al.length
    rw [this]
    show (l.map _).length + 1 ≤ 2002
    rw [List.length_map]
    omega
  have x0 : atI xs 0 = some (.ref b) := by rw [ex]; exact atI_nat (xs := .ref b :: vs) (j := 0) (v := .ref b) rfl
  clear ha ex
  have hL := delSame _ _ hLp
  have hb := delSame _ _ hbp
  have hq := delSame _ _ hqp
  have okq := say_okP hg.s0
  have tq : Tr (del H p) (.ref q) (sayP s0) := .tup hqp (.cons (.str _) (.cons (.str _) (.cons (.int _) .nil)))
  obtain ⟨kv, hpn⟩ := pen.atp
  have pk : ∀ {H' : Hp}, Same H H' → ∀ b ∈ [p], H' b ≠ none := fun {H'} s b hb z => by
    rw [List.mem_singleton.mp hb, s _ _ hpn] at z
    cases z
  have bs : ∀ {H' : Hp} {as : List Addr}, Same H H' → (∀ b ∈ as, b = p ∨ H b = none) → Same (del H p) (offs as H') := fun {H' as} s h => by
    rw [← offs_del]
    exact offs_mono s fun b hb => (h b hb).elim (fun e => .inl (by rw [e]; simp)) .inr
  have nd : ∀ {H1 : Hp} {X : Addr}, Same H H1 → H1 X = none → H X = none := fun {H1 X} s h => by
    cases e : H X with
    | none => rfl
    | some o => rw [s _ _ e] at h; cases h
  have bs1 : ∀ {H' : Hp}, Same H H' → Same (del H p) (offs [p] H') := fun s => bs s fun b hb => .inl (List.mem_singleton.mp hb)
  have up1 : ∀ {H1 : Hp} {T : Addr} {o : HO}, Same H H1 → H1 T = none → offs [p] (L2.upd H1 T o) T = some o := fun {H1 T o} s h => by rw [offs_upd (offs_new (pk s) h), upd_same]
  refine ⟨_, rfl, L, _, _, _, rfl, rfl, SqL.of hL, x0, b, _, _, _, rfl, rfl, SqT.of hb, rfl, ?_⟩
  have r0 := Same.refl H
  have s_0 := r0
  refine ⟨by show 0 ≤ sizeLine; omega, fun a1 na1 => ?_⟩
  have z_1 := sameNew na1 (.lst [])
  have e_1 := up1 (o := .lst []) s_0 na1
  have s_1 := s_0.trans z_1
  have y_1 : L2.upd H a1 (.lst []) a1 = some (.lst []) := upd_same
  generalize L2.upd H a1 (.lst []) = K1 at z_1 e_1 s_1 y_1 ⊢
  have o_1 : OddC (offs [p] K1) (.ref a1) := ⟨.list [], .lst e_1 .nil, rfl, rfl⟩
  refine ⟨_, rfl, L, _, rfl, .inl ⟨SqL.of (s_1 _ _ hL), fun a2 na2 => ?_⟩⟩
  have z_2 := sameNew na2 (.tup xs)
  have e_2 := up1 (o := .tup xs) s_1 na2
  have s_2 := s_1.trans z_2
  have y_2 : L2.upd K1 a2 (.tup xs) a2 = some (.tup xs) := upd_same
  generalize L2.upd K1 a2 (.tup xs) = K2 at z_2 e_2 s_2 y_2 ⊢
  have o_2 : OddC (offs [p] K2) (.ref a2) := ⟨.tuple (chainP s0 l), .tup e_2 (al.same (bs1 s_2)), chain_okS hg, rfl⟩
  refine fun a3 na3 => ?_
  have z_3 := sameNew na3 (.dK [])
  have e_3 := up1 (o := .dK []) s_2 na3
  have s_3 := s_2.trans z_3
  have y_3 : L2.upd K2 a3 (.dK []) a3 = some (.dK []) := upd_same
  generalize L2.upd K2 a3 (.dK []) = K3 at z_3 e_3 s_3 y_3 ⊢
  have o_3 : OddC (offs [p] K3) (.ref a3) := ⟨.dict [], .dct (kvs := []) e_3 .nil rfl .nil, rfl, rfl⟩
  refine ⟨_, rfl, by show 1 ≤ sizeLine; omega, fun a4 na4 => ?_⟩
  have z_4 := sameNew na4 (.lst [.ref q])
  have e_4 := up1 (o := .lst [.ref q]) s_3 na4
  have s_4 := s_3.trans z_4
  have y_4 : L2.upd K3 a4 (.lst [.ref q]) a4 = some (.lst [.ref q]) := upd_same
  generalize L2.upd K3 a4 (.lst [.ref q]) = K4 at z_4 e_4 s_4 y_4 ⊢
  have o_4 : OddC (offs [p] K4) (.ref a4) := ⟨.list [sayP s0], .lst e_4 (.cons (tq.same (bs1 s_4)) .nil), by show (okS (sayP s0) && true) = true; rw [okq]; rfl, form_s1⟩
  refine ⟨_, rfl, _, rfl, by show 2 ≤ sizeLine; omega, fun T5 hT5 => ⟨by show 1 ≤ sizeLine; omega, fun M5 hM5 => ⟨L, M5, _, _, rfl, rfl, sameNew hM5 _ _ _ (sameNew hT5 _ _ _ (s_4 _ _ hL)), upd_same, by show xs.length + 1 ≤ _; omega, fun Y5 hY5 => ?_⟩⟩⟩
  have q_5 := app_oddO (as := [p]) (v := V.ref q) (w := V.int 40) (dv := sayP s0) (dw := .int 40) (o := .tup [V.ref q, V.int 40]) (e := .tuple [sayP s0, .int 40]) (pk s_4) hg (bs1 s_4) al hT5 (.inl ⟨rfl, rfl⟩) hM5 hY5 (tq.same (bs1 s_4)) (.int 40) okq rfl (by simp [linkD, wholeD])
  have nY5 : Y5 ≠ T5 := fun z => by rw [z, upd_ne (show T5 ≠ M5 from fun z => by rw [← z, upd_same] at hM5; cases hM5), upd_same] at hY5; cases hY5
  obtain ⟨z_5, o_5⟩ := q_5
  have s_5 := s_4.trans z_5
  generalize L2.upd (L2.upd (L2.upd K4 T5 (.tup [V.ref q, V.int 40])) M5 (.lst [.ref T5])) Y5 (.lst (xs ++ [.ref T5])) = K5 at z_5 o_5 s_5 ⊢
  refine ⟨_, rfl, _, rfl, by show 2 ≤ sizeLine; omega, fun T6 hT6 => ⟨by show 1 ≤ sizeLine; omega, fun M6 hM6 => ⟨L, M6, _, _, rfl, rfl, sameNew hM6 _ _ _ (sameNew hT6 _ _ _ (s_5 _ _ hL)), upd_same, by show xs.length + 1 ≤ _; omega, fun Y6 hY6 => ?_⟩⟩⟩
  have q_6 := app_oddO (as := [p]) (v := V.ref q) (w := V.non) (dv := sayP s0) (dw := .none) (o := .tup [V.ref q, V.non]) (e := .tuple [sayP s0, .none]) (pk s_5) hg (bs1 s_5) al hT6 (.inl ⟨rfl, rfl⟩) hM6 hY6 (tq.same (bs1 s_5)) .non okq rfl (by simp [linkD, wholeD])
  have nY6 : Y6 ≠ T6 := fun z => by rw [z, upd_ne (show T6 ≠ M6 from fun z => by rw [← z, upd_same] at hM6; cases hM6), upd_same] at hY6; cases hY6
  obtain ⟨z_6, o_6⟩ := q_6
  have s_6 := s_5.trans z_6
  generalize L2.upd (L2.upd (L2.upd K5 T6 (.tup [V.ref q, V.non])) M6 (.lst [.ref T6])) Y6 (.lst (xs ++ [.ref T6])) = K6 at z_6 o_6 s_6 ⊢
  refine ⟨by show 8 ≤ sizeLine; omega, fun X nX => ?_⟩
  have od8 : OddAll (offs [p] K6) [.ref a1, .ref a2, .non, .str "x", .ref a3, .ref a4, .ref Y5, .ref Y6] := by
    have m5 : Same (offs [p] K5) (offs [p] K6) := offs_mono z_6 fun b h => .inl h
    have m4 := (offs_mono (as := [p]) (bs := [p]) z_5 fun b h => .inl h).trans m5
    have m3 := (offs_mono (as := [p]) (bs := [p]) z_4 fun b h => .inl h).trans m4
    have m2 := (offs_mono (as := [p]) (bs := [p]) z_3 fun b h => .inl h).trans m3
    have m1 := (offs_mono (as := [p]) (bs := [p]) z_2 fun b h => .inl h).trans m2
    exact .cons (o_1.same m1) (.cons (o_2.same m2) (.cons ⟨.none, .non, rfl, rfl⟩ (.cons ⟨.str "x", .str _, by decide +kernel, rfl⟩ (.cons (o_3.same m3) (.cons (o_4.same m4) (.cons (o_5.same m5) (.cons o_6 .nil)))))))
  generalize hI8 : [V.ref a1, V.ref a2, V.non, V.str "x", V.ref a3, V.ref a4, V.ref Y5, V.ref Y6] = items8 at od8 ⊢
  have l8 : items8.length = 8 := by rw [← hI8]; rfl
  have nX0 := nd s_6 nX
  have z_7 := sameNew nX (.lst items8)
  have s_7 := s_6.trans z_7
  have x_7 : L2.upd K6 X (.lst items8) X = some (.lst items8) := upd_same
  generalize L2.upd K6 X (.lst items8) = K7 at z_7 s_7 x_7 ⊢
  have pkX : ∀ b ∈ [p, X], K7 b ≠ none := fun b hb z => by
    rcases List.mem_cons.mp hb with rfl | hb
    · exact pk s_7 _ (by simp) z
    · rw [List.mem_singleton.mp hb, x_7] at z
      cases z
  have bsX : ∀ {H' : Hp}, Same H H' → Same (del H p) (offs [p, X] H') := fun s => bs s fun b hb => by
    rcases List.mem_cons.mp hb with rfl | hb
    · exact .inl rfl
    · rw [List.mem_singleton.mp hb]
      exact .inr nX0
  refine ⟨_, rfl, .inl ⟨rfl, _, SqL.of x_7⟩, ?_⟩
  refine ⟨_, rfl, _, rfl, by show 2 ≤ sizeLine; omega, fun T8 hT8 => ⟨by show 1 ≤ sizeLine; omega, fun M8 hM8 => ⟨L, M8, _, _, rfl, rfl, sameNew hM8 _ _ _ (sameNew hT8 _ _ _ (s_7 _ _ hL)), upd_same, by show xs.length + 1 ≤ _; omega, fun Y8 hY8 => ?_⟩⟩⟩
  have q_8 := app_oddO (as := [p, X]) (v := V.ref q) (w := V.bl true) (dv := sayP s0) (dw := .bool true) (o := .tup [V.ref q, V.bl true]) (e := .tuple [sayP s0, .bool true]) pkX hg (bsX s_7) al hT8 (.inl ⟨rfl, rfl⟩) hM8 hY8 (tq.same (bsX s_7)) (.bl true) okq rfl (by simp [linkD, wholeD])
  have nY8 : Y8 ≠ T8 := fun z => by rw [z, upd_ne (show T8 ≠ M8 from fun z => by rw [← z, upd_same] at hM8; cases hM8), upd_same] at hY8; cases hY8
  obtain ⟨z_8, o_8⟩ := q_8
  have s_8 := s_7.trans z_8
  generalize L2.upd (L2.upd (L2.upd K7 T8 (.tup [V.ref q, V.bl true])) M8 (.lst [.ref T8])) Y8 (.lst (xs ++ [.ref T8])) = K8 at z_8 o_8 s_8 ⊢
  have x_8 := z_8 _ _ x_7
  refine ⟨X, _, _, rfl, rfl, x_8, by omega, ?_⟩
  have z_9 : ∀ {Hb : Hp}, Hb X = none → Same Hb K8 → Same Hb (L2.upd K8 X (.lst (items8 ++ [V.ref Y8]))) := fun h s b o e => by
    rw [upd_ne (ne_of_none e h)]
    exact s _ _ e
  have s_9 := z_9 nX0 s_8
  have od9 : OddAll (offs [p] (L2.upd K8 X (.lst (items8 ++ [V.ref Y8])))) (items8 ++ [V.ref Y8]) := by
    refine .app (od8.same (offs_mono (z_9 nX (z_7.trans z_8)) fun b h => .inl h)) (.one ?_)
    refine OddC.same (H := offs [p, X] (L2.upd K8 X (.lst (items8 ++ [V.ref Y8])))) ?_ (offs_mono (Same.refl _) fun b h => .inl (by rw [List.mem_singleton.mp h]; simp))
    rw [offs_mut (by simp)]
    exact o_8
  have x_9 : L2.upd K8 X (.lst (items8 ++ [V.ref Y8])) X = some (.lst (items8 ++ [V.ref Y8])) := upd_same
  generalize L2.upd K8 X (.lst (items8 ++ [V.ref Y8])) = K9 at s_9 od9 x_9 ⊢
  have l9 : (items8 ++ [V.ref Y8]).length = 9 := by rw [List.length_append, l8]; rfl
  generalize items8 ++ [V.ref Y8] = items9 at od9 x_9 l9 ⊢
  clear z_9
  refine ⟨_, rfl, ?_⟩
  refine ⟨_, rfl, _, rfl, _, _, rfl, rfl, by show 2 ≤ sizeLine; omega, fun T10 hT10 => ⟨by show 1 ≤ sizeLine; omega, fun M10 hM10 => ⟨L, M10, _, _, rfl, rfl, sameNew hM10 _ _ _ (sameNew hT10 _ _ _ (s_9 _ _ hL)), upd_same, by show xs.length + 1 ≤ _; omega, fun Y10 hY10 => ?_⟩⟩⟩
  have q_10 := app_oddO (as := [p]) (v := V.ref q) (w := V.int (0 - 2)) (dv := sayP s0) (dw := .int (0 - 2)) (o := .tup [V.ref q, V.int (0 - 2)]) (e := .tuple [sayP s0, .int (0 - 2)]) (pk s_9) hg (bs1 s_9) al hT10 (.inl ⟨rfl, rfl⟩) hM10 hY10 (tq.same (bs1 s_9)) (.int (0 - 2)) okq rfl (by simp [linkD, wholeD])
  have nY10 : Y10 ≠ T10 := fun z => by rw [z, upd_ne (show T10 ≠ M10 from fun z => by rw [← z, upd_same] at hM10; cases hM10), upd_same] at hY10; cases hY10
  obtain ⟨z_10, o_10⟩ := q_10
  have s_10 := s_9.trans z_10
  generalize L2.upd (L2.upd (L2.upd K9 T10 (.tup [V.ref q, V.int (0 - 2)])) M10 (.lst [.ref T10])) Y10 (.lst (xs ++ [.ref T10])) = K10 at z_10 o_10 s_10 ⊢
  refine ⟨_, rfl, _, _, rfl, rfl, by show 2 ≤ sizeLine; omega, fun T11 hT11 => ⟨by show 1 ≤ sizeLine; omega, fun Y11 hY11 => ?_⟩⟩
  have z_11 := (sameNew hT11 (.tup [V.ref q, V.int (0 - 1)])).trans (sameNew hY11 (.lst [V.ref T11]))
  have s_11 := s_10.trans z_11
  have o_11 : OddC (offs [p] (L2.upd (L2.upd K10 T11 (.tup [V.ref q, V.int (0 - 1)])) Y11 (.lst [V.ref T11]))) (.ref Y11) := by
    have sT := s_10.trans (sameNew hT11 (.tup [V.ref q, V.int (0 - 1)]))
    have eY := up1 (o := .lst [V.ref T11]) sT hY11
    have eT := offs_mono (as := [p]) (bs := [p]) (sameNew hY11 (.lst [V.ref T11])) (fun b h => .inl h) _ _ (up1 (o := .tup [V.ref q, V.int (0 - 1)]) s_10 hT11)
    refine ⟨.list [.tuple [sayP s0, .int (0 - 1)]], .lst eY (.cons (.tup eT (.cons (tq.same (bs1 s_11)) (.cons (.int _) .nil))) .nil), ?_, ?_⟩
    · show ((okS (sayP s0) && (true && true)) && true) = true
      rw [okq]
      rfl
    · exact form_s2
  generalize L2.upd (L2.upd K10 T11 (.tup [V.ref q, V.int (0 - 1)])) Y11 (.lst [V.ref T11]) = K11 at z_11 s_11 o_11 ⊢
  refine ⟨_, rfl, _, rfl, 2, rfl, q, _, rfl, SqT.of (s_11 _ _ hq), fun z' => absurd z'.2 (show ¬ HT.sIx 3 3 (some 2) = 3 by decide), fun S12 hS12 => ?_⟩
  rw [show cutV (sayV s0) none (some 2) = [V.str s0.1, V.str s0.2.1] from rfl]
  have z_12 := sameNew hS12 (.tup [V.str s0.1, V.str s0.2.1])
  have e_12 := up1 (o := .tup [V.str s0.1, V.str s0.2.1]) s_11 hS12
  have s_12 := s_11.trans z_12
  generalize L2.upd K11 S12 (.tup [V.str s0.1, V.str s0.2.1]) = K12 at z_12 e_12 s_12 ⊢
  have okc : okS (.tuple [.str s0.1, .str s0.2.1]) = true := by
    have h := okq
    rw [show okS (sayP s0) = (okS (.str s0.1) && (okS (.str s0.2.1) && (true && true))) from rfl, Bool.and_eq_true, Bool.and_eq_true] at h
    show (okS (.str s0.1) && (okS (.str s0.2.1) && true)) = true
    rw [h.1, h.2.1]
    rfl
  refine ⟨by show 2 ≤ sizeLine; omega, fun T13 hT13 => ⟨by show 1 ≤ sizeLine; omega, fun M13 hM13 => ⟨L, M13, _, _, rfl, rfl, sameNew hM13 _ _ _ (sameNew hT13 _ _ _ (s_12 _ _ hL)), upd_same, by show xs.length + 1 ≤ _; omega, fun Y13 hY13 => ?_⟩⟩⟩
  have q_13 := app_oddO (as := [p]) (v := V.ref S12) (w := V.int 0) (dv := .tuple [.str s0.1, .str s0.2.1]) (dw := .int 0) (o := .tup [V.ref S12, V.int 0]) (e := .tuple [.tuple [.str s0.1, .str s0.2.1], .int 0]) (pk s_12) hg (bs1 s_12) al hT13 (.inl ⟨rfl, rfl⟩) hM13 hY13 (.tup e_12 (.cons (.str _) (.cons (.str _) .nil))) (.int 0) okc rfl rfl
  have nY13 : Y13 ≠ T13 := fun z => by rw [z, upd_ne (show T13 ≠ M13 from fun z => by rw [← z, upd_same] at hM13; cases hM13), upd_same] at hY13; cases hY13
  obtain ⟨z_13, o_13⟩ := q_13
  have s_13 := s_12.trans z_13
  generalize L2.upd (L2.upd (L2.upd K12 T13 (.tup [V.ref S12, V.int 0])) M13 (.lst [.ref T13])) Y13 (.lst (xs ++ [.ref T13])) = K13 at z_13 o_13 s_13 ⊢
  refine ⟨_, rfl, _, rfl, by show 2 ≤ sizeLine; omega, fun T14 hT14 => ⟨by show 1 ≤ sizeLine; omega, fun M14 hM14 => ⟨L, M14, _, _, rfl, rfl, sameNew hM14 _ _ _ (sameNew hT14 _ _ _ (s_13 _ _ hL)), upd_same, by show xs.length + 1 ≤ _; omega, fun Y14 hY14 => ?_⟩⟩⟩
  have q_14 := app_oddO (as := [p]) (v := V.ref q) (w := V.int 0) (dv := sayP s0) (dw := .int 0) (o := .lst [V.ref q, V.int 0]) (e := .list [sayP s0, .int 0]) (pk s_13) hg (bs1 s_13) al hT14 (.inr ⟨rfl, rfl⟩) hM14 hY14 (tq.same (bs1 s_13)) (.int 0) okq rfl rfl
  have nY14 : Y14 ≠ T14 := fun z => by rw [z, upd_ne (show T14 ≠ M14 from fun z => by rw [← z, upd_same] at hM14; cases hM14), upd_same] at hY14; cases hY14
  obtain ⟨z_14, o_14⟩ := q_14
  have s_14 := s_13.trans z_14
  generalize L2.upd (L2.upd (L2.upd K13 T14 (.lst [V.ref q, V.int 0])) M14 (.lst [.ref T14])) Y14 (.lst (xs ++ [.ref T14])) = K14 at z_14 o_14 s_14 ⊢
  refine ⟨by show 4 ≤ sizeLine; omega, fun Z nZ => ?_⟩
  have od13 : OddAll (offs [p] K14) (items9 ++ [.ref Y10, .ref Y11, .ref Y13, .ref Y14]) := by
    have m13 : Same (offs [p] K13) (offs [p] K14) := offs_mono z_14 fun b h => .inl h
    have m12 := (offs_mono (as := [p]) (bs := [p]) z_13 fun b h => .inl h).trans m13
    have m11 := (offs_mono (as := [p]) (bs := [p]) z_12 fun b h => .inl h).trans m12
    have m10 := (offs_mono (as := [p]) (bs := [p]) z_11 fun b h => .inl h).trans m11
    have m9 := (offs_mono (as := [p]) (bs := [p]) z_10 fun b h => .inl h).trans m10
    exact .app (od9.same m9) (.cons (o_10.same m10) (.cons (o_11.same m11) (.cons (o_13.same m13) (.cons o_14 .nil))))
  have x_14 := (((z_10.trans z_11).trans z_12).trans (z_13.trans z_14)) _ _ x_9
  have z_15 := sameNew nZ (.lst [V.ref Y10, V.ref Y11, V.ref Y13, V.ref Y14])
  have s_15 := s_14.trans z_15
  have y_15 : L2.upd K14 Z (.lst [V.ref Y10, V.ref Y11, V.ref Y13, V.ref Y14]) Z = some (.lst [V.ref Y10, V.ref Y11, V.ref Y13, V.ref Y14]) := upd_same
  generalize L2.upd K14 Z (.lst [V.ref Y10, V.ref Y11, V.ref Y13, V.ref Y14]) = K15 at z_15 s_15 y_15 ⊢
  refine ⟨X, Z, _, _, rfl, rfl, z_15 _ _ x_14, y_15, by rw [l9]; show 9 + 4 ≤ _; omega, fun X2 nX2 => ?_⟩
  have od13 := od13.same (offs_mono (as := [p]) (bs := [p]) z_15 fun b h => .inl h)
  have l13 : (items9 ++ [V.ref Y10, V.ref Y11, V.ref Y13, V.ref Y14]).length = 13 := by rw [List.length_append, l9]; rfl
  generalize items9 ++ [V.ref Y10, V.ref Y11, V.ref Y13, V.ref Y14] = items13 at od13 l13 ⊢
  have nX20 := nd s_15 nX2
  have z_16 := sameNew nX2 (.lst items13)
  have s_16 := s_15.trans z_16
  have x_16 : L2.upd K15 X2 (.lst items13) X2 = some (.lst items13) := upd_same
  generalize L2.upd K15 X2 (.lst items13) = K16 at z_16 s_16 x_16 ⊢
  -- sayings that are none
  have pk2 : ∀ {H' : Hp}, Same K16 H' → ∀ b ∈ [p, X2], H' b ≠ none := fun {H'} s b hb z => by
    rcases List.mem_cons.mp hb with rfl | hb
    · exact pk (s_16.trans s) _ (by simp) z
    · rw [List.mem_singleton.mp hb, s _ _ x_16] at z
      cases z
  have up2 : ∀ {H1 : Hp} {T : Addr} {o : HO}, Same K16 H1 → H1 T = none → offs [p, X2] (L2.upd H1 T o) T = some o := fun {H1 T o} s h => by rw [offs_upd (offs_new (pk2 s) h), upd_same]
  have r_16 := Same.refl K16
  refine ⟨_, rfl, q, _, _, _, rfl, rfl, SqT.of (s_16 _ _ hq), rfl, _, _, rfl, rfl, by have := hg.s0.nm.1; show s0.1.length + 8 ≤ _; omega, by show 3 ≤ sizeLine; omega, fun A1 nA1 => ?_⟩
  have z_17 := sameNew nA1 (.tup [V.str (s0.1 ++ "qqqqqqqq"), V.str "least", V.int 1])
  have e_17 := up2 (o := .tup [V.str (s0.1 ++ "qqqqqqqq"), V.str "least", V.int 1]) r_16 nA1
  have s_17 := s_16.trans z_17
  have r_17 := r_16.trans z_17
  have y_17 : L2.upd K16 A1 (.tup [V.str (s0.1 ++ "qqqqqqqq"), V.str "least", V.int 1]) A1 = some (.tup [V.str (s0.1 ++ "qqqqqqqq"), V.str "least", V.int 1]) := upd_same
  generalize L2.upd K16 A1 (.tup [V.str (s0.1 ++ "qqqqqqqq"), V.str "least", V.int 1]) = K17 at z_17 e_17 s_17 r_17 y_17 ⊢
  refine ⟨by show 3 ≤ sizeLine; omega, fun A2 nA2 => ?_⟩
  have z_18 := sameNew nA2 (.tup [V.str "A", V.str "least", V.int 1])
  have e_18 := up2 (o := .tup [V.str "A", V.str "least", V.int 1]) r_17 nA2
  have s_18 := s_17.trans z_18
  have r_18 := r_17.trans z_18
  have y_18 : L2.upd K17 A2 (.tup [V.str "A", V.str "least", V.int 1]) A2 = some (.tup [V.str "A", V.str "least", V.int 1]) := upd_same
  generalize L2.upd K17 A2 (.tup [V.str "A", V.str "least", V.int 1]) = K18 at z_18 e_18 s_18 r_18 y_18 ⊢
  refine ⟨by show 3 ≤ sizeLine; omega, fun A3 nA3 => ?_⟩
  have z_19 := sameNew nA3 (.tup [V.str "a", V.str "more", V.int 1])
  have e_19 := up2 (o := .tup [V.str "a", V.str "more", V.int 1]) r_18 nA3
  have s_19 := s_18.trans z_19
  have r_19 := r_18.trans z_19
  have y_19 : L2.upd K18 A3 (.tup [V.str "a", V.str "more", V.int 1]) A3 = some (.tup [V.str "a", V.str "more", V.int 1]) := upd_same
  generalize L2.upd K18 A3 (.tup [V.str "a", V.str "more", V.int 1]) = K19 at z_19 e_19 s_19 r_19 y_19 ⊢
  refine ⟨by show 1 ≤ sizeLine; omega, fun B4 nB4 => ?_⟩
  have z_20 := sameNew nB4 (.lst [V.str "a"])
  have e_20 := up2 (o := .lst [V.str "a"]) r_19 nB4
  have s_20 := s_19.trans z_20
  have r_20 := r_19.trans z_20
  have y_20 : L2.upd K19 B4 (.lst [V.str "a"]) B4 = some (.lst [V.str "a"]) := upd_same
  generalize L2.upd K19 B4 (.lst [V.str "a"]) = K20 at z_20 e_20 s_20 r_20 y_20 ⊢
  refine ⟨by show 3 ≤ sizeLine; omega, fun A4 nA4 => ?_⟩
  have z_21 := sameNew nA4 (.tup [V.ref B4, V.str "least", V.int 1])
  have e_21 := up2 (o := .tup [V.ref B4, V.str "least", V.int 1]) r_20 nA4
  have s_21 := s_20.trans z_21
  have r_21 := r_20.trans z_21
  have y_21 : L2.upd K20 A4 (.tup [V.ref B4, V.str "least", V.int 1]) A4 = some (.tup [V.ref B4, V.str "least", V.int 1]) := upd_same
  generalize L2.upd K20 A4 (.tup [V.ref B4, V.str "least", V.int 1]) = K21 at z_21 e_21 s_21 r_21 y_21 ⊢
  refine ⟨by show 4 ≤ sizeLine; omega, fun SM nSM => ?_⟩
  have z_22 := sameNew nSM (.lst [V.ref A1, V.ref A2, V.ref A3, V.ref A4])
  have e_22 := up2 (o := .lst [V.ref A1, V.ref A2, V.ref A3, V.ref A4]) r_21 nSM
  have s_22 := s_21.trans z_22
  have r_22 := r_21.trans z_22
  have y_22 : L2.upd K21 SM (.lst [V.ref A1, V.ref A2, V.ref A3, V.ref A4]) SM = some (.lst [V.ref A1, V.ref A2, V.ref A3, V.ref A4]) := upd_same
  generalize L2.upd K21 SM (.lst [V.ref A1, V.ref A2, V.ref A3, V.ref A4]) = K22 at z_22 e_22 s_22 r_22 y_22 ⊢
  refine ⟨_, rfl, .inl ⟨rfl, _, SqL.of (r_22 _ _ x_16)⟩, ?_⟩
  refine ⟨_, rfl, _, _, rfl, rfl, ⟨by decide, by decide, by decide⟩, _, _, rfl, rfl, by show 3 ≤ sizeLine; omega, fun A5 nA5 => ?_⟩
  have e20 : (10 : Int) ^ (20 : Int).toNat + 1 = 100000000000000000001 := by decide
  have z_23 := sameNew nA5 (.tup [V.str "a", V.str "least", V.int ((10 : Int) ^ (20 : Int).toNat + 1)])
  have e_23 := up2 (o := .tup [V.str "a", V.str "least", V.int ((10 : Int) ^ (20 : Int).toNat + 1)]) r_22 nA5
  have s_23 := s_22.trans z_23
  have r_23 := r_22.trans z_23
  have y_23 : L2.upd K22 A5 (.tup [V.str "a", V.str "least", V.int ((10 : Int) ^ (20 : Int).toNat + 1)]) A5 = some (.tup [V.str "a", V.str "least", V.int ((10 : Int) ^ (20 : Int).toNat + 1)]) := upd_same
  generalize L2.upd K22 A5 (.tup [V.str "a", V.str "least", V.int ((10 : Int) ^ (20 : Int).toNat + 1)]) = K23 at z_23 e_23 s_23 r_23 y_23 ⊢
  refine ⟨by show 1 ≤ sizeLine; omega, fun N5 nN5 => ?_⟩
  have z_24 := sameNew nN5 (.lst [V.ref A5])
  have e_24 := up2 (o := .lst [V.ref A5]) r_23 nN5
  have s_24 := s_23.trans z_24
  have r_24 := r_23.trans z_24
  have y_24 : L2.upd K23 N5 (.lst [V.ref A5]) N5 = some (.lst [V.ref A5]) := upd_same
  generalize L2.upd K23 N5 (.lst [V.ref A5]) = K24 at z_24 e_24 s_24 r_24 y_24 ⊢
  have ea : [V.ref A1, V.ref A2, V.ref A3, V.ref A4] ++ [V.ref A5] = [V.ref A1, V.ref A2, V.ref A3, V.ref A4, V.ref A5] := rfl
  refine ⟨SM, N5, _, _, rfl, rfl, (z_23.trans z_24) _ _ y_22, y_24, by show 4 + 1 ≤ _; omega, fun ZZ nZZ => ?_⟩
  rw [ea]
  have z_25 := sameNew nZZ (.lst [V.ref A1, V.ref A2, V.ref A3, V.ref A4, V.ref A5])
  have e_25 := up2 (o := .lst [V.ref A1, V.ref A2, V.ref A3, V.ref A4, V.ref A5]) r_24 nZZ
  have s_25 := s_24.trans z_25
  have r_25 := r_24.trans z_25
  have y_25 : L2.upd K24 ZZ (.lst [V.ref A1, V.ref A2, V.ref A3, V.ref A4, V.ref A5]) ZZ = some (.lst [V.ref A1, V.ref A2, V.ref A3, V.ref A4, V.ref A5]) := upd_same
  generalize L2.upd K24 ZZ (.lst [V.ref A1, V.ref A2, V.ref A3, V.ref A4, V.ref A5]) = K25 at z_25 e_25 s_25 r_25 y_25 ⊢
  have bad5 : ∀ y ∈ [V.ref A1, V.ref A2, V.ref A3, V.ref A4, V.ref A5], ∃ d, Tr (offs [p, X2] K25) y d ∧ okS d = true ∧ anySayD d = false := by
    have m : ∀ {H1 H2 : Hp}, Same H1 H2 → Same (offs [p, X2] H1) (offs [p, X2] H2) := fun s => offs_mono s fun b h => .inl h
    have m24 := m z_25
    have m23 := (m z_24).trans m24
    have m22 := (m z_23).trans m23
    have m21 := (m z_22).trans m22
    have m20 := (m z_21).trans m21
    have m19 := (m z_20).trans m20
    have m18 := (m z_19).trans m19
    have m17 := (m z_18).trans m18
    have nq : anySayD (.tuple [.str (s0.1 ++ "qqqqqqqq"), .str "least", .int 1]) = false := by
      have h := hg.s0.na
      rw [nameD_str, Bool.and_eq_true, decide_eq_true_eq] at h
      have e8 : ("qqqqqqqq" : Str).length = 8 := by decide +kernel
      have : nameD (.str (s0.1 ++ "qqqqqqqq")) = false := by
        rw [nameD_str, len_app, e8, decide_eq_false (show ¬ (((s0.1.length + 8 : Nat)) : Int) ≤ 8 by omega)]
        simp
      show (nameD (.str (s0.1 ++ "qqqqqqqq")) && _) = false
      rw [this]
      rfl
    have oq : okS (.str (s0.1 ++ "qqqqqqqq")) = true := by
      have h := hg.s0.nm.1
      have e8 : ("qqqqqqqq" : Str).length = 8 := by decide +kernel
      show decide ((s0.1 ++ "qqqqqqqq").length ≤ 100000) = true
      rw [len_app, e8, decide_eq_true (by omega)]
    intro y hy
    simp only [List.mem_cons, List.not_mem_nil, or_false] at hy
    rcases hy with rfl | rfl | rfl | rfl | rfl
    · exact ⟨_, .tup (m17 _ _ e_17) (.cons (.str _) (.cons (.str _) (.cons (.int _) .nil))), by show (okS (.str (s0.1 ++ "qqqqqqqq")) && _) = true; rw [oq]; decide +kernel, nq⟩
    · exact ⟨_, .tup (m18 _ _ e_18) (.cons (.str _) (.cons (.str _) (.cons (.int _) .nil))), by decide +kernel, by decide +kernel⟩
    · exact ⟨_, .tup (m19 _ _ e_19) (.cons (.str _) (.cons (.str _) (.cons (.int _) .nil))), by decide +kernel, by decide +kernel⟩
    · exact ⟨_, .tup (m21 _ _ e_21) (.cons (.lst (m20 _ _ e_20) (.cons (.str _) .nil)) (.cons (.str _) (.cons (.int _) .nil))), by decide +kernel, rfl⟩
    · exact ⟨_, .tup (m23 _ _ e_23) (.cons (.str _) (.cons (.str _) (.cons (.int _) .nil))), by decide +kernel, by decide +kernel⟩
  generalize hzs : [V.ref A1, V.ref A2, V.ref A3, V.ref A4, V.ref A5] = zs at bad5 y_25 ⊢
  have lz : zs.length = 5 := by rw [← hzs]; rfl
  refine ⟨ZZ, rfl, ⟨_, SqL.of y_25⟩, fun D nD => ?_⟩
  have nD0 := nd s_25 nD
  have x_25 := r_25 _ _ x_16
  refine lc_list (K := K) (a := ZZ) (xs := zs) (fun i H4 => ∃ us, H4 D = some (.lst us) ∧ us.length = i ∧ OddAll (offs [p, X2, D] H4) us ∧ Same K25 H4)
    ⟨[], upd_same, rfl, .nil, sameNew nD _⟩ (fun i H4 _ ⟨_, _, _, _, q⟩ => SqL.of (q _ _ y_25)) ?_ ?_
  · rintro i y K26 hy ⟨us, hD4, ul, ou, z_26⟩
    have hi := (List.getElem?_eq_some_iff.mp hy).1
    obtain ⟨dy, ty, oy, by_⟩ := bad5 y (List.mem_of_getElem? hy)
    have s_26 := s_25.trans z_26
    have mem3 : ∀ b ∈ [p, X2, D], b = p ∨ b = X2 ∨ b = D := fun b h => by simpa using h
    have pk3 : ∀ b ∈ [p, X2, D], K26 b ≠ none := fun b hb z => by
      rcases mem3 b hb with rfl | rfl | rfl
      · exact pk s_26 _ (by simp) z
      · rw [z_26 _ _ x_25] at z
        cases z
      · rw [hD4] at z
        cases z
    have bs3 : Same (del H p) (offs [p, X2, D] K26) := bs s_26 fun b hb => by
      rcases mem3 b hb with rfl | rfl | rfl
      · exact .inl rfl
      · exact .inr nX20
      · exact .inr nD0
    have ty := ty.same (offs_mono (bs := [p, X2, D]) z_26 fun b hb => by
      rcases mem3 b hb with rfl | rfl | rfl
      · exact .inl (by simp)
      · exact .inl (by simp)
      · exact .inr nD)
    refine ⟨rfl, ?_⟩
    refine ⟨_, rfl, _, rfl, by show 2 ≤ sizeLine; omega, fun T27 hT27 => ⟨by show 1 ≤ sizeLine; omega, fun M27 hM27 => ⟨L, M27, _, _, rfl, rfl, sameNew hM27 _ _ _ (sameNew hT27 _ _ _ (s_26 _ _ hL)), upd_same, by show xs.length + 1 ≤ _; omega, fun Y27 hY27 => ?_⟩⟩⟩
    have q_27 := app_oddO (as := [p, X2, D]) (v := y) (w := V.int 0) (dv := dy) (dw := .int 0) (o := .tup [y, V.int 0]) (e := .tuple [dy, .int 0]) pk3 hg bs3 al hT27 (.inl ⟨rfl, rfl⟩) hM27 hY27 ty (.int 0) oy rfl (by show (anySayD dy && _) = false; rw [by_]; rfl)
    have nY27 : Y27 ≠ T27 := fun z => by rw [z, upd_ne (show T27 ≠ M27 from fun z => by rw [← z, upd_same] at hM27; cases hM27), upd_same] at hY27; cases hY27
    obtain ⟨z_27, o_27⟩ := q_27
    have s_27 := s_26.trans z_27
    generalize L2.upd (L2.upd (L2.upd K26 T27 (.tup [y, V.int 0])) M27 (.lst [.ref T27])) Y27 (.lst (xs ++ [.ref T27])) = K27 at z_27 o_27 s_27 ⊢
    have hD5 := z_27 _ _ hD4
    refine ⟨_, hD5, by omega, us ++ [V.ref Y27], upd_same, by rw [List.length_append, ul]; rfl, ?_, fun b o e => ?_⟩
    · rw [offs_mut (by simp)]
      exact .app (ou.same (offs_mono z_27 fun b h => .inl h)) (.one o_27)
    · rw [upd_ne (ne_of_none e nD)]
      exact z_27 _ _ (z_26 _ _ e)
  rintro K26 ⟨us, hD4, ul, ou, z_26⟩
  have s_26 := s_25.trans z_26
  have x_26 := z_26 _ _ x_25
  refine ⟨X2, D, _, _, rfl, rfl, x_26, hD4, by omega, ?_⟩
  have z_27 : ∀ {Hb : Hp}, Hb X2 = none → Same Hb K26 → Same Hb (L2.upd K26 X2 (.lst (items13 ++ us))) := fun h s b o e => by
    rw [upd_ne (ne_of_none e h)]
    exact s _ _ e
  have s_27 := z_27 nX20 s_26
  have od18 : OddAll (offs [p] (L2.upd K26 X2 (.lst (items13 ++ us)))) (items13 ++ us) := by
    refine .app (od13.same (offs_mono (z_27 nX2 (z_16.trans (r_25.trans z_26))) fun b h => .inl h)) ?_
    refine OddAll.same (H := offs [p, X2, D] (L2.upd K26 X2 (.lst (items13 ++ us)))) ?_ (offs_mono (Same.refl _) fun b h => .inl (by rw [List.mem_singleton.mp h]; simp))
    rw [offs_mut (by simp)]
    exact ou
  have x_27 : L2.upd K26 X2 (.lst (items13 ++ us)) X2 = some (.lst (items13 ++ us)) := upd_same
  have l18 : (items13 ++ us).length = 18 := by rw [List.length_append]; omega
  generalize L2.upd K26 X2 (.lst (items13 ++ us)) = K27 at s_27 od18 x_27 ⊢
  generalize items13 ++ us = items18 at od18 x_27 l18 ⊢
  clear z_27 ou
  refine ⟨_, rfl, _, rfl, _, rfl, by show 3 ≤ sizeLine; omega, fun E1 nE1 => ?_⟩
  have z_28 := sameNew nE1 (.tup [V.str "a", V.str "least", V.bl true])
  have e_28 := up1 (o := .tup [V.str "a", V.str "least", V.bl true]) s_27 nE1
  have s_28 := s_27.trans z_28
  generalize L2.upd K27 E1 (.tup [V.str "a", V.str "least", V.bl true]) = K28 at z_28 e_28 s_28 ⊢
  refine ⟨by show 2 ≤ sizeLine; omega, fun T29 hT29 => ⟨by show 1 ≤ sizeLine; omega, fun M29 hM29 => ⟨L, M29, _, _, rfl, rfl, sameNew hM29 _ _ _ (sameNew hT29 _ _ _ (s_28 _ _ hL)), upd_same, by show xs.length + 1 ≤ _; omega, fun Y29 hY29 => ?_⟩⟩⟩
  have q_29 := app_oddO (as := [p]) (v := V.ref E1) (w := V.int 0) (dv := .tuple [.str "a", .str "least", .bool true]) (dw := .int 0) (o := .tup [V.ref E1, V.int 0]) (e := .tuple [.tuple [.str "a", .str "least", .bool true], .int 0]) (pk s_28) hg (bs1 s_28) al hT29 (.inl ⟨rfl, rfl⟩) hM29 hY29 (.tup e_28 (.cons (.str _) (.cons (.str _) (.cons (.bl _) .nil)))) (.int 0) (by decide +kernel) rfl (by decide +kernel)
  have nY29 : Y29 ≠ T29 := fun z => by rw [z, upd_ne (show T29 ≠ M29 from fun z => by rw [← z, upd_same] at hM29; cases hM29), upd_same] at hY29; cases hY29
  obtain ⟨z_29, o_29⟩ := q_29
  have s_29 := s_28.trans z_29
  generalize L2.upd (L2.upd (L2.upd K28 T29 (.tup [V.ref E1, V.int 0])) M29 (.lst [.ref T29])) Y29 (.lst (xs ++ [.ref T29])) = K29 at z_29 o_29 s_29 ⊢
  refine ⟨_, rfl, by show 3 ≤ sizeLine; omega, fun E2 nE2 => ?_⟩
  have z_30 := sameNew nE2 (.tup [V.str "a", V.str "most", V.str "1"])
  have e_30 := up1 (o := .tup [V.str "a", V.str "most", V.str "1"]) s_29 nE2
  have s_30 := s_29.trans z_30
  generalize L2.upd K29 E2 (.tup [V.str "a", V.str "most", V.str "1"]) = K30 at z_30 e_30 s_30 ⊢
  refine ⟨by show 2 ≤ sizeLine; omega, fun T31 hT31 => ⟨by show 1 ≤ sizeLine; omega, fun M31 hM31 => ⟨L, M31, _, _, rfl, rfl, sameNew hM31 _ _ _ (sameNew hT31 _ _ _ (s_30 _ _ hL)), upd_same, by show xs.length + 1 ≤ _; omega, fun Y31 hY31 => ?_⟩⟩⟩
  have q_31 := app_oddO (as := [p]) (v := V.ref E2) (w := V.int 0) (dv := .tuple [.str "a", .str "most", .str "1"]) (dw := .int 0) (o := .tup [V.ref E2, V.int 0]) (e := .tuple [.tuple [.str "a", .str "most", .str "1"], .int 0]) (pk s_30) hg (bs1 s_30) al hT31 (.inl ⟨rfl, rfl⟩) hM31 hY31 (.tup e_30 (.cons (.str _) (.cons (.str _) (.cons (.str _) .nil)))) (.int 0) (by decide +kernel) rfl (by decide +kernel)
  have nY31 : Y31 ≠ T31 := fun z => by rw [z, upd_ne (show T31 ≠ M31 from fun z => by rw [← z, upd_same] at hM31; cases hM31), upd_same] at hY31; cases hY31
  obtain ⟨z_31, o_31⟩ := q_31
  have s_31 := s_30.trans z_31
  generalize L2.upd (L2.upd (L2.upd K30 T31 (.tup [V.ref E2, V.int 0])) M31 (.lst [.ref T31])) Y31 (.lst (xs ++ [.ref T31])) = K31 at z_31 o_31 s_31 ⊢
  refine ⟨by show 2 ≤ sizeLine; omega, fun W2 nW2 => ?_⟩
  have z_32 := sameNew nW2 (.lst [V.ref Y29, V.ref Y31])
  have s_32 := s_31.trans z_32
  have y_32 : L2.upd K31 W2 (.lst [V.ref Y29, V.ref Y31]) W2 = some (.lst [V.ref Y29, V.ref Y31]) := upd_same
  generalize L2.upd K31 W2 (.lst [V.ref Y29, V.ref Y31]) = K32 at z_32 s_32 y_32 ⊢
  have t_32 := ((z_28.trans z_29).trans (z_30.trans z_31)).trans z_32
  refine ⟨X2, W2, _, _, rfl, rfl, t_32 _ _ x_27, y_32, by rw [l18]; show 18 + 2 ≤ _; omega, fun LL nLL => ?_⟩
  have z_33 := sameNew nLL (.lst (items18 ++ [V.ref Y29, V.ref Y31]))
  have s_33 := s_32.trans z_33
  have m : ∀ {H1 H2 : Hp}, Same H1 H2 → Same (offs [p] H1) (offs [p] H2) := fun s => offs_mono s fun b h => .inl h
  have od20 : OddAll (offs [p] (L2.upd K32 LL (.lst (items18 ++ [V.ref Y29, V.ref Y31])))) (items18 ++ [V.ref Y29, V.ref Y31]) :=
    .app (od18.same (m (t_32.trans z_33))) (.cons (o_29.same (m (((z_30.trans z_31).trans z_32).trans z_33))) (.cons (o_31.same (m (z_32.trans z_33))) .nil))
  refine .inl ⟨p, c, LL, n, _, rfl, pen.same s_33, by omega, (pen.same s_32).newp nLL, .inl upd_same, by rw [List.length_append, l18]; show 1 ≤ 18 + 2; omega, by rw [List.length_append, l18]; show 18 + 2 ≤ _; omega, fun x H' hx pen' sb => ?_⟩
  have ox := od20 x hx
  rw [offs_del] at ox
  exact k x H' pen' ((Sb.same s_33).trans sb) (ox.same sb)
end
end Pk
end
section
set_option maxHeartbeats 1000000
/-! What repr tells of chains; how long their texts are. -/
namespace Pk
open PySem PySem.Spec PyProof.Rows L2 TL
/-- small enough to be told -/
structure Rep (d : PyData) (n k : Nat) : Prop where
  lv : Pk.lv 0 d = true
  bulk : d.bulk ≤ n
  depth : d.depth ≤ k
theorem whole_in {lo hi : Int} {d : PyData} (h : wholeD lo hi d = true) : ∃ i, d = .int i ∧ lo ≤ i ∧ i ≤ hi := by
  obtain ⟨i, rfl⟩ := whole_is h
  rw [wholeD_int, Bool.and_eq_true, decide_eq_true_eq, decide_eq_true_eq] at h
  exact ⟨i, rfl, h.1, h.2⟩
theorem rep_int {i : Int} (h1 : -greatS ≤ i) (h2 : i ≤ greatS) : Pk.lv 0 (.int i) = true := int_lv (by have := greatG; have : greatS = 100000000000000000000 := rfl; omega) (by have : greatS = 100000000000000000000 := rfl; omega)
theorem rep_say {d : PyData} (h : anySayD d = true) : Rep d 41 1 := by
  match d, h with
  | .tuple [n, so, i], h =>
    rw [show anySayD (.tuple [n, so, i]) = (nameD n && (inS sorts2 so && wholeD (-greatS) greatS i)) from rfl, Bool.and_eq_true, Bool.and_eq_true] at h
    obtain ⟨h1, h2, h3⟩ := h
    obtain ⟨j, rfl, j1, j2⟩ := whole_in h3
    obtain ⟨s, hs, rfl⟩ := inS_is h2
    obtain ⟨z, rfl⟩ : ∃ z, n = .str z := by cases n <;> first | exact ⟨_, rfl⟩ | cases h1
    rw [nameD_str, Bool.and_eq_true, Bool.and_eq_true, decide_eq_true_eq, decide_eq_true_eq] at h1
    have nz : nmOk z := ⟨by omega, fun c hc => List.all_eq_true.mp h1.2.2 c hc⟩
    obtain ⟨_, z1, z2⟩ := nm_str nz
    obtain ⟨_, s1, s2⟩ := nm_str (sort_nm hs)
    have s3 : s.cps.size ≤ 5 := by
      have q : ∀ z ∈ sorts2, z.cps.size ≤ 5 := by decide +kernel
      exact q s hs
    have z3 : z.cps.size ≤ 8 := by
      have := h1.2.1
      show z.length ≤ 8
      omega
    refine ⟨?_, ?_, ?_⟩
    · simp only [lv_tup, lvs, z1, s1, rep_int j1 j2, Bool.and_self]
    · simp only [PyData.bulk, PyData.bulkAll]
      omega
    · simp [PyData.depth, PyData.depthAll]
theorem rep_link {d : PyData} (h : linkD d = true) : Rep d 44 2 := by
  match d, h with
  | .tuple [s, b], h =>
    rw [show linkD (.tuple [s, b]) = (anySayD s && wholeD (-1) 39 b) from rfl, Bool.and_eq_true] at h
    obtain ⟨j, rfl, j1, j2⟩ := whole_in h.2
    have r := rep_say h.1
    have gg : greatS = 100000000000000000000 := rfl
    refine ⟨?_, ?_, ?_⟩
    · simp only [lv_tup, lvs, r.lv, rep_int (i := j) (by omega) (by omega), Bool.and_self]
    · simp only [PyData.bulk, PyData.bulkAll]
      have := r.bulk
      omega
    · have := r.depth
      simp [PyData.depth, PyData.depthAll]
      omega
theorem rep_first {d : PyData} (h : firstD d = true) : Rep d 44 2 := by
  match d, h with
  | .tuple [s, .none], h =>
    have r := rep_say (show anySayD s = true from h)
    refine ⟨?_, ?_, ?_⟩
    · simp only [lv_tup, lvs, r.lv, Bool.and_self]
      rfl
    · simp only [PyData.bulk, PyData.bulkAll]
      have := r.bulk
      omega
    · have := r.depth
      simp [PyData.depth, PyData.depthAll]
      omega
theorem rep_all : ∀ {ds : List PyData}, (∀ d ∈ ds, Rep d 44 2) → Pk.lvs 0 ds = true ∧ PyData.bulkAll ds ≤ ds.length * 45 ∧ PyData.depthAll ds ≤ 2
  | [], _ => ⟨rfl, by simp [PyData.bulkAll], by simp [PyData.depthAll]⟩
  | d :: ds, h => by
    obtain ⟨a, b, c⟩ := rep_all fun e he => h e (List.mem_cons_of_mem _ he)
    have r := h d List.mem_cons_self
    refine ⟨?_, ?_, ?_⟩
    · rw [lvs, r.lv, a]
      rfl
    · rw [PyData.bulkAll, List.length_cons]
      have := r.bulk
      omega
    · rw [PyData.depthAll]
      have := r.depth
      omega
theorem rep_ok {d : PyData} {n k : Nat} (r : Rep d n k) (h1 : n ≤ 100000) (h2 : k ≤ 60) : d.showable = true ∧ d.depth ≤ 60 ∧ d.shown.length ≤ PySem.sizeLine := by
  have b := r.bulk
  have e := r.depth
  exact ⟨(lv_ok (k := 0) (by omega) r.lv (by omega)).2.1, by omega, lv_shown (k := 0) (by omega) r.lv (by omega)⟩
theorem form_rep {d : PyData} (h : formC d = true) : d.showable = true ∧ d.depth ≤ 60 ∧ d.shown.length ≤ PySem.sizeLine := by
  match d, h with
  | .list (f :: r), h =>
    rw [show formC (.list (f :: r)) = (decide ((f :: r).length ≤ 2000) && (firstD f && r.all linkD)) from rfl, Bool.and_eq_true, Bool.and_eq_true, decide_eq_true_eq, List.all_eq_true] at h
    obtain ⟨h1, h2, h3⟩ := h
    obtain ⟨a, b, c⟩ := rep_all (ds := f :: r) fun e he => by
      rcases List.mem_cons.mp he with rfl | he
      · exact rep_first h2
      · exact rep_link (h3 e he)
    refine rep_ok (n := 90000) (k := 3) ⟨by rw [lv_lst]; exact a, ?_, ?_⟩ (by omega) (by omega)
    · simp only [PyData.bulk]
      omega
    · simp only [PyData.depth]
      omega
theorem read_form {z : Str} {dd : PyData} (h : readX z = some dd) : formC dd = true := by
  unfold readX goodX at h
  by_cases c : (decide ((evens (Txt.split z " ")).length = (odds2 (Txt.split z " ")).length + 1) && formC (.list (chainX (Txt.split z " ")))) = true
  · rw [if_pos c] at h
    cases h
    rw [Bool.and_eq_true] at c
    exact c.2
  · rw [if_neg c] at h
    cases h
theorem row_rep : (PyData.tuple [.str "row", .int 0]).showable = true ∧ (PyData.tuple [.str "row", .int 0]).depth ≤ 60 ∧ (PyData.tuple [.str "row", .int 0]).shown.length ≤ PySem.sizeLine := by
  refine rep_ok (n := 100) (k := 5) ⟨by decide +kernel, by decide +kernel, by decide +kernel⟩ (by omega) (by omega)
theorem text_len {s0 : Say} {l : List (Say × Int)} (h : ChainG s0 l) : (textC s0 l).length ≤ (1 + 2 * l.length) * 61 := by
  have wk := wordsC_ok h
  have q := sum_len (n := 60) fun x hx => (wk x hx).1
  have n := wordsC_len s0 l
  have j := join_le " " (wordsC s0 l)
  have e : (" " : Str).length = 1 := by decide +kernel
  have t : textC s0 l = Txt.join " " (wordsC s0 l) := rfl
  rw [t]
  rw [e] at j
  rw [n] at q j
  omega
theorem chain_rep {s0 : Say} {l : List (Say × Int)} (h : ChainG s0 l) (hl : l.length + 1 ≤ 2000) : (PyData.list (chainP s0 l)).showable = true ∧ (PyData.list (chainP s0 l)).depth ≤ 60 ∧ (PyData.list (chainP s0 l)).shown.length ≤ PySem.sizeLine :=
  form_rep (by rw [chain_form h, decide_eq_true hl])
theorem read_empty : readX "" = none := by
  have e : Txt.split "" " " = ([""] : List Str) := by decide +kernel
  have q : goodX ([""] : List Str) = false := by
    rw [(due_good ([""] : List Str)).1]
    unfold dueB
    have : (evens ([""] : List Str)).all (fun w => (sayL w).isSome) = false := by decide +kernel
    rw [this]
    simp
  unfold readX
  rw [e, q]
  rfl
end Pk
end
/-! The law. -/
namespace Pk
open PySem L2
def spLaw (K : PySem.W.Frag) (cs : List (Addr × Addr)) : Sp := fun vs H Q _ => ∃ (a : Addr) (ns : List Int), vs = [.ref a] ∧ SqL K H a (ns.map V.int) ∧ ns.length ≤ 63 ∧ (∀ p ∈ cs, GxR.TabG H p.2) ∧ ∀ H', Q (.bl true) H'
/-- all that the law calls -/
structure Defs (P : Program) (w : World) (K : PySem.W.Frag) (mg : Str → Option Value) (base : Heap) (Ps : List Addr) (CN CT : Addr) : Prop where
  pen : ∃ f d, FnOk P w K mg base CX0 1 f d ["_law_script"] (spPenL K) ∧ Binds K d ["_law_script"] [] ∧ PySem.W.keepIn K (.ref f) = true ∧ mg "_law_pen" = some (.ref f)
  draw : ∃ f d, FnOk P w K mg base CX0 1 f d ["_law_pen_here", "_law_many"] spDrawC ∧ Binds K d ["_law_pen_here", "_law_many"] [] ∧ PySem.W.keepIn K (.ref f) = true ∧ mg "_law_draw" = some (.ref f)
  pick : ∃ f d, FnOk P w K mg base CX0 2 f d ["_law_pen_here", "_law_lot"] spPick ∧ Binds K d ["_law_pen_here", "_law_lot"] [] ∧ PySem.W.keepIn K (.ref f) = true ∧ mg "_law_pick" = some (.ref f)
  saying : ∃ f d, FnOk P w K mg base CX0 3 f d ["_law_pen_here"] spLSayD ∧ Binds K d ["_law_pen_here"] [] ∧ PySem.W.keepIn K (.ref f) = true ∧ mg "_law_saying" = some (.ref f)
  shown : ∃ f d, FnOk P w K mg base CX0 2 f d ["_law_chain"] spLShow ∧ Binds K d ["_law_chain"] [] ∧ PySem.W.keepIn K (.ref f) = true ∧ mg "_law_show_chain" = some (.ref f)
  due : ∃ f d, FnOk P w K mg base CX0 3 f d ["_law_text"] spLDue ∧ Binds K d ["_law_text"] [] ∧ PySem.W.keepIn K (.ref f) = true ∧ mg "_law_due" = some (.ref f)
  told : ∃ f d, FnOk P w K mg base CX0 9 f d ["_law_text"] (spLTold Ps) ∧ Binds K d ["_law_text"] [] ∧ PySem.W.keepIn K (.ref f) = true ∧ mg "_law_told" = some (.ref f)
  bent : ∃ f d, FnOk P w K mg base CX0 3 f d ["_law_pen_here", "_law_text"] spLBent ∧ Binds K d ["_law_pen_here", "_law_text"] [] ∧ PySem.W.keepIn K (.ref f) = true ∧ mg "_law_bent" = some (.ref f)
  word : ∃ f d, FnOk P w K mg base CX0 9 f d ["_law_thing"] (spLWord Ps) ∧ Binds K d ["_law_thing"] [] ∧ PySem.W.keepIn K (.ref f) = true ∧ mg "_law_word" = some (.ref f)
  odd : ∃ f d, FnOk P w K mg base CX0 3 f d ["_law_pen_here", "_law_chain"] spLOdd ∧ Binds K d ["_law_pen_here", "_law_chain"] [] ∧ PySem.W.keepIn K (.ref f) = true ∧ mg "_law_odd" = some (.ref f)
  show_ : ∃ f d, FnOk P w K mg base (L2.CX P w) 8 f d ["chain"] (spShowC Ps CN) ∧ Binds K d ["chain"] [] ∧ PySem.W.keepIn K (.ref f) = true ∧ mg "show_chain" = some (.ref f)
  read : ∃ f d, FnOk P w K mg base (L2.CX P w) 8 f d ["text"] (spReadC Ps CT) ∧ Binds K d ["text"] [] ∧ PySem.W.keepIn K (.ref f) = true ∧ mg "read_chain" = some (.ref f)
abbrev nLaw : List Str := ["_law_script", "_law_pen_here", "_law_turn", "_law_chain", "_law_k", "_law_due_here", "_law_text", "_law_told_here", "_law_again", "_law_some"]
theorem scLaw : FnScope nLaw ["_law_script"] (defScope sLaw) := ⟨rfl, rfl, rfl, by decide +kernel, rfl, by decide +kernel, by decide +kernel⟩
theorem zn1_tabs {Ps : List Addr} {H : Hp} {p c : Addr} {n : Int} (t : Tabs Ps H) (P : PenC H p c n) : Tabs Ps (zn [p] H) := fun Q hQ => by
  obtain ⟨ps, h1, h2⟩ := t Q hQ
  refine ⟨ps, ?_, h2⟩
  rw [zn_out fun z => ?_]
  · exact h1
  · obtain ⟨kv, hp⟩ := P.atp
    rw [List.mem_singleton.mp z, hp] at h1
    cases h1
theorem zn1_grs {Ps : List Addr} {H H' : Hp} {p c : Addr} {n : Int} (t : Tabs Ps H) (P : PenC H p c n) (g : GrS Ps H H') : GrS Ps (zn [p] H) (zn [p] H') := by
  refine ⟨zn1_tabs g.1 (P.grs t g), fun b o hb e => ?_⟩
  obtain ⟨h1, h2⟩ := zn_some e
  rw [zn_out h1]
  exact g.2 b o hb h2
theorem Tr.zg {Ps : List Addr} {H H' : Hp} {p c : Addr} {n : Int} {x : V} {d : PyData} (h : Tr (zn [p] H) x d) (t : Tabs Ps H) (P : PenC H p c n) (g : GrS Ps H H') : Tr (zn [p] H') x d := h.grs (zn1_tabs t P) (zn1_grs t P g)
theorem zn_offs {as : List Addr} {H : Hp} : zn as H = offs as H := rfl
theorem zn_del {p : Addr} {H : Hp} : zn [p] H = del H p := offs_del
/-- what stands between two steps of the law -/
structure Lw (Ps : List Addr) (H : Hp) (p c L : Addr) (N : Int) (s0 : Say) (l : List (Say × Int)) : Prop where
  pen : PenC H p c N
  tb : Tabs Ps H
  th : Tr (zn [p] H) (.ref L) (.list (chainP s0 l))
theorem Lw.same {Ps : List Addr} {H H' : Hp} {p c L : Addr} {N : Int} {s0 : Say} {l : List (Say × Int)} (b : Lw Ps H p c L N s0 l) (s : Same H H') : Lw Ps H' p c L N s0 l := ⟨b.pen.same s, b.tb.same s, b.th.same (zn_mono s)⟩
theorem Lw.sb {Ps : List Addr} {H H' : Hp} {p c L : Addr} {N M : Int} {s0 : Say} {l : List (Say × Int)} (b : Lw Ps H p c L N s0 l) (s : Sb p H H') (P : PenC H' p c M) : Lw Ps H' p c L M s0 l := ⟨P, b.tb.sb b.pen s, b.th.same (zn_sb s List.mem_cons_self)⟩
theorem Lw.grs {Ps : List Addr} {H H' : Hp} {p c L : Addr} {N : Int} {s0 : Say} {l : List (Say × Int)} (b : Lw Ps H p c L N s0 l) (g : GrS Ps H H') : Lw Ps H' p c L N s0 l := ⟨b.pen.grs b.tb g, g.1, b.th.zg b.tb b.pen g⟩
theorem Lw.tr {Ps : List Addr} {H : Hp} {p c L : Addr} {N : Int} {s0 : Say} {l : List (Say × Int)} (b : Lw Ps H p c L N s0 l) : Tr H (.ref L) (.list (chainP s0 l)) := b.th.same zn_le
theorem Tabs.lst {Ps : List Addr} {H : Hp} {L : Addr} {xs ys : List V} (t : Tabs Ps H) (h : H L = some (.lst xs)) : Tabs Ps (L2.upd H L (.lst ys)) := fun Q hQ => by
  obtain ⟨ps, h1, h2⟩ := t Q hQ
  exact ⟨ps, by rw [upd_ne (fun z => by rw [z, h] at h1; cases h1)]; exact h1, h2⟩
/-- a chain under way -/
structure Bd (Ps : List Addr) (H : Hp) (p c L : Addr) (N : Int) (s0 : Say) (l : List (Say × Int)) (xs : List V) : Prop where
  pen : PenC H p c N
  tb : Tabs Ps H
  g : ChainG s0 l
  at_ : H L = some (.lst xs)
  al : TrAll (zn [p, L] H) xs (chainP s0 l)
  Lp : L ≠ p
  Lc : L ≠ c
theorem Bd.first {Ps : List Addr} {H : Hp} {p c q b L : Addr} {N : Int} {s0 : Say} (pen : PenC H p c N) (tb : Tabs Ps H) (w : SayW s0) (hq : H q = some (.tup (sayV s0))) (hb : H b = none) (hL : L2.upd H b (.tup [V.ref q, V.non]) L = none) :
    Bd Ps (L2.upd (L2.upd H b (.tup [V.ref q, V.non])) L (.lst [V.ref b])) p c L N s0 [] [V.ref b] := by
  have s1 := sameNew hb (.tup [V.ref q, V.non])
  have s2 := sameNew hL (.lst [V.ref b])
  have s12 := s1.trans s2
  have hLH : H L = none := s1.free hL
  have bp := pen.newp hb
  have qp := pen.tupp hq
  have bL : b ≠ L := fun z => by rw [← z, upd_same] at hL; cases hL
  have qL : q ≠ L := fun z => by rw [z, hLH] at hq; cases hq
  refine ⟨pen.same s12, tb.same s12, ⟨w, fun p hp => by cases hp⟩, upd_same, ?_, pen.newp hLH, pen.newc hLH⟩
  refine .cons (.tup (xs := [V.ref q, V.non]) ?_ (.cons (.tup (xs := sayV s0) ?_ (.cons (.str _) (.cons (.str _) (.cons (.int _) .nil)))) (.cons .non .nil))) .nil
  · rw [zn_out (by simp [bp, bL])]
    exact s2 _ _ upd_same
  · rw [zn_out (by simp [qp, qL])]
    exact s12 _ _ hq
theorem chainP_snoc (s0 : Say) (l : List (Say × Int)) (s : Say) (v : Int) : chainP s0 (l ++ [(s, v)]) = chainP s0 l ++ [.tuple [sayP s, .int v]] := by
  unfold chainP
  rw [List.map_append, List.cons_append]
  rfl
theorem Bd.next {Ps : List Addr} {H Hd : Hp} {p c L q T : Addr} {N M : Int} {s0 s : Say} {l : List (Say × Int)} {xs : List V} {v : Int} (b : Bd Ps H p c L N s0 l xs) (sb : Sb p H Hd) (pen : PenC Hd p c M) (hq : Hd q = some (.tup (sayV s))) (w : SayW s) (v1 : -1 ≤ v) (v2 : v ≤ 39) (hT : Hd T = none) :
    Bd Ps (L2.upd (L2.upd Hd T (.tup [V.ref q, V.int v])) L (.lst (xs ++ [V.ref T]))) p c L M s0 (l ++ [(s, v)]) (xs ++ [V.ref T]) := by
  have s1 := sameNew hT (.tup [V.ref q, V.int v])
  have hLd := sb.to b.Lp b.at_
  have hL1 := s1 _ _ hLd
  have Tp := pen.newp hT
  have qp := pen.tupp hq
  have TL : T ≠ L := fun z => by rw [← z, hT] at hLd; cases hLd
  have qL : q ≠ L := fun z => by rw [z, hLd] at hq; cases hq
  refine ⟨(pen.same s1).upd b.Lp b.Lc _, ((b.tb.sb b.pen sb).same s1).lst hL1, ⟨b.g.s0, fun r hr => ?_⟩, upd_same, ?_, b.Lp, b.Lc⟩
  · rcases List.mem_append.mp hr with hr | hr
    · exact b.g.ss r hr
    · rw [List.mem_singleton.mp hr]
      exact ⟨w, v1, v2⟩
  · rw [chainP_snoc]
    have z : Same (zn [p, L] (L2.upd Hd T (.tup [V.ref q, V.int v]))) (zn [p, L] (L2.upd (L2.upd Hd T (.tup [V.ref q, V.int v])) L (.lst (xs ++ [V.ref T])))) := zn_upd (by simp)
    refine TrAll.same z ((b.al.same ((zn_sb sb (by simp)).trans (zn_mono s1))).snoc ?_)
    refine .tup (xs := [V.ref q, V.int v]) ?_ (.cons (.tup (xs := sayV s) ?_ (.cons (.str _) (.cons (.str _) (.cons (.int _) .nil)))) (.cons (.int _) .nil))
    · rw [zn_out (by simp [Tp, TL])]
      exact upd_same
    · rw [zn_out (by simp [qp, qL])]
      exact s1 _ _ hq
theorem Bd.lw {Ps : List Addr} {H : Hp} {p c L : Addr} {N : Int} {s0 : Say} {l : List (Say × Int)} {xs : List V} (b : Bd Ps H p c L N s0 l xs) : Lw Ps H p c L N s0 l := by
  refine ⟨b.pen, b.tb, .lst (xs := xs) (by rw [zn_out (by simp [b.Lp])]; exact b.at_) (b.al.same fun a o e => ?_)⟩
  obtain ⟨h1, h2⟩ := zn_some e
  rw [zn_out (fun z => h1 (by rw [List.mem_singleton.mp z]; simp))]
  exact h2
/-- a chain whose sayings are one -/
theorem Lw.rep {Ps : List Addr} {H : Hp} {p c b q T L : Addr} {N : Int} {s0 : Say} {k : Nat} (pen : PenC H p c N) (tb : Tabs Ps H) (hb : H b = some (.tup [V.ref q, V.non])) (hq : H q = some (.tup (sayV s0))) (hT : H T = some (.tup [V.ref q, V.int (-1)])) (hL : H L = some (.lst (V.ref b :: List.replicate k (V.ref T)))) (Lp : L ≠ p) :
    Lw Ps H p c L N s0 (List.replicate k (s0, -1)) := by
  have bp := pen.tupp hb
  have qp := pen.tupp hq
  have Tp := pen.tupp hT
  have tq : Tr (zn [p] H) (.ref q) (sayP s0) := .tup (xs := sayV s0) (by rw [zn_out (by simp [qp])]; exact hq) (.cons (.str _) (.cons (.str _) (.cons (.int _) .nil)))
  have tT : Tr (zn [p] H) (.ref T) (.tuple [sayP s0, .int (-1)]) := .tup (xs := [V.ref q, V.int (-1)]) (by rw [zn_out (by simp [Tp])]; exact hT) (.cons tq (.cons (.int _) .nil))
  refine ⟨pen, tb, .lst (by rw [zn_out (by simp [Lp])]; exact hL) ?_⟩
  unfold chainP
  refine .cons (.tup (xs := [V.ref q, V.non]) (by rw [zn_out (by simp [bp])]; exact hb) (.cons tq (.cons .non .nil))) ?_
  clear hL
  induction k with
  | zero => exact .nil
  | succ k ih => exact .cons tT ih
section
variable {P : Program} {w : World} {K : PySem.W.Frag} {mg : Str → Option Value} {base : Heap} {Ps : List Addr} {CN CT : Addr}
set_option maxHeartbeats 4000000 in
theorem ok_law {f : Addr} {fd : FuncData} {cs : List (Addr × Addr)} (hcs : cs.map (·.2) = Ps) (F : Fun K "law" "law" sLaw f fd) (Z : Defs P w K mg base Ps CN CT) (B : Blt mg) : FnG P w K mg base 18 f fd ["_law_script"] (spLaw K cs) := by
  refine Fun.okG F scLaw (fun vs H Q E h => ?_) (fun cdv A outer s H vs Q E hgd hr h => ?_)
  · obtain ⟨a, ns, rfl, _⟩ := h
    rfl
  obtain ⟨a, ns, rfl, hS, hl, htab0, k⟩ := h
  have htab : Tabs Ps H := fun P hP => by
    rw [← hcs] at hP
    obtain ⟨q, hq, rfl⟩ := List.mem_map.mp hP
    exact htab0 q hq
  obtain ⟨fP, dP, GP, bP, kP, mP⟩ := Z.pen
  obtain ⟨fD, dD, GD, bD, kD, mD⟩ := Z.draw
  obtain ⟨fK, dK, GK, bK, kK, mK⟩ := Z.pick
  obtain ⟨fY, dY, GY, bY, kY, mY⟩ := Z.saying
  obtain ⟨fS, dS, GS, bS, kS, mS⟩ := Z.shown
  obtain ⟨fU, dU, GU, bU, kU, mU⟩ := Z.due
  obtain ⟨fT, dT, GT, bT, kT, mT⟩ := Z.told
  obtain ⟨fB, dB, GB, bB, kB, mB⟩ := Z.bent
  obtain ⟨fX, dX, GX, bX, kX, mX⟩ := Z.word
  obtain ⟨fO, dO, GO, bO, kO, mO⟩ := Z.odd
  obtain ⟨fW, dW, GW, bW, kW, mW⟩ := Z.show_
  obtain ⟨fR, dR, GR, bR, kR, mR⟩ := Z.read
  have hr1 : Room 1 _ := hr.mono (by decide)
  have hr2 : Room 2 _ := hr.mono (by decide)
  have hr3 : Room 3 _ := hr.mono (by decide)
  have hr8 : Room 8 _ := hr.mono (by decide)
  have hr9 : Room 9 _ := hr.mono (by decide)
  have h100 : (A.deeper (PyProof.Rows.envOfC "law" (defScope sLaw) s.heap.objs.size f cdv)).units + 100 < cLine := by
    have := hr.un
    omega
  have h64 : (A.deeper (PyProof.Rows.envOfC "law" (defScope sLaw) s.heap.objs.size f cdv)).units + 64 < cLine := by omega
  have hgd' : (A.deeper (PyProof.Rows.envOfC "law" (defScope sLaw) s.heap.objs.size f cdv)).guards = some [] := hgd
  refine ⟨_, pss_cons (ps_set (i := 1) scLaw.nd rfl (.inl rfl) (pe_call GP hr1 rfl mP kP bP .nil pass0 (pa_cons (pv 0) pa_nil))) <|
    pss_cons (ps_for PassesOwn.never rfl (pi_range1 (by rfl) B.range (pa_cons pe_int pa_nil)) (pg_name (i := 2) scLaw.nd rfl (Or.inl rfl))
      (pss_cons (ps_set (i := 3) scLaw.nd rfl (.inl rfl) (pe_lst (pa_cons (pe_tup (pa_cons (pe_call GY hr3 rfl mY kY bY .nil pass0 (pa_cons (pv 1) pa_nil)) (pa_cons pe_non pa_nil))) pa_nil))) <|
       pss_cons (ps_for PassesOwn.never rfl (pi_range1 (by rfl) B.range (pa_cons (pe_call GD hr1 rfl mD kD bD .nil pass0 (pa_cons (pv 1) (pa_cons pe_int pa_nil))) pa_nil)) (pg_name (i := 4) scLaw.nd rfl (Or.inl rfl))
        (pss_one (ps_expr (pe_bm PySem.F.plainAttrs_list PySem.F.slot_list_append PySem.F.type_list_append mt_append (pv 3) (pa_cons (pe_tup (pa_cons (pe_call GY hr3 rfl mY kY bY .nil pass0 (pa_cons (pv 1) pa_nil)) (pa_cons (pe_op op_sub (pe_call GD hr1 rfl mD kD bD .nil pass0 (pa_cons (pv 1) (pa_cons pe_int pa_nil))) pe_int) pa_nil))) pa_nil))))) <|
       pss_cons (ps_if (pt_cmpR op_eq (pv 2) pe_int (nomark _))
        (pss_one (ps_set (i := 3) scLaw.nd rfl (.inl rfl) (pe_op op_cat (pe_slice sl_list (pv 3) po_none (po_some pe_int)) (pe_op op_rep (pe_lst (pa_cons (pe_tup (pa_cons (pe_ix ix_tup (pe_ix ix_list (pv 3) pe_int (fun _ _ => rfl)) pe_int (fun _ _ => rfl)) (pa_cons (pe_op op_sub pe_int pe_int) pa_nil))) pa_nil)) (pe_op op_add pe_int (pe_call GD hr1 rfl mD kD bD .nil pass0 (pa_cons (pv 1) (pa_cons pe_int pa_nil)))))))) pss_nil) <|
       pss_cons (ps_par (i := 5) (j := 6) (by rfl) scLaw.nd rfl rfl (by decide) rfl rfl (pa_cons (pe_ifExp (pt_cmpR op_gt (pe_callB call_len_seq (by rfl) B.len PySem.boot_len (pa_cons (pv 3) pa_nil)) pe_int (nomark _)) pe_str pe_str) (pa_cons (pe_call GS hr2 rfl mS kS bS .nil pass0 (pa_cons (pv 3) pa_nil)) pa_nil)) (by rfl)) <|
       pss_cons (ps_if (PW.pt (pw_or (pt_cmpR op_ne (pe_call GX hr9 rfl mX kX bX .nil pass0 (pa_cons (pv 3) pa_nil)) (pv 5) (nomark _)) (pw_or1 (PW.pt (pw_and (pt_cmpR op_eq (pv 5) pe_str (nomark _)) (pw_and1 (pt_cmpR op_ne (pe_call (E := E0) GW hr8 rfl mW kW bW .nil passL (pa_cons (pv 3) pa_nil)) (pv 6) (nomark _)))))))) (pss_one (ps_ret pe_bl)) pss_nil) <|
       pss_cons (ps_set (i := 7) scLaw.nd rfl (.inl rfl) (pe_call GT hr9 rfl mT kT bT .nil pass0 (pa_cons (pv 6) pa_nil))) <|
       pss_cons (ps_if (pt_cmpR op_ne (pe_callB (call_reprT hgd' h100) (by rfl) B.repr (by decide +kernel) (pa_cons (pv 7) pa_nil)) (pe_callB (call_reprT hgd' h100) (by rfl) B.repr (by decide +kernel) (pa_cons (pe_ifExp (pt_cmpR op_eq (pv 5) pe_str (nomark _)) (pv 3) (pe_tup (pa_cons pe_str (pa_cons pe_int pa_nil)))) pa_nil)) (nomark _)) (pss_one (ps_ret pe_bl)) pss_nil) <|
       pss_cons (ps_if (pt_cmpR op_eq (pv 5) pe_str (nomark _))
        (pss_cons (ps_expr (pe_bm0 PySem.F.plainAttrs_list PySem.F.slot_list_clear PySem.F.type_list_clear mt_clear (pv 7))) <|
         pss_one (ps_if (pt_cmpR op_ne (pe_callB (call_reprT hgd' h100) (by rfl) B.repr (by decide +kernel) (pa_cons (pe_call (E := E0) GR hr8 rfl mR kR bR .nil passL (pa_cons (pv 6) pa_nil)) pa_nil)) (pe_callB (call_reprT hgd' h100) (by rfl) B.repr (by decide +kernel) (pa_cons (pv 3) pa_nil)) (nomark _)) (pss_one (ps_ret pe_bl)) pss_nil)) pss_nil) <|
       pss_cons (ps_if (pt_cmpR op_ne (pe_call GX hr9 rfl mX kX bX .nil pass0 (pa_cons (pe_call GO hr3 rfl mO kO bO .nil pass0 (pa_cons (pv 1) (pa_cons (pv 3) pa_nil))) pa_nil)) pe_str (nomark _)) (pss_one (ps_ret pe_bl)) pss_nil) <|
       pss_cons (ps_for PassesOwn.never rfl (pi_range1 (by rfl) B.range (pa_cons (pe_ifExp (pt_cmpR op_lt (pv 2) pe_int (nomark _)) pe_int pe_int) pa_nil)) (pg_name (i := 8) scLaw.nd rfl (Or.inl rfl))
        (pss_cons (ps_set (i := 9) scLaw.nd rfl (.inl rfl) (pe_call GB hr3 rfl mB kB bB .nil pass0 (pa_cons (pv 1) (pa_cons (pv 6) pa_nil)))) <|
         pss_cons (ps_set (i := 7) scLaw.nd rfl (.inl rfl) (pe_call GU hr3 rfl mU kU bU .nil pass0 (pa_cons (pv 9) pa_nil))) <|
         pss_one (ps_if (pt_cmpR op_ne (pe_callB (call_reprT hgd' h100) (by rfl) B.repr (by decide +kernel) (pa_cons (pe_call GT hr9 rfl mT kT bT .nil pass0 (pa_cons (pv 9) pa_nil)) pa_nil)) (pe_callB (call_reprT hgd' h100) (by rfl) B.repr (by decide +kernel) (pa_cons (pe_ifExp (pt_cmpR op_isN (pv 7) pe_non (nomark _)) (pe_tup (pa_cons pe_str (pa_cons pe_int pa_nil))) (pv 7)) pa_nil)) (nomark _)) (pss_one (ps_ret pe_bl)) pss_nil))) <|
       pss_one (ps_if (pt_cmpR (op_neD h64) (pe_call GT hr9 rfl mT kT bT .nil pass0 (pa_cons (pe_call GK hr2 rfl mK kK bK .nil pass0 (pa_cons (pv 1) (pa_cons (pe_lst (pa_cons pe_non (pa_cons pe_int (pa_cons (pe_lst pa_nil) (pa_cons (pv 3) (pa_cons (pe_tup (pa_cons pe_str pa_nil)) (pa_cons pe_str pa_nil))))))) pa_nil))) pa_nil)) (pe_tup (pa_cons pe_str (pa_cons pe_int pa_nil))) (nomark _)) (pss_one (ps_ret pe_bl)) pss_nil))) <|
    pss_one (ps_ret pe_bl), ?_⟩
  -- BODY
  have sl := PySem.sizeLine_eq
  refine ⟨_, rfl, a, ns, rfl, hS, hl, fun p c H1 pen1 s1 => ?_⟩
  refine ⟨8, rfl, by decide, by decide, for_range (n := 8) (fun i σ H2 => ∃ v2 v3 v4 v5 v6 v7 v8 v9 : Option V, σ = [some (.ref a), some (.ref p), v2, v3, v4, v5, v6, v7, v8, v9] ∧ PenC H2 p c (5000 * i) ∧ Tabs Ps H2)
    ⟨none, none, none, none, none, none, none, none, rfl, pen1.mono (by omega), htab.same s1⟩ ?_ ?_⟩
  rotate_left
  · rintro σ H2 ⟨v2, v3, v4, v5, v6, v7, v8, v9, rfl, pen2, tb2⟩
    exact k H2
  rintro i σ H2 hi ⟨v2, v3, v4, v5, v6, v7, v8, v9, rfl, pen2, tb2⟩
  rw [Int.zero_add]
  -- the chain begins
  refine ⟨_, rfl, p, c, _, rfl, pen2, by omega, fun q s0 Ha penA sbA w0 hq => ?_⟩
  refine ⟨by show 2 ≤ PySem.sizeLine; decide, fun b hb => ⟨by show 1 ≤ PySem.sizeLine; decide, fun L hL => ?_⟩⟩
  have D0 := Bd.first penA (tb2.sb pen2 sbA) w0 hq hb hL
  show tSeq _ _ _ _ (L2.upd (L2.upd Ha b (.tup [V.ref q, V.non])) L (.lst [V.ref b]))
  generalize L2.upd (L2.upd Ha b (.tup [V.ref q, V.non])) L (.lst [V.ref b]) = Hb at D0
  clear hL hb hq sbA penA
  -- its other sayings
  refine ⟨_, rfl, p, c, _, _, rfl, D0.pen, by omega, by decide, by decide, fun v Hc c0 c1 penC sbC => ?_⟩
  obtain ⟨n1, rfl⟩ : ∃ n1 : Nat, v = (n1 : Int) := ⟨v.toNat, by omega⟩
  have D1 : Bd Ps Hc p c L (5000 * (i : Nat) + 20 + 1) s0 [] [V.ref b] := ⟨penC, D0.tb.sb D0.pen sbC, D0.g, sbC.to D0.Lp D0.at_, D0.al.same (zn_sb sbC (by simp)), D0.Lp, D0.Lc⟩
  refine ⟨_, rfl, by omega, by omega, ?_⟩
  rw [Int.toNat_natCast]
  refine for_range (n := n1) (fun j σ H5 => ∃ (v4 : Option V) (l : List (Say × Int)) (xs : List V), σ = [some (.ref a), some (.ref p), some (.int (i : Nat)), some (.ref L), v4, v5, v6, v7, v8, v9] ∧ l.length = j ∧ Bd Ps H5 p c L (5000 * (i : Nat) + 21 + 25 * (j : Nat)) s0 l xs)
    ⟨v4, [], _, rfl, rfl, D1.pen.mono (by omega), D1.tb, D1.g, D1.at_, D1.al, D1.Lp, D1.Lc⟩ ?_ ?_
  · rintro j σ H5 hj ⟨v4, l, xs, rfl, hl', D2⟩
    have xl := D2.al.length
    have cl : (chainP s0 l).length = l.length + 1 := by
      show (l.map _).length + 1 = _
      rw [List.length_map]
    rw [cl] at xl
    refine ⟨_, rfl, .inl ⟨rfl, _, SqL.of D2.at_⟩, _, rfl, p, c, _, rfl, D2.pen, by omega, fun q2 s2 Hd penD sbD w2 hq2 => ?_⟩
    refine ⟨_, rfl, p, c, _, _, rfl, penD, by omega, by decide, by decide, fun v He d0 d1 penE sbE => ?_⟩
    refine ⟨_, _, rfl, rfl, by show 2 ≤ PySem.sizeLine; decide, fun T hT => ?_⟩
    have sbDE := sbD.trans sbE
    have hq3 := sbE.to (penD.tupp hq2) hq2
    have D3 := D2.next sbDE penE hq3 w2 (v := v - 1) (by omega) (by omega) hT
    exact ⟨L, xs, _, rfl, rfl, sameNew hT _ _ _ (sbDE.to D2.Lp D2.at_), by omega, ⟨_, l ++ [(s2, v - 1)], _, rfl, by rw [List.length_append, hl']; rfl, D3.pen.mono (by omega), D3.tb, D3.g, D3.at_, D3.al, D3.Lp, D3.Lc⟩⟩
  rintro σ H5 ⟨v4, l, xs, rfl, hl', D2⟩
  have L0 := D2.lw
  have hg0 := D2.g
  have hLx := D2.at_
  have Lp0 := D2.Lp
  clear D0 D1 D2 sbC penC
  refine ⟨_, rfl, rfl, _, rfl, ite2 (fun z => ?wa) (fun z => ?wb)⟩
  case' wa =>
    have i7 : ((i : Nat) : Int) = 7 := V.int.inj (of_decide_eq_true z)
    obtain ⟨_, b1, q1, vs1, e1, ha1, hb1, hq1, _⟩ := chain_items L0.tr
    cases e1
    refine ⟨_, rfl, 1, rfl, L, _, rfl, SqL.of ha1, fun C hC => ?_⟩
    rw [show cutV (V.ref b1 :: vs1) none (some 1) = [V.ref b1] from by rw [show (some (1 : Int)) = some ((1 : Nat) : Int) from rfl, cut_to (by simp)]; rfl]
    have z1 := sameNew hC (.lst [V.ref b1])
    have B1 := L0.same z1
    have hC1 : L2.upd H5 C (.lst [V.ref b1]) C = some (.lst [V.ref b1]) := upd_same
    have hb2 := z1 _ _ hb1
    have hq2 := z1 _ _ hq1
    have ha2 := z1 _ _ ha1
    generalize L2.upd H5 C (.lst [V.ref b1]) = H6 at z1 B1 hC1 hb2 hq2 ha2 ⊢
    refine ⟨_, rfl, L, _, _, _, rfl, rfl, SqL.of ha2, atI_nat (xs := .ref b1 :: vs1) (j := 0) (v := .ref b1) rfl, b1, _, _, _, rfl, rfl, SqT.of hb2, rfl, _, _, rfl, rfl, by show 2 ≤ PySem.sizeLine; decide, fun T hT => ⟨by show 1 ≤ PySem.sizeLine; decide, fun M hM => ?_⟩⟩
    have z2 := (sameNew hT (.tup [V.ref q1, V.int (0 - 1)])).trans (sameNew hM (.lst [V.ref T]))
    have B2 := B1.same z2
    have hC2 := z2 _ _ hC1
    have hb3 := z2 _ _ hb2
    have hq3 := z2 _ _ hq2
    have hT2 : L2.upd (L2.upd H6 T (.tup [V.ref q1, V.int (0 - 1)])) M (.lst [V.ref T]) T = some (.tup [V.ref q1, V.int (-1)]) := sameNew hM _ _ _ upd_same
    have hM2 : L2.upd (L2.upd H6 T (.tup [V.ref q1, V.int (0 - 1)])) M (.lst [V.ref T]) M = some (.lst [V.ref T]) := upd_same
    have Cp := B1.pen.newp hT
    have Mp := (B1.pen.same (sameNew hT (.tup [V.ref q1, V.int (0 - 1)]))).newp hM
    generalize L2.upd (L2.upd H6 T (.tup [V.ref q1, V.int (0 - 1)])) M (.lst [V.ref T]) = H7 at z2 B2 hC2 hb3 hq3 hT2 hM2 ⊢
    have C0 := L0.pen.newp hC
    refine ⟨_, rfl, p, c, _, _, rfl, B2.pen, by omega, by decide, by decide, fun v3 H8 d0 d1 pen8 sb8 => ⟨_, _, rfl, rfl, ?_⟩⟩
    have hM3 := sb8.to Mp hM2
    have hC3 := sb8.to C0 hC2
    have hT3 := sb8.to Cp hT2
    have hb4 := sb8.to (B2.pen.tupp hb3) hb3
    have hq4 := sb8.to (B2.pen.tupp hq3) hq3
    refine ⟨M, _, _, rfl, rfl, hM3, by show -(2 ^ 63) ≤ (1998 : Int) + v3; omega, by show (1998 : Int) + v3 < 2 ^ 63; omega, by show 1 * (1998 + v3).toNat ≤ _; omega, fun R hR => ?_⟩
    obtain ⟨k5, hk5, k51, k52⟩ : ∃ k5 : Nat, (1998 + v3).toNat = k5 ∧ 1998 ≤ k5 ∧ k5 ≤ 2000 := ⟨_, rfl, by omega, by omega⟩
    rw [hk5]
    have fl : ∀ k : Nat, (List.replicate k [V.ref T]).flatten = List.replicate k (V.ref T) := fun k => by
      induction k with
      | zero => rfl
      | succ k ih => rw [List.replicate_succ, List.flatten_cons, ih]; rfl
    rw [fl]
    have z3 := sameNew hR (.lst (List.replicate k5 (V.ref T)))
    refine ⟨C, R, _, _, rfl, rfl, z3 _ _ hC3, upd_same, by rw [List.length_replicate]; show 1 + k5 ≤ _; omega, fun L5 hL5 => ?_⟩
    have z4 := z3.trans (sameNew hL5 (.lst ([V.ref b1] ++ List.replicate k5 (V.ref T))))
    have L5p := (pen8.same z3).newp hL5
    have L1 : Lw Ps (L2.upd (L2.upd H8 R (.lst (List.replicate k5 (V.ref T)))) L5 (.lst ([V.ref b1] ++ List.replicate k5 (V.ref T)))) p c L5 (5000 * (i : Nat) + 400) s0 (List.replicate k5 (s0, -1)) := Lw.rep ((pen8.same z4).mono (by omega)) ((B2.tb.sb B2.pen sb8).same z4) (z4 _ _ hb4) (z4 _ _ hq4) (z4 _ _ hT3) upd_same L5p
    have hg5 : ChainG s0 (List.replicate k5 (s0, (-1 : Int))) := ⟨hg0.s0, fun r hr => by
      rw [List.eq_of_mem_replicate hr]
      exact ⟨hg0.s0, by show (-1 : Int) ≤ -1; decide, by show (-1 : Int) ≤ 39; decide⟩⟩
    have hn5 : (List.replicate k5 (s0, (-1 : Int))).length ≤ 2000 := by rw [List.length_replicate]; exact k52
    have hs5 : i < 7 → (List.replicate k5 (s0, (-1 : Int))).length ≤ 11 := fun h => by omega
    generalize List.replicate k5 (s0, (-1 : Int)) = l5 at L1 hg5 hn5 hs5
    show tSeq _ _ _ _ (L2.upd (L2.upd H8 R (.lst (List.replicate k5 (V.ref T)))) L5 (.lst ([V.ref b1] ++ List.replicate k5 (V.ref T))))
    generalize L2.upd (L2.upd H8 R (.lst (List.replicate k5 (V.ref T)))) L5 (.lst ([V.ref b1] ++ List.replicate k5 (V.ref T))) = Hm at L1
    clear z1 z2 z3 z4 B1 B2 ha1 hb1 hq1 hC1 hb2 hq2 ha2 hC2 hb3 hq3 hT2 hM2 hM3 hC3 hT3 hb4 hq4 hR hL5 sb8 pen8 hC hT hM L0 hLx
  case' wb =>
    have i7 : i ≠ 7 := fun e => z (decide_eq_true (by rw [e]; rfl))
    obtain ⟨L5, eL5⟩ : ∃ L5, L5 = L := ⟨_, rfl⟩
    subst eL5
    obtain ⟨l5, el5⟩ : ∃ l5, l5 = l := ⟨_, rfl⟩
    subst el5
    obtain ⟨Hm, eHm⟩ : ∃ Hm, Hm = H5 := ⟨_, rfl⟩
    subst eHm
    have L1 : Lw Ps Hm p c L5 (5000 * (i : Nat) + 400) s0 l5 := ⟨L0.pen.mono (by omega), L0.tb, L0.th⟩
    have hg5 := hg0
    have hn5 : l5.length ≤ 2000 := by omega
    have hs5 : i < 7 → l5.length ≤ 11 := fun h => by omega
    clear L0
  all_goals
    obtain ⟨ys, hys, ylen⟩ : ∃ ys, Hm L5 = some (.lst ys) ∧ ys.length = l5.length + 1 := by
      cases L1.tr with
      | lst h al =>
        refine ⟨_, h, ?_⟩
        rw [al.length]
        show (l5.map _).length + 1 = _
        rw [List.length_map]
    have ok5 := chain_okS hg5
    have tl5 := text_len hg5
    have rd5 := read_text hg5
    have zl : ∀ z, PyData.str (textC s0 l5) = .str z → z.length + 2 ≤ PySem.sizeLine := fun z e => by cases e; omega
    have ct : ¬ V.str "chain" = V.str "told" := fun z => by
      have := V.str.inj z
      revert this
      decide +kernel
    by_cases cz : l5.length + 1 ≤ 2000
    case' pos =>
      refine ⟨_, rfl, L5, _, rfl, .inl (SqL.of hys), _, _, rfl, rfl, _, rfl, ite2 (fun e => ?_) (fun _ => ?_)⟩
      · have := of_decide_eq_true e
        omega
      refine ⟨_, rfl, .ref L5, s0, l5, rfl, L1.tr, hg5, hn5, fun H6 s6 => ⟨_, _, rfl, ?_⟩⟩
      have L2' := L1.same s6
      refine ⟨_, rfl, _, _, rfl, L2'.tr, ok5, L2'.tb, .inl ⟨s0, l5, rfl, hg5, cz, fun H7 g7 => ?_⟩⟩
      have L3 := L2'.grs g7
      refine ⟨_, rfl, rfl, _, rfl, ?_⟩
      rw [decide_eq_true rfl]
      refine iteF ⟨_, rfl, rfl, _, rfl, ?_⟩
      rw [decide_eq_true rfl]
      refine iteT ⟨_, rfl, _, _, rfl, L3.tr, ok5, L3.tb, .inl ⟨s0, l5, rfl, hg5, cz, fun H8 g8 => ?_⟩⟩
      have L4 := L3.grs g8
      refine ⟨_, rfl, rfl, _, rfl, ?_⟩
      rw [decide_eq_true rfl]
      refine iteF ?_
      rw [if_pos cz] at rd5
      refine ⟨_, rfl, _, _, rfl, .str _, L4.tb, zl, fun z dd e1 e2 t xs9 H9 g9 ht ht9 t9 => ?_, fun hno => ?_⟩
      rotate_left
      · have q := hno _ rfl
        rw [rd5] at q
        cases q
      cases e1
      rw [rd5] at e2
      cases e2
      have L5' := L4.grs g9
      obtain ⟨r1, r2, r3⟩ := chain_rep hg5 cz
      refine ⟨_, rfl, _, _, rfl, t9, r1, r2, r3, _, rfl, rfl, _, rfl, ?_⟩
      rw [decide_eq_true rfl]
      refine iteT ⟨_, rfl, _, _, rfl, L5'.tr, r1, r2, r3, rfl, _, rfl, ?_⟩
      rw [decide_eq_true rfl]
      refine iteF ⟨_, rfl, rfl, _, rfl, ?_⟩
      rw [decide_eq_true rfl]
      refine iteT ⟨_, rfl, .inl ⟨rfl, _, SqL.of ht9⟩, t, _, rfl, rfl, ht9, ?_⟩
      have L6 := L4.grs (GrS.new (o := .lst []) L4.tb g9 ht (by intro q z; cases z))
      generalize L2.upd H9 t (.lst []) = H10 at L6
      refine ⟨_, rfl, _, _, rfl, .str _, L6.tb, zl, fun z dd e1 e2 t' xs10 H11 g11 ht' ht11 t11 => ?_, fun hno => ?_⟩
      rotate_left
      · have q := hno _ rfl
        rw [rd5] at q
        cases q
      cases e1
      rw [rd5] at e2
      cases e2
      have LZ0 := L6.grs g11
      refine ⟨_, _, rfl, t11, r1, r2, r3, _, rfl, _, _, rfl, LZ0.tr, r1, r2, r3, rfl, _, rfl, ?_⟩
      rw [decide_eq_true rfl]
      refine iteF ?_
      obtain ⟨Hz, eHz⟩ : ∃ Hz, Hz = H11 := ⟨_, rfl⟩
      subst eHz
      have LZ : Lw Ps Hz p c L5 (5000 * (i : Nat) + 400) s0 l5 := LZ0
      clear L2' L3 L4 L5' L6 LZ0 t9 t11 g7 g8 g9 g11
    case' neg =>
      refine ⟨_, rfl, L5, _, rfl, .inl (SqL.of hys), _, _, rfl, rfl, _, rfl, ite2 (fun _ => ?_) (fun e => ?_)⟩
      rotate_left
      · exact (e (decide_eq_true (by omega))).elim
      refine ⟨_, rfl, .ref L5, s0, l5, rfl, L1.tr, hg5, hn5, fun H6 s6 => ⟨_, _, rfl, ?_⟩⟩
      have L2' := L1.same s6
      have fc : formC (.list (chainP s0 l5)) = false := by rw [chain_form hg5, decide_eq_false cz]
      refine ⟨_, rfl, _, _, rfl, L2'.tr, ok5, L2'.tb, .inr ⟨fc, fun H7 g7 => ?_⟩⟩
      have L3 := L2'.grs g7
      refine ⟨_, rfl, rfl, _, rfl, ?_⟩
      rw [decide_eq_true rfl]
      refine iteF ⟨_, rfl, rfl, _, rfl, ?_⟩
      rw [decide_eq_false ct]
      refine iteF ?_
      rw [if_neg cz] at rd5
      refine ⟨_, rfl, _, _, rfl, .str _, L3.tb, zl, fun z dd e1 e2 => ?_, fun _ t H9 g9 ht9 => ?_⟩
      · cases e1
        rw [rd5] at e2
        cases e2
      have L4 := L3.grs g9
      obtain ⟨r1, r2, r3⟩ := row_rep
      refine ⟨_, rfl, _, _, rfl, .tup ht9 (.cons (.str _) (.cons (.int _) .nil)), r1, r2, r3, _, rfl, rfl, _, rfl, ?_⟩
      rw [decide_eq_false ct]
      refine iteF ⟨by show 2 ≤ PySem.sizeLine; decide, fun T hT => ⟨_, _, rfl, .tup upd_same (.cons (.str _) (.cons (.int _) .nil)), r1, r2, r3, rfl, _, rfl, ?_⟩⟩
      rw [decide_eq_true rfl]
      refine iteF ⟨_, rfl, rfl, _, rfl, ?_⟩
      rw [decide_eq_false ct]
      refine iteF ?_
      have LZ : Lw Ps (L2.upd H9 T (.tup [V.str "row", V.int 0])) p c L5 (5000 * (i : Nat) + 400) s0 l5 := L4.same (sameNew hT _)
      show tSeq _ _ _ _ (L2.upd H9 T (.tup [V.str "row", V.int 0]))
      generalize L2.upd H9 T (.tup [V.str "row", V.int 0]) = Hz at LZ
      clear L2' L3 L4 ht9 hT g7 g9
    all_goals
      clear L1 hys
      -- what is none by form
      refine ⟨_, rfl, _, rfl, p, c, L5, _, s0, l5, rfl, LZ.pen, by omega, by rw [← zn_del]; exact LZ.th, hg5, by omega, fun vo Ho peno sbo ov => ?_⟩
      have M0 := LZ.sb sbo peno
      obtain ⟨dO, to_, oo, fo⟩ := ov
      refine ⟨_, dO, rfl, to_.same delSame, oo, M0.tb, .inr ⟨fo, fun H20 g20 => ?_⟩⟩
      have M1 := M0.grs g20
      refine ⟨rfl, _, rfl, ?_⟩
      rw [decide_eq_true rfl]
      refine iteF ⟨_, rfl, _, _, rfl, rfl, _, rfl, ite2 (fun e => ?_) (fun e => ?_)⟩
      · have i6 : i < 7 := by
          have := of_decide_eq_true e
          omega
        have tl2 : (textC s0 l5).length ≤ 2000 := by
          have := hs5 i6
          omega
        refine ⟨4, rfl, by decide, by decide, for_range (n := 4) (fun j σ H21 => ∃ v4 v5 v7 v8 v9 : Option V, σ = [some (.ref a), some (.ref p), some (.int (i : Nat)), some (.ref L5), v4, v5, some (.str (textC s0 l5)), v7, v8, v9] ∧ Lw Ps H21 p c L5 (5000 * (i : Nat) + 401 + 30 * (j : Nat)) s0 l5) ⟨_, _, _, _, _, rfl, ⟨M1.pen.mono (by omega), M1.tb, M1.th⟩⟩ ?_ ?_⟩
        · rintro j σ H21 hj ⟨v4, v5, v7, v8, v9, rfl, M2⟩
          refine ⟨_, rfl, _, rfl, p, c, _, _, rfl, M2.pen, by omega, tl2, fun y H22 pen22 sb22 yl => ?_⟩
          have M3 := M2.sb sb22 pen22
          refine ⟨_, rfl, y, rfl, yl, fun hn H23 s23 => ?_, fun dd hd t H23 s23 t23 => ?_⟩
          · have M4 := M3.same s23
            refine ⟨_, rfl, _, _, rfl, .str y, M4.tb, fun z e => by cases e; omega, fun z dd e1 e2 => ?_, fun _ t' H24 g24 ht24 => ?_⟩
            · cases e1
              rw [hn] at e2
              cases e2
            have M5 := M4.grs g24
            obtain ⟨r1, r2, r3⟩ := row_rep
            refine ⟨_, _, rfl, .tup ht24 (.cons (.str _) (.cons (.int _) .nil)), r1, r2, r3, _, rfl, rfl, _, rfl, ?_⟩
            rw [decide_eq_true rfl]
            refine iteT ⟨by show 2 ≤ PySem.sizeLine; decide, fun T hT => ⟨_, _, rfl, .tup upd_same (.cons (.str _) (.cons (.int _) .nil)), r1, r2, r3, rfl, _, rfl, ?_⟩⟩
            rw [decide_eq_true rfl]
            have M6 := M5.same (sameNew hT (.tup [V.str "row", V.int 0]))
            exact iteF ⟨_, _, _, _, _, rfl, ⟨M6.pen.mono (by omega), M6.tb, M6.th⟩⟩
          · have M4 := M3.same s23
            refine ⟨_, rfl, _, _, rfl, .str y, M4.tb, fun z e => by cases e; omega, fun z dd' e1 e2 t' xs' H24 g24 ht' ht24 t24 => ?_, fun hno => ?_⟩
            rotate_left
            · have q := hno _ rfl
              rw [hd] at q
              cases q
            cases e1
            rw [hd] at e2
            cases e2
            have M5 := M4.grs g24
            obtain ⟨r1, r2, r3⟩ := form_rep (read_form hd)
            refine ⟨_, _, rfl, t24, r1, r2, r3, _, rfl, rfl, _, rfl, ?_⟩
            rw [decide_eq_false (show ¬ V.ref t = V.non by intro z; cases z)]
            refine iteF ⟨_, rfl, _, _, rfl, t23.grs M4.tb g24, r1, r2, r3, rfl, _, rfl, ?_⟩
            rw [decide_eq_true rfl]
            exact iteF ⟨_, _, _, _, _, rfl, ⟨M5.pen.mono (by omega), M5.tb, M5.th⟩⟩
        · rintro σ H21 ⟨v4, v5, v7, v8, v9, rfl, M2⟩
          refine ⟨_, rfl, by show 0 ≤ PySem.sizeLine; decide, fun E1 hE1 => ⟨_, rfl, by show 1 ≤ PySem.sizeLine; decide, fun E2 hE2 => ⟨by show 6 ≤ PySem.sizeLine; decide, fun E3 hE3 => ?_⟩⟩⟩
          have u1 := sameNew hE1 (.lst [])
          have u2 := sameNew hE2 (.tup [V.str "a>=1"])
          have u3 := sameNew hE3 (.lst [V.non, V.int 7, V.ref E1, V.ref L5, V.ref E2, V.str ""])
          have M3 := M2.same (u1.trans (u2.trans u3))
          have M2' := M2.same (u1.trans u2)
          refine .inl ⟨p, c, E3, _, _, rfl, M3.pen, by omega, M2'.pen.newp hE3, .inl upd_same, by simp, by simp, fun x H30 hx pen30 sb30 => ?_⟩
          have E1p := M2.pen.newp hE1
          have E2p := (M2.same u1).pen.newp hE2
          have M4 := M3.sb sb30 pen30
          obtain ⟨d, tx, hz⟩ : ∃ d, Tr H30 x d ∧ ∀ z, d = .str z → z = "" := by
            simp only [List.mem_cons, List.not_mem_nil, or_false] at hx
            rcases hx with rfl | rfl | rfl | rfl | rfl | rfl
            · exact ⟨_, .non, fun z e => by cases e⟩
            · exact ⟨_, .int 7, fun z e => by cases e⟩
            · exact ⟨.list [], .lst (sb30.to E1p (u3 _ _ (u2 _ _ upd_same))) .nil, fun z e => by cases e⟩
            · exact ⟨_, M4.tr, fun z e => by cases e⟩
            · exact ⟨.tuple [.str "a>=1"], .tup (sb30.to E2p (u3 _ _ upd_same)) (.cons (.str _) .nil), fun z e => by cases e⟩
            · exact ⟨_, .str "", fun z e => by cases e; rfl⟩
          refine ⟨x, d, rfl, tx, M4.tb, fun z e => by rw [hz z e]; decide +kernel, fun z dd e1 e2 => ?_, fun _ t H31 g31 ht31 => ?_⟩
          · rw [hz z e1, read_empty] at e2
            cases e2
          have M5 := M4.grs g31
          refine ⟨by show 2 ≤ PySem.sizeLine; decide, fun T hT => ?_⟩
          have u4 := sameNew hT (.tup [V.str "row", V.int 0])
          refine ⟨.tuple [.str "row", .int 0], .tuple [.str "row", .int 0], Tr.dp (.tup (u4 _ _ ht31) (.cons (.str _) (.cons (.int _) .nil))) rfl, Tr.dp (.tup upd_same (.cons (.str _) (.cons (.int _) .nil))) rfl, by decide +kernel, by decide +kernel, _, rfl, ?_⟩
          rw [show PyData.eqv (.tuple [.str "row", .int 0]) (.tuple [.str "row", .int 0]) = true from by decide +kernel]
          exact iteF ⟨_, _, _, _, _, _, _, _, rfl, (M5.same u4).pen.mono (by omega), (M5.same u4).tb⟩
      · refine ⟨0, rfl, by decide, by decide, for_range (n := 0) (fun j σ H21 => ∃ v4 v5 v7 v8 v9 : Option V, σ = [some (.ref a), some (.ref p), some (.int (i : Nat)), some (.ref L5), v4, v5, some (.str (textC s0 l5)), v7, v8, v9] ∧ Lw Ps H21 p c L5 (5000 * (i : Nat) + 401 + 30 * (j : Nat)) s0 l5) ⟨_, _, _, _, _, rfl, ⟨M1.pen.mono (by omega), M1.tb, M1.th⟩⟩ ?_ ?_⟩
        · rintro j σ H21 hj
          omega
        · rintro σ H21 ⟨v4, v5, v7, v8, v9, rfl, M2⟩
          refine ⟨_, rfl, by show 0 ≤ PySem.sizeLine; decide, fun E1 hE1 => ⟨_, rfl, by show 1 ≤ PySem.sizeLine; decide, fun E2 hE2 => ⟨by show 6 ≤ PySem.sizeLine; decide, fun E3 hE3 => ?_⟩⟩⟩
          have u1 := sameNew hE1 (.lst [])
          have u2 := sameNew hE2 (.tup [V.str "a>=1"])
          have u3 := sameNew hE3 (.lst [V.non, V.int 7, V.ref E1, V.ref L5, V.ref E2, V.str ""])
          have M3 := M2.same (u1.trans (u2.trans u3))
          have M2' := M2.same (u1.trans u2)
          refine .inl ⟨p, c, E3, _, _, rfl, M3.pen, by omega, M2'.pen.newp hE3, .inl upd_same, by simp, by simp, fun x H30 hx pen30 sb30 => ?_⟩
          have E1p := M2.pen.newp hE1
          have E2p := (M2.same u1).pen.newp hE2
          have M4 := M3.sb sb30 pen30
          obtain ⟨d, tx, hz⟩ : ∃ d, Tr H30 x d ∧ ∀ z, d = .str z → z = "" := by
            simp only [List.mem_cons, List.not_mem_nil, or_false] at hx
            rcases hx with rfl | rfl | rfl | rfl | rfl | rfl
            · exact ⟨_, .non, fun z e => by cases e⟩
            · exact ⟨_, .int 7, fun z e => by cases e⟩
            · exact ⟨.list [], .lst (sb30.to E1p (u3 _ _ (u2 _ _ upd_same))) .nil, fun z e => by cases e⟩
            · exact ⟨_, M4.tr, fun z e => by cases e⟩
            · exact ⟨.tuple [.str "a>=1"], .tup (sb30.to E2p (u3 _ _ upd_same)) (.cons (.str _) .nil), fun z e => by cases e⟩
            · exact ⟨_, .str "", fun z e => by cases e; rfl⟩
          refine ⟨x, d, rfl, tx, M4.tb, fun z e => by rw [hz z e]; decide +kernel, fun z dd e1 e2 => ?_, fun _ t H31 g31 ht31 => ?_⟩
          · rw [hz z e1, read_empty] at e2
            cases e2
          have M5 := M4.grs g31
          refine ⟨by show 2 ≤ PySem.sizeLine; decide, fun T hT => ?_⟩
          have u4 := sameNew hT (.tup [V.str "row", V.int 0])
          refine ⟨.tuple [.str "row", .int 0], .tuple [.str "row", .int 0], Tr.dp (.tup (u4 _ _ ht31) (.cons (.str _) (.cons (.int _) .nil))) rfl, Tr.dp (.tup upd_same (.cons (.str _) (.cons (.int _) .nil))) rfl, by decide +kernel, by decide +kernel, _, rfl, ?_⟩
          rw [show PyData.eqv (.tuple [.str "row", .int 0]) (.tuple [.str "row", .int 0]) = true from by decide +kernel]
          exact iteF ⟨_, _, _, _, _, _, _, _, rfl, (M5.same u4).pen.mono (by omega), (M5.same u4).tb⟩
end
end Pk
namespace Pk
open PySem L2
/-- a tuple of texts of the module's own top -/
def strsB (K : PySem.W.Frag) (a : Addr) (zs : List Str) : Bool := match K.lookup a with
  | some ⟨.type "tuple", _, .seq its _, _⟩ => decide (its.size ≤ 1000) && decide (its.toList.map absV = zs.map fun z => some (V.str z))
  | _ => false
theorem vals_abs : ∀ {zs : List Str} {us : List Value}, (us.map absV = zs.map fun z => some (V.str z)) → Vals (zs.map V.str) us
  | [], [], _ => .nil
  | [], _ :: _, h => by simp at h
  | _ :: _, [], h => by simp at h
  | z :: zs, u :: us, h => by
    rw [List.map_cons, List.map_cons, List.cons.injEq] at h
    refine .cons ?_ (vals_abs h.2)
    have h1 := h.1
    cases u with
    | str x t =>
      cases h1
      exact ⟨t, rfl⟩
    | _ => cases h1
theorem strsB_ok {K : PySem.W.Frag} {a : Addr} {zs : List Str} (h : strsB K a zs = true) (H : Hp) : SqT K H a (zs.map V.str) := by
  unfold strsB at h
  split at h
  · rename_i dd its n sl e
    rw [Bool.and_eq_true, decide_eq_true_eq, decide_eq_true_eq] at h
    exact .inr ⟨_, its, n, e, rfl, rfl, small h.1, vals_abs h.2⟩
  · cases h
/-- a def's table of code objects, read -/
theorem tab_in {K : PySem.W.Frag} {x : Str} {f c P : Addr} {oc oc2 : Value} {od od2 : Option Addr} {sl sl2 : Array (Option Value)} {fd : FuncData} {vs : Array Value} (a : PySem.W.nsIn K mainGlobals x = some (some (.ref f)))
    (l : K.lookup f = some ⟨oc, od, .func fd, sl⟩) (hc : fd.code = .ref c) (lc : K.lookup c = some ⟨oc2, od2, .fields vs, sl2⟩) (hv : vs[11]? = some (.ref P)) : PySem.W.tabIn K x = some (c, P) := by
  unfold PySem.W.tabIn
  rw [a]
  simp only
  rw [l]
  simp only
  rw [hc]
  simp only
  rw [lc]
  simp only
  rw [hv]
/-- a class with an own __init__, over ValueError -/
def oexB (K : PySem.W.Frag) (C : Addr) : Bool := match K.lookup C with
  | some ⟨.type "type", _, .cls cd, sx⟩ => (match cd.mro, sx.toList with
    | .ref C' :: bm, [_, _, _, _, some (.builtin n), _] => C' == C && (n == "ValueError.__new__" && (!cd.hasDel && (cd.hasDict && PySem.HandSPX.refsVE bm)))
    | _, _ => false)
  | _ => false
theorem oexB_ok {K : PySem.W.Frag} {C : Addr} (h : oexB K C = true) : ∃ nm q N bs bm sn sub ab col dd k0 k1 k2 k3 k5, K.lookup C = some (excClassObj nm q C N bs bm true sn sub ab col dd k0 k1 k2 k3 k5 "ValueError.__new__") ∧ PySem.HandSPX.refsVE bm = true := by
  unfold oexB at h
  split at h
  · rename_i dd cd sl ho
    split at h
    · rename_i Cz bm k0 k1 k2 k3 n k5 hm hs
      simp only [Bool.and_eq_true, beq_iff_eq, Bool.not_eq_true'] at h
      obtain ⟨rfl, rfl, e1, e2, e3⟩ := h
      obtain ⟨nm, bs, mro, N, q, hd, sn, sub, ab, col, del⟩ := cd
      dsimp only at hm e1 e2
      subst hm e1 e2
      have es : sl = #[k0, k1, k2, k3, some (.builtin "ValueError.__new__"), k5] := by
        obtain ⟨l⟩ := sl
        simp only at hs
        rw [hs]
      subst es
      exact ⟨nm, q, N, bs, bm, sn, sub, ab, col, dd, k0, k1, k2, k3, k5, ho, e3⟩
    · cases h
  · cases h
def oexCB (K : PySem.W.Frag) (C : Addr) : Bool := oexB K C && (decide (PySem.W.findIn K (.ref C) "__setattr__" = some (some (.builtin "object.__setattr__"))) && (decide (PySem.W.subIn K (.ref C) (.type "BaseException") = some true) && (decide (PySem.W.typeIn K (.ref C) = some (.type "type")) && PySem.W.keepIn K (.ref C))))
theorem oexCB_ok {K : PySem.W.Frag} {C : Addr} (h : oexCB K C = true) : OexC K C := by
  simp only [oexCB, Bool.and_eq_true, decide_eq_true_eq] at h
  exact ⟨oexB_ok h.1, h.2.1, h.2.2.1, h.2.2.2.1, h.2.2.2.2⟩
/-- all that the walk asks of the classes -/
def clsB (K : PySem.W.Frag) (CL CN fI : Addr) : Bool :=
  (oexCB K CL && (xfB K CL && decide (PySem.W.findIn K (.ref CL) "row" = some none))) && ((decide (PySem.W.typeIn K (.ref fI) = some (.type "function")) && decide (PySem.W.exmOne K (.ref CL) (.ref CL) = some true)) &&
  (decide (PySem.W.exmOne K (.ref CN) (.ref CN) = some true) && (PySem.W.excIn K CN [.type "ValueError", .type "Exception", .type "BaseException", .type "object"] "ValueError.__new__" && (PySem.W.keepIn K (.ref CN) && (decide (PySem.W.subIn K (.ref CN) (.type "BaseException") = some true) && decide (PySem.W.typeIn K (.ref CN) = some (.type "type")))))))
set_option maxHeartbeats 4000000 in
theorem all_mk {l : PySem.W.OpenLaw} {q : Program} {w : World} {K : PySem.W.Frag} {h : Heap} {mg : Str → Option Value} {fa cL cN cD xIsName PIsName xRNum PRNum xForm PForm qS qG : Addr} {esG : Array DictEntry} {nG : Nat} {tG1 tG2 tG3 tG4 : Tok} (X : K.In h) (G : h.Ns mainGlobals mg) (hfa : mg "law" = some (.ref fa))
    {fIsName fRNum fForm fWhole fTupOf fKept fIsSaying fWSay fRSay fASay fALink fShow fRBy fRead fPen fDraw fPick fShSay fLShow fSayL fLNum fLRSay fLDue fLTold fLBent fLWord fLOdd fLaw fNTI : Addr} {odIsName anIsName odRNum anRNum odForm anForm odWhole anWhole odTupOf anTupOf odKept anKept odIsSaying anIsSaying odWSay anWSay odRSay anRSay odASay anASay odALink anALink odShow anShow odRBy anRBy odRead anRead odPen anPen odDraw anDraw odPick anPick odShSay anShSay odLShow anLShow odSayL anSayL odLNum anLNum odLRSay anLRSay odLDue anLDue odLTold anLTold odLBent anLBent odLWord anLWord odLOdd anLOdd odLaw anLaw odNTI anNTI : Option Addr} {slIsName slRNum slForm slWhole slTupOf slKept slIsSaying slWSay slRSay slASay slALink slShow slRBy slRead slPen slDraw slPick slShSay slLShow slSayL slLNum slLRSay slLDue slLTold slLBent slLWord slLOdd slLaw slNTI : Array (Option Value)} {t_great t_long t_rules t_lc t_bi t_mf : Tok}
    {ocIsName kVIsName dcIsName pmIsName ctIsName ocRNum kVRNum dcRNum pmRNum ctRNum ocForm kVForm dcForm pmForm ctForm ocWhole kVWhole dcWhole pmWhole ctWhole ocTupOf kVTupOf dcTupOf pmTupOf ctTupOf ocKept kVKept dcKept pmKept ctKept ocIsSaying kVIsSaying dcIsSaying pmIsSaying ctIsSaying ocWSay kVWSay dcWSay pmWSay ctWSay ocRSay kVRSay dcRSay pmRSay ctRSay ocASay kVASay dcASay pmASay ctASay ocALink kVALink dcALink pmALink ctALink ocShow kVShow dcShow pmShow ctShow ocRBy kVRBy dcRBy pmRBy ctRBy ocRead kVRead dcRead pmRead ctRead ocPen kVPen dcPen pmPen ctPen ocDraw kVDraw dcDraw pmDraw ctDraw ocPick kVPick dcPick pmPick ctPick ocShSay kVShSay dcShSay pmShSay ctShSay ocLShow kVLShow dcLShow pmLShow ctLShow ocSayL kVSayL dcSayL pmSayL ctSayL ocLNum kVLNum dcLNum pmLNum ctLNum ocLRSay kVLRSay dcLRSay pmLRSay ctLRSay ocLDue kVLDue dcLDue pmLDue ctLDue ocLTold kVLTold dcLTold pmLTold ctLTold ocLBent kVLBent dcLBent pmLBent ctLBent ocLWord kVLWord dcLWord pmLWord ctLWord ocLOdd kVLOdd dcLOdd pmLOdd ctLOdd ocLaw kVLaw dcLaw pmLaw ctLaw ocNTI kVNTI dcNTI pmNTI ctNTI cdWhole cdTupOf cdKept cdIsSaying cdWSay cdRSay cdASay cdALink cdShow cdRBy cdRead cdPen cdDraw cdPick cdShSay cdLShow cdSayL cdLNum cdLRSay cdLDue cdLTold cdLBent cdLWord cdLOdd cdLaw cdNTI : Value}
    (gL : PySem.W.nsIn K mainGlobals "NoText" = some (some (.ref cL)))
    (gN : PySem.W.nsIn K mainGlobals "NoChain" = some (some (.ref cN)))
    (gD : PySem.W.nsIn K mainGlobals "DialError" = some (some (.ref cD)))
    (aIsName : PySem.W.nsIn K mainGlobals "is_name" = some (some (.ref fIsName)))
    (lIsName : K.lookup fIsName = some ⟨ocIsName, odIsName, .func (PySem.W.fnOf "is_name" "is_name" (defArgs sIsName) (defBody sIsName) (defScope sIsName) .none kVIsName dcIsName pmIsName anIsName (.ref xIsName) ctIsName), slIsName⟩)
    (cIsName : PySem.W.codeIn K (.ref xIsName) "is_name" = true)
    (kIsName : PySem.W.keepIn K (.ref fIsName) = true)
    (aRNum : PySem.W.nsIn K mainGlobals "read_number" = some (some (.ref fRNum)))
    (lRNum : K.lookup fRNum = some ⟨ocRNum, odRNum, .func (PySem.W.fnOf "read_number" "read_number" (defArgs sRNum) (defBody sRNum) (defScope sRNum) .none kVRNum dcRNum pmRNum anRNum (.ref xRNum) ctRNum), slRNum⟩)
    (cRNum : PySem.W.codeIn K (.ref xRNum) "read_number" = true)
    (kRNum : PySem.W.keepIn K (.ref fRNum) = true)
    (aForm : PySem.W.nsIn K mainGlobals "has_chain_form" = some (some (.ref fForm)))
    (lForm : K.lookup fForm = some ⟨ocForm, odForm, .func (PySem.W.fnOf "has_chain_form" "has_chain_form" (defArgs sForm) (defBody sForm) (defScope sForm) .none kVForm dcForm pmForm anForm (.ref xForm) ctForm), slForm⟩)
    (cForm : PySem.W.codeIn K (.ref xForm) "has_chain_form" = true)
    (kForm : PySem.W.keepIn K (.ref fForm) = true)
    (aWhole : PySem.W.nsIn K mainGlobals "is_whole" = some (some (.ref fWhole)))
    (lWhole : K.lookup fWhole = some ⟨ocWhole, odWhole, .func (PySem.W.fnOf "is_whole" "is_whole" (defArgs sWhole) (defBody sWhole) (defScope sWhole) .none kVWhole dcWhole pmWhole anWhole cdWhole ctWhole), slWhole⟩)
    (cWhole : PySem.W.codeIn K cdWhole "is_whole" = true)
    (kWhole : PySem.W.keepIn K (.ref fWhole) = true)
    (aTupOf : PySem.W.nsIn K mainGlobals "is_tuple_of" = some (some (.ref fTupOf)))
    (lTupOf : K.lookup fTupOf = some ⟨ocTupOf, odTupOf, .func (PySem.W.fnOf "is_tuple_of" "is_tuple_of" (defArgs sTupOf) (defBody sTupOf) (defScope sTupOf) .none kVTupOf dcTupOf pmTupOf anTupOf cdTupOf ctTupOf), slTupOf⟩)
    (cTupOf : PySem.W.codeIn K cdTupOf "is_tuple_of" = true)
    (kTupOf : PySem.W.keepIn K (.ref fTupOf) = true)
    (aKept : PySem.W.nsIn K mainGlobals "kept" = some (some (.ref fKept)))
    (lKept : K.lookup fKept = some ⟨ocKept, odKept, .func (PySem.W.fnOf "kept" "kept" (defArgs sKept) (defBody sKept) (defScope sKept) .none kVKept dcKept pmKept anKept cdKept ctKept), slKept⟩)
    (cKept : PySem.W.codeIn K cdKept "kept" = true)
    (kKept : PySem.W.keepIn K (.ref fKept) = true)
    (aIsSaying : PySem.W.nsIn K mainGlobals "is_saying" = some (some (.ref fIsSaying)))
    (lIsSaying : K.lookup fIsSaying = some ⟨ocIsSaying, odIsSaying, .func (PySem.W.fnOf "is_saying" "is_saying" (defArgs sIsSaying) (defBody sIsSaying) (defScope sIsSaying) .none kVIsSaying dcIsSaying pmIsSaying anIsSaying cdIsSaying ctIsSaying), slIsSaying⟩)
    (cIsSaying : PySem.W.codeIn K cdIsSaying "is_saying" = true)
    (kIsSaying : PySem.W.keepIn K (.ref fIsSaying) = true)
    (aWSay : PySem.W.nsIn K mainGlobals "written_saying" = some (some (.ref fWSay)))
    (lWSay : K.lookup fWSay = some ⟨ocWSay, odWSay, .func (PySem.W.fnOf "written_saying" "written_saying" (defArgs sWSay) (defBody sWSay) (defScope sWSay) .none kVWSay dcWSay pmWSay anWSay cdWSay ctWSay), slWSay⟩)
    (cWSay : PySem.W.codeIn K cdWSay "written_saying" = true)
    (kWSay : PySem.W.keepIn K (.ref fWSay) = true)
    (aRSay : PySem.W.nsIn K mainGlobals "read_saying" = some (some (.ref fRSay)))
    (lRSay : K.lookup fRSay = some ⟨ocRSay, odRSay, .func (PySem.W.fnOf "read_saying" "read_saying" (defArgs sRSay) (defBody sRSay) (defScope sRSay) .none kVRSay dcRSay pmRSay anRSay cdRSay ctRSay), slRSay⟩)
    (cRSay : PySem.W.codeIn K cdRSay "read_saying" = true)
    (kRSay : PySem.W.keepIn K (.ref fRSay) = true)
    (aASay : PySem.W.nsIn K mainGlobals "is_any_saying" = some (some (.ref fASay)))
    (lASay : K.lookup fASay = some ⟨ocASay, odASay, .func (PySem.W.fnOf "is_any_saying" "is_any_saying" (defArgs sASay) (defBody sASay) (defScope sASay) .none kVASay dcASay pmASay anASay cdASay ctASay), slASay⟩)
    (cASay : PySem.W.codeIn K cdASay "is_any_saying" = true)
    (kASay : PySem.W.keepIn K (.ref fASay) = true)
    (aALink : PySem.W.nsIn K mainGlobals "is_any_link" = some (some (.ref fALink)))
    (lALink : K.lookup fALink = some ⟨ocALink, odALink, .func (PySem.W.fnOf "is_any_link" "is_any_link" (defArgs sALink) (defBody sALink) (defScope sALink) .none kVALink dcALink pmALink anALink cdALink ctALink), slALink⟩)
    (cALink : PySem.W.codeIn K cdALink "is_any_link" = true)
    (kALink : PySem.W.keepIn K (.ref fALink) = true)
    (aShow : PySem.W.nsIn K mainGlobals "show_chain" = some (some (.ref fShow)))
    (lShow : K.lookup fShow = some ⟨ocShow, odShow, .func (PySem.W.fnOf "show_chain" "show_chain" (defArgs sShow) (defBody sShow) (defScope sShow) .none kVShow dcShow pmShow anShow cdShow ctShow), slShow⟩)
    (cShow : PySem.W.codeIn K cdShow "show_chain" = true)
    (kShow : PySem.W.keepIn K (.ref fShow) = true)
    (aRBy : PySem.W.nsIn K mainGlobals "read_by" = some (some (.ref fRBy)))
    (lRBy : K.lookup fRBy = some ⟨ocRBy, odRBy, .func (PySem.W.fnOf "read_by" "read_by" (defArgs sRBy) (defBody sRBy) (defScope sRBy) .none kVRBy dcRBy pmRBy anRBy cdRBy ctRBy), slRBy⟩)
    (cRBy : PySem.W.codeIn K cdRBy "read_by" = true)
    (kRBy : PySem.W.keepIn K (.ref fRBy) = true)
    (aRead : PySem.W.nsIn K mainGlobals "read_chain" = some (some (.ref fRead)))
    (lRead : K.lookup fRead = some ⟨ocRead, odRead, .func (PySem.W.fnOf "read_chain" "read_chain" (defArgs sRead) (defBody sRead) (defScope sRead) .none kVRead dcRead pmRead anRead cdRead ctRead), slRead⟩)
    (cRead : PySem.W.codeIn K cdRead "read_chain" = true)
    (kRead : PySem.W.keepIn K (.ref fRead) = true)
    (aPen : PySem.W.nsIn K mainGlobals "_law_pen" = some (some (.ref fPen)))
    (lPen : K.lookup fPen = some ⟨ocPen, odPen, .func (PySem.W.fnOf "_law_pen" "_law_pen" (defArgs sPen) (defBody sPen) (defScope sPen) .none kVPen dcPen pmPen anPen cdPen ctPen), slPen⟩)
    (cPen : PySem.W.codeIn K cdPen "_law_pen" = true)
    (kPen : PySem.W.keepIn K (.ref fPen) = true)
    (aDraw : PySem.W.nsIn K mainGlobals "_law_draw" = some (some (.ref fDraw)))
    (lDraw : K.lookup fDraw = some ⟨ocDraw, odDraw, .func (PySem.W.fnOf "_law_draw" "_law_draw" (defArgs sDraw) (defBody sDraw) (defScope sDraw) .none kVDraw dcDraw pmDraw anDraw cdDraw ctDraw), slDraw⟩)
    (cDraw : PySem.W.codeIn K cdDraw "_law_draw" = true)
    (kDraw : PySem.W.keepIn K (.ref fDraw) = true)
    (aPick : PySem.W.nsIn K mainGlobals "_law_pick" = some (some (.ref fPick)))
    (lPick : K.lookup fPick = some ⟨ocPick, odPick, .func (PySem.W.fnOf "_law_pick" "_law_pick" (defArgs sPick) (defBody sPick) (defScope sPick) .none kVPick dcPick pmPick anPick cdPick ctPick), slPick⟩)
    (cPick : PySem.W.codeIn K cdPick "_law_pick" = true)
    (kPick : PySem.W.keepIn K (.ref fPick) = true)
    (aShSay : PySem.W.nsIn K mainGlobals "_law_show_saying" = some (some (.ref fShSay)))
    (lShSay : K.lookup fShSay = some ⟨ocShSay, odShSay, .func (PySem.W.fnOf "_law_show_saying" "_law_show_saying" (defArgs sLSay) (defBody sLSay) (defScope sLSay) .none kVShSay dcShSay pmShSay anShSay cdShSay ctShSay), slShSay⟩)
    (cShSay : PySem.W.codeIn K cdShSay "_law_show_saying" = true)
    (kShSay : PySem.W.keepIn K (.ref fShSay) = true)
    (aLShow : PySem.W.nsIn K mainGlobals "_law_show_chain" = some (some (.ref fLShow)))
    (lLShow : K.lookup fLShow = some ⟨ocLShow, odLShow, .func (PySem.W.fnOf "_law_show_chain" "_law_show_chain" (defArgs sLShow) (defBody sLShow) (defScope sLShow) .none kVLShow dcLShow pmLShow anLShow cdLShow ctLShow), slLShow⟩)
    (cLShow : PySem.W.codeIn K cdLShow "_law_show_chain" = true)
    (kLShow : PySem.W.keepIn K (.ref fLShow) = true)
    (aSayL : PySem.W.nsIn K mainGlobals "_law_saying" = some (some (.ref fSayL)))
    (lSayL : K.lookup fSayL = some ⟨ocSayL, odSayL, .func (PySem.W.fnOf "_law_saying" "_law_saying" (defArgs sSay) (defBody sSay) (defScope sSay) .none kVSayL dcSayL pmSayL anSayL cdSayL ctSayL), slSayL⟩)
    (cSayL : PySem.W.codeIn K cdSayL "_law_saying" = true)
    (kSayL : PySem.W.keepIn K (.ref fSayL) = true)
    (aLNum : PySem.W.nsIn K mainGlobals "_law_read_number" = some (some (.ref fLNum)))
    (lLNum : K.lookup fLNum = some ⟨ocLNum, odLNum, .func (PySem.W.fnOf "_law_read_number" "_law_read_number" (defArgs sLNum) (defBody sLNum) (defScope sLNum) .none kVLNum dcLNum pmLNum anLNum cdLNum ctLNum), slLNum⟩)
    (cLNum : PySem.W.codeIn K cdLNum "_law_read_number" = true)
    (kLNum : PySem.W.keepIn K (.ref fLNum) = true)
    (aLRSay : PySem.W.nsIn K mainGlobals "_law_read_saying" = some (some (.ref fLRSay)))
    (lLRSay : K.lookup fLRSay = some ⟨ocLRSay, odLRSay, .func (PySem.W.fnOf "_law_read_saying" "_law_read_saying" (defArgs sLRSay) (defBody sLRSay) (defScope sLRSay) .none kVLRSay dcLRSay pmLRSay anLRSay cdLRSay ctLRSay), slLRSay⟩)
    (cLRSay : PySem.W.codeIn K cdLRSay "_law_read_saying" = true)
    (kLRSay : PySem.W.keepIn K (.ref fLRSay) = true)
    (aLDue : PySem.W.nsIn K mainGlobals "_law_due" = some (some (.ref fLDue)))
    (lLDue : K.lookup fLDue = some ⟨ocLDue, odLDue, .func (PySem.W.fnOf "_law_due" "_law_due" (defArgs sLDue) (defBody sLDue) (defScope sLDue) .none kVLDue dcLDue pmLDue anLDue cdLDue ctLDue), slLDue⟩)
    (cLDue : PySem.W.codeIn K cdLDue "_law_due" = true)
    (kLDue : PySem.W.keepIn K (.ref fLDue) = true)
    (aLTold : PySem.W.nsIn K mainGlobals "_law_told" = some (some (.ref fLTold)))
    (lLTold : K.lookup fLTold = some ⟨ocLTold, odLTold, .func (PySem.W.fnOf "_law_told" "_law_told" (defArgs sLTold) (defBody sLTold) (defScope sLTold) .none kVLTold dcLTold pmLTold anLTold cdLTold ctLTold), slLTold⟩)
    (cLTold : PySem.W.codeIn K cdLTold "_law_told" = true)
    (kLTold : PySem.W.keepIn K (.ref fLTold) = true)
    (aLBent : PySem.W.nsIn K mainGlobals "_law_bent" = some (some (.ref fLBent)))
    (lLBent : K.lookup fLBent = some ⟨ocLBent, odLBent, .func (PySem.W.fnOf "_law_bent" "_law_bent" (defArgs sLBent) (defBody sLBent) (defScope sLBent) .none kVLBent dcLBent pmLBent anLBent cdLBent ctLBent), slLBent⟩)
    (cLBent : PySem.W.codeIn K cdLBent "_law_bent" = true)
    (kLBent : PySem.W.keepIn K (.ref fLBent) = true)
    (aLWord : PySem.W.nsIn K mainGlobals "_law_word" = some (some (.ref fLWord)))
    (lLWord : K.lookup fLWord = some ⟨ocLWord, odLWord, .func (PySem.W.fnOf "_law_word" "_law_word" (defArgs sLWord) (defBody sLWord) (defScope sLWord) .none kVLWord dcLWord pmLWord anLWord cdLWord ctLWord), slLWord⟩)
    (cLWord : PySem.W.codeIn K cdLWord "_law_word" = true)
    (kLWord : PySem.W.keepIn K (.ref fLWord) = true)
    (aLOdd : PySem.W.nsIn K mainGlobals "_law_odd" = some (some (.ref fLOdd)))
    (lLOdd : K.lookup fLOdd = some ⟨ocLOdd, odLOdd, .func (PySem.W.fnOf "_law_odd" "_law_odd" (defArgs sLOdd) (defBody sLOdd) (defScope sLOdd) .none kVLOdd dcLOdd pmLOdd anLOdd cdLOdd ctLOdd), slLOdd⟩)
    (cLOdd : PySem.W.codeIn K cdLOdd "_law_odd" = true)
    (kLOdd : PySem.W.keepIn K (.ref fLOdd) = true)
    (aLaw : PySem.W.nsIn K mainGlobals "law" = some (some (.ref fLaw)))
    (lLaw : K.lookup fLaw = some ⟨ocLaw, odLaw, .func (PySem.W.fnOf "law" "law" (defArgs sLaw) (defBody sLaw) (defScope sLaw) .none kVLaw dcLaw pmLaw anLaw cdLaw ctLaw), slLaw⟩)
    (cLaw : PySem.W.codeIn K cdLaw "law" = true)
    (kLaw : PySem.W.keepIn K (.ref fLaw) = true)
    (aNTI : PySem.W.findIn K (.ref cL) "__init__" = some (some (.ref fNTI)))
    (lNTI : K.lookup fNTI = some ⟨ocNTI, odNTI, .func (PySem.W.fnOf "__init__" "NoText.__init__" (defArgs sNTI) (defBody sNTI) (defScope sNTI) .none kVNTI dcNTI pmNTI anNTI cdNTI ctNTI), slNTI⟩)
    (cNTI : PySem.W.codeIn K cdNTI "NoText.__init__" = true)
    (kNTI : PySem.W.keepIn K (.ref fNTI) = true)
    (y_great : PySem.W.nsIn K mainGlobals "GREATEST" = some (some (.int 100000000000000000000 t_great)))
    (y_long : PySem.W.nsIn K mainGlobals "LONGEST_NAME" = some (some (.int 8 t_long)))
    (y_rules : PySem.W.nsIn K mainGlobals "MOST_RULES" = some (some (.int 40 t_rules)))
    (y_lc : PySem.W.nsIn K mainGlobals "LONGEST_CHAIN" = some (some (.int 2000 t_lc)))
    (y_bi : PySem.W.nsIn K mainGlobals "BY_ITSELF" = some (some (.int (-1) t_bi)))
    (y_mf : PySem.W.nsIn K mainGlobals "MOST_FIGURES" = some (some (.int 60 t_mf)))
    (y_S : PySem.W.nsIn K mainGlobals "SORTS" = some (some (.ref qS)))
    (z_isinstance : PySem.W.nsIn K mainGlobals "isinstance" = some none)
    (z_bool : PySem.W.nsIn K mainGlobals "bool" = some none)
    (z_int : PySem.W.nsIn K mainGlobals "int" = some none)
    (z_str : PySem.W.nsIn K mainGlobals "str" = some none)
    (z_tuple : PySem.W.nsIn K mainGlobals "tuple" = some none)
    (z_list : PySem.W.nsIn K mainGlobals "list" = some none)
    (z_len : PySem.W.nsIn K mainGlobals "len" = some none)
    (z_all : PySem.W.nsIn K mainGlobals "all" = some none)
    (z_enumerate : PySem.W.nsIn K mainGlobals "enumerate" = some none)
    (z_abs : PySem.W.nsIn K mainGlobals "abs" = some none)
    (z_dict : PySem.W.nsIn K mainGlobals "dict" = some none)
    (z_range : PySem.W.nsIn K mainGlobals "range" = some none)
    (z_repr : PySem.W.nsIn K mainGlobals "repr" = some none)
    (z_sorted : PySem.W.nsIn K mainGlobals "sorted" = some none)
    (z_min : PySem.W.nsIn K mainGlobals "min" = some none)
    (z_max : PySem.W.nsIn K mainGlobals "max" = some none)
    (z_zip : PySem.W.nsIn K mainGlobals "zip" = some none)
    (yG : PySem.W.nsIn K mainGlobals "SIGNS" = some (some (.ref qG)))
    (lG : K.lookup qG = some ⟨.type "dict", none, .dict esG nG, #[]⟩)
    (sG1 : PySem.W.nsIn K qG "least" = some (some (.str ">=" tG1)))
    (sG2 : PySem.W.nsIn K qG "most" = some (some (.str "<=" tG2)))
    (hTIsName : PySem.W.tabIn K "is_name" = some (xIsName, PIsName))
    (hPIsName : K.lookup PIsName = none)
    (hrIsName : ((PyProof.Rows.recsOf q).find? (fun e => e.name == ("is_name" : Str))).isSome = true)
    (hTRNum : PySem.W.tabIn K "read_number" = some (xRNum, PRNum))
    (hPRNum : K.lookup PRNum = none)
    (hrRNum : ((PyProof.Rows.recsOf q).find? (fun e => e.name == ("read_number" : Str))).isSome = true)
    (hTForm : PySem.W.tabIn K "has_chain_form" = some (xForm, PForm))
    (hPForm : K.lookup PForm = none)
    (hrForm : ((PyProof.Rows.recsOf q).find? (fun e => e.name == ("has_chain_form" : Str))).isSome = true)
    (hchk : strsB K qS sorts2 = true)
    (hcls : clsB K cL cN fNTI = true)
    (kG : PySem.W.KeysLit w.params esG.toList)
    (eG : esG.toList.map (fun e => e.key) = [.str "least" tG3, .str "most" tG4])
    (lowG : (qG == sysModules) = false)
    : ∃ (fd : FuncData) (cs : List (Addr × Addr)), (∀ p ∈ cs, ∃ (y : Str) (dr : PySem.DefRec), (PyProof.Rows.recsOf q).find? (fun e => e.name == y) = some dr ∧ PySem.W.tabIn K y = some p ∧ K.lookup p.2 = none) ∧
      (∀ (s : Shared) (u : Value), BindsTo s fd ⟨[u], []⟩ [("_law_script", u)]) ∧ ∀ bs : Heap, K.In bs → bs.Ns mainGlobals mg → (∀ p ∈ cs, GxR.TabB bs mg p.1 p.2) → FnG l.prog w K mg bs 18 fa fd ["_law_script"] (spLaw K cs) := by
  have e := hfa.symm.trans (PySem.W.mg_of X G aLaw)
  cases e
  obtain ⟨dr1, hdr1⟩ := Option.isSome_iff_exists.mp hrIsName
  obtain ⟨dr2, hdr2⟩ := Option.isSome_iff_exists.mp hrRNum
  obtain ⟨dr3, hdr3⟩ := Option.isSome_iff_exists.mp hrForm
  simp only [clsB, Bool.and_eq_true, decide_eq_true_eq] at hcls
  obtain ⟨⟨u1, u2, u3⟩, ⟨u4, u5⟩, v1, v2, v3, v4, v5⟩ := hcls
  have BH : BltH mg := ⟨PySem.W.mg_none_of X G z_isinstance, PySem.W.mg_none_of X G z_bool, PySem.W.mg_none_of X G z_int, PySem.W.mg_none_of X G z_str, PySem.W.mg_none_of X G z_tuple, PySem.W.mg_none_of X G z_list, PySem.W.mg_none_of X G z_len, PySem.W.mg_none_of X G z_all, PySem.W.mg_none_of X G z_enumerate⟩
  have B : Blt mg := ⟨PySem.W.mg_none_of X G z_len, PySem.W.mg_none_of X G z_abs, PySem.W.mg_none_of X G z_list, PySem.W.mg_none_of X G z_tuple, PySem.W.mg_none_of X G z_dict, PySem.W.mg_none_of X G z_isinstance, PySem.W.mg_none_of X G z_range, PySem.W.mg_none_of X G z_repr, PySem.W.mg_none_of X G z_sorted, PySem.W.mg_none_of X G z_min, PySem.W.mg_none_of X G z_max, PySem.W.mg_none_of X G z_int, PySem.W.mg_none_of X G z_str⟩
  have C : Cons K mg qS qS qS := ⟨⟨_, PySem.W.mg_of X G y_great⟩, ⟨_, PySem.W.mg_of X G y_long⟩, PySem.W.mg_of X G y_S, strsB_ok hchk⟩
  have RN : RefTxt K mg "NoChain" cN := ⟨v2, PySem.W.mg_of X G gN, v3, v4, v5⟩
  have SC : SignC K w mg qG := by
    refine ⟨PySem.W.mg_of X G yG, ⟨esG, nG, _, lG, kG, sG1, ⟨_, rfl⟩⟩, ⟨esG, nG, _, lG, kG, sG2, ⟨_, rfl⟩⟩, lowG, esG, nG, lG, ?_, fun i z hz => ?_⟩
    · have q := congrArg List.length eG
      rw [List.length_map, Array.length_toList] at q
      exact q
    · have q : (esG.toList.map (fun e => e.key))[i]? = ([.str "least" tG3, .str "most" tG4] : List Value)[i]? := by rw [eG]
      rw [List.getElem?_map] at q
      match i, hz with
      | 0, hz =>
        cases hz
        obtain ⟨e, he, ek⟩ := Option.map_eq_some_iff.mp q
        exact ⟨e, _, by rw [← Array.getElem?_toList]; exact he, ek⟩
      | 1, hz =>
        cases hz
        obtain ⟨e, he, ek⟩ := Option.map_eq_some_iff.mp q
        exact ⟨e, _, by rw [← Array.getElem?_toList]; exact he, ek⟩
      | n + 2, hz => simp at hz
  have FIsName := fun_mk (st := sIsName) lIsName cIsName kIsName
  have mIsName := PySem.W.mg_of X G aIsName
  have bIsName := FIsName.binds (ps := ["thing"]) fun _ _ _ _ _ _ us hl => match us, hl with | [_], _ => rfl
  have FRNum := fun_mk (st := sRNum) lRNum cRNum kRNum
  have mRNum := PySem.W.mg_of X G aRNum
  have bRNum := FRNum.binds (ps := ["word"]) fun _ _ _ _ _ _ us hl => match us, hl with | [_], _ => rfl
  have FForm := fun_mk (st := sForm) lForm cForm kForm
  have mForm := PySem.W.mg_of X G aForm
  have bForm := FForm.binds (ps := ["thing"]) fun _ _ _ _ _ _ us hl => match us, hl with | [_], _ => rfl
  have FWhole := fun_mk (st := sWhole) lWhole cWhole kWhole
  have mWhole := PySem.W.mg_of X G aWhole
  have bWhole := FWhole.binds (ps := ["thing", "low", "high"]) fun _ _ _ _ _ _ us hl => match us, hl with | [_, _, _], _ => rfl
  have FTupOf := fun_mk (st := sTupOf) lTupOf cTupOf kTupOf
  have mTupOf := PySem.W.mg_of X G aTupOf
  have bTupOf := FTupOf.binds (ps := ["thing", "least", "most"]) fun _ _ _ _ _ _ us hl => match us, hl with | [_, _, _], _ => rfl
  have FKept := fun_mk (st := sKept) lKept cKept kKept
  have mKept := PySem.W.mg_of X G aKept
  have bKept := FKept.binds (ps := ["thing"]) fun _ _ _ _ _ _ us hl => match us, hl with | [_], _ => rfl
  have FIsSaying := fun_mk (st := sIsSaying) lIsSaying cIsSaying kIsSaying
  have mIsSaying := PySem.W.mg_of X G aIsSaying
  have bIsSaying := FIsSaying.binds (ps := ["names", "thing"]) fun _ _ _ _ _ _ us hl => match us, hl with | [_, _], _ => rfl
  have FWSay := fun_mk (st := sWSay) lWSay cWSay kWSay
  have mWSay := PySem.W.mg_of X G aWSay
  have bWSay := FWSay.binds (ps := ["saying"]) fun _ _ _ _ _ _ us hl => match us, hl with | [_], _ => rfl
  have FRSay := fun_mk (st := sRSay) lRSay cRSay kRSay
  have mRSay := PySem.W.mg_of X G aRSay
  have bRSay := FRSay.binds (ps := ["word"]) fun _ _ _ _ _ _ us hl => match us, hl with | [_], _ => rfl
  have FASay := fun_mk (st := sASay) lASay cASay kASay
  have mASay := PySem.W.mg_of X G aASay
  have bASay := FASay.binds (ps := ["thing"]) fun _ _ _ _ _ _ us hl => match us, hl with | [_], _ => rfl
  have FALink := fun_mk (st := sALink) lALink cALink kALink
  have mALink := PySem.W.mg_of X G aALink
  have bALink := FALink.binds (ps := ["thing"]) fun _ _ _ _ _ _ us hl => match us, hl with | [_], _ => rfl
  have FShow := fun_mk (st := sShow) lShow cShow kShow
  have mShow := PySem.W.mg_of X G aShow
  have bShow := FShow.binds (ps := ["chain"]) fun _ _ _ _ _ _ us hl => match us, hl with | [_], _ => rfl
  have FRBy := fun_mk (st := sRBy) lRBy cRBy kRBy
  have mRBy := PySem.W.mg_of X G aRBy
  have bRBy := FRBy.binds (ps := ["word"]) fun _ _ _ _ _ _ us hl => match us, hl with | [_], _ => rfl
  have FRead := fun_mk (st := sRead) lRead cRead kRead
  have mRead := PySem.W.mg_of X G aRead
  have bRead := FRead.binds (ps := ["text"]) fun _ _ _ _ _ _ us hl => match us, hl with | [_], _ => rfl
  have FPen := fun_mk (st := sPen) lPen cPen kPen
  have mPen := PySem.W.mg_of X G aPen
  have bPen := FPen.binds (ps := ["_law_script"]) fun _ _ _ _ _ _ us hl => match us, hl with | [_], _ => rfl
  have FDraw := fun_mk (st := sDraw) lDraw cDraw kDraw
  have mDraw := PySem.W.mg_of X G aDraw
  have bDraw := FDraw.binds (ps := ["_law_pen_here", "_law_many"]) fun _ _ _ _ _ _ us hl => match us, hl with | [_, _], _ => rfl
  have FPick := fun_mk (st := sPick) lPick cPick kPick
  have mPick := PySem.W.mg_of X G aPick
  have bPick := FPick.binds (ps := ["_law_pen_here", "_law_lot"]) fun _ _ _ _ _ _ us hl => match us, hl with | [_, _], _ => rfl
  have FShSay := fun_mk (st := sLSay) lShSay cShSay kShSay
  have mShSay := PySem.W.mg_of X G aShSay
  have bShSay := FShSay.binds (ps := ["_law_saying_here"]) fun _ _ _ _ _ _ us hl => match us, hl with | [_], _ => rfl
  have FLShow := fun_mk (st := sLShow) lLShow cLShow kLShow
  have mLShow := PySem.W.mg_of X G aLShow
  have bLShow := FLShow.binds (ps := ["_law_chain"]) fun _ _ _ _ _ _ us hl => match us, hl with | [_], _ => rfl
  have FSayL := fun_mk (st := sSay) lSayL cSayL kSayL
  have mSayL := PySem.W.mg_of X G aSayL
  have bSayL := FSayL.binds (ps := ["_law_pen_here"]) fun _ _ _ _ _ _ us hl => match us, hl with | [_], _ => rfl
  have FLNum := fun_mk (st := sLNum) lLNum cLNum kLNum
  have mLNum := PySem.W.mg_of X G aLNum
  have bLNum := FLNum.binds (ps := ["_law_text"]) fun _ _ _ _ _ _ us hl => match us, hl with | [_], _ => rfl
  have FLRSay := fun_mk (st := sLRSay) lLRSay cLRSay kLRSay
  have mLRSay := PySem.W.mg_of X G aLRSay
  have bLRSay := FLRSay.binds (ps := ["_law_text"]) fun _ _ _ _ _ _ us hl => match us, hl with | [_], _ => rfl
  have FLDue := fun_mk (st := sLDue) lLDue cLDue kLDue
  have mLDue := PySem.W.mg_of X G aLDue
  have bLDue := FLDue.binds (ps := ["_law_text"]) fun _ _ _ _ _ _ us hl => match us, hl with | [_], _ => rfl
  have FLTold := fun_mk (st := sLTold) lLTold cLTold kLTold
  have mLTold := PySem.W.mg_of X G aLTold
  have bLTold := FLTold.binds (ps := ["_law_text"]) fun _ _ _ _ _ _ us hl => match us, hl with | [_], _ => rfl
  have FLBent := fun_mk (st := sLBent) lLBent cLBent kLBent
  have mLBent := PySem.W.mg_of X G aLBent
  have bLBent := FLBent.binds (ps := ["_law_pen_here", "_law_text"]) fun _ _ _ _ _ _ us hl => match us, hl with | [_, _], _ => rfl
  have FLWord := fun_mk (st := sLWord) lLWord cLWord kLWord
  have mLWord := PySem.W.mg_of X G aLWord
  have bLWord := FLWord.binds (ps := ["_law_thing"]) fun _ _ _ _ _ _ us hl => match us, hl with | [_], _ => rfl
  have FLOdd := fun_mk (st := sLOdd) lLOdd cLOdd kLOdd
  have mLOdd := PySem.W.mg_of X G aLOdd
  have bLOdd := FLOdd.binds (ps := ["_law_pen_here", "_law_chain"]) fun _ _ _ _ _ _ us hl => match us, hl with | [_, _], _ => rfl
  have FLaw := fun_mk (st := sLaw) lLaw cLaw kLaw
  have mLaw := PySem.W.mg_of X G aLaw
  have FNTI := fun_mk (st := sNTI) lNTI cNTI kNTI
  have bNTI := FNTI.binds (ps := ["self", "row"]) fun _ _ _ _ _ _ us hl => match us, hl with | [_, _], _ => rfl
  refine ⟨PySem.W.fnOf "law" "law" (defArgs sLaw) (defBody sLaw) (defScope sLaw) .none kVLaw dcLaw pmLaw anLaw cdLaw ctLaw, [(xIsName, PIsName), (xRNum, PRNum), (xForm, PForm)], fun p hp => ?_, fun s v => .of_eq rfl, fun bs _ _ htb => ?_⟩
  · rcases List.mem_cons.mp hp with e | hp
    · rw [e]
      exact ⟨"is_name", dr1, hdr1, hTIsName, hPIsName⟩
    · rcases List.mem_cons.mp hp with e | e
      · rw [e]
        exact ⟨"read_number", dr2, hdr2, hTRNum, hPRNum⟩
      · rw [List.mem_singleton.mp e]
        exact ⟨"has_chain_form", dr3, hdr3, hTForm, hPForm⟩
  have TB := htb (xIsName, PIsName) (by simp)
  have TB2 := htb (xRNum, PRNum) (by simp)
  have TB3 := htb (xForm, PForm) (by simp)
  have n1 : PIsName ∈ [PIsName, PRNum, PForm] := by simp
  have n2 : PRNum ∈ [PIsName, PRNum, PForm] := by simp
  have n3 : PForm ∈ [PIsName, PRNum, PForm] := by simp
  have oWhole := ok_whole (P := l.prog) (w := w) (base := bs) FWhole BH
  have oTupOf := ok_tupOf (P := l.prog) (w := w) (base := bs) FTupOf BH
  have oIsName := ok_isName (P := l.prog) (w := w) (base := bs) lIsName cIsName TB C BH
  have oRNum := ok_rnum (P := l.prog) (w := w) (base := bs) lRNum cRNum TB2 BH ⟨_, PySem.W.mg_of X G y_mf⟩
  have oIsSaying := ok_isSaying FIsSaying oWhole bWhole kWhole mWhole oTupOf bTupOf kTupOf mTupOf C
  have oKept := ok_keptS (P := l.prog) (w := w) (base := bs) (mg := mg) FKept BH B.dict
  have oNTI := ok_nti FNTI (oexCB_ok u1) u3 oKept bKept kKept mKept
  have oWSay := ok_wsay (P := l.prog) (w := w) (base := bs) (mg := mg) FWSay SC
  have oRSay := ok_rsay n2 n1 FRSay SC oRNum bRNum kRNum mRNum oIsName bIsName kIsName mIsName
  have oRBy := ok_rby n2 FRBy ⟨_, PySem.W.mg_of X G y_bi⟩ oRNum bRNum kRNum mRNum
  have oASay := ok_asay n1 FASay oTupOf bTupOf kTupOf mTupOf oIsName bIsName kIsName mIsName oIsSaying bIsSaying kIsSaying mIsSaying
  have oALink := ok_alink FALink ⟨_, PySem.W.mg_of X G y_bi⟩ ⟨_, PySem.W.mg_of X G y_rules⟩ oTupOf bTupOf kTupOf mTupOf oASay bASay kASay mASay oWhole bWhole kWhole mWhole
  have oForm := ok_form n3 lForm cForm TB3 BH ⟨_, PySem.W.mg_of X G y_lc⟩ oTupOf bTupOf kTupOf mTupOf oASay bASay kASay mASay oALink bALink kALink mALink
  have oShow := ok_show FShow RN ⟨_, PySem.W.mg_of X G y_bi⟩ B.str oForm bForm kForm mForm oWSay bWSay kWSay mWSay
  have oRead := ok_read FRead BH (PySem.W.mg_none_of X G z_zip) (oexCB_ok u1) aNTI u4 oNTI bNTI (PySem.W.mg_of X G gL) oRSay bRSay kRSay mRSay oRBy bRBy kRBy mRBy oForm bForm kForm mForm
  have oPen := ok_pen (P := l.prog) (w := w) (base := bs) (mg := mg) FPen B
  have oDraw := (ok_draw (P := l.prog) (w := w) (base := bs) (mg := mg) FDraw B).imp draw_imp
  have oPick := ok_pick FPick oDraw bDraw kDraw mDraw B
  have oShSay := ok_shSay (P := l.prog) (w := w) (base := bs) (mg := mg) FShSay B.str
  have oLShow := ok_lshow FLShow B.str oShSay bShSay kShSay mShSay
  have oSayL := ok_lsayd FSayL B oDraw bDraw kDraw mDraw oPick bPick kPick mPick
  have oLNum := ok_lnum (P := l.prog) (w := w) (base := bs) (mg := mg) FLNum BH
  have oLRSay := ok_lrsay FLRSay BH B.abs oLNum bLNum kLNum mLNum
  have oLDue := ok_ldue FLDue BH B.range oLNum bLNum kLNum mLNum oLRSay bLRSay kLRSay mLRSay
  have oLTold := ok_ltold FLTold (xfB_ok u2) u3 (PySem.W.mg_of X G gL) u5 oRead bRead kRead mRead
  have oLBent := ok_lbent FLBent B oDraw bDraw kDraw mDraw oPick bPick kPick mPick
  have oLWord := ok_lword FLWord (PySem.W.mg_of X G gN) (PySem.W.mg_of X G gD) v1 oShow bShow kShow mShow
  have oLOdd := ok_lodd FLOdd B oPick bPick kPick mPick
  exact ok_law (Ps := [PIsName, PRNum, PForm]) (CN := cN) (CT := cL) rfl FLaw ⟨⟨_, _, oPen, bPen, kPen, mPen⟩, ⟨_, _, oDraw, bDraw, kDraw, mDraw⟩, ⟨_, _, oPick, bPick, kPick, mPick⟩, ⟨_, _, oSayL, bSayL, kSayL, mSayL⟩, ⟨_, _, oLShow, bLShow, kLShow, mLShow⟩, ⟨_, _, oLDue, bLDue, kLDue, mLDue⟩, ⟨_, _, oLTold, bLTold, kLTold, mLTold⟩, ⟨_, _, oLBent, bLBent, kLBent, mLBent⟩, ⟨_, _, oLWord, bLWord, kLWord, mLWord⟩, ⟨_, _, oLOdd, bLOdd, kLOdd, mLOdd⟩, ⟨_, _, oShow, bShow, kShow, mShow⟩, ⟨_, _, oRead, bRead, kRead, mRead⟩⟩ B
end Pk
section
open PySem PySem.W PyProof.Rows
set_option maxHeartbeats 0
open_top hdK71 for PySem.Challenge.rw_pawldials_k71_chains_written_and_read
end
open PySem PySem.W PyProof.Rows
set_option maxRecDepth 100000 in
set_option maxHeartbeats 0 in
theorem PySem.Challenge.cw_pawldials_k71_chains_written_and_read_holds : PySem.Challenge.rw_pawldials_k71_chains_written_and_read.Holds := by
  refine hdK71 ?_
  k_fill
  refine Pk.walkGT (l := PySem.Challenge.rw_pawldials_k71_chains_written_and_read) (n := 63) (k := 18) (x := "_law_script") (sp := Pk.spLaw) ⟨rfl, by decide, by decide⟩ rfl (by decide) rfl (fun w h Y => PySem.W.kIn_of Y) ?G (fun K cs H a ns hl hT hS => ⟨a, ns, rfl, hS, hl, fun p hp => ⟨#[], hT p hp, trivial⟩, fun _ => rfl⟩)
  case G =>
    intro w mg fa h KX G hmg
    refine' Pk.all_mk KX G hmg ?gL ?gN ?gD ?aIsName ?lIsName ?cIsName ?kIsName ?aRNum ?lRNum ?cRNum ?kRNum ?aForm ?lForm ?cForm ?kForm ?aWhole ?lWhole ?cWhole ?kWhole ?aTupOf ?lTupOf ?cTupOf ?kTupOf ?aKept ?lKept ?cKept ?kKept ?aIsSaying ?lIsSaying ?cIsSaying ?kIsSaying ?aWSay ?lWSay ?cWSay ?kWSay ?aRSay ?lRSay ?cRSay ?kRSay ?aASay ?lASay ?cASay ?kASay ?aALink ?lALink ?cALink ?kALink ?aShow ?lShow ?cShow ?kShow ?aRBy ?lRBy ?cRBy ?kRBy ?aRead ?lRead ?cRead ?kRead ?aPen ?lPen ?cPen ?kPen ?aDraw ?lDraw ?cDraw ?kDraw ?aPick ?lPick ?cPick ?kPick ?aShSay ?lShSay ?cShSay ?kShSay ?aLShow ?lLShow ?cLShow ?kLShow ?aSayL ?lSayL ?cSayL ?kSayL ?aLNum ?lLNum ?cLNum ?kLNum ?aLRSay ?lLRSay ?cLRSay ?kLRSay ?aLDue ?lLDue ?cLDue ?kLDue ?aLTold ?lLTold ?cLTold ?kLTold ?aLBent ?lLBent ?cLBent ?kLBent ?aLWord ?lLWord ?cLWord ?kLWord ?aLOdd ?lLOdd ?cLOdd ?kLOdd ?aLaw ?lLaw ?cLaw ?kLaw ?aNTI ?lNTI ?cNTI ?kNTI ?y_great ?y_long ?y_rules ?y_lc ?y_bi ?y_mf ?y_S ?z_isinstance ?z_bool ?z_int ?z_str ?z_tuple ?z_list ?z_len ?z_all ?z_enumerate ?z_abs ?z_dict ?z_range ?z_repr ?z_sorted ?z_min ?z_max ?z_zip ?yG ?lG ?sG1 ?sG2 ?hTIsName ?hPIsName ?hrIsName ?hTRNum ?hPRNum ?hrRNum ?hTForm ?hPForm ?hrForm ?hchk ?hcls ?kG ?eG ?lowG
    (case gL => k_is); (case gN => k_is); (case gD => k_is); (case aIsName => k_is); (case lIsName => k_is); (case cIsName => k_is); (case kIsName => k_is); (case aRNum => k_is)
    (case lRNum => k_is); (case cRNum => k_is); (case kRNum => k_is); (case aForm => k_is); (case lForm => k_is); (case cForm => k_is); (case kForm => k_is); (case aWhole => k_is)
    (case lWhole => k_is); (case cWhole => k_is); (case kWhole => k_is); (case aTupOf => k_is); (case lTupOf => k_is); (case cTupOf => k_is); (case kTupOf => k_is); (case aKept => k_is)
    (case lKept => k_is); (case cKept => k_is); (case kKept => k_is); (case aIsSaying => k_is); (case lIsSaying => k_is); (case cIsSaying => k_is); (case kIsSaying => k_is); (case aWSay => k_is)
    (case lWSay => k_is); (case cWSay => k_is); (case kWSay => k_is); (case aRSay => k_is); (case lRSay => k_is); (case cRSay => k_is); (case kRSay => k_is); (case aASay => k_is)
    (case lASay => k_is); (case cASay => k_is); (case kASay => k_is); (case aALink => k_is); (case lALink => k_is); (case cALink => k_is); (case kALink => k_is); (case aShow => k_is)
    (case lShow => k_is); (case cShow => k_is); (case kShow => k_is); (case aRBy => k_is); (case lRBy => k_is); (case cRBy => k_is); (case kRBy => k_is); (case aRead => k_is)
    (case lRead => k_is); (case cRead => k_is); (case kRead => k_is); (case aPen => k_is); (case lPen => k_is); (case cPen => k_is); (case kPen => k_is); (case aDraw => k_is)
    (case lDraw => k_is); (case cDraw => k_is); (case kDraw => k_is); (case aPick => k_is); (case lPick => k_is); (case cPick => k_is); (case kPick => k_is); (case aShSay => k_is)
    (case lShSay => k_is); (case cShSay => k_is); (case kShSay => k_is); (case aLShow => k_is); (case lLShow => k_is); (case cLShow => k_is); (case kLShow => k_is); (case aSayL => k_is)
    (case lSayL => k_is); (case cSayL => k_is); (case kSayL => k_is); (case aLNum => k_is); (case lLNum => k_is); (case cLNum => k_is); (case kLNum => k_is); (case aLRSay => k_is)
    (case lLRSay => k_is); (case cLRSay => k_is); (case kLRSay => k_is); (case aLDue => k_is); (case lLDue => k_is); (case cLDue => k_is); (case kLDue => k_is); (case aLTold => k_is)
    (case lLTold => k_is); (case cLTold => k_is); (case kLTold => k_is); (case aLBent => k_is); (case lLBent => k_is); (case cLBent => k_is); (case kLBent => k_is); (case aLWord => k_is)
    (case lLWord => k_is); (case cLWord => k_is); (case kLWord => k_is); (case aLOdd => k_is); (case lLOdd => k_is); (case cLOdd => k_is); (case kLOdd => k_is); (case aLaw => k_is)
    (case lLaw => k_is); (case cLaw => k_is); (case kLaw => k_is); (case aNTI => k_is); (case lNTI => k_is); (case cNTI => k_is); (case kNTI => k_is); (case y_great => k_is)
    (case y_long => k_is); (case y_rules => k_is); (case y_lc => k_is); (case y_bi => k_is); (case y_mf => k_is); (case y_S => k_is); (case z_isinstance => k_is); (case z_bool => k_is)
    (case z_int => k_is); (case z_str => k_is); (case z_tuple => k_is); (case z_list => k_is); (case z_len => k_is); (case z_all => k_is); (case z_enumerate => k_is); (case z_abs => k_is)
    (case z_dict => k_is); (case z_range => k_is); (case z_repr => k_is); (case z_sorted => k_is); (case z_min => k_is); (case z_max => k_is); (case z_zip => k_is); (case yG => k_is)
    (case lG => k_is); (case sG1 => k_is); (case sG2 => k_is)
    (case hTIsName => refine' Pk.tab_in ?a ?l ?hc ?lc ?hv; (case a => k_is); (case l => k_is); (case hc => rfl); (case lc => k_is); (case hv => rfl))
    (case hPIsName => kernel_rfl)
    (case hrIsName => kernel_rfl)
    (case hTRNum => refine' Pk.tab_in ?a ?l ?hc ?lc ?hv; (case a => k_is); (case l => k_is); (case hc => rfl); (case lc => k_is); (case hv => rfl))
    (case hPRNum => kernel_rfl)
    (case hrRNum => kernel_rfl)
    (case hTForm => refine' Pk.tab_in ?a ?l ?hc ?lc ?hv; (case a => k_is); (case l => k_is); (case hc => rfl); (case lc => k_is); (case hv => rfl))
    (case hPForm => kernel_rfl)
    (case hrForm => kernel_rfl)
    (case hchk => kernel_rfl)
    (case hcls => kernel_rfl)
    (case kG => exact ⟨⟨_, _, rfl, rfl⟩, ⟨_, _, rfl, rfl⟩, trivial⟩)
    (case eG => rfl)
    (case lowG => kernel_rfl)
