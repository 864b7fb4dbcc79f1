import PyProof.Rows.All
import Wide.All
import OpenK.AllK
import Wide.FinOn
import HandS.ForMost
import HandS.Exc
import HandS.ExcOwn
import HandS.ExcValue
import HandS.ExcInit
import HandS.ExcField
import HandS.ExcIs
import HandS.IsInst
import HandS.DictComp
import KE.KExcIs
import KE.KIsAll
import PyProof.ReprRoads
import PyProof.ExcFactsAll.LookupError
import PyProof.ExcFactsAll.RuntimeError
import PyProof.ExcFactsAll.ValueError
import PyProof.EqAt
import PyProof.EqKinds
import PyProof.FactsAll.subtypes_3
import PyProof.FactsAll.subtypes_4
import PyProof.FactsAll.dict_1
import PyProof.CallFns
import PyProof.Draws
import PyProof.EnumMake
import PyProof.TupleIter
import HandS.AnyAll
import HandS.EndBits
import HandS.Lambda
import KE.KLam
import HandS.Style
import HandS.TupAny
import HandS.More
import HandS.Deep
import PyProof.Rows.IntBool
import PyProof.CallStr
import KE.KDictZip
import KE.GoesZip
import HandS.Zip
import HandS.TryOnly
import HandS.Walk
import PyProof.ReprBulk
import PyProof.Rows.StrMeet
import PyProof.Rows.ReprOcc
import PyProof.GenCompD
import HandS.Flow
import HandS.WordsExc
import PySem.Challenge.RW_pawldials_k03_wishes_met
set_option Elab.async false
set_option maxRecDepth 100000
/-! Own rules: errors that are held as values, and data of any depth with dicts in it. -/
namespace Pk
open PySem L2 PySem.Spec PyProof.Rows

theorem sameNew {H : Hp} {p : Addr} (h : H p = none) (o : HO) : Same H (upd H p o) := fun b u q => by rw [upd_ne (ne_of_none q h)]; exact q

/-! ### errors as values -/
/-- at a: an error of the class at C, with these fields -/
def Exq (H : Hp) (a C : Addr) (fs : List (Str × V)) : Prop :=
  (fs = [] ∧ H a = some (ExO (.ref C) a)) ∨ ∃ d, H a = some (exo a C (some d)) ∧ H d = some (exd d fs)
theorem Exq.same {H H' : Hp} {a C : Addr} {fs : List (Str × V)} (s : Same H H') (e : Exq H a C fs) : Exq H' a C fs := by
  rcases e with ⟨h, e⟩ | ⟨d, e, f⟩
  · exact .inl ⟨h, s _ _ e⟩
  · exact .inr ⟨d, s _ _ e, s _ _ f⟩
section
variable {X : Cx}
/-- C(), a class without an own __init__ -/
theorem pe_exq0 {C : Addr} {bmB : List Value} {B newId initId : String} {x : Str} {p pos : Pos} (F : ExcBaseFacts B newId initId bmB) (q : PySem.W.excIn X.K C bmB newId = true) (gC : X.mg x = some (.ref C)) (kC : PySem.W.keepIn X.K (.ref C) = true) (hg : Gl X x)
    (hdg : (x == ("__debug__" : Str)) = false := by decide) :
    PE X (.Call (.Name x p) [] [] pos) (fun σ H Q => ∀ a H', Same H H' → Exq H' a C [] → Q (.ref a) H') := by
  refine ⟨fun pz s σ H Q I h => ?_⟩
  refine wpAny_Call_Name_kw (ld_glob I hg gC ?_ hdg)
  refine PySem.W.callWith_K0 I.kIn kC ?_
  show wpAny _ _ (call (.ref C) []) _ _ _
  obtain ⟨bm, N, n0, qn, bs, hdct, sn, sub, ab, col, dd, k0, k1, k2, k3, k5, mN, hcl0, hN, hni, TT⟩ := exc_obj I.kIn q
  refine wpAny_call_exc_subT F TT hcl0 hN hni (fun h' a hm => ?_) (by show 0 ≤ sizeLine; omega)
  have hn : H a = none := I.hok.gone hm.new
  obtain ⟨t, htt, _, _⟩ := hm.there
  exact ⟨.ref a, upd H a (ExO (.ref C) a), I.laidN hm.keeps hm.new hn (exO_ok htt ⟨rfl, rfl⟩ rfl rfl rfl (show 4 < 6 by decide)), rfl, h a _ (sameNew hn _) (.inl ⟨rfl, upd_same⟩)⟩
/-- C(e, ..), C's own __init__ keeping sp; the error is the value -/
def tMkV (C : Addr) (sp : Sp) (ta : TA) : TE := fun σ H Q => ta σ H fun vs Ha => vs.length ≤ 1000 ∧ ∀ a, Ha a = none → sp (.ref a :: vs) (upd Ha a (exo a C none)) (fun v H2 => v = .non ∧ Q (.ref a) H2) (fun _ _ _ => False)
theorem pe_mkV {e : Expr} {es : List Expr} {ta : TA} {p pos : Pos} {CX : CXT} {x : Str} {C fI : Addr} {k : Nat} {fd : FuncData} {ps : List Str} {sp : Sp} (TT : OexC X.K C) (iC : PySem.W.findIn X.K (.ref C) "__init__" = some (some (.ref fI))) (tI : PySem.W.typeIn X.K (.ref fI) = some (.type "function"))
    (F1 : FnOk X.prog X.w X.K X.mg X.base CX k fI fd ps sp) (hr : Room (k + 1) X.A) (hb : Binds X.K fd ps []) (hx : Passes CX X (fun _ _ _ => False)) (hg : Gl X x) (hm : X.mg x = some (.ref C)) (ha : PA X (e :: es) ta)
    (hdg : (x == ("__debug__" : Str)) = false := by decide) (he : starEach (e :: es) X.env = (false, eval e X.env) :: starEach es X.env := by rfl) (hpz : (backTo pos (starEach es X.env)).any (·.1) = false := by rfl) :
    PE X (.Call (.Name x p) (e :: es) [] pos) (tMkV C sp ta) := by
  refine ⟨fun pz s σ H Q I h => ?_⟩
  obtain ⟨n0, q, N, bs, bm, sn, sub, ab, col, dd, k0, k1, k2, k3, k5, hcl0, hbq⟩ := TT.cls
  refine wpAny_Call_Name_kw (ld_glob I hg hm ?_ hdg)
  refine PySem.W.callWith_K (h₀ := X.base) I.ok.mod.kin TT.kC (thn (ha.run pos pz s σ H _ I h) fun ua sa ⟨vs, Ha, Ia, ra, hy, qa⟩ => ⟨Ia.kIn, ?_⟩) he hpz
  show wpAny _ _ (call (.ref C) ua) _ _ _
  obtain ⟨hq, g, dw, tz, oz⟩ := sa
  have hsa : hq.objs.size ≤ hq.objs.size + 1 := Nat.le_succ _
  have hn : Ha (hq.objs.size + 1) = none := Ia.hok.fresh hsa
  have hf0 := qa (hq.objs.size + 1) hn
  have kq : ∀ b o, hq.get? b = some o → ((hq.push (PySem.W.kdv_tup ua)).push (PySem.HandSPX.excO C hq.objs.size)).get? b = some o := fun b o e => Heap.get?_push_of_some _ (Heap.get?_push_of_some _ e)
  have hgq : ((hq.push (PySem.W.kdv_tup ua)).push (PySem.HandSPX.excO C hq.objs.size)).get? (hq.objs.size + 1) = some (PySem.HandSPX.excO C hq.objs.size) := by heap_get
  have Ib : Inv X pz σ (upd Ha (hq.objs.size + 1) (exo (hq.objs.size + 1) C none)) ⟨(hq.push (PySem.W.kdv_tup ua)).push (PySem.HandSPX.excO C hq.objs.size), g, dw, tz, oz⟩ :=
    Ia.laid (t' := tz) (a := hq.objs.size + 1) (o := exo (hq.objs.size + 1) C none) (h' := (hq.push (PySem.W.kdv_tup ua)).push (PySem.HandSPX.excO C hq.objs.size)) kq hsa (exo_ok hgq)
  have rb : Vals (V.ref (hq.objs.size + 1) :: vs) (Value.ref (hq.objs.size + 1) :: ua) := .cons rfl ra
  have hl : (Value.ref (hq.objs.size + 1) :: ua).length = ps.length := by
    have e := rb.length
    rw [F1.len _ _ _ _ hf0] at e
    exact e.symm
  have hua : ua.length ≤ sizeLine := by
    rw [← Paired.length ra, sizeLine_eq]
    omega
  have b := hb ⟨(hq.push (PySem.W.kdv_tup ua)).push (PySem.HandSPX.excO C hq.objs.size), g, dw, tz, oz⟩ (Value.ref (hq.objs.size + 1) :: ua) Ib.kIn (by rw [List.append_nil]; exact hl)
  rw [List.append_nil] at b
  refine wpAny_call (PySem.HandSPX.call_own F.excBase_ValueError (fun Y => PySem.HandSPX.refsVE_contains Y bm hbq) (Ia.kIn _ _ hcl0) (PySem.W.looks_findIn Ia.kIn iC) (fun self => PySem.W.bind_fn Ia.kIn self tI) hua
    (codeAny_mono (F1.run _ X.stack _ _ ⟨Value.ref (hq.objs.size + 1) :: ua, []⟩ (Value.ref (hq.objs.size + 1) :: ua) _ _ (fun _ _ _ => False) (hr.make C ua []) (Ib.env0.make C ua []) b rb hf0) fun r s' hw' => ?_))
  cases r with
  | error ee => exact hx pz σ _ _ ee s' Ib hw'
  | ok fl =>
    cases fl with
    | ret u =>
      obtain ⟨v, H', Ic, rz, ev, q3⟩ := Ib.after hw'
      subst ev
      exact ⟨rz, ⟨V.ref (hq.objs.size + 1), H', Ic, rfl, q3⟩⟩
    | next => exact hw'.elim
    | brk => exact hw'.elim
    | cont => exact hw'.elim
/-- e.f of an error that is held as a value -/
theorem pe_exf {e : Expr} {te : TE} {pos : Pos} {n : Str} (he : PE X e te) (hb : attributeBase e n X.env (eval e X.env) = eval e X.env := by rfl) :
    PE X (.Attribute e n pos) (fun σ H Q => te σ H fun x Ha => ∃ (a C : Addr) (fs : List (Str × V)) (v : V), x = .ref a ∧ Exq Ha a C fs ∧ XfC X.K C ∧ PySem.W.findIn X.K (.ref C) n = some none ∧ fs.lookup n = some v ∧ Q v Ha) := by
  refine ⟨fun pz s σ H Q I h => ?_⟩
  refine attr_of hb (thn (he.run pz s σ H _ I h) fun u sa hw => ?_)
  obtain ⟨x, Ha, Ia, ry, a, C, fs, v, ex, ea, TT, hnn, l, q⟩ := hw
  subst ex
  cases (show u = .ref a from ry)
  rcases ea with ⟨hf, _⟩ | ⟨dd, e1, e2⟩
  · subst hf
    cases l
  · obtain ⟨t1, ha⟩ := exo_at Ia.hok e1
    obtain ⟨mq, hnq, hr⟩ := exd_at Ia.hok e2
    obtain ⟨oq, ho, hl⟩ := lookIn_ns hnq
    obtain ⟨u, hu, ru⟩ := RelO.some_of (v := v) (o := mq n) (by rw [← l]; exact hr n)
    have J : PySem.W.InstAt sa.heap a { cls := .ref C, dict := some dd, data := .fields #[.ref t1, .none, .none, .none, .bool false, .none] } C (some oq) := ⟨ha, rfl, rfl, ho⟩
    exact HandSPX.exc_get Ia.kIn J TT.ga TT.gg TT.exC (PySem.W.findObj_own TT.hdC hnn rfl (by rw [hl, hu])) (handed_of ru) ⟨v, Ha, Ia.tok _, ru, q⟩
/-- what isinstance asks of such an error -/
theorem Exq.kit {pz : List (Addr × Obj)} {σ : L2.St} {H : Hp} {s : Shared} {a C : Addr} {fs : List (Str × V)} (I : L2.Inv X pz σ H s) (e : Exq H a C fs) (TT : ExcC X.K C) : ∃ P : Heap → Prop, PySem.W.KitX X.K (.ref a) (.ref C) P ∧ P s.heap := by
  have hcl : (PySem.W.clsIn X.K C).isSome = true := by
    obtain ⟨cd, hc, _⟩ := PySem.W.any_some TT.hd
    rw [hc]
    rfl
  rcases e with ⟨_, e⟩ | ⟨dd, e1, e2⟩
  · obtain ⟨⟨oe, vs, ho, hy, hd, _⟩, _, _⟩ := I.hok a _ e
    refine ⟨_, PySem.W.kitx_exc (ox := oe) (od := none) hcl TT.hg TT.hk TT.hs TT.ha TT.hn TT.ht TT.hm, ?_⟩
    obtain ⟨oc, oq, oda, osl⟩ := oe
    obtain ⟨h1, h2⟩ := hy
    dsimp only at h1 h2 hd
    subst h1 h2 hd
    exact ⟨ho, rfl, rfl, trivial⟩
  · obtain ⟨t1, ha⟩ := exo_at I.hok e1
    obtain ⟨mq, hnq, hr⟩ := exd_at I.hok e2
    obtain ⟨oq, ho, hl⟩ := lookIn_ns hnq
    exact ⟨_, PySem.W.kitx_exc (ox := { cls := .ref C, dict := some dd, data := .fields #[.ref t1, .none, .none, .none, .bool false, .none] }) (od := some oq) hcl TT.hg TT.hk TT.hs TT.ha TT.hn TT.ht TT.hm, ⟨ha, rfl, rfl, ho⟩⟩
/-- isinstance(e, c) -/
theorem call_isQ : CallR X (.builtin "isinstance") (fun xs H Q => ∃ (a C : Addr) (fs : List (Str × V)) (c : V) (u : Value) (b : Bool), xs = [.ref a, c] ∧ Exq H a C fs ∧ ExcC X.K C ∧ ClsV c u ∧ PySem.W.kitOne X.K (.ref C) u = some b ∧ Q (.bl b) H) := by
  intro pz s σ H xs ua Q I r h
  obtain ⟨a, C, fs, c, u, b, rfl, ea, TT, k, e, q⟩ := h
  obtain ⟨u1, u2, rfl, ra, rb⟩ := vals2 r
  have e2 := k.eq rb
  subst e2
  cases (show u1 = Value.ref a from ra)
  obtain ⟨P, Z, p⟩ := ea.kit I TT
  exact PySem.W.kia_one Z I.kIn p e (fun z => nomatch z) fun tz => ⟨.bl b, H, I.tok tz, rfl, q⟩
/-- isinstance(e, (c1, c2, ..)) -/
theorem call_isQT : CallR X (.builtin "isinstance") (fun xs H Q => ∃ (a C : Addr) (fs : List (Str × V)) (tp : Addr) (cs : List V) (ws : List Value) (b : Bool), xs = [.ref a, .ref tp] ∧ Exq H a C fs ∧ ExcC X.K C ∧ H tp = some (.tup cs) ∧ Paired ClsV cs ws ∧ PySem.W.kitAny X.K (.ref C) ws = some b ∧ Q (.bl b) H) := by
  intro pz s σ H xs ua Q I r h
  obtain ⟨a, C, fs, tp, cs, ws, b, rfl, ea, TT, htp, k, e, q⟩ := h
  obtain ⟨u1, u2, rfl, ra, rb⟩ := vals2 r
  cases (show u2 = Value.ref tp from rb)
  cases (show u1 = Value.ref a from ra)
  obtain ⟨P, Z, p⟩ := ea.kit I TT
  obtain ⟨_, itz, rz, o, h1, h2, n, h3⟩ := (show ObjOk X.prog X.w H s.heap tp (.tup cs) from I.hok tp _ htp)
  have e3 := ClsV.all k rz
  subst e3
  obtain ⟨oc, oq, dt, sl⟩ := o
  simp only at h2 h3
  subst h2 h3
  exact PySem.W.kia_tup Z I.kIn p h1 e (fun z => nomatch z) fun tz => ⟨.bl b, H, I.tok tz, rfl, q⟩
end
end Pk
namespace Pk
open PySem L2 PySem.Spec PyProof.Rows

/-! ### data of any depth in the heap -/
/-- a key as data -/
def keyD : Key → PyData
  | .inl i => .int i
  | .inr x => .str x
mutual
/-- v is this data -/
inductive Tr (H : Hp) : V → PyData → Prop
  | non : Tr H .non .none
  | bl (b : Bool) : Tr H (.bl b) (.bool b)
  | int (i : Int) : Tr H (.int i) (.int i)
  | str (x : Str) : Tr H (.str x) (.str x)
  | lst {a : Addr} {xs : List V} {ds : List PyData} : H a = some (.lst xs) → TrAll H xs ds → Tr H (.ref a) (.list ds)
  | tup {a : Addr} {xs : List V} {ds : List PyData} : H a = some (.tup xs) → TrAll H xs ds → Tr H (.ref a) (.tuple ds)
  | dct {a : Addr} {kvs : List (Key × V)} {es : List (PyData × PyData)} : H a = some (.dK kvs) → (kvs.map (·.1)).Nodup → es.map (·.1) = kvs.map (fun p => keyD p.1) → TrAll H (kvs.map (·.2)) (es.map (·.2)) → Tr H (.ref a) (.dict es)
inductive TrAll (H : Hp) : List V → List PyData → Prop
  | nil : TrAll H [] []
  | cons {v : V} {vs : List V} {d : PyData} {ds : List PyData} : Tr H v d → TrAll H vs ds → TrAll H (v :: vs) (d :: ds)
end
mutual
theorem Tr.same {H H' : Hp} (s : Same H H') : ∀ {v : V} {d : PyData}, Tr H v d → Tr H' v d
  | _, _, .non => .non
  | _, _, .bl b => .bl b
  | _, _, .int i => .int i
  | _, _, .str x => .str x
  | _, _, .lst h a => .lst (s _ _ h) (TrAll.same s a)
  | _, _, .tup h a => .tup (s _ _ h) (TrAll.same s a)
  | _, _, .dct h n e a => .dct (s _ _ h) n e (TrAll.same s a)
theorem TrAll.same {H H' : Hp} (s : Same H H') : ∀ {vs : List V} {ds : List PyData}, TrAll H vs ds → TrAll H' vs ds
  | _, _, .nil => .nil
  | _, _, .cons h t => .cons (Tr.same s h) (TrAll.same s t)
end
theorem TrAll.length {H : Hp} : ∀ {vs : List V} {ds : List PyData}, TrAll H vs ds → vs.length = ds.length
  | _, _, .nil => rfl
  | _, _, .cons _ t => by rw [List.length_cons, List.length_cons, TrAll.length t]
theorem TrAll.get {H : Hp} : ∀ {vs : List V} {ds : List PyData} {i : Nat} {v : V}, TrAll H vs ds → vs[i]? = some v → ∃ d, ds[i]? = some d ∧ Tr H v d
  | _, _, i, v, .nil, h => by simp at h
  | _, _, 0, v, .cons h t, e => by
    cases (show some _ = some v from e)
    exact ⟨_, rfl, h⟩
  | _, _, i + 1, v, .cons h t, e => by
    exact TrAll.get (i := i) t e
theorem TrAll.snoc {H : Hp} : ∀ {vs : List V} {ds : List PyData} {v : V} {d : PyData}, TrAll H vs ds → Tr H v d → TrAll H (vs ++ [v]) (ds ++ [d])
  | _, _, _, _, .nil, one => .cons one .nil
  | _, _, _, _, .cons h t, g => .cons h (TrAll.snoc t g)
theorem TrAll.append {H : Hp} : ∀ {vs ws : List V} {ds es : List PyData}, TrAll H vs ds → TrAll H ws es → TrAll H (vs ++ ws) (ds ++ es)
  | _, _, _, _, .nil, g => g
  | _, _, _, _, .cons h t, g => .cons h (TrAll.append t g)
theorem Tr.isList {H : Hp} {v : V} {ds : List PyData} (h : Tr H v (.list ds)) : ∃ a xs, v = .ref a ∧ H a = some (.lst xs) ∧ TrAll H xs ds := by
  cases h with
  | lst h t => exact ⟨_, _, rfl, h, t⟩
theorem Tr.isTup {H : Hp} {v : V} {ds : List PyData} (h : Tr H v (.tuple ds)) : ∃ a xs, v = .ref a ∧ H a = some (.tup xs) ∧ TrAll H xs ds := by
  cases h with
  | tup h t => exact ⟨_, _, rfl, h, t⟩
theorem TrAll.rep {H : Hp} {v : V} {d : PyData} (h : Tr H v d) : ∀ n : Nat, TrAll H (List.replicate n v) (List.replicate n d)
  | 0 => .nil
  | n + 1 => .cons h (TrAll.rep h n)
/-- the keys of a dict, read -/
theorem reads_keys {P : Program} {w : World} {h : Heap} : ∀ {es : List DictEntry} {kvs : List (Key × V)} {vs : List (Key × Value)}, Pairs (mixKind P w) es vs → KV kvs vs → ReadsAll h (es.map (·.key)) (kvs.map (fun p => keyD p.1)) []
  | _, _, _, .nil, .nil => .nil
  | _, _, _, .cons hk hv t, .cons r rs => by
    have ih := reads_keys (h := h) t rs
    simp only [List.map_cons]
    refine ReadsAll.cons (as := []) (bs := []) ?_ ih
    rw [← r.1] at hk
    rcases keyIs_shape hk with ⟨i, u, e1, e2⟩ | ⟨x, u, e1, e2⟩
    · rw [e1, e2]
      exact Reads.int i u
    · rw [e1, e2]
      exact Reads.str x u
theorem vals_of_pairs {P : Program} {w : World} : ∀ {es : List DictEntry} {kvs : List (Key × V)} {vs : List (Key × Value)}, Pairs (mixKind P w) es vs → KV kvs vs → Vals (kvs.map (·.2)) (es.map (·.val))
  | _, _, _, .nil, .nil => .nil
  | _, _, _, .cons hk hv t, .cons r rs => by
    rw [List.map_cons, List.map_cons, hv]
    exact .cons r.2 (vals_of_pairs t rs)
section
variable {X : Cx} {H : Hp} {s : Shared} {σ : L2.St} {pins : List (Addr × Obj)}
mutual
theorem Tr.reads (I : L2.Inv X pins σ H s) : ∀ {v : V} {d : PyData}, Tr H v d → ∀ u : Value, RelV v u → ∃ as, Reads s.heap u d as
  | _, _, .non, u, r => by
    cases (show u = Value.none from r)
    exact ⟨_, Reads.none⟩
  | _, _, .bl b, u, r => by
    cases (show u = Value.bool b from r)
    exact ⟨_, Reads.bool b⟩
  | _, _, .int i, u, r => by
    obtain ⟨t, e⟩ := (show ∃ t, u = Value.int i t from r)
    cases e
    exact ⟨_, Reads.int i t⟩
  | _, _, .str x, u, r => by
    obtain ⟨t, e⟩ := (show ∃ t, u = Value.str x t from r)
    cases e
    exact ⟨_, Reads.str x t⟩
  | _, _, @Tr.lst _ a xs ds h al, u, r => by
    cases (show u = Value.ref a from r)
    obtain ⟨_, its, n, rv, ho⟩ := (show ObjOk X.prog X.w H s.heap a (.lst xs) from I.hok a _ h)
    obtain ⟨as, q⟩ := TrAll.reads I al its rv
    exact ⟨_, Reads.list ho rfl rfl (by simpa using q)⟩
  | _, _, @Tr.tup _ a xs ds h al, u, r => by
    cases (show u = Value.ref a from r)
    obtain ⟨_, its, rv, o, ho, hc, n, hd⟩ := (show ObjOk X.prog X.w H s.heap a (.tup xs) from I.hok a _ h)
    obtain ⟨as, q⟩ := TrAll.reads I al its rv
    exact ⟨_, Reads.tuple ho hc hd (by simpa using q)⟩
  | _, _, @Tr.dct _ a kvs es h nd ek al, u, r => by
    cases (show u = Value.ref a from r)
    obtain ⟨_, _, vs, rel, o, des, ep, ho, hx, hd, _, pr, _⟩ := (show ObjOk X.prog X.w H s.heap a (.dK kvs) from I.hok a _ h)
    obtain ⟨bs, q⟩ := TrAll.reads I al _ (vals_of_pairs pr rel)
    exact ⟨_, Reads.dict ho hx.1 hd (by rw [ek]; exact reads_keys pr rel) q⟩
theorem TrAll.reads (I : L2.Inv X pins σ H s) : ∀ {vs : List V} {ds : List PyData}, TrAll H vs ds → ∀ us : List Value, Vals vs us → ∃ as, ReadsAll s.heap us ds as
  | _, _, .nil, us, r => by
    cases r
    exact ⟨_, ReadsAll.nil⟩
  | _, _, .cons h t, us, r => by
    cases r with
    | cons r1 r2 =>
      obtain ⟨as, q1⟩ := Tr.reads I h _ r1
      obtain ⟨bs, q2⟩ := TrAll.reads I t _ r2
      exact ⟨as ++ bs, .cons q1 q2⟩
end
end
/-- data without lists and dicts in it that stand at an address of their own -/
def plainD : PyData → Bool
  | .int _ | .str _ | .none | .bool _ => true
  | _ => false
def plainAll : (ds : List PyData) → Bool
  | [] => true
  | d :: ds => plainD d && plainAll ds
/-- a dict of plain things -/
def flatDict : PyData → Bool
  | .dict es => plainAll (es.map (·.2))
  | _ => false
section
variable {X : Cx} {H : Hp} {s : Shared} {σ : L2.St} {pins : List (Addr × Obj)}
theorem plain_reads {h : Heap} : ∀ {us : List Value} {ds : List PyData} {as : List Addr}, ReadsAll h us ds as → plainAll ds = true → as = []
  | _, _, _, .nil, _ => rfl
  | _, _, _, .cons hd tl, e => by
    rw [plainAll, Bool.and_eq_true] at e
    have ih := plain_reads tl e.2
    subst ih
    cases hd with
    | none => rfl
    | bool b => rfl
    | int i t => rfl
    | str x t => rfl
    | list _ _ _ _ => exact absurd e.1 (by simp [plainD])
    | tuple _ _ _ _ => exact absurd e.1 (by simp [plainD])
    | dict _ _ _ _ _ => exact absurd e.1 (by simp [plainD])
/-- flat dicts side by side lie at no address that the system keeps -/
theorem TrAll.flat (I : L2.Inv X pins σ H s) : ∀ {vs : List V} {ds : List PyData}, TrAll H vs ds → (∀ d ∈ ds, flatDict d = true) → ∀ us : List Value, Vals vs us → ∃ as, ReadsAll s.heap us ds as ∧ sysModules ∉ as
  | _, _, .nil, _, us, r => by
    cases r
    exact ⟨_, ReadsAll.nil, by simp⟩
  | _, _, @TrAll.cons _ v vs d ds h t, f, us, r => by
    cases r with
    | cons r1 r2 =>
      rename_i u us
      obtain ⟨bs, q2, n2⟩ := TrAll.flat I t (fun d hd => f d (List.mem_cons_of_mem _ hd)) _ r2
      have fd := f d List.mem_cons_self
      cases h with
      | non => cases fd
      | bl b => cases fd
      | int i => cases fd
      | str x => cases fd
      | lst _ _ => cases fd
      | tup _ _ => cases fd
      | @dct a kvs es h nd ek al =>
        cases (show u = Value.ref a from r1)
        obtain ⟨_, hsys, vs, rel, o, des, ep, ho, hx, hd, _, pr, _⟩ := (show ObjOk X.prog X.w H s.heap a (.dK kvs) from I.hok a _ h)
        obtain ⟨cs, q⟩ := TrAll.reads I al _ (vals_of_pairs pr rel)
        have ec := plain_reads q fd
        subst ec
        refine ⟨_, ReadsAll.cons (Reads.dict ho hx.1 hd (by rw [ek]; exact reads_keys pr rel) q) q2, ?_⟩
        intro z
        rcases List.mem_append.mp z with z | z
        · have z' : sysModules = a := by simpa using z
          rw [z'] at hsys
          simp at hsys
        · exact n2 z
end
/-- repr of a list, where what stands in it lies at no address that the system keeps -/
theorem repr_listD {prog : Program} {w : World} {A : Around} {E : Value → Shared → Prop} {s : Shared} {Q : Value → Shared → Prop} {a : Addr} {o : Obj} {vs : List Value} {n : Nat} {xs : List PyData} {as : List Addr}
    (h1 : s.heap.get? a = some o) (h2 : o.cls = .type "list") (h3 : o.data = .seq vs.toArray n) (h4 : ReadsAll s.heap vs xs as) (hs : PyData.showableAll xs = true) (hm : PyData.hasDictAll xs = true → sysModules ∉ as) (hg : A.guards = some [])
    (hu : A.units + (PyData.depth (.list xs) + 1) < cLine) (hsz : (PyData.shown (.list xs)).length ≤ sizeLine)
    (hQ : ∀ h' u tk, (∀ b o, s.heap.get? b = some o → h'.get? b = some o) → Q (.str (PyData.shown (.list xs)) u) { s with heap := h', toks := tk }) : wpAny (model prog w) A (call (.builtin "repr") [.ref a]) Q E s := by
  have zl : (listText (PyData.shownAll xs)).length ≤ sizeLine := by simpa only [PyData.shown] using hsz
  obtain ⟨bs, hb, hk⟩ := ReprAllK.of_readsAll (prog := prog) (w := w) h4 hs hm (fun t ht => Nat.le_trans (listText_mem_le ht) zl)
  have r0 : Reads s.heap (.ref a) (.list xs) (a :: as) := Reads.list h1 h2 h3 (by simpa using h4)
  have na : a ∉ bs := not_mem_of_deeper r0 (by simp only [PyData.depth]; omega) hb
  simp only [PyData.depth] at hu; simp only [PyData.shown] at hQ
  refine call_repr_slot (by omega) ⟨o, h1, h2⟩ F.slot_list_repr.toG ?_
  cases vs with
  | nil =>
    cases h4
    simp only [listText_nil, PyData.shownAll] at hQ
    exact call_list_repr_empty ⟨o, h1, h2⟩ h1 h3 ⟨_, _, rfl, hQ s.heap _ _ fun _ _ e => e⟩
  | cons x l =>
    exact call_list_reprK (h₀ := s.heap) h1 h2 h3 na (by simpa using hk.length_eq) (fun i y e => hk.item i y (by simpa using e)) hg (fun b _ => Clear.nil b) (by show A.units + 1 + (PyData.depthAll xs + 1) < cLine; omega) (fun _ _ e => e) (fun h' u tk k => ⟨_, _, rfl, hQ h' u tk k⟩) zl
/-- repr(xs), xs a list: things without dicts, or flat dicts alone -/
theorem call_reprL {X : Cx} (hg : X.A.guards = some []) (hu : X.A.units + 100 < cLine) : CallR X (.builtin "repr") (fun xs H Q => ∃ (a : Addr) (zs : List V) (ds : List PyData), xs = [.ref a] ∧ H a = some (.lst zs) ∧ TrAll H zs ds ∧ (PyData.hasDictAll ds = false ∨ ∀ d ∈ ds, flatDict d = true) ∧
    PyData.showableAll ds = true ∧ PyData.depthAll ds ≤ 60 ∧ (PyData.shown (.list ds)).length ≤ sizeLine ∧ Q (.str (PyData.shown (.list ds))) H) := by
  intro pz s σ H xs ua Q I r h
  obtain ⟨a, zs, ds, rfl, ha, al, hd, hs, hdep, hsz, q⟩ := h
  obtain rfl := Vals.ref1 r
  obtain ⟨_, its, n, rv, ho⟩ := (show ObjOk X.prog X.w H s.heap a (.lst zs) from I.hok a _ ha)
  have key : ∃ as, ReadsAll s.heap its ds as ∧ (PyData.hasDictAll ds = true → sysModules ∉ as) := by
    rcases hd with hd | hd
    · obtain ⟨as, q⟩ := TrAll.reads I al its rv
      exact ⟨as, q, fun z => by rw [hd] at z; cases z⟩
    · obtain ⟨as, q, nq⟩ := TrAll.flat I al hd its rv
      exact ⟨as, q, fun _ => nq⟩
  obtain ⟨as, q4, hm⟩ := key
  refine repr_listD ho rfl rfl q4 hs hm hg (by simp only [PyData.depth]; omega) hsz fun h' u tk k => ?_
  exact ⟨.str _, H, I.kept (t' := tk) k, ⟨u, rfl⟩, q⟩
end Pk
namespace Pk
open PySem L2
/-! ### written data: an expression that makes new things alone -/
/-- what of H' is new -/
def newP (H H' : Hp) : Hp := fun b => match H b with
  | none => H' b
  | some _ => none
theorem newP_at {H H' : Hp} {b : Addr} (h : H b = none) : newP H H' b = H' b := by
  unfold newP
  rw [h]
theorem newP_some {H H' : Hp} {b : Addr} {o : HO} (h : newP H H' b = some o) : H b = none ∧ H' b = some o := by
  unfold newP at h
  cases e : H b with
  | none =>
    rw [e] at h
    exact ⟨rfl, h⟩
  | some u =>
    rw [e] at h
    cases h
theorem newP_grow {H H1 H2 : Hp} (s : Same H1 H2) : Same (newP H H1) (newP H H2) := fun b o e => by
  obtain ⟨h1, h2⟩ := newP_some e
  rw [newP_at h1]
  exact s b o h2
theorem newP_back {H H1 H2 : Hp} (s : Same H H1) : Same (newP H1 H2) (newP H H2) := fun b o e => by
  obtain ⟨h1, h2⟩ := newP_some e
  rw [newP_at (s.free h1)]
  exact h2
theorem newP_all {H H' : Hp} : Same (newP H H') H' := fun b o e => (newP_some e).2
/-- new things are no place that was there -/
theorem newP_del {H H' : Hp} {p : Addr} {o : HO} (h : H p = some o) : Same (newP H H') (del H' p) := fun b u e => by
  obtain ⟨h1, h2⟩ := newP_some e
  rw [del_ne (fun z => by rw [z, h] at h1; cases h1)]
  exact h2
def tD (d : PyData) : TE := fun _ H Q => ∀ v H', Same H H' → Tr (newP H H') v d → Q v H'
def tDs (ds : List PyData) : TA := fun _ H Q => ∀ vs H', Same H H' → TrAll (newP H H') vs ds → Q vs H'
section
variable {X : Cx} {e : Expr} {es : List Expr} {d : PyData} {ds : List PyData} {pos p1 p2 : Pos} {j : Nat}
theorem peW {t t' : TE} (h : PE X e t) (f : ∀ σ H Q, t' σ H Q → t σ H Q) : PE X e t' := ⟨fun pz s σ H Q I q => h.run pz s σ H Q I (f σ H Q q)⟩
theorem paW {t t' : TA} (h : PA X es t) (f : ∀ σ H Q, t' σ H Q → t σ H Q) : PA X es t' := ⟨fun po pz s σ H Q I q => h.run po pz s σ H Q I (f σ H Q q)⟩
theorem pd_int {i : Int} (h : PE X e (tC (.int i))) : PE X e (tD (.int i)) := peW h fun _ H Q q => q _ H (Same.refl _) (.int i)
theorem pd_str {i : Str} (h : PE X e (tC (.str i))) : PE X e (tD (.str i)) := peW h fun _ H Q q => q _ H (Same.refl _) (.str i)
theorem pd_bl {i : Bool} (h : PE X e (tC (.bl i))) : PE X e (tD (.bool i)) := peW h fun _ H Q q => q _ H (Same.refl _) (.bl i)
theorem pd_non (h : PE X e (tC .non)) : PE X e (tD .none) := peW h fun _ H Q q => q _ H (Same.refl _) .non
theorem pd_nil : PA X [] (tDs []) := paW pa_nil fun _ H Q q => q [] H (Same.refl _) .nil
theorem pd_cons (h : PE X e (tD d)) (t : PA X es (tDs ds)) (hs : starEach (e :: es) X.env = (false, eval e X.env) :: starEach es X.env := by rfl) : PA X (e :: es) (tDs (d :: ds)) := by
  refine paW (pa_cons h t hs) fun σ H Q q => ?_
  intro v H1 s1 r1 vs H2 s2 r2
  exact q (v :: vs) H2 (s1.trans s2) (.cons (r1.same (newP_grow s2)) (r2.same (newP_back s1)))
theorem pd_tup {x1} (h : PA X es (tDs ds)) (hl : ds.length ≤ 1000 := by decide) : PE X (.Tuple es x1 pos) (tD (.tuple ds)) := by
  refine peW (pe_tup h) fun σ H Q q => ?_
  intro vs H1 s1 r1
  have e1 : vs.length ≤ sizeLine := Nat.le_of_lt (small1000 (by rw [r1.length]; exact hl))
  refine ⟨e1, fun p hp => ?_⟩
  have s2 := sameNew hp (.tup vs)
  refine q (.ref p) _ (s1.trans s2) (.tup ?_ (r1.same (newP_grow s2)))
  rw [newP_at (s1.free hp), upd_same]
theorem pd_lst (h : PA X es (tDs ds)) (hl : ds.length ≤ 1000 := by decide) : PE X (.List es pos) (tD (.list ds)) := by
  refine peW (pe_lst h) fun σ H Q q => ?_
  intro vs H1 s1 r1
  have e1 : vs.length ≤ sizeLine := Nat.le_of_lt (small1000 (by rw [r1.length]; exact hl))
  refine ⟨e1, fun p hp => ?_⟩
  have s2 := sameNew hp (.lst vs)
  refine q (.ref p) _ (s1.trans s2) (.lst ?_ (r1.same (newP_grow s2)))
  rw [newP_at (s1.free hp), upd_same]
theorem pd_d0 : PE X (.Dict [] [] pos) (tD (.dict [])) := by
  refine peW pe_dnewK fun σ H Q q => ?_
  intro p hp
  refine q (.ref p) _ (sameNew hp _) (.dct (kvs := []) ?_ List.nodup_nil rfl .nil)
  rw [newP_at hp, upd_same]
/-- {'a': 0} -/
theorem pd_d1 {k : Str} {i : Int} {po : Pos} {kx vx : Expr} (hk : PE X kx (tC (.str k))) (hv : PE X vx (tC (.int i))) : PE X (.Dict [some kx] [vx] po) (tD (.dict [(.str k, .int i)])) := by
  refine peW (pe_disp (pps_cons hk hv pps_nil) (by rfl) (by rfl) (fun z => by cases z) (by show 1 ≤ 15; decide)) fun σ H Q q => ?_
  intro p hp
  refine ⟨upd_same, [(Sum.inr k, .int i)], rfl, (by show 1 ≤ 15; decide), ?_⟩
  rw [upd_upd]
  refine q (.ref p) _ (sameNew hp _) (.dct (kvs := [(Sum.inr k, .int i)]) ?_ (by simp) rfl (.cons (.int i) .nil))
  rw [newP_at hp, upd_same]
  rfl
/-- 10 ** 18 and the like -/
theorem pd_pow {a b : Expr} {i k : Int} (ha : PE X a (tC (.int i))) (hb : PE X b (tC (.int k))) (h : CPow i k := by exact ⟨by decide, by decide, by decide⟩) : PE X (.BinOp a .Pow b pos) (tC (.int (i ^ k.toNat))) :=
  peW (pe_op op_pow ha hb) fun σ H Q q => ⟨_, _, rfl, rfl, h, q⟩
theorem pd_neg {a : Expr} {i : Int} (ha : PE X a (tC (.int i))) : PE X (.UnaryOp .USub a pos) (tC (.int (-i))) :=
  peW (pe_un un_neg ha) fun σ H Q q => ⟨_, rfl, q⟩
end
end Pk
namespace Pk
open PySem L2 PySem.Spec PyProof.Rows
/-! ### defs that are run where no text of a list is under way (for repr) -/
/-- the def at f keeps sp, where no repr is under way -/
structure FnG (P : Program) (w : World) (K : PySem.W.Frag) (mg : Str → Option Value) (bs : Heap) (k : Nat) (f : Addr) (fd : FuncData) (ps : List Str) (sp : Sp) : Prop where
  len : ∀ va H Q E, sp va H Q E → va.length = ps.length
  run : ∀ (A : Around) (out : List Env) (s : Shared) (H : Hp) (ar : Args) (ua : List Value) (va : List V) (Q : VK) (E : XK), A.guards = some [] → Room k A → Env0 P w K mg bs A out s H → BindsTo s fd ar (ps.zip ua) → Vals va ua → sp va H Q E →
    codeAny (model P w) A (.call (.ref f) ar) (CR CX0 out P w H s Q E) s
theorem Fun.okG {P : Program} {w : World} {K : PySem.W.Frag} {mg : Str → Option Value} {bs : Heap} {x ql : Str} {st : Stmt} {f : Addr} {fd : FuncData} {N ps : List Str} {k : Nat} {sp : Sp} (F : Fun K x ql st f fd) (S : FnScope N ps (defScope st)) (len : ∀ va H Q E, sp va H Q E → va.length = ps.length)
    (hbd : ∀ (cv : Value) (A : Around) (out : List Env) (s : Shared) (H : Hp) (va : List V) (Q : VK) (E : XK), A.guards = some [] → Room k (A.deeper (envOfC ql (defScope st) s.heap.objs.size f cv)) → sp va H Q E →
      ∃ t, PSs (cxOf CX0 P w K mg bs N ql (defScope st) f cv A out s H E).nox (defBody st) t ∧ t { nx := fun _ H' => Q .non H', rt := Q } (L2.start N va) H) : FnG P w K mg bs (k + 1) f fd ps sp := by
  obtain ⟨oc, oq, kV, doc, pm, an, cv, ct, osl, rfl, lk, hcd⟩ := F.ex
  refine ⟨len, fun A out s H ar ua va Q E hgd hr ez hbt rr hq => ?_⟩
  have hlen := len _ _ _ _ hq
  have inK : K.In s.heap := ez.mod.kin.keeps fun b o e => (ez.bs b o e).1
  have noL : s.heap.NoLimit := ez.mod.nolimit.keeps fun b o e => (ez.bs b o e).1
  refine codeAny_call_function hr.depth (inK _ _ lk) rfl S.co S.gen rfl (PySem.W.codeRec_of inK hcd) (hbt _ _ _ _ (wpAny_newFunctionEnv_cells S.kind (fun ⟨n, v⟩ hy => ?_) fun env he sz xx => ?_))
  · rcases S.par n (List.of_mem_zip hy).1 with z | z
    · exact .inl z
    · exact .inr ⟨z, PySem.W.cellsFrom_some _ _ _ (.inl z)⟩
  · subst he
    refine ⟨noL.keeps xx.toInCall.keep, codeAny_func ?_⟩
    obtain ⟨t, ht, hw⟩ := hbd cv A out s H va Q E hgd (hr.deeper _) hq
    have J : L2.Inv (cxOf CX0 P w K mg bs N ql (defScope st) f cv A out s H E) [] (L2.start N va) H sz := inv_start S hr.hd ez hlen rr xx
    refine wpAny_mono (ht.nox.run [] sz _ H _ J hw) (fun fl sy hy => ?_) fun e sy hy => hy
    cases fl with
    | ret u =>
      obtain ⟨v, σy, Hy, Jy, rv, qy⟩ := hy
      exact ⟨v, Hy, Jy.os, Jy.bare, Jy.base, Jy.hok, rv, qy⟩
    | next =>
      obtain ⟨σy, Hy, Jy, qy⟩ := hy
      exact ⟨.non, Hy, Jy.os, Jy.bare, Jy.base, Jy.hok, rfl, qy⟩
    | brk =>
      obtain ⟨_, _, _, qy⟩ := hy
      exact qy.elim
    | cont =>
      obtain ⟨_, _, _, qy⟩ := hy
      exact qy.elim
/-- f(e, ..) of such a def, where no repr is under way -/
theorem pe_callG {X : Cx} {k : Nat} {f : Addr} {fd : FuncData} {ps : List Str} {sp : Sp} {x : Str} {p pos : Pos} {e : Expr} {es : List Expr} {t : TA} (hgd : X.A.guards = some []) (G : FnG X.prog X.w X.K X.mg X.base k f fd ps sp) (hr : Room k X.A) (hg : Gl X x) (hm : X.mg x = some (.ref f)) (hk : PySem.W.keepIn X.K (.ref f) = true)
    (hb : Binds X.K fd ps []) (ha : PA X (e :: es) t) (hdg : (x == ("__debug__" : Str)) = false := by decide) (he : starEach (e :: es) X.env = (false, eval e X.env) :: starEach es X.env := by rfl) (hpz : (backTo pos (starEach es X.env)).any (·.1) = false := by rfl) :
    PE X (.Call (.Name x p) (e :: es) [] pos) (fun σ H Q => t σ H fun va Ha => sp va Ha Q fun _ _ _ => False) := by
  refine ⟨fun pz s σ H Q I hq => wpAny_Call_Name_kw (ld_glob I hg hm (PySem.W.callWith_K (h₀ := X.base) I.ok.mod.kin hk (thn (ha.run pos pz s σ H _ I hq) fun ua sa ⟨va, Ha, Ia, ra, qa⟩ => ⟨Ia.kIn, ?_⟩) he hpz) hdg)⟩
  have hlen : ua.length = ps.length := by
    rw [← ra.length]
    exact G.len _ _ _ _ qa
  have bt := hb sa ua Ia.kIn (by rw [List.append_nil]; exact hlen)
  rw [List.append_nil] at bt
  refine wpAny_call (codeAny_mono (G.run X.A X.stack sa Ha ⟨ua, []⟩ ua va Q (fun _ _ _ => False) hgd hr Ia.env0 bt ra qa) fun rr sy hy => ?_)
  cases rr with
  | error ee => exact hy.elim
  | ok fl =>
    cases fl with
    | ret u => exact Ia.after hy
    | next => exact hy.elim
    | brk => exact hy.elim
    | cont => exact hy.elim
/-- the law's call from outside: at the heap behind the top nothing but the script is tracked -/
theorem lawG {P : Program} {w : World} {K : PySem.W.Frag} {mg mb : Str → Option Value} {k : Nat} {fa a : Addr} {fd : FuncData} {x : Str} {sp : Sp} {sz : Shared} {va : List Value} {ns : List Int}
    (inK : K.In sz.heap) (hn : sz.heap.Ns mainGlobals mg) (hbn : sz.heap.Ns builtinsNs mb) (hbb : ∀ x : Str, x ≠ "__name__" → mb x = bootBuiltins x) (noL : sz.heap.NoLimit) (hgn : sz.gens = #[])
    (ha : sz.heap.get? a = some { cls := .type "list", data := .seq va.toArray }) (hi : IntsAre va ns) (hl : ns.length ≤ sizeLine) (hr : Room k callerA)
    (G : ∀ bs : Heap, K.In bs → bs.Ns mainGlobals mg → FnG P w K mg bs k fa fd [x] sp) (hbt : ∀ (s : Shared) (u : Value), BindsTo s fd ⟨[u], []⟩ [(x, u)])
    (hq : ∀ H : Hp, SqL K H a (ns.map V.int) → sp [.ref a] H (fun v _ => v = .bl true) fun _ _ _ => False) :
    codeAny (model P w) callerA (.call (.ref fa) ⟨[.ref a], []⟩) (fun r s' => r = .ok (.ret (.bool true)) ∧ OldK sz.heap s'.heap ∧ s'.os = sz.os ∧ AllBare s'.gens) sz := by
  have rr := vals_ints hi
  have ln := hi.length
  have main : ∀ H : Hp, L2.Only H → SqL K H a (ns.map V.int) → HOk P w H sz.heap → (∀ b, H b ≠ none → b = a) → (H a ≠ none → K.lookup a = none) →
      codeAny (model P w) callerA (.call (.ref fa) ⟨[.ref a], []⟩) (fun r s' => r = .ok (.ret (.bool true)) ∧ OldK sz.heap s'.heap ∧ s'.os = sz.os ∧ AllBare s'.gens) sz := by
    intro H only hS hok hA hK
    have isA : ∀ {b : Addr} {u : HO}, H b = some u → b = a := fun {b u} z => hA b (by rw [z]; simp)
    have free : ∀ {b : Addr} {o : Obj} {es : Array DictEntry} {ep : Nat}, sz.heap.get? b = some o → o.data = .dict es ep → H b = none := fun {b o es ep} e d => by
      cases z : H b with
      | none => rfl
      | some u =>
        have eb := isA z
        subst eb
        rw [ha] at e
        cases e
        cases (show Data.seq va.toArray _ = Data.dict es ep from d)
    have nsB : ∀ {b : Addr} {m : Str → Option Value}, sz.heap.Ns b m → (hidT sz.heap H).Ns b m := fun {b m} ⟨o, es, ep, e, d, z⟩ => ⟨o, es, ep, hidT_get e (free e d), d, z⟩
    have kB : K.In (hidT sz.heap H) := fun b o e => hidT_get (inK b o e) (by
      cases z : H b with
      | none => rfl
      | some u =>
        have eb := isA z
        subst eb
        rw [hK (by rw [z]; simp)] at e
        cases e)
    have md : Mod K mg (hidT sz.heap H) := ⟨kB, nsB hn, ⟨mb, nsB hbn, hbb⟩, let ⟨mc, z1, z2⟩ := noL; ⟨mc, nsB z1, z2⟩⟩
    have ez : Env0 P w K mg (hidT sz.heap H) callerA [] sz H := ⟨rfl, md, fun b o e => of_hidT e, Nat.le_of_eq (hidT_size _ _), trivial, fun b hb => absurd (show b ∈ ([] : List Addr) from hb) (by simp), hok, .of_eq hgn⟩
    refine codeAny_mono ((G _ kB (nsB hn)).run callerA [] sz H ⟨[.ref a], []⟩ [.ref a] [.ref a] _ _ rfl hr ez (hbt sz (.ref a)) (.cons rfl .nil) (hq H hS)) fun rz sy hy => ?_
    cases rz with
    | error e => exact hy.elim
    | ok fl =>
      cases fl with
      | next => exact hy.elim
      | brk => exact hy.elim
      | cont => exact hy.elim
      | ret u =>
        obtain ⟨v, Hy, osy, bry, un, oky, rv, qy⟩ := hy
        cases (show v = .bl true from qy)
        cases (show u = Value.bool true from rv)
        refine ⟨rfl, OldK.of_keep fun b o e => ?_, osy, bry⟩
        cases z : H b with
        | none => exact un.keep b o e z (fun q => absurd (show b ∈ ([] : List Addr) from q) (by simp)) (by simp)
        | some u =>
          rcases only b with q | ⟨ob, xs, q⟩
          · rw [z] at q
            cases q
          · obtain ⟨g1, _⟩ := hok b _ q
            obtain ⟨g2, _⟩ := oky b _ (un.frzs b ob _ q)
            rw [e] at g1
            cases g1
            exact g2
  cases hk : K.lookup a with
  | some o =>
    have e := inK a o hk
    rw [ha] at e
    cases e
    exact main (fun _ => none) (fun _ => .inl rfl) (.inr ⟨_, va.toArray, _, hk, rfl, rfl, rfl, by rw [List.size_toArray, ln]; exact hl, by simpa using rr⟩) (fun b u z => by cases (show (none : Option HO) = some u from z)) (fun b z => absurd rfl z) fun z => absurd rfl z
  | none =>
    refine main (fun b => if b = a then some (.frz { cls := .type "list", data := .seq va.toArray } (.lst (ns.map V.int))) else none) (fun b => ?_) (.inl (.inr ⟨{ cls := .type "list", data := .seq va.toArray }, if_pos rfl⟩)) (fun b u z => ?_) (fun b z => ?_) fun _ => hk
    · by_cases hb : b = a
      · right; exact ⟨_, _, if_pos hb⟩
      · exact .inl (if_neg hb)
    · by_cases hb : b = a
      · cases (if_pos hb).symm.trans z
        subst hb
        exact ⟨ha, by rw [List.length_map]; exact hl, va, _, rr, ha⟩
      · cases (if_neg hb).symm.trans z
    · by_cases hb : b = a
      · exact hb
      · exact absurd (if_neg hb) z
/-- the goal that the head leaves, from the law's promise -/
theorem walkG {l : PySem.W.OpenLaw} {n k : Nat} {q : Program} {loose : List Str} {XP : (Str → Option Value) → Heap → Prop} {YP : World → Heap → Prop} {d : DefRec} {K : Params → PySem.W.Frag} {sp : PySem.W.Frag → Sp} {x : Str}
    (hr : Room k callerA) (hn : l.most = some n) (hn2 : n ≤ sizeLine) (hdf : d.params.defaults = []) (hY : ∀ (w : World) (h : Heap), YP w h → (K w.params).In h)
    (G : ∀ (w : World) (mg : Str → Option Value) (fa : Addr) (h : Heap), (K w.params).In h → h.Ns mainGlobals mg → mg d.name = some (.ref fa) →
      ∃ fd : FuncData, (∀ (s : Shared) (u : Value), BindsTo s fd ⟨[u], []⟩ [(x, u)]) ∧ ∀ bs : Heap, (K w.params).In bs → bs.Ns mainGlobals mg → FnG l.prog w (K w.params) mg bs k fa fd [x] (sp (K w.params)))
    (hq : ∀ (K : PySem.W.Frag) (H : Hp) (a : Addr) (ns : List Int), ns.length ≤ n → SqL K H a (ns.map V.int) → sp K [.ref a] H (fun v _ => v = .bl true) fun _ _ _ => False) :
    PySem.W.WalkO q loose XP YP l.row.toRowW d [] (fun f va => PySem.call f va) := by
  refine Att.attach_call hn hdf fun w sy sz mg mb fa o pm cd doc a va ns Gr Y ho hd hcd hmg hob hin hle hgn => ?_
  have inK := hY w _ Y
  obtain ⟨fd, hbt, hG⟩ := G w mg fa _ inK Gr.T.g hmg
  exact lawG inK Gr.T.g Gr.T.b Gr.T.builtins Gr.T.nolimit hgn hob hin (Nat.le_trans hle hn2) hr hG hbt fun H hS => hq _ H a ns hle hS
end Pk
/-! a dict is no text -/
namespace Pk
open PySem PySem.SeqAt PySem.MeetsSeq PySem.AutoSeq1
theorem strNoDict (b : Str) (u : Tok) (l : Addr) (es : Array DictEntry) (n : Nat) (dd : Option Addr) (sl : Array (Option Value)) :
    Meets (Builtin.«str.__eq__» ⟨[.str b u, .ref l], []⟩) (fun _ R s => s.heap.get? l = some { cls := .type "dict", dict := dd, data := .dict es n, slots := sl } ∧ R (.ok (.ret .notImplemented)) s) :=
  .of_wp fun prog w A R s h => by
    obtain ⟨hp, g, d, tk, os⟩ := s
    obtain ⟨hl, h⟩ := h
    wp_walk using wpAny_loadPart' hl, wpAny_load hl
    exact ⟨_, rfl, h⟩
theorem dictNoStr (b : Str) (u : Tok) (l : Addr) (es : Array DictEntry) (n : Nat) (dd : Option Addr) (sl : Array (Option Value)) :
    Meets (Builtin.«dict.__eq__» ⟨[.ref l, .str b u], []⟩) (fun _ R s => s.heap.get? l = some { cls := .type "dict", dict := dd, data := .dict es n, slots := sl } ∧ R (.ok (.ret .notImplemented)) s) :=
  .of_wp fun prog w A R s h => by
    obtain ⟨hp, g, d, tk, os⟩ := s
    obtain ⟨hl, h⟩ := h
    wp_walk using wpAny_loadPart' hl, wpAny_load hl
    refine wpAny_of_eq (a := false) F.sub_str_dict ?_
    wp_walk using wpAny_loadPart' hl, wpAny_load hl
    exact ⟨_, rfl, h⟩
section
variable {A : Around} {s : Shared}
theorem rcStrDict {l : Addr} {es : Array DictEntry} {n : Nat} {dd : Option Addr} {sl : Array (Option Value)} (b : Str) (u : Tok) (hl : s.heap.get? l = some { cls := .type "dict", dict := dd, data := .dict es n, slots := sl }) (hu : A.units < cLine) : RcAt A s (.str b u) (.ref l) false := fun prog w E Q h =>
  rc_eq_decline_or (k := false) (typeIs_str s b u) ⟨_, hl, rfl⟩ (by decide) F.sub_dict_str F.slot_str_eq F.slot_dict_eq_refl
    (fun _ q => call_meets F.slot_str_eq (typeIs_str s b u) F.entry_str_eq (F.args_str_eq_2 _ _) (strNoDict b u l es n dd sl) ⟨hl, q⟩)
    (fun _ q => call_meets F.slot_dict_eq_refl ⟨_, hl, rfl⟩ F.entry_dict_eq (F.args_dict_eq_2 _ _) (dictNoStr b u l es n dd sl) ⟨hl, q⟩)
    (fun _ q => wpAny_of_eq (rfl : isSame (.str b u) (.ref l) = pure false) q) (.inr hu) h
theorem rcDictStr {l : Addr} {es : Array DictEntry} {n : Nat} {dd : Option Addr} {sl : Array (Option Value)} (b : Str) (u : Tok) (hl : s.heap.get? l = some { cls := .type "dict", dict := dd, data := .dict es n, slots := sl }) (hu : A.units < cLine) : RcAt A s (.ref l) (.str b u) false := fun prog w E Q h =>
  rc_eq_decline_or (k := false) ⟨_, hl, rfl⟩ (typeIs_str s b u) (by decide) F.sub_str_dict F.slot_dict_eq F.slot_str_eq_refl
    (fun _ q => call_meets F.slot_dict_eq ⟨_, hl, rfl⟩ F.entry_dict_eq (F.args_dict_eq_2 _ _) (dictNoStr b u l es n dd sl) ⟨hl, q⟩)
    (fun _ q => call_meets F.slot_str_eq_refl (typeIs_str s b u) F.entry_str_eq (F.args_str_eq_2 _ _) (strNoDict b u l es n dd sl) ⟨hl, q⟩)
    (fun _ q => wpAny_of_eq (rfl : isSame (.ref l) (.str b u) = pure false) q) (.inr hu) h
theorem eqStrDict {l : Addr} {es : Array DictEntry} {n : Nat} {dd : Option Addr} {sl : Array (Option Value)} (b : Str) (u : Tok) (hl : s.heap.get? l = some { cls := .type "dict", dict := dd, data := .dict es n, slots := sl }) (hu : A.units < cLine) : EqAt A s (.str b u) (.ref l) false := fun prog w E Q h => by
  unfold eqBool
  exact wpAny_holding (wpAny_ite_split (fun hab => absurd (eq_of_beq hab) nofun) fun _ => wpAny_bind (rcStrDict b u hl hu prog w E _ (wpAny_truthy_bool h)))
end
end Pk
namespace Pk
open PySem L2
/-- the data is this text -/
def strIs (y : Str) : PyData → Bool
  | .str z => y == z
  | _ => false
section
variable {X : Cx} {pz : List (Addr × Obj)} {σ : L2.St} {H : Hp} {s : Shared} {A : Around} {x : V} {d : PyData} {v : Value}
theorem Tr.eqStr (I : L2.Inv X pz σ H s) (t : Tr H x d) (r : RelV x v) (hu : A.units < cLine) (y : Str) (u : Tok) : SeqAt.EqAt A s (.str y u) v (strIs y d) := by
  cases t with
  | non => cases (show v = .none from r); exact SeqAt.EqAt.str_none y u
  | bl b => cases (show v = .bool b from r); exact SeqAt.EqAt.str_bool y u b
  | int i => obtain ⟨k, e⟩ := (show ∃ k, v = .int i k from r); cases e; exact SeqAt.EqAt.str_int y u i k
  | str z => obtain ⟨k, e⟩ := (show ∃ k, v = .str z k from r); cases e; exact SeqAt.EqAt.str_str y u z k
  | @lst a xs ds h al =>
    cases (show v = .ref a from r)
    obtain ⟨_, its, n, rv, ho⟩ := (show ObjOk X.prog X.w H s.heap a (.lst xs) from I.hok a _ h)
    exact SeqAt.EqAt.str_list y u ⟨_, ho, rfl, n, rfl⟩ hu
  | @tup a xs ds h al =>
    cases (show v = .ref a from r)
    obtain ⟨_, its, rv, ho⟩ := (show ObjOk X.prog X.w H s.heap a (.tup xs) from I.hok a _ h)
    exact SeqAt.EqAt.str_tuple y u ho hu
  | @dct a kvs es h nd ek al =>
    cases (show v = .ref a from r)
    obtain ⟨_, _, vs, rel, ⟨oc, od, odt, osl⟩, des, ep, ho, hx, hd, _⟩ := (show ObjOk X.prog X.w H s.heap a (.dK kvs) from I.hok a _ h)
    obtain ⟨x1, x2, x3⟩ := hx
    dsimp only at x1 x2 x3 hd
    subst x1 x2 x3 hd
    exact eqStrDict y u ho hu
theorem Tr.rcStr (I : L2.Inv X pz σ H s) (t : Tr H x d) (r : RelV x v) (hu : A.units < cLine) (y : Str) (u : Tok) : SeqAt.RcAt A s v (.str y u) (strIs y d) := by
  cases t with
  | non => cases (show v = .none from r); exact SeqAt.RcAt.none_str y u
  | bl b => cases (show v = .bool b from r); exact SeqAt.RcAt.bool_str b y u
  | int i => obtain ⟨k, e⟩ := (show ∃ k, v = .int i k from r); cases e; exact SeqAt.RcAt.int_str i k y u
  | str z =>
    obtain ⟨k, e⟩ := (show ∃ k, v = .str z k from r)
    cases e
    have q := SeqAt.RcAt.str_str (A := A) (s := s) z k y u
    have e : strIs y (.str z) = (z == y) := by
      show (y == z) = (z == y)
      by_cases h : y = z
      · subst h; rfl
      · rw [beq_eq_false_iff_ne.mpr h, beq_eq_false_iff_ne.mpr (Ne.symm h)]
    rw [e]
    exact q
  | @lst a xs ds h al =>
    cases (show v = .ref a from r)
    obtain ⟨_, its, n, rv, ho⟩ := (show ObjOk X.prog X.w H s.heap a (.lst xs) from I.hok a _ h)
    exact SeqAt.RcAt.list_str y u ⟨_, ho, rfl, n, rfl⟩ hu
  | @tup a xs ds h al =>
    cases (show v = .ref a from r)
    obtain ⟨_, its, rv, ho⟩ := (show ObjOk X.prog X.w H s.heap a (.tup xs) from I.hok a _ h)
    exact SeqAt.RcAt.tuple_str y u ho hu
  | @dct a kvs es h nd ek al =>
    cases (show v = .ref a from r)
    obtain ⟨_, _, vs, rel, ⟨oc, od, odt, osl⟩, des, ep, ho, hx, hd, _⟩ := (show ObjOk X.prog X.w H s.heap a (.dK kvs) from I.hok a _ h)
    obtain ⟨x1, x2, x3⟩ := hx
    dsimp only at x1 x2 x3 hd
    subst x1 x2 x3 hd
    exact rcDictStr y u ho hu
end
section
variable {X : Cx}
/-- x == 'text', x any data -/
theorem op_eqS (hu : X.A.units + 1 < cLine) : OpR X (compareOp .Eq) (fun x y H Q => ∃ d z, Tr H x d ∧ y = .str z ∧ Q (.bl (strIs z d)) H) := by
  intro pz s σ H x y v u Q I rx ry h
  obtain ⟨d, z, t, rfl, q⟩ := h
  obtain ⟨k, e⟩ := (show ∃ k, u = .str z k from ry)
  cases e
  exact t.rcStr I rx (by omega) z k X.prog X.w X.xe _ ⟨.bl _, H, I, rfl, q⟩
theorem anyStr {e : Value → Bool} {f : Str → Bool} (h : ∀ z k, e (.str z k) = f z) : ∀ {zs : List Str} {us : List Value}, Vals (zs.map V.str) us → us.any e = zs.any f
  | [], _, .nil => rfl
  | z :: zs, _, .cons r t => by
    obtain ⟨k, e1⟩ := (show ∃ k, _ = Value.str z k from r)
    cases e1
    rw [List.any_cons, List.any_cons, h, anyStr h t]
/-- a text's sake: the answer of a text beside the data -/
def isS (d : PyData) : Value → Bool
  | .str z _ => strIs z d
  | _ => false
theorem memStr {zs : List Str} {us : List Value} (r : Vals (zs.map V.str) us) {y : Value} (h : y ∈ us) : ∃ z k, y = .str z k := by
  induction zs generalizing us with
  | nil => cases r; cases h
  | cons z zs ih =>
    cases r with
    | cons r t =>
      rcases List.mem_cons.mp h with e | h
      · subst e
        obtain ⟨k, e1⟩ := (show ∃ k, y = Value.str z k from r)
        exact ⟨z, k, e1⟩
      · exact ih t h
/-- x in (texts), x any data -/
theorem op_inS (hu : X.A.units + 1 < cLine) : OpR X (compareOp .In) (fun x y H Q => ∃ (d : PyData) (a : Addr) (zs : List Str), Tr H x d ∧ y = .ref a ∧ (SqL X.K H a (zs.map V.str) ∨ SqT X.K H a (zs.map V.str)) ∧ Q (.bl (zs.any fun z => strIs z d)) H) := by
  intro pz s σ H x y v u Q I rx ry h
  obtain ⟨d, a, zs, t, rfl, hs, q⟩ := h
  cases (show u = .ref a from ry)
  rcases hs with hs | hs
  · obtain ⟨its, rv, pl, _⟩ := I.list hs
    refine SeqAt.in_listAt (isS d) pl.isList (fun y hy => ?_) ⟨.bl _, H, I, ?_, q⟩
    · obtain ⟨z, k, rfl⟩ := memStr rv (by simpa using hy)
      exact t.eqStr I rx (by show X.A.units + 1 < cLine; omega) z k
    · show Value.bool _ = Value.bool _
      rw [List.any_toArray, anyStr (e := isS d) (f := fun z => strIs z d) (fun _ _ => rfl) rv]
  · obtain ⟨its, rv, pl, _⟩ := I.tuple hs
    refine SeqAt.in_tupleAt (isS d) pl (fun y hy => ?_) ⟨.bl _, H, I, ?_, q⟩
    · obtain ⟨z, k, rfl⟩ := memStr rv (by simpa using hy)
      exact t.eqStr I rx (by show X.A.units + 1 < cLine; omega) z k
    · show Value.bool _ = Value.bool _
      rw [List.any_toArray, anyStr (e := isS d) (f := fun z => strIs z d) (fun _ _ => rfl) rv]
theorem op_notInS (hu : X.A.units + 1 < cLine) : OpR X (compareOp .NotIn) (fun x y H Q => ∃ (d : PyData) (a : Addr) (zs : List Str), Tr H x d ∧ y = .ref a ∧ (SqL X.K H a (zs.map V.str) ∨ SqT X.K H a (zs.map V.str)) ∧ Q (.bl (!zs.any fun z => strIs z d)) H) := by
  intro pz s σ H x y v u Q I rx ry h
  obtain ⟨d, a, zs, t, rfl, hs, q⟩ := h
  cases (show u = .ref a from ry)
  rcases hs with hs | hs
  · obtain ⟨its, rv, pl, _⟩ := I.list hs
    refine SeqAt.notIn_listAt (isS d) pl.isList (fun y hy => ?_) ⟨.bl _, H, I, ?_, q⟩
    · obtain ⟨z, k, rfl⟩ := memStr rv (by simpa using hy)
      exact t.eqStr I rx (by show X.A.units + 1 < cLine; omega) z k
    · show Value.bool _ = Value.bool _
      rw [List.any_toArray, anyStr (e := isS d) (f := fun z => strIs z d) (fun _ _ => rfl) rv]
  · obtain ⟨its, rv, pl, _⟩ := I.tuple hs
    refine SeqAt.notIn_tupleAt (isS d) pl (fun y hy => ?_) ⟨.bl _, H, I, ?_, q⟩
    · obtain ⟨z, k, rfl⟩ := memStr rv (by simpa using hy)
      exact t.eqStr I rx (by show X.A.units + 1 < cLine; omega) z k
    · show Value.bool _ = Value.bool _
      rw [List.any_toArray, anyStr (e := isS d) (f := fun z => strIs z d) (fun _ _ => rfl) rv]
end
end Pk
/-! ### repr of any data -/
namespace Pk
open PySem L2 PySem.Spec PyProof.Rows
section
variable {X : Cx} {pz : List (Addr × Obj)} {σ : L2.St} {H : Hp} {s : Shared}
mutual
theorem Tr.reprK (I : L2.Inv X pz σ H s) : ∀ {x : V} {d : PyData}, Tr H x d → ∀ v : Value, RelV x v → d.showable = true → d.shown.length ≤ sizeLine → ∃ bs, ReadAtMost s.heap d.depth bs ∧ ReprK X.prog X.w bs s.heap d.depth v d.shown
  | _, _, .non, v, r, _, _ => by
    cases (show v = .none from r)
    exact ⟨[], (fun _ h => nomatch h), by simp only [PyData.shown]; exact .of_is ReprIs.none _ _ _⟩
  | _, _, .bl b, v, r, _, _ => by
    cases (show v = .bool b from r)
    exact ⟨[], (fun _ h => nomatch h), by simp only [PyData.shown]; exact .of_is (ReprIs.bool b) _ _ _⟩
  | _, _, .int i, v, r, hs, _ => by
    obtain ⟨k, e⟩ := (show ∃ k, v = .int i k from r)
    cases e
    exact ⟨[], (fun _ h => nomatch h), by simp only [PyData.shown]; exact .of_is (ReprIs.int k (by simpa [PyData.showable] using hs)) _ _ _⟩
  | _, _, .str z, v, r, _, hz => by
    obtain ⟨k, e⟩ := (show ∃ k, v = .str z k from r)
    cases e
    exact ⟨[], (fun _ h => nomatch h), by simp only [PyData.shown]; exact .of_is (ReprIs.str z k (by simpa only [PyData.shown] using hz)) _ _ _⟩
  | _, _, @Tr.lst _ a xs ds h al, v, r, hs, hz => by
    cases (show v = .ref a from r)
    obtain ⟨_, its, n, rv, ho⟩ := (show ObjOk X.prog X.w H s.heap a (.lst xs) from I.hok a _ h)
    have zl : (listText (PyData.shownAll ds)).length ≤ sizeLine := by simpa only [PyData.shown] using hz
    obtain ⟨bs, hb, hk⟩ := TrAll.reprK I al its rv (by simpa [PyData.showable] using hs) (fun t ht => Nat.le_trans (listText_mem_le ht) zl)
    obtain ⟨as, r4⟩ := TrAll.reads I al its rv
    have r0 : Reads s.heap (.ref a) (.list ds) _ := .list ho rfl rfl (by simpa using r4)
    have na : a ∉ bs := not_mem_of_deeper r0 (by simp only [PyData.depth]; omega) hb
    refine ⟨a :: bs, ReadAtMost.cons r0 (by simp only [PyData.depth]; omega) hb, ?_⟩
    simp only [PyData.depth, PyData.shown]
    cases its with
    | nil =>
      cases r4
      simp only [PyData.shownAll, listText_nil]
      exact ReprK.listEmpty ho rfl rfl
    | cons y l => exact ReprK.list ho rfl rfl na (by simpa using hk.length_eq) (fun i y e => hk.item i y (by simpa using e))
  | _, _, @Tr.tup _ a xs ds h al, v, r, hs, hz => by
    cases (show v = .ref a from r)
    obtain ⟨_, its, rv, o, ho, hc, n, hd⟩ := (show ObjOk X.prog X.w H s.heap a (.tup xs) from I.hok a _ h)
    have zl : (tupleText (PyData.shownAll ds)).length ≤ sizeLine := by simpa only [PyData.shown] using hz
    obtain ⟨bs, hb, hk⟩ := TrAll.reprK I al its rv (by simpa [PyData.showable] using hs) (fun t ht => Nat.le_trans (tupleText_mem_le ht) zl)
    obtain ⟨as, r4⟩ := TrAll.reads I al its rv
    have r0 : Reads s.heap (.ref a) (.tuple ds) _ := .tuple ho hc hd (by simpa using r4)
    have na : a ∉ bs := not_mem_of_deeper r0 (by simp only [PyData.depth]; omega) hb
    refine ⟨a :: bs, ReadAtMost.cons r0 (by simp only [PyData.depth]; omega) hb, ?_⟩
    simp only [PyData.depth, PyData.shown]
    exact ReprK.tuple ho hc hd na (by simpa using hk)
  | _, _, @Tr.dct _ a kvs es h nd ek al, v, r, hs, hz => by
    cases (show v = .ref a from r)
    obtain ⟨_, hsys, vs, rel, o, des, ep, ho, hx, hd, _, pr, _⟩ := (show ObjOk X.prog X.w H s.heap a (.dK kvs) from I.hok a _ h)
    have zl : (dictText (PyData.shownKv es)).length ≤ sizeLine := by simpa only [PyData.shown] using hz
    obtain ⟨hs1, hs2⟩ := PyData.showableKv_split es (by simpa [PyData.showable] using hs)
    have r1 : ReadsAll s.heap (des.toList.map (·.key)) (es.map (·.1)) [] := by rw [ek]; exact reads_keys pr rel
    obtain ⟨b1, hb1, k1⟩ := ReprAllK.of_readsAll (prog := X.prog) (w := X.w) r1 hs1 (fun _ z => by cases z) (fun t ht => let ⟨p, hp, hl⟩ := PyData.shownKv_key_le es t ht; Nat.le_trans hl (Nat.le_trans (dictText_mem_le hp) zl))
    obtain ⟨b2, hb2, k2⟩ := TrAll.reprK I al _ (vals_of_pairs pr rel) hs2 (fun t ht => let ⟨p, hp, hl⟩ := PyData.shownKv_val_le es t ht; Nat.le_trans hl (Nat.le_trans (dictText_mem_le hp) zl))
    obtain ⟨as, r2⟩ := TrAll.reads I al _ (vals_of_pairs pr rel)
    have r0 : Reads s.heap (.ref a) (.dict es) _ := .dict ho hx.1 hd r1 r2
    have hb : ReadAtMost s.heap (PyData.depthKv es) (b1 ++ b2) := (hb1.mono (PyData.depthAll_keys_le es)).append (hb2.mono (PyData.depthAll_vals_le es))
    have na : a ∉ b1 ++ b2 := not_mem_of_deeper r0 (by simp only [PyData.depth]; omega) hb
    refine ⟨a :: (b1 ++ b2), ReadAtMost.cons r0 (by simp only [PyData.depth]; omega) hb, ?_⟩
    simp only [PyData.depth, PyData.shown, PyData.shownKv_eq]
    exact ReprK.dict ho hx.1 hd hsys na (ReprEntriesK.of_two des.toList _ _ (k1.more_le (fun b hb => List.mem_append_left _ hb) (PyData.depthAll_keys_le es)) (k2.more_le (fun b hb => List.mem_append_right _ hb) (PyData.depthAll_vals_le es)))
theorem TrAll.reprK (I : L2.Inv X pz σ H s) : ∀ {xs : List V} {ds : List PyData}, TrAll H xs ds → ∀ us : List Value, Vals xs us → PyData.showableAll ds = true → (∀ t ∈ PyData.shownAll ds, t.length ≤ sizeLine) →
    ∃ bs, ReadAtMost s.heap (PyData.depthAll ds) bs ∧ ReprAllK X.prog X.w bs s.heap (PyData.depthAll ds) us (PyData.shownAll ds)
  | _, _, .nil, us, r, _, _ => by
    cases r
    exact ⟨[], (fun _ h => nomatch h), by simp only [PyData.shownAll]; exact .nil⟩
  | _, _, @TrAll.cons _ x xs d ds h t, us, r, hs, hz => by
    cases r with
    | cons ra rb =>
      have hs' : d.showable = true ∧ PyData.showableAll ds = true := by simpa [PyData.showableAll] using hs
      obtain ⟨b1, hb1, k1⟩ := Tr.reprK I h _ ra hs'.1 (hz _ (by simp only [PyData.shownAll]; exact List.mem_cons_self ..))
      obtain ⟨b2, hb2, k2⟩ := TrAll.reprK I t _ rb hs'.2 (fun y hy => hz y (by simp only [PyData.shownAll]; exact List.mem_cons_of_mem _ hy))
      refine ⟨b1 ++ b2, ?_, ?_⟩
      · simp only [PyData.depthAll]
        exact (hb1.mono (Nat.le_max_left _ _)).append (hb2.mono (Nat.le_max_right _ _))
      · simp only [PyData.depthAll, PyData.shownAll]
        exact .cons ((k1.more fun b hb => List.mem_append_left _ hb).level_le (Nat.le_max_left _ _)) (k2.more_le (fun b hb => List.mem_append_right _ hb) (Nat.le_max_right _ _))
end
end
end Pk
namespace Pk
open PySem L2 PySem.Spec PyProof.Rows
/-- repr(x), x any data -/
theorem call_reprT {X : Cx} (hg : X.A.guards = some []) (hu : X.A.units + 100 < cLine) : CallR X (.builtin "repr") (fun xs H Q => ∃ (x : V) (d : PyData), xs = [x] ∧ Tr H x d ∧ d.showable = true ∧ d.depth ≤ 60 ∧ d.shown.length ≤ sizeLine ∧ Q (.str d.shown) H) := by
  intro pz s σ H xs us Q I r h
  obtain ⟨x, d, rfl, t, hs, hdep, hz, q⟩ := h
  cases r with
  | cons r1 r2 =>
  cases r2
  rename_i v
  have fin : ∀ (h' : Heap) (u tk : Tok), (∀ b o, s.heap.get? b = some o → h'.get? b = some o) → EP X pz σ Q (.str d.shown u) { s with heap := h', toks := tk } := fun h' u tk k => ⟨.str _, H, I.kept (t' := tk) k, ⟨u, rfl⟩, q⟩
  have fin0 : ∀ (u tk : Tok), EP X pz σ Q (.str d.shown u) { s with toks := tk } := fun u tk => fin s.heap u tk fun _ _ e => e
  cases t with
  | non =>
    cases (show v = .none from r1)
    simp only [PyData.shown] at fin0
    exact P.repr_of_none (fin0 _ _)
  | bl b =>
    cases (show v = .bool b from r1)
    simp only [PyData.shown] at fin0
    exact P.repr_of_bool (fin0 _ _)
  | int i =>
    obtain ⟨k, e⟩ := (show ∃ k, v = .int i k from r1)
    cases e
    simp only [PyData.shown] at fin0
    exact P.repr_of_int (by simpa [PyData.showable] using hs) (fin0 _ _)
  | str z =>
    obtain ⟨k, e⟩ := (show ∃ k, v = .str z k from r1)
    cases e
    simp only [PyData.shown] at fin0 hz
    exact P.repr_of_str (fin0 _ _) hz
  | @lst a xs ds h al =>
    cases (show v = .ref a from r1)
    obtain ⟨_, its, n, rv, ho⟩ := (show ObjOk X.prog X.w H s.heap a (.lst xs) from I.hok a _ h)
    have zl : (listText (PyData.shownAll ds)).length ≤ sizeLine := by simpa only [PyData.shown] using hz
    obtain ⟨bs, hb, hk⟩ := TrAll.reprK I al its rv (by simpa [PyData.showable] using hs) (fun t ht => Nat.le_trans (listText_mem_le ht) zl)
    obtain ⟨as, r4⟩ := TrAll.reads I al its rv
    have r0 : Reads s.heap (.ref a) (.list ds) _ := .list ho rfl rfl (by simpa using r4)
    have na : a ∉ bs := not_mem_of_deeper r0 (by simp only [PyData.depth]; omega) hb
    simp only [PyData.depth] at hdep
    simp only [PyData.shown] at fin
    refine call_repr_slot (by omega) ⟨_, ho, rfl⟩ F.slot_list_repr.toG ?_
    cases its with
    | nil =>
      cases r4
      simp only [listText_nil, PyData.shownAll] at fin
      exact call_list_repr_empty ⟨_, ho, rfl⟩ ho rfl ⟨_, _, rfl, fin s.heap _ _ fun _ _ e => e⟩
    | cons y l =>
      exact call_list_reprK (h₀ := s.heap) ho rfl rfl na (by simpa using hk.length_eq) (fun i y e => hk.item i y (by simpa using e)) hg (fun b _ => Clear.nil b) (by show X.A.units + 1 + (PyData.depthAll ds + 1) < cLine; omega) (fun _ _ e => e) (fun h' u tk k => ⟨_, _, rfl, fin h' u tk k⟩) zl
  | @tup a xs ds h al =>
    cases (show v = .ref a from r1)
    obtain ⟨_, its, rv, o, ho, hc, n, hd⟩ := (show ObjOk X.prog X.w H s.heap a (.tup xs) from I.hok a _ h)
    have zl : (tupleText (PyData.shownAll ds)).length ≤ sizeLine := by simpa only [PyData.shown] using hz
    obtain ⟨bs, hb, hk⟩ := TrAll.reprK I al its rv (by simpa [PyData.showable] using hs) (fun t ht => Nat.le_trans (tupleText_mem_le ht) zl)
    obtain ⟨as, r4⟩ := TrAll.reads I al its rv
    have r0 : Reads s.heap (.ref a) (.tuple ds) _ := .tuple ho hc hd (by simpa using r4)
    have na : a ∉ bs := not_mem_of_deeper r0 (by simp only [PyData.depth]; omega) hb
    simp only [PyData.depth] at hdep
    simp only [PyData.shown] at fin
    refine call_repr_slot (by omega) ⟨_, ho, hc⟩ F.slot_tuple_repr ?_
    exact call_tuple_reprK (h₀ := s.heap) ho hc hd na (by simpa using hk) hg (fun b _ => Clear.nil b) (by show X.A.units + 1 + (PyData.depthAll ds + 1) < cLine; omega) (fun _ _ e => e) (fun h' u tk k => ⟨_, _, rfl, fin h' u tk k⟩) zl
  | @dct a kvs es h nd ek al =>
    cases (show v = .ref a from r1)
    obtain ⟨_, hsys, vs, rel, o, des, ep, ho, hx, hd, _, pr, _⟩ := (show ObjOk X.prog X.w H s.heap a (.dK kvs) from I.hok a _ h)
    have zl : (dictText (PyData.shownKv es)).length ≤ sizeLine := by simpa only [PyData.shown] using hz
    obtain ⟨hs1, hs2⟩ := PyData.showableKv_split es (by simpa [PyData.showable] using hs)
    have rk : ReadsAll s.heap (des.toList.map (·.key)) (es.map (·.1)) [] := by rw [ek]; exact reads_keys pr rel
    obtain ⟨b1, hb1, k1⟩ := ReprAllK.of_readsAll (prog := X.prog) (w := X.w) rk hs1 (fun _ z => by cases z) (fun t ht => let ⟨p, hp, hl⟩ := PyData.shownKv_key_le es t ht; Nat.le_trans hl (Nat.le_trans (dictText_mem_le hp) zl))
    obtain ⟨b2, hb2, k2⟩ := TrAll.reprK I al _ (vals_of_pairs pr rel) hs2 (fun t ht => let ⟨p, hp, hl⟩ := PyData.shownKv_val_le es t ht; Nat.le_trans hl (Nat.le_trans (dictText_mem_le hp) zl))
    obtain ⟨as, r2⟩ := TrAll.reads I al _ (vals_of_pairs pr rel)
    have r0 : Reads s.heap (.ref a) (.dict es) _ := .dict ho hx.1 hd rk r2
    have hb : ReadAtMost s.heap (PyData.depthKv es) (b1 ++ b2) := (hb1.mono (PyData.depthAll_keys_le es)).append (hb2.mono (PyData.depthAll_vals_le es))
    have na : a ∉ b1 ++ b2 := not_mem_of_deeper r0 (by simp only [PyData.depth]; omega) hb
    simp only [PyData.depth] at hdep
    simp only [PyData.shown, PyData.shownKv_eq] at fin
    refine call_repr_slot (by omega) ⟨_, ho, hx.1⟩ F.slot_dict_repr ?_
    exact call_dict_reprK (h₀ := s.heap) ho hx.1 hd hsys na (ReprEntriesK.of_two des.toList _ _ (k1.more_le (fun b hb => List.mem_append_left _ hb) (PyData.depthAll_keys_le es)) (k2.more_le (fun b hb => List.mem_append_right _ hb) (PyData.depthAll_vals_le es)))
      hg (fun b _ => Clear.nil b) (by show X.A.units + 1 + (PyData.depthKv es + 1) < cLine; omega) (fun _ _ e => e) (fun h' u tk k => ⟨_, _, rfl, fin h' u tk k⟩) (by rw [← PyData.shownKv_eq]; exact zl)
/-! ### kinds -/
/-- the type's name -/
def tyD : PyData → String
  | .none => "NoneType"
  | .bool _ => "bool"
  | .int _ => "int"
  | .str _ => "str"
  | .list _ => "list"
  | .tuple _ => "tuple"
  | .dict _ => "dict"
theorem Tr.ty {K : PySem.W.Frag} {H : Hp} {x : V} {d : PyData} (t : Tr H x d) : TyX K H x (.type (tyD d)) := by
  cases t with
  | non => exact .base .non
  | bl b => exact .base (.bl b)
  | int i => exact .base (.int i)
  | str z => exact .base (.str z)
  | lst h _ => exact .base (.lst h)
  | tup h _ => exact .base (.tup h)
  | dct h _ _ _ => exact .base (.dK h)
/-- the answers of isinstance for the kinds of data -/
def isB : PyData → Bool
  | .bool _ => true
  | _ => false
def isI : PyData → Bool
  | .bool _ => true
  | .int _ => true
  | _ => false
def isStr : PyData → Bool
  | .str _ => true
  | _ => false
def isTup : PyData → Bool
  | .tuple _ => true
  | _ => false
def isLst : PyData → Bool
  | .list _ => true
  | _ => false
theorem kB : ∀ d : PyData, kitB (tyD d) "bool" = some (isB d) := by intro d; cases d <;> (simp only [tyD, isB]; decide +kernel)
theorem kI : ∀ d : PyData, kitB (tyD d) "int" = some (isI d) := by intro d; cases d <;> (simp only [tyD, isI]; decide +kernel)
theorem kS : ∀ d : PyData, kitB (tyD d) "str" = some (isStr d) := by intro d; cases d <;> (simp only [tyD, isStr]; decide +kernel)
theorem kT : ∀ d : PyData, kitB (tyD d) "tuple" = some (isTup d) := by intro d; cases d <;> (simp only [tyD, isTup]; decide +kernel)
theorem kL : ∀ d : PyData, kitB (tyD d) "list" = some (isLst d) := by intro d; cases d <;> (simp only [tyD, isLst]; decide +kernel)
/-- isinstance(e, T) -/
theorem call_isT {X : Cx} : CallR X (.builtin "isinstance") (fun xs H Q => ∃ (x : V) (T : String) (d : PyData) (g : PyData → Bool), xs = [x, .ty T] ∧ (∀ d, kitB (tyD d) T = some (g d)) ∧ Tr H x d ∧ Q (.bl (g d)) H) := by
  intro pz s σ H xs us Q I r h
  obtain ⟨x, T, d, g, rfl, hk, t, q⟩ := h
  exact call_isi pz s σ H _ us Q I r ⟨x, .ty T, _, _, _, rfl, .ty T, t.ty, kit_ty (hk d), q⟩
end Pk
/-! enumerate(a tuple) -/
namespace Pk
open PySem PySem.AutoSeq1
section
variable {prog : Program} {w : World} {A : Around} {E : Value → Shared → Prop} {s : Shared} {q t : Addr} {i : Nat} {its : Array Value}
theorem tupNext {x : Value} {Q : Value → Shared → Prop} (hq : s.heap.IsTupleIter q t i) (ht : s.heap.IsTuple t its) (hx : its[i]? = some x)
    (k : ∀ hz, hz.IsTupleIter q t (i + 1) → Heap.SameBut q s.heap hz → Q x { s with heap := hz }) : wpAny (model prog w) A (Builtin.SmallTypes.nextOf (.ref q)) Q E s := by
  obtain ⟨ob, g1, g2, g3⟩ := id hq
  obtain ⟨ot, g4, _, nt, g5⟩ := ht
  unfold Builtin.SmallTypes.nextOf
  refine wpAny_bind (wpAny_callSpecial?_slot (name := Str.ofString "__next__") hq.typeIs F.slot_tuple_iterator_next (wpAny_call_entry F.slot_tuple_iterator_next hq.typeIs F.entry_tuple_iterator_next ?_ (F.args_tuple_iterator_next_1 _)))
  show wpAny _ _ (field (.ref q) 0 >>= _) _ _ s
  refine wpAny_bind (wpAny_field g1 g3 (x := .ref t) rfl ?_)
  show wpAny _ _ (if (Value.ref t == Value.none) = true then _ else _) _ _ s
  rw [if_neg (show ¬ ((Value.ref t == Value.none) = true) from Bool.false_ne_true)]
  show wpAny _ _ (field (.ref q) 1 >>= _) _ _ s
  refine wpAny_bind (wpAny_field g1 g3 (x := .int i 0) rfl ?_)
  show wpAny _ _ (seqItems? (.ref t) >>= _) _ _ s
  refine wpAny_bind (wpAny_seqItems g4 g5 ?_)
  simp only [Int.toNat_natCast, hx]
  refine wpAny_bind (wpAny_setField g1 g3 (by simp) (wpAny_pure ⟨x, rfl, wpAny_pure (k _ ?_ (Heap.SameBut.update ..))⟩))
  exact ⟨_, Heap.get?_update_self _ g1 (Obj.isFreed_of_fields (Obj.data_mapFields g3 _)), (Obj.cls_mapFields ..).trans g2, by rw [Obj.data_mapFields g3]; simp [rawInt]⟩
theorem tupDone {Q : Value → Shared → Prop} (hh : A.handled = none) (hq : s.heap.IsTupleIter q t i) (ht : s.heap.IsTuple t its) (hx : its[i]? = none)
    (k : ∀ hz e, Heap.ExtBut q s.heap hz → (∃ o, hz.get? e = some o ∧ o.cls = .type "StopIteration") → E (.ref e) { s with heap := hz }) : wpAny (model prog w) A (Builtin.SmallTypes.nextOf (.ref q)) Q E s := by
  obtain ⟨ob, g1, g2, g3⟩ := id hq
  obtain ⟨ot, g4, _, nt, g5⟩ := ht
  unfold Builtin.SmallTypes.nextOf
  refine wpAny_bind (wpAny_callSpecial?_slot (name := Str.ofString "__next__") hq.typeIs F.slot_tuple_iterator_next (wpAny_call_entry F.slot_tuple_iterator_next hq.typeIs F.entry_tuple_iterator_next ?_ (F.args_tuple_iterator_next_1 _)))
  show wpAny _ _ (field (.ref q) 0 >>= _) _ _ s
  refine wpAny_bind (wpAny_field g1 g3 (x := .ref t) rfl ?_)
  show wpAny _ _ (if (Value.ref t == Value.none) = true then _ else _) _ _ s
  rw [if_neg (show ¬ ((Value.ref t == Value.none) = true) from Bool.false_ne_true)]
  show wpAny _ _ (field (.ref q) 1 >>= _) _ _ s
  refine wpAny_bind (wpAny_field g1 g3 (x := .int i 0) rfl ?_)
  show wpAny _ _ (seqItems? (.ref t) >>= _) _ _ s
  refine wpAny_bind (wpAny_seqItems g4 g5 ?_)
  simp only [Int.toNat_natCast, hx]
  refine wpAny_bind (wpAny_rule (wpAny_bind (wpAny_setField g1 g3 (by simp) ?_)))
  show wpAny _ _ (newExc (.type "StopIteration") [] >>= _) _ _ _
  refine wpAny_bind ?_
  simp only [newExc, newTuple]
  refine wpAny_bind (wpAny_newObj_type ?_ (by size_fits))
  refine wpAny_bind (m := firstArgMember _ _) (wpAny_of_eq (a := Value.none) (by first | rfl | (simp only [firstArgMember]; rfl)) ?_)
  refine wpAny_newObj_type ?_ (by size_fits)
  simp only [raiseNew]
  refine wpAny_bind (wpAny_handled ?_)
  first | rw [show A.in1.handled = none from hh] | rw [hh]
  refine wpAny_bind (wpAny_pure (wpAny_throw ?_))
  exact k _ _ (((Heap.SameBut.update ..).extBut.push _).push _) ⟨_, Heap.get?_push_size _ rfl, rfl⟩
end
theorem drawsTup {prog : Program} {w : World} {A : Around} (hh : A.handled = none) (q t : Addr) (hne : t ≠ q) (its : Array Value) : Draws prog w A q [q, t] its.size (fun i v => its[i]? = some v) (fun i h => h.IsTupleIter q t i ∧ h.IsTuple t its) where
  live := fun _ _ z => let ⟨o, ho, _⟩ := z.1; ⟨o, ho⟩
  frame := fun _ _ _ z hk => ⟨z.1.at fun o e => hk q (by simp) o e, let ⟨o, ho, r⟩ := z.2; ⟨o, hk t (by simp) o ho, r⟩⟩
  item := fun i s Q E hi z k => by
    refine tupNext z.1 z.2 (x := its[i]) (by simp [hi]) fun hz h1 h2 => ?_
    exact k _ hz s.toks (by simp [hi]) ⟨h1, let ⟨o, ho, r⟩ := z.2; ⟨o, (h2.2 t hne).trans ho, r⟩⟩ h2
  done := fun s Q E z k => tupDone hh z.1 z.2 (by simp) k
set_option maxHeartbeats 1000000 in
theorem enumNewTup (l : Addr) (its : Array Value) (n : Nat) (dd : Option Addr) (sl : Array (Option Value)) :
    Meets (Builtin.«enumerate.__new__» ⟨[.type "enumerate", .ref l], []⟩) (fun _ R s => s.heap.get? l = some { cls := .type "tuple", dict := dd, data := .seq its n, slots := sl } ∧
      R (.ok (.ret (.ref (s.heap.push { cls := .type "tuple_iterator", data := .fields #[.ref l, .int 0 0] }).objs.size)))
        { s with heap := (s.heap.push { cls := .type "tuple_iterator", data := .fields #[.ref l, .int 0 0] }).push { cls := .type "enumerate", data := .fields #[.none, .bool false, .ref s.heap.objs.size, rawInt 0, .none, .none] } }) :=
  .of_wp fun prog w A R s h => by
    obtain ⟨hp, g, d, tk, os⟩ := s
    obtain ⟨hl, h⟩ := h
    have hsub := sub_enumerate
    have hL : Heap.IsTuple (Shared.heap ⟨hp, g, d, tk, os⟩) l its := ⟨_, hl, rfl, n, rfl⟩
    wp_walk using wpAny_loadPart' hl
    refine wpAny_stack_any fun st => wpAny_pure ?_
    split
    · rename_i c _ _ _ _ _
      cases (c == Value.type "enumerate")
      · wp_walk using wpAny_loadPart' hl, wpAny_pyIter_tuple hL
        exact ⟨_, rfl, h⟩
      · wp_walk using wpAny_loadPart' hl, wpAny_pyIter_tuple hL
        exact ⟨_, rfl, h⟩
    · wp_walk using wpAny_loadPart' hl, wpAny_pyIter_tuple hL
      exact ⟨_, rfl, h⟩
theorem callEnumTup {prog : Program} {w : World} {A : Around} {E : Value → Shared → Prop} {s : Shared} {l : Addr} {its : Array Value} {Q : Value → Shared → Prop} (hL : s.heap.IsTuple l its)
    (k : ∀ hz, IsEnum hz (s.heap.objs.size + 1) s.heap.objs.size 0 .none → hz.IsTupleIter s.heap.objs.size l 0 → (∀ b o, s.heap.get? b = some o → hz.get? b = some o) → Q (.ref (s.heap.objs.size + 1)) { s with heap := hz }) :
    wpAny (model prog w) A (call (.type "enumerate") [.ref l]) Q E s := by
  obtain ⟨⟨c, dd, dt, sl⟩, hl, hc, n, hd⟩ := hL
  dsimp only at hc hd
  subst hc hd
  refine callType_new F.called_enumerate (by decide) (F.typeCall_enumerate_1 _) (F.newCall_enumerate_1 _) (fun obj => F.args_object_init_2 obj _) F.entry_enumerate_new (enumNewTup l its n dd sl) ⟨hl, ?_⟩
  have z1 : (s.heap.push { cls := .type "tuple_iterator", data := .fields #[.ref l, .int 0 0] }).objs.size = s.heap.objs.size + 1 := Heap.size_push ..
  show _ ∧ _
  rw [z1]
  have he : IsEnum ((s.heap.push { cls := .type "tuple_iterator", data := .fields #[.ref l, .int 0 0] }).push { cls := .type "enumerate", data := .fields #[.none, .bool false, .ref s.heap.objs.size, rawInt 0, .none, .none] }) (s.heap.objs.size + 1) s.heap.objs.size 0 .none := by
    have z2 := Heap.get?_push_size (s.heap.push { cls := .type "tuple_iterator", data := .fields #[.ref l, .int 0 0] }) (o := { cls := .type "enumerate", data := .fields #[.none, .bool false, .ref s.heap.objs.size, rawInt 0, .none, .none] }) rfl
    rw [z1] at z2
    exact z2
  exact ⟨⟨_, he, rfl⟩, k _ he ⟨_, Heap.get?_push_of_some _ (Heap.get?_push_size _ rfl), rfl, rfl⟩ fun b o x => Heap.get?_push_of_some _ (Heap.get?_push_of_some _ x)⟩
end Pk
namespace Pk
open PySem L2 PySem.Spec PyProof.Rows
/-- the items of the tuple at a, each with its number in a new pair -/
def IteT (K : PySem.W.Frag) (a : Addr) : It :=
  ⟨fun i H => ∃ (xs : List V) (x : V), SqT K H a xs ∧ xs[i]? = some x, fun i H v H' => ∃ T x, v = .ref T ∧ H T = none ∧ H' = upd H T (.tup [.int (i : Nat), x]) ∧ ∀ xs, SqT K H a xs → xs[i]? = some x, fun i H => ∃ xs : List V, SqT K H a xs ∧ xs.length ≤ i⟩
theorem turnEnumT {P : Program} {w : World} {K : PySem.W.Frag} {elts : List Expr} {kk : Nat} {tp : Pos} (a e it : Addr) :
    Turn P w K (.Tuple elts kk tp) (IteT K a) [e, it] e (fun i h => (∃ old, IsEnum h e it ((i : Nat) : Int) old) ∧ h.IsTupleIter it a i ∧ e ≠ it ∧ a ≠ it ∧ e ≠ a) where
  mem := by simp
  obj := fun i h z b hb => by
    obtain ⟨⟨old, he⟩, ⟨o, ho, hc, hd⟩, _⟩ := z
    rcases (show b = e ∨ b = it by simpa using hb) with y | y
    · rw [y]; exact ⟨_, he, fun v q => nomatch q⟩
    · rw [y]; exact ⟨o, ho, fun v q => by rw [hd] at q; cases q⟩
  keep := fun i h h' z k => let ⟨⟨old, he⟩, hi, hne⟩ := z; ⟨⟨old, k e (by simp) _ he⟩, hi.at fun o q => k it (by simp) o q, hne⟩
  item := by
    intro X hP hw hK hc i pz s σ H E I hf z hg
    subst hP hw hK
    obtain ⟨⟨old, he⟩, hit, hne, hai, hea⟩ := z
    obtain ⟨xs, x, hq, hx⟩ := hg
    obtain ⟨its, rv, p, hz⟩ := I.tuple hq
    obtain ⟨u, hu, ru⟩ := rv.get hx
    have l1 : e < s.heap.objs.size := Heap.lt_size he
    have l2 : it < s.heap.objs.size := by obtain ⟨_, y, _⟩ := hit; exact Heap.lt_size y
    have hlt : i < its.toArray.size := by
      have y := (List.getElem?_eq_some_iff.mp hu).1
      simpa using y
    refine wpAny_pyNext_enum_itemD (drawsTup (show X.A.in1.handled = none from I.ok.hd hc) it a hai its.toArray) he ⟨hit, p⟩ hlt hne (by simp; exact ⟨hne, hea⟩) fun y h' tk hy ho hs' hT hsz hk => ?_
    have eu : y = u := by
      have y1 : its.toArray[i]? = some u := by simpa using hu
      rw [hy] at y1
      exact Option.some.inj y1
    subst eu
    refine ⟨_, rfl, wpAny_letOwnedTupleGo_enum (s := { s with heap := h', toks := tk + 1 }) ho fun h'' he' sb => ?_⟩
    have hT2 : h''.get? s.heap.objs.size = some { cls := .type "tuple", data := .seq #[.int i tk, y] } := (sb.2 _ (Nat.ne_of_gt l1)).trans hT
    have new : ObjOk X.prog X.w (upd H s.heap.objs.size (.tup [.int (i : Nat), x])) h'' s.heap.objs.size (.tup [.int (i : Nat), x]) :=
      ⟨by show 2 ≤ sizeLine; decide, [.int i tk, y], .cons ⟨_, rfl⟩ (.cons ru .nil), ⟨_, hT2, rfl, _, rfl⟩⟩
    have Ia : L2.Inv X pz σ (upd H s.heap.objs.size (.tup [.int (i : Nat), x])) { s with heap := h'', toks := tk + 1 } :=
      I.turnedNew (ch := [e, it]) (fun b ob hb q => (sb.2 b (fun z => hb (by simp [z]))).trans (hk b ob (fun z => hb (by simp [z])) (fun z => hb (by simp [z])) q)) hf (Nat.le_refl _) new
    refine ⟨.ref s.heap.objs.size, _, Ia, rfl, ⟨_, x, rfl, I.hok.fresh (Nat.le_refl _), rfl, fun ys hy => by rw [I.tuple_inj hy hq]; exact hx⟩, ⟨⟨y, ?_⟩, hs'.1.at fun o q => (sb.2 it (Ne.symm hne)).trans q, hne, hai, hea⟩, fun b hb => ?_⟩
    · have y1 : ((i + 1 : Nat) : Int) = (i : Int) + 1 := by omega
      rw [y1]
      exact he'
    · have hb' : b < s.heap.objs.size := by
        rcases (show b = e ∨ b = it by simpa using hb) with z | z
        · rw [z]; exact l1
        · rw [z]; exact l2
      rw [upd_ne (Nat.ne_of_lt hb')]
      exact (hf b hb).1
  done := by
    intro X hP hw hK hc i pz s σ H E I hf z hg
    subst hP hw hK
    obtain ⟨⟨old, he⟩, hit, hne, hai, hea⟩ := z
    obtain ⟨xs, hq, hx⟩ := hg
    obtain ⟨its, rv, p, hz⟩ := I.tuple hq
    obtain ⟨f0, f1, f2, f3, f4, f5⟩ := hf it (by simp)
    have hl := rv.length
    have hT : s.TypeIs (.ref e) "enumerate" := ⟨_, he, rfl⟩
    unfold pyNext
    refine wpAny_bind (wpAny_attempt (wpAny_callSpecial?_slot (name := Str.ofString "__next__") hT F.slot_enumerate_next (wpAny_call_entry F.slot_enumerate_next hT F.entry_enumerate_next ?_ (F.args_enumerate_next_1 _))))
    show wpAny _ _ (field (.ref e) 2 >>= _) _ _ _
    refine wpAny_bind (wpAny_field he rfl (x := .ref it) rfl ?_)
    refine wpAny_bind (tupDone (show X.A.in1.handled = none from I.ok.hd hc) hit (show s.heap.IsTuple a its.toArray from p) (by simp; omega) fun h' x he' hx' => ?_)
    obtain ⟨o, ho, hcl⟩ := hx'
    refine wpAny_bind (wpAny_isInstance (T := "StopIteration") (b := true) ⟨o, ho, hcl⟩ isSubtype_stop ?_)
    exact wpAny_pure ⟨rfl, I.turned (t' := s.toks) (fun b o hb q => he' b o hb q) f0 f1 f3 f4 f5⟩
  self := fun A i s Q E z h => let ⟨⟨_, he⟩, _⟩ := z; wpAny_pyIter_enum he h
def iEnumT (K : PySem.W.Frag) (ta : TA) : TI := fun σ H R => ta σ H fun va Ha => ∃ a xs, va = [.ref a] ∧ SqT K Ha a xs ∧ R (IteT K a) Ha
theorem pi_enumT {X : Cx} {e : Expr} {ta : TA} {p pos tp : Pos} {elts : List Expr} {kk : Nat} (hg : Gl X "enumerate") (hm : X.mg "enumerate" = none) (ha : PA X [e] ta) (hs : starEach [e] X.env = [(false, eval e X.env)] := by rfl) :
    PI X (.Tuple elts kk tp) (.Call (.Name "enumerate" p) [e] [] pos) (iEnumT X.K ta) := by
  refine ⟨fun pz s σ H R I h => ?_⟩
  refine Call_ (ld_blt I hg hm boot_enumerate (PyProof.Rows.callWith_type1 (thn (ha.run pos pz s σ H _ I h) fun ua sa ⟨va, Ha, Ia, ra, qa⟩ => ?_) hs rfl))
  obtain ⟨a, xs, ex, hq, q⟩ := qa
  subst ex
  cases ra with
  | cons r rr =>
    cases rr
    cases (show _ = Value.ref a from r)
    obtain ⟨its, rv, p', hz⟩ := Ia.tuple hq
    have la : a < sa.heap.objs.size := by obtain ⟨_, y, _⟩ := p'; exact Heap.lt_size y
    refine callEnumTup p' fun hz' he hit hk => wpAny_pyIter_enum he ?_
    have Ib : L2.Inv X pz σ Ha { sa with heap := hz' } := Ia.kept (t' := sa.toks) hk
    refine ⟨sa.heap.objs.size + 1, [sa.heap.objs.size + 1, sa.heap.objs.size], _, _, Ha, rfl, Ib, turnEnumT a (sa.heap.objs.size + 1) sa.heap.objs.size, ⟨⟨.none, he⟩, hit, Nat.succ_ne_self _, Nat.ne_of_lt la, Nat.ne_of_gt (Nat.lt_succ_of_lt la)⟩, fun b hb => ?_, q⟩
    have hle : sa.heap.objs.size ≤ b := by
      rcases (show b = sa.heap.objs.size + 1 ∨ b = sa.heap.objs.size by simpa using hb) with z | z
      · rw [z]; exact Nat.le_succ _
      · rw [z]; exact Nat.le_refl _
    exact Ia.fpOk hle (Ia.hok.fresh hle)
end Pk
namespace Pk
open PySem L2 PySem.Spec PyProof.Rows GxR
/-- 'a' <= sign <= 'z' -/
def smallC (c : Nat) : Bool := decide (97 ≤ c) && decide (c ≤ 122)
theorem lt1 (a b : Nat) : decide (([a] : List Nat) < [b]) = decide (a < b) := by
  by_cases h : a < b
  · rw [decide_eq_true h]
    exact decide_eq_true (by simp [List.cons_lt_cons_iff, h])
  · rw [decide_eq_false h]
    exact decide_eq_false (by simp [List.cons_lt_cons_iff, h])
theorem elt_az {prog : Program} {w : World} {scope : Scope} {x : Str} {j1 j2 : Nat} {p1 p2 p3 p4 : Pos} (hk : scope.kind = .function) (hl : scope.names.lookup x = some .local) (hd : (x == ("__debug__" : Str)) = false := by decide) :
    EltP prog w scope x (.Compare (.Constant (.str "a") j1 p1) [.LtE, .LtE] [.Name x p2, .Constant (.str "z") j2 p3] p4) smallC := by
  intro cenv A' E' c t sz m hs hn hm
  have e1 : (!decide ((⟨#[c]⟩ : Str).cps.toList < ("a" : Str).cps.toList)) = decide (97 ≤ c) := by
    show (!decide ([c] < [97])) = decide (97 ≤ c)
    rw [lt1]
    by_cases h : c < 97
    · rw [decide_eq_true h, decide_eq_false (by omega)]; rfl
    · rw [decide_eq_false h, decide_eq_true (by omega)]; rfl
  have e2 : (!decide (("z" : Str).cps.toList < (⟨#[c]⟩ : Str).cps.toList)) = decide (c ≤ 122) := by
    show (!decide ([122] < [c])) = decide (c ≤ 122)
    rw [lt1]
    by_cases h : 122 < c
    · rw [decide_eq_true h, decide_eq_false (by omega)]; rfl
    · rw [decide_eq_false h, decide_eq_true (by omega)]; rfl
  refine Compare_chain (Calls.Constant_str (chain_link (wpAny_Name (wpAny_loadName_local (by rw [hs]; exact hk) (show cenv.scope.names.lookup x = some .local by rw [hs]; exact hl) hn hm ?_) hd))) (by with_unfolding_all rfl)
  refine PySem.P.le_str ?_
  rw [e1]
  refine wpAny_truthy_bool ?_
  cases h1 : decide (97 ≤ c) with
  | false => exact ite_ff ⟨by unfold smallC; rw [h1]; rfl, keeps_tok _ _⟩
  | true =>
    refine ite_tt (chain_last (Calls.Constant_str (PySem.P.le_str ?_)))
    rw [e2]
    exact ⟨by unfold smallC; rw [h1]; rfl, keeps_tok _ _⟩
/-! ### x in a tuple of data -/
section
variable {X : Cx}
theorem op_inDT (hu : X.A.units + 65 < cLine) : OpR X (compareOp .In) (fun x y H Q => ∃ (d : PyData) (ds : List PyData), Dp X.K H x d ∧ Dp X.K H y (.tuple ds) ∧ SeqAt.shaped d = true ∧ SeqAt.shaped (.tuple ds) = true ∧ Q (.bl (ds.any fun z => PyData.eqv z d)) H) := by
  intro pz s σ H x y v u Q I rx ry h
  obtain ⟨d, ds, hd, he, sd, se, q⟩ := h
  obtain ⟨as, r1⟩ := Dp.reads I d x v hd rx
  obtain ⟨bs, r2⟩ := Dp.reads I (.tuple ds) y u he ry
  exact SeqAt.in_tuple_reads r2 r1 (SeqAt.canLay_of_shaped se) (SeqAt.canLay_of_shaped sd) (room_in_shaped sd hu) ⟨.bl _, H, I, rfl, q⟩
end
end Pk
namespace Pk
open PySem L2 PySem.Spec PyProof.Rows
/-- the law's call from outside, with tables of code objects (cs: code object, its table) -/
theorem lawGT {P : Program} {w : World} {K : PySem.W.Frag} {mg mb : Str → Option Value} {k : Nat} {fa a : Addr} {cs : List (Addr × Addr)} {fd : FuncData} {x : Str} {sp : Sp} {sz : Shared} {va : List Value} {ns : List Int}
    (inK : K.In sz.heap) (hn : sz.heap.Ns mainGlobals mg) (hbn : sz.heap.Ns builtinsNs mb) (hbb : ∀ x : Str, x ≠ "__name__" → mb x = bootBuiltins x) (noL : sz.heap.NoLimit) (hgn : sz.gens = #[])
    (tabs : ∀ p ∈ cs, sz.heap.get? p.2 = some { cls := .none, data := .fields #[] }) (notK : ∀ p ∈ cs, K.lookup p.2 = none) (hds : ∀ p ∈ cs, PySem.W.CodeHd sz.heap p.1 p.2)
    (hbm : ∃ (bm : Addr) (ob : Obj), mg "__builtins__" = some (.ref bm) ∧ bm ≠ builtinsNs ∧ sz.heap.get? bm = some ob ∧ ob.cls = .type "module" ∧ ob.dict = some builtinsNs ∧ ob.data = .plain)
    (ha : sz.heap.get? a = some { cls := .type "list", data := .seq va.toArray }) (hi : IntsAre va ns) (hl : ns.length ≤ sizeLine) (hr : Room k callerA)
    (G : ∀ bs : Heap, K.In bs → bs.Ns mainGlobals mg → (∀ p ∈ cs, GxR.TabB bs mg p.1 p.2) → FnG P w K mg bs k fa fd [x] sp) (hbt : ∀ (s : Shared) (u : Value), BindsTo s fd ⟨[u], []⟩ [(x, u)])
    (hq : ∀ H : Hp, (∀ p ∈ cs, H p.2 = some (.tbl #[])) → SqL K H a (ns.map V.int) → sp [.ref a] H (fun v _ => v = .bl true) fun _ _ _ => False) :
    codeAny (model P w) callerA (.call (.ref fa) ⟨[.ref a], []⟩) (fun r s' => r = .ok (.ret (.bool true)) ∧ OldK sz.heap s'.heap ∧ s'.os = sz.os ∧ AllBare s'.gens) sz := by
  have rr := vals_ints hi
  have ln := hi.length
  have isTab : ∀ b : Addr, b ∈ cs.map (·.2) → sz.heap.get? b = some { cls := .none, data := .fields #[] } := fun b hb => by
    obtain ⟨p, hp, e⟩ := List.mem_map.mp hb
    subst e
    exact tabs p hp
  have noTab : a ∉ cs.map (·.2) := fun z => by
    have y := (isTab a z).symm.trans ha
    cases y
  have inT : ∀ p ∈ cs, p.2 ∈ cs.map (·.2) := fun p hp => List.mem_map.mpr ⟨p, hp, rfl⟩
  have main : ∀ H : Hp, (∀ p ∈ cs, H p.2 = some (.tbl #[])) → (∀ b u, H b = some u → b ∈ cs.map (·.2) ∨ (b = a ∧ ∃ o xs, u = .frz o (.lst xs))) → SqL K H a (ns.map V.int) → HOk P w H sz.heap → (H a ≠ none → K.lookup a = none) →
      codeAny (model P w) callerA (.call (.ref fa) ⟨[.ref a], []⟩) (fun r s' => r = .ok (.ret (.bool true)) ∧ OldK sz.heap s'.heap ∧ s'.os = sz.os ∧ AllBare s'.gens) sz := by
    intro H hT only hS hok hK
    have free : ∀ {b : Addr} {o : Obj}, sz.heap.get? b = some o → (∀ v n, o.data ≠ .seq v n) → o.data ≠ .fields #[] → H b = none := fun {b o} e n1 n2 => by
      cases z : H b with
      | none => rfl
      | some u =>
        rcases only b u z with y | ⟨y, _⟩
        · rw [isTab b y] at e
          cases e
          exact (n2 rfl).elim
        · rw [y, ha] at e
          cases e
          exact (n1 _ _ rfl).elim
    have freeD : ∀ {b : Addr} {o : Obj} {es : Array DictEntry} {ep : Nat}, sz.heap.get? b = some o → o.data = .dict es ep → H b = none := fun {b o es ep} e d => free e (fun v n z => by rw [d] at z; cases z) fun z => by rw [d] at z; cases z
    have nsB : ∀ {b : Addr} {m : Str → Option Value}, sz.heap.Ns b m → (hidT sz.heap H).Ns b m := fun {b m} ⟨o, es, ep, e, d, z⟩ => ⟨o, es, ep, hidT_get e (freeD e d), d, z⟩
    have kB : K.In (hidT sz.heap H) := fun b o e => hidT_get (inK b o e) (by
      cases z : H b with
      | none => rfl
      | some u =>
        rcases only b u z with y | ⟨y, _⟩
        · obtain ⟨p, hp, ep⟩ := List.mem_map.mp y
          subst ep
          rw [notK p hp] at e
          cases e
        · subst y
          rw [hK (by rw [z]; simp)] at e
          cases e)
    have md : L2.Mod K mg (hidT sz.heap H) := ⟨kB, nsB hn, ⟨mb, nsB hbn, hbb⟩, let ⟨mc, z1, z2⟩ := noL; ⟨mc, nsB z1, z2⟩⟩
    have tb : ∀ p ∈ cs, GxR.TabB (hidT sz.heap H) mg p.1 p.2 := fun p hp => by
      have tp := tabs p hp
      refine ⟨?_, ?_, fun z => ?_⟩
      · obtain ⟨o, us, file, tf, flags, tg, inF, text, tt, e1, g1, g2, g3, g4, g5, g6, g7, g8, g9⟩ := hds p hp
        refine ⟨o, us, file, tf, flags, tg, inF, text, tt, hidT_get e1 (free e1 (fun v n z => ?_) fun z => ?_), g1, g2, g3, g4, g5, g6, g7, g8, g9⟩
        · rw [g2] at z
          cases z
        · rw [g2] at z
          cases z
          simp at g3
      · obtain ⟨bm, ob, b1, b2, b3, b4, b5, b6⟩ := hbm
        have n1 : bm ≠ mainGlobals := fun q => by
          obtain ⟨o, es, ep, e, hd, _⟩ := hn
          subst q
          rw [e] at b3
          cases b3
          rw [hd] at b6
          cases b6
        have n2 : bm ≠ p.2 := fun q => by
          subst q
          rw [tp] at b3
          cases b3
          cases b6
        exact ⟨bm, ob, b1, b2, n1, n2, hidT_get b3 (free b3 (fun v n z => by rw [b6] at z; cases z) fun z => by rw [b6] at z; cases z), b4, b5, b6⟩
      · obtain ⟨o, es, ep, e, hd, _⟩ := hn
        rw [z, tp] at e
        cases e
        cases hd
    have ez : Env0 P w K mg (hidT sz.heap H) callerA [] sz H := ⟨rfl, md, fun b o e => of_hidT e, Nat.le_of_eq (hidT_size _ _), trivial, fun b hb => absurd (show b ∈ ([] : List Addr) from hb) (by simp), hok, .of_eq hgn⟩
    refine codeAny_mono ((G _ kB (nsB hn) tb).run callerA [] sz H ⟨[.ref a], []⟩ [.ref a] [.ref a] _ _ rfl hr ez (hbt sz (.ref a)) (.cons rfl .nil) (hq H hT hS)) fun rz sy hy => ?_
    cases rz with
    | error e => exact hy.elim
    | ok fl =>
      cases fl with
      | next => exact hy.elim
      | brk => exact hy.elim
      | cont => exact hy.elim
      | ret u =>
        obtain ⟨v, Hy, osy, bry, un, oky, rv, qy⟩ := hy
        cases (show v = .bl true from qy)
        cases (show u = Value.bool true from rv)
        have same : ∀ b o, b ∉ cs.map (·.2) → sz.heap.get? b = some o → sy.heap.get? b = some o := fun b o nb e => by
          cases z : H b with
          | none => exact un.keep b o e z (fun q => absurd (show b ∈ ([] : List Addr) from q) (by simp)) (by simp)
          | some u =>
            rcases only b u z with y | ⟨_, ob, xs, y⟩
            · exact absurd y nb
            · subst y
              obtain ⟨g1, _⟩ := hok b _ z
              obtain ⟨g2, _⟩ := oky b _ (un.frzs b ob _ z)
              rw [e] at g1
              cases g1
              exact g2
        have grown : ∀ p ∈ cs, ∃ more : Array Value, sy.heap.get? p.2 = some { cls := .none, data := .fields more } := fun p hp => by
          obtain ⟨more, z⟩ := un.tbls p.2 #[] (hT p hp)
          exact ⟨_, oky p.2 _ z⟩
        refine ⟨rfl, ⟨fun b o e => ?_, fun b o e => ?_⟩, osy, bry⟩
        · by_cases hb : b ∈ cs.map (·.2)
          · obtain ⟨p, hp, ep⟩ := List.mem_map.mp hb
            subst ep
            obtain ⟨more, hm⟩ := grown p hp
            rw [tabs p hp] at e
            cases e
            exact .inr (.inl ⟨((hds p hp).tab (tabs p hp)).isCodeTable, rfl, #[], more, rfl, by rw [Array.empty_append]; exact hm⟩)
          · exact .inl (same b o hb e)
        · by_cases hb : b ∈ cs.map (·.2)
          · obtain ⟨p, hp, ep⟩ := List.mem_map.mp hb
            subst ep
            obtain ⟨more, hm⟩ := grown p hp
            exact ⟨_, hm⟩
          · exact ⟨o, same b o hb e⟩
  cases hk : K.lookup a with
  | some o =>
    have e := inK a o hk
    rw [ha] at e
    cases e
    refine main (fun b => if b ∈ cs.map (·.2) then some (.tbl #[]) else none) (fun p hp => if_pos (inT p hp)) (fun b u z => ?_) (.inr ⟨_, va.toArray, _, hk, rfl, rfl, rfl, by rw [List.size_toArray, ln]; exact hl, by simpa using rr⟩) (fun b u z => ?_) fun z => absurd (show (if a ∈ cs.map (·.2) then some (HO.tbl #[]) else none) = none from if_neg noTab) z
    · by_cases hb : b ∈ cs.map (·.2)
      · exact .inl hb
      · cases (if_neg hb).symm.trans z
    · by_cases hb : b ∈ cs.map (·.2)
      · cases (if_pos hb).symm.trans z
        exact isTab b hb
      · cases (if_neg hb).symm.trans z
  | none =>
    refine main (fun b => if b = a then some (.frz { cls := .type "list", data := .seq va.toArray } (.lst (ns.map V.int))) else if b ∈ cs.map (·.2) then some (.tbl #[]) else none)
      (fun p hp => (if_neg (show ¬ p.2 = a from fun z => noTab (by rw [← z]; exact inT p hp))).trans (if_pos (inT p hp))) (fun b u z => ?_) (.inl (.inr ⟨{ cls := .type "list", data := .seq va.toArray }, if_pos rfl⟩)) (fun b u z => ?_) fun _ => hk
    · by_cases hb : b = a
      · cases (if_pos hb).symm.trans z
        exact .inr ⟨hb, _, _, rfl⟩
      · by_cases hb2 : b ∈ cs.map (·.2)
        · exact .inl hb2
        · cases ((if_neg hb).trans (if_neg hb2)).symm.trans z
    · by_cases hb : b = a
      · cases (if_pos hb).symm.trans z
        subst hb
        exact ⟨ha, by rw [List.length_map]; exact hl, va, _, rr, ha⟩
      · by_cases hb2 : b ∈ cs.map (·.2)
        · cases ((if_neg hb).trans (if_pos hb2)).symm.trans z
          exact isTab b hb2
        · cases ((if_neg hb).trans (if_neg hb2)).symm.trans z
/-- the goal that the head leaves, from the law's promise; nms: the defs that hold generator expressions -/
theorem walkGT {l : PySem.W.OpenLaw} {n k : Nat} {q : Program} {loose : List Str} {XP : (Str → Option Value) → Heap → Prop} {YP : World → Heap → Prop} {d : DefRec} {K : Params → PySem.W.Frag} {sp : PySem.W.Frag → List (Addr × Addr) → Sp} {x : Str}
    (hr : Room k callerA) (hn : l.most = some n) (hn2 : n ≤ sizeLine) (hdf : d.params.defaults = []) (hY : ∀ (w : World) (h : Heap), YP w h → (K w.params).In h)
    (G : ∀ (w : World) (mg : Str → Option Value) (fa : Addr) (h : Heap), (K w.params).In h → h.Ns mainGlobals mg → mg d.name = some (.ref fa) →
      ∃ (fd : FuncData) (cs : List (Addr × Addr)), (∀ p ∈ cs, ∃ (y : Str) (dr : DefRec), (recsOf q).find? (fun e => e.name == y) = some dr ∧ PySem.W.tabIn (K w.params) y = some p ∧ (K w.params).lookup p.2 = none) ∧
        (∀ (s : Shared) (u : Value), BindsTo s fd ⟨[u], []⟩ [(x, u)]) ∧ ∀ bs : Heap, (K w.params).In bs → bs.Ns mainGlobals mg → (∀ p ∈ cs, GxR.TabB bs mg p.1 p.2) → FnG l.prog w (K w.params) mg bs k fa fd [x] (sp (K w.params) cs))
    (hq : ∀ (K : PySem.W.Frag) (cs : List (Addr × Addr)) (H : Hp) (a : Addr) (ns : List Int), ns.length ≤ n → (∀ p ∈ cs, H p.2 = some (.tbl #[])) → SqL K H a (ns.map V.int) → sp K cs [.ref a] H (fun v _ => v = .bl true) fun _ _ _ => False) :
    PySem.W.WalkO q loose XP YP l.row.toRowW d [] (fun f va => PySem.call f va) := by
  refine Att.attach_call hn hdf fun w sy sz mg mb fa o pm cd doc a va ns Gr Y ho hd hcd hmg hob hin hle hgn => ?_
  have inK := hY w _ Y
  obtain ⟨fd, cs, hcs, hbt, hG⟩ := G w mg fa _ inK Gr.T.g hmg
  have tb : ∀ p ∈ cs, PySem.W.CodeHd sz.heap p.1 p.2 ∧ sz.heap.get? p.2 = some { cls := .none, data := .fields #[] } := fun p hp => by
    obtain ⟨y, dr, h1, h2, _⟩ := hcs p hp
    exact PySem.W.tab_of Gr.T inK h1 h2
  exact lawGT inK Gr.T.g Gr.T.b Gr.T.builtins Gr.T.nolimit hgn (fun p hp => (tb p hp).2) (fun p hp => let ⟨_, _, _, _, z⟩ := hcs p hp; z) (fun p hp => (tb p hp).1) Gr.T.bmain hob hin (Nat.le_trans hle hn2) hr hG hbt fun H hT hS => hq _ cs H a ns hle hT hS
end Pk
section
set_option maxHeartbeats 1000000
/-! Rules of my own: a list beside the empty one; a truth as a number; a tuple turned about; not in a list of data. -/
namespace Pk
open PySem L2
section
variable {X : Cx}
theorem op_eqNil (hu : X.A.units < cLine) : OpR X (compareOp .Eq) (fun x y H Q => ∃ (a b : Addr) (xs : List V), x = .ref a ∧ y = .ref b ∧ SqL X.K H a xs ∧ SqL X.K H b [] ∧ Q (.bl xs.isEmpty) H) := by
  intro pz s σ H x y v u Q I rx ry h
  obtain ⟨a, b, xs, rfl, rfl, ha, hb, q⟩ := h
  cases rx
  cases ry
  obtain ⟨its, r, hl, _⟩ := I.list ha
  obtain ⟨its2, r2, hl2, _⟩ := I.list hb
  cases r2
  cases r with
  | nil => exact SeqAt.eq_listAt (e := fun _ => true) hl.isList hl2.isList rfl hu (fun j h1 => absurd h1 (by simp)) ⟨.bl true, H, I, rfl, q⟩
  | cons _ _ => exact SeqAt.eq_list_lengthsAt hl.isList hl2.isList (by simp) hu ⟨.bl false, H, I, rfl, q⟩
theorem op_neNil (hu : X.A.units < cLine) : OpR X (compareOp .NotEq) (fun x y H Q => ∃ (a b : Addr) (xs : List V), x = .ref a ∧ y = .ref b ∧ SqL X.K H a xs ∧ SqL X.K H b [] ∧ Q (.bl (!xs.isEmpty)) H) := by
  intro pz s σ H x y v u Q I rx ry h
  obtain ⟨a, b, xs, rfl, rfl, ha, hb, q⟩ := h
  cases rx
  cases ry
  obtain ⟨its, r, hl, _⟩ := I.list ha
  obtain ⟨its2, r2, hl2, _⟩ := I.list hb
  cases r2
  cases r with
  | nil => exact SeqAt.RcNeAt.lists (e := fun _ => true) hl.isList hl2.isList rfl hu (fun j h1 => absurd h1 (by simp)) X.prog X.w X.xe _ ⟨.bl false, H, I, rfl, q⟩
  | cons _ _ => exact SeqAt.RcNeAt.lists_lengths hl.isList hl2.isList (by simp) hu X.prog X.w X.xe _ ⟨.bl true, H, I, rfl, q⟩
/-- a number, or a truth as one -/
def numV : V → Option Int
  | .int i => some i
  | .bl b => some (if b = true then 1 else 0)
  | _ => none
theorem op_addN : OpR X (binaryOp .Add) (fun x y H Q => ∃ i j, numV x = some i ∧ y = .int j ∧ Q (.int (i + j)) H) := by
  intro pz s σ H x y v u Q I rx ry h
  obtain ⟨i, j, hx, rfl, q⟩ := h
  cases x with
  | int n =>
    cases hx
    exact op_add pz s σ H _ _ v u Q I rx ry ⟨_, _, rfl, rfl, q⟩
  | bl b =>
    cases hx
    cases rx
    obtain ⟨t, rfl⟩ := ry
    exact PySem.IntBool.add_bool_int ⟨.int _, H, I.tok _, ⟨_, rfl⟩, q⟩
  | _ => cases hx
theorem op_subN : OpR X (binaryOp .Sub) (fun x y H Q => ∃ i j, numV x = some i ∧ y = .int j ∧ Q (.int (i - j)) H) := by
  intro pz s σ H x y v u Q I rx ry h
  obtain ⟨i, j, hx, rfl, q⟩ := h
  cases x with
  | int n =>
    cases hx
    exact op_sub pz s σ H _ _ v u Q I rx ry ⟨_, _, rfl, rfl, q⟩
  | bl b =>
    cases hx
    cases rx
    obtain ⟨t, rfl⟩ := ry
    exact PySem.IntBool.sub_bool_int ⟨.int _, H, I.tok _, ⟨_, rfl⟩, q⟩
  | _ => cases hx
theorem op_subM : OpR X (binaryOp .Sub) (fun x y H Q => ∃ i j, x = .int i ∧ numV y = some j ∧ Q (.int (i - j)) H) := by
  intro pz s σ H x y v u Q I rx ry h
  obtain ⟨i, j, rfl, hy, q⟩ := h
  cases y with
  | int n =>
    cases hy
    exact op_sub pz s σ H _ _ v u Q I rx ry ⟨_, _, rfl, rfl, q⟩
  | bl b =>
    cases hy
    cases ry
    obtain ⟨t, rfl⟩ := rx
    exact PySem.IntBool.sub_int_bool ⟨.int _, H, I.tok _, ⟨_, rfl⟩, q⟩
  | _ => cases hy
/-- the text of a number, or of a truth -/
def textV : V → Str
  | .int i => toString i
  | .bl b => if b then "True" else "False"
  | _ => ""
theorem call_strN : CallR X (.type "str") (fun xs H Q => ∃ x i, xs = [x] ∧ numV x = some i ∧ i.natAbs.log2 < 1920 ∧ Q (.str (textV x)) H) := by
  intro pz s σ H xs us Q I r h
  obtain ⟨x, i, rfl, hx, hz, q⟩ := h
  cases x with
  | int n =>
    cases hx
    exact call_str_int pz s σ H _ us Q I r ⟨_, rfl, hz, q⟩
  | bl b =>
    obtain ⟨u, rfl, r1⟩ := vals1 r
    cases r1
    exact PySem.P.str_of_bool ⟨.str _, H, I.tok _, ⟨_, rfl⟩, q⟩
  | _ => cases hx
end
end Pk
namespace Pk
open PySem PySem.Spec PyProof.Rows L2 HT
section
variable {prog : Program} {w : World} {A : Around} {E : Value → Shared → Prop} {s : Shared}
theorem applied_rev {sl : Addr} {vs : Value} {n : Nat} {Q : Int × Int × Nat → Shared → Prop} (hs : s.heap.IsSliceOf sl .none .none vs) (ps : IsPart vs (some (-1)))
    (h : Q ((n : Int) - 1, -1, n) s) : wpAny (model prog w) A (Builtin.Slice.sliceApplied (.ref sl) (pure (n : Int))) Q E s := by
  obtain ⟨os, hos, hcs, hds⟩ := id hs
  unfold Builtin.Slice.sliceApplied Builtin.Slice.sliceFields
  refine wpAny_bind (wpAny_bind (wpAny_field hos hds (x := .none) rfl (wpAny_bind (wpAny_field hos hds (x := .none) rfl (wpAny_bind (wpAny_field hos hds (x := vs) rfl (wpAny_pure ?_)))))))
  refine wpAny_bind (slicePart_ ps ?_)
  show wpAny _ _ (if ((-1 : Int) == 0) = true then _ else _) _ _ s
  rw [if_neg (by decide)]
  refine wpAny_bind (slicePart_none (wpAny_bind (slicePart_none (wpAny_bind (wpAny_pure ?_)))))
  show wpAny _ _ (pure ((n : Int) - 1, (-1 : Int), Builtin.Slice.slicePlaces ((n : Int) - 1) (-1) (-1))) _ _ s
  have e : Builtin.Slice.slicePlaces ((n : Int) - 1) (-1) (-1) = n := by
    unfold Builtin.Slice.slicePlaces
    rw [if_neg (by decide)]
    by_cases h : (n : Int) - 1 > -1
    · rw [if_pos h, show (-(-1) : Int) = 1 by decide, Int.ediv_one]
      omega
    · rw [if_neg h]
      omega
  rw [e]
  exact wpAny_pure h
theorem filterMap_same {α β : Type} {f g : α → Option β} : ∀ {l : List α}, (∀ x ∈ l, f x = g x) → l.filterMap f = l.filterMap g
  | [], _ => rfl
  | x :: l, h => by
    rw [List.filterMap_cons, List.filterMap_cons, h x List.mem_cons_self, filterMap_same fun y hy => h y (List.mem_cons_of_mem _ hy)]
theorem pick_rev (xs : Array Value) : ((List.range xs.size).filterMap fun (m : Nat) => xs[(((xs.size : Int) - 1) + (m : Int) * (-1)).toNat]?).toArray = xs.toList.reverse.toArray := by
  have e := PySem.W.krv_pick xs
  unfold slicePick at e
  rw [PySem.W.krv_bounds] at e
  rw [← e]
  show _ = ((sliceRange ((xs.size : Int) - 1) (-1) (-1)).filterMap (xs[·]?)).toArray
  rw [PySem.W.krv_sliceRange, List.filterMap_map]
  congr 1
  apply filterMap_same
  intro m hm
  have := List.mem_range.mp hm
  show xs[_]? = xs[xs.size - 1 - m]?
  congr 1
  omega
theorem getItem_tup_rev {t sl : Addr} {items : Array Value} {vs : Value} {Q : Value → Shared → Prop} (ht : IsTup s.heap t items) (hs : s.heap.IsSliceOf sl .none .none vs) (ps : IsPart vs (some (-1)))
    (h : Q (.ref s.heap.objs.size) { s with heap := s.heap.push { cls := .type "tuple", data := .seq items.toList.reverse.toArray } })
    (hsz : items.size ≤ sizeLine) : wpAny (model prog w) A (getItem (.ref t) (.ref sl)) Q E s := by
  have htake : sizeOk (.seq items.toList.reverse.toArray) := by
    show items.toList.reverse.toArray.size ≤ sizeLine
    rw [List.size_toArray, List.length_reverse, Array.length_toList]
    omega
  obtain ⟨os, hos, hcs, hds⟩ := id hs
  have hTs : s.TypeIs (.ref sl) "slice" := ⟨os, hos, hcs⟩
  unfold getItem
  try with_reducible refine wpAny_holding ?_
  first | refine wpAny_bind (wpAny_pure ?_) | skip
  refine wpAny_bind (wpAny_sequenceKey ht.typeIs (by decide) ?_)
  refine wpAny_bind (wpAny_callSpecial?_slot (name := Str.ofString "__getitem__") ht.typeIs PyProof.Rows.slot_tuple_getitem
    (wpAny_call_entry PyProof.Rows.slot_tuple_getitem ht.typeIs entry_tuple_getitem ?_ (args_tuple_getitem _ _)))
  show wpAny _ _ (Builtin.Tuple.tupleItemsOf (.ref t) >>= _) _ _ s
  refine wpAny_bind (tupleItemsOf_ ht ?_)
  refine wpAny_bind (wpAny_typeOf hTs ?_)
  rw [if_pos (by decide)]
  refine wpAny_bind (applied_rev hs ps ?_)
  have hno : ¬ ((((items.size : Int) - 1) == 0 && (-1 : Int) == 1 && items.size == items.size) = true) := by simp
  show wpAny _ _ (if (((items.size : Int) - 1) == 0 && (-1 : Int) == 1 && items.size == items.size) = true then _ else _) _ _ s
  rw [if_neg hno, pick_rev]
  first
    | exact wpAny_bind (m := Builtin.Tuple.tupleExact _) (wpAny_newObj_type (wpAny_pure ⟨_, rfl, wpAny_pure h⟩) htake)
    | exact wpAny_bind (m := Builtin.Tuple.tupleExact _) (wpAny_newObj_type (wpAny_bind (wpAny_pure (wpAny_pure ⟨_, rfl, wpAny_pure h⟩))) htake)
    | exact wpAny_bind (wpAny_bind (m := Builtin.Tuple.tupleExact _) (wpAny_newObj_type (wpAny_pure (wpAny_pure ⟨_, rfl, wpAny_pure h⟩)) htake))
    | exact wpAny_bind (wpAny_bind (m := Builtin.Tuple.tupleExact _) (wpAny_newObj_type (wpAny_pure ⟨_, rfl, wpAny_pure h⟩) htake))
end
section
variable {X : Cx}
/-- t[::-1], t a tuple -/
def tRevT (K : PySem.W.Frag) (te : TE) : TE := fun σ H Q => te σ H fun x H1 => ∃ a xs, x = .ref a ∧ SqT K H1 a xs ∧ ∀ p, H1 p = none → Q (.ref p) (upd H1 p (.tup xs.reverse))
theorem pe_revT {e : Expr} {te : TE} {k : Nat} {p1 p2 p3 pos : Pos} (he : PE X e te) : PE X (.Subscript e (.Slice none none (some (.UnaryOp .USub (.Constant (.int 1) k p1) p2)) p3) pos) (tRevT X.K te) := by
  refine ⟨fun pins s σ H Q I h => ?_⟩
  refine Subscript_ (thn (he.run pins s σ H _ I h) fun v s1 ⟨x, H1, I1, r1, q1⟩ => ?_)
  obtain ⟨a, xs, ex, hx, q⟩ := q1
  subst ex
  cases r1
  have hst : PO X (some (.UnaryOp .USub (.Constant (.int 1) k p1) p2)) (tPart (tUn (rU fun i => .int (-i)) (tC (.int 1)))) := po_some (pe_un un_neg pe_int)
  refine wpAny_Slice (thn (po_none.run pins s1 σ H1 (fun o H2 => o = none ∧ H2 = H1) I1 ⟨rfl, rfl⟩) fun vl s2 ⟨l, H2, I2, pl, el, e2⟩ => ?_)
  subst el e2
  refine thn (po_none.run pins s2 σ H2 (fun o H3 => o = none ∧ H3 = H2) I2 ⟨rfl, rfl⟩) fun vu s3 ⟨u, H3, I3, pu, eu, e3⟩ => ?_
  subst eu e3
  refine thn (hst.run pins s3 σ H3 (fun o H4 => o = some (-1) ∧ H4 = H3) I3 ⟨1, rfl, -1, rfl, rfl, rfl⟩) fun vs s4 ⟨o, H4, I4, ps, eo, e4⟩ => ?_
  subst eo e4
  cases pl
  cases pu
  have I5 : L2.Inv X pins σ H4 { s4 with heap := s4.heap.push { cls := .type "slice", data := .fields #[.none, .none, vs] } } := I4.kept (t' := s4.toks) fun b ob q => Heap.get?_push_of_some _ q
  obtain ⟨its, r, ht, hz⟩ := I5.tuple hx
  have hlen := r.length
  show wpAny (model X.prog X.w) X.A (subscriptTail e (.Slice none none (some (.UnaryOp .USub (.Constant (.int 1) k p1) p2)) p3) (.ref a) (.ref s4.heap.objs.size)) (EP X pins σ Q) X.xe _
  refine tail_any (ops := [.ref a, .ref s4.heap.objs.size]) ht.typeIs (PyProof.Rows.slot_tuple_getitem.lookup) ?_ (by with_unfolding_all rfl)
  refine getItem_tup_rev ht (Heap.IsSliceOf.new _ .none .none vs) ps ?_ (by rw [List.size_toArray]; omega)
  refine ⟨.ref _, _, I5.laid (t' := s4.toks) (o := .tup xs.reverse) (fun b ob q => Heap.get?_push_of_some _ q) (Nat.le_refl _) ?_, rfl, q _ (I5.hok.fresh (Nat.le_refl _))⟩
  exact ⟨by rw [List.length_reverse]; exact hz, _, r.reverse, IsTup.new _ _⟩
end
end Pk
end
section
set_option maxHeartbeats 2000000
/-! dict(zip(a, b)), a a list, b a tuple; any two iterators that draw. -/
namespace Pk
open PySem
section
variable {prog : Program} {w : World} {A : Around} {E : Value → Shared → Prop} {s : Shared} {z TI TO i1 i2 T : Addr} {fp1 fp2 : List Addr} {n1 n2 i : Nat} {P1 P2 : Nat → Value → Prop} {St1 St2 : Nat → Heap → Prop} {f : Bool} {oT : Obj}
theorem heldItem {Q : Value → Shared → Prop} (S : ZipSep2 z TI TO i1 i2 fp1 fp2) (D1 : Draws prog w A i1 fp1 n1 P1 St1) (D2 : Draws prog w A i2 fp2 n2 P2 St2) (hz : IsZipHeld s.heap z TI TO T f) (hT : s.heap.get? T = some oT) (hI : IsPair s.heap TI (.ref i1) (.ref i2))
    (st1 : St1 i s.heap) (st2 : St2 i s.heap) (l1 : i < n1) (l2 : i < n2)
    (k : ∀ x1 x2 h' tk, P1 i x1 → P2 i x2 → IsZipHeld h' z TI TO T true → St1 (i + 1) h' → St2 (i + 1) h' → IsPair h' s.heap.objs.size x1 x2 → (∀ c o, c ≠ z → c ≠ i1 → c ≠ i2 → s.heap.get? c = some o → h'.get? c = some o) → Q (.ref s.heap.objs.size) { s with heap := h', toks := tk }) :
    wpAny (model prog w) A (Builtin.«zip.__next__» ⟨[.ref z], []⟩) (fun fin s' => ∃ v, fin = .done (.ret v) ∧ Q v s') E s := by
  show wpAny _ _ (field (.ref z) 2 >>= _) _ _ _
  refine wpAny_bind (wpAny_field hz rfl (x := .bool false) rfl ?_)
  show wpAny _ _ (field (.ref z) 3 >>= _) _ _ _
  refine wpAny_bind (wpAny_field hz rfl (x := .ref TI) rfl (wpAny_bind (wpAny_seqItems hI rfl ?_)))
  show wpAny _ _ (Builtin.SmallTypes.ownedTupleIsFree (.ref z) >>= _) _ _ _
  refine wpAny_bind (wpAny_tupleHeld_zip hz hT fun g1 y1 e1 => ?_)
  simp only [Bool.false_eq_true, if_false]
  refine wpAny_bind ?_
  rw [← Array.forIn_toList]
  simp only [List.forIn_cons, List.forIn_nil]
  refine wpAny_bind (wpAny_bind (wpAny_holding ?_))
  show wpAny _ _ (Builtin.SmallTypes.nextOf (.ref i1) >>= _) _ _ _
  refine wpAny_bind (D1.item i { s with heap := g1 } _ _ l1 (D1.over st1 e1 S.zf1) fun x1 g2 t2 p1 d1 e2 => wpAny_pure (wpAny_pure ?_))
  refine wpAny_bind (wpAny_bind (wpAny_holding ?_))
  show wpAny _ _ (Builtin.SmallTypes.nextOf (.ref i2) >>= _) _ _ _
  have d2 : St2 i g2 := D2.over (D2.over st2 e1 S.zf2) e2 S.sep1_2
  refine wpAny_bind (D2.item i { s with heap := g2, toks := t2 } _ _ l2 d2 fun x2 g3 t3 p2 d3 e3 => wpAny_pure (wpAny_pure (wpAny_pure ?_)))
  show wpAny _ _ (newTuple [x1, x2] >>= _) _ _ _
  refine wpAny_bind (wpAny_newTuple (wpAny_pure ⟨_, rfl, ?_⟩))
  have sz : g3.objs.size = s.heap.objs.size := by rw [e3.1, e2.1, e1.1]
  have y3 : IsZipHeld g3 z TI TO T true := e3.extBut _ _ S.zi2 (e2.extBut _ _ S.zi1 y1)
  have d4 : St1 (i + 1) g3 := D1.over d1 e3 S.sep2_1
  have hp : IsPair (g3.push { cls := .type "tuple", data := .seq #[x1, x2] }) g3.objs.size x1 x2 := Heap.get?_push_size _ rfl
  show Q (.ref g3.objs.size) _
  rw [sz] at hp ⊢
  exact k x1 x2 _ _ p1 p2 (Heap.get?_push_of_some _ y3) (D1.frame _ _ _ d4 fun b _ o q => Heap.get?_push_of_some _ q) (D2.frame _ _ _ d3 fun b _ o q => Heap.get?_push_of_some _ q) hp fun c o c1 c2 c3 q => Heap.get?_push_of_some _ (e3.extBut _ _ c3 (e2.extBut _ _ c2 (e1.extBut _ _ c1 q)))
theorem heldEnd {Q : Fin → Shared → Prop} (S : ZipSep2 z TI TO i1 i2 fp1 fp2) (D1 : Draws prog w A i1 fp1 n1 P1 St1) (D2 : Draws prog w A i2 fp2 n2 P2 St2) (hz : IsZipHeld s.heap z TI TO T f) (hT : s.heap.get? T = some oT) (hI : IsPair s.heap TI (.ref i1) (.ref i2))
    (st1 : St1 i s.heap) (st2 : St2 i s.heap) (hl1 : i ≤ n1) (hl2 : i ≤ n2) (he : i = n1 ∨ i = n2)
    (k : ∀ h' tk e, (∀ c o, c ≠ z → c ≠ i1 → c ≠ i2 → s.heap.get? c = some o → h'.get? c = some o) → (∃ o, h'.get? e = some o ∧ o.cls = .type "StopIteration") → E (.ref e) { s with heap := h', toks := tk }) :
    wpAny (model prog w) A (Builtin.«zip.__next__» ⟨[.ref z], []⟩) Q E s := by
  show wpAny _ _ (field (.ref z) 2 >>= _) _ _ _
  refine wpAny_bind (wpAny_field hz rfl (x := .bool false) rfl ?_)
  show wpAny _ _ (field (.ref z) 3 >>= _) _ _ _
  refine wpAny_bind (wpAny_field hz rfl (x := .ref TI) rfl (wpAny_bind (wpAny_seqItems hI rfl ?_)))
  show wpAny _ _ (Builtin.SmallTypes.ownedTupleIsFree (.ref z) >>= _) _ _ _
  refine wpAny_bind (wpAny_tupleHeld_zip hz hT fun g1 y1 e1 => ?_)
  simp only [Bool.false_eq_true, if_false]
  refine wpAny_bind ?_
  rw [← Array.forIn_toList]
  simp only [List.forIn_cons, List.forIn_nil]
  refine wpAny_bind (wpAny_bind (wpAny_holding ?_))
  show wpAny _ _ (Builtin.SmallTypes.nextOf (.ref i1) >>= _) _ _ _
  by_cases c1 : i = n1
  · subst c1
    refine wpAny_bind (D1.done { s with heap := g1 } _ _ (D1.over st1 e1 S.zf1) fun g2 e x2 ho => ?_)
    exact k g2 s.toks e (fun c o a1 a2 _ q => x2 _ _ a2 (e1.extBut _ _ a1 q)) ho
  · have c2 : i = n2 := by rcases he with q | q; exact absurd q c1; exact q
    refine wpAny_bind (D1.item i { s with heap := g1 } _ _ (by omega) (D1.over st1 e1 S.zf1) fun x1 g2 t2 p1 d1 e2 => wpAny_pure (wpAny_pure ?_))
    refine wpAny_bind (wpAny_bind (wpAny_holding ?_))
    show wpAny _ _ (Builtin.SmallTypes.nextOf (.ref i2) >>= _) _ _ _
    have d2 : St2 i g2 := D2.over (D2.over st2 e1 S.zf2) e2 S.sep1_2
    subst c2
    refine wpAny_bind (D2.done { s with heap := g2, toks := t2 } _ _ d2 fun g3 e x3 ho => ?_)
    exact k g3 t2 e (fun c o a1 a2 a3 q => x3 _ _ a3 (e2.extBut _ _ a2 (e1.extBut _ _ a1 q))) ho
end
/-- a zip of two iterators that draw, as what dict() is made of -/
theorem pairZip {prog : Program} {w : World} {z TI TO i1 i2 : Addr} {fp1 fp2 : List Addr} {n1 n2 : Nat} {P1 P2 : Nat → Value → Prop} {St1 St2 : Nat → Heap → Prop} (S : ZipSep2 z TI TO i1 i2 fp1 fp2)
    (D1 : ∀ A : Around, A.handled = none → Draws prog w A i1 fp1 n1 P1 St1) (D2 : ∀ A : Around, A.handled = none → Draws prog w A i2 fp2 n2 P2 St2) (L1 : ∀ h, St1 0 h → ∀ b ∈ fp1, ∃ o, h.get? b = some o) (L2 : ∀ h, St2 0 h → ∀ b ∈ fp2, ∃ o, h.get? b = some o) :
    PairArg prog w "zip" z (z :: TI :: TO :: (fp1 ++ fp2)) [z, TO, i1, i2] (min n1 n2) (fun i k v => P1 i k ∧ P2 i v) (fun h => IsZip h z TI TO .none ∧ IsPair h TI (.ref i1) (.ref i2) ∧ (∃ a b, IsPair h TO a b) ∧ St1 0 h ∧ St2 0 h) where
  type := fun s ok => ⟨_, ok.1, rfl⟩
  notDict := by decide
  keep := fun h h' ok hk => by
    obtain ⟨hz, hI, ⟨a, b, hO⟩, s1, s2⟩ := ok
    exact ⟨hk _ _ hz, hk _ _ hI, ⟨a, b, hk _ _ hO⟩, (D1 callerA rfl).frame _ _ _ s1 fun b _ o e => hk b o e, (D2 callerA rfl).frame _ _ _ s2 fun b _ o e => hk b o e⟩
  there := fun h ok b hb => by
    obtain ⟨hz, hI, ⟨a, c, hO⟩, s1, s2⟩ := ok
    rcases List.mem_cons.mp hb with e | hb
    · rw [e]; exact ⟨_, hz⟩
    rcases List.mem_cons.mp hb with e | hb
    · rw [e]; exact ⟨_, hI⟩
    rcases List.mem_cons.mp hb with e | hb
    · rw [e]; exact ⟨_, hO⟩
    rcases List.mem_append.mp hb with hb | hb
    · exact L1 h s1 b hb
    · exact L2 h s2 b hb
  sub := fun b hb => by
    simp only [List.mem_cons, List.not_mem_nil, or_false] at hb
    rcases hb with rfl | rfl | rfl | rfl
    · exact List.mem_cons_self
    · exact List.mem_cons_of_mem _ (List.mem_cons_of_mem _ List.mem_cons_self)
    · exact List.mem_cons_of_mem _ (List.mem_cons_of_mem _ (List.mem_cons_of_mem _ (List.mem_append_left _ S.mem1)))
    · exact List.mem_cons_of_mem _ (List.mem_cons_of_mem _ (List.mem_cons_of_mem _ (List.mem_append_right _ S.mem2)))
  noKeys := fun A s Q E hA ok h => getAttrOr_miss_zip ok.1 rfl rfl rfl zip_no_keys (by decide +kernel) hA h
  iter := fun A s d Q E hA ok hd hdf h => by
    obtain ⟨hz, hI, ⟨a, b, hO⟩, s1, s2⟩ := ok
    have dz : d ≠ z := fun e => hdf (by rw [e]; exact List.mem_cons_self)
    have dI : d ≠ TI := fun e => hdf (by rw [e]; exact List.mem_cons_of_mem _ List.mem_cons_self)
    have dO : d ≠ TO := fun e => hdf (by rw [e]; exact List.mem_cons_of_mem _ (List.mem_cons_of_mem _ List.mem_cons_self))
    have d1 : ∀ b ∈ fp1, b ≠ d := fun b hb e => hdf (List.mem_cons_of_mem _ (List.mem_cons_of_mem _ (List.mem_cons_of_mem _ (List.mem_append_left _ (e ▸ hb)))))
    have d2 : ∀ b ∈ fp2, b ≠ d := fun b hb e => hdf (List.mem_cons_of_mem _ (List.mem_cons_of_mem _ (List.mem_cons_of_mem _ (List.mem_append_right _ (e ▸ hb)))))
    refine wpAny_pyIter_zip hz (h z [z, TO, i1, i2] (fun i g => IsPair g TI (.ref i1) (.ref i2) ∧ St1 i g ∧ St2 i g ∧ ((IsZip g z TI TO .none ∧ ∃ a b, IsPair g TO a b) ∨ ∃ T f oT, IsZipHeld g z TI TO T f ∧ g.get? T = some oT ∧ T ≠ z ∧ T ≠ i1 ∧ T ≠ i2 ∧ T ≠ d)) s.heap s.toks ?_ ⟨hI, s1, s2, .inl ⟨hz, a, b, hO⟩⟩ (fun _ _ e => e) fun b hb => .inl hb)
    refine ⟨fun hm => ?_, fun i g g' st hk => ?_, fun i u Q1 E1 hi st hds hQ => ?_, fun u Q1 E1 st hQ => ?_⟩
    · simp only [List.mem_cons, List.not_mem_nil, or_false] at hm
      rcases hm with e | e | e | e
      · exact dz e
      · exact dO e
      · exact d1 i1 S.mem1 e.symm
      · exact d2 i2 S.mem2 e.symm
    · obtain ⟨hI, s1, s2, hz⟩ := st
      refine ⟨hk _ _ dI.symm hI, (D1 callerA rfl).frame _ _ _ s1 fun b hb o e => hk b o (d1 b hb) e, (D2 callerA rfl).frame _ _ _ s2 fun b hb o e => hk b o (d2 b hb) e, ?_⟩
      rcases hz with ⟨hz, a, b, hO⟩ | ⟨T, f, oT, hz, hT, r1, r2, r3, r4⟩
      · exact .inl ⟨hk _ _ dz.symm hz, a, b, hk _ _ dO.symm hO⟩
      · exact .inr ⟨T, f, oT, hk _ _ dz.symm hz, hk _ _ r4 hT, r1, r2, r3, r4⟩
    · obtain ⟨hI, s1, s2, hz⟩ := st
      have hi1 : i < n1 := by omega
      have hi2 : i < n2 := by omega
      have lt : ∀ {c : Addr} {o : Obj}, u.heap.get? c = some o → u.heap.objs.size ≠ c := fun e => Nat.ne_of_gt (Heap.lt_size e)
      have ne1 : u.heap.objs.size ≠ i1 := let ⟨_, e⟩ := (D1 callerA rfl).live _ _ s1; lt e
      have ne2 : u.heap.objs.size ≠ i2 := let ⟨_, e⟩ := (D2 callerA rfl).live _ _ s2; lt e
      have mem : ∀ {c : Addr}, c ∉ [z, TO, i1, i2] → c ≠ z ∧ c ≠ TO ∧ c ≠ i1 ∧ c ≠ i2 := fun {c} hc => by
        simp only [List.mem_cons, List.not_mem_nil, or_false, not_or] at hc
        exact hc
      rcases hz with ⟨hz, a, b, hO⟩ | ⟨T, f, oT, hz, hT, r1, r2, r3, r4⟩
      · refine wpAny_pyNext_zipD2_item S (D1 A.in1 hA) (D2 A.in1 hA) hz hI hO s1 s2 hi1 hi2 fun x1 x2 g tk p1 p2 a1 a2 a3 a4 a5 a6 hk => ?_
        exact hQ u.heap.objs.size x1 x2 g tk ⟨p1, p2⟩ (.inl ⟨_, a5, rfl, _, rfl⟩) ⟨hk _ _ S.TIz S.TITO S.TIi1 S.TIi2 hI, a3, a4, .inr ⟨_, false, _, a1, a5, lt hz, ne1, ne2, Nat.ne_of_gt hds⟩⟩
          fun c o hc e => let ⟨m1, m2, m3, m4⟩ := mem hc; hk c o m1 m2 m3 m4 e
      · have hTy : u.TypeIs (.ref z) "zip" := ⟨_, hz, rfl⟩
        unfold pyNext
        refine wpAny_bind (wpAny_attempt (wpAny_callSpecial?_slot (name := Str.ofString "__next__") hTy F.slot_zip_next (wpAny_call_entry F.slot_zip_next hTy F.entry_zip_next (heldItem S (D1 A.in1 hA) (D2 A.in1 hA) hz hT hI s1 s2 hi1 hi2 fun x1 x2 g tk p1 p2 a1 a3 a4 a5 hk => wpAny_pure ?_) (F.args_zip_next_1 _))))
        exact hQ u.heap.objs.size x1 x2 g tk ⟨p1, p2⟩ (.inl ⟨_, a5, rfl, _, rfl⟩) ⟨hk _ _ S.TIz S.TIi1 S.TIi2 hI, a3, a4, .inr ⟨T, true, oT, a1, hk _ _ r1 r2 r3 hT, r1, r2, r3, r4⟩⟩
          fun c o hc e => let ⟨m1, m2, m3, m4⟩ := mem hc; hk c o m1 m3 m4 e
    · obtain ⟨hI, s1, s2, hz⟩ := st
      have mem : ∀ {c : Addr}, c ∉ [z, TO, i1, i2] → c ≠ z ∧ c ≠ TO ∧ c ≠ i1 ∧ c ≠ i2 := fun {c} hc => by
        simp only [List.mem_cons, List.not_mem_nil, or_false, not_or] at hc
        exact hc
      rcases hz with ⟨hz, a, b, hO⟩ | ⟨T, f, oT, hz, hT, r1, r2, r3, r4⟩
      · exact wpAny_pyNext_zipD2_end S (D1 A.in1 hA) (D2 A.in1 hA) hz hI hO s1 s2 (by omega) (by omega) (by omega) fun g tk hk => hQ g tk fun c o hc e => let ⟨m1, m2, m3, m4⟩ := mem hc; hk c o m1 m2 m3 m4 e
      · have hTy : u.TypeIs (.ref z) "zip" := ⟨_, hz, rfl⟩
        unfold pyNext
        refine wpAny_bind (wpAny_attempt (wpAny_callSpecial?_slot (name := Str.ofString "__next__") hTy F.slot_zip_next (wpAny_call_entry F.slot_zip_next hTy F.entry_zip_next (heldEnd S (D1 A.in1 hA) (D2 A.in1 hA) hz hT hI s1 s2 (by omega) (by omega) (by omega) fun g tk e hk ho => ?_) (F.args_zip_next_1 _))))
        obtain ⟨o, ho, hc⟩ := ho
        refine wpAny_bind (wpAny_isInstance (T := "StopIteration") (b := true) ⟨o, ho, hc⟩ isSubtype_stop ?_)
        exact wpAny_pure (hQ g tk fun c o hc e => let ⟨m1, m2, m3, m4⟩ := mem hc; hk c o m1 m3 m4 e)
/-! zip(a, b), a a list, b a tuple -/
abbrev mix1 (h : Heap) (a : Addr) : Heap := h.push { cls := .type "list_iterator", data := .fields #[.ref a, .int 0 0] }
abbrev mix2 (h : Heap) (a b : Addr) : Heap := (mix1 h a).push { cls := .type "tuple_iterator", data := .fields #[.ref b, .int 0 0] }
abbrev mix3 (h : Heap) (a b : Addr) : Heap := (mix2 h a b).push { cls := .type "tuple", data := .seq #[.ref h.objs.size, .ref (mix1 h a).objs.size] }
abbrev mix4 (h : Heap) (a b : Addr) : Heap := (mix3 h a b).push { cls := .type "tuple", data := .seq #[.none, .none] }
abbrev mix5 (h : Heap) (a b : Addr) : Heap := (mix4 h a b).push { cls := .type "zip", data := .fields #[.none, .bool false, .bool false, .ref (mix2 h a b).objs.size, .ref (mix3 h a b).objs.size] }
theorem mixNew (a b : Addr) (xs ys : Array Value) : Meets (Builtin.«zip.__new__» ⟨[.type "zip", .ref a, .ref b], []⟩) (fun _ R s => s.heap.IsList a xs ∧ s.heap.IsTuple b ys ∧ R (.ok (.ret (.ref (mix4 s.heap a b).objs.size))) { s with heap := mix5 s.heap a b }) :=
  .of_wp fun prog w A R s h => by
    obtain ⟨hp, g, d, tk, os⟩ := s
    obtain ⟨ha, hb, h⟩ := h
    have hsub := sub_zip
    have hA : Heap.IsList (Shared.heap ⟨hp, g, d, tk, os⟩) a xs := ha
    have hB : Heap.IsTuple (Shared.heap ⟨hp.push { cls := .type "list_iterator", data := .fields #[.ref a, .int 0 0] }, g, d, tk, os⟩) b ys := Heap.IsTuple.push hb _
    wp_walk using wpAny_pyIter_list hA, wpAny_pyIter_tuple hB
    exact ⟨_, rfl, h⟩
theorem callMix {prog : Program} {w : World} {A : Around} {E : Value → Shared → Prop} {s : Shared} {a b : Addr} {xs ys : Array Value} {Q : Value → Shared → Prop} (ha : s.heap.IsList a xs) (hb : s.heap.IsTuple b ys)
    (k : ∀ h', IsZip h' (s.heap.objs.size + 4) (s.heap.objs.size + 2) (s.heap.objs.size + 3) .none → IsPair h' (s.heap.objs.size + 2) (.ref s.heap.objs.size) (.ref (s.heap.objs.size + 1)) → IsPair h' (s.heap.objs.size + 3) .none .none →
      h'.IsListIter s.heap.objs.size a 0 → h'.IsTupleIter (s.heap.objs.size + 1) b 0 → (∀ c o, s.heap.get? c = some o → h'.get? c = some o) → Q (.ref (s.heap.objs.size + 4)) { s with heap := h' }) :
    wpAny (model prog w) A (call (.type "zip") [.ref a, .ref b]) Q E s := by
  refine callType_new F.called_zip (by decide) (F.typeCall_zip_2 _ _) (F.newCall_zip_2 _ _) (fun obj => F.args_object_init_3 obj _ _) F.entry_zip_new (mixNew a b xs ys) ⟨ha, hb, ?_⟩
  have y1 : (mix1 s.heap a).objs.size = s.heap.objs.size + 1 := Heap.size_push ..
  have y2 : (mix2 s.heap a b).objs.size = s.heap.objs.size + 2 := by rw [Heap.size_push, y1]
  have y3 : (mix3 s.heap a b).objs.size = s.heap.objs.size + 3 := by rw [Heap.size_push, y2]
  have y4 : (mix4 s.heap a b).objs.size = s.heap.objs.size + 4 := by rw [Heap.size_push, y3]
  have up : ∀ {h : Heap} {o : Obj} {c : Addr} {u : Obj}, h.get? c = some u → (h.push o).get? c = some u := fun e => Heap.get?_push_of_some _ e
  have g5 : (mix5 s.heap a b).get? (mix4 s.heap a b).objs.size = some _ := Heap.get?_push_size _ rfl
  have g4 : (mix5 s.heap a b).get? (mix3 s.heap a b).objs.size = some _ := up (Heap.get?_push_size _ rfl)
  have g3 : (mix5 s.heap a b).get? (mix2 s.heap a b).objs.size = some _ := up (up (Heap.get?_push_size _ rfl))
  have g2 : (mix5 s.heap a b).get? (mix1 s.heap a).objs.size = some _ := up (up (up (Heap.get?_push_size _ rfl)))
  have g1 : (mix5 s.heap a b).get? s.heap.objs.size = some _ := up (up (up (up (Heap.get?_push_size _ rfl))))
  show _ ∧ _
  rw [y2, y3, y4] at g5
  rw [y1, y2] at g3
  rw [y3] at g4
  rw [y1] at g2
  rw [y4]
  exact ⟨⟨_, g5, rfl⟩, k _ g5 g3 g4 ⟨_, g1, rfl, rfl⟩ ⟨_, g2, rfl, rfl⟩ fun c o e => up (up (up (up (up e))))⟩
end Pk
end
section
set_option maxHeartbeats 2000000
/-! The rule for dict(zip(names, things)). -/
namespace Pk
open PySem PySem.Spec PyProof.Rows L2
def strKv (e : Str × V) : Key × V := (Sum.inr e.1, e.2)
def tDictZ (K : PySem.W.Frag) (ta : TA) : TE := fun σ H Q => ta σ H fun vs H1 => ∃ (a b : Addr) (ss : List Str) (ys : List V), vs = [.ref a, .ref b] ∧ SqL K H1 a (ss.map V.str) ∧ SqT K H1 b ys ∧ ss.length = ys.length ∧ ∀ p, H1 p = none → Q (.ref p) (upd H1 p (.dK (mergeK [] ((ss.zip ys).map strKv))))
theorem kv_zip : ∀ {ss : List Str} {ys : List V} {us ws : List Value}, Vals (ss.map V.str) us → Vals ys ws → ss.length = ys.length →
    ∃ prs : List (Key × Value), KV ((ss.zip ys).map strKv) prs ∧ prs.length = ss.length ∧ ∀ (i : Nat) (u v : Value), us[i]? = some u → ws[i]? = some v → ∃ z t, u = .str z t ∧ prs[i]? = some (Sum.inr z, v)
  | [], [], _, _, .nil, .nil, _ => ⟨[], .nil, rfl, fun i u v h => by simp at h⟩
  | [], _ :: _, _, _, _, _, h => by simp at h
  | _ :: _, [], _, _, _, _, h => by simp at h
  | z :: ss, y :: ys, _, _, .cons r t, .cons q t2, h => by
    obtain ⟨prs, k, l, f⟩ := kv_zip t t2 (by simpa using h)
    obtain ⟨tk, rfl⟩ := (show ∃ t, _ = Value.str z t from r)
    refine ⟨(Sum.inr z, _) :: prs, .cons ⟨rfl, q⟩ k, by simp [l], fun i u v h1 h2 => ?_⟩
    cases i with
    | zero =>
      cases h1
      cases h2
      exact ⟨z, tk, rfl, rfl⟩
    | succ i => exact f i u v h1 h2
theorem pe_dictZ {X : Cx} {e1 e2 : Expr} {ta : TA} {p pz pos ipos : Pos} (hc : X.calm = true) (hgd : Gl X "dict") (hmd : X.mg "dict" = none) (hgz : Gl X "zip") (hmz : X.mg "zip" = none) (ha : PA X [e1, e2] ta)
    (hst : starEach [e1, e2] X.env = (false, eval e1 X.env) :: starEach [e2] X.env := by rfl) (hpl : (backTo ipos (starEach [e2] X.env)).any (·.1) = false := by rfl)
    (hs2 : starEach [.Call (.Name "zip" pz) [e1, e2] [] ipos] X.env = (false, eval (.Call (.Name "zip" pz) [e1, e2] [] ipos) X.env) :: starEach [] X.env := by rfl) :
    PE X (.Call (.Name "dict" p) [.Call (.Name "zip" pz) [e1, e2] [] ipos] [] pos) (tDictZ X.K ta) := by
  refine ⟨fun pins s σ H Q I h => wpAny_Call_Name_kw (ld_blt (u := .type "dict") I hgd hmd (by decide +kernel) ?_)⟩
  refine PyProof.Rows.callWith_type1 ?_ hs2 (by rfl)
  rw [hs2]
  show wpAny _ _ (spliced ((false, eval (.Call (.Name "zip" pz) [e1, e2] [] ipos) X.env) :: backTo pos (starEach [] X.env))) _ _ s
  refine Calls.spliced_cons (Call_ (ld_blt I hgz hmz PyProof.Rows.boot_zip (PyProof.Rows.callWith_type1 (thn (ha.run ipos pins s σ H _ I h) fun us s1 ⟨vs, H1, I1, r1, q1⟩ => ?_) hst hpl)))
  obtain ⟨a, b, ss, ys, rfl, hA, hB, hl, q⟩ := q1
  obtain ⟨u1, u2, rfl, ra, rb⟩ := vals2 r1
  cases ra
  cases rb
  obtain ⟨its, rv, p1, z1⟩ := I1.list hA
  obtain ⟨its2, rv2, p2, z2⟩ := I1.tuple hB
  have pl := p1.isList
  have a9 : a < s1.heap.objs.size := let ⟨_, e, _⟩ := pl; Heap.lt_size e
  have b9 : b < s1.heap.objs.size := let ⟨_, e, _⟩ := p2; Heap.lt_size e
  refine callMix pl (show s1.heap.IsTuple b its2.toArray from p2) fun hz y1 y2 y3 y4 y5 zk => ?_
  generalize hn : s1.heap.objs.size = n at a9 b9 y1 y2 y3 y4 y5
  refine Calls.spliced_nil ?_
  have D := PySem.W.ktu_apart n a b a9 b9
  have sep : ZipSep2 (n + 4) (n + 2) (n + 3) n (n + 1) [n, a] [n + 1, b] := by
    refine ⟨D.TIz, D.TOz, D.TITO, D.TIi1, List.mem_cons_self, fun q => ?_, fun q => ?_, D.TIi2, List.mem_cons_self, fun q => ?_, fun q => ?_, fun q => ?_, fun q => ?_⟩ <;> simp only [List.mem_cons, List.not_mem_nil, or_false] at q <;> rcases q with e | e
    · exact D.i1z e.symm
    · exact D.l1z e.symm
    · exact D.TOi1 e
    · exact D.l1TO e.symm
    · exact D.i2z e.symm
    · exact D.l2z e.symm
    · exact D.TOi2 e
    · exact D.l2TO e.symm
    · exact D.i12 e
    · exact D.l2i1 e.symm
    · exact D.i12 e.symm
    · exact D.l1i2 e.symm
  have PA := pairZip (prog := X.prog) (w := X.w) sep (fun A hA => Draws.list hA n a (Nat.ne_of_lt a9) its.toArray) (fun A hA => drawsTup hA (n + 1) b (Nat.ne_of_lt (Nat.lt_succ_of_lt b9)) its2.toArray)
    (fun h st q hq => by
      simp only [List.mem_cons, List.not_mem_nil, or_false] at hq
      rcases hq with e | e
      · rw [e]; obtain ⟨o, ho, _⟩ := st.1; exact ⟨o, ho⟩
      · rw [e]; obtain ⟨o, ho, _⟩ := st.2; exact ⟨o, ho⟩)
    (fun h st q hq => by
      simp only [List.mem_cons, List.not_mem_nil, or_false] at hq
      rcases hq with e | e
      · rw [e]; obtain ⟨o, ho, _⟩ := st.1; exact ⟨o, ho⟩
      · rw [e]; obtain ⟨o, ho, _⟩ := st.2; exact ⟨o, ho⟩)
  have pl' : hz.IsList a its.toArray := let ⟨o, e, r⟩ := pl; ⟨o, zk _ _ e, r⟩
  have p2' : hz.IsTuple b its2.toArray := let ⟨o, e, r⟩ := p2; ⟨o, zk _ _ e, r⟩
  obtain ⟨prs, kv, lp, fp⟩ := kv_zip rv rv2 hl
  have l1 := rv.length
  have l2 := rv2.length
  rw [List.length_map] at l1
  have hnn : min its.toArray.size its2.toArray.size = prs.length := by simp; omega
  refine PySem.call_dict_pairs (knd := mixKind X.prog X.w) (kvs := prs) PA (I1.ok.hd hc) ⟨y1, y2, ⟨_, _, y3⟩, ⟨y4, pl'⟩, ⟨y5, p2'⟩⟩ ⟨hnn.symm, fun i key v hkv => ?_⟩ (by rw [hnn, lp]; rw [List.length_map] at z1; exact z1) fun h' tk hd' hk => ?_
  · obtain ⟨z, t, e1, e2⟩ := fp i key v (by simpa using hkv.1) (by simpa using hkv.2)
    exact ⟨_, e2, by rw [e1]; exact mixKind_str X.prog X.w z t⟩
  · have sz : s1.heap.objs.size ≤ hz.objs.size := by
      rw [hn]
      exact Nat.le_of_lt (Nat.lt_of_le_of_lt (Nat.le_add_right n 4) (Heap.lt_size y1))
    have kp : ∀ b u, s1.heap.get? b = some u → h'.get? b = some u := fun c u e => hk c u (fun hm => by
      have hlt : c < s1.heap.objs.size := Heap.lt_size e
      rw [hn] at hlt
      have q : ∀ {c n : Nat}, c < n → c ≠ n + 4 ∧ c ≠ n + 3 ∧ c ≠ n ∧ c ≠ n + 1 := fun h => by omega
      obtain ⟨m1, m2, m3, m4⟩ := q hlt
      simp only [List.mem_cons, List.not_mem_nil, or_false] at hm
      rcases hm with e | e | e | e
      · exact m1 e
      · exact m2 e
      · exact m3 e
      · exact m4 e) (zk _ _ e)
    have hm : (hz.objs.size == sysModules) = false := beq_eq_false_iff_ne.mpr (Nat.ne_of_gt (Nat.lt_of_lt_of_le I1.big sz))
    have hlen : (mergeK [] ((ss.zip ys).map strKv)).length ≤ sizeLine := by
      refine Nat.le_trans (length_mergeK _ []) ?_
      rw [List.length_nil, Nat.zero_add, kv.length, lp]
      rw [List.length_map] at z1
      exact z1
    exact ⟨.ref hz.objs.size, upd H1 hz.objs.size (.dK (mergeK [] ((ss.zip ys).map strKv))), I1.laid (t' := tk) kp sz (show ObjOk X.prog X.w _ _ _ (.dK (mergeK [] ((ss.zip ys).map strKv))) from ⟨hlen, hm, merged [] prs, KV.merge kv .nil, hd'⟩), rfl, q _ (I1.hok.fresh sz)⟩
end Pk
end
section
set_option maxHeartbeats 2000000
/-! try .. except X as n, the error kept behind the suite. -/
namespace Pk
open PySem PySem.Spec PyProof.Rows L2
/-- at a: an error that was caught, of the class cls, its dict at d -/
def keptX (a : Addr) (cls : Value) (d : Option Addr) : HO := .ext fun h => ∃ (oe : Obj) (vs : Array Value), h.get? a = some oe ∧ Zc cls d oe ∧ oe.data = .fields vs
theorem keptX_ok {P : Program} {w : World} {H : Hp} {h : Heap} {a : Addr} {cls : Value} {d : Option Addr} {oe : Obj} {vs : Array Value} (e : h.get? a = some oe) (z : Zc cls d oe) (hd : oe.data = .fields vs) : ObjOk P w H h a (keptX a cls d) :=
  ⟨⟨oe, vs, e, z, hd⟩, ⟨oe, e⟩, fun _ _ ⟨o, v, q, r⟩ k => ⟨o, v, k o q, r⟩⟩
section
variable {X : Cx} {pins : List (Addr × Obj)} {σ : L2.St} {H : Hp} {s : Shared}
/-- what came since the entry may be tracked from now on -/
theorem track {a : Addr} {o : HO} (I : L2.Inv X pins σ H s) (na : H a = none) (n0 : X.s_0.heap.get? a = none) (nL : a ≠ X.env.locals) (nC : ∀ x c, X.env.cells.lookup x = some c → c ≠ a) (np : ∀ p ∈ X.pn ++ pins, p.1 ≠ a) (new : ObjOk X.prog X.w (upd H a o) s.heap a o) : L2.Inv X pins σ (upd H a o) s where
  ok := I.ok
  os := I.os
  bare := I.bare
  base := ⟨I.base.keep, I.base.slot, fun b u e n hx => by
      rw [upd_ne (fun z => by rw [z, n0] at e; cases e)]
      exact I.base.free b u e n hx, I.base.there, fun b xs e => by
      have q := I.base.tups b xs e
      rw [upd_ne (ne_of_none q na)]
      exact q, fun b u v e => by
      have q := I.base.frzs b u v e
      rw [upd_ne (ne_of_none q na)]
      exact q, fun b ps e => by
      obtain ⟨more, q⟩ := I.base.tbls b ps e
      exact ⟨more, by rw [upd_ne (ne_of_none q na)]; exact q⟩⟩
  loc := I.loc
  cell := I.cell
  free := by rw [upd_ne nL.symm]; exact I.free
  freeC := fun x c e => by rw [upd_ne (nC x c e)]; exact I.freeC x c e
  pin := fun p hp => by
    obtain ⟨h1, h2, h3⟩ := I.pin p hp
    exact ⟨h1, by rw [upd_ne (np p hp)]; exact h2, h3⟩
  hok := I.hok.laidN (fun _ _ e => e) na new
  len := I.len
end
def wKeep (K : PySem.W.Frag) (c : Value) (i : Nat) (ts : Addr → Value → Option Addr → TS) (Wout : WX) (D : Ends) : WX := fun cls d σ H =>
  ∃ b, PySem.W.exmOne K cls c = some b ∧ (b = true → ∀ a, H a = none → ts a cls d { nx := fun σ' H' => H' a = none → D.nx (σ'.set i none) (upd H' a (keptX a cls d)), rt := fun _ _ => False, bk := fun _ _ => False, ct := fun _ _ => False } (σ.set i (some (.ref a))) H) ∧ (b = false → Wout cls d σ H)
section
variable {X : Cx} {x n : Str} {c : Value} {i : Nat} {body suite : List Stmt} {b0 : Stmt} {np pos pos' : Pos} {tb : WX → TS} {ts : Addr → Value → Option Addr → TS} {Wout : WX}
theorem ps_try_keep (hex : X.ex = []) (hs : X.stack = X.env :: X.outer) (hf : X.env.frame = some X.env.locals) (hN : X.N.Nodup) (hi : X.N[i]? = some n) (hln : X.env.kindOf n = some .local) (hc : Names X x c) (tk : Takes X Wout)
    (hb : ∀ (W : WX) (pn : List (Addr × Obj)) (xe : Value → Shared → Prop), Takes (X.tr pn xe) W → PassesOwn (model X.prog X.w) X.A X.env xe → PSs (X.tr pn xe) body (tb W))
    (hsu : ∀ (a : Addr) (oe : Obj) (cls : Value) (d : Option Addr) (pn : List (Addr × Obj)), Zc cls d oe → (∃ vs, oe.data = .fields vs) → PSs (X.suite a ((a, oe) :: pn)) (b0 :: suite) (ts a cls d)) :
    PS X (.Try body [.ExceptHandler (some (.Name x np)) (some n) (b0 :: suite) pos'] [] [] pos) (fun D σ H => tb (wKeep X.K c i ts Wout D) D σ H) := by
  refine ⟨fun pins s σ H D I h => ?_⟩
  have ok := I.ok
  have hfr : X.A.frames = some (X.env :: X.outer) := by rw [ok.frames, hs]
  refine wpAny_Try_except (wpAny_mono ((hb (wKeep X.K c i ts Wout D) (X.pn ++ pins) (fun e u1 => wpAny (model X.prog X.w) X.A (noteFrame e X.env) (fun _ u2 => wpAny (model X.prog X.w) X.A (setFlight e none) (fun _ u3 =>
    wpAny (model X.prog X.w) X.A (handleBy e X.env [.ExceptHandler (some (.Name x np)) (some n) (b0 :: suite) pos']) (SP X pins D) X.xe u3) X.xe u2) X.xe u1) (fun u s' xx => ?_) PassesOwn.looking).run [] s σ H D (I.toTry _) h) (fun f s1 hsp => ?_) (fun e s1 he => he))
  · obtain ⟨a, B, sI, pins', σ', H', cls, d, rfl, J', nb, up, sky, na, os, ag, b, hb1, hyes, hno⟩ := xx
    have J : L2.Inv X pins σ' H' sI := J'.ofTry ok
    show wpAny (model X.prog X.w) X.A (noteFrame (.ref a) X.env) _ _ _
    refine Sky.land Zc.steady hfr hf (show Sky B (X.env :: X.outer) a (Zc cls d) X.env.locals s'.heap by rw [← hs]; exact sky) fun h3 fl3 up3 => ?_
    have J3 : L2.Inv X pins σ' H' { s' with heap := h3 } := J.landed nb fl3.1 (up.trans up3) os ag
    obtain ⟨oe3, vs3, he3, hz3, hd3⟩ := fl3.there
    have nfr : a ∉ frs (X.env :: X.outer) := fun hm => by
      obtain ⟨_, o', e', hnf⟩ := fl3.2.2.1.mem hm
      rw [he3] at e'
      cases e'
      exact hnf _ hd3
    have nI : sI.heap.get? a = none := by
      cases e : sI.heap.get? a with
      | none => rfl
      | some o =>
        have q := nb a o e (by rw [hs]; exact nfr)
        rw [fl3.2.1] at q
        cases q
    have n0 : X.s_0.heap.get? a = none := by
      cases e : X.s_0.heap.get? a with
      | none => rfl
      | some o =>
        obtain ⟨o', q⟩ := J.base.there a o e (by rw [hex]; simp)
        rw [nI] at q
        cases q
    have nP : ∀ p ∈ X.pn ++ pins, p.1 ≠ a := fun p hp z => by
      have q := (J.pin p hp).1
      rw [z, nI] at q
      cases q
    have nL : a ≠ X.env.locals := fun z => nfr (List.mem_filterMap.mpr ⟨X.env, List.mem_cons_self, by rw [hf, z]⟩)
    have nF : a ∉ X.fs := fun hm => by
      obtain ⟨e, he, q⟩ := List.mem_filterMap.mp hm
      exact nfr (List.mem_filterMap.mpr ⟨e, List.mem_cons_of_mem _ he, q⟩)
    have S3 := J3.suite he3 hd3 na nL nF
    refine wpAny_handleBy_cons (codeAny_handlers_test ?_) (by intro q; cases q)
    have LT : PySem.W.Looks (model X.prog X.w) h3 (typeOf (.ref a)) cls := fun A Q E u k q => wpAny_typeOf_ref (k _ _ he3) (by rw [hz3.1]; exact q)
    have LM := PySem.W.exm_one (M := model X.prog X.w) J3.kIn LT hb1
    have test : ∀ {Q : Value → Shared → Prop} {E : Value → Shared → Prop}, Q c { s' with heap := h3 } → wpAny (model X.prog X.w) (X.A.mark (some (.ref a))) (eval (.Name x np) X.env) Q E { s' with heap := h3 } := fun {Q E} q => by
      obtain ⟨hg, hdbg, hm | ⟨hm, hv, hnn⟩⟩ := hc
      · exact ld_glob (X := X.suite a ((a, oe3) :: (X.pn ++ pins))) S3 hg hm q hdbg
      · exact ld_blt (X := X.suite a ((a, oe3) :: (X.pn ++ pins))) S3 hg hm hv q hnn hdbg
    refine test (LM.here ?_)
    cases b with
    | true =>
      refine codeAny_handlers_suite_as (HandSPX.lands_againZ fl3 fun h4 fl4 up4 => ?_)
      have J4 : L2.Inv X pins σ' H' { s' with heap := h4 } := J.landed nb fl4.1 ((up.trans up3).trans up4) os ag
      obtain ⟨oe4, vs4, he4, hz4, hd4⟩ := fl4.there
      have S4 := J4.suite he4 hd4 na nL nF
      refine store_ok (X := X.suite a ((a, oe4) :: (X.pn ++ pins))) (v := .ref a) S4 hN hi (.inl hln) rfl (fun s5 S5 => ?_) (.inr hln)
      refine wpAny_mono ((hsu a oe4 cls d (X.pn ++ pins) hz4 ⟨_, hd4⟩).run [] s5 _ H' _ S5 (hyes rfl a na)) (fun f s6 hsp => ?_) (fun _ _ z => False.elim z)
      cases f with
      | next =>
        obtain ⟨σ6, H6, S6, q6⟩ := hsp
        obtain ⟨e6, n6, _⟩ := S6.pin (a, oe4) (List.mem_append_left _ List.mem_cons_self)
        have I6 := S6.unsuite ok
        have I7 := track (o := keptX a cls d) I6 n6 n0 nL (fun y cc hy z => by
          obtain ⟨v, o, h1, h2⟩ := I6.cell y cc hy
          rw [z] at h1
          have h1' : s6.heap.get? a = some o := h1
          rw [show s6.heap.get? a = some oe4 from e6] at h1'
          cases h1'
          rw [hd4] at h2
          cases h2) nP (keptX_ok e6 hz4 hd4)
        exact gone_ok I7 hN hi hln fun s7 J7 => ⟨_, _, J7, q6 n6⟩
      | brk =>
        obtain ⟨_, _, _, q6⟩ := hsp
        exact q6.elim
      | cont =>
        obtain ⟨_, _, _, q6⟩ := hsp
        exact q6.elim
      | ret u =>
        obtain ⟨_, _, _, _, _, q6⟩ := hsp
        exact q6.elim
    | false =>
      show wpAny _ X.A (handleBy (.ref a) X.env []) _ _ _
      refine wpAny_handleBy_nil ?_
      obtain ⟨k1, k2, k3, oe, vs, T, oT, ts', he, hz, hd, h1, hr⟩ := id fl3
      unfold PySem.passOn
      refine wpAny_bind (wpAny_field he hd h1 ?_)
      rw [if_neg (show ¬ ((Value.ref T == Value.none) = true) from by simp)]
      have fin : wpAny (model X.prog X.w) X.A (setFlight (.ref a) X.env.frame) (fun _ u4 => wpAny (model X.prog X.w) X.A (throw (.ref a) : Sem Flow) (SP X pins D) X.xe u4) X.xe { s' with heap := h3 } := by
        rw [hf]
        refine HandSPX.setFlight_upZ fl3 fun h4 hh4 up4 => wpAny_throw (tk _ _ ?_)
        exact ⟨a, B, sI, pins, σ', H', cls, d, rfl, J, nb, (up.trans up3).trans up4, .inr (.inr (by rw [hs]; exact hh4)), na, os, ag, hno rfl⟩
      first
        | exact wpAny_bind (wpAny_pure (wpAny_bind fin))
        | exact wpAny_bind fin
  · cases f with
    | next =>
      obtain ⟨σ', H', J', q⟩ := hsp
      exact wpAny_execs_nil ⟨σ', H', J'.ofTry ok, q⟩
    | brk =>
      obtain ⟨σ', H', J', q⟩ := hsp
      exact ⟨σ', H', J'.ofTry ok, q⟩
    | cont =>
      obtain ⟨σ', H', J', q⟩ := hsp
      exact ⟨σ', H', J'.ofTry ok, q⟩
    | ret u =>
      obtain ⟨v, σ', H', J', r, q⟩ := hsp
      exact ⟨v, σ', H', J'.ofTry ok, r, q⟩
end
section
variable {X : Cx}
/-- what isinstance asks of an error that was kept -/
theorem kept_kit {pz : List (Addr × Obj)} {σ : L2.St} {H : Hp} {s : Shared} {a C : Addr} (I : L2.Inv X pz σ H s) (e : H a = some (keptX a (.ref C) none)) (TT : ExcC X.K C) : ∃ P : Heap → Prop, PySem.W.KitX X.K (.ref a) (.ref C) P ∧ P s.heap := by
  have hcl : (PySem.W.clsIn X.K C).isSome = true := by
    obtain ⟨cd, hc, _⟩ := PySem.W.any_some TT.hd
    rw [hc]
    rfl
  obtain ⟨⟨oe, vs, ho, hy, hd⟩, _, _⟩ := I.hok a _ e
  refine ⟨_, PySem.W.kitx_exc (ox := oe) (od := none) hcl TT.hg TT.hk TT.hs TT.ha TT.hn TT.ht TT.hm, ?_⟩
  obtain ⟨oc, oq, oda, osl⟩ := oe
  obtain ⟨h1, h2⟩ := hy
  dsimp only at h1 h2 hd
  subst h1 h2 hd
  exact ⟨ho, rfl, rfl, trivial⟩
theorem call_isK : CallR X (.builtin "isinstance") (fun xs H Q => ∃ (a C : Addr) (c : V) (u : Value) (b : Bool), xs = [.ref a, c] ∧ H a = some (keptX a (.ref C) none) ∧ ExcC X.K C ∧ ClsV c u ∧ PySem.W.kitOne X.K (.ref C) u = some b ∧ Q (.bl b) H) := by
  intro pz s σ H xs ua Q I r h
  obtain ⟨a, C, c, u, b, rfl, ea, TT, k, e, q⟩ := h
  obtain ⟨u1, u2, rfl, ra, rb⟩ := vals2 r
  have e2 := k.eq rb
  subst e2
  cases (show u1 = Value.ref a from ra)
  obtain ⟨P, Z, p⟩ := kept_kit I ea TT
  exact PySem.W.kia_one Z I.kIn p e (fun z => nomatch z) fun tz => ⟨.bl b, H, I.tok tz, rfl, q⟩
theorem call_isKT : CallR X (.builtin "isinstance") (fun xs H Q => ∃ (a C : Addr) (tp : Addr) (cs : List V) (ws : List Value) (b : Bool), xs = [.ref a, .ref tp] ∧ H a = some (keptX a (.ref C) none) ∧ ExcC X.K C ∧ H tp = some (.tup cs) ∧ Paired ClsV cs ws ∧ PySem.W.kitAny X.K (.ref C) ws = some b ∧ Q (.bl b) H) := by
  intro pz s σ H xs ua Q I r h
  obtain ⟨a, C, tp, cs, ws, b, rfl, ea, TT, htp, k, e, q⟩ := h
  obtain ⟨u1, u2, rfl, ra, rb⟩ := vals2 r
  cases (show u2 = Value.ref tp from rb)
  cases (show u1 = Value.ref a from ra)
  obtain ⟨P, Z, p⟩ := kept_kit I ea TT
  obtain ⟨_, itz, rz, o, h1, h2, n, h3⟩ := (show ObjOk X.prog X.w H s.heap tp (.tup cs) from I.hok tp _ htp)
  have e3 := ClsV.all k rz
  subst e3
  obtain ⟨oc, oq, dt, sl⟩ := o
  simp only at h2 h3
  subst h2 h3
  exact PySem.W.kia_tup Z I.kIn p h1 e (fun z => nomatch z) fun tz => ⟨.bl b, H, I.tok tz, rfl, q⟩
end
end Pk
end
/-! The mirror: what is a house, told of data. -/
namespace Pk
open PySem
def wholeD (lo hi : Int) : PyData → Bool
  | .int i => decide (lo ≤ i) && decide (i ≤ hi)
  | _ => false
def tupD (a b : Int) : PyData → Bool
  | .tuple ds => decide (a ≤ (ds.length : Int)) && decide ((ds.length : Int) ≤ b)
  | _ => false
def nameD : PyData → Bool
  | .str z => decide ((1 : Int) ≤ (z.length : Int)) && (decide ((z.length : Int) ≤ 8) && z.cps.toList.all smallC)
  | _ => false
def inS (zs : List Str) (d : PyData) : Bool := zs.any fun z => strIs z d
def farS : Int := 1000000000000000000
def greatS : Int := 100000000000000000000
def ways3 : List Str := ["both", "up", "down"]
def sorts2 : List Str := ["least", "most"]
def pairs3 : List Str := ["off", "most", "least"]
/-- a dial's numbers -/
def dialR : PyData → PyData → PyData → PyData → Bool
  | .int l, hi, up, down => wholeD (-farS) farS (.int l) && (wholeD l farS hi && (wholeD 1 1000000 up && wholeD 1 1000000 down))
  | _, _, _, _ => false
def dialD : PyData → Bool
  | .tuple [n, lo, hi, way, up, down] => nameD n && (inS ways3 way && dialR lo hi up down)
  | _ => false
def sayingD (ns : List Str) : PyData → Bool
  | .tuple [n, s, i] => inS ns n && (inS sorts2 s && wholeD (-greatS) greatS i)
  | _ => false
/-- two data that are the same text -/
def sameS : PyData → PyData → Bool
  | .str a, .str b => a == b
  | _, _ => false
def ruleD (ns : List Str) : PyData → Bool
  | .tuple [w, p, q] => strIs "one" w && (sayingD ns p && sayingD ns q)
  | .tuple [w, a, b, c] => inS pairs3 w && (inS ns a && (inS ns b && (!sameS a b && wholeD (-greatS) greatS c)))
  | _ => false
def formD : PyData → Bool
  | .tuple [d, r] => tupD 1 12 d && tupD 0 40 r
  | _ => false
/-- the name of a dial, as a text -/
def nameOf : PyData → Str
  | .tuple (.str z :: _) => z
  | _ => ""
/-- text below or alike -/
def leS (a b : Str) : Bool := !decide (b.cps.toList < a.cps.toList)
/-- the first faulty dial, from the k-th on; prev: the one ahead -/
def fDial (k : Nat) (prev : Option Str) : List PyData → Option Nat
  | [] => none
  | d :: ds => if dialD d = true then (match prev with
      | some p => if leS (nameOf d) p = true then some k else fDial (k + 1) (some (nameOf d)) ds
      | none => fDial (k + 1) (some (nameOf d)) ds) else some k
/-- the first faulty rule, from the k-th on, past: those ahead -/
def fRule (ns : List Str) (k : Nat) (past : List PyData) : List PyData → Option Nat
  | [] => none
  | r :: rs => if ruleD ns r = true then (if (past.any fun z => PyData.eqv z r) = true then some k else fRule ns (k + 1) (past ++ [r]) rs) else some k
def dialsOf : PyData → List PyData
  | .tuple (.tuple ds :: _) => ds
  | _ => []
def rulesOf : PyData → List PyData
  | .tuple [_, .tuple rs] => rs
  | _ => []
def faultD (d : PyData) : PyData :=
  if formD d = true then (match fDial 0 none (dialsOf d) with
    | some k => .tuple [.str "dial", .int k]
    | none => match fRule ((dialsOf d).map nameOf) 0 [] (rulesOf d) with
      | some k => .tuple [.str "rule", .int k]
      | none => .none)
  else .tuple [.str "house"]
end Pk
/-! Names drawn: unlike ones. -/
namespace Pk
open PySem
theorem nodup_at {ss : List Str} {pre : List Nat} {c : Nat → Nat} (h : ∀ j z, ss[j]? = some z → ∃ tl, z.cps.toList = pre ++ c j :: tl) (inj : ∀ i j, i < ss.length → j < ss.length → c i = c j → i = j) : ss.Nodup := by
  unfold List.Nodup
  rw [List.pairwise_iff_getElem]
  intro i j hi hj hij e
  obtain ⟨t1, e1⟩ := h i _ (List.getElem?_eq_getElem hi)
  obtain ⟨t2, e2⟩ := h j _ (List.getElem?_eq_getElem hj)
  rw [e, e2] at e1
  have e3 := List.append_cancel_left e1
  have := inj j i hj hi (List.cons.inj e3).1
  omega
theorem nodup_set {ss : List Str} {pre : List Nat} {c : Nat → Nat} {k : Nat} {y : Str} (h : ∀ j z, ss[j]? = some z → ∃ tl, z.cps.toList = pre ++ c j :: tl) (inj : ∀ i j, i < ss.length → j < ss.length → c i = c j → i = j) (hy : y.cps.toList = pre) : (ss.set k y).Nodup := by
  have out : ∀ z ∈ ss, z ≠ y := fun z hz e => by
    obtain ⟨j, hj, ej⟩ := List.getElem_of_mem hz
    obtain ⟨tl, e1⟩ := h j z (by rw [List.getElem?_eq_getElem hj, ej])
    rw [e, hy] at e1
    have := congrArg List.length e1
    simp at this
  have nd := nodup_at h inj
  unfold List.Nodup at nd ⊢
  rw [List.pairwise_iff_getElem] at nd ⊢
  intro i j hi hj hij e
  rw [List.getElem_set, List.getElem_set] at e
  rw [List.length_set] at hi hj
  by_cases c1 : k = i
  · rw [if_pos c1, if_neg (by omega)] at e
    exact out _ (List.getElem_mem hj) e.symm
  · rw [if_neg c1] at e
    by_cases c2 : k = j
    · rw [if_pos c2] at e
      exact out _ (List.getElem_mem hi) e
    · rw [if_neg c2] at e
      exact nd i j hi hj hij e
def byL : List Int := [1, 3, 5, 7, 9, 11, 15, 17, 19, 21, 23, 25]
theorem inj26 {fi b : Int} (hb : b ∈ byL) {i j : Nat} (hi : i < 12) (hj : j < 12) (h : 97 + ((fi + b * (i : Int)) % 26).toNat = 97 + ((fi + b * (j : Int)) % 26).toNat) : i = j := by
  simp only [byL, List.mem_cons, List.not_mem_nil, or_false] at hb
  have p1 := Int.emod_nonneg (fi + b * (i : Int)) (show (26 : Int) ≠ 0 by decide)
  have p2 := Int.emod_nonneg (fi + b * (j : Int)) (show (26 : Int) ≠ 0 by decide)
  have h' : (fi + b * (i : Int)) % 26 = (fi + b * (j : Int)) % 26 := by omega
  rcases hb with rfl | rfl | rfl | rfl | rfl | rfl | rfl | rfl | rfl | rfl | rfl | rfl <;> omega
/-! Texts in their order -/
theorem lt_of_le_ne {a b : Str} (h : ¬ b.cps.toList < a.cps.toList) (hn : a ≠ b) : leS b a = false := by
  unfold leS
  have : a.cps.toList < b.cps.toList := by
    rcases Decidable.em (a.cps.toList < b.cps.toList) with q | q
    · exact q
    · exfalso
      have e := List.le_antisymm (show a.cps.toList ≤ b.cps.toList from h) (show b.cps.toList ≤ a.cps.toList from q)
      apply hn
      cases a
      cases b
      congr 1
      exact Array.ext' e
  simp [this]
end Pk
namespace Pk
open PySem L2
def topH (i : Nat) : Stmt := PySem.Challenge.pw_pawldials_k03_wishes_met.main.body.getD i (.Pass ⟨0, 0, 0, 0⟩)
abbrev sWhole : Stmt := topH 2
abbrev sTupOf : Stmt := topH 3
abbrev sIsName : Stmt := topH 22
abbrev sPrice : Stmt := topH 23
abbrev sIsDial : Stmt := topH 24
abbrev sIsSaying : Stmt := topH 25
abbrev sIsRule : Stmt := topH 26
abbrev sForm : Stmt := topH 34
abbrev sFDial : Stmt := topH 35
abbrev sFRule : Stmt := topH 36
abbrev sFault : Stmt := topH 37
/-- the built-in names that these defs ask -/
structure BltH (mg : Str → Option Value) : Prop where
  isinstance : mg "isinstance" = none
  bool : mg "bool" = none
  int : mg "int" = none
  str : mg "str" = none
  tuple : mg "tuple" = none
  list : mg "list" = none
  len : mg "len" = none
  all : mg "all" = none
  enumerate : mg "enumerate" = none
/-- the module's own constants -/
structure Cons (K : PySem.W.Frag) (mg : Str → Option Value) (W S R : Addr) : Prop where
  far : ∃ t, mg "FARTHEST" = some (.int farS t)
  great : ∃ t, mg "GREATEST" = some (.int greatS t)
  dear : ∃ t, mg "DEAREST" = some (.int 1000000 t)
  long : ∃ t, mg "LONGEST_NAME" = some (.int 8 t)
  dials : ∃ t, mg "MOST_DIALS" = some (.int 12 t)
  rules : ∃ t, mg "MOST_RULES" = some (.int 40 t)
  mW : mg "WAYS" = some (.ref W)
  mS : mg "SORTS" = some (.ref S)
  mR : mg "PAIR_RULES" = some (.ref R)
  ways : ∀ H, SqT K H W (ways3.map V.str)
  sorts : ∀ H, SqT K H S (sorts2.map V.str)
  pairs : ∀ H, SqT K H R (pairs3.map V.str)
def spWhole : Sp := fun vs H Q _ => ∃ (x : V) (d : PyData) (lo hi : Int), vs = [x, .int lo, .int hi] ∧ Tr H x d ∧ Q (.bl (wholeD lo hi d)) H
def spTupOf : Sp := fun vs H Q _ => ∃ (x : V) (d : PyData) (a b : Int), vs = [x, .int a, .int b] ∧ Tr H x d ∧ Q (.bl (tupD a b d)) H
def spPrice : Sp := fun vs H Q _ => ∃ (x : V) (d : PyData), vs = [x] ∧ Tr H x d ∧ Q (.bl (wholeD 1 1000000 d)) H
/-- all stays, but a table may grow -/
def Gr (P : Addr) (H H' : Hp) : Prop := GxR.TabG H' P ∧ ∀ b o, b ≠ P → H b = some o → H' b = some o
theorem Gr.of {P : Addr} {H H' : Hp} (h : GxR.Tabbed P H H') : Gr P H H' := ⟨h.1, fun b o hb e => by rw [h.2 b hb]; exact e⟩
theorem Gr.refl {P : Addr} {H : Hp} (h : GxR.TabG H P) : Gr P H H := ⟨h, fun _ _ _ e => e⟩
theorem Gr.trans {P : Addr} {H H1 H2 : Hp} (a : Gr P H H1) (b : Gr P H1 H2) : Gr P H H2 := ⟨b.1, fun c o hc e => b.2 c o hc (a.2 c o hc e)⟩
theorem Gr.same {P : Addr} {H H' : Hp} (t : GxR.TabG H P) (s : Same H H') : Gr P H H' := ⟨let ⟨ps, h1, h2⟩ := t; ⟨ps, s _ _ h1, h2⟩, fun b o _ e => s b o e⟩
mutual
theorem Tr.gr {P : Addr} {H H' : Hp} (t : GxR.TabG H P) (g : Gr P H H') : ∀ {v : V} {d : PyData}, Tr H v d → Tr H' v d
  | _, _, .non => .non
  | _, _, .bl b => .bl b
  | _, _, .int i => .int i
  | _, _, .str x => .str x
  | _, _, .lst h a => .lst (g.2 _ _ (let ⟨_, z, _⟩ := t; ne_of h z (by intro y; cases y)) h) (TrAll.gr t g a)
  | _, _, .tup h a => .tup (g.2 _ _ (let ⟨_, z, _⟩ := t; ne_of h z (by intro y; cases y)) h) (TrAll.gr t g a)
  | _, _, .dct h n e a => .dct (g.2 _ _ (let ⟨_, z, _⟩ := t; ne_of h z (by intro y; cases y)) h) n e (TrAll.gr t g a)
theorem TrAll.gr {P : Addr} {H H' : Hp} (t : GxR.TabG H P) (g : Gr P H H') : ∀ {vs : List V} {ds : List PyData}, TrAll H vs ds → TrAll H' vs ds
  | _, _, .nil => .nil
  | _, _, .cons h u => .cons (Tr.gr t g h) (TrAll.gr t g u)
end
def spIsName (P : Addr) : Sp := fun vs H Q _ => ∃ (x : V) (d : PyData), vs = [x] ∧ Tr H x d ∧ GxR.TabG H P ∧ (∀ z, d = .str z → z.length ≤ sizeLine) ∧ ∀ H', Gr P H H' → Q (.bl (nameD d)) H'
section
variable {P : Program} {w : World} {K : PySem.W.Frag} {mg : Str → Option Value} {base : Heap} {W S R : Addr}
theorem wholeD_int (lo hi i : Int) : wholeD lo hi (.int i) = (decide (lo ≤ i) && decide (i ≤ hi)) := rfl
theorem scWhole : FnScope ["thing", "low", "high"] ["thing", "low", "high"] (defScope sWhole) := ⟨rfl, rfl, rfl, by decide +kernel, rfl, by decide +kernel, by decide +kernel⟩
theorem ok_whole {f : Addr} {fd : FuncData} (F : Fun K "is_whole" "is_whole" sWhole f fd) (B : BltH mg) : FnOk P w K mg base CX0 1 f fd ["thing", "low", "high"] spWhole := by
  refine F.ok scWhole (fun vs H Q E h => ?_) (fun cdv A outer s H vs Q E hr h => ?_)
  · obtain ⟨x, d, lo, hi, rfl, _⟩ := h
    rfl
  obtain ⟨x, d, lo, hi, rfl, t, k⟩ := h
  refine ⟨_, pss_cons (ps_if (PW.pt (pw_or (pt_val (pe_callB call_isT (by rfl) B.isinstance (by decide +kernel) (pa_cons (pv 0) (pa_cons (pe_bltn (v := .ty "bool") (by rfl) B.bool (by decide +kernel) rfl) pa_nil))))
      (pw_or1 (pt_not (pt_val (pe_callB call_isT (by rfl) B.isinstance (by decide +kernel) (pa_cons (pv 0) (pa_cons (pe_bltn (v := .ty "int") (by rfl) B.int (by decide +kernel) rfl) pa_nil)))))))) (pss_one (ps_ret pe_bl)) pss_nil) <|
    pss_one (ps_ret (pe_chain op_le op_le (pv 1) (pv 0) (pv 2))), ?_⟩
  refine ⟨_, rfl, x, "bool", d, isB, rfl, kB, t, _, rfl, ?_⟩
  have no : isI d = false → wholeD lo hi d = false → (H : Hp) → Tr H x d → True := fun _ _ _ _ => trivial
  cases t with
  | int i =>
    refine iteF ?_
    refine ⟨_, rfl, _, "int", _, isI, rfl, kI, .int i, _, rfl, iteF ?_⟩
    refine ⟨_, rfl, _, rfl, _, _, rfl, rfl, _, rfl, ?_⟩
    refine ite2 (fun c => ?_) (fun c => ?_)
    · refine ⟨_, rfl, _, _, rfl, rfl, ?_⟩
      have e : wholeD lo hi (.int i) = decide (i ≤ hi) := by rw [wholeD_int, c]; rfl
      rw [e] at k
      exact k
    · have e : wholeD lo hi (.int i) = false := by rw [wholeD_int, Bool.eq_false_iff.mpr c]; rfl
      rw [e] at k
      exact k
  | bl b => exact iteT k
  | non => exact iteF ⟨_, rfl, _, "int", _, isI, rfl, kI, .non, _, rfl, iteT k⟩
  | str z => exact iteF ⟨_, rfl, _, "int", _, isI, rfl, kI, .str z, _, rfl, iteT k⟩
  | lst h a => exact iteF ⟨_, rfl, _, "int", _, isI, rfl, kI, .lst h a, _, rfl, iteT k⟩
  | tup h a => exact iteF ⟨_, rfl, _, "int", _, isI, rfl, kI, .tup h a, _, rfl, iteT k⟩
  | dct h n e a => exact iteF ⟨_, rfl, _, "int", _, isI, rfl, kI, .dct h n e a, _, rfl, iteT k⟩
theorem scTupOf : FnScope ["thing", "least", "most"] ["thing", "least", "most"] (defScope sTupOf) := ⟨rfl, rfl, rfl, by decide +kernel, rfl, by decide +kernel, by decide +kernel⟩
theorem ok_tupOf {f : Addr} {fd : FuncData} (F : Fun K "is_tuple_of" "is_tuple_of" sTupOf f fd) (B : BltH mg) : FnOk P w K mg base CX0 1 f fd ["thing", "least", "most"] spTupOf := by
  refine F.ok scTupOf (fun vs H Q E h => ?_) (fun cdv A outer s H vs Q E hr h => ?_)
  · obtain ⟨x, d, lo, hi, rfl, _⟩ := h
    rfl
  obtain ⟨x, d, lo, hi, rfl, t, k⟩ := h
  refine ⟨_, pss_one (ps_ret (pe_and (pe_callB call_isT (by rfl) B.isinstance (by decide +kernel) (pa_cons (pv 0) (pa_cons (pe_bltn (v := .ty "tuple") (by rfl) B.tuple (by decide +kernel) rfl) pa_nil)))
    (pe_one (pe_chain op_le op_le (pv 1) (pe_callB call_len_seq (by rfl) B.len PySem.boot_len (pa_cons (pv 0) pa_nil)) (pv 2))))), ?_⟩
  refine ⟨_, rfl, x, "tuple", d, isTup, rfl, kT, t, _, rfl, ?_⟩
  cases t with
  | @tup a xs ds h al =>
    refine iteT ?_
    have el := al.length
    refine ⟨_, rfl, _, rfl, a, _, rfl, .inr (SqT.of h), _, _, rfl, rfl, _, rfl, ?_⟩
    refine ite2 (fun c => ?_) (fun c => ?_)
    · refine ⟨_, rfl, _, _, rfl, rfl, ?_⟩
      have e : tupD lo hi (.tuple ds) = decide (((xs.length : Nat) : Int) ≤ hi) := by show (decide (lo ≤ ((ds.length : Nat) : Int)) && decide (((ds.length : Nat) : Int) ≤ hi)) = _; rw [← el, c]; rfl
      rw [e] at k
      exact k
    · have e : tupD lo hi (.tuple ds) = false := by show (decide (lo ≤ ((ds.length : Nat) : Int)) && decide (((ds.length : Nat) : Int) ≤ hi)) = _; rw [← el, Bool.eq_false_iff.mpr c]; rfl
      rw [e] at k
      exact k
  | int i => exact iteF k
  | bl b => exact iteF k
  | non => exact iteF k
  | str z => exact iteF k
  | lst h a => exact iteF k
  | dct h n e a => exact iteF k
theorem scPrice : FnScope ["thing"] ["thing"] (defScope sPrice) := ⟨rfl, rfl, rfl, by decide +kernel, rfl, by decide +kernel, by decide +kernel⟩
theorem ok_price {f g : Addr} {fd gd : FuncData} (F : Fun K "is_price" "is_price" sPrice f fd) (G : FnOk P w K mg base CX0 1 g gd ["thing", "low", "high"] spWhole) (bG : Binds K gd ["thing", "low", "high"] []) (kG : PySem.W.keepIn K (.ref g) = true) (mG : mg "is_whole" = some (.ref g)) (C : Cons K mg W S R) : FnOk P w K mg base CX0 2 f fd ["thing"] spPrice := by
  refine F.ok scPrice (fun vs H Q E h => ?_) (fun cdv A outer s H vs Q E hr h => ?_)
  · obtain ⟨x, d, rfl, _⟩ := h
    rfl
  obtain ⟨x, d, rfl, t, k⟩ := h
  obtain ⟨tk, hdear⟩ := C.dear
  refine ⟨_, pss_one (ps_ret (pe_call G hr rfl mG kG bG .nil pass0 (pa_cons (pv 0) (pa_cons pe_int (pa_cons (pe_glob (v := .int 1000000) (by rfl) hdear ⟨_, rfl⟩) pa_nil))))), ?_⟩
  exact ⟨_, rfl, x, d, 1, 1000000, rfl, t, k⟩
/-- the scope of the generator expression over a name's signs -/
def scSign : Scope := { kind := .function, names := [((".0" : Str), NameKind.local), (("sign" : Str), NameKind.local)], isGenerator := true, isCoroutine := false }
theorem gsSign (env : Env) : GxR.GenS env scSign "sign" := by
  refine ⟨rfl, rfl, by decide +kernel, rfl, rfl, fun y hy e => ?_⟩
  have z : y = ((".0" : Str), NameKind.local) ∨ y = (("sign" : Str), NameKind.local) := by simpa [scSign] using hy
  rcases z with z | z
  · rw [z] at e
    cases e
  · rw [z] at e
    cases e
theorem nameD_str (z : Str) : nameD (.str z) = (decide ((1 : Int) ≤ (z.length : Int)) && (decide ((z.length : Int) ≤ 8) && z.cps.toList.all smallC)) := rfl
theorem scIsName : FnScope ["thing"] ["thing"] (defScope sIsName) := ⟨rfl, rfl, rfl, by decide +kernel, rfl, by decide +kernel, by decide +kernel⟩
theorem ok_isName {f c Pt : Addr} {oc : Value} {od an : Option Addr} {osl : Array (Option Value)} {kV doc pm ct : Value} (lk : K.lookup f = some ⟨oc, od, .func (PySem.W.fnOf "is_name" "is_name" (defArgs sIsName) (defBody sIsName) (defScope sIsName) .none kV doc pm an (.ref c) ct), osl⟩) (hcd : PySem.W.codeIn K (.ref c) "is_name" = true)
    (TB : GxR.TabB base mg c Pt) (C : Cons K mg W S R) (B : BltH mg) : FnOk P w K mg base CX0 2 f (PySem.W.fnOf "is_name" "is_name" (defArgs sIsName) (defBody sIsName) (defScope sIsName) .none kV doc pm an (.ref c) ct) ["thing"] (spIsName Pt) := by
  refine fn_of lk hcd scIsName (fun vs H Q E h => ?_) (fun A outer s H vs Q E hr h => ?_)
  · obtain ⟨x, d, rfl, _⟩ := h
    rfl
  obtain ⟨x, d, rfl, t, tg, hz, k⟩ := h
  obtain ⟨tk, hlong⟩ := C.long
  refine ⟨_, PSs.nox (pss_cons (ps_if (PW.pt (pw_or (pt_not (pt_val (pe_callB call_isT (by rfl) B.isinstance (by decide +kernel) (pa_cons (pv 0) (pa_cons (pe_bltn (v := .ty "str") (by rfl) B.str (by decide +kernel) rfl) pa_nil)))))
      (pw_or1 (pt_not (pt_chain op_le op_le pe_int (pe_callB call_len_str (by rfl) B.len PySem.boot_len (pa_cons (pv 0) pa_nil)) (pe_glob (v := .int 8) (by rfl) hlong ⟨_, rfl⟩)))))) (pss_one (ps_ret pe_bl)) pss_nil) <|
    pss_one (ps_ret (GxR.pe_allS hr (by rfl) B.all (by decide +kernel) TB rfl (gsSign _) (pv 0) (elt_az rfl rfl) (fun _ => rfl)))), ?_⟩
  refine ⟨_, rfl, x, "str", d, isStr, rfl, kS, t, _, rfl, ?_⟩
  cases t with
  | str z =>
    refine iteF ?_
    have hz := hz z rfl
    refine ⟨_, rfl, _, rfl, hz, _, _, rfl, rfl, _, rfl, ?_⟩
    refine ite2 (fun c1 => ?_) (fun c1 => ?_)
    · refine ⟨_, _, rfl, rfl, _, rfl, ?_⟩
      cases c2 : decide ((z.length : Int) ≤ 8) with
      | true =>
        refine iteF ⟨_, rfl, z, rfl, tg, fun H2 tb => ?_⟩
        have e : nameD (.str z) = z.cps.toList.all smallC := by rw [nameD_str, c1, c2]; rfl
        have q := k H2 (Gr.of tb)
        rw [e] at q
        exact q
      | false =>
        have e : nameD (.str z) = false := by rw [nameD_str, c1, c2]; rfl
        have q := k H (Gr.refl tg)
        rw [e] at q
        exact iteT q
    · have e : nameD (.str z) = false := by rw [nameD_str, Bool.eq_false_iff.mpr c1]; rfl
      have q := k H (Gr.refl tg)
      rw [e] at q
      exact ⟨_, rfl, iteT q⟩
  | int i => exact iteT (k H (Gr.refl tg))
  | bl b => exact iteT (k H (Gr.refl tg))
  | non => exact iteT (k H (Gr.refl tg))
  | tup h a => exact iteT (k H (Gr.refl tg))
  | lst h a => exact iteT (k H (Gr.refl tg))
  | dct h n e a => exact iteT (k H (Gr.refl tg))
end
end Pk
namespace Pk
open PySem L2
mutual
/-- texts in it are not too long -/
def okS : PyData → Bool
  | .str z => decide (z.length ≤ 100000)
  | .list xs | .tuple xs => okSs xs
  | .dict es => okKv es
  | .none | .bool _ | .int _ => true
def okSs : List PyData → Bool
  | [] => true
  | x :: xs => okS x && okSs xs
def okKv : List (PyData × PyData) → Bool
  | [] => true
  | (_, x) :: xs => okS x && okKv xs
end
theorem okSs_get : ∀ {ds : List PyData} {i : Nat} {d : PyData}, okSs ds = true → ds[i]? = some d → okS d = true
  | [], i, d, _, h => by simp at h
  | x :: xs, 0, d, e, h => by
    cases (show some x = some d from h)
    rw [okSs, Bool.and_eq_true] at e
    exact e.1
  | x :: xs, i + 1, d, e, h => by
    rw [okSs, Bool.and_eq_true] at e
    exact okSs_get (i := i) e.2 h
theorem okS_str {d : PyData} (h : okS d = true) : ∀ z, d = .str z → z.length ≤ sizeLine := fun z e => by
  subst e
  simp only [okS, decide_eq_true_eq] at h
  have := sizeLine_eq
  omega
theorem tupD6 {d : PyData} (h : tupD 6 6 d = true) : ∃ a b c e f g, d = .tuple [a, b, c, e, f, g] := by
  cases d with
  | tuple ds =>
    simp only [tupD, Bool.and_eq_true, decide_eq_true_eq] at h
    match ds, h with
    | [a, b, c, e, f, g], _ => exact ⟨a, b, c, e, f, g, rfl⟩
    | [], h => simp at h
    | [_], h => simp at h
    | [_, _], h => simp at h
    | [_, _, _], h => simp at h
    | [_, _, _, _], h => simp at h
    | [_, _, _, _, _], h => simp at h
    | _ :: _ :: _ :: _ :: _ :: _ :: _ :: _, h => simp at h; omega
  | _ => cases h
theorem tupD_not6 {d : PyData} (h : tupD 6 6 d = false) : dialD d = false := by
  unfold dialD
  split
  · cases (show true = false from h)
  · rfl
def spIsDial (Pt : Addr) : Sp := fun vs H Q _ => ∃ (x : V) (d : PyData), vs = [x] ∧ Tr H x d ∧ GxR.TabG H Pt ∧ okS d = true ∧ ∀ H', Gr Pt H H' → Q (.bl (dialD d)) H'
section
variable {P : Program} {w : World} {K : PySem.W.Frag} {mg : Str → Option Value} {base : Heap} {W S R Pt : Addr}
theorem scIsDial : FnScope ["thing", "name", "low", "high", "way", "up", "down"] ["thing"] (defScope sIsDial) := ⟨rfl, rfl, rfl, by decide +kernel, rfl, by decide +kernel, by decide +kernel⟩
theorem ok_isDial {f g1 g2 g3 g4 : Addr} {fd d1 d2 d3 d4 : FuncData} (F : Fun K "is_dial" "is_dial" sIsDial f fd)
    (G1 : FnOk P w K mg base CX0 1 g1 d1 ["thing", "low", "high"] spWhole) (b1 : Binds K d1 ["thing", "low", "high"] []) (k1 : PySem.W.keepIn K (.ref g1) = true) (m1 : mg "is_whole" = some (.ref g1))
    (G2 : FnOk P w K mg base CX0 1 g2 d2 ["thing", "least", "most"] spTupOf) (b2 : Binds K d2 ["thing", "least", "most"] []) (k2 : PySem.W.keepIn K (.ref g2) = true) (m2 : mg "is_tuple_of" = some (.ref g2))
    (G3 : FnOk P w K mg base CX0 2 g3 d3 ["thing"] (spIsName Pt)) (b3 : Binds K d3 ["thing"] []) (k3 : PySem.W.keepIn K (.ref g3) = true) (m3 : mg "is_name" = some (.ref g3))
    (G4 : FnOk P w K mg base CX0 2 g4 d4 ["thing"] spPrice) (b4 : Binds K d4 ["thing"] []) (k4 : PySem.W.keepIn K (.ref g4) = true) (m4 : mg "is_price" = some (.ref g4))
    (C : Cons K mg W S R) : FnOk P w K mg base CX0 3 f fd ["thing"] (spIsDial Pt) := by
  refine F.ok scIsDial (fun vs H Q E h => ?_) (fun cdv A outer s H vs Q E hr h => ?_)
  · obtain ⟨x, d, rfl, _⟩ := h
    rfl
  obtain ⟨x, d, rfl, t, tg, hz, k⟩ := h
  obtain ⟨tf, hfar⟩ := C.far
  have hu := hu_of hr
  have hr1 : Room 1 _ := hr.mono (by decide)
  refine ⟨_, pss_cons (ps_if (pt_not (pt_val (pe_call G2 hr1 rfl m2 k2 b2 .nil pass0 (pa_cons (pv 0) (pa_cons pe_int (pa_cons pe_int pa_nil)))))) (pss_one (ps_ret pe_bl)) pss_nil) <|
    pss_cons (ps_asg (pv 0) (pg_tup (by rfl) (pgs_cons (pg_name (i := 1) scIsDial.nd rfl (.inl rfl)) <| pgs_cons (pg_name (i := 2) scIsDial.nd rfl (.inl rfl)) <| pgs_cons (pg_name (i := 3) scIsDial.nd rfl (.inl rfl)) <|
      pgs_cons (pg_name (i := 4) scIsDial.nd rfl (.inl rfl)) <| pgs_cons (pg_name (i := 5) scIsDial.nd rfl (.inl rfl)) <| pgs_cons (pg_name (i := 6) scIsDial.nd rfl (.inl rfl)) pgs_nil))) <|
    pss_cons (ps_if (PW.pt (pw_or (pt_not (pt_val (pe_call G3 hr rfl m3 k3 b3 .nil pass0 (pa_cons (pv 1) pa_nil)))) (pw_or1 (pt_cmpR (op_notInS hu) (pv 4) (pe_glob (v := .ref W) (by rfl) C.mW rfl) (by rfl))))) (pss_one (ps_ret pe_bl)) pss_nil) <|
    pss_cons (ps_if (PW.pt (pw_or (pt_not (pt_val (pe_call G1 hr1 rfl m1 k1 b1 .nil pass0 (pa_cons (pv 2) (pa_cons (pe_un un_neg (pe_glob (v := .int farS) (by rfl) hfar ⟨_, rfl⟩)) (pa_cons (pe_glob (v := .int farS) (by rfl) hfar ⟨_, rfl⟩) pa_nil))))))
      (pw_or1 (pt_not (pt_val (pe_call G1 hr1 rfl m1 k1 b1 .nil pass0 (pa_cons (pv 3) (pa_cons (pv 2) (pa_cons (pe_glob (v := .int farS) (by rfl) hfar ⟨_, rfl⟩) pa_nil))))))))) (pss_one (ps_ret pe_bl)) pss_nil) <|
    pss_one (ps_ret (pe_and (pe_call G4 hr rfl m4 k4 b4 .nil pass0 (pa_cons (pv 5) pa_nil)) (pe_one (pe_call G4 hr rfl m4 k4 b4 .nil pass0 (pa_cons (pv 6) pa_nil))))), ?_⟩
  refine ⟨_, rfl, x, d, 6, 6, rfl, t, _, rfl, ?_⟩
  cases c1 : tupD 6 6 d with
  | false =>
    have q := k H (Gr.refl tg)
    rw [tupD_not6 c1] at q
    exact iteT q
  | true =>
    refine iteF ?_
    obtain ⟨da, db, dc, dd, de, df, rfl⟩ := tupD6 c1
    cases t with
    | @tup a xs _ h al =>
    match xs, al with
    | [xa, xb, xc, xd, xe, xf], .cons ta (.cons tb (.cons tc (.cons td (.cons te (.cons tf' .nil))))) =>
    simp only [okS, okSs, Bool.and_eq_true] at hz
    refine ⟨_, rfl, a, _, rfl, SqT.of h, rfl, ?_⟩
    refine ⟨_, _, rfl, _, _, rfl, _, _, rfl, _, _, rfl, _, _, rfl, _, _, rfl, rfl, ?_⟩
    refine ⟨_, rfl, xa, da, rfl, ta, tg, okS_str hz.1, fun H1 gr => ⟨_, rfl, ?_⟩⟩
    have q := k H1 gr
    have tg1 := gr.1
    have ed : dialD (.tuple [da, db, dc, dd, de, df]) = (nameD da && (inS ways3 dd && dialR db dc de df)) := rfl
    rw [ed] at q
    cases c2 : nameD da with
    | false =>
      rw [c2] at q
      exact iteT q
    | true =>
      rw [c2] at q
      refine iteF ?_
      refine ⟨_, rfl, dd, W, _, td.gr tg gr, rfl, .inr (C.ways H1), _, rfl, ?_⟩
      have q : Q (.bl (inS ways3 dd && dialR db dc de df)) H1 := q
      cases c3 : inS ways3 dd with
      | false =>
        rw [c3] at q
        have c3' : (ways3.any fun z => strIs z dd) = false := c3
        rw [c3']
        exact iteT q
      | true =>
        rw [c3] at q
        have c3' : (ways3.any fun z => strIs z dd) = true := c3
        rw [c3']
        refine iteF ?_
        refine ⟨_, rfl, _, rfl, xb, db, -farS, farS, rfl, tb.gr tg gr, _, rfl, ?_⟩
        cases c4 : wholeD (-farS) farS db with
        | false =>
          have e : dialR db dc de df = false := by
            cases db with
            | int l =>
              show (wholeD (-farS) farS (.int l) && _) = false
              rw [c4]
              rfl
            | _ => rfl
          rw [e] at q
          exact iteT q
        | true =>
          refine iteF ?_
          cases tb with
          | int l =>
            have q : Q (.bl (wholeD (-farS) farS (.int l) && (wholeD l farS dc && (wholeD 1 1000000 de && wholeD 1 1000000 df)))) H1 := q
            rw [c4] at q
            have q : Q (.bl (wholeD l farS dc && (wholeD 1 1000000 de && wholeD 1 1000000 df))) H1 := q
            refine ⟨_, rfl, _, rfl, xc, dc, l, farS, rfl, tc.gr tg gr, _, rfl, ?_⟩
            cases c5 : wholeD l farS dc with
            | false =>
              rw [c5] at q
              exact iteT q
            | true =>
              rw [c5] at q
              have q : Q (.bl (wholeD 1 1000000 de && wholeD 1 1000000 df)) H1 := q
              refine iteF ⟨_, rfl, xe, de, rfl, te.gr tg gr, _, rfl, ?_⟩
              cases c6 : wholeD 1 1000000 de with
              | false =>
                rw [c6] at q
                exact iteF q
              | true =>
                rw [c6] at q
                exact iteT ⟨_, rfl, xf, df, rfl, tf'.gr tg gr, q⟩
          | non => cases c4
          | bl b => cases c4
          | str z => cases c4
          | lst _ _ => cases c4
          | tup _ _ => cases c4
          | dct _ _ _ _ => cases c4
end
end Pk
namespace Pk
open PySem L2
theorem walk_enumT {K : PySem.W.Frag} {a : Addr} {xs : List V} : Walk (IteT K a) xs.length (fun H => SqT K H a xs) (YPair (fun i => some (.int (i : Nat))) (fun i => xs[i]?)) where
  goes := fun i H hi h => ⟨xs, xs[i], h, by simp [hi]⟩
  stops := fun H h => ⟨xs, h, Nat.le_refl _⟩
  yields := fun i H x H' hi h ⟨T, y, e1, e2, e3, e4⟩ => ⟨T, .int (i : Nat), y, e1, e2, e3, rfl, e4 xs h⟩
theorem tupD3 {d : PyData} (h : tupD 3 3 d = true) : ∃ a b c, d = .tuple [a, b, c] := by
  cases d with
  | tuple ds =>
    simp only [tupD, Bool.and_eq_true, decide_eq_true_eq] at h
    match ds, h with
    | [a, b, c], _ => exact ⟨a, b, c, rfl⟩
    | [], h => simp at h
    | [_], h => simp at h
    | [_, _], h => simp at h
    | _ :: _ :: _ :: _ :: _, h => simp at h; omega
  | _ => cases h
theorem tupD4 {d : PyData} (h : tupD 4 4 d = true) : ∃ a b c e, d = .tuple [a, b, c, e] := by
  cases d with
  | tuple ds =>
    simp only [tupD, Bool.and_eq_true, decide_eq_true_eq] at h
    match ds, h with
    | [a, b, c, e], _ => exact ⟨a, b, c, e, rfl⟩
    | [], h => simp at h
    | [_], h => simp at h
    | [_, _], h => simp at h
    | [_, _, _], h => simp at h
    | _ :: _ :: _ :: _ :: _ :: _, h => simp at h; omega
  | _ => cases h
theorem tupD2 {d : PyData} (h : tupD 2 2 d = true) : ∃ a b, d = .tuple [a, b] := by
  cases d with
  | tuple ds =>
    simp only [tupD, Bool.and_eq_true, decide_eq_true_eq] at h
    match ds, h with
    | [a, b], _ => exact ⟨a, b, rfl⟩
    | [], h => simp at h
    | [_], h => simp at h
    | _ :: _ :: _ :: _, h => simp at h; omega
  | _ => cases h
theorem sayD_not {ns : List Str} {d : PyData} (h : tupD 3 3 d = false) : sayingD ns d = false := by
  unfold sayingD
  split
  · cases (show true = false from h)
  · rfl
theorem inS_str {zs : List Str} {d : PyData} (h : inS zs d = true) : ∃ z, d = .str z := by
  unfold inS at h
  obtain ⟨z, _, hz⟩ := List.any_eq_true.mp h
  cases d with
  | str y => exact ⟨y, rfl⟩
  | _ => cases hz
def spIsSaying : Sp := fun vs H Q _ => ∃ (a : Addr) (ns : List Str) (x : V) (d : PyData), vs = [.ref a, x] ∧ H a = some (.lst (ns.map V.str)) ∧ Tr H x d ∧ Q (.bl (sayingD ns d)) H
def spIsRule : Sp := fun vs H Q _ => ∃ (a : Addr) (ns : List Str) (x : V) (d : PyData), vs = [.ref a, x] ∧ H a = some (.lst (ns.map V.str)) ∧ Tr H x d ∧ Q (.bl (ruleD ns d)) H
def spForm : Sp := fun vs H Q _ => ∃ (x : V) (d : PyData), vs = [x] ∧ Tr H x d ∧ Q (.bl (formD d)) H
section
variable {P : Program} {w : World} {K : PySem.W.Frag} {mg : Str → Option Value} {base : Heap} {W S R Pt : Addr}
theorem scIsSaying : FnScope ["names", "thing", "name", "sort", "i"] ["names", "thing"] (defScope sIsSaying) := ⟨rfl, rfl, rfl, by decide +kernel, rfl, by decide +kernel, by decide +kernel⟩
theorem ok_isSaying {f g1 g2 : Addr} {fd d1 d2 : FuncData} (F : Fun K "is_saying" "is_saying" sIsSaying f fd)
    (G1 : FnOk P w K mg base CX0 1 g1 d1 ["thing", "low", "high"] spWhole) (b1 : Binds K d1 ["thing", "low", "high"] []) (k1 : PySem.W.keepIn K (.ref g1) = true) (m1 : mg "is_whole" = some (.ref g1))
    (G2 : FnOk P w K mg base CX0 1 g2 d2 ["thing", "least", "most"] spTupOf) (b2 : Binds K d2 ["thing", "least", "most"] []) (k2 : PySem.W.keepIn K (.ref g2) = true) (m2 : mg "is_tuple_of" = some (.ref g2))
    (C : Cons K mg W S R) : FnOk P w K mg base CX0 2 f fd ["names", "thing"] spIsSaying := by
  refine F.ok scIsSaying (fun vs H Q E h => ?_) (fun cdv A outer s H vs Q E hr h => ?_)
  · obtain ⟨a, ns, x, d, rfl, _⟩ := h
    rfl
  obtain ⟨a, ns, x, d, rfl, hns, t, q⟩ := h
  obtain ⟨tf, hgr⟩ := C.great
  have hu := hu_of hr
  refine ⟨_, pss_cons (ps_if (pt_not (pt_val (pe_call G2 hr rfl m2 k2 b2 .nil pass0 (pa_cons (pv 1) (pa_cons pe_int (pa_cons pe_int pa_nil)))))) (pss_one (ps_ret pe_bl)) pss_nil) <|
    pss_cons (ps_asg (pv 1) (pg_tup (by rfl) (pgs_cons (pg_name (i := 2) scIsSaying.nd rfl (.inl rfl)) <| pgs_cons (pg_name (i := 3) scIsSaying.nd rfl (.inl rfl)) <| pgs_cons (pg_name (i := 4) scIsSaying.nd rfl (.inl rfl)) pgs_nil))) <|
    pss_one (ps_ret (pe_and (pe_cmpR (op_inS hu) (pv 2) (pv 0) (by rfl)) (pe_and (pe_cmpR (op_inS hu) (pv 3) (pe_glob (v := .ref S) (by rfl) C.mS rfl) (by rfl))
      (pe_one (pe_call G1 hr rfl m1 k1 b1 .nil pass0 (pa_cons (pv 4) (pa_cons (pe_un un_neg (pe_glob (v := .int greatS) (by rfl) hgr ⟨_, rfl⟩)) (pa_cons (pe_glob (v := .int greatS) (by rfl) hgr ⟨_, rfl⟩) pa_nil)))))))), ?_⟩
  refine ⟨_, rfl, x, d, 3, 3, rfl, t, _, rfl, ?_⟩
  cases c1 : tupD 3 3 d with
  | false =>
    rw [sayD_not c1] at q
    exact iteT q
  | true =>
    refine iteF ?_
    obtain ⟨da, db, dc, rfl⟩ := tupD3 c1
    cases t with
    | @tup b xs _ h al =>
    match xs, al with
    | [xa, xb, xc], .cons ta (.cons tb (.cons tc .nil)) =>
    refine ⟨_, rfl, b, _, rfl, SqT.of h, rfl, _, _, rfl, _, _, rfl, _, _, rfl, rfl, ?_⟩
    have q : Q (.bl (inS ns da && (inS sorts2 db && wholeD (-greatS) greatS dc))) H := q
    refine ⟨_, rfl, _, rfl, da, a, ns, ta, rfl, .inl (SqL.of hns), _, rfl, ?_⟩
    cases c2 : inS ns da with
    | false =>
      rw [c2] at q
      have c2' : (ns.any fun z => strIs z da) = false := c2
      rw [c2']
      exact iteF q
    | true =>
      rw [c2] at q
      have c2' : (ns.any fun z => strIs z da) = true := c2
      rw [c2']
      have q : Q (.bl (inS sorts2 db && wholeD (-greatS) greatS dc)) H := q
      refine iteT ⟨_, rfl, db, S, _, tb, rfl, .inr (C.sorts H), _, rfl, ?_⟩
      cases c3 : inS sorts2 db with
      | false =>
        rw [c3] at q
        have c3' : (sorts2.any fun z => strIs z db) = false := c3
        rw [c3']
        exact iteF q
      | true =>
        rw [c3] at q
        have c3' : (sorts2.any fun z => strIs z db) = true := c3
        rw [c3']
        exact iteT ⟨_, rfl, _, rfl, xc, dc, -greatS, greatS, rfl, tc, q⟩
theorem scIsRule : FnScope ["names", "thing", "word", "first", "second", "a", "b", "c"] ["names", "thing"] (defScope sIsRule) := ⟨rfl, rfl, rfl, by decide +kernel, rfl, by decide +kernel, by decide +kernel⟩
theorem ok_isRule {f g1 g2 g3 : Addr} {fd d1 d2 d3 : FuncData} (F : Fun K "is_rule" "is_rule" sIsRule f fd)
    (G1 : FnOk P w K mg base CX0 1 g1 d1 ["thing", "low", "high"] spWhole) (b1 : Binds K d1 ["thing", "low", "high"] []) (k1 : PySem.W.keepIn K (.ref g1) = true) (m1 : mg "is_whole" = some (.ref g1))
    (G2 : FnOk P w K mg base CX0 1 g2 d2 ["thing", "least", "most"] spTupOf) (b2 : Binds K d2 ["thing", "least", "most"] []) (k2 : PySem.W.keepIn K (.ref g2) = true) (m2 : mg "is_tuple_of" = some (.ref g2))
    (G3 : FnOk P w K mg base CX0 2 g3 d3 ["names", "thing"] spIsSaying) (b3 : Binds K d3 ["names", "thing"] []) (k3 : PySem.W.keepIn K (.ref g3) = true) (m3 : mg "is_saying" = some (.ref g3))
    (C : Cons K mg W S R) : FnOk P w K mg base CX0 3 f fd ["names", "thing"] spIsRule := by
  refine F.ok scIsRule (fun vs H Q E h => ?_) (fun cdv A outer s H vs Q E hr h => ?_)
  · obtain ⟨a, ns, x, d, rfl, _⟩ := h
    rfl
  obtain ⟨a, ns, x, d, rfl, hns, t, q⟩ := h
  obtain ⟨tf, hgr⟩ := C.great
  have hu := hu_of hr
  have hr1 : Room 1 _ := hr.mono (by decide)
  refine ⟨_, pss_cons (ps_if (pt_val (pe_call G2 hr1 rfl m2 k2 b2 .nil pass0 (pa_cons (pv 1) (pa_cons pe_int (pa_cons pe_int pa_nil)))))
      (pss_cons (ps_asg (pv 1) (pg_tup (by rfl) (pgs_cons (pg_name (i := 2) scIsRule.nd rfl (.inl rfl)) <| pgs_cons (pg_name (i := 3) scIsRule.nd rfl (.inl rfl)) <| pgs_cons (pg_name (i := 4) scIsRule.nd rfl (.inl rfl)) pgs_nil)))
      (pss_one (ps_ret (pe_and (pe_cmpR (op_eqS hu) (pv 2) pe_str (nomark _)) (pe_and (pe_call G3 hr rfl m3 k3 b3 .nil pass0 (pa_cons (pv 0) (pa_cons (pv 3) pa_nil))) (pe_one (pe_call G3 hr rfl m3 k3 b3 .nil pass0 (pa_cons (pv 0) (pa_cons (pv 4) pa_nil))))))))) pss_nil) <|
    pss_cons (ps_if (pt_val (pe_call G2 hr1 rfl m2 k2 b2 .nil pass0 (pa_cons (pv 1) (pa_cons pe_int (pa_cons pe_int pa_nil)))))
      (pss_cons (ps_asg (pv 1) (pg_tup (by rfl) (pgs_cons (pg_name (i := 2) scIsRule.nd rfl (.inl rfl)) <| pgs_cons (pg_name (i := 5) scIsRule.nd rfl (.inl rfl)) <| pgs_cons (pg_name (i := 6) scIsRule.nd rfl (.inl rfl)) <| pgs_cons (pg_name (i := 7) scIsRule.nd rfl (.inl rfl)) pgs_nil)))
      (pss_cons (ps_if (PW.pt (pw_or (pt_cmpR (op_notInS hu) (pv 2) (pe_glob (v := .ref R) (by rfl) C.mR rfl) (by rfl)) (pw_or (pt_cmpR (op_notInS hu) (pv 5) (pv 0) (by rfl)) (pw_or1 (pt_cmpR (op_notInS hu) (pv 6) (pv 0) (by rfl)))))) (pss_one (ps_ret pe_bl)) pss_nil)
      (pss_one (ps_ret (pe_and (pe_cmpR op_ne (pv 5) (pv 6) (nomark _)) (pe_one (pe_call G1 hr1 rfl m1 k1 b1 .nil pass0 (pa_cons (pv 7) (pa_cons (pe_un un_neg (pe_glob (v := .int greatS) (by rfl) hgr ⟨_, rfl⟩)) (pa_cons (pe_glob (v := .int greatS) (by rfl) hgr ⟨_, rfl⟩) pa_nil)))))))))) pss_nil) <|
    pss_one (ps_ret pe_bl), ?_⟩
  refine ⟨_, rfl, x, d, 3, 3, rfl, t, _, rfl, ?_⟩
  cases c1 : tupD 3 3 d with
  | true =>
    refine iteT ?_
    obtain ⟨da, db, dc, rfl⟩ := tupD3 c1
    cases t with
    | @tup b xs _ h al =>
    match xs, al with
    | [xa, xb, xc], .cons ta (.cons tb (.cons tc .nil)) =>
    refine ⟨_, rfl, b, _, rfl, SqT.of h, rfl, _, _, rfl, _, _, rfl, _, _, rfl, rfl, ?_⟩
    have q : Q (.bl (strIs "one" da && (sayingD ns db && sayingD ns dc))) H := q
    refine ⟨_, rfl, da, "one", ta, rfl, _, rfl, ?_⟩
    cases c2 : strIs "one" da with
    | false =>
      rw [c2] at q
      exact iteF q
    | true =>
      rw [c2] at q
      have q : Q (.bl (sayingD ns db && sayingD ns dc)) H := q
      refine iteT ⟨_, rfl, _, rfl, a, ns, xb, db, rfl, hns, tb, _, rfl, ?_⟩
      cases c3 : sayingD ns db with
      | false =>
        rw [c3] at q
        exact iteF q
      | true =>
        rw [c3] at q
        exact iteT ⟨_, rfl, _, rfl, a, ns, xc, dc, rfl, hns, tc, q⟩
  | false =>
    refine iteF ?_
    refine ⟨_, rfl, x, d, 4, 4, rfl, t, _, rfl, ?_⟩
    cases c4 : tupD 4 4 d with
    | false =>
      refine iteF ?_
      have e : ruleD ns d = false := by
        unfold ruleD
        split
        · cases (show true = false from c1)
        · cases (show true = false from c4)
        · rfl
      rw [e] at q
      exact q
    | true =>
      refine iteT ?_
      obtain ⟨dw, da, db, dc, rfl⟩ := tupD4 c4
      cases t with
      | @tup b xs _ h al =>
      match xs, al with
      | [xw, xa, xb, xc], .cons tw (.cons ta (.cons tb (.cons tc .nil))) =>
      refine ⟨_, rfl, b, _, rfl, SqT.of h, rfl, _, _, rfl, _, _, rfl, _, _, rfl, _, _, rfl, rfl, ?_⟩
      have q : Q (.bl (inS pairs3 dw && (inS ns da && (inS ns db && (!sameS da db && wholeD (-greatS) greatS dc))))) H := q
      refine ⟨_, rfl, dw, R, _, tw, rfl, .inr (C.pairs H), _, rfl, ?_⟩
      cases c5 : inS pairs3 dw with
      | false =>
        rw [c5] at q
        rw [show (pairs3.any fun z => strIs z dw) = false from c5]
        exact iteT q
      | true =>
        rw [c5] at q
        rw [show (pairs3.any fun z => strIs z dw) = true from c5]
        have q : Q (.bl (inS ns da && (inS ns db && (!sameS da db && wholeD (-greatS) greatS dc)))) H := q
        refine iteF ⟨_, rfl, _, rfl, da, a, ns, ta, rfl, .inl (SqL.of hns), _, rfl, ?_⟩
        cases c6 : inS ns da with
        | false =>
          rw [c6] at q
          rw [show (ns.any fun z => strIs z da) = false from c6]
          exact iteT q
        | true =>
          rw [c6] at q
          rw [show (ns.any fun z => strIs z da) = true from c6]
          have q : Q (.bl (inS ns db && (!sameS da db && wholeD (-greatS) greatS dc))) H := q
          refine iteF ⟨_, rfl, _, rfl, db, a, ns, tb, rfl, .inl (SqL.of hns), _, rfl, ?_⟩
          cases c7 : inS ns db with
          | false =>
            rw [c7] at q
            rw [show (ns.any fun z => strIs z db) = false from c7]
            exact iteT q
          | true =>
            rw [c7] at q
            rw [show (ns.any fun z => strIs z db) = true from c7]
            have q : Q (.bl (!sameS da db && wholeD (-greatS) greatS dc)) H := q
            refine iteF ?_
            obtain ⟨za, rfl⟩ := inS_str c6
            obtain ⟨zb, rfl⟩ := inS_str c7
            cases ta with
            | str _ =>
            cases tb with
            | str _ =>
            refine ⟨_, rfl, _, rfl, rfl, _, rfl, ?_⟩
            by_cases hab : za = zb
            · subst hab
              have e : sameS (.str za) (.str za) = true := by simp [sameS]
              rw [e] at q
              rw [decide_eq_true rfl]
              exact iteF q
            · have e : sameS (.str za) (.str zb) = false := by simpa [sameS] using hab
              rw [e] at q
              rw [decide_eq_false (fun z => hab (V.str.inj z))]
              exact iteT ⟨_, rfl, _, rfl, xc, dc, -greatS, greatS, rfl, tc, q⟩
end
end Pk
namespace Pk
open PySem L2
def optV : Option Nat → V
  | none => .non
  | some k => .int (k : Nat)
def spFDial (Pt : Addr) : Sp := fun vs H Q _ => ∃ (a : Addr) (xs : List V) (ds : List PyData), vs = [.ref a] ∧ H a = some (.tup xs) ∧ TrAll H xs ds ∧ GxR.TabG H Pt ∧ okSs ds = true ∧ xs.length ≤ 1000 ∧ ∀ H', Gr Pt H H' → Q (optV (fDial 0 none ds)) H'
theorem atV {xs : List V} {i : Nat} {x : V} (h : xs[i]? = some x) : atI xs ((i : Nat) : Int) = some x := atI_nat h
/-- a dial: its first thing is its name -/
theorem dial_name {d : PyData} (h : dialD d = true) {H : Hp} {x : V} (t : Tr H x d) : ∃ b xs, x = .ref b ∧ H b = some (.tup xs) ∧ xs[0]? = some (.str (nameOf d)) := by
  unfold dialD at h
  split at h
  · rename_i n lo hi way up down
    rw [Bool.and_eq_true] at h
    cases n with
    | str z =>
      cases t with
      | @tup b xs _ hb al =>
        cases al with
        | cons t0 _ =>
          cases t0
          exact ⟨b, _, rfl, hb, rfl⟩
    | _ => cases h.1
  · cases h
/-- the name of the dial ahead of the i-th -/
def prevAt (ds : List PyData) : Nat → Option Str
  | 0 => none
  | i + 1 => (ds[i]?).map nameOf
theorem fDial_cons (k : Nat) (prev : Option Str) (d : PyData) (ds : List PyData) : fDial k prev (d :: ds) = if dialD d = true then (match prev with
      | some p => if leS (nameOf d) p = true then some k else fDial (k + 1) (some (nameOf d)) ds
      | none => fDial (k + 1) (some (nameOf d)) ds) else some k := rfl
theorem fDial_step {ds : List PyData} {i : Nat} {d : PyData} (h : ds[i]? = some d) (hd : dialD d = true) (hp : ∀ p, prevAt ds i = some p → leS (nameOf d) p = false) : fDial i (prevAt ds i) (ds.drop i) = fDial (i + 1) (prevAt ds (i + 1)) (ds.drop (i + 1)) := by
  obtain ⟨hi, e⟩ := List.getElem?_eq_some_iff.mp h
  rw [List.drop_eq_getElem_cons hi, e, fDial_cons, if_pos hd]
  have ep : prevAt ds (i + 1) = some (nameOf d) := by
    show (ds[i]?).map nameOf = _
    rw [h]
    rfl
  rw [ep]
  cases c : prevAt ds i with
  | none => rfl
  | some p =>
    show (if leS (nameOf d) p = true then some i else _) = _
    rw [hp p c, if_neg Bool.false_ne_true]
theorem fDial_bad {ds : List PyData} {i : Nat} {d : PyData} (h : ds[i]? = some d) (hd : dialD d = false) : fDial i (prevAt ds i) (ds.drop i) = some i := by
  obtain ⟨hi, e⟩ := List.getElem?_eq_some_iff.mp h
  rw [List.drop_eq_getElem_cons hi, e, fDial_cons, if_neg (by rw [hd]; exact Bool.false_ne_true)]
theorem fDial_low {ds : List PyData} {i : Nat} {d : PyData} {p : Str} (h : ds[i]? = some d) (hd : dialD d = true) (hp : prevAt ds i = some p) (hl : leS (nameOf d) p = true) : fDial i (prevAt ds i) (ds.drop i) = some i := by
  obtain ⟨hi, e⟩ := List.getElem?_eq_some_iff.mp h
  rw [List.drop_eq_getElem_cons hi, e, hp, fDial_cons, if_pos hd]
  show (if leS (nameOf d) p = true then some i else _) = _
  rw [if_pos hl]
section
variable {P : Program} {w : World} {K : PySem.W.Frag} {mg : Str → Option Value} {base : Heap} {W S R Pt : Addr}
theorem scForm : FnScope ["thing"] ["thing"] (defScope sForm) := ⟨rfl, rfl, rfl, by decide +kernel, rfl, by decide +kernel, by decide +kernel⟩
theorem ok_form {f g2 : Addr} {fd d2 : FuncData} (F : Fun K "has_house_form" "has_house_form" sForm f fd)
    (G2 : FnOk P w K mg base CX0 1 g2 d2 ["thing", "least", "most"] spTupOf) (b2 : Binds K d2 ["thing", "least", "most"] []) (k2 : PySem.W.keepIn K (.ref g2) = true) (m2 : mg "is_tuple_of" = some (.ref g2))
    (C : Cons K mg W S R) : FnOk P w K mg base CX0 2 f fd ["thing"] spForm := by
  refine F.ok scForm (fun vs H Q E h => ?_) (fun cdv A outer s H vs Q E hr h => ?_)
  · obtain ⟨x, d, rfl, _⟩ := h
    rfl
  obtain ⟨x, d, rfl, t, q⟩ := h
  obtain ⟨t1, hd⟩ := C.dials
  obtain ⟨t2, hrl⟩ := C.rules
  refine ⟨_, pss_cons (ps_if (pt_not (pt_val (pe_call G2 hr rfl m2 k2 b2 .nil pass0 (pa_cons (pv 0) (pa_cons pe_int (pa_cons pe_int pa_nil)))))) (pss_one (ps_ret pe_bl)) pss_nil) <|
    pss_one (ps_ret (pe_and (pe_call G2 hr rfl m2 k2 b2 .nil pass0 (pa_cons (pe_ix ix_tup (pv 0) pe_int (fun _ _ => rfl)) (pa_cons pe_int (pa_cons (pe_glob (v := .int 12) (by rfl) hd ⟨_, rfl⟩) pa_nil))))
      (pe_one (pe_call G2 hr rfl m2 k2 b2 .nil pass0 (pa_cons (pe_ix ix_tup (pv 0) pe_int (fun _ _ => rfl)) (pa_cons pe_int (pa_cons (pe_glob (v := .int 40) (by rfl) hrl ⟨_, rfl⟩) pa_nil))))))), ?_⟩
  refine ⟨_, rfl, x, d, 2, 2, rfl, t, _, rfl, ?_⟩
  cases c1 : tupD 2 2 d with
  | false =>
    have e : formD d = false := by
      unfold formD
      split
      · cases (show true = false from c1)
      · rfl
    rw [e] at q
    exact iteT q
  | true =>
    refine iteF ?_
    obtain ⟨da, db, rfl⟩ := tupD2 c1
    cases t with
    | @tup b xs _ h al =>
    match xs, al with
    | [xa, xb], .cons ta (.cons tb .nil) =>
    have q : Q (.bl (tupD 1 12 da && tupD 0 40 db)) H := q
    refine ⟨_, rfl, b, _, _, _, rfl, rfl, SqT.of h, (rfl : atI [xa, xb] 0 = some xa), xa, da, 1, 12, rfl, ta, _, rfl, ?_⟩
    cases c2 : tupD 1 12 da with
    | false =>
      rw [c2] at q
      exact iteF q
    | true =>
      rw [c2] at q
      exact iteT ⟨_, rfl, b, _, _, _, rfl, rfl, SqT.of h, (rfl : atI [xa, xb] 1 = some xb), xb, db, 0, 40, rfl, tb, q⟩
theorem scFDial : FnScope ["dials", "k", "dial"] ["dials"] (defScope sFDial) := ⟨rfl, rfl, rfl, by decide +kernel, rfl, by decide +kernel, by decide +kernel⟩
theorem ok_fDial {f g : Addr} {fd gd : FuncData} (F : Fun K "faulty_dial" "faulty_dial" sFDial f fd)
    (G : FnOk P w K mg base CX0 3 g gd ["thing"] (spIsDial Pt)) (bG : Binds K gd ["thing"] []) (kG : PySem.W.keepIn K (.ref g) = true) (mG : mg "is_dial" = some (.ref g)) (B : BltH mg) : FnOk P w K mg base CX0 4 f fd ["dials"] (spFDial Pt) := by
  refine F.ok scFDial (fun vs H Q E h => ?_) (fun cdv A outer s H vs Q E hr h => ?_)
  · obtain ⟨a, xs, ds, rfl, _⟩ := h
    rfl
  obtain ⟨a, xs, ds, rfl, ha, al, tg, hok, hlen, k⟩ := h
  have hl := al.length
  refine ⟨_, pss_cons (ps_for PassesOwn.never rfl (pi_enumT (by rfl) B.enumerate (pa_cons (pv 0) pa_nil)) (pg_tup rfl (pgs_cons (pg_name (i := 1) scFDial.nd rfl (.inl rfl)) (pgs_cons (pg_name (i := 2) scFDial.nd rfl (.inl rfl)) pgs_nil)))
      (pss_cons (ps_if (pt_not (pt_val (pe_call G hr rfl mG kG bG .nil pass0 (pa_cons (pv 2) pa_nil)))) (pss_one (ps_ret (pv 1))) pss_nil)
      (pss_one (ps_if (PW.pt (pw_and (pt_cmpR op_gt (pv 1) pe_int (nomark _)) (pw_and1 (pt_cmpR op_le_str (pe_ix ix_tup (pv 2) pe_int (fun _ _ => rfl)) (pe_ix ix_tup (pe_ix ix_tup (pv 0) (pe_op op_sub (pv 1) pe_int) (fun _ _ => rfl)) pe_int (fun _ _ => rfl)) (nomark _))))) (pss_one (ps_ret (pv 1))) pss_nil)))) <|
    pss_one (ps_ret pe_non), ?_⟩
  have an : ∀ H2, Gr Pt H H2 → H2 a = some (.tup xs) := fun H2 g => g.2 _ _ (let ⟨_, z, _⟩ := tg; ne_of ha z (by intro y; cases y)) ha
  refine ⟨_, rfl, a, xs, rfl, SqT.of ha, for_it walk_enumT (fun i σ H2 => ∃ (v1 v2 : Option V), σ = [some (.ref a), v1, v2] ∧ Gr Pt H H2 ∧ fDial 0 none ds = fDial i (prevAt ds i) (ds.drop i) ∧ ∀ j, j < i → ∀ d, ds[j]? = some d → dialD d = true)
    ⟨none, none, rfl, Gr.refl tg, rfl, fun j hj => absurd hj (by omega)⟩ (fun i σ H2 _ ⟨_, _, _, g, _⟩ => SqT.of (an H2 g)) ?_ ?_⟩
  · rintro i y σ H2 H3 hi ⟨v1, v2, rfl, gr, ef, hall⟩ ⟨T, x1, x2, rfl, nT, rfl, e1, e2⟩
    cases e1
    have e2 : xs[i]? = some x2 := e2
    obtain ⟨d, hd, ht⟩ := al.get e2
    have sT := sameNew nT (.tup [.int (i : Nat), x2])
    have g3 : Gr Pt H (upd H2 T (.tup [.int (i : Nat), x2])) := gr.trans (Gr.same gr.1 sT)
    refine ⟨T, _, rfl, SqT.of upd_same, rfl, _, _, rfl, _, _, rfl, rfl, ?_⟩
    refine ⟨_, rfl, x2, d, rfl, ht.gr tg g3, g3.1, okSs_get hok hd, fun H4 g4 => ⟨_, rfl, ?_⟩⟩
    have g5 := g3.trans g4
    cases c1 : dialD d with
    | false =>
      have q := k H4 g5
      rw [ef, fDial_bad hd c1] at q
      exact iteT ⟨_, rfl, q⟩
    | true =>
      refine iteF ?_
      refine ⟨_, rfl, _, _, rfl, rfl, _, rfl, ?_⟩
      refine ite2 (fun c2 => ?_) (fun c2 => ?_)
      · have c2' : (0 : Int) < (i : Int) := of_decide_eq_true c2
        obtain ⟨j, rfl⟩ : ∃ j, i = j + 1 := ⟨i - 1, by omega⟩
        have hj : j < xs.length := by omega
        obtain ⟨dj, hdj, htj⟩ := al.get (List.getElem?_eq_getElem hj)
        have cj := hall j (by omega) dj hdj
        obtain ⟨b1, ys1, ex1, hb1, hn1⟩ := dial_name c1 (ht.gr tg g5)
        obtain ⟨b2, ys2, ex2, hb2, hn2⟩ := dial_name cj (htj.gr tg g5)
        subst ex1
        have ek : (((j + 1 : Nat) : Int) - 1) = ((j : Nat) : Int) := by omega
        refine ⟨_, rfl, b1, _, _, _, rfl, rfl, SqT.of hb1, atV (i := 0) hn1, _, rfl, _, rfl, _, _, rfl, rfl, a, xs, _, _, rfl, rfl, SqT.of (an H4 g5), (by rw [ek]; exact atV (List.getElem?_eq_getElem hj)), b2, ys2, _, _, ex2, rfl, SqT.of hb2, atV (i := 0) hn2, _, _, rfl, rfl, _, rfl, ?_⟩
        have pv : prevAt ds (j + 1) = some (nameOf dj) := by
          show (ds[j]?).map nameOf = _
          rw [hdj]
          rfl
        cases c3 : leS (nameOf d) (nameOf dj) with
        | true =>
          rw [show (!decide ((nameOf dj).cps.toList < (nameOf d).cps.toList)) = true from c3]
          have q := k H4 g5
          rw [ef, fDial_low hd c1 pv c3] at q
          exact iteT ⟨_, rfl, q⟩
        | false =>
          rw [show (!decide ((nameOf dj).cps.toList < (nameOf d).cps.toList)) = false from c3]
          refine iteF ⟨_, _, rfl, g5, ?_, fun m hm dm hdm => ?_⟩
          · rw [ef, fDial_step hd c1 fun p hp => by rw [pv] at hp; cases hp; exact c3]
          · by_cases em : m < j + 1
            · exact hall m em dm hdm
            · have em : m = j + 1 := by omega
              subst em
              rw [hd] at hdm
              cases hdm
              exact c1
      · have i0 : i = 0 := by
          have z := of_decide_eq_false (Bool.eq_false_iff.mpr c2)
          omega
        subst i0
        refine iteF ⟨_, _, rfl, g5, ?_, fun m hm dm hdm => ?_⟩
        · rw [ef, fDial_step hd c1 fun p hp => by cases hp]
        · have em : m = 0 := by omega
          subst em
          rw [hd] at hdm
          cases hdm
          exact c1
  · rintro σ H2 ⟨v1, v2, rfl, gr, ef, _⟩
    have q := k H2 gr
    rw [ef, hl, List.drop_length] at q
    exact q
end
end Pk
namespace Pk
open PySem L2
theorem take_more {α : Type} {ds : List α} {i : Nat} {d : α} (h : ds[i]? = some d) : ds.take (i + 1) = ds.take i ++ [d] := by
  rw [List.take_add_one, h]
  rfl
mutual
/-- data without dicts, as the layer reads it -/
theorem Tr.dp {K : PySem.W.Frag} {H : Hp} : ∀ {v : V} {d : PyData}, Tr H v d → d.hasDict = false → Dp K H v d
  | _, _, .non, _ => .non
  | _, _, .bl b, _ => .bl b
  | _, _, .int i, _ => .int i
  | _, _, .str x, _ => .str x
  | _, _, .lst h a, e => .lst (SqL.of h) (TrAll.dp a (by simpa only [PyData.hasDict] using e))
  | _, _, .tup h a, e => .tup (SqT.of h) (TrAll.dp a (by simpa only [PyData.hasDict] using e))
  | _, _, .dct _ _ _ _, e => by simp [PyData.hasDict] at e
theorem TrAll.dp {K : PySem.W.Frag} {H : Hp} : ∀ {vs : List V} {ds : List PyData}, TrAll H vs ds → PyData.hasDictAll ds = false → DpAll K H vs ds
  | _, _, .nil, _ => .nil
  | _, _, .cons h t, e => by
    simp only [PyData.hasDictAll, Bool.or_eq_false_iff] at e
    exact .cons (h.dp e.1) (TrAll.dp t e.2)
end
theorem whole_lay {lo hi : Int} {d : PyData} (h : wholeD lo hi d = true) : d.canLay0 = true ∧ d.depth = 0 := by
  cases d with
  | int i => exact ⟨by simp only [PyData.canLay0], by simp only [PyData.depth]⟩
  | _ => cases h
theorem strIs_is {z : Str} {d : PyData} (h : strIs z d = true) : d = .str z := by
  cases d with
  | str y =>
    have e : z = y := by simpa [strIs] using h
    rw [e]
  | _ => cases h
theorem inS_lay {zs : List Str} {d : PyData} (hn : ∀ z ∈ zs, PyData.strOk z = true) (h : inS zs d = true) : d.canLay0 = true ∧ d.depth = 0 := by
  unfold inS at h
  obtain ⟨z, hz, e⟩ := List.any_eq_true.mp h
  rw [strIs_is e]
  exact ⟨by simpa only [PyData.canLay0] using hn z hz, by simp only [PyData.depth]⟩
theorem sorts_ok : ∀ z ∈ sorts2, PyData.strOk z = true := by decide +kernel
theorem pairs_ok : ∀ z ∈ pairs3, PyData.strOk z = true := by decide +kernel
theorem say_lay {ns : List Str} {d : PyData} (hn : ∀ z ∈ ns, PyData.strOk z = true) (h : sayingD ns d = true) : d.canLay0 = true ∧ d.depth ≤ 1 := by
  unfold sayingD at h
  split at h
  · simp only [Bool.and_eq_true] at h
    obtain ⟨a1, a2⟩ := inS_lay hn h.1
    obtain ⟨b1, b2⟩ := inS_lay sorts_ok h.2.1
    obtain ⟨c1, c2⟩ := whole_lay h.2.2
    exact ⟨by simp [PyData.canLay0, PyData.canLayAll0, a1, b1, c1], by simp [PyData.depth, PyData.depthAll, a2, b2, c2]⟩
  · cases h
theorem rule_lay {ns : List Str} {d : PyData} (hn : ∀ z ∈ ns, PyData.strOk z = true) (h : ruleD ns d = true) : d.canLay0 = true ∧ d.depth ≤ 2 := by
  unfold ruleD at h
  split at h
  · simp only [Bool.and_eq_true] at h
    have e := strIs_is h.1
    subst e
    obtain ⟨b1, b2⟩ := say_lay hn h.2.1
    obtain ⟨c1, c2⟩ := say_lay hn h.2.2
    have o : PyData.strOk ("one" : Str) = true := by decide +kernel
    refine ⟨by simp [PyData.canLay0, PyData.canLayAll0, b1, c1, o], ?_⟩
    simp only [PyData.depth, PyData.depthAll]
    omega
  · simp only [Bool.and_eq_true] at h
    obtain ⟨a1, a2⟩ := inS_lay pairs_ok h.1
    obtain ⟨b1, b2⟩ := inS_lay hn h.2.1
    obtain ⟨c1, c2⟩ := inS_lay hn h.2.2.1
    obtain ⟨e1, e2⟩ := whole_lay h.2.2.2.2
    refine ⟨by simp [PyData.canLay0, PyData.canLayAll0, a1, b1, c1, e1], ?_⟩
    simp only [PyData.depth, PyData.depthAll]
    omega
  · cases h
theorem shaped_of {d : PyData} (h : d.canLay0 = true) (hd : d.depth ≤ 64) : SeqAt.shaped d = true := by
  unfold SeqAt.shaped
  rw [Bool.and_eq_true]
  exact ⟨h, decide_eq_true hd⟩
theorem all_lay : ∀ {ds : List PyData}, (∀ d ∈ ds, d.canLay0 = true ∧ d.depth ≤ 2) → PyData.canLayAll0 ds = true ∧ PyData.depthAll ds ≤ 2
  | [], _ => ⟨by simp only [PyData.canLayAll0], by simp [PyData.depthAll]⟩
  | d :: ds, h => by
    obtain ⟨a1, a2⟩ := h d List.mem_cons_self
    obtain ⟨b1, b2⟩ := all_lay fun e he => h e (List.mem_cons_of_mem _ he)
    refine ⟨by simp [PyData.canLayAll0, a1, b1], ?_⟩
    simp only [PyData.depthAll]
    omega
theorem noDict_of {d : PyData} (h : d.canLay0 = true) : d.hasDict = false := PyData.hasDict_of_canLay d h
theorem TrAll.take {H : Hp} : ∀ {xs : List V} {ds : List PyData} (n : Nat), TrAll H xs ds → TrAll H (xs.take n) (ds.take n)
  | _, _, 0, _ => .nil
  | _, _, _ + 1, .nil => .nil
  | _, _, n + 1, .cons h t => .cons h (TrAll.take n t)
theorem fRule_cons (ns : List Str) (k : Nat) (past : List PyData) (r : PyData) (rs : List PyData) : fRule ns k past (r :: rs) = if ruleD ns r = true then (if (past.any fun z => PyData.eqv z r) = true then some k else fRule ns (k + 1) (past ++ [r]) rs) else some k := rfl
theorem cut_take {xs : List V} {i : Nat} (h : i < xs.length) : cutV xs none (some (i : Int)) = xs.take i := by
  unfold cutV
  rw [HT.sIx_none, HT.sIx_nat]
  rw [Nat.min_eq_left (Nat.le_of_lt h), List.drop_zero, Nat.sub_zero]
def spFRule : Sp := fun vs H Q _ => ∃ (a b : Addr) (ns : List Str) (xs : List V) (rs : List PyData), vs = [.ref b, .ref a] ∧ H b = some (.lst (ns.map V.str)) ∧ (∀ z ∈ ns, PyData.strOk z = true) ∧ H a = some (.tup xs) ∧ TrAll H xs rs ∧ xs.length ≤ 1000 ∧ ∀ H', Same H H' → Q (optV (fRule ns 0 [] rs)) H'
section
variable {P : Program} {w : World} {K : PySem.W.Frag} {mg : Str → Option Value} {base : Heap} {W S R Pt : Addr}
theorem scFRule : FnScope ["names", "rules", "k", "rule"] ["names", "rules"] (defScope sFRule) := ⟨rfl, rfl, rfl, by decide +kernel, rfl, by decide +kernel, by decide +kernel⟩
theorem ok_fRule {f g : Addr} {fd gd : FuncData} (F : Fun K "faulty_rule" "faulty_rule" sFRule f fd)
    (G : FnOk P w K mg base CX0 3 g gd ["names", "thing"] spIsRule) (bG : Binds K gd ["names", "thing"] []) (kG : PySem.W.keepIn K (.ref g) = true) (mG : mg "is_rule" = some (.ref g)) (B : BltH mg) : FnOk P w K mg base CX0 4 f fd ["names", "rules"] spFRule := by
  refine F.ok scFRule (fun vs H Q E h => ?_) (fun cdv A outer s H vs Q E hr h => ?_)
  · obtain ⟨a, b, ns, xs, rs, rfl, _⟩ := h
    rfl
  obtain ⟨a, b, ns, xs, rs, rfl, hb, hn, ha, al, hlen, k⟩ := h
  have hl := al.length
  have hu65 : (A.deeper (PyProof.Rows.envOfC "faulty_rule" (defScope sFRule) s.heap.objs.size f cdv)).units + 65 < cLine := by
    have := hr.un
    omega
  refine ⟨_, pss_cons (ps_for PassesOwn.never rfl (pi_enumT (by rfl) B.enumerate (pa_cons (pv 1) pa_nil)) (pg_tup rfl (pgs_cons (pg_name (i := 2) scFRule.nd rfl (.inl rfl)) (pgs_cons (pg_name (i := 3) scFRule.nd rfl (.inl rfl)) pgs_nil)))
      (pss_one (ps_if (PW.pt (pw_or (pt_not (pt_val (pe_call G hr rfl mG kG bG .nil pass0 (pa_cons (pv 0) (pa_cons (pv 3) pa_nil))))) (pw_or1 (pt_cmpR (op_inDT hu65) (pv 3) (pe_slice sl_tup (pv 1) po_none (po_some (pv 2))) (by rfl))))) (pss_one (ps_ret (pv 2))) pss_nil))) <|
    pss_one (ps_ret pe_non), ?_⟩
  refine ⟨_, rfl, a, xs, rfl, SqT.of ha, for_it walk_enumT (fun i σ H2 => ∃ (v1 v2 : Option V), σ = [some (.ref b), some (.ref a), v1, v2] ∧ Same H H2 ∧ fRule ns 0 [] rs = fRule ns i (rs.take i) (rs.drop i) ∧ ∀ d ∈ rs.take i, ruleD ns d = true)
    ⟨none, none, rfl, Same.refl _, rfl, fun d hd => absurd hd (by simp)⟩ (fun i σ H2 _ ⟨_, _, _, g, _⟩ => SqT.of (g _ _ ha)) ?_ ?_⟩
  · rintro i y σ H2 H3 hi ⟨v1, v2, rfl, s2, ef, hall⟩ ⟨T, x1, x2, rfl, nT, rfl, e1, e2⟩
    cases e1
    have e2 : xs[i]? = some x2 := e2
    obtain ⟨d, hd, ht⟩ := al.get e2
    obtain ⟨hi2, ed⟩ := List.getElem?_eq_some_iff.mp hd
    have sT := sameNew nT (.tup [.int (i : Nat), x2])
    have s3 := s2.trans sT
    rw [List.drop_eq_getElem_cons hi2, ed, fRule_cons] at ef
    refine ⟨T, _, rfl, SqT.of upd_same, rfl, _, _, rfl, _, _, rfl, rfl, ?_⟩
    refine ⟨_, rfl, _, rfl, b, ns, x2, d, rfl, s3 _ _ hb, ht.same s3, _, rfl, ?_⟩
    cases c1 : ruleD ns d with
    | false =>
      rw [if_neg (by rw [c1]; exact Bool.false_ne_true)] at ef
      have q := k _ s3
      rw [ef] at q
      exact iteT ⟨_, rfl, q⟩
    | true =>
      rw [if_pos c1] at ef
      refine iteF ?_
      refine ⟨_, rfl, _, rfl, _, rfl, _, rfl, ?_⟩
      have hlt : i < xs.length := hi
      refine ⟨a, xs, rfl, SqT.of (s3 _ _ ha), fun ⟨_, z⟩ => ?_, fun p np => ?_⟩
      · rw [HT.sIx_nat] at z
        omega
      rw [cut_take hlt]
      have s5 := sameNew np (.tup (xs.take i))
      have s4 := s3.trans s5
      obtain ⟨y1, y2⟩ := rule_lay hn c1
      obtain ⟨z1, z2⟩ := all_lay fun e he => rule_lay hn (hall e he)
      have w1 : (PyData.tuple (rs.take i)).canLay0 = true := by simpa only [PyData.canLay0] using z1
      refine ⟨d, rs.take i, (ht.same s4).dp (noDict_of y1), Tr.dp (.tup upd_same ((al.same s4).take i)) (noDict_of w1), shaped_of y1 (by omega), shaped_of w1 (by simp only [PyData.depth]; omega), _, rfl, ?_⟩
      cases c2 : (rs.take i).any fun z => PyData.eqv z d with
      | true =>
        rw [if_pos c2] at ef
        have q := k _ s4
        rw [ef] at q
        exact iteT ⟨_, rfl, q⟩
      | false =>
        rw [if_neg (by rw [c2]; exact Bool.false_ne_true), ← take_more hd] at ef
        refine iteF ⟨_, _, rfl, s4, ef, fun e he => ?_⟩
        rw [take_more hd] at he
        rcases List.mem_append.mp he with he | he
        · exact hall e he
        · rw [List.mem_singleton.mp he]
          exact c1
  · rintro σ H2 ⟨v1, v2, rfl, s2, ef, _⟩
    have q := k H2 s2
    rw [ef, hl, List.drop_length] at q
    exact q
end
end Pk
namespace Pk
open PySem L2
def isN : PyData → Bool
  | .none => true
  | _ => false
theorem Tr.isN {H : Hp} {v : V} {d : PyData} (t : Tr H v d) : decide (v = .non) = Pk.isN d := by
  cases t <;> simp [Pk.isN]
def spFault (Pt : Addr) : Sp := fun vs H Q _ => ∃ (x : V) (d : PyData), vs = [x] ∧ Tr H x d ∧ GxR.TabG H Pt ∧ okS d = true ∧ ∀ v H', Gr Pt H H' → Tr H' v (faultD d) → Q v H'
def spHouse (Pt : Addr) : Sp := fun vs H Q _ => ∃ (x : V) (d : PyData), vs = [x] ∧ Tr H x d ∧ GxR.TabG H Pt ∧ okS d = true ∧ ∀ H', Gr Pt H H' → Q (.bl (isN (faultD d))) H'
theorem fDial_none : ∀ {ds : List PyData} {k : Nat} {p : Option Str}, fDial k p ds = none → ∀ d ∈ ds, dialD d = true
  | [], _, _, _, d, h => absurd h (by simp)
  | d :: ds, k, p, e, d', h => by
    rw [fDial_cons] at e
    by_cases c : dialD d = true
    · rw [if_pos c] at e
      have rest : ∀ {o : Option Str}, fDial (k + 1) o ds = none → dialD d' = true := fun {o} e2 => by
        rcases List.mem_cons.mp h with h | h
        · rw [h]; exact c
        · exact fDial_none e2 d' h
      cases p with
      | none => exact rest e
      | some p =>
        simp only at e
        by_cases c2 : leS (nameOf d) p = true
        · rw [if_pos c2] at e
          cases e
        · rw [if_neg c2] at e
          exact rest e
    · rw [if_neg c] at e
      cases e
theorem name_ok {d : PyData} (h : dialD d = true) : PyData.strOk (nameOf d) = true := by
  unfold dialD at h
  split at h
  · rename_i n lo hi way up down
    simp only [Bool.and_eq_true] at h
    cases n with
    | str z =>
      have h1 := h.1
      rw [nameD_str] at h1
      simp only [Bool.and_eq_true] at h1
      show PyData.strOk z = true
      unfold PyData.strOk
      have h2 := h1.2.2
      rw [Array.all_toList] at h2
      rw [Array.all_eq_true] at h2 ⊢
      intro i hi
      have q := h2 i hi
      simp only [smallC, Bool.and_eq_true, decide_eq_true_eq] at q
      simp only [decide_eq_true_eq]
      omega
    | _ => cases h.1
  · cases h
theorem form_is {d : PyData} (h : formD d = true) : ∃ ds rs, d = .tuple [.tuple ds, .tuple rs] ∧ ds.length ≤ 12 ∧ rs.length ≤ 40 := by
  unfold formD at h
  split at h
  · rename_i a b
    simp only [Bool.and_eq_true] at h
    cases a with
    | tuple ds =>
      cases b with
      | tuple rs =>
        have h1 := h.1
        have h2 := h.2
        simp only [tupD, Bool.and_eq_true, decide_eq_true_eq] at h1 h2
        exact ⟨ds, rs, rfl, by omega, by omega⟩
      | _ => cases h.2
    | _ => cases h.1
  · cases h
section
variable {P : Program} {w : World} {K : PySem.W.Frag} {mg : Str → Option Value} {base : Heap} {W S R Pt : Addr}
theorem scFault : FnScope ["thing", "dials", "rules", "k", "dial"] ["thing"] (defScope sFault) := ⟨rfl, rfl, rfl, by decide +kernel, rfl, by decide +kernel, by decide +kernel⟩
theorem ok_fault {f g1 g2 g3 : Addr} {fd d1 d2 d3 : FuncData} (F : Fun K "fault_of" "fault_of" sFault f fd)
    (G1 : FnOk P w K mg base CX0 2 g1 d1 ["thing"] spForm) (b1 : Binds K d1 ["thing"] []) (k1 : PySem.W.keepIn K (.ref g1) = true) (m1 : mg "has_house_form" = some (.ref g1))
    (G2 : FnOk P w K mg base CX0 4 g2 d2 ["dials"] (spFDial Pt)) (b2 : Binds K d2 ["dials"] []) (k2 : PySem.W.keepIn K (.ref g2) = true) (m2 : mg "faulty_dial" = some (.ref g2))
    (G3 : FnOk P w K mg base CX0 4 g3 d3 ["names", "rules"] spFRule) (b3 : Binds K d3 ["names", "rules"] []) (k3 : PySem.W.keepIn K (.ref g3) = true) (m3 : mg "faulty_rule" = some (.ref g3)) : FnOk P w K mg base CX0 5 f fd ["thing"] (spFault Pt) := by
  refine F.ok scFault (fun vs H Q E h => ?_) (fun cdv A outer s H vs Q E hr h => ?_)
  · obtain ⟨x, d, rfl, _⟩ := h
    rfl
  obtain ⟨x, d, rfl, t, tg, hz, k⟩ := h
  have hr1 : Room 2 _ := hr.mono (by decide)
  refine ⟨_, pss_cons (ps_if (pt_not (pt_val (pe_call G1 hr1 rfl m1 k1 b1 .nil pass0 (pa_cons (pv 0) pa_nil)))) (pss_one (ps_ret (pe_tup (pa_cons pe_str pa_nil)))) pss_nil) <|
    pss_cons (ps_asg (pv 0) (pg_tup (by rfl) (pgs_cons (pg_name (i := 1) scFault.nd rfl (.inl rfl)) <| pgs_cons (pg_name (i := 2) scFault.nd rfl (.inl rfl)) pgs_nil))) <|
    pss_cons (ps_set (i := 3) scFault.nd rfl (.inl rfl) (pe_call G2 hr rfl m2 k2 b2 .nil pass0 (pa_cons (pv 1) pa_nil))) <|
    pss_cons (ps_if (pt_cmpR op_notN (pv 3) pe_non (nomark _)) (pss_one (ps_ret (pe_tup (pa_cons pe_str (pa_cons (pv 3) pa_nil))))) pss_nil) <|
    pss_cons (ps_set (i := 3) scFault.nd rfl (.inl rfl) (pe_call G3 hr rfl m3 k3 b3 .nil pass0 (pa_cons (pe_lc (own := [("dial", 4)]) (g := gName 4) (by rfl) scFault.nd (pi_tup (pv 1)) (blkOk_by (N := ["thing", "dials", "rules", "k", "dial"]) (sc := defScope sFault) (by decide +kernel)) (fun _ _ _ _ _ => pg_name (i := 4) scFault.nd rfl (Or.inl rfl)) (fun _ _ _ _ _ => pts_nil) (fun _ _ _ _ _ => pe_ix (r := rIxT K) ix_tup (pv 4) pe_int (fun _ _ => rfl))) (pa_cons (pv 2) pa_nil)))) <|
    pss_cons (ps_if (pt_cmpR op_notN (pv 3) pe_non (nomark _)) (pss_one (ps_ret (pe_tup (pa_cons pe_str (pa_cons (pv 3) pa_nil))))) pss_nil) <|
    pss_one (ps_ret pe_non), ?_⟩
  refine ⟨_, rfl, x, d, rfl, t, _, rfl, ?_⟩
  cases c1 : formD d with
  | false =>
    refine iteT ⟨by show 1 ≤ sizeLine; decide, fun p np => ?_⟩
    refine k _ _ (Gr.same tg (sameNew np _)) ?_
    unfold faultD
    rw [if_neg (by rw [c1]; exact Bool.false_ne_true)]
    exact .tup upd_same (.cons (.str _) .nil)
  | true =>
    refine iteF ?_
    obtain ⟨ds, rs, rfl, l1, l2⟩ := form_is c1
    cases t with
    | @tup b xs _ h al =>
    match xs, al with
    | [xa, xb], .cons ta (.cons tb .nil) =>
    cases ta with
    | @tup a1 xs1 _ h1 al1 =>
    cases tb with
    | @tup a2 xs2 _ h2 al2 =>
    have z1 := al1.length
    have z2 := al2.length
    simp only [okS, okSs, Bool.and_eq_true] at hz
    have n1 : a1 ≠ Pt := let ⟨_, z, _⟩ := tg; ne_of h1 z (by intro y; cases y)
    have n2 : a2 ≠ Pt := let ⟨_, z, _⟩ := tg; ne_of h2 z (by intro y; cases y)
    refine ⟨_, rfl, b, _, rfl, SqT.of h, rfl, _, _, rfl, _, _, rfl, rfl, ?_⟩
    refine ⟨_, rfl, a1, xs1, ds, rfl, h1, al1, tg, hz.1, by omega, fun H1 g1 => ?_⟩
    have ef : faultD (.tuple [.tuple ds, .tuple rs]) = (match fDial 0 none ds with
      | some k => .tuple [.str "dial", .int k]
      | none => match fRule (ds.map nameOf) 0 [] rs with
        | some k => .tuple [.str "rule", .int k]
        | none => .none) := by
      unfold faultD
      rw [if_pos c1]
      rfl
    rw [ef] at k
    cases c2 : fDial 0 none ds with
    | some j =>
      rw [c2] at k
      refine ⟨_, rfl, rfl, _, rfl, iteT ?_⟩
      refine ⟨_, rfl, by show 2 ≤ sizeLine; decide, fun p np => ?_⟩
      exact k _ _ (g1.trans (Gr.same g1.1 (sameNew np _))) (.tup upd_same (.cons (.str _) (.cons (.int _) .nil)))
    | none =>
      rw [c2] at k
      have hall := fDial_none c2
      refine ⟨_, rfl, rfl, _, rfl, iteF ?_⟩
      have h1' := g1.2 _ _ n1 h1
      refine ⟨_, rfl, a1, rfl, ⟨_, SqT.of h1'⟩, fun D hD => lc_tup (K := K) (a := a1) (xs := xs1) (fun i H2 => H2 D = some (.lst (((ds.take i).map nameOf).map V.str)) ∧ Same H1 H2) ⟨by rw [List.take_zero]; exact upd_same, sameNew hD _⟩ (fun i H2 _ ⟨_, s2⟩ => SqT.of (s2 _ _ h1')) ?_ ?_⟩
      · rintro i y H2 hy ⟨e2, s2⟩
        obtain ⟨d, hd, hT⟩ := al1.get hy
        have cd := hall d (List.mem_of_getElem? hd)
        obtain ⟨b1, ys1, ex1, hb1, hn1⟩ := dial_name cd ((hT.gr tg g1).same s2)
        subst ex1
        have hi : i < xs1.length := (List.getElem?_eq_some_iff.mp hy).1
        refine ⟨rfl, _, rfl, b1, _, _, _, rfl, rfl, SqT.of hb1, atV (i := 0) hn1, _, e2, small1000 (by simp only [List.length_map, List.length_take]; omega), ?_, ?_⟩
        · rw [upd_same, take_more hd]
          simp
        · exact fun b o e => by rw [upd_ne (ne_of_none e hD)]; exact s2 _ _ e
      · rintro H2 ⟨e2, s2⟩
        rw [z1, List.take_length] at e2
        have gA : Gr Pt H H2 := g1.trans (Gr.same g1.1 s2)
        have sok : ∀ z ∈ ds.map nameOf, PyData.strOk z = true := fun z hz => by
          obtain ⟨d, hd, rfl⟩ := List.mem_map.mp hz
          exact name_ok (hall d hd)
        refine ⟨_, rfl, a2, D, _, xs2, rs, rfl, e2, sok, gA.2 _ _ n2 h2, al2.gr tg gA, by omega, fun H3 s3 => ?_⟩
        have gB := gA.trans (Gr.same gA.1 s3)
        simp only at k
        cases c3 : fRule (ds.map nameOf) 0 [] rs with
        | some j =>
          rw [c3] at k
          refine ⟨_, rfl, rfl, _, rfl, iteT ?_⟩
          refine ⟨_, rfl, by show 2 ≤ sizeLine; decide, fun p np => ?_⟩
          exact k _ _ (gB.trans (Gr.same gB.1 (sameNew np _))) (.tup upd_same (.cons (.str _) (.cons (.int _) .nil)))
        | none =>
          rw [c3] at k
          refine ⟨_, rfl, rfl, _, rfl, iteF ?_⟩
          exact k _ _ gB .non
end
end Pk
/-! The law's own look: the same as the mirror. -/
namespace Pk
open PySem L2
abbrev sLWhole : Stmt := topH 63
def letters : Str := "abcdefghijklmnopqrstuvwxyz"
theorem lettersL : letters.cps.toList = List.range' 97 26 := by decide +kernel
theorem in_letters (c : Nat) : decide (c ∈ letters.cps.toList) = smallC c := by
  rw [lettersL]
  unfold smallC
  by_cases h1 : 97 ≤ c <;> by_cases h2 : c ≤ 122 <;> simp [List.mem_range'_1, h1, h2] <;> omega
def spLName : Sp := fun vs H Q _ => ∃ (x : V) (d : PyData), vs = [x] ∧ Tr H x d ∧ okS d = true ∧ ∀ H', Same H H' → Q (.bl (nameD d)) H'
def spLDial : Sp := fun vs H Q _ => ∃ (x : V) (d : PyData), vs = [x] ∧ Tr H x d ∧ okS d = true ∧ ∀ H', Same H H' → Q (.bl (dialD d)) H'
def spLSay : Sp := fun vs H Q _ => ∃ (a : Addr) (ns : List Str) (x : V) (d : PyData), vs = [.ref a, x] ∧ H a = some (.lst (ns.map V.str)) ∧ Tr H x d ∧ ∀ H', Same H H' → Q (.bl (sayingD ns d)) H'
def spLRule : Sp := fun vs H Q _ => ∃ (a : Addr) (ns : List Str) (x : V) (d : PyData), vs = [.ref a, x] ∧ H a = some (.lst (ns.map V.str)) ∧ Tr H x d ∧ ∀ H', Same H H' → Q (.bl (ruleD ns d)) H'
theorem e18 : (10 : Int) ^ (18 : Int).toNat = farS := by decide +kernel
theorem e20 : (10 : Int) ^ (20 : Int).toNat = greatS := by decide +kernel
theorem e6 : (10 : Int) ^ (6 : Int).toNat = 1000000 := by decide +kernel
section
variable {P : Program} {w : World} {K : PySem.W.Frag} {mg : Str → Option Value} {base : Heap}
theorem scLWhole : FnScope ["_law_thing", "_law_low", "_law_high"] ["_law_thing", "_law_low", "_law_high"] (defScope sLWhole) := ⟨rfl, rfl, rfl, by decide +kernel, rfl, by decide +kernel, by decide +kernel⟩
theorem ok_lwhole {f : Addr} {fd : FuncData} (F : Fun K "_law_whole" "_law_whole" sLWhole f fd) (B : BltH mg) : FnOk P w K mg base CX0 1 f fd ["_law_thing", "_law_low", "_law_high"] spWhole := by
  refine F.ok scLWhole (fun vs H Q E h => ?_) (fun cdv A outer s H vs Q E hr h => ?_)
  · obtain ⟨x, d, lo, hi, rfl, _⟩ := h
    rfl
  obtain ⟨x, d, lo, hi, rfl, t, k⟩ := h
  refine ⟨_, pss_one (ps_ret (pe_and (pe_callB call_isT (by rfl) B.isinstance (by decide +kernel) (pa_cons (pv 0) (pa_cons (pe_bltn (v := .ty "int") (by rfl) B.int (by decide +kernel) rfl) pa_nil)))
      (pe_and (pe_not (pe_callB call_isT (by rfl) B.isinstance (by decide +kernel) (pa_cons (pv 0) (pa_cons (pe_bltn (v := .ty "bool") (by rfl) B.bool (by decide +kernel) rfl) pa_nil))))
      (pe_one (pe_chain op_le op_le (pv 1) (pv 0) (pv 2)))))), ?_⟩
  refine ⟨_, rfl, x, "int", d, isI, rfl, kI, t, _, rfl, ?_⟩
  cases t with
  | int i =>
    refine iteT ⟨_, rfl, _, "bool", _, isB, rfl, kB, .int i, _, rfl, _, rfl, iteT ?_⟩
    refine ⟨_, rfl, _, rfl, _, _, rfl, rfl, _, rfl, ?_⟩
    refine ite2 (fun c => ?_) (fun c => ?_)
    · refine ⟨_, rfl, _, _, rfl, rfl, ?_⟩
      have e : wholeD lo hi (.int i) = decide (i ≤ hi) := by rw [wholeD_int, c]; rfl
      rw [e] at k
      exact k
    · have e : wholeD lo hi (.int i) = false := by rw [wholeD_int, Bool.eq_false_iff.mpr c]; rfl
      rw [e] at k
      exact k
  | bl b => exact iteT ⟨_, rfl, _, "bool", _, isB, rfl, kB, .bl b, _, rfl, _, rfl, iteF k⟩
  | non => exact iteF k
  | str z => exact iteF k
  | lst h a => exact iteF k
  | tup h a => exact iteF k
  | dct h n e a => exact iteF k
end
end Pk
namespace Pk
open PySem L2
abbrev sPen : Stmt := topH 46
abbrev sDraw : Stmt := topH 47
abbrev sPick : Stmt := topH 48
abbrev sShuf : Stmt := topH 49
abbrev sNames : Stmt := topH 50
abbrev sAny : Stmt := topH 51
abbrev sFrom : Stmt := topH 52
abbrev sPriceL : Stmt := topH 53
abbrev sDial : Stmt := topH 54
abbrev sSay : Stmt := topH 55
abbrev sTSay : Stmt := topH 56
abbrev sTRule : Stmt := topH 57
abbrev sHouseL : Stmt := topH 58
abbrev sOdd : Stmt := topH 61
abbrev sBent : Stmt := topH 62
abbrev sLaw : Stmt := topH 70
theorem small {n : Nat} (h : n ≤ 1000) : n ≤ sizeLine := Nat.le_of_lt (small1000 h)
/-- all but p stays -/
def Sb (p : Addr) (H H' : Hp) : Prop := Same (del H p) (del H' p)
theorem Sb.of {p : Addr} {H H' : Hp} (h : ∀ b o, b ≠ p → H b = some o → H' b = some o) : Sb p H H' := fun b o e => by
  by_cases hb : b = p
  · subst hb
    rw [del_same] at e
    cases e
  · rw [del_ne hb] at e ⊢
    exact h b o hb e
theorem Sb.to {p : Addr} {H H' : Hp} (s : Sb p H H') {b : Addr} {o : HO} (hb : b ≠ p) (e : H b = some o) : H' b = some o := by
  have z := s b o (by rw [del_ne hb]; exact e)
  rw [del_ne hb] at z
  exact z
theorem Sb.same {p : Addr} {H H' : Hp} (s : Same H H') : Sb p H H' := .of fun b o _ e => s b o e
theorem Sb.trans {p : Addr} {H H1 H2 : Hp} (a : Sb p H H1) (b : Sb p H1 H2) : Sb p H H2 := Same.trans a b
theorem Sb.refl (p : Addr) (H : Hp) : Sb p H H := Same.refl _
theorem Sb.upd {p : Addr} {H : Hp} (o : HO) : Sb p H (upd H p o) := .of fun b u hb e => by rw [upd_ne hb]; exact e
/-- what stands apart from p stands -/
theorem delSame {p : Addr} {H : Hp} : Same (del H p) H := fun b o e => by
  by_cases hb : b = p
  · subst hb
    rw [del_same] at e
    cases e
  · rw [del_ne hb] at e
    exact e
theorem delNew {H : Hp} {p q : Addr} (h : p ≠ q) (hq : H q = none) (o : HO) : del (upd H q o) p q = some o := by
  rw [del_ne h.symm, upd_same]

/-- the pen: its cells at c, the turn, what is left of a great cell -/
def penK (c : Addr) (t r : Int) : List (Key × V) := [(Sum.inr "cells", .ref c), (Sum.inr "turn", .int t), (Sum.inr "rest", .int r)]
structure PenAt (H : Hp) (p c : Addr) (ns : List Int) (t r : Int) : Prop where
  at_ : H p = some (.dK (penK c t r))
  cells : H c = some (.lst (ns.map V.int))
  len : ns.length ≤ 63
  t0 : 0 ≤ t
  r0 : 0 ≤ r
theorem PenAt.ne {H : Hp} {p c : Addr} {ns : List Int} {t r : Int} (P : PenAt H p c ns t r) : c ≠ p := ne_of P.cells P.at_ (by intro z; cases z)
theorem PenAt.upd {H : Hp} {p c : Addr} {ns : List Int} {t r t' r' : Int} (P : PenAt H p c ns t r) (h1 : 0 ≤ t') (h2 : 0 ≤ r') : PenAt (upd H p (.dK (penK c t' r'))) p c ns t' r' :=
  ⟨upd_same, by rw [upd_ne P.ne]; exact P.cells, P.len, h1, h2⟩
theorem PenAt.same {H H' : Hp} {p c : Addr} {ns : List Int} {t r : Int} (P : PenAt H p c ns t r) (s : Same H H') : PenAt H' p c ns t r := ⟨s _ _ P.at_, s _ _ P.cells, P.len, P.t0, P.r0⟩
section
variable {H : Hp} {p c : Addr} {ns : List Int} {t r : Int}
theorem dg_rest (P : PenAt H p c ns t r) : DGet H p (.str "rest") (some (.int r)) := .inl ⟨_, .inr "rest", .inl P.at_, rfl, rfl⟩
theorem dg_turn (P : PenAt H p c ns t r) : DGet H p (.str "turn") (some (.int t)) := .inl ⟨_, .inr "turn", .inl P.at_, rfl, rfl⟩
theorem dg_cells (P : PenAt H p c ns t r) : DGet H p (.str "cells") (some (.ref c)) := .inl ⟨_, .inr "cells", .inl P.at_, rfl, rfl⟩
theorem dp_turn (P : PenAt H p c ns t r) (z : Int) : DPut H p (.str "turn") (.int z) (upd H p (.dK (penK c z r))) := .inl ⟨_, .inr "turn", P.at_, rfl, small1000 (by show 3 ≤ 1000; decide), rfl⟩
theorem dp_rest (P : PenAt H p c ns t r) (z : Int) : DPut H p (.str "rest") (.int z) (upd H p (.dK (penK c t z))) := .inl ⟨_, .inr "rest", P.at_, rfl, small1000 (by show 3 ≤ 1000; decide), rfl⟩
end
theorem canInts : ∀ ns : List Int, PyData.canLayAll0 (ns.map PyData.int) = true
  | [] => by simp only [List.map_nil, PyData.canLayAll0]
  | n :: ns => by simp [PyData.canLayAll0, PyData.canLay0, canInts ns]
theorem depthInts : ∀ ns : List Int, PyData.depthAll (ns.map PyData.int) = 0
  | [] => by simp only [List.map_nil, PyData.depthAll]
  | n :: ns => by simp [PyData.depthAll, PyData.depth, depthInts ns]
theorem shapedInts (ns : List Int) : SeqAt.shaped (.list (ns.map PyData.int)) = true := by
  unfold SeqAt.shaped
  rw [Bool.and_eq_true]
  refine ⟨by simp only [PyData.canLay0]; exact canInts ns, decide_eq_true ?_⟩
  simp only [PyData.depth, depthInts]
  omega
theorem dpInts {K : PySem.W.Frag} {H : Hp} : ∀ ns : List Int, DpAll K H (ns.map V.int) (ns.map PyData.int)
  | [] => .nil
  | n :: ns => .cons (.int n) (dpInts ns)
theorem eqvNil (ns : List Int) : PyData.eqv (.list (ns.map PyData.int)) (.list []) = ns.isEmpty := by
  cases ns with
  | nil => rfl
  | cons n ns => rfl
/-- a cell -/
theorem atCell {ns : List Int} {k : Int} (h0 : 0 ≤ k) (h : k < (ns.length : Int)) : ∃ v : Int, atI (ns.map V.int) k = some (.int v) := by
  have hk : k.toNat < ns.length := by omega
  have ek : k = ((k.toNat : Nat) : Int) := by omega
  have q : atI (ns.map V.int) ((k.toNat : Nat) : Int) = some (.int ns[k.toNat]) := atI_nat (by rw [List.getElem?_map, List.getElem?_eq_getElem hk] <;> rfl)
  rw [← ek] at q
  exact ⟨_, q⟩
def primes : List Int := [2147483647, 2147483629, 2147483587, 2147483579, 2147483563]
theorem atPrime {k : Int} (h0 : 0 ≤ k) (h : k < 5) : ∃ v : Int, atI (primes.map V.int) k = some (.int v) ∧ 2147483563 ≤ v ∧ v ≤ 2147483647 := by
  rcases (show k = 0 ∨ k = 1 ∨ k = 2 ∨ k = 3 ∨ k = 4 by omega) with rfl | rfl | rfl | rfl | rfl
  · exact ⟨2147483647, rfl, by decide, by decide⟩
  · exact ⟨2147483629, rfl, by decide, by decide⟩
  · exact ⟨2147483587, rfl, by decide, by decide⟩
  · exact ⟨2147483579, rfl, by decide, by decide⟩
  · exact ⟨2147483563, rfl, by decide, by decide⟩

theorem mulOk {a q j : Int} (h : 0 < q) (h2 : q ≤ 2147483647) : CMul (a % q) j := by
  have h3 := Int.emod_nonneg a (show q ≠ 0 by omega)
  have h4 := Int.emod_lt_of_pos a h
  left
  constructor <;> omega

/-! ### promises -/
/-- _law_draw: a number below many; the pen goes on -/
def spDraw : Sp := fun vs H Q _ => ∃ (p c : Addr) (ns : List Int) (t r m : Int), vs = [.ref p, .int m] ∧ PenAt H p c ns t r ∧ t ≤ 1000000000 ∧ 1 ≤ m ∧ m ≤ 1000000000 ∧
  ∀ (v t' r' : Int) (H' : Hp), 0 ≤ v → v < m → t' ≤ t + 1 → PenAt H' p c ns t' r' → Sb p H H' → Q (.int v) H'
structure Blt (mg : Str → Option Value) : Prop where
  len : mg "len" = none
  abs : mg "abs" = none
  list : mg "list" = none
  tuple : mg "tuple" = none
  dict : mg "dict" = none
  isinstance : mg "isinstance" = none
  range : mg "range" = none
  repr : mg "repr" = none
  sorted : mg "sorted" = none
  min : mg "min" = none
  max : mg "max" = none
  int : mg "int" = none
  str : mg "str" = none
section
variable {P : Program} {w : World} {K : PySem.W.Frag} {mg : Str → Option Value} {base : Heap}
theorem scDraw : FnScope ["_law_pen_here", "_law_many", "_law_digit", "_law_turn", "_law_cell", "_law_primes", "_law_prime", "_law_mixed"] ["_law_pen_here", "_law_many"] (defScope sDraw) := ⟨rfl, rfl, rfl, by decide +kernel, rfl, by decide +kernel, by decide +kernel⟩
set_option maxHeartbeats 4000000 in
theorem ok_draw {f : Addr} {fd : FuncData} (F : Fun K "_law_draw" "_law_draw" sDraw f fd) (B : Blt mg) : FnOk P w K mg base CX0 1 f fd ["_law_pen_here", "_law_many"] spDraw := by
  refine F.ok scDraw (fun vs H Q E h => ?_) (fun cdv A outer s H vs Q E hr h => ?_)
  · obtain ⟨p, c, ns, t, r, m, rfl, _⟩ := h
    rfl
  obtain ⟨p, c, ns, t, r, m, rfl, pen, ht, hm1, hm2, k⟩ := h
  have hu := hu_of hr
  refine ⟨_, pss_cons (ps_if (pt_cmpR op_gt (pe_dget hu (pv 0) pe_str (fun _ _ => rfl)) pe_int (nomark _))
      (pss_cons (ps_set (i := 2) scDraw.nd rfl (.inl rfl) (pe_op op_mod (pe_dget hu (pv 0) pe_str (fun _ _ => rfl)) (pv 1)))
      (pss_cons (ps_dput hu (pv 0) pe_str (pe_op op_fdiv (pe_dget hu (pv 0) pe_str (fun _ _ => rfl)) (pv 1)) rfl)
      (pss_one (ps_ret (pv 2))))) pss_nil) <|
    pss_cons (ps_set (i := 3) scDraw.nd rfl (.inl rfl) (pe_dget hu (pv 0) pe_str (fun _ _ => rfl))) <|
    pss_cons (ps_dput hu (pv 0) pe_str (pe_op op_add (pv 3) pe_int) rfl) <|
    pss_cons (ps_set (i := 4) scDraw.nd rfl (.inl rfl) (pe_op op_add (pe_op op_mul pe_int (pv 3)) pe_int)) <|
    pss_cons (ps_if (pt_cmpR (op_neD hr.units) (pe_dget hu (pv 0) pe_str (fun _ _ => rfl)) (pe_lst pa_nil) (nomark _))
      (pss_one (ps_set (i := 4) scDraw.nd rfl (.inl rfl) (pe_ix ix_list (pe_dget hu (pv 0) pe_str (fun _ _ => rfl)) (pe_op op_mod (pv 3) (pe_callB call_len_seq (by rfl) B.len PySem.boot_len (pa_cons (pe_dget hu (pv 0) pe_str (fun _ _ => rfl)) pa_nil))) (fun _ _ => rfl)))) pss_nil) <|
    pss_cons (ps_if (PW.pt (pw_and (pt_cmpR op_lt (pv 3) (pe_callB call_len_seq (by rfl) B.len PySem.boot_len (pa_cons (pe_dget hu (pv 0) pe_str (fun _ _ => rfl)) pa_nil)) (nomark _))
        (pw_and1 (pt_cmpR op_ge (pe_callB call_abs (by rfl) B.abs (by decide +kernel) (pa_cons (pv 4) pa_nil)) (pe_op op_pow pe_int pe_int) (nomark _)))))
      (pss_cons (ps_dput hu (pv 0) pe_str (pe_op op_fdiv (pe_op op_sub (pe_callB call_abs (by rfl) B.abs (by decide +kernel) (pa_cons (pv 4) pa_nil)) (pe_op op_pow pe_int pe_int)) (pv 1)) rfl)
      (pss_one (ps_ret (pe_op op_mod (pe_op op_sub (pe_callB call_abs (by rfl) B.abs (by decide +kernel) (pa_cons (pv 4) pa_nil)) (pe_op op_pow pe_int pe_int)) (pv 1))))) pss_nil) <|
    pss_cons (ps_set (i := 5) scDraw.nd rfl (.inl rfl) (pe_lst (pa_cons pe_int (pa_cons pe_int (pa_cons pe_int (pa_cons pe_int (pa_cons pe_int pa_nil))))))) <|
    pss_cons (ps_set (i := 6) scDraw.nd rfl (.inl rfl) (pe_ix ix_list (pv 5) (pe_op op_mod (pv 3) pe_int) (fun _ _ => rfl))) <|
    pss_cons (ps_set (i := 7) scDraw.nd rfl (.inl rfl) (pe_op op_mod (pe_op op_add (pe_op op_add (pe_op op_mul (pe_op op_mod (pv 4) (pv 6)) pe_int) (pe_op op_mul (pe_op op_mul pe_int (pv 3)) (pv 3))) pe_int) (pv 6))) <|
    pss_cons (ps_set (i := 7) scDraw.nd rfl (.inl rfl) (pe_op op_mod (pe_op op_mul (pv 7) (pe_op op_add (pv 7) pe_int)) (pe_ix ix_list (pv 5) (pe_op op_mod (pe_op op_add (pv 3) pe_int) pe_int) (fun _ _ => rfl)))) <|
    pss_one (ps_ret (pe_op op_mod (pe_op op_fdiv (pe_op op_mod (pe_op op_mul (pv 7) (pv 7)) pe_int) pe_int) (pv 1))), ?_⟩
  -- is something left
  refine ⟨_, rfl, p, _, rfl, dg_rest pen, _, _, rfl, rfl, _, rfl, ?_⟩
  refine ite2 (fun cz => ?_) (fun cz => ?_)
  · have r1 := of_decide_eq_true cz
    refine ⟨_, rfl, p, _, rfl, dg_rest pen, _, rfl, _, _, rfl, rfl, (show (0 : Int) < m by omega), ?_⟩
    refine ⟨_, rfl, p, _, rfl, dg_rest pen, _, rfl, _, _, rfl, rfl, (show 0 < m ∧ m < 1073741824 from ⟨by omega, by omega⟩), _, rfl, p, _, rfl, dp_rest pen _, ?_⟩
    refine ⟨_, rfl, ?_⟩
    exact k _ t (r / m) _ (Int.emod_nonneg _ (by omega)) (Int.emod_lt_of_pos _ (by omega)) (by omega) (pen.upd pen.t0 (Int.ediv_nonneg pen.r0 (by omega))) (Sb.upd _)
  -- a turn more
  refine ⟨_, rfl, p, _, rfl, dg_turn pen, ?_⟩
  refine ⟨_, rfl, _, _, rfl, rfl, _, rfl, p, _, rfl, dp_turn pen _, ?_⟩
  have pen1 := pen.upd (t' := t + 1) (r' := r) (by have := pen.t0; omega) pen.r0
  have s1 : Sb p H (upd H p (.dK (penK c (t + 1) r))) := Sb.upd _
  refine ⟨_, rfl, _, _, rfl, rfl, (by left; constructor <;> decide), _, _, rfl, rfl, ?_⟩
  refine ⟨_, rfl, p, _, rfl, dg_cells pen1, (by show 0 ≤ sizeLine; decide), fun e1 he1 => ?_⟩
  -- are there cells
  have c1 : c ≠ e1 := ne_of_none pen1.cells he1
  have n1 : Same (upd H p (.dK (penK c (t + 1) r))) (upd (upd H p (.dK (penK c (t + 1) r))) e1 (.lst [])) := sameNew he1 _
  have pen2 := pen1.same n1
  refine ⟨.list (ns.map PyData.int), .list [], .lst (SqL.of pen2.cells) (dpInts ns), .lst (SqL.of upd_same) .nil, shapedInts ns, shapedInts [], _, rfl, ?_⟩
  rw [eqvNil]
  have s2 : Sb p H (upd (upd H p (.dK (penK c (t + 1) r))) e1 (.lst [])) := s1.trans (.same n1)
  generalize upd (upd H p (.dK (penK c (t + 1) r))) e1 (.lst []) = H2 at pen2 s2 ⊢
  have hl : (ns.map V.int).length = ns.length := List.length_map _
  have ht0 := pen.t0
  refine ite2 (fun cy => ?w1) (fun cy => ?w2)
  case' w1 =>
    have hne : 0 < ns.length := by
      cases ns with
      | nil => simp at cy
      | cons n ns => simp
    have hb0 : 0 ≤ t % (ns.length : Int) := Int.emod_nonneg _ (by omega)
    have hb1 : t % (ns.length : Int) < (ns.length : Int) := Int.emod_lt_of_pos _ (by omega)
    obtain ⟨z, hz⟩ := atCell hb0 hb1
    refine ⟨_, rfl, p, _, rfl, dg_cells pen2, _, rfl, _, rfl, p, _, rfl, dg_cells pen2, c, _, rfl, .inl (SqL.of pen2.cells), _, _, rfl, rfl, (by show (0 : Int) < (((ns.map V.int).length : Nat) : Int); rw [hl]; omega), ?_⟩
    refine ⟨c, _, _, _, rfl, rfl, SqL.of pen2.cells, (by rw [hl]; exact hz), ?_⟩
  all_goals
    -- a great cell
    refine ⟨_, rfl, _, rfl, p, _, rfl, dg_cells pen2, c, _, rfl, .inl (SqL.of pen2.cells), _, _, rfl, rfl, _, rfl, ?_⟩
    refine ite2 (fun cx => ?_) (fun cx => ?_)
    · refine ⟨_, rfl, _, rfl, _, _, rfl, rfl, ⟨by decide, by decide, by decide⟩, _, _, rfl, rfl, _, rfl, ?_⟩
      refine ite2 (fun cw => ?_) (fun cw => ?_)
      · have cw' := of_decide_eq_true cw
        refine ⟨_, rfl, _, rfl, _, _, rfl, rfl, ⟨by decide, by decide, by decide⟩, _, _, rfl, rfl, _, rfl, _, _, rfl, rfl, (show 0 < m ∧ m < 1073741824 from ⟨by omega, by omega⟩), _, rfl, p, _, rfl, dp_rest pen2 _, ?_⟩
        refine ⟨_, rfl, _, rfl, _, _, rfl, rfl, ⟨by decide, by decide, by decide⟩, _, _, rfl, rfl, _, rfl, _, _, rfl, rfl, (show (0 : Int) < m by omega), ?_⟩
        refine k _ (t + 1) _ _ (Int.emod_nonneg _ (by omega)) (Int.emod_lt_of_pos _ (by omega)) (by omega) (pen2.upd (by omega) (Int.ediv_nonneg (by omega) (by omega))) (s2.trans (Sb.upd _))
      · refine ⟨(by show 5 ≤ sizeLine; decide), fun e2 he2 => ?_⟩
        have n2 : Same H2 (upd H2 e2 (.lst (primes.map V.int))) := sameNew he2 _
        obtain ⟨q1, hq1, g1, g2⟩ := atPrime (k := t % 5) (by omega) (by omega)
        obtain ⟨q2, hq2, g3, g4⟩ := atPrime (k := (t + 2) % 5) (by omega) (by omega)
        refine ⟨_, rfl, _, rfl, _, _, rfl, rfl, (by show (0 : Int) < 5; decide), e2, primes.map V.int, _, _, rfl, rfl, SqL.of upd_same, hq1, ?_⟩
        refine ⟨_, rfl, _, rfl, _, _, rfl, rfl, (show (0 : Int) < q1 by omega), _, _, rfl, rfl, (by right; constructor <;> decide), _, rfl, _, _, rfl, rfl, (by left; constructor <;> decide), _, rfl, _, _, rfl, rfl, (by right; constructor <;> omega), _, _, rfl, rfl, _, _, rfl, rfl, _, rfl, _, _, rfl, rfl, (show (0 : Int) < q1 by omega), ?_⟩
        refine ⟨_, rfl, _, rfl, _, _, rfl, rfl, _, _, rfl, rfl, mulOk (by omega) g2, _, rfl, _, rfl, _, _, rfl, rfl, _, _, rfl, rfl, (by show (0 : Int) < 5; decide), e2, primes.map V.int, _, _, rfl, rfl, SqL.of upd_same, hq2, _, _, rfl, rfl, (show (0 : Int) < q2 by omega), ?_⟩
        refine ⟨_, rfl, _, rfl, _, _, rfl, rfl, mulOk (by omega) g4, _, _, rfl, rfl, (by show (0 : Int) < 2147483549; decide), _, _, rfl, rfl, ⟨by decide, by decide⟩, _, rfl, _, _, rfl, rfl, (show (0 : Int) < m by omega), ?_⟩
        exact k _ (t + 1) r _ (Int.emod_nonneg _ (by omega)) (Int.emod_lt_of_pos _ (by omega)) (by omega) (pen2.same n2) (s2.trans (.same n2))
    · refine ⟨(by show 5 ≤ sizeLine; decide), fun e2 he2 => ?_⟩
      have n2 : Same H2 (upd H2 e2 (.lst (primes.map V.int))) := sameNew he2 _
      obtain ⟨q1, hq1, g1, g2⟩ := atPrime (k := t % 5) (by omega) (by omega)
      obtain ⟨q2, hq2, g3, g4⟩ := atPrime (k := (t + 2) % 5) (by omega) (by omega)
      refine ⟨_, rfl, _, rfl, _, _, rfl, rfl, (by show (0 : Int) < 5; decide), e2, primes.map V.int, _, _, rfl, rfl, SqL.of upd_same, hq1, ?_⟩
      refine ⟨_, rfl, _, rfl, _, _, rfl, rfl, (show (0 : Int) < q1 by omega), _, _, rfl, rfl, (by right; constructor <;> decide), _, rfl, _, _, rfl, rfl, (by left; constructor <;> decide), _, rfl, _, _, rfl, rfl, (by right; constructor <;> omega), _, _, rfl, rfl, _, _, rfl, rfl, _, rfl, _, _, rfl, rfl, (show (0 : Int) < q1 by omega), ?_⟩
      refine ⟨_, rfl, _, rfl, _, _, rfl, rfl, _, _, rfl, rfl, mulOk (by omega) g2, _, rfl, _, rfl, _, _, rfl, rfl, _, _, rfl, rfl, (by show (0 : Int) < 5; decide), e2, primes.map V.int, _, _, rfl, rfl, SqL.of upd_same, hq2, _, _, rfl, rfl, (show (0 : Int) < q2 by omega), ?_⟩
      refine ⟨_, rfl, _, rfl, _, _, rfl, rfl, mulOk (by omega) g4, _, _, rfl, rfl, (by show (0 : Int) < 2147483549; decide), _, _, rfl, rfl, ⟨by decide, by decide⟩, _, rfl, _, _, rfl, rfl, (show (0 : Int) < m by omega), ?_⟩
      exact k _ (t + 1) r _ (Int.emod_nonneg _ (by omega)) (Int.emod_lt_of_pos _ (by omega)) (by omega) (pen2.same n2) (s2.trans (.same n2))
end
end Pk
namespace Pk
open PySem L2
/-! ### the pen's state, and what stands apart from some addresses -/
def PenC (H : Hp) (p c : Addr) (n : Int) : Prop := ∃ ns t r, PenAt H p c ns t r ∧ t ≤ n
theorem PenC.same {H H' : Hp} {p c : Addr} {n : Int} (P : PenC H p c n) (s : Same H H') : PenC H' p c n := let ⟨ns, t, r, h, e⟩ := P; ⟨ns, t, r, h.same s, e⟩
theorem PenC.mono {H : Hp} {p c : Addr} {n m : Int} (P : PenC H p c n) (h : n ≤ m) : PenC H p c m := let ⟨ns, t, r, h1, e⟩ := P; ⟨ns, t, r, h1, by omega⟩
theorem PenC.upd {H : Hp} {p c D : Addr} {n : Int} (P : PenC H p c n) (hp : D ≠ p) (hc : D ≠ c) (o : HO) : PenC (L2.upd H D o) p c n := by
  obtain ⟨ns, t, r, h, e⟩ := P
  exact ⟨ns, t, r, ⟨by rw [upd_ne hp.symm]; exact h.at_, by rw [upd_ne hc.symm]; exact h.cells, h.len, h.t0, h.r0⟩, e⟩
theorem PenC.atp {H : Hp} {p c : Addr} {n : Int} (P : PenC H p c n) : ∃ kv, H p = some (.dK kv) := let ⟨_, _, _, h, _⟩ := P; ⟨_, h.at_⟩
theorem PenC.atc {H : Hp} {p c : Addr} {n : Int} (P : PenC H p c n) : ∃ xs, H c = some (.lst xs) := let ⟨_, _, _, h, _⟩ := P; ⟨_, h.cells⟩
theorem PenC.newp {H : Hp} {p c D : Addr} {n : Int} (P : PenC H p c n) (h : H D = none) : D ≠ p := fun z => by
  obtain ⟨kv, e⟩ := P.atp
  rw [z, e] at h
  cases h
theorem PenC.newc {H : Hp} {p c D : Addr} {n : Int} (P : PenC H p c n) (h : H D = none) : D ≠ c := fun z => by
  obtain ⟨kv, e⟩ := P.atc
  rw [z, e] at h
  cases h
theorem PenC.lstp {H : Hp} {p c D : Addr} {n : Int} {xs : List V} (P : PenC H p c n) (h : H D = some (.lst xs)) : D ≠ p := fun z => by
  obtain ⟨kv, e⟩ := P.atp
  rw [z, e] at h
  cases h
theorem PenC.tupp {H : Hp} {p c D : Addr} {n : Int} {xs : List V} (P : PenC H p c n) (h : H D = some (.tup xs)) : D ≠ p := fun z => by
  obtain ⟨kv, e⟩ := P.atp
  rw [z, e] at h
  cases h
/-- but p, what stood stands -/
theorem Sb.new {p : Addr} {H H' : Hp} {D : Addr} (s : Sb p H H') (hD : H D = none) (hp : D ≠ p) (o : HO) : Sb p H (L2.upd H' D o) := .of fun b u hb e => by
  rw [upd_ne (ne_of_none e hD)]
  exact s.to hb e
theorem Sb.free {p l : Addr} {H H' : Hp} (s : Sb p H H') (hp : l ≠ p) (h : H' l = none) : H l = none := by
  cases e : H l with
  | none => rfl
  | some o => rw [s.to hp e] at h; cases h
theorem ints10 : (10 : Int) ^ (18 : Int).toNat = 1000000000000000000 := by decide +kernel
/-- _law_draw -/
def spDrawC : Sp := fun vs H Q _ => ∃ (p c : Addr) (n m : Int), vs = [.ref p, .int m] ∧ PenC H p c n ∧ n ≤ 1000000000 ∧ 1 ≤ m ∧ m ≤ 1000000000 ∧ ∀ (v : Int) (H' : Hp), 0 ≤ v → v < m → PenC H' p c (n + 1) → Sb p H H' → Q (.int v) H'
theorem draw_imp : ∀ vs H Q E, spDrawC vs H Q E → spDraw vs H Q E := by
  rintro vs H Q E ⟨p, c, n, m, rfl, ⟨ns, t, r, h, e⟩, hn, m1, m2, k⟩
  exact ⟨p, c, ns, t, r, m, rfl, h, by omega, m1, m2, fun v t' r' H' v0 v1 ht' h' sb => k v H' v0 v1 ⟨ns, t', r', h', by omega⟩ sb⟩
/-- _law_pick: of a list, or of a text's signs -/
def spPickL : Sp := fun vs H Q _ => ∃ (p c l : Addr) (n : Int) (xs : List V), vs = [.ref p, .ref l] ∧ PenC H p c n ∧ n ≤ 1000000000 ∧ H l = some (.lst xs) ∧ 1 ≤ xs.length ∧ xs.length ≤ 1000000 ∧
  ∀ (x : V) (H' : Hp), x ∈ xs → PenC H' p c (n + 1) → Sb p H H' → Q x H'
def spPickS : Sp := fun vs H Q _ => ∃ (p c : Addr) (n : Int) (z : Str), vs = [.ref p, .str z] ∧ PenC H p c n ∧ n ≤ 1000000000 ∧ 1 ≤ z.length ∧ z.length ≤ 1000000 ∧
  ∀ (x : Nat) (H' : Hp), x ∈ z.cps.toList → PenC H' p c (n + 1) → Sb p H H' → Q (.str ⟨#[x]⟩) H'
def spPick : Sp := fun vs H Q E => spPickL vs H Q E ∨ spPickS vs H Q E
def spAny : Sp := fun vs H Q _ => ∃ (p c : Addr) (n u : Int), vs = [.ref p, .int u] ∧ PenC H p c n ∧ n ≤ 500000000 ∧ 0 ≤ u ∧ ∀ (v : Int) (H' : Hp), 0 ≤ v → v ≤ u → PenC H' p c (n + 6) → Sb p H H' → Q (.int v) H'
def spFrom : Sp := fun vs H Q _ => ∃ (p c : Addr) (n lo hi : Int), vs = [.ref p, .int lo, .int hi] ∧ PenC H p c n ∧ n ≤ 400000000 ∧ lo ≤ hi ∧ ∀ (v : Int) (H' : Hp), lo ≤ v → v ≤ hi → PenC H' p c (n + 8) → Sb p H H' → Q (.int v) H'
def spPriceL : Sp := fun vs H Q _ => ∃ (p c : Addr) (n : Int), vs = [.ref p] ∧ PenC H p c n ∧ n ≤ 400000000 ∧ ∀ (v : Int) (H' : Hp), 1 ≤ v → v ≤ 1000000 → PenC H' p c (n + 3) → Sb p H H' → Q (.int v) H'
def spShuf : Sp := fun vs H Q _ => ∃ (p c a : Addr) (n : Int) (ss : List Str), vs = [.ref p, .ref a] ∧ PenC H p c n ∧ n ≤ 400000000 ∧ H a = some (.lst (ss.map V.str)) ∧ ss.length ≤ 40 ∧
  ∀ (l : Addr) (ss' : List Str) (H' : Hp), PenC H' p c (n + 40) → Sb p H H' → H l = none → H' l = some (.lst (ss'.map V.str)) → ss'.length = ss.length → (∀ z ∈ ss', z ∈ ss) → ss'.Perm ss → Q (.ref l) H'
theorem seqIx {i : Int} {n : Nat} (h0 : 0 ≤ i) (h1 : i < n) : seqIndex? i n = some i.toNat := by
  have e : ¬ i < 0 := by omega
  unfold seqIndex?
  simp only [e, if_false]
  rw [if_pos (by simp; omega)]
theorem erase_map {α β : Type} (f : α → β) : ∀ (l : List α) (i : Nat), (l.map f).eraseIdx i = (l.eraseIdx i).map f
  | [], _ => by simp
  | _ :: _, 0 => by simp
  | _ :: l, i + 1 => by simp [erase_map f l i]
theorem perm_erase {α : Type} : ∀ {l : List α} {i : Nat} (h : i < l.length), (l[i] :: l.eraseIdx i).Perm l
  | [], _, h => absurd h (by simp)
  | x :: l, 0, _ => by simp
  | x :: l, i + 1, h => by
    have h' : i < l.length := by simpa using h
    have q := perm_erase h'
    rw [List.eraseIdx_cons_succ, List.getElem_cons_succ]
    exact (List.Perm.swap _ _ _).trans (List.Perm.cons x q)
section
variable {P : Program} {w : World} {K : PySem.W.Frag} {mg : Str → Option Value} {base : Heap}
theorem scPick : FnScope ["_law_pen_here", "_law_some"] ["_law_pen_here", "_law_some"] (defScope sPick) := ⟨rfl, rfl, rfl, by decide +kernel, rfl, by decide +kernel, by decide +kernel⟩
theorem ok_pick {f g : Addr} {fd gd : FuncData} (F : Fun K "_law_pick" "_law_pick" sPick f fd) (G : FnOk P w K mg base CX0 1 g gd ["_law_pen_here", "_law_many"] spDrawC) (bG : Binds K gd ["_law_pen_here", "_law_many"] []) (kG : PySem.W.keepIn K (.ref g) = true) (mG : mg "_law_draw" = some (.ref g)) (B : Blt mg) :
    FnOk P w K mg base CX0 2 f fd ["_law_pen_here", "_law_some"] spPick := by
  refine F.ok scPick (fun vs H Q E h => ?_) (fun cdv A outer s H vs Q E hr h => ?_)
  · rcases h with ⟨p, c, l, n, xs, rfl, _⟩ | ⟨p, c, n, z, rfl, _⟩ <;> rfl
  refine ⟨_, pss_one (ps_ret (pe_ix ix_seq (pv 1) (pe_call G hr rfl mG kG bG .nil pass0 (pa_cons (pv 0) (pa_cons (pe_callB call_len (by rfl) B.len PySem.boot_len (pa_cons (pv 1) pa_nil)) pa_nil))) (fun _ _ => rfl))), ?_⟩
  rcases h with ⟨p, c, l, n, xs, rfl, pen, hn, hl, l1, l2, k⟩ | ⟨p, c, n, z, rfl, pen, hn, l1, l2, k⟩
  · have lp : l ≠ p := pen.lstp hl
    refine ⟨_, rfl, _, rfl, _, rfl, _, xs.length, rfl, .inl ⟨xs, SqL.of hl, rfl⟩, p, c, n, _, rfl, pen, hn, by omega, by omega, fun v H' v0 v1 pen' sb => ?_⟩
    have hv : v.toNat < xs.length := by omega
    have ev : v = ((v.toNat : Nat) : Int) := by omega
    have q : atI xs ((v.toNat : Nat) : Int) = some xs[v.toNat] := atI_nat (List.getElem?_eq_getElem hv)
    rw [← ev] at q
    exact .inl ⟨l, xs, v, _, rfl, rfl, SqL.of (sb.to lp hl), q, k _ H' (List.getElem_mem hv) pen' sb⟩
  · refine ⟨_, rfl, _, rfl, _, rfl, _, z.length, rfl, ⟨by have := sizeLine_eq; omega, rfl⟩, p, c, n, _, rfl, pen, hn, by omega, by omega, fun v H' v0 v1 pen' sb => ?_⟩
    have hz : z.cps.toList.length = z.length := Array.length_toList
    have hv : v.toNat < z.cps.toList.length := by omega
    have ev : v = ((v.toNat : Nat) : Int) := by omega
    have q : atI z.cps.toList ((v.toNat : Nat) : Int) = some z.cps.toList[v.toNat] := atI_nat (List.getElem?_eq_getElem hv)
    rw [← ev] at q
    exact .inr (.inr ⟨z, v, _, rfl, rfl, by have := sizeLine_eq; omega, q, k _ H' (List.getElem_mem hv) pen' sb⟩)
theorem scAny : FnScope ["_law_pen_here", "_law_upto", "_law_number", "_law_k"] ["_law_pen_here", "_law_upto"] (defScope sAny) := ⟨rfl, rfl, rfl, by decide +kernel, rfl, by decide +kernel, by decide +kernel⟩
theorem ok_any {f g : Addr} {fd gd : FuncData} (F : Fun K "_law_any" "_law_any" sAny f fd) (G : FnOk P w K mg base CX0 1 g gd ["_law_pen_here", "_law_many"] spDrawC) (bG : Binds K gd ["_law_pen_here", "_law_many"] []) (kG : PySem.W.keepIn K (.ref g) = true) (mG : mg "_law_draw" = some (.ref g)) (B : Blt mg) :
    FnOk P w K mg base CX0 2 f fd ["_law_pen_here", "_law_upto"] spAny := by
  refine F.ok scAny (fun vs H Q E h => ?_) (fun cdv A outer s H vs Q E hr h => ?_)
  · obtain ⟨p, c, n, u, rfl, _⟩ := h
    rfl
  obtain ⟨p, c, n, u, rfl, pen, hn, u0, k⟩ := h
  refine ⟨_, pss_cons (ps_set (i := 2) scAny.nd rfl (.inl rfl) pe_int) <|
    pss_cons (ps_for PassesOwn.never rfl (pi_range1 rfl B.range (pa_cons pe_int pa_nil)) (pg_name (i := 3) scAny.nd rfl (.inl rfl))
      (pss_one (ps_set (i := 2) scAny.nd rfl (.inl rfl) (pe_op op_add (pe_op op_mul pe_int (pv 2)) (pe_call G hr rfl mG kG bG .nil pass0 (pa_cons (pv 0) (pa_cons pe_int pa_nil))))))) <|
    pss_one (ps_ret (pe_op op_mod (pv 2) (pe_op op_add (pv 1) pe_int))), ?_⟩
  refine ⟨6, rfl, by decide, by decide, for_range (n := 6) (fun i σ H2 => ∃ (z : Int) (v3 : Option V), σ = [some (.ref p), some (.int u), some (.int z), v3] ∧ PenC H2 p c (n + i) ∧ Sb p H H2) ⟨0, none, rfl, by simpa using pen, Sb.refl _ _⟩ ?_ ?_⟩
  · rintro i σ H2 hi ⟨z, v3, rfl, pen2, sb2⟩
    refine ⟨_, rfl, _, _, rfl, rfl, .inl ⟨by decide, by decide⟩, _, rfl, p, c, n + i, _, rfl, pen2, by omega, by decide, by decide, fun v H3 v0 v1 pen3 sb3 => ?_⟩
    refine ⟨_, _, rfl, rfl, _, _, rfl, ?_, sb2.trans sb3⟩
    have e : n + ((i + 1 : Nat) : Int) = n + i + 1 := by omega
    rw [e]
    exact pen3
  · rintro σ H2 ⟨z, v3, rfl, pen2, sb2⟩
    refine ⟨_, rfl, _, rfl, _, _, rfl, rfl, _, _, rfl, rfl, (show (0 : Int) < u + 1 by omega), ?_⟩
    exact k _ H2 (Int.emod_nonneg _ (by omega)) (by have := Int.emod_lt_of_pos z (show (0 : Int) < u + 1 by omega); omega) pen2 sb2
theorem scFrom : FnScope ["_law_pen_here", "_law_low", "_law_high", "_law_way", "_law_near"] ["_law_pen_here", "_law_low", "_law_high"] (defScope sFrom) := ⟨rfl, rfl, rfl, by decide +kernel, rfl, by decide +kernel, by decide +kernel⟩
theorem ok_from {f g g2 : Addr} {fd gd gd2 : FuncData} (F : Fun K "_law_from" "_law_from" sFrom f fd) (G : FnOk P w K mg base CX0 1 g gd ["_law_pen_here", "_law_many"] spDrawC) (bG : Binds K gd ["_law_pen_here", "_law_many"] []) (kG : PySem.W.keepIn K (.ref g) = true) (mG : mg "_law_draw" = some (.ref g))
    (G2 : FnOk P w K mg base CX0 2 g2 gd2 ["_law_pen_here", "_law_upto"] spAny) (bG2 : Binds K gd2 ["_law_pen_here", "_law_upto"] []) (kG2 : PySem.W.keepIn K (.ref g2) = true) (mG2 : mg "_law_any" = some (.ref g2)) (B : Blt mg) :
    FnOk P w K mg base CX0 3 f fd ["_law_pen_here", "_law_low", "_law_high"] spFrom := by
  refine F.ok scFrom (fun vs H Q E h => ?_) (fun cdv A outer s H vs Q E hr h => ?_)
  · obtain ⟨p, c, n, lo, hi, rfl, _⟩ := h
    rfl
  obtain ⟨p, c, n, lo, hi, rfl, pen, hn, hlh, k⟩ := h
  have hr1 : Room 1 _ := hr.mono (by decide)
  refine ⟨_, pss_cons (ps_par (i := 3) (j := 4) (by rfl) scFrom.nd rfl rfl (by decide) rfl rfl (pa_cons (pe_call G hr1 rfl mG kG bG .nil pass0 (pa_cons (pv 0) (pa_cons pe_int pa_nil))) (pa_cons (pe_call G hr1 rfl mG kG bG .nil pass0 (pa_cons (pv 0) (pa_cons pe_int pa_nil))) pa_nil)) (by rfl)) <|
    pss_cons (ps_if (pt_cmpR op_lt (pv 3) pe_int (nomark _)) (pss_one (ps_ret (pe_callB (call_min2 rfl) (by rfl) B.min (by decide +kernel) (pa_cons (pv 2) (pa_cons (pe_op op_add (pv 1) (pv 4)) pa_nil))))) pss_nil) <|
    pss_cons (ps_if (pt_cmpR op_lt (pv 3) pe_int (nomark _)) (pss_one (ps_ret (pe_callB (call_max2 rfl) (by rfl) B.max (by decide +kernel) (pa_cons (pv 1) (pa_cons (pe_op op_sub (pv 2) (pv 4)) pa_nil))))) pss_nil) <|
    pss_one (ps_ret (pe_op op_add (pv 1) (pe_call G2 hr rfl mG2 kG2 bG2 .nil pass0 (pa_cons (pv 0) (pa_cons (pe_op op_sub (pv 2) (pv 1)) pa_nil))))), ?_⟩
  refine ⟨_, rfl, p, c, n, _, rfl, pen, by omega, by decide, by decide, fun v1 H1 a1 a2 pen1 sb1 => ?_⟩
  refine ⟨_, rfl, p, c, n + 1, _, rfl, pen1, by omega, by decide, by decide, fun v2 H2 a3 a4 pen2 sb2 => ?_⟩
  have sb := sb1.trans sb2
  refine ⟨_, _, rfl, _, rfl, _, _, rfl, rfl, _, rfl, ?_⟩
  refine ite2 (fun _ => ?_) (fun _ => ?_)
  · refine ⟨_, rfl, _, rfl, _, rfl, _, _, rfl, rfl, _, _, rfl, ?_⟩
    exact k _ _ (by split <;> omega) (by split <;> omega) (pen2.mono (by omega)) sb
  refine ⟨_, rfl, _, _, rfl, rfl, _, rfl, ?_⟩
  refine ite2 (fun _ => ?_) (fun _ => ?_)
  · refine ⟨_, rfl, _, rfl, _, rfl, _, _, rfl, rfl, _, _, rfl, ?_⟩
    exact k _ _ (by split <;> omega) (by split <;> omega) (pen2.mono (by omega)) sb
  refine ⟨_, rfl, _, rfl, _, rfl, _, rfl, _, _, rfl, rfl, p, c, n + 1 + 1, _, rfl, pen2, by omega, by omega, fun v3 H3 a5 a6 pen3 sb3 => ?_⟩
  exact ⟨_, _, rfl, rfl, k _ _ (by omega) (by omega) (pen3.mono (by omega)) (sb.trans sb3)⟩
theorem scPriceL : FnScope ["_law_pen_here"] ["_law_pen_here"] (defScope sPriceL) := ⟨rfl, rfl, rfl, by decide +kernel, rfl, by decide +kernel, by decide +kernel⟩
theorem ok_priceL {f g g2 : Addr} {fd gd gd2 : FuncData} (F : Fun K "_law_price" "_law_price" sPriceL f fd) (G : FnOk P w K mg base CX0 1 g gd ["_law_pen_here", "_law_many"] spDrawC) (bG : Binds K gd ["_law_pen_here", "_law_many"] []) (kG : PySem.W.keepIn K (.ref g) = true) (mG : mg "_law_draw" = some (.ref g))
    (G2 : FnOk P w K mg base CX0 2 g2 gd2 ["_law_pen_here", "_law_some"] spPick) (bG2 : Binds K gd2 ["_law_pen_here", "_law_some"] []) (kG2 : PySem.W.keepIn K (.ref g2) = true) (mG2 : mg "_law_pick" = some (.ref g2)) :
    FnOk P w K mg base CX0 3 f fd ["_law_pen_here"] spPriceL := by
  refine F.ok scPriceL (fun vs H Q E h => ?_) (fun cdv A outer s H vs Q E hr h => ?_)
  · obtain ⟨p, c, n, rfl, _⟩ := h
    rfl
  obtain ⟨p, c, n, rfl, pen, hn, k⟩ := h
  have hr1 : Room 1 _ := hr.mono (by decide)
  refine ⟨_, pss_one (ps_ret (pe_call G2 hr rfl mG2 kG2 bG2 .nil pass0 (pa_cons (pv 0) (pa_cons (pe_lst (pa_cons pe_int (pa_cons pe_int (pa_cons (pe_op op_add pe_int (pe_call G hr1 rfl mG kG bG .nil pass0 (pa_cons (pv 0) (pa_cons pe_int pa_nil))))
    (pa_cons (pe_op op_add pe_int (pe_call G hr1 rfl mG kG bG .nil pass0 (pa_cons (pv 0) (pa_cons (pd_pow pe_int pe_int) pa_nil)))) (pa_cons (pd_pow pe_int pe_int) pa_nil)))))) pa_nil)))), ?_⟩
  refine ⟨_, rfl, _, rfl, p, c, n, _, rfl, pen, by omega, by decide, by decide, fun v1 H1 a1 a2 pen1 sb1 => ?_⟩
  refine ⟨_, _, rfl, rfl, _, rfl, p, c, n + 1, _, rfl, pen1, by omega, by rw [e6]; decide, by rw [e6]; decide, fun v2 H2 a3 a4 pen2 sb2 => ?_⟩
  rw [e6] at a4
  refine ⟨_, _, rfl, rfl, by show 5 ≤ sizeLine; decide, fun l hl => ?_⟩
  refine .inl ⟨p, c, l, n + 1 + 1, _, rfl, pen2.same (sameNew hl _), by omega, upd_same, by simp, by simp, fun x H' hx pen' sb' => ?_⟩
  have sb := (sb1.trans sb2).trans ((Sb.same (sameNew hl _)).trans sb')
  rw [e6] at hx
  have kk : ∀ v : Int, 1 ≤ v → v ≤ 1000000 → Q (.int v) H' := fun v q1 q2 => k v H' q1 q2 (pen'.mono (by omega)) sb
  simp only [List.mem_cons, List.not_mem_nil, or_false] at hx
  rcases hx with rfl | rfl | rfl | rfl | rfl
  · exact kk 1 (by decide) (by decide)
  · exact kk 1 (by decide) (by decide)
  · exact kk _ (by omega) (by omega)
  · exact kk _ (by omega) (by omega)
  · exact kk _ (by decide) (by decide)
theorem scShuf : FnScope ["_law_pen_here", "_law_some", "_law_left", "_law_lot"] ["_law_pen_here", "_law_some"] (defScope sShuf) := ⟨rfl, rfl, rfl, by decide +kernel, rfl, by decide +kernel, by decide +kernel⟩
theorem ok_shuf {f g : Addr} {fd gd : FuncData} (F : Fun K "_law_shuffled" "_law_shuffled" sShuf f fd) (G : FnOk P w K mg base CX0 1 g gd ["_law_pen_here", "_law_many"] spDrawC) (bG : Binds K gd ["_law_pen_here", "_law_many"] []) (kG : PySem.W.keepIn K (.ref g) = true) (mG : mg "_law_draw" = some (.ref g)) (B : Blt mg) :
    FnOk P w K mg base CX0 2 f fd ["_law_pen_here", "_law_some"] spShuf := by
  refine F.ok scShuf (fun vs H Q E h => ?_) (fun cdv A outer s H vs Q E hr h => ?_)
  · obtain ⟨p, c, a, n, ss, rfl, _⟩ := h
    rfl
  obtain ⟨p, c, a, n, ss, rfl, pen, hn, ha, hl, k⟩ := h
  have hu0 := hr.units0
  refine ⟨_, pss_cons (ps_par (i := 2) (j := 3) (by rfl) scShuf.nd rfl rfl (by decide) rfl rfl (pa_cons (pe_callTy call_list_of (by rfl) B.list (by decide +kernel) (pa_cons (pv 1) pa_nil)) (pa_cons (pe_lst pa_nil) pa_nil)) (by rfl)) <|
    pss_cons (ps_while PassesOwn.never (pt_cmpR (op_neNil hu0) (pv 2) (pe_lst pa_nil) (nomark _))
      (pss_one (ps_expr (pe_bm PySem.F.plainAttrs_list PySem.F.slot_list_append PySem.F.type_list_append mt_append (pv 3) (pa_cons (pe_bm PySem.F.plainAttrs_list PySem.F.slot_list_pop PySem.F.type_list_pop mt_popAt (pv 2) (pa_cons (pe_call G hr rfl mG kG bG .nil pass0 (pa_cons (pv 0) (pa_cons (pe_callB call_len_seq (by rfl) B.len PySem.boot_len (pa_cons (pv 2) pa_nil)) pa_nil))) pa_nil)) pa_nil))))) <|
    pss_one (ps_ret (pv 3)), ?_⟩
  refine ⟨_, rfl, a, _, rfl, .inl (SqL.of ha), fun l hl' => ?_⟩
  refine ⟨by show 0 ≤ sizeLine; decide, fun o ho => ?_⟩
  refine ⟨_, _, rfl, ?_⟩
  have lp := pen.newp hl'
  have lc := pen.newc hl'
  have pen1 := pen.same (sameNew hl' (.lst (ss.map V.str)))
  have op := pen1.newp ho
  have oc := pen1.newc ho
  have lo : l ≠ o := ne_of_none upd_same ho
  have ho0 : H o = none := by rw [upd_ne lo.symm] at ho; exact ho
  have sb0 : Sb p H (L2.upd (L2.upd H l (.lst (ss.map V.str))) o (.lst [])) := ((Sb.refl p H).new hl' lp _).new ho0 op _
  refine ⟨fun m σ2 H2 => ∃ ls os : List Str, σ2 = [some (.ref p), some (.ref a), some (.ref l), some (.ref o)] ∧ H2 l = some (.lst (ls.map V.str)) ∧ H2 o = some (.lst (os.map V.str)) ∧ ls.length = m ∧ os.length + m = ss.length ∧ (∀ z ∈ ls, z ∈ ss) ∧ (∀ z ∈ os, z ∈ ss) ∧ (os ++ ls).Perm ss ∧ PenC H2 p c (n + os.length) ∧ Sb p H H2,
    ⟨ss.length, ss, [], rfl, by rw [upd_ne lo]; exact upd_same, upd_same, rfl, by simp, fun _ h => h, fun _ h => absurd h (by simp), by simp, by simpa using pen1.same (sameNew ho _), sb0⟩, ?_⟩
  rintro m σ2 H2 ⟨ls, os, rfl, hls, hos, em, eo, al1, al2, pm, pen2, sb2⟩
  refine ⟨_, rfl, by show 0 ≤ sizeLine; decide, fun e he => ?_⟩
  have se := sameNew he (.lst [])
  refine ⟨l, e, _, rfl, rfl, SqL.of (se _ _ hls), SqL.of upd_same, _, rfl, ?_⟩
  have sb3 := sb2.trans (Sb.same se)
  have pen3 := pen2.same se
  generalize L2.upd H2 e (.lst []) = H3 at se sb3 pen3 ⊢
  cases ls with
  | nil =>
    have e0 : os.length = ss.length := by simp at em; omega
    exact iteF ⟨_, rfl, k o os H3 (pen3.mono (by omega)) sb3 ho0 (se _ _ hos) e0 al2 (by simpa using pm)⟩
  | cons z ls =>
    refine iteT ⟨fun σ' H' => ∃ ls os : List Str, σ' = [some (.ref p), some (.ref a), some (.ref l), some (.ref o)] ∧ H' l = some (.lst (ls.map V.str)) ∧ H' o = some (.lst (os.map V.str)) ∧ ls.length = m - 1 ∧ os.length + (m - 1) = ss.length ∧ (∀ z ∈ ls, z ∈ ss) ∧ (∀ z ∈ os, z ∈ ss) ∧ (os ++ ls).Perm ss ∧ PenC H' p c (n + os.length) ∧ Sb p H H', fun σ' H' q => ⟨m - 1, by simp at em; omega, q⟩, ?_⟩
    generalize hzl : z :: ls = zl at em hls al1 pm
    have hm : 1 ≤ m := by rw [← em, ← hzl]; simp
    have hlz : ((zl.map V.str).length : Nat) = m := by rw [List.length_map]; exact em
    refine ⟨_, rfl, .inl ⟨rfl, _, SqL.of (se _ _ hos)⟩, _, rfl, .inl ⟨rfl, _, SqL.of (se _ _ hls)⟩, _, rfl, _, rfl, l, _, rfl, .inl (SqL.of (se _ _ hls)), p, c, n + os.length, _, rfl, pen3, by omega, by omega, by omega, fun v H4 v0 v1 pen4 sb4 => ?_⟩
    have hv : v.toNat < zl.length := by omega
    have ev : v = ((v.toNat : Nat) : Int) := by omega
    refine ⟨l, zl.map V.str, v, v.toNat, .str zl[v.toNat], rfl, rfl, sb4.to lp (se _ _ hls), by omega, by omega, ?_, ?_, ?_⟩
    · rw [hlz]
      exact seqIx v0 (by omega)
    · rw [List.getElem?_map, List.getElem?_eq_getElem hv]
      rfl
    · refine ⟨o, _, _, rfl, rfl, by rw [upd_ne lo.symm]; exact sb4.to op (se _ _ hos), by rw [List.length_map]; exact small1000 (by omega), ?_⟩
      have mem : zl[v.toNat] ∈ ss := al1 _ (List.getElem_mem hv)
      refine ⟨zl.eraseIdx v.toNat, os ++ [zl[v.toNat]], rfl, ?_, ?_, ?_, ?_, ?_, ?_, ?_, ?_, ?_⟩
      · rw [upd_ne lo, upd_same, erase_map]
      · rw [upd_same, List.map_append]
        rfl
      · rw [List.length_eraseIdx_of_lt hv, em]
      · rw [List.length_append]
        show os.length + 1 + (m - 1) = ss.length
        omega
      · exact fun y hy => al1 y (List.mem_of_mem_eraseIdx hy)
      · intro y hy
        rcases List.mem_append.mp hy with hy | hy
        · exact al2 y hy
        · rw [List.mem_singleton.mp hy]
          exact mem
      · refine List.Perm.trans ?_ pm
        rw [List.append_assoc]
        exact (perm_erase hv).append_left os
      · have e1 : n + ((os ++ [zl[v.toNat]]).length : Int) = n + os.length + 1 := by simp; omega
        rw [e1]
        exact (pen4.upd lp lc _).upd op oc _
      · exact ((sb3.trans sb4).new hl' lp _).new ho0 op _
end
end Pk
namespace Pk
open PySem L2
/-- a name by form: few signs, each a letter -/
def nmOk (z : Str) : Prop := z.length ≤ 30 ∧ ∀ c ∈ z.cps.toList, smallC c = true
theorem len_cps (z : Str) : z.cps.toList.length = z.length := Array.length_toList
theorem cps_app (a b : Str) : (a ++ b).cps.toList = a.cps.toList ++ b.cps.toList := by
  show (a.cps ++ b.cps).toList = _
  rw [Array.toList_append]
theorem join_cps {e : Str} (he : e.cps.toList = []) : ∀ ys : List Str, (Str.join e ys).cps.toList = (ys.map fun y => y.cps.toList).flatten
  | [] => rfl
  | [x] => by simp [Str.join]
  | x :: y :: r => by
    show (x ++ e ++ Str.join e (y :: r)).cps.toList = _
    rw [cps_app, cps_app, he, join_cps he (y :: r)]
    simp
theorem join_signs (cs : List Nat) : (Txt.join ("" : Str) (cs.map fun c => (⟨#[c]⟩ : Str))).cps.toList = cs := by
  unfold Txt.join
  rw [StrLaws.glued_eq_join, join_cps rfl, List.map_map]
  induction cs with
  | nil => rfl
  | cons c cs ih => simpa using ih
theorem cutS_cps (z : Str) (lo hi : Option Int) : (cutS z lo hi).cps.toList = (z.cps.toList.drop (HT.sIx z.length 0 lo)).take (HT.sIx z.length z.length hi - HT.sIx z.length 0 lo) := by
  unfold cutS
  simp
theorem cutS_mem {z : Str} {lo hi : Option Int} {c : Nat} (h : c ∈ (cutS z lo hi).cps.toList) : c ∈ z.cps.toList := by
  rw [cutS_cps] at h
  exact List.mem_of_mem_drop (List.mem_of_mem_take h)
theorem cutS_len (z : Str) (lo hi : Option Int) : (cutS z lo hi).length ≤ z.length := by
  rw [← len_cps, cutS_cps, ← len_cps z]
  simp only [List.length_take, List.length_drop]
  omega
theorem app_len (a b : Str) : (a ++ b).length = a.length + b.length := by
  rw [← len_cps, cps_app, List.length_append, len_cps, len_cps]
theorem cut_from {xs : List V} {i : Nat} (h : i ≤ xs.length) : cutV xs (some (i : Int)) none = xs.drop i := by
  unfold cutV
  rw [HT.sIx_none, HT.sIx_nat, Nat.min_eq_left h, List.take_of_length_le (by simp)]
theorem cut_to {xs : List V} {i : Nat} (h : i ≤ xs.length) : cutV xs none (some (i : Int)) = xs.take i := by
  unfold cutV
  rw [HT.sIx_none, HT.sIx_nat, Nat.min_eq_left h, List.drop_zero, Nat.sub_zero]
theorem sum_signs : ∀ cs : List Nat, ((cs.map fun x => (⟨#[x]⟩ : Str)).map (·.length)).sum = cs.length
  | [] => rfl
  | c :: cs => by
    simp only [List.map_cons, List.sum_cons, List.length_cons, sum_signs cs]
    show 1 + cs.length = _
    omega
def wordsL : List Str := ["dial", "off", "most", "least", "one", "both", "up", "down", "house", "turn", "meet", "run"]
theorem words_ok : ∀ z ∈ wordsL, nmOk z := by
  have h : ∀ z ∈ wordsL, z.length ≤ 30 ∧ z.cps.toList.all smallC = true := by decide +kernel
  exact fun z hz => ⟨(h z hz).1, fun c hc => List.all_eq_true.mp (h z hz).2 c hc⟩
theorem words_len : ∀ z ∈ wordsL, 1 ≤ z.length ∧ z.length ≤ 8 := by decide +kernel
theorem words_nd : ∀ v < 12, ∀ m < 13, ((wordsL.drop v ++ wordsL).take m).Nodup := by decide +kernel
theorem cutS_to (z : Str) (i : Nat) : (cutS z none (some (i : Int))).cps.toList = z.cps.toList.take (min i z.length) := by
  rw [cutS_cps, HT.sIx_none, HT.sIx_nat, List.drop_zero, Nat.sub_zero]
theorem cutS_from_len (z : Str) (i : Nat) : (cutS z (some (i : Int)) none).length ≤ z.length - i := by
  rw [← len_cps, cutS_cps, HT.sIx_none, HT.sIx_nat]
  simp only [List.length_take, List.length_drop, len_cps]
  omega
theorem letters_ok : ∀ c ∈ letters.cps.toList, smallC c = true := fun c hc => by rw [← in_letters, decide_eq_true hc]
theorem letters_len : letters.length = 26 := by decide +kernel
def spNames : Sp := fun vs H Q _ => ∃ (p c : Addr) (n : Int) (m : Nat), vs = [.ref p, .int (m : Nat)] ∧ PenC H p c n ∧ n ≤ 400000000 ∧ 1 ≤ m ∧ m ≤ 12 ∧
  ∀ (l : Addr) (ss : List Str) (H' : Hp), PenC H' p c (n + 30) → Sb p H H' → H l = none → H' l = some (.lst (ss.map V.str)) → ss.length = m → (∀ z ∈ ss, nmOk z) → (∀ z ∈ ss, 1 ≤ z.length ∧ z.length ≤ 8) → ss.Nodup → Q (.ref l) H'
abbrev nNames : List Str := ["_law_pen_here", "_law_many", "_law_words", "_law_turn", "_law_letters", "_law_base", "_law_k", "_law_at", "_law_first", "_law_cut", "_law_by", "_law_lot", "_law_tail"]
section
variable {P : Program} {w : World} {K : PySem.W.Frag} {mg : Str → Option Value} {base : Heap}
theorem scNames : FnScope nNames ["_law_pen_here", "_law_many"] (defScope sNames) := ⟨rfl, rfl, rfl, by decide +kernel, rfl, by decide +kernel, by decide +kernel⟩
set_option maxHeartbeats 1000000 in
theorem ok_names {f g g2 : Addr} {fd gd gd2 : FuncData} (F : Fun K "_law_names" "_law_names" sNames f fd) (G : FnOk P w K mg base CX0 1 g gd ["_law_pen_here", "_law_many"] spDrawC) (bG : Binds K gd ["_law_pen_here", "_law_many"] []) (kG : PySem.W.keepIn K (.ref g) = true) (mG : mg "_law_draw" = some (.ref g))
    (G2 : FnOk P w K mg base CX0 2 g2 gd2 ["_law_pen_here", "_law_some"] spPick) (bG2 : Binds K gd2 ["_law_pen_here", "_law_some"] []) (kG2 : PySem.W.keepIn K (.ref g2) = true) (mG2 : mg "_law_pick" = some (.ref g2)) (B : Blt mg) :
    FnOk P w K mg base CX0 3 f fd ["_law_pen_here", "_law_many"] spNames := by
  refine F.ok scNames (fun vs H Q E h => ?_) (fun cdv A outer s H vs Q E hr h => ?_)
  · obtain ⟨p, c, n, m, rfl, _⟩ := h
    rfl
  obtain ⟨p, c, n, m, rfl, pen, hn, m1, m2, k⟩ := h
  have hr1 : Room 1 _ := hr.mono (by decide)
  refine ⟨_, pss_cons (ps_set (i := 2) scNames.nd rfl (.inl rfl) (pe_lst (pa_cons pe_str <| pa_cons pe_str <| pa_cons pe_str <| pa_cons pe_str <| pa_cons pe_str <| pa_cons pe_str <| pa_cons pe_str <| pa_cons pe_str <| pa_cons pe_str <| pa_cons pe_str <| pa_cons pe_str <| pa_cons pe_str pa_nil))) <|
    pss_cons (ps_if (pt_cmpR op_eq (pe_call G hr1 rfl mG kG bG .nil pass0 (pa_cons (pv 0) (pa_cons pe_int pa_nil))) pe_int (nomark _))
      (pss_cons (ps_set (i := 3) scNames.nd rfl (.inl rfl) (pe_call G hr1 rfl mG kG bG .nil pass0 (pa_cons (pv 0) (pa_cons pe_int pa_nil))))
      (pss_one (ps_ret (pe_slice sl_list (pe_op op_cat (pe_slice sl_list (pv 2) (po_some (pv 3)) po_none) (pv 2)) po_none (po_some (pv 1)))))) pss_nil) <|
    pss_cons (ps_set (i := 4) scNames.nd rfl (.inr rfl) pe_str) <|
    pss_cons (ps_set (i := 5) scNames.nd rfl (.inl rfl) (pe_join pe_str (pe_lc (own := [("_law_k", 6)]) (g := gName 6) (by rfl) scNames.nd (pi_range1 (by rfl) B.range (pa_cons (pe_op op_add pe_int (pe_call G hr1 rfl mG kG bG .nil pass0 (pa_cons (pv 0) (pa_cons pe_int pa_nil)))) pa_nil)) (blkOk_by (N := nNames) (sc := defScope sNames) (by decide +kernel)) (fun _ _ _ _ _ => pg_name (i := 6) scNames.nd rfl (Or.inl rfl)) (fun _ _ _ _ _ => pts_nil) (fun _ _ _ _ _ => pe_call G2 hr rfl mG2 kG2 bG2 .nil pass0 (pa_cons (pv 0) (pa_cons (pv 4) pa_nil)))))) <|
    pss_cons (ps_par3 (i := 7) (j := 8) (l := 9) (by rfl) scNames.nd rfl rfl rfl (by decide) (by decide) (by decide) rfl rfl rfl (pa_cons (pe_call G hr1 rfl mG kG bG .nil pass0 (pa_cons (pv 0) (pa_cons (pe_callB call_len_str (by rfl) B.len PySem.boot_len (pa_cons (pv 5) pa_nil)) pa_nil))) (pa_cons (pe_call G hr1 rfl mG kG bG .nil pass0 (pa_cons (pv 0) (pa_cons pe_int pa_nil))) (pa_cons (pe_call G hr1 rfl mG kG bG .nil pass0 (pa_cons (pv 0) (pa_cons pe_int pa_nil))) pa_nil))) (by rfl)) <|
    pss_cons (ps_par (i := 10) (j := 11) (by rfl) scNames.nd rfl rfl (by decide) rfl rfl (pa_cons (pe_call G2 hr rfl mG2 kG2 bG2 .nil pass0 (pa_cons (pv 0) (pa_cons (pe_lst (pa_cons pe_int <| pa_cons pe_int <| pa_cons pe_int <| pa_cons pe_int <| pa_cons pe_int <| pa_cons pe_int <| pa_cons pe_int <| pa_cons pe_int <| pa_cons pe_int <| pa_cons pe_int <| pa_cons pe_int <| pa_cons pe_int pa_nil)) pa_nil))) (pa_cons (pe_lst pa_nil) pa_nil)) (by rfl)) <|
    pss_cons (ps_for PassesOwn.never rfl (pi_range1 rfl B.range (pa_cons (pv 1) pa_nil)) (pg_name (i := 6) scNames.nd rfl (.inl rfl))
      (pss_cons (ps_set (i := 12) scNames.nd rfl (.inl rfl) (pe_slice sl_str (pe_slice sl_str (pv 5) (po_some (pe_op op_add (pv 7) pe_int)) po_none) po_none (po_some (pe_ix ix_list (pe_lst (pa_cons pe_int (pa_cons (pe_op op_mod (pv 6) pe_int) pa_nil))) (pv 9) (fun _ _ => rfl)))))
      (pss_one (ps_expr (pe_bm PySem.F.plainAttrs_list PySem.F.slot_list_append PySem.F.type_list_append mt_append (pv 11) (pa_cons (pe_op op_add_str (pe_op op_add_str (pe_slice sl_str (pv 5) po_none (po_some (pv 7))) (pe_ix ix_str (pv 4) (pe_op op_mod (pe_op op_add (pv 8) (pe_op op_mul (pv 10) (pv 6))) pe_int) (fun _ _ => rfl))) (pv 12)) pa_nil)))))) <|
    pss_cons (ps_if (PW.pt (pw_and (pt_cmpR op_gt (pv 7) pe_int (nomark _)) (pw_and (pt_cmpR op_gt (pv 1) pe_int (nomark _)) (pw_and1 (pt_cmpR op_eq (pe_call G hr1 rfl mG kG bG .nil pass0 (pa_cons (pv 0) (pa_cons pe_int pa_nil))) pe_int (nomark _))))))
      (pss_one (ps_asg (pe_slice sl_str (pv 5) po_none (po_some (pv 7))) (pg_sub (pv 11) (pe_call G hr1 rfl mG kG bG .nil pass0 (pa_cons (pv 0) (pa_cons (pv 1) pa_nil))) set_list))) pss_nil) <|
    pss_one (ps_ret (pv 11)), ?_⟩
  refine ⟨by show 12 ≤ sizeLine; decide, fun a1 n1 => ?_⟩
  have s1 := sameNew n1 (.lst (wordsL.map V.str))
  have pen1 := pen.same s1
  refine ⟨_, rfl, p, c, n, _, rfl, pen1, by omega, by decide, by decide, fun v2 H2 a2 a3 pen2 sb2' => ?_⟩
  have a1p := pen.newp n1
  have a1c := pen.newc n1
  have sb2 : Sb p H H2 := (Sb.same s1).trans sb2'
  have h1 : H2 a1 = some (.lst (wordsL.map V.str)) := sb2'.to a1p upd_same
  clear sb2' pen1
  refine ⟨rfl, _, rfl, ?_⟩
  refine ite2 (fun _ => ?_) (fun _ => ?_)
  · refine ⟨_, rfl, p, c, n + 1, _, rfl, pen2, by omega, by decide, by decide, fun v3 H3 b0 b1 pen3 sb3' => ?_⟩
    have h1' := sb3'.to a1p h1
    have sb3 := sb2.trans sb3'
    have ev : v3 = ((v3.toNat : Nat) : Int) := by omega
    have l12 : wordsL.length = 12 := rfl
    have lw : (wordsL.map V.str).length = 12 := rfl
    refine ⟨_, rfl, _, rfl, v3, rfl, a1, _, rfl, SqL.of h1', fun q nq => ?_⟩
    rw [ev, cut_from (by omega)]
    have sq := sameNew nq (.lst ((wordsL.map V.str).drop v3.toNat))
    refine ⟨_, rfl, q, a1, _, _, rfl, rfl, upd_same, sq _ _ h1', small (by simp only [List.length_drop, lw]; omega), fun r nr => ?_⟩
    have sr := sameNew nr (.lst ((wordsL.map V.str).drop v3.toNat ++ wordsL.map V.str))
    refine ⟨_, rfl, _, rfl, r, _, rfl, SqL.of upd_same, fun l nl => ?_⟩
    rw [cut_to (by simp only [List.length_append, List.length_drop, lw]; omega)]
    have sl := sameNew nl (.lst (((wordsL.map V.str).drop v3.toNat ++ wordsL.map V.str).take m))
    have sA := sq.trans (sr.trans sl)
    have e2 : ((wordsL.map V.str).drop v3.toNat ++ wordsL.map V.str).take m = ((wordsL.drop v3.toNat ++ wordsL).take m).map V.str := by simp only [List.map_take, List.map_append, List.map_drop]
    have nl3 : H3 l = none := (sq.trans sr).free nl
    have hq3 : H l = none := sb3.free (pen3.newp nl3) nl3
    refine k l ((wordsL.drop v3.toNat ++ wordsL).take m) _ ((pen3.same sA).mono (by omega)) (sb3.trans (Sb.same sA)) hq3 (by rw [upd_same, e2]) (by simp only [List.length_take, List.length_append, List.length_drop, l12]; omega) (fun z hz => ?_) (fun z hz => ?_) (words_nd _ (by omega) m (by omega))
    · rcases List.mem_append.mp (List.mem_of_mem_take hz) with hz | hz
      · exact words_ok z (List.mem_of_mem_drop hz)
      · exact words_ok z hz
    · rcases List.mem_append.mp (List.mem_of_mem_take hz) with hz | hz
      · exact words_len z (List.mem_of_mem_drop hz)
      · exact words_len z hz
  refine ⟨⟨_, rfl⟩, _, rfl, p, c, n + 1, _, rfl, pen2, by omega, by decide, by decide, fun v3 H3 b0 b1 pen3 sb3' => ?_⟩
  have sb3 := sb2.trans sb3'
  refine ⟨_, _, rfl, rfl, _, rfl, by omega, by omega, fun D hD => lc_range (lo := 0) (n := (1 + v3).toNat) (fun i H4 => ∃ cs : List Nat, H4 D = some (.lst ((cs.map fun x => (⟨#[x]⟩ : Str)).map V.str)) ∧ cs.length = i ∧ (∀ x ∈ cs, smallC x = true) ∧ PenC H4 p c (n + 2 + i) ∧ Sb p H3 H4)
    ⟨[], upd_same, rfl, fun _ h => absurd h (by simp), (pen3.same (sameNew hD _)).mono (by omega), Sb.same (sameNew hD _)⟩ ?_ ?_⟩
  · rintro i H4 hi ⟨cs, e1, e2, e3, pen4, sb4⟩
    have Dp := pen3.newp hD
    have Dc := pen3.newc hD
    refine ⟨rfl, _, rfl, _, rfl, .inr ⟨p, c, n + 2 + i, letters, rfl, pen4, by omega, by rw [letters_len]; decide, by rw [letters_len]; decide, fun x H5 hx pen5 sb5 => ?_⟩⟩
    refine ⟨_, sb5.to Dp e1, small1000 (by simp only [List.length_map]; omega), cs ++ [x], ?_, by simp [e2], fun y hy => ?_, ?_, ?_⟩
    · rw [upd_same, List.map_append, List.map_append]
      rfl
    · rcases List.mem_append.mp hy with hy | hy
      · exact e3 y hy
      · rw [List.mem_singleton.mp hy]
        exact letters_ok x hx
    · exact (pen5.upd Dp Dc _).mono (by omega)
    · exact (sb4.trans sb5).new hD Dp _
  rintro H4 ⟨cs, e1, e2, e3, pen4, sb4'⟩
  have sb4 := sb3.trans sb4'
  have hcl : cs.length ≤ 8 ∧ 1 ≤ cs.length := by omega
  refine ⟨_, D, cs.map fun x => (⟨#[x]⟩ : Str), rfl, rfl, .inl (SqL.of e1), ?_, ?_⟩
  · rw [sum_signs, List.length_map]
    show cs.length + cs.length * 0 ≤ _
    omega
  have hzb := join_signs cs
  generalize Txt.join (Str.ofString "") (cs.map fun x => (⟨#[x]⟩ : Str)) = zb at hzb ⊢
  have hzl : zb.length = cs.length := by rw [← len_cps, hzb]
  have hzc : ∀ x ∈ zb.cps.toList, smallC x = true := by rw [hzb]; exact e3
  have hz9 : zb.length ≤ sizeLine := small (by omega)
  clear e1 hzb
  refine ⟨_, rfl, _, rfl, zb, rfl, hz9, p, c, _, _, rfl, pen4, by omega, by omega, by omega, fun at_ H5 b2 b3 pen5 sb5 => ?_⟩
  refine ⟨_, rfl, p, c, _, _, rfl, pen5, by omega, by decide, by decide, fun fi H6 b4 b5 pen6 sb6 => ?_⟩
  refine ⟨_, rfl, p, c, _, _, rfl, pen6, by omega, by decide, by decide, fun cu H7 b6 b7 pen7 sb7 => ?_⟩
  have sB := sb4.trans (sb5.trans (sb6.trans sb7))
  refine ⟨_, _, _, rfl, _, rfl, by show 12 ≤ sizeLine; decide, fun e he => ?_⟩
  refine .inl ⟨p, c, e, _, _, rfl, pen7.same (sameNew he _), by omega, upd_same, by simp, by simp, fun x H8 hx pen8 sb8 => ?_⟩
  have sC := sB.trans ((Sb.same (sameNew he _)).trans sb8)
  obtain ⟨by_, rfl, b8, b9, b10⟩ : ∃ b : Int, x = .int b ∧ 1 ≤ b ∧ b ≤ 25 ∧ b ∈ byL := by
    simp only [List.mem_cons, List.not_mem_nil, or_false] at hx
    rcases hx with rfl | rfl | rfl | rfl | rfl | rfl | rfl | rfl | rfl | rfl | rfl | rfl <;> exact ⟨_, rfl, by decide, by decide, by decide⟩
  refine ⟨by show 0 ≤ sizeLine; decide, fun o ho => ?_⟩
  have op := pen8.newp ho
  have oc := pen8.newc ho
  have hoH : H o = none := sC.free op ho
  have pen9 := pen8.same (sameNew ho (.lst []))
  generalize hN : n + 2 + (((1 + v3).toNat : Nat) : Int) + 1 + 1 + 1 + 1 = N at pen8 pen9
  refine ⟨_, _, rfl, _, rfl, _, rfl, by omega, by omega, ?_⟩
  rw [Int.toNat_natCast]
  refine for_range (n := m) (fun i σ H9 => ∃ (v6 v12 : Option V) (ss : List Str), σ = [some (.ref p), some (.int (m : Nat)), some (.ref a1), none, some (.str letters), some (.str zb), v6, some (.int at_), some (.int fi), some (.int cu), some (.int by_), some (.ref o), v12] ∧ H9 o = some (.lst (ss.map V.str)) ∧ ss.length = i ∧ (∀ z ∈ ss, nmOk z) ∧ (∀ j z, ss[j]? = some z → ∃ tl, z.cps.toList = zb.cps.toList.take at_.toNat ++ (97 + ((fi + by_ * ((j : Nat) : Int)) % 26).toNat) :: tl) ∧ (∀ z ∈ ss, 1 ≤ z.length ∧ z.length ≤ 8) ∧ PenC H9 p c N ∧ Sb p H H9)
    ⟨none, none, [], rfl, upd_same, rfl, fun _ h => absurd h (by simp), fun _ _ h => absurd h (by simp), fun _ h => absurd h (by simp), pen9, sC.trans (Sb.same (sameNew ho _))⟩ ?_ ?_
  · rintro i σ H9 hi ⟨v6, v12, ss, rfl, e1, e2, e3, eA, eB, pen10, sb10⟩
    rw [Int.zero_add]
    refine ⟨_, rfl, _, rfl, _, _, rfl, rfl, _, rfl, zb, rfl, hz9, _, rfl, _, _, rfl, rfl, (by show (0 : Int) < 3; decide), by show 2 ≤ sizeLine; decide, fun e he => ?_⟩
    have se := sameNew he (.lst [.int 8, .int (((i : Nat) : Int) % 3)])
    obtain ⟨w', hw⟩ : ∃ w : Int, atI [V.int 8, V.int (((i : Nat) : Int) % 3)] cu = some (.int w) := by
      rcases (show cu = 0 ∨ cu = 1 by omega) with rfl | rfl
      · exact ⟨_, rfl⟩
      · exact ⟨_, rfl⟩
    refine ⟨_, rfl, e, _, _, _, rfl, rfl, SqL.of upd_same, hw, w', rfl, _, rfl, Nat.le_trans (cutS_len _ _ _) hz9, ?_⟩
    generalize htl : cutS (cutS zb (some (at_ + 1)) none) none (some w') = tl
    have htl1 : tl.length ≤ 8 := by rw [← htl]; exact Nat.le_trans (cutS_len _ _ _) (Nat.le_trans (cutS_len _ _ _) (by omega))
    have htl2 : ∀ x ∈ tl.cps.toList, smallC x = true := by rw [← htl]; exact fun x hx => hzc x (cutS_mem (cutS_mem hx))
    have at9 : at_ = ((at_.toNat : Nat) : Int) := by omega
    have htl3 : tl.length + at_.toNat + 1 ≤ 8 := by
      have q1 : tl.length ≤ (cutS zb (some (at_ + 1)) none).length := by rw [← htl]; exact cutS_len _ _ _
      have q2 : (cutS zb (some (at_ + 1)) none).length ≤ zb.length - (at_.toNat + 1) := by
        have q := cutS_from_len zb (at_.toNat + 1)
        rw [show (((at_.toNat + 1 : Nat)) : Int) = at_ + 1 by omega] at q
        exact q
      omega
    obtain ⟨ch, hch, hch9⟩ : ∃ ch, atI letters.cps.toList ((fi + by_ * ((i : Nat) : Int)) % 26) = some ch ∧ ch = 97 + ((fi + by_ * ((i : Nat) : Int)) % 26).toNat := by
      have q0 := Int.emod_nonneg (fi + by_ * ((i : Nat) : Int)) (show (26 : Int) ≠ 0 by decide)
      have q1 := Int.emod_lt_of_pos (fi + by_ * ((i : Nat) : Int)) (show (0 : Int) < 26 by decide)
      generalize (fi + by_ * ((i : Nat) : Int)) % 26 = ix at q0 q1
      have hv : ix.toNat < letters.cps.toList.length := by rw [len_cps, letters_len]; omega
      have q : atI letters.cps.toList ((ix.toNat : Nat) : Int) = some letters.cps.toList[ix.toNat] := atI_nat (List.getElem?_eq_getElem hv)
      rw [show ((ix.toNat : Nat) : Int) = ix by omega] at q
      refine ⟨_, q, ?_⟩
      have q9 : ∀ (l : List Nat) (h : l = List.range' 97 26) (k : Nat) (hk : k < l.length), l[k] = 97 + k := fun l h k hk => by
        subst h
        simp
      exact q9 _ lettersL _ hv
    have hch2 : smallC ch = true := by
      have q : ch ∈ letters.cps.toList := by
        unfold atI at hch
        obtain ⟨j, _, hj⟩ := Option.bind_eq_some_iff.mp hch
        exact List.mem_of_getElem? hj
      exact letters_ok ch q
    refine ⟨_, rfl, .inl ⟨rfl, _, SqL.of (se _ _ e1)⟩, _, rfl, _, rfl, at_, rfl, zb, rfl, hz9, _, rfl, _, rfl, _, rfl, _, rfl, _, _, rfl, rfl, .inl ⟨by omega, by omega⟩, _, _, rfl, rfl, _, _, rfl, rfl, (by show (0 : Int) < 26; decide), letters, _, ch, rfl, rfl, by rw [letters_len]; decide, hch, ?_⟩
    have hc1 := cutS_len zb none (some at_)
    have hs9 := sizeLine_eq
    have h11 : (⟨#[ch]⟩ : Str).length = 1 := rfl
    refine ⟨_, _, rfl, rfl, by rw [h11]; omega, _, rfl, _, _, rfl, rfl, by rw [app_len, h11]; omega, ?_⟩
    refine ⟨o, _, _, rfl, rfl, se _ _ e1, by rw [List.length_map]; exact small1000 (by omega), ?_⟩
    refine ⟨_, _, ss ++ [cutS zb none (some at_) ++ ⟨#[ch]⟩ ++ tl], rfl, by rw [upd_same, List.map_append]; rfl, by simp [e2], fun z hz => ?_, fun j z hj => ?_, fun z hz => ?_, (pen10.same se).upd op oc _, (sb10.trans (Sb.same se)).new hoH op _⟩
    · rcases List.mem_append.mp hz with hz | hz
      · exact e3 z hz
      · rw [List.mem_singleton.mp hz]
        refine ⟨by rw [app_len, app_len, h11]; omega, fun x hx => ?_⟩
        rw [cps_app, cps_app] at hx
        rcases List.mem_append.mp hx with hx | hx
        · rcases List.mem_append.mp hx with hx | hx
          · exact hzc x (cutS_mem hx)
          · have : x = ch := by simpa using hx
            rw [this]
            exact hch2
        · exact htl2 x hx
    · by_cases hjl : j < ss.length
      · rw [List.getElem?_append_left hjl] at hj
        exact eA j z hj
      · have hjl' : j < (ss ++ [cutS zb none (some at_) ++ ⟨#[ch]⟩ ++ tl]).length := (List.getElem?_eq_some_iff.mp hj).1
        have ej : j = i := by simp at hjl'; omega
        subst ej
        rw [List.getElem?_append_right (by omega), e2, Nat.sub_self] at hj
        have ez : z = cutS zb none (some at_) ++ ⟨#[ch]⟩ ++ tl := by simpa using hj.symm
        refine ⟨tl.cps.toList, ?_⟩
        rw [ez, cps_app, cps_app, ← hch9]
        have q := cutS_to zb at_.toNat
        rw [← at9] at q
        rw [q, Nat.min_eq_left (by omega)]
        simp
    · rcases List.mem_append.mp hz with hz | hz
      · exact eB z hz
      · rw [List.mem_singleton.mp hz, app_len, app_len, h11]
        have q : (cutS zb none (some at_)).length ≤ at_.toNat := by
          have q := cutS_to zb at_.toNat
          rw [← at9] at q
          rw [← len_cps, q, List.length_take]
          omega
        omega
  rintro σ H9 ⟨v6, v12, ss, rfl, e1, e2, e3, eA, eB, pen10, sb10⟩
  have injc : ∀ i j, i < ss.length → j < ss.length → 97 + ((fi + by_ * ((i : Nat) : Int)) % 26).toNat = 97 + ((fi + by_ * ((j : Nat) : Int)) % 26).toNat → i = j := fun i j hi hj h => inj26 b10 (by omega) (by omega) h
  have ndA : ss.Nodup := nodup_at (c := fun j => 97 + ((fi + by_ * ((j : Nat) : Int)) % 26).toNat) eA injc
  have fin : Q (.ref o) H9 := k o ss H9 (pen10.mono (by omega)) sb10 hoH e1 e2 e3 eB ndA
  refine ⟨_, rfl, _, _, rfl, rfl, _, rfl, ?_⟩
  refine ite2 (fun c9 => ?_) (fun _ => ?_)
  rotate_left
  · exact ⟨_, rfl, fin⟩
  have c9 : 0 < at_ := by simpa using c9
  refine ⟨_, rfl, _, _, rfl, rfl, _, rfl, ?_⟩
  refine ite2 (fun _ => ?_) (fun _ => ?_)
  rotate_left
  · exact ⟨_, rfl, fin⟩
  refine ⟨_, rfl, p, c, N, _, rfl, pen10, by omega, by decide, by decide, fun v11 H11 c0 c1 pen11 sb11 => ?_⟩
  have e1' := sb11.to op e1
  have sb12 := sb10.trans sb11
  refine ⟨rfl, _, rfl, ?_⟩
  refine ite2 (fun _ => ?_) (fun _ => ?_)
  rotate_left
  · exact ⟨_, rfl, k o ss H11 (pen11.mono (by omega)) sb12 hoH e1' e2 e3 eB ndA⟩
  refine ⟨_, rfl, _, rfl, at_, rfl, zb, rfl, hz9, _, rfl, _, rfl, _, rfl, p, c, N + 1, _, rfl, pen11, by omega, by omega, by omega, fun v12 H12 c2 c3 pen12 sb13 => ?_⟩
  have e1'' := sb13.to op e1'
  refine ⟨o, _, _, v12.toNat, rfl, rfl, e1'', ?_, _, rfl, ?_⟩
  · unfold ixN
    rw [if_pos c2, if_pos (by rw [List.length_map]; omega)]
  have qat : (cutS zb none (some at_)).cps.toList = zb.cps.toList.take at_.toNat := by
    have q := cutS_to zb at_.toNat
    rw [show ((at_.toNat : Nat) : Int) = at_ by omega] at q
    rw [q, Nat.min_eq_left (by omega)]
  refine k o (ss.set v12.toNat (cutS zb none (some at_))) _ ((pen12.upd op oc _).mono (by omega)) ((sb12.trans sb13).new hoH op _) hoH (by rw [upd_same, List.map_set]) (by rw [List.length_set]; exact e2) (fun z hz => ?_) (fun z hz => ?_) (nodup_set (c := fun j => 97 + ((fi + by_ * ((j : Nat) : Int)) % 26).toNat) eA injc ?_)
  · rcases List.mem_or_eq_of_mem_set hz with hz | hz
    · exact e3 z hz
    · rw [hz]
      exact ⟨Nat.le_trans (cutS_len _ _ _) (by omega), fun x hx => hzc x (cutS_mem hx)⟩
  · rcases List.mem_or_eq_of_mem_set hz with hz | hz
    · exact eB z hz
    · rw [hz, ← len_cps, qat, List.length_take, len_cps]
      omega
  · exact qat
end
end Pk
namespace Pk
open PySem L2
def spDialL : Sp := fun vs H Q _ => ∃ (p c : Addr) (n wd : Int) (nm : Str), vs = [.ref p, .str nm, .int wd] ∧ 0 ≤ wd ∧ wd ≤ 100 ∧ PenC H p c n ∧ n ≤ 300000000 ∧
  ∀ (t : Addr) (lo hi up dn : Int) (way : Str) (H' : Hp), PenC H' p c (n + 40) → Sb p H H' → H t = none → H' t = some (.tup [.str nm, .int lo, .int hi, .str way, .int up, .int dn]) → -farS ≤ lo → lo ≤ hi → hi ≤ farS → way ∈ ways3 → 1 ≤ up → up ≤ 1000000 → 1 ≤ dn → dn ≤ 1000000 → Q (.ref t) H'
def spSayL : Sp := fun vs H Q _ => ∃ (p c a b : Addr) (n : Int) (ss : List Str) (is : List Int), vs = [.ref p, .ref a, .ref b] ∧ PenC H p c n ∧ n ≤ 300000000 ∧ H a = some (.lst (ss.map V.str)) ∧ 1 ≤ ss.length ∧ ss.length ≤ 40 ∧ H b = some (.lst (is.map V.int)) ∧ 1 ≤ is.length ∧ is.length ≤ 40 ∧ (∀ i ∈ is, -farS ≤ i ∧ i ≤ farS) ∧
  ∀ (t : Addr) (z so : Str) (i : Int) (H' : Hp), PenC H' p c (n + 20) → Sb p H H' → H t = none → H' t = some (.tup [.str z, .str so, .int i]) → z ∈ ss → so ∈ sorts2 → -greatS ≤ i → i ≤ greatS → Q (.ref t) H'
def kvOf (e : Str × Int) : Key × V := (Sum.inr e.1, .int e.2)
theorem val_kv {z : Str} : ∀ {es : List (Str × Int)}, z ∈ es.map (·.1) → ∃ i, (z, i) ∈ es ∧ valV (es.map kvOf) (Sum.inr z) = some (.int i)
  | [], h => absurd h (by simp)
  | (y, i) :: es, h => by
    by_cases e : y = z
    · subst e
      refine ⟨i, List.mem_cons_self, ?_⟩
      unfold valV
      rw [List.map_cons, List.find?_cons_of_pos (by simp [kvOf])]
      rfl
    · have h' : z ∈ es.map (·.1) := by
        rcases List.mem_cons.mp h with h | h
        · exact absurd h.symm e
        · exact h
      obtain ⟨j, h1, h2⟩ := val_kv h'
      refine ⟨j, List.mem_cons_of_mem _ h1, ?_⟩
      unfold valV at h2 ⊢
      rw [List.map_cons, List.find?_cons_of_neg (by simpa [kvOf] using e)]
      exact h2
theorem dg_kv {H : Hp} {d : Addr} {es : List (Str × Int)} {z : Str} {i : Int} (h : H d = some (.dK (es.map kvOf))) (hv : valV (es.map kvOf) (Sum.inr z) = some (.int i)) : DGet H d (.str z) (some (.int i)) := .inl ⟨_, .inr z, .inl h, rfl, hv.symm⟩
def spTSay : Sp := fun vs H Q _ => ∃ (p c d : Addr) (n sl : Int) (es : List (Str × Int)), vs = [.ref p, .ref d, .int sl] ∧ PenC H p c n ∧ n ≤ 300000000 ∧ H d = some (.dK (es.map kvOf)) ∧ 1 ≤ es.length ∧ es.length ≤ 40 ∧ (∀ e ∈ es, -farS ≤ e.2 ∧ e.2 ≤ farS) ∧ 0 ≤ sl ∧ sl ≤ 5 ∧
  ∀ (t : Addr) (z so : Str) (i : Int) (H' : Hp), PenC H' p c (n + 20) → Sb p H H' → H t = none → H' t = some (.tup [.str z, .str so, .int i]) → z ∈ es.map (·.1) → so ∈ sorts2 → -greatS ≤ i → i ≤ greatS → Q (.ref t) H'
theorem sorts_mem {x : V} (h : x ∈ [V.str "least", V.str "most"]) : ∃ so ∈ sorts2, x = .str so := by
  simp only [List.mem_cons, List.not_mem_nil, or_false] at h
  rcases h with rfl | rfl
  · exact ⟨_, by decide +kernel, rfl⟩
  · exact ⟨_, by decide +kernel, rfl⟩
theorem farG : farS = 1000000000000000000 := rfl
theorem greatG : greatS = 100000000000000000000 := rfl
theorem kv_keys (es : List (Str × Int)) : (es.map kvOf).map (fun kv => kV kv.1) = (es.map (·.1)).map V.str := by
  simp only [List.map_map]
  rfl
section
variable {P : Program} {w : World} {K : PySem.W.Frag} {mg : Str → Option Value} {base : Heap}
theorem scDialL : FnScope ["_law_pen_here", "_law_name", "_law_wide", "_law_way", "_law_up", "_law_down", "_law_low"] ["_law_pen_here", "_law_name", "_law_wide"] (defScope sDial) := ⟨rfl, rfl, rfl, by decide +kernel, rfl, by decide +kernel, by decide +kernel⟩
theorem ok_dialL {f g g2 g3 g4 : Addr} {fd gd gd2 gd3 gd4 : FuncData} (F : Fun K "_law_dial" "_law_dial" sDial f fd) (G : FnOk P w K mg base CX0 1 g gd ["_law_pen_here", "_law_many"] spDrawC) (bG : Binds K gd ["_law_pen_here", "_law_many"] []) (kG : PySem.W.keepIn K (.ref g) = true) (mG : mg "_law_draw" = some (.ref g))
    (G2 : FnOk P w K mg base CX0 2 g2 gd2 ["_law_pen_here", "_law_some"] spPick) (bG2 : Binds K gd2 ["_law_pen_here", "_law_some"] []) (kG2 : PySem.W.keepIn K (.ref g2) = true) (mG2 : mg "_law_pick" = some (.ref g2))
    (G3 : FnOk P w K mg base CX0 3 g3 gd3 ["_law_pen_here", "_law_low", "_law_high"] spFrom) (bG3 : Binds K gd3 ["_law_pen_here", "_law_low", "_law_high"] []) (kG3 : PySem.W.keepIn K (.ref g3) = true) (mG3 : mg "_law_from" = some (.ref g3))
    (G4 : FnOk P w K mg base CX0 3 g4 gd4 ["_law_pen_here"] spPriceL) (bG4 : Binds K gd4 ["_law_pen_here"] []) (kG4 : PySem.W.keepIn K (.ref g4) = true) (mG4 : mg "_law_price" = some (.ref g4)) :
    FnOk P w K mg base CX0 4 f fd ["_law_pen_here", "_law_name", "_law_wide"] spDialL := by
  refine F.ok scDialL (fun vs H Q E h => ?_) (fun cdv A outer s H vs Q E hr h => ?_)
  · obtain ⟨p, c, n, wd, nm, rfl, _⟩ := h
    rfl
  obtain ⟨p, c, n, wd, nm, rfl, wd1, wd2, pen, hn, k⟩ := h
  have hr1 : Room 1 _ := hr.mono (by decide)
  have hr2 : Room 2 _ := hr.mono (by decide)
  refine ⟨_, pss_cons (ps_par3 (i := 3) (j := 4) (l := 5) (by rfl) scDialL.nd rfl rfl rfl (by decide) (by decide) (by decide) rfl rfl rfl (pa_cons (pe_call G2 hr2 rfl mG2 kG2 bG2 .nil pass0 (pa_cons (pv 0) (pa_cons (pe_lst (pa_cons pe_str (pa_cons pe_str (pa_cons pe_str (pa_cons pe_str pa_nil))))) pa_nil))) (pa_cons (pe_call G4 hr rfl mG4 kG4 bG4 .nil pass0 (pa_cons (pv 0) pa_nil)) (pa_cons (pe_call G4 hr rfl mG4 kG4 bG4 .nil pass0 (pa_cons (pv 0) pa_nil)) pa_nil))) (by rfl)) <|
    pss_cons (ps_if (pt_cmpR op_eq (pv 2) pe_int (nomark _))
      (pss_cons (ps_set (i := 6) scDialL.nd rfl (.inl rfl) (pe_call G2 hr2 rfl mG2 kG2 bG2 .nil pass0 (pa_cons (pv 0) (pa_cons (pe_lst (pa_cons (pe_call G3 hr rfl mG3 kG3 bG3 .nil pass0 (pa_cons (pv 0) (pa_cons (pd_neg (pd_pow pe_int pe_int)) (pa_cons (pd_pow pe_int pe_int) pa_nil)))) (pa_cons (pd_neg (pd_pow pe_int pe_int)) (pa_cons pe_int (pa_cons (pe_un un_neg (pe_call G hr1 rfl mG kG bG .nil pass0 (pa_cons (pv 0) (pa_cons pe_int pa_nil)))) pa_nil))))) pa_nil))))
      (pss_one (ps_ret (pe_tup (pa_cons (pv 1) (pa_cons (pv 6) (pa_cons (pe_call G3 hr rfl mG3 kG3 bG3 .nil pass0 (pa_cons (pv 0) (pa_cons (pv 6) (pa_cons (pd_pow pe_int pe_int) pa_nil)))) (pa_cons (pv 3) (pa_cons (pv 4) (pa_cons (pv 5) pa_nil)))))))))) pss_nil) <|
    pss_cons (ps_set (i := 6) scDialL.nd rfl (.inl rfl) (pe_op op_sub (pe_call G hr1 rfl mG kG bG .nil pass0 (pa_cons (pv 0) (pa_cons pe_int pa_nil))) pe_int)) <|
    pss_one (ps_ret (pe_tup (pa_cons (pv 1) (pa_cons (pv 6) (pa_cons (pe_op op_add (pv 6) (pe_call G hr1 rfl mG kG bG .nil pass0 (pa_cons (pv 0) (pa_cons (pe_op op_add (pv 2) pe_int) pa_nil)))) (pa_cons (pv 3) (pa_cons (pv 4) (pa_cons (pv 5) pa_nil)))))))), ?_⟩
  refine ⟨_, rfl, by show 4 ≤ sizeLine; decide, fun e1 he1 => ?_⟩
  refine .inl ⟨p, c, e1, n, _, rfl, pen.same (sameNew he1 _), by omega, upd_same, by simp, by simp, fun x H1 hx pen1 sb1 => ?_⟩
  obtain ⟨way, hway, rfl⟩ : ∃ way ∈ ways3, x = .str way := by
    simp only [List.mem_cons, List.not_mem_nil, or_false] at hx
    rcases hx with rfl | rfl | rfl | rfl <;> exact ⟨_, by decide +kernel, rfl⟩
  have sA := (Sb.same (sameNew he1 (.lst [V.str "both", V.str "both", V.str "up", V.str "down"]))).trans sb1
  refine ⟨_, rfl, p, c, _, rfl, pen1, by omega, fun up H2 u1 u2 pen2 sb2 => ?_⟩
  refine ⟨_, rfl, p, c, _, rfl, pen2, by omega, fun dn H3 u3 u4 pen3 sb3 => ?_⟩
  have sB := sA.trans (sb2.trans sb3)
  have fg := farG
  refine ⟨_, _, _, rfl, _, rfl, rfl, _, rfl, ite2 (fun _ => ?_) (fun _ => ?_)⟩
  rotate_left
  · refine ⟨_, rfl, p, c, _, _, rfl, pen3, by omega, by decide, by decide, fun d1 H4 u5 u6 pen4 sb4 => ?_⟩
    refine ⟨_, _, rfl, rfl, _, rfl, _, rfl, _, rfl, _, rfl, _, rfl, _, _, rfl, rfl, p, c, _, _, rfl, pen4, by omega, by omega, by omega, fun d2 H5 u7 u8 pen5 sb5 => ?_⟩
    refine ⟨_, _, rfl, rfl, _, rfl, _, rfl, _, rfl, by show 6 ≤ sizeLine; decide, fun t ht => ?_⟩
    have sD := sB.trans (sb4.trans sb5)
    have tp := pen5.newp ht
    exact k t (d1 - 4) (d1 - 4 + d2) up dn way _ ((pen5.same (sameNew ht _)).mono (by omega)) (sD.trans (Sb.same (sameNew ht _))) (sD.free tp ht) upd_same (by omega) (by omega) (by omega) hway u1 u2 u3 u4
  refine ⟨_, rfl, _, rfl, p, c, _, _, _, rfl, pen3, by omega, by rw [e18]; decide, fun f1 H4 u5 u6 pen4 sb4 => ?_⟩
  refine ⟨_, rfl, p, c, _, _, rfl, pen4, by omega, by decide, by decide, fun d1 H5 u7 u8 pen5 sb5 => ?_⟩
  refine ⟨_, rfl, by show 4 ≤ sizeLine; decide, fun e2 he2 => ?_⟩
  refine .inl ⟨p, c, e2, _, _, rfl, pen5.same (sameNew he2 _), by omega, upd_same, by simp, by simp, fun x H6 hx pen6 sb6 => ?_⟩
  rw [e18] at hx u5 u6
  have sC := sB.trans (sb4.trans (sb5.trans ((Sb.same (sameNew he2 _)).trans sb6)))
  obtain ⟨lo, rfl, l1, l2⟩ : ∃ lo : Int, x = .int lo ∧ -farS ≤ lo ∧ lo ≤ farS := by
    simp only [List.mem_cons, List.not_mem_nil, or_false] at hx
    rcases hx with rfl | rfl | rfl | rfl
    · exact ⟨_, rfl, by omega, by omega⟩
    · exact ⟨_, rfl, by omega, by omega⟩
    · exact ⟨_, rfl, by omega, by omega⟩
    · exact ⟨_, rfl, by omega, by omega⟩
  refine ⟨_, rfl, _, rfl, _, rfl, _, rfl, p, c, _, lo, _, rfl, pen6, by omega, by rw [e18]; exact l2, fun hi H7 u9 u10 pen7 sb7 => ?_⟩
  rw [e18] at u10
  refine ⟨_, rfl, _, rfl, _, rfl, by show 6 ≤ sizeLine; decide, fun t ht => ?_⟩
  have sD := sC.trans sb7
  have tp := pen7.newp ht
  exact k t lo hi up dn way _ ((pen7.same (sameNew ht _)).mono (by omega)) (sD.trans (Sb.same (sameNew ht _))) (sD.free tp ht) upd_same l1 u9 u10 hway u1 u2 u3 u4
theorem scSayL : FnScope ["_law_pen_here", "_law_names_here", "_law_numbers_here", "_law_number"] ["_law_pen_here", "_law_names_here", "_law_numbers_here"] (defScope sSay) := ⟨rfl, rfl, rfl, by decide +kernel, rfl, by decide +kernel, by decide +kernel⟩
theorem ok_sayL {f g g2 g3 : Addr} {fd gd gd2 gd3 : FuncData} (F : Fun K "_law_saying" "_law_saying" sSay f fd) (G : FnOk P w K mg base CX0 1 g gd ["_law_pen_here", "_law_many"] spDrawC) (bG : Binds K gd ["_law_pen_here", "_law_many"] []) (kG : PySem.W.keepIn K (.ref g) = true) (mG : mg "_law_draw" = some (.ref g))
    (G2 : FnOk P w K mg base CX0 2 g2 gd2 ["_law_pen_here", "_law_some"] spPick) (bG2 : Binds K gd2 ["_law_pen_here", "_law_some"] []) (kG2 : PySem.W.keepIn K (.ref g2) = true) (mG2 : mg "_law_pick" = some (.ref g2))
    (G3 : FnOk P w K mg base CX0 3 g3 gd3 ["_law_pen_here", "_law_low", "_law_high"] spFrom) (bG3 : Binds K gd3 ["_law_pen_here", "_law_low", "_law_high"] []) (kG3 : PySem.W.keepIn K (.ref g3) = true) (mG3 : mg "_law_from" = some (.ref g3)) :
    FnOk P w K mg base CX0 4 f fd ["_law_pen_here", "_law_names_here", "_law_numbers_here"] spSayL := by
  refine F.ok scSayL (fun vs H Q E h => ?_) (fun cdv A outer s H vs Q E hr h => ?_)
  · obtain ⟨p, c, a, b, n, ss, is, rfl, _⟩ := h
    rfl
  obtain ⟨p, c, a, b, n, ss, is, rfl, pen, hn, ha, s1, s2, hb, i1, i2, hi, k⟩ := h
  have hr1 : Room 1 _ := hr.mono (by decide)
  have hr2 : Room 2 _ := hr.mono (by decide)
  refine ⟨_, pss_cons (ps_set (i := 3) scSayL.nd rfl (.inl rfl) (pe_op op_sub (pe_op op_add (pe_call G2 hr2 rfl mG2 kG2 bG2 .nil pass0 (pa_cons (pv 0) (pa_cons (pv 2) pa_nil))) (pe_call G hr1 rfl mG kG bG .nil pass0 (pa_cons (pv 0) (pa_cons pe_int pa_nil)))) pe_int)) <|
    pss_cons (ps_if (pt_cmpR op_eq (pe_call G hr1 rfl mG kG bG .nil pass0 (pa_cons (pv 0) (pa_cons pe_int pa_nil))) pe_int (nomark _)) (pss_one (ps_set (i := 3) scSayL.nd rfl (.inl rfl) (pe_call G3 hr rfl mG3 kG3 bG3 .nil pass0 (pa_cons (pv 0) (pa_cons (pd_neg (pd_pow pe_int pe_int)) (pa_cons (pd_pow pe_int pe_int) pa_nil)))))) pss_nil) <|
    pss_one (ps_ret (pe_tup (pa_cons (pe_call G2 hr2 rfl mG2 kG2 bG2 .nil pass0 (pa_cons (pv 0) (pa_cons (pv 1) pa_nil))) (pa_cons (pe_call G2 hr2 rfl mG2 kG2 bG2 .nil pass0 (pa_cons (pv 0) (pa_cons (pe_lst (pa_cons pe_str (pa_cons pe_str pa_nil))) pa_nil))) (pa_cons (pv 3) pa_nil))))), ?_⟩
  have ap := pen.lstp ha
  have bp := pen.lstp hb
  have fg := farG
  have gg := greatG
  refine ⟨_, rfl, _, rfl, .inl ⟨p, c, b, n, _, rfl, pen, by omega, hb, by simpa using i1, by rw [List.length_map]; omega, fun x H1 hx pen1 sb1 => ?_⟩⟩
  obtain ⟨i, hi0, rfl⟩ := List.mem_map.mp hx
  have hib := hi i hi0
  refine ⟨_, rfl, p, c, _, _, rfl, pen1, by omega, by decide, by decide, fun v1 H2 u1 u2 pen2 sb2 => ?_⟩
  refine ⟨_, _, rfl, rfl, _, _, rfl, rfl, _, rfl, p, c, _, _, rfl, pen2, by omega, by decide, by decide, fun v2 H3 u3 u4 pen3 sb3 => ?_⟩
  have sA := sb1.trans (sb2.trans sb3)
  refine ⟨rfl, _, rfl, ?_⟩
  have rest : ∀ (z : Int) (H4 : Hp), -greatS ≤ z → z ≤ greatS → PenC H4 p c (n + 11) → Sb p H H4 → (tRet (tTup (tCons (tCall spPick [] E0 (tCons (tVar 0) (tCons (tVar 1) tNil))) (tCons (tCall spPick [] E0 (tCons (tVar 0) (tCons (tLst (tCons (tC (V.str (Str.ofString "least"))) (tCons (tC (V.str (Str.ofString "most"))) tNil))) tNil))) (tCons (tVar 3) tNil))))) { nx := fun x H' => Q V.non H', rt := Q } [some (.ref p), some (.ref a), some (.ref b), some (.int z)] H4 := fun z H4 z1 z2 pen4 sb4 => by
    have ha4 := sb4.to ap ha
    refine ⟨_, rfl, _, rfl, .inl ⟨p, c, a, _, _, rfl, pen4, by omega, ha4, by simpa using s1, by rw [List.length_map]; omega, fun x H5 hx pen5 sb5 => ?_⟩⟩
    obtain ⟨nm, hnm, rfl⟩ := List.mem_map.mp hx
    refine ⟨_, rfl, by show 2 ≤ sizeLine; decide, fun e he => .inl ⟨p, c, e, _, _, rfl, pen5.same (sameNew he _), by omega, upd_same, by simp, by simp, fun x H6 hx pen6 sb6 => ?_⟩⟩
    obtain ⟨so, hso, rfl⟩ := sorts_mem hx
    refine ⟨_, rfl, by show 3 ≤ sizeLine; decide, fun t ht => ?_⟩
    have sD := sb4.trans (sb5.trans ((Sb.same (sameNew he _)).trans sb6))
    exact k t nm so z _ ((pen6.same (sameNew ht _)).mono (by omega)) (sD.trans (Sb.same (sameNew ht _))) (sD.free (pen6.newp ht) ht) upd_same hnm hso z1 z2
  refine ite2 (fun _ => ?_) (fun _ => ?_)
  · refine ⟨_, rfl, p, c, _, _, _, rfl, pen3, by omega, by rw [e20]; decide, fun z H4 u5 u6 pen4 sb4 => ?_⟩
    rw [e20] at u5 u6
    exact rest z H4 (by omega) (by omega) (pen4.mono (by omega)) (sA.trans sb4)
  · exact rest _ H3 (by omega) (by omega) (pen3.mono (by omega)) sA
theorem scTSay : FnScope ["_law_pen_here", "_law_at", "_law_slack", "_law_name", "_law_sort", "_law_by"] ["_law_pen_here", "_law_at", "_law_slack"] (defScope sTSay) := ⟨rfl, rfl, rfl, by decide +kernel, rfl, by decide +kernel, by decide +kernel⟩
theorem ok_tsay {f g g2 : Addr} {fd gd gd2 : FuncData} (F : Fun K "_law_true_saying" "_law_true_saying" sTSay f fd) (G : FnOk P w K mg base CX0 1 g gd ["_law_pen_here", "_law_many"] spDrawC) (bG : Binds K gd ["_law_pen_here", "_law_many"] []) (kG : PySem.W.keepIn K (.ref g) = true) (mG : mg "_law_draw" = some (.ref g))
    (G2 : FnOk P w K mg base CX0 2 g2 gd2 ["_law_pen_here", "_law_some"] spPick) (bG2 : Binds K gd2 ["_law_pen_here", "_law_some"] []) (kG2 : PySem.W.keepIn K (.ref g2) = true) (mG2 : mg "_law_pick" = some (.ref g2)) (B : Blt mg) :
    FnOk P w K mg base CX0 3 f fd ["_law_pen_here", "_law_at", "_law_slack"] spTSay := by
  refine F.ok scTSay (fun vs H Q E h => ?_) (fun cdv A outer s H vs Q E hr h => ?_)
  · obtain ⟨p, c, d, n, sl, es, rfl, _⟩ := h
    rfl
  obtain ⟨p, c, d, n, sl, es, rfl, pen, hn, hd, l1, l2, hi, sl1, sl2, k⟩ := h
  have hu := hu_of hr
  have hr1 : Room 1 _ := hr.mono (by decide)
  refine ⟨_, pss_cons (ps_par3 (i := 3) (j := 4) (l := 5) (by rfl) scTSay.nd rfl rfl rfl (by decide) (by decide) (by decide) rfl rfl rfl (pa_cons (pe_call G2 hr rfl mG2 kG2 bG2 .nil pass0 (pa_cons (pv 0) (pa_cons (pe_callB cr_sortedS (by rfl) B.sorted (by decide +kernel) (pa_cons (pe_callTy (call_listD rfl) (by rfl) B.list (by decide +kernel) (pa_cons (pv 1) pa_nil)) pa_nil)) pa_nil)))
      (pa_cons (pe_call G2 hr rfl mG2 kG2 bG2 .nil pass0 (pa_cons (pv 0) (pa_cons (pe_lst (pa_cons pe_str (pa_cons pe_str pa_nil))) pa_nil))) (pa_cons (pe_call G hr1 rfl mG kG bG .nil pass0 (pa_cons (pv 0) (pa_cons (pe_op op_add (pv 2) pe_int) pa_nil))) pa_nil))) (by rfl)) <|
    pss_one (ps_ret (pe_tup (pa_cons (pv 3) (pa_cons (pv 4) (pa_cons (pe_ifExp (pt_cmpR op_eq (pv 4) pe_str (nomark _)) (pe_op op_sub (pe_dget hu (pv 1) (pv 3) (fun _ _ => rfl)) (pv 5)) (pe_op op_add (pe_dget hu (pv 1) (pv 3) (fun _ _ => rfl)) (pv 5))) pa_nil))))), ?_⟩
  refine ⟨_, rfl, _, rfl, d, _, rfl, .inl hd, fun q nq => ?_⟩
  rw [kv_keys]
  have sq := sameNew nq (.lst ((es.map (·.1)).map V.str))
  refine ⟨q, es.map (·.1), rfl, SqL.of upd_same, by rw [List.length_map]; omega, fun ys r perm _ nr => ?_⟩
  have sr := sameNew nr (.lst (ys.map V.str))
  have ly : ys.length = es.length := by rw [perm.length_eq, List.length_map]
  have dp : d ≠ p := fun z => by
    obtain ⟨_, _, _, hp, _⟩ := pen
    rw [z, hp.at_] at hd
    have hd := HO.dK.inj (Option.some.inj hd)
    cases es with
    | nil => simp at l1
    | cons e es =>
      simp only [penK, List.map_cons, kvOf, List.cons.injEq, Prod.mk.injEq] at hd
      exact nomatch hd.1.2
  refine .inl ⟨p, c, r, n, _, rfl, (pen.same sq).same sr, by omega, upd_same, by rw [List.length_map]; omega, by rw [List.length_map]; omega, fun x H1 hx pen1 sb1 => ?_⟩
  obtain ⟨z, hz, rfl⟩ := List.mem_map.mp hx
  have hz' : z ∈ es.map (·.1) := perm.mem_iff.mp hz
  have sA := ((Sb.same sq).trans (Sb.same sr)).trans sb1
  refine ⟨_, rfl, by show 2 ≤ sizeLine; decide, fun e he => .inl ⟨p, c, e, _, _, rfl, pen1.same (sameNew he _), by omega, upd_same, by simp, by simp, fun x H2 hx pen2 sb2 => ?_⟩⟩
  obtain ⟨so, hso, rfl⟩ := sorts_mem hx
  have sB := sA.trans ((Sb.same (sameNew he _)).trans sb2)
  refine ⟨_, rfl, _, rfl, _, _, rfl, rfl, p, c, _, _, rfl, pen2, by omega, by omega, by omega, fun v H3 u1 u2 pen3 sb3 => ?_⟩
  have sC := sB.trans sb3
  have hd3 := sC.to dp hd
  obtain ⟨i, hie, hval⟩ := val_kv hz'
  have hib := hi _ hie
  have fg := farG
  have gg := greatG
  have fin : ∀ (j : Int), -greatS ≤ j → j ≤ greatS → ∀ t, H3 t = none → Q (.ref t) (L2.upd H3 t (.tup [.str z, .str so, .int j])) := fun j j1 j2 t ht =>
    k t z so j _ ((pen3.same (sameNew ht _)).mono (by omega)) (sC.trans (Sb.same (sameNew ht _))) (sC.free (pen3.newp ht) ht) upd_same hz' hso j1 j2
  refine ⟨_, _, _, rfl, _, rfl, _, rfl, _, rfl, rfl, _, rfl, ?_⟩
  refine ite2 (fun _ => ?_) (fun _ => ?_)
  · refine ⟨_, rfl, _, rfl, d, _, rfl, dg_kv hd3 hval, _, rfl, _, _, rfl, rfl, by show 3 ≤ sizeLine; decide, fin _ ?_ ?_⟩
    · simp only at hib ⊢
      omega
    · simp only at hib ⊢
      omega
  · refine ⟨_, rfl, _, rfl, d, _, rfl, dg_kv hd3 hval, _, rfl, _, _, rfl, rfl, by show 3 ≤ sizeLine; decide, fin _ ?_ ?_⟩
    · simp only at hib ⊢
      omega
    · simp only at hib ⊢
      omega
end
end Pk
/-! What stands apart from some addresses; data that is small enough. -/
namespace Pk
open PySem L2
def zn (X : List Addr) (H : Hp) : Hp := fun b => if b ∈ X then none else H b
theorem zn_in {X : List Addr} {H : Hp} {b : Addr} (h : b ∈ X) : zn X H b = none := if_pos h
theorem zn_out {X : List Addr} {H : Hp} {b : Addr} (h : b ∉ X) : zn X H b = H b := if_neg h
theorem zn_some {X : List Addr} {H : Hp} {b : Addr} {o : HO} (h : zn X H b = some o) : b ∉ X ∧ H b = some o := by
  by_cases hb : b ∈ X
  · rw [zn_in hb] at h
    cases h
  · rw [zn_out hb] at h
    exact ⟨hb, h⟩
theorem zn_le {X : List Addr} {H : Hp} : Same (zn X H) H := fun _ _ e => (zn_some e).2
theorem zn_mono {X : List Addr} {H H' : Hp} (s : Same H H') : Same (zn X H) (zn X H') := fun b o e => by
  obtain ⟨h1, h2⟩ := zn_some e
  rw [zn_out h1]
  exact s _ _ h2
theorem zn_sb {X : List Addr} {p : Addr} {H H' : Hp} (s : Sb p H H') (hp : p ∈ X) : Same (zn X H) (zn X H') := fun b o e => by
  obtain ⟨h1, h2⟩ := zn_some e
  rw [zn_out h1]
  exact s.to (fun z => h1 (z ▸ hp)) h2
theorem zn_drop {X : List Addr} {D : Addr} {H : Hp} : Same (zn (D :: X) H) (zn X H) := fun b o e => by
  obtain ⟨h1, h2⟩ := zn_some e
  rw [zn_out fun z => h1 (List.mem_cons_of_mem _ z)]
  exact h2
theorem zn_fresh {X : List Addr} {D : Addr} {H : Hp} (h : H D = none) : Same (zn X H) (zn (D :: X) H) := fun b o e => by
  obtain ⟨h1, h2⟩ := zn_some e
  rw [zn_out fun z => by
    rcases List.mem_cons.mp z with z | z
    · rw [z, h] at h2
      cases h2
    · exact h1 z]
  exact h2
theorem zn_upd {X : List Addr} {D : Addr} {H : Hp} {o : HO} (hD : D ∈ X) : Same (zn X H) (zn X (upd H D o)) := fun b u e => by
  obtain ⟨h1, h2⟩ := zn_some e
  have hb : b ≠ D := fun z => h1 (by rw [z]; exact hD)
  rw [zn_out h1, upd_ne hb]
  exact h2
/-- the addresses are taken; p is one of them -/
structure Al (p : Addr) (X : List Addr) (H : Hp) : Prop where
  mem : p ∈ X
  alc : ∀ b ∈ X, ∃ o, H b = some o
theorem Al.out {p t : Addr} {X : List Addr} {H : Hp} (a : Al p X H) (h : H t = none) : t ∉ X := fun z => by
  obtain ⟨o, e⟩ := a.alc t z
  rw [e] at h
  cases h
theorem Al.sb {p c : Addr} {n : Int} {X : List Addr} {H H' : Hp} (a : Al p X H) (s : Sb p H H') (h : PenC H' p c n) : Al p X H' := ⟨a.mem, fun b hb => by
  by_cases e : b = p
  · subst e
    obtain ⟨kv, h⟩ := h.atp
    exact ⟨_, h⟩
  · obtain ⟨o, ho⟩ := a.alc b hb
    exact ⟨o, s.to e ho⟩⟩
theorem Al.same {p : Addr} {X : List Addr} {H H' : Hp} (a : Al p X H) (s : Same H H') : Al p X H' := ⟨a.mem, fun b hb => let ⟨o, ho⟩ := a.alc b hb; ⟨o, s _ _ ho⟩⟩
theorem Al.upd {p : Addr} {X : List Addr} {H : Hp} {D : Addr} {o : HO} (a : Al p X H) : Al p X (L2.upd H D o) := ⟨a.mem, fun b hb => by
  by_cases e : b = D
  · subst e
    exact ⟨o, upd_same⟩
  · obtain ⟨u, hu⟩ := a.alc b hb
    exact ⟨u, by rw [upd_ne e]; exact hu⟩⟩
theorem Al.new {p : Addr} {X : List Addr} {H : Hp} {D : Addr} {o : HO} (a : Al p X H) (h : H D = none) : Al p (D :: X) (L2.upd H D o) := ⟨List.mem_cons_of_mem _ a.mem, fun b hb => by
  rcases List.mem_cons.mp hb with e | hb
  · rw [e]
    exact ⟨o, upd_same⟩
  · exact (a.upd (D := D) (o := o)).alc b hb⟩
/-! ### data that is small enough -/
def oddDict : List (PyData × PyData) → Bool
  | [] => true
  | [(.str z, .int i)] => decide (z = "a") && decide (i = 0)
  | _ => false
mutual
def lv (k : Nat) : PyData → Bool
  | .none | .bool _ => true
  | .int i => decide (i.natAbs ≤ 10 ^ 60 + k)
  | .str z => z.cps.toList.all fun c => decide (c ≤ 2000000 * (k + 1))
  | .list xs | .tuple xs => lvs k xs
  | .dict es => oddDict es
def lvs (k : Nat) : List PyData → Bool
  | [] => true
  | x :: xs => lv k x && lvs k xs
end
theorem lvs_all {k : Nat} : ∀ {ds : List PyData}, (∀ d ∈ ds, lv k d = true) → lvs k ds = true
  | [], _ => rfl
  | d :: ds, h => by
    rw [lvs, h d List.mem_cons_self, lvs_all fun e he => h e (List.mem_cons_of_mem _ he)]
    rfl
theorem lvs_mem {k : Nat} : ∀ {ds : List PyData} {d : PyData}, lvs k ds = true → d ∈ ds → lv k d = true
  | [], _, _, h => absurd h (by simp)
  | x :: xs, d, e, h => by
    rw [lvs, Bool.and_eq_true] at e
    rcases List.mem_cons.mp h with h | h
    · rw [h]; exact e.1
    · exact lvs_mem e.2 h
mutual
theorem lv_mono {k : Nat} : ∀ {d : PyData}, lv k d = true → lv (k + 1) d = true
  | .none, _ => rfl
  | .bool _, _ => rfl
  | .int i, h => by
    simp only [lv, decide_eq_true_eq] at h ⊢
    omega
  | .str z, h => by
    simp only [lv, List.all_eq_true, decide_eq_true_eq] at h ⊢
    intro c hc
    have := h c hc
    omega
  | .list xs, h => by
    simp only [lv] at h ⊢
    exact lvs_mono h
  | .tuple xs, h => by
    simp only [lv] at h ⊢
    exact lvs_mono h
  | .dict es, h => by simpa only [lv] using h
theorem lvs_mono {k : Nat} : ∀ {ds : List PyData}, lvs k ds = true → lvs (k + 1) ds = true
  | [], _ => rfl
  | d :: ds, h => by
    rw [lvs, Bool.and_eq_true] at h ⊢
    exact ⟨lv_mono h.1, lvs_mono h.2⟩
end
theorem bulk_mem : ∀ {ds : List PyData} {d : PyData}, d ∈ ds → d.bulk + 1 ≤ PyData.bulkAll ds
  | [], _, h => absurd h (by simp)
  | x :: xs, d, h => by
    rw [PyData.bulkAll]
    rcases List.mem_cons.mp h with h | h
    · rw [h]; omega
    · have := bulk_mem h
      omega
theorem bulk_len : ∀ ds : List PyData, ds.length ≤ PyData.bulkAll ds
  | [] => by simp
  | x :: xs => by
    have := bulk_len xs
    rw [PyData.bulkAll, List.length_cons]
    omega
theorem bulk_app : ∀ (as bs : List PyData), PyData.bulkAll (as ++ bs) = PyData.bulkAll as + PyData.bulkAll bs
  | [], bs => by simp [PyData.bulkAll]
  | a :: as, bs => by
    rw [List.cons_append, PyData.bulkAll, PyData.bulkAll, bulk_app as bs]
    omega
theorem depth_mem : ∀ {ds : List PyData} {d : PyData}, d ∈ ds → d.depth ≤ PyData.depthAll ds
  | [], _, h => absurd h (by simp)
  | x :: xs, d, h => by
    rw [PyData.depthAll]
    rcases List.mem_cons.mp h with h | h
    · rw [h]; omega
    · have := depth_mem h
      omega
theorem depth_all {n : Nat} : ∀ {ds : List PyData}, (∀ d ∈ ds, d.depth ≤ n) → PyData.depthAll ds ≤ n
  | [], _ => by simp [PyData.depthAll]
  | d :: ds, h => by
    have h1 := h d List.mem_cons_self
    have h2 := depth_all fun e he => h e (List.mem_cons_of_mem _ he)
    rw [PyData.depthAll]
    omega
theorem bulk_all {n : Nat} : ∀ {ds : List PyData}, (∀ d ∈ ds, d.bulk ≤ n) → PyData.bulkAll ds ≤ (n + 1) * ds.length
  | [], _ => by simp [PyData.bulkAll]
  | d :: ds, h => by
    have h1 := h d List.mem_cons_self
    have h2 := bulk_all fun e he => h e (List.mem_cons_of_mem _ he)
    rw [PyData.bulkAll, List.length_cons, Nat.mul_succ]
    omega
theorem lay_all : ∀ {ds : List PyData}, (∀ d ∈ ds, d.canLay0 = true) → PyData.canLayAll0 ds = true
  | [], _ => by simp only [PyData.canLayAll0]
  | d :: ds, h => by
    rw [PyData.canLayAll0, h d List.mem_cons_self, lay_all fun e he => h e (List.mem_cons_of_mem _ he)]
    rfl
theorem int_short {i : Int} {k : Nat} (hk : k ≤ 10) (h : i.natAbs ≤ 10 ^ 60 + k) : i.natAbs.log2 < 1920 ∧ (PyData.shown (.int i)).length ≤ 100 := by
  have h1 : i.natAbs < 10 ^ 61 := by
    have : (10 : Nat) ^ 60 + 10 < 10 ^ 61 := by decide +kernel
    omega
  constructor
  · by_cases h0 : i.natAbs = 0
    · rw [h0]; decide
    · rw [Nat.log2_lt h0]
      exact Nat.lt_trans h1 (by decide +kernel)
  · have h2 := int_text_length_le10 (k := 61) (by decide) h1
    have e : (PyData.shown (.int i)).length = (toString i).length := by
      simp only [PyData.shown]
      exact ofString_length _
    omega
mutual
/-- what the looks ask of data -/
theorem lv_ok {k : Nat} (hk : k ≤ 10) : ∀ {d : PyData}, lv k d = true → d.bulk ≤ 100000 → okS d = true ∧ d.showable = true ∧ d.leavesShort 100 = true
  | .none, _, _ => ⟨rfl, rfl, rfl⟩
  | .bool _, _, _ => ⟨rfl, rfl, rfl⟩
  | .int i, h, _ => by
    simp only [lv, decide_eq_true_eq] at h
    obtain ⟨a, b⟩ := int_short hk h
    exact ⟨rfl, by simp only [PyData.showable, decide_eq_true_eq]; exact a, by simp only [PyData.leavesShort, decide_eq_true_eq]; exact b⟩
  | .str z, h, hb => by
    simp only [lv, List.all_eq_true, decide_eq_true_eq] at h
    simp only [PyData.bulk] at hb
    refine ⟨by simp only [okS, decide_eq_true_eq]; exact hb, rfl, ?_⟩
    simp only [PyData.leavesShort, List.all_eq_true, decide_eq_true_eq]
    intro c hc
    have q := h c hc
    have e : (16 : Nat) ^ 8 = 4294967296 := by decide
    have : 2000000 * (k + 1) ≤ 22000000 := by omega
    omega
  | .list xs, h, hb => by
    simp only [lv] at h
    simp only [PyData.bulk] at hb
    simpa only [okS, PyData.showable, PyData.leavesShort] using lvs_ok hk h hb
  | .tuple xs, h, hb => by
    simp only [lv] at h
    simp only [PyData.bulk] at hb
    simpa only [okS, PyData.showable, PyData.leavesShort] using lvs_ok hk h hb
  | .dict es, h, hb => by
    simp only [lv] at h
    unfold oddDict at h
    split at h
    · exact ⟨rfl, rfl, rfl⟩
    · rename_i z i
      rw [Bool.and_eq_true, decide_eq_true_eq, decide_eq_true_eq] at h
      obtain ⟨rfl, rfl⟩ := h
      exact ⟨by decide +kernel, by decide +kernel, by decide +kernel⟩
    · cases h
theorem lvs_ok {k : Nat} (hk : k ≤ 10) : ∀ {ds : List PyData}, lvs k ds = true → PyData.bulkAll ds ≤ 100000 → okSs ds = true ∧ PyData.showableAll ds = true ∧ PyData.leavesShortAll 100 ds = true
  | [], _, _ => ⟨rfl, rfl, rfl⟩
  | d :: ds, h, hb => by
    rw [lvs, Bool.and_eq_true] at h
    rw [PyData.bulkAll] at hb
    obtain ⟨a1, a2, a3⟩ := lv_ok hk h.1 (by omega)
    obtain ⟨b1, b2, b3⟩ := lvs_ok hk h.2 (by omega)
    exact ⟨by rw [okSs, a1, b1]; rfl, by rw [PyData.showableAll, a2, b2]; rfl, by rw [PyData.leavesShortAll, a3, b3]; rfl⟩
end
theorem lv_shown {k : Nat} (hk : k ≤ 10) {d : PyData} (h : lv k d = true) (hb : d.bulk ≤ 100000) : d.shown.length ≤ sizeLine := by
  have h1 := PyData.shown_le_bulk 100 (by decide) d (lv_ok hk h hb).2.2
  rw [sizeLine_eq]
  omega
end Pk
namespace Pk
open PySem L2
structure RuleG (ns : List Str) (r : PyData) : Prop where
  rule : ruleD ns r = true
  lay : r.canLay0 = true
  depth : r.depth ≤ 2
  bulk : r.bulk ≤ 120
  lv : lv 0 r = true
theorem nm_str {z : Str} (h : nmOk z) : PyData.strOk z = true ∧ Pk.lv 0 (.str z) = true ∧ z.cps.size ≤ 30 := by
  refine ⟨?_, ?_, h.1⟩
  · unfold PyData.strOk
    rw [← Array.all_toList, List.all_eq_true]
    intro c hc
    have q := h.2 c hc
    simp only [smallC, Bool.and_eq_true, decide_eq_true_eq] at q
    simp only [decide_eq_true_eq]
    omega
  · simp only [Pk.lv, List.all_eq_true, decide_eq_true_eq]
    intro c hc
    have q := h.2 c hc
    simp only [smallC, Bool.and_eq_true, decide_eq_true_eq] at q
    omega
theorem great_lt : greatS.natAbs * 10 ≤ 10 ^ 60 := by decide +kernel
theorem int_lv {i : Int} (h1 : -(10 * greatS) ≤ i) (h2 : i ≤ 10 * greatS) : Pk.lv 0 (.int i) = true := by
  simp only [Pk.lv, decide_eq_true_eq]
  have := great_lt
  have := greatG
  omega
structure SayG (ns : List Str) (r : PyData) : Prop where
  say : sayingD ns r = true
  lay : r.canLay0 = true
  depth : r.depth ≤ 1
  bulk : r.bulk ≤ 50
  lv : Pk.lv 0 r = true
theorem words_nm : ∀ z ∈ (["one", "off", "most", "least", "both", "up", "down"] : List Str), nmOk z := by
  have h : ∀ z ∈ (["one", "off", "most", "least", "both", "up", "down"] : List Str), z.length ≤ 30 ∧ z.cps.toList.all smallC = true := by decide +kernel
  exact fun z hz => ⟨(h z hz).1, fun c hc => List.all_eq_true.mp (h z hz).2 c hc⟩
theorem sort_size : ∀ z ∈ sorts2, z.cps.size ≤ 5 := by decide +kernel
theorem sort_nm {z : Str} (h : z ∈ sorts2) : nmOk z := by
  have e : ∀ z ∈ sorts2, z ∈ (["one", "off", "most", "least", "both", "up", "down"] : List Str) := by decide +kernel
  exact words_nm z (e z h)
theorem pair_nm {z : Str} (h : z ∈ pairs3) : nmOk z := by
  have e : ∀ z ∈ pairs3, z ∈ (["one", "off", "most", "least", "both", "up", "down"] : List Str) := by decide +kernel
  exact words_nm z (e z h)
theorem way_nm {z : Str} (h : z ∈ ways3) : nmOk z := by
  have e : ∀ z ∈ ways3, z ∈ (["one", "off", "most", "least", "both", "up", "down"] : List Str) := by decide +kernel
  exact words_nm z (e z h)
theorem inS_of {zs : List Str} {z : Str} (h : z ∈ zs) : inS zs (.str z) = true := by
  unfold inS
  rw [List.any_eq_true]
  exact ⟨z, h, by simp [strIs]⟩
theorem say_of {ns : List Str} {z so : Str} {i : Int} (h : z ∈ ns) (hs : so ∈ sorts2) (h1 : -greatS ≤ i) (h2 : i ≤ greatS) : sayingD ns (.tuple [.str z, .str so, .int i]) = true := by
  show (inS ns (.str z) && (inS sorts2 (.str so) && wholeD (-greatS) greatS (.int i))) = true
  rw [inS_of h, inS_of hs, wholeD, decide_eq_true h1, decide_eq_true h2]
  rfl
theorem say_g {ns : List Str} {z so : Str} {i : Int} (hz : z ∈ ns) (h : nmOk z) (hs : so ∈ sorts2) (g1 : -greatS ≤ i) (g2 : i ≤ greatS) : SayG ns (.tuple [.str z, .str so, .int i]) := by
  have gg := greatG
  have h1 : -(10 * greatS) ≤ i := by omega
  have h2 : i ≤ 10 * greatS := by omega
  obtain ⟨a1, a2, a3⟩ := nm_str h
  obtain ⟨b1, b2, _⟩ := nm_str (sort_nm hs)
  have b3 := sort_size so hs
  have c := int_lv h1 h2
  refine ⟨say_of hz hs g1 g2, by simp [PyData.canLay0, PyData.canLayAll0, a1, b1], by simp [PyData.depth, PyData.depthAll], ?_, by simp only [Pk.lv, lvs, Bool.and_true, Bool.and_eq_true] at *; exact ⟨a2, b2, c⟩⟩
  simp only [PyData.bulk, PyData.bulkAll]
  omega
theorem rule_one {ns : List Str} {a b : PyData} (ha : SayG ns a) (hb : SayG ns b) : RuleG ns (.tuple [.str "one", a, b]) := by
  have o : PyData.strOk ("one" : Str) = true := by decide +kernel
  have l : Pk.lv 0 (.str "one") = true := by decide +kernel
  have z : ("one" : Str).cps.size = 3 := by decide +kernel
  have d1 := ha.depth
  have d2 := hb.depth
  have e1 := ha.bulk
  have e2 := hb.bulk
  refine ⟨?_, by simp [PyData.canLay0, PyData.canLayAll0, ha.lay, hb.lay, o], ?_, ?_, ?_⟩
  · show (strIs "one" (.str "one") && (sayingD ns a && sayingD ns b)) = true
    rw [ha.say, hb.say]
    simp [strIs]
  · simp only [PyData.depth, PyData.depthAll]
    omega
  · simp only [PyData.bulk, PyData.bulkAll, z]
    omega
  · rw [Pk.lv, lvs, lvs, lvs, l, ha.lv, hb.lv]
    rfl
theorem rule_pair_of {ns : List Str} {w a b : Str} {i : Int} (hw : w ∈ pairs3) (za : a ∈ ns) (zb : b ∈ ns) (ne : a ≠ b) (g1 : -greatS ≤ i) (g2 : i ≤ greatS) : ruleD ns (.tuple [.str w, .str a, .str b, .int i]) = true := by
  show (inS pairs3 (.str w) && (inS ns (.str a) && (inS ns (.str b) && (!sameS (.str a) (.str b) && wholeD (-greatS) greatS (.int i))))) = true
  rw [inS_of hw, inS_of za, inS_of zb, wholeD, decide_eq_true g1, decide_eq_true g2]
  simp [sameS, ne]
theorem rule_pair {ns : List Str} {w a b : Str} {i : Int} (hw : w ∈ pairs3) (za : a ∈ ns) (zb : b ∈ ns) (ne : a ≠ b) (ha : nmOk a) (hb : nmOk b) (g1 : -greatS ≤ i) (g2 : i ≤ greatS) : RuleG ns (.tuple [.str w, .str a, .str b, .int i]) := by
  have gg := greatG
  have h1 : -(10 * greatS) ≤ i := by omega
  have h2 : i ≤ 10 * greatS := by omega
  obtain ⟨w1, w2, w3⟩ := nm_str (pair_nm hw)
  obtain ⟨a1, a2, a3⟩ := nm_str ha
  obtain ⟨b1, b2, b3⟩ := nm_str hb
  have c := int_lv h1 h2
  refine ⟨rule_pair_of hw za zb ne g1 g2, by simp [PyData.canLay0, PyData.canLayAll0, a1, b1, w1], by simp [PyData.depth, PyData.depthAll], ?_, ?_⟩
  · simp only [PyData.bulk, PyData.bulkAll]
    omega
  · rw [Pk.lv, lvs, lvs, lvs, lvs, w2, a2, b2, c]
    rfl
def spTRule : Sp := fun vs H Q _ => ∃ (p c d : Addr) (X : List Addr) (n sl : Int) (es : List (Str × Int)), vs = [.ref p, .ref d, .int sl] ∧ PenC H p c n ∧ Al p X H ∧ n ≤ 200000000 ∧ H d = some (.dK (es.map kvOf)) ∧ 1 ≤ es.length ∧ es.length ≤ 12 ∧ (∀ e ∈ es, nmOk e.1 ∧ -farS ≤ e.2 ∧ e.2 ≤ farS) ∧ (es.map (·.1)).Nodup ∧ 0 ≤ sl ∧ sl ≤ 5 ∧
  ∀ (t : Addr) (r : PyData) (H' : Hp), PenC H' p c (n + 100) → Sb p H H' → Tr (zn X H') (.ref t) r → RuleG (es.map (·.1)) r → Q (.ref t) H'
abbrev nTRule : List Str := ["_law_pen_here", "_law_at", "_law_slack", "_law_names_here", "_law_way", "_law_by", "_law_one", "_law_two", "_law_name", "_law_both"]
section
variable {P : Program} {w : World} {K : PySem.W.Frag} {mg : Str → Option Value} {base : Heap}
theorem scTRule : FnScope nTRule ["_law_pen_here", "_law_at", "_law_slack"] (defScope sTRule) := ⟨rfl, rfl, rfl, by decide +kernel, rfl, by decide +kernel, by decide +kernel⟩
set_option maxHeartbeats 1000000 in
theorem ok_trule {f g g2 g3 g4 : Addr} {fd gd gd2 gd3 gd4 : FuncData} (F : Fun K "_law_true_rule" "_law_true_rule" sTRule f fd) (G : FnOk P w K mg base CX0 1 g gd ["_law_pen_here", "_law_many"] spDrawC) (bG : Binds K gd ["_law_pen_here", "_law_many"] []) (kG : PySem.W.keepIn K (.ref g) = true) (mG : mg "_law_draw" = some (.ref g))
    (G2 : FnOk P w K mg base CX0 2 g2 gd2 ["_law_pen_here", "_law_some"] spShuf) (bG2 : Binds K gd2 ["_law_pen_here", "_law_some"] []) (kG2 : PySem.W.keepIn K (.ref g2) = true) (mG2 : mg "_law_shuffled" = some (.ref g2))
    (G3 : FnOk P w K mg base CX0 3 g3 gd3 ["_law_pen_here", "_law_at", "_law_slack"] spTSay) (bG3 : Binds K gd3 ["_law_pen_here", "_law_at", "_law_slack"] []) (kG3 : PySem.W.keepIn K (.ref g3) = true) (mG3 : mg "_law_true_saying" = some (.ref g3))
    (G4 : FnOk P w K mg base CX0 4 g4 gd4 ["_law_pen_here", "_law_names_here", "_law_numbers_here"] spSayL) (bG4 : Binds K gd4 ["_law_pen_here", "_law_names_here", "_law_numbers_here"] []) (kG4 : PySem.W.keepIn K (.ref g4) = true) (mG4 : mg "_law_saying" = some (.ref g4)) (B : Blt mg) :
    FnOk P w K mg base CX0 5 f fd ["_law_pen_here", "_law_at", "_law_slack"] spTRule := by
  refine F.ok scTRule (fun vs H Q E h => ?_) (fun cdv A outer s H vs Q E hr h => ?_)
  · obtain ⟨p, c, d, X, n, sl, es, rfl, _⟩ := h
    rfl
  obtain ⟨p, c, d, X, n, sl, es, rfl, pen, al, hn, hd, l1, l2, hi, ndk, sl1, sl2, k⟩ := h
  have hu := hu_of hr
  have hr1 : Room 1 _ := hr.mono (by decide)
  have hr2 : Room 2 _ := hr.mono (by decide)
  have hr3 : Room 3 _ := hr.mono (by decide)
  refine ⟨_, pss_cons (ps_par3 (i := 3) (j := 4) (l := 5) (by rfl) scTRule.nd rfl rfl rfl (by decide) (by decide) (by decide) rfl rfl rfl (pa_cons (pe_call G2 hr2 rfl mG2 kG2 bG2 .nil pass0 (pa_cons (pv 0) (pa_cons (pe_callB cr_sortedS (by rfl) B.sorted (by decide +kernel) (pa_cons (pe_callTy (call_listD rfl) (by rfl) B.list (by decide +kernel) (pa_cons (pv 1) pa_nil)) pa_nil)) pa_nil)))
      (pa_cons (pe_call G hr1 rfl mG kG bG .nil pass0 (pa_cons (pv 0) (pa_cons pe_int pa_nil))) (pa_cons (pe_call G hr1 rfl mG kG bG .nil pass0 (pa_cons (pv 0) (pa_cons (pe_op op_add (pv 2) pe_int) pa_nil))) pa_nil))) (by rfl)) <|
    pss_cons (ps_if (PW.pt (pw_or (pt_cmpR op_eq (pe_callB call_len_seq (by rfl) B.len PySem.boot_len (pa_cons (pv 3) pa_nil)) pe_int (nomark _)) (pw_or1 (pt_cmpR op_gt (pv 4) pe_int (nomark _)))))
      (pss_cons (ps_par (i := 6) (j := 7) (by rfl) scTRule.nd rfl rfl (by decide) rfl rfl (pa_cons (pe_call G3 hr3 rfl mG3 kG3 bG3 .nil pass0 (pa_cons (pv 0) (pa_cons (pv 1) (pa_cons (pv 2) pa_nil)))) (pa_cons (pe_call G4 hr rfl mG4 kG4 bG4 .nil pass0 (pa_cons (pv 0) (pa_cons (pv 3) (pa_cons (pe_lc (own := [("_law_name", 8)]) (g := gName 8) (by rfl) scTRule.nd (pi_list (pv 3)) (blkOk_by (N := nTRule) (sc := defScope sTRule) (by decide +kernel)) (fun _ _ _ _ _ => pg_name (i := 8) scTRule.nd rfl (Or.inl rfl)) (fun _ _ _ _ _ => pts_nil) (fun _ _ _ _ _ => pe_dget hu (pv 1) (pv 8) (fun _ _ => rfl))) pa_nil)))) pa_nil)) (by rfl))
      (pss_cons (ps_if (pt_cmpR op_eq (pe_call G hr1 rfl mG kG bG .nil pass0 (pa_cons (pv 0) (pa_cons pe_int pa_nil))) pe_int (nomark _))
        (pss_one (ps_set (i := 7) scTRule.nd rfl (.inl rfl) (pe_tup (pa_cons (pe_ix ix_tup (pv 6) pe_int (fun _ _ => rfl)) (pa_cons (pe_ifExp (pt_cmpR op_eq (pe_ix ix_tup (pv 6) pe_int (fun _ _ => rfl)) pe_str (nomark _)) pe_str pe_str) (pa_cons (pe_ix ix_tup (pv 7) pe_int (fun _ _ => rfl)) pa_nil)))))) pss_nil)
      (pss_one (ps_ret (pe_ifExp (pt_cmpR op_eq (pe_call G hr1 rfl mG kG bG .nil pass0 (pa_cons (pv 0) (pa_cons pe_int pa_nil))) pe_int (nomark _)) (pe_tup (pa_cons pe_str (pa_cons (pv 6) (pa_cons (pv 7) pa_nil)))) (pe_tup (pa_cons pe_str (pa_cons (pv 7) (pa_cons (pv 6) pa_nil))))))))) pss_nil) <|
    pss_cons (ps_asg (pe_slice sl_list (pv 3) po_none (po_some pe_int)) (pg_lst (by rfl) (pgs_cons (pg_name (i := 6) scTRule.nd rfl (.inl rfl)) <| pgs_cons (pg_name (i := 7) scTRule.nd rfl (.inl rfl)) pgs_nil))) <|
    pss_cons (ps_if (pt_cmpR op_eq (pv 4) pe_int (nomark _)) (pss_one (ps_ret (pe_tup (pa_cons pe_str (pa_cons (pv 6) (pa_cons (pv 7) (pa_cons (pe_op op_add (pe_op op_sub (pe_dget hu (pv 1) (pv 6) (fun _ _ => rfl)) (pe_dget hu (pv 1) (pv 7) (fun _ _ => rfl))) (pv 5)) pa_nil))))))) pss_nil) <|
    pss_cons (ps_set (i := 9) scTRule.nd rfl (.inl rfl) (pe_op op_add (pe_dget hu (pv 1) (pv 6) (fun _ _ => rfl)) (pe_dget hu (pv 1) (pv 7) (fun _ _ => rfl)))) <|
    pss_one (ps_ret (pe_ifExp (pt_cmpR op_eq (pv 4) pe_int (nomark _)) (pe_tup (pa_cons pe_str (pa_cons (pv 6) (pa_cons (pv 7) (pa_cons (pe_op op_add (pv 9) (pv 5)) pa_nil))))) (pe_tup (pa_cons pe_str (pa_cons (pv 6) (pa_cons (pv 7) (pa_cons (pe_op op_sub (pv 9) (pv 5)) pa_nil))))))), ?_⟩
  have fg := farG
  have gg := greatG
  have dp : d ≠ p := fun z => by
    obtain ⟨_, _, _, hp, _⟩ := pen
    rw [z, hp.at_] at hd
    have hd := HO.dK.inj (Option.some.inj hd)
    cases es with
    | nil => simp at l1
    | cons e es =>
      simp only [penK, List.map_cons, kvOf, List.cons.injEq, Prod.mk.injEq] at hd
      exact nomatch hd.1.2
  have key : ∀ {z : Str}, z ∈ es.map (·.1) → nmOk z ∧ ∃ i, -farS ≤ i ∧ i ≤ farS ∧ valV (es.map kvOf) (Sum.inr z) = some (.int i) := fun {z} hz => by
    obtain ⟨i, h1, h2⟩ := val_kv hz
    have q := hi _ h1
    exact ⟨q.1, i, q.2.1, q.2.2, h2⟩
  refine ⟨_, rfl, _, rfl, d, _, rfl, .inl hd, fun q nq => ?_⟩
  rw [kv_keys]
  have sq := sameNew nq (.lst ((es.map (·.1)).map V.str))
  refine ⟨q, es.map (·.1), rfl, SqL.of upd_same, by rw [List.length_map]; omega, fun ys r perm _ nr => ?_⟩
  have sr := sameNew nr (.lst (ys.map V.str))
  have ly : ys.length = es.length := by rw [perm.length_eq, List.length_map]
  refine ⟨p, c, r, n, ys, rfl, (pen.same sq).same sr, by omega, upd_same, by omega, fun a ss H1 pen1 sb1 na ha hss1 hss2 hss3 => ?_⟩
  have ndss : ss.Nodup := (hss3.trans perm).nodup_iff.mpr ndk
  have sA := ((Sb.same sq).trans (Sb.same sr)).trans sb1
  have hss : ∀ z ∈ ss, z ∈ es.map (·.1) := fun z hz => perm.mem_iff.mp (hss2 z hz)
  have lss : ss.length = es.length := by omega
  have ap := pen1.lstp ha
  refine ⟨_, rfl, p, c, _, _, rfl, pen1, by omega, by decide, by decide, fun way H2 u1 u2 pen2 sb2 => ?_⟩
  refine ⟨_, rfl, _, rfl, _, _, rfl, rfl, p, c, _, _, rfl, pen2, by omega, by omega, by omega, fun by_ H3 u3 u4 pen3 sb3 => ?_⟩
  have sB := sA.trans (sb2.trans sb3)
  have ha3 := sb3.to ap (sb2.to ap ha)
  have hd3 := sB.to dp hd
  have al3 := al.sb sB pen3
  generalize hN : n + 40 + 1 + 1 = N at pen3
  clear sA sb1 sb2 sb3 pen1 pen2 sq sr nq nr na ha
  refine ⟨_, _, _, rfl, _, rfl, a, _, rfl, .inl (SqL.of ha3), rfl, _, rfl, ?_⟩
  refine ite2 (fun c1 => ?w1) (fun c1 => ?_)
  rotate_left
  refine ⟨_, rfl, _, _, rfl, rfl, _, rfl, ?_⟩
  refine ite2 (fun c2 => ?w2) (fun c2 => ?w3)
  case w3 =>
    have c1' : ¬ ((((ss.map V.str).length : Nat) : Int) = 1) := fun z => c1 (by rw [z]; simp)
    rw [List.length_map] at c1'
    obtain ⟨z1, z2, rest, rfl⟩ : ∃ z1 z2 rest, ss = z1 :: z2 :: rest := by
      match ss, lss, c1' with
      | z1 :: z2 :: rest, _, _ => exact ⟨z1, z2, rest, rfl⟩
      | [_], _, h => exact absurd rfl h
      | [], h, _ => simp at h; omega
    have z12 : z1 ≠ z2 := fun e => by
      rw [List.nodup_cons] at ndss
      exact ndss.1 (by rw [e]; exact List.mem_cons_self)
    refine ⟨_, rfl, 2, rfl, a, _, rfl, SqL.of ha3, fun q nq => ?_⟩
    rw [show (2 : Int) = ((2 : Nat) : Int) from rfl, cut_to (by simp)]
    have sq := sameNew nq (.lst (((z1 :: z2 :: rest).map V.str).take 2))
    obtain ⟨nm1, i1, y1, y2, v1⟩ := key (hss z1 (by simp))
    obtain ⟨nm2, i2, y3, y4, v2⟩ := key (hss z2 (by simp))
    have hd4 := sq _ _ hd3
    have pen4 := pen3.same sq
    have sC := sB.trans (Sb.same sq)
    have al4 := al3.same sq
    refine ⟨q, _, rfl, SqL.of upd_same, rfl, _, _, rfl, _, _, rfl, rfl, ?_⟩
    generalize L2.upd H3 q (.lst (((z1 :: z2 :: rest).map V.str).take 2)) = H4 at hd4 pen4 sC al4
    have fin : ∀ (w' : Str) (i : Int), w' ∈ pairs3 → -greatS ≤ i → i ≤ greatS → ∀ t, H4 t = none → Q (.ref t) (L2.upd H4 t (.tup [.str w', .str z1, .str z2, .int i])) := fun w' i hw h1 h2 t ht => by
      refine k t _ _ ((pen4.same (sameNew ht _)).mono (by omega)) (sC.trans (Sb.same (sameNew ht _))) (.tup ?_ (.cons (.str _) (.cons (.str _) (.cons (.str _) (.cons (.int _) .nil))))) (rule_pair hw (hss z1 (by simp)) (hss z2 (by simp)) z12 nm1 nm2 h1 h2)
      rw [zn_out (al4.out ht), upd_same]
    refine ⟨_, rfl, rfl, _, rfl, ?_⟩
    refine ite2 (fun _ => ?_) (fun _ => ?_)
    · exact ⟨_, rfl, _, rfl, _, rfl, _, rfl, d, _, rfl, dg_kv hd4 v1, _, rfl, _, rfl, d, _, rfl, dg_kv hd4 v2, _, _, rfl, rfl, _, rfl, _, _, rfl, rfl, by show 4 ≤ sizeLine; decide, fin "off" _ (by decide +kernel) (by omega) (by omega)⟩
    refine ⟨_, rfl, _, rfl, d, _, rfl, dg_kv hd4 v1, _, rfl, _, rfl, d, _, rfl, dg_kv hd4 v2, _, _, rfl, rfl, _, rfl, rfl, _, rfl, ?_⟩
    refine ite2 (fun _ => ?_) (fun _ => ?_)
    · exact ⟨_, rfl, _, rfl, _, rfl, _, rfl, _, _, rfl, rfl, by show 4 ≤ sizeLine; decide, fin "most" _ (by decide +kernel) (by omega) (by omega)⟩
    · exact ⟨_, rfl, _, rfl, _, rfl, _, rfl, _, _, rfl, rfl, by show 4 ≤ sizeLine; decide, fin "least" _ (by decide +kernel) (by omega) (by omega)⟩
  all_goals
    refine ⟨_, rfl, _, rfl, _, rfl, p, c, d, N, sl, es, rfl, pen3, by omega, hd3, l1, by omega, fun e he => (hi e he).2, sl1, sl2, fun t1 z1 so1 i1 H4 pen4 sb4 nt1 ht1 hz1 hso1 j1 j2 => ?_⟩
    have sC := sB.trans sb4
    have ha4 := sb4.to ap ha3
    have hd4 := sb4.to dp hd3
    have x1 : t1 ∉ X := al3.out nt1
    have t1p := pen4.tupp ht1
    refine ⟨_, rfl, _, rfl, _, rfl, a, rfl, ⟨_, SqL.of ha4⟩, fun D hD => lc_list (K := K) (a := a) (xs := ss.map V.str) (fun i H5 => ∃ is : List Int, H5 D = some (.lst (is.map V.int)) ∧ is.length = i ∧ (∀ j ∈ is, -farS ≤ j ∧ j ≤ farS) ∧ Same H4 H5)
      ⟨[], upd_same, rfl, fun _ h => absurd h (by simp), sameNew hD _⟩ (fun i H5 _ ⟨_, _, _, _, s5⟩ => SqL.of (s5 _ _ ha4)) ?_ ?_⟩
    · rintro i y H5 hy ⟨is, e1, e2, e3, s5⟩
      rw [List.getElem?_map] at hy
      obtain ⟨z, hz, rfl⟩ := Option.map_eq_some_iff.mp hy
      obtain ⟨_, iz, q1, q2, q3⟩ := key (hss z (List.mem_of_getElem? hz))
      have hil : i < ss.length := (List.getElem?_eq_some_iff.mp hz).1
      refine ⟨rfl, _, rfl, _, rfl, d, _, rfl, dg_kv (s5 _ _ hd4) q3, _, e1, small1000 (by rw [List.length_map]; omega), is ++ [iz], by rw [upd_same, List.map_append]; rfl, by simp [e2], fun j hj => ?_, fun b o e => ?_⟩
      · rcases List.mem_append.mp hj with hj | hj
        · exact e3 j hj
        · rw [List.mem_singleton.mp hj]
          exact ⟨q1, q2⟩
      · rw [upd_ne (ne_of_none e hD)]
        exact s5 _ _ e
    rintro H5 ⟨is, e1, e2, e3, s5⟩
    rw [List.length_map] at e2
    have sD := sC.trans (Sb.same s5)
    refine ⟨p, c, a, D, _, ss, is, rfl, pen4.same s5, by omega, s5 _ _ ha4, by omega, by omega, e1, by omega, by omega, e3, fun t2 z2 so2 i2 H6 pen6 sb6 nt2 ht2 hz2 hso2 j3 j4 => ?_⟩
    have sE := sD.trans sb6
    have x2 : t2 ∉ X := fun z => by
      obtain ⟨o, e⟩ := (al3.sb sb4 pen4).same s5 |>.alc t2 z
      rw [e] at nt2
      cases nt2
    have ht1' := sb6.to t1p (s5 _ _ ht1)
    have t2p := pen6.tupp ht2
    have g1 : SayG (es.map (·.1)) (.tuple [.str z1, .str so1, .int i1]) := say_g hz1 (key hz1).1 hso1 (by omega) (by omega)
    refine ⟨_, _, rfl, ?_⟩
    have fin : ∀ (t2 : Addr) (z2 so2 : Str) (i2 : Int) (H7 : Hp), t2 ∉ X → t2 ≠ p → H7 t2 = some (.tup [.str z2, .str so2, .int i2]) → H7 t1 = some (.tup [.str z1, .str so1, .int i1]) → SayG (es.map (·.1)) (.tuple [.str z2, .str so2, .int i2]) → PenC H7 p c (N + 41) → Sb p H H7 →
        (tIf (tTest (tOp rEq (tCall spDrawC [] E0 (tCons (tVar 0) (tCons (tC (V.int 2)) tNil))) (tC (V.int 0)))) (tTup (tCons (tC (V.str (Str.ofString "one"))) (tCons (tVar 6) (tCons (tVar 7) tNil)))) (tTup (tCons (tC (V.str (Str.ofString "one"))) (tCons (tVar 7) (tCons (tVar 6) tNil)))))
          [some (.ref p), some (.ref d), some (.int sl), some (.ref a), some (.int way), some (.int by_), some (.ref t1), some (.ref t2), none, none] H7 Q := fun t2 z2 so2 i2 H7 x2 t2p ht2 ht1 g2 pen7 sb7 => by
      refine ⟨_, rfl, p, c, _, _, rfl, pen7, by omega, by decide, by decide, fun v H8 _ _ pen8 sb8 => ⟨rfl, _, rfl, ?_⟩⟩
      have e1 := sb8.to t1p ht1
      have e2 := sb8.to t2p ht2
      have s8 := sb7.trans sb8
      have al8 := al.sb s8 pen8
      have T : ∀ {t' : Addr} {u : HO}, H8 t' = none → ∀ {H9}, H9 = L2.upd H8 t' u → Tr (zn X H9) (.ref t1) (.tuple [.str z1, .str so1, .int i1]) ∧ Tr (zn X H9) (.ref t2) (.tuple [.str z2, .str so2, .int i2]) := fun {t' u} ht' {H9} e9 => by
        subst e9
        exact ⟨.tup (by rw [zn_out x1]; exact sameNew ht' _ _ _ e1) (.cons (.str _) (.cons (.str _) (.cons (.int _) .nil))), .tup (by rw [zn_out x2]; exact sameNew ht' _ _ _ e2) (.cons (.str _) (.cons (.str _) (.cons (.int _) .nil)))⟩
      refine ite2 (fun _ => ?_) (fun _ => ?_)
      · refine ⟨_, rfl, _, rfl, by show 3 ≤ sizeLine; decide, fun t ht => ?_⟩
        obtain ⟨T1, T2⟩ := T (u := .tup [.str "one", .ref t1, .ref t2]) ht rfl
        exact k t _ _ ((pen8.same (sameNew ht _)).mono (by omega)) (s8.trans (Sb.same (sameNew ht _))) (.tup (by rw [zn_out (al8.out ht), upd_same]) (.cons (.str _) (.cons T1 (.cons T2 .nil)))) (rule_one g1 g2)
      · refine ⟨_, rfl, _, rfl, by show 3 ≤ sizeLine; decide, fun t ht => ?_⟩
        obtain ⟨T1, T2⟩ := T (u := .tup [.str "one", .ref t2, .ref t1]) ht rfl
        exact k t _ _ ((pen8.same (sameNew ht _)).mono (by omega)) (s8.trans (Sb.same (sameNew ht _))) (.tup (by rw [zn_out (al8.out ht), upd_same]) (.cons (.str _) (.cons T2 (.cons T1 .nil)))) (rule_one g2 g1)
    refine ⟨_, rfl, p, c, _, _, rfl, pen6, by omega, by decide, by decide, fun v H7 _ _ pen7 sb7 => ⟨rfl, _, rfl, ?_⟩⟩
    have h1 := sb7.to t1p ht1'
    have h2 := sb7.to t2p ht2
    have sF := sE.trans sb7
    refine ite2 (fun _ => ?_) (fun _ => ?_)
    rotate_left
    · exact fin t2 z2 so2 i2 H7 x2 t2p h2 h1 (say_g (hss z2 hz2) (key (hss z2 hz2)).1 hso2 (by omega) (by omega)) (pen7.mono (by omega)) sF
    refine ⟨_, rfl, t1, _, _, _, rfl, rfl, SqT.of h1, (rfl : atI [V.str z1, V.str so1, V.int i1] 0 = some (V.str z1)), _, rfl, t1, _, _, _, rfl, rfl, SqT.of h1, (rfl : atI [V.str z1, V.str so1, V.int i1] 1 = some (V.str so1)), rfl, _, rfl, ?_⟩
    have more : ∀ so3 ∈ sorts2, ∀ t, H7 t = none → (tIf (tTest (tOp rEq (tCall spDrawC [] E0 (tCons (tVar 0) (tCons (tC (V.int 2)) tNil))) (tC (V.int 0)))) (tTup (tCons (tC (V.str (Str.ofString "one"))) (tCons (tVar 6) (tCons (tVar 7) tNil)))) (tTup (tCons (tC (V.str (Str.ofString "one"))) (tCons (tVar 7) (tCons (tVar 6) tNil)))))
          [some (.ref p), some (.ref d), some (.int sl), some (.ref a), some (.int way), some (.int by_), some (.ref t1), some (.ref t), none, none] (L2.upd H7 t (.tup [.str z1, .str so3, .int i2])) Q := fun so3 h3 t ht =>
      fin t z1 so3 i2 _ ((al.sb sF pen7).out ht) (pen7.newp ht) upd_same (sameNew ht _ _ _ h1) (say_g hz1 (key hz1).1 h3 (by omega) (by omega)) ((pen7.same (sameNew ht _)).mono (by omega)) (sF.trans (Sb.same (sameNew ht _)))
    refine ite2 (fun _ => ?_) (fun _ => ?_)
    · exact ⟨_, rfl, t2, _, _, _, rfl, rfl, SqT.of h2, (rfl : atI [V.str z2, V.str so2, V.int i2] 2 = some (V.int i2)), by show 3 ≤ sizeLine; decide, more "most" (by decide +kernel)⟩
    · exact ⟨_, rfl, t2, _, _, _, rfl, rfl, SqT.of h2, (rfl : atI [V.str z2, V.str so2, V.int i2] 2 = some (V.int i2)), by show 3 ≤ sizeLine; decide, more "least" (by decide +kernel)⟩
end
end Pk
namespace Pk
open PySem L2
/-- a dial by its kinds -/
def DialG (d : PyData) : Prop := ∃ (nm way : Str) (lo hi up dn : Int), d = .tuple [.str nm, .int lo, .int hi, .str way, .int up, .int dn] ∧ nmOk nm ∧ (1 ≤ nm.length ∧ nm.length ≤ 8) ∧ way ∈ ways3 ∧ -farS ≤ lo ∧ lo ≤ hi ∧ hi ≤ farS ∧ 1 ≤ up ∧ up ≤ 1000000 ∧ 1 ≤ dn ∧ dn ≤ 1000000
theorem dial_lv {d : PyData} (h : DialG d) : lv 0 d = true ∧ d.bulk ≤ 80 ∧ d.depth ≤ 1 := by
  obtain ⟨nm, way, lo, hi, up, dn, rfl, h1, _, h2, b1, b2, b3, b4, b5, b6, b7⟩ := h
  obtain ⟨_, a2, a3⟩ := nm_str h1
  obtain ⟨_, w2, w3⟩ := nm_str (way_nm h2)
  have fg := farG
  have gg := greatG
  have i1 := int_lv (i := lo) (by omega) (by omega)
  have i2 := int_lv (i := hi) (by omega) (by omega)
  have i3 := int_lv (i := up) (by omega) (by omega)
  have i4 := int_lv (i := dn) (by omega) (by omega)
  refine ⟨?_, ?_, ?_⟩
  · rw [lv, lvs, lvs, lvs, lvs, lvs, lvs, a2, i1, i2, w2, i3, i4]
    rfl
  · simp only [PyData.bulk, PyData.bulkAll]
    omega
  · simp only [PyData.depth, PyData.depthAll]
    omega
theorem dial_tup {H : Hp} {x : V} {d : PyData} (t : Tr H x d) (h : DialG d) : ∃ (b : Addr) (nm way : Str) (lo hi up dn : Int), x = .ref b ∧ H b = some (.tup [.str nm, .int lo, .int hi, .str way, .int up, .int dn]) ∧ -farS ≤ lo ∧ lo ≤ hi ∧ hi ≤ farS ∧ nmOk nm := by
  obtain ⟨nm, way, lo, hi, up, dn, rfl, h1, _, h2, b1, b2, b3, _⟩ := h
  cases t with
  | @tup b xs _ hb al =>
    match xs, al with
    | [_, _, _, _, _, _], .cons (.str _) (.cons (.int _) (.cons (.int _) (.cons (.str _) (.cons (.int _) (.cons (.int _) .nil))))) => exact ⟨b, nm, way, lo, hi, up, dn, rfl, hb, b1, b2, b3, h1⟩
theorem dial_ok {d : PyData} (h : DialG d) : dialD d = true := by
  obtain ⟨nm, way, lo, hi, up, dn, rfl, h1, h0, h2, b1, b2, b3, b4, b5, b6, b7⟩ := h
  have e1 : nameD (.str nm) = true := by
    rw [nameD_str, decide_eq_true (by omega), decide_eq_true (by omega), List.all_eq_true.mpr h1.2]
    rfl
  show (nameD (.str nm) && (inS ways3 (.str way) && (wholeD (-farS) farS (.int lo) && (wholeD lo farS (.int hi) && (wholeD 1 1000000 (.int up) && wholeD 1 1000000 (.int dn)))))) = true
  rw [e1, inS_of h2, wholeD_int, wholeD_int, wholeD_int, wholeD_int, decide_eq_true b1, decide_eq_true (show lo ≤ farS by omega), decide_eq_true b2, decide_eq_true b3, decide_eq_true b4, decide_eq_true b5, decide_eq_true b6, decide_eq_true b7]
  rfl
theorem dial_name_of {d : PyData} (h : DialG d) : nmOk (nameOf d) ∧ 1 ≤ (nameOf d).length ∧ (nameOf d).length ≤ 8 := by
  obtain ⟨nm, way, lo, hi, up, dn, rfl, h1, h0, _⟩ := h
  exact ⟨h1, h0⟩
theorem rise_none : ∀ {ds : List PyData} {k : Nat} {p : Str}, (∀ d ∈ ds, dialD d = true) → PyProof.Rows.risingS p (ds.map nameOf) = true → (p :: ds.map nameOf).Nodup → fDial k (some p) ds = none
  | [], _, _, _, _, _ => rfl
  | d :: ds, k, p, hd, hr, nd => by
    rw [List.map_cons, PyProof.Rows.risingS, Bool.and_eq_true] at hr
    rw [List.map_cons] at nd
    rw [fDial_cons, if_pos (hd d List.mem_cons_self)]
    have e : leS (nameOf d) p = false := by
      refine lt_of_le_ne (a := p) ?_ fun z => ?_
      · have q := hr.1
        rw [PyProof.Rows.ltCps_eq] at q
        simpa using q
      · rw [List.nodup_cons] at nd
        exact nd.1 (by rw [z]; exact List.mem_cons_self)
    simp only [e]
    exact rise_none (fun x hx => hd x (List.mem_cons_of_mem _ hx)) hr.2 (List.nodup_cons.mp nd).2
theorem fd_none {ds : List PyData} (hd : ∀ d ∈ ds, dialD d = true) (hs : PyProof.Rows.sortedS (ds.map nameOf) = true) (nd : (ds.map nameOf).Nodup) : fDial 0 none ds = none := by
  cases ds with
  | nil => rfl
  | cons d ds =>
    rw [fDial_cons, if_pos (hd d List.mem_cons_self)]
    exact rise_none (fun x hx => hd x (List.mem_cons_of_mem _ hx)) hs nd
theorem fr_snoc {ns : List Str} {r : PyData} (hr : ruleD ns r = true) : ∀ {rs : List PyData} {k : Nat} {past : List PyData}, fRule ns k past rs = none → ((past ++ rs).any fun z => PyData.eqv z r) = false → fRule ns k past (rs ++ [r]) = none
  | [], k, past, _, h2 => by
    rw [List.append_nil] at h2
    rw [List.nil_append, fRule_cons, if_pos hr, h2]
    rfl
  | x :: rs, k, past, h1, h2 => by
    rw [fRule_cons] at h1
    rw [List.cons_append, fRule_cons]
    by_cases c : ruleD ns x = true
    · rw [if_pos c] at h1 ⊢
      by_cases c2 : (past.any fun z => PyData.eqv z x) = true
      · rw [if_pos c2] at h1
        cases h1
      · rw [if_neg c2] at h1 ⊢
        exact fr_snoc hr h1 (by rw [List.append_assoc]; exact h2)
    · rw [if_neg c] at h1
      cases h1
theorem put_nd {acc : List (Str × Int)} {e : Str × Int} (h : e.1 ∉ acc.map (·.1)) : putK (acc.map kvOf) (Sum.inr e.1) (.int e.2) = (acc ++ [e]).map kvOf := by
  unfold putK
  rw [if_neg, List.map_append]
  · rfl
  · rw [List.any_eq_true]
    rintro ⟨kv, hk, ek⟩
    obtain ⟨x, hx, rfl⟩ := List.mem_map.mp hk
    exact h (List.mem_map.mpr ⟨x, hx, Sum.inr.inj (of_decide_eq_true ek)⟩)
theorem merge_nd : ∀ (es acc : List (Str × Int)), ((acc ++ es).map (·.1)).Nodup → mergeK (acc.map kvOf) (es.map kvOf) = (acc ++ es).map kvOf
  | [], acc, _ => by
    rw [List.append_nil]
    rfl
  | e :: es, acc, h => by
    have h' : ((acc ++ [e] ++ es).map (·.1)).Nodup := by rw [List.append_assoc]; exact h
    have q := merge_nd es (acc ++ [e]) h'
    have hn : e.1 ∉ acc.map (·.1) := by
      intro hm
      rw [List.map_append, List.nodup_append] at h
      exact h.2.2 _ hm e.1 (by simp) rfl
    rw [List.append_assoc] at q
    rw [← put_nd hn] at q
    exact q
structure HouseG (ds rs : List PyData) : Prop where
  d1 : 1 ≤ ds.length
  d2 : ds.length ≤ 12
  r2 : rs.length ≤ 40
  dials : ∀ d ∈ ds, DialG d
  rules : ∀ r ∈ rs, RuleG (ds.map nameOf) r
  nd : (ds.map nameOf).Nodup
  fd : fDial 0 none ds = none
  fr : fRule (ds.map nameOf) 0 [] rs = none
theorem HouseG.fault {ds rs : List PyData} (h : HouseG ds rs) : faultD (.tuple [.tuple ds, .tuple rs]) = .none := by
  have e1 : formD (.tuple [.tuple ds, .tuple rs]) = true := by
    show ((decide ((1 : Int) ≤ (ds.length : Int)) && decide ((ds.length : Int) ≤ 12)) && (decide ((0 : Int) ≤ (rs.length : Int)) && decide ((rs.length : Int) ≤ 40))) = true
    have := h.d1
    have := h.d2
    have := h.r2
    rw [decide_eq_true (by omega), decide_eq_true (by omega), decide_eq_true (by omega), decide_eq_true (by omega)]
    rfl
  unfold faultD
  rw [if_pos e1]
  show (match fDial 0 none ds with
    | some k => PyData.tuple [.str "dial", .int k]
    | none => match fRule (ds.map nameOf) 0 [] rs with
      | some k => .tuple [.str "rule", .int k]
      | none => .none) = _
  rw [h.fd, h.fr]
theorem put_kv (acc : List (Str × Int)) (e : Str × Int) (Pr : Str × Int → Prop) (hm : ∀ (z : Str) (i : Int), Pr (z, i) → Pr e → Pr (z, e.2)) (ha : ∀ x ∈ acc, Pr x) (he : Pr e) : ∃ es : List (Str × Int), putK (acc.map kvOf) (Sum.inr e.1) (.int e.2) = es.map kvOf ∧ es.length ≤ acc.length + 1 ∧ 1 ≤ es.length ∧ ∀ x ∈ es, Pr x := by
  unfold putK
  by_cases c : ((acc.map kvOf).any fun kv => decide (kv.1 = Sum.inr e.1)) = true
  · rw [if_pos c]
    refine ⟨acc.map fun x => if x.1 = e.1 then (x.1, e.2) else x, ?_, by rw [List.length_map]; omega, ?_, fun x hx => ?_⟩
    · rw [List.map_map, List.map_map]
      apply List.map_congr_left
      intro x _
      show (if (kvOf x).1 = Sum.inr e.1 then ((kvOf x).1, V.int e.2) else kvOf x) = kvOf (if x.1 = e.1 then (x.1, e.2) else x)
      by_cases h : x.1 = e.1
      · rw [if_pos h, if_pos (by rw [← h]; rfl)]
        rfl
      · rw [if_neg h, if_neg (show ¬ (kvOf x).1 = Sum.inr e.1 from fun z => h (Sum.inr.inj z))]
    · rw [List.length_map]
      cases acc with
      | nil => simp at c
      | cons _ _ => simp
    · obtain ⟨y, hy, rfl⟩ := List.mem_map.mp hx
      by_cases h : y.1 = e.1
      · simp only [if_pos h]
        exact hm y.1 y.2 (ha y hy) he
      · simp only [if_neg h]
        exact ha y hy
  · rw [if_neg c]
    refine ⟨acc ++ [e], by rw [List.map_append]; rfl, by simp, by simp, fun x hx => ?_⟩
    rcases List.mem_append.mp hx with hx | hx
    · exact ha x hx
    · rw [List.mem_singleton.mp hx]
      exact he
theorem merge_kv (Pr : Str × Int → Prop) (hm : ∀ z i y j, Pr (z, i) → Pr (y, j) → Pr (z, j)) : ∀ (es acc : List (Str × Int)), (∀ x ∈ acc, Pr x) → (∀ x ∈ es, Pr x) → ∃ es' : List (Str × Int), mergeK (acc.map kvOf) (es.map kvOf) = es'.map kvOf ∧ es'.length ≤ acc.length + es.length ∧ (1 ≤ acc.length + es.length → 1 ≤ es'.length) ∧ ∀ x ∈ es', Pr x
  | [], acc, ha, _ => ⟨acc, rfl, by simp, fun h => by simpa using h, ha⟩
  | e :: es, acc, ha, he => by
    obtain ⟨a2, e1, e2, e3, e4⟩ := put_kv acc e Pr (fun z i h1 h2 => hm z i e.1 e.2 h1 h2) ha (he e List.mem_cons_self)
    obtain ⟨a3, f1, f2, f3, f4⟩ := merge_kv Pr hm es a2 e4 fun x hx => he x (List.mem_cons_of_mem _ hx)
    refine ⟨a3, ?_, by rw [List.length_cons]; omega, fun _ => f3 (by omega), f4⟩
    rw [← f1, ← e1]
    rfl
theorem Al.cons {p D : Addr} {X : List Addr} {H : Hp} {o : HO} (a : Al p X H) (h : H D = some o) : Al p (D :: X) H := ⟨List.mem_cons_of_mem _ a.mem, fun b hb => by
  rcases List.mem_cons.mp hb with e | hb
  · rw [e]; exact ⟨o, h⟩
  · exact a.alc b hb⟩
theorem pairedMap {α β γ : Type} {F : α → β → Prop} {G : α → γ → Prop} {f : β → γ} : ∀ {l₁ : List α} {l₂ : List β}, Paired F l₁ l₂ → (∀ a b, F a b → G a (f b)) → Paired G l₁ (l₂.map f)
  | _, _, .nil, _ => .nil
  | _, _, .cons a t, h => .cons (h _ _ a) (pairedMap t h)
theorem atStr {ss : List Str} {i : Nat} {z : Str} (h : ss[i]? = some z) : atI (ss.map V.str) ((i : Nat) : Int) = some (.str z) := atI_nat (by rw [List.getElem?_map, h]; rfl)
theorem atInt {is : List Int} {i : Nat} {z : Int} (h : is[i]? = some z) : atI (is.map V.int) ((i : Nat) : Int) = some (.int z) := atI_nat (by rw [List.getElem?_map, h]; rfl)
def spHouseL : Sp := fun vs H Q _ => ∃ (p c : Addr) (X : List Addr) (n wd rl : Int) (m : Nat), vs = [.ref p, .int (m : Nat), .int wd, .int rl] ∧ 0 ≤ wd ∧ wd ≤ 100 ∧ PenC H p c n ∧ Al p X H ∧ n ≤ 100000000 ∧ 1 ≤ m ∧ m ≤ 12 ∧ 0 ≤ rl ∧ rl ≤ 40 ∧
  ∀ (t h y : Addr) (ds rs : List PyData) (is : List Int) (H' : Hp), PenC H' p c (n + 5000) → Sb p H H' → H' t = some (.tup [.ref h, .ref y]) → t ≠ p → Tr (zn X H') (.ref h) (.tuple [.tuple ds, .tuple rs]) → H' y = some (.tup (is.map V.int)) → y ∉ X → is.length = ds.length → (∀ j ∈ is, -farS ≤ j ∧ j ≤ farS) → HouseG ds rs → Q (.ref t) H'
abbrev nHouse : List Str := ["_law_pen_here", "_law_many", "_law_wide", "_law_rules", "_law_names_here", "_law_lot", "_law_name", "_law_dials", "_law_dial_here", "_law_numbers_here", "_law_at", "_law_k", "_law_rule"]
section
variable {P : Program} {w : World} {K : PySem.W.Frag} {mg : Str → Option Value} {base : Heap}
theorem scHouseL : FnScope nHouse ["_law_pen_here", "_law_many", "_law_wide", "_law_rules"] (defScope sHouseL) := ⟨rfl, rfl, rfl, by decide +kernel, rfl, by decide +kernel, by decide +kernel⟩
set_option maxHeartbeats 2000000 in
theorem ok_houseL {f g g2 g3 g4 g5 g6 : Addr} {fd gd gd2 gd3 gd4 gd5 gd6 : FuncData} (F : Fun K "_law_house" "_law_house" sHouseL f fd) (G : FnOk P w K mg base CX0 1 g gd ["_law_pen_here", "_law_many"] spDrawC) (bG : Binds K gd ["_law_pen_here", "_law_many"] []) (kG : PySem.W.keepIn K (.ref g) = true) (mG : mg "_law_draw" = some (.ref g))
    (G2 : FnOk P w K mg base CX0 2 g2 gd2 ["_law_pen_here", "_law_some"] spPick) (bG2 : Binds K gd2 ["_law_pen_here", "_law_some"] []) (kG2 : PySem.W.keepIn K (.ref g2) = true) (mG2 : mg "_law_pick" = some (.ref g2))
    (G3 : FnOk P w K mg base CX0 3 g3 gd3 ["_law_pen_here", "_law_many"] spNames) (bG3 : Binds K gd3 ["_law_pen_here", "_law_many"] []) (kG3 : PySem.W.keepIn K (.ref g3) = true) (mG3 : mg "_law_names" = some (.ref g3))
    (G4 : FnOk P w K mg base CX0 4 g4 gd4 ["_law_pen_here", "_law_name", "_law_wide"] spDialL) (bG4 : Binds K gd4 ["_law_pen_here", "_law_name", "_law_wide"] []) (kG4 : PySem.W.keepIn K (.ref g4) = true) (mG4 : mg "_law_dial" = some (.ref g4))
    (G5 : FnOk P w K mg base CX0 3 g5 gd5 ["_law_pen_here", "_law_low", "_law_high"] spFrom) (bG5 : Binds K gd5 ["_law_pen_here", "_law_low", "_law_high"] []) (kG5 : PySem.W.keepIn K (.ref g5) = true) (mG5 : mg "_law_from" = some (.ref g5))
    (G6 : FnOk P w K mg base CX0 5 g6 gd6 ["_law_pen_here", "_law_at", "_law_slack"] spTRule) (bG6 : Binds K gd6 ["_law_pen_here", "_law_at", "_law_slack"] []) (kG6 : PySem.W.keepIn K (.ref g6) = true) (mG6 : mg "_law_true_rule" = some (.ref g6)) (B : Blt mg) :
    FnOk P w K mg base CX0 6 f fd ["_law_pen_here", "_law_many", "_law_wide", "_law_rules"] spHouseL := by
  refine F.ok scHouseL (fun vs H Q E h => ?_) (fun cdv A outer s H vs Q E hr h => ?_)
  · obtain ⟨p, c, X, n, wd, rl, m, rfl, _⟩ := h
    rfl
  obtain ⟨p, c, X, n, wd, rl, m, rfl, wd1, wd2, pen, al, hn, m1, m2, r1, r2, k⟩ := h
  have hu65 : (A.deeper (PyProof.Rows.envOfC "_law_house" (defScope sHouseL) s.heap.objs.size f cdv)).units + 65 < cLine := by
    have := hr.un
    omega
  have hr1 : Room 1 _ := hr.mono (by decide)
  have hr2 : Room 2 _ := hr.mono (by decide)
  have hr3 : Room 3 _ := hr.mono (by decide)
  have hr4 : Room 4 _ := hr.mono (by decide)
  refine ⟨_, pss_cons (ps_asg (pe_tup (pa_cons (pe_callB cr_sortedS (by rfl) B.sorted (by decide +kernel) (pa_cons (pe_call G3 hr3 rfl mG3 kG3 bG3 .nil pass0 (pa_cons (pv 0) (pa_cons (pv 1) pa_nil))) pa_nil)) (pa_cons (pe_lst pa_nil) pa_nil))) (pg_tup (by rfl) (pgs_cons (pg_name (i := 4) scHouseL.nd rfl (.inr rfl)) <| pgs_cons (pg_name (i := 5) scHouseL.nd rfl (.inl rfl)) pgs_nil))) <|
    pss_cons (ps_setLc (i := 7) (own := [("_law_name", 6)]) (g := gName 6) (by rfl) scHouseL.nd rfl rfl (sw_true rfl rfl rfl (by decide +kernel)) (pi_list (pv 4)) (blkOk_by (N := nHouse) (sc := defScope sHouseL) (by decide +kernel)) (fun _ _ _ _ _ => pg_name (i := 6) scHouseL.nd rfl (Or.inl rfl)) (fun _ _ _ _ _ => pts_nil) (fun _ _ _ _ _ => pe_call G4 hr4 rfl mG4 kG4 bG4 .nil pass0 (pa_cons (pv 0) (pa_cons (pv 6) (pa_cons (pv 2) pa_nil))))) <|
    pss_cons (ps_set (i := 9) scHouseL.nd rfl (.inr rfl) (pe_lc (own := [("_law_dial_here", 8)]) (g := gName 8) (by rfl) scHouseL.nd (pi_list (pv 7)) (blkOk_by (N := nHouse) (sc := defScope sHouseL) (by decide +kernel)) (fun _ _ _ _ _ => pg_name (i := 8) scHouseL.nd rfl (Or.inl rfl)) (fun _ _ _ _ _ => pts_nil) (fun _ _ _ _ _ => pe_call G5 hr3 rfl mG5 kG5 bG5 .nil pass0 (pa_cons (pv 0) (pa_cons (pe_ix (r := rIxT K) ix_tup (pv 8) pe_int (fun _ _ => rfl)) (pa_cons (pe_ix (r := rIxT K) ix_tup (pv 8) pe_int (fun _ _ => rfl)) pa_nil)))))) <|
    pss_cons (ps_set (i := 10) scHouseL.nd rfl (.inl rfl) (pe_callTy (call_dictP rfl) (by rfl) B.dict (by decide +kernel) (pa_cons (pe_lc (own := [("_law_k", 11)]) (g := gName 11) (by rfl) scHouseL.nd (pi_range1 (by rfl) B.range (pa_cons (pv 1) pa_nil)) (blkOk_by (N := nHouse) (sc := defScope sHouseL) (by decide +kernel)) (fun _ _ _ _ _ => pg_name (i := 11) scHouseL.nd rfl (Or.inl rfl)) (fun _ _ _ _ _ => pts_nil) (fun _ _ _ _ _ => pe_tup (pa_cons (pe_ix (r := rIxL K) ix_list (pv 4) (pv 11) (fun _ _ => rfl)) (pa_cons (pe_ix (r := rIxL K) ix_list (pv 9) (pv 11) (fun _ _ => rfl)) pa_nil)))) pa_nil))) <|
    pss_cons (ps_for PassesOwn.never rfl (pi_range1 rfl B.range (pa_cons (pe_call G hr1 rfl mG kG bG .nil pass0 (pa_cons (pv 0) (pa_cons (pe_op op_add (pv 3) pe_int) pa_nil))) pa_nil)) (pg_name (i := 11) scHouseL.nd rfl (.inl rfl))
      (pss_cons (ps_set (i := 12) scHouseL.nd rfl (.inl rfl) (pe_call G6 hr rfl mG6 kG6 bG6 .nil pass0 (pa_cons (pv 0) (pa_cons (pv 10) (pa_cons (pe_call G2 hr2 rfl mG2 kG2 bG2 .nil pass0 (pa_cons (pv 0) (pa_cons (pe_lst (pa_cons pe_int (pa_cons pe_int (pa_cons pe_int (pa_cons pe_int pa_nil))))) pa_nil))) pa_nil)))))
      (pss_one (ps_if (pt_cmpR (op_notInD hu65) (pv 12) (pv 5) (by rfl)) (pss_one (ps_expr (pe_bm PySem.F.plainAttrs_list PySem.F.slot_list_append PySem.F.type_list_append mt_append (pv 5) (pa_cons (pv 12) pa_nil)))) pss_nil)))) <|
    pss_one (ps_ret (pe_tup (pa_cons (pe_tup (pa_cons (pe_callTy call_tuple_of (by rfl) B.tuple (by decide +kernel) (pa_cons (pv 7) pa_nil)) (pa_cons (pe_callTy call_tuple_of (by rfl) B.tuple (by decide +kernel) (pa_cons (pv 5) pa_nil)) pa_nil))) (pa_cons (pe_callTy call_tuple_of (by rfl) B.tuple (by decide +kernel) (pa_cons (pv 9) pa_nil)) pa_nil)))), ?_⟩
  have fg := farG
  refine ⟨_, rfl, _, rfl, p, c, n, m, rfl, pen, by omega, m1, m2, fun l ss0 H1 pen1 sb1 nl hl hlen0 hok0 hok1 nd0 => ?_⟩
  refine ⟨l, ss0, rfl, SqL.of hl, by omega, fun ss a perm hsrt na => ?_⟩
  have sa := sameNew na (.lst (ss.map V.str))
  have hlen : ss.length = m := by rw [perm.length_eq]; exact hlen0
  have hok : ∀ z ∈ ss, nmOk z := fun z hz => hok0 z (perm.mem_iff.mp hz)
  have hok8 : ∀ z ∈ ss, 1 ≤ z.length ∧ z.length ≤ 8 := fun z hz => hok1 z (perm.mem_iff.mp hz)
  have ndss : ss.Nodup := perm.nodup_iff.mpr nd0
  refine ⟨by show 0 ≤ sizeLine; decide, fun L nL => ?_⟩
  have sL := sameNew nL (.lst [])
  have nL1 : H1 L = none := sa.free nL
  have Lp := pen1.newp nL1
  have Lc := pen1.newc nL1
  have nLH : H L = none := sb1.free Lp nL1
  refine ⟨by show 2 ≤ sizeLine; decide, fun T nT => ?_⟩
  have sT := sameNew nT (.tup [.ref a, .ref L])
  refine ⟨T, _, rfl, SqT.of upd_same, rfl, _, _, rfl, _, _, rfl, rfl, ?_⟩
  have pen2 := ((pen1.same sa).same sL).same sT
  have sb2 : Sb p H _ := ((sb1.trans (Sb.same sa)).trans (Sb.same sL)).trans (Sb.same sT)
  have ha2 := sT _ _ (sL _ _ (upd_same (H := H1) (a := a) (o := .lst (ss.map V.str))))
  have hL2 := sT _ _ (upd_same (H := L2.upd H1 a (.lst (ss.map V.str))) (a := L) (o := .lst []))
  have al2 := (((al.sb sb1 pen1).same sa).new (o := .lst []) nL).same sT
  generalize L2.upd (L2.upd (L2.upd H1 a (.lst (ss.map V.str))) L (.lst [])) T (.tup [.ref a, .ref L]) = H2 at pen2 sb2 ha2 hL2 al2
  have ap := pen2.lstp ha2
  clear sa sL sT nT na nL nL1 hl pen1 sb1 nl hlen0 hok0 hok1 nd0 perm
  -- the dials
  refine ⟨_, rfl, a, rfl, ⟨_, SqL.of ha2⟩, fun D hD => lc_list (K := K) (a := a) (xs := ss.map V.str) (fun i H3 => ∃ (xs : List V) (ds : List PyData), H3 D = some (.lst xs) ∧ TrAll (zn (D :: L :: X) H3) xs ds ∧ ds.length = i ∧ (∀ d ∈ ds, DialG d) ∧ ds.map nameOf = ss.take i ∧ PenC H3 p c (n + 30 + 40 * i) ∧ Sb p H2 H3)
    ⟨[], [], upd_same, .nil, rfl, fun _ h => absurd h (by simp), rfl, (pen2.same (sameNew hD _)).mono (by omega), Sb.same (sameNew hD _)⟩ (fun i H3 _ ⟨_, _, _, _, _, _, _, _, s3⟩ => SqL.of (s3.to ap ha2)) ?_ ?_⟩
  · rintro i y H3 hy ⟨xs, ds, e1, e2, e3, e4, e4n, pen3, sb3⟩
    have Dp := pen2.newp hD
    have Dc := pen2.newc hD
    rw [List.getElem?_map] at hy
    obtain ⟨z, hz, rfl⟩ := Option.map_eq_some_iff.mp hy
    have hil : i < ss.length := (List.getElem?_eq_some_iff.mp hz).1
    have al3 := (al2.sb sb3 pen3).cons e1
    refine ⟨rfl, _, rfl, _, rfl, _, rfl, p, c, _, wd, z, rfl, wd1, wd2, pen3, by omega, fun t lo hi up dn way H4 pen4 sb4 nt ht b1 b2 b3 b4 b5 b6 b7 b8 => ?_⟩
    have xl := e2.length
    have tZ := al3.out nt
    have tD : t ≠ D := fun z => tZ (by rw [z]; exact List.mem_cons_self)
    refine ⟨xs, sb4.to Dp e1, small1000 (by omega), xs ++ [.ref t], ds ++ [.tuple [.str z, .int lo, .int hi, .str way, .int up, .int dn]], upd_same, .snoc (e2.same ((zn_sb sb4 al3.mem).trans (zn_upd List.mem_cons_self))) (.tup ?_ (.cons (.str _) (.cons (.int _) (.cons (.int _) (.cons (.str _) (.cons (.int _) (.cons (.int _) .nil))))))), by simp [e3], fun d hd => ?_, ?_, ?_, (sb3.trans sb4).new hD Dp _⟩
    · rw [zn_out tZ, upd_ne tD]
      exact ht
    · rcases List.mem_append.mp hd with hd | hd
      · exact e4 d hd
      · rw [List.mem_singleton.mp hd]
        exact ⟨z, way, lo, hi, up, dn, rfl, hok z (List.mem_of_getElem? hz), hok8 z (List.mem_of_getElem? hz), b4, b1, b2, b3, b5, b6, b7, b8⟩
    · rw [List.map_append, e4n, take_more hz]
      rfl
    · exact (pen4.upd Dp Dc _).mono (by omega)
  rintro H3 ⟨xs, ds, e1, e2, e3, e4, e4n, pen3, sb3⟩
  have Dp := pen2.newp hD
  rw [List.length_map] at e3 pen3 e4n
  rw [List.take_length] at e4n
  have xl := e2.length
  have al3 := al2.sb sb3 pen3
  have e2 := e2.same zn_drop
  have DL : D ≠ L := fun z => by rw [z, hL2] at hD; cases hD
  have hL3 := sb3.to Lp hL2
  have ha3 := sb3.to ap ha2
  have sb3' := sb2.trans sb3
  have pen3 : PenC H3 p c (n + 510) := pen3.mono (by omega)
  -- the numbers
  refine ⟨_, rfl, D, rfl, ⟨_, SqL.of e1⟩, fun D2 hD2 => lc_list (K := K) (a := D) (xs := xs) (fun i H4 => ∃ is : List Int, H4 D2 = some (.lst (is.map V.int)) ∧ is.length = i ∧ (∀ j ∈ is, -farS ≤ j ∧ j ≤ farS) ∧ PenC H4 p c (n + 510 + 8 * i) ∧ Sb p H3 H4)
    ⟨[], upd_same, rfl, fun _ h => absurd h (by simp), (pen3.same (sameNew hD2 _)).mono (by omega), Sb.same (sameNew hD2 _)⟩ (fun i H4 _ ⟨_, _, _, _, _, s4⟩ => SqL.of (s4.to Dp e1)) ?_ ?_⟩
  · rintro i y H4 hy ⟨is, f1, f2, f3, pen4, sb4⟩
    have D2p := pen3.newp hD2
    have D2c := pen3.newc hD2
    obtain ⟨d, hd, tr⟩ := e2.get hy
    have hil : i < xs.length := (List.getElem?_eq_some_iff.mp hy).1
    obtain ⟨b, nm, way, lo, hi, up, dn, rfl, hb, q1, q2, q3, _⟩ := dial_tup (tr.same (zn_sb sb4 al3.mem)) (e4 d (List.mem_of_getElem? hd))
    have hb := zn_le _ _ hb
    refine ⟨rfl, _, rfl, _, rfl, b, _, _, _, rfl, rfl, SqT.of hb, (rfl : atI [V.str nm, V.int lo, V.int hi, V.str way, V.int up, V.int dn] 1 = some (.int lo)), _, rfl, b, _, _, _, rfl, rfl, SqT.of hb, (rfl : atI [V.str nm, V.int lo, V.int hi, V.str way, V.int up, V.int dn] 2 = some (.int hi)), p, c, _, lo, hi, rfl, pen4, by omega, q2, fun v H5 v1 v2 pen5 sb5 => ?_⟩
    refine ⟨_, sb5.to D2p f1, small1000 (by rw [List.length_map]; omega), is ++ [v], by rw [upd_same, List.map_append]; rfl, by simp [f2], fun j hj => ?_, (pen5.upd D2p D2c _).mono (by omega), (sb4.trans sb5).new hD2 D2p _⟩
    rcases List.mem_append.mp hj with hj | hj
    · exact f3 j hj
    · rw [List.mem_singleton.mp hj]
      omega
  rintro H4 ⟨is, f1, f2, f3, pen4, sb4⟩
  have D2p := pen3.newp hD2
  have al4 := al3.sb sb4 pen4
  have e2 := e2.same (zn_sb sb4 al3.mem)
  have hL4 := sb4.to Lp hL3
  have ha4 := sb4.to ap ha3
  have hD4 := sb4.to Dp e1
  have D2L : D2 ≠ L := fun z => by rw [z, hL3] at hD2; cases hD2
  have sb4' := sb3'.trans sb4
  have pen4 : PenC H4 p c (n + 610) := pen4.mono (by omega)
  -- the numbers by names
  refine ⟨_, rfl, _, rfl, by omega, by omega, fun D3 hD3 => ?_⟩
  rw [Int.toNat_natCast]
  refine lc_range (lo := 0) (n := m) (fun i H5 => ∃ (ps : List Addr) (es : List (Str × Int)), H5 D3 = some (.lst (ps.map V.ref)) ∧ Paired (fun q e => H5 q = some (.tup [.str e.1, .int e.2])) ps es ∧ es.length = i ∧ (∀ e ∈ es, nmOk e.1 ∧ -farS ≤ e.2 ∧ e.2 ≤ farS) ∧ es.map (·.1) = ss.take i ∧ Same H4 H5)
    ⟨[], [], upd_same, .nil, rfl, fun _ h => absurd h (by simp), rfl, sameNew hD3 _⟩ ?_ ?_
  · rintro i H5 hi ⟨ps, es, g1, g2, g3, g4, g4n, s5⟩
    rw [Int.zero_add]
    have hz : ss[i]? = some ss[i] := List.getElem?_eq_getElem (by omega)
    have hj : is[i]? = some is[i] := List.getElem?_eq_getElem (by omega)
    have pl := g2.length
    refine ⟨rfl, _, rfl, _, rfl, a, _, _, _, rfl, rfl, SqL.of (s5 _ _ ha4), atStr hz, _, rfl, _, rfl, D2, _, _, _, rfl, rfl, SqL.of (s5 _ _ f1), atInt hj, by show 2 ≤ sizeLine; decide, fun t ht => ?_⟩
    have st := sameNew ht (.tup [.str ss[i], .int is[i]])
    have tD : t ≠ D3 := fun z => by rw [z, g1] at ht; cases ht
    refine ⟨_, st _ _ g1, small1000 (by rw [List.length_map]; omega), ps ++ [t], es ++ [(ss[i], is[i])], by rw [upd_same, List.map_append]; rfl, .snoc (L2.Paired.mapP g2 fun q e h => ?_) ?_, by simp [g3], fun e he => ?_, by rw [List.map_append, g4n, take_more hz]; rfl, fun b o e => ?_⟩
    · have qD : q ≠ D3 := ne_of h g1 (by intro z; cases z)
      rw [upd_ne qD]
      exact st _ _ h
    · rw [upd_ne tD, upd_same]
    · rcases List.mem_append.mp he with he | he
      · exact g4 e he
      · rw [List.mem_singleton.mp he]
        exact ⟨hok _ (List.mem_of_getElem? hz), f3 _ (List.mem_of_getElem? hj)⟩
    · rw [upd_ne (ne_of_none e hD3)]
      exact st _ _ (s5 _ _ e)
  rintro H5 ⟨ps, es, g1, g2, g3, g4, g4n, s5⟩
  refine ⟨D3, ps, es.map kvOf, rfl, SqL.of g1, pairedMap g2 fun q e h => SqT.of h, fun dd ndd => ?_⟩
  have eks : es.map (·.1) = ss := by rw [g4n, ← hlen, List.take_length]
  obtain ⟨es', e9, em, el1, el2, el3⟩ : ∃ es' : List (Str × Int), es' = es ∧ mergeK [] (es.map kvOf) = es'.map kvOf ∧ es'.length ≤ es.length ∧ (1 ≤ es.length → 1 ≤ es'.length) ∧ ∀ e ∈ es', nmOk e.1 ∧ -farS ≤ e.2 ∧ e.2 ≤ farS :=
    ⟨es, rfl, merge_nd es [] (by rw [List.nil_append, eks]; exact ndss), Nat.le_refl _, fun h => h, g4⟩
  have eks' : es'.map (·.1) = ss := by rw [e9]; exact eks
  rw [em]
  have sd := s5.trans (sameNew ndd (.dK (es'.map kvOf)))
  have pen6 := pen4.same sd
  have hL6 := sd _ _ hL4
  have hD6 := sd _ _ hD4
  have hN6 := sd _ _ f1
  have al6 := al4.same sd
  have e2 := e2.same (zn_mono sd)
  have sb6 := sb4'.trans (Sb.same sd)
  have hd6 : L2.upd H5 dd (.dK (es'.map kvOf)) dd = some (.dK (es'.map kvOf)) := upd_same
  generalize L2.upd H5 dd (.dK (es'.map kvOf)) = H6 at pen6 hL6 hD6 hN6 al6 e2 sb6 hd6
  clear sd s5 g1 g2 g4 g4n e9 sb4 sb3 ha4 ha3 ha2 hD4 hL4 hL3 hL2 pen4 pen3 pen2 al4 al3 al2 f1 sb4' sb3' sb2 e1 hD3 ndd em
  have dp : dd ≠ p := fun z => by
    obtain ⟨_, _, _, hp, _⟩ := pen6
    rw [z, hp.at_] at hd6
    have hd := HO.dK.inj (Option.some.inj hd6)
    cases es' with
    | nil => have := el2 (by omega); simp at this
    | cons e es =>
      simp only [penK, List.map_cons, kvOf, List.cons.injEq, Prod.mk.injEq] at hd
      exact nomatch hd.1.2
  have dL : dd ≠ L := ne_of hd6 hL6 (by intro z; cases z)
  -- the rules
  refine ⟨_, rfl, _, rfl, _, _, rfl, rfl, p, c, _, _, rfl, pen6, by omega, by omega, by omega, fun nr H7 w1 w2 pen7 sb7 => ⟨_, rfl, by omega, by omega, ?_⟩⟩
  have hL7 := sb7.to Lp hL6
  have hD7 := sb7.to Dp hD6
  have hN7 := sb7.to D2p hN6
  have hd7 := sb7.to dp hd6
  have al7 := al6.sb sb7 pen7
  have e2 := e2.same (zn_sb sb7 al6.mem)
  have sb7' := sb6.trans sb7
  refine for_range (n := nr.toNat) (fun i σ H8 => ∃ (v11 v12 : Option V) (ys : List V) (rs : List PyData), σ = [some (.ref p), some (.int (m : Nat)), some (.int wd), some (.int rl), some (.ref a), some (.ref L), none, some (.ref D), none, some (.ref D2), some (.ref dd), v11, v12] ∧ H8 L = some (.lst ys) ∧ TrAll (zn (L :: X) H8) ys rs ∧ rs.length ≤ i ∧ (∀ r ∈ rs, RuleG ss r) ∧ fRule ss 0 [] rs = none ∧ PenC H8 p c (n + 611 + 101 * i) ∧ ∀ b o, b ≠ p → b ≠ L → H7 b = some o → H8 b = some o)
    ⟨none, none, [], [], rfl, hL7, .nil, Nat.le_refl _, fun _ h => absurd h (by simp), rfl, pen7.mono (by omega), fun _ _ _ _ e => e⟩ ?_ ?_
  · rintro i σ H8 hi ⟨v11, v12, ys, rs, rfl, e1, f2', e3, e5, e6', pen8, fr⟩
    have al8 : Al p (L :: X) H8 := ⟨al7.mem, fun b hb => by
      by_cases bp : b = p
      · rw [bp]
        obtain ⟨kv, h⟩ := pen8.atp
        exact ⟨_, h⟩
      · by_cases bL : b = L
        · rw [bL]
          exact ⟨_, e1⟩
        · obtain ⟨o, ho⟩ := al7.alc b hb
          exact ⟨o, fr b o bp bL ho⟩⟩
    refine ⟨_, rfl, _, rfl, _, rfl, by show 4 ≤ sizeLine; decide, fun e he => .inl ⟨p, c, e, _, _, rfl, pen8.same (sameNew he _), by omega, upd_same, by simp, by simp, fun x H9 hx pen9 sb9' => ?_⟩⟩
    have sb9 := (Sb.same (sameNew he _)).trans sb9'
    obtain ⟨sl, rfl, sl1, sl2⟩ : ∃ sl : Int, x = .int sl ∧ 0 ≤ sl ∧ sl ≤ 5 := by
      simp only [List.mem_cons, List.not_mem_nil, or_false] at hx
      rcases hx with rfl | rfl | rfl | rfl <;> exact ⟨_, rfl, by decide, by decide⟩
    refine ⟨p, c, dd, L :: X, _, sl, es', rfl, pen9, al8.sb sb9 pen9, by omega, sb9.to dp (fr _ _ dp dL hd7), el2 (by omega), by omega, el3, by rw [eks']; exact ndss, sl1, sl2, fun t r H10 pen10 sb10 tr rg => ?_⟩
    rw [eks'] at rg
    have sbA := sb9.trans sb10
    have hL10 := sbA.to Lp e1
    have f3' := f2'.same (zn_sb sbA al8.mem)
    have rl' := f3'.length
    have fr10 : ∀ b o, b ≠ p → b ≠ L → H7 b = some o → H10 b = some o := fun b o h1 h2 e => sbA.to h1 (fr b o h1 h2 e)
    have wl : (PyData.list rs).canLay0 = true := by simpa only [PyData.canLay0] using lay_all fun d hd => (e5 d hd).lay
    refine ⟨_, rfl, _, rfl, r, rs, (tr.same zn_le).dp (noDict_of rg.lay), Tr.dp (.lst hL10 (f3'.same zn_le)) (noDict_of wl), shaped_of rg.lay (by have := rg.depth; omega), shaped_of wl (by
      have := depth_all (n := 2) fun d hd => (e5 d hd).depth
      simp only [PyData.depth]
      omega), _, rfl, ?_⟩
    refine ite2 (fun c7 => ?_) (fun _ => ?_)
    · refine ⟨_, rfl, .inl ⟨rfl, _, SqL.of hL10⟩, _, rfl, L, _, _, rfl, rfl, hL10, small1000 (by omega), ?_⟩
      refine ⟨_, _, ys ++ [.ref t], rs ++ [r], rfl, upd_same, (f3'.snoc tr).same (zn_upd List.mem_cons_self), by simp; omega, fun d hd => ?_, fr_snoc rg.rule e6' (by simpa using c7), (pen10.upd Lp Lc _).mono (by omega), fun b o h1 h2 e => by rw [upd_ne h2]; exact fr10 b o h1 h2 e⟩
      rcases List.mem_append.mp hd with hd | hd
      · exact e5 d hd
      · rw [List.mem_singleton.mp hd]
        exact rg
    · exact ⟨_, _, ys, rs, rfl, hL10, f3', by omega, e5, e6', pen10.mono (by omega), fr10⟩
  rintro σ H8 ⟨v11, v12, ys, rs, rfl, e1, f2', e3, e5, e6', pen8, fr⟩
  have hD8 := fr _ _ Dp DL hD7
  have hN8 := fr _ _ D2p D2L hN7
  have e2 : TrAll (zn X H8) xs ds := (e2.same fun b o e => by
    obtain ⟨h1, h2⟩ := zn_some e
    rw [zn_out h1]
    exact fr b o (fun z => h1 (by rw [z]; exact al7.mem)) (fun z => h1 (by rw [z]; exact List.mem_cons_self)) h2).same zn_drop
  have f2' := f2'.same zn_drop
  have sb8 : Sb p H H8 := .of fun b o hb e => fr b o hb (ne_of_none e nLH) (sb7'.to hb e)
  have al8 := al.sb sb8 pen8
  refine ⟨_, rfl, D, _, rfl, .inl ⟨SqL.of hD8, fun t1 n1 => ?_⟩⟩
  have s1 := sameNew n1 (.tup xs)
  refine ⟨_, rfl, L, _, rfl, .inl ⟨SqL.of (s1 _ _ e1), fun t2 n2 => ?_⟩⟩
  have s2 := sameNew n2 (.tup ys)
  refine ⟨by show 2 ≤ sizeLine; decide, fun th nth => ?_⟩
  have s3 := sameNew nth (.tup [.ref t1, .ref t2])
  refine ⟨_, rfl, D2, _, rfl, .inl ⟨SqL.of (s3 _ _ (s2 _ _ (s1 _ _ hN8))), fun t3 n3 => ?_⟩⟩
  have s4 := sameNew n3 (.tup (is.map V.int))
  refine ⟨by show 2 ≤ sizeLine; decide, fun t nt => ?_⟩
  have s5 := sameNew nt (.tup [.ref th, .ref t3])
  have sA := s1.trans (s2.trans (s3.trans (s4.trans s5)))
  have x1 := al8.out n1
  have x2 := (al8.same s1).out n2
  have x3 := ((al8.same s1).same s2).out nth
  have q1 := s5 _ _ (s4 _ _ (s3 _ _ (s2 _ _ (upd_same (H := H8) (a := t1) (o := .tup xs)))))
  have q2 := s5 _ _ (s4 _ _ (s3 _ _ (upd_same (H := L2.upd H8 t1 (.tup xs)) (a := t2) (o := .tup ys))))
  have q3 := s5 _ _ (s4 _ _ (upd_same (H := L2.upd (L2.upd H8 t1 (.tup xs)) t2 (.tup ys)) (a := th) (o := .tup [.ref t1, .ref t2])))
  have x4 := (((al8.same s1).same s2).same s3).out n3
  have q4 := s5 _ _ (upd_same (H := L2.upd (L2.upd (L2.upd H8 t1 (.tup xs)) t2 (.tup ys)) th (.tup [.ref t1, .ref t2])) (a := t3) (o := .tup (is.map V.int)))
  refine k t th t3 ds rs is _ ((pen8.same sA).mono (by omega)) (sb8.trans (Sb.same sA)) upd_same (((((pen8.same s1).same s2).same s3).same s4).newp nt) (.tup (by rw [zn_out x3]; exact q3) (.cons (.tup (by rw [zn_out x1]; exact q1) (e2.same (zn_mono sA))) (.cons (.tup (by rw [zn_out x2]; exact q2) (f2'.same (zn_mono sA))) .nil))) q4 x4 (by omega) f3 ⟨by omega, by omega, by omega, e4, by rw [e4n]; exact e5, by rw [e4n]; exact ndss, fd_none (fun d hd => dial_ok (e4 d hd)) (by rw [e4n]; exact hsrt) (by rw [e4n]; exact ndss), by rw [e4n]; exact e6'⟩
end
end Pk
namespace Pk
open PySem L2
/-- what _law_odd picks from -/
def odds : List PyData :=
  [.none, .bool true, .bool false, .int 0, .int 1, .int (-1), .int (10 ^ 18), .int (10 ^ 20), .int (-10 ^ 59), .str "", .str "0", .str "a", .str "least", .tuple [], .tuple [.int 0], .list [], .list [.int 0], .dict []] ++
  [.tuple [.none], .tuple [.str "a", .int 0], .tuple [.str "a", .str "least", .int 0], .tuple [.tuple [.str "a", .str "least", .int 0]], .list [.tuple [.str "a", .str "least", .int 0]], .dict [(.str "a", .int 0)], .tuple [.tuple []]] ++
  [.tuple [.tuple [], .tuple []], .tuple [.str "one", .tuple [.str "a", .str "least", .int 0], .tuple [.str "a", .str "most", .int 0]], .tuple [.str "off", .str "a", .str "b", .int 0]]
theorem odds_ok : (odds.all fun d => lv 0 d && decide (d.bulk ≤ 30) && decide (d.depth ≤ 3)) = true := by decide +kernel
theorem odd_lv {d : PyData} (h : d ∈ odds) : lv 0 d = true ∧ d.bulk ≤ 30 ∧ d.depth ≤ 3 := by
  have q := List.all_eq_true.mp odds_ok d h
  simp only [Bool.and_eq_true, decide_eq_true_eq] at q
  exact ⟨q.1.1, q.1.2, q.2⟩
theorem newP_zn {p : Addr} {X : List Addr} {H H' : Hp} (a : Al p X H) : Same (newP H H') (zn X H') := fun b o e => by
  obtain ⟨h1, h2⟩ := newP_some e
  rw [zn_out (a.out h1)]
  exact h2
def spOddL : Sp := fun vs H Q _ => ∃ (p c : Addr) (X : List Addr) (n : Int), vs = [.ref p] ∧ PenC H p c n ∧ Al p X H ∧ n ≤ 900000000 ∧
  ∀ (x : V) (d : PyData) (H' : Hp), d ∈ odds → Tr (zn X H') x d → PenC H' p c (n + 1) → Sb p H H' → Q x H'
theorem call_isTL {X : Cx} : CallR X (.builtin "isinstance") (fun xs H Q => ∃ (x : V) (tp : Addr) (d : PyData), xs = [x, .ref tp] ∧ H tp = some (.tup [.ty "tuple", .ty "list"]) ∧ Tr H x d ∧ Q (.bl (isTup d || isLst d)) H) := by
  intro pz s σ H xs us Q I r h
  obtain ⟨x, tp, d, rfl, ht, t, q⟩ := h
  refine call_isiT pz s σ H _ us Q I r ⟨x, tp, _, _, [.type "tuple", .type "list"], _, rfl, ht, .cons (.ty _) (.cons (.ty _) .nil), t.ty, ?_, q⟩
  have h2 : PySem.W.kitAny X.K (.type (tyD d)) [.type "list"] = some (isLst d) := kitAny_cons (b := isLst d) (r := isLst d) (kit_ty (kL d)) (fun e => by rw [e]; exact kitAny_nil) (fun e => e)
  cases c : isTup d with
  | true => exact kitAny_cons (b := true) (r := true) (by rw [← c]; exact kit_ty (kT d)) (fun e => by cases e) (fun _ => rfl)
  | false => exact kitAny_cons (b := false) (r := isLst d) (by rw [← c]; exact kit_ty (kT d)) (fun _ => h2) (fun e => by cases e)
/-! ### texts -/
theorem ofS_le (s : String) : ∀ c ∈ (Str.ofString s).cps.toList, c ≤ 1114112 := fun c hc => by
  rw [PyProof.Rows.signs_ofString] at hc
  obtain ⟨ch, _, rfl⟩ := List.mem_map.mp hc
  have h := ch.valid
  have h2 : ch.val.toNat < 1114112 := by
    rcases h with h | ⟨_, h⟩
    · omega
    · exact h
  exact Nat.le_of_lt h2
theorem shifted_le {M : Nat} : ∀ {one : List (Nat × Nat × Nat)} {c v : Nat}, (one.all fun e => decide (e.2.2 ≤ M)) = true → Unicode.shifted one c = some v → v ≤ M + c
  | [], c, v, _, h => by cases h
  | (a, b, t) :: rest, c, v, hm, h => by
    rw [List.all_cons, Bool.and_eq_true, decide_eq_true_eq] at hm
    unfold Unicode.shifted at h
    split at h
    · cases h
    · split at h
      · cases h
        have h3 : t ≤ M := hm.1
        omega
      · exact shifted_le hm.2 h
theorem lookup_all {M : Nat} : ∀ {sv : List (Nat × List Nat)} {c : Nat} {cs : List Nat}, (sv.all fun e => e.2.all fun x => decide (x ≤ M)) = true → sv.lookup c = some cs → ∀ x ∈ cs, x ≤ M
  | [], c, cs, _, h => by cases h
  | (a, l) :: rest, c, cs, hm, h => by
    rw [List.all_cons, Bool.and_eq_true] at hm
    rw [List.lookup_cons] at h
    split at h
    · cases h
      intro x hx
      have := List.all_eq_true.mp hm.1 x hx
      exact of_decide_eq_true this
    · exact lookup_all hm.2 h
theorem tabs1 : (UnicodeData.oneUpper.all fun e => decide (e.2.2 ≤ 1200000)) = true := by decide +kernel
theorem tabs2 : (UnicodeData.severalUpper.all fun e => e.2.all fun x => decide (x ≤ 1200000)) = true := by decide +kernel
theorem upperOf_le {c x : Nat} (h : x ∈ Unicode.upperOf c) : x ≤ 1200000 + c := by
  unfold Unicode.upperOf Unicode.image at h
  split at h
  · rename_i cs e
    have := lookup_all tabs2 e x h
    omega
  · cases e : Unicode.shifted UnicodeData.oneUpper c with
    | none =>
      rw [e] at h
      have : x = c := by simpa using h
      omega
    | some v =>
      rw [e] at h
      have : x = v := by simpa using h
      rw [this]
      exact shifted_le tabs1 e
theorem upper_mem {z : Str} {x : Nat} (h : x ∈ (Txt.upper z).cps.toList) : ∃ c ∈ z.cps.toList, x ≤ 1200000 + c := by
  unfold Txt.upper at h
  have h : x ∈ ((z.cps.mapIdx fun _ c => (Unicode.upperOf c).toArray).flatten).toList := h
  rw [Array.mem_toList_iff, Array.mem_flatten] at h
  obtain ⟨as, h1, h2⟩ := h
  rw [Array.mem_mapIdx] at h1
  obtain ⟨i, hi, rfl⟩ := h1
  exact ⟨z.cps[i], by simp, upperOf_le (by simpa using h2)⟩
section
variable {P : Program} {w : World} {K : PySem.W.Frag} {mg : Str → Option Value} {base : Heap}
theorem scOdd : FnScope ["_law_pen_here", "_law_some"] ["_law_pen_here"] (defScope sOdd) := ⟨rfl, rfl, rfl, by decide +kernel, rfl, by decide +kernel, by decide +kernel⟩
theorem ok_odd {f g : Addr} {fd gd : FuncData} (F : Fun K "_law_odd" "_law_odd" sOdd f fd) (G : FnOk P w K mg base CX0 2 g gd ["_law_pen_here", "_law_some"] spPick) (bG : Binds K gd ["_law_pen_here", "_law_some"] []) (kG : PySem.W.keepIn K (.ref g) = true) (mG : mg "_law_pick" = some (.ref g)) :
    FnOk P w K mg base CX0 3 f fd ["_law_pen_here"] spOddL := by
  refine F.ok scOdd (fun vs H Q E h => ?_) (fun cdv A outer s H vs Q E hr h => ?_)
  · obtain ⟨p, c, X, n, rfl, _⟩ := h
    rfl
  obtain ⟨p, c, X, n, rfl, pen, al, ht, k⟩ := h
  refine ⟨_, pss_cons (ps_set (i := 1) scOdd.nd rfl (.inl rfl) (pd_lst
      (pd_cons (pd_non pe_non) <| pd_cons (pd_bl pe_bl) <| pd_cons (pd_bl pe_bl) <| pd_cons (pd_int pe_int) <| pd_cons (pd_int pe_int) <| pd_cons (pd_int (pd_neg pe_int)) <|
       pd_cons (pd_int (pd_pow pe_int pe_int)) <| pd_cons (pd_int (pd_pow pe_int pe_int)) <| pd_cons (pd_int (pd_neg (pd_pow pe_int pe_int))) <|
       pd_cons (pd_str pe_str) <| pd_cons (pd_str pe_str) <| pd_cons (pd_str pe_str) <| pd_cons (pd_str pe_str) <| pd_cons (pd_tup pd_nil) <| pd_cons (pd_tup (pd_cons (pd_int pe_int) pd_nil)) <|
       pd_cons (pd_lst pd_nil) <| pd_cons (pd_lst (pd_cons (pd_int pe_int) pd_nil)) <| pd_cons pd_d0 pd_nil))) <|
    pss_cons (ps_set (i := 1) scOdd.nd rfl (.inl rfl) (pe_op op_cat (pv 1) (pd_lst
      (pd_cons (pd_tup (pd_cons (pd_non pe_non) pd_nil)) <| pd_cons (pd_tup (pd_cons (pd_str pe_str) (pd_cons (pd_int pe_int) pd_nil))) <|
       pd_cons (pd_tup (pd_cons (pd_str pe_str) (pd_cons (pd_str pe_str) (pd_cons (pd_int pe_int) pd_nil)))) <|
       pd_cons (pd_tup (pd_cons (pd_tup (pd_cons (pd_str pe_str) (pd_cons (pd_str pe_str) (pd_cons (pd_int pe_int) pd_nil)))) pd_nil)) <|
       pd_cons (pd_lst (pd_cons (pd_tup (pd_cons (pd_str pe_str) (pd_cons (pd_str pe_str) (pd_cons (pd_int pe_int) pd_nil)))) pd_nil)) <|
       pd_cons (pd_d1 pe_str pe_int) <| pd_cons (pd_tup (pd_cons (pd_tup pd_nil) pd_nil)) pd_nil)))) <|
    pss_one (ps_ret (pe_call G hr rfl mG kG bG .nil pass0 (pa_cons (pv 0) (pa_cons (pe_op op_cat (pv 1) (pd_lst
      (pd_cons (pd_tup (pd_cons (pd_tup pd_nil) (pd_cons (pd_tup pd_nil) pd_nil))) <|
       pd_cons (pd_tup (pd_cons (pd_str pe_str) (pd_cons (pd_tup (pd_cons (pd_str pe_str) (pd_cons (pd_str pe_str) (pd_cons (pd_int pe_int) pd_nil)))) (pd_cons (pd_tup (pd_cons (pd_str pe_str) (pd_cons (pd_str pe_str) (pd_cons (pd_int pe_int) pd_nil)))) pd_nil)))) <|
       pd_cons (pd_tup (pd_cons (pd_str pe_str) (pd_cons (pd_str pe_str) (pd_cons (pd_str pe_str) (pd_cons (pd_int pe_int) pd_nil))))) pd_nil))) pa_nil)))), ?_⟩
  intro v1 H1 s1 r1
  obtain ⟨a1, xs1, rfl, h1, t1⟩ := r1.isList
  have z1 := t1.length
  refine ⟨_, rfl, fun v2 H2 s2 r2 => ?_⟩
  obtain ⟨a2, xs2, rfl, h2, t2⟩ := r2.isList
  have z2 := t2.length
  refine ⟨a1, a2, xs1, xs2, rfl, rfl, s2 _ _ (newP_all _ _ h1), newP_all _ _ h2, small (by rw [z1, z2]; decide), fun a3 n3 => ?_⟩
  have s3 := sameNew n3 (.lst (xs1 ++ xs2))
  refine ⟨_, rfl, _, rfl, fun v4 H4 s4 r4 => ?_⟩
  obtain ⟨a4, xs4, rfl, h4, t4⟩ := r4.isList
  have z4 := t4.length
  have h3 := s4 _ _ (upd_same (H := H2) (a := a3) (o := .lst (xs1 ++ xs2)))
  refine ⟨a3, a4, xs1 ++ xs2, xs4, rfl, rfl, h3, newP_all _ _ h4, small (by rw [List.length_append, z1, z2, z4]; decide), fun a5 n5 => ?_⟩
  have s5 := sameNew n5 (.lst (xs1 ++ xs2 ++ xs4))
  have sA : Same H (upd H4 a5 (.lst (xs1 ++ xs2 ++ xs4))) := s1.trans (s2.trans (s3.trans (s4.trans s5)))
  have tt : TrAll (newP H (upd H4 a5 (.lst (xs1 ++ xs2 ++ xs4)))) (xs1 ++ xs2 ++ xs4) odds := by
    refine TrAll.append (TrAll.append (t1.same (newP_grow (s2.trans (s3.trans (s4.trans s5))))) (t2.same ?_)) (t4.same ?_)
    · exact (newP_back s1).trans (newP_grow (s3.trans (s4.trans s5)))
    · exact (newP_back (s1.trans (s2.trans s3))).trans (newP_grow s5)
  refine .inl ⟨p, c, a5, n, _, rfl, pen.same sA, by omega, upd_same, (by rw [List.length_append, List.length_append, z1, z2, z4]; decide), (by rw [List.length_append, List.length_append, z1, z2, z4]; decide), fun x H' hx pen' sb => ?_⟩
  obtain ⟨i, hx⟩ := List.mem_iff_getElem?.mp hx
  obtain ⟨d, hd, hT⟩ := tt.get hx
  exact k x d H' (List.mem_of_getElem? hd) ((hT.same (newP_zn al)).same (zn_sb sb al.mem)) pen' ((Sb.same sA).trans sb)
end
end Pk
namespace Pk
open PySem L2
theorem lv_le {j k : Nat} (h : j ≤ k) {d : PyData} (hl : lv j d = true) : lv k d = true := by
  induction h with
  | refl => exact hl
  | step _ ih => exact lv_mono ih
theorem TrAll.drop {H : Hp} : ∀ {xs : List V} {ds : List PyData} (n : Nat), TrAll H xs ds → TrAll H (xs.drop n) (ds.drop n)
  | _, _, 0, h => h
  | _, _, _ + 1, .nil => .nil
  | _, _, n + 1, .cons _ t => TrAll.drop n t
theorem TrAll.rev {H : Hp} : ∀ {xs : List V} {ds : List PyData}, TrAll H xs ds → TrAll H xs.reverse ds.reverse
  | _, _, .nil => .nil
  | _, _, .cons h t => by
    rw [List.reverse_cons, List.reverse_cons]
    exact (TrAll.rev t).snoc h
theorem TrAll.set {H : Hp} {y : V} {e : PyData} (hy : Tr H y e) : ∀ {xs : List V} {ds : List PyData} (n : Nat), TrAll H xs ds → TrAll H (xs.set n y) (ds.set n e)
  | _, _, _, .nil => .nil
  | _, _, 0, .cons _ t => .cons hy t
  | _, _, n + 1, .cons h t => .cons h (TrAll.set hy n t)
theorem TrAll.erase {H : Hp} : ∀ {xs : List V} {ds : List PyData} (n : Nat), TrAll H xs ds → TrAll H (xs.eraseIdx n) (ds.eraseIdx n)
  | _, _, _, .nil => .nil
  | _, _, 0, .cons _ t => t
  | _, _, n + 1, .cons h t => .cons h (TrAll.erase n t)
def cutD (ds : List PyData) (lo hi : Option Int) : List PyData := (ds.drop (HT.sIx ds.length 0 lo)).take (HT.sIx ds.length ds.length hi - HT.sIx ds.length 0 lo)
theorem TrAll.cut {H : Hp} {xs : List V} {ds : List PyData} (h : TrAll H xs ds) (lo hi : Option Int) : TrAll H (cutV xs lo hi) (cutD ds lo hi) := by
  unfold cutV cutD
  rw [h.length]
  exact (h.drop _).take _
theorem cutD_mem {ds : List PyData} {lo hi : Option Int} {d : PyData} (h : d ∈ cutD ds lo hi) : d ∈ ds := List.mem_of_mem_drop (List.mem_of_mem_take h)
theorem bulk_take (ds : List PyData) (n : Nat) : PyData.bulkAll (ds.take n) + PyData.bulkAll (ds.drop n) = PyData.bulkAll ds := by rw [← bulk_app, List.take_append_drop]
theorem bulk_cut (ds : List PyData) (lo hi : Option Int) : PyData.bulkAll (cutD ds lo hi) ≤ PyData.bulkAll ds := by
  unfold cutD
  have h1 := bulk_take ds (HT.sIx ds.length 0 lo)
  have h2 := bulk_take (ds.drop (HT.sIx ds.length 0 lo)) (HT.sIx ds.length ds.length hi - HT.sIx ds.length 0 lo)
  omega
theorem bulk_rev : ∀ ds : List PyData, PyData.bulkAll ds.reverse = PyData.bulkAll ds
  | [] => rfl
  | d :: ds => by
    rw [List.reverse_cons, bulk_app, bulk_rev ds, PyData.bulkAll, PyData.bulkAll, PyData.bulkAll]
    omega
theorem bulk_set {d e : PyData} : ∀ {ds : List PyData} {i : Nat}, ds[i]? = some d → PyData.bulkAll (ds.set i e) + d.bulk = PyData.bulkAll ds + e.bulk
  | [], i, h => by simp at h
  | x :: xs, 0, h => by
    cases (show some x = some d from h)
    rw [List.set_cons_zero, PyData.bulkAll, PyData.bulkAll]
    omega
  | x :: xs, i + 1, h => by
    have q := bulk_set (e := e) (ds := xs) (i := i) h
    rw [List.set_cons_succ, PyData.bulkAll, PyData.bulkAll]
    omega
theorem bulk_erase : ∀ (ds : List PyData) (i : Nat), PyData.bulkAll (ds.eraseIdx i) ≤ PyData.bulkAll ds
  | [], i => by simp
  | x :: xs, 0 => by
    rw [List.eraseIdx_cons_zero, PyData.bulkAll]
    omega
  | x :: xs, i + 1 => by
    have := bulk_erase xs i
    rw [List.eraseIdx_cons_succ, PyData.bulkAll, PyData.bulkAll]
    omega
/-- a tuple (tp) or a list -/
def obj (tp : Bool) (xs : List V) : HO := if tp = true then .tup xs else .lst xs
def mkD (tp : Bool) (ds : List PyData) : PyData := if tp = true then .tuple ds else .list ds
theorem seq_of {H : Hp} {x : V} {d : PyData} (t : Tr H x d) (h : (isTup d || isLst d) = true) : ∃ a xs ds tp, x = .ref a ∧ H a = some (obj tp xs) ∧ TrAll H xs ds ∧ d = mkD tp ds := by
  cases t with
  | @lst a xs ds h' al => exact ⟨a, xs, ds, false, rfl, h', al, rfl⟩
  | @tup a xs ds h' al => exact ⟨a, xs, ds, true, rfl, h', al, rfl⟩
  | _ => cases h
theorem mk_bulk (tp : Bool) (ds : List PyData) : (mkD tp ds).bulk = PyData.bulkAll ds := by cases tp <;> rfl
theorem mk_lv (k : Nat) (tp : Bool) (ds : List PyData) : lv k (mkD tp ds) = lvs k ds := by cases tp <;> rfl
theorem mk_depth (tp : Bool) (ds : List PyData) : (mkD tp ds).depth = (PyData.tuple ds).depth := by cases tp <;> simp [mkD, PyData.depth]
theorem depth_tup (ds : List PyData) : (PyData.tuple ds).depth = PyData.depthAll ds + 1 := by simp [PyData.depth, Nat.add_comm]
theorem mk_isT (tp : Bool) (ds : List PyData) : isTup (mkD tp ds) = tp := by cases tp <;> rfl
theorem mk_isI (tp : Bool) (ds : List PyData) : isI (mkD tp ds) = false := by cases tp <;> rfl
theorem mk_isS (tp : Bool) (ds : List PyData) : isStr (mkD tp ds) = false := by cases tp <;> rfl
theorem sq_obj {K : PySem.W.Frag} {H : Hp} {a : Addr} {tp : Bool} {xs : List V} (h : H a = some (obj tp xs)) : SqL K H a xs ∨ SqT K H a xs := by
  cases tp with
  | true => exact .inr (SqT.of h)
  | false => exact .inl (SqL.of h)
theorem obj_pen {H : Hp} {p c a : Addr} {n : Int} {tp : Bool} {xs : List V} (P : PenC H p c n) (h : H a = some (obj tp xs)) : a ≠ p := by
  cases tp with
  | true => exact P.tupp h
  | false => exact P.lstp h
theorem tr_obj {H : Hp} {a : Addr} {tp : Bool} {xs : List V} {ds : List PyData} (h : H a = some (obj tp xs)) (al : TrAll H xs ds) : Tr H (.ref a) (mkD tp ds) := by
  cases tp with
  | true => exact .tup h al
  | false => exact .lst h al
theorem ix_obj {K : PySem.W.Frag} {H : Hp} {a : Addr} {tp : Bool} {xs : List V} {i : Int} {y : V} {Q : VK} (h : H a = some (obj tp xs)) (hi : atI xs i = some y) (q : Q y H) : rIx K (.ref a) (.int i) H Q := by
  cases tp with
  | true => exact .inr (.inl ⟨a, xs, i, y, rfl, rfl, SqT.of h, hi, q⟩)
  | false => exact .inl ⟨a, xs, i, y, rfl, rfl, SqL.of h, hi, q⟩
def spBent (m : Nat) : Sp := fun vs H Q _ => ∃ (p c : Addr) (X : List Addr) (n : Int) (k : Nat) (x : V) (d : PyData), vs = [.ref p, x] ∧ PenC H p c n ∧ Al p X H ∧ n + 4 * m ≤ 500000000 ∧ Tr (zn X H) x d ∧ lv k d = true ∧ k ≤ 5 ∧ d.bulk ≤ 30000 ∧ d.depth < m ∧ m ≤ 100 ∧
  ∀ (y : V) (d' : PyData) (H' : Hp), PenC H' p c (n + 4 * m) → Sb p H H' → Tr (zn X H') y d' → lv (k + 1) d' = true → d'.bulk ≤ 4 * d.bulk + 100 → d'.depth ≤ d.depth + 4 → Q y H'
abbrev nBent : List Str := ["_law_pen_here", "_law_thing", "_law_at", "_law_way", "_law_rows", "_law_pair", "_law_some"]
section
variable {P : Program} {w : World} {K : PySem.W.Frag} {mg : Str → Option Value} {base : Heap}
theorem scBent : FnScope nBent ["_law_pen_here", "_law_thing"] (defScope sBent) := ⟨rfl, rfl, rfl, by decide +kernel, rfl, by decide +kernel, by decide +kernel⟩
theorem bent_none {f : Addr} {fd : FuncData} {j : Nat} : FnOk P w K mg base CX0 j f fd ["_law_pen_here", "_law_thing"] (spBent 0) := by
  have no : ∀ vs H Q E, ¬ spBent 0 vs H Q E := fun vs H Q E h => by
    obtain ⟨p, c, X, n, k, x, d, _, _, _, _, _, _, _, _, h0, _⟩ := h
    omega
  exact ⟨fun vs H Q E h => absurd h (no vs H Q E), fun A outer s H args us vs Q E _ _ _ _ h => absurd h (no vs H Q E)⟩
set_option maxHeartbeats 4000000 in
theorem ok_bent1 {m : Nat} {f g g2 g3 : Addr} {fd gd gd2 gd3 : FuncData} (F : Fun K "_law_bent" "_law_bent" sBent f fd) (R : FnOk P w K mg base CX0 (m + 3) f fd ["_law_pen_here", "_law_thing"] (spBent m)) (bR : Binds K fd ["_law_pen_here", "_law_thing"] []) (mR : mg "_law_bent" = some (.ref f))
    (G : FnOk P w K mg base CX0 1 g gd ["_law_pen_here", "_law_many"] spDrawC) (bG : Binds K gd ["_law_pen_here", "_law_many"] []) (kG : PySem.W.keepIn K (.ref g) = true) (mG : mg "_law_draw" = some (.ref g))
    (G2 : FnOk P w K mg base CX0 2 g2 gd2 ["_law_pen_here", "_law_some"] spPick) (bG2 : Binds K gd2 ["_law_pen_here", "_law_some"] []) (kG2 : PySem.W.keepIn K (.ref g2) = true) (mG2 : mg "_law_pick" = some (.ref g2))
    (G3 : FnOk P w K mg base CX0 3 g3 gd3 ["_law_pen_here"] spOddL) (bG3 : Binds K gd3 ["_law_pen_here"] []) (kG3 : PySem.W.keepIn K (.ref g3) = true) (mG3 : mg "_law_odd" = some (.ref g3)) (B : Blt mg) :
    FnOk P w K mg base CX0 (m + 3 + 1) f fd ["_law_pen_here", "_law_thing"] (spBent (m + 1)) := by
  refine F.ok scBent (fun vs H Q E h => ?_) (fun cdv A outer s H vs Q E hr h => ?_)
  · obtain ⟨p, c, X, n, k, x, d, rfl, _⟩ := h
    rfl
  obtain ⟨p, c, X, n, kk, x, d, rfl, pen, al, hn, t, hlv, hkk, hbulk, hdep, hm, k⟩ := h
  have hu64 := hr.units
  have hr1 : Room 1 _ := hr.mono (by omega)
  have hr2 : Room 2 _ := hr.mono (by omega)
  have hr3 : Room 3 _ := hr.mono (by omega)
  refine ⟨_, pss_cons (ps_if (PW.pt (pw_and (pt_val (pe_callB call_isTL (by rfl) B.isinstance (by decide +kernel) (pa_cons (pv 1) (pa_cons (pe_tup (pa_cons (pe_bltn (v := .ty "tuple") (by rfl) B.tuple (by decide +kernel) rfl) (pa_cons (pe_bltn (v := .ty "list") (by rfl) B.list (by decide +kernel) rfl) pa_nil))) pa_nil))))
        (pw_and (pt_cmpR op_gt (pe_callB call_len_seq (by rfl) B.len PySem.boot_len (pa_cons (pv 1) pa_nil)) pe_int (nomark _)) (pw_and1 (pt_cmpR op_gt (pe_call G hr1 rfl mG kG bG .nil pass0 (pa_cons (pv 0) (pa_cons pe_int pa_nil))) pe_int (nomark _))))))
      (pss_cons (ps_par3 (i := 2) (j := 3) (l := 4) (by rfl) scBent.nd rfl rfl rfl (by decide) (by decide) (by decide) rfl rfl rfl (pa_cons (pe_call G hr1 rfl mG kG bG .nil pass0 (pa_cons (pv 0) (pa_cons (pe_callB call_len_seq (by rfl) B.len PySem.boot_len (pa_cons (pv 1) pa_nil)) pa_nil))) (pa_cons (pe_call G hr1 rfl mG kG bG .nil pass0 (pa_cons (pv 0) (pa_cons pe_int pa_nil))) (pa_cons (pe_callTy call_list_of (by rfl) B.list (by decide +kernel) (pa_cons (pv 1) pa_nil)) pa_nil))) (by rfl)) <|
       pss_cons (ps_if (pt_cmpR op_lt (pv 3) pe_int (nomark _)) (pss_one (ps_asg (pe_call R hr rfl mR F.kp bR .nil pass0 (pa_cons (pv 0) (pa_cons (pe_ix ix_seq (pv 1) (pv 2) (fun _ _ => rfl)) pa_nil))) (pg_sub (pv 4) (pv 2) set_list))) (pss_one (ps_if (pt_cmpR op_eq (pv 3) pe_int (nomark _)) (pss_one (ps_expr (pe_bm PySem.F.plainAttrs_list PySem.F.slot_list_pop PySem.F.type_list_pop mt_popAt (pv 4) (pa_cons (pv 2) pa_nil)))) (pss_one (ps_if (pt_cmpR op_eq (pv 3) pe_int (nomark _)) (pss_one (ps_expr (pe_bm PySem.F.plainAttrs_list PySem.F.slot_list_insert PySem.F.type_list_insert mt_insert (pv 4) (pa_cons (pv 2) (pa_cons (pe_ix ix_seq (pv 1) (pv 2) (fun _ _ => rfl)) pa_nil))))) (pss_one (ps_if (pt_cmpR op_eq (pv 3) pe_int (nomark _)) (pss_cons (ps_set (i := 5) scBent.nd rfl (.inl rfl) (pe_revL (pe_slice sl_list (pv 4) (po_some (pv 2)) (po_some (pe_op op_add (pv 2) pe_int))))) (pss_one (ps_set (i := 4) scBent.nd rfl (.inl rfl) (pe_op op_cat (pe_op op_cat (pe_slice sl_list (pv 4) po_none (po_some (pv 2))) (pv 5)) (pe_slice sl_list (pv 4) (po_some (pe_op op_add (pv 2) pe_int)) po_none))))) (pss_one (ps_ret (pe_ifExp (pt_val (pe_callB call_isT (by rfl) B.isinstance (by decide +kernel) (pa_cons (pv 1) (pa_cons (pe_bltn (v := .ty "tuple") (by rfl) B.tuple (by decide +kernel) rfl) pa_nil)))) (pe_callTy call_list_of (by rfl) B.list (by decide +kernel) (pa_cons (pv 1) pa_nil)) (pe_callTy call_tuple_of (by rfl) B.tuple (by decide +kernel) (pa_cons (pv 1) pa_nil)))))))))))) <|
       pss_one (ps_ret (pe_ifExp (pt_val (pe_callB call_isT (by rfl) B.isinstance (by decide +kernel) (pa_cons (pv 1) (pa_cons (pe_bltn (v := .ty "tuple") (by rfl) B.tuple (by decide +kernel) rfl) pa_nil)))) (pe_callTy call_tuple_of (by rfl) B.tuple (by decide +kernel) (pa_cons (pv 4) pa_nil)) (pv 4)))) pss_nil) <|
    pss_cons (ps_if (PW.pt (pw_and (pt_val (pe_callB call_isT (by rfl) B.isinstance (by decide +kernel) (pa_cons (pv 1) (pa_cons (pe_bltn (v := .ty "int") (by rfl) B.int (by decide +kernel) rfl) pa_nil)))) (pw_and1 (pt_cmpR op_gt (pe_call G hr1 rfl mG kG bG .nil pass0 (pa_cons (pv 0) (pa_cons pe_int pa_nil))) pe_int (nomark _)))))
      (pss_cons (ps_set (i := 6) scBent.nd rfl (.inl rfl) (pe_lst (pa_cons (pe_op op_addN (pv 1) pe_int) <| pa_cons (pe_op op_subN (pv 1) pe_int) <| pa_cons (pe_op op_subM pe_int (pv 1)) <| pa_cons (pe_cmpR (op_eqD hu64) (pv 1) pe_int (nomark _)) <| pa_cons (pe_callTy call_strN (by rfl) B.str (by decide +kernel) (pa_cons (pv 1) pa_nil)) <| pa_cons pe_non <| pa_cons (pe_tup (pa_cons (pv 1) pa_nil)) <| pa_cons (pe_lst (pa_cons (pv 1) pa_nil)) <| pa_cons (pe_op op_add (pd_pow pe_int pe_int) pe_int) pa_nil)))
      (pss_one (ps_ret (pe_call G2 hr2 rfl mG2 kG2 bG2 .nil pass0 (pa_cons (pv 0) (pa_cons (pe_op op_cat (pv 6) (pe_lst (pa_cons (pe_op op_add (pd_pow pe_int pe_int) pe_int) <| pa_cons (pe_op op_sub (pd_neg (pd_pow pe_int pe_int)) pe_int) <| pa_cons (pe_op op_add (pd_pow pe_int pe_int) pe_int) <| pa_cons (pe_op op_sub (pd_neg (pd_pow pe_int pe_int)) pe_int) pa_nil))) pa_nil)))))) pss_nil) <|
    pss_cons (ps_if (PW.pt (pw_and (pt_val (pe_callB call_isT (by rfl) B.isinstance (by decide +kernel) (pa_cons (pv 1) (pa_cons (pe_bltn (v := .ty "str") (by rfl) B.str (by decide +kernel) rfl) pa_nil)))) (pw_and1 (pt_cmpR op_gt (pe_call G hr1 rfl mG kG bG .nil pass0 (pa_cons (pv 0) (pa_cons pe_int pa_nil))) pe_int (nomark _)))))
      (pss_cons (ps_set (i := 6) scBent.nd rfl (.inl rfl) (pe_lst (pa_cons (pe_op op_add_str (pv 1) pe_str) <| pa_cons (pe_slice sl_str (pv 1) po_none (po_some (pd_neg pe_int))) <| pa_cons (pe_upper (pv 1)) <| pa_cons (pe_op op_add_str (pv 1) pe_str) <| pa_cons pe_str <| pa_cons pe_str <| pa_cons pe_str <| pa_cons pe_str <| pa_cons pe_str <| pa_cons pe_str <| pa_cons pe_str pa_nil)))
      (pss_one (ps_ret (pe_call G2 hr2 rfl mG2 kG2 bG2 .nil pass0 (pa_cons (pv 0) (pa_cons (pe_op op_cat (pv 6) (pe_lst (pa_cons pe_str <| pa_cons pe_str <| pa_cons pe_str <| pa_cons (pe_tup (pa_cons (pv 1) pa_nil)) <| pa_cons (pe_op op_add_str (pe_slice sl_str (pv 1) po_none (po_some (pd_neg pe_int))) pe_str) <| pa_cons (pe_op op_add_str pe_str (pe_slice sl_str (pv 1) (po_some pe_int) po_none)) pa_nil))) pa_nil)))))) pss_nil) <|
    pss_one (ps_ret (pe_call G3 hr3 rfl mG3 kG3 bG3 .nil pass0 (pa_cons (pv 0) pa_nil))), ?_⟩
  refine ⟨_, rfl, by show 2 ≤ sizeLine; decide, fun tp ntp => ?_⟩
  have stp := sameNew ntp (.tup [.ty "tuple", .ty "list"])
  refine ⟨x, tp, d, rfl, upd_same, (t.same zn_le).same stp, _, rfl, ?_⟩
  have pen1 := pen.same stp
  have al1 := al.same stp
  have t1 := t.same (zn_mono stp)
  have sb1 : Sb p H _ := Sb.same stp
  generalize L2.upd H tp (.tup [.ty "tuple", .ty "list"]) = H1 at pen1 al1 t1 sb1
  clear stp ntp
  have oddq : ∀ (H1 : Hp) (n1 : Int), PenC H1 p c n1 → n1 ≤ n + 2 → Sb p H H1 → spOddL [.ref p] H1 Q E0 := fun H1 n1 pen1 h1 sb1 => by
    refine ⟨p, c, X, n1, rfl, pen1, al.sb sb1 pen1, by omega, fun y d' H' hd T' pen2 sb2 => ?_⟩
    obtain ⟨o1, o2, o3⟩ := odd_lv hd
    exact k y d' H' (pen2.mono (by omega)) (sb1.trans sb2) T' (lv_le (by omega) o1) (by omega) (by omega)
  have Tat : ∀ {H2 : Hp}, Sb p H H2 → Tr H2 x d := fun s2 => (t.same (zn_sb s2 al.mem)).same zn_le
  cases hc : (isTup d || isLst d) with
  | true =>
    refine iteT ?_
    obtain ⟨a, xs, ds, b, rfl, ha0, al', rfl⟩ := seq_of t hc
    have hxl := al'.length
    have ap : a ≠ p := fun z => (zn_some ha0).1 (by rw [z]; exact al.mem)
    have haH := zn_le _ _ ha0
    have hat' : ∀ {H2 : Hp}, Sb p H H2 → H2 a = some (obj b xs) := fun s2 => s2.to ap haH
    have hblk : PyData.bulkAll ds ≤ 30000 := by rw [mk_bulk] at hbulk; exact hbulk
    have hln := bulk_len ds
    rw [mk_lv] at hlv
    rw [mk_bulk, mk_depth, depth_tup] at k
    rw [mk_depth, depth_tup] at hdep
    refine ⟨_, rfl, a, xs, rfl, sq_obj (hat' sb1), _, _, rfl, rfl, _, rfl, ?_⟩
    refine ite2 (fun c1 => ?_) (fun c1 => ?_)
    rotate_left
    · refine ⟨_, rfl, .ref a, "int", mkD b ds, isI, rfl, kI, Tat sb1, _, rfl, ?_⟩
      rw [mk_isI]
      refine iteF ⟨_, rfl, .ref a, "str", mkD b ds, isStr, rfl, kS, Tat sb1, _, rfl, ?_⟩
      rw [mk_isS]
      exact iteF ⟨_, rfl, oddq _ _ pen1 (by omega) sb1⟩
    have c1' := of_decide_eq_true c1
    refine ⟨_, rfl, p, c, n, _, rfl, pen1, by omega, by decide, by decide, fun v2 H2 _ _ pen2 sb2' => ⟨_, _, rfl, rfl, _, rfl, ?_⟩⟩
    have sb2 := sb1.trans sb2'
    refine ite2 (fun _ => ?_) (fun _ => ?_)
    rotate_left
    · refine ⟨_, rfl, .ref a, "int", mkD b ds, isI, rfl, kI, Tat sb2, _, rfl, ?_⟩
      rw [mk_isI]
      refine iteF ⟨_, rfl, .ref a, "str", mkD b ds, isStr, rfl, kS, Tat sb2, _, rfl, ?_⟩
      rw [mk_isS]
      exact iteF ⟨_, rfl, oddq _ _ pen2 (by omega) sb2⟩
    refine ⟨_, rfl, _, rfl, a, xs, rfl, sq_obj (hat' sb2), p, c, _, _, rfl, pen2, by omega, by omega, by omega, fun at_ H3 a0 a1 pen3 sb3' => ?_⟩
    refine ⟨_, rfl, p, c, _, _, rfl, pen3, by omega, by decide, by decide, fun way H4 w0 w1 pen4 sb4' => ?_⟩
    have sb4 := sb2.trans (sb3'.trans sb4')
    refine ⟨_, rfl, a, xs, rfl, sq_obj (hat' sb4), fun R nR => ?_⟩
    refine ⟨_, _, _, rfl, ?_⟩
    have sR := sameNew nR (.lst xs)
    have al4 := al.sb sb4 pen4
    have RX := al4.out nR
    have Rp := pen4.newp nR
    have Rc := pen4.newc nR
    have nRH : H R = none := sb4.free Rp nR
    have sb5 := sb4.trans (Sb.same sR)
    have pen5 := pen4.same sR
    have hR5 : L2.upd H4 R (.lst xs) R = some (.lst xs) := upd_same
    have al5 : Al p (R :: X) (L2.upd H4 R (.lst xs)) := al4.new nR
    have tr5 : TrAll (zn (R :: X) (L2.upd H4 R (.lst xs))) xs ds := (al'.same ((zn_sb sb4 al.mem).trans (zn_fresh nR))).same (zn_mono sR)
    generalize L2.upd H4 R (.lst xs) = H5 at sb5 pen5 hR5 al5 tr5
    clear sR nR sb4 sb3' sb4' sb2' pen4 pen3 pen2 pen1 al4 sb2 sb1 al1 t1 c1
    have hai : at_.toNat < xs.length := by omega
    have ea : ((at_.toNat : Nat) : Int) = at_ := by omega
    have hy : xs[at_.toNat]? = some xs[at_.toNat] := List.getElem?_eq_getElem hai
    obtain ⟨dy, hdy, Ty⟩ := tr5.get hy
    have hdm : dy ∈ ds := List.mem_of_getElem? hdy
    have hat : atI xs at_ = some xs[at_.toNat] := by
      have q := atV hy
      rw [ea] at q
      exact q
    have bdy := bulk_mem hdm
    have ddy := depth_mem hdm
    have end_ : ∀ (R6 : Addr) (rows : List V) (es : List PyData) (H6 : Hp), R6 ∉ X → H6 R6 = some (.lst rows) → TrAll (zn X H6) rows es → lvs (kk + 1) es = true → PyData.bulkAll es ≤ 4 * PyData.bulkAll ds + 100 → PyData.depthAll es ≤ PyData.depthAll ds + 4 → PenC H6 p c (n + 3 + 4 * m) → Sb p H H6 → (b = true → ∀ t, H6 t = none → Q (.ref t) (L2.upd H6 t (.tup rows))) ∧ (b = false → Q (.ref R6) H6) := fun R6 rows es H6 x6 h6 tr6 l6 b6 d6 pen6 sb6 => by
      refine ⟨fun _ t nt => ?_, fun _ => ?_⟩
      · refine k _ (.tuple es) _ ((pen6.same (sameNew nt _)).mono (by omega)) (sb6.trans (Sb.same (sameNew nt _))) (.tup ?_ (tr6.same (zn_mono (sameNew nt _)))) (by simpa only [lv] using l6) (by simpa only [PyData.bulk] using b6) (by rw [depth_tup]; omega)
        rw [zn_out ((al.sb sb6 pen6).out nt), upd_same]
      · refine k _ (.list es) _ (pen6.mono (by omega)) sb6 (.lst (by rw [zn_out x6]; exact h6) tr6) (by simpa only [lv] using l6) (by simpa only [PyData.bulk] using b6) ?_
        have := depth_tup es
        simp only [PyData.depth] at this ⊢
        omega
    have sub : ∀ es : List PyData, (∀ e ∈ es, e ∈ ds) → lvs (kk + 1) es = true ∧ PyData.depthAll es ≤ PyData.depthAll ds + 4 := fun es h =>
      ⟨lvs_all fun e he => lv_mono (lvs_mem hlv (h e he)), Nat.le_trans (depth_all fun e he => depth_mem (h e he)) (by omega)⟩
    refine ⟨_, rfl, _, _, rfl, rfl, _, rfl, ?_⟩
    refine ite2 (fun _ => ?_) (fun _ => ?_)
    · refine ⟨_, rfl, _, rfl, _, rfl, ix_obj (hat' sb5) hat ?_⟩
      refine ⟨p, c, R :: X, n + 3, kk, _, dy, rfl, pen5.mono (by omega), al5, by omega, Ty, lvs_mem hlv hdm, hkk, by omega, by omega, by omega, fun z d1 H6 pen6 sb6 T6 l6 b6 dp6 => ?_⟩
      have hR6 := sb6.to Rp hR5
      have sb7 := sb5.trans sb6
      refine ⟨_, rfl, _, rfl, R, xs, at_, at_.toNat, rfl, rfl, hR6, by unfold ixN; rw [if_pos a0, if_pos (by omega)], ?_⟩
      have tr6 := (tr5.same (zn_sb sb6 al5.mem)).set T6 at_.toNat
      have sb8 : Sb p H (L2.upd H6 R (.lst (xs.set at_.toNat z))) := sb7.new nRH Rp _
      have bs := bulk_set (e := d1) hdy
      have el := end_ R (xs.set at_.toNat z) (ds.set at_.toNat d1) _ RX upd_same ((tr6.same (zn_upd List.mem_cons_self)).same zn_drop) (lvs_all fun e he => by
        rcases List.mem_or_eq_of_mem_set he with he | he
        · exact lv_mono (lvs_mem hlv he)
        · rw [he]; exact l6) (by omega) (depth_all fun e he => by
        rcases List.mem_or_eq_of_mem_set he with he | he
        · have := depth_mem he; omega
        · rw [he]; omega) (pen6.upd Rp Rc _) sb8
      refine ⟨_, rfl, .ref a, "tuple", mkD b ds, isTup, rfl, kT, Tat sb8, _, rfl, ?_⟩
      rw [mk_isT]
      obtain ⟨q1, q2⟩ := el
      cases b with
      | true => exact iteT ⟨_, rfl, R, _, rfl, .inl ⟨SqL.of upd_same, q1 rfl⟩⟩
      | false => exact iteF ⟨_, rfl, q2 rfl⟩
    refine ⟨_, rfl, rfl, _, rfl, ?_⟩
    refine ite2 (fun _ => ?_) (fun _ => ?_)
    · refine ⟨_, rfl, .inl ⟨rfl, _, SqL.of hR5⟩, _, rfl, R, xs, at_, at_.toNat, _, rfl, rfl, hR5, by omega, by omega, seqIx a0 (by omega), hy, ?_⟩
      have sb8 : Sb p H (L2.upd H5 R (.lst (xs.eraseIdx at_.toNat))) := sb5.new nRH Rp _
      obtain ⟨l8, d8⟩ := sub (ds.eraseIdx at_.toNat) fun e he => List.mem_of_mem_eraseIdx he
      have be := bulk_erase ds at_.toNat
      obtain ⟨q1, q2⟩ := end_ R (xs.eraseIdx at_.toNat) (ds.eraseIdx at_.toNat) _ RX upd_same (((tr5.erase _).same (zn_upd List.mem_cons_self)).same zn_drop) l8 (by omega) d8 ((pen5.upd Rp Rc _).mono (by omega)) sb8
      refine ⟨_, rfl, .ref a, "tuple", mkD b ds, isTup, rfl, kT, Tat sb8, _, rfl, ?_⟩
      rw [mk_isT]
      cases b with
      | true => exact iteT ⟨_, rfl, R, _, rfl, .inl ⟨SqL.of upd_same, q1 rfl⟩⟩
      | false => exact iteF ⟨_, rfl, q2 rfl⟩
    refine ⟨_, rfl, rfl, _, rfl, ?_⟩
    refine ite2 (fun _ => ?_) (fun _ => ?_)
    · refine ⟨_, rfl, .inl ⟨rfl, _, SqL.of hR5⟩, _, rfl, _, rfl, _, rfl, ix_obj (hat' sb5) hat ?_⟩
      refine ⟨R, xs, at_, _, rfl, rfl, hR5, by have := sizeLine_eq; omega, a0, by omega, ?_⟩
      have sb8 : Sb p H (L2.upd H5 R (.lst (xs.take at_.toNat ++ [xs[at_.toNat]] ++ xs.drop at_.toNat))) := sb5.new nRH Rp _
      obtain ⟨l8, d8⟩ := sub (ds.take at_.toNat ++ [dy] ++ ds.drop at_.toNat) fun e he => by
        rcases List.mem_append.mp he with he | he
        · rcases List.mem_append.mp he with he | he
          · exact List.mem_of_mem_take he
          · rw [List.mem_singleton.mp he]; exact hdm
        · exact List.mem_of_mem_drop he
      have bt := bulk_take ds at_.toNat
      obtain ⟨q1, q2⟩ := end_ R (xs.take at_.toNat ++ [xs[at_.toNat]] ++ xs.drop at_.toNat) (ds.take at_.toNat ++ [dy] ++ ds.drop at_.toNat) _ RX upd_same ((((tr5.take _).snoc Ty).append (tr5.drop _)).same (zn_upd List.mem_cons_self) |>.same zn_drop) l8 (by rw [bulk_app, bulk_app, PyData.bulkAll, PyData.bulkAll]; omega) d8 ((pen5.upd Rp Rc _).mono (by omega)) sb8
      refine ⟨_, rfl, .ref a, "tuple", mkD b ds, isTup, rfl, kT, Tat sb8, _, rfl, ?_⟩
      rw [mk_isT]
      cases b with
      | true => exact iteT ⟨_, rfl, R, _, rfl, .inl ⟨SqL.of upd_same, q1 rfl⟩⟩
      | false => exact iteF ⟨_, rfl, q2 rfl⟩
    refine ⟨_, rfl, rfl, _, rfl, ?_⟩
    refine ite2 (fun _ => ?_) (fun _ => ?_)
    · refine ⟨_, rfl, _, rfl, at_, rfl, _, rfl, _, _, rfl, rfl, _, rfl, R, _, rfl, SqL.of hR5, fun q1 n1 => ?_⟩
      have s1 := sameNew n1 (.lst (cutV xs (some at_) (some (at_ + 2))))
      refine ⟨q1, _, rfl, SqL.of upd_same, fun q2 n2 => ?_⟩
      have s2 := sameNew n2 (.lst (cutV xs (some at_) (some (at_ + 2))).reverse)
      have hR6 := s2 _ _ (s1 _ _ hR5)
      refine ⟨_, rfl, _, rfl, at_, rfl, R, _, rfl, SqL.of hR6, fun q3 n3 => ?_⟩
      have s3 := sameNew n3 (.lst (cutV xs none (some at_)))
      have lc1 := cutV_length xs (some at_) (some (at_ + 2))
      have lc2 := cutV_length xs none (some at_)
      have lc3 := cutV_length xs (some (at_ + 2)) none
      have szl := sizeLine_eq
      refine ⟨_, rfl, q3, q2, _, _, rfl, rfl, upd_same, s3 _ _ upd_same, by rw [List.length_reverse]; omega, fun q4 n4 => ?_⟩
      have s4 := sameNew n4 (.lst (cutV xs none (some at_) ++ (cutV xs (some at_) (some (at_ + 2))).reverse))
      refine ⟨_, rfl, _, rfl, _, _, rfl, rfl, _, rfl, R, _, rfl, SqL.of (s4 _ _ (s3 _ _ hR6)), fun q5 n5 => ?_⟩
      have s5 := sameNew n5 (.lst (cutV xs (some (at_ + 2)) none))
      refine ⟨q4, q5, _, _, rfl, rfl, s5 _ _ upd_same, upd_same, by rw [List.length_append, List.length_reverse]; omega, fun q6 n6 => ?_⟩
      have s6 := sameNew n6 (.lst (cutV xs none (some at_) ++ (cutV xs (some at_) (some (at_ + 2))).reverse ++ cutV xs (some (at_ + 2)) none))
      have sA := s1.trans (s2.trans (s3.trans (s4.trans (s5.trans s6))))
      have sb8 := sb5.trans (Sb.same sA)
      have x6 : q6 ∉ X := fun z => (al5.same (s1.trans (s2.trans (s3.trans (s4.trans s5))))).out n6 (List.mem_cons_of_mem _ z)
      obtain ⟨l8, d8⟩ := sub (cutD ds none (some at_) ++ (cutD ds (some at_) (some (at_ + 2))).reverse ++ cutD ds (some (at_ + 2)) none) fun e he => by
        rcases List.mem_append.mp he with he | he
        · rcases List.mem_append.mp he with he | he
          · exact cutD_mem he
          · exact cutD_mem (List.mem_reverse.mp he)
        · exact cutD_mem he
      have b1 := bulk_cut ds none (some at_)
      have b2 := bulk_cut ds (some at_) (some (at_ + 2))
      have b3 := bulk_cut ds (some (at_ + 2)) none
      obtain ⟨w1, w2⟩ := end_ q6 _ (cutD ds none (some at_) ++ (cutD ds (some at_) (some (at_ + 2))).reverse ++ cutD ds (some (at_ + 2)) none) _ x6 upd_same (((((tr5.cut _ _).append (tr5.cut _ _).rev).append (tr5.cut _ _)).same (zn_mono sA)).same zn_drop) l8 (by rw [bulk_app, bulk_app, bulk_rev]; omega) d8 ((pen5.same sA).mono (by omega)) sb8
      refine ⟨_, rfl, .ref a, "tuple", mkD b ds, isTup, rfl, kT, Tat sb8, _, rfl, ?_⟩
      rw [mk_isT]
      cases b with
      | true => exact iteT ⟨_, rfl, q6, _, rfl, .inl ⟨SqL.of upd_same, w1 rfl⟩⟩
      | false => exact iteF ⟨_, rfl, w2 rfl⟩
    · obtain ⟨l8, d8⟩ := sub ds fun e he => he
      have tr6 := tr5.same zn_drop
      have al6 := al.sb sb5 pen5
      refine ⟨_, rfl, .ref a, "tuple", mkD b ds, isTup, rfl, kT, Tat sb5, _, rfl, ?_⟩
      rw [mk_isT]
      cases b with
      | true =>
        refine iteT ⟨_, rfl, a, _, rfl, sq_obj (hat' sb5), fun l nl => ?_⟩
        refine k _ (.list ds) _ ((pen5.same (sameNew nl _)).mono (by omega)) (sb5.trans (Sb.same (sameNew nl _))) (.lst ?_ (tr6.same (zn_mono (sameNew nl _)))) (by simpa only [lv] using l8) (by simp only [PyData.bulk]; omega) ?_
        · rw [zn_out (al6.out nl), upd_same]
        · have := depth_tup ds
          simp only [PyData.depth] at this ⊢
          omega
      | false =>
        refine iteF ⟨_, rfl, a, _, rfl, .inl ⟨SqL.of (hat' sb5), fun l nl => ?_⟩⟩
        refine k _ (.tuple ds) _ ((pen5.same (sameNew nl _)).mono (by omega)) (sb5.trans (Sb.same (sameNew nl _))) (.tup ?_ (tr6.same (zn_mono (sameNew nl _)))) (by simpa only [lv] using l8) (by simp only [PyData.bulk]; omega) (by rw [depth_tup]; omega)
        rw [zn_out (al6.out nl), upd_same]
  | false =>
    refine iteF ?_
    refine ⟨_, rfl, x, "int", d, isI, rfl, kI, Tat sb1, _, rfl, ?_⟩
    have szl := sizeLine_eq
    have big : (10000000000000000000000 : Nat) ≤ 10 ^ 60 := by decide +kernel
    have fg := farG
    have gg := greatG
    cases hi : isI d with
    | true =>
      refine iteT ?_
      have hstr : isStr d = false := by cases d <;> first | rfl | cases hi
      refine ⟨_, rfl, p, c, n, _, rfl, pen1, by omega, by decide, by decide, fun v2 H2 _ _ pen2 sb2' => ⟨_, _, rfl, rfl, _, rfl, ?_⟩⟩
      have sb2 := sb1.trans sb2'
      refine ite2 (fun _ => ?_) (fun _ => ?_)
      rotate_left
      · refine ⟨_, rfl, x, "str", d, isStr, rfl, kS, Tat sb2, _, rfl, ?_⟩
        rw [hstr]
        exact iteF ⟨_, rfl, oddq _ _ pen2 (by omega) sb2⟩
      obtain ⟨i, hnum, hib, hflat, hdp, hsh, htx1, htx2, hb0, hd0⟩ : ∃ i, numV x = some i ∧ i.natAbs ≤ 10 ^ 60 + kk ∧ (∀ H', Tr H' x d) ∧ (∀ H', Dp K H' x d) ∧ SeqAt.shaped d = true ∧ (textV x).length ≤ 100 ∧ (∀ c ∈ (textV x).cps.toList, c ≤ 1114112) ∧ d.bulk = 0 ∧ d.depth = 0 := by
        cases t with
        | int i =>
          have hl : i.natAbs ≤ 10 ^ 60 + kk := by simpa only [lv, decide_eq_true_eq] using hlv
          exact ⟨i, rfl, hl, fun _ => .int i, fun _ => .int i, shaped_of (by simp only [PyData.canLay0]) (by simp [PyData.depth]), (by have q := (int_short (by omega) hl).2; simp only [PyData.shown] at q; exact q), ofS_le _, rfl, by simp only [PyData.depth]⟩
        | bl v =>
          refine ⟨_, rfl, ?_, fun _ => .bl v, fun _ => .bl v, shaped_of (by simp only [PyData.canLay0]) (by simp [PyData.depth]), ?_, ?_, rfl, by simp only [PyData.depth]⟩
          · cases v <;> simp <;> omega
          · cases v <;> decide +kernel
          · cases v <;> exact ofS_le _
        | _ => cases hi
      rw [hb0, hd0] at k
      obtain ⟨hlog, _⟩ := int_short (by omega) hib
      refine ⟨_, rfl, i, 1, hnum, rfl, _, rfl, i, 1, hnum, rfl, _, rfl, 0, i, rfl, hnum, _, rfl, d, .int 1, hdp _, .int 1, hsh, shaped_of (by simp only [PyData.canLay0]) (by simp [PyData.depth]), _, rfl, x, i, rfl, hnum, hlog, _, rfl, by show 1 ≤ sizeLine; decide, fun t1 n1 => ?_⟩
      have s1 := sameNew n1 (.tup [x])
      refine ⟨_, rfl, by show 1 ≤ sizeLine; decide, fun l1 m1 => ?_⟩
      have s2 := sameNew m1 (.lst [x])
      refine ⟨_, _, rfl, rfl, by show 9 ≤ sizeLine; decide, fun S nS => ?_⟩
      have s3 := sameNew nS (.lst [.int (i + 1), .int (i - 1), .int (0 - i), .bl (PyData.eqv d (.int 1)), .str (textV x), .non, .ref t1, .ref l1, .int (10 ^ (6 : Int).toNat + 1)])
      refine ⟨_, rfl, _, rfl, _, _, rfl, rfl, _, _, rfl, rfl, _, _, rfl, rfl, _, _, rfl, rfl, by show 4 ≤ sizeLine; decide, fun S2 nS2 => ?_⟩
      have s4 := sameNew nS2 (.lst [.int (10 ^ (18 : Int).toNat + 1), .int (-10 ^ (18 : Int).toNat - 1), .int (10 ^ (20 : Int).toNat + 1), .int (-10 ^ (20 : Int).toNat - 1)])
      refine ⟨S, S2, _, _, rfl, rfl, s4 _ _ upd_same, upd_same, by show 9 + 4 ≤ sizeLine; decide, fun S3 nS3 => ?_⟩
      have s5 := sameNew nS3 (.lst ([.int (i + 1), .int (i - 1), .int (0 - i), .bl (PyData.eqv d (.int 1)), .str (textV x), .non, .ref t1, .ref l1, .int (10 ^ (6 : Int).toNat + 1)] ++ [.int (10 ^ (18 : Int).toNat + 1), .int (-10 ^ (18 : Int).toNat - 1), .int (10 ^ (20 : Int).toNat + 1), .int (-10 ^ (20 : Int).toNat - 1)]))
      have sA := s1.trans (s2.trans (s3.trans (s4.trans s5)))
      refine .inl ⟨p, c, S3, _, _, rfl, pen2.same sA, by omega, upd_same, by simp, by simp, fun y H9 hy pen9 sb9' => ?_⟩
      have sb9 := sb2.trans ((Sb.same sA).trans sb9')
      have ki : ∀ j : Int, j.natAbs ≤ 10 ^ 60 + kk + 1 → Q (.int j) H9 := fun j hj => k _ (.int j) H9 (pen9.mono (by omega)) sb9 (.int j) (by simp only [lv, decide_eq_true_eq]; omega) (by simp only [PyData.bulk]; omega) (by simp only [PyData.depth]; omega)
      have al2 := al.sb sb2 pen2
      have x1 := al2.out n1
      have x2 := (al2.same s1).out m1
      have q1 : H9 t1 = some (.tup [x]) := sb9'.to (pen2.newp n1) (s5 _ _ (s4 _ _ (s3 _ _ (s2 _ _ upd_same))))
      have q2 : H9 l1 = some (.lst [x]) := sb9'.to ((pen2.same s1).newp m1) (s5 _ _ (s4 _ _ (s3 _ _ upd_same)))
      rw [e6, e18, e20] at hy
      simp only [List.mem_append, List.mem_cons, List.not_mem_nil, or_false] at hy
      rcases hy with (rfl | rfl | rfl | rfl | rfl | rfl | rfl | rfl | rfl) | (rfl | rfl | rfl | rfl)
      · exact ki _ (by omega)
      · exact ki _ (by omega)
      · exact ki _ (by omega)
      · exact k _ (.bool _) H9 (pen9.mono (by omega)) sb9 (.bl _) rfl (by simp only [PyData.bulk]; omega) (by simp only [PyData.depth]; omega)
      · refine k _ (.str _) H9 (pen9.mono (by omega)) sb9 (.str _) ?_ (by simp only [PyData.bulk]; exact htx1) (by simp only [PyData.depth]; omega)
        simp only [lv, List.all_eq_true, decide_eq_true_eq]
        intro ch hch
        have := htx2 ch hch
        omega
      · exact k _ .none H9 (pen9.mono (by omega)) sb9 .non rfl (by simp only [PyData.bulk]; omega) (by simp only [PyData.depth]; omega)
      · refine k _ (.tuple [d]) H9 (pen9.mono (by omega)) sb9 (.tup (by rw [zn_out x1]; exact q1) (.cons (hflat _) .nil)) ?_ (by simp only [PyData.bulk, PyData.bulkAll]; omega) (by rw [depth_tup]; simp only [PyData.depthAll]; omega)
        rw [lv, lvs, lvs, lv_mono hlv]
        rfl
      · refine k _ (.list [d]) H9 (pen9.mono (by omega)) sb9 (.lst (by rw [zn_out x2]; exact q2) (.cons (hflat _) .nil)) ?_ (by simp only [PyData.bulk, PyData.bulkAll]; omega) (by simp only [PyData.depth, PyData.depthAll]; omega)
        rw [lv, lvs, lvs, lv_mono hlv]
        rfl
      · exact ki _ (by omega)
      · exact ki _ (by omega)
      · exact ki _ (by omega)
      · exact ki _ (by omega)
      · exact ki _ (by omega)
    | false =>
      refine iteF ⟨_, rfl, x, "str", d, isStr, rfl, kS, Tat sb1, _, rfl, ?_⟩
      cases hs : isStr d with
      | false => exact iteF ⟨_, rfl, oddq _ _ pen1 (by omega) sb1⟩
      | true =>
        refine iteT ?_
        obtain ⟨z, rfl⟩ : ∃ z, d = .str z := by cases d <;> first | exact ⟨_, rfl⟩ | cases hs
        cases t with
        | str _ =>
        refine ⟨_, rfl, p, c, n, _, rfl, pen1, by omega, by decide, by decide, fun v2 H2 _ _ pen2 sb2' => ⟨_, _, rfl, rfl, _, rfl, ?_⟩⟩
        have sb2 := sb1.trans sb2'
        refine ite2 (fun _ => ?_) (fun _ => ?_)
        rotate_left
        · exact ⟨_, rfl, oddq _ _ pen2 (by omega) sb2⟩
        have hzl : z.length ≤ 30000 := by simp only [PyData.bulk] at hbulk; exact hbulk
        have hzb : (PyData.str z).bulk = z.length := by simp only [PyData.bulk]; rfl
        have hzd : (PyData.str z).depth = 0 := by simp only [PyData.depth]
        rw [hzb, hzd] at k
        have hzc : ∀ c ∈ z.cps.toList, c ≤ 2000000 * (kk + 1) := by simpa only [lv, List.all_eq_true, decide_eq_true_eq] using hlv
        have la : ("a" : Str).length = 1 := by decide +kernel
        have ls : (" " : Str).length = 1 := by decide +kernel
        have l1' : ("1" : Str).length = 1 := by decide +kernel
        have lu : ("_" : Str).length = 1 := by decide +kernel
        have cl1 := cutS_len z none (some (-1))
        have cl2 := cutS_len z (some 1) none
        refine ⟨_, rfl, _, _, rfl, rfl, by rw [la]; omega, _, rfl, _, rfl, z, rfl, by omega, _, rfl, ⟨_, rfl⟩, z, rfl, rfl, by omega, _, rfl, _, _, rfl, rfl, by rw [ls]; omega, by show 11 ≤ sizeLine; decide, fun S nS => ?_⟩
        have s3 := sameNew nS (.lst [.str (z ++ "a"), .str (cutS z none (some (-1))), .str (Txt.upper z), .str (z ++ " "), .str "", .str "least", .str "most", .str "off", .str "one", .str "both", .str "up"])
        refine ⟨_, rfl, _, rfl, _, rfl, by show 1 ≤ sizeLine; decide, fun t1 n1 => ?_⟩
        have s1 := sameNew n1 (.tup [.str z])
        refine ⟨_, rfl, _, rfl, z, rfl, by omega, _, _, rfl, rfl, by rw [l1']; omega, _, rfl, _, rfl, z, rfl, by omega, _, _, rfl, rfl, by rw [lu]; omega, by show 6 ≤ sizeLine; decide, fun S2 nS2 => ?_⟩
        have s4 := sameNew nS2 (.lst [.str "down", .str "abcdefgh", .str "abcdefghi", .ref t1, .str (cutS z none (some (-1)) ++ "1"), .str ("_" ++ cutS z (some 1) none)])
        refine ⟨S, S2, _, _, rfl, rfl, s4 _ _ (s1 _ _ upd_same), upd_same, by show 11 + 6 ≤ sizeLine; decide, fun S3 nS3 => ?_⟩
        have s5 := sameNew nS3 (.lst ([.str (z ++ "a"), .str (cutS z none (some (-1))), .str (Txt.upper z), .str (z ++ " "), .str "", .str "least", .str "most", .str "off", .str "one", .str "both", .str "up"] ++ [.str "down", .str "abcdefgh", .str "abcdefghi", .ref t1, .str (cutS z none (some (-1)) ++ "1"), .str ("_" ++ cutS z (some 1) none)]))
        have sA := s3.trans (s1.trans (s4.trans s5))
        refine .inl ⟨p, c, S3, _, _, rfl, pen2.same sA, by omega, upd_same, by simp, by simp, fun y H9 hy pen9 sb9' => ?_⟩
        have sb9 := sb2.trans ((Sb.same sA).trans sb9')
        have al2 := al.sb sb2 pen2
        have x1 := (al2.same s3).out n1
        have q1 : H9 t1 = some (.tup [.str z]) := sb9'.to ((pen2.same s3).newp n1) (s5 _ _ (s4 _ _ upd_same))
        have ks : ∀ z' : Str, z'.length ≤ 4 * z.length + 100 → (∀ c ∈ z'.cps.toList, c ≤ 2000000 * (kk + 1 + 1)) → Q (.str z') H9 := fun z' h1 h2 => by
          refine k _ (.str z') H9 (pen9.mono (by omega)) sb9 (.str z') ?_ (by simp only [PyData.bulk]; exact h1) (by simp only [PyData.depth]; omega)
          simp only [lv, List.all_eq_true, decide_eq_true_eq]
          exact h2
        have kw : ∀ st : String, (Str.ofString st).length ≤ 100 → Q (.str (Str.ofString st)) H9 := fun st h => ks _ (by omega) fun ch hch => by
          have := ofS_le st ch hch
          omega
        have c1 : ∀ ch, ch ∈ z.cps.toList → ch ≤ 2000000 * (kk + 1 + 1) := fun ch hch => by
          have := hzc ch hch
          omega
        have cw : ∀ (st : String) (ch : Nat), ch ∈ (Str.ofString st).cps.toList → ch ≤ 2000000 * (kk + 1 + 1) := fun st ch hch => by
          have := ofS_le st ch hch
          omega
        have capp : ∀ (u v : Str), (∀ ch ∈ u.cps.toList, ch ≤ 2000000 * (kk + 1 + 1)) → (∀ ch ∈ v.cps.toList, ch ≤ 2000000 * (kk + 1 + 1)) → ∀ ch ∈ (u ++ v).cps.toList, ch ≤ 2000000 * (kk + 1 + 1) := fun u v hu hv ch hch => by
          rw [cps_app] at hch
          rcases List.mem_append.mp hch with h | h
          · exact hu ch h
          · exact hv ch h
        simp only [List.mem_append, List.mem_cons, List.not_mem_nil, or_false] at hy
        rcases hy with (rfl | rfl | rfl | rfl | rfl | rfl | rfl | rfl | rfl | rfl | rfl) | (rfl | rfl | rfl | rfl | rfl | rfl)
        · exact ks _ (by rw [app_len, la]; omega) (capp _ _ c1 (cw _))
        · exact ks _ (by omega) fun ch hch => c1 ch (cutS_mem hch)
        · exact ks _ (by have := PyProof.Rows.len_upper z; omega) fun ch hch => by
            obtain ⟨c0, h0, h1⟩ := upper_mem hch
            have := hzc c0 h0
            omega
        · exact ks _ (by rw [app_len, ls]; omega) (capp _ _ c1 (cw _))
        · exact kw "" (by decide +kernel)
        · exact kw "least" (by decide +kernel)
        · exact kw "most" (by decide +kernel)
        · exact kw "off" (by decide +kernel)
        · exact kw "one" (by decide +kernel)
        · exact kw "both" (by decide +kernel)
        · exact kw "up" (by decide +kernel)
        · exact kw "down" (by decide +kernel)
        · exact kw "abcdefgh" (by decide +kernel)
        · exact kw "abcdefghi" (by decide +kernel)
        · refine k _ (.tuple [.str z]) H9 (pen9.mono (by omega)) sb9 (.tup (by rw [zn_out x1]; exact q1) (.cons (.str z) .nil)) ?_ (by simp only [PyData.bulk, PyData.bulkAll]; show z.length + 1 + 0 ≤ _; omega) (by rw [depth_tup]; simp only [PyData.depthAll, PyData.depth]; omega)
          rw [lv, lvs, lvs, lv_mono hlv]
          rfl
        · exact ks _ (by rw [app_len, l1']; omega) (capp _ _ (fun ch hch => c1 ch (cutS_mem hch)) (cw _))
        · exact ks _ (by rw [app_len, lu]; omega) (capp _ _ (cw _) (fun ch hch => c1 ch (cutS_mem hch)))
theorem ok_bent {f g g2 g3 : Addr} {fd gd gd2 gd3 : FuncData} (F : Fun K "_law_bent" "_law_bent" sBent f fd) (bR : Binds K fd ["_law_pen_here", "_law_thing"] []) (mR : mg "_law_bent" = some (.ref f))
    (G : FnOk P w K mg base CX0 1 g gd ["_law_pen_here", "_law_many"] spDrawC) (bG : Binds K gd ["_law_pen_here", "_law_many"] []) (kG : PySem.W.keepIn K (.ref g) = true) (mG : mg "_law_draw" = some (.ref g))
    (G2 : FnOk P w K mg base CX0 2 g2 gd2 ["_law_pen_here", "_law_some"] spPick) (bG2 : Binds K gd2 ["_law_pen_here", "_law_some"] []) (kG2 : PySem.W.keepIn K (.ref g2) = true) (mG2 : mg "_law_pick" = some (.ref g2))
    (G3 : FnOk P w K mg base CX0 3 g3 gd3 ["_law_pen_here"] spOddL) (bG3 : Binds K gd3 ["_law_pen_here"] []) (kG3 : PySem.W.keepIn K (.ref g3) = true) (mG3 : mg "_law_odd" = some (.ref g3)) (B : Blt mg) : ∀ m : Nat, FnOk P w K mg base CX0 (m + 3) f fd ["_law_pen_here", "_law_thing"] (spBent m)
  | 0 => bent_none
  | m + 1 => ok_bent1 F (ok_bent F bR mR G bG kG mG G2 bG2 kG2 mG2 G3 bG3 kG3 mG3 B m) bR mR G bG kG mG G2 bG2 kG2 mG2 G3 bG3 kG3 mG3 B
end
end Pk
/-! Quiet runs: what a def does that is called within a generator expression. -/
namespace Pk
open PySem PySem.Spec PyProof.Rows L2
/-- the surroundings of a quiet run: env's names are m -/
structure Qe (K : PySem.W.Frag) (mg : Str → Option Value) (env : Env) (m : Str → Option Value) (s : Shared) : Prop where
  kind : env.scope.kind = .function
  glob : env.globals = mainGlobals
  blt : env.builtins = builtinsNs
  ns : s.heap.Ns env.locals m
  kin : K.In s.heap
  gns : s.heap.Ns mainGlobals mg
  bns : ∃ mb, s.heap.Ns builtinsNs mb ∧ ∀ x : Str, x ≠ "__name__" → mb x = bootBuiltins x
  noL : s.heap.NoLimit
theorem Qe.ext {K : PySem.W.Frag} {mg : Str → Option Value} {env : Env} {m : Str → Option Value} {s s' : Shared} (q : Qe K mg env m s) (k : ∀ b o, s.heap.get? b = some o → s'.heap.get? b = some o) : Qe K mg env m s' :=
  ⟨q.kind, q.glob, q.blt, q.ns.keeps k, q.kin.keeps k, q.gns.keeps k, let ⟨mb, h1, h2⟩ := q.bns; ⟨mb, h1.keeps k, h2⟩, q.noL.keeps k⟩
theorem Qe.tok {K : PySem.W.Frag} {mg : Str → Option Value} {env : Env} {m : Str → Option Value} {s : Shared} (q : Qe K mg env m s) (t : Nat) : Qe K mg env m { s with toks := t } := q.ext fun _ _ e => e
section
variable {P : Program} {w : World} {K : PySem.W.Frag} {mg : Str → Option Value} {A : Around} {E : Value → Shared → Prop} {env : Env} {m : Str → Option Value} {s : Shared} {Q : Value → Shared → Prop}
theorem q_loc {x : Str} {v : Value} {p : Pos} (q : Qe K mg env m s) (hl : env.scope.names.lookup x = some .local) (hm : m x = some v) (h : Q v s) (hd : (x == ("__debug__" : Str)) = false := by decide) : wpAny (model P w) A (eval (.Name x p) env) Q E s :=
  wpAny_Name (wpAny_loadName_local q.kind hl q.ns hm h) hd
theorem q_blt {x : Str} {u : Value} {p : Pos} (q : Qe K mg env m s) (hg : env.scope.names.lookup x = some .globalImplicit) (hm : mg x = none) (hv : bootBuiltins x = some u) (h : Q u s)
    (hn : x ≠ "__name__" := by decide) (hd : (x == ("__debug__" : Str)) = false := by decide) : wpAny (model P w) A (eval (.Name x p) env) Q E s := by
  obtain ⟨mb, h1, h2⟩ := q.bns
  exact Calls.Name_function_global q.kind hg (Calls.loadGlobal_builtin (by rw [q.glob]; exact q.gns) hm (by rw [q.blt]; exact h1) ((h2 x hn).trans hv) h) hd
theorem q_glob {x : Str} {u : Value} {p : Pos} (q : Qe K mg env m s) (hg : env.scope.names.lookup x = some .globalImplicit) (hm : mg x = some u) (h : Q u s)
    (hd : (x == ("__debug__" : Str)) = false := by decide) : wpAny (model P w) A (eval (.Name x p) env) Q E s :=
  Calls.Name_function_global q.kind hg (Calls.loadGlobal_global (by rw [q.glob]; exact q.gns) hm h) hd
theorem q_isB {e : Expr} {Qb : Bool → Shared → Prop} (h : wpAny (model P w) A (eval e env) (fun v s1 => ∃ b, v = .bool b ∧ Qb b s1) E s) (he : ∀ whole, isTrue e env whole = (do let v ← whole; standAt e.pos; holding [v] (truthy v)) := by intro _; rfl) :
    wpAny (model P w) A (isTrue e env (eval e env)) Qb E s :=
  isTrue_plain (thn h fun v s1 ⟨b, e1, q⟩ => by
    subst e1
    exact wpAny_truthy_bool q) (he _)
/-- isinstance(x, T), x a local -/
theorem q_isi {x T : Str} {p1 p2 p3 pos : Pos} {u : Value} {Ty : String} {t : Value} {b : Bool} {Pz : Heap → Prop} (q : Qe K mg env m s) (hl : env.scope.names.lookup x = some .local) (hm : m x = some u) (hi : env.scope.names.lookup ("isinstance" : Str) = some .globalImplicit) (mi : mg "isinstance" = none)
    (hT : env.scope.names.lookup T = some .globalImplicit) (mT : mg T = none) (bT : bootBuiltins T = some (.type Ty)) (Z : PySem.W.KitX K u t Pz) (pz : Pz s.heap) (ek : PySem.W.kitOne K t (.type Ty) = some b) (hu : u ≠ .builtin "__main__.__loader__#opaque")
    (h : ∀ tk, Q (.bool b) { s with toks := tk }) (nT : T ≠ "__name__" := by decide) (dT : (T == ("__debug__" : Str)) = false := by decide) (dx : (x == ("__debug__" : Str)) = false := by decide) :
    wpAny (model P w) A (eval (.Call (.Name "isinstance" p1) [.Name x p2, .Name T p3] [] pos) env) Q E s := by
  refine wpAny_Call_Name_kw (q_blt (u := .builtin "isinstance") q hi mi (by decide +kernel) ?_)
  refine PyProof.Rows.callWith_builtin1 ?_ (by rfl) (by rfl)
  refine Calls.spliced_cons (q_loc q hl hm ?_ dx)
  refine Calls.spliced_cons (q_blt q hT mT bT ?_ nT dT)
  refine Calls.spliced_nil ?_
  exact PySem.W.kia_one Z q.kin pz ek hu h
end
/-- is_whole of any data, with nothing but tokens and its own frame left behind -/
theorem quietWhole {P : Program} {w : World} {K : PySem.W.Frag} {mg : Str → Option Value} {A : Around} {s : Shared} {f : Addr} {fd : FuncData} (F : Fun K "is_whole" "is_whole" sWhole f fd) (bG : Binds K fd ["thing", "low", "high"] []) (B : BltH mg)
    (inK : K.In s.heap) (gl : s.heap.Ns mainGlobals mg) (bl : ∃ mb, s.heap.Ns builtinsNs mb ∧ ∀ x : Str, x ≠ "__name__" → mb x = bootBuiltins x) (noL : s.heap.NoLimit) (hd : A.depth < recursionLimit)
    {u : Value} {d : PyData} {lo hi : Int} {t1 t2 : Tok} {Pz : Heap → Prop} (Z : PySem.W.KitX K u (.type (tyD d)) Pz) (pz : ∀ h' : Heap, (∀ b o, s.heap.get? b = some o → h'.get? b = some o) → Pz h') (hu : u ≠ .builtin "__main__.__loader__#opaque") (hi' : ∀ i, d = .int i → ∃ t, u = .int i t) :
    codeAny (model P w) A (.call (.ref f) ⟨[u, .int lo t1, .int hi t2], []⟩) (fun r s' => r = .ok (.ret (.bool (wholeD lo hi d))) ∧ Keeps s s') s := by
  have hbt := bG s [u, .int lo t1, .int hi t2] inK rfl
  obtain ⟨oc, oq, kV, doc, pm, an, cv, ct, osl, rfl, lk, hcd⟩ := F.ex
  refine codeAny_call_function hd (inK _ _ lk) rfl scWhole.co scWhole.gen rfl (PySem.W.codeRec_of inK hcd) (hbt _ _ _ _ (wpAny_newFunctionEnv_cells scWhole.kind (fun y hy => ?_) fun env he sz xx => ?_))
  · rcases scWhole.par y.1 (List.of_mem_zip (show (y.1, y.2) ∈ List.zip (["thing", "low", "high"] : List Str) ([u, .int lo t1, .int hi t2] ++ []) from hy)).1 with z | z
    · exact .inl z
    · exact .inr ⟨z, PySem.W.cellsFrom_some _ _ _ (.inl z)⟩
  · subst he
    have kp := xx.toInCall.keep
    refine ⟨noL.keeps kp, codeAny_func ?_⟩
    obtain ⟨h1, tk1, e1⟩ := xx.toInCall.same
    have q : Qe K mg _ _ sz := ⟨scWhole.kind, rfl, rfl, xx.toInCall.ns, inK.keeps kp, gl.keeps kp, let ⟨mb, z1, z2⟩ := bl; ⟨mb, z1.keeps kp, z2⟩, noL.keeps kp⟩
    have pzz : Pz sz.heap := pz _ kp
    have done : ∀ (t : Nat) (b : Bool), b = wholeD lo hi d → ((.ok (.ret (.bool b)) : Result) = .ok (.ret (.bool (wholeD lo hi d)))) ∧ Keeps s { sz with toks := t } := fun t b e => by
      subst e
      refine ⟨rfl, sz.heap, t, ?_, kp⟩
      rw [e1]
    have isB : PySem.W.kitOne K (.type (tyD d)) (.type "bool") = some (isB d) := kit_ty (kB d)
    have isI' : PySem.W.kitOne K (.type (tyD d)) (.type "int") = some (isI d) := kit_ty (kI d)
    refine wpAny_execs_cons (wpAny_If ?_)
    refine isTrue_or (q_isB (q_isi q rfl (by rfl) rfl B.isinstance rfl B.bool (by decide +kernel) Z pzz isB hu fun tk => ⟨_, rfl, ?_⟩))
    cases hB : Pk.isB d with
    | true =>
      have e : false = wholeD lo hi d := by cases d <;> first | rfl | (simp [Pk.isB] at hB)
      exact wpAny_execs_cons (wpAny_Return_some (Constant_bool (done _ _ e)))
    | false =>
      refine isTrue_or (isTrue_not (q_isB (q_isi (q.tok tk) rfl (by rfl) rfl B.isinstance rfl B.int (by decide +kernel) Z pzz isI' hu fun tk2 => ⟨_, rfl, ?_⟩)))
      cases hI : Pk.isI d with
      | false =>
        have e : false = wholeD lo hi d := by cases d <;> first | rfl | (simp [Pk.isI] at hI)
        exact wpAny_execs_cons (wpAny_Return_some (Constant_bool (done _ _ e)))
      | true =>
        refine isTrue_or_nil ?_
        refine wpAny_execs_nil (wpAny_execs_cons (wpAny_Return_some ?_))
        obtain ⟨i, rfl⟩ : ∃ i, d = .int i := by cases d <;> first | exact ⟨_, rfl⟩ | (simp [Pk.isI, Pk.isB] at hI hB)
        obtain ⟨t, rfl⟩ := hi' i rfl
        refine Compare_chain (q_loc (q.tok tk2) rfl (by rfl) (chain_link (q_loc (q.tok tk2) rfl (by rfl) (le_int (wpAny_truthy_bool ?_)))))
        have ew := wholeD_int lo hi i
        by_cases c : lo ≤ i
        · rw [decide_eq_true c] at ew ⊢
          exact chain_last (q_loc (q.tok _) rfl (by rfl) (le_int (done _ _ ew.symm)))
        · rw [decide_eq_false c] at ew ⊢
          exact done _ _ ew.symm
end Pk
section
set_option maxHeartbeats 2000000
/-! all(test of x, y for x, y in zip(two tuples)), the test a quiet run. -/
namespace Pk
open PySem PySem.Spec PyProof.Rows L2
theorem notNew {q n : Nat} (h : q < n) : q ≠ n + 4 ∧ q ≠ n + 3 ∧ q ≠ n ∧ q ≠ n + 1 := by omega
theorem out4 {q n : Addr} (h : q < n) : q ∉ [n + 4, n + 3, n, n + 1] := fun z => by
  obtain ⟨h1, h2, h3, h4⟩ := notNew h
  simp only [List.mem_cons, List.not_mem_nil, or_false] at z
  rcases z with e | e | e | e
  · exact h1 e
  · exact h2 e
  · exact h3 e
  · exact h4 e
theorem zip_sep {z TI TO i1 i2 a b : Addr} (D : ZipApart z TI TO i1 i2 a b) : ZipSep2 z TI TO i1 i2 [i1, a] [i2, b] := by
  refine ⟨D.TIz, D.TOz, D.TITO, D.TIi1, List.mem_cons_self, fun q => ?_, fun q => ?_, D.TIi2, List.mem_cons_self, fun q => ?_, fun q => ?_, fun q => ?_, fun q => ?_⟩ <;> simp only [List.mem_cons, List.not_mem_nil, or_false] at q <;> rcases q with e | e
  · exact D.i1z e.symm
  · exact D.l1z e.symm
  · exact D.TOi1 e
  · exact D.l1TO e.symm
  · exact D.i2z e.symm
  · exact D.l2z e.symm
  · exact D.TOi2 e
  · exact D.l2TO e.symm
  · exact D.i12 e
  · exact D.l2i1 e.symm
  · exact D.i12 e.symm
  · exact D.l1i2 e.symm
/-- all but the table at P stands as it stood -/
def KeptBut (P : Addr) (h h' : Heap) : Prop := ∀ b o, b ≠ P → h.get? b = some o → h'.get? b = some o
theorem Tr.kitAt {X : Cx} {pz : List (Addr × Obj)} {σ : L2.St} {H : Hp} {s : Shared} {x : V} {d : PyData} {v : Value} {P : Addr} {ps : Array Value} (I : L2.Inv X pz σ H s) (t : Tr H x d) (r : RelV x v) (hP : H P = some (.tbl ps)) :
    ∃ Pz : Heap → Prop, PySem.W.KitX X.K v (.type (tyD d)) Pz ∧ (∀ h', KeptBut P s.heap h' → Pz h') ∧ v ≠ .builtin "__main__.__loader__#opaque" := by
  cases t with
  | non =>
    cases (show v = Value.none from r)
    exact ⟨_, PySem.W.kitx_none, fun _ _ => True.intro, fun z => nomatch z⟩
  | bl b =>
    cases (show v = Value.bool b from r)
    exact ⟨_, PySem.W.kitx_bool, fun _ _ => True.intro, fun z => nomatch z⟩
  | int i =>
    obtain ⟨t, q⟩ := (show ∃ t, v = Value.int i t from r)
    cases q
    exact ⟨_, PySem.W.kitx_int, fun _ _ => True.intro, fun z => nomatch z⟩
  | str y =>
    obtain ⟨t, q⟩ := (show ∃ t, v = Value.str y t from r)
    cases q
    exact ⟨_, PySem.W.kitx_str, fun _ _ => True.intro, fun z => nomatch z⟩
  | @lst a xs ds ha _ =>
    cases (show v = Value.ref a from r)
    obtain ⟨_, _, n, _, h1⟩ := (show ObjOk X.prog X.w H s.heap a (.lst xs) from I.hok a _ ha)
    exact ⟨_, PySem.W.kitx_list, fun h' k => ⟨_, k _ _ (ne_of ha hP (by intro z; cases z)) h1, rfl⟩, fun z => nomatch z⟩
  | @tup a xs ds ha _ =>
    cases (show v = Value.ref a from r)
    obtain ⟨_, _, _, o, h1, h2, _⟩ := (show ObjOk X.prog X.w H s.heap a (.tup xs) from I.hok a _ ha)
    exact ⟨_, PySem.W.kitx_tuple, fun h' k => ⟨o, k _ _ (ne_of ha hP (by intro z; cases z)) h1, h2⟩, fun z => nomatch z⟩
  | @dct a kvs es ha _ _ _ =>
    cases (show v = Value.ref a from r)
    obtain ⟨_, _, vs, _, o, es, ep, h1, h2, _⟩ := (show ObjOk X.prog X.w H s.heap a (.dK kvs) from I.hok a _ ha)
    exact ⟨_, PySem.W.kitx_dict, fun h' k => ⟨o, k _ _ (ne_of ha hP (by intro z; cases z)) h1, h2.1⟩, fun z => nomatch z⟩
/-- the scope of a generator expression over pairs -/
structure GenZ (env : Env) (scope : Scope) (xa xb : Str) : Prop where
  kind : scope.kind = .function
  co : scope.isCoroutine = false
  cell : ∀ y ∈ scope.names, y.2 ≠ .cell
  dot : scope.names.lookup (".0" : Str) = some NameKind.local
  la : scope.names.lookup xa = some .local
  lb : scope.names.lookup xb = some .local
  ab : xa ≠ xb
  free : ∀ y ∈ scope.names, y.2 = .free → ∃ c, env.cells.lookup y.1 = some c
/-- the element: of data with ok the truth f, quietly -/
def EltZ (X : Cx) (P : Addr) (scope : Scope) (xa xb : Str) (elt : Expr) (f : PyData → PyData → Bool) (ok : PyData → PyData → Prop) : Prop :=
  ∀ (pins : List (Addr × Obj)) (σ : L2.St) (H1 : Hp) (s1 : Shared) (ps : Array Value) (dx dy : PyData) (vx vy : V) (ux uy : Value) (cenv : Env) (A' : Around) (E' : Value → Shared → Prop) (u : Shared) (m : Str → Option Value),
    L2.Inv X pins σ H1 s1 → H1 P = some (.tbl ps) → Tr H1 vx dx → Tr H1 vy dy → RelV vx ux → RelV vy uy → ok dx dy → A'.handled = none → A'.depth ≤ X.A.depth + 1 → A'.units ≤ X.A.units + 8 → cenv.scope = scope → Qe X.K X.mg cenv m u → m xa = some ux → m xb = some uy → KeptBut P s1.heap u.heap →
    wpAny (model X.prog X.w) A' (eval elt cenv) (fun y u' => y = .bool (f dx dy) ∧ Keeps u u') E' u
/-- a generator g that hands out n truths, ready to be walked -/
def ReadyN (X : Cx) (pins : List (Addr × Obj)) (σ : L2.St) (H1 : Hp) (P : Addr) (n : Nat) (tr : Nat → Bool) (g : Addr) (u : Shared) : Prop :=
  ∃ (fp wr : List Addr) (G : Array GenState → Array GenState → Prop) (F : Nat → Value → Prop) (St : Nat → Shared → Prop),
    WalksS X.prog X.w X.A.in1 g fp wr G n F St ∧ St 0 u ∧ TruthOf X.prog X.w X.A.in1 F tr ∧ ∀ u', Moved wr G u u' → ∃ H2, GxR.Tabbed P H1 H2 ∧ L2.Inv X pins σ H2 u'
def trZ (f : PyData → PyData → Bool) (l : List (PyData × PyData)) (j : Nat) : Bool := match l[j]? with
  | some p => f p.1 p.2
  | none => false
theorem trZ_some {f : PyData → PyData → Bool} {l : List (PyData × PyData)} {j : Nat} {p : PyData × PyData} (h : l[j]? = some p) : trZ f l j = f p.1 p.2 := by
  unfold trZ
  rw [h]
theorem all_trZ (f : PyData → PyData → Bool) (l : List (PyData × PyData)) : (List.range l.length).all (trZ f l) = l.all fun p => f p.1 p.2 := by
  rw [Bool.eq_iff_iff, List.all_eq_true, List.all_eq_true]
  constructor
  · intro h p hp
    obtain ⟨j, hj, e⟩ := List.getElem_of_mem hp
    have q := h j (List.mem_range.mpr hj)
    rw [trZ_some (List.getElem?_eq_getElem hj), e] at q
    exact q
  · intro h j hj
    have hj' := List.mem_range.mp hj
    rw [trZ_some (List.getElem?_eq_getElem hj')]
    exact h _ (List.getElem_mem hj')
theorem vals_back : ∀ {xs : List V} {us : List Value} {i : Nat} {u : Value}, Vals xs us → us[i]? = some u → ∃ x, xs[i]? = some x ∧ RelV x u
  | _, _, _, _, .nil, h => by simp at h
  | _, _, 0, _, .cons r _, h => by
    simp only [List.getElem?_cons_zero, Option.some.injEq] at h
    subst h
    exact ⟨_, rfl, r⟩
  | _, _, i + 1, _, .cons _ t, h => by
    simp only [List.getElem?_cons_succ] at h ⊢
    exact vals_back t h
section
variable {X : Cx} {pins : List (Addr × Obj)} {σ : L2.St} {H : Hp} {s : Shared}
theorem gen_zip {c P : Addr} {elt e1 e2 : Expr} {xa xb : Str} {pa pb pt pz gpos ipos : Pos} {kt : Nat} {scope : Scope} {ta : TA} {k : Nat} {f : PyData → PyData → Bool} {ok : PyData → PyData → Prop} {Q' : Value → Shared → Prop} {R : List PyData → List PyData → Hp → Prop}
    (hr : Room k X.A) (TB : GxR.TabB X.base X.mg c P) (hcode : X.env.code = .ref c) (S : GenZ X.env scope xa xb) (hg : Gl X "zip") (hm : X.mg "zip" = none) (ha : PA X [e1, e2] ta) (hel : EltZ X P scope xa xb elt f ok)
    (hs : ∀ v, genFold (.Call (.Name "zip" pz) [e1, e2] [] ipos) X.env v = pure v) (hst : starEach [e1, e2] X.env = (false, eval e1 X.env) :: starEach [e2] X.env) (hpl : (backTo ipos (starEach [e2] X.env)).any (·.1) = false) (I : L2.Inv X pins σ H s)
    (h : ta σ H fun vs H1 => ∃ (a b : Addr) (xs ys : List V) (ds es : List PyData), vs = [.ref a, .ref b] ∧ H1 a = some (.tup xs) ∧ H1 b = some (.tup ys) ∧ TrAll H1 xs ds ∧ TrAll H1 ys es ∧ (∀ p ∈ ds.zip es, ok p.1 p.2) ∧ GxR.TabG H1 P ∧ R ds es H1)
    (hQ : ∀ ds es H1 g u, R ds es H1 → ReadyN X pins σ H1 P (ds.zip es).length (trZ f (ds.zip es)) g u → Q' (.ref g) u) :
    wpAny (model X.prog X.w) X.A (eval (.GeneratorExp elt [⟨.Tuple [.Name xa pa, .Name xb pb] kt pt, .Call (.Name "zip" pz) [e1, e2] [] ipos, [], 0⟩] scope gpos) X.env) Q' X.xe s := by
  refine wpAny_GeneratorExp_walksQTD hr.hd S.co (closure_ok S.free) S.cell S.dot S.la S.lb S.ab S.kind (by have := hr.dp; omega) ?_ hs
  refine Call_ (ld_blt I hg hm PyProof.Rows.boot_zip (PyProof.Rows.callWith_type1 (thn (ha.run ipos pins s σ H _ I h) fun us s1 ⟨vs, H1, I1, r1, q1⟩ => ?_) hst hpl))
  obtain ⟨a, b, xs, ys, ds, es, rfl, hA, hB, tA, tB, hok, ⟨ps, hP, ht⟩, q1⟩ := q1
  obtain ⟨u1, u2, rfl, ra, rb⟩ := vals2 r1
  cases ra
  cases rb
  obtain ⟨its, rv, p1, _⟩ := I1.tuple (SqT.of hA)
  obtain ⟨its2, rv2, p2, _⟩ := I1.tuple (SqT.of hB)
  have a9 : a < s1.heap.objs.size := let ⟨_, e, _⟩ := p1; Heap.lt_size e
  have b9 : b < s1.heap.objs.size := let ⟨_, e, _⟩ := p2; Heap.lt_size e
  have hPs : s1.heap.get? P = some { cls := .none, data := .fields ps } := I1.hok P _ hP
  have hP9 : P < s1.heap.objs.size := Heap.lt_size hPs
  refine RZ.call_zipT (show s1.heap.IsTuple a its.toArray from p1) (show s1.heap.IsTuple b its2.toArray from p2) fun hz z1 z2 z3 z4 z5 zsz zk => wpAny_pyIter_zip z1 ?_
  generalize hn : s1.heap.objs.size = n at a9 b9 hP9 z1 z2 z3 z4 z5 zsz
  have sep : ZipSep2 (n + 4) (n + 2) (n + 3) n (n + 1) [n, a] [n + 1, b] := zip_sep (PySem.W.ktu_apart n a b a9 b9)
  have na : a ≠ n := Nat.ne_of_lt a9
  have nb : b ≠ n + 1 := Nat.ne_of_lt (Nat.lt_succ_of_lt b9)
  have Wk : ∀ A' : Around, A'.handled = none → WalksU X.prog X.w A' (n + 4) _ _ _ _ _ _ := fun A' hA' => (WalksT.zipD2 sep (drawsTup (A := A'.in1) hA' n a na its.toArray) (drawsTup (A := A'.in1) hA' (n + 1) b nb its2.toArray)).toU
  have hPz : hz.get? P = some { cls := .none, data := .fields ps } := zk _ _ hPs
  have cd : PySem.W.CodeHd hz c P := TB.code.keeps fun b u e => zk _ _ (I1.bk b u e)
  have limz : hz.NoLimit := I1.nolimit.keeps zk
  have l1 := rv.length
  have l2 := rv2.length
  have l3 := tA.length
  have l4 := tB.length
  have hnn : min its.toArray.size its2.toArray.size = (ds.zip es).length := by simp [List.length_zip]; omega
  have notP : ∀ b o, X.base.get? b = some o → b ≠ P := fun b o e z => by
    have q := (I1.bs b o e).2
    rw [z, hP] at q
    cases q
  have cont : ∀ (code : Value) (h3 : Heap) (tk : Nat) (ps' : Array Value), Heap.ExtBut P hz h3 → hz.objs.size ≤ h3.objs.size → h3.get? P = some { cls := .none, data := .fields ps' } → (∃ more, ps' = ps ++ more) → TriplesOk ps'.toList →
      wpAny (model X.prog X.w) X.A (builtinsFor X.env.globals X.env.builtins) (fun bi s4 =>
        ∃ Ia fp wr n0 Pt St0 Mid pz F, Value.ref (n + 4) = .ref Ia ∧ (∀ A' : Around, A'.handled = none → WalksU X.prog X.w A' Ia fp wr n0 Pt St0 Mid) ∧ (∀ i vals, Pt i vals → ∃ va vb, vals = #[va, vb]) ∧ St0 0 s4.heap ∧ (∀ b ∈ fp, b < s4.heap.objs.size) ∧ s4.heap.NoLimit ∧ cStatics ∉ wr ∧
          (∀ href : Heap, (∀ b o, s4.heap.get? b = some o → href.get? b = some o) →
            QuietGenTD X.prog X.w (genEnv scope (cloFrom X.env.cells scope.names []) s4.heap.objs.size code bi X.env) xa xb [] elt (List.range s4.heap.objs.size) wr Pt pz F href (X.A.depth + 1) (X.A.units + 8)) ∧
          (∀ g h5 tk gs, gs.bare = true → s4.heap.objs.size < g → h5.objs.size = g + 1 → (∀ b o, s4.heap.get? b = some o → h5.get? b = some o) →
            WalksS X.prog X.w X.A.in4 g (g :: s4.heap.objs.size :: List.range s4.heap.objs.size) (s4.heap.objs.size :: wr) (GenOnlyQ s4.gens.size) (passing pz n0 0).length
              (fun j y => ∃ i, (passing pz n0 0)[j]? = some i ∧ F i y) (GenAt X.prog X.w X.A.in4 g s4.gens.size s4.heap.objs.size (List.range s4.heap.objs.size) wr pz n0 F) →
            GenAt X.prog X.w X.A.in4 g s4.gens.size s4.heap.objs.size (List.range s4.heap.objs.size) wr pz n0 F 0 { s4 with gens := s4.gens.push gs, toks := tk, heap := h5 } →
            Q' (.ref g) { s4 with gens := s4.gens.push gs, toks := tk, heap := h5 })) X.xe { s1 with heap := h3, toks := tk } := by
    intro code h3 tk ps' hx hsz hP3 hmore ht3
    obtain ⟨bm, ob, g1, g2, g3, g4, g5, g6, g7, g8⟩ := TB.bm
    have kept3 : KeptBut P s1.heap h3 := fun b u hb e => hx b u hb (zk _ _ e)
    have hcP : cStatics ≠ P := fun e => by
      obtain ⟨_, hns, _⟩ := I1.nolimit
      obtain ⟨o', es', ep, ho, hd, _⟩ := hns
      rw [e, hPs] at ho
      cases ho
      cases hd
    have hcl : cStatics < s1.heap.objs.size := let ⟨_, hns, _⟩ := I1.nolimit; hns.lt
    have up : ∀ {q : Addr} {o : Obj}, n ≤ q → hz.get? q = some o → h3.get? q = some o := fun {q o} hq e => hx q o (fun z => by rw [z] at hq; exact absurd hP9 (Nat.not_lt.mpr hq)) e
    refine wpAny_builtinsFor (m := X.mg) (by rw [I1.ok.glob]; exact ((I1.mod.glob.keeps I1.bk).keeps zk).extBut hx TB.gP) g1 g2 (kept3 _ _ g4 (I1.bk _ _ g5)) g6 g7 g8 ?_
    refine ⟨n + 4, _, _, _, _, _, _, (fun _ => true), (fun i y => ∃ p, (ds.zip es)[i]? = some p ∧ y = .bool (f p.1 p.2)), rfl, Wk, ?_, ?_, ?_, limz.extBut hx hcP, ?_, ?_, ?_⟩
    · rintro i vals ⟨x1, x2, _, _, e⟩
      exact ⟨x1, x2, e⟩
    · refine ⟨up (by omega) z1, up (by omega) z2, ⟨_, _, up (by omega) z3⟩, ⟨?_, ?_⟩, ?_, ?_⟩
      · exact z4.at fun o e => up (Nat.le_refl _) e
      · obtain ⟨o, e, r⟩ := p1
        exact ⟨o, kept3 _ _ (ne_of hA hP (by intro z; cases z)) e, r⟩
      · exact z5.at fun o e => up (by omega) e
      · obtain ⟨o, e, r⟩ := p2
        exact ⟨o, kept3 _ _ (ne_of hB hP (by intro z; cases z)) e, r⟩
    · intro q hq
      have lt9 : ∀ {q : Addr} {o : Obj}, hz.get? q = some o → q < h3.objs.size := fun e => Nat.lt_of_lt_of_le (Heap.lt_size e) hsz
      simp only [List.cons_append, List.nil_append, List.mem_cons, List.not_mem_nil, or_false] at hq
      rcases hq with e | e | e | e | e | e | e
      · rw [e]; exact lt9 z1
      · rw [e]; exact lt9 z2
      · rw [e]; exact lt9 z3
      · rw [e]; obtain ⟨_, y, _⟩ := z4; exact lt9 y
      · rw [e]; obtain ⟨_, y, _⟩ := p1; exact lt9 (zk _ _ y)
      · rw [e]; obtain ⟨_, y, _⟩ := z5; exact lt9 y
      · rw [e]; obtain ⟨_, y, _⟩ := p2; exact lt9 (zk _ _ y)
    · rw [hn] at hcl
      exact out4 hcl
    · intro href hhref
      refine ⟨fun A' E' i va vb u m hA' _ _ _ _ _ _ _ => ?_, fun A' E' i va vb u m hA' hdp hun hPv _ hns hma hmb hkp => ?_⟩
      · simp only [List.forIn_nil]
        exact wpAny_pure ⟨rfl, GxR.keeps_refl _⟩
      · obtain ⟨x1, x2, i1, i2, e⟩ := hPv
        have e' : va = x1 ∧ vb = x2 := by simpa using congrArg Array.toList e
        obtain ⟨rfl, rfl⟩ := e'
        obtain ⟨vx, hvx, rx⟩ := vals_back rv (show its[i]? = some va by simpa using i1)
        obtain ⟨vy, hvy, ry⟩ := vals_back rv2 (show its2[i]? = some vb by simpa using i2)
        obtain ⟨dx, hdx, tx⟩ := tA.get hvx
        obtain ⟨dy, hdy, ty⟩ := tB.get hvy
        have hz2 : (ds.zip es)[i]? = some (dx, dy) := by simp [List.getElem?_zip_eq_some, hdx, hdy]
        have kb : KeptBut P s1.heap u.heap := fun q o hq e => by
          have hlt : q < s1.heap.objs.size := Heap.lt_size e
          rw [hn] at hlt
          refine hkp q (List.mem_range.mpr ?_) (out4 hlt) o (hhref q o (kept3 q o hq e))
          exact Nat.lt_of_lt_of_le (Heap.lt_size (zk _ _ e)) hsz
        have bk : ∀ q o, X.base.get? q = some o → u.heap.get? q = some o := fun q o e => kb q o (notP q o e) (I1.bk q o e)
        have qe : Qe X.K X.mg (genEnv scope (cloFrom X.env.cells scope.names []) h3.objs.size code builtinsNs X.env) m u :=
          ⟨S.kind, I1.ok.glob, rfl, hns, I1.mod.kin.keeps bk, I1.mod.glob.keeps bk, let ⟨mb, y1, y2⟩ := I1.mod.blt; ⟨mb, y1.keeps bk, y2⟩, I1.mod.nolimit.keeps bk⟩
        exact thn (hel pins σ H1 s1 ps dx dy vx vy va vb _ A' E' u m I1 hP tx ty rx ry (hok (dx, dy) (List.mem_of_getElem? hz2)) hA' hdp hun rfl qe hma hmb kb) fun y u' r => ⟨⟨_, hz2, r.1⟩, r.2⟩
    · intro g h5 tk5 gs hgb hag hsz5 hk5 W5 hat
      simp only [GxR.passing_true, List.length_range] at W5
      rw [hnn] at W5 hat
      refine hQ ds es H1 g _ q1 ⟨_, _, _, _, _, W5.in4_1, hat, ?_, fun u' hm => ?_⟩
      · intro j y sj Qj Ej hy hQj
        obtain ⟨i, hij, p, hp, rfl⟩ := hy
        obtain ⟨hj, ej⟩ := List.getElem?_eq_some_iff.mp hij
        rw [List.getElem_range] at ej
        subst ej
        have hQ2 : Qj (trZ f (ds.zip es) j) sj := hQj
        rw [trZ_some hp] at hQ2
        exact wpAny_truthy_bool hQ2
      · obtain ⟨more, em⟩ := hmore
        have nwr : ∀ q o, s1.heap.get? q = some o → q ∉ h3.objs.size :: [n + 4, n + 3, n, n + 1] := fun q o e hb => by
          have hl : q < s1.heap.objs.size := Heap.lt_size e
          rw [hn] at hl
          rcases List.mem_cons.mp hb with z | z
          · have := Heap.lt_size (zk _ _ e)
            rw [z] at this
            exact absurd (Nat.lt_of_lt_of_le this hsz) (Nat.lt_irrefl _)
          · exact out4 hl z
        have J := GxR.inv_tab (more := more) (h' := u'.heap) (g' := u'.gens) (d' := u'.drawn) (t' := u'.toks) I1 hP (fun q o hb e => hm.heap q o (nwr q o e) (hk5 q o (kept3 q o hb e)))
          (by rw [← em]; exact hm.heap P _ (nwr P _ hPs) (hk5 P _ hP3)) (AllBare.movedS (I1.bare.push hgb) hm)
        rw [GxR.sh_eta s1 u' hm.os] at J
        exact ⟨upd H1 P (.tbl (ps ++ more)), ⟨⟨ps ++ more, upd_same, by rw [← em]; exact ht3⟩, fun b hb => upd_ne hb⟩, J⟩
  refine ⟨limz, ?_⟩
  cases hf : codeAmong gpos ps.toList with
  | none =>
    refine wpAny_genexprCodeX hcode (cd.code hPz ht) (cd.tab hPz) hf fun c' h' tk hx hge hlt hco' _ htab' _ => ?_
    obtain ⟨o1, vs, f1, tf, fl, tg, inF, tx, tt, op, _, _, _, _, _, _, _, _, _, htr, _⟩ := hco'
    exact cont _ h' tk _ hx (Nat.le_trans hge (Nat.le_of_lt hlt)) htab'.2 ⟨_, rfl⟩ htr
  | some cv =>
    refine wpAny_genexprCode_hit hcode (cd.code hPz ht) hf ?_
    exact cont cv hz s1.toks ps (Heap.ExtBut.refl _ _) (Nat.le_refl _) hPz ⟨#[], by simp⟩ ht
end
end Pk
end
/-! are_numbers. -/
namespace Pk
open PySem PySem.Spec PyProof.Rows L2
section
variable {X : Cx}
/-- all(test for x, y in zip(e1, e2)) -/
def tAllZ (P : Addr) (f : PyData → PyData → Bool) (ok : PyData → PyData → Prop) (ta : TA) : TE := fun σ H Q => ta σ H fun vs H1 => ∃ (a b : Addr) (xs ys : List V) (ds es : List PyData), vs = [.ref a, .ref b] ∧ H1 a = some (.tup xs) ∧ H1 b = some (.tup ys) ∧ TrAll H1 xs ds ∧ TrAll H1 ys es ∧ (∀ p ∈ ds.zip es, ok p.1 p.2) ∧ GxR.TabG H1 P ∧
  ∀ H2, GxR.Tabbed P H1 H2 → Q (.bl ((ds.zip es).all fun p => f p.1 p.2)) H2
theorem pe_allZ {c P : Addr} {elt e1 e2 : Expr} {xa xb : Str} {pa pb pt pz gpos ipos p pos : Pos} {kt : Nat} {scope : Scope} {ta : TA} {k : Nat} {f : PyData → PyData → Bool} {ok : PyData → PyData → Prop}
    (hr : Room k X.A) (hgA : Gl X "all") (hmA : X.mg "all" = none) (hb : bootBuiltins "all" = some (.builtin "all")) (TB : GxR.TabB X.base X.mg c P) (hcode : X.env.code = .ref c) (S : GenZ X.env scope xa xb) (hg : Gl X "zip") (hm : X.mg "zip" = none) (ha : PA X [e1, e2] ta) (hel : EltZ X P scope xa xb elt f ok)
    (hs : ∀ v, genFold (.Call (.Name "zip" pz) [e1, e2] [] ipos) X.env v = pure v) (hst : starEach [e1, e2] X.env = (false, eval e1 X.env) :: starEach [e2] X.env := by rfl) (hpl : (backTo ipos (starEach [e2] X.env)).any (·.1) = false := by rfl)
    (he : starEach [.GeneratorExp elt [⟨.Tuple [.Name xa pa, .Name xb pb] kt pt, .Call (.Name "zip" pz) [e1, e2] [] ipos, [], 0⟩] scope gpos] X.env = (false, eval (.GeneratorExp elt [⟨.Tuple [.Name xa pa, .Name xb pb] kt pt, .Call (.Name "zip" pz) [e1, e2] [] ipos, [], 0⟩] scope gpos) X.env) :: starEach [] X.env := by rfl) :
    PE X (.Call (.Name "all" p) [.GeneratorExp elt [⟨.Tuple [.Name xa pa, .Name xb pb] kt pt, .Call (.Name "zip" pz) [e1, e2] [] ipos, [], 0⟩] scope gpos] [] pos) (tAllZ P f ok ta) := by
  refine ⟨fun pins s σ H Q I h => wpAny_Call_Name_kw (ld_blt I hgA hmA hb ?_)⟩
  refine PyProof.Rows.callWith_builtin1 ?_ he (by rfl)
  rw [he]
  show wpAny _ _ (spliced ((false, eval (.GeneratorExp elt [⟨.Tuple [.Name xa pa, .Name xb pb] kt pt, .Call (.Name "zip" pz) [e1, e2] [] ipos, [], 0⟩] scope gpos) X.env) :: backTo pos (starEach [] X.env))) _ _ s
  refine Calls.spliced_cons (gen_zip (R := fun ds es H1 => ∀ H2, GxR.Tabbed P H1 H2 → Q (.bl ((ds.zip es).all fun p => f p.1 p.2)) H2) hr TB hcode S hg hm ha hel hs hst hpl I h fun ds es H1 g u hR hG => Calls.spliced_nil ?_)
  obtain ⟨fp, wr, G, F, St, W, h0, htr, hI⟩ := hG
  refine call_all_walkS (W.self 0 _ _ _ h0 ⟨g, fp, wr, G, _, F, St, _, rfl, W, h0, htr, fun u' hmv => ?_⟩)
  obtain ⟨H2, hT, J⟩ := hI u' hmv
  refine ⟨.bl _, H2, J, rfl, ?_⟩
  rw [all_trZ]
  exact hR H2 hT
end
abbrev sAreN : Stmt := topH 39
/-- a number of a dial's span -/
def numD : PyData → PyData → Bool
  | .tuple [_, .int lo, .int hi, _, _, _], d => wholeD lo hi d
  | _, _ => false
def spanOk (d _e : PyData) : Prop := ∃ n lo hi w u v, d = .tuple [n, .int lo, .int hi, w, u, v]
/-- numbers of these dials -/
def numsD (ds : List PyData) : PyData → Bool
  | .tuple es => decide (es.length = ds.length) && ((ds.zip es).all fun p => numD p.1 p.2)
  | _ => false
def scNum : Scope := { kind := .function, names := [((".0" : Str), NameKind.local), (("dial" : Str), NameKind.local), (("number" : Str), NameKind.local), (("is_whole" : Str), NameKind.globalImplicit)], isGenerator := true, isCoroutine := false }
theorem gzNum (env : Env) : GenZ env scNum "dial" "number" := by
  refine ⟨rfl, rfl, by decide +kernel, rfl, rfl, rfl, by decide, fun y hy e => ?_⟩
  have h : ∀ y ∈ scNum.names, y.2 ≠ .free := by decide +kernel
  exact absurd e (h y hy)
/-- x[j], x a local that holds a tuple -/
theorem q_ix {P : Program} {w : World} {K : PySem.W.Frag} {mg : Str → Option Value} {A : Around} {E : Value → Shared → Prop} {env : Env} {m : Str → Option Value} {s : Shared} {Q : Value → Shared → Prop} {x : Str} {p1 p2 pos : Pos} {kk : Nat} {a : Addr} {its : List Value} {i : Int} {j : Nat} {v : Value}
    (q : Qe K mg env m s) (hl : env.scope.names.lookup x = some .local) (hm : m x = some (.ref a)) (ht : IsTup s.heap a its.toArray) (hi0 : 0 ≤ i) (hi1 : i < 1000) (ej : j = i.toNat) (hj : its[j]? = some v) (h : Q v { s with toks := s.toks + 1 }) (hd : (x == ("__debug__" : Str)) = false := by decide) :
    wpAny (model P w) A (eval (.Subscript (.Name x p1) (.Constant (.int i) kk p2) pos) env) Q E s := by
  subst ej
  refine Subscript_ (q_loc q hl hm (wpAny_Constant_int ?_) hd)
  have hlt : i.toNat < its.length := (List.getElem?_eq_some_iff.mp hj).1
  refine subscriptTail_builtinR (x := v) (show ({ s with toks := s.toks + 1 } : Shared).TypeIs (.ref a) "tuple" from ht.typeIs) slot_tuple_getitem.lookup (getItem_tuple (s := { s with toks := s.toks + 1 }) (j := i.toNat) (Q := fun r s' => r = v ∧ Q r s') ht (by omega) (by omega) ?_ (by simpa using hj) ⟨rfl, h⟩) (by with_unfolding_all rfl)
  rw [List.size_toArray]
  exact seqIx hi0 (by omega)
theorem elt_num {X : Cx} {Pt f : Addr} {fd : FuncData} {p0 p1 p2 p3 p4 p5 p6 p7 p8 : Pos} {k1 k2 : Nat} (F : Fun X.K "is_whole" "is_whole" sWhole f fd) (bG : Binds X.K fd ["thing", "low", "high"] []) (mG : X.mg "is_whole" = some (.ref f)) (kG : PySem.W.keepIn X.K (.ref f) = true) (B : BltH X.mg) (hroom : X.A.depth + 1 < recursionLimit) :
    EltZ X Pt scNum "dial" "number" (.Call (.Name "is_whole" p0) [.Name "number" p1, .Subscript (.Name "dial" p2) (.Constant (.int 1) k1 p3) p4, .Subscript (.Name "dial" p5) (.Constant (.int 2) k2 p6) p7] [] p8) numD spanOk := by
  intro pins σ H1 s1 ps dx dy vx vy ux uy cenv A' E' u m I hP tx ty rx ry hok hh hdp hun hsc qe ma mb kb
  obtain ⟨n, lo, hi, w, u1, u2, rfl⟩ := hok
  cases tx with
  | @tup a xs _ ha al =>
    match xs, al with
    | [x0, _, _, x3, x4, x5], .cons _ (.cons (.int _) (.cons (.int _) (.cons _ (.cons _ (.cons _ .nil))))) =>
      cases (show ux = Value.ref a from rx)
      obtain ⟨its, rv, pt, _⟩ := I.tuple (SqT.of ha)
      have pt' : IsTup u.heap a its.toArray := by
        obtain ⟨o, e, r⟩ := pt
        exact ⟨o, kb _ _ (ne_of ha hP (by intro z; cases z)) e, r⟩
      obtain ⟨v1, e1, r1⟩ := rv.get (i := 1) rfl
      obtain ⟨v2, e2, r2⟩ := rv.get (i := 2) rfl
      obtain ⟨t1, rfl⟩ := (show ∃ t, v1 = Value.int lo t from r1)
      obtain ⟨t2, rfl⟩ := (show ∃ t, v2 = Value.int hi t from r2)
      have sc1 : cenv.scope.names.lookup ("number" : Str) = some .local := by rw [hsc]; rfl
      have sc2 : cenv.scope.names.lookup ("dial" : Str) = some .local := by rw [hsc]; rfl
      have sc3 : cenv.scope.names.lookup ("is_whole" : Str) = some .globalImplicit := by rw [hsc]; rfl
      obtain ⟨Pz, Z, pz, nl⟩ := ty.kitAt I ry hP
      refine wpAny_Call_Name_kw (q_glob qe sc3 mG (PySem.W.callWith_K (h₀ := u.heap) qe.kin kG (Calls.spliced_cons (q_loc qe sc1 mb (Calls.spliced_cons (q_ix (a := a) (its := its) (j := 1) qe sc2 ma pt' (by decide) (by decide) rfl e1 (Calls.spliced_cons (q_ix (a := a) (its := its) (j := 2) (qe.tok _) sc2 ma pt' (by decide) (by decide) rfl e2 (Calls.spliced_nil ?_))))))) (by rfl) (by rfl)))
      refine ⟨qe.kin, wpAny_call (codeAny_mono (quietWhole F bG B (s := { u with toks := u.toks + 1 + 1 }) qe.kin qe.gns qe.bns qe.noL (by omega) Z (fun h' k => pz h' fun b o hb e => k b o (kb b o hb e)) nl (fun i e => ?_)) fun r s' hr => ?_)⟩
      · subst e
        cases ty with
        | int i => exact ry
      · obtain ⟨rfl, h', tk, e, hk⟩ := hr
        exact ⟨rfl, h', tk, by rw [e], hk⟩
end Pk
/-! are_numbers, check_house. -/
namespace Pk
open PySem L2
def spAreN (Pt : Addr) : Sp := fun vs H Q _ => ∃ (h : Addr) (x : V) (ds rs : List PyData) (d : PyData), vs = [.ref h, x] ∧ Tr H (.ref h) (.tuple [.tuple ds, .tuple rs]) ∧ ds.length ≤ 12 ∧ (∀ e ∈ ds, DialG e) ∧ Tr H x d ∧ GxR.TabG H Pt ∧ ∀ H', Gr Pt H H' → Q (.bl (numsD ds d)) H'
theorem dial_span {d e : PyData} (h : DialG d) : spanOk d e := by
  obtain ⟨nm, way, lo, hi, up, dn, rfl, _⟩ := h
  exact ⟨_, _, _, _, _, _, rfl⟩
theorem nums_not {ds : List PyData} {d : PyData} (h : tupD (ds.length : Int) (ds.length : Int) d = false) : numsD ds d = false := by
  cases d with
  | tuple es =>
    show (decide (es.length = ds.length) && _) = false
    rw [decide_eq_false (fun e => ?_)]
    · rfl
    · rw [tupD, e, decide_eq_true (Int.le_refl _)] at h
      cases h
  | _ => rfl
theorem nums_tup {ds : List PyData} {d : PyData} (h : tupD (ds.length : Int) (ds.length : Int) d = true) : ∃ es, d = .tuple es ∧ es.length = ds.length ∧ numsD ds d = (ds.zip es).all fun p => numD p.1 p.2 := by
  cases d with
  | tuple es =>
    rw [tupD, Bool.and_eq_true, decide_eq_true_eq, decide_eq_true_eq] at h
    have e : es.length = ds.length := by omega
    refine ⟨es, rfl, e, ?_⟩
    show (decide (es.length = ds.length) && _) = _
    rw [decide_eq_true e]
    rfl
  | _ => cases h
section
variable {P : Program} {w : World} {K : PySem.W.Frag} {mg : Str → Option Value} {base : Heap} {Pt : Addr}
theorem scAreN : FnScope ["house", "thing", "dials"] ["house", "thing"] (defScope sAreN) := ⟨rfl, rfl, rfl, by decide +kernel, rfl, by decide +kernel, by decide +kernel⟩
theorem ok_areN {f c g1 g2 : Addr} {d1 d2 : FuncData} {oc : Value} {od an : Option Addr} {osl : Array (Option Value)} {kV doc pm ct : Value} (lk : K.lookup f = some ⟨oc, od, .func (PySem.W.fnOf "are_numbers" "are_numbers" (defArgs sAreN) (defBody sAreN) (defScope sAreN) .none kV doc pm an (.ref c) ct), osl⟩) (hcd : PySem.W.codeIn K (.ref c) "are_numbers" = true)
    (TB : GxR.TabB base mg c Pt) (B : BltH mg) (mz : mg "zip" = none)
    (F1 : Fun K "is_whole" "is_whole" sWhole g1 d1) (b1 : Binds K d1 ["thing", "low", "high"] []) (k1 : PySem.W.keepIn K (.ref g1) = true) (m1 : mg "is_whole" = some (.ref g1))
    (G2 : FnOk P w K mg base CX0 1 g2 d2 ["thing", "least", "most"] spTupOf) (b2 : Binds K d2 ["thing", "least", "most"] []) (k2 : PySem.W.keepIn K (.ref g2) = true) (m2 : mg "is_tuple_of" = some (.ref g2)) :
    FnOk P w K mg base CX0 3 f (PySem.W.fnOf "are_numbers" "are_numbers" (defArgs sAreN) (defBody sAreN) (defScope sAreN) .none kV doc pm an (.ref c) ct) ["house", "thing"] (spAreN Pt) := by
  refine fn_of lk hcd scAreN (fun vs H Q E h => ?_) (fun A outer s H vs Q E hr h => ?_)
  · obtain ⟨h, x, ds, rs, d, rfl, _⟩ := h
    rfl
  obtain ⟨h, x, ds, rs, d, rfl, th, hl, hd, td, tg, k⟩ := h
  have hr1 : Room 1 _ := hr.mono (by decide)
  have hroom : (A.deeper (PyProof.Rows.envOfC "are_numbers" (defScope sAreN) s.heap.objs.size f (.ref c))).depth + 1 < recursionLimit := by
    have := hr.dp
    omega
  refine ⟨_, PSs.nox (pss_cons (ps_set (i := 2) scAreN.nd rfl (.inl rfl) (pe_ix ix_tup (pv 0) pe_int (fun _ _ => rfl))) <|
    pss_cons (ps_if (pt_not (pt_val (pe_call G2 hr1 rfl m2 k2 b2 .nil pass0 (pa_cons (pv 1) (pa_cons (pe_callB call_len_seq (by rfl) B.len PySem.boot_len (pa_cons (pv 2) pa_nil)) (pa_cons (pe_callB call_len_seq (by rfl) B.len PySem.boot_len (pa_cons (pv 2) pa_nil)) pa_nil)))))) (pss_one (ps_ret pe_bl)) pss_nil) <|
    pss_one (ps_ret (pe_allZ hr (by rfl) B.all (by decide +kernel) TB rfl (gzNum _) (by rfl) mz (pa_cons (pv 2) (pa_cons (pv 1) pa_nil)) (elt_num F1 b1 m1 k1 B hroom) (fun _ => rfl)))), ?_⟩
  cases th with
  | @tup _ xs _ ha al =>
    match xs, al with
    | [_, _], .cons (@Tr.tup _ a ys _ hA alA) (.cons tR .nil) =>
      have ly := alA.length
      refine ⟨_, rfl, h, _, _, _, rfl, rfl, SqT.of ha, (rfl : atI [V.ref a, _] 0 = some (.ref a)), ?_⟩
      refine ⟨_, rfl, _, rfl, a, _, rfl, .inr (SqT.of hA), _, rfl, a, _, rfl, .inr (SqT.of hA), x, d, _, _, rfl, td, _, rfl, ?_⟩
      rw [ly]
      cases c1 : tupD (ds.length : Int) (ds.length : Int) d with
      | false =>
        have q := k H (Gr.refl tg)
        rw [nums_not c1] at q
        exact iteT q
      | true =>
        obtain ⟨es, rfl, le, en⟩ := nums_tup c1
        cases td with
        | @tup b zs _ hB alB =>
          refine iteF ⟨_, rfl, _, rfl, a, b, ys, zs, ds, es, rfl, hA, hB, alA, alB, fun p hp => dial_span (hd p.1 (List.of_mem_zip (show (p.1, p.2) ∈ ds.zip es from hp)).1), tg, fun H2 tb => ?_⟩
          have q := k H2 (Gr.of tb)
          rw [en] at q
          exact q
end
end Pk
/-! holds, rule_holds; the law's own. -/
namespace Pk
open PySem L2
abbrev sHolds : Stmt := topH 13
abbrev sLSaid : Stmt := topH 59
/-- the number of a name -/
def lookE (es : List (Str × Int)) (z : Str) : Int := match valV (es.map kvOf) (Sum.inr z) with
  | some (.int i) => i
  | _ => 0
theorem look_dg {H : Hp} {d : Addr} {es : List (Str × Int)} {z : Str} (h : H d = some (.dK (es.map kvOf))) (hz : z ∈ es.map (·.1)) : DGet H d (.str z) (some (.int (lookE es z))) := by
  obtain ⟨i, _, e⟩ := val_kv hz
  have q : lookE es z = i := by
    unfold lookE
    rw [e]
  rw [q]
  exact dg_kv h e
def holdsS (f : Str → Int) : PyData → Bool
  | .tuple [.str z, .str so, .int i] => if decide (so = "least") = true then decide (i ≤ f z) else decide (f z ≤ i)
  | _ => false
def ruleH (f : Str → Int) : PyData → Bool
  | .tuple [_, p, q] => holdsS f p || holdsS f q
  | .tuple [.str w, .str a, .str b, .int c] => if decide (w = "off") = true then decide (f a ≤ f b + c) else if decide (w = "most") = true then decide (f a + f b ≤ c) else decide (c ≤ f a + f b)
  | _ => false
theorem inS_is {zs : List Str} {d : PyData} (h : inS zs d = true) : ∃ z ∈ zs, d = .str z := by
  unfold inS at h
  obtain ⟨z, hz, e⟩ := List.any_eq_true.mp h
  exact ⟨z, hz, strIs_is e⟩
theorem whole_is {lo hi : Int} {d : PyData} (h : wholeD lo hi d = true) : ∃ i, d = .int i := by
  cases d with
  | int i => exact ⟨i, rfl⟩
  | _ => cases h
theorem say_is {ns : List Str} {d : PyData} (h : sayingD ns d = true) : ∃ z so i, d = .tuple [.str z, .str so, .int i] ∧ z ∈ ns ∧ so ∈ sorts2 := by
  unfold sayingD at h
  split at h
  · rw [Bool.and_eq_true, Bool.and_eq_true] at h
    obtain ⟨z, hz, rfl⟩ := inS_is h.1
    obtain ⟨so, hs, rfl⟩ := inS_is h.2.1
    obtain ⟨i, rfl⟩ := whole_is h.2.2
    exact ⟨z, so, i, rfl, hz, hs⟩
  · cases h
theorem rule_is {ns : List Str} {d : PyData} (h : ruleD ns d = true) : (∃ p q, d = .tuple [.str "one", p, q] ∧ sayingD ns p = true ∧ sayingD ns q = true) ∨ ∃ w a b c, d = .tuple [.str w, .str a, .str b, .int c] ∧ w ∈ pairs3 ∧ a ∈ ns ∧ b ∈ ns := by
  unfold ruleD at h
  split at h
  · rw [Bool.and_eq_true, Bool.and_eq_true] at h
    exact .inl ⟨_, _, by rw [strIs_is h.1], h.2.1, h.2.2⟩
  · rw [Bool.and_eq_true, Bool.and_eq_true, Bool.and_eq_true, Bool.and_eq_true] at h
    obtain ⟨w, hw, rfl⟩ := inS_is h.1
    obtain ⟨a, ha, rfl⟩ := inS_is h.2.1
    obtain ⟨b, hb, rfl⟩ := inS_is h.2.2.1
    obtain ⟨c, rfl⟩ := whole_is h.2.2.2.2
    exact .inr ⟨w, a, b, c, rfl, hw, ha, hb⟩
  · cases h
theorem pairs_one : ∀ w ∈ pairs3, decide (w = ("one" : Str)) = false := by decide +kernel
def spHolds : Sp := fun vs H Q _ => ∃ (x : V) (d : Addr) (es : List (Str × Int)) (sd : PyData), vs = [x, .ref d] ∧ Tr H x sd ∧ sayingD (es.map (·.1)) sd = true ∧ H d = some (.dK (es.map kvOf)) ∧ Q (.bl (holdsS (lookE es) sd)) H
def spRuleH : Sp := fun vs H Q _ => ∃ (x : V) (d : Addr) (es : List (Str × Int)) (rd : PyData), vs = [x, .ref d] ∧ Tr H x rd ∧ ruleD (es.map (·.1)) rd = true ∧ H d = some (.dK (es.map kvOf)) ∧ Q (.bl (ruleH (lookE es) rd)) H
theorem tup3 {H : Hp} {x : V} {a b c : PyData} (t : Tr H x (.tuple [a, b, c])) : ∃ (p : Addr) (u v w : V), x = .ref p ∧ H p = some (.tup [u, v, w]) ∧ Tr H u a ∧ Tr H v b ∧ Tr H w c := by
  cases t with
  | @tup p xs _ h al =>
    match xs, al with
    | [_, _, _], .cons t1 (.cons t2 (.cons t3 .nil)) => exact ⟨p, _, _, _, rfl, h, t1, t2, t3⟩
theorem tup4 {H : Hp} {x : V} {a b c d : PyData} (t : Tr H x (.tuple [a, b, c, d])) : ∃ (p : Addr) (u v w y : V), x = .ref p ∧ H p = some (.tup [u, v, w, y]) ∧ Tr H u a ∧ Tr H v b ∧ Tr H w c ∧ Tr H y d := by
  cases t with
  | @tup p xs _ h al =>
    match xs, al with
    | [_, _, _, _], .cons t1 (.cons t2 (.cons t3 (.cons t4 .nil))) => exact ⟨p, _, _, _, _, rfl, h, t1, t2, t3, t4⟩
theorem Tr.strV {H : Hp} {x : V} {z : Str} (t : Tr H x (.str z)) : x = .str z := by cases t; rfl
theorem Tr.intV {H : Hp} {x : V} {z : Int} (t : Tr H x (.int z)) : x = .int z := by cases t; rfl
section
variable {P : Program} {w : World} {K : PySem.W.Frag} {mg : Str → Option Value} {base : Heap}
theorem scHolds : FnScope ["saying", "now", "name", "sort", "i"] ["saying", "now"] (defScope sHolds) := ⟨rfl, rfl, rfl, by decide +kernel, rfl, by decide +kernel, by decide +kernel⟩
theorem ok_holds {f : Addr} {fd : FuncData} (F : Fun K "holds" "holds" sHolds f fd) : FnOk P w K mg base CX0 1 f fd ["saying", "now"] spHolds := by
  refine F.ok scHolds (fun vs H Q E h => ?_) (fun cdv A outer s H vs Q E hr h => ?_)
  · obtain ⟨x, d, es, sd, rfl, _⟩ := h
    rfl
  obtain ⟨x, d, es, sd, rfl, t, hs, hd, k⟩ := h
  have hu := hu_of hr
  refine ⟨_, pss_cons (ps_asg (pv 0) (pg_tup (by rfl) (pgs_cons (pg_name (i := 2) scHolds.nd rfl (.inl rfl)) <| pgs_cons (pg_name (i := 3) scHolds.nd rfl (.inl rfl)) <| pgs_cons (pg_name (i := 4) scHolds.nd rfl (.inl rfl)) pgs_nil))) <|
    pss_cons (ps_if (pt_cmpR op_eq (pv 3) pe_str (nomark _)) (pss_one (ps_ret (pe_cmpR op_ge (pe_dget hu (pv 1) (pv 2) (fun _ _ => rfl)) (pv 4) (nomark _)))) pss_nil) <|
    pss_one (ps_ret (pe_cmpR op_le (pe_dget hu (pv 1) (pv 2) (fun _ _ => rfl)) (pv 4) (nomark _))), ?_⟩
  obtain ⟨z, so, i, rfl, hz, hso⟩ := say_is hs
  obtain ⟨p, u, v, y, rfl, hp, t1, t2, t3⟩ := tup3 t
  cases t1.strV
  cases t2.strV
  cases t3.intV
  have dg := look_dg hd hz
  have e : holdsS (lookE es) (.tuple [.str z, .str so, .int i]) = if decide (so = "least") = true then decide (i ≤ lookE es z) else decide (lookE es z ≤ i) := rfl
  rw [e] at k
  refine ⟨_, rfl, p, _, rfl, SqT.of hp, rfl, _, _, rfl, _, _, rfl, _, _, rfl, rfl, _, rfl, rfl, _, rfl, ?_⟩
  refine ite2 (fun c => ?_) (fun c => ?_)
  · refine ⟨_, rfl, _, rfl, d, _, rfl, dg, _, rfl, _, _, rfl, rfl, ?_⟩
    have c' : decide (so = ("least" : Str)) = true := by simpa using c
    rw [if_pos c'] at k
    exact k
  · refine ⟨_, rfl, _, rfl, d, _, rfl, dg, _, rfl, _, _, rfl, rfl, ?_⟩
    have c' : ¬ decide (so = ("least" : Str)) = true := by simpa using c
    rw [if_neg c'] at k
    exact k
theorem scLSaid : FnScope ["_law_saying_here", "_law_at"] ["_law_saying_here", "_law_at"] (defScope sLSaid) := ⟨rfl, rfl, rfl, by decide +kernel, rfl, by decide +kernel, by decide +kernel⟩
theorem ok_lsaid {f : Addr} {fd : FuncData} (F : Fun K "_law_said" "_law_said" sLSaid f fd) : FnOk P w K mg base CX0 1 f fd ["_law_saying_here", "_law_at"] spHolds := by
  refine F.ok scLSaid (fun vs H Q E h => ?_) (fun cdv A outer s H vs Q E hr h => ?_)
  · obtain ⟨x, d, es, sd, rfl, _⟩ := h
    rfl
  obtain ⟨x, d, es, sd, rfl, t, hs, hd, k⟩ := h
  have hu := hu_of hr
  refine ⟨_, pss_one (ps_ret (pe_ifExp (pt_cmpR op_eq (pe_ix ix_tup (pv 0) pe_int (fun _ _ => rfl)) pe_str (nomark _))
    (pe_cmpR op_ge (pe_dget hu (pv 1) (pe_ix ix_tup (pv 0) pe_int (fun _ _ => rfl)) (fun _ _ => rfl)) (pe_ix ix_tup (pv 0) pe_int (fun _ _ => rfl)) (nomark _))
    (pe_cmpR op_le (pe_dget hu (pv 1) (pe_ix ix_tup (pv 0) pe_int (fun _ _ => rfl)) (fun _ _ => rfl)) (pe_ix ix_tup (pv 0) pe_int (fun _ _ => rfl)) (nomark _)))), ?_⟩
  obtain ⟨z, so, i, rfl, hz, hso⟩ := say_is hs
  obtain ⟨p, u, v, y, rfl, hp, t1, t2, t3⟩ := tup3 t
  cases t1.strV
  cases t2.strV
  cases t3.intV
  have dg := look_dg hd hz
  have e : holdsS (lookE es) (.tuple [.str z, .str so, .int i]) = if decide (so = "least") = true then decide (i ≤ lookE es z) else decide (lookE es z ≤ i) := rfl
  rw [e] at k
  have i0 : atI [V.str z, V.str so, V.int i] 0 = some (V.str z) := rfl
  have i1 : atI [V.str z, V.str so, V.int i] 1 = some (V.str so) := rfl
  have i2 : atI [V.str z, V.str so, V.int i] 2 = some (V.int i) := rfl
  refine ⟨_, rfl, p, _, _, _, rfl, rfl, SqT.of hp, i1, rfl, _, rfl, ?_⟩
  refine ite2 (fun c => ?_) (fun c => ?_)
  · have c' : decide (so = ("least" : Str)) = true := by simpa using c
    rw [if_pos c'] at k
    exact ⟨_, rfl, _, rfl, p, _, _, _, rfl, rfl, SqT.of hp, i0, d, _, rfl, dg, _, rfl, p, _, _, _, rfl, rfl, SqT.of hp, i2, _, _, rfl, rfl, k⟩
  · have c' : ¬ decide (so = ("least" : Str)) = true := by simpa using c
    rw [if_neg c'] at k
    exact ⟨_, rfl, _, rfl, p, _, _, _, rfl, rfl, SqT.of hp, i0, d, _, rfl, dg, _, rfl, p, _, _, _, rfl, rfl, SqT.of hp, i2, _, _, rfl, rfl, k⟩
end
end Pk
/-! names_in, Layout. -/
namespace Pk
open PySem L2
abbrev sNamesIn : Stmt := topH 28
abbrev sInit : Stmt := inClass (topH 29) 0
abbrev sByN : Stmt := inClass (topH 29) 1
theorem dc_it {J : It} {n : Nat} {G : Hp → Prop} {Y : Nat → Hp → V → Hp → Prop} (W : Walk J n G Y) {g : TG} {tt : TT} {tk tv : TE} {vs : List Nat} {σ : L2.St} {H1 : Hp} {D : Addr} {Qd : Hp → Prop} (Pv : Nat → Hp → Prop) (h0 : Pv 0 (upd H1 D (.dK []))) (hG : ∀ i H, i ≤ n → Pv i H → G H)
    (hs : ∀ i x H H', i < n → Pv i H → Y i H x H' → g x (wipe σ vs) H' fun σ2 H2 => wipe σ2 vs = wipe σ vs ∧ tt σ2 H2 fun b H3 =>
      if b = true then tk σ2 H3 fun y H4 => tv σ2 H4 fun z H5 => ∃ kvs k, y = kV k ∧ H5 D = some (.dK kvs) ∧ kvs.length < sizeLine ∧ Pv (i + 1) (upd H5 D (.dK (putK kvs k z))) else Pv (i + 1) H3) (hd : ∀ H, Pv n H → Qd H) :
    ∃ W' : Nat → Nat → Hp → Prop, (∃ m, W' 0 m (upd H1 D (.dK []))) ∧ ∀ i m H, W' i m H →
      (J.stop i H ∧ Qd H) ∨ (J.go i H ∧ ∃ Nx : Hp → Prop, (∀ H', Nx H' → ∃ m', m' < m ∧ W' (i + 1) m' H') ∧ ∀ x H', J.yld i H x H' → g x (wipe σ vs) H' fun σ2 H2 => wipe σ2 vs = wipe σ vs ∧ tt σ2 H2 fun b H3 =>
        if b = true then tk σ2 H3 fun y H4 => tv σ2 H4 fun z H5 => ∃ kvs k, y = kV k ∧ H5 D = some (.dK kvs) ∧ kvs.length < sizeLine ∧ Nx (upd H5 D (.dK (putK kvs k z))) else Nx H3) := by
  refine ⟨fun i m H => m = n - i ∧ i ≤ n ∧ Pv i H, ⟨n, by simp, Nat.zero_le _, h0⟩, ?_⟩
  rintro i m H ⟨rfl, hi, p⟩
  have hg := hG i H hi p
  by_cases hlt : i < n
  · exact .inr ⟨W.goes i H hlt hg, Pv (i + 1), fun H' p' => ⟨n - (i + 1), by omega, rfl, hlt, p'⟩, fun x H' y => hs i x H H' hlt p (W.yields i H x H' hlt hg y)⟩
  · have e : i = n := by omega
    subst e
    exact .inl ⟨W.stops H hg, hd H p⟩
def spNamesIn : Sp := fun vs H Q _ => ∃ (x : V) (ns : List Str) (rd : PyData), vs = [x] ∧ Tr H x rd ∧ ruleD ns rd = true ∧ ∀ (l : Addr) (zs : List Str) (H' : Hp), Same H H' → H l = none → H' l = some (.lst (zs.map V.str)) → zs.length ≤ 2 → (∀ z ∈ zs, z ∈ ns) → Q (.ref l) H'
section
variable {P : Program} {w : World} {K : PySem.W.Frag} {mg : Str → Option Value} {base : Heap}
theorem scNamesIn : FnScope ["rule", "first", "second"] ["rule"] (defScope sNamesIn) := ⟨rfl, rfl, rfl, by decide +kernel, rfl, by decide +kernel, by decide +kernel⟩
theorem ok_namesIn {f : Addr} {fd : FuncData} (F : Fun K "names_in" "names_in" sNamesIn f fd) : FnOk P w K mg base CX0 1 f fd ["rule"] spNamesIn := by
  refine F.ok scNamesIn (fun vs H Q E h => ?_) (fun cdv A outer s H vs Q E hr h => ?_)
  · obtain ⟨x, ns, rd, rfl, _⟩ := h
    rfl
  obtain ⟨x, ns, rd, rfl, t, hs, k⟩ := h
  refine ⟨_, pss_cons (ps_if (pt_cmpR op_ne (pe_ix ix_tup (pv 0) pe_int (fun _ _ => rfl)) pe_str (nomark _)) (pss_one (ps_ret (pe_lst (pa_cons (pe_ix ix_tup (pv 0) pe_int (fun _ _ => rfl)) (pa_cons (pe_ix ix_tup (pv 0) pe_int (fun _ _ => rfl)) pa_nil))))) pss_nil) <|
    pss_cons (ps_par (i := 1) (j := 2) (by rfl) scNamesIn.nd rfl rfl (by decide) rfl rfl (pa_cons (pe_ix ix_tup (pe_ix ix_tup (pv 0) pe_int (fun _ _ => rfl)) pe_int (fun _ _ => rfl)) (pa_cons (pe_ix ix_tup (pe_ix ix_tup (pv 0) pe_int (fun _ _ => rfl)) pe_int (fun _ _ => rfl)) pa_nil)) (by rfl)) <|
    pss_one (ps_ret (pe_ifExp (pt_cmpR op_eq (pv 1) (pv 2) (nomark _)) (pe_lst (pa_cons (pv 1) pa_nil)) (pe_lst (pa_cons (pv 1) (pa_cons (pv 2) pa_nil))))), ?_⟩
  rcases rule_is hs with ⟨p, q, rfl, h1, h2⟩ | ⟨w', a, b, c, rfl, hw, ha, hb⟩
  · obtain ⟨z1, so1, j1, rfl, m1, _⟩ := say_is h1
    obtain ⟨z2, so2, j2, rfl, m2, _⟩ := say_is h2
    obtain ⟨pa, u, v, y, rfl, hp, t1, t2, t3⟩ := tup3 t
    cases t1.strV
    obtain ⟨q1, a1, a2, a3, rfl, g1, s1, s2, s3⟩ := tup3 t2
    obtain ⟨q2, b1, b2, b3, rfl, g2, r1, r2, r3⟩ := tup3 t3
    cases s1.strV
    cases r1.strV
    refine ⟨_, rfl, pa, _, _, _, rfl, rfl, SqT.of hp, (rfl : atI [V.str "one", V.ref q1, V.ref q2] 0 = some (V.str "one")), rfl, _, rfl, iteF ?_⟩
    refine ⟨_, rfl, pa, _, _, _, rfl, rfl, SqT.of hp, (rfl : atI [V.str "one", V.ref q1, V.ref q2] 1 = some (V.ref q1)), q1, _, _, _, rfl, rfl, SqT.of g1, (rfl : atI [V.str z1, a2, a3] 0 = some (V.str z1)), ?_⟩
    refine ⟨_, rfl, pa, _, _, _, rfl, rfl, SqT.of hp, (rfl : atI [V.str "one", V.ref q1, V.ref q2] 2 = some (V.ref q2)), q2, _, _, _, rfl, rfl, SqT.of g2, (rfl : atI [V.str z2, b2, b3] 0 = some (V.str z2)), ?_⟩
    refine ⟨_, _, rfl, _, rfl, _, rfl, rfl, _, rfl, ?_⟩
    refine ite2 (fun _ => ?_) (fun _ => ?_)
    · exact ⟨_, rfl, by show 1 ≤ sizeLine; decide, fun l nl => k l [z1] _ (sameNew nl _) nl upd_same (by simp) fun z hz => by rw [List.mem_singleton.mp hz]; exact m1⟩
    · refine ⟨_, rfl, _, rfl, by show 2 ≤ sizeLine; decide, fun l nl => k l [z1, z2] _ (sameNew nl _) nl upd_same (by simp) fun z hz => ?_⟩
      simp only [List.mem_cons, List.not_mem_nil, or_false] at hz
      rcases hz with rfl | rfl
      · exact m1
      · exact m2
  · obtain ⟨pa, u, v, y, z, rfl, hp, t1, t2, t3, t4⟩ := tup4 t
    cases t1.strV
    cases t2.strV
    cases t3.strV
    cases t4.intV
    refine ⟨_, rfl, pa, _, _, _, rfl, rfl, SqT.of hp, (rfl : atI [V.str w', V.str a, V.str b, V.int c] 0 = some (V.str w')), rfl, _, rfl, ?_⟩
    refine ite2 (fun _ => ?_) (fun c1 => ?_)
    · refine ⟨_, rfl, pa, _, _, _, rfl, rfl, SqT.of hp, (rfl : atI [V.str w', V.str a, V.str b, V.int c] 1 = some (V.str a)), _, rfl, pa, _, _, _, rfl, rfl, SqT.of hp, (rfl : atI [V.str w', V.str a, V.str b, V.int c] 2 = some (V.str b)), by show 2 ≤ sizeLine; decide, fun l nl => k l [a, b] _ (sameNew nl _) nl upd_same (by simp) fun z hz => ?_⟩
      simp only [List.mem_cons, List.not_mem_nil, or_false] at hz
      rcases hz with rfl | rfl
      · exact ha
      · exact hb
    · exfalso
      have q := pairs_one w' hw
      have q2 : w' = ("one" : Str) := by simpa using c1
      rw [decide_eq_true q2] at q
      cases q
end
end Pk
/-! Layout's making. -/
namespace Pk
open PySem L2
structure LayTxt (K : PySem.W.Frag) (mg : Str → Option Value) (C : Addr) : Prop where
  cl : Cls K C
  nN : NoAttr K C "names"
  nD : NoAttr K C "dials"
  nR : NoAttr K C "rules"
  nS : NoAttr K C "speaking"
  mgC : mg "Layout" = some (.ref C)
/-- a Layout at x, its names at nl -/
structure LayAt (C : Addr) (H : Hp) (x nl : Addr) (ns : List Str) : Prop where
  ob : ∃ dx fs, H x = some (.ins C dx fs) ∧ fs.lookup ("names" : Str) = some (.ref nl) ∧ fs.lookup ("by_names" : Str) = none
  nm : H nl = some (.lst (ns.map V.str))
def spInit (C : Addr) : Sp := fun vs H Q _ => ∃ (x h dx : Addr) (ds rs : List PyData), vs = [.ref x, .ref h] ∧ H x = some (.ins C dx []) ∧ Tr H (.ref h) (.tuple [.tuple ds, .tuple rs]) ∧ HouseG ds rs ∧
  ∀ (nl : Addr) (H' : Hp), LayAt C H' x nl (ds.map nameOf) → (∀ b o, b ≠ x → H b = some o → H' b = some o) → Q .non H'
abbrev nInit : List Str := ["self", "house", "dials", "rules", "name", "rule", "dial"]
/-- each name has a list of its own -/
def Spk (H0 : Hp) (nl : Addr) (ns : List Str) (m : Nat) (H' : Hp) (sp : Addr) : Prop := ∃ kvs : List (Key × V), H' sp = some (.dK kvs) ∧ ∀ z ∈ ns, ∃ (l : Addr) (ys : List V), valV kvs (Sum.inr z) = some (.ref l) ∧ H0 l = none ∧ l ≠ nl ∧ H' l = some (.lst ys) ∧ ys.length ≤ m
theorem dial_tup0 {H : Hp} {x : V} {d : PyData} (t : Tr H x d) (h : DialG d) : ∃ (b : Addr) (xs : List V), x = .ref b ∧ H b = some (.tup xs) ∧ atI xs 0 = some (.str (nameOf d)) := by
  obtain ⟨nm, way, lo, hi, up, dn, rfl, _⟩ := h
  cases t with
  | @tup b xs _ hb al =>
    match xs, al with
    | [_, _, _, _, _, _], .cons (.str _) _ => exact ⟨b, _, rfl, hb, rfl⟩
/-- no data stands at p -/
def NoData (H : Hp) (p : Addr) : Prop := ∀ o, H p = some o → (∀ xs, o ≠ .lst xs) ∧ (∀ xs, o ≠ .tup xs) ∧ ∀ kvs, o ≠ .dK kvs
theorem NoData.ins {H : Hp} {p C dx : Addr} {fs : List (Str × V)} (h : H p = some (.ins C dx fs)) : NoData H p := fun o e => by
  rw [h] at e
  cases e
  refine ⟨fun _ z => ?_, fun _ z => ?_, fun _ z => ?_⟩ <;> cases z
mutual
theorem Tr.but {p : Addr} {H H' : Hp} (n : NoData H p) (k : ∀ c o, c ≠ p → H c = some o → H' c = some o) : ∀ {v : V} {d : PyData}, Tr H v d → Tr H' v d
  | _, _, .non => .non
  | _, _, .bl b => .bl b
  | _, _, .int i => .int i
  | _, _, .str x => .str x
  | _, _, .lst h t => .lst (k _ _ (fun z => by rw [z] at h; exact (n _ h).1 _ rfl) h) (TrAll.but n k t)
  | _, _, .tup h t => .tup (k _ _ (fun z => by rw [z] at h; exact (n _ h).2.1 _ rfl) h) (TrAll.but n k t)
  | _, _, .dct h nd e t => .dct (k _ _ (fun z => by rw [z] at h; exact (n _ h).2.2 _ rfl) h) nd e (TrAll.but n k t)
theorem TrAll.but {p : Addr} {H H' : Hp} (n : NoData H p) (k : ∀ c o, c ≠ p → H c = some o → H' c = some o) : ∀ {vs : List V} {ds : List PyData}, TrAll H vs ds → TrAll H' vs ds
  | _, _, .nil => .nil
  | _, _, .cons a b => .cons (Tr.but n k a) (TrAll.but n k b)
end
section
variable {P : Program} {w : World} {K : PySem.W.Frag} {mg : Str → Option Value} {base : Heap}
theorem scInit : FnScope nInit ["self", "house"] (defScope sInit) := ⟨rfl, rfl, rfl, by decide +kernel, rfl, by decide +kernel, by decide +kernel⟩
set_option maxHeartbeats 2000000 in
theorem ok_init {f g C : Addr} {fd gd : FuncData} (F : Fun K "__init__" "Layout.__init__" sInit f fd) (T : LayTxt K mg C) (G : FnOk P w K mg base CX0 1 g gd ["rule"] spNamesIn) (bG : Binds K gd ["rule"] []) (kG : PySem.W.keepIn K (.ref g) = true) (mG : mg "names_in" = some (.ref g)) :
    FnOk P w K mg base CX0 2 f fd ["self", "house"] (spInit C) := by
  refine F.ok scInit (fun vs H Q E h => ?_) (fun cdv A outer s H vs Q E hr h => ?_)
  · obtain ⟨x, h, dx, ds, rs, rfl, _⟩ := h
    rfl
  obtain ⟨x, h, dx, ds, rs, rfl, hx, th, hg, k⟩ := h
  have hu := hu_of hr
  refine ⟨_, pss_cons (ps_asg (pv 1) (pg_tup (by rfl) (pgs_cons (pg_name (i := 2) scInit.nd rfl (.inl rfl)) <| pgs_cons (pg_name (i := 3) scInit.nd rfl (.inl rfl)) pgs_nil))) <|
    pss_cons (ps_fld (pv 0) (pe_lc (own := [("dial", 6)]) (g := gName 6) (by rfl) scInit.nd (pi_tup (pv 2)) (blkOk_by (N := nInit) (sc := defScope sInit) (by decide +kernel)) (fun _ _ _ _ _ => pg_name (i := 6) scInit.nd rfl (Or.inl rfl)) (fun _ _ _ _ _ => pts_nil) (fun _ _ _ _ _ => pe_ix (r := rIxT K) ix_tup (pv 6) pe_int (fun _ _ => rfl))) rfl) <|
    pss_cons (ps_fld (pv 0) (pe_dc (own := [("dial", 6)]) (g := gName 6) (by rfl) scInit.nd (pi_tup (pv 2)) (blkOk_by (N := nInit) (sc := defScope sInit) (by decide +kernel)) (fun _ _ _ _ _ => pg_name (i := 6) scInit.nd rfl (Or.inl rfl)) (fun _ _ _ _ _ => pts_nil) (fun _ _ _ _ _ => pe_ix (r := rIxT K) ix_tup (pv 6) pe_int (fun _ _ => rfl)) (fun _ _ _ _ _ => pv 6)) rfl) <|
    pss_cons (ps_fld (pv 0) (pv 3) rfl) <|
    pss_cons (ps_fld (pv 0) (pe_dc (own := [("name", 4)]) (g := gName 4) (by rfl) scInit.nd (pi_list (pe_fld (pv 0) rfl)) (blkOk_by (N := nInit) (sc := defScope sInit) (by decide +kernel)) (fun _ _ _ _ _ => pg_name (i := 4) scInit.nd rfl (Or.inl rfl)) (fun _ _ _ _ _ => pts_nil) (fun _ _ _ _ _ => pv 4) (fun _ _ _ _ _ => pe_lst pa_nil)) rfl) <|
    pss_one (ps_for PassesOwn.never rfl (pi_tup (pv 3)) (pg_name (i := 5) scInit.nd rfl (Or.inl rfl))
      (pss_one (ps_for PassesOwn.never rfl (pi_list (pe_call G hr rfl mG kG bG .nil pass0 (pa_cons (pv 5) pa_nil))) (pg_name (i := 4) scInit.nd rfl (Or.inl rfl))
        (pss_one (ps_expr (pe_bm PySem.F.plainAttrs_list PySem.F.slot_list_append PySem.F.type_list_append mt_append (pe_dget hu (pe_fld (pv 0) rfl) (pv 4) (fun _ _ => rfl)) (pa_cons (pv 5) pa_nil))))))), ?_⟩
  cases th with
  | @tup _ hs _ hh al =>
  match hs, al with
  | [_, _], .cons (@Tr.tup _ a xs _ hA alA) (.cons (@Tr.tup _ b ys _ hB alB) .nil) =>
  have lA := alA.length
  have lB := alB.length
  have d2 := hg.d2
  have r2 := hg.r2
  refine ⟨_, rfl, h, _, rfl, SqT.of hh, rfl, _, _, rfl, _, _, rfl, rfl, ?_⟩
  -- the names
  refine ⟨_, rfl, a, rfl, ⟨_, SqT.of hA⟩, fun nl hnl => lc_tup (K := K) (a := a) (xs := xs) (fun i H1 => H1 nl = some (.lst (((ds.map nameOf).take i).map V.str)) ∧ Same H H1) ⟨upd_same, sameNew hnl _⟩ (fun i H1 _ ⟨_, s1⟩ => SqT.of (s1 _ _ hA)) ?_ ?_⟩
  · rintro i y H1 hy ⟨e1, s1⟩
    obtain ⟨d, hd, tr⟩ := alA.get hy
    obtain ⟨q, qs, rfl, hq, i0⟩ := dial_tup0 (tr.same s1) (hg.dials d (List.mem_of_getElem? hd))
    have hn : (ds.map nameOf)[i]? = some (nameOf d) := by rw [List.getElem?_map, hd]; rfl
    refine ⟨rfl, _, rfl, q, _, _, _, rfl, rfl, SqT.of hq, i0, _, e1, small1000 (by simp; omega), ?_, fun c o e => ?_⟩
    · rw [upd_same, take_more hn, List.map_append]
      rfl
    · rw [upd_ne (ne_of_none e hnl)]
      exact s1 _ _ e
  rintro H1 ⟨e1, s1⟩
  have e1 : H1 nl = some (.lst ((ds.map nameOf).map V.str)) := by rw [e1, List.take_of_length_le (by simp; omega)]
  have xnl : x ≠ nl := ne_of (s1 _ _ hx) e1 (by intro z; cases z)
  refine ⟨_, rfl, x, C, dx, [], rfl, s1 _ _ hx, T.cl, T.nN, by show 0 < 1000; decide, ?_⟩
  generalize hF1 : putF "names" (V.ref nl) [] = fs1
  have lF1 : fs1.length ≤ 1 := by rw [← hF1]; exact length_putF _ _ []
  have k1 : fs1.lookup ("names" : Str) = some (.ref nl) := by rw [← hF1, lookup_putF, if_pos rfl]
  have n1 : fs1.lookup ("by_names" : Str) = none := by rw [← hF1, lookup_putF, if_neg (by decide +kernel)]; rfl
  have kp1 : ∀ c o, c ≠ x → H c = some o → upd H1 x (.ins C dx fs1) c = some o := fun c o hc e => by rw [upd_ne hc]; exact s1 _ _ e
  have x1 : upd H1 x (.ins C dx fs1) x = some (.ins C dx fs1) := upd_same
  have m1 : upd H1 x (.ins C dx fs1) nl = some (.lst ((ds.map nameOf).map V.str)) := by rw [upd_ne xnl.symm]; exact e1
  generalize upd H1 x (.ins C dx fs1) = H2 at kp1 x1 m1
  have ax : a ≠ x := ne_of hA hx (by intro z; cases z)
  have bx : b ≠ x := ne_of hB hx (by intro z; cases z)
  clear e1 s1 hF1
  -- the dials
  have nx : NoData H x := .ins hx
  have alA2 : TrAll H2 xs ds := alA.but nx kp1
  have hA2 := kp1 _ _ ax hA
  refine ⟨_, rfl, a, rfl, ⟨_, SqT.of hA2⟩, fun D2 hD2 => dc_it (walk_tup (K := K) (a := a) (xs := xs)) (fun i H3 => ∃ kvs : List (Key × V), H3 D2 = some (.dK kvs) ∧ kvs.length ≤ i ∧ Same H2 H3) ⟨[], upd_same, Nat.le_refl _, sameNew hD2 _⟩ (fun i H3 _ ⟨_, _, _, s3⟩ => SqT.of (s3 _ _ hA2)) ?_ ?_⟩
  · rintro i y H3 _ hi ⟨kvs, e3, l3, s3⟩ ⟨rfl, hy⟩
    obtain ⟨d, hd, tr⟩ := alA2.get hy
    obtain ⟨q, qs, rfl, hq, i0⟩ := dial_tup0 (tr.same s3) (hg.dials d (List.mem_of_getElem? hd))
    refine ⟨rfl, _, rfl, q, _, _, _, rfl, rfl, SqT.of hq, i0, _, rfl, kvs, Sum.inr (nameOf d), rfl, e3, small1000 (by omega), _, upd_same, Nat.le_trans (length_putK _ _ _) (by omega), fun c o e => ?_⟩
    rw [upd_ne (ne_of_none e hD2)]
    exact s3 _ _ e
  rintro H3 ⟨kvs, e3, _, s3⟩
  have xD2 : x ≠ D2 := ne_of (s3 _ _ x1) e3 (by intro z; cases z)
  refine ⟨_, rfl, x, C, dx, fs1, rfl, s3 _ _ x1, T.cl, T.nD, by omega, ?_⟩
  generalize hF2 : putF "dials" (V.ref D2) fs1 = fs2
  have lF2 : fs2.length ≤ 2 := by rw [← hF2]; exact Nat.le_trans (length_putF _ _ _) (by omega)
  have k2 : fs2.lookup ("names" : Str) = some (.ref nl) := by rw [← hF2, lookup_putF, if_neg (by decide +kernel)]; exact k1
  have n2 : fs2.lookup ("by_names" : Str) = none := by rw [← hF2, lookup_putF, if_neg (by decide +kernel)]; exact n1
  -- the rules
  refine ⟨_, rfl, _, rfl, x, C, dx, fs2, rfl, upd_same, T.cl, T.nR, by omega, ?_⟩
  generalize hF3 : putF "rules" (V.ref b) fs2 = fs3
  have lF3 : fs3.length ≤ 3 := by rw [← hF3]; exact Nat.le_trans (length_putF _ _ _) (by omega)
  have k3 : fs3.lookup ("names" : Str) = some (.ref nl) := by rw [← hF3, lookup_putF, if_neg (by decide +kernel)]; exact k2
  have n3 : fs3.lookup ("by_names" : Str) = none := by rw [← hF3, lookup_putF, if_neg (by decide +kernel)]; exact n2
  have kp3 : ∀ c o, c ≠ x → H c = some o → upd (upd H3 x (.ins C dx fs2)) x (.ins C dx fs3) c = some o := fun c o hc e => by rw [upd_ne hc, upd_ne hc]; exact s3 _ _ (kp1 c o hc e)
  have x3 : upd (upd H3 x (.ins C dx fs2)) x (.ins C dx fs3) x = some (.ins C dx fs3) := upd_same
  have m3 : upd (upd H3 x (.ins C dx fs2)) x (.ins C dx fs3) nl = some (.lst ((ds.map nameOf).map V.str)) := by rw [upd_ne xnl.symm, upd_ne xnl.symm]; exact s3 _ _ m1
  generalize upd (upd H3 x (.ins C dx fs2)) x (.ins C dx fs3) = H4 at kp3 x3 m3
  clear e3 s3 hF2 hF3 kp1 x1 m1 alA2 hA2 k1 n1 k2 n2 hD2 xD2
  -- speaking
  refine ⟨_, rfl, x, C, dx, fs3, _, rfl, x3, T.cl, T.nN, k3, nl, rfl, ⟨_, SqL.of m3⟩, fun D3 hD3 => dc_it (walk_list (K := K) (a := nl) (xs := (ds.map nameOf).map V.str)) (fun i H5 => ∃ kvs : List (Key × V), H5 D3 = some (.dK kvs) ∧ kvs.length ≤ i ∧ (∀ z ∈ (ds.map nameOf).take i, ∃ l : Addr, valV kvs (Sum.inr z) = some (.ref l) ∧ H4 l = none ∧ l ≠ D3 ∧ H5 l = some (.lst [])) ∧ Same H4 H5)
    ⟨[], upd_same, Nat.le_refl _, fun _ hz => absurd hz (by simp), sameNew hD3 _⟩ (fun i H5 _ ⟨_, _, _, _, s5⟩ => SqL.of (s5 _ _ m3)) ?_ ?_⟩
  · rintro i y H5 _ hi ⟨kvs, e5, l5, f5, s5⟩ ⟨rfl, hy⟩
    rw [List.getElem?_map] at hy
    obtain ⟨z, hz, rfl⟩ := Option.map_eq_some_iff.mp hy
    have hi' : i < 12 := by simp at hi; omega
    refine ⟨rfl, _, rfl, by show 0 ≤ sizeLine; decide, fun p np => ?_⟩
    have pD3 : p ≠ D3 := fun q => by rw [q, e5] at np; cases np
    refine ⟨kvs, Sum.inr z, rfl, by rw [upd_ne pD3.symm]; exact e5, small1000 (by omega), _, upd_same, Nat.le_trans (length_putK _ _ _) (by omega), fun z' hz' => ?_, fun c o e => ?_⟩
    · rw [valV_put]
      by_cases c : z' = z
      · subst c
        exact ⟨p, by rw [if_pos rfl], s5.free np, pD3, by rw [upd_ne pD3, upd_same]⟩
      · rw [take_more hz] at hz'
        have hz2 : z' ∈ (ds.map nameOf).take i := by
          rcases List.mem_append.mp hz' with q | q
          · exact q
          · exact absurd (List.mem_singleton.mp q) c
        obtain ⟨l, v1, v2, v3, v4⟩ := f5 z' hz2
        refine ⟨l, by rw [if_neg (fun q => c (Sum.inr.inj q))]; exact v1, v2, v3, ?_⟩
        rw [upd_ne v3, upd_ne (ne_of_none v4 np)]
        exact v4
    · rw [upd_ne (ne_of_none e hD3)]
      exact sameNew np _ _ _ (s5 _ _ e)
  rintro H5 ⟨kvs, e5, _, f5, s5⟩
  rw [List.length_map, List.take_length] at f5
  have xD3 : x ≠ D3 := ne_of (s5 _ _ x3) e5 (by intro z; cases z)
  refine ⟨_, rfl, x, C, dx, fs3, rfl, s5 _ _ x3, T.cl, T.nS, by omega, ?_⟩
  generalize hF4 : putF "speaking" (V.ref D3) fs3 = fs4
  have k4 : fs4.lookup ("names" : Str) = some (.ref nl) := by rw [← hF4, lookup_putF, if_neg (by decide +kernel)]; exact k3
  have n4 : fs4.lookup ("by_names" : Str) = none := by rw [← hF4, lookup_putF, if_neg (by decide +kernel)]; exact n3
  have vS : fs4.lookup ("speaking" : Str) = some (.ref D3) := by rw [← hF4, lookup_putF, if_pos rfl]
  have kp4 : ∀ c o, c ≠ x → H c = some o → upd H5 x (.ins C dx fs4) c = some o := fun c o hc e => by rw [upd_ne hc]; exact s5 _ _ (kp3 c o hc e)
  have x4 : upd H5 x (.ins C dx fs4) x = some (.ins C dx fs4) := upd_same
  have m4 : upd H5 x (.ins C dx fs4) nl = some (.lst ((ds.map nameOf).map V.str)) := by rw [upd_ne xnl.symm]; exact s5 _ _ m3
  have sp4 : Spk H nl (ds.map nameOf) 0 (upd H5 x (.ins C dx fs4)) D3 := by
    refine ⟨kvs, by rw [upd_ne xD3.symm]; exact e5, fun z hz => ?_⟩
    obtain ⟨l, w1, w2, w3, w4⟩ := f5 z hz
    have lx : l ≠ x := fun q => by rw [q, x3] at w2; cases w2
    have hl0 : H l = none := by
      cases e : H l with
      | none => rfl
      | some o => rw [kp3 l o lx e] at w2; cases w2
    exact ⟨l, [], w1, hl0, fun q => (by rw [q, m3] at w2; cases w2), by rw [upd_ne lx]; exact w4, Nat.le_refl _⟩
  generalize upd H5 x (.ins C dx fs4) = H6 at kp4 x4 m4 sp4
  clear e5 f5 s5 hF4 kp3 x3 m3 k3 n3 hD3
  have hB6 := kp4 _ _ bx hB
  have st : ∀ {Ha Hb : Hp} {m : Nat}, Spk H nl (ds.map nameOf) m Ha D3 → Same Ha Hb → Spk H nl (ds.map nameOf) m Hb D3 := fun {Ha Hb m} h s => by
    obtain ⟨kvs, e1, e2⟩ := h
    exact ⟨kvs, s _ _ e1, fun z hz => let ⟨l, ys, w1, w2, w3, w4, w5⟩ := e2 z hz; ⟨l, ys, w1, w2, w3, s _ _ w4, w5⟩⟩
  refine ⟨_, rfl, b, rfl, ⟨_, SqT.of hB6⟩, for_tup (K := K) (a := b) (xs := ys) (fun i σ H7 => ∃ v4 v5 : Option V, σ = [some (.ref x), some (.ref h), some (.ref a), some (.ref b), v4, v5, none] ∧ H7 x = some (.ins C dx fs4) ∧ H7 nl = some (.lst ((ds.map nameOf).map V.str)) ∧ Spk H nl (ds.map nameOf) (2 * i) H7 D3 ∧ ∀ c o, c ≠ x → H c = some o → H7 c = some o)
    ⟨none, none, rfl, x4, m4, sp4, kp4⟩ (fun i σ H7 _ ⟨_, _, _, _, _, _, kp⟩ => SqT.of (kp _ _ bx hB)) ?_ ?_⟩
  · rintro i y σ H7 hy ⟨v4', v5', rfl, x7, m7, sp7, kp7⟩
    obtain ⟨r, hr', tr⟩ := alB.get hy
    have hil : i < ys.length := (List.getElem?_eq_some_iff.mp hy).1
    refine ⟨_, rfl, y, ds.map nameOf, r, rfl, tr.but nx kp7, (hg.rules r (List.mem_of_getElem? hr')).rule, fun l zs H8 s8 nl8 hl8 lz mz => ?_⟩
    refine ⟨l, rfl, ⟨_, SqL.of hl8⟩, for_list (K := K) (a := l) (xs := zs.map V.str) (fun j σ H9 => ∃ v4 : Option V, σ = [some (.ref x), some (.ref h), some (.ref a), some (.ref b), v4, some y, none] ∧ H9 x = some (.ins C dx fs4) ∧ H9 nl = some (.lst ((ds.map nameOf).map V.str)) ∧ H9 l = some (.lst (zs.map V.str)) ∧ Spk H nl (ds.map nameOf) (2 * i + j) H9 D3 ∧ (∀ z ∈ ds.map nameOf, ∀ kvs, H9 D3 = some (.dK kvs) → valV kvs (Sum.inr z) ≠ some (.ref l)) ∧ ∀ c o, c ≠ x → H c = some o → H9 c = some o)
      ⟨_, rfl, s8 _ _ x7, s8 _ _ m7, hl8, st sp7 s8, ?_, fun c o hc e => s8 _ _ (kp7 c o hc e)⟩ (fun j σ H9 _ ⟨_, _, _, _, q, _⟩ => SqL.of q) ?_ ?_⟩
    · intro z hz kvs e ev
      obtain ⟨kvs', e1, e2⟩ := sp7
      rw [s8 _ _ e1] at e
      cases e
      obtain ⟨l', ys', w1, _, _, w4, _⟩ := e2 z hz
      rw [w1] at ev
      cases ev
      rw [w4] at nl8
      cases nl8
    · rintro j z' σ H9 hj ⟨v4, rfl, x9, m9, l9, sp9, nl9, kp9⟩
      rw [List.getElem?_map] at hj
      obtain ⟨z, hz, rfl⟩ := Option.map_eq_some_iff.mp hj
      have hzm := mz z (List.mem_of_getElem? hz)
      have hjl : j < zs.length := (List.getElem?_eq_some_iff.mp hz).1
      obtain ⟨kvs, e1, e2⟩ := sp9
      obtain ⟨q, ws, w1, w2, w3, w4, w5⟩ := e2 z hzm
      have ql : q ≠ l := fun e => nl9 z hzm kvs e1 (by rw [← e]; exact w1)
      have qx : q ≠ x := ne_of w4 x9 (by intro z; cases z)
      have qD : D3 ≠ q := ne_of e1 w4 (by intro z; cases z)
      refine ⟨_, rfl, x, C, dx, fs4, _, rfl, x9, T.cl, T.nS, vS, _, rfl, D3, _, rfl, .inl ⟨_, .inr z, .inl e1, rfl, w1.symm⟩, .inl ⟨rfl, _, SqL.of w4⟩, _, rfl, q, _, _, rfl, rfl, w4, small1000 (by omega), ?_⟩
      refine ⟨_, rfl, by rw [upd_ne qx.symm]; exact x9, by rw [upd_ne w3.symm]; exact m9, by rw [upd_ne ql.symm]; exact l9, ⟨kvs, by rw [upd_ne qD]; exact e1, fun z2 hz2 => ?_⟩, fun z2 hz2 kvs2 ek => ?_, fun c o hc e => ?_⟩
      · obtain ⟨q2, ws2, y1, y2, y3, y4, y5⟩ := e2 z2 hz2
        by_cases c : q2 = q
        · subst c
          rw [w4] at y4
          cases y4
          exact ⟨q2, _, y1, y2, y3, upd_same, by simp; omega⟩
        · exact ⟨q2, ws2, y1, y2, y3, by rw [upd_ne c]; exact y4, by omega⟩
      · rw [upd_ne qD] at ek
        exact nl9 z2 hz2 kvs2 ek
      · rw [upd_ne (ne_of_none e w2)]
        exact kp9 c o hc e
    · rintro σ H9 ⟨v4, rfl, x9, m9, l9, sp9, nl9, kp9⟩
      refine ⟨_, _, rfl, x9, m9, ?_, kp9⟩
      obtain ⟨kvs, e1, e2⟩ := sp9
      refine ⟨kvs, e1, fun z hz => ?_⟩
      obtain ⟨q, ws, w1, w2, w3, w4, w5⟩ := e2 z hz
      rw [List.length_map] at w5
      exact ⟨q, ws, w1, w2, w3, w4, by omega⟩
  · rintro σ H7 ⟨v4', v5', rfl, x7, m7, sp7, kp7⟩
    exact k nl H7 ⟨⟨dx, fs4, x7, k4, n4⟩, m7⟩ kp7
end
end Pk
/-! by_names, broken_rules, stands, check_house. -/
namespace Pk
open PySem L2
abbrev sCheckH : Stmt := topH 38
abbrev sCheckN : Stmt := topH 40
/-- all stays, but these tables may grow -/
def GrS (Ps : List Addr) (H H' : Hp) : Prop := (∀ P ∈ Ps, GxR.TabG H' P) ∧ ∀ b o, b ∉ Ps → H b = some o → H' b = some o
def Tabs (Ps : List Addr) (H : Hp) : Prop := ∀ P ∈ Ps, GxR.TabG H P
theorem Tabs.not {Ps : List Addr} {H : Hp} {a : Addr} {o : HO} (t : Tabs Ps H) (h : H a = some o) (n : ∀ q, o ≠ .tbl q) : a ∉ Ps := fun hm => by
  obtain ⟨ps, z, _⟩ := t a hm
  rw [h] at z
  cases z
  exact n ps rfl
theorem GrS.refl {Ps : List Addr} {H : Hp} (t : Tabs Ps H) : GrS Ps H H := ⟨t, fun _ _ _ e => e⟩
theorem GrS.trans {Ps : List Addr} {H H1 H2 : Hp} (a : GrS Ps H H1) (b : GrS Ps H1 H2) : GrS Ps H H2 := ⟨b.1, fun c o hc e => b.2 c o hc (a.2 c o hc e)⟩
theorem GrS.of {Ps : List Addr} {P : Addr} {H H' : Hp} (hP : P ∈ Ps) (t : Tabs Ps H) (g : Gr P H H') : GrS Ps H H' := ⟨fun Q hQ => by
  by_cases e : Q = P
  · rw [e]; exact g.1
  · obtain ⟨ps, z, y⟩ := t Q hQ
    exact ⟨ps, g.2 _ _ e z, y⟩, fun b o hb e => g.2 b o (fun z => hb (by rw [z]; exact hP)) e⟩
theorem GrS.same {Ps : List Addr} {H H' : Hp} (t : Tabs Ps H) (s : Same H H') : GrS Ps H H' := ⟨fun Q hQ => let ⟨ps, z, y⟩ := t Q hQ; ⟨ps, s _ _ z, y⟩, fun b o _ e => s b o e⟩
theorem GrS.at {Ps : List Addr} {H H' : Hp} {a : Addr} {o : HO} (g : GrS Ps H H') (t : Tabs Ps H) (h : H a = some o) (n : ∀ q, o ≠ .tbl q) : H' a = some o := g.2 a o (t.not h n) h
mutual
theorem Tr.grs {Ps : List Addr} {H H' : Hp} (t : Tabs Ps H) (g : GrS Ps H H') : ∀ {v : V} {d : PyData}, Tr H v d → Tr H' v d
  | _, _, .non => .non
  | _, _, .bl b => .bl b
  | _, _, .int i => .int i
  | _, _, .str x => .str x
  | _, _, .lst h a => .lst (g.at t h (by intro q z; cases z)) (TrAll.grs t g a)
  | _, _, .tup h a => .tup (g.at t h (by intro q z; cases z)) (TrAll.grs t g a)
  | _, _, .dct h n e a => .dct (g.at t h (by intro q z; cases z)) n e (TrAll.grs t g a)
theorem TrAll.grs {Ps : List Addr} {H H' : Hp} (t : Tabs Ps H) (g : GrS Ps H H') : ∀ {vs : List V} {ds : List PyData}, TrAll H vs ds → TrAll H' vs ds
  | _, _, .nil => .nil
  | _, _, .cons h u => .cons (Tr.grs t g h) (TrAll.grs t g u)
end
/-! numbers told by data -/
def intOf : PyData → Int
  | .int i => i
  | _ => 0
def intsOf : PyData → List Int
  | .tuple es => es.map intOf
  | _ => []
theorem nums_ints {ds es : List PyData} (hl : es.length = ds.length) (h : ((ds.zip es).all fun p => numD p.1 p.2) = true) : es = (es.map intOf).map PyData.int := by
  induction es generalizing ds with
  | nil => rfl
  | cons e es ih =>
    cases ds with
    | nil => simp at hl
    | cons d ds =>
      rw [List.zip_cons_cons, List.all_cons, Bool.and_eq_true] at h
      have q : ∃ i, e = .int i := by
        have h1 := h.1
        unfold numD at h1
        split at h1
        · exact whole_is h1
        · cases h1
      obtain ⟨i, rfl⟩ := q
      rw [List.map_cons, List.map_cons, ← ih (ds := ds) (by simpa using hl) h.2]
      rfl
theorem trInts {H : Hp} : ∀ {xs : List V} {is : List Int}, TrAll H xs (is.map PyData.int) → xs = is.map V.int
  | [], [], _ => rfl
  | _ :: _, _ :: _, .cons h t => by
    cases h.intV
    rw [List.map_cons, ← trInts t]
  | [], _ :: _, h => nomatch h
  | _ :: _, [], h => nomatch h
/-- the numbers of the rules that don't hold -/
def brk (f : Str → Int) (k : Nat) : List PyData → List Nat
  | [] => []
  | r :: rs => if ruleH f r = true then brk f (k + 1) rs else k :: brk f (k + 1) rs
theorem brk_snoc (f : Str → Int) (r : PyData) : ∀ (rs : List PyData) (k : Nat), brk f k (rs ++ [r]) = brk f k rs ++ (if ruleH f r = true then [] else [k + rs.length])
  | [], k => by
    show (if ruleH f r = true then brk f (k + 1) [] else k :: brk f (k + 1) []) = [] ++ _
    by_cases c : ruleH f r = true
    · rw [if_pos c, if_pos c]; rfl
    · rw [if_neg c, if_neg c]; rfl
  | x :: rs, k => by
    show (if ruleH f x = true then brk f (k + 1) (rs ++ [r]) else k :: brk f (k + 1) (rs ++ [r])) = (if ruleH f x = true then brk f (k + 1) rs else k :: brk f (k + 1) rs) ++ _
    rw [brk_snoc f r rs (k + 1), List.length_cons, show k + 1 + rs.length = k + (rs.length + 1) by omega]
    by_cases c : ruleH f x = true
    · rw [if_pos c, if_pos c]
    · rw [if_neg c, if_neg c]; rfl
theorem brk_len (f : Str → Int) : ∀ (rs : List PyData) (k : Nat), (brk f k rs).length ≤ rs.length
  | [], _ => Nat.le_refl _
  | r :: rs, k => by
    show (if ruleH f r = true then brk f (k + 1) rs else k :: brk f (k + 1) rs).length ≤ rs.length + 1
    have := brk_len f rs (k + 1)
    by_cases c : ruleH f r = true
    · rw [if_pos c]; omega
    · rw [if_neg c, List.length_cons]; omega
/-- the numbers by names -/
def atE (ds : List PyData) (d : PyData) : List (Str × Int) := (ds.map nameOf).zip (intsOf d)
def brkD (ds rs : List PyData) (d : PyData) : List Nat := brk (lookE (atE ds d)) 0 rs
def natsV (ns : List Nat) : List V := ns.map fun (n : Nat) => V.int (n : Int)
def spByN (C : Addr) : Sp := fun vs H Q _ => ∃ (x t nl : Addr) (ns : List Str) (is : List Int), vs = [.ref x, .ref t] ∧ LayAt C H x nl ns ∧ H t = some (.tup (is.map V.int)) ∧ ns.length = is.length ∧ ns.Nodup ∧ ∀ p, H p = none → Q (.ref p) (upd H p (.dK ((ns.zip is).map kvOf)))
theorem zip_keys : ∀ {ns : List Str} {is : List Int}, ns.length = is.length → (ns.zip is).map (·.1) = ns
  | [], [], _ => rfl
  | _ :: _, _ :: _, h => by
    rw [List.zip_cons_cons, List.map_cons, zip_keys (by simpa using h)]
  | [], _ :: _, h => by simp at h
  | _ :: _, [], h => by simp at h
theorem zip_kv : ∀ (ns : List Str) (is : List Int), (ns.zip (is.map V.int)).map strKv = (ns.zip is).map kvOf
  | [], _ => by simp
  | _ :: _, [] => by simp
  | n :: ns, i :: is => by
    rw [List.map_cons, List.zip_cons_cons, List.zip_cons_cons, List.map_cons, List.map_cons, zip_kv ns is]
    rfl
section
variable {P : Program} {w : World} {K : PySem.W.Frag} {mg : Str → Option Value} {base : Heap}
theorem scByN : FnScope ["self", "numbers"] ["self", "numbers"] (defScope sByN) := ⟨rfl, rfl, rfl, by decide +kernel, rfl, by decide +kernel, by decide +kernel⟩
theorem ok_byN {f C : Addr} {fd : FuncData} (F : Fun K "by_names" "Layout.by_names" sByN f fd) (T : LayTxt K mg C) (md : mg "dict" = none) (mz : mg "zip" = none) : FnOk P w K mg base CX0 1 f fd ["self", "numbers"] (spByN C) := by
  refine F.ok scByN (fun vs H Q E h => ?_) (fun cdv A outer s H vs Q E hr h => ?_)
  · obtain ⟨x, t, nl, ns, is, rfl, _⟩ := h
    rfl
  obtain ⟨x, t, nl, ns, is, rfl, L, ht, hl, nd, k⟩ := h
  obtain ⟨⟨dx, fs, hx, k1, _⟩, hn⟩ := L
  refine ⟨_, pss_one (ps_ret (pe_dictZ (by rfl) (by rfl) md (by rfl) mz (pa_cons (pe_fld (pv 0) rfl) (pa_cons (pv 1) pa_nil)))), ?_⟩
  refine ⟨_, rfl, x, C, dx, fs, _, rfl, hx, T.cl, T.nN, k1, _, rfl, nl, t, ns, _, rfl, SqL.of hn, SqT.of ht, by rw [List.length_map]; exact hl, fun p np => ?_⟩
  have q := k p np
  have e : mergeK [] ((ns.zip (is.map V.int)).map strKv) = (ns.zip is).map kvOf := by
    rw [zip_kv]
    exact merge_nd (ns.zip is) [] (by rw [List.nil_append, zip_keys hl]; exact nd)
  rw [e]
  exact q
def spBrkR : Sp := fun vs H Q _ => ∃ (h : Addr) (x : V) (ds rs : List PyData) (d : PyData), vs = [.ref h, x] ∧ Tr H (.ref h) (.tuple [.tuple ds, .tuple rs]) ∧ HouseG ds rs ∧ Tr H x d ∧ numsD ds d = true ∧ ∀ (l : Addr) (H' : Hp), Same H H' → H l = none → H' l = some (.lst (natsV (brkD ds rs d))) → Q (.ref l) H'
abbrev nBrkR : List Str := ["house", "numbers", "now", "k", "rule"]
end
end Pk
/-! stands, check_house, check_numbers, is_standing, broken. -/
namespace Pk
open PySem L2
def standD (ds rs : List PyData) (d : PyData) : Bool := numsD ds d && (brkD ds rs d).isEmpty
/-- a house at h -/
structure HouseAt (H : Hp) (h : Addr) (ds rs : List PyData) : Prop where
  tr : Tr H (.ref h) (.tuple [.tuple ds, .tuple rs])
  hg : HouseG ds rs
theorem HouseAt.grs {Ps : List Addr} {H H' : Hp} {h : Addr} {ds rs : List PyData} (a : HouseAt H h ds rs) (t : Tabs Ps H) (g : GrS Ps H H') : HouseAt H' h ds rs := ⟨a.tr.grs t g, a.hg⟩
theorem house_lv {ds rs : List PyData} (hg : HouseG ds rs) : lv 0 (.tuple [.tuple ds, .tuple rs]) = true ∧ (PyData.tuple [.tuple ds, .tuple rs]).bulk ≤ 6000 ∧ (PyData.tuple [.tuple ds, .tuple rs]).depth ≤ 4 := by
  have a1 : lvs 0 ds = true := lvs_all fun d hd => (dial_lv (hg.dials d hd)).1
  have b1 : lvs 0 rs = true := lvs_all fun d hd => (hg.rules d hd).lv
  have a3 : PyData.depthAll ds ≤ 1 := depth_all fun d hd => (dial_lv (hg.dials d hd)).2.2
  have b3 : PyData.depthAll rs ≤ 2 := depth_all fun d hd => (hg.rules d hd).depth
  refine ⟨by rw [lv, lvs, lvs, lvs, lv, lv, a1, b1]; rfl, ?_, ?_⟩
  · have q1 := bulk_all (n := 80) fun d hd => (dial_lv (hg.dials d hd)).2.1
    have q2 := bulk_all (n := 120) fun r hr => (hg.rules r hr).bulk
    have l1 : (80 + 1) * ds.length ≤ 81 * 12 := Nat.mul_le_mul_left _ hg.d2
    have l2 : (120 + 1) * rs.length ≤ 121 * 40 := Nat.mul_le_mul_left _ hg.r2
    simp only [PyData.bulk, PyData.bulkAll]
    omega
  · simp only [PyData.depth, PyData.depthAll]
    omega
theorem house_okS {ds rs : List PyData} (hg : HouseG ds rs) : okS (.tuple [.tuple ds, .tuple rs]) = true := by
  obtain ⟨h1, h2, _⟩ := house_lv hg
  exact (lv_ok (by omega) h1 (by omega)).1
def spStands (Ps : List Addr) : Sp := fun vs H Q _ => ∃ (h : Addr) (x : V) (ds rs : List PyData) (d : PyData), vs = [.ref h, x] ∧ HouseAt H h ds rs ∧ Tr H x d ∧ Tabs Ps H ∧ ∀ H', GrS Ps H H' → Q (.bl (standD ds rs d)) H'
def spCheckH (Ps : List Addr) : Sp := fun vs H Q _ => ∃ (h : Addr) (ds rs : List PyData), vs = [.ref h] ∧ HouseAt H h ds rs ∧ Tabs Ps H ∧ ∀ H', GrS Ps H H' → Q .non H'
def spCheckN (Ps : List Addr) (CN : Addr) : Sp := fun vs H Q E => ∃ (h : Addr) (x : V) (ds rs : List PyData) (d : PyData), vs = [.ref h, x] ∧ HouseAt H h ds rs ∧ Tr H x d ∧ Tabs Ps H ∧ ∀ H', GrS Ps H H' → (numsD ds d = true → Q .non H') ∧ (numsD ds d = false → E (.ref CN) none H')
def spBroken (Ps : List Addr) (CN : Addr) : Sp := fun vs H Q E => ∃ (h : Addr) (x : V) (ds rs : List PyData) (d : PyData), vs = [.ref h, x] ∧ HouseAt H h ds rs ∧ Tr H x d ∧ Tabs Ps H ∧ (numsD ds d = true → ∀ (l : Addr) (H' : Hp), GrS Ps H H' → H l = none → H' l = some (.lst (natsV (brkD ds rs d))) → Q (.ref l) H') ∧ (numsD ds d = false → ∀ H', GrS Ps H H' → E (.ref CN) none H')
section
variable {P : Program} {w : World} {K : PySem.W.Frag} {mg : Str → Option Value} {base : Heap} {Ps : List Addr} {P1 P2 : Addr}
theorem scCheckH : FnScope ["house", "fault"] ["house"] (defScope sCheckH) := ⟨rfl, rfl, rfl, by decide +kernel, rfl, by decide +kernel, by decide +kernel⟩
theorem ok_checkH {f g : Addr} {fd gd : FuncData} (h1 : P1 ∈ Ps) (F : Fun K "check_house" "check_house" sCheckH f fd) (G : FnOk P w K mg base CX0 5 g gd ["thing"] (spFault P1)) (bG : Binds K gd ["thing"] []) (kG : PySem.W.keepIn K (.ref g) = true) (mG : mg "fault_of" = some (.ref g)) :
    FnOk P w K mg base CX0 6 f fd ["house"] (spCheckH Ps) := by
  refine F.ok scCheckH (fun vs H Q E h => ?_) (fun cdv A outer s H vs Q E hr h => ?_)
  · obtain ⟨h, ds, rs, rfl, _⟩ := h
    rfl
  obtain ⟨h, ds, rs, rfl, ha, tb, k⟩ := h
  refine ⟨_, pss_cons (ps_set (i := 1) scCheckH.nd rfl (.inl rfl) (pe_call G hr rfl mG kG bG .nil pass0 (pa_cons (pv 0) pa_nil))) <|
    pss_one (ps_if (pt_cmpR op_notN (pv 1) pe_non (nomark _)) (pss_one ps_never) pss_nil), ?_⟩
  refine ⟨_, rfl, _, _, rfl, ha.tr, tb _ h1, house_okS ha.hg, fun v H1 g1 tv => ?_⟩
  rw [ha.hg.fault] at tv
  cases tv
  exact ⟨_, rfl, rfl, _, rfl, iteF (k H1 (GrS.of h1 tb g1))⟩
/-- what the walk asks of the class of a refusal -/
structure RefTxt (K : PySem.W.Frag) (mg : Str → Option Value) (x : Str) (C : Addr) : Prop where
  q : PySem.W.excIn K C [.type "ValueError", .type "Exception", .type "BaseException", .type "object"] "ValueError.__new__" = true
  gC : mg x = some (.ref C)
  kC : PySem.W.keepIn K (.ref C) = true
  sB : PySem.W.subIn K (.ref C) (.type "BaseException") = some true
  tC : PySem.W.typeIn K (.ref C) = some (.type "type")
theorem scCheckN : FnScope ["house", "numbers"] ["house", "numbers"] (defScope sCheckN) := ⟨rfl, rfl, rfl, by decide +kernel, rfl, by decide +kernel, by decide +kernel⟩
theorem ok_checkN {f g1 CN : Addr} {fd d1 : FuncData} (h2 : P2 ∈ Ps) (F : Fun K "check_numbers" "check_numbers" sCheckN f fd) (R : RefTxt K mg "NoNumbers" CN) (G1 : FnOk P w K mg base CX0 3 g1 d1 ["house", "thing"] (spAreN P2)) (b1 : Binds K d1 ["house", "thing"] []) (k1 : PySem.W.keepIn K (.ref g1) = true) (m1 : mg "are_numbers" = some (.ref g1)) :
    FnOk P w K mg base (L2.CX P w) 4 f fd ["house", "numbers"] (spCheckN Ps CN) := by
  refine F.okX scCheckN (fun vs H Q E h => ?_) (fun cdv A outer s H vs Q E hr h => ?_)
  · obtain ⟨h, x, ds, rs, d, rfl, _⟩ := h
    rfl
  obtain ⟨h, x, ds, rs, d, rfl, ha, td, tb, k⟩ := h
  refine ⟨_, pss_one (ps_if (pt_not (pt_val (pe_call G1 hr rfl m1 k1 b1 .nil pass0 (pa_cons (pv 0) (pa_cons (pv 1) pa_nil))))) (pss_one (ps_raise rfl (takes_of rfl rfl rfl rfl) (pmk_own PySem.F.excBase_ValueError R.q R.gC R.kC (raises_own R.sB R.tC) rfl))) pss_nil), ?_⟩
  refine ⟨_, rfl, _, rfl, h, x, ds, rs, d, rfl, ha.tr, ha.hg.d2, ha.hg.dials, td, tb _ h2, fun H1 g1 => ⟨_, rfl, ?_⟩⟩
  have gs := GrS.of h2 tb g1
  obtain ⟨q1, q2⟩ := k H1 gs
  cases c : numsD ds d with
  | false => exact iteT (q2 c)
  | true => exact iteF (q1 c)
end
end Pk
/-! The law's own: named, are_numbers, numbers, off. -/
namespace Pk
open PySem L2
abbrev sLNamed : Stmt := topH 60
abbrev sLNums : Stmt := topH 66
abbrev sLTold : Stmt := topH 68
theorem walk_zipT {K : PySem.W.Frag} {a b : Addr} {xs ys : List V} {n : Nat} (hn : n = min xs.length ys.length) : Walk (RZ.ItzT K a b) n (fun H => SqT K H a xs ∧ SqT K H b ys) (YPair (fun i => xs[i]?) (fun i => ys[i]?)) where
  goes := fun i H hi h => ⟨xs, ys, xs[i]'(by omega), ys[i]'(by omega), h.1, h.2, List.getElem?_eq_getElem (by omega), List.getElem?_eq_getElem (by omega)⟩
  stops := fun H h => ⟨xs, ys, h.1, h.2, by omega⟩
  yields := fun i H x H' hi h ⟨T, u, v, e1, e2, e3, e4, e5⟩ => ⟨T, u, v, e1, e2, e3, e4 xs h.1, e5 ys h.2⟩
def spLNamed : Sp := fun vs H Q _ => ∃ (h : Addr) (x : V) (ds rs : List PyData) (d : PyData), vs = [.ref h, x] ∧ HouseAt H h ds rs ∧ Tr H x d ∧ numsD ds d = true ∧ ∀ (p : Addr) (H' : Hp), Same H H' → H p = none → H' p = some (.dK ((atE ds d).map kvOf)) → Q (.ref p) H'
def spLAre : Sp := fun vs H Q _ => ∃ (h : Addr) (x : V) (ds rs : List PyData) (d : PyData), vs = [.ref h, x] ∧ HouseAt H h ds rs ∧ Tr H x d ∧ ∀ H', Same H H' → Q (.bl (numsD ds d)) H'
theorem nums_is {ds : List PyData} {d : PyData} (h : numsD ds d = true) : ∃ is : List Int, d = .tuple (is.map PyData.int) ∧ is.length = ds.length ∧ intsOf d = is := by
  cases d with
  | tuple es =>
    have h' : (decide (es.length = ds.length) && ((ds.zip es).all fun p => numD p.1 p.2)) = true := h
    rw [Bool.and_eq_true, decide_eq_true_eq] at h'
    have e := nums_ints h'.1 h'.2
    exact ⟨es.map intOf, by rw [← e], by rw [List.length_map]; exact h'.1, rfl⟩
  | _ => cases h
theorem dial_ix {H : Hp} {x : V} {nm way : Str} {lo hi up dn : Int} (t : Tr H x (.tuple [.str nm, .int lo, .int hi, .str way, .int up, .int dn])) : ∃ (b : Addr) (qs : List V), x = .ref b ∧ H b = some (.tup qs) ∧ atI qs 1 = some (.int lo) ∧ atI qs 2 = some (.int hi) := by
  cases t with
  | @tup b xs _ hb al =>
    match xs, al with
    | [_, _, _, _, _, _], .cons _ (.cons (.int _) (.cons (.int _) _)) => exact ⟨b, _, rfl, hb, rfl, rfl⟩
section
variable {P : Program} {w : World} {K : PySem.W.Frag} {mg : Str → Option Value} {base : Heap}
abbrev nLNamed : List Str := ["_law_house_here", "_law_numbers_here", "_law_dial_here", "_law_number"]
theorem scLNamed : FnScope nLNamed ["_law_house_here", "_law_numbers_here"] (defScope sLNamed) := ⟨rfl, rfl, rfl, by decide +kernel, rfl, by decide +kernel, by decide +kernel⟩
theorem ok_lnamed {f : Addr} {fd : FuncData} (F : Fun K "_law_named" "_law_named" sLNamed f fd) (md : mg "dict" = none) (mz : mg "zip" = none) : FnOk P w K mg base CX0 1 f fd ["_law_house_here", "_law_numbers_here"] spLNamed := by
  refine F.ok scLNamed (fun vs H Q E h => ?_) (fun cdv A outer s H vs Q E hr h => ?_)
  · obtain ⟨h, x, ds, rs, d, rfl, _⟩ := h
    rfl
  obtain ⟨h, x, ds, rs, d, rfl, ha, td, hn, k⟩ := h
  refine ⟨_, pss_one (ps_ret (pe_callTy (call_dictP rfl) (by rfl) md (by decide +kernel) (pa_cons (pe_lc (own := [("_law_dial_here", 2), ("_law_number", 3)]) (g := gTup K 2 (gCons (gName 2) (gCons (gName 3) gNil))) (by rfl) scLNamed.nd (RZ.pi_zipA (by rfl) mz (pa_cons (pe_ix ix_tup (pv 0) pe_int (fun _ _ => rfl)) (pa_cons (pv 1) pa_nil))) (blkOk_by (N := nLNamed) (sc := defScope sLNamed) (by decide +kernel)) (fun _ _ _ _ _ => pg_tup rfl (pgs_cons (pg_name (i := 2) scLNamed.nd rfl (Or.inl rfl)) (pgs_cons (pg_name (i := 3) scLNamed.nd rfl (Or.inl rfl)) pgs_nil))) (fun _ _ _ _ _ => pts_nil) (fun _ _ _ _ _ => pe_tup (pa_cons (pe_ix (r := rIxT K) ix_tup (pv 2) pe_int (fun _ _ => rfl)) (pa_cons (pv 3) pa_nil)))) pa_nil))), ?_⟩
  obtain ⟨is, rfl, li, ei⟩ := nums_is hn
  have eat : atE ds (.tuple (is.map PyData.int)) = (ds.map nameOf).zip is := by unfold atE; rw [ei]
  rw [eat] at k
  obtain ⟨th, hg⟩ := ha
  cases td with
  | @tup t zs _ ht alZ =>
  cases trInts alZ
  cases th with
  | @tup _ hs _ hh al =>
  match hs, al with
  | [_, _], .cons (@Tr.tup _ a xs _ hA alA) (.cons tB .nil) =>
  have lA := alA.length
  have d2 := hg.d2
  refine ⟨_, rfl, h, _, _, _, rfl, rfl, SqT.of hh, (rfl : atI [V.ref a, _] 0 = some (.ref a)), _, rfl, a, t, xs, _, rfl, .inr ⟨SqT.of hA, SqT.of ht, fun D hD => lc_it (walk_zipT (n := ds.length) (by rw [List.length_map]; omega)) (fun i H1 => ∃ (ps : List Addr) (es : List (Str × Int)), H1 D = some (.lst (ps.map V.ref)) ∧ Paired (fun q e => H1 q = some (.tup [.str e.1, .int e.2])) ps es ∧ es = ((ds.map nameOf).zip is).take i ∧ Same H H1)
    ⟨[], [], upd_same, .nil, rfl, sameNew hD _⟩ (fun i H1 _ ⟨_, _, _, _, _, s1⟩ => ⟨SqT.of (s1 _ _ hA), SqT.of (s1 _ _ ht)⟩) ?_ ?_⟩⟩
  · rintro i y H1 _ hi ⟨ps, es, e1, e2, e3, s1⟩ ⟨T, x1, x2, rfl, nT, rfl, w1, w2⟩
    have w1 : xs[i]? = some x1 := w1
    have w2 : (is.map V.int)[i]? = some x2 := w2
    obtain ⟨dd, hd, tr⟩ := alA.get w1
    rw [List.getElem?_map] at w2
    obtain ⟨j, hj, rfl⟩ := Option.map_eq_some_iff.mp w2
    have sT := sameNew nT (.tup [x1, .int j])
    have s2 := s1.trans sT
    obtain ⟨q, qs, rfl, hq, i0⟩ := dial_tup0 (tr.same s2) (hg.dials dd (List.mem_of_getElem? hd))
    have pl := e2.length
    have le : es.length ≤ 12 := by rw [e3, List.length_take, List.length_zip, List.length_map]; omega
    refine ⟨T, _, rfl, SqT.of upd_same, rfl, _, _, rfl, _, _, rfl, rfl, rfl, ?_⟩
    refine ⟨_, rfl, q, _, _, _, rfl, rfl, SqT.of hq, i0, _, rfl, by show 2 ≤ sizeLine; decide, fun u nu => ?_⟩
    have su := sameNew nu (.tup [.str (nameOf dd), .int j])
    have uD : u ≠ D := fun z => by rw [z, sT _ _ e1] at nu; cases nu
    refine ⟨_, su _ _ (sT _ _ e1), small1000 (by rw [List.length_map]; omega), ps ++ [u], es ++ [(nameOf dd, j)], by rw [upd_same, List.map_append]; rfl, .snoc (L2.Paired.mapP e2 fun q e hqe => ?_) ?_, ?_, fun c o e => ?_⟩
    · have qD : q ≠ D := ne_of hqe e1 (by intro z; cases z)
      rw [upd_ne qD]
      exact su _ _ (sT _ _ hqe)
    · rw [upd_ne uD, upd_same]
    · have hz : ((ds.map nameOf).zip is)[i]? = some (nameOf dd, j) := by
        rw [List.getElem?_zip_eq_some, List.getElem?_map, hd]
        exact ⟨rfl, hj⟩
      rw [take_more hz, e3]
    · rw [upd_ne (ne_of_none e hD)]
      exact su _ _ (s2 _ _ e)
  · rintro H1 ⟨ps, es, e1, e2, e3, s1⟩
    rw [List.take_of_length_le (by rw [List.length_zip, List.length_map]; omega)] at e3
    subst e3
    refine ⟨D, ps, ((ds.map nameOf).zip is).map kvOf, rfl, SqL.of e1, pairedMap e2 fun q e hqe => SqT.of hqe, fun p np => ?_⟩
    have em := merge_nd ((ds.map nameOf).zip is) [] (by rw [List.nil_append, zip_keys (by rw [List.length_map]; omega)]; exact hg.nd)
    rw [show mergeK [] (((ds.map nameOf).zip is).map kvOf) = ((ds.map nameOf).zip is).map kvOf from em]
    exact k p _ (s1.trans (sameNew np _)) (s1.free np) upd_same
abbrev nLAreN : List Str := ["_law_house_here", "_law_thing", "_law_k"]
theorem zip_at {ds es : List PyData} {i : Nat} {d e : PyData} (h1 : ds[i]? = some d) (h2 : es[i]? = some e) : (ds.zip es)[i]? = some (d, e) := by
  rw [List.getElem?_zip_eq_some]
  exact ⟨h1, h2⟩
end
end Pk
/-! The law's own: numbers, off, told. -/
namespace Pk
open PySem L2
def spLNums : Sp := fun vs H Q _ => ∃ (p c h : Addr) (X : List Addr) (n : Int) (ds rs : List PyData), vs = [.ref p, .ref h] ∧ PenC H p c n ∧ Al p X H ∧ n ≤ 100000000 ∧ Tr (zn X H) (.ref h) (.tuple [.tuple ds, .tuple rs]) ∧ HouseG ds rs ∧
  ∀ (t : Addr) (is : List Int) (H' : Hp), PenC H' p c (n + 100) → Sb p H H' → H' t = some (.tup (is.map V.int)) → t ∉ X → is.length = ds.length → (∀ j ∈ is, -farS ≤ j ∧ j ≤ farS) → Q (.ref t) H'
def spLOff : Sp := fun vs H Q _ => ∃ (p c t : Addr) (x : V) (X : List Addr) (n : Int) (is : List Int), vs = [.ref p, x, .ref t] ∧ PenC H p c n ∧ Al p X H ∧ n ≤ 100000000 ∧ H t = some (.tup (is.map V.int)) ∧ 1 ≤ is.length ∧ is.length ≤ 40 ∧ (∀ j ∈ is, -farS ≤ j ∧ j ≤ farS) ∧
  ∀ (t' : Addr) (is' : List Int) (H' : Hp), PenC H' p c (n + 10) → Sb p H H' → H' t' = some (.tup (is'.map V.int)) → t' ∉ X → is'.length = is.length → (∀ j ∈ is', -(5 * farS) ≤ j ∧ j ≤ 5 * farS) → Q (.ref t') H'
section
variable {P : Program} {w : World} {K : PySem.W.Frag} {mg : Str → Option Value} {base : Heap}
abbrev nLNums : List Str := ["_law_pen_here", "_law_house_here", "_law_dial_here"]
theorem scLNums : FnScope nLNums ["_law_pen_here", "_law_house_here"] (defScope sLNums) := ⟨rfl, rfl, rfl, by decide +kernel, rfl, by decide +kernel, by decide +kernel⟩
theorem ok_lnums {f g : Addr} {fd gd : FuncData} (F : Fun K "_law_numbers" "_law_numbers" sLNums f fd) (G : FnOk P w K mg base CX0 3 g gd ["_law_pen_here", "_law_low", "_law_high"] spFrom) (bG : Binds K gd ["_law_pen_here", "_law_low", "_law_high"] []) (kG : PySem.W.keepIn K (.ref g) = true) (mG : mg "_law_from" = some (.ref g)) (mt : mg "tuple" = none) :
    FnOk P w K mg base CX0 4 f fd ["_law_pen_here", "_law_house_here"] spLNums := by
  refine F.ok scLNums (fun vs H Q E h => ?_) (fun cdv A outer s H vs Q E hr h => ?_)
  · obtain ⟨p, c, h, X, n, ds, rs, rfl, _⟩ := h
    rfl
  obtain ⟨p, c, h, X, n, ds, rs, rfl, pen, al, hn, th, hg, k⟩ := h
  refine ⟨_, pss_one (ps_ret (pe_callTy call_tuple_of (by rfl) mt (by decide +kernel) (pa_cons (pe_lc (own := [("_law_dial_here", 2)]) (g := gName 2) (by rfl) scLNums.nd (pi_tup (pe_ix ix_tup (pv 1) pe_int (fun _ _ => rfl))) (blkOk_by (N := nLNums) (sc := defScope sLNums) (by decide +kernel)) (fun _ _ _ _ _ => pg_name (i := 2) scLNums.nd rfl (Or.inl rfl)) (fun _ _ _ _ _ => pts_nil) (fun _ _ _ _ _ => pe_call G hr rfl mG kG bG .nil pass0 (pa_cons (pv 0) (pa_cons (pe_ix (r := rIxT K) ix_tup (pv 2) pe_int (fun _ _ => rfl)) (pa_cons (pe_ix (r := rIxT K) ix_tup (pv 2) pe_int (fun _ _ => rfl)) pa_nil))))) pa_nil))), ?_⟩
  cases th with
  | @tup _ hs _ hh' al' =>
  match hs, al' with
  | [_, _], .cons (@Tr.tup _ a xs _ hA' alA) (.cons tB .nil) =>
  have lA := alA.length
  have d2 := hg.d2
  obtain ⟨nh, hh⟩ := zn_some hh'
  obtain ⟨na, hA⟩ := zn_some hA'
  have ap : a ≠ p := pen.tupp hA
  refine ⟨_, rfl, h, _, _, _, rfl, rfl, SqT.of hh, (rfl : atI [V.ref a, _] 0 = some (.ref a)), a, rfl, ⟨_, SqT.of hA⟩, fun D hD => lc_tup (K := K) (a := a) (xs := xs) (fun i H1 => ∃ is : List Int, H1 D = some (.lst (is.map V.int)) ∧ is.length = i ∧ (∀ j ∈ is, -farS ≤ j ∧ j ≤ farS) ∧ PenC H1 p c (n + 8 * i) ∧ Sb p H H1)
    ⟨[], upd_same, rfl, fun _ h => absurd h (by simp), (pen.same (sameNew hD _)).mono (by omega), Sb.same (sameNew hD _)⟩ (fun i H1 _ ⟨_, _, _, _, _, s1⟩ => SqT.of (s1.to ap hA)) ?_ ?_⟩
  · rintro i y H1 hy ⟨is, e1, e2, e3, pen1, sb1⟩
    have Dp := pen.newp hD
    have Dc := pen.newc hD
    obtain ⟨d, hd, tr⟩ := alA.get hy
    have hil : i < xs.length := (List.getElem?_eq_some_iff.mp hy).1
    obtain ⟨b, nm, way, lo, hi, up, dn, rfl, hb, q1, q2, q3, _⟩ := dial_tup (tr.same (zn_sb sb1 al.mem)) (hg.dials d (List.mem_of_getElem? hd))
    have hb := zn_le _ _ hb
    refine ⟨rfl, _, rfl, _, rfl, b, _, _, _, rfl, rfl, SqT.of hb, (rfl : atI [V.str nm, V.int lo, V.int hi, V.str way, V.int up, V.int dn] 1 = some (.int lo)), _, rfl, b, _, _, _, rfl, rfl, SqT.of hb, (rfl : atI [V.str nm, V.int lo, V.int hi, V.str way, V.int up, V.int dn] 2 = some (.int hi)), p, c, _, lo, hi, rfl, pen1, by omega, q2, fun v H2 v1 v2 pen2 sb2 => ?_⟩
    refine ⟨_, sb2.to Dp e1, small1000 (by rw [List.length_map]; omega), is ++ [v], by rw [upd_same, List.map_append]; rfl, by simp [e2], fun j hj => ?_, (pen2.upd Dp Dc _).mono (by omega), (sb1.trans sb2).new hD Dp _⟩
    rcases List.mem_append.mp hj with hj | hj
    · exact e3 j hj
    · rw [List.mem_singleton.mp hj]
      omega
  · rintro H1 ⟨is, e1, e2, e3, pen1, sb1⟩
    refine ⟨D, _, rfl, .inl ⟨SqL.of e1, fun t nt => ?_⟩⟩
    have st := sameNew nt (.tup (is.map V.int))
    exact k t is _ ((pen1.same st).mono (by omega)) (sb1.trans (Sb.same st)) upd_same ((al.sb sb1 pen1).out nt) (by omega) e3
abbrev nLOff : List Str := ["_law_pen_here", "_law_house_here", "_law_numbers_here", "_law_rows", "_law_k", "_law_at"]
end
end Pk
/-! The law's own: the pen, and what the law says of its things. -/
namespace Pk
open PySem L2
/-- _law_pen: a new pen -/
def spPenL (K : PySem.W.Frag) : Sp := fun vs H Q _ => ∃ (a : Addr) (ns : List Int), vs = [.ref a] ∧ SqL K H a (ns.map V.int) ∧ ns.length ≤ 63 ∧
  ∀ (p c : Addr) (H' : Hp), PenC H' p c 0 → Same H H' → Q (.ref p) H'
theorem tab_sb {H H' : Hp} {Pt p c : Addr} {n : Int} (t : GxR.TabG H Pt) (P : PenC H p c n) (s : Sb p H H') : GxR.TabG H' Pt := by
  obtain ⟨ps, h1, h2⟩ := t
  obtain ⟨kv, e⟩ := P.atp
  exact ⟨ps, s.to (ne_of h1 e (by intro z; cases z)) h1, h2⟩
theorem PenC.al {H : Hp} {p c : Addr} {n : Int} (P : PenC H p c n) : Al p [p] H := ⟨List.mem_cons_self, fun b hb => by
  rw [List.mem_singleton.mp hb]
  obtain ⟨kv, e⟩ := P.atp
  exact ⟨_, e⟩⟩

theorem Tabs.same {Ps : List Addr} {H H' : Hp} (t : Tabs Ps H) (s : Same H H') : Tabs Ps H' := fun P hP => let ⟨ps, h1, h2⟩ := t P hP; ⟨ps, s _ _ h1, h2⟩
theorem Tabs.sb {Ps : List Addr} {H H' : Hp} {p c : Addr} {n : Int} (t : Tabs Ps H) (P : PenC H p c n) (s : Sb p H H') : Tabs Ps H' := fun Q hQ => tab_sb (t Q hQ) P s
theorem PenC.grs {Ps : List Addr} {H H' : Hp} {p c : Addr} {n : Int} (P : PenC H p c n) (t : Tabs Ps H) (g : GrS Ps H H') : PenC H' p c n := by
  obtain ⟨ns, u, r, h, e⟩ := P
  exact ⟨ns, u, r, ⟨g.at t h.at_ (by intro q z; cases z), g.at t h.cells (by intro q z; cases z), h.len, h.t0, h.r0⟩, e⟩
/-- a list or a tuple of numbers -/
theorem trIntsAll {H : Hp} : ∀ is : List Int, TrAll H (is.map V.int) (is.map PyData.int)
  | [] => .nil
  | i :: is => .cons (.int i) (trIntsAll is)
theorem bulkInts : ∀ is : List Int, PyData.bulkAll (is.map PyData.int) = is.length
  | [] => by simp [PyData.bulkAll]
  | i :: is => by
    simp only [List.map_cons, PyData.bulkAll, PyData.bulk, List.length_cons, bulkInts is]
    omega
theorem lvInts : ∀ {is : List Int}, (∀ j ∈ is, -(5 * farS) ≤ j ∧ j ≤ 5 * farS) → lvs 0 (is.map PyData.int) = true
  | [], _ => rfl
  | i :: is, h => by
    have h0 := h i List.mem_cons_self
    have f : farS = 1000000000000000000 := rfl
    have g := greatG
    rw [List.map_cons, lvs, int_lv (i := i) (by omega) (by omega), lvInts fun j hj => h j (List.mem_cons_of_mem _ hj)]
    rfl
/-- a thing that the law may hand in -/
structure ThingN (d : PyData) : Prop where
  lv : lv 5 d = true
  bulk : d.bulk ≤ 30000
  depth : d.depth ≤ 50
theorem lv_tup {k : Nat} {ds : List PyData} : lv k (.tuple ds) = lvs k ds := by rw [lv]
theorem lv_lst {k : Nat} {ds : List PyData} : lv k (.list ds) = lvs k ds := by rw [lv]
theorem ints_tup {is : List Int} (hl : is.length ≤ 100) (h : ∀ j ∈ is, -(5 * farS) ≤ j ∧ j ≤ 5 * farS) : Pk.lv 0 (.tuple (is.map PyData.int)) = true ∧ (PyData.tuple (is.map PyData.int)).bulk ≤ 100 ∧ (PyData.tuple (is.map PyData.int)).depth ≤ 1 := by
  refine ⟨by rw [lv_tup]; exact lvInts h, ?_, ?_⟩
  · simp only [PyData.bulk, bulkInts]
    omega
  · simp only [PyData.depth, depthInts]
    omega
theorem ThingN.tup {is : List Int} (hl : is.length ≤ 100) (h : ∀ j ∈ is, -(5 * farS) ≤ j ∧ j ≤ 5 * farS) : ThingN (.tuple (is.map PyData.int)) := by
  obtain ⟨h1, h2, h3⟩ := ints_tup hl h
  exact ⟨lv_le (by omega) h1, by omega, by omega⟩
theorem lv_les {is : List Int} (h : ∀ j ∈ is, -(5 * farS) ≤ j ∧ j ≤ 5 * farS) : lvs 5 (is.map PyData.int) = true := by
  have z := lv_le (j := 0) (k := 5) (by omega) (d := .tuple (is.map PyData.int)) (by rw [lv_tup]; exact lvInts h)
  rw [lv_tup] at z
  exact z
theorem ThingN.lst {is : List Int} (hl : is.length ≤ 100) (h : ∀ j ∈ is, -(5 * farS) ≤ j ∧ j ≤ 5 * farS) : ThingN (.list (is.map PyData.int)) := by
  refine ⟨by rw [lv_lst]; exact lv_les h, ?_, ?_⟩
  · simp only [PyData.bulk, bulkInts]
    omega
  · simp only [PyData.depth, depthInts]
    omega
/-- what is due of a thing -/
def dueT (ds rs : List PyData) (d : PyData) : PyData := if numsD ds d = true then .list ((brkD ds rs d).map fun (n : Nat) => PyData.int (n : Int)) else .tuple [.str "numbers", .bool true, .bool false]
theorem trNats {H : Hp} : ∀ ns : List Nat, TrAll H (natsV ns) (ns.map fun (n : Nat) => PyData.int (n : Int))
  | [] => .nil
  | n :: ns => .cons (.int _) (trNats ns)
theorem natsInts (ns : List Nat) : (ns.map fun (n : Nat) => PyData.int (n : Int)) = (ns.map fun (n : Nat) => (n : Int)).map PyData.int := by rw [List.map_map]; rfl
theorem brk_lt (f : Str → Int) : ∀ (rs : List PyData) (k : Nat), ∀ n ∈ brk f k rs, n < k + rs.length
  | [], _, n, h => by cases h
  | r :: rs, k, n, h => by
    have e : brk f k (r :: rs) = if ruleH f r = true then brk f (k + 1) rs else k :: brk f (k + 1) rs := rfl
    rw [e] at h
    rw [List.length_cons]
    by_cases c : ruleH f r = true
    · rw [if_pos c] at h
      have := brk_lt f rs (k + 1) n h
      omega
    · rw [if_neg c] at h
      rcases List.mem_cons.mp h with rfl | h
      · omega
      · have := brk_lt f rs (k + 1) n h
        omega
/-- what the law shows of what is due -/
theorem due_ok {ds rs : List PyData} {d : PyData} (hr : rs.length ≤ 40) : (dueT ds rs d).showable = true ∧ (dueT ds rs d).depth ≤ 60 ∧ (dueT ds rs d).shown.length ≤ sizeLine := by
  have T : ThingN (dueT ds rs d) := by
    unfold dueT
    by_cases c : numsD ds d = true
    · rw [if_pos c, natsInts]
      have l := brk_len (lookE (atE ds d)) rs 0
      refine ThingN.lst (by rw [List.length_map]; show (brk (lookE (atE ds d)) 0 rs).length ≤ 100; omega) fun j hj => ?_
      obtain ⟨n, hn, rfl⟩ := List.mem_map.mp hj
      have := brk_lt (lookE (atE ds d)) rs 0 n hn
      have f : farS = 1000000000000000000 := rfl
      omega
    · rw [if_neg c]
      exact ⟨by decide +kernel, by decide +kernel, by decide +kernel⟩
  obtain ⟨k1, k2, k3⟩ := lv_ok (k := 5) (by omega) T.lv (by have := T.bulk; omega)
  exact ⟨k2, by have := T.depth; omega, lv_shown (k := 5) (by omega) T.lv (by have := T.bulk; omega)⟩
/-- the house and the thing, shown -/
theorem pair_ok {ds rs : List PyData} {d : PyData} (hg : HouseG ds rs) (T : ThingN d) : (PyData.tuple [.tuple [.tuple ds, .tuple rs], d]).showable = true ∧ (PyData.tuple [.tuple [.tuple ds, .tuple rs], d]).depth ≤ 60 ∧ (PyData.tuple [.tuple [.tuple ds, .tuple rs], d]).shown.length ≤ sizeLine := by
  obtain ⟨h1, h2, h3⟩ := house_lv hg
  generalize PyData.tuple [.tuple ds, .tuple rs] = dH at h1 h2 h3
  have l : Pk.lv 5 (.tuple [dH, d]) = true := by
    rw [lv_tup, lvs, lvs, lvs, lv_le (by omega) h1, T.lv]
    rfl
  have b : (PyData.tuple [dH, d]).bulk ≤ 100000 := by
    have := T.bulk
    simp only [PyData.bulk, PyData.bulkAll]
    omega
  obtain ⟨k1, k2, k3⟩ := lv_ok (k := 5) (by omega) l b
  refine ⟨k2, ?_, lv_shown (k := 5) (by omega) l b⟩
  have := T.depth
  simp only [PyData.depth, PyData.depthAll]
  omega
theorem eqv_nil (ns : List Nat) : PyData.eqv (.list (ns.map fun (n : Nat) => PyData.int (n : Int))) (.list []) = ns.isEmpty := by
  cases ns with
  | nil => rfl
  | cons n ns => rfl
theorem isL_due {ds rs : List PyData} {d : PyData} : isLst (dueT ds rs d) = numsD ds d := by
  unfold dueT
  cases numsD ds d <;> rfl
theorem noInts : ∀ is : List Int, PyData.hasDictAll (is.map PyData.int) = false
  | [] => by simp [PyData.hasDictAll]
  | i :: is => by simp [PyData.hasDictAll, PyData.hasDict, noInts is]
theorem pssW {X : Cx} {b : List Stmt} {t u : TS} (h : PSs X b t) (i : ∀ D σ H, u D σ H → t D σ H) : PSs X b u := ⟨fun pins s σ H D I q => h.run pins s σ H D I (i D σ H q)⟩
section
variable {P : Program} {w : World} {K : PySem.W.Frag} {mg : Str → Option Value} {base : Heap}
theorem cutInts (ns : List Int) (lo hi : Option Int) : ∃ ms : List Int, cutV (ns.map V.int) lo hi = ms.map V.int ∧ ms.length ≤ ns.length := by
  have e : cutV (ns.map V.int) lo hi = ((ns.drop (HT.sIx (ns.map V.int).length 0 lo)).take (HT.sIx (ns.map V.int).length (ns.map V.int).length hi - HT.sIx (ns.map V.int).length 0 lo)).map V.int := by
    unfold cutV
    simp only [List.map_take, List.map_drop]
  refine ⟨_, e, ?_⟩
  simp only [List.length_take, List.length_drop]
  omega
theorem scPen : FnScope ["_law_script"] ["_law_script"] (defScope sPen) := ⟨rfl, rfl, rfl, by decide +kernel, rfl, by decide +kernel, by decide +kernel⟩
theorem ok_pen {f : Addr} {fd : FuncData} (F : Fun K "_law_pen" "_law_pen" sPen f fd) (B : Blt mg) : FnOk P w K mg base CX0 1 f fd ["_law_script"] (spPenL K) := by
  refine F.ok scPen (fun vs H Q E h => ?_) (fun cdv A outer s H vs Q E hr h => ?_)
  · obtain ⟨a, ns, rfl, _⟩ := h
    rfl
  obtain ⟨a, ns, rfl, hS, hl, k⟩ := h
  refine ⟨_, pss_one (ps_ret (pe_disp (pps_cons pe_str (pe_callTy call_list_of (by rfl) B.list (by decide +kernel) (pa_cons (pe_slice sl_list (pv 0) po_none (po_some pe_int)) pa_nil)) (pps_cons pe_str pe_int (pps_cons pe_str pe_int pps_nil))) (by rfl) (by rfl) (fun z => by cases z) (by show 3 ≤ 15; decide))), ?_⟩
  intro p hp
  have s1 : Same H (upd H p (.dK [])) := sameNew hp _
  obtain ⟨ms, em, hm⟩ := cutInts ns none (some 63)
  refine ⟨_, rfl, 63, rfl, a, _, rfl, s1.seq hS, fun q hq => ?_⟩
  have s2 := sameNew hq (.lst (cutV (ns.map V.int) none (some 63)))
  refine ⟨q, _, rfl, .inl (SqL.of upd_same), fun c hc => ?_⟩
  have s3 := sameNew hc (.lst (cutV (ns.map V.int) none (some 63)))
  have e0 := s3 _ _ (s2 _ _ (upd_same (H := H) (a := p) (o := HO.dK [])))
  have cp : c ≠ p := fun z => by
    rw [z, s2 _ _ (upd_same (H := H) (a := p) (o := HO.dK []))] at hc
    cases hc
  refine ⟨e0, [(Sum.inr "cells", .ref c), (Sum.inr "turn", .int 0), (Sum.inr "rest", .int 0)], rfl, (by show 3 ≤ 15; decide), ?_⟩
  refine k p c _ ⟨ms, 0, 0, ⟨?_, ?_, by omega, by omega, by omega⟩, by omega⟩ fun b o e => ?_
  · rw [upd_same]
    rfl
  · rw [upd_ne cp, upd_same, em]
  · rw [upd_ne (ne_of_none e hp)]
    exact s3 _ _ (s2 _ _ (s1 _ _ e))
end
end Pk
/-! Quiet runs of defs that name parts of a tuple. -/
namespace Pk
open PySem PySem.Spec PyProof.Rows L2
theorem Tr.kitH {P : Program} {w : World} {K : PySem.W.Frag} {H : Hp} {h : Heap} {x : V} {d : PyData} {v : Value} (hk : HOk P w H h) (t : Tr H x d) (r : RelV x v) :
    ∃ Pz : Heap → Prop, PySem.W.KitX K v (.type (tyD d)) Pz ∧ Pz h ∧ v ≠ .builtin "__main__.__loader__#opaque" := by
  cases t with
  | non =>
    cases (show v = Value.none from r)
    exact ⟨_, PySem.W.kitx_none, True.intro, fun z => nomatch z⟩
  | bl b =>
    cases (show v = Value.bool b from r)
    exact ⟨_, PySem.W.kitx_bool, True.intro, fun z => nomatch z⟩
  | int i =>
    obtain ⟨t, q⟩ := (show ∃ t, v = Value.int i t from r)
    cases q
    exact ⟨_, PySem.W.kitx_int, True.intro, fun z => nomatch z⟩
  | str y =>
    obtain ⟨t, q⟩ := (show ∃ t, v = Value.str y t from r)
    cases q
    exact ⟨_, PySem.W.kitx_str, True.intro, fun z => nomatch z⟩
  | @lst a xs ds ha _ =>
    cases (show v = Value.ref a from r)
    obtain ⟨_, _, n, _, h1⟩ := (show ObjOk P w H h a (.lst xs) from hk a _ ha)
    exact ⟨_, PySem.W.kitx_list, ⟨_, h1, rfl⟩, fun z => nomatch z⟩
  | @tup a xs ds ha _ =>
    cases (show v = Value.ref a from r)
    obtain ⟨_, _, _, o, h1, h2, _⟩ := (show ObjOk P w H h a (.tup xs) from hk a _ ha)
    exact ⟨_, PySem.W.kitx_tuple, ⟨o, h1, h2⟩, fun z => nomatch z⟩
  | @dct a kvs es ha _ _ _ =>
    cases (show v = Value.ref a from r)
    obtain ⟨_, _, vs, _, o, es, ep, h1, h2, _⟩ := (show ObjOk P w H h a (.dK kvs) from hk a _ ha)
    exact ⟨_, PySem.W.kitx_dict, ⟨o, h1, h2.1⟩, fun z => nomatch z⟩
theorem Tr.eqStrH {P : Program} {w : World} {H : Hp} {s : Shared} {x : V} {d : PyData} {v : Value} {A : Around} (hk : HOk P w H s.heap) (t : Tr H x d) (r : RelV x v) (hu : A.units < cLine) (y : Str) (u : Tok) : SeqAt.EqAt A s (.str y u) v (strIs y d) := by
  cases t with
  | non => cases (show v = .none from r); exact SeqAt.EqAt.str_none y u
  | bl b => cases (show v = .bool b from r); exact SeqAt.EqAt.str_bool y u b
  | int i => obtain ⟨k, e⟩ := (show ∃ k, v = .int i k from r); cases e; exact SeqAt.EqAt.str_int y u i k
  | str z => obtain ⟨k, e⟩ := (show ∃ k, v = .str z k from r); cases e; exact SeqAt.EqAt.str_str y u z k
  | @lst a xs ds h al =>
    cases (show v = .ref a from r)
    obtain ⟨_, its, n, rv, ho⟩ := (show ObjOk P w H s.heap a (.lst xs) from hk a _ h)
    exact SeqAt.EqAt.str_list y u ⟨_, ho, rfl, n, rfl⟩ hu
  | @tup a xs ds h al =>
    cases (show v = .ref a from r)
    obtain ⟨_, its, rv, ho⟩ := (show ObjOk P w H s.heap a (.tup xs) from hk a _ h)
    exact SeqAt.EqAt.str_tuple y u ho hu
  | @dct a kvs es h nd ek al =>
    cases (show v = .ref a from r)
    obtain ⟨_, _, vs, rel, ⟨oc, od, odt, osl⟩, des, ep, ho, hx, hd, _⟩ := (show ObjOk P w H s.heap a (.dK kvs) from hk a _ h)
    obtain ⟨x1, x2, x3⟩ := hx
    dsimp only at x1 x2 x3 hd
    subst x1 x2 x3 hd
    exact eqStrDict y u ho hu
/-- what holds where a quiet run begins -/
structure Q0 (P : Program) (w : World) (K : PySem.W.Frag) (mg : Str → Option Value) (H : Hp) (s : Shared) : Prop where
  kin : K.In s.heap
  gns : s.heap.Ns mainGlobals mg
  bns : ∃ mb, s.heap.Ns builtinsNs mb ∧ ∀ x : Str, x ≠ "__name__" → mb x = bootBuiltins x
  noL : s.heap.NoLimit
  hk : HOk P w H s.heap
theorem Q0.kept {P : Program} {w : World} {K : PySem.W.Frag} {mg : Str → Option Value} {H : Hp} {s s' : Shared} (q : Q0 P w K mg H s) (k : ∀ b o, s.heap.get? b = some o → s'.heap.get? b = some o) : Q0 P w K mg H s' :=
  ⟨q.kin.keeps k, q.gns.keeps k, let ⟨mb, h1, h2⟩ := q.bns; ⟨mb, h1.keeps k, h2⟩, q.noL.keeps k, q.hk.kept k⟩
theorem Q0.qe {P : Program} {w : World} {K : PySem.W.Frag} {mg : Str → Option Value} {H : Hp} {s0 s : Shared} {env : Env} {m : Str → Option Value} (q : Q0 P w K mg H s0) (ic : InCall s0 env.locals m s) (h1 : env.scope.kind = .function) (h2 : env.globals = mainGlobals) (h3 : env.builtins = builtinsNs) : Qe K mg env m s :=
  have q' := q.kept ic.keep
  ⟨h1, h2, h3, ic.ns, q'.kin, q'.gns, q'.bns, q'.noL⟩
theorem keeps_in {s0 s s' : Shared} {L : Addr} {m : Str → Option Value} (ic : InCall s0 L m s) (k : Keeps s s') : InCall s0 L m s' := by
  obtain ⟨h', tk, e, hk⟩ := k
  obtain ⟨h, tk0, e0⟩ := ic.same
  subst e
  exact ⟨⟨h', tk, by rw [e0]⟩, ic.ns.keeps hk, fun b o e => hk b o (ic.keep b o e), ic.fresh⟩
theorem in_keeps {s0 s : Shared} {L : Addr} {m : Str → Option Value} (ic : InCall s0 L m s) : Keeps s0 s := ic.done
section
variable {P : Program} {w : World} {K : PySem.W.Frag} {mg : Str → Option Value} {A : Around} {E : Value → Shared → Prop} {env : Env} {m : Str → Option Value} {s0 s : Shared}
theorem q_set {x : Str} {v : Value} {Q : Unit → Shared → Prop} (ic : InCall s0 env.locals m s) (hl : env.kindOf x = some .local) (hk : env.scope.kind = .function) (h : ∀ s', InCall s0 env.locals (fun y => if y = x then some v else m y) s' → Q () s') : wpAny (model P w) A (storeName env x v) Q E s := by
  refine wpAny_storeName_local hl ic.ns (fun h' hn hs => h _ ?_) (by rw [hk]; rfl)
  obtain ⟨h0, tk0, e0⟩ := ic.same
  refine ⟨⟨h', s.toks + 1, by rw [e0]⟩, hn, fun b o e => ?_, ic.fresh⟩
  exact (hs.2 b (Nat.ne_of_lt (Nat.lt_of_lt_of_le (Heap.lt_size e) ic.fresh))).trans (ic.keep b o e)
/-- a, b, c = t -/
theorem q_unpack3 {a b c t : Str} {pa pb pc pt pn pos : Pos} {kt : Nat} {ad : Addr} {va vb vc : Value} {Q : Flow → Shared → Prop} (ic : InCall s0 env.locals m s) (q : Qe K mg env m s) (hh : A.handled = none) (hk : env.scope.kind = .function)
    (ht : env.scope.names.lookup t = some .local) (mt : m t = some (.ref ad)) (tp : IsTup s.heap ad #[va, vb, vc]) (la : env.kindOf a = some .local) (lb : env.kindOf b = some .local) (lc : env.kindOf c = some .local)
    (h : ∀ s', InCall s0 env.locals (fun y => if y = c then some vc else if y = b then some vb else if y = a then some va else m y) s' → Q .next s') (hd : (t == ("__debug__" : Str)) = false := by decide)
    (hs : swapsWithSole [.Tuple [.Name a pa, .Name b pb, .Name c pc] kt pt] (.Name t pn) pos.line env = pure false := by rfl) (hw : swappedStores [.Tuple [.Name a pa, .Name b pb, .Name c pc] kt pt] (.Name t pn) env = pure none := by rfl) :
    wpAny (model P w) A (exec (.Assign [.Tuple [.Name a pa, .Name b pb, .Name c pc] kt pt] (.Name t pn) pos) env) Q E s := by
  refine wpAny_Assign_stores (q_loc q ht mt ?_ hd) hs hw
  show wpAny (model P w) A (assignAll (.ref ad) [assign (.Tuple [.Name a pa, .Name b pb, .Name c pc] kt pt) env]) _ _ _
  have main : wpAny (model P w) A (assign (.Tuple [.Name a pa, .Name b pb, .Name c pc] kt pt) env (.ref ad)) (fun _ => Q .next) E s := by
    refine assign_Tuple_tuple hh tp rfl rfl fun h' hx => ?_
    have ic1 : InCall s0 env.locals m { s with heap := h' } := by
      refine keeps_in ic ⟨h', s.toks, rfl, fun b o e => hx b o (Nat.ne_of_lt (Heap.lt_size e)) e⟩
    refine assignInOrder_cons (wpAny_assign_Name (q_set ic1 la hk fun s1 i1 => ?_))
    refine assignInOrder_cons (wpAny_assign_Name (q_set i1 lb hk fun s2 i2 => ?_))
    refine assignInOrder_cons (wpAny_assign_Name (q_set i2 lc hk fun s3 i3 => ?_))
    exact assignInOrder_nil (h s3 i3)
  exact main
end
end Pk
namespace Pk
open PySem PySem.Spec PyProof.Rows L2
section
variable {P : Program} {w : World} {K : PySem.W.Frag} {mg : Str → Option Value} {A : Around} {H : Hp} {s : Shared}
/-- a def is entered, quietly -/
theorem q_enter {f : Addr} {fd : FuncData} {x qual : Str} {st : Stmt} {N ps : List Str} {us : List Value} {R : Value → Shared → Prop} (F : Fun K x qual st f fd) (S : FnScope N ps (defScope st)) (bG : Binds K fd ps []) (hl : us.length = ps.length) (q : Q0 P w K mg H s) (hd : A.depth < recursionLimit)
    (body : ∀ (cdv : Value) (sz : Shared), InCall s (envOfC qual (defScope st) s.heap.objs.size f cdv).locals (bindL (envOfC qual (defScope st) s.heap.objs.size f cdv).kindOf (ps.zip us) fun _ => none) sz →
      wpAny (model P w) (A.deeper (envOfC qual (defScope st) s.heap.objs.size f cdv)) (execs (defBody st) (envOfC qual (defScope st) s.heap.objs.size f cdv)) (fun fl s' => ∃ v, fl = .ret v ∧ R v s') (fun _ _ => False) sz) :
    codeAny (model P w) A (.call (.ref f) ⟨us, []⟩) (fun r s' => ∃ v, r = .ok (.ret v) ∧ R v s') s := by
  have hbt := bG s us q.kin (by rw [List.append_nil]; exact hl)
  obtain ⟨oc, oq, kV, doc, pm, an, cv, ct, osl, rfl, lk, hcd⟩ := F.ex
  rw [List.append_nil] at hbt
  refine codeAny_call_function hd (q.kin _ _ lk) rfl S.co S.gen rfl (PySem.W.codeRec_of q.kin hcd) (hbt _ _ _ _ (wpAny_newFunctionEnv_cells S.kind (fun y hy => ?_) fun env he sz xx => ?_))
  · rcases S.par y.1 (List.of_mem_zip (show (y.1, y.2) ∈ List.zip ps us from hy)).1 with z | z
    · exact .inl z
    · exact .inr ⟨z, PySem.W.cellsFrom_some _ _ _ (.inl z)⟩
  · subst he
    refine ⟨q.noL.keeps xx.toInCall.keep, codeAny_func (wpAny_mono (body cv sz xx.toInCall) (fun fl s' ⟨v, e, r⟩ => ?_) fun _ _ z => z.elim)⟩
    subst e
    exact ⟨v, rfl, r⟩
end
end Pk
section
set_option maxHeartbeats 1000000
namespace Pk
open PySem PySem.Spec PyProof.Rows L2
section
variable {P : Program} {w : World} {K : PySem.W.Frag} {mg : Str → Option Value} {A : Around} {H : Hp} {s : Shared}
theorem quietTupOf {f : Addr} {fd : FuncData} {x : V} {d : PyData} {u : Value} {lo hi : Int} {t1 t2 : Tok} (F : Fun K "is_tuple_of" "is_tuple_of" sTupOf f fd) (bG : Binds K fd ["thing", "least", "most"] []) (B : BltH mg) (q : Q0 P w K mg H s) (hd : A.depth < recursionLimit) (t : Tr H x d) (r : RelV x u) :
    codeAny (model P w) A (.call (.ref f) ⟨[u, .int lo t1, .int hi t2], []⟩) (fun r s' => ∃ v, r = .ok (.ret v) ∧ v = .bool (tupD lo hi d) ∧ Keeps s s') s := by
  refine q_enter (R := fun v s' => v = .bool (tupD lo hi d) ∧ Keeps s s') F scTupOf bG rfl q hd fun cdv sz ic => ?_
  have qe := q.qe ic rfl rfl rfl
  have hk := q.hk.kept ic.keep
  obtain ⟨Pz, Z, pz, nl⟩ := t.kitH (K := K) hk r
  have isT : PySem.W.kitOne K (.type (tyD d)) (.type "tuple") = some (isTup d) := kit_ty (kT d)
  refine wpAny_execs_cons (wpAny_Return_some (BoolOp_and (q_isi qe rfl (by rfl) rfl B.isinstance rfl B.tuple (by decide +kernel) Z pz isT nl fun tk => wpAny_truthy_bool ?_)))
  cases c : isTup d with
  | false =>
    have e : tupD lo hi d = false := by cases d <;> first | rfl | (simp [isTup] at c)
    exact ⟨_, rfl, by rw [e], in_keeps (ic.tok tk)⟩
  | true =>
    obtain ⟨es, rfl⟩ : ∃ es, d = .tuple es := by cases d <;> first | exact ⟨_, rfl⟩ | (simp [isTup] at c)
    cases t with
    | @tup a xs _ h al =>
      cases (show u = .ref a from r)
      obtain ⟨z, its, rv, ho⟩ := (show ObjOk P w H sz.heap a (.tup xs) from hk a _ h)
      have l1 := rv.length
      have l2 := al.length
      have hn := line63
      have tp : IsTup sz.heap a its.toArray := ho
      refine BoolOp_one (Compare_chain (q_loc (qe.tok tk) rfl (by rfl) (chain_link (wpAny_Call_Name_kw (q_blt (u := .builtin "len") (qe.tok tk) rfl B.len (by decide +kernel) (PyProof.Rows.callWith_builtin1 (Calls.spliced_cons (q_loc (qe.tok tk) rfl (by rfl) (Calls.spliced_nil (len_tuple tp (by simp only [List.size_toArray] <;> omega) (le_int (wpAny_truthy_bool ?_)))))) (by rfl) (by rfl)))))))
      have e : tupD lo hi (.tuple es) = (decide (lo ≤ (its.toArray.size : Int)) && decide ((its.toArray.size : Int) ≤ hi)) := by
        rw [List.size_toArray, ← l1, l2]
        rfl
      by_cases c1 : lo ≤ (its.toArray.size : Int)
      · rw [decide_eq_true c1] at e ⊢
        exact chain_last (q_loc (qe.tok _) rfl (by rfl) (le_int ⟨_, rfl, by rw [e]; rfl, in_keeps (ic.tok _)⟩))
      · rw [decide_eq_false c1] at e ⊢
        exact ⟨_, rfl, by rw [e]; rfl, in_keeps (ic.tok _)⟩
end
end Pk
end
section
set_option maxHeartbeats 400000
namespace Pk
open PySem PySem.Spec PyProof.Rows L2
theorem sq_tup {P : Program} {w : World} {K : PySem.W.Frag} {H : Hp} {h : Heap} {a : Addr} {xs : List V} (hk : HOk P w H h) (kin : K.In h) (q : SqT K H a xs) : ∃ its : List Value, Vals xs its ∧ IsTup h a its.toArray := by
  rcases q with q | ⟨o, its, n, hk', hc, hs, hz, r⟩
  · obtain ⟨z, its, r, p⟩ := q.ok hk
    exact ⟨its, r, p⟩
  · exact ⟨its.toList, r, ⟨o, kin a o hk', hc, n, by simpa using hs⟩⟩
theorem sq_lst {P : Program} {w : World} {H : Hp} {h : Heap} {a : Addr} {xs : List V} (hk : HOk P w H h) (q : H a = some (.lst xs)) : ∃ its : List Value, Vals xs its ∧ h.IsList a its.toArray := by
  obtain ⟨_, its, n, rv, ho⟩ := (show ObjOk P w H h a (.lst xs) from hk a _ q)
  exact ⟨its, rv, ⟨_, ho, rfl, n, rfl⟩⟩
theorem Tr.kitX {P : Program} {w : World} {K : PySem.W.Frag} {H : Hp} {h : Heap} {x : V} {d : PyData} {v : Value} (hk : HOk P w H h) (t : Tr H x d) (r : RelV x v) :
    ∃ Pz : Heap → Prop, PySem.W.KitX K v (.type (tyD d)) Pz ∧ (∀ h' : Heap, (∀ b o, h.get? b = some o → h'.get? b = some o) → Pz h') ∧ v ≠ .builtin "__main__.__loader__#opaque" := by
  cases t with
  | non =>
    cases (show v = Value.none from r)
    exact ⟨_, PySem.W.kitx_none, fun _ _ => True.intro, fun z => nomatch z⟩
  | bl b =>
    cases (show v = Value.bool b from r)
    exact ⟨_, PySem.W.kitx_bool, fun _ _ => True.intro, fun z => nomatch z⟩
  | int i =>
    obtain ⟨t, q⟩ := (show ∃ t, v = Value.int i t from r)
    cases q
    exact ⟨_, PySem.W.kitx_int, fun _ _ => True.intro, fun z => nomatch z⟩
  | str y =>
    obtain ⟨t, q⟩ := (show ∃ t, v = Value.str y t from r)
    cases q
    exact ⟨_, PySem.W.kitx_str, fun _ _ => True.intro, fun z => nomatch z⟩
  | @lst a xs ds ha _ =>
    cases (show v = Value.ref a from r)
    obtain ⟨_, _, n, _, h1⟩ := (show ObjOk P w H h a (.lst xs) from hk a _ ha)
    exact ⟨_, PySem.W.kitx_list, fun h' k => ⟨_, k _ _ h1, rfl⟩, fun z => nomatch z⟩
  | @tup a xs ds ha _ =>
    cases (show v = Value.ref a from r)
    obtain ⟨_, _, _, o, h1, h2, _⟩ := (show ObjOk P w H h a (.tup xs) from hk a _ ha)
    exact ⟨_, PySem.W.kitx_tuple, fun h' k => ⟨o, k _ _ h1, h2⟩, fun z => nomatch z⟩
  | @dct a kvs es ha _ _ _ =>
    cases (show v = Value.ref a from r)
    obtain ⟨_, _, vs, _, o, es, ep, h1, h2, _⟩ := (show ObjOk P w H h a (.dK kvs) from hk a _ ha)
    exact ⟨_, PySem.W.kitx_dict, fun h' k => ⟨o, k _ _ h1, h2.1⟩, fun z => nomatch z⟩
/-- a number that is written -/
theorem e3_c {P : Program} {w : World} {A : Around} {E : Value → Shared → Prop} {env : Env} {s : Shared} {n : Int} {Q : Value → Shared → Prop} (h : Q (.int n s.toks) { s with toks := s.toks + 1 }) : wpAny (model P w) A (eval (.Constant (.int n) 0 ⟨0, 0, 0, 0⟩) env) Q E s := wpAny_Constant_int h
theorem tr3 {P : Program} {w : World} {H : Hp} {h : Heap} {x : V} {u : Value} {da db dc : PyData} (hk : HOk P w H h) (t : Tr H x (.tuple [da, db, dc])) (r : RelV x u) : ∃ (b : Addr) (xa xb xc : V) (va vb vc : Value), u = .ref b ∧ Tr H xa da ∧ Tr H xb db ∧ Tr H xc dc ∧ RelV xa va ∧ RelV xb vb ∧ RelV xc vc ∧ IsTup h b #[va, vb, vc] := by
  cases t with
  | @tup b xs _ e al =>
    match xs, al with
    | [xa, xb, xc], .cons ta (.cons tb (.cons tc .nil)) =>
      obtain ⟨z, its, rv, ho⟩ := (show ObjOk P w H h b (.tup [xa, xb, xc]) from hk b _ e)
      cases rv with
      | @cons _ va _ l1 ra rv1 =>
      cases rv1 with
      | @cons _ vb _ l2 rb rv2 =>
      cases rv2 with
      | @cons _ vc _ l3 rc rv3 =>
        cases rv3
        exact ⟨b, xa, xb, xc, va, vb, vc, r, ta, tb, tc, ra, rb, rc, ho⟩
/-- as q_unpack3, the names' new map told by what it holds -/
theorem q_unpack3m {P : Program} {w : World} {K : PySem.W.Frag} {mg : Str → Option Value} {A : Around} {E : Value → Shared → Prop} {env : Env} {m : Str → Option Value} {s0 s : Shared} {a b c t : Str} {pa pb pc pt pn pos : Pos} {kt : Nat} {ad : Addr} {va vb vc : Value} {Q : Flow → Shared → Prop} (ic : InCall s0 env.locals m s) (q : Qe K mg env m s) (hh : A.handled = none) (hk : env.scope.kind = .function)
    (ht : env.scope.names.lookup t = some .local) (mt : m t = some (.ref ad)) (tp : IsTup s.heap ad #[va, vb, vc]) (la : env.kindOf a = some .local) (lb : env.kindOf b = some .local) (lc : env.kindOf c = some .local) (ab : a ≠ b) (ac : a ≠ c) (bc : b ≠ c)
    (h : ∀ (s' : Shared) (m' : Str → Option Value), m' a = some va → m' b = some vb → m' c = some vc → (∀ y, y ≠ a → y ≠ b → y ≠ c → m' y = m y) → InCall s0 env.locals m' s' → Q .next s') (hd : (t == ("__debug__" : Str)) = false := by decide)
    (hs : swapsWithSole [.Tuple [.Name a pa, .Name b pb, .Name c pc] kt pt] (.Name t pn) pos.line env = pure false := by rfl) (hw : swappedStores [.Tuple [.Name a pa, .Name b pb, .Name c pc] kt pt] (.Name t pn) env = pure none := by rfl) :
    wpAny (model P w) A (exec (.Assign [.Tuple [.Name a pa, .Name b pb, .Name c pc] kt pt] (.Name t pn) pos) env) Q E s :=
  q_unpack3 ic q hh hk ht mt tp la lb lc (fun s' i => h s' _ (by rw [if_neg ac, if_neg ab, if_pos rfl]) (by rw [if_neg bc, if_pos rfl]) (by rw [if_pos rfl]) (fun y y1 y2 y3 => by rw [if_neg y3, if_neg y2, if_neg y1]) i) hd hs hw
section
variable {P : Program} {w : World} {K : PySem.W.Frag} {mg : Str → Option Value} {A : Around} {H : Hp} {s : Shared} {W S R : Addr}
theorem quietSaying {f g1 g2 a : Addr} {fd d1 d2 : FuncData} {ns : List Str} {x : V} {d : PyData} {u : Value} (F : Fun K "is_saying" "is_saying" sIsSaying f fd) (bG : Binds K fd ["names", "thing"] [])
    (F1 : Fun K "is_whole" "is_whole" sWhole g1 d1) (b1 : Binds K d1 ["thing", "low", "high"] []) (k1 : PySem.W.keepIn K (.ref g1) = true) (m1 : mg "is_whole" = some (.ref g1))
    (F2 : Fun K "is_tuple_of" "is_tuple_of" sTupOf g2 d2) (b2 : Binds K d2 ["thing", "least", "most"] []) (k2 : PySem.W.keepIn K (.ref g2) = true) (m2 : mg "is_tuple_of" = some (.ref g2))
    (B : BltH mg) (C : Cons K mg W S R) (q : Q0 P w K mg H s) (hh : A.handled = none) (hd : A.depth + 1 < recursionLimit) (hu : A.units + 5 < cLine) (ha : H a = some (.lst (ns.map V.str))) (t : Tr H x d) (r : RelV x u) :
    codeAny (model P w) A (.call (.ref f) ⟨[.ref a, u], []⟩) (fun r s' => ∃ v, r = .ok (.ret v) ∧ v = .bool (sayingD ns d) ∧ Keeps s s') s := by
  obtain ⟨tg, hgr⟩ := C.great
  refine q_enter (R := fun v s' => v = .bool (sayingD ns d) ∧ Keeps s s') F scIsSaying bG rfl q (by omega) fun cdv sz ic => ?_
  have qe := q.qe ic rfl rfl rfl
  have hdd : (A.deeper (envOfC "is_saying" (defScope sIsSaying) s.heap.objs.size f cdv)).depth < recursionLimit := hd
  refine wpAny_execs_cons (wpAny_If (isTrue_not (q_isB ?_)))
  refine wpAny_Call_Name_kw (q_glob qe rfl m2 (PySem.W.callWith_K (h₀ := sz.heap) qe.kin k2 (Calls.spliced_cons (q_loc qe rfl (by rfl) ?_)) (by rfl) (by rfl)))
  refine Calls.spliced_cons (e3_c ?_)
  refine Calls.spliced_cons (e3_c ?_)
  refine Calls.spliced_nil ?_
  refine ⟨qe.kin, wpAny_call (codeAny_mono (quietTupOf F2 b2 B (q.kept ic.keep) hdd t r) fun r1 s1 hr => ?_)⟩
  obtain ⟨v, rfl, rfl, kp⟩ := hr
  refine ⟨_, rfl, ?_⟩
  have ic1 := keeps_in (ic.tok _) kp
  cases c1 : tupD 3 3 d with
  | false =>
    exact wpAny_execs_cons (wpAny_Return_some (Constant_bool ⟨_, rfl, by rw [sayD_not c1], in_keeps ic1⟩))
  | true =>
    refine wpAny_execs_nil ?_
    obtain ⟨da, db, dc, rfl⟩ := tupD3 c1
    have hk1 := q.hk.kept ic1.keep
    obtain ⟨b, xa, xb, xc, va, vb, vc, eu, ta, tb, tc, ra, rb, rc, tp⟩ := tr3 hk1 t r
    subst eu
    have qe1 := q.qe ic1 rfl rfl rfl
    have old : (bindL (envOfC "is_saying" (defScope sIsSaying) s.heap.objs.size f cdv).kindOf ((["names", "thing"] : List Str).zip [.ref a, .ref b]) fun _ => none) "names" = some (.ref a) := by rfl
    refine wpAny_execs_cons (q_unpack3m ic1 qe1 hh rfl rfl (by rfl) tp rfl rfl rfl (by decide) (by decide) (by decide) fun s2 mm e1 e2 e3 eo ic2 => ?_)
    have e4 : mm "names" = some (.ref a) := (eo "names" (by decide) (by decide) (by decide)).trans old
    clear eo old
    have qe2 := q.qe ic2 rfl rfl rfl
    have hk2 := q.hk.kept ic2.keep
    have q2 := q.kept ic2.keep
    have es : sayingD ns (.tuple [da, db, dc]) = (inS ns da && (inS sorts2 db && wholeD (-greatS) greatS dc)) := rfl
    obtain ⟨il, rl, pl⟩ := sq_lst (P := P) (w := w) hk2 ha
    obtain ⟨isS', rs, ps⟩ := sq_tup hk2 q2.kin (C.sorts H)
    refine wpAny_execs_cons (wpAny_Return_some (BoolOp_and (wpAny_Compare1 (q_loc qe2 rfl e1 (q_loc qe2 rfl e4 (SeqAt.in_listAt (isS da) pl (fun y hy => ?_) (wpAny_truthy_bool ?_)))))))
    · obtain ⟨z, k, rfl⟩ := memStr rl (by simpa using hy)
      exact ta.eqStrH hk2 ra (by show A.units + 3 + 1 < cLine; omega) z k
    rw [List.any_toArray, anyStr (e := isS da) (f := fun z => strIs z da) (fun _ _ => rfl) rl]
    cases c2 : (ns.any fun z => strIs z da) with
    | false =>
      exact ⟨_, rfl, by rw [es, show inS ns da = false from c2]; rfl, in_keeps ic2⟩
    | true =>
      refine BoolOp_and (wpAny_Compare1 (q_loc qe2 rfl e2 (q_glob qe2 rfl C.mS (SeqAt.in_tupleAt (isS db) ps (fun y hy => ?_) (wpAny_truthy_bool ?_)))))
      · obtain ⟨z, k, rfl⟩ := memStr rs (by simpa using hy)
        exact tb.eqStrH hk2 rb (by show A.units + 3 + 1 < cLine; omega) z k
      rw [List.any_toArray, anyStr (e := isS db) (f := fun z => strIs z db) (fun _ _ => rfl) rs]
      cases c3 : (sorts2.any fun z => strIs z db) with
      | false =>
        exact ⟨_, rfl, by rw [es, show inS ns da = true from c2, show inS sorts2 db = false from c3]; rfl, in_keeps ic2⟩
      | true =>
        refine BoolOp_one (wpAny_Call_Name_kw (q_glob qe2 rfl m1 (PySem.W.callWith_K (h₀ := s2.heap) qe2.kin k1 (Calls.spliced_cons (q_loc qe2 rfl e3 ?_)) (by rfl) (by rfl))))
        refine Calls.spliced_cons (UnaryOp_ (q_glob qe2 rfl hgr (neg_int ?_)))
        refine Calls.spliced_cons (q_glob (qe2.tok _) rfl hgr ?_)
        refine Calls.spliced_nil ?_
        obtain ⟨Pz, Z, pz, nl⟩ := tc.kitX (K := K) hk2 rc
        refine ⟨qe2.kin, wpAny_call (codeAny_mono (quietWhole F1 b1 B (s := { s2 with toks := s2.toks + 1 }) q2.kin q2.gns q2.bns q2.noL hdd Z pz nl (fun i e => ?_)) fun r3 s3 hr => ?_)⟩
        · subst e
          cases tc
          exact rc
        · obtain ⟨rfl, kp3⟩ := hr
          exact ⟨_, rfl, by rw [es, show inS ns da = true from c2, show inS sorts2 db = true from c3]; rfl, in_keeps (keeps_in (ic2.tok _) kp3)⟩
end
end Pk
end
section
set_option maxHeartbeats 400000
namespace Pk
open PySem PySem.Spec PyProof.Rows L2
section
variable {P : Program} {w : World} {K : PySem.W.Frag} {mg : Str → Option Value} {A : Around} {H : Hp} {s : Shared}
/-- now[name] -/
theorem q_dget {E : Value → Shared → Prop} {env : Env} {m : Str → Option Value} {Q : Value → Shared → Prop} {x y z : Str} {p1 p2 pos : Pos} {dd : Addr} {es : List (Str × Int)} {tz : Tok} (q : Qe K mg env m s) (hk : HOk P w H s.heap) (hx : env.scope.names.lookup x = some .local) (hy : env.scope.names.lookup y = some .local)
    (mx : m x = some (.ref dd)) (my : m y = some (.str z tz)) (hD : H dd = some (.dK (es.map kvOf))) (hz : z ∈ es.map (·.1)) (h : ∀ t tk, Q (.int (lookE es z) t) { s with toks := tk }) (dx : (x == ("__debug__" : Str)) = false := by decide) (dy : (y == ("__debug__" : Str)) = false := by decide) :
    wpAny (model P w) A (eval (.Subscript (.Name x p1) (.Name y p2) pos) env) Q E s := by
  obtain ⟨_, _, vs, rel, ddd⟩ := dk_of hk hD
  rcases look_dg hD hz with ⟨kvs, k, e, ey, l⟩ | ⟨kvs, k, b, e, ey, eb, l⟩
  · obtain ⟨z', hd', vs', rel', ddd'⟩ := dk_rd hk e
    obtain ⟨w', hw, rw'⟩ := RelO.some_of (v := .int (lookE es z)) (o := valueAt vs' k) (by rw [l]; exact rel'.val k)
    obtain ⟨tv, ev⟩ := (show ∃ t, w' = Value.int (lookE es z) t from rw')
    subst ev
    refine subD_of PySem.F.slot_dict_getitem.lookup (fun _ _ => rfl) (q_loc q hx mx (q_loc q hy my ⟨ddd'.mapOf.typeIs, wpAny_getItem_of (kV_is (k := k) (by rw [← ey]; exact ⟨tz, rfl⟩)) ddd'.mapOf hw (h _ _)⟩ dy) dx)
  · cases ey
theorem quietHolds {f dd : Addr} {fd : FuncData} {es : List (Str × Int)} {x : V} {sd : PyData} {u : Value} (F : Fun K "holds" "holds" sHolds f fd) (bG : Binds K fd ["saying", "now"] []) (q : Q0 P w K mg H s) (hh : A.handled = none) (hd : A.depth < recursionLimit)
    (t : Tr H x sd) (r : RelV x u) (hs : sayingD (es.map (·.1)) sd = true) (hD : H dd = some (.dK (es.map kvOf))) :
    codeAny (model P w) A (.call (.ref f) ⟨[u, .ref dd], []⟩) (fun r s' => ∃ v, r = .ok (.ret v) ∧ v = .bool (holdsS (lookE es) sd) ∧ Keeps s s') s := by
  obtain ⟨z, so, i, rfl, hz, hso⟩ := say_is hs
  refine q_enter (R := fun v s' => v = .bool (holdsS (lookE es) (.tuple [.str z, .str so, .int i])) ∧ Keeps s s') F scHolds bG rfl q hd fun cdv sz ic => ?_
  have hk0 := q.hk.kept ic.keep
  obtain ⟨b, xa, xb, xc, va, vb, vc, eu, ta, tb, tc, ra, rb, rc, tp⟩ := tr3 hk0 t r
  subst eu
  cases ta.strV
  cases tb.strV
  cases tc.intV
  obtain ⟨t1, rfl⟩ := (show ∃ t, va = Value.str z t from ra)
  obtain ⟨t2, rfl⟩ := (show ∃ t, vb = Value.str so t from rb)
  obtain ⟨t3, rfl⟩ := (show ∃ t, vc = Value.int i t from rc)
  have qe := q.qe ic rfl rfl rfl
  have old : (bindL (envOfC "holds" (defScope sHolds) s.heap.objs.size f cdv).kindOf ((["saying", "now"] : List Str).zip [.ref b, .ref dd]) fun _ => none) "now" = some (.ref dd) := by rfl
  refine wpAny_execs_cons (q_unpack3m ic qe hh rfl rfl (by rfl) tp rfl rfl rfl (by decide) (by decide) (by decide) fun s2 mm e1 e2 e3 eo ic2 => ?_)
  have e4 : mm "now" = some (.ref dd) := (eo "now" (by decide) (by decide) (by decide)).trans old
  clear eo old
  have qe2 := q.qe ic2 rfl rfl rfl
  have hk2 := q.hk.kept ic2.keep
  have e : holdsS (lookE es) (.tuple [.str z, .str so, .int i]) = if decide (so = "least") = true then decide (i ≤ lookE es z) else decide (lookE es z ≤ i) := rfl
  refine wpAny_execs_cons (wpAny_If (wpAny_isTrue_Compare1 (q_loc qe2 rfl e2 (wpAny_Constant_str (eq_str (wpAny_truthy_bool ?_))))))
  rw [show (so == ("least" : Str)) = decide (so = ("least" : Str)) from by rw [Bool.eq_iff_iff, beq_iff_eq, decide_eq_true_eq]]
  cases c : decide (so = ("least" : Str)) with
  | true =>
    rw [c] at e
    refine wpAny_execs_cons (wpAny_Return_some (wpAny_Compare1 (q_dget (qe2.tok _) hk2 rfl rfl e4 e1 hD hz fun tv tk => q_loc (qe2.tok _) rfl e3 (ge_int ?_))))
    exact ⟨_, rfl, by rw [e]; rfl, in_keeps (ic2.tok _)⟩
  | false =>
    rw [c] at e
    refine wpAny_execs_nil (wpAny_execs_cons (wpAny_Return_some (wpAny_Compare1 (q_dget (qe2.tok _) hk2 rfl rfl e4 e1 hD hz fun tv tk => q_loc (qe2.tok _) rfl e3 (le_int ?_)))))
    exact ⟨_, rfl, by rw [e]; rfl, in_keeps (ic2.tok _)⟩
end
end Pk
end
section
set_option maxHeartbeats 2000000
/-! all(test of x for x in a tuple), the test a quiet run that may read what the def holds. -/
namespace Pk
open PySem PySem.Spec PyProof.Rows L2
/-- the scope of a generator expression over one name -/
structure GenT (env : Env) (scope : Scope) (x : Str) : Prop where
  kind : scope.kind = .function
  co : scope.isCoroutine = false
  cell : ∀ y ∈ scope.names, y.2 ≠ .cell
  dot : scope.names.lookup (".0" : Str) = some NameKind.local
  la : scope.names.lookup x = some .local
  free : ∀ y ∈ scope.names, y.2 = .free → ∃ c, env.cells.lookup y.1 = some c
/-- the element: of data with ok the truth f, quietly -/
def EltS (X : Cx) (P : Addr) (scope : Scope) (x : Str) (elt : Expr) (ok : L2.St → Hp → (PyData → Bool) → PyData → Prop) : Prop :=
  ∀ (pins : List (Addr × Obj)) (σ : L2.St) (H1 : Hp) (s1 : Shared) (ps : Array Value) (f : PyData → Bool) (dx : PyData) (vx : V) (ux : Value) (cenv : Env) (A' : Around) (E' : Value → Shared → Prop) (u : Shared) (m : Str → Option Value),
    L2.Inv X pins σ H1 s1 → H1 P = some (.tbl ps) → Tr H1 vx dx → RelV vx ux → ok σ H1 f dx → A'.handled = none → A'.depth ≤ X.A.depth + 1 → A'.units ≤ X.A.units + 8 → cenv.scope = scope → cenv.cells = cloFrom X.env.cells scope.names [] → Qe X.K X.mg cenv m u → m x = some ux → KeptBut P s1.heap u.heap →
    wpAny (model X.prog X.w) A' (eval elt cenv) (fun y u' => y = .bool (f dx) ∧ Keeps u u') E' u
def trT (f : PyData → Bool) (l : List PyData) (j : Nat) : Bool := match l[j]? with
  | some p => f p
  | none => false
theorem trT_some {f : PyData → Bool} {l : List PyData} {j : Nat} {p : PyData} (h : l[j]? = some p) : trT f l j = f p := by
  unfold trT
  rw [h]
theorem all_trT (f : PyData → Bool) (l : List PyData) : (List.range l.length).all (trT f l) = l.all f := by
  rw [Bool.eq_iff_iff, List.all_eq_true, List.all_eq_true]
  constructor
  · intro h p hp
    obtain ⟨j, hj, e⟩ := List.getElem_of_mem hp
    have q := h j (List.mem_range.mpr hj)
    rw [trT_some (List.getElem?_eq_getElem hj), e] at q
    exact q
  · intro h j hj
    have hj' := List.mem_range.mp hj
    rw [trT_some (List.getElem?_eq_getElem hj')]
    exact h _ (List.getElem_mem hj')
theorem out1 {q n : Addr} (h : q < n) : q ∉ [n] := fun z => by
  rw [List.mem_singleton.mp z] at h
  exact Nat.lt_irrefl _ h
section
variable {X : Cx} {pins : List (Addr × Obj)} {σ : L2.St} {H : Hp} {s : Shared}
theorem gen_tup {c P : Addr} {elt iter : Expr} {x : Str} {px gpos : Pos} {scope : Scope} {te : TE} {k : Nat} {ok : L2.St → Hp → (PyData → Bool) → PyData → Prop} {Q' : Value → Shared → Prop} {R : (PyData → Bool) → List PyData → Hp → Prop}
    (hr : Room k X.A) (TB : GxR.TabB X.base X.mg c P) (hcode : X.env.code = .ref c) (S : GenT X.env scope x) (hi : PE X iter te) (hel : EltS X P scope x elt ok) (hs : ∀ v, genFold iter X.env v = pure v) (I : L2.Inv X pins σ H s)
    (h : te σ H fun v H1 => ∃ (a : Addr) (xs : List V) (ds : List PyData) (f : PyData → Bool), v = .ref a ∧ H1 a = some (.tup xs) ∧ TrAll H1 xs ds ∧ (∀ d ∈ ds, ok σ H1 f d) ∧ GxR.TabG H1 P ∧ R f ds H1)
    (hQ : ∀ f ds H1 g u, R f ds H1 → ReadyN X pins σ H1 P ds.length (trT f ds) g u → Q' (.ref g) u) :
    wpAny (model X.prog X.w) X.A (eval (.GeneratorExp elt [⟨.Name x px, iter, [], 0⟩] scope gpos) X.env) Q' X.xe s := by
  refine wpAny_GeneratorExp_walksQD hr.hd S.co (closure_ok S.free) S.cell S.dot S.la S.kind (by have := hr.dp; omega) ?_ hs
  refine thn (hi.run pins s σ H _ I h) fun xv s1 ⟨v, H1, I1, r1, q1⟩ => ?_
  obtain ⟨a, xs, ds, f, rfl, hA, tA, hok, ⟨ps, hP, ht⟩, q1⟩ := q1
  cases (show xv = .ref a from r1)
  obtain ⟨its, rv, p1, _⟩ := I1.tuple (SqT.of hA)
  have a9 : a < s1.heap.objs.size := let ⟨_, e, _⟩ := p1; Heap.lt_size e
  have hPs : s1.heap.get? P = some { cls := .none, data := .fields ps } := I1.hok P _ hP
  have hP9 : P < s1.heap.objs.size := Heap.lt_size hPs
  refine wpAny_pyIter_tuple (show s1.heap.IsTuple a its.toArray from p1) ?_
  generalize ho : ({ cls := .type "tuple_iterator", data := .fields #[.ref a, .int 0 0] } : Obj) = o
  have hP2 : (s1.heap.push o).get? P = some { cls := .none, data := .fields ps } := Heap.get?_push_of_some _ hPs
  have cd : PySem.W.CodeHd (s1.heap.push o) c P := TB.code.keeps fun b u e => Heap.get?_push_of_some _ (I1.bk b u e)
  have lim2 : (s1.heap.push o).NoLimit := I1.nolimit.push o
  have l1 := rv.length
  have l3 := tA.length
  have hnn : its.toArray.size = ds.length := by rw [List.size_toArray]; omega
  have na : a ≠ s1.heap.objs.size := Nat.ne_of_lt a9
  have notP : ∀ b o, X.base.get? b = some o → b ≠ P := fun b o e z => by
    have q := (I1.bs b o e).2
    rw [z, hP] at q
    cases q
  have cont : ∀ (code : Value) (h3 : Heap) (tk : Nat) (ps' : Array Value), Heap.ExtBut P (s1.heap.push o) h3 → (s1.heap.push o).objs.size ≤ h3.objs.size → h3.get? P = some { cls := .none, data := .fields ps' } → (∃ more, ps' = ps ++ more) → TriplesOk ps'.toList →
      wpAny (model X.prog X.w) X.A (builtinsFor X.env.globals X.env.builtins) (fun bi s₄ =>
        ∃ Ia fp wr n₀ Pf St₀ pz F, Value.ref s1.heap.objs.size = .ref Ia ∧ (∀ A' : Around, A'.handled = none → Walks X.prog X.w A' Ia fp wr n₀ Pf St₀) ∧ St₀ 0 s₄.heap ∧ (∀ b ∈ fp, b < s₄.heap.objs.size) ∧ s₄.heap.NoLimit ∧ cStatics ∉ wr ∧
          (∀ href : Heap, (∀ b o, s₄.heap.get? b = some o → href.get? b = some o) →
            QuietGenD X.prog X.w (genEnv scope (cloFrom X.env.cells scope.names []) s₄.heap.objs.size code bi X.env) x [] elt (List.range s₄.heap.objs.size) wr Pf pz F href (X.A.depth + 1) (X.A.units + 8)) ∧
          (∀ a h₅ tk gs, gs.bare = true → s₄.heap.objs.size < a → h₅.objs.size = a + 1 → (∀ b o, s₄.heap.get? b = some o → h₅.get? b = some o) →
            WalksS X.prog X.w X.A.in4 a (a :: s₄.heap.objs.size :: List.range s₄.heap.objs.size) (s₄.heap.objs.size :: wr) (GenOnlyQ s₄.gens.size) (passing pz n₀ 0).length
              (fun j y => ∃ i, (passing pz n₀ 0)[j]? = some i ∧ F i y) (GenAt X.prog X.w X.A.in4 a s₄.gens.size s₄.heap.objs.size (List.range s₄.heap.objs.size) wr pz n₀ F) →
            GenAt X.prog X.w X.A.in4 a s₄.gens.size s₄.heap.objs.size (List.range s₄.heap.objs.size) wr pz n₀ F 0 { s₄ with gens := s₄.gens.push gs, toks := tk, heap := h₅ } →
            Q' (.ref a) { s₄ with gens := s₄.gens.push gs, toks := tk, heap := h₅ })) X.xe { s1 with heap := h3, toks := tk } := by
    intro code h3 tk ps' hx hsz hP3 hmore ht3
    obtain ⟨bm, ob, e1, e2, e3, e4, e5, e6, e7, e8⟩ := TB.bm
    have hcP : cStatics ≠ P := fun e => by
      obtain ⟨_, hns, _⟩ := I1.nolimit
      obtain ⟨o', es, ep, ho, hd, _⟩ := hns
      rw [e, hPs] at ho
      cases ho
      cases hd
    have hcl : cStatics < s1.heap.objs.size := let ⟨_, hns, _⟩ := I1.nolimit; hns.lt
    have sz2 : (s1.heap.push o).objs.size = s1.heap.objs.size + 1 := Heap.size_push ..
    have kept3 : KeptBut P s1.heap h3 := fun b u hb e => hx b u hb (Heap.get?_push_of_some _ e)
    have hI3 : h3.get? s1.heap.objs.size = some o := hx _ _ (fun z => absurd hP9 (by rw [← z]; exact Nat.lt_irrefl _)) (Heap.get?_push_size _ (by rw [← ho]; rfl))
    refine wpAny_builtinsFor (m := X.mg) (by rw [I1.ok.glob]; exact ((I1.mod.glob.keeps I1.bk).push o).extBut hx TB.gP) e1 e2 (kept3 _ _ e4 (I1.bk _ _ e5)) e6 e7 e8 ?_
    refine ⟨s1.heap.objs.size, [s1.heap.objs.size, a], [s1.heap.objs.size], its.toArray.size, _, _, (fun _ => true), (fun i y => ∃ p, ds[i]? = some p ∧ y = .bool (f p)), rfl, fun A' hA' => Walks.tuple hA' s1.heap.objs.size a na its.toArray, ?_, ?_, lim2.extBut hx hcP, ?_, ?_, ?_⟩
    · refine ⟨?_, ?_⟩
      · subst ho
        exact ⟨_, hI3, rfl, rfl⟩
      · obtain ⟨o', e, r⟩ := p1
        exact ⟨o', kept3 _ _ (ne_of hA hP (by intro z; cases z)) e, r⟩
    · intro q hq
      rcases List.mem_cons.mp hq with e | e
      · rw [e]; exact Heap.lt_size hI3
      · rw [List.mem_singleton.mp e]
        obtain ⟨_, y, _⟩ := p1
        exact Heap.lt_size (kept3 _ _ (ne_of hA hP (by intro z; cases z)) y)
    · exact out1 hcl
    · intro href hhref
      refine ⟨fun A' E' i v s₂ m₂ hA _ _ hPv hn hm hk => ?_, fun A' E' i v u m hA' hdp hun hPv _ hns hma hkp => ?_⟩
      · simp only [List.forIn_nil]
        exact wpAny_pure ⟨rfl, GxR.keeps_refl _⟩
      · obtain ⟨vx, hvx, rx⟩ := vals_back rv (show its[i]? = some v by simpa using hPv)
        obtain ⟨dx, hdx, tx⟩ := tA.get hvx
        have kb : KeptBut P s1.heap u.heap := fun q o hq e => by
          have hlt : q < s1.heap.objs.size := Heap.lt_size e
          refine hkp q (List.mem_range.mpr ?_) (out1 hlt) o (hhref q o (kept3 q o hq e))
          exact Heap.lt_size (kept3 q o hq e)
        have bk : ∀ q o, X.base.get? q = some o → u.heap.get? q = some o := fun q o e => kb q o (notP q o e) (I1.bk q o e)
        have qe : Qe X.K X.mg (genEnv scope (cloFrom X.env.cells scope.names []) h3.objs.size code builtinsNs X.env) m u :=
          ⟨S.kind, I1.ok.glob, rfl, hns, I1.mod.kin.keeps bk, I1.mod.glob.keeps bk, let ⟨mb, y1, y2⟩ := I1.mod.blt; ⟨mb, y1.keeps bk, y2⟩, I1.mod.nolimit.keeps bk⟩
        exact thn (hel pins σ H1 s1 ps f dx vx v _ A' E' u m I1 hP tx rx (hok dx (List.mem_of_getElem? hdx)) hA' hdp hun rfl rfl qe hma kb) fun y u' r => ⟨⟨_, hdx, r.1⟩, r.2⟩
    · intro g h5 tk5 gs hgb hag hsz5 hk5 W5 hat
      simp only [GxR.passing_true, List.length_range] at W5
      rw [hnn] at W5 hat
      refine hQ f ds H1 g _ q1 ⟨_, _, _, _, _, W5.in4_1, hat, ?_, fun u' hm => ?_⟩
      · intro j y sj Qj Ej hy hQj
        obtain ⟨i, hij, p, hp, rfl⟩ := hy
        obtain ⟨hj, ej⟩ := List.getElem?_eq_some_iff.mp hij
        rw [List.getElem_range] at ej
        subst ej
        have hQ2 : Qj (trT f ds j) sj := hQj
        rw [trT_some hp] at hQ2
        exact wpAny_truthy_bool hQ2
      · obtain ⟨more, em⟩ := hmore
        have nwr : ∀ q o, s1.heap.get? q = some o → q ∉ h3.objs.size :: [s1.heap.objs.size] := fun q o e hb => by
          have hl : q < s1.heap.objs.size := Heap.lt_size e
          rcases List.mem_cons.mp hb with z | z
          · rw [z] at hl
            have h9 : (h3.objs.size : Nat) < s1.heap.objs.size := hl
            omega
          · exact out1 hl z
        have J := GxR.inv_tab (more := more) (h' := u'.heap) (g' := u'.gens) (d' := u'.drawn) (t' := u'.toks) I1 hP (fun q o hb e => hm.heap q o (nwr q o e) (hk5 q o (kept3 q o hb e)))
          (by rw [← em]; exact hm.heap P _ (nwr P _ hPs) (hk5 P _ hP3)) (AllBare.movedS (I1.bare.push hgb) hm)
        rw [GxR.sh_eta s1 u' hm.os] at J
        exact ⟨upd H1 P (.tbl (ps ++ more)), ⟨⟨ps ++ more, upd_same, by rw [← em]; exact ht3⟩, fun b hb => upd_ne hb⟩, J⟩
  refine ⟨lim2, ?_⟩
  cases hf : codeAmong gpos ps.toList with
  | none =>
    refine wpAny_genexprCodeX hcode (cd.code hP2 ht) (cd.tab hP2) hf fun c' h' tk hx hge hlt hco' _ htab' _ => ?_
    obtain ⟨o1, vs, f1, tf, fl, tg, inF, tx, tt, op, _, _, _, _, _, _, _, _, _, htr, _⟩ := hco'
    exact cont _ h' tk _ hx (Nat.le_trans hge (Nat.le_of_lt hlt)) htab'.2 ⟨_, rfl⟩ htr
  | some cv =>
    refine wpAny_genexprCode_hit hcode (cd.code hP2 ht) hf ?_
    exact cont cv (s1.heap.push o) s1.toks ps (Heap.ExtBut.refl _ _) (Nat.le_refl _) hP2 ⟨#[], by simp⟩ ht
/-- all(test for x in e), e a tuple -/
def tAllT (P : Addr) (ok : L2.St → Hp → (PyData → Bool) → PyData → Prop) (te : TE) : TE := fun σ H Q => te σ H fun v H1 => ∃ (a : Addr) (xs : List V) (ds : List PyData) (f : PyData → Bool), v = .ref a ∧ H1 a = some (.tup xs) ∧ TrAll H1 xs ds ∧ (∀ d ∈ ds, ok σ H1 f d) ∧ GxR.TabG H1 P ∧
  ∀ H2, GxR.Tabbed P H1 H2 → Q (.bl (ds.all f)) H2
theorem pe_allT {c P : Addr} {elt iter : Expr} {x : Str} {px gpos p pos : Pos} {scope : Scope} {te : TE} {k : Nat} {ok : L2.St → Hp → (PyData → Bool) → PyData → Prop}
    (hr : Room k X.A) (hgA : Gl X "all") (hmA : X.mg "all" = none) (hb : bootBuiltins "all" = some (.builtin "all")) (TB : GxR.TabB X.base X.mg c P) (hcode : X.env.code = .ref c) (S : GenT X.env scope x) (hi : PE X iter te) (hel : EltS X P scope x elt ok)
    (hs : ∀ v, genFold iter X.env v = pure v)
    (he : starEach [.GeneratorExp elt [⟨.Name x px, iter, [], 0⟩] scope gpos] X.env = (false, eval (.GeneratorExp elt [⟨.Name x px, iter, [], 0⟩] scope gpos) X.env) :: starEach [] X.env := by rfl) :
    PE X (.Call (.Name "all" p) [.GeneratorExp elt [⟨.Name x px, iter, [], 0⟩] scope gpos] [] pos) (tAllT P ok te) := by
  refine ⟨fun pins s σ H Q I h => wpAny_Call_Name_kw (ld_blt I hgA hmA hb ?_)⟩
  refine PyProof.Rows.callWith_builtin1 ?_ he (by rfl)
  rw [he]
  show wpAny _ _ (spliced ((false, eval (.GeneratorExp elt [⟨.Name x px, iter, [], 0⟩] scope gpos) X.env) :: backTo pos (starEach [] X.env))) _ _ s
  refine Calls.spliced_cons (gen_tup (R := fun f ds H1 => ∀ H2, GxR.Tabbed P H1 H2 → Q (.bl (ds.all f)) H2) hr TB hcode S hi hel hs I h fun f ds H1 g u hR hG => Calls.spliced_nil ?_)
  obtain ⟨fp, wr, G, F, St, W, h0, htr, hI⟩ := hG
  refine call_all_walkS (W.self 0 _ _ _ h0 ⟨g, fp, wr, G, _, F, St, _, rfl, W, h0, htr, fun u' hmv => ?_⟩)
  obtain ⟨H2, hT, J⟩ := hI u' hmv
  refine ⟨.bl _, H2, J, rfl, ?_⟩
  rw [all_trT]
  exact hR H2 hT
end
end Pk
end
section
set_option maxHeartbeats 1000000
/-! wishes_well, check_wish, is_wish, meets. -/
namespace Pk
open PySem PySem.Spec PyProof.Rows L2
abbrev sWell : Stmt := topH 41
abbrev sCheckW : Stmt := topH 42
abbrev sIsWish : Stmt := topH 43
abbrev sMeets : Stmt := topH 44
theorem hok_but {P : Program} {w : World} {H : Hp} {h h' : Heap} {Pt : Addr} {ps : Array Value} (hk : HOk P w H h) (hP : H Pt = some (.tbl ps)) (kb : KeptBut Pt h h') : HOk P w (del H Pt) h' := fun a o e => by
  have na : a ≠ Pt := fun z => by rw [z, del_same] at e; cases e
  rw [del_ne na] at e
  refine (hk a o e).stay (fun b u hb q => kb b u (fun z => ?_) q) (fun b q => ?_) fun b xs q => ?_
  · rcases hb with hb | hb
    · exact na (hb.symm.trans z)
    · rw [z, hP] at hb
      cases hb
  · rw [del_ne (fun z => by rw [z, hP] at q; cases q)]
    exact q
  · rw [del_ne (fun z => by rw [z, hP] at q; cases q)]
    exact q
theorem noData_tbl {H : Hp} {p : Addr} {ps : Array Value} (h : H p = some (.tbl ps)) : NoData H p := fun o e => by
  rw [h] at e
  cases e
  refine ⟨fun _ z => ?_, fun _ z => ?_, fun _ z => ?_⟩ <;> cases z
theorem q_free {P : Program} {w : World} {K : PySem.W.Frag} {mg : Str → Option Value} {A : Around} {E : Value → Shared → Prop} {env : Env} {m : Str → Option Value} {s : Shared} {Q : Value → Shared → Prop} {x : Str} {v : Value} {c : Addr} {p : Pos} (q : Qe K mg env m s) (hl : env.scope.names.lookup x = some .free) (hc : env.cells.lookup x = some c) (hv : s.heap.IsCell c (some v)) (h : Q v s)
    (hd : (x == ("__debug__" : Str)) = false := by decide) (hn : (x == ("__classdict__" : Str)) = false := by decide) : wpAny (model P w) A (eval (.Name x p) env) Q E s :=
  wpAny_Name (wpAny_loadName_free q.kind hl hc hv h hn) hd
def scSay : Scope := { kind := .function, names := [((".0" : Str), NameKind.local), (("saying" : Str), NameKind.local), (("names" : Str), NameKind.free), (("is_saying" : Str), NameKind.globalImplicit)], isGenerator := true, isCoroutine := false }
def scHold : Scope := { kind := .function, names := [((".0" : Str), NameKind.local), (("saying" : Str), NameKind.local), (("now" : Str), NameKind.free), (("holds" : Str), NameKind.globalImplicit)], isGenerator := true, isCoroutine := false }
theorem gtSay {env : Env} (h : ∃ c, env.cells.lookup ("names" : Str) = some c) : GenT env scSay "saying" := by
  refine ⟨rfl, rfl, by decide +kernel, rfl, rfl, fun y hy e => ?_⟩
  have hh : ∀ y ∈ scSay.names, y.2 = .free → y.1 = ("names" : Str) := by decide +kernel
  rw [hh y hy e]
  exact h
theorem gtHold {env : Env} (h : ∃ c, env.cells.lookup ("now" : Str) = some c) : GenT env scHold "saying" := by
  refine ⟨rfl, rfl, by decide +kernel, rfl, rfl, fun y hy e => ?_⟩
  have hh : ∀ y ∈ scHold.names, y.2 = .free → y.1 = ("now" : Str) := by decide +kernel
  rw [hh y hy e]
  exact h
/-- a name's cell, as a block within sees it -/
theorem cell_of {X : Cx} {pins : List (Addr × Obj)} {σ : L2.St} {H : Hp} {s : Shared} {u : Heap} {i : Nat} {x : Str} {v : V} {Pt : Addr} {ps : Array Value} (I : L2.Inv X pins σ H s) (hN : X.N[i]? = some x) (hσ : σ[i]? = some (some v)) (hx : X.env.scope.names.lookup x = some .cell) (hP : H Pt = some (.tbl ps)) (kb : KeptBut Pt s.heap u) :
    ∃ (c : Addr) (w : Value), X.env.cells.lookup x = some c ∧ u.IsCell c (some w) ∧ RelV v w := by
  obtain ⟨mm, hnm, hl⟩ := I.loc
  obtain ⟨uv, rv, lk⟩ := hl i x _ hN hσ (.inr (.inl hx))
  rcases lk with ⟨k, _⟩ | ⟨_, c, hc, o, ho, hd⟩
  · rw [show X.env.kindOf x = _ from hx] at k
    cases k
  · refine ⟨c, uv, hc, ⟨o, kb _ _ (fun z => ?_) ho, hd⟩, rv⟩
    have hPs : s.heap.get? Pt = some { cls := .none, data := .fields ps } := I.hok Pt _ hP
    rw [z, hPs] at ho
    cases ho
    cases hd
section
variable {X : Cx} {W S R : Addr}
theorem elt_say {Pt f g1 g2 : Addr} {fd d1 d2 : FuncData} {i : Nat} {p0 p1 p2 p3 : Pos} (F : Fun X.K "is_saying" "is_saying" sIsSaying f fd) (bG : Binds X.K fd ["names", "thing"] []) (kG : PySem.W.keepIn X.K (.ref f) = true) (mG : X.mg "is_saying" = some (.ref f))
    (F1 : Fun X.K "is_whole" "is_whole" sWhole g1 d1) (b1 : Binds X.K d1 ["thing", "low", "high"] []) (k1 : PySem.W.keepIn X.K (.ref g1) = true) (m1 : X.mg "is_whole" = some (.ref g1))
    (F2 : Fun X.K "is_tuple_of" "is_tuple_of" sTupOf g2 d2) (b2 : Binds X.K d2 ["thing", "least", "most"] []) (k2 : PySem.W.keepIn X.K (.ref g2) = true) (m2 : X.mg "is_tuple_of" = some (.ref g2)) (B : BltH X.mg) (C : Cons X.K X.mg W S R)
    (hN : X.N[i]? = some "names") (hx : X.env.scope.names.lookup ("names" : Str) = some .cell) (hroom : X.A.depth + 2 < recursionLimit) (hun : X.A.units + 13 < cLine) :
    EltS X Pt scSay "saying" (.Call (.Name "is_saying" p0) [.Name "names" p1, .Name "saying" p2] [] p3) (fun σ H f d => ∃ (a : Addr) (ns : List Str), σ[i]? = some (some (.ref a)) ∧ H a = some (.lst (ns.map V.str)) ∧ f = sayingD ns) := by
  intro pins σ H1 s1 ps f' dx vx ux cenv A' E' u m I hP tx rx hok hh hdp hu' hsc hcl qe ma kb
  obtain ⟨a, ns, hσ, ha, rfl⟩ := hok
  obtain ⟨c, w', hc, hcell, rw'⟩ := cell_of I hN hσ hx hP kb
  cases (show w' = .ref a from rw')
  have cc : cenv.cells.lookup ("names" : Str) = some c := by
    rw [hcl]
    show some ((X.env.cells.lookup ("names" : Str)).getD 0) = some c
    rw [hc]
    rfl
  have sc1 : cenv.scope.names.lookup ("saying" : Str) = some .local := by rw [hsc]; rfl
  have sc2 : cenv.scope.names.lookup ("names" : Str) = some .free := by rw [hsc]; rfl
  have sc3 : cenv.scope.names.lookup ("is_saying" : Str) = some .globalImplicit := by rw [hsc]; rfl
  have q0 : Q0 X.prog X.w X.K X.mg (del H1 Pt) u := ⟨qe.kin, qe.gns, qe.bns, qe.noL, hok_but I.hok hP kb⟩
  have hne : a ≠ Pt := ne_of ha hP (by intro z; cases z)
  refine wpAny_Call_Name_kw (q_glob qe sc3 mG (PySem.W.callWith_K (h₀ := u.heap) qe.kin kG (Calls.spliced_cons (q_free qe sc2 cc hcell (Calls.spliced_cons (q_loc qe sc1 ma (Calls.spliced_nil ?_))))) (by rfl) (by rfl)))
  refine ⟨qe.kin, wpAny_call (codeAny_mono (quietSaying F bG F1 b1 k1 m1 F2 b2 k2 m2 B C q0 hh (by omega) (by omega) (by rw [del_ne hne]; exact ha) (tx.but (noData_tbl hP) fun b o hb e => by rw [del_ne hb]; exact e) rx) fun r s' hr => ?_)⟩
  obtain ⟨v, rfl, rfl, kp⟩ := hr
  exact ⟨rfl, kp⟩
theorem elt_hold {Pt f : Addr} {fd : FuncData} {i : Nat} {p0 p1 p2 p3 : Pos} (F : Fun X.K "holds" "holds" sHolds f fd) (bG : Binds X.K fd ["saying", "now"] []) (kG : PySem.W.keepIn X.K (.ref f) = true) (mG : X.mg "holds" = some (.ref f))
    (hN : X.N[i]? = some "now") (hx : X.env.scope.names.lookup ("now" : Str) = some .cell) (hroom : X.A.depth + 2 < recursionLimit) :
    EltS X Pt scHold "saying" (.Call (.Name "holds" p0) [.Name "saying" p1, .Name "now" p2] [] p3) (fun σ H f d => ∃ (a : Addr) (es : List (Str × Int)), σ[i]? = some (some (.ref a)) ∧ H a = some (.dK (es.map kvOf)) ∧ f = holdsS (lookE es) ∧ sayingD (es.map (·.1)) d = true) := by
  intro pins σ H1 s1 ps f' dx vx ux cenv A' E' u m I hP tx rx hok hh hdp hu' hsc hcl qe ma kb
  obtain ⟨a, es, hσ, ha, rfl, hsd⟩ := hok
  obtain ⟨c, w', hc, hcell, rw'⟩ := cell_of I hN hσ hx hP kb
  cases (show w' = .ref a from rw')
  have cc : cenv.cells.lookup ("now" : Str) = some c := by
    rw [hcl]
    show some ((X.env.cells.lookup ("now" : Str)).getD 0) = some c
    rw [hc]
    rfl
  have sc1 : cenv.scope.names.lookup ("saying" : Str) = some .local := by rw [hsc]; rfl
  have sc2 : cenv.scope.names.lookup ("now" : Str) = some .free := by rw [hsc]; rfl
  have sc3 : cenv.scope.names.lookup ("holds" : Str) = some .globalImplicit := by rw [hsc]; rfl
  have q0 : Q0 X.prog X.w X.K X.mg (del H1 Pt) u := ⟨qe.kin, qe.gns, qe.bns, qe.noL, hok_but I.hok hP kb⟩
  have hne : a ≠ Pt := ne_of ha hP (by intro z; cases z)
  refine wpAny_Call_Name_kw (q_glob qe sc3 mG (PySem.W.callWith_K (h₀ := u.heap) qe.kin kG (Calls.spliced_cons (q_loc qe sc1 ma (Calls.spliced_cons (q_free qe sc2 cc hcell (Calls.spliced_nil ?_))))) (by rfl) (by rfl)))
  refine ⟨qe.kin, wpAny_call (codeAny_mono (quietHolds (es := es) F bG q0 hh (by omega) (tx.but (noData_tbl hP) fun b o hb e => by rw [del_ne hb]; exact e) rx hsd (by rw [del_ne hne]; exact ha)) fun r s' hr => ?_)⟩
  obtain ⟨v, rfl, rfl, kp⟩ := hr
  exact ⟨rfl, kp⟩
end
end Pk
end
section
set_option maxHeartbeats 1000000
namespace Pk
open PySem L2
/-- a wish in a house of these names -/
def wishD (ns : List Str) : PyData → Bool
  | .tuple es => decide (es.length ≤ 20) && es.all (sayingD ns)
  | _ => false
def metD (f : Str → Int) : PyData → Bool
  | .tuple es => es.all (holdsS f)
  | _ => false
theorem wish_not {ns : List Str} {d : PyData} (h : tupD 0 20 d = false) : wishD ns d = false := by
  cases d with
  | tuple es =>
    show (decide (es.length ≤ 20) && _) = false
    rw [tupD, Bool.and_eq_false_iff, decide_eq_false_iff_not, decide_eq_false_iff_not] at h
    rw [decide_eq_false (by omega)]
    rfl
  | _ => rfl
theorem wish_tup {ns : List Str} {d : PyData} (h : tupD 0 20 d = true) : ∃ es, d = .tuple es ∧ wishD ns d = es.all (sayingD ns) := by
  cases d with
  | tuple es =>
    rw [tupD, Bool.and_eq_true, decide_eq_true_eq, decide_eq_true_eq] at h
    refine ⟨es, rfl, ?_⟩
    show (decide (es.length ≤ 20) && _) = _
    rw [decide_eq_true (by omega)]
    rfl
  | _ => cases h
theorem wish_is {ns : List Str} {d : PyData} (h : wishD ns d = true) : ∃ es, d = .tuple es ∧ es.length ≤ 20 ∧ ∀ e ∈ es, sayingD ns e = true := by
  cases d with
  | tuple es =>
    have h' : (decide (es.length ≤ 20) && es.all (sayingD ns)) = true := h
    rw [Bool.and_eq_true, decide_eq_true_eq, List.all_eq_true] at h'
    exact ⟨es, rfl, h'.1, h'.2⟩
  | _ => cases h
def spWell (Pw : Addr) : Sp := fun vs H Q _ => ∃ (h : Addr) (x : V) (ds rs : List PyData) (d : PyData), vs = [.ref h, x] ∧ HouseAt H h ds rs ∧ Tr H x d ∧ GxR.TabG H Pw ∧ ∀ H', Gr Pw H H' → Q (.bl (wishD (ds.map nameOf) d)) H'
def spIsWish (Ps : List Addr) : Sp := fun vs H Q _ => ∃ (h : Addr) (x : V) (ds rs : List PyData) (d : PyData), vs = [.ref h, x] ∧ HouseAt H h ds rs ∧ Tr H x d ∧ Tabs Ps H ∧ ∀ H', GrS Ps H H' → Q (.bl (wishD (ds.map nameOf) d)) H'
def spCheckW (Ps : List Addr) (CW : Addr) : Sp := fun vs H Q E => ∃ (h : Addr) (x : V) (ds rs : List PyData) (d : PyData), vs = [.ref h, x] ∧ HouseAt H h ds rs ∧ Tr H x d ∧ Tabs Ps H ∧ ∀ H', GrS Ps H H' → (wishD (ds.map nameOf) d = true → Q .non H') ∧ (wishD (ds.map nameOf) d = false → E (.ref CW) none H')
def spMeets (Ps : List Addr) (CN CW : Addr) : Sp := fun vs H Q E => ∃ (h : Addr) (x y : V) (ds rs : List PyData) (d e : PyData), vs = [.ref h, x, y] ∧ HouseAt H h ds rs ∧ Tr H x d ∧ Tr H y e ∧ Tabs Ps H ∧ ∀ H', GrS Ps H H' →
  (numsD ds d = false → E (.ref CN) none H') ∧ (numsD ds d = true → wishD (ds.map nameOf) e = false → E (.ref CW) none H') ∧ (numsD ds d = true → wishD (ds.map nameOf) e = true → Q (.bl (metD (lookE (atE ds d)) e)) H')
theorem Gr.after {P : Addr} {H H1 H2 : Hp} (s : Same H H1) (g : Gr P H1 H2) : Gr P H H2 := ⟨g.1, fun b o hb e => g.2 b o hb (s b o e)⟩
section
variable {P : Program} {w : World} {K : PySem.W.Frag} {mg : Str → Option Value} {base : Heap} {Pt W S R : Addr} {Ps : List Addr}
abbrev nWell : List Str := ["house", "thing", "names", "dial"]
theorem scWell : FnScope nWell ["house", "thing"] (defScope sWell) := ⟨rfl, rfl, rfl, by decide +kernel, rfl, by decide +kernel, by decide +kernel⟩
theorem ok_well {f c g g1 g2 : Addr} {gd d1 d2 : FuncData} {oc : Value} {od an : Option Addr} {osl : Array (Option Value)} {kV doc pm ct : Value} {tms : Tok} (lk : K.lookup f = some ⟨oc, od, .func (PySem.W.fnOf "wishes_well" "wishes_well" (defArgs sWell) (defBody sWell) (defScope sWell) .none kV doc pm an (.ref c) ct), osl⟩) (hcd : PySem.W.codeIn K (.ref c) "wishes_well" = true)
    (TB : GxR.TabB base mg c Pt) (B : BltH mg) (C : Cons K mg W S R) (hms : mg "MOST_SAYINGS" = some (.int 20 tms))
    (F : Fun K "is_saying" "is_saying" sIsSaying g gd) (bG : Binds K gd ["names", "thing"] []) (kG : PySem.W.keepIn K (.ref g) = true) (mG : mg "is_saying" = some (.ref g))
    (F1 : Fun K "is_whole" "is_whole" sWhole g1 d1) (b1 : Binds K d1 ["thing", "low", "high"] []) (k1 : PySem.W.keepIn K (.ref g1) = true) (m1 : mg "is_whole" = some (.ref g1))
    (F2 : Fun K "is_tuple_of" "is_tuple_of" sTupOf g2 d2) (G2 : FnOk P w K mg base CX0 1 g2 d2 ["thing", "least", "most"] spTupOf) (b2 : Binds K d2 ["thing", "least", "most"] []) (k2 : PySem.W.keepIn K (.ref g2) = true) (m2 : mg "is_tuple_of" = some (.ref g2)) :
    FnOk P w K mg base CX0 3 f (PySem.W.fnOf "wishes_well" "wishes_well" (defArgs sWell) (defBody sWell) (defScope sWell) .none kV doc pm an (.ref c) ct) ["house", "thing"] (spWell Pt) := by
  refine fn_of lk hcd scWell (fun vs H Q E h => ?_) (fun A outer s H vs Q E hr h => ?_)
  · obtain ⟨h, x, ds, rs, d, rfl, _⟩ := h
    rfl
  obtain ⟨h, x, ds, rs, d, rfl, ha, td, tg, k⟩ := h
  have hr1 : Room 1 _ := hr.mono (by decide)
  have hroom : (A.deeper (PyProof.Rows.envOfC "wishes_well" (defScope sWell) s.heap.objs.size f (.ref c))).depth + 2 < recursionLimit := by
    have := hr.dp
    omega
  have hun : (A.deeper (PyProof.Rows.envOfC "wishes_well" (defScope sWell) s.heap.objs.size f (.ref c))).units + 13 < cLine := by
    have := hr.un
    omega
  refine ⟨_, PSs.nox (pss_cons (ps_if (pt_not (pt_val (pe_call G2 hr1 rfl m2 k2 b2 .nil pass0 (pa_cons (pv 1) (pa_cons pe_int (pa_cons (pe_glob (v := .int 20) (by rfl) hms ⟨_, rfl⟩) pa_nil)))))) (pss_one (ps_ret pe_bl)) pss_nil) <|
    pss_cons (ps_set (i := 2) scWell.nd rfl (.inr rfl) (pe_lc (own := [("dial", 3)]) (g := gName 3) (by rfl) scWell.nd (pi_tup (pe_ix ix_tup (pv 0) pe_int (fun _ _ => rfl))) (blkOk_by (N := nWell) (sc := defScope sWell) (by decide +kernel)) (fun _ _ _ _ _ => pg_name (i := 3) scWell.nd rfl (Or.inl rfl)) (fun _ _ _ _ _ => pts_nil) (fun _ _ _ _ _ => pe_ix (r := rIxT K) ix_tup (pv 3) pe_int (fun _ _ => rfl)))) <|
    pss_one (ps_ret (pe_allT hr (by rfl) B.all (by decide +kernel) TB rfl (gtSay (Option.isSome_iff_exists.mp (PySem.W.cellsFrom_some _ _ _ (.inl rfl)))) (pv 1) (elt_say (i := 2) F bG kG mG F1 b1 k1 m1 F2 b2 k2 m2 B C rfl rfl hroom hun) (fun _ => rfl)))), ?_⟩
  refine ⟨_, rfl, x, d, 0, 20, rfl, td, _, rfl, ?_⟩
  cases c1 : tupD 0 20 d with
  | false =>
    have q := k H (Gr.refl tg)
    rw [wish_not c1] at q
    exact iteT q
  | true =>
    refine iteF ?_
    obtain ⟨es, rfl, en⟩ := wish_tup (ns := ds.map nameOf) c1
    rw [en] at k
    obtain ⟨th, hg⟩ := ha
    cases td with
    | @tup t zs _ ht alZ =>
    cases th with
    | @tup _ hs _ hh al =>
    match hs, al with
    | [_, _], .cons (@Tr.tup _ a xs _ hA alA) (.cons tB .nil) =>
    have lA := alA.length
    have d2 := hg.d2
    refine ⟨_, rfl, h, _, _, _, rfl, rfl, SqT.of hh, (rfl : atI [V.ref a, _] 0 = some (.ref a)), a, rfl, ⟨_, SqT.of hA⟩, fun D hD => lc_tup (K := K) (a := a) (xs := xs) (fun i H1 => H1 D = some (.lst (((ds.take i).map nameOf).map V.str)) ∧ Same H H1)
      ⟨upd_same, sameNew hD _⟩ (fun i H1 _ ⟨_, s1⟩ => SqT.of (s1 _ _ hA)) ?_ ?_⟩
    · rintro i y H1 hy ⟨e1, s1⟩
      obtain ⟨dd, hd, tr⟩ := alA.get hy
      obtain ⟨q, qs, rfl, hq, i0⟩ := dial_tup0 (tr.same s1) (hg.dials dd (List.mem_of_getElem? hd))
      have il : i < ds.length := (List.getElem?_eq_some_iff.mp hd).1
      refine ⟨rfl, _, rfl, q, _, _, _, rfl, rfl, SqT.of hq, i0, _, e1, small1000 (by rw [List.length_map, List.length_map, List.length_take]; omega), ?_, fun c o e => ?_⟩
      · rw [upd_same, take_more hd, List.map_append, List.map_append]
        rfl
      · rw [upd_ne (ne_of_none e hD)]
        exact s1 _ _ e
    · rintro H1 ⟨e1, s1⟩
      rw [List.take_of_length_le (by omega)] at e1
      have tg1 : GxR.TabG H1 Pt := let ⟨ps, z1, z2⟩ := tg; ⟨ps, s1 _ _ z1, z2⟩
      refine ⟨_, rfl, t, zs, es, sayingD (ds.map nameOf), rfl, s1 _ _ ht, alZ.same s1, fun d _ => ⟨D, ds.map nameOf, rfl, e1, rfl⟩, tg1, fun H2 tb => k H2 ?_⟩
      exact Gr.after s1 (Gr.of tb)
theorem scCheckW : FnScope ["house", "wish"] ["house", "wish"] (defScope sCheckW) := ⟨rfl, rfl, rfl, by decide +kernel, rfl, by decide +kernel, by decide +kernel⟩
theorem ok_checkW {f g CW : Addr} {fd gd : FuncData} (hm : Pt ∈ Ps) (F : Fun K "check_wish" "check_wish" sCheckW f fd) (R : RefTxt K mg "NoWish" CW) (G : FnOk P w K mg base CX0 3 g gd ["house", "thing"] (spWell Pt)) (bG : Binds K gd ["house", "thing"] []) (kG : PySem.W.keepIn K (.ref g) = true) (mG : mg "wishes_well" = some (.ref g)) :
    FnOk P w K mg base (L2.CX P w) 4 f fd ["house", "wish"] (spCheckW Ps CW) := by
  refine F.okX scCheckW (fun vs H Q E h => ?_) (fun cdv A outer s H vs Q E hr h => ?_)
  · obtain ⟨h, x, ds, rs, d, rfl, _⟩ := h
    rfl
  obtain ⟨h, x, ds, rs, d, rfl, ha, td, tb, k⟩ := h
  refine ⟨_, pss_one (ps_if (pt_not (pt_val (pe_call G hr rfl mG kG bG .nil pass0 (pa_cons (pv 0) (pa_cons (pv 1) pa_nil))))) (pss_one (ps_raise rfl (takes_of rfl rfl rfl rfl) (pmk_own PySem.F.excBase_ValueError R.q R.gC R.kC (raises_own R.sB R.tC) rfl))) pss_nil), ?_⟩
  refine ⟨_, rfl, _, rfl, h, x, ds, rs, d, rfl, ha, td, tb _ hm, fun H1 g1 => ⟨_, rfl, ?_⟩⟩
  obtain ⟨q1, q2⟩ := k H1 (GrS.of hm tb g1)
  cases c : wishD (ds.map nameOf) d with
  | false => exact iteT (q2 c)
  | true => exact iteF (q1 c)
theorem scIsWish : FnScope ["house", "thing"] ["house", "thing"] (defScope sIsWish) := ⟨rfl, rfl, rfl, by decide +kernel, rfl, by decide +kernel, by decide +kernel⟩
theorem ok_isWish {f g1 g2 : Addr} {fd d1 d2 : FuncData} (hm : Pt ∈ Ps) (F : Fun K "is_wish" "is_wish" sIsWish f fd) (G1 : FnOk P w K mg base CX0 6 g1 d1 ["house"] (spCheckH Ps)) (b1 : Binds K d1 ["house"] []) (k1 : PySem.W.keepIn K (.ref g1) = true) (m1 : mg "check_house" = some (.ref g1))
    (G2 : FnOk P w K mg base CX0 3 g2 d2 ["house", "thing"] (spWell Pt)) (b2 : Binds K d2 ["house", "thing"] []) (k2 : PySem.W.keepIn K (.ref g2) = true) (m2 : mg "wishes_well" = some (.ref g2)) :
    FnOk P w K mg base CX0 7 f fd ["house", "thing"] (spIsWish Ps) := by
  refine F.ok scIsWish (fun vs H Q E h => ?_) (fun cdv A outer s H vs Q E hr h => ?_)
  · obtain ⟨h, x, ds, rs, d, rfl, _⟩ := h
    rfl
  obtain ⟨h, x, ds, rs, d, rfl, ha, td, tb, k⟩ := h
  have hr3 : Room 3 _ := hr.mono (by decide)
  refine ⟨_, pss_cons (ps_expr (pe_call G1 hr rfl m1 k1 b1 .nil pass0 (pa_cons (pv 0) pa_nil))) <| pss_one (ps_ret (pe_call G2 hr3 rfl m2 k2 b2 .nil pass0 (pa_cons (pv 0) (pa_cons (pv 1) pa_nil)))), ?_⟩
  refine ⟨_, rfl, h, ds, rs, rfl, ha, tb, fun H1 g1 => ?_⟩
  exact ⟨_, rfl, _, rfl, h, x, ds, rs, d, rfl, ha.grs tb g1, td.grs tb g1, g1.1 _ hm, fun H2 g2 => k H2 (g1.trans (GrS.of hm g1.1 g2))⟩
abbrev nMeets : List Str := ["house", "numbers", "wish", "now"]
theorem scMeets : FnScope nMeets ["house", "numbers", "wish"] (defScope sMeets) := ⟨rfl, rfl, rfl, by decide +kernel, rfl, by decide +kernel, by decide +kernel⟩
theorem ok_meets {f c g1 g2 g3 g4 g5 g6 CL CN CW : Addr} {d1 d2 d3 d4 d5 d6 : FuncData} {oc : Value} {od an : Option Addr} {osl : Array (Option Value)} {kV doc pm ct : Value} (hm : Pt ∈ Ps) (lk : K.lookup f = some ⟨oc, od, .func (PySem.W.fnOf "meets" "meets" (defArgs sMeets) (defBody sMeets) (defScope sMeets) .none kV doc pm an (.ref c) ct), osl⟩) (hcd : PySem.W.codeIn K (.ref c) "meets" = true)
    (TB : GxR.TabB base mg c Pt) (B : BltH mg)
    (G1 : FnOk P w K mg base CX0 6 g1 d1 ["house"] (spCheckH Ps)) (b1 : Binds K d1 ["house"] []) (k1 : PySem.W.keepIn K (.ref g1) = true) (m1 : mg "check_house" = some (.ref g1))
    (G2 : FnOk P w K mg base (L2.CX P w) 4 g2 d2 ["house", "numbers"] (spCheckN Ps CN)) (b2 : Binds K d2 ["house", "numbers"] []) (k2 : PySem.W.keepIn K (.ref g2) = true) (m2 : mg "check_numbers" = some (.ref g2))
    (G3 : FnOk P w K mg base (L2.CX P w) 4 g3 d3 ["house", "wish"] (spCheckW Ps CW)) (b3 : Binds K d3 ["house", "wish"] []) (k3 : PySem.W.keepIn K (.ref g3) = true) (m3 : mg "check_wish" = some (.ref g3))
    (T : LayTxt K mg CL) (M : Mk K CL g4) (G4 : FnOk P w K mg base CX0 2 g4 d4 ["self", "house"] (spInit CL)) (b4 : Binds K d4 ["self", "house"] []) (G5 : FnOk P w K mg base CX0 1 g5 d5 ["self", "numbers"] (spByN CL)) (b5 : Binds K d5 ["self", "numbers"] []) (m5 : Meth K CL "by_names" g5)
    (F6 : Fun K "holds" "holds" sHolds g6 d6) (b6 : Binds K d6 ["saying", "now"] []) (k6 : PySem.W.keepIn K (.ref g6) = true) (m6 : mg "holds" = some (.ref g6)) :
    FnOk P w K mg base (L2.CX P w) 7 f (PySem.W.fnOf "meets" "meets" (defArgs sMeets) (defBody sMeets) (defScope sMeets) .none kV doc pm an (.ref c) ct) ["house", "numbers", "wish"] (spMeets Ps CN CW) := by
  refine fn_of lk hcd scMeets (fun vs H Q E h => ?_) (fun A outer s H vs Q E hr h => ?_)
  · obtain ⟨h, x, y, ds, rs, d, e, rfl, _⟩ := h
    rfl
  obtain ⟨h, x, y, ds, rs, d, e, rfl, ha, td, te, tb, k⟩ := h
  have hr4 : Room 4 _ := hr.mono (by decide)
  have hr3 : Room 3 _ := hr.mono (by decide)
  have hr1 : Room 1 _ := hr.mono (by decide)
  have hroom : (A.deeper (PyProof.Rows.envOfC "meets" (defScope sMeets) s.heap.objs.size f (.ref c))).depth + 2 < recursionLimit := by
    have := hr.dp
    omega
  refine ⟨_, pss_cons (ps_expr (pe_call G1 hr rfl m1 k1 b1 .nil pass0 (pa_cons (pv 0) pa_nil))) <|
    pss_cons (ps_expr (pe_call (E := E) G2 hr4 rfl m2 k2 b2 .nil (passes_call (takes_of rfl rfl rfl rfl) fun _ _ _ _ h => h) (pa_cons (pv 0) (pa_cons (pv 1) pa_nil)))) <|
    pss_cons (ps_expr (pe_call (E := E) G3 hr4 rfl m3 k3 b3 .nil (passes_call (takes_of rfl rfl rfl rfl) fun _ _ _ _ h => h) (pa_cons (pv 0) (pa_cons (pv 2) pa_nil)))) <|
    pss_cons (ps_set (i := 3) scMeets.nd rfl (.inr rfl) (pe_meth (pe_make M G4 hr3 rfl T.mgC b4 .nil pass0 (pa_cons (pv 0) pa_nil)) T.cl m5 G5 hr1 b5 .nil pass0 (pa_cons (pv 1) pa_nil))) <|
    PSs.nox (pss_one (ps_ret (pe_allT hr (by rfl) B.all (by decide +kernel) TB rfl (gtHold (Option.isSome_iff_exists.mp (PySem.W.cellsFrom_some _ _ _ (.inl rfl)))) (pv 2) (elt_hold (i := 3) F6 b6 k6 m6 rfl rfl hroom) (fun _ => rfl)))), ?_⟩
  refine ⟨_, rfl, h, ds, rs, rfl, ha, tb, fun H1 g1 => ?_⟩
  refine ⟨_, rfl, _, rfl, h, x, ds, rs, d, rfl, ha.grs tb g1, td.grs tb g1, g1.1, fun H2 g2 => ⟨fun c1 => ?_, fun c1 => (k H2 (g1.trans g2)).1 c1⟩⟩
  have g12 := g1.trans g2
  refine ⟨_, rfl, _, rfl, h, y, ds, rs, e, rfl, ha.grs tb g12, te.grs tb g12, g12.1, fun H3 g3 => ⟨fun c2 => ?_, fun c2 => (k H3 (g12.trans g3)).2.1 c1 c2⟩⟩
  have g13 := g12.trans g3
  have ha3 := ha.grs tb g13
  obtain ⟨is, rfl, li, ei⟩ := nums_is c1
  have td3 := td.grs tb g13
  have te3 := te.grs tb g13
  cases td3 with
  | @tup t zs _ ht alZ =>
  cases trInts alZ
  refine ⟨_, rfl, fun x dx nx ndx ne => ?_⟩
  have s0 : Same H3 (upd (upd H3 dx (.own x)) x (.ins CL dx [])) := fun c o e => by
    rw [upd_ne (ne_of_none e nx), upd_ne (ne_of_none e ndx)]
    exact e
  refine ⟨x, h, dx, ds, rs, rfl, upd_same, ha3.tr.same s0, ha3.hg, fun nl H4 L kp => ⟨rfl, ?_⟩⟩
  have s1 : Same H3 H4 := fun c o e => kp c o (ne_of_none e nx) (s0 c o e)
  obtain ⟨⟨dx2, fs, hx1, q1, q2⟩, q3⟩ := id L
  refine ⟨x, dx2, fs, rfl, hx1, q2, _, rfl, x, t, nl, ds.map nameOf, is, rfl, L, s1 _ _ ht, by rw [List.length_map]; exact li.symm, ha3.hg.nd, fun p np => ?_⟩
  have s2 := s1.trans (sameNew np (.dK (((ds.map nameOf).zip is).map kvOf)))
  have hp : upd H4 p (.dK (((ds.map nameOf).zip is).map kvOf)) p = some (.dK (((ds.map nameOf).zip is).map kvOf)) := upd_same
  have ek : ((ds.map nameOf).zip is).map (·.1) = ds.map nameOf := zip_keys (by rw [List.length_map]; exact li.symm)
  have ea : atE ds (.tuple (is.map PyData.int)) = (ds.map nameOf).zip is := by unfold atE; rw [ei]
  have g14 := g13.trans (GrS.same g13.1 s2)
  generalize upd H4 p (.dK (((ds.map nameOf).zip is).map kvOf)) = H5 at s2 hp g14
  obtain ⟨es, rfl, le, hes⟩ := wish_is c2
  have te5 := te3.same s2
  cases te5 with
  | @tup t2 ws _ ht2 alW =>
  refine ⟨_, rfl, t2, ws, es, holdsS (lookE ((ds.map nameOf).zip is)), rfl, ht2, alW, fun d hd => ⟨p, _, rfl, hp, rfl, by rw [ek]; exact hes d hd⟩, g14.1 _ hm, fun H6 tb6 => ?_⟩
  have q := (k H6 (g14.trans (GrS.of hm g14.1 (Gr.of tb6)))).2.2 c1 c2
  rw [ea] at q
  exact q
end
end Pk
end
section
set_option maxHeartbeats 1000000
/-! The law's own: is_saying, is_wish, pick of a tuple. -/
namespace Pk
open PySem PySem.Spec PyProof.Rows L2
abbrev sLSay : Stmt := topH 64
abbrev sLIsWish : Stmt := topH 65
abbrev sLWish : Stmt := topH 67
abbrev sLClose : Stmt := topH 69
theorem len3 {α : Type} : ∀ {ds : List α}, ds.length = 3 → ∃ a b c, ds = [a, b, c]
  | [a, b, c], _ => ⟨a, b, c, rfl⟩
  | [], h => by simp at h
  | [_], h => by simp at h
  | [_, _], h => by simp at h
  | _ :: _ :: _ :: _ :: _, h => by simp at h
theorem inS_no {zs : List Str} {d : PyData} (h : isStr d = false) : inS zs d = false := by
  cases c : inS zs d with
  | false => rfl
  | true =>
    obtain ⟨z, rfl⟩ := inS_str c
    cases h
theorem neI {a b : Int} : (!decide (V.int a = V.int b)) = !decide (a = b) := by
  by_cases h : a = b
  · simp [h]
  · have : ¬ V.int a = V.int b := fun z => h (V.int.inj z)
    simp [h]
section
variable {P : Program} {w : World} {K : PySem.W.Frag} {mg : Str → Option Value} {base : Heap}
theorem scLSay : FnScope ["_law_names_here", "_law_thing"] ["_law_names_here", "_law_thing"] (defScope sLSay) := ⟨rfl, rfl, rfl, by decide +kernel, rfl, by decide +kernel, by decide +kernel⟩
theorem ok_lsay {f g1 : Addr} {fd d1 : FuncData} (F : Fun K "_law_is_saying" "_law_is_saying" sLSay f fd)
    (G1 : FnOk P w K mg base CX0 1 g1 d1 ["_law_thing", "_law_low", "_law_high"] spWhole) (b1 : Binds K d1 ["_law_thing", "_law_low", "_law_high"] []) (k1 : PySem.W.keepIn K (.ref g1) = true) (m1 : mg "_law_whole" = some (.ref g1)) (B : BltH mg) : FnOk P w K mg base CX0 2 f fd ["_law_names_here", "_law_thing"] spLSay := by
  refine F.ok scLSay (fun vs H Q E h => ?_) (fun cdv A outer s H vs Q E hr h => ?_)
  · obtain ⟨a, ns, x, d, rfl, _⟩ := h
    rfl
  obtain ⟨a, ns, x, d, rfl, hns, t, k⟩ := h
  have hu := hu_of hr
  refine ⟨_, pss_cons (ps_if (PW.pt (pw_or (pt_not (pt_val (pe_callB call_isT (by rfl) B.isinstance (by decide +kernel) (pa_cons (pv 1) (pa_cons (pe_bltn (v := .ty "tuple") (by rfl) B.tuple (by decide +kernel) rfl) pa_nil)))))
      (pw_or (pt_cmpR op_ne (pe_callB call_len_seq (by rfl) B.len PySem.boot_len (pa_cons (pv 1) pa_nil)) pe_int (nomark _))
      (pw_or (pt_not (pt_val (pe_callB call_isT (by rfl) B.isinstance (by decide +kernel) (pa_cons (pe_ix ix_tup (pv 1) pe_int (fun _ _ => rfl)) (pa_cons (pe_bltn (v := .ty "str") (by rfl) B.str (by decide +kernel) rfl) pa_nil)))))
      (pw_or1 (pt_cmpR (op_notInS hu) (pe_ix ix_tup (pv 1) pe_int (fun _ _ => rfl)) (pv 0) (by rfl))))))) (pss_one (ps_ret pe_bl)) pss_nil) <|
    pss_cons (ps_if (PW.pt (pw_or (pt_not (pt_val (pe_callB call_isT (by rfl) B.isinstance (by decide +kernel) (pa_cons (pe_ix ix_tup (pv 1) pe_int (fun _ _ => rfl)) (pa_cons (pe_bltn (v := .ty "str") (by rfl) B.str (by decide +kernel) rfl) pa_nil)))))
      (pw_or1 (pt_cmpR (op_notInS hu) (pe_ix ix_tup (pv 1) pe_int (fun _ _ => rfl)) (pe_lst (pa_cons pe_str (pa_cons pe_str pa_nil))) (by rfl))))) (pss_one (ps_ret pe_bl)) pss_nil) <|
    pss_one (ps_ret (pe_call G1 hr rfl m1 k1 b1 .nil pass0 (pa_cons (pe_ix ix_tup (pv 1) pe_int (fun _ _ => rfl)) (pa_cons (pd_neg (pd_pow pe_int pe_int)) (pa_cons (pd_pow pe_int pe_int) pa_nil))))), ?_⟩
  have q := k H (Same.refl _)
  refine ⟨_, rfl, x, "tuple", d, isTup, rfl, kT, t, _, rfl, ?_⟩
  cases t with
  | @tup b xs ds h al =>
    refine iteF ?_
    have hl := al.length
    refine ⟨_, rfl, b, _, rfl, .inr (SqT.of h), rfl, _, rfl, ?_⟩
    rw [neI]
    refine ite2 (fun c1 => ?_) (fun c1 => ?_)
    · have c1' : ¬ ((xs.length : Int) = 3) := by simpa using c1
      have e : sayingD ns (.tuple ds) = false := by
        unfold sayingD
        split
        · rename_i e; cases e; simp at hl; omega
        · rfl
      rw [e] at q
      exact q
    · have c1' : ((xs.length : Int) = 3) := by simpa using c1
      obtain ⟨da, db, dc, rfl⟩ := len3 (ds := ds) (by omega)
      match xs, al with
      | [xa, xb, xc], .cons ta (.cons tb (.cons tc .nil)) =>
      have ed : sayingD ns (.tuple [da, db, dc]) = (inS ns da && (inS sorts2 db && wholeD (-greatS) greatS dc)) := rfl
      rw [ed] at k q
      refine ⟨_, rfl, b, _, _, _, rfl, rfl, SqT.of h, (rfl : atI [xa, xb, xc] 0 = some xa), xa, "str", da, isStr, rfl, kS, ta, _, rfl, ?_⟩
      cases c2 : isStr da with
      | false =>
        rw [inS_no c2] at q
        exact iteT q
      | true =>
        refine iteF ⟨_, rfl, b, _, _, _, rfl, rfl, SqT.of h, (rfl : atI [xa, xb, xc] 0 = some xa), _, rfl, da, a, ns, ta, rfl, .inl (SqL.of hns), _, rfl, ?_⟩
        cases c3 : inS ns da with
        | false =>
          rw [c3] at q
          rw [show (ns.any fun z => strIs z da) = false from c3]
          exact iteT q
        | true =>
          rw [c3] at k q
          rw [show (ns.any fun z => strIs z da) = true from c3]
          refine iteF ?_
          refine ⟨_, rfl, b, _, _, _, rfl, rfl, SqT.of h, (rfl : atI [xa, xb, xc] 1 = some xb), xb, "str", db, isStr, rfl, kS, tb, _, rfl, ?_⟩
          cases c4 : isStr db with
          | false =>
            rw [inS_no c4] at q
            exact iteT q
          | true =>
            refine iteF ⟨_, rfl, b, _, _, _, rfl, rfl, SqT.of h, (rfl : atI [xa, xb, xc] 1 = some xb), by show 2 ≤ sizeLine; decide, fun p np => ?_⟩
            have s2 := sameNew np (.lst [V.str "least", V.str "most"])
            refine ⟨db, p, sorts2, tb.same s2, rfl, .inl (SqL.of upd_same), _, rfl, ?_⟩
            have q := k _ s2
            cases c5 : inS sorts2 db with
            | false =>
              rw [c5] at q
              rw [show (sorts2.any fun z => strIs z db) = false from c5]
              exact iteT q
            | true =>
              rw [c5] at q
              rw [show (sorts2.any fun z => strIs z db) = true from c5]
              refine iteF ⟨_, rfl, b, _, _, _, rfl, rfl, SqT.of (s2 _ _ h), (rfl : atI [xa, xb, xc] 2 = some xc), xc, dc, _, _, rfl, tc.same s2, ?_⟩
              rw [e20]
              exact q
  | int i => exact iteT q
  | bl b => exact iteT q
  | non => exact iteT q
  | str z => exact iteT q
  | lst h a => exact iteT q
  | dct h n e a => exact iteT q

def spPickT : Sp := fun vs H Q _ => ∃ (p c l : Addr) (n : Int) (xs : List V), vs = [.ref p, .ref l] ∧ PenC H p c n ∧ n ≤ 1000000000 ∧ H l = some (.tup xs) ∧ 1 ≤ xs.length ∧ xs.length ≤ 1000000 ∧
  ∀ (x : V) (H' : Hp), x ∈ xs → PenC H' p c (n + 1) → Sb p H H' → Q x H'
theorem ok_pickT {f g : Addr} {fd gd : FuncData} (F : Fun K "_law_pick" "_law_pick" sPick f fd) (G : FnOk P w K mg base CX0 1 g gd ["_law_pen_here", "_law_many"] spDrawC) (bG : Binds K gd ["_law_pen_here", "_law_many"] []) (kG : PySem.W.keepIn K (.ref g) = true) (mG : mg "_law_draw" = some (.ref g)) (B : Blt mg) :
    FnOk P w K mg base CX0 2 f fd ["_law_pen_here", "_law_some"] spPickT := by
  refine F.ok scPick (fun vs H Q E h => ?_) (fun cdv A outer s H vs Q E hr h => ?_)
  · obtain ⟨p, c, l, n, xs, rfl, _⟩ := h
    rfl
  refine ⟨_, pss_one (ps_ret (pe_ix ix_tup (pv 1) (pe_call G hr rfl mG kG bG .nil pass0 (pa_cons (pv 0) (pa_cons (pe_callB call_len_seq (by rfl) B.len PySem.boot_len (pa_cons (pv 1) pa_nil)) pa_nil))) (fun _ _ => rfl))), ?_⟩
  obtain ⟨p, c, l, n, xs, rfl, pen, hn, hl, l1, l2, k⟩ := h
  have lp : l ≠ p := pen.tupp hl
  refine ⟨_, rfl, _, rfl, _, rfl, l, xs, rfl, .inr (SqT.of hl), p, c, n, _, rfl, pen, hn, by omega, by omega, fun v H' v0 v1 pen' sb => ?_⟩
  have hv : v.toNat < xs.length := by omega
  have ev : v = ((v.toNat : Nat) : Int) := by omega
  have q : atI xs ((v.toNat : Nat) : Int) = some xs[v.toNat] := atI_nat (List.getElem?_eq_getElem hv)
  rw [← ev] at q
  exact ⟨l, xs, v, _, rfl, rfl, SqT.of (sb.to lp hl), q, k _ H' (List.getElem_mem hv) pen' sb⟩
def spLIsWish : Sp := fun vs H Q _ => ∃ (h : Addr) (x : V) (ds rs : List PyData) (d : PyData), vs = [.ref h, x] ∧ HouseAt H h ds rs ∧ Tr H x d ∧ ∀ H', Same H H' → Q (.bl (wishD (ds.map nameOf) d)) H'
abbrev nLIsWish : List Str := ["_law_house_here", "_law_thing", "_law_names_here", "_law_dial_here", "_law_one"]
theorem scLIsWish : FnScope nLIsWish ["_law_house_here", "_law_thing"] (defScope sLIsWish) := ⟨rfl, rfl, rfl, by decide +kernel, rfl, by decide +kernel, by decide +kernel⟩
theorem ok_lisWish {f g : Addr} {fd gd : FuncData} (F : Fun K "_law_is_wish" "_law_is_wish" sLIsWish f fd) (G : FnOk P w K mg base CX0 2 g gd ["_law_names_here", "_law_thing"] spLSay) (bG : Binds K gd ["_law_names_here", "_law_thing"] []) (kG : PySem.W.keepIn K (.ref g) = true) (mG : mg "_law_is_saying" = some (.ref g)) (B : BltH mg) :
    FnOk P w K mg base CX0 3 f fd ["_law_house_here", "_law_thing"] spLIsWish := by
  refine F.ok scLIsWish (fun vs H Q E h => ?_) (fun cdv A outer s H vs Q E hr h => ?_)
  · obtain ⟨h, x, ds, rs, d, rfl, _⟩ := h
    rfl
  obtain ⟨h, x, ds, rs, d, rfl, ha, td, k⟩ := h
  have hu : (A.deeper (envOfC "_law_is_wish" (defScope sLIsWish) s.heap.objs.size f cdv)).units < cLine := by
    have := hr.un
    omega
  refine ⟨_, pss_cons (ps_if (PW.pt (pw_or (pt_not (pt_val (pe_callB call_isT (by rfl) B.isinstance (by decide +kernel) (pa_cons (pv 1) (pa_cons (pe_bltn (v := .ty "tuple") (by rfl) B.tuple (by decide +kernel) rfl) pa_nil))))) (pw_or1 (pt_cmpR op_gt (pe_callB call_len_seq (by rfl) B.len PySem.boot_len (pa_cons (pv 1) pa_nil)) pe_int (nomark _))))) (pss_one (ps_ret pe_bl)) pss_nil) <|
    pss_cons (ps_set (i := 2) scLIsWish.nd rfl (.inr rfl) (pe_lc (own := [("_law_dial_here", 3)]) (g := gName 3) (by rfl) scLIsWish.nd (pi_tup (pe_ix ix_tup (pv 0) pe_int (fun _ _ => rfl))) (blkOk_by (N := nLIsWish) (sc := defScope sLIsWish) (by decide +kernel)) (fun _ _ _ _ _ => pg_name (i := 3) scLIsWish.nd rfl (Or.inl rfl)) (fun _ _ _ _ _ => pts_nil) (fun _ _ _ _ _ => pe_ix (r := rIxT K) ix_tup (pv 3) pe_int (fun _ _ => rfl)))) <|
    pss_one (ps_ret (pe_cmpR (op_eqNil hu) (pe_lc (own := [("_law_one", 4)]) (g := gName 4) (by rfl) scLIsWish.nd (pi_tup (pv 1)) (blkOk_by (N := nLIsWish) (sc := defScope sLIsWish) (by decide +kernel)) (fun _ _ _ _ _ => pg_name (i := 4) scLIsWish.nd rfl (Or.inl rfl)) (fun _ _ _ _ _ => pts_one (pt_not (pt_val (pe_call G hr rfl mG kG bG .nil pass0 (pa_cons (pv 2) (pa_cons (pv 4) pa_nil)))))) (fun _ _ _ _ _ => pv 4)) (pe_lst pa_nil) (nomark _))), ?_⟩
  refine ⟨_, rfl, x, "tuple", d, isTup, rfl, kT, td, _, rfl, ?_⟩
  cases c0 : isTup d with
  | false =>
    have e : wishD (ds.map nameOf) d = false := by cases d <;> first | rfl | (simp [isTup] at c0)
    have q := k H (Same.refl _)
    rw [e] at q
    exact iteT q
  | true =>
    refine iteF ?_
    obtain ⟨es, rfl⟩ : ∃ es, d = .tuple es := by cases d <;> first | exact ⟨_, rfl⟩ | (simp [isTup] at c0)
    obtain ⟨th, hg⟩ := ha
    cases td with
    | @tup t zs _ ht alZ =>
    have lZ := alZ.length
    refine ⟨_, rfl, t, zs, rfl, .inr (SqT.of ht), _, _, rfl, rfl, _, rfl, ?_⟩
    by_cases c1 : (zs.length : Int) > 20
    · rw [decide_eq_true c1]
      have q := k H (Same.refl _)
      rw [show wishD (ds.map nameOf) (.tuple es) = false from by
        show (decide (es.length ≤ 20) && _) = false
        rw [decide_eq_false (by omega)]
        rfl] at q
      exact iteT q
    · rw [decide_eq_false c1]
      refine iteF ?_
      cases th with
      | @tup _ hs _ hh al =>
      match hs, al with
      | [_, _], .cons (@Tr.tup _ a xs _ hA alA) (.cons tB .nil) =>
      have lA := alA.length
      have d2 := hg.d2
      refine ⟨_, rfl, h, _, _, _, rfl, rfl, SqT.of hh, (rfl : atI [V.ref a, _] 0 = some (.ref a)), a, rfl, ⟨_, SqT.of hA⟩, fun D hD => lc_tup (K := K) (a := a) (xs := xs) (fun i H1 => H1 D = some (.lst (((ds.take i).map nameOf).map V.str)) ∧ Same H H1)
        ⟨upd_same, sameNew hD _⟩ (fun i H1 _ ⟨_, s1⟩ => SqT.of (s1 _ _ hA)) ?_ ?_⟩
      · rintro i y H1 hy ⟨e1, s1⟩
        obtain ⟨dd, hd, tr⟩ := alA.get hy
        obtain ⟨q, qs, rfl, hq, i0⟩ := dial_tup0 (tr.same s1) (hg.dials dd (List.mem_of_getElem? hd))
        have il : i < ds.length := (List.getElem?_eq_some_iff.mp hd).1
        refine ⟨rfl, _, rfl, q, _, _, _, rfl, rfl, SqT.of hq, i0, _, e1, small1000 (by rw [List.length_map, List.length_map, List.length_take]; omega), ?_, fun c o e => ?_⟩
        · rw [upd_same, take_more hd, List.map_append, List.map_append]
          rfl
        · rw [upd_ne (ne_of_none e hD)]
          exact s1 _ _ e
      · rintro H1 ⟨e1, s1⟩
        rw [List.take_of_length_le (by omega)] at e1
        refine ⟨_, rfl, t, rfl, ⟨_, SqT.of (s1 _ _ ht)⟩, fun D2 hD2 => lc_tup (K := K) (a := t) (xs := zs) (fun i H2 => ∃ ys : List V, H2 D2 = some (.lst ys) ∧ ys.length ≤ i ∧ ys.isEmpty = (es.take i).all (sayingD (ds.map nameOf)) ∧ Same H1 H2)
          ⟨[], upd_same, Nat.le_refl _, rfl, sameNew hD2 _⟩ (fun i H2 _ ⟨_, _, _, _, s2⟩ => SqT.of (s2 _ _ (s1 _ _ ht))) ?_ ?_⟩
        · rintro i y H2 hy ⟨ys, e2, l2, f2, s2⟩
          obtain ⟨ed, he, tr⟩ := alZ.get hy
          have il : i < zs.length := (List.getElem?_eq_some_iff.mp hy).1
          refine ⟨rfl, _, rfl, _, rfl, D, ds.map nameOf, y, ed, rfl, s2 _ _ e1, (tr.same s1).same s2, fun H3 s3 => ⟨_, rfl, ?_⟩⟩
          have f3 : (es.take (i + 1)).all (sayingD (ds.map nameOf)) = ((es.take i).all (sayingD (ds.map nameOf)) && sayingD (ds.map nameOf) ed) := by
            rw [take_more he, List.all_append]
            simp
          cases c3 : sayingD (ds.map nameOf) ed with
          | true =>
            rw [c3, Bool.and_true] at f3
            exact iteF ⟨ys, s3 _ _ e2, by omega, by rw [f3]; exact f2, s2.trans s3⟩
          | false =>
            rw [c3, Bool.and_false] at f3
            refine iteT ⟨_, rfl, ys, s3 _ _ e2, small1000 (by omega), ys ++ [y], upd_same, by simp; omega, by rw [f3]; simp, fun c o e => ?_⟩
            rw [upd_ne (ne_of_none e hD2)]
            exact s3 _ _ (s2 _ _ e)
        · rintro H2 ⟨ys, e2, l2, f2, s2⟩
          refine ⟨by show 0 ≤ sizeLine; decide, fun N hN => ?_⟩
          have s3 := sameNew hN (.lst [])
          refine ⟨D2, N, ys, rfl, rfl, SqL.of (s3 _ _ e2), SqL.of upd_same, ?_⟩
          have q := k _ (s1.trans (s2.trans s3))
          rw [List.take_of_length_le (by omega)] at f2
          rw [f2]
          rw [show wishD (ds.map nameOf) (.tuple es) = es.all (sayingD (ds.map nameOf)) from by
            show (decide (es.length ≤ 20) && _) = _
            rw [decide_eq_true (by omega)]
            rfl] at q
          exact q
end
end Pk
end
section
set_option maxHeartbeats 1000000
/-! The law's own: told, wish. -/
namespace Pk
open PySem L2
/-- what the walk asks of the classes -/
structure ClsTxt3 (K : PySem.W.Frag) (mg : Str → Option Value) (CN CW CS CWs CD : Addr) : Prop where
  mN : mg "NoNumbers" = some (.ref CN)
  mW : mg "NoWish" = some (.ref CW)
  mS : mg "NoStanding" = some (.ref CS)
  mWs : mg "NoWishes" = some (.ref CWs)
  mD : mg "DialError" = some (.ref CD)
  ex1 : ExcC K CN
  te1 : PySem.W.exmOne K (.ref CN) (.ref CD) = some true
  n1 : PySem.W.kitOne K (.ref CN) (.ref CN) = some true
  w1 : PySem.W.kitOne K (.ref CN) (.ref CW) = some false
  s1 : PySem.W.kitAny K (.ref CN) [.ref CS, .ref CWs] = some false
  ex2 : ExcC K CW
  te2 : PySem.W.exmOne K (.ref CW) (.ref CD) = some true
  n2 : PySem.W.kitOne K (.ref CW) (.ref CN) = some false
  w2 : PySem.W.kitOne K (.ref CW) (.ref CW) = some true
  s2 : PySem.W.kitAny K (.ref CW) [.ref CS, .ref CWs] = some false
def spLTold (Ps : List Addr) : Sp := fun vs H Q _ => ∃ (h : Addr) (x y : V) (ds rs : List PyData) (d e : PyData), vs = [.ref h, x, y] ∧ HouseAt H h ds rs ∧ Tr H x d ∧ Tr H y e ∧ Tabs Ps H ∧
  (numsD ds d = true → wishD (ds.map nameOf) e = true → ∀ H', GrS Ps H H' → Q (.bl (metD (lookE (atE ds d)) e)) H') ∧
  (numsD ds d = false → ∀ (l : Addr) (H' : Hp), GrS Ps H H' → H' l = some (.tup [.bl true, .bl false, .bl false]) → Q (.ref l) H') ∧
  (numsD ds d = true → wishD (ds.map nameOf) e = false → ∀ (l : Addr) (H' : Hp), GrS Ps H H' → H' l = some (.tup [.bl false, .bl true, .bl false]) → Q (.ref l) H')
section
variable {P : Program} {w : World} {K : PySem.W.Frag} {mg : Str → Option Value} {base : Heap} {Ps : List Addr}
abbrev nLTold : List Str := ["_law_house_here", "_law_numbers_here", "_law_thing", "_law_kept", "e"]
theorem scLTold : FnScope nLTold ["_law_house_here", "_law_numbers_here", "_law_thing"] (defScope sLTold) := ⟨rfl, rfl, rfl, by decide +kernel, rfl, by decide +kernel, by decide +kernel⟩
theorem ok_ltold {f g CN CW CS CWs CD : Addr} {fd gd : FuncData} (F : Fun K "_law_told" "_law_told" sLTold f fd) (T : ClsTxt3 K mg CN CW CS CWs CD) (mi : mg "isinstance" = none)
    (G : FnOk P w K mg base (L2.CX P w) 7 g gd ["house", "numbers", "wish"] (spMeets Ps CN CW)) (bG : Binds K gd ["house", "numbers", "wish"] []) (kG : PySem.W.keepIn K (.ref g) = true) (mG : mg "meets" = some (.ref g)) :
    FnOk P w K mg base CX0 8 f fd ["_law_house_here", "_law_numbers_here", "_law_thing"] (spLTold Ps) := by
  refine F.ok scLTold (fun vs H Q E h => ?_) (fun cdv A outer s H vs Q E hr h => ?_)
  · obtain ⟨h, x, y, ds, rs, d, e, rfl, _⟩ := h
    rfl
  obtain ⟨h, x, y, ds, rs, d, e, rfl, ha, td, te, tb, kt, kn, kw⟩ := h
  refine ⟨_, pss_cons (ps_set (i := 3) scLTold.nd rfl (.inl rfl) pe_non) <|
    pss_cons (ps_try_keep (i := 4) (c := .ref CD) (tb := fun W => tRet (tCallS (spMeets Ps CN CW) (WE W) (tCons (tVar 0) (tCons (tVar 1) (tCons (tVar 2) tNil))))) (ts := fun _ _ _ => tAsg (tVar 4) (gName 3)) (Wout := fun _ _ _ _ => False) rfl rfl rfl scLTold.nd rfl rfl ⟨rfl, by decide, Or.inl T.mD⟩ takes0
      (fun W pn xe tk _ => pss_one (ps_ret (by exact (pe_callS G hr rfl mG kG bG (fun σ => passAt tk σ) (by exact (pa_cons (pv 0) (pa_cons (pv 1) (pa_cons (pv 2) pa_nil))))))))
      (fun a oe cls d pn hz hf => pss_one (ps_set (i := 3) scLTold.nd rfl (Or.inl rfl) (by exact (pv 4))))) <|
    pss_one (ps_ret (pe_tup (pa_cons (pe_callB call_isK (by rfl) mi (by decide +kernel) (pa_cons (pv 3) (pa_cons (pe_glob (v := .ref CN) (by rfl) T.mN rfl) pa_nil))) (pa_cons (pe_callB call_isK (by rfl) mi (by decide +kernel) (pa_cons (pv 3) (pa_cons (pe_glob (v := .ref CW) (by rfl) T.mW rfl) pa_nil)))
      (pa_cons (pe_callB call_isKT (by rfl) mi (by decide +kernel) (pa_cons (pv 3) (pa_cons (pe_tup (pa_cons (pe_glob (v := .ref CS) (by rfl) T.mS rfl) (pa_cons (pe_glob (v := .ref CWs) (by rfl) T.mWs rfl) pa_nil))) pa_nil))) pa_nil))))), ?_⟩
  refine ⟨_, rfl, _, rfl, _, rfl, h, x, y, ds, rs, d, e, rfl, ha, td, te, tb, fun H1 g1 => ⟨fun c => ?_, fun c1 c2 => ?_, fun c1 c2 => kt c1 c2 H1 g1⟩⟩
  · refine ⟨true, T.te1, fun _ a na => ?_, fun q => Bool.noConfusion q⟩
    refine ⟨_, rfl, fun na' => ?_⟩
    have s2 := sameNew na (keptX a (.ref CN) none)
    have ek := upd_same (H := H1) (a := a) (o := keptX a (.ref CN) none)
    refine ⟨_, rfl, a, CN, _, .ref CN, true, rfl, ek, T.ex1, .own _, T.n1, ?_⟩
    refine ⟨_, rfl, a, CN, _, .ref CW, false, rfl, ek, T.ex1, .own _, T.w1, ?_⟩
    refine ⟨_, rfl, by show 2 ≤ sizeLine; decide, fun t nt => ?_⟩
    have s3 := sameNew nt (.tup [.ref CS, .ref CWs])
    refine ⟨a, CN, t, _, [.ref CS, .ref CWs], false, rfl, s3 _ _ ek, T.ex1, upd_same, .cons (.own _) (.cons (.own _) .nil), T.s1, by show 3 ≤ sizeLine; decide, fun l nl => ?_⟩
    have s4 := sameNew nl (.tup [.bl true, .bl false, .bl false])
    exact kn c l _ (g1.trans (GrS.same g1.1 (s2.trans (s3.trans s4)))) upd_same
  · refine ⟨true, T.te2, fun _ a na => ?_, fun q => Bool.noConfusion q⟩
    refine ⟨_, rfl, fun na' => ?_⟩
    have s2 := sameNew na (keptX a (.ref CW) none)
    have ek := upd_same (H := H1) (a := a) (o := keptX a (.ref CW) none)
    refine ⟨_, rfl, a, CW, _, .ref CN, false, rfl, ek, T.ex2, .own _, T.n2, ?_⟩
    refine ⟨_, rfl, a, CW, _, .ref CW, true, rfl, ek, T.ex2, .own _, T.w2, ?_⟩
    refine ⟨_, rfl, by show 2 ≤ sizeLine; decide, fun t nt => ?_⟩
    have s3 := sameNew nt (.tup [.ref CS, .ref CWs])
    refine ⟨a, CW, t, _, [.ref CS, .ref CWs], false, rfl, s3 _ _ ek, T.ex2, upd_same, .cons (.own _) (.cons (.own _) .nil), T.s2, by show 3 ≤ sizeLine; decide, fun l nl => ?_⟩
    have s4 := sameNew nl (.tup [.bl false, .bl true, .bl false])
    exact kw c1 c2 l _ (g1.trans (GrS.same g1.1 (s2.trans (s3.trans s4)))) upd_same
end
end Pk
end
section
set_option maxHeartbeats 2000000
/-! The law's own: a wish drawn. -/
namespace Pk
open PySem L2
def spLWish : Sp := fun vs H Q _ => ∃ (p c h : Addr) (X : List Addr) (n most : Int) (ds rs : List PyData), vs = [.ref p, .ref h, .int most] ∧ PenC H p c n ∧ Al p X H ∧ n ≤ 100000000 ∧ Tr (zn X H) (.ref h) (.tuple [.tuple ds, .tuple rs]) ∧ HouseG ds rs ∧ 0 ≤ most ∧ most ≤ 20 ∧
  ∀ (t : Addr) (es : List PyData) (H' : Hp), PenC H' p c (n + 1000) → Sb p H H' → Tr (zn X H') (.ref t) (.tuple es) → es.length ≤ 20 → (∀ e ∈ es, SayG (ds.map nameOf) e) → Q (.ref t) H'
/-- a dial with its name -/
theorem dial_tupN {H : Hp} {x : V} {d : PyData} (t : Tr H x d) (h : DialG d) : ∃ (b : Addr) (way : Str) (lo hi up dn : Int), x = .ref b ∧ H b = some (.tup [.str (nameOf d), .int lo, .int hi, .str way, .int up, .int dn]) ∧ -farS ≤ lo ∧ lo ≤ hi ∧ hi ≤ farS := by
  obtain ⟨nm, way, lo, hi, up, dn, rfl, h1, _, h2, b1, b2, b3, _⟩ := h
  cases t with
  | @tup b xs _ hb al =>
    match xs, al with
    | [_, _, _, _, _, _], .cons (.str _) (.cons (.int _) (.cons (.int _) (.cons (.str _) (.cons (.int _) (.cons (.int _) .nil))))) => exact ⟨b, way, lo, hi, up, dn, rfl, hb, b1, b2, b3⟩
theorem TrAll.mem {H : Hp} : ∀ {vs : List V} {ds : List PyData} {v : V}, TrAll H vs ds → v ∈ vs → ∃ d ∈ ds, Tr H v d
  | _, _, _, .nil, h => absurd h (by simp)
  | _, _, _, .cons a t, h => by
    rcases List.mem_cons.mp h with rfl | h
    · exact ⟨_, List.mem_cons_self, a⟩
    · obtain ⟨d, hd, q⟩ := TrAll.mem t h
      exact ⟨d, List.mem_cons_of_mem _ hd, q⟩
section
variable {P : Program} {w : World} {K : PySem.W.Frag} {mg : Str → Option Value} {base : Heap}
abbrev nLWish : List Str := ["_law_pen_here", "_law_house_here", "_law_most", "_law_names_here", "_law_lot", "_law_k", "_law_dial_here"]
theorem scLWish : FnScope nLWish ["_law_pen_here", "_law_house_here", "_law_most"] (defScope sLWish) := ⟨rfl, rfl, rfl, by decide +kernel, rfl, by decide +kernel, by decide +kernel⟩
theorem ok_lwish {f gD gK gF gS : Addr} {fd dD dK dF dS : FuncData} (F : Fun K "_law_wish" "_law_wish" sLWish f fd) (GD : FnOk P w K mg base CX0 1 gD dD ["_law_pen_here", "_law_many"] spDrawC) (bD : Binds K dD ["_law_pen_here", "_law_many"] []) (kD : PySem.W.keepIn K (.ref gD) = true) (mD : mg "_law_draw" = some (.ref gD))
    (GK : FnOk P w K mg base CX0 2 gK dK ["_law_pen_here", "_law_some"] spPickT) (bK : Binds K dK ["_law_pen_here", "_law_some"] []) (kK : PySem.W.keepIn K (.ref gK) = true) (mK : mg "_law_pick" = some (.ref gK))
    (GF : FnOk P w K mg base CX0 3 gF dF ["_law_pen_here", "_law_low", "_law_high"] spFrom) (bF : Binds K dF ["_law_pen_here", "_law_low", "_law_high"] []) (kF : PySem.W.keepIn K (.ref gF) = true) (mF : mg "_law_from" = some (.ref gF))
    (GS : FnOk P w K mg base CX0 4 gS dS ["_law_pen_here", "_law_names_here", "_law_numbers_here"] spSayL) (bS : Binds K dS ["_law_pen_here", "_law_names_here", "_law_numbers_here"] []) (kS' : PySem.W.keepIn K (.ref gS) = true) (mS : mg "_law_saying" = some (.ref gS)) (B : Blt mg) :
    FnOk P w K mg base CX0 5 f fd ["_law_pen_here", "_law_house_here", "_law_most"] spLWish := by
  refine F.ok scLWish (fun vs H Q E h => ?_) (fun cdv A outer s H vs Q E hr h => ?_)
  · obtain ⟨p, c, h, X, n, most, ds, rs, rfl, _⟩ := h
    rfl
  obtain ⟨p, c, h, X, n, most, ds, rs, rfl, pen, al, hn, th, hg, h0, h20, k⟩ := h
  have hr1 : Room 1 _ := hr.mono (by decide)
  have hr2 : Room 2 _ := hr.mono (by decide)
  have hr3 : Room 3 _ := hr.mono (by decide)
  refine ⟨_, pss_cons (ps_par (i := 3) (j := 4) (by rfl) scLWish.nd rfl rfl (by decide) rfl rfl (pa_cons (pe_lc (own := [("_law_dial_here", 6)]) (g := gName 6) (by rfl) scLWish.nd (pi_tup (pe_ix ix_tup (pv 1) pe_int (fun _ _ => rfl))) (blkOk_by (N := nLWish) (sc := defScope sLWish) (by decide +kernel)) (fun _ _ _ _ _ => pg_name (i := 6) scLWish.nd rfl (Or.inl rfl)) (fun _ _ _ _ _ => pts_nil) (fun _ _ _ _ _ => pe_ix (r := rIxT K) ix_tup (pv 6) pe_int (fun _ _ => rfl))) (pa_cons (pe_lst pa_nil) pa_nil)) (by rfl)) <|
    pss_cons (ps_for PassesOwn.never rfl (pi_range1 (by rfl) B.range (pa_cons (pe_call GD hr1 rfl mD kD bD .nil pass0 (pa_cons (pv 0) (pa_cons (pe_op op_add (pv 2) pe_int) pa_nil))) pa_nil)) (pg_name (i := 5) scLWish.nd rfl (Or.inl rfl))
      (pss_cons (ps_set (i := 6) scLWish.nd rfl (.inl rfl) (pe_call GK hr2 rfl mK kK bK .nil pass0 (pa_cons (pv 0) (pa_cons (pe_ix ix_tup (pv 1) pe_int (fun _ _ => rfl)) pa_nil)))) <|
       pss_one (ps_expr (pe_bm PySem.F.plainAttrs_list PySem.F.slot_list_append PySem.F.type_list_append mt_append (pv 4) (pa_cons (pe_call GS hr rfl mS kS' bS .nil pass0 (pa_cons (pv 0) (pa_cons (pe_lst (pa_cons (pe_ix ix_tup (pv 6) pe_int (fun _ _ => rfl)) pa_nil)) (pa_cons (pe_lst (pa_cons (pe_ix ix_tup (pv 6) pe_int (fun _ _ => rfl)) (pa_cons (pe_ix ix_tup (pv 6) pe_int (fun _ _ => rfl)) (pa_cons (pe_call GF hr3 rfl mF kF bF .nil pass0 (pa_cons (pv 0) (pa_cons (pe_ix ix_tup (pv 6) pe_int (fun _ _ => rfl)) (pa_cons (pe_ix ix_tup (pv 6) pe_int (fun _ _ => rfl)) pa_nil)))) pa_nil)))) pa_nil)))) pa_nil))))) <|
    pss_one (ps_ret (pe_callTy call_tuple_of (by rfl) B.tuple (by decide +kernel) (pa_cons (pv 4) pa_nil))), ?_⟩
  cases th with
  | @tup _ hs _ hh' al' =>
  match hs, al' with
  | [_, _], .cons (@Tr.tup _ a xs _ hA' alA) (.cons tB .nil) =>
  have lA := alA.length
  have d1 := hg.d1
  have d2 := hg.d2
  obtain ⟨nh, hh⟩ := zn_some hh'
  obtain ⟨na, hA⟩ := zn_some hA'
  refine ⟨_, rfl, h, _, _, _, rfl, rfl, SqT.of hh, (rfl : atI [V.ref a, _] 0 = some (.ref a)), a, rfl, ⟨_, SqT.of hA⟩, fun D hD => lc_tup (K := K) (a := a) (xs := xs) (fun i H1 => ∃ ys : List V, H1 D = some (.lst ys) ∧ ys.length ≤ i ∧ Same H H1)
    ⟨[], upd_same, Nat.le_refl _, sameNew hD _⟩ (fun i H1 _ ⟨_, _, _, s1⟩ => SqT.of (s1 _ _ hA)) ?_ ?_⟩
  · rintro i y H1 hy ⟨ys, e1, l1, s1⟩
    obtain ⟨dd, hd, tr⟩ := alA.get hy
    obtain ⟨q, qs, rfl, hq, i0⟩ := dial_tup0 ((tr.same zn_le).same s1) (hg.dials dd (List.mem_of_getElem? hd))
    have il : i < xs.length := (List.getElem?_eq_some_iff.mp hy).1
    refine ⟨rfl, _, rfl, q, _, _, _, rfl, rfl, SqT.of hq, i0, ys, e1, small1000 (by omega), _, upd_same, by simp; omega, fun c o e => ?_⟩
    rw [upd_ne (ne_of_none e hD)]
    exact s1 _ _ e
  rintro H1 ⟨ys, e1, l1, s1⟩
  refine ⟨by show 0 ≤ sizeLine; decide, fun L nL => ?_⟩
  have s2 := s1.trans (sameNew nL (.lst []))
  have pen2 := pen.same s2
  have hL2 : L2.upd H1 L (.lst []) L = some (.lst []) := upd_same
  have Lp : L ≠ p := (pen.same s1).newp nL
  have Lc : L ≠ c := (pen.same s1).newc nL
  have al1 := al.same s1
  have al2 : Al p (L :: X) (L2.upd H1 L (.lst [])) := al1.new nL
  have j2 : Same (zn X H) (zn (L :: X) (L2.upd H1 L (.lst []))) := (zn_mono s1).trans ((zn_fresh nL).trans (zn_upd List.mem_cons_self))
  generalize L2.upd H1 L (.lst []) = H2 at s2 pen2 hL2 al2 j2 ⊢
  refine ⟨_, _, rfl, _, rfl, _, rfl, _, _, rfl, rfl, p, c, n, _, rfl, pen2, by omega, by omega, by omega, fun v H3 v0 v1 pen3 sb3 => ?_⟩
  refine ⟨_, rfl, by omega, by omega, ?_⟩
  have j3 := j2.trans (zn_sb sb3 al2.mem)
  have hL3 := sb3.to Lp hL2
  have al3 := al2.sb sb3 pen3
  refine for_range (n := v.toNat) (fun i σ H4 => ∃ (v5 v6 : Option V) (zs : List V) (es : List PyData), σ = [some (.ref p), some (.ref h), some (.int most), some (.ref D), some (.ref L), v5, v6] ∧ H4 L = some (.lst zs) ∧ TrAll (zn (L :: X) H4) zs es ∧ es.length = i ∧ (∀ e ∈ es, SayG (ds.map nameOf) e) ∧ PenC H4 p c (n + 1 + 29 * i) ∧ Same (zn (L :: X) H3) (zn (L :: X) H4) ∧ (∀ b o, b ≠ p → b ≠ L → H3 b = some o → H4 b = some o))
    ⟨none, none, [], [], rfl, hL3, .nil, rfl, fun _ h => absurd h (by simp), pen3.mono (by omega), Same.refl _, fun _ _ _ _ e => e⟩ ?_ ?_
  · rintro i σ H4 hi ⟨v5, v6, zs, es, rfl, e4, t4, l4, g4, pen4, j4, fr4⟩
    have lz := t4.length
    have al4 : Al p (L :: X) H4 := ⟨al3.mem, fun b hb => by
      by_cases bp : b = p
      · rw [bp]
        obtain ⟨kv, z⟩ := pen4.atp
        exact ⟨_, z⟩
      · by_cases bL : b = L
        · rw [bL]
          exact ⟨_, e4⟩
        · obtain ⟨o, ho⟩ := al3.alc b hb
          exact ⟨o, fr4 b o bp bL ho⟩⟩
    have j24 := j3.trans j4
    have hh4 := zn_le _ _ (j24 _ _ hh')
    have hA4 := zn_le _ _ (j24 _ _ hA')
    refine ⟨_, rfl, _, rfl, h, _, _, _, rfl, rfl, SqT.of hh4, (rfl : atI [V.ref a, _] 0 = some (.ref a)), p, c, a, _, xs, rfl, pen4, by omega, hA4, by omega, by omega, fun x H5 hx pen5 sb5 => ?_⟩
    have j5 := j24.trans (zn_sb sb5 al4.mem)
    obtain ⟨dd, hdd, trd⟩ := (alA.same j5).mem hx
    have gd := hg.dials dd hdd
    obtain ⟨b, way, lo, hi', up, dn, rfl, hbz, q1, q2, q3⟩ := dial_tupN trd gd
    have hb5 := zn_le _ _ hbz
    have al5 := al4.sb sb5 pen5
    refine ⟨_, rfl, .inl ⟨rfl, _, SqL.of (sb5.to Lp e4)⟩, _, rfl, _, rfl, b, _, _, _, rfl, rfl, SqT.of hb5, (rfl : atI [V.str (nameOf dd), V.int lo, V.int hi', V.str way, V.int up, V.int dn] 0 = some (.str (nameOf dd))), by show 1 ≤ sizeLine; decide, fun N1 nN1 => ?_⟩
    have s6 := sameNew nN1 (.lst [.str (nameOf dd)])
    have pen6 := pen5.same s6
    have hb6 := s6 _ _ hb5
    refine ⟨_, rfl, b, _, _, _, rfl, rfl, SqT.of hb6, (rfl : atI [V.str (nameOf dd), V.int lo, V.int hi', V.str way, V.int up, V.int dn] 1 = some (.int lo)), _, rfl, b, _, _, _, rfl, rfl, SqT.of hb6, (rfl : atI [V.str (nameOf dd), V.int lo, V.int hi', V.str way, V.int up, V.int dn] 2 = some (.int hi')), ?_⟩
    refine ⟨_, rfl, _, rfl, b, _, _, _, rfl, rfl, SqT.of hb6, (rfl : atI [V.str (nameOf dd), V.int lo, V.int hi', V.str way, V.int up, V.int dn] 1 = some (.int lo)), _, rfl, b, _, _, _, rfl, rfl, SqT.of hb6, (rfl : atI [V.str (nameOf dd), V.int lo, V.int hi', V.str way, V.int up, V.int dn] 2 = some (.int hi')), p, c, _, lo, hi', rfl, pen6, by omega, q2, fun fv H7 f1 f2 pen7 sb7 => ?_⟩
    have N1p : N1 ≠ p := pen5.newp nN1
    have hN7 := sb7.to N1p (upd_same (H := H5) (a := N1) (o := HO.lst [.str (nameOf dd)]))
    refine ⟨by show 3 ≤ sizeLine; decide, fun N2 nN2 => ?_⟩
    have s8 := sameNew nN2 (.lst [.int lo, .int hi', .int fv])
    have pen8 := pen7.same s8
    refine ⟨p, c, N1, N2, _, [nameOf dd], [lo, hi', fv], rfl, pen8, by omega, s8 _ _ hN7, by simp, by simp, upd_same, by simp, by simp, fun i hi => by
      simp only [List.mem_cons, List.not_mem_nil, or_false] at hi
      rcases hi with rfl | rfl | rfl <;> omega, fun t z so iv H9 pen9 sb9 nt ht hz hso iv1 iv2 => ?_⟩
    have sb59 : Sb p H4 H9 := sb5.trans ((Sb.same s6).trans (sb7.trans ((Sb.same s8).trans sb9)))
    have e9 := sb59.to Lp e4
    have zn' : z = nameOf dd := List.mem_singleton.mp hz
    have sg : SayG (ds.map nameOf) (.tuple [.str z, .str so, .int iv]) := say_g (by rw [zn']; exact List.mem_map.mpr ⟨dd, hdd, rfl⟩) (by rw [zn']; exact (dial_name_of gd).1) hso iv1 iv2
    have j49 := zn_sb sb59 al4.mem
    have al8 : Al p (L :: X) _ := ((al5.same s6).sb sb7 pen7).same s8
    have ntX := al8.out nt
    have hL9 : t ≠ L := fun z => ntX (by rw [z]; exact List.mem_cons_self)
    refine ⟨L, zs, _, rfl, rfl, e9, small1000 (by omega), ?_⟩
    have jU : Same (zn (L :: X) H9) (zn (L :: X) (L2.upd H9 L (.lst (zs ++ [.ref t])))) := zn_upd List.mem_cons_self
    have tt : Tr (zn (L :: X) H9) (.ref t) (.tuple [.str z, .str so, .int iv]) := .tup (xs := [.str z, .str so, .int iv]) (by rw [zn_out ntX]; exact ht) (.cons (.str _) (.cons (.str _) (.cons (.int _) .nil)))
    refine ⟨_, _, zs ++ [.ref t], es ++ [.tuple [.str z, .str so, .int iv]], rfl, upd_same, ((t4.same j49).snoc tt).same jU, by simp; omega, fun e he => ?_, (pen9.upd Lp Lc _).mono (by omega), j4.trans (j49.trans jU), fun b o h1 h2 e => by rw [upd_ne h2]; exact sb59.to h1 (fr4 b o h1 h2 e)⟩
    rcases List.mem_append.mp he with he | he
    · exact g4 e he
    · rw [List.mem_singleton.mp he]
      exact sg
  · rintro σ H4 ⟨v5, v6, zs, es, rfl, e4, t4, l4, g4, pen4, j4, fr4⟩
    refine ⟨_, rfl, L, _, rfl, .inl ⟨SqL.of e4, fun t nt => ?_⟩⟩
    have st := sameNew nt (.tup zs)
    have sbF : Sb p H (L2.upd H4 t (.tup zs)) := .of fun b o hb e => by
      have bL : b ≠ L := ne_of_none (s1 _ _ e) nL
      exact st _ _ (fr4 b o hb bL (sb3.to hb (s2 _ _ e)))
    have ntX : t ∉ X := fun z => by
      obtain ⟨o, ho⟩ := al.alc t z
      by_cases tp : t = p
      · rw [tp] at nt
        obtain ⟨kv, zz⟩ := pen4.atp
        rw [zz] at nt
        cases nt
      · have bL : t ≠ L := ne_of_none (s1 _ _ ho) nL
        rw [fr4 t o tp bL (sb3.to tp (s2 _ _ ho))] at nt
        cases nt
    refine k t es _ ((pen4.same st).mono (by omega)) sbF ?_ (by omega) g4
    exact .tup (xs := zs) (by rw [zn_out ntX]; exact upd_same) ((t4.same zn_drop).same (zn_mono st))
end
end Pk
end
section
set_option maxHeartbeats 2000000
/-! The law's own: numbers, and numbers near a wish. -/
namespace Pk
open PySem L2
def inAll (ds : List PyData) (is : List Int) : Bool := (ds.zip (is.map PyData.int)).all fun p => numD p.1 p.2
theorem in_snoc {ds : List PyData} {is : List Int} {i : Nat} {d : PyData} {v : Int} (h : inAll (ds.take i) is = true) (hl : is.length = i) (hd : ds[i]? = some d) (hv : numD d (.int v) = true) : inAll (ds.take (i + 1)) (is ++ [v]) = true := by
  have il : i < ds.length := (List.getElem?_eq_some_iff.mp hd).1
  unfold inAll at h ⊢
  rw [take_more hd, List.map_append, List.zip_append (by rw [List.length_take, List.length_map]; omega), List.all_append, h]
  simp [hv]
theorem nums_of {ds : List PyData} {is : List Int} (h : inAll ds is = true) (hl : is.length = ds.length) : numsD ds (.tuple (is.map PyData.int)) = true := by
  show (decide ((is.map PyData.int).length = ds.length) && _) = true
  rw [decide_eq_true (by rw [List.length_map]; exact hl)]
  exact h
theorem dial_in {H : Hp} {x : V} {d : PyData} (t : Tr H x d) (h : DialG d) : ∃ (b : Addr) (way : Str) (lo hi up dn : Int), x = .ref b ∧ H b = some (.tup [.str (nameOf d), .int lo, .int hi, .str way, .int up, .int dn]) ∧ -farS ≤ lo ∧ lo ≤ hi ∧ hi ≤ farS ∧ ∀ v, lo ≤ v → v ≤ hi → numD d (.int v) = true := by
  obtain ⟨nm, way, lo, hi, up, dn, rfl, h1, _, h2, b1, b2, b3, _⟩ := h
  cases t with
  | @tup b xs _ hb al =>
    match xs, al with
    | [_, _, _, _, _, _], .cons (.str _) (.cons (.int _) (.cons (.int _) (.cons (.str _) (.cons (.int _) (.cons (.int _) .nil))))) => exact ⟨b, way, lo, hi, up, dn, rfl, hb, b1, b2, b3, fun v v1 v2 => by
      show wholeD lo hi (.int v) = true
      rw [wholeD_int, decide_eq_true v1, decide_eq_true v2]
      rfl⟩
def spLNumsS : Sp := fun vs H Q _ => ∃ (p c h : Addr) (X : List Addr) (n : Int) (ds rs : List PyData), vs = [.ref p, .ref h] ∧ PenC H p c n ∧ Al p X H ∧ n ≤ 100000000 ∧ Tr (zn X H) (.ref h) (.tuple [.tuple ds, .tuple rs]) ∧ HouseG ds rs ∧
  ∀ (t : Addr) (is : List Int) (H' : Hp), PenC H' p c (n + 100) → Sb p H H' → H' t = some (.tup (is.map V.int)) → t ∉ X → numsD ds (.tuple (is.map PyData.int)) = true → Q (.ref t) H'
def spLClose : Sp := fun vs H Q _ => ∃ (p c h y : Addr) (X : List Addr) (n : Int) (ds rs es : List PyData), vs = [.ref p, .ref h, .ref y] ∧ PenC H p c n ∧ Al p X H ∧ n ≤ 100000000 ∧ Tr (zn X H) (.ref h) (.tuple [.tuple ds, .tuple rs]) ∧ HouseG ds rs ∧ Tr (zn X H) (.ref y) (.tuple es) ∧ es.length ≤ 20 ∧ (∀ e ∈ es, SayG (ds.map nameOf) e) ∧
  ∀ (t : Addr) (is : List Int) (H' : Hp), PenC H' p c (n + 2000) → Sb p H H' → H' t = some (.tup (is.map V.int)) → t ∉ X → numsD ds (.tuple (is.map PyData.int)) = true → Q (.ref t) H'
section
variable {P : Program} {w : World} {K : PySem.W.Frag} {mg : Str → Option Value} {base : Heap}
theorem ok_lnumsS {f g : Addr} {fd gd : FuncData} (F : Fun K "_law_numbers" "_law_numbers" sLNums f fd) (G : FnOk P w K mg base CX0 3 g gd ["_law_pen_here", "_law_low", "_law_high"] spFrom) (bG : Binds K gd ["_law_pen_here", "_law_low", "_law_high"] []) (kG : PySem.W.keepIn K (.ref g) = true) (mG : mg "_law_from" = some (.ref g)) (mt : mg "tuple" = none) :
    FnOk P w K mg base CX0 4 f fd ["_law_pen_here", "_law_house_here"] spLNumsS := by
  refine F.ok scLNums (fun vs H Q E h => ?_) (fun cdv A outer s H vs Q E hr h => ?_)
  · obtain ⟨p, c, h, X, n, ds, rs, rfl, _⟩ := h
    rfl
  obtain ⟨p, c, h, X, n, ds, rs, rfl, pen, al, hn, th, hg, k⟩ := h
  refine ⟨_, pss_one (ps_ret (pe_callTy call_tuple_of (by rfl) mt (by decide +kernel) (pa_cons (pe_lc (own := [("_law_dial_here", 2)]) (g := gName 2) (by rfl) scLNums.nd (pi_tup (pe_ix ix_tup (pv 1) pe_int (fun _ _ => rfl))) (blkOk_by (N := nLNums) (sc := defScope sLNums) (by decide +kernel)) (fun _ _ _ _ _ => pg_name (i := 2) scLNums.nd rfl (Or.inl rfl)) (fun _ _ _ _ _ => pts_nil) (fun _ _ _ _ _ => pe_call G hr rfl mG kG bG .nil pass0 (pa_cons (pv 0) (pa_cons (pe_ix (r := rIxT K) ix_tup (pv 2) pe_int (fun _ _ => rfl)) (pa_cons (pe_ix (r := rIxT K) ix_tup (pv 2) pe_int (fun _ _ => rfl)) pa_nil))))) pa_nil))), ?_⟩
  cases th with
  | @tup _ hs _ hh' al' =>
  match hs, al' with
  | [_, _], .cons (@Tr.tup _ a xs _ hA' alA) (.cons tB .nil) =>
  have lA := alA.length
  have d2 := hg.d2
  obtain ⟨nh, hh⟩ := zn_some hh'
  obtain ⟨na, hA⟩ := zn_some hA'
  have ap : a ≠ p := pen.tupp hA
  refine ⟨_, rfl, h, _, _, _, rfl, rfl, SqT.of hh, (rfl : atI [V.ref a, _] 0 = some (.ref a)), a, rfl, ⟨_, SqT.of hA⟩, fun D hD => lc_tup (K := K) (a := a) (xs := xs) (fun i H1 => ∃ is : List Int, H1 D = some (.lst (is.map V.int)) ∧ is.length = i ∧ inAll (ds.take i) is = true ∧ PenC H1 p c (n + 8 * i) ∧ Sb p H H1)
    ⟨[], upd_same, rfl, rfl, (pen.same (sameNew hD _)).mono (by omega), Sb.same (sameNew hD _)⟩ (fun i H1 _ ⟨_, _, _, _, _, s1⟩ => SqT.of (s1.to ap hA)) ?_ ?_⟩
  · rintro i y H1 hy ⟨is, e1, e2, e3, pen1, sb1⟩
    have Dp := pen.newp hD
    have Dc := pen.newc hD
    obtain ⟨d, hd, tr⟩ := alA.get hy
    have hil : i < xs.length := (List.getElem?_eq_some_iff.mp hy).1
    obtain ⟨b, way, lo, hi, up, dn, rfl, hb, q1, q2, q3, q4⟩ := dial_in (tr.same (zn_sb sb1 al.mem)) (hg.dials d (List.mem_of_getElem? hd))
    have hb := zn_le _ _ hb
    refine ⟨rfl, _, rfl, _, rfl, b, _, _, _, rfl, rfl, SqT.of hb, (rfl : atI [V.str (nameOf d), V.int lo, V.int hi, V.str way, V.int up, V.int dn] 1 = some (.int lo)), _, rfl, b, _, _, _, rfl, rfl, SqT.of hb, (rfl : atI [V.str (nameOf d), V.int lo, V.int hi, V.str way, V.int up, V.int dn] 2 = some (.int hi)), p, c, _, lo, hi, rfl, pen1, by omega, q2, fun v H2 v1 v2 pen2 sb2 => ?_⟩
    exact ⟨_, sb2.to Dp e1, small1000 (by rw [List.length_map]; omega), is ++ [v], by rw [upd_same, List.map_append]; rfl, by simp [e2], in_snoc e3 e2 hd (q4 v v1 v2), (pen2.upd Dp Dc _).mono (by omega), (sb1.trans sb2).new hD Dp _⟩
  · rintro H1 ⟨is, e1, e2, e3, pen1, sb1⟩
    refine ⟨D, _, rfl, .inl ⟨SqL.of e1, fun t nt => ?_⟩⟩
    have st := sameNew nt (.tup (is.map V.int))
    rw [List.take_of_length_le (by omega)] at e3
    exact k t is _ ((pen1.same st).mono (by omega)) (sb1.trans (Sb.same st)) upd_same ((al.sb sb1 pen1).out nt) (nums_of e3 (by omega))
abbrev nLClose : List Str := ["_law_pen_here", "_law_house_here", "_law_wish_here", "_law_rows", "_law_name", "_law_low", "_law_high", "_law_way", "_law_up", "_law_down", "_law_number", "_law_saying_here"]
theorem scLClose : FnScope nLClose ["_law_pen_here", "_law_house_here", "_law_wish_here"] (defScope sLClose) := ⟨rfl, rfl, rfl, by decide +kernel, rfl, by decide +kernel, by decide +kernel⟩
theorem ok_lclose {f gD gK gF : Addr} {fd dD dK dF : FuncData} (F : Fun K "_law_close" "_law_close" sLClose f fd) (GD : FnOk P w K mg base CX0 1 gD dD ["_law_pen_here", "_law_many"] spDrawC) (bD : Binds K dD ["_law_pen_here", "_law_many"] []) (kD : PySem.W.keepIn K (.ref gD) = true) (mD : mg "_law_draw" = some (.ref gD))
    (GK : FnOk P w K mg base CX0 2 gK dK ["_law_pen_here", "_law_some"] spPick) (bK : Binds K dK ["_law_pen_here", "_law_some"] []) (kK : PySem.W.keepIn K (.ref gK) = true) (mK : mg "_law_pick" = some (.ref gK))
    (GF : FnOk P w K mg base CX0 3 gF dF ["_law_pen_here", "_law_low", "_law_high"] spFrom) (bF : Binds K dF ["_law_pen_here", "_law_low", "_law_high"] []) (kF : PySem.W.keepIn K (.ref gF) = true) (mF : mg "_law_from" = some (.ref gF)) (B : Blt mg) :
    FnOk P w K mg base CX0 4 f fd ["_law_pen_here", "_law_house_here", "_law_wish_here"] spLClose := by
  refine F.ok scLClose (fun vs H Q E h => ?_) (fun cdv A outer s H vs Q E hr h => ?_)
  · obtain ⟨p, c, h, y, X, n, ds, rs, es, rfl, _⟩ := h
    rfl
  obtain ⟨p, c, h, y, X, n, ds, rs, es, rfl, pen, al, hn, th, hg, ty, ly, hes, k⟩ := h
  have hr1 : Room 1 _ := hr.mono (by decide)
  have hr2 : Room 2 _ := hr.mono (by decide)
  refine ⟨_, pss_cons (ps_set (i := 3) scLClose.nd rfl (.inl rfl) (pe_lst pa_nil)) <|
    pss_cons (ps_for PassesOwn.never rfl (pi_tup (pe_ix ix_tup (pv 1) pe_int (fun _ _ => rfl))) (pg_tup (by rfl) (pgs_cons (pg_name (i := 4) scLClose.nd rfl (.inl rfl)) <| pgs_cons (pg_name (i := 5) scLClose.nd rfl (.inl rfl)) <| pgs_cons (pg_name (i := 6) scLClose.nd rfl (.inl rfl)) <| pgs_cons (pg_name (i := 7) scLClose.nd rfl (.inl rfl)) <| pgs_cons (pg_name (i := 8) scLClose.nd rfl (.inl rfl)) <| pgs_cons (pg_name (i := 9) scLClose.nd rfl (.inl rfl)) pgs_nil))
      (pss_cons (ps_set (i := 10) scLClose.nd rfl (.inl rfl) (pe_call GF hr rfl mF kF bF .nil pass0 (pa_cons (pv 0) (pa_cons (pv 5) (pa_cons (pv 6) pa_nil))))) <|
       pss_cons (ps_for PassesOwn.never rfl (pi_tup (pv 2)) (pg_name (i := 11) scLClose.nd rfl (Or.inl rfl))
        (pss_one (ps_if (PW.pt (pw_and (pt_cmpR op_eq (pe_ix ix_tup (pv 11) pe_int (fun _ _ => rfl)) (pv 4) (nomark _)) (pw_and1 (pt_cmpR op_eq (pe_call GD hr1 rfl mD kD bD .nil pass0 (pa_cons (pv 0) (pa_cons pe_int pa_nil))) pe_int (nomark _)))))
          (pss_one (ps_set (i := 10) scLClose.nd rfl (.inl rfl) (pe_callB (call_max2 rfl) (by rfl) B.max (by decide +kernel) (pa_cons (pv 5) (pa_cons (pe_callB (call_min2 rfl) (by rfl) B.min (by decide +kernel) (pa_cons (pv 6) (pa_cons (pe_op op_add (pe_ix ix_tup (pv 11) pe_int (fun _ _ => rfl)) (pe_call GK hr2 rfl mK kK bK .nil pass0 (pa_cons (pv 0) (pa_cons (pe_lst (pa_cons pe_int (pa_cons pe_int (pa_cons pe_int (pa_cons (pe_un un_neg pe_int) pa_nil))))) pa_nil)))) pa_nil))) pa_nil))))) pss_nil))) <|
       pss_one (ps_expr (pe_bm PySem.F.plainAttrs_list PySem.F.slot_list_append PySem.F.type_list_append mt_append (pv 3) (pa_cons (pv 10) pa_nil))))) <|
    pss_one (ps_ret (pe_callTy call_tuple_of (by rfl) B.tuple (by decide +kernel) (pa_cons (pv 3) pa_nil))), ?_⟩
  cases th with
  | @tup _ hs _ hh' al' =>
  match hs, al' with
  | [_, _], .cons (@Tr.tup _ a xs _ hA' alA) (.cons tB .nil) =>
  cases ty with
  | @tup _ ws _ hy' alW =>
  have lA := alA.length
  have lW := alW.length
  have d2 := hg.d2
  obtain ⟨nh, hh⟩ := zn_some hh'
  obtain ⟨na, hA⟩ := zn_some hA'
  obtain ⟨ny, hy⟩ := zn_some hy'
  have ap : a ≠ p := pen.tupp hA
  have yp : y ≠ p := pen.tupp hy
  have hp : h ≠ p := pen.tupp hh
  have ff : farS = 1000000000000000000 := rfl
  refine ⟨by show 0 ≤ sizeLine; decide, fun L nL => ?_⟩
  have s0 := sameNew nL (.lst [])
  have Lp := pen.newp nL
  have Lc := pen.newc nL
  refine ⟨_, rfl, h, _, _, _, rfl, rfl, SqT.of (s0 _ _ hh), (rfl : atI [V.ref a, _] 0 = some (.ref a)), a, rfl, ⟨_, SqT.of (s0 _ _ hA)⟩, for_tup (K := K) (a := a) (xs := xs) (fun i σ H1 => ∃ (v4 v5 v6 v7 v8 v9 v10 v11 : Option V) (is : List Int), σ = [some (.ref p), some (.ref h), some (.ref y), some (.ref L), v4, v5, v6, v7, v8, v9, v10, v11] ∧ H1 L = some (.lst (is.map V.int)) ∧ is.length = i ∧ inAll (ds.take i) is = true ∧ PenC H1 p c (n + 100 * i) ∧ Sb p H H1)
    ⟨_, _, _, _, _, _, _, _, [], rfl, upd_same, rfl, rfl, (pen.same s0).mono (by omega), Sb.same s0⟩ (fun i σ H1 _ ⟨_, _, _, _, _, _, _, _, _, _, _, _, _, _, s1⟩ => SqT.of (s1.to ap hA)) ?_ ?_⟩
  · rintro i x σ H1 hx ⟨v4, v5, v6, v7, v8, v9, v10, v11, is, rfl, e1, e2, e3, pen1, sb1⟩
    obtain ⟨d, hd, tr⟩ := alA.get hx
    have hil : i < xs.length := (List.getElem?_eq_some_iff.mp hx).1
    obtain ⟨b, way, lo, hi, up, dn, rfl, hbz, q1, q2, q3, q4⟩ := dial_in (tr.same (zn_sb sb1 al.mem)) (hg.dials d (List.mem_of_getElem? hd))
    have hb := zn_le _ _ hbz
    refine ⟨b, _, rfl, SqT.of hb, rfl, _, _, rfl, _, _, rfl, _, _, rfl, _, _, rfl, _, _, rfl, _, _, rfl, rfl, ?_⟩
    refine ⟨_, rfl, _, rfl, _, rfl, p, c, _, lo, hi, rfl, pen1, by omega, q2, fun v H2 w1 w2 pen2 sb2 => ?_⟩
    have sb12 := sb1.trans sb2
    refine ⟨_, rfl, y, rfl, ⟨_, SqT.of (sb12.to yp hy)⟩, for_tup (K := K) (a := y) (xs := ws) (fun j σ H3 => ∃ (u11 : Option V) (nv : Int), σ = [some (.ref p), some (.ref h), some (.ref y), some (.ref L), some (.str (nameOf d)), some (.int lo), some (.int hi), some (.str way), some (.int up), some (.int dn), some (.int nv), u11] ∧ lo ≤ nv ∧ nv ≤ hi ∧ PenC H3 p c (n + 100 * i + 8 + 3 * j) ∧ Sb p H2 H3)
      ⟨_, v, rfl, w1, w2, pen2.mono (by omega), Sb.refl _ _⟩ (fun j σ H3 _ ⟨_, _, _, _, _, _, s3⟩ => SqT.of ((sb12.trans s3).to yp hy)) ?_ ?_⟩
    · rintro j x σ H3 hx3 ⟨u11, nv, rfl, n1, n2, pen3, sb3⟩
      obtain ⟨e, he, tre⟩ := alW.get hx3
      have jl : j < ws.length := (List.getElem?_eq_some_iff.mp hx3).1
      obtain ⟨z, so, iv, rfl, hz, hso⟩ := say_is (hes e (List.mem_of_getElem? he)).say
      obtain ⟨q, u1, u2, u3, rfl, hqz, t1, t2, t3⟩ := tup3 (tre.same (zn_sb (sb12.trans sb3) al.mem))
      cases t1.strV
      cases t2.strV
      cases t3.intV
      have hq := zn_le _ _ hqz
      have qp : q ≠ p := pen3.tupp hq
      refine ⟨_, rfl, q, _, _, _, rfl, rfl, SqT.of hq, (rfl : atI [V.str z, V.str so, V.int iv] 0 = some (.str z)), _, rfl, rfl, _, rfl, ?_⟩
      refine ite2 (fun c1 => ?_) (fun c1 => ?_)
      · refine ⟨_, rfl, p, c, _, _, rfl, pen3, by omega, by decide, by decide, fun w4 H4 a1 a2 pen4 sb4 => ⟨rfl, _, rfl, ?_⟩⟩
        have sb34 := sb3.trans sb4
        refine ite2 (fun c2 => ?_) (fun c2 => ?_)
        · have hq4 := sb4.to qp hq
          refine ⟨_, rfl, _, rfl, _, rfl, q, _, _, _, rfl, rfl, SqT.of hq4, (rfl : atI [V.str z, V.str so, V.int iv] 2 = some (.int iv)), _, rfl, _, rfl, by show 4 ≤ sizeLine; decide, fun e4 he4 => .inl ⟨p, c, e4, _, _, rfl, pen4.same (sameNew he4 _), by omega, upd_same, by simp, by simp, fun x5 H5 hx5 pen5 sb5 => ?_⟩⟩
          obtain ⟨xv, rfl⟩ : ∃ xv : Int, x5 = .int xv := by
            simp only [List.mem_cons, List.not_mem_nil, or_false] at hx5
            rcases hx5 with rfl | rfl | rfl | rfl <;> exact ⟨_, rfl⟩
          refine ⟨_, _, rfl, rfl, _, _, rfl, _, _, rfl, ?_⟩
          refine ⟨_, _, rfl, ?_, ?_, pen5.mono (by omega), sb34.trans ((Sb.same (sameNew he4 _)).trans sb5)⟩
          · split <;> omega
          · split
            · split <;> omega
            · omega
        · exact ⟨_, nv, rfl, n1, n2, pen4.mono (by omega), sb34⟩
      · exact ⟨_, nv, rfl, n1, n2, pen3.mono (by omega), sb3⟩
    · rintro σ H3 ⟨u11, nv, rfl, n1, n2, pen3, sb3⟩
      have e4 := sb3.to Lp (sb2.to Lp e1)
      refine ⟨_, rfl, .inl ⟨rfl, _, SqL.of e4⟩, _, rfl, L, _, _, rfl, rfl, e4, small1000 (by rw [List.length_map]; omega), ?_⟩
      exact ⟨_, _, _, _, _, _, _, _, is ++ [nv], rfl, by rw [upd_same, List.map_append]; rfl, by simp [e2], in_snoc e3 e2 hd (q4 nv n1 n2), (pen3.upd Lp Lc _).mono (by omega), (sb12.trans sb3).new nL Lp _⟩
  · rintro σ H1 ⟨v4, v5, v6, v7, v8, v9, v10, v11, is, rfl, e1, e2, e3, pen1, sb1⟩
    refine ⟨_, rfl, L, _, rfl, .inl ⟨SqL.of e1, fun t nt => ?_⟩⟩
    have st := sameNew nt (.tup (is.map V.int))
    rw [List.take_of_length_le (by omega)] at e3
    exact k t is _ ((pen1.same st).mono (by omega)) (sb1.trans (Sb.same st)) upd_same ((al.sb sb1 pen1).out nt) (nums_of e3 (by omega))
end
end Pk
end
/-! The law. -/
namespace Pk
open PySem L2
def spLaw (K : PySem.W.Frag) (cs : List (Addr × Addr)) : Sp := fun vs H Q _ => ∃ (a : Addr) (ns : List Int), vs = [.ref a] ∧ SqL K H a (ns.map V.int) ∧ ns.length ≤ 63 ∧ (∀ p ∈ cs, GxR.TabG H p.2) ∧ ∀ H', Q (.bl true) H'
/-- all that the law calls -/
structure Defs (P : Program) (w : World) (K : PySem.W.Frag) (mg : Str → Option Value) (base : Heap) (Ps : List Addr) : Prop where
  pen : ∃ f d, FnOk P w K mg base CX0 1 f d ["_law_script"] (spPenL K) ∧ Binds K d ["_law_script"] [] ∧ PySem.W.keepIn K (.ref f) = true ∧ mg "_law_pen" = some (.ref f)
  draw : ∃ f d, FnOk P w K mg base CX0 1 f d ["_law_pen_here", "_law_many"] spDrawC ∧ Binds K d ["_law_pen_here", "_law_many"] [] ∧ PySem.W.keepIn K (.ref f) = true ∧ mg "_law_draw" = some (.ref f)
  pick : ∃ f d, FnOk P w K mg base CX0 2 f d ["_law_pen_here", "_law_some"] spPick ∧ Binds K d ["_law_pen_here", "_law_some"] [] ∧ PySem.W.keepIn K (.ref f) = true ∧ mg "_law_pick" = some (.ref f)
  house : ∃ f d, FnOk P w K mg base CX0 6 f d ["_law_pen_here", "_law_many", "_law_wide", "_law_rules"] spHouseL ∧ Binds K d ["_law_pen_here", "_law_many", "_law_wide", "_law_rules"] [] ∧ PySem.W.keepIn K (.ref f) = true ∧ mg "_law_house" = some (.ref f)
  wish : ∃ f d, FnOk P w K mg base CX0 5 f d ["_law_pen_here", "_law_house_here", "_law_most"] spLWish ∧ Binds K d ["_law_pen_here", "_law_house_here", "_law_most"] [] ∧ PySem.W.keepIn K (.ref f) = true ∧ mg "_law_wish" = some (.ref f)
  bent : ∃ f d, FnOk P w K mg base CX0 17 f d ["_law_pen_here", "_law_thing"] (spBent 14) ∧ Binds K d ["_law_pen_here", "_law_thing"] [] ∧ PySem.W.keepIn K (.ref f) = true ∧ mg "_law_bent" = some (.ref f)
  odd : ∃ f d, FnOk P w K mg base CX0 3 f d ["_law_pen_here"] spOddL ∧ Binds K d ["_law_pen_here"] [] ∧ PySem.W.keepIn K (.ref f) = true ∧ mg "_law_odd" = some (.ref f)
  lwish : ∃ f d, FnOk P w K mg base CX0 3 f d ["_law_house_here", "_law_thing"] spLIsWish ∧ Binds K d ["_law_house_here", "_law_thing"] [] ∧ PySem.W.keepIn K (.ref f) = true ∧ mg "_law_is_wish" = some (.ref f)
  iswish : ∃ f d, FnOk P w K mg base CX0 7 f d ["house", "thing"] (spIsWish Ps) ∧ Binds K d ["house", "thing"] [] ∧ PySem.W.keepIn K (.ref f) = true ∧ mg "is_wish" = some (.ref f)
  close : ∃ f d, FnOk P w K mg base CX0 4 f d ["_law_pen_here", "_law_house_here", "_law_wish_here"] spLClose ∧ Binds K d ["_law_pen_here", "_law_house_here", "_law_wish_here"] [] ∧ PySem.W.keepIn K (.ref f) = true ∧ mg "_law_close" = some (.ref f)
  nums : ∃ f d, FnOk P w K mg base CX0 4 f d ["_law_pen_here", "_law_house_here"] spLNumsS ∧ Binds K d ["_law_pen_here", "_law_house_here"] [] ∧ PySem.W.keepIn K (.ref f) = true ∧ mg "_law_numbers" = some (.ref f)
  named : ∃ f d, FnOk P w K mg base CX0 1 f d ["_law_house_here", "_law_numbers_here"] spLNamed ∧ Binds K d ["_law_house_here", "_law_numbers_here"] [] ∧ PySem.W.keepIn K (.ref f) = true ∧ mg "_law_named" = some (.ref f)
  said : ∃ f d, FnOk P w K mg base CX0 1 f d ["_law_saying_here", "_law_at"] spHolds ∧ Binds K d ["_law_saying_here", "_law_at"] [] ∧ PySem.W.keepIn K (.ref f) = true ∧ mg "_law_said" = some (.ref f)
  told : ∃ f d, FnOk P w K mg base CX0 8 f d ["_law_house_here", "_law_numbers_here", "_law_thing"] (spLTold Ps) ∧ Binds K d ["_law_house_here", "_law_numbers_here", "_law_thing"] [] ∧ PySem.W.keepIn K (.ref f) = true ∧ mg "_law_told" = some (.ref f)
abbrev nLaw : List Str := ["_law_script", "_law_pen_here", "_law_turn", "_law_house_here", "_law_numbers_here", "_law_wish_here", "_law_name", "_law_long", "_law_things", "_law_thing", "_law_due", "_law_kept", "_law_at", "_law_told_here", "_law_saying_here"]
theorem scLaw : FnScope nLaw ["_law_script"] (defScope sLaw) := ⟨rfl, rfl, rfl, by decide +kernel, rfl, by decide +kernel, by decide +kernel⟩
/-- what is told of numbers and a thing -/
def tolD (f : Str → Int) (ns : List Str) (d : PyData) : PyData := if wishD ns d = true then .bool (metD f d) else .tuple [.bool false, .bool true, .bool false]
theorem tol_ok (f : Str → Int) (ns : List Str) (d : PyData) : (tolD f ns d).showable = true ∧ (tolD f ns d).depth ≤ 60 ∧ (tolD f ns d).shown.length ≤ sizeLine := by
  unfold tolD
  split
  · refine ⟨rfl, by simp [PyData.depth], ?_⟩
    cases metD f d <;> decide +kernel
  · exact ⟨by decide +kernel, by decide +kernel, by decide +kernel⟩
/-- what is asked once what is due stands -/
def tTail (Ps : List Addr) : TS := fun D σ H => ∃ (w0 w1 w2 w5 w6 w7 w8 w10 w11 w12 : Option V) (h y : Addr) (x vt : V) (ds rs : List PyData) (is : List Int) (d : PyData),
  σ = [w0, w1, w2, some (.ref h), some (.ref y), w5, w6, w7, w8, some x, w10, w11, w12, some vt, none] ∧ HouseAt H h ds rs ∧ H y = some (.tup (is.map V.int)) ∧ numsD ds (.tuple (is.map PyData.int)) = true ∧ Tr H x d ∧ Tabs Ps H ∧ Tr H vt (tolD (lookE (atE ds (.tuple (is.map PyData.int)))) (ds.map nameOf) d) ∧
  ∀ H', GrS Ps H H' → D.nx [w0, w1, w2, some (.ref h), some (.ref y), w5, w6, w7, w8, some x, w10, w11, w12, some vt, none] H'
theorem GrS.zn {Ps : List Addr} {p : Addr} {H H' : Hp} (np : p ∉ Ps) (g : GrS Ps H H') : GrS Ps (zn [p] H) (zn [p] H') := ⟨fun P hP => by
  obtain ⟨ps, z1, z2⟩ := g.1 P hP
  exact ⟨ps, by rw [zn_out (fun z => np (by rw [← List.mem_singleton.mp z]; exact hP))]; exact z1, z2⟩, fun b o hb e => by
  obtain ⟨n1, e1⟩ := zn_some e
  rw [zn_out n1]
  exact g.2 b o hb e1⟩
theorem Tabs.zn {Ps : List Addr} {p : Addr} {H : Hp} (np : p ∉ Ps) (t : Tabs Ps H) : Tabs Ps (zn [p] H) := fun P hP => by
  obtain ⟨ps, z1, z2⟩ := t P hP
  exact ⟨ps, by rw [zn_out (fun z => np (by rw [← List.mem_singleton.mp z]; exact hP))]; exact z1, z2⟩
theorem at_last {xs : List V} (h : 1 ≤ xs.length) : ∃ v, atI xs (-1) = some v ∧ v ∈ xs := by
  have ne : xs ≠ [] := fun z => by rw [z] at h; simp at h
  refine ⟨xs.getLast ne, ?_, List.getLast_mem ne⟩
  have e := atI_last xs.dropLast (xs.getLast ne)
  rw [List.dropLast_concat_getLast] at e
  exact e
def It (e : PyData) : Prop := lv 0 e = true ∧ e.bulk ≤ 60 ∧ e.depth ≤ 1
theorem it_say {ns : List Str} {e : PyData} (h : SayG ns e) : It e := ⟨h.lv, by have := h.bulk; omega, h.depth⟩
theorem it_all {es : List PyData} (h : ∀ e ∈ es, It e) (hl : es.length ≤ 30) : lvs 0 es = true ∧ PyData.bulkAll es ≤ 2000 ∧ PyData.depthAll es ≤ 1 := by
  have q := bulk_all (n := 60) fun e he => (h e he).2.1
  have l : (60 + 1) * es.length ≤ 61 * 30 := Nat.mul_le_mul_left _ hl
  exact ⟨lvs_all fun e he => (h e he).1, by omega, depth_all fun e he => (h e he).2.2⟩
theorem it_tup {es : List PyData} (h : ∀ e ∈ es, It e) (hl : es.length ≤ 30) : lv 0 (.tuple es) = true ∧ (PyData.tuple es).bulk ≤ 2000 ∧ (PyData.tuple es).depth ≤ 2 := by
  obtain ⟨h1, h2, h3⟩ := it_all h hl
  refine ⟨by rw [lv_tup]; exact h1, by simp only [PyData.bulk]; exact h2, by simp only [PyData.depth]; omega⟩
theorem thing_tup {es : List PyData} (h : ∀ e ∈ es, It e) (hl : es.length ≤ 30) : ThingN (.tuple es) := by
  obtain ⟨h1, h2, h3⟩ := it_tup h hl
  exact ⟨lv_le (by omega) h1, by omega, by omega⟩
theorem thing_lst {es : List PyData} (h : ∀ e ∈ es, It e) (hl : es.length ≤ 30) : ThingN (.list es) := by
  obtain ⟨h1, h2, h3⟩ := it_all h hl
  refine ⟨lv_le (j := 0) (by omega) (by rw [lv_lst]; exact h1), by simp only [PyData.bulk]; omega, by simp only [PyData.depth]; omega⟩
theorem thing_ok {d : PyData} (T : ThingN d) : d.showable = true ∧ d.depth ≤ 60 ∧ d.shown.length ≤ sizeLine := by
  obtain ⟨k1, k2, k3⟩ := lv_ok (k := 5) (by omega) T.lv (by have := T.bulk; omega)
  exact ⟨k2, by have := T.depth; omega, lv_shown (k := 5) (by omega) T.lv (by have := T.bulk; omega)⟩
end Pk
/-! The law, walked. -/
namespace Pk
open PySem L2
theorem house_last {H : Hp} {h : Addr} {ds rs : List PyData} (t : Tr H (.ref h) (.tuple [.tuple ds, .tuple rs])) (hg : HouseG ds rs) : ∃ (a b : Addr) (v2 : V) (xs : List V) (d : PyData) (way : Str) (lo hi up dn : Int),
    H h = some (.tup [.ref a, v2]) ∧ H a = some (.tup xs) ∧ atI xs (-1) = some (.ref b) ∧ d ∈ ds ∧ H b = some (.tup [.str (nameOf d), .int lo, .int hi, .str way, .int up, .int dn]) ∧ -farS ≤ lo ∧ lo ≤ hi ∧ hi ≤ farS := by
  cases t with
  | @tup _ hs _ hh al =>
  match hs, al with
  | [_, v2], .cons (@Tr.tup _ a xs _ hA alA) (.cons tB .nil) =>
    have l := alA.length
    have d1 := hg.d1
    obtain ⟨v, e, hv⟩ := at_last (xs := xs) (by omega)
    obtain ⟨d, hd, td⟩ := alA.mem hv
    obtain ⟨b, way, lo, hi, up, dn, rfl, hb, q1, q2, q3⟩ := dial_tupN td (hg.dials d hd)
    exact ⟨a, b, v2, xs, d, way, lo, hi, up, dn, hh, hA, e, hd, hb, q1, q2, q3⟩
theorem tr_tup {H : Hp} {a : Addr} {ds : List PyData} (t : Tr H (.ref a) (.tuple ds)) : ∃ xs, H a = some (.tup xs) ∧ TrAll H xs ds := by
  cases t with
  | @tup _ xs _ h al => exact ⟨xs, h, al⟩
theorem tr_tupV {H : Hp} {x : V} {ds : List PyData} (t : Tr H x (.tuple ds)) : ∃ a xs, x = .ref a ∧ H a = some (.tup xs) ∧ TrAll H xs ds := by
  cases t with
  | @tup a xs _ h al => exact ⟨a, xs, rfl, h, al⟩
theorem cut19 (xs : List V) : cutV xs none (some 19) = xs.take (min 19 xs.length) := by
  show (xs.drop 0).take (HT.sIx xs.length xs.length (some ((19 : Nat) : Int)) - 0) = _
  rw [HT.sIx_nat, List.drop_zero, Nat.sub_zero]
theorem znT {H : Hp} {p c a : Addr} {n : Int} {xs : List V} (P : PenC H p c n) (h : H a = some (.tup xs)) : zn [p] H a = some (.tup xs) := by
  rw [zn_out (fun z => P.tupp h (List.mem_singleton.mp z))]
  exact h
theorem znL {H : Hp} {p c a : Addr} {n : Int} {xs : List V} (P : PenC H p c n) (h : H a = some (.lst xs)) : zn [p] H a = some (.lst xs) := by
  rw [zn_out (fun z => P.lstp h (List.mem_singleton.mp z))]
  exact h
theorem rep_flat {α : Type} (x : α) : ∀ n : Nat, (List.replicate n [x]).flatten = List.replicate n x
  | 0 => rfl
  | n + 1 => by rw [List.replicate_succ, List.flatten_cons, rep_flat x n]; rfl
section
variable {X : Cx}
/-- t[lo:hi], whole or not -/
theorem sl_tupG : SlR X (fun x lo hi H Q => ∃ (a : Addr) (xs : List V), x = .ref a ∧ H a = some (.tup xs) ∧ ∀ (t : Addr) (H' : Hp), Same H H' → H' t = some (.tup (cutV xs lo hi)) → Q (.ref t) H') := by
  intro pins s σ H x v vl vu lo hi sl Q I rx hs pl pu h
  obtain ⟨a, xs, rfl, ha, q⟩ := h
  refine sl_tupA pins s σ H _ v vl vu lo hi sl Q I rx hs pl pu ⟨a, xs, rfl, SqT.of ha, fun e => q a H (Same.refl _) ?_, fun _ p np => q p _ (sameNew np _) upd_same⟩
  rw [ha]
  unfold cutV
  rw [e.1, e.2]
  simp
/-- t + u, u not empty -/
theorem op_catG : OpR X (binaryOp .Add) (fun x y H Q => ∃ (a b : Addr) (xs ys : List V), x = .ref a ∧ y = .ref b ∧ H a = some (.tup xs) ∧ H b = some (.tup ys) ∧ ys ≠ [] ∧ xs.length + ys.length ≤ sizeLine ∧ ∀ (t : Addr) (H' : Hp), Same H H' → H' t = some (.tup (xs ++ ys)) → Q (.ref t) H') := by
  intro pins s σ H x y v u Q I rx ry h
  obtain ⟨a, b, xs, ys, rfl, rfl, ha, hb, ne, hz, q⟩ := h
  refine op_catA pins s σ H _ _ v u Q I rx ry ⟨a, b, xs, ys, rfl, rfl, SqT.of ha, SqT.of hb, hz, fun e => q b H (Same.refl _) (by rw [e]; exact hb), fun _ e => absurd e ne, fun _ _ p np => q p _ (sameNew np _) upd_same⟩
end
section
variable {P : Program} {w : World} {K : PySem.W.Frag} {mg : Str → Option Value} {base : Heap} {Ps : List Addr}
set_option maxHeartbeats 8000000 in
theorem ok_law {f : Addr} {fd : FuncData} {cs : List (Addr × Addr)} (hcs : cs.map (·.2) = Ps) (F : Fun K "law" "law" sLaw f fd) (Z : Defs P w K mg base Ps) (B : Blt mg) : FnG P w K mg base 18 f fd ["_law_script"] (spLaw K cs) := by
  refine Fun.okG F scLaw (fun vs H Q E h => ?_) (fun cdv A outer s H vs Q E hgd hr h => ?_)
  · obtain ⟨a, ns, rfl, _⟩ := h
    rfl
  obtain ⟨a, ns, rfl, hS, hl, htab0, k⟩ := h
  have htab : Tabs Ps H := fun P hP => by
    rw [← hcs] at hP
    obtain ⟨q, hq, rfl⟩ := List.mem_map.mp hP
    exact htab0 q hq
  obtain ⟨fP, dP, GP, bP, kP, mP⟩ := Z.pen
  obtain ⟨fD, dD, GD, bD, kD, mD⟩ := Z.draw
  obtain ⟨fK, dK, GK, bK, kK, mK⟩ := Z.pick
  obtain ⟨fH, dH, GH, bH, kH, mH⟩ := Z.house
  obtain ⟨fW, dW, GW, bW, kW, mW⟩ := Z.wish
  obtain ⟨fB, dB, GB, bB, kB', mB⟩ := Z.bent
  obtain ⟨fO, dO, GO, bO, kO, mO⟩ := Z.odd
  obtain ⟨fL, dL, GL, bL, kL', mL⟩ := Z.lwish
  obtain ⟨fI, dI, GI, bI, kI', mI⟩ := Z.iswish
  obtain ⟨fC, dC, GC, bC, kC, mC⟩ := Z.close
  obtain ⟨fN, dN, GN, bN, kN, mN⟩ := Z.nums
  obtain ⟨fM, dM, GM, bM, kM, mM⟩ := Z.named
  obtain ⟨fS, dS, GS, bS, kS', mS⟩ := Z.said
  obtain ⟨fT, dT, GT, bT, kT', mT⟩ := Z.told
  have hr1 : Room 1 _ := hr.mono (by decide)
  have hr2 : Room 2 _ := hr.mono (by decide)
  have hr3 : Room 3 _ := hr.mono (by decide)
  have hr4 : Room 4 _ := hr.mono (by decide)
  have hr5 : Room 5 _ := hr.mono (by decide)
  have hr6 : Room 6 _ := hr.mono (by decide)
  have hr7 : Room 7 _ := hr.mono (by decide)
  have hr8 : Room 8 _ := hr.mono (by decide)
  have h100 : (A.deeper (PyProof.Rows.envOfC "law" (defScope sLaw) s.heap.objs.size f cdv)).units + 100 < cLine := by
    have := hr.un
    omega
  have hu0 : (A.deeper (PyProof.Rows.envOfC "law" (defScope sLaw) s.heap.objs.size f cdv)).units < cLine := by omega
  have hgd' : (A.deeper (PyProof.Rows.envOfC "law" (defScope sLaw) s.heap.objs.size f cdv)).guards = some [] := hgd
  refine ⟨_, pss_cons (ps_set (i := 1) scLaw.nd rfl (.inl rfl) (pe_call GP hr1 rfl mP kP bP .nil pass0 (pa_cons (pv 0) pa_nil))) <|
    pss_cons (ps_for PassesOwn.never rfl (pi_range1 (by rfl) B.range (pa_cons pe_int pa_nil)) (pg_name (i := 2) scLaw.nd rfl (Or.inl rfl))
      (pss_cons (ps_asg (pe_call GH hr6 rfl mH kH bH .nil pass0 (pa_cons (pv 1) (pa_cons (pe_op op_add pe_int (pe_call GD hr1 rfl mD kD bD .nil pass0 (pa_cons (pv 1) (pa_cons pe_int pa_nil)))) (pa_cons (pe_call GK hr2 rfl mK kK bK .nil pass0 (pa_cons (pv 1) (pa_cons (pe_lst (pa_cons pe_int (pa_cons pe_int (pa_cons pe_int pa_nil)))) pa_nil))) (pa_cons pe_int pa_nil))))) (pg_tup (by rfl) (pgs_cons (pg_name (i := 3) scLaw.nd rfl (.inl rfl)) <| pgs_cons (pg_name (i := 4) scLaw.nd rfl (.inl rfl)) pgs_nil))) <|
       pss_cons (ps_set (i := 5) scLaw.nd rfl (.inl rfl) (pe_call GW hr5 rfl mW kW bW .nil pass0 (pa_cons (pv 1) (pa_cons (pv 3) (pa_cons (pe_call GK hr2 rfl mK kK bK .nil pass0 (pa_cons (pv 1) (pa_cons (pe_lst (pa_cons pe_int (pa_cons pe_int (pa_cons pe_int pa_nil)))) pa_nil))) pa_nil))))) <|
       pss_cons (ps_set (i := 6) scLaw.nd rfl (.inl rfl) (pe_ix ix_tup (pe_ix ix_tup (pe_ix ix_tup (pv 3) pe_int (fun _ _ => rfl)) (pe_un un_neg pe_int) (fun _ _ => rfl)) pe_int (fun _ _ => rfl))) <|
       pss_cons (ps_set (i := 7) scLaw.nd rfl (.inl rfl) (pe_callTy call_tuple_of (by rfl) B.tuple (by decide +kernel) (pa_cons (pe_op op_rep (pe_lst (pa_cons (pe_tup (pa_cons (pv 6) (pa_cons pe_str (pa_cons (pe_ix ix_tup (pe_ix ix_tup (pe_ix ix_tup (pv 3) pe_int (fun _ _ => rfl)) (pe_un un_neg pe_int) (fun _ _ => rfl)) pe_int (fun _ _ => rfl)) pa_nil)))) pa_nil)) (pe_op op_add pe_int (pe_call GD hr1 rfl mD kD bD .nil pass0 (pa_cons (pv 1) (pa_cons pe_int pa_nil))))) pa_nil))) <|
       pss_cons (ps_set (i := 8) scLaw.nd rfl (.inl rfl) (pe_lst (pa_cons (pv 5) <| pa_cons (pe_call GW hr5 rfl mW kW bW .nil pass0 (pa_cons (pv 1) (pa_cons (pv 3) (pa_cons pe_int pa_nil)))) <| pa_cons (pe_tup pa_nil) <| pa_cons (pv 7) <| pa_cons (pe_call GB hr rfl mB kB' bB .nil pass0 (pa_cons (pv 1) (pa_cons (pv 5) pa_nil))) <| pa_cons (pe_callTy call_list_of (by rfl) B.list (by decide +kernel) (pa_cons (pv 5) pa_nil)) <| pa_cons (pe_call GO hr3 rfl mO kO bO .nil pass0 (pa_cons (pv 1) pa_nil)) pa_nil))) <|
       pss_cons (ps_set (i := 8) scLaw.nd rfl (.inl rfl) (pe_op op_cat (pv 8) (pe_lst (pa_cons (pe_op op_catG (pe_slice sl_tupG (pv 5) po_none (po_some pe_int)) (pe_tup (pa_cons (pe_tup (pa_cons pe_str (pa_cons pe_str (pa_cons pe_int pa_nil)))) pa_nil))) <| pa_cons (pe_op op_catG (pe_slice sl_tupG (pv 5) po_none (po_some pe_int)) (pe_tup (pa_cons (pe_tup (pa_cons (pv 6) (pa_cons pe_str (pa_cons (pe_op op_add (pd_pow pe_int pe_int) pe_int) pa_nil)))) pa_nil))) pa_nil)))) <|
       pss_one (ps_for PassesOwn.never rfl (pi_list (pv 8)) (pg_name (i := 9) scLaw.nd rfl (Or.inl rfl))
        (pss_cons (ps_par (i := 10) (j := 11) (by rfl) scLaw.nd rfl rfl (by decide) rfl rfl (pa_cons (pe_call GL hr3 rfl mL kL' bL .nil pass0 (pa_cons (pv 3) (pa_cons (pv 9) pa_nil))) (pa_cons (pe_callB (call_reprT hgd' h100) (by rfl) B.repr (by decide +kernel) (pa_cons (pv 9) pa_nil)) pa_nil)) (by rfl)) <|
         pss_cons (ps_if (pt_cmpR op_ne (pe_callB (call_reprT hgd' h100) (by rfl) B.repr (by decide +kernel) (pa_cons (pe_call GI hr7 rfl mI kI' bI .nil pass0 (pa_cons (pv 3) (pa_cons (pv 9) pa_nil))) pa_nil)) (pe_callB (call_reprT hgd' h100) (by rfl) B.repr (by decide +kernel) (pa_cons (pv 10) pa_nil)) (nomark _)) (pss_one (ps_ret pe_bl)) pss_nil) <|
         pss_cons (ps_for PassesOwn.never rfl (pi_list (pe_lst (pa_cons (pe_call GC hr4 rfl mC kC bC .nil pass0 (pa_cons (pv 1) (pa_cons (pv 3) (pa_cons (pv 5) pa_nil)))) (pa_cons (pe_call GN hr4 rfl mN kN bN .nil pass0 (pa_cons (pv 1) (pa_cons (pv 3) pa_nil))) pa_nil)))) (pg_name (i := 4) scLaw.nd rfl (Or.inl rfl))
          (pss_cons (ps_set (i := 12) scLaw.nd rfl (.inr rfl) (pe_call GM hr1 rfl mM kM bM .nil pass0 (pa_cons (pv 3) (pa_cons (pv 4) pa_nil)))) <|
           pss_cons (ps_set (i := 13) scLaw.nd rfl (.inl rfl) (pe_tup (pa_cons pe_bl (pa_cons pe_bl (pa_cons pe_bl pa_nil))))) <|
           pss_cons (ps_if (pt_val (pv 10)) (pss_one (ps_set (i := 13) scLaw.nd rfl (.inl rfl) (pe_cmpR (op_eqNil hu0) (pe_lc (own := [("_law_saying_here", 14)]) (g := gName 14) (by rfl) scLaw.nd (pi_tup (pv 9)) (blkOk_by (N := nLaw) (sc := defScope sLaw) (by decide +kernel)) (fun _ _ _ _ _ => pg_name (i := 14) scLaw.nd rfl (Or.inl rfl)) (fun _ _ _ _ _ => pts_one (pt_not (pt_val (pe_call GS hr1 rfl mS kS' bS .nil pass0 (pa_cons (pv 14) (pa_cons (pv 12) pa_nil)))))) (fun _ _ _ _ _ => pv 14)) (pe_lst pa_nil) (nomark _)))) pss_nil) <|
           pssW (u := tTail Ps) (pss_one (ps_if (pt_cmpR op_ne (pe_callB (call_reprT hgd' h100) (by rfl) B.repr (by decide +kernel) (pa_cons (pe_call GT hr8 rfl mT kT' bT .nil pass0 (pa_cons (pv 3) (pa_cons (pv 4) (pa_cons (pv 9) pa_nil)))) pa_nil)) (pe_callB (call_reprT hgd' h100) (by rfl) B.repr (by decide +kernel) (pa_cons (pv 13) pa_nil)) (nomark _)) (pss_one (ps_ret pe_bl)) pss_nil)) ?tail)) <|
         pss_one (ps_if (PW.pt (pw_or (pt_cmpR op_ne (pe_callB (call_reprT hgd' h100) (by rfl) B.repr (by decide +kernel) (pa_cons (pe_call GT hr8 rfl mT kT' bT .nil pass0 (pa_cons (pv 3) (pa_cons (pe_callTy call_list_of (by rfl) B.list (by decide +kernel) (pa_cons (pv 4) pa_nil)) (pa_cons (pv 9) pa_nil)))) pa_nil)) (pe_callB (call_reprT hgd' h100) (by rfl) B.repr (by decide +kernel) (pa_cons (pe_tup (pa_cons pe_bl (pa_cons pe_bl (pa_cons pe_bl pa_nil)))) pa_nil)) (nomark _))
            (pw_or1 (pt_cmpR op_ne (pe_callB (call_reprT hgd' h100) (by rfl) B.repr (by decide +kernel) (pa_cons (pv 9) pa_nil)) (pv 11) (nomark _))))) (pss_one (ps_ret pe_bl)) pss_nil))))) <|
    pss_one (ps_ret pe_bl), ?_⟩
  case tail =>
    rintro D σ H ⟨w0, w1, w2, w5, w6, w7, w8, w10, w11, w12, h, y, x, vt, ds, rs, is, d, rfl, ha, hy, hn, td, tb, tv, nx⟩
    obtain ⟨d1, d2, d3⟩ := tol_ok (lookE (atE ds (.tuple (is.map PyData.int)))) (ds.map nameOf) d
    refine ⟨_, rfl, _, rfl, _, rfl, h, .ref y, x, ds, rs, _, d, rfl, ha, .tup hy (trIntsAll is), td, tb, fun c1 c2 H1 g1 => ?_, (fun c1 => by rw [hn] at c1; cases c1), fun c1 c2 l H1 g1 hl => ?_⟩
    · have t1 : Tr H1 (.bl (metD (lookE (atE ds (.tuple (is.map PyData.int)))) d)) (tolD (lookE (atE ds (.tuple (is.map PyData.int)))) (ds.map nameOf) d) := by
        rw [show tolD (lookE (atE ds (.tuple (is.map PyData.int)))) (ds.map nameOf) d = _ from if_pos c2]
        exact .bl _
      refine ⟨_, _, rfl, t1, d1, d2, d3, _, rfl, vt, _, rfl, tv.grs tb g1, d1, d2, d3, rfl, _, rfl, ?_⟩
      rw [decide_eq_true rfl]
      exact iteF (nx H1 g1)
    · have t1 : Tr H1 (.ref l) (tolD (lookE (atE ds (.tuple (is.map PyData.int)))) (ds.map nameOf) d) := by
        rw [show tolD (lookE (atE ds (.tuple (is.map PyData.int)))) (ds.map nameOf) d = _ from if_neg (by rw [c2]; decide)]
        exact .tup hl (.cons (.bl _) (.cons (.bl _) (.cons (.bl _) .nil)))
      refine ⟨_, _, rfl, t1, d1, d2, d3, _, rfl, vt, _, rfl, tv.grs tb g1, d1, d2, d3, rfl, _, rfl, ?_⟩
      rw [decide_eq_true rfl]
      exact iteF (nx H1 g1)
  refine ⟨_, rfl, a, ns, rfl, hS, hl, fun p c H1 pen1 s1 => ?_⟩
  have tab1 := htab.same s1
  have mp := List.mem_cons_self (a := p) (l := [])
  have ff : farS = 1000000000000000000 := rfl
  have gg := greatG
  have np : p ∉ Ps := by
    obtain ⟨kv, e⟩ := pen1.atp
    exact tab1.not e (by intro q z; cases z)
  refine ⟨4, rfl, by decide, by decide, for_range (n := 4) (fun i σ H2 => ∃ v2 v3 v4 v5 v6 v7 v8 v9 v10 v11 v12 v13 : Option V, σ = [some (.ref a), some (.ref p), v2, v3, v4, v5, v6, v7, v8, v9, v10, v11, v12, v13, none] ∧ PenC H2 p c (60000 * i) ∧ Tabs Ps H2)
    ⟨none, none, none, none, none, none, none, none, none, none, none, none, rfl, pen1.mono (by omega), tab1⟩ ?_ ?_⟩
  rotate_left
  · rintro σ H2 ⟨v2, v3, v4, v5, v6, v7, v8, v9, v10, v11, v12, v13, rfl, _, _⟩
    exact k _
  rintro i σ H2 hi ⟨v2, v3, v4, v5, v6, v7, v8, v9, v10, v11, v12, v13, rfl, pen2, tab2⟩
  refine ⟨_, rfl, _, rfl, p, c, _, _, rfl, pen2, by omega, by decide, by decide, fun v H3 w1 w2 pen3 sb3 => ?_⟩
  refine ⟨_, _, rfl, rfl, _, rfl, by show 3 ≤ sizeLine; decide, fun e he => .inl ⟨p, c, e, _, _, rfl, pen3.same (sameNew he _), by omega, upd_same, by simp, by simp, fun x H4 hx pen4 sb4' => ?_⟩⟩
  have sb4 := sb3.trans ((Sb.same (sameNew he _)).trans sb4')
  obtain ⟨wd, rfl, wd1, wd2⟩ : ∃ wd : Int, x = .int wd ∧ 0 ≤ wd ∧ wd ≤ 100 := by
    simp only [List.mem_cons, List.not_mem_nil, or_false] at hx
    rcases hx with rfl | rfl | rfl <;> exact ⟨_, rfl, by decide, by decide⟩
  have em : (1 : Int) + v = (((1 + v).toNat : Nat) : Int) := by omega
  refine ⟨p, c, [p], _, wd, 3, (1 + v).toNat, by rw [← em]; rfl, wd1, wd2, pen4, pen4.al, by omega, by omega, by omega, by decide, by decide, fun t h y0 ds rs is0 H6 pen6 sb6' ht tp tr6 hy6 ny li hb hg => ?_⟩
  have sb6 := sb4.trans sb6'
  have d1 := hg.d1
  have d2 := hg.d2
  refine ⟨t, _, rfl, SqT.of ht, rfl, _, _, rfl, _, _, rfl, rfl, ?_⟩
  -- the wish
  refine ⟨_, rfl, _, rfl, _, rfl, by show 3 ≤ sizeLine; decide, fun e2 he2 => .inl ⟨p, c, e2, _, _, rfl, pen6.same (sameNew he2 _), by omega, upd_same, by simp, by simp, fun x H7 hx pen7 sb7' => ?_⟩⟩
  have sb7 := (Sb.same (p := p) (sameNew he2 _)).trans sb7'
  obtain ⟨most, rfl, m1, m2⟩ : ∃ m : Int, x = .int m ∧ 0 ≤ m ∧ m ≤ 20 := by
    simp only [List.mem_cons, List.not_mem_nil, or_false] at hx
    rcases hx with rfl | rfl | rfl <;> exact ⟨_, rfl, by decide, by decide⟩
  have tr7 := tr6.same (zn_sb sb7 mp)
  refine ⟨p, c, h, [p], _, most, ds, rs, rfl, pen7, pen7.al, by omega, tr7, hg, m1, m2, fun tw es H8 pen8 sb8 trW lW gW => ?_⟩
  have tr8 := tr7.same (zn_sb sb8 mp)
  -- the last dial
  obtain ⟨a1, b1, v2', xs1, dd, way, lo, hi', up, dn, zh, zA, elast, hdd, zb, q1, q2, q3⟩ := house_last tr8 hg
  have hh8 := zn_le _ _ zh
  have hA8 := zn_le _ _ zA
  have hb8 := zn_le _ _ zb
  refine ⟨_, rfl, h, _, _, _, rfl, rfl, SqT.of hh8, (rfl : atI [V.ref a1, v2'] 0 = some (.ref a1)), _, rfl, a1, _, _, _, rfl, rfl, SqT.of hA8, elast, b1, _, _, _, rfl, rfl, SqT.of hb8, (rfl : atI [V.str (nameOf dd), V.int lo, V.int hi', V.str way, V.int up, V.int dn] 0 = some (.str (nameOf dd))), ?_⟩
  refine ⟨_, rfl, _, rfl, h, _, _, _, rfl, rfl, SqT.of hh8, (rfl : atI [V.ref a1, v2'] 0 = some (.ref a1)), _, rfl, a1, _, _, _, rfl, rfl, SqT.of hA8, elast, b1, _, _, _, rfl, rfl, SqT.of hb8, (rfl : atI [V.str (nameOf dd), V.int lo, V.int hi', V.str way, V.int up, V.int dn] 1 = some (.int lo)), by show 3 ≤ sizeLine; decide, fun t1 nt1 => ?_⟩
  have sA := sameNew nt1 (.tup [.str (nameOf dd), .str "least", .int lo])
  refine ⟨by show 1 ≤ sizeLine; decide, fun l1 nl1 => ?_⟩
  have sB := sA.trans (sameNew nl1 (.lst [.ref t1]))
  have z1 : zn [p] (L2.upd (L2.upd H8 t1 (.tup [.str (nameOf dd), .str "least", .int lo])) l1 (.lst [.ref t1])) t1 = some (.tup [.str (nameOf dd), .str "least", .int lo]) := by
    rw [zn_out (pen8.al.out nt1)]
    exact sameNew nl1 _ _ _ upd_same
  have zl : zn [p] (L2.upd (L2.upd H8 t1 (.tup [.str (nameOf dd), .str "least", .int lo])) l1 (.lst [.ref t1])) l1 = some (.lst [.ref t1]) := by
    rw [zn_out ((pen8.same sA).al.out nl1)]
    exact upd_same
  have penB := pen8.same sB
  have jB := zn_mono (X := [p]) sB
  generalize L2.upd (L2.upd H8 t1 (.tup [.str (nameOf dd), .str "least", .int lo])) l1 (.lst [.ref t1]) = HB at sB z1 zl penB jB ⊢
  refine ⟨_, rfl, p, c, _, _, rfl, penB, by omega, by decide, by decide, fun v9 H9 a9 b9 pen9 sb9 => ?_⟩
  have j9 := jB.trans (zn_sb sb9 mp)
  have z19 := (zn_sb sb9 mp) _ _ z1
  have zl9 := (zn_sb sb9 mp) _ _ zl
  refine ⟨_, _, rfl, rfl, l1, 20 + v9, _, rfl, rfl, zn_le _ _ zl9, by omega, by omega, by rw [sizeLine_eq]; show 1 * (20 + v9).toNat ≤ _; omega, fun r nr => ?_⟩
  have sR := sameNew nr (.lst (List.replicate (20 + v9).toNat [V.ref t1]).flatten)
  refine ⟨r, _, rfl, .inl ⟨SqL.of upd_same, fun tl ntl => ?_⟩⟩
  rw [rep_flat] at sR ntl ⊢
  have sT := sR.trans (sameNew ntl (.tup (List.replicate (20 + v9).toNat (V.ref t1))))
  have zT : zn [p] (L2.upd (L2.upd H9 r (.lst (List.replicate (20 + v9).toNat (V.ref t1)))) tl (.tup (List.replicate (20 + v9).toNat (V.ref t1)))) tl = some (.tup (List.replicate (20 + v9).toNat (V.ref t1))) := by
    rw [zn_out ((pen9.same sR).al.out ntl)]
    exact upd_same
  have penT := pen9.same sT
  have jT := j9.trans (zn_mono (X := [p]) sT)
  have z1T := (zn_mono (X := [p]) sT) _ _ z19
  have sbT : Sb p H2 _ := sb6.trans (sb7.trans (sb8.trans ((Sb.same sB).trans (sb9.trans (Sb.same sT)))))
  generalize L2.upd (L2.upd H9 r (.lst (List.replicate (20 + v9).toNat (V.ref t1)))) tl (.tup (List.replicate (20 + v9).toNat (V.ref t1))) = HT at zT penT jT z1T sbT ⊢
  have trHT := tr8.same jT
  have trWT := trW.same jT
  have sgL : SayG (ds.map nameOf) (.tuple [.str (nameOf dd), .str "least", .int lo]) := say_g (List.mem_map.mpr ⟨dd, hdd, rfl⟩) (dial_name_of (hg.dials dd hdd)).1 (by decide) (by omega) (by omega)
  have trLT : Tr (zn [p] HT) (.ref tl) (.tuple (List.replicate (20 + v9).toNat (.tuple [.str (nameOf dd), .str "least", .int lo]))) := .tup zT (TrAll.rep (.tup z1T (.cons (.str _) (.cons (.str _) (.cons (.int _) .nil)))) _)
  obtain ⟨wI1, wI2, wI3⟩ := it_tup (es := es) (fun e he => it_say (gW e he)) (by omega)
  obtain ⟨ws, zwT, alWT⟩ := tr_tup trWT
  have lws := alWT.length
  refine ⟨_, rfl, _, rfl, _, rfl, p, c, h, [p], _, 2, ds, rs, rfl, penT, penT.al, by omega, trHT, hg, by decide, by decide, fun tw2 es2 H10 pen10 sb10 trW2 lW2 gW2 => ?_⟩
  have j10 := zn_sb sb10 mp
  refine ⟨by show 0 ≤ sizeLine; decide, fun t0 nt0 => ?_⟩
  have s11 := sameNew nt0 (.tup [])
  have pen11 := pen10.same s11
  have j11 := j10.trans (zn_mono (X := [p]) s11)
  have z0 := znT pen11 (upd_same (H := H10) (a := t0) (o := HO.tup []))
  have trW2' := trW2.same (zn_mono (X := [p]) s11)
  have sb11 := sb10.trans (Sb.same s11)
  generalize L2.upd H10 t0 (.tup []) = H11 at pen11 j11 z0 trW2' sb11 ⊢
  refine ⟨_, rfl, _, rfl, _, rfl, p, c, [p], _, 0, .ref tw, .tuple es, rfl, pen11, pen11.al, by omega, trWT.same j11, wI1, by omega, by omega, by omega, by omega, fun yb db H12 pen12 sb12 trB gb1 gb2 gb3 => ?_⟩
  have j12 := zn_sb sb12 mp
  refine ⟨_, rfl, tw, ws, rfl, .inr (SqT.of (zn_le _ _ ((j11.trans j12) _ _ zwT))), fun l4 nl4 => ?_⟩
  have s13 := sameNew nl4 (.lst ws)
  have pen13 := pen12.same s13
  have j13 := j12.trans (zn_mono (X := [p]) s13)
  have z4 := znL pen13 (upd_same (H := H12) (a := l4) (o := HO.lst ws))
  have trB13 := trB.same (zn_mono (X := [p]) s13)
  have sb13 := sb12.trans (Sb.same s13)
  generalize L2.upd H12 l4 (.lst ws) = H13 at pen13 j13 z4 trB13 sb13 ⊢
  refine ⟨_, rfl, p, c, [p], _, rfl, pen13, pen13.al, by omega, fun yo do_ H14 hdo trO pen14 sb14 => ?_⟩
  have j14 := zn_sb sb14 mp
  obtain ⟨go1, go2, go3⟩ := odd_lv hdo
  have jT14 := j11.trans (j13.trans j14)
  have zw14 := zn_le _ _ (jT14 _ _ zwT)
  refine ⟨by show 7 ≤ sizeLine; decide, fun LA nLA => ?_⟩
  have s15 := sameNew nLA (.lst [.ref tw, .ref tw2, .ref t0, .ref tl, yb, .ref l4, yo])
  refine ⟨_, rfl, _, rfl, 19, rfl, tw, ws, rfl, s15 _ _ zw14, fun c1 H16 s16 hc1 => ?_⟩
  refine ⟨by show 3 ≤ sizeLine; decide, fun n1 nn1 => ⟨by show 1 ≤ sizeLine; decide, fun n2 nn2 => ?_⟩⟩
  have s17 := sameNew nn1 (.tup [.str "nobody", .str "least", .int 0])
  have s18 := sameNew nn2 (.tup [.ref n1])
  have s1418 := s15.trans (s16.trans (s17.trans s18))
  have hn18 := s18 _ _ (upd_same (H := H16) (a := n1) (o := HO.tup [.str "nobody", .str "least", .int 0]))
  refine ⟨c1, n2, _, _, rfl, rfl, (s17.trans s18) _ _ hc1, upd_same, by simp, ?_, fun c2 H19 s19 hc2 => ?_⟩
  · rw [cut19, List.length_take, sizeLine_eq]
    show min (min 19 ws.length) ws.length + 1 ≤ _
    omega
  have s1419 := s1418.trans s19
  have hn19 := s19 _ _ hn18
  have hLA19 := (s16.trans (s17.trans (s18.trans s19))) _ _ (upd_same (H := H14) (a := LA) (o := HO.lst [.ref tw, .ref tw2, .ref t0, .ref tl, yb, .ref l4, yo]))
  clear s16 s17 s18 s1418 hn18 hc1 nn1 nn2 s15
  refine ⟨_, rfl, 19, rfl, tw, ws, rfl, s1419 _ _ zw14, fun c3 H20 s20 hc3 => ?_⟩
  refine ⟨_, rfl, _, _, rfl, rfl, by show 3 ≤ sizeLine; decide, fun n3 nn3 => ⟨by show 1 ≤ sizeLine; decide, fun n4 nn4 => ?_⟩⟩
  have s21 := sameNew nn3 (.tup [.str (nameOf dd), .str "least", .int ((10 : Int) ^ (20 : Int).toNat + 1)])
  have s22 := sameNew nn4 (.tup [.ref n3])
  have hn22 := s22 _ _ (upd_same (H := H20) (a := n3) (o := HO.tup [.str (nameOf dd), .str "least", .int ((10 : Int) ^ (20 : Int).toNat + 1)]))
  refine ⟨c3, n4, _, _, rfl, rfl, (s21.trans s22) _ _ hc3, upd_same, by simp, ?_, fun c4 H23 s23 hc4 => ?_⟩
  · rw [cut19, List.length_take, sizeLine_eq]
    show min (min 19 ws.length) ws.length + 1 ≤ _
    omega
  have s1923 := s20.trans (s21.trans (s22.trans s23))
  have hn23 := s23 _ _ hn22
  refine ⟨by show 2 ≤ sizeLine; decide, fun LB nLB => ?_⟩
  have s24 := sameNew nLB (.lst [.ref c2, .ref c4])
  refine ⟨LA, LB, _, _, rfl, rfl, s24 _ _ (s1923 _ _ hLA19), upd_same, by show 7 + 2 ≤ sizeLine; decide, fun LL nLL => ?_⟩
  have s25 := s24.trans (sameNew nLL (.lst ([.ref tw, .ref tw2, .ref t0, .ref tl, yb, .ref l4, yo] ++ [.ref c2, .ref c4])))
  have s1425 := s1419.trans (s1923.trans s25)
  have hLL : L2.upd (L2.upd H23 LB (.lst [.ref c2, .ref c4])) LL (.lst ([.ref tw, .ref tw2, .ref t0, .ref tl, yb, .ref l4, yo] ++ [.ref c2, .ref c4])) LL = some (.lst [.ref tw, .ref tw2, .ref t0, .ref tl, yb, .ref l4, yo, .ref c2, .ref c4]) := upd_same
  have hc2F := (s1923.trans s25) _ _ hc2
  have hn1F := (s1923.trans s25) _ _ hn19
  have hc4F := s25 _ _ hc4
  have hn3F := s25 _ _ hn23
  have penF := pen14.same s1425
  have jF := jT14.trans (zn_mono (X := [p]) s1425)
  have j14F := zn_mono (X := [p]) s1425
  have sbF := sbT.trans (sb11.trans (sb13.trans (sb14.trans (Sb.same s1425))))
  have tabF := tab2.sb pen2 sbF
  generalize L2.upd (L2.upd H23 LB (.lst [.ref c2, .ref c4])) LL (.lst ([.ref tw, .ref tw2, .ref t0, .ref tl, yb, .ref l4, yo] ++ [.ref c2, .ref c4])) = HF at hLL hc2F hn1F hc4F hn3F penF jF j14F tabF ⊢
  clear s24 s25 s1425 s1923 s1419 nLL nLB s20 s21 s22 s23 hn22 hc3 hc4 hn23 hLA19 hc2 hn19 sbF
  have tzF := tabF.zn np
  have houseF := trHT.same jF
  have wishF := trWT.same jF
  obtain ⟨wsF, zwF, alWF⟩ := tr_tup wishF
  cases (show HO.tup wsF = HO.tup ws from Option.some.inj (zwF.symm.trans (jF _ _ zwT)))
  have tk : TrAll (zn [p] HF) (ws.take (min 19 ws.length)) (es.take (min 19 ws.length)) := alWF.take _
  have e20' : (10 : Int) ^ (20 : Int).toNat = greatS := e20
  have tN : Tr (zn [p] HF) (.ref n1) (.tuple [.str "nobody", .str "least", .int 0]) := .tup (znT penF hn1F) (.cons (.str _) (.cons (.str _) (.cons (.int _) .nil)))
  have tG : Tr (zn [p] HF) (.ref n3) (.tuple [.str (nameOf dd), .str "least", .int ((10 : Int) ^ (20 : Int).toNat + 1)]) := .tup (znT penF hn3F) (.cons (.str _) (.cons (.str _) (.cons (.int _) .nil)))
  rw [cut19] at hc2F hc4F
  have tall : TrAll (zn [p] HF) [.ref tw, .ref tw2, .ref t0, .ref tl, yb, .ref l4, yo, .ref c2, .ref c4]
      [.tuple es, .tuple es2, .tuple [], .tuple (List.replicate (20 + v9).toNat (.tuple [.str (nameOf dd), .str "least", .int lo])), db, .list es, do_, .tuple (es.take (min 19 ws.length) ++ [.tuple [.str "nobody", .str "least", .int 0]]), .tuple (es.take (min 19 ws.length) ++ [.tuple [.str (nameOf dd), .str "least", .int ((10 : Int) ^ (20 : Int).toNat + 1)]])] :=
    .cons wishF <| .cons (trW2'.same ((j13.trans j14).trans j14F)) <| .cons (.tup (((j13.trans j14).trans j14F) _ _ z0) .nil) <| .cons (trLT.same jF) <| .cons (trB13.same (j14.trans j14F)) <| .cons (.lst ((j14.trans j14F) _ _ z4) alWF) <| .cons (trO.same j14F) <| .cons (.tup (znT penF hc2F) (tk.snoc tN)) <| .cons (.tup (znT penF hc4F) (tk.snoc tG)) .nil
  have itN : It (.tuple [.str "nobody", .str "least", .int 0]) := ⟨by decide +kernel, by decide +kernel, by decide +kernel⟩
  have itG : It (.tuple [.str (nameOf dd), .str "least", .int ((10 : Int) ^ (20 : Int).toNat + 1)]) := by
    have l0 := sgL.lv
    rw [lv_tup, lvs, lvs, lvs, lvs, Bool.and_eq_true, Bool.and_eq_true, Bool.and_eq_true] at l0
    refine ⟨?_, ?_, ?_⟩
    · rw [lv_tup, lvs, lvs, lvs, lvs, l0.1, l0.2.1, e20', int_lv (i := greatS + 1) (by omega) (by omega)]
      rfl
    · have := sgL.bulk
      simp only [PyData.bulk, PyData.bulkAll] at this ⊢
      omega
    · simp only [PyData.depth, PyData.depthAll]
      omega
  have tkI : ∀ e ∈ es.take (min 19 ws.length), It e := fun e he => it_say (gW e (List.mem_of_mem_take he))
  have good : ∀ d ∈ [PyData.tuple es, .tuple es2, .tuple [], .tuple (List.replicate (20 + v9).toNat (.tuple [.str (nameOf dd), .str "least", .int lo])), db, .list es, do_, .tuple (es.take (min 19 ws.length) ++ [.tuple [.str "nobody", .str "least", .int 0]]), .tuple (es.take (min 19 ws.length) ++ [.tuple [.str (nameOf dd), .str "least", .int ((10 : Int) ^ (20 : Int).toNat + 1)]])], ThingN d := by
    intro d hd
    simp only [List.mem_cons, List.not_mem_nil, or_false] at hd
    rcases hd with rfl | rfl | rfl | rfl | rfl | rfl | rfl | rfl | rfl
    · exact thing_tup (fun e he => it_say (gW e he)) (by omega)
    · exact thing_tup (fun e he => it_say (gW2 e he)) (by omega)
    · exact thing_tup (fun e he => absurd he (by simp)) (by simp)
    · exact thing_tup (fun e he => by rw [List.eq_of_mem_replicate he]; exact it_say sgL) (by rw [List.length_replicate]; omega)
    · exact ⟨lv_le (by omega) gb1, by omega, by omega⟩
    · exact thing_lst (fun e he => it_say (gW e he)) (by omega)
    · exact ⟨lv_le (by omega) go1, by omega, by omega⟩
    · refine thing_tup (fun e he => ?_) (by rw [List.length_append, List.length_take]; show _ + 1 ≤ 30; omega)
      rcases List.mem_append.mp he with he | he
      · exact tkI e he
      · rw [List.mem_singleton.mp he]
        exact itN
    · refine thing_tup (fun e he => ?_) (by rw [List.length_append, List.length_take]; show _ + 1 ≤ 30; omega)
      rcases List.mem_append.mp he with he | he
      · exact tkI e he
      · rw [List.mem_singleton.mp he]
        exact itG
  have sb : ∀ v : Bool, (PyData.shown (.bool v)).length ≤ sizeLine := fun v => by cases v <;> decide +kernel
  refine ⟨_, rfl, LL, rfl, ⟨_, SqL.of hLL⟩, for_list (K := K) (a := LL) (xs := [.ref tw, .ref tw2, .ref t0, .ref tl, yb, .ref l4, yo, .ref c2, .ref c4]) (fun j σ H19 => ∃ v4 v9 v10 v11 v12 v13 : Option V, σ = [some (.ref a), some (.ref p), some (.int (0 + i)), some (.ref h), v4, some (.ref tw), some (.str (nameOf dd)), some (.ref tl), some (.ref LL), v9, v10, v11, v12, v13, none] ∧ PenC H19 p c (60000 * i + 10000 + 3000 * j) ∧ GrS Ps (zn [p] HF) (zn [p] H19))
    ⟨_, _, _, _, _, _, rfl, penF.mono (by omega), GrS.refl tzF⟩ (fun j σ H19 _ ⟨_, _, _, _, _, _, _, _, g⟩ => SqL.of (zn_le _ _ (g.at tzF (znL penF hLL) (by intro q z; cases z)))) ?_ ?_⟩
  rotate_left
  · rintro σ H19 ⟨v4, v9, v10, v11, v12, v13, rfl, penE, g⟩
    exact ⟨_, _, _, _, _, _, _, _, _, _, _, _, rfl, penE.mono (by show (60000 * i + 10000 + 3000 * ((9 : Nat) : Int) : Int) ≤ _; omega), Tabs.same g.1 zn_le⟩
  rintro j x σ H19 hx ⟨v4, v9', v10, v11, v12, v13, rfl, pen19, g⟩
  have hj : j < 9 := (List.getElem?_eq_some_iff.mp hx).1
  obtain ⟨d, hd, tr0⟩ := tall.get hx
  have T := good d (List.mem_of_getElem? hd)
  obtain ⟨t1', t2', t3'⟩ := thing_ok T
  clear tall good
  have tab19 : Tabs Ps H19 := Tabs.same g.1 zn_le
  have ha19 : HouseAt H19 h ds rs := ⟨(houseF.grs tzF g).same zn_le, hg⟩
  have tx19 := (tr0.grs tzF g).same zn_le
  refine ⟨_, rfl, _, rfl, h, x, ds, rs, d, rfl, ha19, tx19, fun H20 s20 => ?_⟩
  have g20 := g.trans (GrS.same g.1 (zn_mono s20))
  have tab20 := tab19.same s20
  refine ⟨_, rfl, x, d, rfl, tx19.same s20, t1', t2', t3', _, _, rfl, ?_⟩
  refine ⟨_, rfl, _, rfl, h, x, ds, rs, d, rfl, ⟨ha19.tr.same s20, hg⟩, tx19.same s20, tab20, fun H21 g21' => ?_⟩
  refine ⟨_, .bool _, rfl, .bl _, rfl, by simp [PyData.depth], sb _, _, rfl, _, .bool _, rfl, .bl _, rfl, by simp [PyData.depth], sb _, rfl, _, rfl, ?_⟩
  rw [decide_eq_true rfl]
  refine iteF ?_
  have g21 := g20.trans (g21'.zn np)
  have pen21 := (pen19.same s20).grs tab20 g21'
  refine ⟨_, rfl, _, rfl, _, rfl, p, c, h, tw, [p], _, ds, rs, es, rfl, pen21, pen21.al, by omega, houseF.grs tzF g21, hg, wishF.grs tzF g21, lW, gW, fun y1 is1 H22 pen22 sb22 hy1 ny1 hn1 => ?_⟩
  have g22 := g21.trans (GrS.same g21.1 (zn_sb sb22 mp))
  refine ⟨_, rfl, _, rfl, p, c, h, [p], _, ds, rs, rfl, pen22, pen22.al, by omega, houseF.grs tzF g22, hg, fun y2 is2 H23' pen23 sb23 hy2 ny2 hn2 => ?_⟩
  have g23 := g22.trans (GrS.same g22.1 (zn_sb sb23 mp))
  refine ⟨by show 2 ≤ sizeLine; decide, fun LN nLN => ?_⟩
  have sN := sameNew nLN (.lst [.ref y1, .ref y2])
  have gN := g23.trans (GrS.same g23.1 (zn_mono sN))
  have penN := pen23.same sN
  have hLN : L2.upd H23' LN (.lst [.ref y1, .ref y2]) LN = some (.lst [.ref y1, .ref y2]) := upd_same
  have y1p : y1 ≠ p := pen22.tupp hy1
  have hy1N := sN _ _ (sb23.to y1p hy1)
  have hy2N := sN _ _ hy2
  generalize L2.upd H23' LN (.lst [.ref y1, .ref y2]) = HN at gN penN hLN hy1N hy2N ⊢
  have tabN : Tabs Ps HN := Tabs.same gN.1 zn_le
  have haN : HouseAt HN h ds rs := ⟨(houseF.grs tzF gN).same zn_le, hg⟩
  have txN := (tr0.grs tzF gN).same zn_le
  refine ⟨LN, rfl, ⟨_, SqL.of hLN⟩, for_list (K := K) (a := LN) (xs := [.ref y1, .ref y2]) (fun m σ H5 => ∃ u4 u12 u13 : Option V, σ = [some (.ref a), some (.ref p), some (.int (0 + i)), some (.ref h), u4, some (.ref tw), some (.str (nameOf dd)), some (.ref tl), some (.ref LL), some x, some (.bl (wishD (ds.map nameOf) d)), some (.str d.shown), u12, u13, none] ∧ (m = 0 ∨ ∃ (y : Addr) (is : List Int), u4 = some (.ref y) ∧ HN y = some (.tup (is.map V.int))) ∧ GrS Ps HN H5)
    ⟨_, _, _, rfl, .inl rfl, GrS.refl tabN⟩ (fun m σ H5 _ ⟨_, _, _, _, _, g5⟩ => SqL.of (g5.at tabN hLN (by intro q z; cases z))) ?_ ?_⟩
  · rintro m z σ H5 hz ⟨u4, u12, u13, rfl, _, g5⟩
    obtain ⟨y, is, rfl, hyN, hn⟩ : ∃ (y : Addr) (is : List Int), z = .ref y ∧ HN y = some (.tup (is.map V.int)) ∧ numsD ds (.tuple (is.map PyData.int)) = true := by
      match m, hz with
      | 0, hz =>
        cases (show some (V.ref y1) = some z from hz)
        exact ⟨y1, is1, rfl, hy1N, hn1⟩
      | 1, hz =>
        cases (show some (V.ref y2) = some z from hz)
        exact ⟨y2, is2, rfl, hy2N, hn2⟩
      | n + 2, hz => cases (show (none : Option V) = some z from hz)
    have hy5 := g5.at tabN hyN (by intro q z; cases z)
    refine ⟨_, rfl, _, rfl, h, .ref y, ds, rs, _, rfl, haN.grs tabN g5, .tup hy5 (trIntsAll is), hn, fun q H6 s6 nq hq => ?_⟩
    refine ⟨by show 3 ≤ sizeLine; decide, fun t3 nt3 => ?_⟩
    have s7 := sameNew nt3 (.tup [.bl false, .bl true, .bl false])
    have g7 := g5.trans (GrS.same g5.1 (s6.trans s7))
    have ht3 : L2.upd H6 t3 (.tup [.bl false, .bl true, .bl false]) t3 = some (.tup [.bl false, .bl true, .bl false]) := upd_same
    have hq7 := s7 _ _ hq
    generalize L2.upd H6 t3 (.tup [.bl false, .bl true, .bl false]) = H7 at g7 ht3 hq7 ⊢
    clear s7 nt3 s6 hq nq
    have ha7 := haN.grs tabN g7
    have hy7 := g7.at tabN hyN (by intro q z; cases z)
    have tx7 := txN.grs tabN g7
    refine ⟨_, rfl, _, rfl, ?_⟩
    refine ite2 (fun cw => ?_) (fun cw => ?_)
    · obtain ⟨eds, rfl, le, hes⟩ := wish_is cw
      obtain ⟨ax, xs, rfl, hax, alx⟩ := tr_tupV tx7
      have lx := alx.length
      obtain ⟨is', eis, li, ei⟩ := nums_is hn
      have ek : (atE ds (.tuple (is.map PyData.int))).map (·.1) = ds.map nameOf := by
        unfold atE
        exact zip_keys (by rw [List.length_map, ei]; exact li.symm)
      refine ⟨_, rfl, ax, rfl, ⟨_, SqT.of hax⟩, fun D hD => lc_tup (K := K) (a := ax) (xs := xs) (fun n H8 => ∃ ys : List V, H8 D = some (.lst ys) ∧ ys.length ≤ n ∧ ys.isEmpty = (eds.take n).all (holdsS (lookE (atE ds (.tuple (is.map PyData.int))))) ∧ Same H7 H8)
        ⟨[], upd_same, Nat.le_refl _, rfl, sameNew hD _⟩ (fun n H8 _ ⟨_, _, _, _, s8⟩ => SqT.of (s8 _ _ hax)) ?_ ?_⟩
      · rintro n yv H8 hyv ⟨ys, e2, l2, f2, s8⟩
        obtain ⟨ed, he, tre⟩ := alx.get hyv
        have il : n < xs.length := (List.getElem?_eq_some_iff.mp hyv).1
        refine ⟨rfl, _, rfl, _, rfl, yv, q, atE ds (.tuple (is.map PyData.int)), ed, rfl, tre.same s8, by rw [ek]; exact hes ed (List.mem_of_getElem? he), s8 _ _ hq7, _, rfl, ?_⟩
        have f3 : (eds.take (n + 1)).all (holdsS (lookE (atE ds (.tuple (is.map PyData.int))))) = ((eds.take n).all (holdsS (lookE (atE ds (.tuple (is.map PyData.int))))) && holdsS (lookE (atE ds (.tuple (is.map PyData.int)))) ed) := by
          rw [take_more he, List.all_append]
          simp
        cases c3 : holdsS (lookE (atE ds (.tuple (is.map PyData.int)))) ed with
        | true =>
          rw [c3, Bool.and_true] at f3
          exact iteF ⟨ys, e2, by omega, by rw [f3]; exact f2, s8⟩
        | false =>
          rw [c3, Bool.and_false] at f3
          refine iteT ⟨_, rfl, ys, e2, small1000 (by omega), ys ++ [yv], upd_same, by simp; omega, by rw [f3]; simp, fun b o e => ?_⟩
          rw [upd_ne (ne_of_none e hD)]
          exact s8 _ _ e
      · rintro H8 ⟨ys, e2, l2, f2, s8⟩
        refine ⟨by show 0 ≤ sizeLine; decide, fun N hN => ?_⟩
        have s9 := sameNew hN (.lst [])
        refine ⟨D, N, ys, rfl, rfl, SqL.of (s9 _ _ e2), SqL.of upd_same, ?_⟩
        rw [List.take_of_length_le (by omega)] at f2
        have g9 := g7.trans (GrS.same g7.1 (s8.trans s9))
        refine ⟨_, _, _, _, _, _, _, _, _, _, h, y, .ref ax, .bl ys.isEmpty, ds, rs, is, .tuple eds, rfl, haN.grs tabN g9, g9.at tabN hyN (by intro q z; cases z), hn, txN.grs tabN g9, g9.1, ?_, fun H' g' => ⟨_, _, _, rfl, .inr ⟨y, is, rfl, hyN⟩, g9.trans g'⟩⟩
        rw [show tolD (lookE (atE ds (.tuple (is.map PyData.int)))) (ds.map nameOf) (.tuple eds) = _ from if_pos cw, f2]
        exact .bl _
    · refine ⟨_, _, _, _, _, _, _, _, _, _, h, y, x, .ref t3, ds, rs, is, d, rfl, ha7, hy7, hn, tx7, g7.1, ?_, fun H' g' => ⟨_, _, _, rfl, .inr ⟨y, is, rfl, hyN⟩, g7.trans g'⟩⟩
      rw [show tolD (lookE (atE ds (.tuple (is.map PyData.int)))) (ds.map nameOf) d = _ from if_neg (by simpa using cw)]
      exact .tup ht3 (.cons (.bl _) (.cons (.bl _) (.cons (.bl _) .nil)))
  · rintro σ H5 ⟨u4, u12, u13, rfl, hv4, g5⟩
    rcases hv4 with h0 | ⟨y, is, rfl, hyN⟩
    · exact absurd h0 (by simp)
    have hy5 := g5.at tabN hyN (by intro q z; cases z)
    refine ⟨_, rfl, _, rfl, y, _, rfl, .inr (SqT.of hy5), fun l5 nl5 => ?_⟩
    have s6 := sameNew nl5 (.lst (is.map V.int))
    have g6 := g5.trans (GrS.same g5.1 s6)
    refine ⟨_, rfl, h, .ref l5, x, ds, rs, .list (is.map PyData.int), d, rfl, haN.grs tabN g6, .lst upd_same (trIntsAll is), txN.grs tabN g6, g6.1, (fun c1 => by cases c1), (fun _ l H7 g7 hl7 => ?_), (fun c1 => by cases c1)⟩
    have g67 := g6.trans g7
    have tT : ∀ H', H' l = some (.tup [.bl true, .bl false, .bl false]) → Tr H' (.ref l) (.tuple [.bool true, .bool false, .bool false]) := fun H' hh => .tup hh (.cons (.bl _) (.cons (.bl _) (.cons (.bl _) .nil)))
    refine ⟨.ref l, _, rfl, tT _ hl7, by decide +kernel, by decide +kernel, by decide +kernel, by show 3 ≤ sizeLine; decide, fun t8 nt8 => ?_⟩
    have s8 := sameNew nt8 (.tup [.bl true, .bl false, .bl false])
    have g8 := g67.trans (GrS.same g67.1 s8)
    refine ⟨.ref t8, .tuple [.bool true, .bool false, .bool false], rfl, .tup upd_same (.cons (.bl _) (.cons (.bl _) (.cons (.bl _) .nil))), by decide +kernel, by decide +kernel, by decide +kernel, rfl, _, rfl, ?_⟩
    rw [decide_eq_true rfl]
    refine iteF ?_
    refine ⟨_, rfl, x, d, rfl, txN.grs tabN g8, t1', t2', t3', _, rfl, rfl, _, rfl, ?_⟩
    rw [decide_eq_true rfl]
    refine iteF ?_
    exact ⟨_, _, _, _, _, _, rfl, (penN.grs tabN g8).mono (by omega), gN.trans (g8.zn np)⟩
end
end Pk
namespace Pk
open PySem L2
/-- a tuple of texts of the module's own top -/
def strsB (K : PySem.W.Frag) (a : Addr) (zs : List Str) : Bool := match K.lookup a with
  | some ⟨.type "tuple", _, .seq its _, _⟩ => decide (its.size ≤ 1000) && decide (its.toList.map absV = zs.map fun z => some (V.str z))
  | _ => false
theorem vals_abs : ∀ {zs : List Str} {us : List Value}, (us.map absV = zs.map fun z => some (V.str z)) → Vals (zs.map V.str) us
  | [], [], _ => .nil
  | [], _ :: _, h => by simp at h
  | _ :: _, [], h => by simp at h
  | z :: zs, u :: us, h => by
    rw [List.map_cons, List.map_cons, List.cons.injEq] at h
    refine .cons ?_ (vals_abs h.2)
    have h1 := h.1
    cases u with
    | str x t =>
      cases h1
      exact ⟨t, rfl⟩
    | _ => cases h1
theorem strsB_ok {K : PySem.W.Frag} {a : Addr} {zs : List Str} (h : strsB K a zs = true) (H : Hp) : SqT K H a (zs.map V.str) := by
  unfold strsB at h
  split at h
  · rename_i dd its n sl e
    rw [Bool.and_eq_true, decide_eq_true_eq, decide_eq_true_eq] at h
    exact .inr ⟨_, its, n, e, rfl, rfl, small h.1, vals_abs h.2⟩
  · cases h
/-- a def's table of code objects, read -/
theorem tab_in {K : PySem.W.Frag} {x : Str} {f c P : Addr} {oc oc2 : Value} {od od2 : Option Addr} {sl sl2 : Array (Option Value)} {fd : FuncData} {vs : Array Value} (a : PySem.W.nsIn K mainGlobals x = some (some (.ref f)))
    (l : K.lookup f = some ⟨oc, od, .func fd, sl⟩) (hc : fd.code = .ref c) (lc : K.lookup c = some ⟨oc2, od2, .fields vs, sl2⟩) (hv : vs[11]? = some (.ref P)) : PySem.W.tabIn K x = some (c, P) := by
  unfold PySem.W.tabIn
  rw [a]
  simp only
  rw [l]
  simp only
  rw [hc]
  simp only
  rw [lc]
  simp only
  rw [hv]
def excCB (K : PySem.W.Frag) (C : Addr) : Bool :=
  decide (PySem.W.findIn K (.ref C) "__getattribute__" = some (some (.builtin "BaseException.__getattribute__"))) && (decide (PySem.W.findIn K (.ref C) "__getattr__" = some none) && (decide (PySem.W.subIn K (.ref C) (.type "BaseException") = some true) && (PySem.W.hasDictIn K C &&
  (decide (PySem.W.findIn K (.ref C) "__class__" = some (some (.builtin "object.__class__"))) && (decide (PySem.W.specialIn K (.builtin "object.__class__") "__get__" = some (some (.builtin "getset_descriptor.__get__"))) && (decide (PySem.W.takesIn K (.builtin "object.__class__") = some true) && decide (PySem.W.mroIn K C (.type "object") = some true)))))))
theorem excCB_ok {K : PySem.W.Frag} {C : Addr} (h : excCB K C = true) : ExcC K C := by
  simp only [excCB, Bool.and_eq_true, decide_eq_true_eq] at h
  obtain ⟨h1, h2, h3, h4, h5, h6, h7, h8⟩ := h
  exact ⟨h1, h2, h3, h4, h5, h6, h7, h8⟩
abbrev mroV : List Value := [.type "ValueError", .type "Exception", .type "BaseException", .type "object"]
/-- all that the walk asks of the classes -/
def clsB (K : PySem.W.Frag) (CL CN CS CW CV CD fI fB : Addr) : Bool :=
  (PySem.W.plainGet K CL Str.empty && (PySem.W.hasDictIn K CL && (PySem.W.plainOver K CL && decide (PySem.W.findIn K (.ref CL) "__setattr__" = some (some (.builtin "object.__setattr__")))))) &&
  ((decide (PySem.W.findIn K (.ref CL) "names" = some none) && (decide (PySem.W.findIn K (.ref CL) "dials" = some none) && (decide (PySem.W.findIn K (.ref CL) "rules" = some none) && decide (PySem.W.findIn K (.ref CL) "speaking" = some none)))) &&
  ((PySem.W.makesIn K CL && (PySem.W.isFn K (.ref fI) && (PySem.W.isFn K (.ref fB) && PySem.W.keepIn K (.ref CL)))) &&
  ((PySem.W.excIn K CN mroV "ValueError.__new__" && (PySem.W.keepIn K (.ref CN) && (decide (PySem.W.subIn K (.ref CN) (.type "BaseException") = some true) && decide (PySem.W.typeIn K (.ref CN) = some (.type "type"))))) &&
  ((PySem.W.excIn K CW mroV "ValueError.__new__" && (PySem.W.keepIn K (.ref CW) && (decide (PySem.W.subIn K (.ref CW) (.type "BaseException") = some true) && decide (PySem.W.typeIn K (.ref CW) = some (.type "type"))))) &&
  ((excCB K CN && (decide (PySem.W.exmOne K (.ref CN) (.ref CD) = some true) && (decide (PySem.W.kitOne K (.ref CN) (.ref CN) = some true) && (decide (PySem.W.kitOne K (.ref CN) (.ref CW) = some false) && decide (PySem.W.kitAny K (.ref CN) [.ref CS, .ref CV] = some false))))) &&
  (excCB K CW && (decide (PySem.W.exmOne K (.ref CW) (.ref CD) = some true) && (decide (PySem.W.kitOne K (.ref CW) (.ref CN) = some false) && (decide (PySem.W.kitOne K (.ref CW) (.ref CW) = some true) && decide (PySem.W.kitAny K (.ref CW) [.ref CS, .ref CV] = some false))))))))))
set_option maxHeartbeats 4000000 in
theorem all_mk {l : PySem.W.OpenLaw} {q : Program} {w : World} {K : PySem.W.Frag} {h : Heap} {mg : Str → Option Value} {fa cL cN cS cW cV cD xIsName PIsName xAreN PAreN xWell PWell xMeets PMeets qW qS qR : Addr} (X : K.In h) (G : h.Ns mainGlobals mg) (hfa : mg "law" = some (.ref fa))
    {fIsName fAreN fWell fMeets fWhole fTupOf fPrice fIsDial fIsSaying fIsRule fForm fFDial fFRule fFault fHolds fNamesIn fCheckH fCheckW fIsWish fCheckN fPen fDraw fPick fShuf fNames fAny fFrom fPriceL fDialL fSayL fTSay fTRule fHouseL fOdd fBent fLWhole fLSaid fLNamed fLNums fLTold fLSay fLIsWish fLWish fLClose fLaw fInit fByN : Addr} {odIsName anIsName odAreN anAreN odWell anWell odMeets anMeets odWhole anWhole odTupOf anTupOf odPrice anPrice odIsDial anIsDial odIsSaying anIsSaying odIsRule anIsRule odForm anForm odFDial anFDial odFRule anFRule odFault anFault odHolds anHolds odNamesIn anNamesIn odCheckH anCheckH odCheckW anCheckW odIsWish anIsWish odCheckN anCheckN odPen anPen odDraw anDraw odPick anPick odShuf anShuf odNames anNames odAny anAny odFrom anFrom odPriceL anPriceL odDialL anDialL odSayL anSayL odTSay anTSay odTRule anTRule odHouseL anHouseL odOdd anOdd odBent anBent odLWhole anLWhole odLSaid anLSaid odLNamed anLNamed odLNums anLNums odLTold anLTold odLSay anLSay odLIsWish anLIsWish odLWish anLWish odLClose anLClose odLaw anLaw odInit anInit odByN anByN : Option Addr} {slIsName slAreN slWell slMeets slWhole slTupOf slPrice slIsDial slIsSaying slIsRule slForm slFDial slFRule slFault slHolds slNamesIn slCheckH slCheckW slIsWish slCheckN slPen slDraw slPick slShuf slNames slAny slFrom slPriceL slDialL slSayL slTSay slTRule slHouseL slOdd slBent slLWhole slLSaid slLNamed slLNums slLTold slLSay slLIsWish slLWish slLClose slLaw slInit slByN : Array (Option Value)} {t_far t_great t_dear t_long t_dials t_rules t_says : Tok}
    {ocIsName kVIsName dcIsName pmIsName ctIsName ocAreN kVAreN dcAreN pmAreN ctAreN ocWell kVWell dcWell pmWell ctWell ocMeets kVMeets dcMeets pmMeets ctMeets ocWhole kVWhole dcWhole pmWhole ctWhole ocTupOf kVTupOf dcTupOf pmTupOf ctTupOf ocPrice kVPrice dcPrice pmPrice ctPrice ocIsDial kVIsDial dcIsDial pmIsDial ctIsDial ocIsSaying kVIsSaying dcIsSaying pmIsSaying ctIsSaying ocIsRule kVIsRule dcIsRule pmIsRule ctIsRule ocForm kVForm dcForm pmForm ctForm ocFDial kVFDial dcFDial pmFDial ctFDial ocFRule kVFRule dcFRule pmFRule ctFRule ocFault kVFault dcFault pmFault ctFault ocHolds kVHolds dcHolds pmHolds ctHolds ocNamesIn kVNamesIn dcNamesIn pmNamesIn ctNamesIn ocCheckH kVCheckH dcCheckH pmCheckH ctCheckH ocCheckW kVCheckW dcCheckW pmCheckW ctCheckW ocIsWish kVIsWish dcIsWish pmIsWish ctIsWish ocCheckN kVCheckN dcCheckN pmCheckN ctCheckN ocPen kVPen dcPen pmPen ctPen ocDraw kVDraw dcDraw pmDraw ctDraw ocPick kVPick dcPick pmPick ctPick ocShuf kVShuf dcShuf pmShuf ctShuf ocNames kVNames dcNames pmNames ctNames ocAny kVAny dcAny pmAny ctAny ocFrom kVFrom dcFrom pmFrom ctFrom ocPriceL kVPriceL dcPriceL pmPriceL ctPriceL ocDialL kVDialL dcDialL pmDialL ctDialL ocSayL kVSayL dcSayL pmSayL ctSayL ocTSay kVTSay dcTSay pmTSay ctTSay ocTRule kVTRule dcTRule pmTRule ctTRule ocHouseL kVHouseL dcHouseL pmHouseL ctHouseL ocOdd kVOdd dcOdd pmOdd ctOdd ocBent kVBent dcBent pmBent ctBent ocLWhole kVLWhole dcLWhole pmLWhole ctLWhole ocLSaid kVLSaid dcLSaid pmLSaid ctLSaid ocLNamed kVLNamed dcLNamed pmLNamed ctLNamed ocLNums kVLNums dcLNums pmLNums ctLNums ocLTold kVLTold dcLTold pmLTold ctLTold ocLSay kVLSay dcLSay pmLSay ctLSay ocLIsWish kVLIsWish dcLIsWish pmLIsWish ctLIsWish ocLWish kVLWish dcLWish pmLWish ctLWish ocLClose kVLClose dcLClose pmLClose ctLClose ocLaw kVLaw dcLaw pmLaw ctLaw ocInit kVInit dcInit pmInit ctInit ocByN kVByN dcByN pmByN ctByN cdWhole cdTupOf cdPrice cdIsDial cdIsSaying cdIsRule cdForm cdFDial cdFRule cdFault cdHolds cdNamesIn cdCheckH cdCheckW cdIsWish cdCheckN cdPen cdDraw cdPick cdShuf cdNames cdAny cdFrom cdPriceL cdDialL cdSayL cdTSay cdTRule cdHouseL cdOdd cdBent cdLWhole cdLSaid cdLNamed cdLNums cdLTold cdLSay cdLIsWish cdLWish cdLClose cdLaw cdInit cdByN : Value}
    (gL : PySem.W.nsIn K mainGlobals "Layout" = some (some (.ref cL)))
    (gN : PySem.W.nsIn K mainGlobals "NoNumbers" = some (some (.ref cN)))
    (gS : PySem.W.nsIn K mainGlobals "NoStanding" = some (some (.ref cS)))
    (gW : PySem.W.nsIn K mainGlobals "NoWish" = some (some (.ref cW)))
    (gV : PySem.W.nsIn K mainGlobals "NoWishes" = some (some (.ref cV)))
    (gD : PySem.W.nsIn K mainGlobals "DialError" = some (some (.ref cD)))
    (aIsName : PySem.W.nsIn K mainGlobals "is_name" = some (some (.ref fIsName)))
    (lIsName : K.lookup fIsName = some ⟨ocIsName, odIsName, .func (PySem.W.fnOf "is_name" "is_name" (defArgs sIsName) (defBody sIsName) (defScope sIsName) .none kVIsName dcIsName pmIsName anIsName (.ref xIsName) ctIsName), slIsName⟩)
    (cIsName : PySem.W.codeIn K (.ref xIsName) "is_name" = true)
    (kIsName : PySem.W.keepIn K (.ref fIsName) = true)
    (aAreN : PySem.W.nsIn K mainGlobals "are_numbers" = some (some (.ref fAreN)))
    (lAreN : K.lookup fAreN = some ⟨ocAreN, odAreN, .func (PySem.W.fnOf "are_numbers" "are_numbers" (defArgs sAreN) (defBody sAreN) (defScope sAreN) .none kVAreN dcAreN pmAreN anAreN (.ref xAreN) ctAreN), slAreN⟩)
    (cAreN : PySem.W.codeIn K (.ref xAreN) "are_numbers" = true)
    (kAreN : PySem.W.keepIn K (.ref fAreN) = true)
    (aWell : PySem.W.nsIn K mainGlobals "wishes_well" = some (some (.ref fWell)))
    (lWell : K.lookup fWell = some ⟨ocWell, odWell, .func (PySem.W.fnOf "wishes_well" "wishes_well" (defArgs sWell) (defBody sWell) (defScope sWell) .none kVWell dcWell pmWell anWell (.ref xWell) ctWell), slWell⟩)
    (cWell : PySem.W.codeIn K (.ref xWell) "wishes_well" = true)
    (kWell : PySem.W.keepIn K (.ref fWell) = true)
    (aMeets : PySem.W.nsIn K mainGlobals "meets" = some (some (.ref fMeets)))
    (lMeets : K.lookup fMeets = some ⟨ocMeets, odMeets, .func (PySem.W.fnOf "meets" "meets" (defArgs sMeets) (defBody sMeets) (defScope sMeets) .none kVMeets dcMeets pmMeets anMeets (.ref xMeets) ctMeets), slMeets⟩)
    (cMeets : PySem.W.codeIn K (.ref xMeets) "meets" = true)
    (kMeets : PySem.W.keepIn K (.ref fMeets) = true)
    (aWhole : PySem.W.nsIn K mainGlobals "is_whole" = some (some (.ref fWhole)))
    (lWhole : K.lookup fWhole = some ⟨ocWhole, odWhole, .func (PySem.W.fnOf "is_whole" "is_whole" (defArgs sWhole) (defBody sWhole) (defScope sWhole) .none kVWhole dcWhole pmWhole anWhole cdWhole ctWhole), slWhole⟩)
    (cWhole : PySem.W.codeIn K cdWhole "is_whole" = true)
    (kWhole : PySem.W.keepIn K (.ref fWhole) = true)
    (aTupOf : PySem.W.nsIn K mainGlobals "is_tuple_of" = some (some (.ref fTupOf)))
    (lTupOf : K.lookup fTupOf = some ⟨ocTupOf, odTupOf, .func (PySem.W.fnOf "is_tuple_of" "is_tuple_of" (defArgs sTupOf) (defBody sTupOf) (defScope sTupOf) .none kVTupOf dcTupOf pmTupOf anTupOf cdTupOf ctTupOf), slTupOf⟩)
    (cTupOf : PySem.W.codeIn K cdTupOf "is_tuple_of" = true)
    (kTupOf : PySem.W.keepIn K (.ref fTupOf) = true)
    (aPrice : PySem.W.nsIn K mainGlobals "is_price" = some (some (.ref fPrice)))
    (lPrice : K.lookup fPrice = some ⟨ocPrice, odPrice, .func (PySem.W.fnOf "is_price" "is_price" (defArgs sPrice) (defBody sPrice) (defScope sPrice) .none kVPrice dcPrice pmPrice anPrice cdPrice ctPrice), slPrice⟩)
    (cPrice : PySem.W.codeIn K cdPrice "is_price" = true)
    (kPrice : PySem.W.keepIn K (.ref fPrice) = true)
    (aIsDial : PySem.W.nsIn K mainGlobals "is_dial" = some (some (.ref fIsDial)))
    (lIsDial : K.lookup fIsDial = some ⟨ocIsDial, odIsDial, .func (PySem.W.fnOf "is_dial" "is_dial" (defArgs sIsDial) (defBody sIsDial) (defScope sIsDial) .none kVIsDial dcIsDial pmIsDial anIsDial cdIsDial ctIsDial), slIsDial⟩)
    (cIsDial : PySem.W.codeIn K cdIsDial "is_dial" = true)
    (kIsDial : PySem.W.keepIn K (.ref fIsDial) = true)
    (aIsSaying : PySem.W.nsIn K mainGlobals "is_saying" = some (some (.ref fIsSaying)))
    (lIsSaying : K.lookup fIsSaying = some ⟨ocIsSaying, odIsSaying, .func (PySem.W.fnOf "is_saying" "is_saying" (defArgs sIsSaying) (defBody sIsSaying) (defScope sIsSaying) .none kVIsSaying dcIsSaying pmIsSaying anIsSaying cdIsSaying ctIsSaying), slIsSaying⟩)
    (cIsSaying : PySem.W.codeIn K cdIsSaying "is_saying" = true)
    (kIsSaying : PySem.W.keepIn K (.ref fIsSaying) = true)
    (aIsRule : PySem.W.nsIn K mainGlobals "is_rule" = some (some (.ref fIsRule)))
    (lIsRule : K.lookup fIsRule = some ⟨ocIsRule, odIsRule, .func (PySem.W.fnOf "is_rule" "is_rule" (defArgs sIsRule) (defBody sIsRule) (defScope sIsRule) .none kVIsRule dcIsRule pmIsRule anIsRule cdIsRule ctIsRule), slIsRule⟩)
    (cIsRule : PySem.W.codeIn K cdIsRule "is_rule" = true)
    (kIsRule : PySem.W.keepIn K (.ref fIsRule) = true)
    (aForm : PySem.W.nsIn K mainGlobals "has_house_form" = some (some (.ref fForm)))
    (lForm : K.lookup fForm = some ⟨ocForm, odForm, .func (PySem.W.fnOf "has_house_form" "has_house_form" (defArgs sForm) (defBody sForm) (defScope sForm) .none kVForm dcForm pmForm anForm cdForm ctForm), slForm⟩)
    (cForm : PySem.W.codeIn K cdForm "has_house_form" = true)
    (kForm : PySem.W.keepIn K (.ref fForm) = true)
    (aFDial : PySem.W.nsIn K mainGlobals "faulty_dial" = some (some (.ref fFDial)))
    (lFDial : K.lookup fFDial = some ⟨ocFDial, odFDial, .func (PySem.W.fnOf "faulty_dial" "faulty_dial" (defArgs sFDial) (defBody sFDial) (defScope sFDial) .none kVFDial dcFDial pmFDial anFDial cdFDial ctFDial), slFDial⟩)
    (cFDial : PySem.W.codeIn K cdFDial "faulty_dial" = true)
    (kFDial : PySem.W.keepIn K (.ref fFDial) = true)
    (aFRule : PySem.W.nsIn K mainGlobals "faulty_rule" = some (some (.ref fFRule)))
    (lFRule : K.lookup fFRule = some ⟨ocFRule, odFRule, .func (PySem.W.fnOf "faulty_rule" "faulty_rule" (defArgs sFRule) (defBody sFRule) (defScope sFRule) .none kVFRule dcFRule pmFRule anFRule cdFRule ctFRule), slFRule⟩)
    (cFRule : PySem.W.codeIn K cdFRule "faulty_rule" = true)
    (kFRule : PySem.W.keepIn K (.ref fFRule) = true)
    (aFault : PySem.W.nsIn K mainGlobals "fault_of" = some (some (.ref fFault)))
    (lFault : K.lookup fFault = some ⟨ocFault, odFault, .func (PySem.W.fnOf "fault_of" "fault_of" (defArgs sFault) (defBody sFault) (defScope sFault) .none kVFault dcFault pmFault anFault cdFault ctFault), slFault⟩)
    (cFault : PySem.W.codeIn K cdFault "fault_of" = true)
    (kFault : PySem.W.keepIn K (.ref fFault) = true)
    (aHolds : PySem.W.nsIn K mainGlobals "holds" = some (some (.ref fHolds)))
    (lHolds : K.lookup fHolds = some ⟨ocHolds, odHolds, .func (PySem.W.fnOf "holds" "holds" (defArgs sHolds) (defBody sHolds) (defScope sHolds) .none kVHolds dcHolds pmHolds anHolds cdHolds ctHolds), slHolds⟩)
    (cHolds : PySem.W.codeIn K cdHolds "holds" = true)
    (kHolds : PySem.W.keepIn K (.ref fHolds) = true)
    (aNamesIn : PySem.W.nsIn K mainGlobals "names_in" = some (some (.ref fNamesIn)))
    (lNamesIn : K.lookup fNamesIn = some ⟨ocNamesIn, odNamesIn, .func (PySem.W.fnOf "names_in" "names_in" (defArgs sNamesIn) (defBody sNamesIn) (defScope sNamesIn) .none kVNamesIn dcNamesIn pmNamesIn anNamesIn cdNamesIn ctNamesIn), slNamesIn⟩)
    (cNamesIn : PySem.W.codeIn K cdNamesIn "names_in" = true)
    (kNamesIn : PySem.W.keepIn K (.ref fNamesIn) = true)
    (aCheckH : PySem.W.nsIn K mainGlobals "check_house" = some (some (.ref fCheckH)))
    (lCheckH : K.lookup fCheckH = some ⟨ocCheckH, odCheckH, .func (PySem.W.fnOf "check_house" "check_house" (defArgs sCheckH) (defBody sCheckH) (defScope sCheckH) .none kVCheckH dcCheckH pmCheckH anCheckH cdCheckH ctCheckH), slCheckH⟩)
    (cCheckH : PySem.W.codeIn K cdCheckH "check_house" = true)
    (kCheckH : PySem.W.keepIn K (.ref fCheckH) = true)
    (aCheckW : PySem.W.nsIn K mainGlobals "check_wish" = some (some (.ref fCheckW)))
    (lCheckW : K.lookup fCheckW = some ⟨ocCheckW, odCheckW, .func (PySem.W.fnOf "check_wish" "check_wish" (defArgs sCheckW) (defBody sCheckW) (defScope sCheckW) .none kVCheckW dcCheckW pmCheckW anCheckW cdCheckW ctCheckW), slCheckW⟩)
    (cCheckW : PySem.W.codeIn K cdCheckW "check_wish" = true)
    (kCheckW : PySem.W.keepIn K (.ref fCheckW) = true)
    (aIsWish : PySem.W.nsIn K mainGlobals "is_wish" = some (some (.ref fIsWish)))
    (lIsWish : K.lookup fIsWish = some ⟨ocIsWish, odIsWish, .func (PySem.W.fnOf "is_wish" "is_wish" (defArgs sIsWish) (defBody sIsWish) (defScope sIsWish) .none kVIsWish dcIsWish pmIsWish anIsWish cdIsWish ctIsWish), slIsWish⟩)
    (cIsWish : PySem.W.codeIn K cdIsWish "is_wish" = true)
    (kIsWish : PySem.W.keepIn K (.ref fIsWish) = true)
    (aCheckN : PySem.W.nsIn K mainGlobals "check_numbers" = some (some (.ref fCheckN)))
    (lCheckN : K.lookup fCheckN = some ⟨ocCheckN, odCheckN, .func (PySem.W.fnOf "check_numbers" "check_numbers" (defArgs sCheckN) (defBody sCheckN) (defScope sCheckN) .none kVCheckN dcCheckN pmCheckN anCheckN cdCheckN ctCheckN), slCheckN⟩)
    (cCheckN : PySem.W.codeIn K cdCheckN "check_numbers" = true)
    (kCheckN : PySem.W.keepIn K (.ref fCheckN) = true)
    (aPen : PySem.W.nsIn K mainGlobals "_law_pen" = some (some (.ref fPen)))
    (lPen : K.lookup fPen = some ⟨ocPen, odPen, .func (PySem.W.fnOf "_law_pen" "_law_pen" (defArgs sPen) (defBody sPen) (defScope sPen) .none kVPen dcPen pmPen anPen cdPen ctPen), slPen⟩)
    (cPen : PySem.W.codeIn K cdPen "_law_pen" = true)
    (kPen : PySem.W.keepIn K (.ref fPen) = true)
    (aDraw : PySem.W.nsIn K mainGlobals "_law_draw" = some (some (.ref fDraw)))
    (lDraw : K.lookup fDraw = some ⟨ocDraw, odDraw, .func (PySem.W.fnOf "_law_draw" "_law_draw" (defArgs sDraw) (defBody sDraw) (defScope sDraw) .none kVDraw dcDraw pmDraw anDraw cdDraw ctDraw), slDraw⟩)
    (cDraw : PySem.W.codeIn K cdDraw "_law_draw" = true)
    (kDraw : PySem.W.keepIn K (.ref fDraw) = true)
    (aPick : PySem.W.nsIn K mainGlobals "_law_pick" = some (some (.ref fPick)))
    (lPick : K.lookup fPick = some ⟨ocPick, odPick, .func (PySem.W.fnOf "_law_pick" "_law_pick" (defArgs sPick) (defBody sPick) (defScope sPick) .none kVPick dcPick pmPick anPick cdPick ctPick), slPick⟩)
    (cPick : PySem.W.codeIn K cdPick "_law_pick" = true)
    (kPick : PySem.W.keepIn K (.ref fPick) = true)
    (aShuf : PySem.W.nsIn K mainGlobals "_law_shuffled" = some (some (.ref fShuf)))
    (lShuf : K.lookup fShuf = some ⟨ocShuf, odShuf, .func (PySem.W.fnOf "_law_shuffled" "_law_shuffled" (defArgs sShuf) (defBody sShuf) (defScope sShuf) .none kVShuf dcShuf pmShuf anShuf cdShuf ctShuf), slShuf⟩)
    (cShuf : PySem.W.codeIn K cdShuf "_law_shuffled" = true)
    (kShuf : PySem.W.keepIn K (.ref fShuf) = true)
    (aNames : PySem.W.nsIn K mainGlobals "_law_names" = some (some (.ref fNames)))
    (lNames : K.lookup fNames = some ⟨ocNames, odNames, .func (PySem.W.fnOf "_law_names" "_law_names" (defArgs sNames) (defBody sNames) (defScope sNames) .none kVNames dcNames pmNames anNames cdNames ctNames), slNames⟩)
    (cNames : PySem.W.codeIn K cdNames "_law_names" = true)
    (kNames : PySem.W.keepIn K (.ref fNames) = true)
    (aAny : PySem.W.nsIn K mainGlobals "_law_any" = some (some (.ref fAny)))
    (lAny : K.lookup fAny = some ⟨ocAny, odAny, .func (PySem.W.fnOf "_law_any" "_law_any" (defArgs sAny) (defBody sAny) (defScope sAny) .none kVAny dcAny pmAny anAny cdAny ctAny), slAny⟩)
    (cAny : PySem.W.codeIn K cdAny "_law_any" = true)
    (kAny : PySem.W.keepIn K (.ref fAny) = true)
    (aFrom : PySem.W.nsIn K mainGlobals "_law_from" = some (some (.ref fFrom)))
    (lFrom : K.lookup fFrom = some ⟨ocFrom, odFrom, .func (PySem.W.fnOf "_law_from" "_law_from" (defArgs sFrom) (defBody sFrom) (defScope sFrom) .none kVFrom dcFrom pmFrom anFrom cdFrom ctFrom), slFrom⟩)
    (cFrom : PySem.W.codeIn K cdFrom "_law_from" = true)
    (kFrom : PySem.W.keepIn K (.ref fFrom) = true)
    (aPriceL : PySem.W.nsIn K mainGlobals "_law_price" = some (some (.ref fPriceL)))
    (lPriceL : K.lookup fPriceL = some ⟨ocPriceL, odPriceL, .func (PySem.W.fnOf "_law_price" "_law_price" (defArgs sPriceL) (defBody sPriceL) (defScope sPriceL) .none kVPriceL dcPriceL pmPriceL anPriceL cdPriceL ctPriceL), slPriceL⟩)
    (cPriceL : PySem.W.codeIn K cdPriceL "_law_price" = true)
    (kPriceL : PySem.W.keepIn K (.ref fPriceL) = true)
    (aDialL : PySem.W.nsIn K mainGlobals "_law_dial" = some (some (.ref fDialL)))
    (lDialL : K.lookup fDialL = some ⟨ocDialL, odDialL, .func (PySem.W.fnOf "_law_dial" "_law_dial" (defArgs sDial) (defBody sDial) (defScope sDial) .none kVDialL dcDialL pmDialL anDialL cdDialL ctDialL), slDialL⟩)
    (cDialL : PySem.W.codeIn K cdDialL "_law_dial" = true)
    (kDialL : PySem.W.keepIn K (.ref fDialL) = true)
    (aSayL : PySem.W.nsIn K mainGlobals "_law_saying" = some (some (.ref fSayL)))
    (lSayL : K.lookup fSayL = some ⟨ocSayL, odSayL, .func (PySem.W.fnOf "_law_saying" "_law_saying" (defArgs sSay) (defBody sSay) (defScope sSay) .none kVSayL dcSayL pmSayL anSayL cdSayL ctSayL), slSayL⟩)
    (cSayL : PySem.W.codeIn K cdSayL "_law_saying" = true)
    (kSayL : PySem.W.keepIn K (.ref fSayL) = true)
    (aTSay : PySem.W.nsIn K mainGlobals "_law_true_saying" = some (some (.ref fTSay)))
    (lTSay : K.lookup fTSay = some ⟨ocTSay, odTSay, .func (PySem.W.fnOf "_law_true_saying" "_law_true_saying" (defArgs sTSay) (defBody sTSay) (defScope sTSay) .none kVTSay dcTSay pmTSay anTSay cdTSay ctTSay), slTSay⟩)
    (cTSay : PySem.W.codeIn K cdTSay "_law_true_saying" = true)
    (kTSay : PySem.W.keepIn K (.ref fTSay) = true)
    (aTRule : PySem.W.nsIn K mainGlobals "_law_true_rule" = some (some (.ref fTRule)))
    (lTRule : K.lookup fTRule = some ⟨ocTRule, odTRule, .func (PySem.W.fnOf "_law_true_rule" "_law_true_rule" (defArgs sTRule) (defBody sTRule) (defScope sTRule) .none kVTRule dcTRule pmTRule anTRule cdTRule ctTRule), slTRule⟩)
    (cTRule : PySem.W.codeIn K cdTRule "_law_true_rule" = true)
    (kTRule : PySem.W.keepIn K (.ref fTRule) = true)
    (aHouseL : PySem.W.nsIn K mainGlobals "_law_house" = some (some (.ref fHouseL)))
    (lHouseL : K.lookup fHouseL = some ⟨ocHouseL, odHouseL, .func (PySem.W.fnOf "_law_house" "_law_house" (defArgs sHouseL) (defBody sHouseL) (defScope sHouseL) .none kVHouseL dcHouseL pmHouseL anHouseL cdHouseL ctHouseL), slHouseL⟩)
    (cHouseL : PySem.W.codeIn K cdHouseL "_law_house" = true)
    (kHouseL : PySem.W.keepIn K (.ref fHouseL) = true)
    (aOdd : PySem.W.nsIn K mainGlobals "_law_odd" = some (some (.ref fOdd)))
    (lOdd : K.lookup fOdd = some ⟨ocOdd, odOdd, .func (PySem.W.fnOf "_law_odd" "_law_odd" (defArgs sOdd) (defBody sOdd) (defScope sOdd) .none kVOdd dcOdd pmOdd anOdd cdOdd ctOdd), slOdd⟩)
    (cOdd : PySem.W.codeIn K cdOdd "_law_odd" = true)
    (kOdd : PySem.W.keepIn K (.ref fOdd) = true)
    (aBent : PySem.W.nsIn K mainGlobals "_law_bent" = some (some (.ref fBent)))
    (lBent : K.lookup fBent = some ⟨ocBent, odBent, .func (PySem.W.fnOf "_law_bent" "_law_bent" (defArgs sBent) (defBody sBent) (defScope sBent) .none kVBent dcBent pmBent anBent cdBent ctBent), slBent⟩)
    (cBent : PySem.W.codeIn K cdBent "_law_bent" = true)
    (kBent : PySem.W.keepIn K (.ref fBent) = true)
    (aLWhole : PySem.W.nsIn K mainGlobals "_law_whole" = some (some (.ref fLWhole)))
    (lLWhole : K.lookup fLWhole = some ⟨ocLWhole, odLWhole, .func (PySem.W.fnOf "_law_whole" "_law_whole" (defArgs sLWhole) (defBody sLWhole) (defScope sLWhole) .none kVLWhole dcLWhole pmLWhole anLWhole cdLWhole ctLWhole), slLWhole⟩)
    (cLWhole : PySem.W.codeIn K cdLWhole "_law_whole" = true)
    (kLWhole : PySem.W.keepIn K (.ref fLWhole) = true)
    (aLSaid : PySem.W.nsIn K mainGlobals "_law_said" = some (some (.ref fLSaid)))
    (lLSaid : K.lookup fLSaid = some ⟨ocLSaid, odLSaid, .func (PySem.W.fnOf "_law_said" "_law_said" (defArgs sLSaid) (defBody sLSaid) (defScope sLSaid) .none kVLSaid dcLSaid pmLSaid anLSaid cdLSaid ctLSaid), slLSaid⟩)
    (cLSaid : PySem.W.codeIn K cdLSaid "_law_said" = true)
    (kLSaid : PySem.W.keepIn K (.ref fLSaid) = true)
    (aLNamed : PySem.W.nsIn K mainGlobals "_law_named" = some (some (.ref fLNamed)))
    (lLNamed : K.lookup fLNamed = some ⟨ocLNamed, odLNamed, .func (PySem.W.fnOf "_law_named" "_law_named" (defArgs sLNamed) (defBody sLNamed) (defScope sLNamed) .none kVLNamed dcLNamed pmLNamed anLNamed cdLNamed ctLNamed), slLNamed⟩)
    (cLNamed : PySem.W.codeIn K cdLNamed "_law_named" = true)
    (kLNamed : PySem.W.keepIn K (.ref fLNamed) = true)
    (aLNums : PySem.W.nsIn K mainGlobals "_law_numbers" = some (some (.ref fLNums)))
    (lLNums : K.lookup fLNums = some ⟨ocLNums, odLNums, .func (PySem.W.fnOf "_law_numbers" "_law_numbers" (defArgs sLNums) (defBody sLNums) (defScope sLNums) .none kVLNums dcLNums pmLNums anLNums cdLNums ctLNums), slLNums⟩)
    (cLNums : PySem.W.codeIn K cdLNums "_law_numbers" = true)
    (kLNums : PySem.W.keepIn K (.ref fLNums) = true)
    (aLTold : PySem.W.nsIn K mainGlobals "_law_told" = some (some (.ref fLTold)))
    (lLTold : K.lookup fLTold = some ⟨ocLTold, odLTold, .func (PySem.W.fnOf "_law_told" "_law_told" (defArgs sLTold) (defBody sLTold) (defScope sLTold) .none kVLTold dcLTold pmLTold anLTold cdLTold ctLTold), slLTold⟩)
    (cLTold : PySem.W.codeIn K cdLTold "_law_told" = true)
    (kLTold : PySem.W.keepIn K (.ref fLTold) = true)
    (aLSay : PySem.W.nsIn K mainGlobals "_law_is_saying" = some (some (.ref fLSay)))
    (lLSay : K.lookup fLSay = some ⟨ocLSay, odLSay, .func (PySem.W.fnOf "_law_is_saying" "_law_is_saying" (defArgs sLSay) (defBody sLSay) (defScope sLSay) .none kVLSay dcLSay pmLSay anLSay cdLSay ctLSay), slLSay⟩)
    (cLSay : PySem.W.codeIn K cdLSay "_law_is_saying" = true)
    (kLSay : PySem.W.keepIn K (.ref fLSay) = true)
    (aLIsWish : PySem.W.nsIn K mainGlobals "_law_is_wish" = some (some (.ref fLIsWish)))
    (lLIsWish : K.lookup fLIsWish = some ⟨ocLIsWish, odLIsWish, .func (PySem.W.fnOf "_law_is_wish" "_law_is_wish" (defArgs sLIsWish) (defBody sLIsWish) (defScope sLIsWish) .none kVLIsWish dcLIsWish pmLIsWish anLIsWish cdLIsWish ctLIsWish), slLIsWish⟩)
    (cLIsWish : PySem.W.codeIn K cdLIsWish "_law_is_wish" = true)
    (kLIsWish : PySem.W.keepIn K (.ref fLIsWish) = true)
    (aLWish : PySem.W.nsIn K mainGlobals "_law_wish" = some (some (.ref fLWish)))
    (lLWish : K.lookup fLWish = some ⟨ocLWish, odLWish, .func (PySem.W.fnOf "_law_wish" "_law_wish" (defArgs sLWish) (defBody sLWish) (defScope sLWish) .none kVLWish dcLWish pmLWish anLWish cdLWish ctLWish), slLWish⟩)
    (cLWish : PySem.W.codeIn K cdLWish "_law_wish" = true)
    (kLWish : PySem.W.keepIn K (.ref fLWish) = true)
    (aLClose : PySem.W.nsIn K mainGlobals "_law_close" = some (some (.ref fLClose)))
    (lLClose : K.lookup fLClose = some ⟨ocLClose, odLClose, .func (PySem.W.fnOf "_law_close" "_law_close" (defArgs sLClose) (defBody sLClose) (defScope sLClose) .none kVLClose dcLClose pmLClose anLClose cdLClose ctLClose), slLClose⟩)
    (cLClose : PySem.W.codeIn K cdLClose "_law_close" = true)
    (kLClose : PySem.W.keepIn K (.ref fLClose) = true)
    (aLaw : PySem.W.nsIn K mainGlobals "law" = some (some (.ref fLaw)))
    (lLaw : K.lookup fLaw = some ⟨ocLaw, odLaw, .func (PySem.W.fnOf "law" "law" (defArgs sLaw) (defBody sLaw) (defScope sLaw) .none kVLaw dcLaw pmLaw anLaw cdLaw ctLaw), slLaw⟩)
    (cLaw : PySem.W.codeIn K cdLaw "law" = true)
    (kLaw : PySem.W.keepIn K (.ref fLaw) = true)
    (aInit : PySem.W.findIn K (.ref cL) "__init__" = some (some (.ref fInit)))
    (lInit : K.lookup fInit = some ⟨ocInit, odInit, .func (PySem.W.fnOf "__init__" "Layout.__init__" (defArgs sInit) (defBody sInit) (defScope sInit) .none kVInit dcInit pmInit anInit cdInit ctInit), slInit⟩)
    (cInit : PySem.W.codeIn K cdInit "Layout.__init__" = true)
    (kInit : PySem.W.keepIn K (.ref fInit) = true)
    (aByN : PySem.W.findIn K (.ref cL) "by_names" = some (some (.ref fByN)))
    (lByN : K.lookup fByN = some ⟨ocByN, odByN, .func (PySem.W.fnOf "by_names" "Layout.by_names" (defArgs sByN) (defBody sByN) (defScope sByN) .none kVByN dcByN pmByN anByN cdByN ctByN), slByN⟩)
    (cByN : PySem.W.codeIn K cdByN "Layout.by_names" = true)
    (kByN : PySem.W.keepIn K (.ref fByN) = true)
    (y_far : PySem.W.nsIn K mainGlobals "FARTHEST" = some (some (.int 1000000000000000000 t_far)))
    (y_great : PySem.W.nsIn K mainGlobals "GREATEST" = some (some (.int 100000000000000000000 t_great)))
    (y_dear : PySem.W.nsIn K mainGlobals "DEAREST" = some (some (.int 1000000 t_dear)))
    (y_long : PySem.W.nsIn K mainGlobals "LONGEST_NAME" = some (some (.int 8 t_long)))
    (y_dials : PySem.W.nsIn K mainGlobals "MOST_DIALS" = some (some (.int 12 t_dials)))
    (y_rules : PySem.W.nsIn K mainGlobals "MOST_RULES" = some (some (.int 40 t_rules)))
    (y_says : PySem.W.nsIn K mainGlobals "MOST_SAYINGS" = some (some (.int 20 t_says)))
    (y_W : PySem.W.nsIn K mainGlobals "WAYS" = some (some (.ref qW)))
    (y_S : PySem.W.nsIn K mainGlobals "SORTS" = some (some (.ref qS)))
    (y_R : PySem.W.nsIn K mainGlobals "PAIR_RULES" = some (some (.ref qR)))
    (z_isinstance : PySem.W.nsIn K mainGlobals "isinstance" = some none)
    (z_bool : PySem.W.nsIn K mainGlobals "bool" = some none)
    (z_int : PySem.W.nsIn K mainGlobals "int" = some none)
    (z_str : PySem.W.nsIn K mainGlobals "str" = some none)
    (z_tuple : PySem.W.nsIn K mainGlobals "tuple" = some none)
    (z_list : PySem.W.nsIn K mainGlobals "list" = some none)
    (z_len : PySem.W.nsIn K mainGlobals "len" = some none)
    (z_all : PySem.W.nsIn K mainGlobals "all" = some none)
    (z_enumerate : PySem.W.nsIn K mainGlobals "enumerate" = some none)
    (z_abs : PySem.W.nsIn K mainGlobals "abs" = some none)
    (z_dict : PySem.W.nsIn K mainGlobals "dict" = some none)
    (z_range : PySem.W.nsIn K mainGlobals "range" = some none)
    (z_repr : PySem.W.nsIn K mainGlobals "repr" = some none)
    (z_sorted : PySem.W.nsIn K mainGlobals "sorted" = some none)
    (z_min : PySem.W.nsIn K mainGlobals "min" = some none)
    (z_max : PySem.W.nsIn K mainGlobals "max" = some none)
    (z_zip : PySem.W.nsIn K mainGlobals "zip" = some none)
    (z_ValueError : PySem.W.nsIn K mainGlobals "ValueError" = some none)
    (hTIsName : PySem.W.tabIn K "is_name" = some (xIsName, PIsName))
    (hPIsName : K.lookup PIsName = none)
    (hrIsName : ((PyProof.Rows.recsOf q).find? (fun e => e.name == ("is_name" : Str))).isSome = true)
    (hTAreN : PySem.W.tabIn K "are_numbers" = some (xAreN, PAreN))
    (hPAreN : K.lookup PAreN = none)
    (hrAreN : ((PyProof.Rows.recsOf q).find? (fun e => e.name == ("are_numbers" : Str))).isSome = true)
    (hTWell : PySem.W.tabIn K "wishes_well" = some (xWell, PWell))
    (hPWell : K.lookup PWell = none)
    (hrWell : ((PyProof.Rows.recsOf q).find? (fun e => e.name == ("wishes_well" : Str))).isSome = true)
    (hTMeets : PySem.W.tabIn K "meets" = some (xMeets, PMeets))
    (hPMeets : K.lookup PMeets = none)
    (hrMeets : ((PyProof.Rows.recsOf q).find? (fun e => e.name == ("meets" : Str))).isSome = true)
    (hchk : (strsB K qW ways3 && (strsB K qS sorts2 && strsB K qR pairs3)) = true)
    (hcls : clsB K cL cN cS cW cV cD fInit fByN = true)
    : ∃ (fd : FuncData) (cs : List (Addr × Addr)), (∀ p ∈ cs, ∃ (y : Str) (dr : PySem.DefRec), (PyProof.Rows.recsOf q).find? (fun e => e.name == y) = some dr ∧ PySem.W.tabIn K y = some p ∧ K.lookup p.2 = none) ∧
      (∀ (s : Shared) (u : Value), BindsTo s fd ⟨[u], []⟩ [("_law_script", u)]) ∧ ∀ bs : Heap, K.In bs → bs.Ns mainGlobals mg → (∀ p ∈ cs, GxR.TabB bs mg p.1 p.2) → FnG l.prog w K mg bs 18 fa fd ["_law_script"] (spLaw K cs) := by
  have e := hfa.symm.trans (PySem.W.mg_of X G aLaw)
  cases e
  obtain ⟨dr1, hdr1⟩ := Option.isSome_iff_exists.mp hrIsName
  obtain ⟨dr2, hdr2⟩ := Option.isSome_iff_exists.mp hrAreN
  rw [Bool.and_eq_true, Bool.and_eq_true] at hchk
  simp only [clsB, Bool.and_eq_true, decide_eq_true_eq] at hcls
  obtain ⟨⟨u1, u2, u3, u4⟩, ⟨u5, u6, u7, u8⟩, ⟨u9, u10, u11, u12⟩, ⟨u13, u14, u15, u16⟩, ⟨w13, w14, w15, w16⟩, ⟨u17, u18, u19, u20, u21⟩, w17, w18, w19, w20, w21⟩ := hcls
  obtain ⟨dr3, hdr3⟩ := Option.isSome_iff_exists.mp hrWell
  obtain ⟨dr4, hdr4⟩ := Option.isSome_iff_exists.mp hrMeets
  have BH : BltH mg := ⟨PySem.W.mg_none_of X G z_isinstance, PySem.W.mg_none_of X G z_bool, PySem.W.mg_none_of X G z_int, PySem.W.mg_none_of X G z_str, PySem.W.mg_none_of X G z_tuple, PySem.W.mg_none_of X G z_list, PySem.W.mg_none_of X G z_len, PySem.W.mg_none_of X G z_all, PySem.W.mg_none_of X G z_enumerate⟩
  have B : Blt mg := ⟨PySem.W.mg_none_of X G z_len, PySem.W.mg_none_of X G z_abs, PySem.W.mg_none_of X G z_list, PySem.W.mg_none_of X G z_tuple, PySem.W.mg_none_of X G z_dict, PySem.W.mg_none_of X G z_isinstance, PySem.W.mg_none_of X G z_range, PySem.W.mg_none_of X G z_repr, PySem.W.mg_none_of X G z_sorted, PySem.W.mg_none_of X G z_min, PySem.W.mg_none_of X G z_max, PySem.W.mg_none_of X G z_int, PySem.W.mg_none_of X G z_str⟩
  have C : Cons K mg qW qS qR := ⟨⟨_, PySem.W.mg_of X G y_far⟩, ⟨_, PySem.W.mg_of X G y_great⟩, ⟨_, PySem.W.mg_of X G y_dear⟩, ⟨_, PySem.W.mg_of X G y_long⟩, ⟨_, PySem.W.mg_of X G y_dials⟩, ⟨_, PySem.W.mg_of X G y_rules⟩, PySem.W.mg_of X G y_W, PySem.W.mg_of X G y_S, PySem.W.mg_of X G y_R, strsB_ok hchk.1, strsB_ok hchk.2.1, strsB_ok hchk.2.2⟩
  have mz := PySem.W.mg_none_of X G z_zip
  have T : LayTxt K mg cL := ⟨⟨u1, u2, u3, u4⟩, u5, u6, u7, u8, PySem.W.mg_of X G gL⟩
  have R : RefTxt K mg "NoNumbers" cN := ⟨u13, PySem.W.mg_of X G gN, u14, u15, u16⟩
  have R2 : RefTxt K mg "NoWish" cW := ⟨w13, PySem.W.mg_of X G gW, w14, w15, w16⟩
  have CT : ClsTxt3 K mg cN cW cS cV cD := ⟨PySem.W.mg_of X G gN, PySem.W.mg_of X G gW, PySem.W.mg_of X G gS, PySem.W.mg_of X G gV, PySem.W.mg_of X G gD, excCB_ok u17, u18, u19, u20, u21, excCB_ok w17, w18, w19, w20, w21⟩
  have hms := PySem.W.mg_of X G y_says
  have M : Mk K cL fInit := ⟨u9, aInit, u10, u12⟩
  have MB : Meth K cL "by_names" fByN := ⟨aByN, u11, kByN⟩
  have FIsName := fun_mk (st := sIsName) lIsName cIsName kIsName
  have mIsName := PySem.W.mg_of X G aIsName
  have bIsName := FIsName.binds (ps := ["thing"]) fun _ _ _ _ _ _ us hl => match us, hl with | [_], _ => rfl
  have FAreN := fun_mk (st := sAreN) lAreN cAreN kAreN
  have mAreN := PySem.W.mg_of X G aAreN
  have bAreN := FAreN.binds (ps := ["house", "thing"]) fun _ _ _ _ _ _ us hl => match us, hl with | [_, _], _ => rfl
  have FWell := fun_mk (st := sWell) lWell cWell kWell
  have mWell := PySem.W.mg_of X G aWell
  have bWell := FWell.binds (ps := ["house", "thing"]) fun _ _ _ _ _ _ us hl => match us, hl with | [_, _], _ => rfl
  have FMeets := fun_mk (st := sMeets) lMeets cMeets kMeets
  have mMeets := PySem.W.mg_of X G aMeets
  have bMeets := FMeets.binds (ps := ["house", "numbers", "wish"]) fun _ _ _ _ _ _ us hl => match us, hl with | [_, _, _], _ => rfl
  have FWhole := fun_mk (st := sWhole) lWhole cWhole kWhole
  have mWhole := PySem.W.mg_of X G aWhole
  have bWhole := FWhole.binds (ps := ["thing", "low", "high"]) fun _ _ _ _ _ _ us hl => match us, hl with | [_, _, _], _ => rfl
  have FTupOf := fun_mk (st := sTupOf) lTupOf cTupOf kTupOf
  have mTupOf := PySem.W.mg_of X G aTupOf
  have bTupOf := FTupOf.binds (ps := ["thing", "least", "most"]) fun _ _ _ _ _ _ us hl => match us, hl with | [_, _, _], _ => rfl
  have FPrice := fun_mk (st := sPrice) lPrice cPrice kPrice
  have mPrice := PySem.W.mg_of X G aPrice
  have bPrice := FPrice.binds (ps := ["thing"]) fun _ _ _ _ _ _ us hl => match us, hl with | [_], _ => rfl
  have FIsDial := fun_mk (st := sIsDial) lIsDial cIsDial kIsDial
  have mIsDial := PySem.W.mg_of X G aIsDial
  have bIsDial := FIsDial.binds (ps := ["thing"]) fun _ _ _ _ _ _ us hl => match us, hl with | [_], _ => rfl
  have FIsSaying := fun_mk (st := sIsSaying) lIsSaying cIsSaying kIsSaying
  have mIsSaying := PySem.W.mg_of X G aIsSaying
  have bIsSaying := FIsSaying.binds (ps := ["names", "thing"]) fun _ _ _ _ _ _ us hl => match us, hl with | [_, _], _ => rfl
  have FIsRule := fun_mk (st := sIsRule) lIsRule cIsRule kIsRule
  have mIsRule := PySem.W.mg_of X G aIsRule
  have bIsRule := FIsRule.binds (ps := ["names", "thing"]) fun _ _ _ _ _ _ us hl => match us, hl with | [_, _], _ => rfl
  have FForm := fun_mk (st := sForm) lForm cForm kForm
  have mForm := PySem.W.mg_of X G aForm
  have bForm := FForm.binds (ps := ["thing"]) fun _ _ _ _ _ _ us hl => match us, hl with | [_], _ => rfl
  have FFDial := fun_mk (st := sFDial) lFDial cFDial kFDial
  have mFDial := PySem.W.mg_of X G aFDial
  have bFDial := FFDial.binds (ps := ["dials"]) fun _ _ _ _ _ _ us hl => match us, hl with | [_], _ => rfl
  have FFRule := fun_mk (st := sFRule) lFRule cFRule kFRule
  have mFRule := PySem.W.mg_of X G aFRule
  have bFRule := FFRule.binds (ps := ["names", "rules"]) fun _ _ _ _ _ _ us hl => match us, hl with | [_, _], _ => rfl
  have FFault := fun_mk (st := sFault) lFault cFault kFault
  have mFault := PySem.W.mg_of X G aFault
  have bFault := FFault.binds (ps := ["thing"]) fun _ _ _ _ _ _ us hl => match us, hl with | [_], _ => rfl
  have FHolds := fun_mk (st := sHolds) lHolds cHolds kHolds
  have mHolds := PySem.W.mg_of X G aHolds
  have bHolds := FHolds.binds (ps := ["saying", "now"]) fun _ _ _ _ _ _ us hl => match us, hl with | [_, _], _ => rfl
  have FNamesIn := fun_mk (st := sNamesIn) lNamesIn cNamesIn kNamesIn
  have mNamesIn := PySem.W.mg_of X G aNamesIn
  have bNamesIn := FNamesIn.binds (ps := ["rule"]) fun _ _ _ _ _ _ us hl => match us, hl with | [_], _ => rfl
  have FCheckH := fun_mk (st := sCheckH) lCheckH cCheckH kCheckH
  have mCheckH := PySem.W.mg_of X G aCheckH
  have bCheckH := FCheckH.binds (ps := ["house"]) fun _ _ _ _ _ _ us hl => match us, hl with | [_], _ => rfl
  have FCheckW := fun_mk (st := sCheckW) lCheckW cCheckW kCheckW
  have mCheckW := PySem.W.mg_of X G aCheckW
  have bCheckW := FCheckW.binds (ps := ["house", "wish"]) fun _ _ _ _ _ _ us hl => match us, hl with | [_, _], _ => rfl
  have FIsWish := fun_mk (st := sIsWish) lIsWish cIsWish kIsWish
  have mIsWish := PySem.W.mg_of X G aIsWish
  have bIsWish := FIsWish.binds (ps := ["house", "thing"]) fun _ _ _ _ _ _ us hl => match us, hl with | [_, _], _ => rfl
  have FCheckN := fun_mk (st := sCheckN) lCheckN cCheckN kCheckN
  have mCheckN := PySem.W.mg_of X G aCheckN
  have bCheckN := FCheckN.binds (ps := ["house", "numbers"]) fun _ _ _ _ _ _ us hl => match us, hl with | [_, _], _ => rfl
  have FPen := fun_mk (st := sPen) lPen cPen kPen
  have mPen := PySem.W.mg_of X G aPen
  have bPen := FPen.binds (ps := ["_law_script"]) fun _ _ _ _ _ _ us hl => match us, hl with | [_], _ => rfl
  have FDraw := fun_mk (st := sDraw) lDraw cDraw kDraw
  have mDraw := PySem.W.mg_of X G aDraw
  have bDraw := FDraw.binds (ps := ["_law_pen_here", "_law_many"]) fun _ _ _ _ _ _ us hl => match us, hl with | [_, _], _ => rfl
  have FPick := fun_mk (st := sPick) lPick cPick kPick
  have mPick := PySem.W.mg_of X G aPick
  have bPick := FPick.binds (ps := ["_law_pen_here", "_law_some"]) fun _ _ _ _ _ _ us hl => match us, hl with | [_, _], _ => rfl
  have FShuf := fun_mk (st := sShuf) lShuf cShuf kShuf
  have mShuf := PySem.W.mg_of X G aShuf
  have bShuf := FShuf.binds (ps := ["_law_pen_here", "_law_some"]) fun _ _ _ _ _ _ us hl => match us, hl with | [_, _], _ => rfl
  have FNames := fun_mk (st := sNames) lNames cNames kNames
  have mNames := PySem.W.mg_of X G aNames
  have bNames := FNames.binds (ps := ["_law_pen_here", "_law_many"]) fun _ _ _ _ _ _ us hl => match us, hl with | [_, _], _ => rfl
  have FAny := fun_mk (st := sAny) lAny cAny kAny
  have mAny := PySem.W.mg_of X G aAny
  have bAny := FAny.binds (ps := ["_law_pen_here", "_law_upto"]) fun _ _ _ _ _ _ us hl => match us, hl with | [_, _], _ => rfl
  have FFrom := fun_mk (st := sFrom) lFrom cFrom kFrom
  have mFrom := PySem.W.mg_of X G aFrom
  have bFrom := FFrom.binds (ps := ["_law_pen_here", "_law_low", "_law_high"]) fun _ _ _ _ _ _ us hl => match us, hl with | [_, _, _], _ => rfl
  have FPriceL := fun_mk (st := sPriceL) lPriceL cPriceL kPriceL
  have mPriceL := PySem.W.mg_of X G aPriceL
  have bPriceL := FPriceL.binds (ps := ["_law_pen_here"]) fun _ _ _ _ _ _ us hl => match us, hl with | [_], _ => rfl
  have FDialL := fun_mk (st := sDial) lDialL cDialL kDialL
  have mDialL := PySem.W.mg_of X G aDialL
  have bDialL := FDialL.binds (ps := ["_law_pen_here", "_law_name", "_law_wide"]) fun _ _ _ _ _ _ us hl => match us, hl with | [_, _, _], _ => rfl
  have FSayL := fun_mk (st := sSay) lSayL cSayL kSayL
  have mSayL := PySem.W.mg_of X G aSayL
  have bSayL := FSayL.binds (ps := ["_law_pen_here", "_law_names_here", "_law_numbers_here"]) fun _ _ _ _ _ _ us hl => match us, hl with | [_, _, _], _ => rfl
  have FTSay := fun_mk (st := sTSay) lTSay cTSay kTSay
  have mTSay := PySem.W.mg_of X G aTSay
  have bTSay := FTSay.binds (ps := ["_law_pen_here", "_law_at", "_law_slack"]) fun _ _ _ _ _ _ us hl => match us, hl with | [_, _, _], _ => rfl
  have FTRule := fun_mk (st := sTRule) lTRule cTRule kTRule
  have mTRule := PySem.W.mg_of X G aTRule
  have bTRule := FTRule.binds (ps := ["_law_pen_here", "_law_at", "_law_slack"]) fun _ _ _ _ _ _ us hl => match us, hl with | [_, _, _], _ => rfl
  have FHouseL := fun_mk (st := sHouseL) lHouseL cHouseL kHouseL
  have mHouseL := PySem.W.mg_of X G aHouseL
  have bHouseL := FHouseL.binds (ps := ["_law_pen_here", "_law_many", "_law_wide", "_law_rules"]) fun _ _ _ _ _ _ us hl => match us, hl with | [_, _, _, _], _ => rfl
  have FOdd := fun_mk (st := sOdd) lOdd cOdd kOdd
  have mOdd := PySem.W.mg_of X G aOdd
  have bOdd := FOdd.binds (ps := ["_law_pen_here"]) fun _ _ _ _ _ _ us hl => match us, hl with | [_], _ => rfl
  have FBent := fun_mk (st := sBent) lBent cBent kBent
  have mBent := PySem.W.mg_of X G aBent
  have bBent := FBent.binds (ps := ["_law_pen_here", "_law_thing"]) fun _ _ _ _ _ _ us hl => match us, hl with | [_, _], _ => rfl
  have FLWhole := fun_mk (st := sLWhole) lLWhole cLWhole kLWhole
  have mLWhole := PySem.W.mg_of X G aLWhole
  have bLWhole := FLWhole.binds (ps := ["_law_thing", "_law_low", "_law_high"]) fun _ _ _ _ _ _ us hl => match us, hl with | [_, _, _], _ => rfl
  have FLSaid := fun_mk (st := sLSaid) lLSaid cLSaid kLSaid
  have mLSaid := PySem.W.mg_of X G aLSaid
  have bLSaid := FLSaid.binds (ps := ["_law_saying_here", "_law_at"]) fun _ _ _ _ _ _ us hl => match us, hl with | [_, _], _ => rfl
  have FLNamed := fun_mk (st := sLNamed) lLNamed cLNamed kLNamed
  have mLNamed := PySem.W.mg_of X G aLNamed
  have bLNamed := FLNamed.binds (ps := ["_law_house_here", "_law_numbers_here"]) fun _ _ _ _ _ _ us hl => match us, hl with | [_, _], _ => rfl
  have FLNums := fun_mk (st := sLNums) lLNums cLNums kLNums
  have mLNums := PySem.W.mg_of X G aLNums
  have bLNums := FLNums.binds (ps := ["_law_pen_here", "_law_house_here"]) fun _ _ _ _ _ _ us hl => match us, hl with | [_, _], _ => rfl
  have FLTold := fun_mk (st := sLTold) lLTold cLTold kLTold
  have mLTold := PySem.W.mg_of X G aLTold
  have bLTold := FLTold.binds (ps := ["_law_house_here", "_law_numbers_here", "_law_thing"]) fun _ _ _ _ _ _ us hl => match us, hl with | [_, _, _], _ => rfl
  have FLSay := fun_mk (st := sLSay) lLSay cLSay kLSay
  have mLSay := PySem.W.mg_of X G aLSay
  have bLSay := FLSay.binds (ps := ["_law_names_here", "_law_thing"]) fun _ _ _ _ _ _ us hl => match us, hl with | [_, _], _ => rfl
  have FLIsWish := fun_mk (st := sLIsWish) lLIsWish cLIsWish kLIsWish
  have mLIsWish := PySem.W.mg_of X G aLIsWish
  have bLIsWish := FLIsWish.binds (ps := ["_law_house_here", "_law_thing"]) fun _ _ _ _ _ _ us hl => match us, hl with | [_, _], _ => rfl
  have FLWish := fun_mk (st := sLWish) lLWish cLWish kLWish
  have mLWish := PySem.W.mg_of X G aLWish
  have bLWish := FLWish.binds (ps := ["_law_pen_here", "_law_house_here", "_law_most"]) fun _ _ _ _ _ _ us hl => match us, hl with | [_, _, _], _ => rfl
  have FLClose := fun_mk (st := sLClose) lLClose cLClose kLClose
  have mLClose := PySem.W.mg_of X G aLClose
  have bLClose := FLClose.binds (ps := ["_law_pen_here", "_law_house_here", "_law_wish_here"]) fun _ _ _ _ _ _ us hl => match us, hl with | [_, _, _], _ => rfl
  have FLaw := fun_mk (st := sLaw) lLaw cLaw kLaw
  have mLaw := PySem.W.mg_of X G aLaw
  have FInit := fun_mk (st := sInit) lInit cInit kInit
  have bInit := FInit.binds (ps := ["self", "house"]) fun _ _ _ _ _ _ us hl => match us, hl with | [_, _], _ => rfl
  have FByN := fun_mk (st := sByN) lByN cByN kByN
  have bByN := FByN.binds (ps := ["self", "numbers"]) fun _ _ _ _ _ _ us hl => match us, hl with | [_, _], _ => rfl
  refine ⟨PySem.W.fnOf "law" "law" (defArgs sLaw) (defBody sLaw) (defScope sLaw) .none kVLaw dcLaw pmLaw anLaw cdLaw ctLaw, [(xIsName, PIsName), (xAreN, PAreN), (xWell, PWell), (xMeets, PMeets)], fun p hp => ?_, fun s v => .of_eq rfl, fun bs _ _ htb => ?_⟩
  · simp only [List.mem_cons, List.not_mem_nil, or_false] at hp
    rcases hp with e | e | e | e
    · rw [e]
      exact ⟨"is_name", dr1, hdr1, hTIsName, hPIsName⟩
    · rw [e]
      exact ⟨"are_numbers", dr2, hdr2, hTAreN, hPAreN⟩
    · rw [e]
      exact ⟨"wishes_well", dr3, hdr3, hTWell, hPWell⟩
    · rw [e]
      exact ⟨"meets", dr4, hdr4, hTMeets, hPMeets⟩
  have TB := htb (xIsName, PIsName) (by simp)
  have TB2 := htb (xAreN, PAreN) (by simp)
  have TB3 := htb (xWell, PWell) (by simp)
  have TB4 := htb (xMeets, PMeets) (by simp)
  have n1 : PIsName ∈ [PIsName, PAreN, PWell, PMeets] := by simp
  have n2 : PAreN ∈ [PIsName, PAreN, PWell, PMeets] := by simp
  have n3 : PWell ∈ [PIsName, PAreN, PWell, PMeets] := by simp
  have n4 : PMeets ∈ [PIsName, PAreN, PWell, PMeets] := by simp
  have oWhole := ok_whole (P := l.prog) (w := w) (base := bs) FWhole BH
  have oTupOf := ok_tupOf (P := l.prog) (w := w) (base := bs) FTupOf BH
  have oIsName := ok_isName (P := l.prog) (w := w) (base := bs) lIsName cIsName TB C BH
  have oPrice := ok_price FPrice oWhole bWhole kWhole mWhole C
  have oIsDial := ok_isDial FIsDial oWhole bWhole kWhole mWhole oTupOf bTupOf kTupOf mTupOf oIsName bIsName kIsName mIsName oPrice bPrice kPrice mPrice C
  have oIsSaying := ok_isSaying FIsSaying oWhole bWhole kWhole mWhole oTupOf bTupOf kTupOf mTupOf C
  have oIsRule := ok_isRule FIsRule oWhole bWhole kWhole mWhole oTupOf bTupOf kTupOf mTupOf oIsSaying bIsSaying kIsSaying mIsSaying C
  have oForm := ok_form FForm oTupOf bTupOf kTupOf mTupOf C
  have oFDial := ok_fDial FFDial oIsDial bIsDial kIsDial mIsDial BH
  have oFRule := ok_fRule FFRule oIsRule bIsRule kIsRule mIsRule BH
  have oFault := ok_fault FFault oForm bForm kForm mForm oFDial bFDial kFDial mFDial oFRule bFRule kFRule mFRule
  have oAreN := ok_areN lAreN cAreN TB2 BH mz FWhole bWhole kWhole mWhole oTupOf bTupOf kTupOf mTupOf
  have oHolds := ok_holds (P := l.prog) (w := w) (base := bs) (mg := mg) FHolds 
  have oNamesIn := ok_namesIn (P := l.prog) (w := w) (base := bs) (mg := mg) FNamesIn 
  have oInit := ok_init FInit T oNamesIn bNamesIn kNamesIn mNamesIn
  have oByN := ok_byN (P := l.prog) (w := w) (base := bs) (mg := mg) FByN T B.dict mz
  have oCheckH := ok_checkH n1 FCheckH oFault bFault kFault mFault
  have oWell := ok_well lWell cWell TB3 BH C hms FIsSaying bIsSaying kIsSaying mIsSaying FWhole bWhole kWhole mWhole FTupOf oTupOf bTupOf kTupOf mTupOf
  have oIsWish := ok_isWish n3 FIsWish oCheckH bCheckH kCheckH mCheckH oWell bWell kWell mWell
  have oCheckN := ok_checkN n2 FCheckN R oAreN bAreN kAreN mAreN
  have oCheckW := ok_checkW n3 FCheckW R2 oWell bWell kWell mWell
  have oMeets := ok_meets n4 lMeets cMeets TB4 BH oCheckH bCheckH kCheckH mCheckH oCheckN bCheckN kCheckN mCheckN oCheckW bCheckW kCheckW mCheckW T M oInit bInit oByN bByN MB FHolds bHolds kHolds mHolds
  have oPen := ok_pen (P := l.prog) (w := w) (base := bs) (mg := mg) FPen B
  have oDraw := (ok_draw (P := l.prog) (w := w) (base := bs) (mg := mg) FDraw B).imp draw_imp
  have oPick := ok_pick FPick oDraw bDraw kDraw mDraw B
  have oShuf := ok_shuf FShuf oDraw bDraw kDraw mDraw B
  have oAny := ok_any FAny oDraw bDraw kDraw mDraw B
  have oFrom := ok_from FFrom oDraw bDraw kDraw mDraw oAny bAny kAny mAny B
  have oPriceL := ok_priceL FPriceL oDraw bDraw kDraw mDraw oPick bPick kPick mPick
  have oNames := ok_names FNames oDraw bDraw kDraw mDraw oPick bPick kPick mPick B
  have oDialL := ok_dialL FDialL oDraw bDraw kDraw mDraw oPick bPick kPick mPick oFrom bFrom kFrom mFrom oPriceL bPriceL kPriceL mPriceL
  have oSayL := ok_sayL FSayL oDraw bDraw kDraw mDraw oPick bPick kPick mPick oFrom bFrom kFrom mFrom
  have oTSay := ok_tsay FTSay oDraw bDraw kDraw mDraw oPick bPick kPick mPick B
  have oTRule := ok_trule FTRule oDraw bDraw kDraw mDraw oShuf bShuf kShuf mShuf oTSay bTSay kTSay mTSay oSayL bSayL kSayL mSayL B
  have oHouseL := ok_houseL FHouseL oDraw bDraw kDraw mDraw oPick bPick kPick mPick oNames bNames kNames mNames oDialL bDialL kDialL mDialL oFrom bFrom kFrom mFrom oTRule bTRule kTRule mTRule B
  have oOdd := ok_odd FOdd oPick bPick kPick mPick
  have oBent : FnOk l.prog w K mg bs CX0 17 _ _ _ (spBent 14) := ok_bent FBent bBent mBent oDraw bDraw kDraw mDraw oPick bPick kPick mPick oOdd bOdd kOdd mOdd B 14
  have oLWhole := ok_lwhole (P := l.prog) (w := w) (base := bs) (mg := mg) FLWhole BH
  have oLSaid := ok_lsaid (P := l.prog) (w := w) (base := bs) (mg := mg) FLSaid 
  have oLNamed := ok_lnamed (P := l.prog) (w := w) (base := bs) (mg := mg) FLNamed B.dict mz
  have oPickT := ok_pickT FPick oDraw bDraw kDraw mDraw B
  have oLNums := ok_lnumsS FLNums oFrom bFrom kFrom mFrom B.tuple
  have oLTold := ok_ltold FLTold CT B.isinstance oMeets bMeets kMeets mMeets
  have oLSay := ok_lsay FLSay oLWhole bLWhole kLWhole mLWhole BH
  have oLIsWish := ok_lisWish FLIsWish oLSay bLSay kLSay mLSay BH
  have oLWish := ok_lwish FLWish oDraw bDraw kDraw mDraw oPickT bPick kPick mPick oFrom bFrom kFrom mFrom oSayL bSayL kSayL mSayL B
  have oLClose := ok_lclose FLClose oDraw bDraw kDraw mDraw oPick bPick kPick mPick oFrom bFrom kFrom mFrom B
  exact ok_law (Ps := [PIsName, PAreN, PWell, PMeets]) rfl FLaw ⟨⟨_, _, oPen, bPen, kPen, mPen⟩, ⟨_, _, oDraw, bDraw, kDraw, mDraw⟩, ⟨_, _, oPick, bPick, kPick, mPick⟩, ⟨_, _, oHouseL, bHouseL, kHouseL, mHouseL⟩, ⟨_, _, oLWish, bLWish, kLWish, mLWish⟩, ⟨_, _, oBent, bBent, kBent, mBent⟩, ⟨_, _, oOdd, bOdd, kOdd, mOdd⟩, ⟨_, _, oLIsWish, bLIsWish, kLIsWish, mLIsWish⟩, ⟨_, _, oIsWish, bIsWish, kIsWish, mIsWish⟩, ⟨_, _, oLClose, bLClose, kLClose, mLClose⟩, ⟨_, _, oLNums, bLNums, kLNums, mLNums⟩, ⟨_, _, oLNamed, bLNamed, kLNamed, mLNamed⟩, ⟨_, _, oLSaid, bLSaid, kLSaid, mLSaid⟩, ⟨_, _, oLTold, bLTold, kLTold, mLTold⟩⟩ B
end Pk
section
open PySem PySem.W PyProof.Rows
set_option maxHeartbeats 0
open_top hdK03 for PySem.Challenge.rw_pawldials_k03_wishes_met
end
open PySem PySem.W PyProof.Rows
set_option maxRecDepth 100000 in
set_option maxHeartbeats 0 in
theorem PySem.Challenge.cw_pawldials_k03_wishes_met_holds : PySem.Challenge.rw_pawldials_k03_wishes_met.Holds := by
  refine hdK03 ?_
  k_fill
  refine Pk.walkGT (l := PySem.Challenge.rw_pawldials_k03_wishes_met) (n := 63) (k := 18) (x := "_law_script") (sp := Pk.spLaw) ⟨rfl, by decide, by decide⟩ rfl (by decide) rfl (fun w h Y => PySem.W.kIn_of Y) ?G (fun K cs H a ns hl hT hS => ⟨a, ns, rfl, hS, hl, fun p hp => ⟨#[], hT p hp, trivial⟩, fun _ => rfl⟩)
  case G =>
    intro w mg fa h KX G hmg
    refine' Pk.all_mk KX G hmg ?gL ?gN ?gS ?gW ?gV ?gD ?aIsName ?lIsName ?cIsName ?kIsName ?aAreN ?lAreN ?cAreN ?kAreN ?aWell ?lWell ?cWell ?kWell ?aMeets ?lMeets ?cMeets ?kMeets ?aWhole ?lWhole ?cWhole ?kWhole ?aTupOf ?lTupOf ?cTupOf ?kTupOf ?aPrice ?lPrice ?cPrice ?kPrice ?aIsDial ?lIsDial ?cIsDial ?kIsDial ?aIsSaying ?lIsSaying ?cIsSaying ?kIsSaying ?aIsRule ?lIsRule ?cIsRule ?kIsRule ?aForm ?lForm ?cForm ?kForm ?aFDial ?lFDial ?cFDial ?kFDial ?aFRule ?lFRule ?cFRule ?kFRule ?aFault ?lFault ?cFault ?kFault ?aHolds ?lHolds ?cHolds ?kHolds ?aNamesIn ?lNamesIn ?cNamesIn ?kNamesIn ?aCheckH ?lCheckH ?cCheckH ?kCheckH ?aCheckW ?lCheckW ?cCheckW ?kCheckW ?aIsWish ?lIsWish ?cIsWish ?kIsWish ?aCheckN ?lCheckN ?cCheckN ?kCheckN ?aPen ?lPen ?cPen ?kPen ?aDraw ?lDraw ?cDraw ?kDraw ?aPick ?lPick ?cPick ?kPick ?aShuf ?lShuf ?cShuf ?kShuf ?aNames ?lNames ?cNames ?kNames ?aAny ?lAny ?cAny ?kAny ?aFrom ?lFrom ?cFrom ?kFrom ?aPriceL ?lPriceL ?cPriceL ?kPriceL ?aDialL ?lDialL ?cDialL ?kDialL ?aSayL ?lSayL ?cSayL ?kSayL ?aTSay ?lTSay ?cTSay ?kTSay ?aTRule ?lTRule ?cTRule ?kTRule ?aHouseL ?lHouseL ?cHouseL ?kHouseL ?aOdd ?lOdd ?cOdd ?kOdd ?aBent ?lBent ?cBent ?kBent ?aLWhole ?lLWhole ?cLWhole ?kLWhole ?aLSaid ?lLSaid ?cLSaid ?kLSaid ?aLNamed ?lLNamed ?cLNamed ?kLNamed ?aLNums ?lLNums ?cLNums ?kLNums ?aLTold ?lLTold ?cLTold ?kLTold ?aLSay ?lLSay ?cLSay ?kLSay ?aLIsWish ?lLIsWish ?cLIsWish ?kLIsWish ?aLWish ?lLWish ?cLWish ?kLWish ?aLClose ?lLClose ?cLClose ?kLClose ?aLaw ?lLaw ?cLaw ?kLaw ?aInit ?lInit ?cInit ?kInit ?aByN ?lByN ?cByN ?kByN ?y_far ?y_great ?y_dear ?y_long ?y_dials ?y_rules ?y_says ?y_W ?y_S ?y_R ?z_isinstance ?z_bool ?z_int ?z_str ?z_tuple ?z_list ?z_len ?z_all ?z_enumerate ?z_abs ?z_dict ?z_range ?z_repr ?z_sorted ?z_min ?z_max ?z_zip ?z_ValueError ?hTIsName ?hPIsName ?hrIsName ?hTAreN ?hPAreN ?hrAreN ?hTWell ?hPWell ?hrWell ?hTMeets ?hPMeets ?hrMeets ?hchk ?hcls
    (case gL => k_is); (case gN => k_is); (case gS => k_is); (case gW => k_is); (case gV => k_is); (case gD => k_is); (case aIsName => k_is); (case lIsName => k_is)
    (case cIsName => k_is); (case kIsName => k_is); (case aAreN => k_is); (case lAreN => k_is); (case cAreN => k_is); (case kAreN => k_is); (case aWell => k_is); (case lWell => k_is)
    (case cWell => k_is); (case kWell => k_is); (case aMeets => k_is); (case lMeets => k_is); (case cMeets => k_is); (case kMeets => k_is); (case aWhole => k_is); (case lWhole => k_is)
    (case cWhole => k_is); (case kWhole => k_is); (case aTupOf => k_is); (case lTupOf => k_is); (case cTupOf => k_is); (case kTupOf => k_is); (case aPrice => k_is); (case lPrice => k_is)
    (case cPrice => k_is); (case kPrice => k_is); (case aIsDial => k_is); (case lIsDial => k_is); (case cIsDial => k_is); (case kIsDial => k_is); (case aIsSaying => k_is); (case lIsSaying => k_is)
    (case cIsSaying => k_is); (case kIsSaying => k_is); (case aIsRule => k_is); (case lIsRule => k_is); (case cIsRule => k_is); (case kIsRule => k_is); (case aForm => k_is); (case lForm => k_is)
    (case cForm => k_is); (case kForm => k_is); (case aFDial => k_is); (case lFDial => k_is); (case cFDial => k_is); (case kFDial => k_is); (case aFRule => k_is); (case lFRule => k_is)
    (case cFRule => k_is); (case kFRule => k_is); (case aFault => k_is); (case lFault => k_is); (case cFault => k_is); (case kFault => k_is); (case aHolds => k_is); (case lHolds => k_is)
    (case cHolds => k_is); (case kHolds => k_is); (case aNamesIn => k_is); (case lNamesIn => k_is); (case cNamesIn => k_is); (case kNamesIn => k_is); (case aCheckH => k_is); (case lCheckH => k_is)
    (case cCheckH => k_is); (case kCheckH => k_is); (case aCheckW => k_is); (case lCheckW => k_is); (case cCheckW => k_is); (case kCheckW => k_is); (case aIsWish => k_is); (case lIsWish => k_is)
    (case cIsWish => k_is); (case kIsWish => k_is); (case aCheckN => k_is); (case lCheckN => k_is); (case cCheckN => k_is); (case kCheckN => k_is); (case aPen => k_is); (case lPen => k_is)
    (case cPen => k_is); (case kPen => k_is); (case aDraw => k_is); (case lDraw => k_is); (case cDraw => k_is); (case kDraw => k_is); (case aPick => k_is); (case lPick => k_is)
    (case cPick => k_is); (case kPick => k_is); (case aShuf => k_is); (case lShuf => k_is); (case cShuf => k_is); (case kShuf => k_is); (case aNames => k_is); (case lNames => k_is)
    (case cNames => k_is); (case kNames => k_is); (case aAny => k_is); (case lAny => k_is); (case cAny => k_is); (case kAny => k_is); (case aFrom => k_is); (case lFrom => k_is)
    (case cFrom => k_is); (case kFrom => k_is); (case aPriceL => k_is); (case lPriceL => k_is); (case cPriceL => k_is); (case kPriceL => k_is); (case aDialL => k_is); (case lDialL => k_is)
    (case cDialL => k_is); (case kDialL => k_is); (case aSayL => k_is); (case lSayL => k_is); (case cSayL => k_is); (case kSayL => k_is); (case aTSay => k_is); (case lTSay => k_is)
    (case cTSay => k_is); (case kTSay => k_is); (case aTRule => k_is); (case lTRule => k_is); (case cTRule => k_is); (case kTRule => k_is); (case aHouseL => k_is); (case lHouseL => k_is)
    (case cHouseL => k_is); (case kHouseL => k_is); (case aOdd => k_is); (case lOdd => k_is); (case cOdd => k_is); (case kOdd => k_is); (case aBent => k_is); (case lBent => k_is)
    (case cBent => k_is); (case kBent => k_is); (case aLWhole => k_is); (case lLWhole => k_is); (case cLWhole => k_is); (case kLWhole => k_is); (case aLSaid => k_is); (case lLSaid => k_is)
    (case cLSaid => k_is); (case kLSaid => k_is); (case aLNamed => k_is); (case lLNamed => k_is); (case cLNamed => k_is); (case kLNamed => k_is); (case aLNums => k_is); (case lLNums => k_is)
    (case cLNums => k_is); (case kLNums => k_is); (case aLTold => k_is); (case lLTold => k_is); (case cLTold => k_is); (case kLTold => k_is); (case aLSay => k_is); (case lLSay => k_is)
    (case cLSay => k_is); (case kLSay => k_is); (case aLIsWish => k_is); (case lLIsWish => k_is); (case cLIsWish => k_is); (case kLIsWish => k_is); (case aLWish => k_is); (case lLWish => k_is)
    (case cLWish => k_is); (case kLWish => k_is); (case aLClose => k_is); (case lLClose => k_is); (case cLClose => k_is); (case kLClose => k_is); (case aLaw => k_is); (case lLaw => k_is)
    (case cLaw => k_is); (case kLaw => k_is); (case aInit => k_is); (case lInit => k_is); (case cInit => k_is); (case kInit => k_is); (case aByN => k_is); (case lByN => k_is)
    (case cByN => k_is); (case kByN => k_is); (case y_far => k_is); (case y_great => k_is); (case y_dear => k_is); (case y_long => k_is); (case y_dials => k_is); (case y_rules => k_is)
    (case y_says => k_is); (case y_W => k_is); (case y_S => k_is); (case y_R => k_is); (case z_isinstance => k_is); (case z_bool => k_is); (case z_int => k_is); (case z_str => k_is)
    (case z_tuple => k_is); (case z_list => k_is); (case z_len => k_is); (case z_all => k_is); (case z_enumerate => k_is); (case z_abs => k_is); (case z_dict => k_is); (case z_range => k_is)
    (case z_repr => k_is); (case z_sorted => k_is); (case z_min => k_is); (case z_max => k_is); (case z_zip => k_is); (case z_ValueError => k_is)
    (case hTIsName => refine' Pk.tab_in ?a ?l ?hc ?lc ?hv; (case a => k_is); (case l => k_is); (case hc => rfl); (case lc => k_is); (case hv => rfl))
    (case hPIsName => kernel_rfl)
    (case hrIsName => kernel_rfl)
    (case hTAreN => refine' Pk.tab_in ?a ?l ?hc ?lc ?hv; (case a => k_is); (case l => k_is); (case hc => rfl); (case lc => k_is); (case hv => rfl))
    (case hPAreN => kernel_rfl)
    (case hrAreN => kernel_rfl)
    (case hTWell => refine' Pk.tab_in ?a ?l ?hc ?lc ?hv; (case a => k_is); (case l => k_is); (case hc => rfl); (case lc => k_is); (case hv => rfl))
    (case hPWell => kernel_rfl)
    (case hrWell => kernel_rfl)
    (case hTMeets => refine' Pk.tab_in ?a ?l ?hc ?lc ?hv; (case a => k_is); (case l => k_is); (case hc => rfl); (case lc => k_is); (case hv => rfl))
    (case hPMeets => kernel_rfl)
    (case hrMeets => kernel_rfl)
    (case hchk => kernel_rfl)
    (case hcls => kernel_rfl)
