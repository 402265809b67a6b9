import PyProof.Rows.All
import Wide.All
import OpenK.AllK
import Wide.FinOn
import HandS.HeadHook4
import HandS.Head3
import HandS.ExcIs
import HandS.Words
import HandS.Evl
import HandS.Nested
import HandS.ForMost
import HandS.Wide
import HandS.WideBits
import HandS.Gcd
import HandS.IsInst
import HandS.AnyAll
import HandS.Style
import HandS.Flow
import HandS.GenOver
import HandS.EndOwn
import HandS.HeadWalk
import HandS.TupLe
import KE.KDictZip
import HandS.Iter
import HandS.Conv
import HandS.Deep
import KE.KMathG
import HandS.WordsExc
import HandS.ExcValue
import PyProof.ExcBaseAll.ValueError
import HandS.Text
import PyProof.StrBlock2
import KE.GoesMore
import KE.GoesEnum
import PySem.Challenge.RW_otherhow_k03_house_text_back
set_option Elab.async false
set_option linter.all false
set_option maxRecDepth 100000
set_option maxHeartbeats 4000000
set_option exponentiation.threshold 20000
/-! a hook over few objects: what names of the module reach by functions' code and classes' dicts -/
namespace HkL
open PySem PySem.Spec PyProof.Rows He
noncomputable def refsF (o : Obj) : List Addr := match o.data with
  | .dict es _ => es.toList.flatMap fun e => refV e.val
  | .func fd => refV fd.code
  | .cls c => [c.ns]
  | _ => []
noncomputable def growF (g : Addr → Option Obj) (as : List Addr) : List Addr := as.flatMap fun a => match g a with
  | some o => refsF o
  | none => []
noncomputable def reach (g : Addr → Option Obj) : Nat → List Addr → List Addr
  | 0, as => as
  | n + 1, as => as ++ reach g n (growF g as)
noncomputable def few (g : Addr → Option Obj) : PySem.W.Frag := frT g (reach g 4 [mainGlobals] ++ [cStatics, sysModules])
noncomputable def obsY (fa : List Fa) (fn : List DefD) (tf : List Defn) (ex : PySem.W.Frag → Bool) (g : Addr → Option Obj) : AlX :=
  (obsT fa fn [] (few g), ex (few g) && tabsB g tf (few g))
theorem says_of {fa : List Fa} {fn : List DefD} {tf : List Defn} {ex : PySem.W.Frag → Bool} {w : World} {h : Heap} (e : obsY fa fn tf ex h.get? = valX fn [] w) : SaysX fa fn [] tf ex w h (few h.get?) := by
  have e1 : obsT fa fn [] (few h.get?) = valT fn [] w := congrArg Prod.fst e
  have e2 : (ex (few h.get?) && tabsB h.get? tf (few h.get?)) = true := congrArg Prod.snd e
  have e3 := Bool.and_eq_true_iff.mp e2
  have tab : ∀ p ∈ tf, PySem.W.codeHdIn (few h.get?) (cT (few h.get?) p).1 (cT (few h.get?) p).2 = true ∧ ∃ o, h.get? (cT (few h.get?) p).2 = some o ∧ emptyTab o = true := fun p hp => by
    have z := Bool.and_eq_true_iff.mp (List.all_eq_true.mp e3.2 p hp)
    refine ⟨z.1, ?_⟩
    have z2 := z.2
    split at z2
    · exact ⟨_, by assumption, z2⟩
    · cases z2
  refine ⟨e1, e3.1, fun p hp => (tab p hp).1, fun p hp => ?_, fun p hp => ?_⟩
  · obtain ⟨o, q, z⟩ := (tab p hp).2
    exact frT_none q z
  · obtain ⟨o, q, z⟩ := (tab p hp).2
    rw [q, emptyTab_eq z]
noncomputable def hookY (fa : List Fa) (fn : List DefD) (tf : List Defn) (ex : PySem.W.Frag → Bool) : PySem.W.Hook where
  α := AlX
  obs := fun s => obsY fa fn tf ex s.heap.get?
  val := fun w => valX fn [] w
  says := fun w h => ∃ K : PySem.W.Frag, K.In h ∧ SaysX fa fn [] tf ex w h K
  of := fun _ _ e => ⟨_, frT_in, says_of e⟩
  keeps := fun _ _ _ ⟨K, hK, c⟩ k => ⟨K, PySem.W.Frag.In.keeps hK k, ⟨c.t, c.more, c.hd, c.out, fun p hp => k _ _ (c.empty p hp)⟩⟩
theorem obsY_eq {fa : List Fa} {fn : List DefD} {tf : List Defn} {ex : PySem.W.Frag → Bool} {g : Addr → Option Obj} {s : Shared} (h : ∀ a, g a = s.heap.get? a) : obsY fa fn tf ex g = (hookY fa fn tf ex).obs s := by
  rw [funext h] <;> rfl
/-! what // of very long numbers asks -/
noncomputable def nsB (K : PySem.W.Frag) (a : Addr) (xs : List Str) : Bool := match K.lookup a with
  | some ⟨_, _, .dict es _, _⟩ => (es.toList.all fun e => match e.key with | .str _ _ => true | _ => false) && xs.all fun x => (nsFind es x).isNone
  | _ => false
noncomputable def mnB (K : PySem.W.Frag) : Bool := match K.lookup mainGlobals with
  | some ⟨_, _, .dict es _, _⟩ => (match nsFind es "__builtins__" with
    | some (.ref bm) => (match K.lookup bm with
      | some o => decide (o.cls = .type "module") && decide (o.dict = some builtinsNs)
      | none => false)
    | _ => false)
  | _ => false
noncomputable def seerB (K : PySem.W.Frag) : Bool := nsB K cStatics ["sys.audit-hooks", "sys.dict"] && (nsB K sysModules ["_pylong"] && mnB K)
end HkL
namespace HdG
open PySem PySem.Spec PySem.W PyProof.Rows HandSHeadRun
/-- what openSeen sees, by what the heap holds at an address, and by what is read of the program once -/
noncomputable def lookR : {F : (Addr → Option Obj) → Program → List Str → (Shared → Bool) → Shared → List DefRec → List Str → List ClsRec → List (DefRec × List PyData) → List ClsRec → List (DefRec × List (Str × Expr)) → List (Str × WData) → _ // ∀ q mods Xt s, openSeen q [] mods Xt true s = F s.heap.get? q mods Xt s (recsOf q) (looseW q []) (clssOf q (looseW q [])) (drecsOf q) (dclssOf q []) (wdefsOf q) (wlitsOf q)} := by
  refine ⟨?F, fun q mods Xt s => ?h⟩
  case h =>
    delta PySem.W.openSeen PySem.W.clsSeenW PySem.W.wclsSeen PySem.W.wideSeen PyProof.Rows.plainSeenD PyProof.Rows.plainSeenE PySem.pinSeenD PyProof.Rows.tabsOk PyProof.Rows.tablesOk PySem.Heap.accountedOkI PySem.Heap.keysOk PySem.Heap.bltView PyProof.Rows.seen PyProof.Rows.plainsOf
    delta PySem.Heap.ownExcOk PySem.Heap.quietOk PySem.Heap.noLimitOk PySem.Heap.noDigitsOk PySem.Heap.tupIntsOk PySem.Heap.tupStrsOk PySem.Heap.tabIntOk PyProof.Rows.valsOk PySem.Heap.noSeerOk PySem.Heap.bmainOk PySem.Heap.tab0Ok PySem.Heap.plainShapeAt PySem.Heap.plainShapeAtD PySem.Heap.shapeAtD PySem.Heap.restOk PySem.Heap.dfltOk
    delta PySem.Heap.constOk PySem.Heap.tab0At PySem.Heap.nsKeys PySem.Heap.nsPairs PySem.Heap.isNs PySem.Heap.clsAt PySem.Heap.methDfltOk PySem.Heap.shapeAt PySem.Heap.dfltNoneAt PySem.Heap.dfltOkAt
    delta PySem.Heap.codeRecOk PySem.Heap.fnAt PySem.Heap.nsMap
    dsimp only
    generalize PySem.Heap.get? s.heap = g
    generalize clssOf q (looseW q []) = C
    generalize looseW q [] = W
    generalize recsOf q = R
    generalize drecsOf q = Dr
    generalize dclssOf q [] = Dc
    generalize wdefsOf q = Wd
    generalize wlitsOf q = Wl
    exact rfl
noncomputable def goodR : {G : Program → List DefRec → List Str → List ClsRec → List (DefRec × List PyData) → List ClsRec → List (DefRec × List (Str × Expr)) → List (Str × WData) → _ // ∀ q, openGood q [] = G q (recsOf q) (looseW q []) (clssOf q (looseW q [])) (drecsOf q) (dclssOf q []) (wdefsOf q) (wlitsOf q)} := by
  refine ⟨?F, fun q => ?h⟩
  case h =>
    delta PySem.W.openGood PyProof.Rows.expectedOf PySem.pinGoodD PyProof.Rows.plainGoodE PyProof.Rows.plainGoodD PyProof.Rows.plainsOf PySem.W.wideGood
    generalize clssOf q (looseW q []) = C
    generalize looseW q [] = W
    generalize recsOf q = R
    generalize drecsOf q = Dr
    generalize dclssOf q [] = Dc
    generalize wdefsOf q = Wd
    generalize wlitsOf q = Wl
    exact rfl
section
variable {q : Program} {mods : List Str} {Xt : Shared → Bool} {s : Shared} {g : Addr → Option Obj} {R : List DefRec} {W : List Str} {D : List (DefRec × List PyData)} {E : List ClsRec} {Wd : List (DefRec × List (Str × Expr))} {Wl : List (Str × WData)}
theorem look_eq (hg : g = s.heap.get?) (hr : recsOf q = R) (hw : looseW q [] = W) (hd : drecsOf q = D) (he : dclssOf q [] = E) (hx : wdefsOf q = Wd) (hy : wlitsOf q = Wl) : openSeen q [] mods Xt true s = lookR.1 g q mods Xt s R W (clssOf q W) D E Wd Wl := by
  subst hg hr hw hd he hx hy
  exact lookR.2 _ _ _ _
theorem good_eq (hr : recsOf q = R) (hw : looseW q [] = W) (hd : drecsOf q = D) (he : dclssOf q [] = E) (hx : wdefsOf q = Wd) (hy : wlitsOf q = Wl) : openGood q [] = goodR.1 q R W (clssOf q W) D E Wd Wl := by
  subst hr hw hd he hx hy
  exact goodR.2 _
end
noncomputable def p1 {α β : Type} : α × β → α | (a, _) => a
noncomputable def p2 {α β : Type} : α × β → β | (_, b) => b
theorem two {α β γ : Type} {m : Option α} {f : α → β} {g : α → γ} {a : β} {b : γ} (h1 : m.map f = some a) (h2 : m.map g = some b) : m.map (fun x => (f x, g x)) = some (a, b) := by
  cases m with
  | none => cases h1
  | some x => cases h1; cases h2; rfl
theorem spl {α β γ : Type} {m : Option α} {f : α → β × γ} {a : β × γ} (h1 : m.map (fun x => (f x).1) = some (p1 a)) (h2 : m.map (fun x => (f x).2) = some (p2 a)) : m.map f = some a := by
  cases m with
  | none => cases h1
  | some x => exact congrArg some (Prod.ext (Option.some.inj h1) (Option.some.inj h2))
theorem fst2 {α β γ : Type} {m : Option α} {f : α → β} {g : α → γ} {a : β} {b : γ} (h : m.map (fun x => (f x, g x)) = some (a, b)) : m.map f = some a := by
  cases m with
  | none => cases h
  | some x => exact congrArg some (congrArg Prod.fst (Option.some.inj h))
theorem snd2 {α β γ : Type} {m : Option α} {f : α → β} {g : α → γ} {a : β} {b : γ} (h : m.map (fun x => (f x, g x)) = some (a, b)) : m.map g = some b := by
  cases m with
  | none => cases h
  | some x => exact congrArg some (congrArg Prod.snd (Option.some.inj h))
end HdG
namespace Oh
open PySem PySem.Spec PyProof.Rows L2
/-- what isinstance asks of an exception class, as one Boolean -/
noncomputable def excX (K : PySem.W.Frag) (x : Str) : Bool := He.eqO (PySem.W.findIn K (.ref (He.ga K x)) "__getattribute__") (some (some (.builtin "BaseException.__getattribute__"))) && (He.eqO (PySem.W.findIn K (.ref (He.ga K x)) "__getattr__") (some none) && (decide (PySem.W.subIn K (.ref (He.ga K x)) (.type "BaseException") = some true) && (PySem.W.hasDictIn K (He.ga K x) &&
  (He.eqO (PySem.W.findIn K (.ref (He.ga K x)) "__class__") (some (some (.builtin "object.__class__"))) && (He.eqO (PySem.W.specialIn K (.builtin "object.__class__") "__get__") (some (some (.builtin "getset_descriptor.__get__"))) && (decide (PySem.W.takesIn K (.builtin "object.__class__") = some true) && decide (PySem.W.mroIn K (He.ga K x) (.type "object") = some true)))))))
theorem excX_ok {K : PySem.W.Frag} {x : Str} (h : excX K x = true) : ExcC K (He.ga K x) := by
  obtain ⟨h1, h⟩ := He.ba h
  obtain ⟨h2, h⟩ := He.ba h
  obtain ⟨h3, h⟩ := He.ba h
  obtain ⟨h4, h⟩ := He.ba h
  obtain ⟨h5, h⟩ := He.ba h
  obtain ⟨h6, h⟩ := He.ba h
  obtain ⟨h7, h8⟩ := He.ba h
  exact ⟨He.eqO_ok h1, He.eqO_ok h2, of_decide_eq_true h3, h4, He.eqO_ok h5, He.eqO_ok h6, of_decide_eq_true h7, of_decide_eq_true h8⟩
noncomputable def kitX (K : PySem.W.Frag) (x y : Str) (b : Bool) : Bool := decide (PySem.W.kitOne K (.ref (He.ga K x)) (.ref (He.ga K y)) = some b)
end Oh
/-! the head: what the top leaves, by runs of the kernel -/
namespace Hd
open PySem PySem.Spec PySem.W PyProof.Rows L2 HandSHeadRun
noncomputable def top (i : Nat) : Stmt := PySem.Challenge.pw_otherhow_k03_house_text_back.main.body.getD i (.Pass ⟨0, 0, 0, 0⟩)
noncomputable abbrev R : OpenRow := OpenLaw.row PySem.Challenge.rw_otherhow_k03_house_text_back
noncomputable def q : Program := view R.prog [1, 2, 3, 5, 6, 7, 8, 9, 11, 13, 14, 15, 16, 17, 18, 19, 20, 21, 22, 23, 25, 26, 27, 28, 29, 30, 31, 32, 33, 34, 35, 36, 37, 38, 39]
noncomputable abbrev dd (p : Str × Option Str) (x u : Str) (s : Stmt) : He.DefD := ⟨p, x, u, defArgs s, defBody s, defScope s, [], []⟩
noncomputable def fn : List He.DefD := [dd ("_law_row", none) "_law_row" "_law_row" (top 26), dd ("_law_size", none) "_law_size" "_law_size" (top 27), dd ("_law_count_ways", none) "_law_count_ways" "_law_count_ways" (top 31), dd ("_law_shape", none) "_law_shape" "_law_shape" (top 32), dd ("_law_kept", none) "_law_kept" "_law_kept" (top 28), dd ("_law_name", none) "_law_name" "_law_name" (top 29), dd ("_law_names", none) "_law_names" "_law_names" (top 30), dd ("_law_house", none) "_law_house" "_law_house" (top 33), dd ("House", some "__init__") "__init__" "House.__init__" (inClass (top 15) 0), dd ("_law_spoil", none) "_law_spoil" "_law_spoil" (top 38), dd ("size", none) "size" "size" (top 11), dd ("heard_bounds", none) "heard_bounds" "heard_bounds" (top 16), dd ("answer_bounds", none) "answer_bounds" "answer_bounds" (top 17), dd ("way_count", none) "way_count" "way_count" (top 18), dd ("format_house", none) "format_house" "format_house" (top 23), dd ("_law_text_words", none) "_law_text_words" "_law_text_words" (top 34), dd ("_law_is_integer", none) "_law_is_integer" "_law_is_integer" (top 25), dd ("_law_same", none) "_law_same" "_law_same" (top 37), dd ("_law_same_house", none) "_law_same_house" "_law_same_house" (top 35), dd ("_law_spaced", none) "_law_spaced" "_law_spaced" (top 36), dd ("Reader", some "__init__") "__init__" "Reader.__init__" (inClass (top 9) 0), dd ("Reader", some "ended") "ended" "Reader.ended" (inClass (top 9) 1), dd ("Reader", some "coming") "coming" "Reader.coming" (inClass (top 9) 2), dd ("Reader", some "take") "take" "Reader.take" (inClass (top 9) 3), dd ("Reader", some "finish") "finish" "Reader.finish" (inClass (top 9) 6), dd ("words_after", none) "words_after" "words_after" (top 20), dd ("is_name", none) "is_name" "is_name" (top 8), dd ("Reader", some "take_name") "take_name" "Reader.take_name" (inClass (top 9) 5), dd ("read_words", none) "read_words" "read_words" (top 21), dd ("Reader", some "take_index") "take_index" "Reader.take_index" (inClass (top 9) 4), dd ("read_heard", none) "read_heard" "read_heard" (top 22), dd ("parse_house", none) "parse_house" "parse_house" (top 19), dd ("law", none) "law" "law" (top 39)]
noncomputable def fa : List He.Fa := [.glo "_law_row", .glo "_law_size", .glo "_law_count_ways", .glo "_law_shape", .glo "_law_kept", .glo "_law_name", .glo "_law_names", .glo "_law_house", .mkr "House", .glo "_law_spoil", .glo "size", .glo "heard_bounds", .glo "answer_bounds", .glo "way_count", .glo "format_house", .glo "_law_text_words", .glo "_law_is_integer", .glo "_law_same", .glo "_law_same_house", .glo "_law_spaced", .mkr "Reader", .meth "Reader" "ended", .meth "Reader" "coming", .meth "Reader" "take", .meth "Reader" "finish", .glo "words_after", .glo "is_name", .meth "Reader" "take_name", .glo "read_words", .meth "Reader" "take_index", .glo "read_heard", .glo "parse_house", .glo "law", .glo "Reader", .cls "Reader", .noat "Reader" "words", .noat "Reader" "at", .glo "House", .cls "House", .noat "House" "names", .noat "House" "words", .noat "House" "heard", .free "all", .free "bool", .free "int", .free "isinstance", .free "len", .free "list", .free "max", .free "range", .free "str", .free "tuple", .free "zip", .str "LETTERS" "abcdefghijklmnopqrstuvwxyz", .str "DIGITS" "0123456789", .glo "NOT_NAMES", .int "MOST_VARIABLES" (5), .int "MOST_WAYS" (512)]
noncomputable def tf : List He.Defn := [("is_name", none)]
noncomputable def ex (K : PySem.W.Frag) : Bool := (He.tupB K "NOT_NAMES" [.str "house", .str "variable", .str "says", .str "hears", .str "end", .str "if", .str "and", .str "ignores", .str "rises", .str "falls", .str "with", .str "never", .str "when"] && ((He.eqO (PySem.W.findIn K (.ref (He.ga K "House")) "__class__") (some (some (.builtin "object.__class__"))) && (He.eqO (PySem.W.specialIn K (.builtin "object.__class__") "__get__") (some (some (.builtin "getset_descriptor.__get__"))) && (decide (PySem.W.takesIn K (.builtin "object.__class__") = some true) && decide (PySem.W.mroIn K (He.ga K "House") (.type "object") = some true)))) && true))
noncomputable abbrev hk : Hook := HkL.hookY fa fn tf ex
noncomputable def ob (s : SharedT) : He.AlX := HkL.obsY fa fn tf ex (getT s)
theorem ob_eq (s : SharedT) : ob s = hk.obs s.abs := HkL.obsY_eq (getT_eq s)
noncomputable abbrev whole (w : World) : Option (Shared × SharedT) := wholeF (fun p => stepQ (denQ tabQ) p w) fenceQ 20000 R.prog
noncomputable abbrev sq (x : Shared × SharedT) := seenQ q [] (importedModules R.prog.main.body) (fun s => xlAt q [] s && recOk R.toRowW.records s) x.2.abs
noncomputable def posO (st : Stmt) : Pos := match st with | .FunctionDef _ _ _ _ _ _ _ _ _ p => p | _ => ⟨0, 0, 0, 0⟩
noncomputable def namO (st : Stmt) : Str := match st with | .FunctionDef n _ _ _ _ _ _ _ _ _ => n | _ => ""
noncomputable def RL : List DefRec := [8, 11, 16, 17, 18, 19, 20, 21, 22, 23, 25, 26, 27, 28, 29, 30, 31, 32, 33, 34, 35, 36, 37, 38, 39].map fun i => ⟨namO (top i), defArgs (top i), defBody (top i), defScope (top i), posO (top i)⟩
noncomputable def WL : List Str := ["NOT_NAMES"]
noncomputable def WLL : List (Str × WData) := [("NOT_NAMES", .tuple [.str "house", .str "variable", .str "says", .str "hears", .str "end", .str "if", .str "and", .str "ignores", .str "rises", .str "falls", .str "with", .str "never", .str "when"])]
theorem recs_eq : recsOf q = RL := by kernel_rfl
theorem drecs_eq : drecsOf q = [] := by kernel_rfl
theorem dcls_eq : dclssOf q [] = [] := by kernel_rfl
theorem loose_eq : looseW q [] = WL := by kernel_rfl
theorem wdefs_eq : wdefsOf q = [] := by kernel_rfl
theorem wlits_eq : wlitsOf q = WLL := by kernel_rfl
noncomputable abbrev gq (x : Shared × SharedT) := HdG.lookR.1 (getT x.2) q (importedModules R.prog.main.body) (fun s => xlAt q [] s && recOk R.toRowW.records s) x.2.abs RL WL (clssOf q WL) [] [] [] WLL
noncomputable def gd := HdG.goodR.1 q RL WL (clssOf q WL) [] [] [] WLL
theorem run_b (w : World) : (whole w).map gq = some gd := by kernel_rfl
theorem run_a (w : World) : (whole w).map (fun x => (looksF R.prog x.1.heap x.2.abs, ob x.2)) = some (true, hk.val w) := by kernel_rfl
theorem sq_gq (x : Shared × SharedT) : sq x = gq x := (seenQ_eq _ _ _ _ _).symm.trans (HdG.look_eq (funext fun a => getT_eq x.2 a) recs_eq loose_eq drecs_eq dcls_eq wdefs_eq wlits_eq)
theorem seen_sq (w : World) : (whole w).map sq = some (openGood q []) := (congrArg (fun f => (whole w).map f) (funext sq_gq)).trans ((run_b w).trans (congrArg some (HdG.good_eq recs_eq loose_eq drecs_eq dcls_eq wdefs_eq wlits_eq).symm))
theorem run (w : World) : RunEqI R q hk ob 20000 [] w := HdG.two (HdG.fst2 (run_a w)) (HdG.two (seen_sq w) (HdG.snd2 (run_a w)))
end Hd
namespace Oh
open PySem PySem.Spec PyProof.Rows L2 Evl NdefX
/-! ### cells that are known to the abstract heap for a while (a closure handed to another def) -/
noncomputable abbrev fzc (o : Obj) : HO := .frz o (.ext fun _ => True)
noncomputable def offC (cs : List Addr) (H : Hp) : Hp := fun b => if b ∈ cs then none else H b
section
variable {P : Program} {w : World} {cs : List Addr} {H H' : Hp} {h h' : Heap} {ob : Addr → Obj}
theorem offC_in {b : Addr} (hb : b ∈ cs) : offC cs H b = none := if_pos hb
end
end Oh
namespace Oh
open PySem PySem.Spec PyProof.Rows L2 Evl NdefX LamX
/-- what a closure's cells hold, as long as they are known -/
structure CloC (cells : List (Str × Addr)) (fr : List Str) (ws : List V) (H : Hp) : Prop where
  len : ws.length = fr.length
  fz : ∀ p ∈ cells, ∃ o v, H p.2 = some (fzc o) ∧ o.data = .cell v
  inj : ∀ x y c, cells.lookup x = some c → cells.lookup y = some c → x = y
  has : ∀ (i : Nat) (y : Str), fr[i]? = some y → ∃ c, cells.lookup y = some c ∧ ∃ o u v, ws[i]? = some v ∧ H c = some (fzc o) ∧ o.data = .cell (some u) ∧ RelV v u
theorem CloC.mono {cells : List (Str × Addr)} {fr : List Str} {ws : List V} {H H' : Hp} (e : Ex H H') (c : CloC cells fr ws H) : CloC cells fr ws H' := ⟨c.len, fun p hp => let ⟨o, v, h1, h2⟩ := c.fz p hp; ⟨o, v, e _ _ h1, h2⟩, c.inj, fun i y hy => let ⟨a, h1, o, u, v, h2, h3, h4, h5⟩ := c.has i y hy; ⟨a, h1, o, u, v, h2, e _ _ h3, h4, h5⟩⟩
theorem lookup_mem {α β : Type} [BEq α] [LawfulBEq α] {l : List (α × β)} {a : α} {b : β} (h : l.lookup a = some b) : (a, b) ∈ l := by
  induction l with
  | nil => cases h
  | cons p l ih =>
    obtain ⟨k, v⟩ := p
    rw [List.lookup_cons] at h
    split at h
    · rename_i e
      cases h
      rw [eq_of_beq e]; exact List.mem_cons_self
    · exact List.mem_cons_of_mem _ (ih h)
theorem CloC.at {P : Program} {w : World} {cells : List (Str × Addr)} {fr : List Str} {ws : List V} {H : Hp} {h : Heap} (c : CloC cells fr ws H) (x : HOk P w H h) : CellsAt cells fr (ws.map some) h (offC (cells.map (·.2)) H) := by
  refine ⟨by rw [List.length_map]; exact c.len, fun y a e => ?_, c.inj, fun i y e => ?_⟩
  · have hm := lookup_mem e
    obtain ⟨o, v, e1, e2⟩ := c.fz _ hm
    exact ⟨offC_in (List.mem_map.mpr ⟨_, hm, rfl⟩), v, o, (x _ _ e1).1, e2⟩
  · obtain ⟨a, ha, o, u, v, e1, e2, e3, r⟩ := c.has i y e
    refine ⟨a, ha, fun v' ev => ?_⟩
    rw [List.getElem?_map, e1] at ev
    cases ev
    exact ⟨u, r, o, (x _ _ e2).1, e3⟩
section
variable {X : Cx} {CX : CXT} {mk : List (Str × Addr) → Addr → NF} {ps fr : List Str} {i j k : Nat} {x : Str} {sp : List (Option V) → Sp} {t : TA} {e : Expr} {es : List Expr} {p pos : Pos}
end
end Oh
namespace Oh
open PySem PySem.Spec PyProof.Rows L2 Evl

/-- a value with all that hangs on it -/
inductive D where
  | non | bl (b : Bool) | int (i : Int) | str (x : Str) | lst (xs : List D) | rol (xs : List D) | tup (xs : List D) | ob (c : Nat) (fs : List (Str × D)) | dic (ks : List (Key × D)) | oba (a : Addr) (c : Nat) (fs : List (Str × D)) | fn (j : Nat) (fr : List Str) (ds : List D)

/-- the classes' addresses, the tables' addresses -/
structure Cl where
  c : Nat → Addr
  t : List Addr
  f : Nat → Stmt × Str × Str
class NT (u : HO) : Prop where
  nt : ∀ ps, u ≠ .tbl ps
instance {xs : List V} : NT (.lst xs) := ⟨fun _ z => nomatch z⟩
instance {xs : List V} : NT (.tup xs) := ⟨fun _ z => nomatch z⟩
instance {C dx : Addr} {fs : List (Str × V)} : NT (.ins C dx fs) := ⟨fun _ z => nomatch z⟩
instance {ks : List (Key × V)} : NT (.dK ks) := ⟨fun _ z => nomatch z⟩
instance {a : Addr} : NT (.own a) := ⟨fun _ z => nomatch z⟩
instance {o : Obj} {u : HO} : NT (.frz o u) := ⟨fun _ z => nomatch z⟩
/-- all that is no table stands; a table may grow -/
structure Ex2 (H H' : Hp) : Prop where
  k : ∀ a (u : HO) [NT u], H a = some u → H' a = some u
  b : ∀ a ps, H a = some (.tbl ps) → ∃ ps', H' a = some (.tbl ps') ∧ (TriplesOk ps.toList → TriplesOk ps'.toList)
instance {H H' : Hp} : CoeFun (Ex2 H H') (fun _ => ∀ a (u : HO) [NT u], H a = some u → H' a = some u) := ⟨Ex2.k⟩
theorem Ex2.of {H H' : Hp} (e : Ex H H') : Ex2 H H' := ⟨fun a u _ h => e a u h, fun a ps h => ⟨ps, e _ _ h, id⟩⟩
theorem Ex2.refl (H : Hp) : Ex2 H H := Ex2.of (Ex.refl _)
theorem Ex2.trans {H H1 H2 : Hp} (a : Ex2 H H1) (b : Ex2 H1 H2) : Ex2 H H2 := ⟨fun x u _ h => b x u (a x u h), fun x ps h => by
  obtain ⟨p1, h1, g1⟩ := a.b x ps h
  obtain ⟨p2, h2, g2⟩ := b.b x p1 h1
  exact ⟨p2, h2, fun z => g2 (g1 z)⟩⟩
theorem Ex2.new {H : Hp} {p : Addr} {o : HO} (h : H p = none) : Ex2 H (upd H p o) := Ex2.of (Ex.new h)
theorem Ex2.mut {H H' : Hp} {p : Addr} {o : HO} (e : Ex2 H H') (h : H p = none) : Ex2 H (upd H' p o) := ⟨fun a u _ ha => by
  rw [upd_ne (ne_of_none ha h)]
  exact e a u ha, fun a ps ha => by
  rw [upd_ne (ne_of_none ha h)]
  exact e.b a ps ha⟩
theorem Ex2.back {H H' : Hp} {p : Addr} (e : Ex2 H H') (h : H' p = none) : H p = none := by
  cases h1 : H p with
  | none => rfl
  | some u =>
    by_cases z : ∃ ps, u = .tbl ps
    · obtain ⟨ps, rfl⟩ := z
      obtain ⟨p2, h2, _⟩ := e.b p ps h1
      rw [h2] at h; cases h
    · have : NT u := ⟨fun ps q => z ⟨ps, q⟩⟩
      rw [e p u h1] at h; cases h
theorem Ex2.some {H H' : Hp} {p : Addr} (e : Ex2 H H') (h : H p ≠ none) : H' p ≠ none := fun z => h (e.back z)
theorem ex2_l {K : PySem.W.Frag} {H H' : Hp} {a : Addr} {xs : List V} (e : Ex2 H H') (h : SqL K H a xs) : SqL K H' a xs := by
  rcases h with (h | ⟨o, h⟩) | h
  · exact Or.inl (Or.inl (e _ _ h))
  · exact Or.inl (Or.inr ⟨o, e _ _ h⟩)
  · exact Or.inr h
mutual
inductive Rep (K : PySem.W.Frag) (cl : Cl) (G : Hp) : V → D → Prop
  | non : Rep K cl G .non .non
  | bl {b : Bool} : Rep K cl G (.bl b) (.bl b)
  | int {i : Int} : Rep K cl G (.int i) (.int i)
  | str {x : Str} : Rep K cl G (.str x) (.str x)
  | lst {a : Addr} {vs : List V} {ds : List D} : G a = some (.lst vs) → Reps K cl G vs ds → Rep K cl G (.ref a) (.lst ds)
  | rol {a : Addr} {vs : List V} {ds : List D} : SqL K G a vs → Reps K cl G vs ds → Rep K cl G (.ref a) (.rol ds)
  | tup {a : Addr} {vs : List V} {ds : List D} : SqT K G a vs → Reps K cl G vs ds → Rep K cl G (.ref a) (.tup ds)
  | ob {a dx : Addr} {c : Nat} {fs : List (Str × V)} {ds : List (Str × D)} : G a = some (.ins (cl.c c) dx fs) → FReps K cl G fs ds → Rep K cl G (.ref a) (.ob c ds)
  | dic {a : Addr} {kvs : List (Key × V)} {ks : List (Key × D)} : G a = some (.dK kvs) → KReps K cl G kvs ks → Rep K cl G (.ref a) (.dic ks)
  | oba {a dx : Addr} {c : Nat} {fs : List (Str × V)} {ds : List (Str × D)} : G a = some (.ins (cl.c c) dx fs) → FReps K cl G fs ds → Rep K cl G (.ref a) (.oba a c ds)
  | fn {a c' : Addr} {j : Nat} {fr : List Str} {cells : List (Str × Addr)} {ws : List V} {ds : List D} : G a = some (NdefX.FnO a (NdefX.NF.of (cl.f j).1 (cl.f j).2.1 (cl.f j).2.2 cells c')) → G c' = some (LamX.CodeO c' (cl.f j).2.2) → CloC cells fr ws G → Reps K cl G ws ds → Rep K cl G (.ref a) (.fn j fr ds)
inductive Reps (K : PySem.W.Frag) (cl : Cl) (G : Hp) : List V → List D → Prop
  | nil : Reps K cl G [] []
  | cons {v : V} {vs : List V} {d : D} {ds : List D} : Rep K cl G v d → Reps K cl G vs ds → Reps K cl G (v :: vs) (d :: ds)
inductive FReps (K : PySem.W.Frag) (cl : Cl) (G : Hp) : List (Str × V) → List (Str × D) → Prop
  | nil : FReps K cl G [] []
  | cons {n : Str} {v : V} {vs : List (Str × V)} {d : D} {ds : List (Str × D)} : Rep K cl G v d → FReps K cl G vs ds → FReps K cl G ((n, v) :: vs) ((n, d) :: ds)
inductive KReps (K : PySem.W.Frag) (cl : Cl) (G : Hp) : List (Key × V) → List (Key × D) → Prop
  | nil : KReps K cl G [] []
  | cons {n : Key} {v : V} {vs : List (Key × V)} {d : D} {ds : List (Key × D)} : Rep K cl G v d → KReps K cl G vs ds → KReps K cl G ((n, v) :: vs) ((n, d) :: ds)
end

section
variable {K : PySem.W.Frag} {cl : Cl} {G G' H H' : Hp}
mutual
theorem Rep.mono (e : Ex G G') : ∀ {v d}, Rep K cl G v d → Rep K cl G' v d
  | _, _, .non => .non
  | _, _, .bl => .bl
  | _, _, .int => .int
  | _, _, .str => .str
  | _, _, .lst h r => .lst (e _ _ h) (Reps.mono e r)
  | _, _, .rol h r => .rol (ex_l e h) (Reps.mono e r)
  | _, _, .tup h r => .tup (ex_t e h) (Reps.mono e r)
  | _, _, .ob h r => .ob (e _ _ h) (FReps.mono e r)
  | _, _, .dic h r => .dic (e _ _ h) (KReps.mono e r)
  | _, _, .oba h r => .oba (e _ _ h) (FReps.mono e r)
  | _, _, .fn h1 h2 h3 r => .fn (e _ _ h1) (e _ _ h2) (h3.mono e) (Reps.mono e r)
theorem Reps.mono (e : Ex G G') : ∀ {v d}, Reps K cl G v d → Reps K cl G' v d
  | _, _, .nil => .nil
  | _, _, .cons h r => .cons (Rep.mono e h) (Reps.mono e r)
theorem FReps.mono (e : Ex G G') : ∀ {v d}, FReps K cl G v d → FReps K cl G' v d
  | _, _, .nil => .nil
  | _, _, .cons h r => .cons (Rep.mono e h) (FReps.mono e r)
theorem KReps.mono (e : Ex G G') : ∀ {v d}, KReps K cl G v d → KReps K cl G' v d
  | _, _, .nil => .nil
  | _, _, .cons h r => .cons (Rep.mono e h) (KReps.mono e r)
end
theorem Reps.length : ∀ {vs ds}, Reps K cl G vs ds → vs.length = ds.length
  | _, _, .nil => rfl
  | _, _, .cons _ r => congrArg (· + 1) (Reps.length r)
theorem Reps.get : ∀ {vs : List V} {ds : List D} {i : Nat} {d : D}, Reps K cl G vs ds → ds[i]? = some d → ∃ v, vs[i]? = some v ∧ Rep K cl G v d
  | _, _, _, _, .nil, h => by simp at h
  | _, _, 0, _, .cons r _, h => ⟨_, rfl, by simp at h; rw [← h]; exact r⟩
  | _, _, i + 1, _, .cons _ t, h => by
    obtain ⟨v, h1, h2⟩ := Reps.get (i := i) t (by simpa using h)
    exact ⟨v, by simpa using h1, h2⟩
theorem Reps.getV : ∀ {vs : List V} {ds : List D} {i : Nat} {v : V}, Reps K cl G vs ds → vs[i]? = some v → ∃ d, ds[i]? = some d ∧ Rep K cl G v d
  | _, _, _, _, .nil, h => by simp at h
  | _, _, 0, _, .cons r _, h => ⟨_, rfl, by simp at h; rw [← h]; exact r⟩
  | _, _, i + 1, _, .cons _ t, h => by
    obtain ⟨v, h1, h2⟩ := Reps.getV (i := i) t (by simpa using h)
    exact ⟨v, by simpa using h1, h2⟩
theorem Reps.append : ∀ {vs ds ws es}, Reps K cl G vs ds → Reps K cl G ws es → Reps K cl G (vs ++ ws) (ds ++ es)
  | _, _, _, _, .nil, s => s
  | _, _, _, _, .cons r t, s => .cons r (Reps.append t s)
theorem Reps.drop : ∀ {vs ds} (n : Nat), Reps K cl G vs ds → Reps K cl G (vs.drop n) (ds.drop n)
  | _, _, 0, r => r
  | _, _, _ + 1, .nil => .nil
  | _, _, n + 1, .cons _ t => Reps.drop n t
theorem Reps.take : ∀ {vs ds} (n : Nat), Reps K cl G vs ds → Reps K cl G (vs.take n) (ds.take n)
  | _, _, 0, _ => .nil
  | _, _, _ + 1, .nil => .nil
  | _, _, n + 1, .cons r t => .cons r (Reps.take n t)
theorem Reps.set : ∀ {vs ds v d} (n : Nat), Rep K cl G v d → Reps K cl G vs ds → Reps K cl G (vs.set n v) (ds.set n d)
  | _, _, _, _, _, _, .nil => .nil
  | _, _, _, _, 0, r, .cons _ t => .cons r t
  | _, _, _, _, n + 1, r, .cons q t => .cons q (Reps.set n r t)
theorem Reps.eraseIdx : ∀ {vs ds} (n : Nat), Reps K cl G vs ds → Reps K cl G (vs.eraseIdx n) (ds.eraseIdx n)
  | _, _, _, .nil => .nil
  | _, _, 0, .cons _ t => t
  | _, _, n + 1, .cons q t => .cons q (Reps.eraseIdx n t)
theorem FReps.lookup : ∀ {vs ds} {n : Str} {d : D}, FReps K cl G vs ds → ds.lookup n = some d → ∃ v, vs.lookup n = some v ∧ Rep K cl G v d
  | _, _, _, _, .nil, h => by simp at h
  | _, _, n, d, .cons (n := m) r t, h => by
    rw [List.lookup_cons] at h
    rw [List.lookup_cons]
    cases e : n == m with
    | true => rw [e] at h; simp at h; exact ⟨_, rfl, by rw [← h]; exact r⟩
    | false => rw [e] at h; exact FReps.lookup t h

/-- how G (what stands for ever) and H (all) grow -/
structure Nxt (G H G' H' : Hp) : Prop where
  g : Ex G G'
  h : Ex2 H H'
  gh : Ex G' H'
  fr : ∀ p, G' p ≠ none → G p ≠ none ∨ H p = none
theorem Nxt.refl (gh : Ex G H) : Nxt G H G H := ⟨Ex.refl _, Ex2.refl _, gh, fun _ h => .inl h⟩
theorem Nxt.trans {G1 H1 G2 H2 : Hp} (a : Nxt G H G1 H1) (b : Nxt G1 H1 G2 H2) : Nxt G H G2 H2 :=
  ⟨a.g.trans b.g, a.h.trans b.h, b.gh, fun p h => by
    rcases b.fr p h with h | h
    · exact a.fr p h
    · exact .inr (a.h.back h)⟩
theorem Nxt.new {p : Addr} {o : HO} (gh : Ex G H) (hp : H p = none) : Nxt G H (upd G p o) (upd H p o) :=
  ⟨Ex.new (fresh_back gh hp), Ex2.new hp, fun a u h => by
    by_cases e : a = p
    · subst e; rw [upd_same] at h ⊢; exact h
    · rw [upd_ne e] at h ⊢; exact gh a u h, fun a h => by
    by_cases e : a = p
    · subst e; exact .inr hp
    · rw [upd_ne e] at h; exact .inl h⟩
/-- laid in H alone -/
theorem Nxt.lay {p : Addr} {o : HO} (gh : Ex G H) (hp : H p = none) : Nxt G H G (upd H p o) :=
  ⟨Ex.refl _, Ex2.new hp, gh.trans (Ex.new hp), fun _ h => .inl h⟩
/-- what H has and G has not is frozen -/
theorem Nxt.fz {G0 H0 : Hp} {p : Addr} {o : HO} (n : Nxt G0 H0 G H) (hp : H p = some o) (h0 : H0 p = none) (hg : G p = none) : Nxt G0 H0 (upd G p o) H :=
  ⟨n.g.trans (Ex.new hg), n.h, fun a u h => by
    by_cases e : a = p
    · subst e; rw [upd_same] at h; rw [hp]; exact h
    · rw [upd_ne e] at h; exact n.gh a u h, fun a h => by
    by_cases e : a = p
    · subst e; exact .inr h0
    · rw [upd_ne e] at h; exact n.fr a h⟩
/-- a cell of H's own is changed -/
theorem Nxt.mut {G0 H0 : Hp} {p : Addr} {o : HO} (n : Nxt G0 H0 G H) (h0 : H0 p = none) (hg : G p = none) : Nxt G0 H0 G (upd H p o) :=
  ⟨n.g, Ex2.mut n.h h0, Ex.mut n.gh hg, n.fr⟩

/-! ### what is owned: cells that may yet be changed -/
inductive Sh where | v | l (e : Sh) | i (p : Addr) | j (p : Option Addr) (f : Str → Sh) | t (f : Nat → Sh) | d
mutual
/-- owned at any depth: the lists; its tuples stand for ever -/
inductive OwnD (G H : Hp) : V → D → List Addr → Prop
  | non : OwnD G H .non .non []
  | bl {b : Bool} : OwnD G H (.bl b) (.bl b) []
  | int {i : Int} : OwnD G H (.int i) (.int i) []
  | str {x : Str} : OwnD G H (.str x) (.str x) []
  | lst {p : Addr} {vs : List V} {ds : List D} {A : List Addr} : H p = some (.lst vs) → OwnDs G H vs ds A → OwnD G H (.ref p) (.lst ds) (p :: A)
  | tup {p : Addr} {vs : List V} {ds : List D} {A : List Addr} : G p = some (.tup vs) → OwnDs G H vs ds A → OwnD G H (.ref p) (.tup ds) A
inductive OwnDs (G H : Hp) : List V → List D → List Addr → Prop
  | nil : OwnDs G H [] [] []
  | cons {v : V} {d : D} {A : List Addr} {vs : List V} {ds : List D} {As : List Addr} : OwnD G H v d A → OwnDs G H vs ds As → OwnDs G H (v :: vs) (d :: ds) (A ++ As)
end
inductive OwnT (R : Nat → V → D → List Addr → Prop) : Nat → List V → List D → List Addr → Prop
  | nil {n} : OwnT R n [] [] []
  | cons {n v d A vs ds As} : R n v d A → OwnT R (n + 1) vs ds As → OwnT R n (v :: vs) (d :: ds) (A ++ As)
inductive OwnF (R : Str → V → D → List Addr → Prop) : List (Str × V) → List (Str × D) → List Addr → Prop
  | nil : OwnF R [] [] []
  | cons {n v d A vs ds As} : R n v d A → OwnF R vs ds As → OwnF R ((n, v) :: vs) ((n, d) :: ds) (A ++ As)
inductive OwnL (R : V → D → List Addr → Prop) : List V → List D → List Addr → Prop
  | nil : OwnL R [] [] []
  | cons {v d A vs ds As} : R v d A → OwnL R vs ds As → OwnL R (v :: vs) (d :: ds) (A ++ As)
noncomputable def Own (K : PySem.W.Frag) (cl : Cl) (G H : Hp) : Sh → V → D → List Addr → Prop
  | .v => fun v d A => A = [] ∧ Rep K cl G v d
  | .l e => fun v d A => ∃ p vs ds A', v = .ref p ∧ d = .lst ds ∧ H p = some (.lst vs) ∧ A = p :: A' ∧ OwnL (Own K cl G H e) vs ds A'
  | .i p => fun v d A => ∃ dx c fs ds, v = .ref p ∧ d = .ob c ds ∧ H p = some (.ins (cl.c c) dx fs) ∧ A = [p] ∧ FReps K cl G fs ds
  | .j po f => fun v d A => ∃ p dx c fs ds A', v = .ref p ∧ (∀ q, po = some q → q = p) ∧ d = .ob c ds ∧ H p = some (.ins (cl.c c) dx fs) ∧ A = p :: A' ∧ OwnF (fun n => Own K cl G H (f n)) fs ds A'
  | .t f => fun v d A => ∃ p vs ds, v = .ref p ∧ d = .tup ds ∧ G p = some (.tup vs) ∧ OwnT (fun n => Own K cl G H (f n)) 0 vs ds A
  | .d => fun v d A => OwnD G H v d A
mutual
theorem OwnD.step {G G' H H' : Hp} (e : Ex G G') : ∀ {v d A}, (∀ p ∈ A, ∀ (u : HO) [NT u], H p = some u → H' p = some u) → OwnD G H v d A → OwnD G' H' v d A
  | _, _, _, _, .non => .non
  | _, _, _, _, .bl => .bl
  | _, _, _, _, .int => .int
  | _, _, _, _, .str => .str
  | _, _, _, k, .lst h r => .lst (k _ List.mem_cons_self _ h) (OwnDs.step e (fun p hp => k p (List.mem_cons_of_mem _ hp)) r)
  | _, _, _, k, .tup h r => .tup (e _ _ h) (OwnDs.step e k r)
theorem OwnDs.step {G G' H H' : Hp} (e : Ex G G') : ∀ {v d A}, (∀ p ∈ A, ∀ (u : HO) [NT u], H p = some u → H' p = some u) → OwnDs G H v d A → OwnDs G' H' v d A
  | _, _, _, _, .nil => .nil
  | _, _, _, k, .cons h r => .cons (OwnD.step e (fun p hp => k p (List.mem_append_left _ hp)) h) (OwnDs.step e (fun p hp => k p (List.mem_append_right _ hp)) r)
end
mutual
theorem OwnD.inL {G H : Hp} : ∀ {v d A}, OwnD G H v d A → ∀ p ∈ A, ∃ ws, H p = some (.lst ws)
  | _, _, _, .non, _, z => nomatch z
  | _, _, _, .bl, _, z => nomatch z
  | _, _, _, .int, _, z => nomatch z
  | _, _, _, .str, _, z => nomatch z
  | _, _, _, .lst h r, p, z => (List.mem_cons.mp z).elim (fun e => by rw [e]; exact ⟨_, h⟩) (OwnDs.inL r p)
  | _, _, _, .tup h r, p, z => OwnDs.inL r p z
theorem OwnDs.inL {G H : Hp} : ∀ {v d A}, OwnDs G H v d A → ∀ p ∈ A, ∃ ws, H p = some (.lst ws)
  | _, _, _, .nil, _, z => nomatch z
  | _, _, _, .cons h r, p, z => (List.mem_append.mp z).elim (OwnD.inL h p) (OwnDs.inL r p)
end
theorem OwnT.imp {R R' : Nat → V → D → List Addr → Prop} : ∀ {n vs ds A}, OwnT R n vs ds A → (∀ n v d A', A' ⊆ A → R n v d A' → R' n v d A') → OwnT R' n vs ds A
  | _, _, _, _, .nil, _ => .nil
  | _, _, _, _, .cons r t, h => .cons (h _ _ _ _ (List.subset_append_left _ _) r) (OwnT.imp t fun n v d A' s q => h n v d A' (fun _ hx => List.mem_append_right _ (s hx)) q)
theorem OwnT.len {R : Nat → V → D → List Addr → Prop} : ∀ {n vs ds A}, OwnT R n vs ds A → vs.length = ds.length
  | _, _, _, _, .nil => rfl
  | _, _, _, _, .cons _ t => congrArg (· + 1) t.len
theorem OwnT.inH {R : Nat → V → D → List Addr → Prop} {P : Addr → Prop} : ∀ {n vs ds A}, OwnT R n vs ds A → (∀ n v d A', R n v d A' → ∀ p ∈ A', P p) → ∀ p ∈ A, P p
  | _, _, _, _, .nil, _, p, hp => nomatch hp
  | _, _, _, _, .cons r t, h, p, hp => (List.mem_append.mp hp).elim (h _ _ _ _ r p) (OwnT.inH t h p)
theorem OwnT.reps {R : Nat → V → D → List Addr → Prop} {G' : Hp} : ∀ {n vs ds A}, OwnT R n vs ds A → (∀ n v d A', A' ⊆ A → R n v d A' → Rep K cl G' v d) → Reps K cl G' vs ds
  | _, _, _, _, .nil, _ => .nil
  | _, _, _, _, .cons r t, h => .cons (h _ _ _ _ (List.subset_append_left _ _) r) (OwnT.reps t fun n v d A' s q => h n v d A' (fun _ hx => List.mem_append_right _ (s hx)) q)
theorem OwnF.imp {R R' : Str → V → D → List Addr → Prop} : ∀ {vs ds A}, OwnF R vs ds A → (∀ n v d A', A' ⊆ A → R n v d A' → R' n v d A') → OwnF R' vs ds A
  | _, _, _, .nil, _ => .nil
  | _, _, _, .cons r t, h => .cons (h _ _ _ _ (List.subset_append_left _ _) r) (OwnF.imp t fun n v d A' s q => h n v d A' (fun _ hx => List.mem_append_right _ (s hx)) q)
theorem OwnF.len {R : Str → V → D → List Addr → Prop} : ∀ {vs ds A}, OwnF R vs ds A → vs.length = ds.length
  | _, _, _, .nil => rfl
  | _, _, _, .cons _ t => congrArg (· + 1) t.len
theorem OwnF.inH {R : Str → V → D → List Addr → Prop} {P : Addr → Prop} : ∀ {vs ds A}, OwnF R vs ds A → (∀ n v d A', R n v d A' → ∀ p ∈ A', P p) → ∀ p ∈ A, P p
  | _, _, _, .nil, _, p, hp => nomatch hp
  | _, _, _, .cons r t, h, p, hp => (List.mem_append.mp hp).elim (h _ _ _ _ r p) (OwnF.inH t h p)
theorem OwnF.reps {R : Str → V → D → List Addr → Prop} {G' : Hp} : ∀ {vs ds A}, OwnF R vs ds A → (∀ n v d A', A' ⊆ A → R n v d A' → Rep K cl G' v d) → FReps K cl G' vs ds
  | _, _, _, .nil, _ => .nil
  | _, _, _, .cons r t, h => .cons (h _ _ _ _ (List.subset_append_left _ _) r) (OwnF.reps t fun n v d A' s q => h n v d A' (fun _ hx => List.mem_append_right _ (s hx)) q)
theorem OwnL.imp {R R' : V → D → List Addr → Prop} : ∀ {vs ds A}, OwnL R vs ds A → (∀ v d A', A' ⊆ A → R v d A' → R' v d A') → OwnL R' vs ds A
  | _, _, _, .nil, _ => .nil
  | _, _, _, .cons r t, h => .cons (h _ _ _ (List.subset_append_left _ _) r) (OwnL.imp t fun v d A' s q => h v d A' (fun _ hx => List.mem_append_right _ (s hx)) q)
theorem OwnL.len {R : V → D → List Addr → Prop} : ∀ {vs ds A}, OwnL R vs ds A → vs.length = ds.length
  | _, _, _, .nil => rfl
  | _, _, _, .cons _ t => congrArg (· + 1) t.len
theorem Own.step {G G' H H' : Hp} (e : Ex G G') : ∀ {sh v d A}, (∀ p ∈ A, ∀ (u : HO) [NT u], H p = some u → H' p = some u) → Own K cl G H sh v d A → Own K cl G' H' sh v d A
  | .v, _, _, _, _, h => ⟨h.1, h.2.mono e⟩
  | .l s, _, _, _, k, ⟨p, vs, ds, A', h1, h2, h3, h4, h5⟩ => ⟨p, vs, ds, A', h1, h2, k p (by rw [h4]; exact List.mem_cons_self) _ h3, h4, h5.imp fun v d A2 s q => Own.step e (fun p hp => k p (by rw [h4]; exact List.mem_cons_of_mem _ (s hp))) q⟩
  | .i p, _, _, _, k, ⟨dx, c, fs, ds, h1, h2, h3, h4, h5⟩ => ⟨dx, c, fs, ds, h1, h2, k p (by rw [h4]; exact List.mem_cons_self) _ h3, h4, h5.mono e⟩
  | .j po f, _, _, _, k, ⟨p, dx, c, fs, ds, A', h1, hp, h2, h3, h4, h5⟩ => ⟨p, dx, c, fs, ds, A', h1, hp, h2, k p (by rw [h4]; exact List.mem_cons_self) _ h3, h4, h5.imp fun n v d A2 s q => Own.step (sh := f n) e (fun p hp => k p (by rw [h4]; exact List.mem_cons_of_mem _ (s hp))) q⟩
  | .t f, _, _, _, k, ⟨p, vs, ds, h1, h2, h3, h5⟩ => ⟨p, vs, ds, h1, h2, e _ _ h3, h5.imp fun n v d A2 s q => Own.step (sh := f n) e (fun p hp => k p (s hp)) q⟩
  | .d, _, _, _, k, h => OwnD.step e k h
mutual
theorem OwnD.rep {G G' H : Hp} (e : Ex G G') : ∀ {v d A}, (∀ p ∈ A, G' p = H p) → OwnD G H v d A → Rep K cl G' v d
  | _, _, _, _, .non => .non
  | _, _, _, _, .bl => .bl
  | _, _, _, _, .int => .int
  | _, _, _, _, .str => .str
  | _, _, _, k, .lst h r => .lst ((k _ List.mem_cons_self).trans h) (OwnDs.rep e (fun p hp => k p (List.mem_cons_of_mem _ hp)) r)
  | _, _, _, k, .tup h r => .tup (st_of (e _ _ h)) (OwnDs.rep e k r)
theorem OwnDs.rep {G G' H : Hp} (e : Ex G G') : ∀ {v d A}, (∀ p ∈ A, G' p = H p) → OwnDs G H v d A → Reps K cl G' v d
  | _, _, _, _, .nil => .nil
  | _, _, _, k, .cons h r => .cons (OwnD.rep e (fun p hp => k p (List.mem_append_left _ hp)) h) (OwnDs.rep e (fun p hp => k p (List.mem_append_right _ hp)) r)
end
theorem OwnL.reps {R : V → D → List Addr → Prop} {G' : Hp} : ∀ {vs ds A}, OwnL R vs ds A → (∀ v d A', A' ⊆ A → R v d A' → Rep K cl G' v d) → Reps K cl G' vs ds
  | _, _, _, .nil, _ => .nil
  | _, _, _, .cons r t, h => .cons (h _ _ _ (List.subset_append_left _ _) r) (OwnL.reps t fun v d A' s q => h v d A' (fun _ hx => List.mem_append_right _ (s hx)) q)
theorem Own.rep {G G' H : Hp} (e : Ex G G') : ∀ {sh v d A}, (∀ p ∈ A, G' p = H p) → Own K cl G H sh v d A → Rep K cl G' v d
  | .v, _, _, _, _, h => h.2.mono e
  | .l s, _, _, _, k, ⟨p, vs, ds, A', h1, h2, h3, h4, h5⟩ => by
    subst h1; subst h2
    exact .lst ((k p (by rw [h4]; exact List.mem_cons_self)).trans h3) (h5.reps fun v d A2 s q => Own.rep e (fun p hp => k p (by rw [h4]; exact List.mem_cons_of_mem _ (s hp))) q)
  | .i p, _, _, _, k, ⟨dx, c, fs, ds, h1, h2, h3, h4, h5⟩ => by
    subst h1; subst h2
    exact .ob ((k p (by rw [h4]; exact List.mem_cons_self)).trans h3) (h5.mono e)
  | .j po f, _, _, _, k, ⟨p, dx, c, fs, ds, A', h1, hp, h2, h3, h4, h5⟩ => by
    subst h1; subst h2
    exact .ob ((k p (by rw [h4]; exact List.mem_cons_self)).trans h3) (h5.reps fun n v d A2 s q => Own.rep (sh := f n) e (fun p hp => k p (by rw [h4]; exact List.mem_cons_of_mem _ (s hp))) q)
  | .t f, _, _, _, k, ⟨p, vs, ds, h1, h2, h3, h5⟩ => by
    subst h1; subst h2
    exact .tup (st_of (e _ _ h3)) (h5.reps fun n v d A2 s q => Own.rep (sh := f n) e (fun p hp => k p (s hp)) q)
  | .d, _, _, _, k, h => OwnD.rep e k h
theorem OwnL.inH {R : V → D → List Addr → Prop} {P : Addr → Prop} : ∀ {vs ds A}, OwnL R vs ds A → (∀ v d A', R v d A' → ∀ p ∈ A', P p) → ∀ p ∈ A, P p
  | _, _, _, .nil, _, p, hp => nomatch hp
  | _, _, _, .cons r t, h, p, hp => (List.mem_append.mp hp).elim (h _ _ _ r p) (OwnL.inH t h p)
theorem Own.inN {G H : Hp} : ∀ {sh v d A}, Own K cl G H sh v d A → ∀ p ∈ A, ∃ u, H p = some u ∧ NT u
  | .v, _, _, _, h, p, hp => by rw [h.1] at hp; cases hp
  | .l s, _, _, _, ⟨p, vs, ds, A', h1, h2, h3, h4, h5⟩, q, hq => by
    rw [h4] at hq
    rcases List.mem_cons.mp hq with z | z
    · rw [z, h3]; exact ⟨_, rfl, inferInstance⟩
    · exact h5.inH (fun v d A2 r => Own.inN r) q z
  | .i p, _, _, _, ⟨dx, c, fs, ds, h1, h2, h3, h4, h5⟩, q, hq => by
    rw [h4] at hq
    rw [List.mem_singleton.mp hq, h3]; exact ⟨_, rfl, inferInstance⟩
  | .j po f, _, _, _, ⟨p, dx, c, fs, ds, A', h1, hp, h2, h3, h4, h5⟩, q, hq => by
    rw [h4] at hq
    rcases List.mem_cons.mp hq with z | z
    · rw [z, h3]; exact ⟨_, rfl, inferInstance⟩
    · exact h5.inH (fun n v d A2 r => Own.inN (sh := f n) r) q z
  | .t f, _, _, _, ⟨p, vs, ds, h1, h2, h3, h5⟩, q, hq => h5.inH (fun n v d A2 r => Own.inN (sh := f n) r) q hq
  | .d, _, _, _, h, q, hq => by obtain ⟨ws, e⟩ := OwnD.inL h q hq; exact ⟨_, e, inferInstance⟩
theorem Own.inH {G H : Hp} {sh : Sh} {v : V} {d : D} {A : List Addr} (h : Own K cl G H sh v d A) : ∀ p ∈ A, H p ≠ none := fun p hp z => by
  obtain ⟨u, e, _⟩ := h.inN p hp
  rw [z] at e; cases e
theorem Own.noT {G H : Hp} {sh : Sh} {v : V} {d : D} {A : List Addr} (h : Own K cl G H sh v d A) {a : Addr} (t : GxR.TabG H a) : a ∉ A := fun ha => by
  obtain ⟨u, e, n⟩ := h.inN a ha
  obtain ⟨ps, e2, _⟩ := t
  rw [e] at e2; cases e2
  exact n.nt _ rfl
theorem ownL_v {G H : Hp} : ∀ {vs ds A}, OwnL (Own K cl G H .v) vs ds A → A = [] ∧ Reps K cl G vs ds
  | _, _, _, .nil => ⟨rfl, .nil⟩
  | _, _, _, .cons r t => ⟨by rw [r.1, (ownL_v t).1]; rfl, .cons r.2 (ownL_v t).2⟩
theorem ownL_of {G H : Hp} : ∀ {vs ds}, Reps K cl G vs ds → OwnL (Own K cl G H .v) vs ds []
  | _, _, .nil => .nil
  | _, _, .cons r t => OwnL.cons (A := []) ⟨rfl, r⟩ (ownL_of t)
/-- an owned flat list -/
theorem Own.flat {G H : Hp} {v : V} {d : D} {A : List Addr} (h : Own K cl G H (.l .v) v d A) : ∃ p vs ds, v = .ref p ∧ d = .lst ds ∧ H p = some (.lst vs) ∧ A = [p] ∧ Reps K cl G vs ds := by
  obtain ⟨p, vs, ds, A', h1, h2, h3, h4, h5⟩ := h
  obtain ⟨rfl, r⟩ := ownL_v h5
  exact ⟨p, vs, ds, h1, h2, h3, h4, r⟩
theorem Own.mkFlat {G H : Hp} {p : Addr} {vs : List V} {ds : List D} (hp : H p = some (.lst vs)) (r : Reps K cl G vs ds) : Own K cl G H (.l .v) (.ref p) (.lst ds) [p] := ⟨p, vs, ds, [], rfl, rfl, hp, rfl, ownL_of r⟩

/-! ### the slots -/
inductive Sl where
  | jk | vl (d : D) | ow (sh : Sh) (d : D)
structure Bs where
  G : Hp
  H : Hp
noncomputable def SlotOk (K : PySem.W.Frag) (cl : Cl) (B : Bs) (G H : Hp) : Sl → Option V → List Addr → Prop
  | .jk, _, A => A = []
  | .vl d, o, A => A = [] ∧ ∃ v, o = some v ∧ Rep K cl G v d
  | .ow sh d, o, A => ∃ v, o = some v ∧ Own K cl G H sh v d A ∧ A.Nodup ∧ ∀ p ∈ A, G p = none ∧ B.H p = none
noncomputable def atA (A : Nat → List Addr) (i : Nat) (X : List Addr) : Nat → List Addr := fun j => if j = i then X else A j
theorem atA_e {A : Nat → List Addr} {i j : Nat} {X : List Addr} (h : j = i) : atA A i X j = X := if_pos h
theorem atA_n {A : Nat → List Addr} {i j : Nat} {X : List Addr} (h : ¬ j = i) : atA A i X j = A j := if_neg h
structure Sig (K : PySem.W.Frag) (cl : Cl) (B : Bs) (G H : Hp) (S : List Sl) (σ : L2.St) : Prop where
  nxt : Nxt B.G B.H G H
  len : σ.length = S.length
  tab : ∀ a ∈ cl.t, GxR.TabG H a ∧ G a = Option.none
  slots : ∃ A : Nat → List Addr, (∀ (i : Nat) (s : Sl), S[i]? = some s → ∃ o, σ[i]? = some o ∧ SlotOk K cl B G H s o (A i)) ∧ ∀ i j, i ≠ j → i < S.length → j < S.length → ∀ p ∈ A i, p ∉ A j
variable {B : Bs} {S : List Sl} {σ : L2.St}
theorem Nxt.tab {a : Addr} (n : Nxt G H G' H') (h : GxR.TabG H a ∧ G a = Option.none) : GxR.TabG H' a ∧ G' a = Option.none := by
  obtain ⟨⟨ps, e, ok⟩, hg⟩ := h
  obtain ⟨ps', e', ok'⟩ := n.h.b a ps e
  refine ⟨⟨ps', e', ok' ok⟩, ?_⟩
  cases q : G' a with
  | none => rfl
  | some u =>
    rcases n.fr a (by rw [q]; simp) with z | z
    · exact absurd hg z
    · rw [e] at z; cases z
theorem SlotOk.step {s : Sl} {o : Option V} {A : List Addr} (gh : Ex G H) (n : Nxt G H G' H') (h : SlotOk K cl B G H s o A) : SlotOk K cl B G' H' s o A := by
  cases s with
  | jk => exact h
  | vl d =>
    obtain ⟨ea, v, e, r⟩ := h
    exact ⟨ea, v, e, r.mono n.g⟩
  | ow sh d =>
    obtain ⟨v, e, ow, nd, out⟩ := h
    refine ⟨v, e, ow.step n.g (fun p _ u _ hu => n.h _ _ hu), nd, fun p hp => ⟨?_, (out p hp).2⟩⟩
    cases q : G' p with
    | none => rfl
    | some u =>
      rcases n.fr p (by rw [q]; simp) with h | h
      · exact absurd (out p hp).1 h
      · exact absurd h (ow.inH p hp)
theorem Sig.step (I : Sig K cl B G H S σ) (n : Nxt G H G' H') : Sig K cl B G' H' S σ := by
  obtain ⟨A, h, ap⟩ := I.slots
  exact ⟨I.nxt.trans n, I.len, fun a ha => n.tab (I.tab a ha), A, fun i s hs => by
    obtain ⟨o, h1, h2⟩ := h i s hs
    exact ⟨o, h1, h2.step I.nxt.gh n⟩, ap⟩
theorem Sig.vl (I : Sig K cl B G H S σ) {i : Nat} {d : D} (h : S[i]? = some (.vl d)) : ∃ v, σ[i]? = some (some v) ∧ Rep K cl G v d := by
  obtain ⟨A, hs, _⟩ := I.slots
  obtain ⟨o, h1, _, v, rfl, r⟩ := hs i _ h
  exact ⟨v, h1, r⟩
/-- an owned thing, opened: what is changed of it leaves the rest as it is -/
theorem Sig.opn (I : Sig K cl B G H S σ) {i : Nat} {sh : Sh} {d : D} (h : S[i]? = some (.ow sh d)) :
    ∃ v A, σ[i]? = some (some v) ∧ Own K cl G H sh v d A ∧ A.Nodup ∧ (∀ p ∈ A, G p = none ∧ B.H p = none) ∧
      ∀ (H' : Hp) (d' : D), (∀ p, p ∉ A → H' p = H p) → Own K cl G H' sh v d' A → Sig K cl B G H' (S.set i (.ow sh d')) σ := by
  obtain ⟨A, hs, ap⟩ := I.slots
  obtain ⟨o, h1, v, rfl, ow, nd, out⟩ := hs i _ h
  have hl : i < S.length := (List.getElem?_eq_some_iff.mp h).1
  refine ⟨v, A i, h1, ow, nd, out, fun H' d' hk ow' => ⟨⟨I.nxt.g, ⟨fun a u _ e => ?_, fun a ps e => ?_⟩, fun a u e => ?_, I.nxt.fr⟩, by rw [List.length_set]; exact I.len, fun a ha => ?_, A, fun j s hj => ?_, fun j k n hj hk => ap j k n (by rwa [List.length_set] at hj) (by rwa [List.length_set] at hk)⟩⟩
  · rw [hk a fun z => by rw [(out a z).2] at e; cases e]; exact I.nxt.h a u e
  · rw [hk a fun z => by rw [(out a z).2] at e; cases e]; exact I.nxt.h.b a ps e
  · rw [hk a fun z => by rw [(out a z).1] at e; cases e]; exact I.nxt.gh a u e
  · obtain ⟨⟨ps, e, ok⟩, hg⟩ := I.tab a ha
    exact ⟨⟨ps, by rw [hk a (ow.noT ⟨ps, e, ok⟩)]; exact e, ok⟩, hg⟩
  · by_cases e : i = j
    · subst e
      rw [List.getElem?_set_self hl] at hj
      cases hj
      exact ⟨_, h1, v, rfl, ow', nd, out⟩
    · rw [List.getElem?_set_ne e] at hj
      have hlj : j < S.length := (List.getElem?_eq_some_iff.mp hj).1
      obtain ⟨o, h2, h3⟩ := hs j s hj
      refine ⟨o, h2, ?_⟩
      cases s with
      | jk => exact h3
      | vl d' => exact h3
      | ow sh' d' =>
        obtain ⟨v', e1, ow2, nd', out'⟩ := h3
        exact ⟨v', e1, ow2.step (Ex.refl _) (fun p hp u _ hu => by rw [hk p (ap j i (fun z => e z.symm) hlj hl p hp)]; exact hu), nd', out'⟩
theorem Sig.ow (I : Sig K cl B G H S σ) {i : Nat} {d : D} (h : S[i]? = some (.ow (.l .v) d)) :
    ∃ p vs xs, σ[i]? = some (some (.ref p)) ∧ d = .lst xs ∧ H p = some (.lst vs) ∧ G p = Option.none ∧ B.H p = Option.none ∧ Reps K cl G vs xs := by
  obtain ⟨v, A, h1, ow, nd, out, _⟩ := I.opn h
  obtain ⟨p, vs, xs, rfl, e, hp, rfl, r⟩ := ow.flat
  have := out p List.mem_cons_self
  exact ⟨p, vs, xs, h1, e, hp, this.1, this.2, r⟩
/-- a slot gets a value -/
theorem Sig.setV (I : Sig K cl B G H S σ) {i : Nat} {v : V} {d : D} (r : Rep K cl G v d) : Sig K cl B G H (S.set i (.vl d)) (σ.set i (some v)) := by
  obtain ⟨A, hs, ap⟩ := I.slots
  refine ⟨I.nxt, by rw [List.length_set, List.length_set, I.len], I.tab, atA A i ([]), fun j s h => ?_, fun j k n hj hk p hp => ?_⟩
  · by_cases e : i = j
    · subst e
      have hl : i < S.length := by have := (List.getElem?_eq_some_iff.mp h).1; rwa [List.length_set] at this
      rw [List.getElem?_set_self hl] at h
      cases h
      exact ⟨some v, by rw [List.getElem?_set_self (by rw [I.len]; exact hl)], atA_e rfl, v, rfl, r⟩
    · rw [List.getElem?_set_ne e] at h
      obtain ⟨o, h1, h2⟩ := hs j s h
      exact ⟨o, by rw [List.getElem?_set_ne e]; exact h1, by rw [atA_n (fun z => e z.symm)]; exact h2⟩
  · rw [List.length_set] at hj hk
    by_cases ej : j = i
    · rw [atA_e ej] at hp; cases hp
    · rw [atA_n ej] at hp
      by_cases ek : k = i
      · rw [atA_e ek]; exact fun z => nomatch z
      · rw [atA_n ek]; exact ap j k n hj hk p hp
/-- a slot gets what the last slot, laid behind, holds -/
theorem Sig.take {sh : Sh} {d : D} {v : V} (I : Sig K cl B G H (S ++ [.ow sh d]) (σ ++ [some v])) (i : Nat) : Sig K cl B G H (S.set i (.ow sh d)) (σ.set i (some v)) := by
  obtain ⟨A, hs, ap⟩ := I.slots
  have hlen : σ.length = S.length := by have := I.len; rw [List.length_append, List.length_append] at this; exact Nat.add_right_cancel this
  have hS : ∀ j, j < S.length → (S ++ [.ow sh d])[j]? = S[j]? := fun j hj => List.getElem?_append_left hj
  have hσ : ∀ j, j < S.length → (σ ++ [some v])[j]? = σ[j]? := fun j hj => List.getElem?_append_left (by rw [hlen]; exact hj)
  refine ⟨I.nxt, by rw [List.length_set, List.length_set, hlen], I.tab, atA A i (A S.length), fun j s h => ?_, fun j k n hj hk p hp => ?_⟩
  · have hl : j < S.length := by have := (List.getElem?_eq_some_iff.mp h).1; rwa [List.length_set] at this
    by_cases e : i = j
    · subst e
      rw [List.getElem?_set_self hl] at h
      cases h
      obtain ⟨o, h1, h2⟩ := hs S.length (.ow sh d) (by rw [List.getElem?_append_right (Nat.le_refl _), Nat.sub_self]; rfl)
      rw [List.getElem?_append_right (by rw [hlen]; exact Nat.le_refl _), hlen, Nat.sub_self] at h1
      cases h1
      exact ⟨some v, by rw [List.getElem?_set_self (by rw [hlen]; exact hl)], by rw [atA_e rfl]; exact h2⟩
    · rw [List.getElem?_set_ne e] at h
      obtain ⟨o, h1, h2⟩ := hs j s (by rw [hS j hl]; exact h)
      rw [hσ j hl] at h1
      exact ⟨o, by rw [List.getElem?_set_ne e]; exact h1, by rw [atA_n (fun z => e z.symm)]; exact h2⟩
  · rw [List.length_set] at hj hk
    have L : (S ++ [Sl.ow sh d]).length = S.length + 1 := by rw [List.length_append]; rfl
    by_cases ej : j = i
    · rw [atA_e ej] at hp
      by_cases ek : k = i
      · exact absurd (ej.trans ek.symm) n
      · rw [atA_n ek]; exact ap S.length k (by omega) (by omega) (by omega) p hp
    · rw [atA_n ej] at hp
      by_cases ek : k = i
      · rw [atA_e ek]; exact ap j S.length (by omega) (by omega) (by omega) p hp
      · rw [atA_n ek]; exact ap j k n (by omega) (by omega) p hp
/-- what is new and owned, laid behind -/
theorem Sig.push (I : Sig K cl B G H S σ) {sh : Sh} {v : V} {d : D} {A0 : List Addr} (n : Nxt G H G' H') (ow : Own K cl G' H' sh v d A0) (nd : A0.Nodup) (nw : ∀ p ∈ A0, H p = none ∧ G' p = none) : Sig K cl B G' H' (S ++ [.ow sh d]) (σ ++ [some v]) := by
  obtain ⟨A, hs, ap⟩ := I.slots
  have I' := I.step n
  have L : (S ++ [Sl.ow sh d]).length = S.length + 1 := by rw [List.length_append]; rfl
  refine ⟨I'.nxt, by rw [List.length_append, List.length_append, I.len]; rfl, I'.tab, atA A S.length (A0), fun j s h => ?_, fun j k nn hj hk p hp => ?_⟩
  · have hl : j < S.length + 1 := by have := (List.getElem?_eq_some_iff.mp h).1; rwa [L] at this
    by_cases e : j = S.length
    · subst e
      rw [List.getElem?_append_right (Nat.le_refl _), Nat.sub_self] at h
      cases h
      refine ⟨some v, by rw [List.getElem?_append_right (by rw [I.len]; exact Nat.le_refl _), I.len, Nat.sub_self]; rfl, ?_⟩
      rw [atA_e rfl]
      exact ⟨v, rfl, ow, nd, fun p hp => ⟨(nw p hp).2, I.nxt.h.back (nw p hp).1⟩⟩
    · have hj : j < S.length := by omega
      rw [List.getElem?_append_left hj] at h
      obtain ⟨o, h1, h2⟩ := hs j s h
      exact ⟨o, by rw [List.getElem?_append_left (by rw [I.len]; exact hj)]; exact h1, by rw [atA_n e]; exact h2.step I.nxt.gh n⟩
  · have inH : ∀ j, j < S.length → ∀ p ∈ A j, H p ≠ none := fun j hj p hp => by
      obtain ⟨o, h1, h2⟩ := hs j S[j] (List.getElem?_eq_getElem hj)
      generalize S[j] = s at h2
      cases s with
      | jk => rw [h2] at hp; cases hp
      | vl d' => rw [h2.1] at hp; cases hp
      | ow sh' d' => obtain ⟨v', _, ow', _⟩ := h2; exact ow'.inH p hp
    rw [L] at hj hk
    by_cases ej : j = S.length
    · rw [atA_e ej] at hp
      rw [atA_n (fun z => nn (ej.trans z.symm))]
      exact fun z => inH k (by omega) p z (nw p hp).1
    · rw [atA_n ej] at hp
      by_cases ek : k = S.length
      · rw [atA_e ek]; exact fun z => inH j (by omega) p hp (nw p z).1
      · rw [atA_n ek]; exact ap j k nn (by omega) (by omega) p hp
/-- an owned thing is given away: it stands for ever -/
theorem Sig.share (I : Sig K cl B G H S σ) {i : Nat} {sh : Sh} {d : D} (h : S[i]? = some (.ow sh d)) :
    ∃ v G', σ[i]? = some (some v) ∧ Ex G G' ∧ Rep K cl G' v d ∧ Sig K cl B G' H (S.set i (.vl d)) σ := by
  obtain ⟨A, hs, ap⟩ := I.slots
  obtain ⟨o, h1, v, rfl, ow, nd, out⟩ := hs i _ h
  have hl : i < S.length := (List.getElem?_eq_some_iff.mp h).1
  have eg : Ex G (fun b => if b ∈ A i then H b else G b) := fun a u e => by
    show (if a ∈ A i then H a else G a) = _
    rw [if_neg (fun z => by rw [(out a z).1] at e; cases e)]; exact e
  have rp : Rep K cl (fun b => if b ∈ A i then H b else G b) v d := ow.rep eg fun p hp => if_pos hp
  refine ⟨v, _, h1, eg, rp, ⟨I.nxt.g.trans eg, I.nxt.h, fun a u e => ?_, fun a e => ?_⟩, by rw [List.length_set]; exact I.len, fun a ha => ⟨(I.tab a ha).1, by show (if a ∈ A i then H a else G a) = none; rw [if_neg (ow.noT (I.tab a ha).1)]; exact (I.tab a ha).2⟩, atA A i ([]), fun j s hj => ?_, fun j k n hj hk p hp => ?_⟩
  · by_cases z : a ∈ A i
    · rw [if_pos z] at e; exact e
    · rw [if_neg z] at e; exact I.nxt.gh a u e
  · by_cases z : a ∈ A i
    · exact .inr (out a z).2
    · rw [if_neg z] at e; exact I.nxt.fr a e
  · by_cases e : i = j
    · subst e
      rw [List.getElem?_set_self hl] at hj
      cases hj
      exact ⟨_, h1, atA_e rfl, _, rfl, rp⟩
    · rw [List.getElem?_set_ne e] at hj
      have hlj : j < S.length := (List.getElem?_eq_some_iff.mp hj).1
      obtain ⟨o, h2, h3⟩ := hs j s hj
      refine ⟨o, h2, ?_⟩
      rw [atA_n (fun z => e z.symm)]
      cases s with
      | jk => exact h3
      | vl d' =>
        obtain ⟨ea, v, e1, r1⟩ := h3
        exact ⟨ea, v, e1, r1.mono eg⟩
      | ow sh' d' =>
        obtain ⟨v', e1, ow2, nd', out'⟩ := h3
        refine ⟨v', e1, ow2.step eg (fun p hp u _ hu => hu), nd', fun p hp => ⟨?_, (out' p hp).2⟩⟩
        show (if p ∈ A i then H p else G p) = none
        rw [if_neg (ap j i (fun z => e z.symm) hlj hl p hp)]
        exact (out' p hp).1
  · rw [List.length_set] at hj hk
    by_cases ej : j = i
    · rw [atA_e ej] at hp; cases hp
    · rw [atA_n ej] at hp
      by_cases ek : k = i
      · rw [atA_e ek]; exact fun z => nomatch z
      · rw [atA_n ek]; exact ap j k n hj hk p hp
/-- an owned flat list is changed in place -/
theorem Sig.mut (I : Sig K cl B G H S σ) {i : Nat} {d : D} {p : Addr} {vs : List V} {xs : List D} (h : S[i]? = some (.ow (.l .v) d)) (h1 : σ[i]? = some (some (.ref p))) (r : Reps K cl G vs xs) :
    Sig K cl B G (upd H p (.lst vs)) (S.set i (.ow (.l .v) (.lst xs))) σ := by
  obtain ⟨v, A, h2, ow, nd, out, cl'⟩ := I.opn h
  rw [h1] at h2; cases h2
  obtain ⟨p0, vs0, xs0, e0, e, hp, rfl, _⟩ := ow.flat
  cases e0
  exact cl' _ _ (fun q hq => upd_ne fun z => hq (by rw [z]; exact List.mem_cons_self)) (Own.mkFlat upd_same r)
/-- some slots are forgotten -/
inductive Weak : List Sl → List Sl → Prop
  | nil : Weak [] []
  | same {s S S'} : Weak S S' → Weak (s :: S) (s :: S')
  | drop {s S S'} : Weak S S' → Weak (s :: S) (.jk :: S')
theorem Weak.refl : ∀ S, Weak S S
  | [] => .nil
  | _ :: S => .same (Weak.refl S)
theorem Weak.get : ∀ {S S' : List Sl} {i : Nat} {s : Sl}, Weak S S' → S'[i]? = some s → s = .jk ∨ S[i]? = some s
  | _, _, _, _, .nil, h => by simp at h
  | _, _, 0, _, .same _, h => .inr (by simpa using h)
  | _, _, 0, _, .drop _, h => .inl (by simp at h; exact h.symm)
  | _, _, i + 1, _, .same w, h => by
    have := Weak.get (i := i) w (by simpa using h)
    simpa using this
  | _, _, i + 1, _, .drop w, h => by
    have := Weak.get (i := i) w (by simpa using h)
    simpa using this
theorem Weak.len : ∀ {S S' : List Sl}, Weak S S' → S'.length = S.length
  | _, _, .nil => rfl
  | _, _, .same w => congrArg (· + 1) w.len
  | _, _, .drop w => congrArg (· + 1) w.len
theorem Sig.sub {S' : List Sl} (I : Sig K cl B G H S σ) (hl : S'.length = S.length) (hg : ∀ (i : Nat) (s : Sl), S'[i]? = some s → s = .jk ∨ S[i]? = some s) : Sig K cl B G H S' σ := by
  obtain ⟨A, hs, ap⟩ := I.slots
  refine ⟨I.nxt, I.len.trans hl.symm, I.tab, fun j => match S'[j]? with | some .jk => [] | _ => A j, fun i s h => ?_, fun j k n hj hk p hp => ?_⟩
  · show ∃ o, _ ∧ SlotOk K cl B G H s o (match S'[i]? with | some .jk => [] | _ => A i)
    rw [h]
    have hl' : i < σ.length := by rw [I.len, ← hl]; exact (List.getElem?_eq_some_iff.mp h).1
    cases s with
    | jk => exact ⟨σ[i], List.getElem?_eq_getElem hl', rfl⟩
    | vl d =>
      rcases hg i _ h with z | z
      · cases z
      · exact hs i _ z
    | ow sh d =>
      rcases hg i _ h with z | z
      · cases z
      · exact hs i _ z
  · have sub : ∀ j, (match S'[j]? with | some .jk => [] | _ => A j) ⊆ A j := fun j => by
      split
      · exact fun _ z => nomatch z
      · exact fun _ z => z
    exact fun z => ap j k n (by rw [← hl]; exact hj) (by rw [← hl]; exact hk) p (sub j hp) (sub k z)
theorem Sig.weak {S' : List Sl} (I : Sig K cl B G H S σ) (w : Weak S S') : Sig K cl B G H S' σ := I.sub w.len fun _ _ h => w.get h
/-- a slot gets anything -/
theorem Sig.any (I : Sig K cl B G H S σ) (i : Nat) (o : Option V) : Sig K cl B G H (S.set i .jk) (σ.set i o) := by
  obtain ⟨A, hs, ap⟩ := I.slots
  refine ⟨I.nxt, by rw [List.length_set, List.length_set, I.len], I.tab, atA A i ([]), fun j s h => ?_, fun j k n hj hk p hp => ?_⟩
  · by_cases e : i = j
    · subst e
      have hl : i < S.length := by have := (List.getElem?_eq_some_iff.mp h).1; rwa [List.length_set] at this
      rw [List.getElem?_set_self hl] at h
      cases h
      exact ⟨o, by rw [List.getElem?_set_self (by rw [I.len]; exact hl)], atA_e rfl⟩
    · rw [List.getElem?_set_ne e] at h
      obtain ⟨o, h1, h2⟩ := hs j s h
      exact ⟨o, by rw [List.getElem?_set_ne e]; exact h1, by rw [atA_n (fun z => e z.symm)]; exact h2⟩
  · rw [List.length_set] at hj hk
    by_cases ej : j = i
    · rw [atA_e ej] at hp; cases hp
    · rw [atA_n ej] at hp
      by_cases ek : k = i
      · rw [atA_e ek]; exact fun z => nomatch z
      · rw [atA_n ek]; exact ap j k n hj hk p hp
end
end Oh
namespace Oh
open PySem PySem.Spec PyProof.Rows L2 Evl

/-! ### plain functions on data -/
noncomputable def asB : D → Option Bool | .bl b => some b | _ => none
noncomputable def asI : D → Option Int | .int i => some i | _ => none
noncomputable def asS : D → Option Str | .str i => some i | _ => none
noncomputable def asL : D → Option (List D) | .lst xs => some xs | .rol xs => some xs | _ => none
noncomputable def asT : D → Option (List D) | .tup xs => some xs | _ => none
noncomputable def dAdd : D → D → Option D
  | .int a, .int b => some (.int (a + b))
  | .str a, .str b => if a.length + b.length ≤ 100000 then some (.str (a ++ b)) else none
  | _, _ => none
noncomputable def dCat : D → D → Option D
  | .lst a, .lst b => if a.length + b.length ≤ 100000 then some (.lst (a ++ b)) else none
  | _, _ => none
noncomputable def dSub : D → D → Option D
  | .int a, .int b => some (.int (a - b))
  | _, _ => none
/-- a product that the machine reckons: one factor small, or both not too long -/
noncomputable abbrev MulOk (a b : Int) : Prop := ((-(2 ^ 64) < a ∧ a < 2 ^ 64) ∨ (-(2 ^ 64) < b ∧ b < 2 ^ 64)) ∨ a.natAbs.log2 + b.natAbs.log2 < 1000000
noncomputable def dMul : D → D → Option D
  | .int a, .int b => if MulOk a b then some (.int (a * b)) else none
  | _, _ => none
noncomputable def dFdiv : D → D → Option D
  | .int a, .int b => if 0 < b ∧ (b.natAbs.log2 < 9000 ∨ a.natAbs.log2 ≤ b.natAbs.log2 + 4400) then some (.int (a / b)) else none
  | _, _ => none
noncomputable def dMod : D → D → Option D
  | .int a, .int b => if 0 < b then some (.int (a % b)) else none
  | _, _ => none
noncomputable def dPow : D → D → Option D
  | .int a, .int b => if 0 ≤ b ∧ b ≤ 1000000 ∧ a.natAbs < 2 ^ 64 then some (.int (a ^ b.toNat)) else none
  | _, _ => none
noncomputable def dNeg : D → Option D | .int a => some (.int (-a)) | _ => none
noncomputable def dLt : D → D → Option D | .int a, .int b => some (.bl (decide (a < b))) | _, _ => none
noncomputable def dLe : D → D → Option D | .int a, .int b => some (.bl (decide (a ≤ b))) | _, _ => none
noncomputable def dGt : D → D → Option D | .int a, .int b => some (.bl (decide (b < a))) | _, _ => none
mutual
noncomputable def toP : D → Option PyData
  | .non => some .none
  | .bl b => some (.bool b)
  | .int i => some (.int i)
  | .str x => some (.str x)
  | .lst xs => (toPs xs).map .list
  | .rol xs => (toPs xs).map .list
  | .tup xs => (toPs xs).map .tuple
  | .ob _ _ => none
  | .dic _ => none
  | .oba _ _ _ => none
  | .fn _ _ _ => none
noncomputable def toPs : List D → Option (List PyData)
  | [] => some []
  | x :: xs => (toP x).bind fun p => (toPs xs).bind fun ps => some (p :: ps)
end
noncomputable def dEqB (x y : D) : Option Bool := (toP x).bind fun p => (toP y).bind fun q => if SeqAt.shaped p = true ∧ SeqAt.shaped q = true then some (PyData.eqv p q) else none
noncomputable def dEq (x y : D) : Option D := (dEqB x y).map .bl
/-- == of ints, bools, texts, None -/
noncomputable def dEqF : D → D → Option D
  | .int a, .int b => some (.bl (decide (a = b)))
  | .bl a, .bl b => some (.bl (decide (a = b)))
  | .str a, .str b => some (.bl (decide (a = b)))
  | _, _ => none
noncomputable def dNeF : D → D → Option D
  | .int a, .int b => some (.bl (!decide (a = b)))
  | .bl a, .bl b => some (.bl (!decide (a = b)))
  | .str a, .str b => some (.bl (!decide (a = b)))
  | _, _ => none
noncomputable def dIx : D → D → Option D
  | .lst xs, .int i => atI xs i
  | .rol xs, .int i => atI xs i
  | .tup xs, .int i => atI xs i
  | .str z, .int i => if z.length ≤ 100000 then (atI z.cps.toList i).map fun c => .str ⟨#[c]⟩ else none
  | _, _ => none
noncomputable def dLen : D → Option D
  | .lst xs => some (.int xs.length)
  | .rol xs => some (.int xs.length)
  | .tup xs => some (.int xs.length)
  | .str z => if z.length ≤ 100000 then some (.int z.length) else none
  | _ => none
noncomputable def dInt : D → Option D
  | .int i => some (.int i)
  | .bl b => some (.int (if b then 1 else 0))
  | _ => none
noncomputable def dMax2 : D → D → Option D | .int i, .int j => some (.int (if j > i then j else i)) | _, _ => none
noncomputable def dList : D → Option D
  | .lst xs => some (.lst xs)
  | .rol xs => some (.lst xs)
  | .tup xs => some (.lst xs)
  | _ => none
noncomputable def cutD (xs : List D) (lo hi : Option Int) : List D := (xs.drop (HT.sIx xs.length 0 lo)).take (HT.sIx xs.length xs.length hi - HT.sIx xs.length 0 lo)
noncomputable def dTru : D → Option Bool
  | .non => some false
  | .bl b => some b
  | .int i => some (i != 0)
  | .str y => if y.length ≤ 100000 then some ((y.length : Int) != 0) else none
  | .lst xs => some (!xs.isEmpty)
  | .rol xs => some (!xs.isEmpty)
  | .tup xs => some (!xs.isEmpty)
  | _ => none
inductive Ty where | int | bool | str | list | tuple
  deriving DecidableEq
noncomputable def Ty.nm : Ty → String | .int => "int" | .bool => "bool" | .str => "str" | .list => "list" | .tuple => "tuple"
/-- isinstance against a built-in class -/
noncomputable def dIsi (t : Ty) : D → Option D
  | .non => some (.bl false)
  | .bl _ => some (.bl (t = .bool ∨ t = .int))
  | .int _ => some (.bl (t = .int))
  | .str _ => some (.bl (t = .str))
  | .lst _ => some (.bl (t = .list))
  | .tup _ => some (.bl (t = .tuple))
  | _ => none

/-! ### what a reading does on data -/
section
variable (K : PySem.W.Frag) (cl : Cl)
noncomputable def EV (te : TE) (S : List Sl) (m : Option D) (S' : List Sl) : Prop := ∀ (B : Bs) (G H : Hp) (σ : L2.St), Sig K cl B G H S σ → ∀ d, m = some d → ∀ Q : VK,
  (∀ v G' H', Sig K cl B G' H' S' σ → Ex G G' → Ex2 H H' → Rep K cl G' v d → Q v H') → te σ H Q
/-- a new list -/
noncomputable def EVN (te : TE) (S : List Sl) (m : Option D) (S' : List Sl) : Prop := ∀ (B : Bs) (G H : Hp) (σ : L2.St), Sig K cl B G H S σ → ∀ d, m = some d → ∀ Q : VK,
  (∀ p vs xs G' H', Sig K cl B G' H' S' σ → Ex G G' → Ex2 H H' → d = .lst xs → H' p = none → Reps K cl G' vs xs → Q (.ref p) (upd H' p (.lst vs))) → te σ H Q
noncomputable def ET (tt : TT) (S : List Sl) (m : Option Bool) (S' : List Sl) : Prop := ∀ (B : Bs) (G H : Hp) (σ : L2.St), Sig K cl B G H S σ → ∀ b, m = some b → ∀ Q : Bool → Hp → Prop,
  (∀ G' H', Sig K cl B G' H' S' σ → Ex G G' → Ex2 H H' → Q b H') → tt σ H Q
noncomputable def EA (ta : TA) (S : List Sl) (m : Option (List D)) (S' : List Sl) : Prop := ∀ (B : Bs) (G H : Hp) (σ : L2.St), Sig K cl B G H S σ → ∀ ds, m = some ds → ∀ Q : List V → Hp → Prop,
  (∀ vs G' H', Sig K cl B G' H' S' σ → Ex G G' → Ex2 H H' → Reps K cl G' vs ds → Q vs H') → ta σ H Q
/-- operations by values -/
noncomputable def Op2 (r : R2) (f : D → D → Option D) : Prop := ∀ (G H : Hp) x y d e z, Ex G H → Rep K cl G x d → Rep K cl G y e → f d e = some z → ∀ Q : VK, (∀ v, Rep K cl G v z → Q v H) → r x y H Q
noncomputable def Op2N (r : R2) (f : D → D → Option D) : Prop := ∀ (G H : Hp) x y d e z, Ex G H → Rep K cl G x d → Rep K cl G y e → f d e = some z → ∀ Q : VK,
  (∀ p vs xs, H p = none → z = .lst xs → Reps K cl G vs xs → Q (.ref p) (upd H p (.lst vs))) → r x y H Q
noncomputable def OpN (r : List V → Hp → VK → Prop) (f : List D → Option D) : Prop := ∀ (G H : Hp) xs ds z, Ex G H → Reps K cl G xs ds → f ds = some z → ∀ Q : VK, (∀ v, Rep K cl G v z → Q v H) → r xs H Q
noncomputable def OpNN (r : List V → Hp → VK → Prop) (f : List D → Option D) : Prop := ∀ (G H : Hp) xs ds z, Ex G H → Reps K cl G xs ds → f ds = some z → ∀ Q : VK,
  (∀ p vs xs, H p = none → z = .lst xs → Reps K cl G vs xs → Q (.ref p) (upd H p (.lst vs))) → r xs H Q
end
section
variable {K : PySem.W.Frag} {cl : Cl} {S S1 S2 S' : List Sl} {ta tb te : TE} {m n : Option D} {t u : TT}
theorem EVN.ev (h : EVN K cl te S m S') : EV K cl te S m S' := fun B G H σ I d hm Q q =>
  h B G H σ I d hm Q fun p vs xs G' H' I' eg eh ed hp r => by
    subst ed
    have nx := Nxt.new (o := .lst vs) I'.nxt.gh hp
    exact q _ _ _ (I'.step nx) (eg.trans nx.g) (eh.trans nx.h) (.lst upd_same (r.mono nx.g))
theorem ev_v {i : Nat} {d : D} (h : S[i]? = some (.vl d)) : EV K cl (tVar i) S (some d) S := fun B G H σ I d' e Q q => by
  cases e
  obtain ⟨v, h1, r⟩ := I.vl h
  exact ⟨v, h1, q v G H I (Ex.refl _) (Ex2.refl _) r⟩
theorem ev_int {i : Int} : EV K cl (tC (.int i)) S (some (.int i)) S := fun B G H σ I d e Q q => by cases e; exact q _ G H I (Ex.refl _) (Ex2.refl _) .int
theorem ev_bl {b : Bool} : EV K cl (tC (.bl b)) S (some (.bl b)) S := fun B G H σ I d e Q q => by cases e; exact q _ G H I (Ex.refl _) (Ex2.refl _) .bl
theorem ev_str {x : Str} : EV K cl (tC (.str x)) S (some (.str x)) S := fun B G H σ I d e Q q => by cases e; exact q _ G H I (Ex.refl _) (Ex2.refl _) .str
theorem bind_some {α β : Type} {m : Option α} {f : α → Option β} {b : β} (h : m.bind f = some b) : ∃ a, m = some a ∧ f a = some b := Option.bind_eq_some_iff.mp h
theorem rep_B {G : Hp} {v : V} {x : D} {c : Bool} (r : Rep K cl G v x) (h : asB x = some c) : v = .bl c := by
  cases r <;> cases h
  rfl
theorem ev_op {r : R2} {f : D → D → Option D} (o : Op2 K cl r f) (ha : EV K cl ta S m S1) (hb : EV K cl tb S1 n S2) : EV K cl (tOp r ta tb) S (m.bind fun x => n.bind fun y => f x y) S2 := fun B G H σ I z e Q q => by
  obtain ⟨a, ea, e⟩ := bind_some e
  obtain ⟨b, eb, e⟩ := bind_some e
  refine ha B G H σ I a ea _ fun x G1 H1 I1 g1 h1 rx => ?_
  refine hb B G1 H1 σ I1 b eb _ fun y G2 H2 I2 g2 h2 ry => ?_
  exact o G2 H2 x y a b z I2.nxt.gh (rx.mono g2) ry e Q fun v rv => q v G2 H2 I2 (g1.trans g2) (h1.trans h2) rv
theorem evn_op {r : R2} {f : D → D → Option D} (o : Op2N K cl r f) (ha : EV K cl ta S m S1) (hb : EV K cl tb S1 n S2) : EVN K cl (tOp r ta tb) S (m.bind fun x => n.bind fun y => f x y) S2 := fun B G H σ I z e Q q => by
  obtain ⟨a, ea, e⟩ := bind_some e
  obtain ⟨b, eb, e⟩ := bind_some e
  refine ha B G H σ I a ea _ fun x G1 H1 I1 g1 h1 rx => ?_
  refine hb B G1 H1 σ I1 b eb _ fun y G2 H2 I2 g2 h2 ry => ?_
  exact o G2 H2 x y a b z I2.nxt.gh (rx.mono g2) ry e Q fun p vs xs hp ez r => q p vs xs G2 H2 I2 (g1.trans g2) (h1.trans h2) ez hp r
theorem et_op {r : R2} {f : D → D → Option D} (o : Op2 K cl r f) (ha : EV K cl ta S m S1) (hb : EV K cl tb S1 n S2) : ET K cl (tTest (tOp r ta tb)) S (m.bind fun x => n.bind fun y => (f x y).bind asB) S2 := fun B G H σ I z e Q q => by
  obtain ⟨a, ea, e⟩ := bind_some e
  obtain ⟨b, eb, e⟩ := bind_some e
  obtain ⟨c, ec, e⟩ := bind_some e
  refine ha B G H σ I a ea _ fun x G1 H1 I1 g1 h1 rx => ?_
  refine hb B G1 H1 σ I1 b eb _ fun y G2 H2 I2 g2 h2 ry => ?_
  exact o G2 H2 x y a b c I2.nxt.gh (rx.mono g2) ry ec _ fun v rv => ⟨z, rep_B rv e, q G2 H2 I2 (g1.trans g2) (h1.trans h2)⟩
theorem ev_un {r : V → Hp → VK → Prop} {f : D → Option D} (o : ∀ (G H : Hp) x d z, Ex G H → Rep K cl G x d → f d = some z → ∀ Q : VK, (∀ v, Rep K cl G v z → Q v H) → r x H Q) (ha : EV K cl ta S m S1) : EV K cl (tUn r ta) S (m.bind f) S1 := fun B G H σ I z e Q q => by
  obtain ⟨a, ea, e⟩ := bind_some e
  refine ha B G H σ I a ea _ fun x G1 H1 I1 g1 h1 rx => ?_
  exact o G1 H1 x a z I1.nxt.gh rx e Q fun v rv => q v G1 H1 I1 g1 h1 rv
/-- arguments -/
theorem ea_nil : EA K cl tNil S (some []) S := fun B G H σ I ds e Q q => by cases e; exact q [] G H I (Ex.refl _) (Ex2.refl _) .nil
theorem ea_cons {tr : TA} {ms : Option (List D)} (ha : EV K cl ta S m S1) (hr : EA K cl tr S1 ms S2) : EA K cl (tCons ta tr) S (m.bind fun x => ms.bind fun xs => some (x :: xs)) S2 := fun B G H σ I ds e Q q => by
  obtain ⟨a, ea, e⟩ := bind_some e
  obtain ⟨as, eas, e⟩ := bind_some e
  cases e
  refine ha B G H σ I a ea _ fun x G1 H1 I1 g1 h1 rx => ?_
  refine hr B G1 H1 σ I1 as eas _ fun vs G2 H2 I2 g2 h2 rs => ?_
  exact q _ G2 H2 I2 (g1.trans g2) (h1.trans h2) (.cons (rx.mono g2) rs)
theorem ev_cb {r : List V → Hp → VK → Prop} {f : List D → Option D} {ts : TA} {ms : Option (List D)} (o : OpN K cl r f) (ha : EA K cl ts S ms S1) : EV K cl (tCB r ts) S (ms.bind f) S1 := fun B G H σ I z e Q q => by
  obtain ⟨ds, eds, e⟩ := bind_some e
  exact ha B G H σ I ds eds _ fun vs G1 H1 I1 g1 h1 rs => o G1 H1 vs ds z I1.nxt.gh rs e Q fun v rv => q v G1 H1 I1 g1 h1 rv
theorem evn_cb {r : List V → Hp → VK → Prop} {f : List D → Option D} {ts : TA} {ms : Option (List D)} (o : OpNN K cl r f) (ha : EA K cl ts S ms S1) : EVN K cl (tCB r ts) S (ms.bind f) S1 := fun B G H σ I z e Q q => by
  obtain ⟨ds, eds, e⟩ := bind_some e
  exact ha B G H σ I ds eds _ fun vs G1 H1 I1 g1 h1 rs => o G1 H1 vs ds z I1.nxt.gh rs e Q fun p vs xs hp ez r => q p vs xs G1 H1 I1 g1 h1 ez hp r
/-- displays -/
noncomputable def few (k : List D → D) (xs : List D) : Option D := if xs.length ≤ 100000 then some (k xs) else none
theorem ev_tup {ts : TA} {ms : Option (List D)} (ha : EA K cl ts S ms S1) : EV K cl (tTup ts) S (ms.bind (few .tup)) S1 := fun B G H σ I z e Q q => by
  obtain ⟨ds, eds, e⟩ := bind_some e
  unfold few at e
  split at e
  · rename_i hl
    cases e
    refine ha B G H σ I ds eds _ fun vs G1 H1 I1 g1 h1 rs => ?_
    refine ⟨sz_of (by rw [rs.length]; exact hl), fun p hp => ?_⟩
    have nx := Nxt.new (o := .tup vs) I1.nxt.gh hp
    exact q _ _ _ (I1.step nx) (g1.trans nx.g) (h1.trans nx.h) (.tup (st_of upd_same) (rs.mono nx.g))
  · cases e
theorem evn_lst {ts : TA} {ms : Option (List D)} (ha : EA K cl ts S ms S1) : EVN K cl (tLst ts) S (ms.bind (few .lst)) S1 := fun B G H σ I z e Q q => by
  obtain ⟨ds, eds, e⟩ := bind_some e
  unfold few at e
  split at e
  · rename_i hl
    cases e
    exact ha B G H σ I ds eds _ fun vs G1 H1 I1 g1 h1 rs => ⟨sz_of (by rw [rs.length]; exact hl), fun p hp => q p vs ds G1 H1 I1 g1 h1 rfl hp rs⟩
  · cases e
/-- truth values as tests, tests -/
theorem et_B (h : EV K cl te S m S1) : ET K cl (tB te) S (m.bind asB) S1 := fun B G H σ I b e Q q => by
  obtain ⟨a, ea, e⟩ := bind_some e
  exact h B G H σ I a ea _ fun v G1 H1 I1 g1 h1 rv => ⟨b, rep_B rv e, q G1 H1 I1 g1 h1⟩
theorem et_tru (h : EV K cl te S m S1) : ET K cl (fun σ H Q => te σ H fun x H' => ∃ k, TruV K x H' k ∧ Q k H') S (m.bind dTru) S1 := fun B G H σ I b e Q q => by
  obtain ⟨a, ea, e⟩ := bind_some e
  refine h B G H σ I a ea _ fun v G1 H1 I1 g1 h1 rv => ⟨b, ?_, q G1 H1 I1 g1 h1⟩
  have em : ∀ {vs : List V} {ds : List D}, Reps K cl G1 vs ds → (!vs.isEmpty) = !ds.isEmpty := fun r => by cases r <;> rfl
  cases rv with
  | non => cases e; rfl
  | bl => cases e; rfl
  | int => cases e; rfl
  | str =>
    simp only [dTru] at e
    split at e
    · rename_i hl
      exact ⟨sz_of hl, (Option.some.inj e).symm⟩
    · cases e
  | lst hg rs => cases e; exact Or.inl ⟨_, sq_of (I1.nxt.gh _ _ hg), (em rs).symm⟩
  | rol hg rs => cases e; exact Or.inl ⟨_, ex_l I1.nxt.gh hg, (em rs).symm⟩
  | tup hg rs => cases e; exact Or.inr (Or.inl ⟨_, ex_t I1.nxt.gh hg, (em rs).symm⟩)
  | ob _ _ => cases e
  | dic _ _ => cases e
  | oba _ _ => cases e
  | fn _ _ _ _ => cases e
theorem et_or {a b : Option Bool} (h1 : ET K cl t S a S1) (h2 : ET K cl u S1 b S1) : ET K cl (tOr t u) S (a.bind fun x => if x = true then some true else b) S1 := fun B G H σ I z e Q q => by
  obtain ⟨x, ex, e⟩ := bind_some e
  refine h1 B G H σ I x ex _ fun G1 H1 I1 g1 h1' => ?_
  cases x with
  | true => cases e; exact q G1 H1 I1 g1 h1'
  | false => exact h2 B G1 H1 σ I1 z e Q fun G2 H2 I2 g2 h2' => q G2 H2 I2 (g1.trans g2) (h1'.trans h2')
theorem et_not {a : Option Bool} (h1 : ET K cl t S a S1) : ET K cl (tNot t) S (a.map fun x => !x) S1 := fun B G H σ I z e Q q => by
  obtain ⟨x, ex, e⟩ := Option.map_eq_some_iff.mp e
  subst e
  exact h1 B G H σ I x ex _ fun G1 H1 I1 g1 h1' => q G1 H1 I1 g1 h1'
theorem ev_and (h1 : EV K cl ta S m S1) (h2 : EV K cl tb S1 n S1) : EV K cl (tAndV ta tb) S (m.bind fun x => (asB x).bind fun c => if c = true then n else some (.bl false)) S1 := fun B G H σ I z e Q q => by
  obtain ⟨x, ex, e⟩ := bind_some e
  obtain ⟨c, ec, e⟩ := bind_some e
  refine h1 B G H σ I x ex _ fun v G1 H1 I1 g1 h1' rv => ⟨c, rep_B rv ec, ?_⟩
  cases c with
  | true => exact h2 B G1 H1 σ I1 z e Q fun v G2 H2 I2 g2 h2' => q v G2 H2 I2 (g1.trans g2) (h1'.trans h2')
  | false => cases e; exact q _ G1 H1 I1 g1 h1' .bl
theorem ev_not (h1 : EV K cl ta S m S1) : EV K cl (tNotV ta) S (m.bind fun x => (asB x).map fun b => .bl (!b)) S1 := fun B G H σ I z e Q q => by
  obtain ⟨x, ex, e⟩ := bind_some e
  obtain ⟨c, ec, e⟩ := Option.map_eq_some_iff.mp e
  subst e
  exact h1 B G H σ I x ex _ fun v G1 H1 I1 g1 h1' rv => ⟨c, rep_B rv ec, q _ G1 H1 I1 g1 h1' .bl⟩
theorem ev_ife {a : Option Bool} (h : ET K cl t S a S1) (h1 : EV K cl ta S1 m S1) (h2 : EV K cl tb S1 n S1) : EV K cl (tIf t ta tb) S (a.bind fun c => if c = true then m else n) S1 := fun B G H σ I z e Q q => by
  obtain ⟨x, ex, e⟩ := bind_some e
  refine h B G H σ I x ex _ fun G1 H1 I1 g1 h1' => ?_
  cases x with
  | true => exact h1 B G1 H1 σ I1 z e Q fun v G2 H2 I2 g2 h2' => q v G2 H2 I2 (g1.trans g2) (h1'.trans h2')
  | false => exact h2 B G1 H1 σ I1 z e Q fun v G2 H2 I2 g2 h2' => q v G2 H2 I2 (g1.trans g2) (h1'.trans h2')

/-! ### an owned thing read for a while -/
noncomputable def flatD : D → Option D
  | .non => some .non | .bl b => some (.bl b) | .int i => some (.int i) | .str x => some (.str x) | _ => none
theorem flat_rep {G G' : Hp} {v : V} {d z : D} (h : flatD d = some z) (r : Rep K cl G v d) : Rep K cl G' v z := by
  cases r <;> cases h <;> constructor
theorem Sig.lend {B : Bs} {G H : Hp} {σ : L2.St} (I : Sig K cl B G H S σ) {i : Nat} {sh : Sh} {d : D} (h : S[i]? = some (.ow sh d)) {G' H' : Hp} (I' : Sig K cl B G' H' (S.set i (.vl d)) σ) (eg : Ex G G') (eh : Ex2 H H') : Sig K cl B G H' S σ := by
  obtain ⟨A, hs, ap⟩ := I.slots
  refine ⟨⟨I.nxt.g, I'.nxt.h, eg.trans I'.nxt.gh, I.nxt.fr⟩, I.len, fun a ha => ⟨(I'.tab a ha).1, (I.tab a ha).2⟩, A, fun j s hj => ?_, ap⟩
  obtain ⟨o, h1, h2⟩ := hs j s hj
  refine ⟨o, h1, ?_⟩
  cases s with
  | jk => exact h2
  | vl d' => exact h2
  | ow sh' d' =>
    obtain ⟨v, e, ow, nd, out⟩ := h2
    exact ⟨v, e, ow.step (Ex.refl _) (fun p _ u _ hu => eh _ _ hu), nd, out⟩
theorem ev_lend {i : Nat} {sh : Sh} {d : D} (h : S[i]? = some (.ow sh d)) (he : EV K cl te (S.set i (.vl d)) m (S.set i (.vl d))) : EV K cl te S (m.bind flatD) S := fun B G H σ I z e Q q => by
  obtain ⟨x, ex, e⟩ := bind_some e
  obtain ⟨_, G1, _, g1, _, I1⟩ := I.share h
  refine he B G1 H σ I1 x ex Q fun v G2 H2 I2 g2 h2 rv => ?_
  exact q v G H2 (I.lend h I2 (g1.trans g2) h2) (Ex.refl _) h2 (flat_rep e rv)
theorem et_lend {i : Nat} {sh : Sh} {d : D} {a : Option Bool} (h : S[i]? = some (.ow sh d)) (he : ET K cl t (S.set i (.vl d)) a (S.set i (.vl d))) : ET K cl t S a S := fun B G H σ I z e Q q => by
  obtain ⟨_, G1, _, g1, _, I1⟩ := I.share h
  refine he B G1 H σ I1 z e Q fun G2 H2 I2 g2 h2 => ?_
  exact q G H2 (I.lend h I2 (g1.trans g2) h2) (Ex.refl _) h2
/-- a new list of flat things -/
noncomputable def flatDs : List D → Option (List D)
  | [] => some []
  | x :: xs => (flatD x).bind fun y => (flatDs xs).bind fun ys => some (y :: ys)
noncomputable def flatL : D → Option D | .lst xs => (flatDs xs).map .lst | _ => none
theorem flat_reps {G G' : Hp} : ∀ {vs : List V} {ds zs : List D}, flatDs ds = some zs → Reps K cl G vs ds → Reps K cl G' vs zs
  | _, _, _, h, .nil => by cases h; exact .nil
  | _, _, _, h, .cons r t => by
    obtain ⟨y, e1, h⟩ := bind_some h
    obtain ⟨ys, e2, h⟩ := bind_some h
    cases h
    exact .cons (flat_rep e1 r) (flat_reps e2 t)
theorem evn_lend {i : Nat} {sh : Sh} {d : D} (h : S[i]? = some (.ow sh d)) (he : EVN K cl te (S.set i (.vl d)) m (S.set i (.vl d))) : EVN K cl te S (m.bind flatL) S := fun B G H σ I z e Q q => by
  obtain ⟨x, ex, e⟩ := bind_some e
  obtain ⟨_, G1, _, g1, _, I1⟩ := I.share h
  refine he B G1 H σ I1 x ex Q fun p vs xs G2 H2 I2 g2 h2 ex2 hp rs => ?_
  subst ex2
  obtain ⟨zs, ez, rfl⟩ := Option.map_eq_some_iff.mp e
  exact q p vs zs G H2 (I.lend h I2 (g1.trans g2) h2) (Ex.refl _) h2 rfl hp (flat_reps ez rs)
/-- what is new and owned, whatever its shape -/
noncomputable def EVO (K : PySem.W.Frag) (cl : Cl) (sh : Sh) (te : TE) (S : List Sl) (m : Option D) (S' : List Sl) : Prop := ∀ (B : Bs) (G H : Hp) (σ : L2.St), Sig K cl B G H S σ → ∀ d, m = some d → ∀ Q : VK,
  (∀ v G' H', Sig K cl B G' H' (S' ++ [.ow sh d]) (σ ++ [some v]) → Ex G G' → Ex2 H H' → Q v H') → te σ H Q
theorem EVN.evo (h : EVN K cl te S m S') : EVO K cl (.l .v) te S m S' := fun B G H σ I d hm Q q =>
  h B G H σ I d hm Q fun p vs xs G' H' I' eg eh ed hp r => by
    subst ed
    have nx := Nxt.lay (o := .lst vs) I'.nxt.gh hp
    exact q _ _ _ (I'.push nx (Own.mkFlat upd_same r) (by simp) fun p' hp' => by rw [List.mem_singleton.mp hp']; exact ⟨hp, fresh_back I'.nxt.gh hp⟩) eg (eh.trans nx.h)
end
end Oh
namespace Oh
open PySem PySem.Spec PyProof.Rows L2 Evl

section
variable {K : PySem.W.Frag} {cl : Cl} {X : Cx}
/-- int + int, text + text -/
noncomputable def rAddD : R2 := fun x y H Q => rI0 (fun i j => .int (i + j)) x y H Q ∨ ∃ i j, x = .str i ∧ y = .str j ∧ i.length + j.length ≤ sizeLine ∧ Q (.str (i ++ j)) H
theorem op_addD : OpR X (binaryOp .Add) rAddD := op_add.or op_add_str
theorem o_add : Op2 K cl rAddD dAdd := by
  intro G H x y d e z gh rx ry h Q q
  cases rx <;> cases ry <;> simp only [dAdd] at h <;> try (cases h; done)
  · cases h
    exact Or.inl ⟨_, _, rfl, rfl, q _ .int⟩
  · split at h
    · rename_i hl
      cases h
      exact Or.inr ⟨_, _, rfl, rfl, sz_of hl, q _ .str⟩
    · cases h
theorem o_sub : Op2 K cl (rI0 fun i j => .int (i - j)) dSub := by
  intro G H x y d e z gh rx ry h Q q
  cases rx <;> cases ry <;> simp only [dSub] at h <;> try (cases h; done)
  cases h
  exact ⟨_, _, rfl, rfl, q _ .int⟩
noncomputable def rMulD : R2 := fun x y H Q => rI CMul (fun i j => .int (i * j)) x y H Q ∨ rI CMulW (fun i j => .int (i * j)) x y H Q
theorem op_mulD : OpR X (binaryOp .Mult) rMulD := op_mul.or op_mulW
theorem o_mul : Op2 K cl rMulD dMul := by
  intro G H x y d e z gh rx ry h Q q
  cases rx <;> cases ry <;> simp only [dMul] at h <;> try (cases h; done)
  split at h
  · rename_i hl
    cases h
    rcases hl with hl | hl
    · exact Or.inl ⟨_, _, rfl, rfl, hl, q _ .int⟩
    · exact Or.inr ⟨_, _, rfl, rfl, hl, q _ .int⟩
  · cases h
/-- // by a positive divisor below 2 ^ 9000, or with a quotient that is not long -/
noncomputable def CDivP (i j : Int) : Prop := 0 < j ∧ (j.natAbs.log2 < 9000 ∨ i.natAbs.log2 ≤ j.natAbs.log2 + 4400)
theorem noPy {i j : Int} (h : 0 < j) (h2 : i.natAbs.log2 ≤ j.natAbs.log2 + 4400) : Builtin.divisionGoesByPylong i j = false := by
  have e : (j == 0) = false := by rw [beq_eq_false_iff_ne]; omega
  have key : ¬ (if i == 0 then 0 else i.natAbs.log2 / 30 + 1) > (if j == 0 then 0 else j.natAbs.log2 / 30 + 1) + 150 := by
    rw [if_neg (show ¬ (j == 0) = true by rw [e]; exact Bool.false_ne_true)]
    split <;> omega
  show (_ && decide ((if i == 0 then 0 else i.natAbs.log2 / 30 + 1) > (if j == 0 then 0 else j.natAbs.log2 / 30 + 1) + 150)) = false
  rw [decide_eq_false key, Bool.and_false]
theorem op_fdivP : OpR X (binaryOp .FloorDiv) (rI CDivP fun i j => .int (i / j)) := opI fun i j _ _ _ _ _ hc q => by
  have h1 : (0 : Int) < j := hc.1
  exact floordiv_int (by omega) (by rw [Int.fdiv_eq_ediv_of_nonneg i (by omega)]; exact q) (.inl (hc.2.elim (fun h => PyProof.noPylong_of_log2 h) fun h => noPy h1 h))
theorem o_fdiv : Op2 K cl (rI CDivP fun i j => .int (i / j)) dFdiv := by
  intro G H x y d e z gh rx ry h Q q
  cases rx <;> cases ry <;> simp only [dFdiv] at h <;> try (cases h; done)
  split at h
  · rename_i hl
    cases h
    exact ⟨_, _, rfl, rfl, hl, q _ .int⟩
  · cases h
theorem o_mod : Op2 K cl (rI (fun _ j => 0 < j) fun i j => .int (i % j)) dMod := by
  intro G H x y d e z gh rx ry h Q q
  cases rx <;> cases ry <;> simp only [dMod] at h <;> try (cases h; done)
  split at h
  · rename_i hl
    cases h
    exact ⟨_, _, rfl, rfl, hl, q _ .int⟩
  · cases h
theorem o_pow : Op2 K cl (rI CPow fun i j => .int (i ^ j.toNat)) dPow := by
  intro G H x y d e z gh rx ry h Q q
  cases rx <;> cases ry <;> simp only [dPow] at h <;> try (cases h; done)
  split at h
  · rename_i hl
    cases h
    exact ⟨_, _, rfl, rfl, hl, q _ .int⟩
  · cases h
theorem o_lt : Op2 K cl (rI0 fun i j => .bl (decide (i < j))) dLt := by
  intro G H x y d e z gh rx ry h Q q
  cases rx <;> cases ry <;> simp only [dLt] at h <;> try (cases h; done)
  cases h
  exact ⟨_, _, rfl, rfl, q _ .bl⟩
theorem o_gt : Op2 K cl (rI0 fun i j => .bl (decide (j < i))) dGt := by
  intro G H x y d e z gh rx ry h Q q
  cases rx <;> cases ry <;> simp only [dGt] at h <;> try (cases h; done)
  cases h
  exact ⟨_, _, rfl, rfl, q _ .bl⟩
theorem o_eqF : Op2 K cl rEq dEqF := by
  intro G H x y d e z gh rx ry h Q q
  cases rx <;> cases ry <;> simp only [dEqF] at h <;> try (cases h; done)
  all_goals (cases h; refine ⟨rfl, ?_⟩)
  · rename_i a b
    have e : decide (V.bl a = V.bl b) = decide (a = b) := by rw [dec_bl, Bool.beq_eq_decide_eq]
    rw [e]; exact q _ .bl
  · rename_i a b
    have e : decide (V.int a = V.int b) = decide (a = b) := by rw [dec_int]; rfl
    rw [e]; exact q _ .bl
  · rename_i a b
    have e : decide (V.str a = V.str b) = decide (a = b) := by
      by_cases h : a = b
      · subst h; simp
      · rw [decide_eq_false h, decide_eq_false (fun z => h (V.str.inj z))]
    rw [e]; exact q _ .bl
theorem o_neF : Op2 K cl rNe dNeF := by
  intro G H x y d e z gh rx ry h Q q
  cases rx <;> cases ry <;> simp only [dNeF] at h <;> try (cases h; done)
  all_goals (cases h; refine ⟨rfl, ?_⟩)
  · rename_i a b
    have e : decide (V.bl a = V.bl b) = decide (a = b) := by rw [dec_bl, Bool.beq_eq_decide_eq]
    rw [e]; exact q _ .bl
  · rename_i a b
    have e : decide (V.int a = V.int b) = decide (a = b) := by rw [dec_int]; rfl
    rw [e]; exact q _ .bl
  · rename_i a b
    have e : decide (V.str a = V.str b) = decide (a = b) := by
      by_cases h : a = b
      · subst h; simp
      · rw [decide_eq_false h, decide_eq_false (fun z => h (V.str.inj z))]
    rw [e]; exact q _ .bl
mutual
theorem rep_dp {G H : Hp} (gh : Ex G H) : ∀ {v : V} {d : D} {p : PyData}, Rep K cl G v d → toP d = some p → Dp K H v p
  | _, .non, _, .non, h => by cases h; exact .non
  | _, .bl _, _, .bl, h => by cases h; exact .bl _
  | _, .int _, _, .int, h => by cases h; exact .int _
  | _, .str _, _, .str, h => by cases h; exact .str _
  | _, .lst ds, _, .lst hg rs, h => by
    obtain ⟨ps, e, rfl⟩ := Option.map_eq_some_iff.mp h
    exact .lst (sq_of (gh _ _ hg)) (reps_dp gh rs e)
  | _, .rol ds, _, .rol hg rs, h => by
    obtain ⟨ps, e, rfl⟩ := Option.map_eq_some_iff.mp h
    exact .lst (ex_l gh hg) (reps_dp gh rs e)
  | _, .tup ds, _, .tup hg rs, h => by
    obtain ⟨ps, e, rfl⟩ := Option.map_eq_some_iff.mp h
    exact .tup (ex_t gh hg) (reps_dp gh rs e)
  | _, .ob _ _, _, .ob _ _, h => by cases h
  | _, .dic _, _, .dic _ _, h => by cases h
  | _, .oba _ _ _, _, .oba _ _, h => by cases h
  | _, .fn _ _ _, _, .fn _ _ _ _, h => by cases h
theorem reps_dp {G H : Hp} (gh : Ex G H) : ∀ {vs : List V} {ds : List D} {ps : List PyData}, Reps K cl G vs ds → toPs ds = some ps → DpAll K H vs ps
  | _, [], _, .nil, h => by cases h; exact .nil
  | _, d :: ds, _, .cons r rs, h => by
    obtain ⟨p, e1, h⟩ := bind_some h
    obtain ⟨ps, e2, h⟩ := bind_some h
    cases h
    exact .cons (rep_dp gh r e1) (reps_dp gh rs e2)
end
theorem eqB_of {G H : Hp} {x y : V} {d e : D} {b : Bool} (gh : Ex G H) (rx : Rep K cl G x d) (ry : Rep K cl G y e) (h : dEqB d e = some b) :
    ∃ p q, Dp K H x p ∧ Dp K H y q ∧ SeqAt.shaped p = true ∧ SeqAt.shaped q = true ∧ PyData.eqv p q = b := by
  obtain ⟨p, e1, h⟩ := bind_some h
  obtain ⟨q, e2, h⟩ := bind_some h
  split at h
  · rename_i hs
    exact ⟨p, q, rep_dp gh rx e1, rep_dp gh ry e2, hs.1, hs.2, Option.some.inj h⟩
  · cases h
theorem o_eq : Op2 K cl (rEqD K) dEq := by
  intro G H x y d e z gh rx ry h Q q
  obtain ⟨b, eb, rfl⟩ := Option.map_eq_some_iff.mp h
  obtain ⟨p1, p2, h1, h2, h3, h4, h5⟩ := eqB_of gh rx ry eb
  exact ⟨p1, p2, h1, h2, h3, h4, by rw [h5]; exact q _ .bl⟩
theorem o_neg {G H : Hp} {x : V} {d z : D} (gh : Ex G H) (r : Rep K cl G x d) (h : dNeg d = some z) (Q : VK) (q : ∀ v, Rep K cl G v z → Q v H) : rU (fun i => .int (-i)) x H Q := by
  cases r <;> cases h
  exact ⟨_, rfl, q _ .int⟩
/-- an item -/
theorem atI_rep {G : Hp} {vs : List V} {ds : List D} {i : Int} {z : D} (rs : Reps K cl G vs ds) (h : atI ds i = some z) : ∃ v, atI vs i = some v ∧ Rep K cl G v z := by
  unfold atI at h ⊢
  obtain ⟨j, e, h⟩ := bind_some h
  rw [rs.length, e]
  exact rs.get h
theorem o_ix : Op2 K cl (rIx K) dIx := by
  intro G H x y d e z gh rx ry h Q q
  cases rx <;> cases ry <;> (try (cases h; done)) <;> (try simp only [dIx] at h)
  · split at h
    · rename_i hl
      obtain ⟨c, ec, rfl⟩ := Option.map_eq_some_iff.mp h
      exact Or.inr (Or.inr ⟨_, _, c, rfl, rfl, sz_of hl, ec, q _ .str⟩)
    · cases h
  · rename_i hg rs i
    obtain ⟨v, ev, rv⟩ := atI_rep rs h
    exact Or.inl ⟨_, _, _, v, rfl, rfl, sq_of (gh _ _ hg), ev, q _ rv⟩
  · rename_i hg rs i
    obtain ⟨v, ev, rv⟩ := atI_rep rs h
    exact Or.inl ⟨_, _, _, v, rfl, rfl, ex_l gh hg, ev, q _ rv⟩
  · rename_i hg rs i
    obtain ⟨v, ev, rv⟩ := atI_rep rs h
    exact Or.inr (Or.inl ⟨_, _, _, v, rfl, rfl, ex_t gh hg, ev, q _ rv⟩)
/-- built-ins -/
theorem call_lenD : CallR X (.builtin "len") (fun xs H Q => (∃ p ys, xs = [.ref p] ∧ (SqL X.K H p ys ∨ SqT X.K H p ys) ∧ Q (.int ys.length) H) ∨ ∃ z, xs = [.str z] ∧ z.length ≤ sizeLine ∧ Q (.int z.length) H) := call_len_seq.or call_len_str
noncomputable def on1 (f : D → Option D) : List D → Option D | [a] => f a | _ => none
noncomputable def on2 (f : D → D → Option D) : List D → Option D | [a, b] => f a b | _ => none
noncomputable def on3 (f : D → D → D → Option D) : List D → Option D | [a, b, c] => f a b c | _ => none
noncomputable def on4 (f : D → D → D → D → Option D) : List D → Option D | [a, b, c, d] => f a b c d | _ => none
noncomputable def on5 (f : D → D → D → D → D → Option D) : List D → Option D | [a, b, c, d, e] => f a b c d e | _ => none
noncomputable def on6 (f : D → D → D → D → D → D → Option D) : List D → Option D | [a, b, c, d, e, g] => f a b c d e g | _ => none
noncomputable def on0 (m : Option D) : List D → Option D | [] => m | _ => none
theorem Reps.one {G : Hp} {vs : List V} {d : D} (r : Reps K cl G vs [d]) : ∃ v, vs = [v] ∧ Rep K cl G v d := by
  cases r with
  | cons r1 r2 => cases r2; exact ⟨_, rfl, r1⟩
theorem Reps.two {G : Hp} {vs : List V} {d e : D} (r : Reps K cl G vs [d, e]) : ∃ v w, vs = [v, w] ∧ Rep K cl G v d ∧ Rep K cl G w e := by
  cases r with
  | cons r1 r2 => obtain ⟨w, rfl, r3⟩ := r2.one; exact ⟨_, w, rfl, r1, r3⟩
theorem of_on1 {f : D → Option D} {ds : List D} {z : D} (h : on1 f ds = some z) : ∃ a, ds = [a] ∧ f a = some z := by
  unfold on1 at h
  split at h
  · exact ⟨_, rfl, h⟩
  · cases h
theorem of_on2 {f : D → D → Option D} {ds : List D} {z : D} (h : on2 f ds = some z) : ∃ a b, ds = [a, b] ∧ f a b = some z := by
  unfold on2 at h
  split at h
  · exact ⟨_, _, rfl, h⟩
  · cases h
theorem o_len : OpN K cl (fun xs H Q => (∃ p ys, xs = [.ref p] ∧ (SqL K H p ys ∨ SqT K H p ys) ∧ Q (.int ys.length) H) ∨ ∃ z, xs = [.str z] ∧ z.length ≤ sizeLine ∧ Q (.int z.length) H) (on1 dLen) := by
  intro G H xs ds z gh rs h Q q
  obtain ⟨a, rfl, h1⟩ := of_on1 h
  clear h
  obtain ⟨v, rfl, r⟩ := rs.one
  clear rs
  cases r with
  | str =>
    simp only [dLen] at h1
    split at h1
    · rename_i hl
      cases h1
      exact Or.inr ⟨_, rfl, sz_of hl, q _ .int⟩
    · cases h1
  | lst hg rs =>
    cases h1
    exact Or.inl ⟨_, _, rfl, Or.inl (sq_of (gh _ _ hg)), by rw [rs.length]; exact q _ .int⟩
  | rol hg rs =>
    cases h1
    exact Or.inl ⟨_, _, rfl, Or.inl (ex_l gh hg), by rw [rs.length]; exact q _ .int⟩
  | tup hg rs =>
    cases h1
    exact Or.inl ⟨_, _, rfl, Or.inr (ex_t gh hg), by rw [rs.length]; exact q _ .int⟩
  | _ => cases h1
theorem o_int : OpN K cl (fun xs H Q => (∃ i, xs = [.int i] ∧ Q (.int i) H) ∨ ∃ k, xs = [.bl k] ∧ Q (.int (if k then 1 else 0)) H) (on1 dInt) := by
  intro G H xs ds z gh rs h Q q
  obtain ⟨a, rfl, h⟩ := of_on1 h
  obtain ⟨v, rfl, r⟩ := rs.one
  cases r <;> cases h
  · exact Or.inr ⟨_, rfl, q _ .int⟩
  · exact Or.inl ⟨_, rfl, q _ .int⟩
theorem o_max2 : OpN K cl (fun xs H Q => ∃ i j, xs = [.int i, .int j] ∧ Q (.int (if j > i then j else i)) H) (on2 dMax2) := by
  intro G H xs ds z gh rs h Q q
  obtain ⟨a, b, rfl, h⟩ := of_on2 h
  obtain ⟨v, w, rfl, r, s⟩ := rs.two
  cases r <;> cases s <;> cases h
  exact ⟨_, _, rfl, q _ .int⟩
theorem o_list : OpNN K cl (fun xs H Q => ∃ p ys, xs = [.ref p] ∧ (SqL K H p ys ∨ SqT K H p ys) ∧ ∀ l, H l = none → Q (.ref l) (upd H l (.lst ys))) (on1 dList) := by
  intro G H xs ds z gh rs h Q q
  obtain ⟨a, rfl, h⟩ := of_on1 h
  obtain ⟨v, rfl, r⟩ := rs.one
  cases r <;> cases h
  · rename_i hg rs' 
    exact ⟨_, _, rfl, Or.inl (sq_of (gh _ _ hg)), fun l hl => q l _ _ hl rfl rs'⟩
  · rename_i hg rs'
    exact ⟨_, _, rfl, Or.inl (ex_l gh hg), fun l hl => q l _ _ hl rfl rs'⟩
  · rename_i hg rs'
    exact ⟨_, _, rfl, Or.inr (ex_t gh hg), fun l hl => q l _ _ hl rfl rs'⟩
theorem o_cat : Op2N K cl rCat dCat := by
  intro G H x y d e z gh rx ry h Q q
  cases rx <;> cases ry <;> simp only [dCat] at h <;> try (cases h; done)
  split at h
  · rename_i g1 r1 _ _ _ g2 r2 hl
    cases h
    exact ⟨_, _, _, _, rfl, rfl, gh _ _ g1, gh _ _ g2, sz_of (by rw [r1.length, r2.length]; exact hl), fun p hp => q p _ _ hp rfl (r1.append r2)⟩
  · cases h
/-- isinstance -/
theorem rep_ty {G H : Hp} (gh : Ex G H) {v : V} {d z : D} {t : Ty} (r : Rep K cl G v d) (h : dIsi t d = some z) : ∃ s : String, ∃ b : Bool, TyX K H v (.type s) ∧ z = .bl b ∧ kitB s t.nm = some b := by
  have tl : ∀ {a : Addr} {xs : List V}, SqT K G a xs → TyX K H (.ref a) (.type "tuple") := fun {a xs} h => by
    rcases h with (h | ⟨o, h⟩) | ⟨o, _, _, h, c, _⟩
    · exact .base (.tup (gh _ _ h))
    · exact .fTuple (gh _ _ h)
    · exact .kTuple h c
  cases r with
  | non => cases h; exact ⟨"NoneType", false, .base .non, rfl, by cases t <;> decide +kernel⟩
  | bl => cases h; exact ⟨"bool", decide (t = .bool ∨ t = .int), .base (.bl _), rfl, by cases t <;> decide +kernel⟩
  | int => cases h; exact ⟨"int", decide (t = .int), .base (.int _), rfl, by cases t <;> decide +kernel⟩
  | str => cases h; exact ⟨"str", decide (t = .str), .base (.str _), rfl, by cases t <;> decide +kernel⟩
  | lst hg _ => cases h; exact ⟨"list", decide (t = .list), .base (.lst (gh _ _ hg)), rfl, by cases t <;> decide +kernel⟩
  | rol _ _ => cases h
  | tup hg _ => cases h; exact ⟨"tuple", decide (t = .tuple), tl hg, rfl, by cases t <;> decide +kernel⟩
  | ob _ _ => cases h
  | dic _ _ => cases h
  | oba _ _ => cases h
  | fn _ _ _ _ => cases h
theorem ev_isi {S S1 : List Sl} {ta : TE} {m : Option D} (t : Ty) (ha : EV K cl ta S m S1) : EV K cl (tCB (rIsi K) (tCons ta (tCons (tC (.ty t.nm)) tNil))) S (m.bind (dIsi t)) S1 := fun B G H σ I z e Q q => by
  obtain ⟨a, ea, e⟩ := bind_some e
  refine ha B G H σ I a ea _ fun x G1 H1 I1 g1 h1 rx => ?_
  obtain ⟨s, b, ht, rfl, hk⟩ := rep_ty I1.nxt.gh rx e
  exact ⟨x, .ty t.nm, .type s, .type t.nm, b, rfl, .ty _, ht, kit_ty hk, q _ G1 H1 I1 g1 h1 .bl⟩
end
end Oh
namespace Oh
open PySem PySem.Spec PyProof.Rows L2 Evl

inductive Fl (β γ : Type) where
  | nx (b : β) | rt (d : D) | bk (c : γ) | ct (c : γ)

section
variable (K : PySem.W.Frag) (cl : Cl)
/-- the end of a def: what is handed back -/
noncomputable def TV (ts : TS) (S : List Sl) (fl : Bool) (m : Option D) : Prop := ∀ (B : Bs) (G H : Hp) (σ : L2.St), Sig K cl B G H S σ → ∀ d, m = some d → ∀ Dn : Ends,
  (∀ v G' H', Nxt B.G B.H G' H' → Rep K cl G' v d → Dn.rt v H') → (fl = true → d = .non → ∀ σ' G' H', Nxt B.G B.H G' H' → Dn.nx σ' H') → ts Dn σ H
/-- a step: it goes on, always -/
noncomputable def SV {β : Type} (ts : TS) (S : List Sl) (m : Option β) (post : β → List Sl) : Prop := ∀ (B : Bs) (G H : Hp) (σ : L2.St), Sig K cl B G H S σ → ∀ b, m = some b → ∀ Dn : Ends,
  (∀ σ' G' H', Sig K cl B G' H' (post b) σ' → Dn.nx σ' H') → ts Dn σ H
noncomputable def FEnd {β γ : Type} (B : Bs) (post : β → List Sl) (out : γ → List Sl) (Dn : Ends) : Fl β γ → Prop
  | .nx b => ∀ σ' G' H', Sig K cl B G' H' (post b) σ' → Dn.nx σ' H'
  | .rt d => ∀ v G' H', Nxt B.G B.H G' H' → Rep K cl G' v d → Dn.rt v H'
  | .bk c => ∀ σ' G' H', Sig K cl B G' H' (out c) σ' → Dn.bk σ' H'
  | .ct c => ∀ σ' G' H', Sig K cl B G' H' (out c) σ' → Dn.ct σ' H'
/-- any way out -/
noncomputable def FV {β γ : Type} (ts : TS) (S : List Sl) (m : Option (Fl β γ)) (post : β → List Sl) (out : γ → List Sl) : Prop := ∀ (B : Bs) (G H : Hp) (σ : L2.St), Sig K cl B G H S σ → ∀ f, m = some f → ∀ Dn : Ends,
  FEnd K cl B post out Dn f → ts Dn σ H
/-- targets -/
noncomputable def GV {γ : Type} (g : TG) (f : D → Option γ) (st : γ → List Sl → List Sl) : Prop := ∀ (B : Bs) (G H : Hp) (σ : L2.St) (S : List Sl), Sig K cl B G H S σ → ∀ v d c, Rep K cl G v d → f d = some c → ∀ Q : L2.St → Hp → Prop,
  (∀ σ', Sig K cl B G H (st c S) σ' → Q σ' H) → g v σ H Q
/-- what is walked -/
structure ItOk (J : It) (xs : List D) (G : Hp) : Prop where
  stop : ∀ G' H', Ex G G' → Ex G' H' → J.stop xs.length H'
  go : ∀ i G' H', i < xs.length → Ex G G' → Ex G' H' → J.go i H'
  yld : ∀ i x G' H' v H'', xs[i]? = some x → Ex G G' → Ex G' H' → J.yld i H' v H'' → ∃ G'', Nxt G' H' G'' H'' ∧ Rep K cl G'' v x
noncomputable def IV (wi : TI) (S : List Sl) (m : Option (List D)) (S1 : List Sl) : Prop := ∀ (B : Bs) (G H : Hp) (σ : L2.St), Sig K cl B G H S σ → ∀ xs, m = some xs → ∀ R : It → Hp → Prop,
  (∀ J G' H', Sig K cl B G' H' S1 σ → Ex G G' → Ex2 H H' → ItOk K cl J xs G' → R J H') → wi σ H R
end

section
variable {K : PySem.W.Frag} {cl : Cl} {S S1 S2 : List Sl} {te ta tb tc : TE} {t u tr : TS} {tt : TT} {m : Option D} {β γ δ : Type}
/-! ### the end of a def -/
theorem tv_nil : TV K cl tNext S true (some .non) := fun B G H σ I d e Dn _ n => by cases e; exact n rfl rfl σ G H I.nxt
theorem tv_cons {fl : Bool} {mb : Option β} {post : β → List Sl} {k : β → Option D} (h : SV K cl t S mb post) (r : ∀ b, TV K cl u (post b) fl (k b)) : TV K cl (tSeq t u) S fl (mb.bind k) := fun B G H σ I d e Dn q n => by
  obtain ⟨b, eb, e⟩ := bind_some e
  exact h B G H σ I b eb { Dn with nx := u Dn } fun σ' G' H' I' => r b B G' H' σ' I' d e Dn q n
theorem tv_ret {fl : Bool} (h : EV K cl te S m S1) : TV K cl (tSeq (tRet te) tNever) S fl m := fun B G H σ I d e Dn q n =>
  h B G H σ I d e _ fun v G' H' I' _ _ r => q v G' H' I'.nxt r
theorem tv_ifl {fl : Bool} {mc : Option Bool} {ma mr : Option D} (hc : ET K cl tt S mc S1) (ha : TV K cl t S1 false ma) (hr : TV K cl u S1 fl mr) : TV K cl (tSeq (tIfS tt t tNext) u) S fl (mc.bind fun c => if c = true then ma else mr) := fun B G H σ I d e Dn q n => by
  obtain ⟨c, ec, e⟩ := bind_some e
  refine hc B G H σ I c ec _ fun G1 H1 I1 _ _ => ?_
  cases c with
  | true => exact ha B G1 H1 σ I1 d e _ q fun z => nomatch z
  | false => exact hr B G1 H1 σ I1 d e Dn q n
noncomputable def flT (k : β → Option D) : Fl β Empty → Option D
  | .nx b => k b
  | .rt d => some d
  | .bk c => nomatch c
  | .ct c => nomatch c
theorem tv_flow {fl : Bool} {mb : Option (Fl β Empty)} {post : β → List Sl} {out : Empty → List Sl} {k : β → Option D} (h : FV K cl t S mb post out) (r : ∀ b, TV K cl u (post b) fl (k b)) : TV K cl (tSeq t u) S fl (mb.bind (flT k)) := fun B G H σ I d e Dn q n => by
  obtain ⟨f, ef, e⟩ := bind_some e
  refine h B G H σ I f ef { Dn with nx := u Dn } ?_
  cases f with
  | nx b => exact fun σ' G' H' I' => r b B G' H' σ' I' d e Dn q n
  | rt d' => cases e; exact q
  | bk c => exact nomatch c
  | ct c => exact nomatch c

/-! ### steps -/
theorem sv_nil {post : β → List Sl} (b : β) (w : Weak S (post b)) : SV K cl tNext S (some b) post := fun B G H σ I b' e Dn q => by cases e; exact q σ G H (I.weak w)
theorem sv_cons {mb : Option β} {post : β → List Sl} {k : β → Option γ} {post2 : γ → List Sl} (h : SV K cl t S mb post) (r : ∀ b, SV K cl u (post b) (k b) post2) : SV K cl (tSeq t u) S (mb.bind k) post2 := fun B G H σ I d e Dn q => by
  obtain ⟨b, eb, e⟩ := bind_some e
  exact h B G H σ I b eb { Dn with nx := u Dn } fun σ' G' H' I' => r b B G' H' σ' I' d e Dn q
theorem sv_asg {i : Nat} (h : EV K cl te S m S1) : SV K cl (tAsg te (gName i)) S m (fun d => S1.set i (.vl d)) := fun B G H σ I d e Dn q =>
  h B G H σ I d e _ fun v G' H' I' _ _ r => q _ G' H' (I'.setV r)
theorem sv_asgO {i : Nat} {sh : Sh} (h : EVO K cl sh te S m S1) : SV K cl (tAsg te (gName i)) S m (fun d => S1.set i (.ow sh d)) := fun B G H σ I d e Dn q =>
  h B G H σ I d e _ fun v G' H' I' _ _ => q _ G' H' (I'.take i)
theorem sv_asgN {i : Nat} (h : EVN K cl te S m S1) : SV K cl (tAsg te (gName i)) S m (fun d => S1.set i (.ow (.l .v) d)) := sv_asgO h.evo
theorem sv_asgG {g : TG} {f : D → Option γ} {st : γ → List Sl → List Sl} (h : EV K cl te S m S1) (hg : GV K cl g f st) : SV K cl (tAsg te g) S (m.bind f) (fun c => st c S1) := fun B G H σ I c e Dn q => by
  obtain ⟨d, ed, e⟩ := bind_some e
  exact h B G H σ I d ed _ fun v G' H' I' _ _ r => hg B G' H' σ S1 I' v d c r e _ fun σ' I2 => q σ' G' H' I2
noncomputable def dUn2 : D → Option (D × D) | .tup [a, b] => some (a, b) | _ => none
noncomputable def dUn3 : D → Option (D × D × D) | .tup [a, b, c] => some (a, b, c) | _ => none
theorem gv_name {i : Nat} : GV K cl (gName i) some (fun d S => S.set i (.vl d)) := fun B G H σ S I v d c r e Q q => by cases e; exact q _ (I.setV r)
theorem gv_tup2 {i j : Nat} : GV K cl (gTup K 2 (gCons (gName i) (gCons (gName j) gNil))) dUn2 (fun c S => (S.set i (.vl c.1)).set j (.vl c.2)) := fun B G H σ S I v d c r e Q q => by
  unfold dUn2 at e
  split at e
  · cases e
    cases r with
    | tup hs rs =>
      obtain ⟨x, y, rfl, rx, ry⟩ := rs.two
      exact ⟨_, _, rfl, ex_t I.nxt.gh hs, rfl, x, [y], rfl, y, [], rfl, rfl, q _ ((I.setV rx).setV ry)⟩
  · cases e
theorem gv_tup3 {i j k : Nat} : GV K cl (gTup K 3 (gCons (gName i) (gCons (gName j) (gCons (gName k) gNil)))) dUn3 (fun c S => ((S.set i (.vl c.1)).set j (.vl c.2.1)).set k (.vl c.2.2)) := fun B G H σ S I v d c r e Q q => by
  unfold dUn3 at e
  split at e
  · cases e
    cases r with
    | tup hs rs =>
      cases rs with
      | cons rx rs =>
        obtain ⟨y, z, rfl, ry, rz⟩ := rs.two
        exact ⟨_, _, rfl, ex_t I.nxt.gh hs, rfl, _, [y, z], rfl, y, [z], rfl, z, [], rfl, rfl, q _ (((I.setV rx).setV ry).setV rz)⟩
  · cases e
/-- x.append(e) -/
noncomputable def dApp (d x : D) : Option D := match d with | .lst xs => if xs.length < 100000 then some (.lst (xs ++ [x])) else none | _ => none
theorem sv_app {i : Nat} {d : D} (h0 : S[i]? = some (.ow (.l .v) d)) (h1 : S1[i]? = some (.ow (.l .v) d)) (h : EV K cl te S m S1) : SV K cl (tDrop (tBM K "list" rAppend (tVar i) (tCons te tNil))) S (m.bind fun x => dApp d x) (fun d' => S1.set i (.ow (.l .v) d')) := fun B G H σ I d' e Dn q => by
  obtain ⟨x, ex, e⟩ := bind_some e
  obtain ⟨p, vs, xs, hσ, rfl, hp, gp, bp, rs⟩ := I.ow h0
  refine ⟨.ref p, hσ, Or.inl ⟨rfl, vs, sq_of hp⟩, h B G H σ I x ex _ fun v G' H' I' g1 h1' r => ?_⟩
  unfold dApp at e
  simp only at e
  split at e
  · rename_i hl
    cases e
    refine ⟨p, vs, v, rfl, rfl, h1' _ _ hp, sz_lt (by rw [rs.length]; exact hl), q σ G' _ ?_⟩
    exact I'.mut h1 hσ ((rs.mono g1).append (.cons r .nil))
  · cases e
/-- x[k] = e -/
noncomputable def dSet (d k x : D) : Option D := match d, k with | .lst xs, .int i => (ixN xs.length i).map fun j => .lst (xs.set j x) | _, _ => none
theorem sv_setL {i : Nat} {d : D} {n : Option D} (h0 : S2[i]? = some (.ow (.l .v) d)) (h : EV K cl te S m S1) (h1 : S1[i]? = some (.ow (.l .v) d)) (hk : EV K cl tb S1 n S2) : SV K cl (tAsg te (gSub (tVar i) tb rSetL)) S (m.bind fun x => n.bind fun k => dSet d k x) (fun d' => S2.set i (.ow (.l .v) d')) := fun B G H σ I d' e Dn q => by
  obtain ⟨x, ex, e⟩ := bind_some e
  obtain ⟨k, ek, e⟩ := bind_some e
  refine h B G H σ I x ex _ fun v G1 H1 I1 g1 h1' rv => ?_
  obtain ⟨p, vs, xs, hσ, rfl, hp, gp, bp, rs⟩ := I1.ow h1
  refine ⟨.ref p, hσ, ?_⟩
  refine hk B G1 H1 σ I1 k ek _ fun w G2 H2 I2 g2 h2' rk => ?_
  unfold dSet at e
  split at e
  · rename_i xs' j e1
    cases e1
    obtain ⟨a, ea, rfl⟩ := Option.map_eq_some_iff.mp e
    cases rk
    refine ⟨p, vs, _, a, rfl, rfl, h2' _ _ hp, by rw [rs.length]; exact ea, q σ G2 _ ?_⟩
    exact I2.mut h0 hσ (Reps.set a (rv.mono g2) (rs.mono g2))
  · cases e
theorem sv_if {mc : Option Bool} {ma mb : Option β} {post : β → List Sl} (hc : ET K cl tt S mc S1) (ha : SV K cl t S1 ma post) (hb : SV K cl u S1 mb post) : SV K cl (tIfS tt t u) S (mc.bind fun c => if c = true then ma else mb) post := fun B G H σ I d e Dn q => by
  obtain ⟨c, ec, e⟩ := bind_some e
  refine hc B G H σ I c ec _ fun G1 H1 I1 _ _ => ?_
  cases c with
  | true => exact ha B G1 H1 σ I1 d e _ q
  | false => exact hb B G1 H1 σ I1 d e _ q
/-! ### any way out -/
theorem fv_nil {post : β → List Sl} {out : γ → List Sl} (b : β) (w : Weak S (post b)) : FV K cl tNext S (some (Fl.nx b)) post out := fun B G H σ I f e Dn q => by cases e; exact q σ G H (I.weak w)
theorem fv_cons {mb : Option δ} {post : δ → List Sl} {k : δ → Option (Fl β γ)} {post2 : β → List Sl} {out : γ → List Sl} (h : SV K cl t S mb post) (r : ∀ b, FV K cl u (post b) (k b) post2 out) : FV K cl (tSeq t u) S (mb.bind k) post2 out := fun B G H σ I f e Dn q => by
  obtain ⟨b, eb, e⟩ := bind_some e
  refine h B G H σ I b eb { Dn with nx := u Dn } fun σ' G' H' I' => r b B G' H' σ' I' f e Dn q
theorem fv_ret {post : β → List Sl} {out : γ → List Sl} (h : EV K cl te S m S1) : FV K cl (tSeq (tRet te) tNever) S (m.map Fl.rt) post out := fun B G H σ I f e Dn q => by
  obtain ⟨d, ed, rfl⟩ := Option.map_eq_some_iff.mp e
  exact h B G H σ I d ed _ fun v G' H' I' _ _ r => q v G' H' I'.nxt r
noncomputable def flE : Fl Empty γ → Option (Fl β γ)
  | .nx b => nomatch b
  | .rt d => some (.rt d)
  | .bk c => some (.bk c)
  | .ct c => some (.ct c)
theorem fv_ifl {mc : Option Bool} {ma : Option (Fl Empty γ)} {mr : Option (Fl β γ)} {post : β → List Sl} {post0 : Empty → List Sl} {out : γ → List Sl} (hc : ET K cl tt S mc S1) (ha : FV K cl t S1 ma post0 out) (hr : FV K cl u S1 mr post out) :
    FV K cl (tSeq (tIfS tt t tNext) u) S (mc.bind fun c => if c = true then ma.bind flE else mr) post out := fun B G H σ I f e Dn q => by
  obtain ⟨c, ec, e⟩ := bind_some e
  refine hc B G H σ I c ec _ fun G1 H1 I1 _ _ => ?_
  cases c with
  | true =>
    obtain ⟨f0, ef, e⟩ := bind_some e
    refine ha B G1 H1 σ I1 f0 ef _ ?_
    cases f0 with
    | nx b => exact nomatch b
    | rt d => cases e; exact q
    | bk c => cases e; exact q
    | ct c => cases e; exact q
  | false => exact hr B G1 H1 σ I1 f e Dn q
noncomputable def flF (k : δ → Option (Fl β γ)) : Fl δ γ → Option (Fl β γ)
  | .nx b => k b
  | .rt d => some (.rt d)
  | .bk c => some (.bk c)
  | .ct c => some (.ct c)
/-! ### loops -/
noncomputable def forS (k : D → β → Option β) : List D → β → Option β
  | [], b => some b
  | x :: xs, b => (k x b).bind (forS k xs)
noncomputable def forF (k : D → β → Option (Fl β β)) : List D → β → Option (Fl β γ)
  | [], b => some (.nx b)
  | x :: xs, b => (k x b).bind fun f => match f with
    | .nx b => forF k xs b
    | .ct b => forF k xs b
    | .bk b => some (.nx b)
    | .rt d => some (.rt d)
theorem drop_cons {α : Type} {xs : List α} {i : Nat} {x : α} (h : xs[i]? = some x) : xs.drop i = x :: xs.drop (i + 1) := by
  obtain ⟨hl, e⟩ := List.getElem?_eq_some_iff.mp h
  rw [List.drop_eq_getElem_cons hl, e]
theorem drop_end {α : Type} {xs : List α} {i : Nat} (h : xs.length ≤ i) : xs.drop i = [] := List.drop_eq_nil_of_le h
theorem Nxt.base {G0 H0 G1 G H : Hp} (n : Nxt G0 H0 G1 H1) (m : Nxt G1 H0 G H) : Nxt G0 H0 G H := ⟨n.g.trans m.g, m.h, m.gh, fun p h => by
    rcases m.fr p h with h | h
    · exact n.fr p h
    · exact .inr h⟩
theorem Sig.up {B : Bs} {G H : Hp} {σ : L2.St} (I : Sig K cl B G H S σ) : Sig K cl ⟨G, B.H⟩ G H S σ := ⟨⟨Ex.refl _, I.nxt.h, I.nxt.gh, fun _ h => .inl h⟩, I.len, I.tab, I.slots⟩
theorem Sig.down {B : Bs} {G H G' H' : Hp} {σ σ' : L2.St} {S' : List Sl} (I : Sig K cl B G H S σ) (I' : Sig K cl ⟨G, B.H⟩ G' H' S' σ') : Sig K cl B G' H' S' σ' := ⟨I.nxt.base I'.nxt, I'.len, I'.tab, I'.slots⟩
theorem sv_for {wi : TI} {g : TG} {mi : Option (List D)} {inv : β → List Sl} {γ' : Type} {f : D → Option γ'} {st : γ' → List Sl → List Sl} {k : γ' → β → Option β} (b0 : β) (hi : IV K cl wi S mi S1) (hw : Weak S1 (inv b0)) (hg : GV K cl g f st)
    (hb : ∀ c b, SV K cl t (st c (inv b)) (k c b) inv) : SV K cl (tFor wi g t) S (mi.bind fun xs => forS (fun x b => (f x).bind fun c => k c b) xs b0) inv := fun B G H σ I bz e Dn q => by
  obtain ⟨xs, ex, e⟩ := bind_some e
  refine hi B G H σ I xs ex _ fun J G1 H1 I1 _ _ ok => ?_
  refine ⟨fun i n σ' H' => n + i = xs.length ∧ ∃ b G', forS (fun x b => (f x).bind fun c => k c b) (xs.drop i) b = some bz ∧ Ex G1 G' ∧ Sig K cl B G' H' (inv b) σ', ⟨xs.length, rfl, b0, G1, e, Ex.refl _, I1.weak hw⟩, ?_⟩
  rintro i n σ' H' ⟨hn, b, G', eb, eg, I'⟩
  by_cases hl : i < xs.length
  · have hx : xs[i]? = some xs[i] := List.getElem?_eq_getElem hl
    rw [drop_cons hx] at eb
    obtain ⟨b2, eb2, eb⟩ := bind_some eb
    obtain ⟨c, ec, eb2⟩ := bind_some eb2
    refine .inr ⟨ok.go i G' H' hl eg I'.nxt.gh, fun σ2 H2 => ∃ G2, Ex G1 G2 ∧ Sig K cl B G2 H2 (inv b2) σ2, fun σ2 H2 ⟨G2, g2, I2⟩ => ⟨n - 1, by omega, by omega, b2, G2, eb, g2, I2⟩, fun v H2 hy => ?_⟩
    obtain ⟨G2, nx, rv⟩ := ok.yld i _ G' H' v H2 hx eg I'.nxt.gh hy
    have I2 := I'.step nx
    refine hg B G2 H2 σ' _ I2 v _ c rv ec _ fun σ3 I3 => ?_
    exact hb c b ⟨G2, B.H⟩ G2 H2 σ3 I3.up b2 eb2 _ fun σ4 G4 H4 I4 => ⟨G4, (eg.trans nx.g).trans I4.nxt.g, I3.down I4⟩
  · refine .inl ⟨?_, ?_⟩
    · have e1 : i = xs.length := by omega
      rw [e1]; exact ok.stop G' H' eg I'.nxt.gh
    · rw [drop_end (by omega)] at eb
      cases eb
      exact q σ' G' H' I'
theorem fv_for {wi : TI} {g : TG} {mi : Option (List D)} {inv : β → List Sl} {out : γ → List Sl} {γ' : Type} {f : D → Option γ'} {st : γ' → List Sl → List Sl} {k : γ' → β → Option (Fl β β)} (b0 : β) (hi : IV K cl wi S mi S1) (hw : Weak S1 (inv b0)) (hg : GV K cl g f st)
    (hb : ∀ c b, FV K cl t (st c (inv b)) (k c b) inv inv) : FV K cl (tFor wi g t) S (mi.bind fun xs => forF (γ := γ) (fun x b => (f x).bind fun c => k c b) xs b0) inv out := fun B G H σ I bz e Dn q => by
  obtain ⟨xs, ex, e⟩ := bind_some e
  refine hi B G H σ I xs ex _ fun J G1 H1 I1 _ _ ok => ?_
  refine ⟨fun i n σ' H' => n + i = xs.length ∧ ∃ b G', forF (γ := γ) (fun x b => (f x).bind fun c => k c b) (xs.drop i) b = some bz ∧ Ex G1 G' ∧ Sig K cl B G' H' (inv b) σ', ⟨xs.length, rfl, b0, G1, e, Ex.refl _, I1.weak hw⟩, ?_⟩
  rintro i n σ' H' ⟨hn, b, G', eb, eg, I'⟩
  by_cases hl : i < xs.length
  · have hx : xs[i]? = some xs[i] := List.getElem?_eq_getElem hl
    rw [drop_cons hx] at eb
    obtain ⟨fl, efl, eb⟩ := bind_some eb
    obtain ⟨c, ec, efl⟩ := bind_some efl
    refine .inr ⟨ok.go i G' H' hl eg I'.nxt.gh, fun σ2 H2 => ∃ b2 G2, forF (γ := γ) (fun x b => (f x).bind fun c => k c b) (xs.drop (i + 1)) b2 = some bz ∧ Ex G1 G2 ∧ Sig K cl B G2 H2 (inv b2) σ2, fun σ2 H2 ⟨b2, G2, eb, g2, I2⟩ => ⟨n - 1, by omega, by omega, b2, G2, eb, g2, I2⟩, fun v H2 hy => ?_⟩
    obtain ⟨G2, nx, rv⟩ := ok.yld i _ G' H' v H2 hx eg I'.nxt.gh hy
    have I2 := I'.step nx
    refine hg B G2 H2 σ' _ I2 v _ c rv ec _ fun σ3 I3 => ?_
    refine hb c b ⟨G2, B.H⟩ G2 H2 σ3 I3.up fl efl _ ?_
    cases fl with
    | nx b2 => exact fun σ4 G4 H4 I4 => ⟨b2, G4, eb, (eg.trans nx.g).trans I4.nxt.g, I3.down I4⟩
    | ct b2 => exact fun σ4 G4 H4 I4 => ⟨b2, G4, eb, (eg.trans nx.g).trans I4.nxt.g, I3.down I4⟩
    | bk b2 =>
      cases eb
      exact fun σ4 G4 H4 I4 => q σ4 G4 H4 (I3.down I4)
    | rt d =>
      cases eb
      exact fun v G4 H4 n4 r4 => q v G4 H4 (I3.nxt.base n4) r4
  · refine .inl ⟨?_, ?_⟩
    · have e1 : i = xs.length := by omega
      rw [e1]; exact ok.stop G' H' eg I'.nxt.gh
    · rw [drop_end (by omega)] at eb
      cases eb
      exact q σ' G' H' I'
/-- while, with so many turns at most -/
noncomputable def whS (c : β → Option Bool) (k : β → Option β) : Nat → β → Option β
  | 0, _ => none
  | n + 1, b => (c b).bind fun x => if x = true then (k b).bind (whS c k n) else some b
theorem sv_while {inv : β → List Sl} {c : β → Option Bool} {k : β → Option β} (n : Nat) (b0 : β) (hw : Weak S (inv b0)) (hc : ∀ b, ET K cl tt (inv b) (c b) (inv b)) (hb : ∀ b, SV K cl t (inv b) (k b) inv) :
    SV K cl (tWhile tt t) S (whS c k n b0) inv := fun B G H σ I bz e Dn q => by
  refine ⟨fun m σ' H' => ∃ b G', whS c k m b = some bz ∧ Sig K cl B G' H' (inv b) σ', ⟨n, b0, G, e, I.weak hw⟩, ?_⟩
  rintro m σ' H' ⟨b, G', eb, I'⟩
  cases m with
  | zero => cases eb
  | succ m =>
    obtain ⟨x, ex, eb⟩ := bind_some eb
    refine hc b B G' H' σ' I' x ex _ fun G1 H1 I1 _ _ => ?_
    cases x with
    | true =>
      obtain ⟨b2, eb2, eb⟩ := bind_some eb
      exact ⟨fun σ2 H2 => ∃ G2, Sig K cl B G2 H2 (inv b2) σ2, fun σ2 H2 ⟨G2, I2⟩ => ⟨m, by omega, b2, G2, eb, I2⟩, hb b B G1 H1 σ' I1 b2 eb2 _ fun σ2 G2 H2 I2 => ⟨G2, I2⟩⟩
    | false =>
      cases eb
      exact q σ' G1 H1 I1
/-! ### what is walked -/
theorem iv_list (h : EV K cl te S m S1) : IV K cl (iList K te) S (m.bind asL) S1 := fun B G H σ I xs e R r => by
  obtain ⟨d, ed, e⟩ := bind_some e
  refine h B G H σ I d ed _ fun v G' H' I' g1 h1 rv => ?_
  have key : ∀ (a : Addr) (vs : List V), SqL K G' a vs → Reps K cl G' vs xs → ∃ a', V.ref a = V.ref a' ∧ (∃ ys, SqL K H' a' ys) ∧ R (Itl K a') H' := fun a vs hs rs => by
    refine ⟨a, rfl, ⟨vs, ex_l I'.nxt.gh hs⟩, r _ G' H' I' g1 h1 ⟨fun G2 H2 eg gh => ⟨vs, ex_l gh (ex_l eg hs), by rw [rs.length]; exact Nat.le_refl _⟩, fun i G2 H2 hi eg gh => ?_, fun i x G2 H2 v H3 hx eg gh hy => ?_⟩⟩
    · have hi' : i < vs.length := by rw [rs.length]; exact hi
      exact ⟨vs, vs[i], ex_l gh (ex_l eg hs), List.getElem?_eq_getElem hi'⟩
    · obtain ⟨e1, hy⟩ := hy
      subst e1
      obtain ⟨w, hw, rw'⟩ := rs.get hx
      have := hy vs (ex_l gh (ex_l eg hs))
      rw [hw] at this
      cases this
      exact ⟨G2, Nxt.refl gh, rw'.mono eg⟩
  cases rv with
  | lst hg rs => cases e; exact key _ _ (sq_of hg) rs
  | rol hg rs => cases e; exact key _ _ hg rs
  | _ => cases e
theorem iv_tup (h : EV K cl te S m S1) : IV K cl (iTup K te) S (m.bind asT) S1 := fun B G H σ I xs e R r => by
  obtain ⟨d, ed, e⟩ := bind_some e
  refine h B G H σ I d ed _ fun v G' H' I' g1 h1 rv => ?_
  cases rv with
  | tup hs rs =>
    cases e
    rename_i a vs
    refine ⟨a, rfl, ⟨vs, ex_t I'.nxt.gh hs⟩, r _ G' H' I' g1 h1 ⟨fun G2 H2 eg gh => ⟨vs, ex_t gh (ex_t eg hs), by rw [rs.length]; exact Nat.le_refl _⟩, fun i G2 H2 hi eg gh => ?_, fun i x G2 H2 v H3 hx eg gh hy => ?_⟩⟩
    · have hi' : i < vs.length := by rw [rs.length]; exact hi
      exact ⟨vs, vs[i], ex_t gh (ex_t eg hs), List.getElem?_eq_getElem hi'⟩
    · obtain ⟨e1, hy⟩ := hy
      subst e1
      obtain ⟨w, hw, rw'⟩ := rs.get hx
      have := hy vs (ex_t gh (ex_t eg hs))
      rw [hw] at this
      cases this
      exact ⟨G2, Nxt.refl gh, rw'.mono eg⟩
  | _ => cases e
noncomputable def rngD (lo : Int) (n : Nat) : List D := (List.range n).map fun i => D.int (lo + (i : Nat))
noncomputable def dRng1 : D → Option (List D) | .int n => if -(2 ^ 62) ≤ n ∧ n < 2 ^ 62 then some (rngD 0 n.toNat) else none | _ => none
theorem it_rng (lo : Int) (n : Nat) (G : Hp) : ItOk K cl (Itr lo n) (rngD lo n) G := by
  have hl : (rngD lo n).length = n := by unfold rngD; rw [List.length_map, List.length_range]
  refine ⟨fun G' H' _ _ => by rw [hl]; exact Nat.le_refl _, fun i G' H' hi _ _ => by rw [hl] at hi; exact hi, fun i x G' H' v H'' hx _ gh hy => ?_⟩
  obtain ⟨e, e2⟩ := hy
  subst e e2
  have hi : i < n := by rw [← hl]; exact (List.getElem?_eq_some_iff.mp hx).1
  have hx2 : (rngD lo n)[i]? = some (D.int (lo + (i : Nat))) := by
    unfold rngD
    rw [List.getElem?_map, List.getElem?_range hi]
    rfl
  rw [hx] at hx2
  cases hx2
  exact ⟨G', Nxt.refl gh, .int⟩
theorem iv_rng1 (h : EV K cl te S m S1) : IV K cl (iRng1 (tCons te tNil)) S (m.bind dRng1) S1 := fun B G H σ I xs e R r => by
  obtain ⟨d, ed, e⟩ := bind_some e
  refine h B G H σ I d ed _ fun v G' H' I' g1 h1 rv => ?_
  cases rv with
  | int =>
    simp only [dRng1] at e
    split at e
    · rename_i i hi
      cases e
      exact ⟨i, rfl, hi.1, hi.2, r _ G' H' I' g1 h1 (it_rng _ _ _)⟩
    · cases e
  | _ => cases e
/-! ### comprehensions -/
noncomputable def compD (k : D → Option (Option D)) : List D → Option (List D)
  | [] => some []
  | x :: xs => (k x).bind fun o => (compD k xs).bind fun ys => some (match o with | some y => y :: ys | none => ys)
noncomputable def wipeS (S : List Sl) : List Nat → List Sl
  | [] => S
  | v :: vs => (wipeS S vs).set v .jk
theorem Sig.wipe {B : Bs} {G H : Hp} {σ : L2.St} (I : Sig K cl B G H S σ) : ∀ vs : List Nat, Sig K cl B G H (wipeS S vs) (L2.wipe σ vs)
  | [] => I
  | v :: vs => (Sig.wipe I vs).any v none
noncomputable def capD (xs : List D) : Option (List D) := if xs.length ≤ 90000 then some xs else none
noncomputable def noOw : List Sl → List Sl
  | [] => []
  | .ow _ _ :: S => .jk :: noOw S
  | s :: S => s :: noOw S
theorem noOw_get : ∀ {S : List Sl} {i : Nat} {s : Sl}, (noOw S)[i]? = some s → s = .jk ∨ (S[i]? = some s ∧ ∀ sh d, s ≠ .ow sh d)
  | [], _, _, h => by cases h
  | .ow sh d :: S, 0, s, h => .inl (by cases h; rfl)
  | .jk :: S, 0, s, h => .inl (by cases h; rfl)
  | .vl d :: S, 0, s, h => .inr (by cases h; exact ⟨rfl, fun _ _ z => nomatch z⟩)
  | .ow sh d :: S, i + 1, s, h => noOw_get (S := S) (i := i) h
  | .jk :: S, i + 1, s, h => noOw_get (S := S) (i := i) h
  | .vl d :: S, i + 1, s, h => noOw_get (S := S) (i := i) h
theorem noOw_len : ∀ S : List Sl, (noOw S).length = S.length
  | [] => rfl
  | .ow sh d :: S => congrArg (· + 1) (noOw_len S)
  | .jk :: S => congrArg (· + 1) (noOw_len S)
  | .vl d :: S => congrArg (· + 1) (noOw_len S)
/-- a state of its own base: what stands is not changed -/
theorem Sig.own {B : Bs} {G H : Hp} {σ : L2.St} (I : Sig K cl B G H S σ) : Sig K cl ⟨G, H⟩ G H (noOw S) σ := by
  have J := I.sub (noOw_len S) fun i s h => (noOw_get h).imp id fun z => z.1
  obtain ⟨A, hs, ap⟩ := J.slots
  refine ⟨Nxt.refl I.nxt.gh, J.len, J.tab, A, fun i s h => ?_, ap⟩
  obtain ⟨o, h1, h2⟩ := hs i s h
  refine ⟨o, h1, ?_⟩
  cases s with
  | jk => exact h2
  | vl d => exact h2
  | ow sh d =>
    rcases noOw_get h with z | ⟨_, n⟩
    · cases z
    · exact absurd rfl (n sh d)
theorem wipe_out2 {σ : L2.St} {j : Nat} : ∀ {vs : List Nat}, j ∉ vs → (L2.wipe σ vs)[j]? = σ[j]?
  | [], _ => rfl
  | v :: vs, h => by
    show ((L2.wipe σ vs).set v none)[j]? = _
    rw [List.getElem?_set_ne (fun e => h (by rw [e]; exact List.mem_cons_self))]
    exact wipe_out2 fun z => h (List.mem_cons_of_mem _ z)
theorem wipe_at {σ : L2.St} {j : Nat} (hl : j < σ.length) : ∀ {vs : List Nat}, j ∈ vs → (L2.wipe σ vs)[j]? = some none
  | v :: vs, h => by
    show ((L2.wipe σ vs).set v none)[j]? = _
    by_cases e : v = j
    · subst e
      rw [List.getElem?_set_self (by rw [L2.wipe_length]; exact hl)]
    · rw [List.getElem?_set_ne e]
      refine wipe_at hl ?_
      rcases List.mem_cons.mp h with h | h
      · exact absurd h.symm e
      · exact h
theorem wipe_congr {σ σ' : L2.St} {vs : List Nat} (hl : σ'.length = σ.length) (h : ∀ j, j ∉ vs → σ'[j]? = σ[j]?) : L2.wipe σ' vs = L2.wipe σ vs := by
  apply List.ext_getElem?
  intro j
  by_cases hj : j ∈ vs
  · by_cases hk : j < σ.length
    · rw [wipe_at hk hj, wipe_at (by rw [hl]; exact hk) hj]
    · rw [List.getElem?_eq_none (by rw [L2.wipe_length]; omega), List.getElem?_eq_none (by rw [L2.wipe_length]; omega)]
  · rw [wipe_out2 hj, wipe_out2 hj, h j hj]
/-- a target that stores at vs alone -/
noncomputable def GW (g : TG) (vs : List Nat) : Prop := ∀ (v : V) (σ : L2.St) (H : Hp) (Q Q' : L2.St → Hp → Prop), g v σ H Q → (∀ σ' H', (∀ j, j ∉ vs → σ'[j]? = σ[j]?) → σ'.length = σ.length → Q σ' H' → Q' σ' H') → g v σ H Q'
theorem gw_name {i : Nat} {vs : List Nat} (h : i ∈ vs) : GW (gName i) vs := fun v σ H Q Q' q k => k _ _ (fun j hj => by rw [List.getElem?_set_ne (fun e => hj (by rw [← e]; exact h))]) List.length_set q
noncomputable def cut (H : Hp) (p : Addr) : Hp := fun b => if b = p then none else H b
theorem cut_upd {H : Hp} {p : Addr} {o : HO} (h : H p = some o) : H = upd (cut H p) p o := by
  funext b
  unfold upd cut
  by_cases hb : b = p
  · subst hb; simp [h]
  · simp [hb]
theorem ex_cut {A H : Hp} {p : Addr} (e : Ex A H) (n : A p = none) : Ex A (cut H p) := fun a u h => by
  have : a ≠ p := fun z => by rw [z, n] at h; cases h
  show (if a = p then none else H a) = _
  rw [if_neg this]
  exact e a u h
theorem ex2_cut {A H : Hp} {p : Addr} (e : Ex2 A H) (n : A p = none) : Ex2 A (cut H p) := ⟨fun a u _ h => by
  have : a ≠ p := fun z => by rw [z, n] at h; cases h
  show (if a = p then none else H a) = _
  rw [if_neg this]
  exact e a u h, fun a ps h => by
  have : a ≠ p := fun z => by rw [z, n] at h; cases h
  obtain ⟨ps', e', g⟩ := e.b a ps h
  refine ⟨ps', ?_, g⟩
  show (if a = p then none else H a) = _
  rw [if_neg this]
  exact e'⟩
theorem evn_lc {wi : TI} {g : TG} {mi : Option (List D)} {vs : List Nat} {γ' : Type} {f : D → Option γ'} {st : γ' → List Sl → List Sl} {kt : γ' → Option Bool} {ke : γ' → Option D} {S3 S4 : γ' → List Sl} (hi : IV K cl wi S mi S1) (hg : GV K cl g f st) (hw : GW g vs)
    (ht : ∀ c, ET K cl tt (st c (noOw (wipeS S1 vs))) (kt c) (S3 c)) (he : ∀ c, EV K cl te (S3 c) (ke c) (S4 c)) :
    EVN K cl (tLc wi g tt te vs) S (mi.bind fun xs => (capD xs).bind fun xs => (compD (fun x => (f x).bind fun c => (kt c).bind fun b => if b = true then (ke c).map some else some none) xs).map .lst) S1 := fun B G H σ I d e Q q => by
  obtain ⟨xs0, ex, e⟩ := bind_some e
  obtain ⟨xs, ec, e⟩ := bind_some e
  obtain ⟨ys, ey, rfl⟩ := Option.map_eq_some_iff.mp e
  unfold capD at ec
  split at ec
  · rename_i hcap
    cases ec
    refine hi B G H σ I xs0 ex _ fun J G1 H1 I1 g1 h1 ok => fun Dl hD => ?_
    refine ⟨fun i n H' => n + i = xs0.length ∧ ∃ av ad rest G', compD (fun x => (f x).bind fun c => (kt c).bind fun b => if b = true then (ke c).map some else some none) (xs0.drop i) = some rest ∧ ad ++ rest = ys ∧ Nxt G1 H1 G' H' ∧ H' Dl = some (.lst av) ∧ G' Dl = none ∧ Reps K cl G' av ad ∧ ad.length ≤ i,
      ⟨xs0.length, rfl, [], [], ys, G1, ey, rfl, Nxt.lay I1.nxt.gh hD, upd_same, fresh_back I1.nxt.gh hD, .nil, Nat.le_refl _⟩, ?_⟩
    rintro i n H' ⟨hn, av, ad, rest, G', er, ea, n1, hd, gd, rs, hl⟩
    have I' := I1.step n1
    have eg := n1.g
    by_cases hi : i < xs0.length
    · have hx : xs0[i]? = some xs0[i] := List.getElem?_eq_getElem hi
      rw [drop_cons hx] at er
      obtain ⟨o, eo, er⟩ := bind_some er
      obtain ⟨rest2, er2, er⟩ := bind_some er
      obtain ⟨c, efc, eo⟩ := bind_some eo
      obtain ⟨b, eb, eo⟩ := bind_some eo
      refine .inr ⟨ok.go i G' H' hi eg I'.nxt.gh, fun H2 => ∃ av ad G2, ad ++ rest2 = ys ∧ Nxt G1 H1 G2 H2 ∧ H2 Dl = some (.lst av) ∧ G2 Dl = none ∧ Reps K cl G2 av ad ∧ ad.length ≤ i + 1,
        fun H2 ⟨av, ad, G2, k1, k2, k5, k6, k7, k8⟩ => ⟨n - 1, by omega, by omega, av, ad, rest2, G2, er2, k1, k2, k5, k6, k7, k8⟩, fun v H2 hy => ?_⟩
      obtain ⟨G2, nx, rv⟩ := ok.yld i _ G' H' v H2 hx eg I'.nxt.gh hy
      have I2 := I'.step nx
      have IW := (I2.wipe vs).own
      refine hw v (L2.wipe σ vs) H2 (fun σ3 H3 => Sig K cl ⟨G2, H2⟩ G2 H2 (st c (noOw (wipeS S1 vs))) σ3 ∧ H3 = H2) _ (hg ⟨G2, H2⟩ G2 H2 (L2.wipe σ vs) _ IW v _ c rv efc _ fun σ3 I3 => ⟨I3, rfl⟩) fun σ3 H3 hj hlen ⟨I3, e3⟩ => ?_
      subst e3
      refine ⟨(wipe_congr hlen hj).trans (wipe_congr (by rw [L2.wipe_length]) fun j hj => wipe_out2 hj), ?_⟩
      refine ht c ⟨G2, H3⟩ G2 H3 σ3 I3 b eb _ fun G4 H4 I4 g4 h4 => ?_
      have n4 : Nxt G' H' G4 H4 := nx.trans I4.nxt
      have keep : ∀ {G5 H5}, Nxt G' H' G5 H5 → H5 Dl = some (.lst av) ∧ G5 Dl = none := fun {G5 H5} n5 => by
        refine ⟨n5.h _ _ hd, ?_⟩
        cases q5 : G5 Dl with
        | none => rfl
        | some u =>
          rcases n5.fr Dl (by rw [q5]; simp) with h | h
          · exact absurd gd h
          · rw [hd] at h; cases h
      cases b with
      | true =>
        obtain ⟨y, ey2, eo⟩ := Option.map_eq_some_iff.mp eo
        subst eo
        cases er
        show te σ3 H4 fun y H5 => ∃ acc, H5 Dl = some (.lst acc) ∧ acc.length < sizeLine ∧ _
        refine he c ⟨G2, H3⟩ G4 H4 σ3 I4 y ey2 _ fun w G5 H5 I5 g5 h5 rw5 => ?_
        have n5 : Nxt G' H' G5 H5 := nx.trans I5.nxt
        obtain ⟨k1, k2⟩ := keep n5
        exact ⟨av, k1, sz_lt (by rw [rs.length]; omega), av ++ [w], ad ++ [y], G5, by rw [List.append_assoc]; exact ea, (n1.trans n5).mut hD k2, upd_same, k2, (rs.mono n5.g).append (.cons rw5 .nil), by rw [List.length_append]; exact Nat.succ_le_succ hl⟩
      | false =>
        cases eo
        cases er
        obtain ⟨k1, k2⟩ := keep n4
        exact ⟨av, ad, G4, ea, n1.trans n4, k1, k2, rs.mono n4.g, Nat.le_succ_of_le hl⟩
    · refine .inl ⟨?_, ?_⟩
      · have e1 : i = xs0.length := by omega
        rw [e1]; exact ok.stop G' H' eg I'.nxt.gh
      · rw [drop_end (by omega)] at er
        cases er
        rw [List.append_nil] at ea
        subst ea
        -- the list, taken out of the heap and laid again
        have eH : H' = upd (cut H' Dl) Dl (.lst av) := cut_upd hd
        rw [eH]
        exact q Dl av ad G' _ (I1.step ⟨n1.g, ex2_cut n1.h hD, ex_cut n1.gh gd, n1.fr⟩) (g1.trans eg) (h1.trans (ex2_cut n1.h hD)) rfl (if_pos rfl) rs
  · cases ec
/-- a comprehension of new lists: all of it is owned -/
theorem evo_lc {wi : TI} {g : TG} {mi : Option (List D)} {vs : List Nat} {γ' : Type} {f : D → Option γ'} {st : γ' → List Sl → List Sl} {kt : γ' → Option Bool} {ke : γ' → Option D} {S3 S4 : γ' → List Sl} (hi : IV K cl wi S mi S1) (hg : GV K cl g f st) (hw : GW g vs)
    (ht : ∀ c, ET K cl tt (st c (noOw (wipeS S1 vs))) (kt c) (S3 c)) (he : ∀ c, EVN K cl te (S3 c) (ke c) (S4 c)) :
    EVO K cl (.l (.l .v)) (tLc wi g tt te vs) S (mi.bind fun xs => (capD xs).bind fun xs => (compD (fun x => (f x).bind fun c => (kt c).bind fun b => if b = true then (ke c).map some else some none) xs).map .lst) S1 := fun B G H σ I d e Q q => by
  obtain ⟨xs0, ex, e⟩ := bind_some e
  obtain ⟨xs, ec, e⟩ := bind_some e
  obtain ⟨ys, ey, rfl⟩ := Option.map_eq_some_iff.mp e
  unfold capD at ec
  split at ec
  · rename_i hcap
    cases ec
    refine hi B G H σ I xs0 ex _ fun J G1 H1 I1 g1 h1 ok => fun Dl hD => ?_
    refine ⟨fun i n H' => n + i = xs0.length ∧ ∃ av ad A rest G', compD (fun x => (f x).bind fun c => (kt c).bind fun b => if b = true then (ke c).map some else some none) (xs0.drop i) = some rest ∧ ad ++ rest = ys ∧ Nxt G1 H1 G' H' ∧ H' Dl = some (.lst av) ∧ G' Dl = none ∧ OwnL (Own K cl G' H' (.l .v)) av ad A ∧ A.Nodup ∧ (∀ p ∈ A, H1 p = none ∧ G' p = none ∧ p ≠ Dl) ∧ ad.length ≤ i,
      ⟨xs0.length, rfl, [], [], [], ys, G1, ey, rfl, Nxt.lay I1.nxt.gh hD, upd_same, fresh_back I1.nxt.gh hD, .nil, .nil, (fun p hp => nomatch hp), Nat.le_refl _⟩, ?_⟩
    rintro i n H' ⟨hn, av, ad, A, rest, G', er, ea, n1, hd, gd, rs, nd, out, hl⟩
    have I' := I1.step n1
    have eg := n1.g
    by_cases hi : i < xs0.length
    · have hx : xs0[i]? = some xs0[i] := List.getElem?_eq_getElem hi
      rw [drop_cons hx] at er
      obtain ⟨o, eo, er⟩ := bind_some er
      obtain ⟨rest2, er2, er⟩ := bind_some er
      obtain ⟨c, efc, eo⟩ := bind_some eo
      obtain ⟨b, eb, eo⟩ := bind_some eo
      refine .inr ⟨ok.go i G' H' hi eg I'.nxt.gh, fun H2 => ∃ av ad A G2, ad ++ rest2 = ys ∧ Nxt G1 H1 G2 H2 ∧ H2 Dl = some (.lst av) ∧ G2 Dl = none ∧ OwnL (Own K cl G2 H2 (.l .v)) av ad A ∧ A.Nodup ∧ (∀ p ∈ A, H1 p = none ∧ G2 p = none ∧ p ≠ Dl) ∧ ad.length ≤ i + 1,
        fun H2 ⟨av, ad, A, G2, k1, k2, k5, k6, k7, k8, k9, k10⟩ => ⟨n - 1, by omega, by omega, av, ad, A, rest2, G2, er2, k1, k2, k5, k6, k7, k8, k9, k10⟩, fun v H2 hy => ?_⟩
      obtain ⟨G2, nx, rv⟩ := ok.yld i _ G' H' v H2 hx eg I'.nxt.gh hy
      have I2 := I'.step nx
      have IW := (I2.wipe vs).own
      refine hw v (L2.wipe σ vs) H2 (fun σ3 H3 => Sig K cl ⟨G2, H2⟩ G2 H2 (st c (noOw (wipeS S1 vs))) σ3 ∧ H3 = H2) _ (hg ⟨G2, H2⟩ G2 H2 (L2.wipe σ vs) _ IW v _ c rv efc _ fun σ3 I3 => ⟨I3, rfl⟩) fun σ3 H3 hj hlen ⟨I3, e3⟩ => ?_
      subst e3
      refine ⟨(wipe_congr hlen hj).trans (wipe_congr (by rw [L2.wipe_length]) fun j hj => wipe_out2 hj), ?_⟩
      refine ht c ⟨G2, H3⟩ G2 H3 σ3 I3 b eb _ fun G4 H4 I4 g4 h4 => ?_
      have n4 : Nxt G' H' G4 H4 := nx.trans I4.nxt
      have inH : ∀ p ∈ A, H' p ≠ none := rs.inH fun v d A2 r => r.inH
      have keep0 : ∀ {G5 H5}, Nxt G' H' G5 H5 → ∀ p, G' p = none → H' p ≠ none → G5 p = none := fun {G5 H5} n5 p h0 h2 => by
        cases q5 : G5 p with
        | none => rfl
        | some u =>
          rcases n5.fr p (by rw [q5]; simp) with h | h
          · exact absurd h0 h
          · exact absurd h h2
      have keep : ∀ {G5 H5}, Nxt G' H' G5 H5 → H5 Dl = some (.lst av) ∧ G5 Dl = none ∧ OwnL (Own K cl G5 H5 (.l .v)) av ad A ∧ ∀ p ∈ A, H1 p = none ∧ G5 p = none ∧ p ≠ Dl := fun {G5 H5} n5 => by
        refine ⟨n5.h _ _ hd, keep0 n5 _ gd (by rw [hd]; exact fun z => nomatch z), rs.imp fun v d A2 _ r => r.step n5.g fun p _ u _ hu => n5.h _ _ hu, fun p hp => ⟨(out p hp).1, keep0 n5 p (out p hp).2.1 (inH p hp), (out p hp).2.2⟩⟩
      cases b with
      | true =>
        obtain ⟨y, ey2, eo⟩ := Option.map_eq_some_iff.mp eo
        subst eo
        cases er
        show te σ3 H4 fun y H5 => ∃ acc, H5 Dl = some (.lst acc) ∧ acc.length < sizeLine ∧ _
        refine he c ⟨G2, H3⟩ G4 H4 σ3 I4 y ey2 _ fun pw vw xw G5 H5 I5 g5 h5 exw hpw rww => ?_
        subst exw
        have n5 : Nxt G' H' G5 H5 := nx.trans I5.nxt
        have n6 : Nxt G' H' G5 (upd H5 pw (.lst vw)) := n5.trans (Nxt.lay I5.nxt.gh hpw)
        obtain ⟨k1, k2, k3, k4⟩ := keep n6
        have npD : pw ≠ Dl := fun z => by rw [z, (keep n5).1] at hpw; cases hpw
        have inH5 : ∀ p ∈ A, p ≠ pw := fun p hp z => by
          have := ((keep n5).2.2.1).inH (fun v d A2 r => r.inH) p hp
          rw [z] at this; exact this hpw
        have ap : ∀ {vs : List V} {ds : List D} {A2 : List Addr} {v : V} {d : D} {A3 : List Addr} {R : V → D → List Addr → Prop}, OwnL R vs ds A2 → R v d A3 → OwnL R (vs ++ [v]) (ds ++ [d]) (A2 ++ A3) := fun {vs ds A2 v d A3 R} h r => by
          induction h with
          | nil => have := OwnL.cons r (OwnL.nil (R := R)); rw [List.append_nil] at this; exact this
          | cons r0 t ih => rw [List.append_assoc]; exact OwnL.cons r0 ih
        have offD : ∀ p : Addr, p ≠ Dl → ∀ u o, (upd H5 pw (.lst vw)) p = some u → (upd (upd H5 pw (.lst vw)) Dl o) p = some u := fun p h u o e => by rw [upd_ne h]; exact e
        refine ⟨av, k1, sz_lt (by rw [rs.len]; omega), av ++ [.ref pw], ad ++ [.lst xw], A ++ [pw], G5, by rw [List.append_assoc]; exact ea, (n1.trans n6).mut hD k2, upd_same, k2, ?_, ?_, fun p hp => ?_, by rw [List.length_append]; exact Nat.succ_le_succ hl⟩
        · refine ap (k3.imp fun v d A2 s r => r.step (Ex.refl _) fun p hp u _ hu => offD p (k4 p (s hp)).2.2 u _ hu) ?_
          exact Own.mkFlat (by rw [upd_ne npD, upd_same]) rww
        · rw [List.nodup_append]
          exact ⟨nd, by simp, fun a ha b hb => by rw [List.mem_singleton.mp hb]; exact inH5 a ha⟩
        · rcases List.mem_append.mp hp with h | h
          · exact k4 p h
          · rw [List.mem_singleton.mp h]
            exact ⟨(n1.h.trans n5.h).back hpw, fresh_back I5.nxt.gh hpw, npD⟩
      | false =>
        cases eo
        cases er
        obtain ⟨k1, k2, k3, k4⟩ := keep n4
        exact ⟨av, ad, A, G4, ea, n1.trans n4, k1, k2, k3, nd, k4, Nat.le_succ_of_le hl⟩
    · refine .inl ⟨?_, ?_⟩
      · have e1 : i = xs0.length := by omega
        rw [e1]; exact ok.stop G' H' eg I'.nxt.gh
      · rw [drop_end (by omega)] at er
        cases er
        rw [List.append_nil] at ea
        subst ea
        refine q (.ref Dl) G' H' (I1.push n1 (A0 := Dl :: A) ⟨Dl, av, ad, A, rfl, rfl, hd, rfl, rs⟩ ?_ fun p hp => ?_) (g1.trans eg) (h1.trans n1.h)
        · rw [List.nodup_cons]
          exact ⟨fun z => (out Dl z).2.2 rfl, nd⟩
        · rcases List.mem_cons.mp hp with h | h
          · rw [h]; exact ⟨hD, gd⟩
          · exact ⟨(out p h).1, (out p h).2.1⟩
  · cases ec
end
end Oh
namespace Oh
open PySem PySem.Spec PyProof.Rows L2 Evl

section
variable {K : PySem.W.Frag} {cl : Cl} {S S1 S2 : List Sl} {te ta tb tc : TE} {m n : Option D}
/-! ### slices, bits -/
noncomputable def optI (m : Option D) : Option (Option Int) := m.bind fun d => (asI d).map some
noncomputable def EO (to : TO) (S : List Sl) (m : Option (Option Int)) (S' : List Sl) (K : PySem.W.Frag) (cl : Cl) : Prop := ∀ (B : Bs) (G H : Hp) (σ : L2.St), Sig K cl B G H S σ → ∀ o, m = some o → ∀ Q : Option Int → Hp → Prop,
  (∀ G' H', Sig K cl B G' H' S' σ → Ex G G' → Ex2 H H' → Q o H') → to σ H Q
theorem eo_no : EO tNoPart S (some none) S K cl := fun B G H σ I o e Q q => by cases e; exact q G H I (Ex.refl _) (Ex2.refl _)
theorem eo_so (h : EV K cl te S m S1) : EO (tPart te) S (optI m) S1 K cl := fun B G H σ I o e Q q => by
  obtain ⟨d, ed, e⟩ := bind_some e
  obtain ⟨i, ei, rfl⟩ := Option.map_eq_some_iff.mp e
  refine h B G H σ I d ed _ fun v G' H' I' g1 h1 rv => ?_
  cases rv with
  | int => cases ei; exact ⟨_, rfl, q G' H' I' g1 h1⟩
  | _ => cases ei
noncomputable def dSl (d : D) (lo hi : Option Int) : Option D := match d with | .lst xs => some (.lst (cutD xs lo hi)) | .rol xs => some (.lst (cutD xs lo hi)) | _ => none
theorem cut_reps {G : Hp} {vs : List V} {ds : List D} {lo hi : Option Int} (r : Reps K cl G vs ds) : Reps K cl G (cutV vs lo hi) (cutD ds lo hi) := by
  unfold cutV cutD
  rw [r.length]
  exact (r.drop _).take _
theorem evn_sl {tl th : TO} {ml mh : Option (Option Int)} {S3 : List Sl} (h : EV K cl te S m S1) (h1 : EO tl S1 ml S2 K cl) (h2 : EO th S2 mh S3 K cl) : EVN K cl (tSl (rSlL K) te tl th) S (m.bind fun d => ml.bind fun lo => mh.bind fun hi => dSl d lo hi) S3 := fun B G H σ I z e Q q => by
  obtain ⟨d, ed, e⟩ := bind_some e
  obtain ⟨lo, el, e⟩ := bind_some e
  obtain ⟨hi, eh, e⟩ := bind_some e
  refine h B G H σ I d ed _ fun v G1 H1 I1 g1 h1' rv => ?_
  refine h1 B G1 H1 σ I1 lo el _ fun G2 H2 I2 g2 h2' => ?_
  refine h2 B G2 H2 σ I2 hi eh _ fun G3 H3 I3 g3 h3' => ?_
  cases rv with
  | lst hg rs => cases e; exact ⟨_, _, rfl, sq_of ((h2'.trans h3') _ _ (I1.nxt.gh _ _ hg)), fun p hp => q p _ _ G3 H3 I3 ((g1.trans g2).trans g3) ((h1'.trans h2').trans h3') rfl hp (cut_reps (rs.mono (g2.trans g3)))⟩
  | rol hg rs => cases e; exact ⟨_, _, rfl, ex2_l (h2'.trans h3') (ex_l I1.nxt.gh hg), fun p hp => q p _ _ G3 H3 I3 ((g1.trans g2).trans g3) ((h1'.trans h2').trans h3') rfl hp (cut_reps (rs.mono (g2.trans g3)))⟩
  | _ => cases e
theorem et_yes : ET K cl tYes S (some true) S := fun B G H σ I b e Q q => by cases e; exact q G H I (Ex.refl _) (Ex2.refl _)
/-- every owned list at i is given away first -/
theorem ev_pre {i : Nat} {sh : Sh} {d : D} (h : S[i]? = some (.ow sh d)) (he : EV K cl te (S.set i (.vl d)) m S1) : EV K cl te S m S1 := fun B G H σ I z e Q q => by
  obtain ⟨_, G1, _, g1, _, I1⟩ := I.share h
  exact he B G1 H σ I1 z e Q fun v G2 H2 I2 g2 h2 rv => q v G2 H2 I2 (g1.trans g2) h2 rv
theorem et_pre {i : Nat} {sh : Sh} {d : D} {tt : TT} {a : Option Bool} (h : S[i]? = some (.ow sh d)) (he : ET K cl tt (S.set i (.vl d)) a S1) : ET K cl tt S a S1 := fun B G H σ I z e Q q => by
  obtain ⟨_, G1, _, g1, _, I1⟩ := I.share h
  exact he B G1 H σ I1 z e Q fun G2 H2 I2 g2 h2 => q G2 H2 I2 (g1.trans g2) h2
/-! ### defs -/
noncomputable def spD (K : PySem.W.Frag) (cl : Cl) (f : List D → Option D) : Sp := fun vs H Q _ => ∃ G ds d, Ex G H ∧ (∀ a ∈ cl.t, GxR.TabG H a ∧ G a = none) ∧ Reps K cl G vs ds ∧ f ds = some d ∧ ∀ v G' H', Nxt G H G' H' → Rep K cl G' v d → Q v H'
theorem ev_call {f : List D → Option D} {ts : TA} {ms : Option (List D)} {E : XK} (ha : EA K cl ts S ms S1) : EV K cl (tCall (spD K cl f) [] E ts) S (ms.bind f) S1 := fun B G H σ I z e Q q => by
  obtain ⟨ds, eds, e⟩ := bind_some e
  refine ha B G H σ I ds eds _ fun vs G1 H1 I1 g1 h1 rs => ?_
  refine ⟨G1, ds, z, I1.nxt.gh, I1.tab, by rw [List.append_nil]; exact rs, e, fun v G' H' nx r => ?_⟩
  exact q v G' H' (I1.step nx) (g1.trans nx.g) (h1.trans nx.h) r
structure Con (P : Program) (w : World) (K : PySem.W.Frag) (cl : Cl) (mg : Str → Option Value) (base : Heap) (k : Nat) (x : Str) (f : List D → Option D) (fa : Addr) (fd : FuncData) (ps : List Str) : Prop where
  ok : FnOk P w K mg base CX0 k fa fd ps (spD K cl f)
  mg : mg x = some (.ref fa)
  kp : PySem.W.keepIn K (.ref fa) = true
  bd : Binds K fd ps []
theorem con_none {P : Program} {w : World} {mg : Str → Option Value} {base : Heap} {k : Nat} {f : List D → Option D} {fa : Addr} {fd : FuncData} {ps : List Str} (no : ∀ ds d, f ds = some d → False) : FnOk P w K mg base CX0 k fa fd ps (spD K cl f) :=
  ⟨fun vs H Q E h => by obtain ⟨G, ds, d, _, _, _, e, _⟩ := h; exact (no _ _ e).elim, fun A outer s H args us vs Q E _ _ _ _ h => by obtain ⟨G, ds, d, _, _, _, e, _⟩ := h; exact (no _ _ e).elim⟩
theorem slot_start {ds : List D} {vs : List V} {G : Hp} {k : Nat} (r : Reps K cl G vs ds) {i : Nat} {s : Sl} (h : (ds.map Sl.vl ++ List.replicate k Sl.jk)[i]? = some s) :
    ∃ o, (vs.map some ++ List.replicate k none)[i]? = some o ∧ (s = .jk ∨ ∃ v d, s = .vl d ∧ o = some v ∧ Rep K cl G v d) := by
  have hl := r.length
  by_cases hi : i < ds.length
  · rw [List.getElem?_append_left (by rw [List.length_map]; exact hi), List.getElem?_map] at h
    rw [List.getElem?_append_left (by rw [List.length_map, hl]; exact hi), List.getElem?_map]
    obtain ⟨d, hd, rfl⟩ := Option.map_eq_some_iff.mp h
    obtain ⟨v, hv, rv⟩ := r.get hd
    exact ⟨some v, by rw [hv]; rfl, .inr ⟨v, d, rfl, rfl, rv⟩⟩
  · rw [List.getElem?_append_right (by rw [List.length_map]; omega), List.length_map, List.getElem?_replicate] at h
    rw [List.getElem?_append_right (by rw [List.length_map]; omega), List.length_map, List.getElem?_replicate, hl]
    split at h
    · rename_i hk
      cases h
      exact ⟨none, if_pos hk, .inl rfl⟩
    · cases h
theorem fun_con {P : Program} {w : World} {mg : Str → Option Value} {base : Heap} {x qual : Str} {st : Stmt} {fa : Addr} {fd : FuncData} {N ps : List Str} {k n : Nat} {f : List D → Option D}
    (F : Fun K x qual st fa fd) (SC : FnScope N ps (defScope st)) (hn : ps.length = n) (ar : ∀ ds d, f ds = some d → ds.length = n) (hm : mg x = some (.ref fa)) (hb : Binds K fd ps [])
    (body : ∀ (cdv : Value) (A : Around) (outer : List Env) (s : Shared) (H : Hp) (E : XK), Room k (A.deeper (envOfC qual (defScope st) s.heap.objs.size fa cdv)) →
      ∃ t, PSs (cxOf CX0 P w K mg base N qual (defScope st) fa cdv A outer s H E).nox (defBody st) t ∧ ∀ ds : List D, ds.length = n → TV K cl t (ds.map .vl ++ List.replicate (N.length - n) .jk) true (f ds)) : Con P w K cl mg base (k + 1) x f fa fd ps := by
  refine ⟨F.ok SC (fun vs H Q E h => ?_) (fun cdv A outer s H vs Q E hr h => ?_), hm, F.kp, hb⟩
  · obtain ⟨G, ds, d, _, _, rs, e, _⟩ := h
    rw [rs.length, ar ds d e, hn]
  · obtain ⟨G, ds, d, gh, tb, rs, e, q⟩ := h
    obtain ⟨t, hp, ht⟩ := body cdv A outer s H E hr
    have hl := ar ds d e
    have hv : vs.length = n := rs.length.trans hl
    refine ⟨t, hp, ?_⟩
    have e0 : L2.start N vs = vs.map some ++ List.replicate (N.length - n) none := by unfold L2.start; rw [hv]
    rw [e0]
    refine ht ds hl ⟨G, H⟩ G H _ ⟨Nxt.refl gh, by simp [rs.length], tb, fun _ => [], fun i s hs => ?_, fun _ _ _ _ _ _ z => nomatch z⟩ d e _ (fun v G' H' nx r => q v G' H' nx r) (fun _ hd σ' G' H' nx => ?_)
    · obtain ⟨o, h1, h2⟩ := slot_start rs hs
      refine ⟨o, h1, ?_⟩
      rcases h2 with rfl | ⟨v, d', rfl, rfl, rv⟩
      · rfl
      · exact ⟨rfl, v, rfl, rv⟩
    · subst hd
      exact q .non G' H' nx .non
/-! ### the law -/
noncomputable def spLaw (K : PySem.W.Frag) (t : List Addr) : Sp := fun vs H Q _ => ∃ (a : Addr) (ns : List Int), vs = [.ref a] ∧ (∀ b ∈ t, GxR.TabG H b) ∧ SqL K H a (ns.map V.int) ∧ ns.length ≤ 63 ∧ ∀ H', Q (.bl true) H'
theorem reps_ints {G : Hp} : ∀ ns : List Int, Reps K cl G (ns.map V.int) (ns.map D.int)
  | [] => .nil
  | _ :: ns => .cons .int (reps_ints ns)
theorem law_ok {P : Program} {w : World} {mg : Str → Option Value} {base : Heap} {k : Nat} {fa : Addr} {fd : FuncData} {x : Str} {f : D → Option D} (C : FnOk P w K mg base CX0 k fa fd [x] (spD K cl (on1 f)))
    (h : ∀ ns : List Int, ns.length ≤ 63 → f (.rol (ns.map D.int)) = some (.bl true)) : FnOk P w K mg base CX0 k fa fd [x] (spLaw K cl.t) := by
  refine C.imp (fun vs H Q E q => ?_)
  obtain ⟨a, ns, rfl, ht, hs, hl, q⟩ := q
  have tn : ∀ b ∈ cl.t, ∀ u, H b = some u → ∃ ps, u = .tbl ps := fun b hb u e => by
    obtain ⟨ps, e2, _⟩ := ht b hb
    rw [e] at e2; cases e2; exact ⟨ps, rfl⟩
  have hs2 : SqL K (fun b => if b ∈ cl.t then none else H b) a (ns.map V.int) := by
    have off : ∀ u, H a = some u → (∀ ps, u ≠ .tbl ps) → (fun b => if b ∈ cl.t then none else H b) a = some u := fun u e n => by
      show (if a ∈ cl.t then none else H a) = _
      rw [if_neg fun z => by obtain ⟨ps, rfl⟩ := tn a z u e; exact n ps rfl]
      exact e
    rcases hs with (e | ⟨o, e⟩) | e
    · exact .inl (.inl (off _ e fun _ z => nomatch z))
    · exact .inl (.inr ⟨o, off _ e fun _ z => nomatch z⟩)
    · exact .inr e
  refine ⟨_, [.rol (ns.map D.int)], .bl true, fun b u e => ?_, fun b hb => ⟨ht b hb, if_pos hb⟩, .cons (.rol hs2 (reps_ints ns)) .nil, h ns hl, fun v G' H' nx r => ?_⟩
  · by_cases z : b ∈ cl.t
    · rw [if_pos z] at e; cases e
    · rw [if_neg z] at e; exact e
  · cases r
    exact q H'
theorem ar1 {f : D → Option D} : ∀ ds d, on1 f ds = some d → ds.length = 1 := fun ds d h => by
  unfold on1 at h; split at h
  · rfl
  · cases h
theorem ar2 {f : D → D → Option D} : ∀ ds d, on2 f ds = some d → ds.length = 2 := fun ds d h => by
  unfold on2 at h; split at h
  · rfl
  · cases h
theorem ar3 {f : D → D → D → Option D} : ∀ ds d, on3 f ds = some d → ds.length = 3 := fun ds d h => by
  unfold on3 at h; split at h
  · rfl
  · cases h
theorem ar0 {m : Option D} : ∀ ds d, on0 m ds = some d → ds.length = 0 := fun ds d h => by
  unfold on0 at h; split at h
  · rfl
  · cases h
/-- a def for its arguments, one by one -/
theorem all1 {t : TS} {k : Nat} {f : D → Option D} (h : ∀ a, TV K cl t (.vl a :: List.replicate k .jk) true (f a)) : ∀ ds : List D, ds.length = 1 → TV K cl t (ds.map .vl ++ List.replicate k .jk) true (on1 f ds)
  | [a], _ => h a
theorem all2 {t : TS} {k : Nat} {f : D → D → Option D} (h : ∀ a b, TV K cl t (.vl a :: .vl b :: List.replicate k .jk) true (f a b)) : ∀ ds : List D, ds.length = 2 → TV K cl t (ds.map .vl ++ List.replicate k .jk) true (on2 f ds)
  | [a, b], _ => h a b
theorem all3 {t : TS} {k : Nat} {f : D → D → D → Option D} (h : ∀ a b c, TV K cl t (.vl a :: .vl b :: .vl c :: List.replicate k .jk) true (f a b c)) : ∀ ds : List D, ds.length = 3 → TV K cl t (ds.map .vl ++ List.replicate k .jk) true (on3 f ds)
  | [a, b, c], _ => h a b c
theorem all0 {t : TS} {k : Nat} {m : Option D} (h : TV K cl t (List.replicate k .jk) true m) : ∀ ds : List D, ds.length = 0 → TV K cl t (ds.map .vl ++ List.replicate k .jk) true (on0 m ds)
  | [], _ => h
end
end Oh
namespace Oh
open PySem PySem.Spec PyProof.Rows L2 Evl

/-! ### plain functions: objects, dicts, lists -/
noncomputable def dFld (c : Nat) (f : Str) : D → Option D | .ob c' fs => if c' = c then fs.lookup f else none | _ => none
noncomputable def putD (f : Str) (v : D) : List (Str × D) → List (Str × D)
  | [] => [(f, v)]
  | (g, x) :: r => if g = f then (g, v) :: r else (g, x) :: putD f v r
noncomputable def dStF (c : Nat) (f : Str) (x y : D) : Option D := match x with | .ob c' fs => if c' = c ∧ fs.length < 1000 then some (.ob c' (putD f y fs)) else none | _ => none
noncomputable def flatB : D → Bool | .non => true | .bl _ => true | .int _ => true | .str _ => true | _ => false
noncomputable def eqFl : D → D → Bool
  | .non, .non => true
  | .bl a, .bl b => a == b
  | .bl a, .int b => (if a then 1 else 0) == b
  | .int a, .bl b => a == (if b then 1 else 0)
  | .int a, .int b => a == b
  | .str a, .str b => a == b
  | _, _ => false
noncomputable def asLT : D → Option (List D) | .lst xs => some xs | .rol xs => some xs | .tup xs => some xs | _ => none
noncomputable def dInB (x y : D) : Option Bool := (asLT y).bind fun ys => if flatB x = true ∧ ys.all flatB = true then some (ys.any fun y => eqFl y x) else none
noncomputable def dIn (x y : D) : Option D := (dInB x y).map .bl
noncomputable def dNin (x y : D) : Option D := (dInB x y).map fun b => .bl (!b)
noncomputable def dExt (d e : D) : Option D := match d, e with | .lst xs, .lst ys => if xs.length + ys.length ≤ 100000 then some (.lst (xs ++ ys)) else none | _, _ => none
noncomputable def dRep (d k : D) : Option D := match d, k with | .lst xs, .int k => if -(2 ^ 63) ≤ k ∧ k < 2 ^ 63 ∧ xs.length * k.toNat ≤ 100000 then some (.lst (List.replicate k.toNat xs).flatten) else none | _, _ => none
noncomputable def dPop2 (d k j : D) : Option D := match d, k, j with
  | .lst ds, .int k, .int j => (ixN ds.length k).bind fun a => match ds[a]? with
    | some (.lst xs) => if -(2 ^ 63) ≤ j ∧ j < 2 ^ 63 then (seqIndex? j xs.length).bind fun c => if c < xs.length then some (.lst (ds.set a (.lst (xs.eraseIdx c)))) else none else none
    | _ => none
  | _, _, _ => none

section
variable {K : PySem.W.Frag} {cl : Cl} {S S1 S2 : List Sl} {te ta tb tc td : TE} {m n : Option D}
/-! ### objects -/
structure ClsF (K : PySem.W.Frag) (C : Addr) (as : List Str) : Prop where
  c : Cls K C
  n : ∀ f ∈ as, NoAttr K C f
theorem ev_fld {c : Nat} {f : Str} {as : List Str} (T : ClsF K (cl.c c) as) (hf : f ∈ as) (h : EV K cl te S m S1) : EV K cl (tFld K te f) S (m.bind (dFld c f)) S1 := fun B G H σ I z e Q q => by
  obtain ⟨d, ed, e⟩ := bind_some e
  refine h B G H σ I d ed _ fun v G1 H1 I1 g1 h1 rv => ?_
  cases rv with
  | @ob a dx c' fs ds hg rs =>
    have e2 : (if c' = c then ds.lookup f else none) = some z := e
    by_cases hc : c' = c
    · rw [if_pos hc] at e2
      subst hc
      obtain ⟨v, ev, rv⟩ := rs.lookup e2
      exact ⟨_, _, _, _, v, rfl, I1.nxt.gh _ _ hg, T.c, T.n f hf, ev, q v G1 H1 I1 g1 h1 rv⟩
    · rw [if_neg hc] at e2; cases e2
  | _ => cases e
theorem FReps.length {G : Hp} : ∀ {vs ds}, FReps K cl G vs ds → vs.length = ds.length
  | _, _, .nil => rfl
  | _, _, .cons _ r => congrArg (· + 1) (FReps.length r)
/-! ### dicts -/
theorem KReps.any {G : Hp} (k : Key) : ∀ {vs ds}, KReps K cl G vs ds → (vs.any fun kv => decide (kv.1 = k)) = ds.any fun kv => decide (kv.1 = k)
  | _, _, .nil => rfl
  | _, _, .cons _ t => by rw [List.any_cons, List.any_cons, KReps.any k t]
theorem KReps.map {G : Hp} {k : Key} {v : V} {d : D} (r : Rep K cl G v d) : ∀ {vs ds}, KReps K cl G vs ds → KReps K cl G (vs.map fun kv => if kv.1 = k then (kv.1, v) else kv) (ds.map fun kv => if kv.1 = k then (kv.1, d) else kv)
  | _, _, .nil => .nil
  | _, _, .cons (n := g) q t => by
    rw [List.map_cons, List.map_cons]
    by_cases e : g = k
    · rw [if_pos (show (g, _).1 = k from e), if_pos (show (g, _).1 = k from e)]; exact .cons r (KReps.map r t)
    · rw [if_neg (show ¬ (g, _).1 = k from e), if_neg (show ¬ (g, _).1 = k from e)]; exact .cons q (KReps.map r t)
/-! ### in, extend, repeat, index -/
theorem flat_V {G : Hp} {v : V} {d : D} (r : Rep K cl G v d) (h : flatB d = true) : flatV v = true := by
  cases r <;> first | rfl | cases h
theorem flat_Vs {G : Hp} : ∀ {vs ds}, Reps K cl G vs ds → ds.all flatB = true → vs.all flatV = true
  | _, _, .nil, _ => rfl
  | _, _, .cons r t, h => by
    rw [List.all_cons, Bool.and_eq_true] at h
    rw [List.all_cons, flat_V r h.1, flat_Vs t h.2]; rfl
theorem eq_V {G : Hp} {v w : V} {d e : D} (r : Rep K cl G v d) (s : Rep K cl G w e) (h : flatB d = true) (h2 : flatB e = true) : eqV v w = eqFl d e := by
  cases r <;> cases s <;> first | rfl | cases h | cases h2
theorem in_V {G : Hp} {w : V} {e : D} (s : Rep K cl G w e) (h2 : flatB e = true) : ∀ {vs ds}, Reps K cl G vs ds → ds.all flatB = true → inV w vs = ds.any fun y => eqFl y e
  | _, _, .nil, _ => rfl
  | _, _, .cons r t, h => by
    rw [List.all_cons, Bool.and_eq_true] at h
    have := in_V s h2 t h.2
    unfold inV at this ⊢
    rw [List.any_cons, List.any_cons, this, eq_V r s h.1 h2]
theorem in_rep {G H : Hp} {x y : V} {d e : D} {b : Bool} (gh : Ex G H) (rx : Rep K cl G x d) (ry : Rep K cl G y e) (h : dInB d e = some b) : ∃ p xs, y = .ref p ∧ (SqL K H p xs ∨ SqT K H p xs) ∧ flatV x = true ∧ xs.all flatV = true ∧ inV x xs = b := by
  obtain ⟨ys, ey, h⟩ := bind_some h
  split at h
  · rename_i hf
    cases h
    cases ry with
    | lst hg rs => cases ey; exact ⟨_, _, rfl, .inl (sq_of (gh _ _ hg)), flat_V rx hf.1, flat_Vs rs hf.2, in_V rx hf.1 rs hf.2⟩
    | rol hg rs => cases ey; exact ⟨_, _, rfl, .inl (ex_l gh hg), flat_V rx hf.1, flat_Vs rs hf.2, in_V rx hf.1 rs hf.2⟩
    | tup hg rs => cases ey; exact ⟨_, _, rfl, .inr (ex_t gh hg), flat_V rx hf.1, flat_Vs rs hf.2, in_V rx hf.1 rs hf.2⟩
    | _ => cases ey
  · cases h
theorem o_in : Op2 K cl (rIn K false) dIn := by
  intro G H x y d e z gh rx ry h Q q
  obtain ⟨b, eb, rfl⟩ := Option.map_eq_some_iff.mp h
  obtain ⟨p, xs, h1, h2, h3, h4, rfl⟩ := in_rep gh rx ry eb
  exact ⟨p, xs, h1, h2, h3, h4, q _ .bl⟩
theorem o_nin : Op2 K cl (rIn K true) dNin := by
  intro G H x y d e z gh rx ry h Q q
  obtain ⟨b, eb, rfl⟩ := Option.map_eq_some_iff.mp h
  obtain ⟨p, xs, h1, h2, h3, h4, rfl⟩ := in_rep gh rx ry eb
  exact ⟨p, xs, h1, h2, h3, h4, q _ .bl⟩
theorem reps_rep {G : Hp} {vs ds} (r : Reps K cl G vs ds) : ∀ n : Nat, Reps K cl G (List.replicate n vs).flatten (List.replicate n ds).flatten
  | 0 => .nil
  | n + 1 => by
    rw [List.replicate_succ, List.replicate_succ, List.flatten_cons, List.flatten_cons]
    exact r.append (reps_rep r n)
theorem o_rep : Op2N K cl rRep dRep := by
  intro G H x y d e z gh rx ry h Q q
  cases rx <;> cases ry <;> simp only [dRep] at h <;> try (cases h; done)
  split at h
  · rename_i g1 r1 _ hl
    cases h
    exact ⟨_, _, _, rfl, rfl, gh _ _ g1, hl.1, hl.2.1, sz_of (by rw [r1.length]; exact hl.2.2), fun p hp => q p _ _ hp rfl (reps_rep r1 _)⟩
  · cases h
theorem sv_ext {i : Nat} {d : D} (h0 : S[i]? = some (.ow (.l .v) d)) (h1 : S1[i]? = some (.ow (.l .v) d)) (h : EV K cl te S m S1) : SV K cl (tDrop (tBM K "list" rExtend (tVar i) (tCons te tNil))) S (m.bind fun x => dExt d x) (fun d' => S1.set i (.ow (.l .v) d')) := fun B G H σ I d' e Dn q => by
  obtain ⟨x, ex, e⟩ := bind_some e
  obtain ⟨p, vs, xs, hσ, rfl, hp, gp, bp, rs⟩ := I.ow h0
  refine ⟨.ref p, hσ, Or.inl ⟨rfl, vs, sq_of hp⟩, h B G H σ I x ex _ fun v G' H' I' g1 h1' r => ?_⟩
  cases r with
  | lst hg rz =>
    have e2 : (if xs.length + _ ≤ 100000 then some (D.lst (xs ++ _)) else none) = some d' := e
    split at e2
    · rename_i hl
      cases e2
      refine ⟨p, _, vs, _, rfl, rfl, h1' _ _ hp, I'.nxt.gh _ _ hg, sz_of (by rw [rs.length, rz.length]; exact hl), q σ G' _ ?_⟩
      exact I'.mut h1 hσ ((rs.mono g1).append rz)
    · cases e2
  | _ => cases e
/-- xs[k].pop(j), xs a list of lists, all of it owned -/
theorem OwnL.get {R : V → D → List Addr → Prop} : ∀ {vs ds A} {k : Nat} {v : V}, OwnL R vs ds A → vs[k]? = some v → ∃ d A0, ds[k]? = some d ∧ R v d A0 ∧ A0 ⊆ A ∧
    ∀ {R' : V → D → List Addr → Prop} {d' : D}, R' v d' A0 → (∀ v d A2, (∀ p ∈ A2, p ∈ A → p ∉ A0 ∨ ¬ A.Nodup) → A2 ⊆ A → R v d A2 → R' v d A2) → OwnL R' vs (ds.set k d') A
  | _, _, _, _, _, .nil, h => by cases h
  | _, _, _, 0, _, .cons (A := A0) (As := As) r t, h => by
    cases h
    refine ⟨_, A0, rfl, r, List.subset_append_left _ _, fun {R' d'} r' k => .cons r' (t.imp fun v d A2 s q => k v d A2 (fun p hp _ => ?_) (fun _ hx => List.mem_append_right _ (s hx)) q)⟩
    by_cases nd : (A0 ++ As).Nodup
    · exact .inl fun z => (List.nodup_append.mp nd).2.2 p z p (s hp) rfl
    · exact .inr nd
  | _, _, _, k + 1, _, .cons (A := A0) (As := As) r t, h => by
    obtain ⟨d, A1, e1, e2, e3, e4⟩ := OwnL.get (k := k) t (by simpa using h)
    refine ⟨d, A1, by simpa using e1, e2, fun _ hx => List.mem_append_right _ (e3 hx), fun {R' d'} r' kk => .cons (kk _ _ _ (fun p hp _ => ?_) (List.subset_append_left _ _) r) (e4 r' fun v d A2 h2 s q => kk v d A2 (fun p hp _ => ?_) (fun _ hx => List.mem_append_right _ (s hx)) q)⟩
    · by_cases nd : (A0 ++ As).Nodup
      · exact .inl fun z => (List.nodup_append.mp nd).2.2 p hp p (e3 z) rfl
      · exact .inr nd
    · rcases h2 p hp (s hp) with z | z
      · exact .inl z
      · exact .inr fun nd => z (List.nodup_append.mp nd).2.1
theorem OwnL.set {R : V → D → List Addr → Prop} {vs ds A} {k : Nat} {v : V} (h : OwnL R vs ds A) (hv : vs[k]? = some v) (nd : A.Nodup) : ∃ d A0, ds[k]? = some d ∧ R v d A0 ∧ A0 ⊆ A ∧
    ∀ {R' : V → D → List Addr → Prop} {d' : D}, R' v d' A0 → (∀ v d A2, (∀ p ∈ A2, p ∉ A0) → A2 ⊆ A → R v d A2 → R' v d A2) → OwnL R' vs (ds.set k d') A := by
  obtain ⟨d, A0, e1, e2, e3, e4⟩ := h.get hv
  exact ⟨d, A0, e1, e2, e3, fun r' k => e4 r' fun v d A2 h2 s q => k v d A2 (fun p hp => (h2 p hp (s hp)).resolve_right fun z => z nd) s q⟩
theorem sv_pop2 {i : Nat} {d : D} (h0 : S[i]? = some (.ow (.l (.l .v)) d)) (h1 : S1[i]? = some (.ow (.l (.l .v)) d)) (h2 : S2[i]? = some (.ow (.l (.l .v)) d)) (hk : EV K cl ta S m S1) (h : EV K cl te S1 n S2) :
    SV K cl (tDrop (tBM K "list" rPopAt (tOp (rIx K) (tVar i) ta) (tCons te tNil))) S (m.bind fun k => n.bind fun j => dPop2 d k j) (fun d' => S2.set i (.ow (.l (.l .v)) d')) := fun B G H σ I z e Dn q => by
  obtain ⟨k, ek, e⟩ := bind_some e
  obtain ⟨j, ej, e⟩ := bind_some e
  obtain ⟨v0, A, hσ, ⟨p, vs, ds, A', rfl, rfl, hp, rfl, owl⟩, nd, out, _⟩ := I.opn h0
  refine ⟨.ref p, hσ, hk B G H σ I k ek _ fun w G1 H1 I1 g1 h1' rk => ?_⟩
  obtain ⟨kk, rfl⟩ : ∃ kk, k = .int kk := by
    cases k <;> first | exact ⟨_, rfl⟩ | exact nomatch e
  obtain ⟨jj, rfl⟩ : ∃ jj, j = .int jj := by
    cases j <;> first | exact ⟨_, rfl⟩ | exact nomatch e
  have e : (ixN ds.length kk).bind (fun a => match ds[a]? with
    | some (.lst xs) => if -(2 ^ 63) ≤ jj ∧ jj < 2 ^ 63 then (seqIndex? jj xs.length).bind fun c => if c < xs.length then some (D.lst (ds.set a (.lst (xs.eraseIdx c)))) else none else none
    | _ => none) = some z := e
  · obtain ⟨a, ea, e⟩ := bind_some e
    split at e
    · rename_i xs exs
      split at e
      · rename_i hj
        obtain ⟨c, ec, e⟩ := bind_some e
        split at e
        · rename_i hc
          cases e
          cases rk
          have hav : ∃ v, vs[a]? = some v := by
            have := (List.getElem?_eq_some_iff.mp exs).1
            exact ⟨_, List.getElem?_eq_getElem (by rw [owl.len]; exact this)⟩
          obtain ⟨v, hv⟩ := hav
          obtain ⟨d1, A1, f1, f2, f3, _⟩ := owl.set hv (List.nodup_cons.mp nd).2
          rw [exs] at f1; cases f1
          obtain ⟨p1, ws, xs1, rfl, e5, hp1, rfl, rws⟩ := f2.flat
          cases e5
          refine Or.inl ⟨p, vs, _, .ref p1, rfl, rfl, sq_of (h1' _ _ hp), ?_, ?_⟩
          · unfold atI; rw [owl.len, ea]; exact hv
          refine ⟨Or.inl ⟨rfl, ws, sq_of (h1' _ _ hp1)⟩, h B G1 H1 σ I1 _ ej _ fun y G2 H2 I2 g2 h2' rj => ?_⟩
          cases rj
          have hy : ∃ y, ws[c]? = some y := ⟨_, List.getElem?_eq_getElem (by rw [rws.length]; exact hc)⟩
          obtain ⟨y, hy⟩ := hy
          refine ⟨p1, ws, _, c, y, rfl, rfl, h2' _ _ (h1' _ _ hp1), hj.1, hj.2, by rw [rws.length]; exact ec, hy, ?_⟩
          obtain ⟨v9, A9, hσ9, ⟨p9, vs9, ds9, A99, rfl, e9, hp9, rfl, owl9⟩, nd9, out9, cls⟩ := I2.opn h2
          rw [hσ] at hσ9; cases hσ9
          cases e9
          have hpp := (h1'.trans h2') _ _ hp
          rw [hpp] at hp9; cases hp9
          obtain ⟨d2, A2, f1, f2, f3, f4⟩ := owl9.set hv (List.nodup_cons.mp nd9).2
          rw [exs] at f1; cases f1
          obtain ⟨p2, ws2, xs2, e6, e7, hp2, rfl, rws2⟩ := f2.flat
          cases e6
          cases e7
          rw [(h1'.trans h2') _ _ hp1] at hp2; cases hp2
          have np : p ≠ p1 := fun z => (List.nodup_cons.mp nd9).1 (f3 (by rw [z]; exact List.mem_cons_self))
          refine q σ G2 _ (cls _ _ (fun q hq => upd_ne fun z => hq (by rw [z]; exact List.mem_cons_of_mem _ (f3 List.mem_cons_self))) ⟨p, vs, _, A99, rfl, rfl, by rw [upd_ne np]; exact hpp, rfl, ?_⟩)
          refine f4 (Own.mkFlat upd_same (rws2.eraseIdx c)) fun v d A3 hn s r => r.step (Ex.refl _) fun q hq u _ hu => ?_
          rw [upd_ne fun z => hn q hq (by rw [z]; exact List.mem_cons_self)]
          exact hu
        · cases e
      · cases e
    · cases e
end
end Oh
namespace Oh
open PySem PySem.Spec PyProof.Rows L2 Evl
section
variable {X : Cx} (K : PySem.W.Frag)
theorem ixK (h : X.K = K := by rfl) : IxR X (rIx K) := by subst h; exact ix_seq
theorem slK (h : X.K = K := by rfl) : SlR X (rSlL K) := by subst h; exact sl_list
theorem listK (h : X.K = K := by rfl) : CallR X (.type "list") fun xs H Q => ∃ p ys, xs = [V.ref p] ∧ (SqL K H p ys ∨ SqT K H p ys) ∧ ∀ (l : Addr), H l = none → Q (V.ref l) (upd H l (HO.lst ys)) := by subst h; exact call_list_of
theorem lenK (h : X.K = K := by rfl) : CallR X (.builtin "len") fun xs H Q => (∃ p ys, xs = [V.ref p] ∧ (SqL K H p ys ∨ SqT K H p ys) ∧ Q (V.int ys.length) H) ∨ ∃ z, xs = [V.str z] ∧ z.length ≤ sizeLine ∧ Q (V.int z.length) H := by subst h; exact call_lenD
theorem inK (h : X.K = K := by rfl) : OpR X (compareOp .In) (rIn K false) := by subst h; exact op_in_seq
theorem ninK (h : X.K = K := by rfl) : OpR X (compareOp .NotIn) (rIn K true) := by subst h; exact op_notIn_seq
theorem eqK {k : Nat} (hr : Room k X.A) (h : X.K = K := by rfl) : OpR X (compareOp .Eq) (rEqD K) := by subst h; exact op_eqD hr.units
theorem isiK (h : X.K = K := by rfl) : CallR X (.builtin "isinstance") (rIsi K) := by subst h; exact call_isi
variable {e o l tg : Expr} {ta te tl : TE} {f : Str} {pos : Pos}
theorem fldK (he : PE X e ta) (hb : attributeBase e f X.env (eval e X.env) = eval e X.env) (h : X.K = K := by rfl) : PE X (.Attribute e f pos) (tFld K ta f) := by subst h; exact pe_fld he hb
theorem truthK (he : PE X e ta) (hs : ∀ (whole : Sem Value), PySem.isTrue e X.env whole = do
          let v ← whole
          standAt (Expr.pos e)
          holding [v] (truthy v)) (h : X.K = K := by rfl) : PT X e fun σ H Q => ta σ H fun x H' => ∃ k, TruV K x H' k ∧ Q k H' := by subst h; exact pt_truth he hs
theorem listIK (he : PE X l tl) (h : X.K = K := by rfl) : PI X tg l (iList K tl) := by subst h; exact pi_list he
theorem tupIK (he : PE X l tl) (h : X.K = K := by rfl) : PI X tg l (iTup K tl) := by subst h; exact pi_tup he
theorem tupGK {es : List Expr} {k : Nat} {t : TGs} {n : Nat} (hc : X.calm = true) (hp : PGs X es t) (h1 : (assignEach es X.env).length = n := by rfl) (h2 : (assignEach es X.env).findIdx? (fun x => x.fst) = none := by rfl) (h : X.K = K := by rfl) :
    PG X (.Tuple es k pos) (gTup K n t) := by subst h; exact pg_tup hc hp h1 h2
theorem bmK {es : List Expr} {to : TE} {t : TA} {name : Str} {apos cpos : Pos} {T id : String} {r : V → List V → Hp → VK → Prop} (pl : PlainAttrs T) (hs : Slot T name id) (ht : typeOf (Value.builtin id) = pure (Value.type "method_descriptor"))
    (hm : MtR X id r) (ho : PE X o to) (ha : PA X (e :: es) t) (h1 : attributeBase o name X.env (eval o X.env) = eval o X.env := by rfl)
    (h2 : ((((backTo cpos (starEach (e :: es) X.env)).all fun x => !x.fst) && (backToKw cpos (keywordEach [] X.env)).all fun x => x.fst.isSome) && decide (((e :: es).length + ([] : List Keyword).length + if ([] : List Keyword).isEmpty = true then 0 else 1) < 30)) = true := by rfl)
    (h3 : (apos.endLine == cpos.line) = true := by rfl) (h4 : starEach (e :: es) X.env = (false, eval e X.env) :: starEach es X.env := by rfl) (h5 : ((backTo cpos (starEach es X.env)).any fun x => x.fst) = false := by rfl) (h : X.K = K := by rfl) :
    PE X (.Call (.Attribute o name apos) (e :: es) [] cpos) (tBM K T r to t) := by subst h; exact pe_bm pl hs ht hm ho ha h1 h2 h3 h4 h5
end
/-! ### constants of the module -/
noncomputable def vD : D → V | .int i => .int i | .str s => .str s | .bl b => .bl b | _ => .non
noncomputable def GT (K : PySem.W.Frag) (mg : Str → Option Value) (x : Str) (a : Addr) (ds : List D) : Prop := mg x = some (.ref a) ∧ ds.all flatB = true ∧ ∃ (o : Obj) (its : Array Value) (n : Nat), K.lookup a = some o ∧ o.cls = .type "tuple" ∧ o.data = .seq its n ∧ its.size ≤ sizeLine ∧ Vals (ds.map vD) its.toList
noncomputable def GS (mg : Str → Option Value) (x : Str) (u : Value) (d : D) : Prop := mg x = some u ∧ RelV (vD d) u
section
variable {K : PySem.W.Frag} {cl : Cl} {S : List Sl}
theorem rep_vD {G : Hp} : ∀ {d : D}, flatB d = true → Rep K cl G (vD d) d
  | .non, _ => .non
  | .bl _, _ => .bl
  | .int _, _ => .int
  | .str _, _ => .str
theorem reps_vD {G : Hp} : ∀ {ds : List D}, ds.all flatB = true → Reps K cl G (ds.map vD) ds
  | [], _ => .nil
  | d :: ds, h => by
    rw [List.all_cons, Bool.and_eq_true] at h
    exact .cons (rep_vD h.1) (reps_vD h.2)
theorem ev_glt {mg : Str → Option Value} {x : Str} {a : Addr} {ds : List D} (g : GT K mg x a ds) : EV K cl (tC (.ref a)) S (some (.tup ds)) S := fun B G H σ I d e Q q => by
  cases e
  exact q _ G H I (Ex.refl _) (Ex2.refl _) (.tup (.inr g.2.2) (reps_vD g.2.1))
end
end Oh
namespace Oh
open PySem PySem.Spec PyProof.Rows L2
open GxR (TabB TabG Tabbed)

/-! ### the frame of a generator expression -/
noncomputable abbrev gEnv (X : Cx) (s : Shared) (scope : Scope) (code : Value) : Env := genEnv scope (cloFrom X.env.cells scope.names []) s.heap.objs.size code builtinsNs X.env
noncomputable abbrev gx (X : Cx) (s : Shared) (H : Hp) (scope : Scope) (code : Value) (fp : List Addr) (A' : Around) (pa : Addr × Obj) : Cx :=
  { X with s_0 := s, H_0 := H, A := A', env := gEnv X s scope code, outer := X.stack, stack := gEnv X s scope code :: X.stack, ex := fp, fn := fun _ => false, calm := true, pn := [pa], xe := fun _ _ => False }
section
variable {X : Cx} {pins : List (Addr × Obj)} {σ : L2.St} {H : Hp} {s : Shared}
theorem clo_old (I : Inv X pins σ H s) {scope : Scope} {own : List (Str × Nat)} (ok : BlkOk X.N X.env.scope scope own) {y : Str} {c : Addr} (h : (cloFrom X.env.cells scope.names []).lookup y = some c) : X.env.cells.lookup y = some c ∧ c < s.heap.objs.size := by
  rcases cloFrom_mem (PySem.mem_of_lookup h) with z | ⟨z, rfl⟩
  · exact nomatch z
  · have hv : X.env.kindOf y = some .cell ∨ X.env.kindOf y = some .free := ok.free _ z rfl
    obtain ⟨c', e⟩ := I.ok.has y hv
    rw [e]
    obtain ⟨v, q⟩ := I.cell y c' e
    exact ⟨rfl, q.lt⟩
theorem clo_has (I : Inv X pins σ H s) {scope : Scope} {own : List (Str × Nat)} (ok : BlkOk X.N X.env.scope scope own) {y : Str} (h : scope.names.lookup y = some .free) : ∃ c, (cloFrom X.env.cells scope.names []).lookup y = some c := by
  obtain ⟨c, e⟩ := mem_lookup (cloFrom_has (cells := X.env.cells) (acc := []) (PySem.mem_of_lookup h))
  exact ⟨c, e⟩
theorem gstart {scope : Scope} {own : List (Str × Nat)} {fp : List Addr} (I : Inv X pins σ H s) (ok : BlkOk X.N X.env.scope scope own) (nc : ∀ y ∈ scope.names, y.2 ≠ .cell) (hN : X.N.Nodup) (hfp : ∀ b ∈ fp, FpOk X pins H b ∧ b < s.heap.objs.size)
    {code : Value} {A' : Around} {a : Addr} {ob : Obj} {h5 : Heap} {g5 : Array GenState} {t5 : Nat} {m5 : Str → Option Value} (hA : A'.handled = none) (hF : A'.frames = some (gEnv X s scope code :: X.stack))
    (k5 : ∀ b o, s.heap.get? b = some o → h5.get? b = some o) (n5 : h5.Ns s.heap.objs.size m5) (ba : AllBare g5) (ha : s.heap.objs.size < a) (ea : h5.get? a = some ob) (da : ∀ v, ob.data ≠ .cell v) :
    Inv (gx X s H scope code fp A' (a, ob)) [] (L2.wipe σ (own.map (·.2))) H { s with heap := h5, gens := g5, toks := t5 } := by
  have old := fun {y : Str} {c : Addr} => clo_old (y := y) (c := c) I ok
  have kind : ∀ {y : Str} {k : NameKind}, scope.names.lookup y = some k → k ≠ .cell := fun {y k} h => nc _ (PySem.mem_of_lookup h)
  have fresh : ∀ {b : Addr}, s.heap.objs.size ≤ b → H b = none := fun h => I.hok.fresh h
  refine ⟨?ok, rfl, ba, Un.kept k5, ⟨m5, n5, fun i y v e1 e2 e3 => ?loc⟩, fun y c e => ?cell, fresh (Nat.le_refl _), fun y c e => I.freeC y c (old e).1, fun p hp => ?pin, I.hok.kept k5, (L2.wipe_length _ _).trans I.len⟩
  case ok =>
    refine { mod := I.ok.mod, kind := ok.kind, glob := I.ok.glob, blt := rfl, above := Nat.le_refl _, inj := fun y z c e1 e2 => I.ok.inj y z c (old e1).1 (old e2).1, has := fun y hy => ?_, cab := fun _ _ z => (nomatch z), hd := fun _ => hA, frames := hF, stk := .inr ⟨rfl, rfl⟩,
             exf := fun b hb => ⟨Nat.ne_of_lt (hfp b hb).2, fun y c e => (hfp b hb).1.2.2.2.2.1 y c (old e).1⟩, bs := I.bs, bsz := Nat.le_trans I.ok.bsz I.sz, noex := fun b o e hb => ?_, exfs := fun b hb z => ?_, funs := I.stack, frf := I.stkFree }
    · rcases hy with hy | hy
      · exact absurd rfl (kind (show scope.names.lookup y = some .cell from hy))
      · exact clo_has I ok hy
    · rcases (hfp b hb).1.2.2.2.1 with z | z
      · exact I.ok.noex b o e z
      · exact Nat.lt_irrefl _ (Nat.lt_of_lt_of_le (Heap.lt_size e) (Nat.le_trans I.ok.bsz z))
    · rcases List.mem_cons.mp (I.stkSub b z) with z | z
      · exact (hfp b hb).1.2.1 z
      · exact (hfp b hb).1.2.2.1 z
  case loc =>
    obtain ⟨e2, hne⟩ := wipe_some e2
    have hfr : scope.names.lookup y = some .free := by
      have no : ∀ k, scope.names.lookup y = some k → k = .local ∨ k = .cell → False := fun k hk hc => by
        rcases ok.own _ (PySem.mem_of_lookup hk) hc with z | z
        · obtain ⟨p, hp, rfl⟩ := List.mem_map.mp z
          exact hne (List.mem_map.mpr ⟨p, hp, nodup_ix hN (ok.ix p hp) e1⟩)
        · exact z (List.mem_of_getElem? e1)
      rcases e3 with e3 | e3 | e3
      · exact (no _ e3 (.inl rfl)).elim
      · exact (no _ e3 (.inr rfl)).elim
      · exact e3
    obtain ⟨c, hc⟩ := clo_has I ok hfr
    obtain ⟨hc0, _⟩ := old hc
    obtain ⟨m, hn, hl⟩ := I.loc
    have vk : X.env.scope.names.lookup y = some .cell ∨ X.env.scope.names.lookup y = some .free := ok.free _ (PySem.mem_of_lookup hfr) rfl
    obtain ⟨u, r, q⟩ := hl i y v e1 e2 (vk.elim (fun k => .inr (.inl k)) fun k => .inr (.inr k))
    refine ⟨u, r, .inr ⟨.inr hfr, c, hc, ?_⟩⟩
    rcases q with ⟨k, _⟩ | ⟨_, c', e', z⟩
    · have k : X.env.scope.names.lookup y = some .local := k
      rcases vk with k' | k' <;> rw [k] at k' <;> cases k'
    · rw [hc0] at e'; cases e'
      exact z.keeps k5
  case cell =>
    obtain ⟨v, z⟩ := I.cell y c (old e).1
    exact ⟨v, z.keeps k5⟩
  case pin =>
    have hp : p = (a, ob) := by simpa using hp
    subst hp
    refine ⟨ea, fresh (Nat.le_of_lt ha), Nat.ne_of_gt ha, fun z => ?_, da⟩
    rcases List.mem_cons.mp (I.stkSub a z) with z | z
    · rw [z] at ha; exact Nat.lt_irrefl _ (Nat.lt_trans ha I.lt)
    · exact I.nofs (Nat.le_of_lt ha) z
/-- the generators, the drawn, the tokens are nobody's business -/
theorem inv_gens (I : Inv X pins σ H s) {s' : Shared} (hh : ∀ b o, s.heap.get? b = some o → s'.heap.get? b = some o) (ho : s'.os = s.os) (hg : AllBare s'.gens) : Inv X pins σ H s' := by
  obtain ⟨h', g', d', t', o'⟩ := s'
  have e : o' = s.os := ho
  subst e
  obtain ⟨m, hn, _⟩ := id I.loc
  exact I.step (ch := []) (fun _ z => nomatch z) (fun b o _ _ _ q _ => hh b o q) (fun b o _ _ _ q _ => ⟨o.slots, hh b o q⟩) (fun _ _ _ _ n => n) (fun b o _ q => ⟨o, hh b o q⟩) (fun _ _ q => q) (fun _ _ _ q => q) (fun b ps q => ⟨#[], by rw [q]; simp⟩) (fun _ h => h.keeps hh) (I.hok.kept hh) hg
end
/-! ### its run -/
section
variable {X : Cx} {s : Shared} {H0 : Hp} {scope : Scope} {code : Value} {fp : List Addr} {A : Around} {pa : Addr × Obj}
/-- how all(..) is read, turn by turn -/
noncomputable def AllT (J : It) (g : TG) (te : TE) (vs : List Nat) (σ : L2.St) (Q : VK) (W : Nat → Nat → Hp → Prop) : Prop := ∀ i m H, W i m H →
  (J.stop i H ∧ Q (.bl true) H) ∨ (J.go i H ∧ ∀ x H', J.yld i H x H' → g x (L2.wipe σ vs) H' fun σ2 H2 => L2.wipe σ2 vs = L2.wipe σ vs ∧ te σ2 H2 fun y H3 => ∃ b, y = .bl b ∧ if b = true then ∃ m', m' < m ∧ W (i + 1) m' H3 else Q (.bl false) H3)
/-- between two turns -/
noncomputable def Zs (X' : Cx) (fp : List Addr) (tn : Nat → Heap → Prop) (σ' : L2.St) (W : Nat → Nat → Hp → Prop) (i m : Nat) (s : Shared) : Prop := ∃ H, Inv X' [] σ' H s ∧ tn i s.heap ∧ (∀ b ∈ fp, H b = none) ∧ W i m H
/-- at the end -/
noncomputable def Ze (X' : Cx) (σ' : L2.St) (Q : VK) (b : Bool) (s : Shared) : Prop := ∃ H, Inv X' [] σ' H s ∧ Q (.bl b) H
noncomputable def YG (X' : Cx) (pa : Addr × Obj) (fp : List Addr) (tn : Nat → Heap → Prop) (σ' : L2.St) (W : Nat → Nat → Hp → Prop) (Q : VK) : Protocol := fun n _ v s kap =>
  ∃ b, v = .bool b ∧ AllBare s.gens ∧ s.heap.get? pa.1 = some pa.2 ∧ s.heap.NoLimit ∧ if b = true then ∀ s'' : Shared, s''.heap = s.heap → s''.os = s.os → AllBare s''.gens → kap (.send .none) s'' else Ze X' σ' Q false s
noncomputable def RG (X' : Cx) (σ' : L2.St) (Q : VK) : GenEnd := fun _ _ r s => r = .ok .next ∧ Ze X' σ' Q true s
theorem sb {P : Program} {w : World} {A A' : Around} {R : GenEnd} {Y : Protocol} {n : Nat} {s0 s : Shared} {c : Code} {α β : Type} {m : Sem α} {K : α → Sem β} {K' : β → Sem PySem.Fin} {J' : Value → Sem PySem.Fin} {gd : Bool → Bool} {lv : List Value → List Value}
    (hA : A.over c [] = A') (h : wpAny (model P w) A' m (fun a s' => Seg (model P w) A R Y n s0 c ((K a).wrap K' J' gd lv) [] s') (fun _ _ => False) s) : Seg (model P w) A R Y n s0 c ((m >>= K).wrap K' J' gd lv) [] s := by
  subst hA
  exact seg_bind_wrap (wpAny_mono h (fun _ _ z => z) fun _ _ z => z.elim)
theorem sw {P : Program} {w : World} {A A' : Around} {R : GenEnd} {Y : Protocol} {n : Nat} {s0 s : Shared} {c : Code} {α : Type} {m : Sem α} {K' : α → Sem PySem.Fin} {J' : Value → Sem PySem.Fin} {gd : Bool → Bool} {lv : List Value → List Value}
    (hA : A.over c [] = A') (h : wpAny (model P w) A' m (fun a s' => Seg (model P w) A R Y n s0 c (K' a) [] s') (fun _ _ => False) s) : Seg (model P w) A R Y n s0 c (m.wrap K' J' gd lv) [] s := by
  subst hA
  exact seg_wrap (wpAny_mono h (fun _ _ z => z) fun _ _ z => z.elim)
theorem g_loop {elt tg iter : Expr} {gpos : Pos} {it : Addr} {tn : Nat → Heap → Prop} {J : It} {g : TG} {te : TE} {vs : List Nat} {σ : L2.St} {Q : VK} {W : Nat → Nat → Hp → Prop} {cenv : Env} {X' : Cx}
    (hX : X' = gx X s H0 scope code fp (A.over (.compLoop (.GeneratorExp elt [⟨tg, iter, [], 0⟩] scope gpos) 0 (.ref it) .none cenv) []) pa) (hE : cenv = gEnv X s scope code) (hco : scope.isCoroutine = false)
    (T : Turn X.prog X.w X.K tg J fp it tn) (pg : PG X' tg g) (pe : PE X' elt te) (hpa : ∀ b ∈ fp, b ≠ pa.1) (tr : AllT J g te vs σ Q W) :
    ∀ (n m i : Nat) (s0 s1 : Shared), m < n → Zs X' fp tn (L2.wipe σ vs) W i m s1 →
      Seg (model X.prog X.w) A (RG X' (L2.wipe σ vs) Q) (YG X' pa fp tn (L2.wipe σ vs) W Q) n s0 (.compLoop (.GeneratorExp elt [⟨tg, iter, [], 0⟩] scope gpos) 0 (.ref it) .none cenv)
        ((model X.prog X.w).den (.compLoop (.GeneratorExp elt [⟨tg, iter, [], 0⟩] scope gpos) 0 (.ref it) .none cenv)) [] s1 := by
  have eA : X'.A = A.over (.compLoop (.GeneratorExp elt [⟨tg, iter, [], 0⟩] scope gpos) 0 (.ref it) .none cenv) [] := by rw [hX]
  have eP : X'.prog = X.prog := by rw [hX]
  have eW : X'.w = X.w := by rw [hX]
  have eK : X'.K = X.K := by rw [hX]
  have eC : X'.calm = true := by rw [hX]
  have eE : X'.env = cenv := by rw [hX, hE]
  have eX : X'.ex = fp := by rw [hX]
  have eXe : X'.xe = fun _ _ => False := by rw [hX]
  have eN : X'.N = X.N := by rw [hX]
  have stat : ∀ {σ' : L2.St} {H' : Hp} {s' : Shared}, Inv X' [] σ' H' s' → (∀ b ∈ fp, H' b = none) → (∀ b ∈ fp, b ≠ pa.1) → ∀ b ∈ fp, FpOk X' [] H' b := fun {σ' H' s'} I' hn hpa b hb => by
    have hb' : b ∈ X'.ex := by rw [eX]; exact hb
    refine ⟨hn b hb, (I'.ok.exf b hb').1, I'.ok.exfs b hb', .inl hb', (I'.ok.exf b hb').2, fun p hp => ?_⟩
    have hp : p = pa := by
      have z : p ∈ X'.pn ++ [] := hp
      rw [hX] at z
      simpa using z
    rw [hp]; exact Ne.symm (hpa b hb)
  intro n
  induction n with
  | zero => intro m i s0 s1 h; omega
  | succ n ih =>
    intro m i s0 s1 hm ⟨H1, I1, t1, n1, w1⟩
    have hh : (A.over (.compLoop (.GeneratorExp elt [⟨tg, iter, [], 0⟩] scope gpos) 0 (.ref it) .none cenv) []) = X'.A := eA.symm
    have back : ∀ {σ8 : L2.St} {H8 : Hp} {s8 : Shared} {pl : List (Addr × Obj)}, L2.wipe σ8 vs = L2.wipe σ vs → Inv X' ([] ++ pl) σ8 H8 s8 → Inv X' [] (L2.wipe σ vs) H8 s8 := fun {σ8 H8 s8 pl} hw I8 =>
      (I8.unpinned (pins := [])).weak (by rw [← hw, L2.wipe_length]) fun j v e => by
        rw [← hw] at e
        exact (wipe_some e).1
    show Seg _ A _ _ (n + 1) s0 _ ((compTurn (.GeneratorExp elt [⟨tg, iter, [], 0⟩] scope gpos) 0 (.ref it) .none cenv).onRaise (leaving cenv)) [] s1
    rw [compTurn_gen, Sem.onRaise_eq_wrap]
    refine seg_bind_wrap (wpAny_standAt ?_)
    rw [← eP, ← eW]
    rcases tr i m H1 w1 with ⟨stop, q⟩ | ⟨go, step⟩
    · have td := T.done X' eP eW eK eC i [] s1 _ H1 (fun _ _ => False) I1 (stat I1 n1 hpa) t1 stop
      rw [← eP, ← eW] at td
      refine sb hh (wpAny_mono td (fun r s6 ⟨hr, I6⟩ => ?_) fun _ _ z => z)
      subst hr
      exact seg_end (.ok .next) ⟨rfl, H1, I6, q⟩
    · have ti := T.item X' eP eW eK eC i [] s1 _ H1 (fun _ _ => False) I1 (stat I1 n1 hpa) t1 go
      rw [← eP, ← eW] at ti
      refine sb hh (wpAny_mono ti (fun r s6 ⟨u, hr, h6⟩ => ?_) fun _ _ z => z)
      subst hr
      refine sb hh (wpAny_mono h6 (fun _ s7 ⟨x, H7, I7, r7, y7, t7, n7⟩ => ?_) fun _ _ z => z)
      have I7' := I7.pinned (stat I7 n7 hpa) (T.obj _ _ t7)
      have ag := pg.run _ s7 _ H7 x u _ I7' r7 (step x H7 y7)
      rw [eE, eXe] at ag
      refine sb hh (wpAny_mono ag (fun _ s8 ⟨σ8, H8, I8, hw8, q8⟩ => ?_) fun _ _ z => z)
      refine sb hh (wpAny_tests_nil ?_)
      have hy : ∀ v, yieldOut cenv v = yieldValue v := fun v => by
        have e : cenv.scope.isCoroutine = false := by rw [hE]; exact hco
        simp only [yieldOut, e, Bool.false_eq_true, if_false]
      simp only [if_true, hy]
      rw [Sem.bind_eq_wrap', Sem.bind_eq_wrap', Sem.wrap_wrap, Sem.wrap_wrap]
      have ee := pe.run _ s8 σ8 H8 _ I8 q8
      rw [eE, eXe] at ee
      refine sw hh (wpAny_mono ee (fun y s9 ⟨yv, H9, I9, r9, b, hb, q9⟩ => ?_) fun _ _ z => z)
      subst hb
      have I9' := back hw8 I9
      have pin9 : ∀ b ∈ fp, ∀ o, s7.heap.get? b = some o → s9.heap.get? b = some o ∧ H9 b = none := fun b hb o e =>
        let z := I9.pin (b, o) (List.mem_append_right _ (List.mem_append_right _ (mem_pinsAt hb e)))
        ⟨z.1, z.2.1⟩
      refine seg_at (seg_yield rfl rfl rfl ⟨b, r9, I9.bare, (I9.pin pa (List.mem_append_left _ (by rw [hX]; exact List.mem_cons_self))).1, I9.nolimit, ?_⟩)
      cases b with
      | false => exact ⟨H9, I9', q9⟩
      | true =>
        obtain ⟨m', hm', w'⟩ := q9
        intro s'' h1 h2 h3
        have hk : ∀ b o, s9.heap.get? b = some o → s''.heap.get? b = some o := fun b o e => by rw [h1]; exact e
        have := ih m' (i + 1) s'' s'' (by omega) ⟨H9, inv_gens I9' hk h2 h3, T.keep _ _ _ t7 fun b hb o e => hk b o (pin9 b hb o e).1, fun b hb => ?_, w'⟩
        · rw [← eP, ← eW] at this
          exact seg_again rfl this
        · obtain ⟨o, e, _⟩ := T.obj _ _ t7 b hb
          exact (pin9 b hb o e).2
theorem g_start {elt tg iter : Expr} {gpos : Pos} {it : Addr} {tn : Nat → Heap → Prop} {J : It} {cenv : Env} {n : Nat} {s0 s1 : Shared} {R : GenEnd} {Y : Protocol}
    (T : Turn X.prog X.w X.K tg J fp it tn) (t1 : tn 0 s1.heap)
    (loop : Seg (model X.prog X.w) A R Y n s0 (.compLoop (.GeneratorExp elt [⟨tg, iter, [], 0⟩] scope gpos) 0 (.ref it) .none cenv) ((model X.prog X.w).den (.compLoop (.GeneratorExp elt [⟨tg, iter, [], 0⟩] scope gpos) 0 (.ref it) .none cenv)) [] s1) :
    Seg (model X.prog X.w) A R Y n s0 (.compStart (.GeneratorExp elt [⟨tg, iter, [], 0⟩] scope gpos) 0 (.ref it) .none cenv) ((model X.prog X.w).den (.compStart (.GeneratorExp elt [⟨tg, iter, [], 0⟩] scope gpos) 0 (.ref it) .none cenv)) [] s1 := by
  show Seg _ A _ _ n s0 _ ((compStart (.GeneratorExp elt [⟨tg, iter, [], 0⟩] scope gpos) 0 (.ref it) .none cenv).onRaise (leaving cenv)) [] s1
  unfold compStart
  rw [Sem.onRaise_eq_wrap]
  show Seg _ A _ _ n s0 _ ((ask >>= _).wrap _ _ _ _) [] s1
  refine seg_bind_wrap (wpAny_askSetting ?_)
  split
  · exact seg_again rfl loop
  · first
      | exact seg_bind_wrap (wpAny_rule (seg_bind_wrap (wpAny_standAt (seg_bind_wrap (T.self _ 0 s1 _ _ t1 (seg_again rfl loop))))))
      | (refine seg_bind_wrap (wpAny_rule ?_); show Seg _ A _ _ n s0 _ ((standAt iter.pos >>= _).wrap _ _ _ _) [] s1; exact seg_bind_wrap (wpAny_standAt (seg_bind_wrap (T.self _ 0 s1 _ _ t1 (seg_again rfl loop)))))
end
/-! ### who asks it: all(..) -/
theorem bare_set {s : Shared} {g : Nat} {x : GenState} (h : AllBare s.gens) (hx : x.bare = true) : AllBare (s.setGen g x).gens := fun y hy => by
  obtain ⟨i, hi, rfl⟩ := Array.mem_iff_getElem.mp hy
  have hi' : i < s.gens.size := by simpa [Shared.setGen] using hi
  by_cases e : g = i
  · subst e
    have : (s.setGen g x).gens[g] = x := by simp [Shared.setGen]
    rw [this]; exact hx
  · have : (s.setGen g x).gens[i] = s.gens[i] := by
      simp only [Shared.setGen]
      exact Array.getElem_setIfInBounds_ne _ e
    rw [this]; exact h _ (Array.getElem_mem hi')
section
variable {P : Program} {w : World} {A0 : Around} {X' : Cx} {pa : Addr × Obj} {fp : List Addr} {tn : Nat → Heap → Prop} {σ' : L2.St} {W : Nat → Nat → Hp → Prop} {Q : VK} {g : Nat}
noncomputable def IsG (pa : Addr × Obj) (g : Nat) : Prop := pa.2.cls = .type "generator" ∧ (∃ nm qn, pa.2.data = .fields #[.int (g : Int) 0, nm, qn]) ∧ pa.2.slots = #[]
noncomputable def GAt (P : Program) (w : World) (A0 : Around) (X' : Cx) (pa : Addr × Obj) (fp : List Addr) (tn : Nat → Heap → Prop) (σ' : L2.St) (W : Nat → Nat → Hp → Prop) (Q : VK) (g : Nat) (n : Nat) (s : Shared) : Prop :=
  s.heap.get? pa.1 = some pa.2 ∧ s.heap.NoLimit ∧ AllBare s.gens ∧ ∃ gs, s.gens[g]? = some gs ∧ ∀ s'' : Shared, s''.heap = s.heap → s''.os = s.os → AllBare s''.gens →
    gs.Goes (model P w) A0.in1.in1 (RG X' σ' Q) (YG X' pa fp tn σ' W Q) n (.send .none) s''
theorem all_loop {R : Result → Shared → Prop} (hG : IsG pa g) (hd : A0.handled = none) (hdp : A0.depth < recursionLimit) (hR : ∀ b s1, Ze X' σ' Q b s1 → R (.ok (.ret (.bool b))) s1) :
    ∀ (n : Nat) (s : Shared), GAt P w A0 X' pa fp tn σ' W Q g n s → codeAny (model P w) A0 (.builtin "all.loop" ⟨[.ref pa.1], []⟩) R s := by
  have moved : ∀ {b : Bool} {s1 s2 : Shared}, Ze X' σ' Q b s1 → (∀ b o, s1.heap.get? b = some o → s2.heap.get? b = some o) → s2.os = s1.os → AllBare s2.gens → Ze X' σ' Q b s2 := fun ⟨H, I, q⟩ h1 h2 h3 => ⟨H, inv_gens I h1 h2 h3, q⟩
  intro n
  induction n with
  | zero =>
    intro s ⟨hp, hl, hb, gs, hgs, hgo⟩
    have hlt : g + 1 ≤ s.gens.size := (Array.getElem?_eq_some_iff.mp hgs).1
    have hg : s.heap.IsGen pa.1 g := by obtain ⟨h1, ⟨nm, qn, h2⟩, h3⟩ := hG; exact ⟨_, nm, qn, hp, h1, h2, h3⟩
    refine codeAny_builtin F.entry_all_loop ?_
    rw [Around.under_plainId F.plain_all_loop _]
    show wpAny _ A0.in1 (pyNext (.ref pa.1) >>= _) _ _ s
    refine wpAny_bind (wpAny_pyNext_genexpQ (A := A0.in1) (n := 0) (P := fun _ _ s1 => Ze X' σ' Q true s1) (Y := YG X' pa fp tn σ' W Q) hd hl hdp hg hgs (hgo _ rfl rfl (bare_set hb rfl)) (fun v s1 gs' hbr hv => ?_) (fun s1 hp' h' hk => ?_))
    · obtain ⟨b, rfl, hb1, hp1, hl1, hc⟩ := hv
      refine wpAny_bind (wpAny_holding (wpAny_truthy_bool ?_))
      refine wpAny_bind (wpAny_letGo ?_)
      cases b with
      | true => exact (hc s1 rfl rfl hb1).elim
      | false =>
        simp only [Bool.false_eq_true, if_false]
        exact wpAny_bind (wpAny_rule (wpAny_pure (hR false _ (moved hc (fun _ _ e => e) rfl (bare_set hb1 hbr)))))
    · exact wpAny_bind (wpAny_rule (wpAny_pure (hR true _ (by
        obtain ⟨H, I, q⟩ := id hp'
        exact moved hp' hk rfl (bare_set I.bare rfl)))))
  | succ n ih =>
    intro s ⟨hp, hl, hb, gs, hgs, hgo⟩
    have hlt : g + 1 ≤ s.gens.size := (Array.getElem?_eq_some_iff.mp hgs).1
    have hg : s.heap.IsGen pa.1 g := by obtain ⟨h1, ⟨nm, qn, h2⟩, h3⟩ := hG; exact ⟨_, nm, qn, hp, h1, h2, h3⟩
    refine codeAny_builtin F.entry_all_loop ?_
    rw [Around.under_plainId F.plain_all_loop _]
    show wpAny _ A0.in1 (pyNext (.ref pa.1) >>= _) _ _ s
    refine wpAny_bind (GenW.wpAny_gsz hlt (wpAny_pyNext_genexpQ (A := A0.in1) (n := n + 1) (P := fun _ _ s1 => Ze X' σ' Q true s1) (Y := YG X' pa fp tn σ' W Q) hd hl hdp hg hgs (hgo _ rfl rfl (bare_set hb rfl)) (fun v s1 gs' hbr hv hsz => ?_) (fun s1 hp' h' hk hsz => ?_)))
    · obtain ⟨b, rfl, hb1, hp1, hl1, hc⟩ := hv
      refine wpAny_bind (wpAny_holding (wpAny_truthy_bool ?_))
      refine wpAny_bind (wpAny_letGo ?_)
      cases b with
      | true =>
        simp only [if_true]
        refine wpAny_pure ⟨plainId_quiet F.plain_all_loop _, ih _ ⟨hp1, hl1, bare_set hb1 hbr, gs', ?_, fun s'' h1 h2 h3 => hc s'' h1 h2 h3⟩⟩
        have hz : g < s1.gens.size := by
          have := hsz
          simp only [Shared.setGen, Array.size_setIfInBounds] at this
          exact this
        simp [Shared.setGen, hz]
      | false =>
        simp only [Bool.false_eq_true, if_false]
        exact wpAny_bind (wpAny_rule (wpAny_pure (hR false _ (moved hc (fun _ _ e => e) rfl (bare_set hb1 hbr)))))
    · exact wpAny_bind (wpAny_rule (wpAny_pure (hR true _ (by
        obtain ⟨H, I, q⟩ := id hp'
        exact moved hp' hk rfl (bare_set I.bare rfl)))))
theorem call_all {s : Shared} {Qf : Value → Shared → Prop} {E : Value → Shared → Prop} {n : Nat} (hG : IsG pa g) (hd : A0.handled = none) (hdp : A0.depth < recursionLimit) (h : GAt P w A0 X' pa fp tn σ' W Q g n s) (hQ : ∀ b s1, Ze X' σ' Q b s1 → Qf (.bool b) s1) :
    wpAny (model P w) A0 (call (.builtin "all") [.ref pa.1]) Qf E s := by
  refine call_function_tree F.kind_all F.plain_all F.entry_all (F.args_all1 _) ?_
  unfold Builtin.«all»
  refine wpAny_bind (m := oneArg "all" _) (wpAny_pure ?_)
  have hg : s.heap.IsGen pa.1 g := by obtain ⟨h1, ⟨nm, qn, h2⟩, h3⟩ := hG; exact ⟨_, nm, qn, h.1, h1, h2, h3⟩
  refine wpAny_bind (wpAny_pyIter_gen hg ?_)
  exact wpAny_pure ⟨plainId_quiet F.plain_all_loop _, all_loop hG hd hdp (fun b s1 z => hQ b s1 z) n s h⟩
end
/-! ### the rule -/
noncomputable def tAllG (P : Addr) (wi : TI) (g : TG) (te : TE) (vs : List Nat) : TE := fun σ H Q => wi σ H fun J H1 => TabG H1 P ∧ ∀ H2, Tabbed P H1 H2 → ∃ W : Nat → Nat → Hp → Prop, (∃ m, W 0 m H2) ∧ AllT J g te vs σ Q W
structure GScp (X : Cx) (scope : Scope) (own : List (Str × Nat)) : Prop where
  ok : BlkOk X.N X.env.scope scope own
  nc : ∀ y ∈ scope.names, y.2 ≠ .cell
  co : scope.isCoroutine = false
  dot : scope.names.lookup (".0" : Str) = some NameKind.local
theorem all_boot : bootBuiltins "all" = some (.builtin "all") := by decide +kernel
theorem pe_allG {X : Cx} {k : Nat} {c P : Addr} {elt tg iter : Expr} {scope : Scope} {own : List (Str × Nat)} {gpos p pos : Pos} {wi : TI} {g : TG} {te : TE}
    (hr : Room (k + 4) X.A) (hgl : Gl X "all") (hm : X.mg "all" = none) (TB : TabB X.base X.mg c P) (hcode : X.env.code = .ref c) (hN : X.N.Nodup) (gs : GScp X scope own) (hi : PI X tg iter wi)
    (hg : ∀ (s : Shared) (H : Hp) (code : Value) (fp : List Addr) (A' : Around) (pa : Addr × Obj), PG (gx X s H scope code fp A' pa) tg g) (he : ∀ (s : Shared) (H : Hp) (code : Value) (fp : List Addr) (A' : Around) (pa : Addr × Obj), Room k A' → PE (gx X s H scope code fp A' pa) elt te)
    (hs : ∀ v, genFold iter X.env v = pure v) (h0 : starEach [.GeneratorExp elt [⟨tg, iter, [], 0⟩] scope gpos] X.env = (false, eval (.GeneratorExp elt [⟨tg, iter, [], 0⟩] scope gpos) X.env) :: starEach [] X.env := by rfl) :
    PE X (.Call (.Name "all" p) [.GeneratorExp elt [⟨tg, iter, [], 0⟩] scope gpos] [] pos) (tAllG P wi g te (own.map (·.2))) := by
  refine ⟨fun pins s σ H Q I h => ?_⟩
  refine wpAny_Call_Name_kw (ld_blt I hgl hm all_boot ?_)
  refine PyProof.Rows.callWith_builtin1 ?_ h0 (by rfl)
  rw [h0]
  show wpAny _ _ (spliced ((false, eval (.GeneratorExp elt [⟨tg, iter, [], 0⟩] scope gpos) X.env) :: backTo pos (starEach [] X.env))) _ _ s
  have hfree : ∀ y ∈ scope.names, y.2 = .free → ∃ c, X.env.cells.lookup y.1 = some c := fun y hy e => I.ok.has _ (gs.ok.free y hy e)
  refine Calls.spliced_cons (wpAny_GeneratorExp_make gs.co (closure_ok hfree) gs.nc gs.dot gs.ok.kind hr.depth ?_ hs)
  refine thn (hi.run pins s σ H _ I h) fun xv s1 hx => thn hx fun itv s2 h2 => ?_
  obtain ⟨it, fp, tn, J, H2, rfl, I2, T, st2, f2, ⟨ps, hP, ht⟩, q⟩ := h2
  refine ⟨I2.nolimit, ?_⟩
  have hPs : s2.heap.get? P = some { cls := .none, data := .fields ps } := I2.hok P _ hP
  have cd : PySem.W.CodeHd s2.heap c P := TB.code.keeps fun b u e => I2.bk b u e
  have szf : ∀ b ∈ fp, b < s2.heap.objs.size := fun b hb => by
    obtain ⟨o, e, _⟩ := T.obj _ _ st2 b hb
    exact Heap.lt_size e
  have cont : ∀ (code : Value) (h3 : Heap) (tk : Nat) (more : Array Value), Inv X pins σ (upd H2 P (.tbl (ps ++ more))) { s2 with heap := h3, toks := tk } → (∀ b o, b ≠ P → s2.heap.get? b = some o → h3.get? b = some o) → s2.heap.objs.size ≤ h3.objs.size → TriplesOk (ps ++ more).toList →
      wpAny (model X.prog X.w) X.A (builtinsFor X.env.globals X.env.builtins) (fun bi s₄ =>
        ∀ h', h'.Ns s₄.heap.objs.size (fun y => if y = ".0" then some (.ref it) else none) → Heap.SameBut s₄.heap.objs.size (s₄.heap.push { cls := .type "frame", data := .dict #[] }) h' →
          wpAny (model X.prog X.w) X.A (spliced (backTo pos (starEach [] X.env))) (fun vs s₅ => wpAny (model X.prog X.w) X.A (call (.builtin "all") (.ref h'.objs.size :: vs)) (EP X pins σ Q) X.xe s₅) X.xe { s₄ with
            gens := s₄.gens.push (.fresh (.compStart (.GeneratorExp elt [⟨tg, iter, [], 0⟩] scope gpos) 0 (.ref it) .none (genEnv scope (cloFrom X.env.cells scope.names []) s₄.heap.objs.size code bi X.env))),
            toks := s₄.toks + 1 + 1 + 1,
            heap := h'.push { cls := .type "generator", data := .fields #[.int s₄.gens.size 0, .str "<genexpr>" (s₄.toks + 1), .str (X.env.qual ++ "<genexpr>") (s₄.toks + 1 + 1)] } }) X.xe { s2 with heap := h3, toks := tk } := by
    intro code h3 tk more I3 k3 z3 ht3
    generalize hs3 : ({ s2 with heap := h3, toks := tk } : Shared) = s3 at I3
    generalize hH3 : upd H2 P (.tbl (ps ++ more)) = H3 at I3
    have e3 : s3.heap = h3 := by rw [← hs3]
    obtain ⟨W, ⟨m0, w0⟩, tr⟩ := q H3 ⟨⟨ps ++ more, by rw [← hH3, upd_same], ht3⟩, fun b hb => by rw [← hH3, upd_ne hb]⟩
    obtain ⟨bm, ob, b1, b2, b3, b4, b5, b6, b7, b8⟩ := TB.bm
    have npf : ∀ b ∈ fp, b ≠ P := fun b hb z => by
      have := (f2 b hb).1
      rw [z, hP] at this; cases this
    have f3 : ∀ b ∈ fp, FpOk X pins H3 b ∧ b < s3.heap.objs.size := fun b hb => ⟨⟨by rw [← hH3, upd_ne (npf b hb)]; exact (f2 b hb).1, (f2 b hb).2⟩, by rw [e3]; exact Nat.lt_of_lt_of_le (szf b hb) z3⟩
    have t3 : tn 0 s3.heap := T.keep _ _ _ st2 fun b hb o e => by rw [e3]; exact k3 b o (npf b hb) e
    refine wpAny_builtinsFor (m := X.mg) (by rw [I3.ok.glob]; exact I3.mod.glob.keeps I3.bk) b1 b2 (I3.bk _ _ b5) b6 b7 b8 ?_
    intro h' hn' hs'
    have sz' : h'.objs.size = s3.heap.objs.size + 1 := by rw [hs'.1, Heap.size_push]
    generalize hob : ({ cls := .type "generator", data := .fields #[.int s3.gens.size 0, .str "<genexpr>" (s3.toks + 1), .str (X.env.qual ++ "<genexpr>") (s3.toks + 1 + 1)] } : Obj) = gob
    have k5 : ∀ b o, s3.heap.get? b = some o → (h'.push gob).get? b = some o := fun b o e => Heap.get?_push_of_some _ (hs'.extBut b o (Nat.ne_of_lt (Heap.lt_size e)) (Heap.get?_push_of_some _ e))
    have ga : (h'.push gob).get? h'.objs.size = some gob := Heap.get?_push_size _ (by rw [← hob]; rfl)
    have bareP : AllBare (s3.gens.push (.fresh (.compStart (.GeneratorExp elt [⟨tg, iter, [], 0⟩] scope gpos) 0 (.ref it) .none (gEnv X s3 scope code)))) := fun y hy => by
      rcases Array.mem_push.mp hy with z | z
      · exact I3.bare y z
      · rw [z]; rfl
    have hA3 : (X.A.in1.in1.over (.compLoop (.GeneratorExp elt [⟨tg, iter, [], 0⟩] scope gpos) 0 (.ref it) .none (gEnv X s3 scope code)) []) = X.A.in1.in1.deeper (gEnv X s3 scope code) := by
      first
        | rfl
        | simp [Around.over, Around.deeper, marksOver, frameCount, unitsOf, envsOf, guardsOf, pushEnvs, pushGuards, Code.envs, Code.env?, Code.isFrame, Code.guards, Code.isGuard, Code.weight, Code.frames, Code.isCreation, Code.isCaller, Code.cUnits]
    have hd3 : (X.A.in1.in1.deeper (gEnv X s3 scope code)).handled = none := hr.hd
    have hf3 : (X.A.in1.in1.deeper (gEnv X s3 scope code)).frames = some (gEnv X s3 scope code :: X.stack) := by
      show X.A.frames.map (fun x => gEnv X s3 scope code :: x) = _
      rw [I3.ok.frames]; rfl
    have room : Room k (X.A.in1.in1.deeper (gEnv X s3 scope code)) := ((hr.mono (by omega : k + 3 ≤ k + 4)).in1.in1).deeper (gEnv X s3 scope code)
    have lt5 : s3.heap.objs.size < h'.objs.size := by rw [sz']; exact Nat.lt_succ_self _
    have IX := gstart (t5 := s3.toks + 1 + 1 + 1) I3 gs.ok gs.nc hN f3 hd3 hf3 k5 (hn'.push _) bareP lt5 ga (by rw [← hob]; intro v z; cases z)
    generalize hX' : gx X s3 H3 scope code fp (X.A.in1.in1.deeper (gEnv X s3 scope code)) (h'.objs.size, gob) = X' at IX
    refine Calls.spliced_nil ?_
    refine call_all (P := X.prog) (w := X.w) (A0 := X.A) (X' := X') (pa := (h'.objs.size, gob)) (fp := fp) (tn := tn) (σ' := L2.wipe σ (own.map (·.2))) (W := W) (Q := Q) (g := s3.gens.size) (n := m0 + 1) ⟨by rw [← hob], by rw [← hob]; exact ⟨_, _, rfl⟩, by rw [← hob]⟩ hr.hd hr.depth ?_ fun b s6 ⟨H6, I6, q6⟩ => ?_
    · refine ⟨ga, I3.nolimit.keeps k5, bareP, _, Array.getElem?_push_size .., fun s'' h1 h2 h3 => ⟨rfl, ?_⟩⟩
      have hk : ∀ b o, (h'.push gob).get? b = some o → s''.heap.get? b = some o := fun b o e => by rw [h1]; exact e
      have I7 : Inv X' [] (L2.wipe σ (own.map (·.2))) H3 s'' := inv_gens IX hk h2 h3
      have t7 : tn 0 s''.heap := T.keep _ _ _ t3 fun b _ o e => hk b o (k5 b o e)
      refine g_start T t7 ?_
      refine g_loop (X := X) (s := s3) (H0 := H3) (scope := scope) (code := code) (fp := fp) (A := X.A.in1.in1) (pa := (h'.objs.size, gob)) (J := J) (g := g) (te := te) (vs := own.map (·.2)) (σ := σ) (Q := Q) (W := W) (X' := X') (by rw [hA3, ← hX']) rfl gs.co T ?_ ?_ (fun b hb => Nat.ne_of_lt (Nat.lt_trans (f3 b hb).2 lt5)) tr (m0 + 1) m0 0 s'' s'' (Nat.lt_succ_self _) ⟨H3, I7, t7, fun b hb => (f3 b hb).1.1, w0⟩
      · rw [← hX']; exact hg s3 H3 code fp _ _
      · rw [← hX']; exact he s3 H3 code fp _ _ room
    · rw [← hX'] at I6
      refine ⟨.bl b, H6, I3.call' (ch := fp) I6.os I6.base I6.hok I6.bare fun y hy => ⟨(f3 y hy).1.2.2.2.1, (f3 y hy).1.2.1, (f3 y hy).1.2.2.2.2.1, (f3 y hy).1.2.2.2.2.2⟩, rfl, q6⟩
  cases hf : codeAmong gpos ps.toList with
  | none =>
    refine wpAny_genexprCodeX hcode (cd.code hPs ht) (cd.tab hPs) hf fun c' h' tk hx hge hlt hco' _ htab' _ => ?_
    obtain ⟨o1, vs, f1, tf, fl, tgg, inF, tx, tt, op, _, _, _, _, _, _, _, _, _, htr, _⟩ := hco'
    exact cont _ h' tk _ (GxR.inv_tab (g' := s2.gens) (d' := s2.drawn) I2 hP (fun b o hb e => hx b o hb e) htab'.2 I2.bare) (fun b o hb e => hx b o hb e) (Nat.le_trans hge (Nat.le_of_lt hlt)) htr
  | some cv =>
    refine wpAny_genexprCode_hit hcode (cd.code hPs ht) hf ?_
    have := cont cv s2.heap s2.toks #[] (by rw [Array.append_empty, show upd H2 P (.tbl ps) = H2 by funext b; unfold upd; split <;> simp_all]; exact I2) (fun b o _ e => e) (Nat.le_refl _) (by rw [Array.append_empty]; exact ht)
    exact this
end Oh
namespace Oh
open PySem PySem.Spec PyProof.Rows L2 Evl
open GxR (TabB TabG Tabbed)
noncomputable def allD (k : D → Option D) : List D → Option D
  | [] => some (.bl true)
  | x :: xs => (k x).bind fun y => (asB y).bind fun b => if b = true then allD k xs else some (.bl false)
section
variable {K : PySem.W.Frag} {cl : Cl} {S S1 : List Sl} {te : TE}
theorem Nxt.table {G H H2 : Hp} {P : Addr} (gh : Ex G H) (hP : TabG H P ∧ G P = none) (t : Tabbed P H H2) : Nxt G H G H2 := by
  obtain ⟨⟨ps, e, ok⟩, gn⟩ := hP
  obtain ⟨⟨ps2, e2, ok2⟩, off⟩ := t
  refine ⟨Ex.refl _, ⟨fun a u n h => ?_, fun a qs h => ?_⟩, fun a u h => ?_, fun _ h => .inl h⟩
  · by_cases z : a = P
    · subst z
      rw [e] at h; cases h
      exact absurd rfl (n.nt ps)
    · rw [off a z]; exact h
  · by_cases z : a = P
    · subst z
      exact ⟨ps2, e2, fun _ => ok2⟩
    · exact ⟨qs, by rw [off a z]; exact h, id⟩
  · by_cases z : a = P
    · subst z; rw [gn] at h; cases h
    · rw [off a z]; exact gh a u h
theorem ev_allG {P : Addr} {wi : TI} {g : TG} {mi : Option (List D)} {vs : List Nat} {γ' : Type} {f : D → Option γ'} {st : γ' → List Sl → List Sl} {ke : γ' → Option D} {S4 : γ' → List Sl} (hP : P ∈ cl.t) (hi : IV K cl wi S mi S1) (hg : GV K cl g f st) (hw : GW g vs)
    (he : ∀ c, EV K cl te (st c (noOw (wipeS S1 vs))) (ke c) (S4 c)) : EV K cl (tAllG P wi g te vs) S (mi.bind fun xs => allD (fun x => (f x).bind fun c => ke c) xs) S1 := fun B G H σ I z e Q q => by
  obtain ⟨xs, ex, e⟩ := bind_some e
  refine hi B G H σ I xs ex _ fun J G1 H1 I1 g1 h1 ok => ⟨(I1.tab P hP).1, fun H2 tb => ?_⟩
  have n2 := Nxt.table I1.nxt.gh (I1.tab P hP) tb
  have I2 := I1.step n2
  refine ⟨fun i n H' => n + i = xs.length ∧ ∃ G', allD (fun x => (f x).bind fun c => ke c) (xs.drop i) = some z ∧ Nxt G1 H2 G' H', ⟨xs.length, rfl, G1, e, Nxt.refl I2.nxt.gh⟩, ?_⟩
  rintro i n H' ⟨hn, G', er, n1⟩
  have I' := I2.step n1
  by_cases hl : i < xs.length
  · have hx : xs[i]? = some xs[i] := List.getElem?_eq_getElem hl
    rw [drop_cons hx] at er
    obtain ⟨y, ey, er⟩ := bind_some er
    obtain ⟨b, eb, er⟩ := bind_some er
    obtain ⟨c, ec, ey⟩ := bind_some ey
    refine .inr ⟨ok.go i G' H' hl n1.g I'.nxt.gh, fun v H3 hy => ?_⟩
    obtain ⟨G2, nx, rv⟩ := ok.yld i _ G' H' v H3 hx n1.g I'.nxt.gh hy
    have I3 := I'.step nx
    have IW := (I3.wipe vs).own
    refine hw v (L2.wipe σ vs) H3 (fun σ3 H4 => Sig K cl ⟨G2, H3⟩ G2 H3 (st c (noOw (wipeS S1 vs))) σ3 ∧ H4 = H3) _ (hg ⟨G2, H3⟩ G2 H3 (L2.wipe σ vs) _ IW v _ c rv ec _ fun σ3 I4 => ⟨I4, rfl⟩) fun σ3 H4 hj hlen ⟨I4, e4⟩ => ?_
    subst e4
    refine ⟨(wipe_congr hlen hj).trans (wipe_congr (by rw [L2.wipe_length]) fun j hj => wipe_out2 hj), ?_⟩
    refine he c ⟨G2, H4⟩ G2 H4 σ3 I4 y ey _ fun w G5 H5 I5 g5 h5 rw5 => ⟨b, rep_B rw5 eb, ?_⟩
    have n5 : Nxt G1 H2 G5 H5 := n1.trans (nx.trans I5.nxt)
    cases b with
    | true => exact ⟨n - 1, by omega, by omega, G5, er, n5⟩
    | false =>
      have er : some (D.bl false) = some z := er
      cases er
      exact q _ G5 H5 (I2.step n5) (g1.trans n5.g) (h1.trans (n2.h.trans n5.h)) .bl
  · refine .inl ⟨?_, ?_⟩
    · have e1 : i = xs.length := by omega
      rw [e1]; exact ok.stop G' H' n1.g I'.nxt.gh
    · rw [drop_end (by omega)] at er
      have er : some (D.bl true) = some z := er
      cases er
      exact q _ G' H' I' (g1.trans n1.g) (h1.trans (n2.h.trans n1.h)) .bl
end
/-! ### defs whose code is known -/
structure FunC (K : PySem.W.Frag) (x qual : Str) (st : Stmt) (f : Addr) (fd : FuncData) (c : Addr) : Prop where
  ex : ∃ (oc : Value) (od : Option Addr) (kV doc pm : Value) (an : Option Addr) (ct : Value) (osl : Array (Option Value)),
    fd = PySem.W.fnOf x qual (defArgs st) (defBody st) (defScope st) .none kV doc pm an (.ref c) ct ∧ K.lookup f = some ⟨oc, od, .func fd, osl⟩ ∧ PySem.W.codeIn K (.ref c) qual = true
  kp : PySem.W.keepIn K (.ref f) = true
section
variable {P : Program} {w : World} {K : PySem.W.Frag} {cl : Cl} {mg : Str → Option Value} {base : Heap}
theorem FunC.fn {x qual : Str} {st : Stmt} {f c : Addr} {fd : FuncData} (F : FunC K x qual st f fd c) : Fun K x qual st f fd := by
  obtain ⟨oc, od, kV, doc, pm, an, ct, osl, h⟩ := F.ex
  exact ⟨⟨oc, od, kV, doc, pm, an, _, ct, osl, h⟩, F.kp⟩
theorem fun_conC {x qual : Str} {st : Stmt} {fa c : Addr} {fd : FuncData} {N ps : List Str} {k n : Nat} {f : List D → Option D}
    (F : FunC K x qual st fa fd c) (SC : FnScope N ps (defScope st)) (hn : ps.length = n) (ar : ∀ ds d, f ds = some d → ds.length = n) (hm : mg x = some (.ref fa)) (hb : Binds K fd ps [])
    (body : ∀ (A : Around) (outer : List Env) (s : Shared) (H : Hp) (E : XK), Room k (A.deeper (envOfC qual (defScope st) s.heap.objs.size fa (.ref c))) →
      ∃ t, PSs (cxOf CX0 P w K mg base N qual (defScope st) fa (.ref c) A outer s H E).nox (defBody st) t ∧ ∀ ds : List D, ds.length = n → TV K cl t (ds.map .vl ++ List.replicate (N.length - n) .jk) true (f ds)) : Con P w K cl mg base (k + 1) x f fa fd ps := by
  obtain ⟨oc, od, kV, doc, pm, an, ct, osl, rfl, lk, hcd⟩ := F.ex
  refine ⟨fn_of lk hcd SC (fun vs H Q E h => ?_) fun A outer s H vs Q E hr h => ?_, hm, F.kp, hb⟩
  · obtain ⟨G, ds, d, _, _, rs, e, _⟩ := h
    rw [rs.length, ar ds d e, hn]
  · obtain ⟨G, ds, d, gh, tb, rs, e, q⟩ := h
    obtain ⟨t, hp, ht⟩ := body A outer s H E hr
    have hl := ar ds d e
    have hv : vs.length = n := rs.length.trans hl
    refine ⟨t, hp.nox, ?_⟩
    have e0 : L2.start N vs = vs.map some ++ List.replicate (N.length - n) none := by unfold L2.start; rw [hv]
    rw [e0]
    refine ht ds hl ⟨G, H⟩ G H _ ⟨Nxt.refl gh, by simp [rs.length], tb, fun _ => [], fun i s hs => ?_, fun _ _ _ _ _ _ z => nomatch z⟩ d e _ (fun v G' H' nx r => q v G' H' nx r) (fun _ hd σ' G' H' nx => ?_)
    · obtain ⟨o, h1, h2⟩ := slot_start rs hs
      refine ⟨o, h1, ?_⟩
      rcases h2 with rfl | ⟨v, d', rfl, rfl, rv⟩
      · rfl
      · exact ⟨rfl, v, rfl, rv⟩
    · subst hd
      exact q .non G' H' nx .non
end

theorem fun_mkC {K : PySem.W.Frag} {x qual : Str} {st : Stmt} {f c : Addr} {oc : Value} {od : Option Addr} {kV doc pm : Value} {an : Option Addr} {ct : Value} {osl : Array (Option Value)}
    (lk : K.lookup f = some ⟨oc, od, .func (PySem.W.fnOf x qual (defArgs st) (defBody st) (defScope st) .none kV doc pm an (.ref c) ct), osl⟩) (hc : PySem.W.codeIn K (.ref c) qual = true) (kp : PySem.W.keepIn K (.ref f) = true) :
    FunC K x qual st f (PySem.W.fnOf x qual (defArgs st) (defBody st) (defScope st) .none kV doc pm an (.ref c) ct) c := ⟨⟨oc, od, kV, doc, pm, an, ct, osl, rfl, lk, hc⟩, kp⟩
theorem lawAt_mk {l : PySem.W.OpenLaw} {w : World} {K : PySem.W.Frag} {k : Nat} {x : Str} {mg : Str → Option Value} {fa : Addr} {h : Heap} {fd : FuncData} (cl : Cl) (cs : List (Addr × Addr)) (ht : cl.t = cs.map (·.2))
    (hT : ∀ p ∈ cs, PySem.W.CodeHd h p.1 p.2 ∧ h.get? p.2 = some { cls := .none, data := .fields #[] }) (nT : ∀ p ∈ cs, K.lookup p.2 = none) (hb : ∀ (s : Shared) (u : Value), BindsTo s fd ⟨[u], []⟩ [(x, u)])
    (F : ∀ base : Heap, K.In base → base.Ns mainGlobals mg → (∀ p ∈ cs, TabB base mg p.1 p.2) → FnOk l.prog w K mg base CX0 k fa fd [x] (spLaw K cl.t)) : LamX.LawAtS l w K CX0 k 63 x mg fa h := by
  refine ⟨fd, cs, spLaw K cl.t, fun p hp => (hT p hp).2, nT, fun p hp => (hT p hp).1, hb, fun H a ns hl hbit hH hS => ?_, fun base hK hN tb => F base hK hN fun p hp => ⟨(tb p hp).code, (tb p hp).bm, (tb p hp).gP⟩⟩
  refine ⟨a, ns, rfl, fun b hb => ?_, hS, hl, fun _ => rfl⟩
  rw [ht] at hb
  obtain ⟨p, hp, rfl⟩ := List.mem_map.mp hb
  exact ⟨#[], hH p hp, trivial⟩
theorem gscp_by {X : Cx} {scope : Scope} {own : List (Str × Nat)} (ok : BlkOk X.N X.env.scope scope own) (nc : (scope.names.all fun y => y.2 != .cell) = true) (co : scope.isCoroutine = false) (dot : scope.names.lookup (".0" : Str) = some NameKind.local) : GScp X scope own :=
  ⟨ok, fun y hy e => by have := List.all_eq_true.mp nc y hy; rw [e] at this; exact absurd this (by decide), co, dot⟩
end Oh
namespace Oh
open PySem PySem.Spec PyProof.Rows L2 Evl
/-! ### an owned thing read for a while: a tuple of what cannot change -/
mutual
noncomputable def tupB : D → Bool
  | .non => true | .bl _ => true | .int _ => true | .str _ => true | .tup xs => tupBs xs | _ => false
noncomputable def tupBs : List D → Bool
  | [] => true
  | x :: xs => tupB x && tupBs xs
end
noncomputable def tkB : HO → Bool
  | .tup _ => true
  | .frz _ (.tup _) => true
  | _ => false
/-- G, and the tuples of G' -/
noncomputable def mixT (G G' : Hp) : Hp := fun a => match G a with | some u => some u | none => (G' a).filter tkB
section
variable {K : PySem.W.Frag} {cl : Cl} {G G' H H' : Hp}
theorem mixT_ex : Ex G (mixT G G') := fun a u h => by unfold mixT; rw [h]
theorem mixT_in (e : Ex G G') {a : Addr} {u : HO} (h : mixT G G' a = some u) : G' a = some u := by
  unfold mixT at h
  cases q : G a with
  | some w => rw [q] at h; cases h; exact e _ _ q
  | none =>
    rw [q] at h
    exact (Option.filter_eq_some_iff.mp h).1
theorem Own.mk_kind {G H : Hp} : ∀ {sh v d A}, Own K cl G H sh v d A → ∀ p ∈ A, ∃ u, H p = some u ∧ tkB u = false ∧ NT u
  | .v, _, _, _, h, p, hp => by rw [h.1] at hp; cases hp
  | .l s, _, _, _, ⟨p, vs, ds, A', h1, h2, h3, h4, h5⟩, q, hq => by
    rw [h4] at hq
    rcases List.mem_cons.mp hq with z | z
    · subst z; exact ⟨_, h3, rfl, inferInstance⟩
    · exact h5.inH (fun v d A2 r p hp => Own.mk_kind r p hp) q z
  | .i p, _, _, _, ⟨dx, c, fs, ds, h1, h2, h3, h4, h5⟩, q, hq => by
    rw [h4] at hq
    rw [List.mem_singleton.mp hq]; exact ⟨_, h3, rfl, inferInstance⟩
  | .j po f, _, _, _, ⟨p, dx, c, fs, ds, A', h1, hp, h2, h3, h4, h5⟩, q, hq => by
    rw [h4] at hq
    rcases List.mem_cons.mp hq with z | z
    · subst z; exact ⟨_, h3, rfl, inferInstance⟩
    · exact h5.inH (fun n v d A2 r p hp => Own.mk_kind (sh := f n) r p hp) q z
  | .t f, _, _, _, ⟨p, vs, ds, h1, h2, h3, h5⟩, q, hq => h5.inH (fun n v d A2 r p hp => Own.mk_kind (sh := f n) r p hp) q hq
  | .d, _, _, _, h, q, hq => by obtain ⟨ws, e⟩ := OwnD.inL h q hq; exact ⟨_, e, rfl, inferInstance⟩
variable {B : Bs} {S : List Sl} {σ : L2.St} {te : TE} {m : Option D}
theorem Sig.lendT (I : Sig K cl B G H S σ) {i : Nat} {sh : Sh} {d : D} (h : S[i]? = some (.ow sh d)) (I' : Sig K cl B G' H' (S.set i (.vl d)) σ) (eg : Ex G G') (eh : Ex2 H H') : Sig K cl B (mixT G G') H' S σ := by
  obtain ⟨A, hs, ap⟩ := I.slots
  have inn : ∀ {a}, mixT G G' a ≠ none → G' a ≠ none := fun {a} z => by
    cases q : mixT G G' a with
    | none => exact absurd q z
    | some u => rw [mixT_in eg q]; simp
  refine ⟨⟨I.nxt.g.trans mixT_ex, I'.nxt.h, fun a u q => I'.nxt.gh a u (mixT_in eg q), fun p z => I'.nxt.fr p (inn z)⟩, I.len, fun a ha => ⟨(I'.tab a ha).1, ?_⟩, A, fun j s hj => ?_, ap⟩
  · cases q : mixT G G' a with
    | none => rfl
    | some u =>
      have := mixT_in eg q
      rw [(I'.tab a ha).2] at this; cases this
  · obtain ⟨o, h1, h2⟩ := hs j s hj
    refine ⟨o, h1, ?_⟩
    cases s with
    | jk => exact h2
    | vl d' =>
      obtain ⟨ea, v, e, r⟩ := h2
      exact ⟨ea, v, e, r.mono mixT_ex⟩
    | ow sh' d' =>
      obtain ⟨v, e, ow, nd, out⟩ := h2
      refine ⟨v, e, ow.step mixT_ex (fun p _ u _ hu => eh _ _ hu), nd, fun p hp => ⟨?_, (out p hp).2⟩⟩
      cases q : mixT G G' p with
      | none => rfl
      | some u =>
        obtain ⟨w, hw, kw, nw⟩ := ow.mk_kind p hp
        have e1 := eh _ _ hw
        have e2 := I'.nxt.gh _ _ (mixT_in eg q)
        rw [e1] at e2; cases e2
        unfold mixT at q
        rw [(out p hp).1] at q
        have := (Option.filter_eq_some_iff.mp q).2
        rw [kw] at this; cases this
end

/-! ### xs.index(x), numbers and texts -/
noncomputable def kyD : D → Option (Int ⊕ Str) | .int i => some (.inl i) | .str x => some (.inr x) | _ => none
noncomputable def kyV : Int ⊕ Str → V | .inl i => .int i | .inr x => .str x
noncomputable def kysD : List D → Option (List (Int ⊕ Str))
  | [] => some []
  | x :: xs => (kyD x).bind fun k => (kysD xs).bind fun ks => some (k :: ks)
noncomputable def dIndex (d x : D) : Option D := (asL d).bind fun xs => (kysD xs).bind fun ks => (kyD x).bind fun k => (ks.findIdx? fun y => decide (y = k)).map fun j => .int (j : Nat)
theorem ky_rep {K : PySem.W.Frag} {cl : Cl} {G : Hp} {v : V} {d : D} {k : Int ⊕ Str} (h : kyD d = some k) (r : Rep K cl G v d) : v = kyV k := by
  cases r <;> cases h <;> rfl
theorem kys_reps {K : PySem.W.Frag} {cl : Cl} {G : Hp} : ∀ {vs : List V} {ds : List D} {ks : List (Int ⊕ Str)}, kysD ds = some ks → Reps K cl G vs ds → vs = ks.map kyV
  | _, _, _, h, .nil => by cases h; rfl
  | _, _, _, h, .cons r t => by
    obtain ⟨k, ek, h⟩ := bind_some h
    obtain ⟨ks, eks, h⟩ := bind_some h
    cases h
    rw [ky_rep ek r, kys_reps eks t]; rfl
theorem ky_flat (k : Int ⊕ Str) : flatV (kyV k) = true := by cases k <;> rfl
theorem ky_eq (a b : Int ⊕ Str) : eqV (kyV a) (kyV b) = decide (a = b) := by
  cases a <;> cases b <;> (try rfl) <;> (rw [Bool.eq_iff_iff]; simp [kyV, eqV])
/-! ### isinstance, a class of one's own -/
structure IsiF (K : PySem.W.Frag) (C : Addr) : Prop where
  ofc : PySem.W.findIn K (.ref C) "__class__" = some (some (.builtin "object.__class__"))
  get : PySem.W.specialIn K (.builtin "object.__class__") "__get__" = some (some (.builtin "getset_descriptor.__get__"))
  tak : PySem.W.takesIn K (.builtin "object.__class__") = some true
  mro : PySem.W.mroIn K C (.type "object") = some true
noncomputable def dIsO (c : Nat) : D → Option D | .ob k _ => if k = c then some (.bl true) else none | _ => none
theorem ev_isO {K : PySem.W.Frag} {cl : Cl} {S S1 : List Sl} {ta : TE} {m : Option D} {c : Nat} {fs : List Str} (F : ClsF K (cl.c c) fs) (N : IsiF K (cl.c c)) (ha : EV K cl ta S m S1) : EV K cl (tCB (rIsi K) (tCons ta (tCons (tC (.ref (cl.c c))) tNil))) S (m.bind (dIsO c)) S1 := fun B G H σ I z e Q q => by
  obtain ⟨a, ea, e⟩ := bind_some e
  refine ha B G H σ I a ea _ fun x G1 H1 I1 g1 h1 rx => ?_
  cases rx with
  | @ob a' dx k gs ds hg _ =>
    have e' : (if k = c then some (D.bl true) else none) = some z := e
    by_cases hk : k = c
    · subst hk
      rw [if_pos rfl] at e'
      cases e'
      exact ⟨_, _, _, _, true, rfl, .own _, .base (.ins (I1.nxt.gh _ _ hg) F.1 N.ofc N.get N.tak N.mro), by unfold PySem.W.kitOne; rw [if_pos (beq_self_eq_true _)], q _ G1 H1 I1 g1 h1 .bl⟩
    · rw [if_neg hk] at e'; cases e'
  | _ => exact nomatch e

end Oh
namespace Oh
open PySem PySem.Spec PyProof.Rows L2 Evl
/-! ### objects that are one's own and change: methods, fields that are lists -/
noncomputable def cutA (H : Hp) (A : List Addr) : Hp := fun a => if a ∈ A then none else H a
theorem cutA_in {H : Hp} {A : List Addr} {a : Addr} (h : a ∈ A) : cutA H A a = none := if_pos h
theorem cutA_out {H : Hp} {A : List Addr} {a : Addr} (h : a ∉ A) : cutA H A a = H a := if_neg h
section
variable {K : PySem.W.Frag} {cl : Cl} {G G' H H' : Hp} {B : Bs} {S S1 S2 S3 : List Sl} {σ : L2.St}
/-- an owned thing goes through a call, or is changed, and comes back as another one -/
theorem Sig.thru (I : Sig K cl B G H S σ) {i : Nat} {sh : Sh} {d : D} (h : S[i]? = some (.ow sh d)) :
    ∃ v A, σ[i]? = some (some v) ∧ Own K cl G H sh v d A ∧ A.Nodup ∧ (∀ p ∈ A, G p = none ∧ B.H p = none) ∧
      ∀ (G' H' : Hp) (sh' : Sh) (d' : D) (A' : List Addr), Nxt G (cutA H A) G' H' → Own K cl G' H' sh' v d' A' → A'.Nodup → (∀ p ∈ A', G' p = none ∧ (p ∈ A ∨ H p = none)) → Sig K cl B G' H' (S.set i (.ow sh' d')) σ := by
  obtain ⟨A, hs, ap⟩ := I.slots
  obtain ⟨o, h1, v, rfl, ow, nd, out⟩ := hs i _ h
  have hl : i < S.length := (List.getElem?_eq_some_iff.mp h).1
  refine ⟨v, A i, h1, ow, nd, out, fun G' H' sh' d' A' n ow' nd' new => ?_⟩
  have keep : ∀ a u, a ∉ A i → H a = some u → NT u → H' a = some u := fun a u ha e nt => n.h a u (by rw [cutA_out ha]; exact e)
  have back : ∀ p, G' p ≠ none → G p ≠ none ∨ H p = none ∨ p ∈ A i := fun p hp => by
    rcases n.fr p hp with h | h
    · exact .inl h
    · by_cases z : p ∈ A i
      · exact .inr (.inr z)
      · rw [cutA_out z] at h; exact .inr (.inl h)
  refine ⟨⟨I.nxt.g.trans n.g, ⟨fun a u _ e => ?_, fun a ps e => ?_⟩, n.gh, fun p hp => ?_⟩, by rw [List.length_set]; exact I.len, fun a ha => ?_, atA A i A', fun j s hj => ?_, fun j k ne hj hk p hp => ?_⟩
  · have e1 := I.nxt.h a u e
    exact keep a u (fun z => by rw [(out a z).2] at e; cases e) e1 ‹_›
  · obtain ⟨ps1, e1, k1⟩ := I.nxt.h.b a ps e
    obtain ⟨ps2, e2, k2⟩ := n.h.b a ps1 (by rw [cutA_out fun z => by rw [(out a z).2] at e; cases e]; exact e1)
    exact ⟨ps2, e2, fun z => k2 (k1 z)⟩
  · rcases back p hp with h | h | h
    · exact I.nxt.fr p h
    · exact .inr (I.nxt.h.back h)
    · exact .inr (out p h).2
  · obtain ⟨⟨ps, e, ok⟩, hg⟩ := I.tab a ha
    have na := ow.noT ⟨ps, e, ok⟩
    obtain ⟨ps2, e2, k2⟩ := n.h.b a ps (by rw [cutA_out na]; exact e)
    refine ⟨⟨ps2, e2, k2 ok⟩, ?_⟩
    cases q : G' a with
    | none => rfl
    | some u =>
      rcases back a (by rw [q]; simp) with h | h | h
      · exact absurd hg h
      · rw [e] at h; cases h
      · exact absurd h na
  · by_cases e : i = j
    · subst e
      rw [List.getElem?_set_self hl] at hj
      cases hj
      refine ⟨_, h1, ?_⟩
      rw [atA_e rfl]
      exact ⟨v, rfl, ow', nd', fun p hp => ⟨(new p hp).1, by
        rcases (new p hp).2 with z | z
        · exact (out p z).2
        · exact I.nxt.h.back z⟩⟩
    · rw [List.getElem?_set_ne e] at hj
      have hlj : j < S.length := (List.getElem?_eq_some_iff.mp hj).1
      obtain ⟨o, h2, h3⟩ := hs j s hj
      refine ⟨o, h2, ?_⟩
      rw [atA_n (fun z => e z.symm)]
      cases s with
      | jk => exact h3
      | vl d' =>
        obtain ⟨ea, v, e1, r⟩ := h3
        exact ⟨ea, v, e1, r.mono n.g⟩
      | ow sh2 d2 =>
        obtain ⟨v2, e1, ow2, nd2, out2⟩ := h3
        refine ⟨v2, e1, ow2.step n.g (fun p hp u nt hu => keep p u (ap j i (fun z => e z.symm) hlj hl p hp) hu nt), nd2, fun p hp => ⟨?_, (out2 p hp).2⟩⟩
        cases q : G' p with
        | none => rfl
        | some u =>
          rcases back p (by rw [q]; simp) with h | h | h
          · exact absurd (out2 p hp).1 h
          · exact absurd h (ow2.inH p hp)
          · exact absurd h (ap j i (fun z => e z.symm) hlj hl p hp)
  · rw [List.length_set] at hj hk
    have inH : ∀ j, j < S.length → ∀ p ∈ A j, H p ≠ none := fun j hj p hp => by
      obtain ⟨o, h1, h2⟩ := hs j S[j] (List.getElem?_eq_getElem hj)
      generalize S[j] = s at h2
      cases s with
      | jk => rw [h2] at hp; cases hp
      | vl d' => rw [h2.1] at hp; cases hp
      | ow sh' d' => obtain ⟨v', _, ow', _⟩ := h2; exact ow'.inH p hp
    by_cases ej : j = i
    · subst ej
      rw [atA_e rfl] at hp
      rw [atA_n (fun z => ne z.symm)]
      rcases (new p hp).2 with z | z
      · exact ap j k ne hj hk p z
      · exact fun y => inH k hk p y z
    · rw [atA_n ej] at hp
      by_cases ek : k = i
      · subst ek
        rw [atA_e rfl]
        intro y
        rcases (new p y).2 with z | z
        · exact ap j k ne hj hk p hp z
        · exact inH j hj p hp z
      · rw [atA_n ek]; exact ap j k ne hj hk p hp
theorem nxt_mut {A : List Addr} (gh : Ex G H) (hg : ∀ p ∈ A, G p = none) (k : ∀ p u, p ∉ A → H p = some u → H' p = some u) : Nxt G (cutA H A) G H' :=
  ⟨Ex.refl _, ⟨fun a u _ e => by
    by_cases z : a ∈ A
    · rw [cutA_in z] at e; cases e
    · rw [cutA_out z] at e; exact k a u z e, fun a ps e => by
    by_cases z : a ∈ A
    · rw [cutA_in z] at e; cases e
    · rw [cutA_out z] at e; exact ⟨ps, k a _ z e, id⟩⟩, fun a u e => k a u (fun z => by rw [hg a z] at e; cases e) (gh a u e), fun p h => .inl h⟩

/-! ### the fields, one of them taken out -/
theorem OwnF.spl {R : Str → V → D → List Addr → Prop} (n : Str) : ∀ {vs ds A}, OwnF R vs ds A → ∃ A0 Ar, A.Perm (A0 ++ Ar) ∧ (∀ d, ds.lookup n = some d → ∃ v, vs.lookup n = some v ∧ R n v d A0) ∧
    ∀ (R' : Str → V → D → List Addr → Prop) (v' : V) (d' : D) (A1 : List Addr), R' n v' d' A1 → (∀ m v d A2, A2 ⊆ Ar → R m v d A2 → R' m v d A2) → ∃ A', OwnF R' (putF n v' vs) (putD n d' ds) A' ∧ A'.Perm (A1 ++ Ar)
  | _, _, _, .nil => ⟨[], [], .refl _, fun d h => by simp at h, fun R' v' d' A1 r _ => ⟨A1 ++ [], .cons r .nil, .refl _⟩⟩
  | _, _, _, .cons (n := g) (v := v) (d := d) (A := Ag) (vs := vs) (ds := ds) (As := As) r t => by
    by_cases e : g = n
    · subst e
      refine ⟨Ag, As, .refl _, fun d0 h => ?_, fun R' v' d' A1 r' k => ⟨A1 ++ As, ?_, .refl _⟩⟩
      · rw [List.lookup_cons, BEq.rfl] at h
        cases h
        exact ⟨v, by rw [List.lookup_cons, BEq.rfl], r⟩
      · unfold putF putD
        rw [if_pos rfl, if_pos rfl]
        exact .cons r' (t.imp fun m v d A2 s q => k m v d A2 s q)
    · obtain ⟨A0, Ar, pm, lk, put⟩ := OwnF.spl n t
      have en : (n == g) = false := by rw [beq_eq_false_iff_ne]; exact fun z => e z.symm
      refine ⟨A0, Ag ++ Ar, ?_, fun d0 h => ?_, fun R' v' d' A1 r' k => ?_⟩
      · refine (pm.append_left Ag).trans ?_
        rw [← List.append_assoc, ← List.append_assoc]
        exact List.perm_append_comm.append_right Ar
      · rw [List.lookup_cons, en] at h
        obtain ⟨v0, h1, h2⟩ := lk d0 h
        exact ⟨v0, by rw [List.lookup_cons, en]; exact h1, h2⟩
      · obtain ⟨A', h1, h2⟩ := put R' v' d' A1 r' fun m v d A2 s q => k m v d A2 (fun _ hx => List.mem_append_right _ (s hx)) q
        refine ⟨Ag ++ A', ?_, ?_⟩
        · unfold putF putD
          rw [if_neg e, if_neg e]
          exact .cons (k _ _ _ _ (fun _ hx => List.mem_append_left _ hx) r) h1
        · refine (h2.append_left Ag).trans ?_
          rw [← List.append_assoc, ← List.append_assoc]
          exact List.perm_append_comm.append_right Ar
theorem OwnF.freps {f : Str → Sh} {n : Str} (hf : f n = .v) {v : V} {d : D} {A0 : List Addr} (h : Own K cl G H (f n) v d A0) : A0 = [] ∧ Rep K cl G v d := by
  rw [hf] at h; exact h
/-- o.f = e, the field stands for ever -/
theorem sv_fldJ {te : TE} {m : Option D} {i c : Nat} {po : Option Addr} {fs : Str → Sh} {f : Str} {as : List Str} {x : D} (T : ClsF K (cl.c c) as) (hf : f ∈ as) (hv : fs f = .v) (h0 : S1[i]? = some (.ow (.j po fs) x)) (h : EV K cl te S m S1) :
    SV K cl (sFld K (tVar i) te f) S (m.bind fun y => dStF c f x y) (fun b => S1.set i (.ow (.j po fs) b)) := fun B G H σ I d e Dn q => by
  obtain ⟨y, ey, e⟩ := bind_some e
  refine h B G H σ I y ey _ fun v G1 H1 I1 g1 h1 rv => ?_
  obtain ⟨w, A, hσ, ⟨p, dx, c', vs, ds, A', rfl, hpo, rfl, hp, rfl, ow⟩, nd, out, cls⟩ := I1.thru h0
  have e2 : (if c' = c ∧ ds.length < 1000 then some (D.ob c' (putD f y ds)) else none) = some d := e
  by_cases hc : c' = c ∧ ds.length < 1000
  · rw [if_pos hc] at e2
    obtain ⟨rfl, hl⟩ := hc
    cases e2
    refine ⟨.ref p, hσ, p, _, dx, vs, rfl, hp, T.c, T.n f hf, by rw [ow.len]; exact hl, ?_⟩
    obtain ⟨A0, Ar, pm, _, put⟩ := ow.spl f
    have np : p ∉ A' := (List.nodup_cons.mp nd).1
    obtain ⟨A2, ow2, pm2⟩ := put (fun n => Own K cl G1 (upd H1 p (.ins (cl.c c') dx (putF f v vs))) (fs n)) v y [] (by rw [hv]; exact ⟨rfl, rv⟩) fun m v d A2 s r => r.step (Ex.refl _) fun a ha u _ hu => by
      rw [upd_ne fun z => np (pm.mem_iff.mpr (List.mem_append_right _ (by rw [← z]; exact s ha)))]; exact hu
    have sub : ∀ a ∈ A2, a ∈ A' := fun a ha => pm.mem_iff.mpr (List.mem_append_right _ (pm2.mem_iff.mp ha))
    refine q σ G1 _ (cls G1 _ _ _ (p :: A2) (nxt_mut I1.nxt.gh (fun a ha => (out a ha).1) fun a u ha hu => by rw [upd_ne fun z => ha (by rw [z]; exact List.mem_cons_self)]; exact hu) ⟨p, dx, _, _, _, A2, rfl, hpo, rfl, upd_same, rfl, ow2⟩ ?_ fun a ha => ?_)
    · refine List.nodup_cons.mpr ⟨fun z => np (sub p z), pm2.nodup_iff.mpr ?_⟩
      have := (List.nodup_append.mp (pm.nodup_iff.mp (List.nodup_cons.mp nd).2)).2.1
      simpa using this
    · have : a ∈ p :: A' := by
        rcases List.mem_cons.mp ha with z | z
        · rw [z]; exact List.mem_cons_self
        · exact List.mem_cons_of_mem _ (sub a z)
      exact ⟨(out a this).1, .inl this⟩
  · rw [if_neg hc] at e2; cases e2
/-- o.f = e, all of the new thing is one's own -/
theorem sv_fldJO {te : TE} {m : Option D} {i c : Nat} {po : Option Addr} {fs : Str → Sh} {f : Str} {sh : Sh} {as : List Str} {x : D} (T : ClsF K (cl.c c) as) (hf : f ∈ as) (hv : fs f = sh) (h0 : S1[i]? = some (.ow (.j po fs) x)) (h : EVO K cl sh te S m S1) :
    SV K cl (sFld K (tVar i) te f) S (m.bind fun y => dStF c f x y) (fun b => S1.set i (.ow (.j po fs) b)) := fun B G H σ I d e Dn q => by
  obtain ⟨y, ey, e⟩ := bind_some e
  refine h B G H σ I y ey _ fun v G1 H1 I1 g1 h1 => ?_
  have hi : i < S1.length := (List.getElem?_eq_some_iff.mp h0).1
  have h0' : (S1 ++ [.ow sh y])[i]? = some (.ow (.j po fs) x) := by rw [List.getElem?_append_left hi]; exact h0
  -- what the last slot holds
  obtain ⟨AA, hs, ap⟩ := I1.slots
  have ln : σ.length = S1.length := by have := I1.len; rw [List.length_append, List.length_append] at this; exact Nat.add_right_cancel this
  obtain ⟨o1, k1, w, rfl, ⟨p, dx, c', vs, ds, A', rfl, hpo, rfl, hp, eA, ow⟩, nd, out⟩ := hs i _ h0'
  obtain ⟨o2, k2, v2, rfl, owv, ndv, outv⟩ := hs S1.length (.ow sh y) (by rw [List.getElem?_append_right (Nat.le_refl _), Nat.sub_self]; rfl)
  rw [List.getElem?_append_right (by rw [ln]; exact Nat.le_refl _), ln, Nat.sub_self] at k2
  cases k2
  rw [List.getElem?_append_left (by rw [ln]; exact hi)] at k1
  have dj : ∀ a ∈ AA S1.length, a ∉ p :: A' := fun a ha z => ap S1.length i (by omega) (by rw [List.length_append]; exact Nat.lt_succ_self _) (by rw [List.length_append]; exact Nat.lt_succ_of_lt hi) a ha (by rw [eA]; exact z)
  rw [eA] at nd out
  have e2 : (if c' = c ∧ ds.length < 1000 then some (D.ob c' (putD f y ds)) else none) = some d := e
  by_cases hc : c' = c ∧ ds.length < 1000
  · rw [if_pos hc] at e2
    obtain ⟨rfl, hl⟩ := hc
    cases e2
    refine ⟨.ref p, k1, p, _, dx, vs, rfl, hp, T.c, T.n f hf, by rw [ow.len]; exact hl, ?_⟩
    obtain ⟨A0, Ar, pm, _, put⟩ := ow.spl f
    have np : p ∉ A' := (List.nodup_cons.mp nd).1
    have nv : p ∉ AA S1.length := fun z => dj p z List.mem_cons_self
    have keep : ∀ {a u o}, a ≠ p → H1 a = some u → (upd H1 p o) a = some u := fun ne hu => by rw [upd_ne ne]; exact hu
    obtain ⟨A2, ow2, pm2⟩ := put (fun n => Own K cl G1 (upd H1 p (.ins (cl.c c') dx (putF f v vs))) (fs n)) v y (AA S1.length) (by rw [hv]; exact owv.step (Ex.refl _) fun a ha u _ hu => keep (fun z => nv (by rw [← z]; exact ha)) hu) fun m v d A2 s r => r.step (Ex.refl _) fun a ha u _ hu =>
      keep (fun z => np (pm.mem_iff.mpr (List.mem_append_right _ (by rw [← z]; exact s ha)))) hu
    have sub : ∀ a ∈ A2, a ∈ AA S1.length ∨ a ∈ A' := fun a ha => by
      rcases List.mem_append.mp (pm2.mem_iff.mp ha) with z | z
      · exact .inl z
      · exact .inr (pm.mem_iff.mpr (List.mem_append_right _ z))
    -- the slots without the last
    have I2 : Sig K cl B G1 H1 S1 σ := ⟨I1.nxt, ln, I1.tab, AA, fun j s hj => by
      have hl2 := (List.getElem?_eq_some_iff.mp hj).1
      obtain ⟨o, e1, e2⟩ := hs j s (by rw [List.getElem?_append_left hl2]; exact hj)
      rw [List.getElem?_append_left (by rw [ln]; exact hl2)] at e1
      exact ⟨o, e1, e2⟩, fun j k ne hj hk => ap j k ne (by rw [List.length_append]; exact Nat.lt_succ_of_lt hj) (by rw [List.length_append]; exact Nat.lt_succ_of_lt hk)⟩
    have nd2 : (p :: A2).Nodup := by
      refine List.nodup_cons.mpr ⟨fun z => (sub p z).elim nv np, pm2.nodup_iff.mpr (List.nodup_append.mpr ⟨ndv, (List.nodup_append.mp (pm.nodup_iff.mp (List.nodup_cons.mp nd).2)).2.1, fun a ha b hb z => dj a ha (List.mem_cons_of_mem _ (pm.mem_iff.mpr (List.mem_append_right _ (by rw [z]; exact hb))))⟩)⟩
    refine q σ G1 _ ⟨⟨I1.nxt.g, ⟨fun a u _ hu => ?_, fun a ps hu => ?_⟩, fun a u hu => ?_, I1.nxt.fr⟩, by rw [List.length_set]; exact ln, fun a ha => ?_, atA AA i (p :: A2), fun j s hj => ?_, fun j k ne hj hk a ha => ?_⟩
    · exact keep (fun z => by rw [z, (out p List.mem_cons_self).2] at hu; cases hu) (I1.nxt.h a u hu)
    · obtain ⟨ps', hu', k⟩ := I1.nxt.h.b a ps hu
      exact ⟨ps', keep (fun z => by rw [z, (out p List.mem_cons_self).2] at hu; cases hu) hu', k⟩
    · exact keep (fun z => by rw [z, (out p List.mem_cons_self).1] at hu; cases hu) (I1.nxt.gh a u hu)
    · obtain ⟨⟨ps, hu, ok⟩, hg⟩ := I1.tab a ha
      exact ⟨⟨ps, keep (fun z => by rw [z, hp] at hu; cases hu) hu, ok⟩, hg⟩
    · by_cases e : i = j
      · subst e
        rw [List.getElem?_set_self hi] at hj
        cases hj
        refine ⟨_, k1, ?_⟩
        rw [atA_e rfl]
        refine ⟨_, rfl, ⟨p, dx, _, _, _, A2, rfl, hpo, rfl, upd_same, rfl, ow2⟩, nd2, fun a ha => ?_⟩
        rcases List.mem_cons.mp ha with z | z
        · rw [z]; exact out p List.mem_cons_self
        · rcases sub a z with z | z
          · exact outv a z
          · exact out a (List.mem_cons_of_mem _ z)
      · rw [List.getElem?_set_ne e] at hj
        have hlj : j < S1.length := (List.getElem?_eq_some_iff.mp hj).1
        obtain ⟨_, hs2, _⟩ := I2.slots
        obtain ⟨o, h2, h3⟩ := hs j s (by rw [List.getElem?_append_left hlj]; exact hj)
        rw [List.getElem?_append_left (by rw [ln]; exact hlj)] at h2
        refine ⟨o, h2, ?_⟩
        rw [atA_n (fun z => e z.symm)]
        cases s with
        | jk => exact h3
        | vl d' => exact h3
        | ow sh3 d3 =>
          obtain ⟨v3, e1, ow3, nd3, out3⟩ := h3
          refine ⟨v3, e1, ow3.step (Ex.refl _) (fun a ha u _ hu => keep (fun z => ?_) hu), nd3, out3⟩
          exact ap j i (fun y => e y.symm) (by rw [List.length_append]; exact Nat.lt_succ_of_lt hlj) (by rw [List.length_append]; exact Nat.lt_succ_of_lt hi) a ha (by rw [eA, z]; exact List.mem_cons_self)
    · rw [List.length_set] at hj hk
      have L : (S1 ++ [Sl.ow sh y]).length = S1.length + 1 := by rw [List.length_append]; rfl
      have off : ∀ j, j < S1.length → j ≠ i → ∀ a ∈ AA j, a ∉ p :: A2 := fun j hj ne a ha z => by
        rcases List.mem_cons.mp z with y | y
        · exact ap j i ne (by omega) (by omega) a ha (by rw [eA, y]; exact List.mem_cons_self)
        · rcases sub a y with y | y
          · exact ap j S1.length (by omega) (by omega) (by omega) a ha y
          · exact ap j i ne (by omega) (by omega) a ha (by rw [eA]; exact List.mem_cons_of_mem _ y)
      by_cases ej : j = i
      · subst ej
        rw [atA_e rfl] at ha
        rw [atA_n (fun z => ne z.symm)]
        exact fun z => off k hk (fun z => ne z.symm) a z ha
      · rw [atA_n ej] at ha
        by_cases ek : k = i
        · subst ek; rw [atA_e rfl]; exact off j hj ej a ha
        · rw [atA_n ek]; exact ap j k ne (by omega) (by omega) a ha
  · rw [if_neg hc] at e2; cases e2
end
end Oh
namespace Oh
open PySem PySem.Spec PyProof.Rows L2 Evl
/-! ### a part of an owned thing, by its path -/
inductive Stp where | f (c : Nat) (n : Str) | k (i : Int)
noncomputable def insF (n : Str) : Option HO → Option V
  | some (.ins _ _ fs) => fs.lookup n
  | _ => none
noncomputable def lstK (i : Int) : Option HO → Option V
  | some (.lst vs) => (ixN vs.length i).bind fun a => vs[a]?
  | _ => none
noncomputable def stV (H : Hp) : Stp → V → Option V
  | .f _ n, .ref p => insF n (H p)
  | .k i, .ref p => lstK i (H p)
  | _, _ => none
noncomputable def rsV (H : Hp) : List Stp → V → Option V
  | [], v => some v
  | s :: π, v => (stV H s v).bind (rsV H π)
section
variable {K : PySem.W.Frag} {cl : Cl} {G G' H H' : Hp} {B : Bs} {S S1 S2 S3 : List Sl} {σ : L2.St}
theorem OwnL.spl {R : V → D → List Addr → Prop} : ∀ {vs ds A} {k : Nat} {d : D}, OwnL R vs ds A → ds[k]? = some d → ∃ v A0 Ar, vs[k]? = some v ∧ R v d A0 ∧ A.Perm (A0 ++ Ar) ∧
    ∀ {R' : V → D → List Addr → Prop} {d' : D} {A1 : List Addr}, R' v d' A1 → (∀ v d A2, A2 ⊆ Ar → R v d A2 → R' v d A2) → ∃ A', OwnL R' vs (ds.set k d') A' ∧ A'.Perm (A1 ++ Ar)
  | _, _, _, _, _, .nil, h => by simp at h
  | _, _, _, 0, _, .cons (A := A0) (As := As) r t, h => by
    cases h
    exact ⟨_, A0, As, rfl, r, .refl _, fun {R' d' A1} r' k => ⟨A1 ++ As, .cons r' (t.imp fun v d A2 s q => k v d A2 s q), .refl _⟩⟩
  | _, _, _, k + 1, _, .cons (A := Ag) (As := As) r t, h => by
    obtain ⟨v, A0, Ar, e1, e2, pm, put⟩ := OwnL.spl (k := k) t (by simpa using h)
    refine ⟨v, A0, Ag ++ Ar, by simpa using e1, e2, ?_, fun {R' d' A1} r' kk => ?_⟩
    · refine (pm.append_left Ag).trans ?_
      rw [← List.append_assoc, ← List.append_assoc]
      exact List.perm_append_comm.append_right Ar
    · obtain ⟨A', h1, h2⟩ := put r' fun v d A2 s q => kk v d A2 (fun _ hx => List.mem_append_right _ (s hx)) q
      refine ⟨Ag ++ A', .cons (kk _ _ _ (fun _ hx => List.mem_append_left _ hx) r) h1, ?_⟩
      refine (h2.append_left Ag).trans ?_
      rw [← List.append_assoc, ← List.append_assoc]
      exact List.perm_append_comm.append_right Ar
end
section
variable (K : PySem.W.Frag) (cl : Cl)
/-- a reading of a part of what slot i owns -/
noncomputable def EP (te : TE) (S : List Sl) (i : Nat) (m : Option (List Stp)) (S' : List Sl) : Prop := ∀ (B : Bs) (G H : Hp) (σ : L2.St), Sig K cl B G H S σ → ∀ π, m = some π → ∀ Q : VK,
  (∀ v0 v G' H', Sig K cl B G' H' S' σ → Ex G G' → Ex2 H H' → σ[i]? = some (some v0) → rsV H' π v0 = some v → Q v H') → te σ H Q
end
section
variable {K : PySem.W.Frag} {cl : Cl} {G G' H H' : Hp} {B : Bs} {S S1 S2 S3 : List Sl} {σ : L2.St} {te tk : TE} {m n : Option D} {i : Nat} {mp : Option (List Stp)}
end
end Oh
namespace Oh
open PySem PySem.Spec PyProof.Rows L2 Evl
/-! ### parts of what is owned are given away -/
inductive ShLe : Sh → Sh → Prop
  | refl (s : Sh) : ShLe s s
  | v (s : Sh) : ShLe .v s
  | l {a b : Sh} : ShLe a b → ShLe (.l a) (.l b)
  | j {po : Option Addr} {f g : Str → Sh} : (∀ n, ShLe (f n) (g n)) → ShLe (.j po f) (.j po g)
section
variable {K : PySem.W.Frag} {cl : Cl} {G G' H H' : Hp} {B : Bs} {S S1 S2 S3 : List Sl} {σ : L2.St}
theorem OwnL.frz {R : V → D → List Addr → Prop} {R' : Hp → V → D → List Addr → Prop} {Kp : Hp → Prop} (h : ∀ v d A, R v d A → A.Nodup → ∃ A', A'.Sublist A ∧ ∀ G', Kp G' → (∀ p ∈ A, p ∉ A' → G' p = H p) → R' G' v d A') :
    ∀ {vs ds A}, OwnL R vs ds A → A.Nodup → ∃ A', A'.Sublist A ∧ ∀ G', Kp G' → (∀ p ∈ A, p ∉ A' → G' p = H p) → OwnL (R' G') vs ds A'
  | _, _, _, .nil, _ => ⟨[], .slnil, fun _ _ _ => .nil⟩
  | _, _, _, .cons (A := A0) (As := As) r t, nd => by
    obtain ⟨n1, n2, dj⟩ := List.nodup_append.mp nd
    obtain ⟨A1, s1, k1⟩ := h _ _ _ r n1
    obtain ⟨A2, s2, k2⟩ := OwnL.frz h t n2
    exact ⟨A1 ++ A2, s1.append s2, fun G' e k => .cons (k1 G' e fun p hp np => k p (List.mem_append_left _ hp) fun z => (List.mem_append.mp z).elim np fun y => dj p hp p (s2.subset y) rfl)
      (k2 G' e fun p hp np => k p (List.mem_append_right _ hp) fun z => (List.mem_append.mp z).elim (fun y => dj p (s1.subset y) p hp rfl) np)⟩
theorem OwnF.frz {R : Str → V → D → List Addr → Prop} {R' : Hp → Str → V → D → List Addr → Prop} {Kp : Hp → Prop} (h : ∀ n v d A, R n v d A → A.Nodup → ∃ A', A'.Sublist A ∧ ∀ G', Kp G' → (∀ p ∈ A, p ∉ A' → G' p = H p) → R' G' n v d A') :
    ∀ {vs ds A}, OwnF R vs ds A → A.Nodup → ∃ A', A'.Sublist A ∧ ∀ G', Kp G' → (∀ p ∈ A, p ∉ A' → G' p = H p) → OwnF (R' G') vs ds A'
  | _, _, _, .nil, _ => ⟨[], .slnil, fun _ _ _ => .nil⟩
  | _, _, _, .cons (A := A0) (As := As) r t, nd => by
    obtain ⟨n1, n2, dj⟩ := List.nodup_append.mp nd
    obtain ⟨A1, s1, k1⟩ := h _ _ _ _ r n1
    obtain ⟨A2, s2, k2⟩ := OwnF.frz h t n2
    exact ⟨A1 ++ A2, s1.append s2, fun G' e k => .cons (k1 G' e fun p hp np => k p (List.mem_append_left _ hp) fun z => (List.mem_append.mp z).elim np fun y => dj p hp p (s2.subset y) rfl)
      (k2 G' e fun p hp np => k p (List.mem_append_right _ hp) fun z => (List.mem_append.mp z).elim (fun y => dj p (s1.subset y) p hp rfl) np)⟩
theorem Own.frz : ∀ {s' s : Sh}, ShLe s' s → ∀ {v d A}, Own K cl G H s v d A → A.Nodup → ∃ A', A'.Sublist A ∧ ∀ G', Ex G G' → (∀ p ∈ A, p ∉ A' → G' p = H p) → Own K cl G' H s' v d A' := by
  intro s' s le
  induction le with
  | refl s => exact fun ow nd => ⟨_, .refl _, fun G' e _ => ow.step e fun p _ u _ hu => hu⟩
  | v s => exact fun ow nd => ⟨[], List.nil_sublist _, fun G' e k => ⟨rfl, ow.rep e fun p hp => k p hp (fun z => nomatch z)⟩⟩
  | @l a b le ih =>
    rintro v d A ⟨p, vs, ds, A', h1, h2, h3, rfl, h5⟩ nd
    obtain ⟨np, nd2⟩ := List.nodup_cons.mp nd
    obtain ⟨A2, s2, k2⟩ := h5.frz (R' := fun G' => Own K cl G' H a) (Kp := fun G' => Ex G G') (H := H) (fun v d A o n => ih o n) nd2
    exact ⟨p :: A2, s2.cons_cons p, fun G' e k => ⟨p, vs, ds, A2, h1, h2, h3, rfl, k2 G' e fun q hq nq => k q (List.mem_cons_of_mem _ hq) fun z => (List.mem_cons.mp z).elim (fun y => np (by rw [← y]; exact hq)) nq⟩⟩
  | @j po f g le ih =>
    rintro v d A ⟨p, dx, c, fs, ds, A', h1, hpo, h2, h3, rfl, h5⟩ nd
    obtain ⟨np, nd2⟩ := List.nodup_cons.mp nd
    obtain ⟨A2, s2, k2⟩ := h5.frz (R' := fun G' n => Own K cl G' H (f n)) (Kp := fun G' => Ex G G') (H := H) (fun n v d A o nn => ih n o nn) nd2
    exact ⟨p :: A2, s2.cons_cons p, fun G' e k => ⟨p, dx, c, fs, ds, A2, h1, hpo, h2, h3, rfl, k2 G' e fun q hq nq => k q (List.mem_cons_of_mem _ hq) fun z => (List.mem_cons.mp z).elim (fun y => np (by rw [← y]; exact hq)) nq⟩⟩
theorem Sig.frz (I : Sig K cl B G H S σ) {i : Nat} {sh sh' : Sh} {d : D} (h : S[i]? = some (.ow sh d)) (le : ShLe sh' sh) : ∃ G', Ex G G' ∧ Sig K cl B G' H (S.set i (.ow sh' d)) σ := by
  obtain ⟨v, A, hσ, ow, nd, out, cls⟩ := I.thru h
  obtain ⟨A', s, k⟩ := Own.frz le ow nd
  have eg : Ex G (fun b => if b ∈ A ∧ b ∉ A' then H b else G b) := fun a u e => by
    show (if a ∈ A ∧ a ∉ A' then H a else G a) = _
    rw [if_neg fun z => by rw [(out a z.1).1] at e; cases e]; exact e
  refine ⟨_, eg, cls _ H sh' d A' ⟨eg, ⟨fun a u _ e => ?_, fun a ps e => ?_⟩, fun a u e => ?_, fun a e => ?_⟩ (k _ eg fun p hp np => if_pos ⟨hp, np⟩) (s.nodup nd) fun p hp => ⟨?_, .inl (s.subset hp)⟩⟩
  · by_cases z : a ∈ A
    · rw [cutA_in z] at e; cases e
    · rw [cutA_out z] at e; exact e
  · by_cases z : a ∈ A
    · rw [cutA_in z] at e; cases e
    · rw [cutA_out z] at e; exact ⟨ps, e, id⟩
  · by_cases z : a ∈ A ∧ a ∉ A'
    · rw [if_pos z] at e; exact e
    · rw [if_neg z] at e; exact I.nxt.gh a u e
  · by_cases z : a ∈ A ∧ a ∉ A'
    · exact .inr (cutA_in z.1)
    · rw [if_neg z] at e; exact .inl e
  · show (if p ∈ A ∧ p ∉ A' then H p else G p) = none
    rw [if_neg fun z => z.2 hp]; exact (out p (s.subset hp)).1
/-! ### methods that change nothing -/
noncomputable def dMt (c : Nat) (m : Str) : D → Option D | .ob c' fs => if c' = c ∧ fs.lookup m = none then some (.ob c' fs) else none | _ => none
theorem FReps.none {m : Str} : ∀ {vs : List (Str × V)} {ds : List (Str × D)}, FReps K cl G vs ds → ds.lookup m = none → vs.lookup m = none
  | _, _, .nil, _ => rfl
  | _, _, .cons (n := g) r t, h => by
    rw [List.lookup_cons] at h ⊢
    cases e : m == g with
    | true => rw [e] at h; cases h
    | false => rw [e] at h; exact FReps.none t h
theorem OwnF.none {R : Str → V → D → List Addr → Prop} {m : Str} : ∀ {vs ds A}, OwnF R vs ds A → ds.lookup m = none → vs.lookup m = none
  | _, _, _, .nil, _ => rfl
  | _, _, _, .cons (n := g) r t, h => by
    rw [List.lookup_cons] at h ⊢
    cases e : m == g with
    | true => rw [e] at h; cases h
    | false => rw [e] at h; exact OwnF.none t h
structure ConM (P : Program) (w : World) (K : PySem.W.Frag) (cl : Cl) (mg : Str → Option Value) (base : Heap) (k : Nat) (c : Nat) (mn : Str) (f : List D → Option D) (fa : Addr) (fd : FuncData) (ps : List Str) : Prop where
  ok : FnOk P w K mg base CX0 k fa fd ps (spD K cl f)
  mt : Meth K (cl.c c) mn fa
  bd : Binds K fd ps []
variable {te ta : TE} {ts : TA} {m : Option D} {ms : Option (List D)} {E : XK}
theorem ev_meth {c : Nat} {mn : Str} {f : List D → Option D} (h : EV K cl te S m S1) (ha : EA K cl ts S1 ms S2) :
    EV K cl (tMeth (cl.c c) mn (spD K cl f) [] E te ts) S ((m.bind (dMt c mn)).bind fun x => ms.bind fun xs => f (x :: xs)) S2 := fun B G H σ I z e Q q => by
  obtain ⟨x, ex, e⟩ := bind_some e
  obtain ⟨d, ed, ex⟩ := bind_some ex
  obtain ⟨xs, exs, e3⟩ := bind_some e
  refine h B G H σ I d ed _ fun v G1 H1 I1 g1 h1 rv => ?_
  cases rv with
  | @ob a dx c' fs ds hg rs =>
    have e2 : (if c' = c ∧ ds.lookup mn = none then some (D.ob c' ds) else none) = some x := ex
    by_cases hc : c' = c ∧ ds.lookup mn = none
    · rw [if_pos hc] at e2
      cases e2
      obtain ⟨rfl, hn⟩ := hc
      refine ⟨a, dx, fs, rfl, I1.nxt.gh _ _ hg, rs.none hn, ?_⟩
      refine ha B G1 H1 σ I1 xs exs _ fun vs G2 H2 I2 g2 h2 rvs => ?_
      refine ⟨G2, _ :: xs, z, I2.nxt.gh, I2.tab, by rw [List.append_nil]; exact .cons (Rep.mono g2 (.ob hg rs)) rvs, e3, fun v G' H' nx r => ?_⟩
      exact q v G' H' (I2.step nx) ((g1.trans g2).trans nx.g) ((h1.trans h2).trans nx.h) r
    · rw [if_neg hc] at e2; cases e2
  | _ => cases ex
/-! ### methods that change their object -/
noncomputable def spO (K : PySem.W.Frag) (cl : Cl) (fs : Str → Sh) (m : D → List D → Option (D × D)) : Sp := fun vs H Q _ => ∃ G x vs' d ds A r, vs = x :: vs' ∧ Ex G H ∧ (∀ a ∈ cl.t, GxR.TabG H a ∧ G a = none) ∧ Own K cl G H (.j none fs) x d A ∧ A.Nodup ∧ (∀ p ∈ A, G p = none) ∧
  Reps K cl G vs' ds ∧ m d ds = some r ∧ ∀ v G' H' A', Nxt G (cutA H A) G' H' → Own K cl G' H' (.j none fs) x r.2 A' → A'.Nodup → (∀ p ∈ A', G' p = none ∧ (p ∈ A ∨ H p = none)) → Rep K cl G' v r.1 → Q v H'
structure ConO (P : Program) (w : World) (K : PySem.W.Frag) (cl : Cl) (mg : Str → Option Value) (base : Heap) (k : Nat) (c : Nat) (mn : Str) (fs : Str → Sh) (f : D → List D → Option (D × D)) (fa : Addr) (fd : FuncData) (ps : List Str) : Prop where
  ok : FnOk P w K mg base CX0 k fa fd ps (spO K cl fs f)
  mt : Meth K (cl.c c) mn fa
  bd : Binds K fd ps []
theorem Own.none_ {po : Option Addr} {fs : Str → Sh} {v : V} {d : D} {A : List Addr} (h : Own K cl G H (.j po fs) v d A) : Own K cl G H (.j none fs) v d A := by
  obtain ⟨p, dx, c, vs, ds, A', h1, hpo, h2, h3, h4, h5⟩ := h
  exact ⟨p, dx, c, vs, ds, A', h1, (fun q z => nomatch z), h2, h3, h4, h5⟩
theorem Own.some_ {po : Option Addr} {fs fs' : Str → Sh} {v : V} {d d' : D} {A A' : List Addr} (h : Own K cl G H (.j po fs) v d A) (h' : Own K cl G' H' (.j none fs') v d' A') : Own K cl G' H' (.j po fs') v d' A' := by
  obtain ⟨p, dx, c, vs, ds, A2, h1, hpo, _⟩ := h
  obtain ⟨p', dx', c', vs', ds', A3, k1, _, k2, k3, k4, k5⟩ := h'
  rw [h1] at k1; cases k1
  exact ⟨p, dx', c', vs', ds', A3, h1, hpo, k2, k3, k4, k5⟩
/-- slot i's object goes through a call of its method -/
theorem call_own {i c : Nat} {mn : Str} {po : Option Addr} {fs : Str → Sh} {d : D} {f : D → List D → Option (D × D)} (h0 : S[i]? = some (.ow (.j po fs) d)) (h1 : S1[i]? = some (.ow (.j po fs) d)) (ha : EA K cl ts S ms S1) :
    ∀ (B : Bs) (G H : Hp) (σ : L2.St), Sig K cl B G H S σ → ∀ r, ((dMt c mn d).bind fun x => ms.bind fun xs => f x xs) = some r → ∀ Q : VK,
      (∀ v G' H', Sig K cl B G' H' (S1.set i (.ow (.j po fs) r.2)) σ → Rep K cl G' v r.1 → Q v H') → tMeth (cl.c c) mn (spO K cl fs f) [] E (tVar i) ts σ H Q := fun B G H σ I r e Q q => by
  obtain ⟨x, ex, e⟩ := bind_some e
  obtain ⟨xs, exs, e3⟩ := bind_some e
  obtain ⟨v, A, hσ, ow, _, _, _⟩ := I.thru h0
  obtain ⟨p, dx, c', vs, ds, A', rfl, _, rfl, hp, _, of⟩ := ow
  have e2 : (if c' = c ∧ ds.lookup mn = none then some (D.ob c' ds) else none) = some x := ex
  by_cases hc : c' = c ∧ ds.lookup mn = none
  · rw [if_pos hc] at e2
    cases e2
    obtain ⟨rfl, hn⟩ := hc
    refine ⟨.ref p, hσ, p, dx, vs, rfl, hp, of.none hn, ?_⟩
    refine ha B G H σ I xs exs _ fun us G1 H1 I1 g1 h1' rs => ?_
    obtain ⟨v1, A1, hσ1, ow1, nd1, out1, cls⟩ := I1.thru h1
    rw [hσ] at hσ1; cases hσ1
    refine ⟨G1, .ref p, us, _, xs, A1, r, by rw [List.append_nil], I1.nxt.gh, I1.tab, ow1.none_, nd1, fun a ha => (out1 a ha).1, rs, e3, fun w G' H' A2 nx o2 nd2 new rv => ?_⟩
    exact q w G' H' (cls G' H' _ _ A2 nx (ow1.some_ o2) nd2 new) rv
  · rw [if_neg hc] at e2; cases e2
theorem sv_exprM {i c : Nat} {mn : Str} {po : Option Addr} {fs : Str → Sh} {d : D} {f : D → List D → Option (D × D)} (h0 : S[i]? = some (.ow (.j po fs) d)) (h1 : S1[i]? = some (.ow (.j po fs) d)) (ha : EA K cl ts S ms S1) :
    SV K cl (tDrop (tMeth (cl.c c) mn (spO K cl fs f) [] E (tVar i) ts)) S ((dMt c mn d).bind fun x => ms.bind fun xs => f x xs) (fun r => S1.set i (.ow (.j po fs) r.2)) := fun B G H σ I r e Dn q =>
  call_own h0 h1 ha B G H σ I r e _ fun v G' H' I' rv => q σ G' H' I'
end
/-! ### the body of such a method -/
inductive Fg (β γ : Type) where
  | nx (b : β) | rt (r : D × D) | bk (c : γ) | ct (c : γ)
section
variable (K : PySem.W.Frag) (cl : Cl) (xa : Addr) (fs : Str → Sh)
noncomputable def OEnd (B : Bs) (Dn : Ends) (r : D × D) : Prop := ∀ v G' H' S' σ', Sig K cl B G' H' S' σ' → S'[0]? = some (.ow (.j (some xa) fs) r.2) → Rep K cl G' v r.1 → Dn.rt v H'
noncomputable def GEnd {β γ : Type} (B : Bs) (post : β → List Sl) (out : γ → List Sl) (Dn : Ends) : Fg β γ → Prop
  | .nx b => ∀ σ' G' H', Sig K cl B G' H' (post b) σ' → Dn.nx σ' H'
  | .rt r => OEnd K cl xa fs B Dn r
  | .bk c => ∀ σ' G' H', Sig K cl B G' H' (out c) σ' → Dn.bk σ' H'
  | .ct c => ∀ σ' G' H', Sig K cl B G' H' (out c) σ' → Dn.ct σ' H'
noncomputable def QV {β γ : Type} (ts : TS) (S : List Sl) (m : Option (Fg β γ)) (post : β → List Sl) (out : γ → List Sl) : Prop := ∀ (B : Bs) (G H : Hp) (σ : L2.St), Sig K cl B G H S σ → ∀ f, m = some f → ∀ Dn : Ends,
  GEnd K cl xa fs B post out Dn f → ts Dn σ H
end
section
variable {K : PySem.W.Frag} {cl : Cl} {xa : Addr} {fs : Str → Sh} {S S1 S2 : List Sl} {te ta tb tc : TE} {t u tr : TS} {tt : TT} {m : Option D} {β γ δ : Type}
theorem OEnd.up {B : Bs} {G H : Hp} {Dn : Ends} {r : D × D} (n : Nxt B.G B.H G H) (h : OEnd K cl xa fs B Dn r) : OEnd K cl xa fs ⟨G, B.H⟩ Dn r := fun v G' H' S' σ' I e rv =>
  h v G' H' S' σ' ⟨n.base I.nxt, I.len, I.tab, I.slots⟩ e rv
theorem q_cons {mb : Option δ} {post : δ → List Sl} {k : δ → Option (Fg β γ)} {post2 : β → List Sl} {out : γ → List Sl} (h : SV K cl t S mb post) (r : ∀ b, QV K cl xa fs u (post b) (k b) post2 out) : QV K cl xa fs (tSeq t u) S (mb.bind k) post2 out := fun B G H σ I f e Dn q => by
  obtain ⟨b, eb, e⟩ := bind_some e
  refine h B G H σ I b eb { Dn with nx := u Dn } fun σ' G' H' I' => r b B G' H' σ' I' f e Dn ?_
  cases f <;> exact q
theorem q_ret {s : D} {post : β → List Sl} {out : γ → List Sl} (h : EV K cl te S m S1) (h0 : S1[0]? = some (.ow (.j (some xa) fs) s)) : QV K cl xa fs (tSeq (tRet te) tNever) S (m.map fun r => Fg.rt (r, s)) post out := fun B G H σ I f e Dn q => by
  obtain ⟨d, ed, rfl⟩ := Option.map_eq_some_iff.mp e
  exact h B G H σ I d ed _ fun v G' H' I' _ _ r => q v G' H' S1 σ I' h0 r
noncomputable def ggE : Fg Empty γ → Option (Fg β γ)
  | .nx b => nomatch b
  | .rt d => some (.rt d)
  | .bk c => some (.bk c)
  | .ct c => some (.ct c)
/-- how a method ends: by return, or behind its last statement -/
noncomputable def endO : Fg D Empty → Option (D × D)
  | .nx s => some (.non, s)
  | .rt r => some r
  | .bk c => nomatch c
  | .ct c => nomatch c
theorem start_own {G H : Hp} {p : Addr} {d : D} {A : List Addr} {vs' : List V} {ds : List D} {k : Nat} (gh : Ex G H) (tb : ∀ a ∈ cl.t, GxR.TabG H a ∧ G a = none) (ow : Own K cl G H (.j none fs) (.ref p) d A) (nd : A.Nodup) (gA : ∀ p ∈ A, G p = none) (rs : Reps K cl G vs' ds) :
    Sig K cl ⟨G, cutA H A⟩ G H (.ow (.j (some p) fs) d :: (ds.map .vl ++ List.replicate k .jk)) (some (.ref p) :: (vs'.map some ++ List.replicate k none)) := by
  have ow2 : Own K cl G H (.j (some p) fs) (.ref p) d A := by
    obtain ⟨p', dx, c, vs, ds, A', h1, hpo, h2, h3, h4, h5⟩ := ow
    cases h1
    exact ⟨p, dx, c, vs, ds, A', rfl, fun q z => by cases z; rfl, h2, h3, h4, h5⟩
  refine ⟨⟨Ex.refl _, ⟨fun a u _ e => ?_, fun a ps e => ?_⟩, gh, fun _ h => .inl h⟩, by simp [rs.length], tb, atA (fun _ => []) 0 A, fun i s hs => ?_, fun i j hij _ _ q hq => ?_⟩
  · by_cases z : a ∈ A
    · rw [show (⟨G, cutA H A⟩ : Bs).H a = none from cutA_in z] at e; cases e
    · rw [show (⟨G, cutA H A⟩ : Bs).H a = H a from cutA_out z] at e; exact e
  · by_cases z : a ∈ A
    · rw [show (⟨G, cutA H A⟩ : Bs).H a = none from cutA_in z] at e; cases e
    · rw [show (⟨G, cutA H A⟩ : Bs).H a = H a from cutA_out z] at e; exact ⟨ps, e, id⟩
  · cases i with
    | zero =>
      cases hs
      exact ⟨_, rfl, .ref p, rfl, by rw [atA_e rfl]; exact ow2, by rw [atA_e rfl]; exact nd, fun q hq => by rw [atA_e rfl] at hq; exact ⟨gA q hq, cutA_in hq⟩⟩
    | succ i =>
      obtain ⟨o, h1, h2⟩ := slot_start rs (i := i) (by simpa using hs)
      refine ⟨o, by simpa using h1, ?_⟩
      rcases h2 with rfl | ⟨v, d', rfl, rfl, rv⟩
      · rfl
      · exact ⟨rfl, v, rfl, rv⟩
  · cases i with
    | zero => rw [atA_n (fun z => hij z.symm)]; exact fun z => nomatch z
    | succ i => rw [atA_n (Nat.succ_ne_zero i)] at hq; cases hq
theorem meth_con {P : Program} {w : World} {mg : Str → Option Value} {base : Heap} {mn qual : Str} {st : Stmt} {fa : Addr} {fd : FuncData} {N ps : List Str} {k n c : Nat} {f : D → List D → Option (Fg D Empty)} {fs : Str → Sh}
    (F : Fun K mn qual st fa fd) (SC : FnScope N ps (defScope st)) (hn : ps.length = n + 1) (ar : ∀ d ds r, f d ds = some r → ds.length = n) (hm : Meth K (cl.c c) mn fa) (hb : Binds K fd ps [])
    (body : ∀ (cdv : Value) (A : Around) (outer : List Env) (s : Shared) (H : Hp) (E : XK), Room k (A.deeper (envOfC qual (defScope st) s.heap.objs.size fa cdv)) →
      ∃ t, PSs (cxOf CX0 P w K mg base N qual (defScope st) fa cdv A outer s H E).nox (defBody st) t ∧ ∀ (xa : Addr) (d : D) (ds : List D), ds.length = n →
        QV K cl xa fs t (.ow (.j (some xa) fs) d :: (ds.map .vl ++ List.replicate (N.length - (n + 1)) .jk)) (f d ds) (fun b => .ow (.j (some xa) fs) b :: List.replicate (n + (N.length - (n + 1))) .jk) (fun _ => [])) : ConO P w K cl mg base (k + 1) c mn fs (fun d ds => (f d ds).bind endO) fa fd ps := by
  refine ⟨F.ok SC (fun vs H Q E h => ?_) (fun cdv A outer s H vs Q E hr h => ?_), hm, hb⟩
  · obtain ⟨G, x, vs', d, ds, A, r, rfl, _, _, _, _, _, rs, e, _⟩ := h
    obtain ⟨f0, e, e2⟩ := bind_some e
    rw [List.length_cons, rs.length, ar d ds _ e, hn]
  · obtain ⟨G, x, vs', d, ds, A0, r, rfl, gh, tb, ow, nd, gA, rs, e, q⟩ := h
    obtain ⟨f0, e, e2⟩ := bind_some e
    obtain ⟨t, hp, ht⟩ := body cdv A outer s H E hr
    have hl := ar d ds _ e
    have hv : vs'.length = n := rs.length.trans hl
    obtain ⟨p, rfl⟩ : ∃ p, x = .ref p := by obtain ⟨p, _, _, _, _, _, h1, _⟩ := ow; exact ⟨p, h1⟩
    refine ⟨t, hp, ?_⟩
    have e0 : L2.start N (.ref p :: vs') = some (.ref p) :: (vs'.map some ++ List.replicate (N.length - (n + 1)) none) := by unfold L2.start; rw [List.length_cons, hv]; rfl
    rw [e0]
    have fin : ∀ v G' H' S' σ' s', Sig K cl ⟨G, cutA H A0⟩ G' H' S' σ' → S'[0]? = some (.ow (.j (some p) fs) s') → r.2 = s' → Rep K cl G' v r.1 → Q v H' := fun v G' H' S' σ' s' I' h0 er rv => by
      obtain ⟨v1, A1, hσ, ow1, nd1, out1, _⟩ := I'.thru h0
      have ev : v1 = .ref p := by obtain ⟨p', _, _, _, _, _, h1, hpo, _⟩ := ow1; rw [h1, hpo p rfl]
      subst ev
      refine q v G' H' A1 I'.nxt (by rw [er]; exact ow1.none_) nd1 (fun a ha => ⟨(out1 a ha).1, ?_⟩) rv
      have := (out1 a ha).2
      by_cases z : a ∈ A0
      · exact .inl z
      · rw [show (⟨G, cutA H A0⟩ : Bs).H a = H a from cutA_out z] at this; exact .inr this
    refine ht p d ds hl ⟨G, cutA H A0⟩ G H _ (start_own gh tb ow nd gA rs) _ e _ ?_
    cases f0 with
    | nx s' =>
      cases e2
      exact fun σ' G' H' I' => fin .non G' H' _ σ' s' I' rfl rfl .non
    | rt r' =>
      cases e2
      exact fun v G' H' S' σ' I' h0 rv => fin v G' H' S' σ' _ I' h0 rfl rv
    | bk c => exact nomatch c
    | ct c => exact nomatch c
/-! ### an object made that may yet change: its __init__ -/
noncomputable def spJ (K : PySem.W.Frag) (cl : Cl) (c : Nat) (fs : Str → Sh) (f : List D → Option D) : Sp := fun vs H Q _ => ∃ x dx vs' G ds d, vs = .ref x :: vs' ∧ H x = some (.ins (cl.c c) dx []) ∧ G x = none ∧ Ex G H ∧ (∀ a ∈ cl.t, GxR.TabG H a ∧ G a = none) ∧ Reps K cl G vs' ds ∧ f ds = some d ∧
  ∀ G' H' A', Nxt G (cutA H [x]) G' H' → Own K cl G' H' (.j none fs) (.ref x) d A' → A'.Nodup → (∀ p ∈ A', G' p = none ∧ (p = x ∨ H p = none)) → Q .non H'
structure ConJ (P : Program) (w : World) (K : PySem.W.Frag) (cl : Cl) (mg : Str → Option Value) (base : Heap) (k : Nat) (c : Nat) (x : Str) (fs : Str → Sh) (f : List D → Option D) (fa : Addr) (fd : FuncData) (ps : List Str) : Prop where
  ok : FnOk P w K mg base CX0 k fa fd ps (spJ K cl c fs f)
  mkc : Mk K (cl.c c) fa
  mg : mg x = some (.ref (cl.c c))
  bd : Binds K fd ps []
theorem evo_make {c : Nat} {f : List D → Option D} {ts : TA} {ms : Option (List D)} {E : XK} (ha : EA K cl ts S ms S1) : EVO K cl (.j none fs) (tMake (cl.c c) (spJ K cl c fs f) [] E ts) S (ms.bind f) S1 := fun B G H σ I z e Q q => by
  obtain ⟨ds, eds, e⟩ := bind_some e
  refine ha B G H σ I ds eds _ fun vs G1 H1 I1 g1 h1 rs => fun x dx hx hdx ne => ?_
  have gh := I1.nxt.gh
  have e1 : Ex H1 (upd (upd H1 dx (.own x)) x (.ins (cl.c c) dx [])) := (Ex.new hdx).trans (Ex.new (by rw [upd_ne (Ne.symm ne)]; exact hx))
  refine ⟨x, dx, vs ++ [], G1, ds, z, rfl, upd_same, fresh_back gh hx, gh.trans e1, fun a ha => ⟨((I1.tab a ha).1).imp fun ps h => ⟨e1 _ _ h.1, h.2⟩, (I1.tab a ha).2⟩, by rw [List.append_nil]; exact rs, e, fun G' H' A' nx ow nd new => ⟨rfl, ?_⟩⟩
  have e2 : Ex H1 (cutA (upd (upd H1 dx (.own x)) x (.ins (cl.c c) dx [])) [x]) := fun a u h => by
    rw [cutA_out (fun z => by rw [List.mem_singleton.mp z, hx] at h; cases h)]; exact e1 a u h
  have n2 : Nxt G1 H1 G' H' := ⟨nx.g, (Ex2.of e2).trans nx.h, nx.gh, fun p hp => (nx.fr p hp).imp id fun h => (Ex2.of e2).back h⟩
  refine q _ G' H' (I1.push n2 ow nd fun p hp => ⟨?_, (new p hp).1⟩) (g1.trans n2.g) (h1.trans n2.h)
  rcases (new p hp).2 with z | z
  · rw [z]; exact hx
  · exact (Ex2.of e1).back z
theorem initJ_con {P : Program} {w : World} {mg : Str → Option Value} {base : Heap} {x qual : Str} {st : Stmt} {fa : Addr} {fd : FuncData} {N ps : List Str} {k n c : Nat} {f : List D → Option D} {fs0 : Str → Sh}
    (F : Fun K "__init__" qual st fa fd) (SC : FnScope N ps (defScope st)) (hn : ps.length = n + 1) (ar : ∀ ds d, f ds = some d → ds.length = n) (mk : Mk K (cl.c c) fa) (hm : mg x = some (.ref (cl.c c))) (hb : Binds K fd ps [])
    (body : ∀ (cdv : Value) (A : Around) (outer : List Env) (s : Shared) (H : Hp) (E : XK), Room k (A.deeper (envOfC qual (defScope st) s.heap.objs.size fa cdv)) →
      ∃ t, PSs (cxOf CX0 P w K mg base N qual (defScope st) fa cdv A outer s H E).nox (defBody st) t ∧ ∀ (xa : Addr) (ds : List D), ds.length = n →
        SV K cl t (.ow (.j (some xa) fs0) (.ob c []) :: (ds.map .vl ++ List.replicate (N.length - (n + 1)) .jk)) (f ds) (fun b => .ow (.j (some xa) fs) b :: List.replicate (n + (N.length - (n + 1))) .jk)) : ConJ P w K cl mg base (k + 1) c x fs f fa fd ps := by
  refine ⟨F.ok SC (fun vs H Q E h => ?_) (fun cdv A outer s H vs Q E hr h => ?_), mk, hm, hb⟩
  · obtain ⟨x, dx, vs', G, ds, d, rfl, _, _, _, _, rs, e, _⟩ := h
    rw [List.length_cons, rs.length, ar ds _ e, hn]
  · obtain ⟨x, dx, vs', G, ds, d, rfl, hx, gx, gh, tb, rs, e, q⟩ := h
    obtain ⟨t, hp, ht⟩ := body cdv A outer s H E hr
    have hl := ar ds _ e
    have hv : vs'.length = n := rs.length.trans hl
    refine ⟨t, hp, ?_⟩
    have e0 : L2.start N (.ref x :: vs') = some (.ref x) :: (vs'.map some ++ List.replicate (N.length - (n + 1)) none) := by unfold L2.start; rw [List.length_cons, hv]; rfl
    rw [e0]
    refine ht x ds hl ⟨G, cutA H [x]⟩ G H _ (start_own (A := [x]) gh tb ⟨x, dx, c, [], [], [], rfl, fun q z => (nomatch z), rfl, hx, rfl, .nil⟩ (by simp) (fun p hp => by rw [List.mem_singleton.mp hp]; exact gx) rs) _ e _ fun σ' G' H' I' => ?_
    obtain ⟨v1, A1, hσ, ow1, nd1, out1, _⟩ := I'.thru (i := 0) rfl
    have ev : v1 = .ref x := by obtain ⟨p', _, _, _, _, _, h1, hpo, _⟩ := ow1; rw [h1, hpo x rfl]
    subst ev
    refine q G' H' A1 I'.nxt ow1.none_ nd1 fun a ha => ⟨(out1 a ha).1, ?_⟩
    have := (out1 a ha).2
    by_cases z : a ∈ [x]
    · exact .inl (List.mem_singleton.mp z)
    · rw [show (⟨G, cutA H [x]⟩ : Bs).H a = H a from cutA_out z] at this; exact .inr this
end
end Oh
namespace Oh
open PySem PySem.W PySem.Spec PyProof.Rows L2 Evl
/-! ### enumerate(zip(a, b)): the inner pairs stay out, so zip makes new ones, or finds the last one gone -/
section
variable {prog : Program} {w : World} {A : Around} {E : Value → Shared → Prop} {s : Shared}
noncomputable abbrev ZG (h : Heap) (z TI TO : Addr) (v : Value) (f : Bool) : Prop := h.get? z = some { cls := .type "zip", dict := none, data := .fields #[v, .bool f, .bool false, .ref TI, .ref TO], slots := #[] }
structure ZSt (h : Heap) (z TI TO i1 i2 l1 l2 : Addr) (k : Nat) : Prop where
  z : ∃ v f, ZG h z TI TO v f ∧ ((v = .none ∧ f = false) ∨ ∃ T : Addr, v = rawInt T)
  ti : IsPair h TI (.ref i1) (.ref i2)
  to : ∃ a b, IsPair h TO a b
  a : h.IsListIter i1 l1 k
  b : h.IsListIter i2 l2 k
theorem ZSt.lt {h : Heap} {z TI TO i1 i2 l1 l2 : Addr} {k : Nat} (st : ZSt h z TI TO i1 i2 l1 l2 k) : ∀ b ∈ [z, TI, TO, i1, i2], b < h.objs.size := by
  obtain ⟨⟨v, f, hz, hv⟩, ti, ⟨a, b, to⟩, ⟨_, j1, _⟩, ⟨_, j2, _⟩⟩ := st
  intro b hb
  have e' : b = z ∨ b = TI ∨ b = TO ∨ b = i1 ∨ b = i2 := by simpa using hb
  rcases e' with t | t | t | t | t <;> rw [t] <;> first | exact Heap.lt_size hz | exact Heap.lt_size ti | exact Heap.lt_size to | exact Heap.lt_size j1 | exact Heap.lt_size j2
end
section
variable {prog : Program} {w : World} {A : Around} {E : Value → Shared → Prop} {s : Shared}
end
end Oh
namespace Oh
open PySem PySem.Spec PyProof.Rows L2 Evl
section
variable {K : PySem.W.Frag} {cl : Cl} {G G' H H' : Hp} {B : Bs} {S S1 S2 S3 : List Sl} {σ : L2.St} {te ta tb tc : TE} {m n o : Option D} {β γ : Type}
/-! ### what is owned is given away ahead of a statement -/
theorem sv_shr {t : TS} {mb : Option β} {post : β → List Sl} {i : Nat} {sh : Sh} {d : D} (h : S[i]? = some (.ow sh d)) (k : SV K cl t (S.set i (.vl d)) mb post) : SV K cl t S mb post := fun B G H σ I b e Dn q => by
  obtain ⟨_, G1, _, _, _, I1⟩ := I.share h
  exact k B G1 H σ I1 b e Dn q
end
section
variable {K : PySem.W.Frag} {cl : Cl} {S S1 S2 : List Sl} {te tk : TE} {m n : Option D}
end
end Oh
namespace Oh
open PySem PySem.Spec PyProof.Rows L2 Evl
/-! ### a comprehension that reads an owned thing within -/
section
variable {K : PySem.W.Frag} {cl : Cl} {G G' H H' : Hp} {B : Bs} {S S1 S2 S3 : List Sl} {σ : L2.St} {te : TE} {tt : TT}
/-- what is owned is told by the heap -/
theorem OwnL.det {R R' : V → D → List Addr → Prop} (h : ∀ v d d' A A', R v d A → R' v d' A' → A = A') : ∀ {vs ds ds' A A'}, OwnL R vs ds A → OwnL R' vs ds' A' → A = A'
  | _, _, _, _, _, .nil, .nil => rfl
  | _, _, _, _, _, .cons r t, .cons r' t' => by rw [h _ _ _ _ _ r r', OwnL.det h t t']
theorem OwnF.det {R R' : Str → V → D → List Addr → Prop} (h : ∀ n v d d' A A', R n v d A → R' n v d' A' → A = A') : ∀ {vs ds ds' A A'}, OwnF R vs ds A → OwnF R' vs ds' A' → A = A'
  | _, _, _, _, _, .nil, .nil => rfl
  | _, _, _, _, _, .cons r t, .cons r' t' => by rw [h _ _ _ _ _ _ r r', OwnF.det h t t']
theorem OwnT.det {R R' : Nat → V → D → List Addr → Prop} (h : ∀ n v d d' A A', R n v d A → R' n v d' A' → A = A') : ∀ {n vs ds ds' A A'}, OwnT R n vs ds A → OwnT R' n vs ds' A' → A = A'
  | _, _, _, _, _, _, .nil, .nil => rfl
  | _, _, _, _, _, _, .cons r t, .cons r' t' => by rw [h _ _ _ _ _ _ r r', OwnT.det h t t']
mutual
theorem OwnD.det (g : Ex G H) (g' : Ex G' H) : ∀ {v : V} {d : D} {A : List Addr}, OwnD G H v d A → ∀ {d' : D} {A' : List Addr}, OwnD G' H v d' A' → A = A'
  | _, _, _, .non, _, _, h' => by cases h'; rfl
  | _, _, _, .bl, _, _, h' => by cases h'; rfl
  | _, _, _, .int, _, _, h' => by cases h'; rfl
  | _, _, _, .str, _, _, h' => by cases h'; rfl
  | _, _, _, .lst h r, _, _, h' => by
    cases h' with
    | lst k r' =>
      rw [h] at k; cases k
      rw [OwnDs.det g g' r r']
    | tup k r' =>
      have e1 := g' _ _ k
      rw [h] at e1; cases e1
  | _, _, _, .tup h r, _, _, h' => by
    cases h' with
    | lst k r' =>
      have e1 := g _ _ h
      rw [k] at e1; cases e1
    | tup k r' =>
      have e1 := g _ _ h
      rw [g' _ _ k] at e1; cases e1
      exact OwnDs.det g g' r r'
theorem OwnDs.det (g : Ex G H) (g' : Ex G' H) : ∀ {v : List V} {d : List D} {A : List Addr}, OwnDs G H v d A → ∀ {d' : List D} {A' : List Addr}, OwnDs G' H v d' A' → A = A'
  | _, _, _, .nil, _, _, h' => by cases h'; rfl
  | _, _, _, .cons r t, _, _, h' => by
    cases h' with
    | cons r' t' => rw [OwnD.det g g' r r', OwnDs.det g g' t t']
end
theorem Own.det (g : Ex G H) (g' : Ex G' H) : ∀ {sh : Sh} {v : V} {d d' : D} {A A' : List Addr}, Own K cl G H sh v d A → Own K cl G' H sh v d' A' → A = A'
  | .v, _, _, _, _, _, h, h' => by rw [h.1, h'.1]
  | .l e, _, _, _, _, _, ⟨p, vs, ds, A1, rfl, _, h3, rfl, h5⟩, ⟨p', vs', ds', A1', e', _, h3', rfl, h5'⟩ => by
    cases e'
    rw [h3] at h3'; cases h3'
    have := OwnL.det (R := Own K cl G H e) (R' := Own K cl G' H e) (fun v d d' A A' r r' => Own.det g g' (sh := e) r r') h5 h5'
    rw [this]
  | .i p, _, _, _, _, _, ⟨dx, c, fs, ds, h1, h2, h3, h4, h5⟩, ⟨dx', c', fs', ds', k1, k2, k3, k4, k5⟩ => by rw [h4, k4]
  | .j po f, _, _, _, _, _, ⟨p, dx, c, vs, ds, A1, rfl, _, _, h3, rfl, h5⟩, ⟨p', dx', c', vs', ds', A1', e', _, _, h3', rfl, h5'⟩ => by
    cases e'
    rw [h3] at h3'
    injection h3' with h3'
    injection h3' with _ _ e3
    subst e3
    have := OwnF.det (R := fun n => Own K cl G H (f n)) (R' := fun n => Own K cl G' H (f n)) (fun n v d d' A A' r r' => Own.det g g' (sh := f n) r r') h5 h5'
    rw [this]
  | .t f, _, _, _, _, _, ⟨p, vs, ds, rfl, _, h3, h5⟩, ⟨p', vs', ds', e', _, h3', h5'⟩ => by
    cases e'
    have e1 := g _ _ h3
    rw [g' _ _ h3'] at e1; cases e1
    exact OwnT.det (R := fun n => Own K cl G H (f n)) (R' := fun n => Own K cl G' H (f n)) (fun n v d d' A A' r r' => Own.det g g' (sh := f n) r r') h5 h5'
  | .d, _, _, _, _, _, h, h' => OwnD.det g g' h h'
end
end Oh
namespace Oh
open PySem PySem.Spec PyProof.Rows L2 Evl
/-! ### shapes of fields, written as lists -/
noncomputable def shF (l : List (Str × Sh)) (n : Str) : Sh := (l.lookup n).getD .v
section
variable {K : PySem.W.Frag} {cl : Cl} {S S1 S2 S3 : List Sl} {te tk : TE} {m n : Option D} {i : Nat} {mp : Option (List Stp)}
/-- an EVO given away at once -/
theorem EVO.ev {sh : Sh} (h : EVO K cl sh te S m S1) : EV K cl te S m S1 := fun B G H σ I d e Q q => by
  refine h B G H σ I d e Q fun v G' H' I' g1 h1 => ?_
  have hi : (S1 ++ [Sl.ow sh d])[S1.length]? = some (.ow sh d) := by rw [List.getElem?_append_right (Nat.le_refl _), Nat.sub_self]; rfl
  obtain ⟨w, G2, hw, g2, rw2, I2⟩ := I'.share hi
  have ln : σ.length = S1.length := by have := I'.len; rw [List.length_append, List.length_append] at this; exact Nat.add_right_cancel this
  rw [List.getElem?_append_right (by rw [ln]; exact Nat.le_refl _), ln, Nat.sub_self] at hw
  cases hw
  have e1 : (S1 ++ [Sl.ow sh d]).set S1.length (.vl d) = S1 ++ [Sl.vl d] := by rw [List.set_append_right _ _ (Nat.le_refl _), Nat.sub_self]; rfl
  rw [e1] at I2
  obtain ⟨AA, hs, ap⟩ := I2.slots
  have I3 : Sig K cl B G2 H' S1 σ := ⟨I2.nxt, ln, I2.tab, AA, fun j s hj => by
    have hl2 := (List.getElem?_eq_some_iff.mp hj).1
    obtain ⟨o, e1, e2⟩ := hs j s (by rw [List.getElem?_append_left hl2]; exact hj)
    rw [List.getElem?_append_left (by rw [ln]; exact hl2)] at e1
    exact ⟨o, e1, e2⟩, fun j k ne hj hk => ap j k ne (by rw [List.length_append]; exact Nat.lt_succ_of_lt hj) (by rw [List.length_append]; exact Nat.lt_succ_of_lt hk)⟩
  exact q v G2 H' I3 (g1.trans g2) h1 rw2
end
section
variable {X : Cx} (K : PySem.W.Frag) {e e2 : Expr} {ta : TA} {p pos p2 pos2 tpos : Pos} {elts : List Expr} {kk : Nat}
end
noncomputable def own0 (f : D → Option (Fg D Empty)) : D → List D → Option (Fg D Empty) | d, [] => f d | _, _ => none
noncomputable def own1 (f : D → D → Option (Fg D Empty)) : D → List D → Option (Fg D Empty) | d, [a] => f d a | _, _ => none
theorem arO0 {f : D → Option (Fg D Empty)} : ∀ d ds r, own0 f d ds = some r → ds.length = 0 := fun d ds r h => by
  unfold own0 at h; split at h
  · rfl
  · cases h
theorem arO1 {f : D → D → Option (Fg D Empty)} : ∀ d ds r, own1 f d ds = some r → ds.length = 1 := fun d ds r h => by
  unfold own1 at h; split at h
  · rfl
  · cases h
theorem pure_con {P : Program} {w : World} {K : PySem.W.Frag} {cl : Cl} {mg : Str → Option Value} {base : Heap} {mn qual : Str} {st : Stmt} {fa : Addr} {fd : FuncData} {N ps : List Str} {k n c : Nat} {f : List D → Option D}
    (F : Fun K mn qual st fa fd) (SC : FnScope N ps (defScope st)) (hn : ps.length = n) (ar : ∀ ds d, f ds = some d → ds.length = n) (hm : Meth K (cl.c c) mn fa) (hb : Binds K fd ps [])
    (body : ∀ (cdv : Value) (A : Around) (outer : List Env) (s : Shared) (H : Hp) (E : XK), Room k (A.deeper (envOfC qual (defScope st) s.heap.objs.size fa cdv)) →
      ∃ t, PSs (cxOf CX0 P w K mg base N qual (defScope st) fa cdv A outer s H E).nox (defBody st) t ∧ ∀ ds : List D, ds.length = n → TV K cl t (ds.map .vl ++ List.replicate (N.length - n) .jk) true (f ds)) : ConM P w K cl mg base (k + 1) c mn f fa fd ps := by
  refine ⟨F.ok SC (fun vs H Q E h => ?_) (fun cdv A outer s H vs Q E hr h => ?_), hm, hb⟩
  · obtain ⟨G, ds, d, _, _, rs, e, _⟩ := h
    rw [rs.length, ar ds d e, hn]
  · obtain ⟨G, ds, d, gh, tb, rs, e, q⟩ := h
    obtain ⟨t, hp, ht⟩ := body cdv A outer s H E hr
    have hl := ar ds d e
    have hv : vs.length = n := rs.length.trans hl
    refine ⟨t, hp, ?_⟩
    have e0 : L2.start N vs = vs.map some ++ List.replicate (N.length - n) none := by unfold L2.start; rw [hv]
    rw [e0]
    refine ht ds hl ⟨G, H⟩ G H _ ⟨Nxt.refl gh, by simp [rs.length], tb, fun _ => [], fun i s hs => ?_, fun _ _ _ _ _ _ z => nomatch z⟩ d e _ (fun v G' H' nx r => q v G' H' nx r) (fun _ hd σ' G' H' nx => ?_)
    · obtain ⟨o, h1, h2⟩ := slot_start rs hs
      refine ⟨o, h1, ?_⟩
      rcases h2 with rfl | ⟨v, d', rfl, rfl, rv⟩
      · rfl
      · exact ⟨rfl, v, rfl, rv⟩
    · subst hd
      exact q .non G' H' nx .non
section
variable {K : PySem.W.Frag} {cl : Cl} {S S1 S2 : List Sl} {te : TE} {m : Option D}
end
end Oh
namespace PySem.W
open PySem PySem.Calls
end PySem.W
namespace Oh
open PySem PySem.Spec PyProof.Rows L2 Evl
section
variable {K : PySem.W.Frag} {cl : Cl}
end
end Oh
namespace Oh
open PySem PySem.Spec PyProof.Rows L2 Evl
/-! ### values that are new at any depth: all lists and tuples are owned -/
mutual
inductive OwnA (H : Hp) : V → D → List Addr → Prop
  | non : OwnA H .non .non []
  | bl {b : Bool} : OwnA H (.bl b) (.bl b) []
  | int {i : Int} : OwnA H (.int i) (.int i) []
  | str {x : Str} : OwnA H (.str x) (.str x) []
  | lst {p : Addr} {vs : List V} {ds : List D} {A : List Addr} : H p = some (.lst vs) → OwnAs H vs ds A → OwnA H (.ref p) (.lst ds) (p :: A)
  | tup {p : Addr} {vs : List V} {ds : List D} {A : List Addr} : H p = some (.tup vs) → OwnAs H vs ds A → OwnA H (.ref p) (.tup ds) (p :: A)
inductive OwnAs (H : Hp) : List V → List D → List Addr → Prop
  | nil : OwnAs H [] [] []
  | cons {v : V} {d : D} {A : List Addr} {vs : List V} {ds : List D} {As : List Addr} : OwnA H v d A → OwnAs H vs ds As → OwnAs H (v :: vs) (d :: ds) (A ++ As)
end
section
variable {K : PySem.W.Frag} {cl : Cl} {G G' H H' : Hp} {B : Bs} {S S1 S2 S3 : List Sl} {σ : L2.St} {te ta tb : TE} {tt : TT} {m n : Option D} {t u : TS}
mutual
theorem OwnA.step : ∀ {v d A}, (∀ p ∈ A, ∀ (u : HO) [NT u], H p = some u → H' p = some u) → OwnA H v d A → OwnA H' v d A
  | _, _, _, _, .non => .non
  | _, _, _, _, .bl => .bl
  | _, _, _, _, .int => .int
  | _, _, _, _, .str => .str
  | _, _, _, k, .lst h r => .lst (k _ List.mem_cons_self _ h) (OwnAs.step (fun p hp => k p (List.mem_cons_of_mem _ hp)) r)
  | _, _, _, k, .tup h r => .tup (k _ List.mem_cons_self _ h) (OwnAs.step (fun p hp => k p (List.mem_cons_of_mem _ hp)) r)
theorem OwnAs.step : ∀ {v d A}, (∀ p ∈ A, ∀ (u : HO) [NT u], H p = some u → H' p = some u) → OwnAs H v d A → OwnAs H' v d A
  | _, _, _, _, .nil => .nil
  | _, _, _, k, .cons h r => .cons (OwnA.step (fun p hp => k p (List.mem_append_left _ hp)) h) (OwnAs.step (fun p hp => k p (List.mem_append_right _ hp)) r)
end
mutual
theorem OwnA.inH : ∀ {v d A}, OwnA H v d A → ∀ p ∈ A, H p ≠ none
  | _, _, _, .non, _, z => nomatch z
  | _, _, _, .bl, _, z => nomatch z
  | _, _, _, .int, _, z => nomatch z
  | _, _, _, .str, _, z => nomatch z
  | _, _, _, .lst h r, p, z => (List.mem_cons.mp z).elim (fun e => by rw [e, h]; exact fun z => nomatch z) (OwnAs.inH r p)
  | _, _, _, .tup h r, p, z => (List.mem_cons.mp z).elim (fun e => by rw [e, h]; exact fun z => nomatch z) (OwnAs.inH r p)
theorem OwnAs.inH : ∀ {v d A}, OwnAs H v d A → ∀ p ∈ A, H p ≠ none
  | _, _, _, .nil, _, z => nomatch z
  | _, _, _, .cons h r, p, z => (List.mem_append.mp z).elim (OwnA.inH h p) (OwnAs.inH r p)
end
theorem OwnAs.len : ∀ {vs ds A}, OwnAs H vs ds A → vs.length = ds.length
  | _, _, _, .nil => rfl
  | _, _, _, .cons _ r => congrArg (· + 1) r.len
theorem OwnAs.snoc : ∀ {vs ds A v d A2}, OwnAs H vs ds A → OwnA H v d A2 → OwnAs H (vs ++ [v]) (ds ++ [d]) (A ++ A2)
  | _, _, _, _, _, _, .nil, r => by
    have := OwnAs.cons r (OwnAs.nil (H := H))
    rw [List.append_nil] at this; exact this
  | _, _, _, _, _, _, .cons h t, r => by
    rw [List.append_assoc]
    exact .cons h (OwnAs.snoc t r)
mutual
theorem OwnA.rep : ∀ {v d A}, (∀ p ∈ A, G' p = H p) → OwnA H v d A → Rep K cl G' v d
  | _, _, _, _, .non => .non
  | _, _, _, _, .bl => .bl
  | _, _, _, _, .int => .int
  | _, _, _, _, .str => .str
  | _, _, _, k, .lst h r => .lst ((k _ List.mem_cons_self).trans h) (OwnAs.rep (fun p hp => k p (List.mem_cons_of_mem _ hp)) r)
  | _, _, _, k, .tup h r => .tup (st_of ((k _ List.mem_cons_self).trans h)) (OwnAs.rep (fun p hp => k p (List.mem_cons_of_mem _ hp)) r)
theorem OwnAs.rep : ∀ {v d A}, (∀ p ∈ A, G' p = H p) → OwnAs H v d A → Reps K cl G' v d
  | _, _, _, _, .nil => .nil
  | _, _, _, k, .cons h r => .cons (OwnA.rep (fun p hp => k p (List.mem_append_left _ hp)) h) (OwnAs.rep (fun p hp => k p (List.mem_append_right _ hp)) r)
end
/-- data of a shape: lists to its depth -/
noncomputable def fitB : Sh → D → Bool
  | .v, _ => true
  | .l e, .lst ds => ds.all (fitB e)
  | _, _ => false
noncomputable def fitD (sh : Sh) (d : D) : Option D := if fitB sh d = true then some d else none
theorem OwnA.frz : ∀ {sh : Sh} {v d A}, fitB sh d = true → OwnA H v d A → A.Nodup → ∃ A', A'.Sublist A ∧ ∀ G', (∀ p ∈ A, p ∉ A' → G' p = H p) → Own K cl G' H sh v d A'
  | .v, v, d, A, _, o, _ => ⟨[], List.nil_sublist _, fun G' k => ⟨rfl, o.rep fun p hp => k p hp (fun z => nomatch z)⟩⟩
  | .l e, v, d, A, f, o, nd => by
    cases o with
    | lst h r =>
      rename_i p vs ds A
      obtain ⟨np, nd2⟩ := List.nodup_cons.mp nd
      have f' : ∀ x ∈ ds, fitB e x = true := List.all_eq_true.mp f
      have key : ∀ {vs ds A}, OwnAs H vs ds A → (∀ x ∈ ds, fitB e x = true) → A.Nodup → ∃ A', A'.Sublist A ∧ ∀ G', (∀ p ∈ A, p ∉ A' → G' p = H p) → OwnL (Own K cl G' H e) vs ds A' := by
        clear nd np nd2 f f' r h
        intro vs ds
        induction ds generalizing vs with
        | nil => intro A r _ _; cases r; exact ⟨[], .slnil, fun _ _ => .nil⟩
        | cons d0 ds ih =>
          intro A r hf nd
          cases r with
          | cons o t =>
            rename_i v0 A0 vs0 As
            obtain ⟨n1, n2, dj⟩ := List.nodup_append.mp nd
            obtain ⟨A1, s1, k1⟩ := OwnA.frz (sh := e) (hf _ List.mem_cons_self) o n1
            obtain ⟨A2, s2, k2⟩ := ih t (fun x hx => hf x (List.mem_cons_of_mem _ hx)) n2
            exact ⟨A1 ++ A2, s1.append s2, fun G' k => .cons (k1 G' fun p hp np => k p (List.mem_append_left _ hp) fun z => (List.mem_append.mp z).elim np fun y => dj p hp p (s2.subset y) rfl)
              (k2 G' fun p hp np => k p (List.mem_append_right _ hp) fun z => (List.mem_append.mp z).elim (fun y => dj p (s1.subset y) p hp rfl) np)⟩
      obtain ⟨A2, s2, k2⟩ := key r f' nd2
      exact ⟨p :: A2, s2.cons_cons p, fun G' k => ⟨p, vs, ds, A2, rfl, rfl, h, rfl, k2 G' fun q hq nq => k q (List.mem_cons_of_mem _ hq) fun z => (List.mem_cons.mp z).elim (fun y => np (by rw [← y]; exact hq)) nq⟩⟩
    | _ => cases f
  | .i _, v, d, A, f, o, _ => by cases f
  | .j _ _, v, d, A, f, o, _ => by cases f
  | .t _, v, d, A, f, o, _ => by cases f
/-- a new value, all of it owned -/
noncomputable def EVA (K : PySem.W.Frag) (cl : Cl) (te : TE) (S : List Sl) (m : Option D) (S' : List Sl) : Prop := ∀ (B : Bs) (G H : Hp) (σ : L2.St), Sig K cl B G H S σ → ∀ d, m = some d → ∀ Q : VK,
  (∀ v A G1 H1 G' H', Sig K cl B G1 H1 S' σ → Ex G G1 → Ex2 H H1 → Nxt G1 H1 G' H' → OwnA H' v d A → A.Nodup → (∀ p ∈ A, H1 p = none ∧ G' p = none) → Q v H') → te σ H Q
/-- part of it is given away -/
theorem nxt_part {A A' : List Addr} (n : Nxt G H G' H') (h : ∀ p ∈ A, H p = none ∧ G' p = none) : Nxt G H (fun b => if b ∈ A ∧ b ∉ A' then H' b else G' b) H' :=
  ⟨n.g.trans fun a u e => by
    show (if a ∈ A ∧ a ∉ A' then H' a else G' a) = _
    rw [if_neg fun z => by rw [(h a z.1).2] at e; cases e]; exact e, n.h, fun a u e => by
    by_cases z : a ∈ A ∧ a ∉ A'
    · rw [if_pos z] at e; exact e
    · rw [if_neg z] at e; exact n.gh a u e, fun a e => by
    by_cases z : a ∈ A ∧ a ∉ A'
    · exact .inr (h a z.1).1
    · rw [if_neg z] at e; exact n.fr a e⟩
theorem EVA.evo {sh : Sh} (h : EVA K cl te S m S1) : EVO K cl sh te S (m.bind (fitD sh)) S1 := fun B G H σ I z e Q q => by
  obtain ⟨d, ed, e⟩ := bind_some e
  unfold fitD at e
  split at e
  · rename_i hf
    obtain rfl := Option.some.inj e
    refine h B G H σ I d ed _ fun v A G1 H1 G' H' I1 g1 h1 nx ow nd out => ?_
    obtain ⟨A', s, k⟩ := OwnA.frz (K := K) (cl := cl) hf ow nd
    have n2 := nxt_part (A' := A') nx out
    refine q v _ H' (I1.push n2 (k _ fun p hp np => if_pos ⟨hp, np⟩) (s.nodup nd) fun p hp => ⟨(out p (s.subset hp)).1, ?_⟩) (g1.trans n2.g) (h1.trans n2.h)
    show (if p ∈ A ∧ p ∉ A' then H' p else G' p) = none
    rw [if_neg fun z => z.2 hp]; exact (out p (s.subset hp)).2
  · cases e
end
end Oh
namespace Oh
open PySem PySem.Spec PyProof.Rows L2 Evl
section
variable {P : Program} {w : World} {K : PySem.W.Frag} {cl : Cl} {mg : Str → Option Value} {base : Heap} {C : Addr} {E : XK} {H0 : Hp}
end
end Oh
namespace Oh
open PySem PySem.Spec PyProof.Rows L2 Evl
section
variable {X : Cx} {cl : Cl} {C C1 C2 C3 : Addr} {i : Nat} {fx : List D → Bool}
end
end Oh
namespace Oh
open PySem PySem.Spec PyProof.Rows L2 Evl
section
variable {K : PySem.W.Frag} {cl : Cl} {H0 : Hp} {C : Addr} {E : XK}
end
end Oh
namespace Oh
open PySem PySem.Spec PyProof.Rows L2 Evl
/-! ### tuples that hold what is owned -/
noncomputable def ovr (H0 H : Hp) (A : List Addr) : Hp := fun p => if p ∈ A then H p else H0 p
theorem ovr_in {H0 H : Hp} {A : List Addr} {p : Addr} (h : p ∈ A) : ovr H0 H A p = H p := if_pos h
theorem ovr_out {H0 H : Hp} {A : List Addr} {p : Addr} (h : p ∉ A) : ovr H0 H A p = H0 p := if_neg h
theorem ovr_nil {H0 H : Hp} : ovr H0 H [] = H0 := funext fun p => ovr_out (fun z => nomatch z)
section
variable {K : PySem.W.Frag} {cl : Cl} {G G' H H' H1 : Hp} {B : Bs} {S S1 S2 S3 : List Sl} {σ : L2.St} {te tk ta : TE} {tt : TT} {m n : Option D} {t u : TS} {sh : Sh} {d : D} {v : V} {A : List Addr}
/-- an owned thing is set aside: as if it had stood at the entry -/
theorem Sig.res (I : Sig K cl B G H S σ) {i : Nat} (h : S[i]? = some (.ow sh d)) :
    ∃ v A, σ[i]? = some (some v) ∧ Own K cl G H sh v d A ∧ A.Nodup ∧ (∀ p ∈ A, G p = none ∧ B.H p = none) ∧ Sig K cl ⟨B.G, ovr B.H H A⟩ G H (S.set i .jk) σ := by
  obtain ⟨AA, hs, ap⟩ := I.slots
  obtain ⟨o, h1, v, rfl, ow, nd, out⟩ := hs i _ h
  have hl : i < S.length := (List.getElem?_eq_some_iff.mp h).1
  refine ⟨v, AA i, h1, ow, nd, out, ⟨I.nxt.g, ⟨fun a u _ e => ?_, fun a ps e => ?_⟩, I.nxt.gh, fun a e => ?_⟩, by rw [List.length_set]; exact I.len, I.tab, atA AA i [], fun j s hj => ?_, fun j k n hj hk p hp => ?_⟩
  · by_cases z : a ∈ AA i
    · rw [show (⟨B.G, ovr B.H H (AA i)⟩ : Bs).H a = H a from ovr_in z] at e; exact e
    · rw [show (⟨B.G, ovr B.H H (AA i)⟩ : Bs).H a = B.H a from ovr_out z] at e; exact I.nxt.h a u e
  · by_cases z : a ∈ AA i
    · rw [show (⟨B.G, ovr B.H H (AA i)⟩ : Bs).H a = H a from ovr_in z] at e; exact ⟨ps, e, id⟩
    · rw [show (⟨B.G, ovr B.H H (AA i)⟩ : Bs).H a = B.H a from ovr_out z] at e; exact I.nxt.h.b a ps e
  · rcases I.nxt.fr a e with z | z
    · exact .inl z
    · by_cases y : a ∈ AA i
      · exact absurd (out a y).1 e
      · exact .inr ((ovr_out y).trans z)
  · by_cases e : i = j
    · subst e
      rw [List.getElem?_set_self hl] at hj
      cases hj
      exact ⟨_, h1, atA_e rfl⟩
    · rw [List.getElem?_set_ne e] at hj
      have hlj : j < S.length := (List.getElem?_eq_some_iff.mp hj).1
      obtain ⟨o, h2, h3⟩ := hs j s hj
      refine ⟨o, h2, ?_⟩
      rw [atA_n (fun z => e z.symm)]
      cases s with
      | jk => exact h3
      | vl d' => exact h3
      | ow sh' d' =>
        obtain ⟨v', e1, ow2, nd', out'⟩ := h3
        exact ⟨v', e1, ow2, nd', fun p hp => ⟨(out' p hp).1, (ovr_out fun y => ap j i (fun z => e z.symm) hlj hl p hp y).trans (out' p hp).2⟩⟩
  · rw [List.length_set] at hj hk
    by_cases ej : j = i
    · rw [atA_e ej] at hp; cases hp
    · rw [atA_n ej] at hp
      by_cases ek : k = i
      · rw [atA_e ek]; exact fun z => nomatch z
      · rw [atA_n ek]; exact ap j k n hj hk p hp
/-- what changed nothing of what was set aside, or only that -/
theorem Sig.back (I : Sig K cl ⟨B.G, ovr B.H H1 A⟩ G' H' S σ) (hH : ∀ p ∈ A, H1 p ≠ none) (out : ∀ p ∈ A, G' p = none ∧ B.H p = none) {H2 : Hp} (k : ∀ p, p ∉ A → H2 p = H' p) (kt : ∀ a, GxR.TabG H' a → a ∉ A) : Sig K cl B G' H2 S σ := by
  obtain ⟨AA, hs, ap⟩ := I.slots
  have off : ∀ {a}, B.H a ≠ none → a ∉ A := fun {a} h z => h (out a z).2
  refine ⟨⟨I.nxt.g, ⟨fun a u _ e => ?_, fun a ps e => ?_⟩, fun a u e => ?_, fun a e => ?_⟩, I.len, fun a ha => ?_, AA, fun j s hj => ?_, ap⟩
  · have z := off (a := a) (by rw [e]; simp)
    rw [k a z]; exact I.nxt.h a u ((ovr_out z).trans e)
  · have z := off (a := a) (by rw [e]; simp)
    obtain ⟨ps', e', o'⟩ := I.nxt.h.b a ps ((ovr_out z).trans e)
    exact ⟨ps', (k a z).trans e', o'⟩
  · rw [k a fun z => by rw [(out a z).1] at e; cases e]; exact I.nxt.gh a u e
  · rcases I.nxt.fr a e with z | z
    · exact .inl z
    · by_cases y : a ∈ A
      · exact .inr (out a y).2
      · exact .inr ((ovr_out y).symm.trans z)
  · obtain ⟨⟨ps, e, ok⟩, hg⟩ := I.tab a ha
    exact ⟨⟨ps, (k a (kt a ⟨ps, e, ok⟩)).trans e, ok⟩, hg⟩
  · obtain ⟨o, h1, h2⟩ := hs j s hj
    refine ⟨o, h1, ?_⟩
    cases s with
    | jk => exact h2
    | vl d' => exact h2
    | ow sh' d' =>
      obtain ⟨v', e1, ow2, nd', out'⟩ := h2
      have nA : ∀ p ∈ AA j, p ∉ A := fun p hp y => by
        have z : ovr B.H H1 A p = none := (out' p hp).2
        rw [ovr_in y] at z; exact hH p y z
      exact ⟨v', e1, ow2.step (Ex.refl _) fun p hp u _ hu => by rw [k p (nA p hp)]; exact hu, nd', fun p hp => ⟨(out' p hp).1, (ovr_out (nA p hp)).symm.trans (out' p hp).2⟩⟩
/-- what was set aside is held again, in a slot laid behind -/
theorem Sig.unres (I : Sig K cl ⟨B.G, ovr B.H H1 A⟩ G' H' S σ) (ow : Own K cl G' H' sh v d A) (nd : A.Nodup) (hH : ∀ p ∈ A, H1 p ≠ none) (out : ∀ p ∈ A, G' p = none ∧ B.H p = none) : Sig K cl B G' H' (S ++ [.ow sh d]) (σ ++ [some v]) := by
  have I2 : Sig K cl B G' H' S σ := I.back hH out (fun _ _ => rfl) fun a ta => ow.noT ta
  obtain ⟨AA, hs, ap⟩ := I.slots
  have L : (S ++ [Sl.ow sh d]).length = S.length + 1 := by rw [List.length_append]; rfl
  have nA : ∀ j, j < S.length → ∀ p ∈ AA j, p ∉ A := fun j hj p hp y => by
    obtain ⟨o, h1, h2⟩ := hs j S[j] (List.getElem?_eq_getElem hj)
    generalize S[j] = s at h2
    cases s with
    | jk => rw [h2] at hp; cases hp
    | vl d' => rw [h2.1] at hp; cases hp
    | ow sh' d' =>
      obtain ⟨v', _, _, _, out'⟩ := h2
      have z : ovr B.H H1 A p = none := (out' p hp).2
      rw [ovr_in y] at z; exact hH p y z
  refine ⟨I2.nxt, by rw [List.length_append, List.length_append, I.len]; rfl, I2.tab, atA AA S.length A, fun j s h => ?_, fun j k nn hj hk p hp => ?_⟩
  · have hl : j < S.length + 1 := by have := (List.getElem?_eq_some_iff.mp h).1; rwa [L] at this
    by_cases e : j = S.length
    · subst e
      rw [List.getElem?_append_right (Nat.le_refl _), Nat.sub_self] at h
      cases h
      refine ⟨some v, by rw [List.getElem?_append_right (by rw [I.len]; exact Nat.le_refl _), I.len, Nat.sub_self]; rfl, ?_⟩
      rw [atA_e rfl]
      exact ⟨v, rfl, ow, nd, fun p hp => out p hp⟩
    · have hj : j < S.length := by omega
      rw [List.getElem?_append_left hj] at h
      obtain ⟨o, h1, h2⟩ := hs j s h
      refine ⟨o, by rw [List.getElem?_append_left (by rw [I.len]; exact hj)]; exact h1, ?_⟩
      rw [atA_n e]
      cases s with
      | jk => exact h2
      | vl d' => exact h2
      | ow sh' d' =>
        obtain ⟨v', e1, ow2, nd', out'⟩ := h2
        exact ⟨v', e1, ow2, nd', fun p hp => ⟨(out' p hp).1, (ovr_out (nA j hj p hp)).symm.trans (out' p hp).2⟩⟩
  · rw [L] at hj hk
    by_cases ej : j = S.length
    · rw [atA_e ej] at hp
      rw [atA_n (fun z => nn (ej.trans z.symm))]
      exact fun z => nA k (by omega) p z hp
    · rw [atA_n ej] at hp
      by_cases ek : k = S.length
      · rw [atA_e ek]; exact fun z => nA j (by omega) p hp z
      · rw [atA_n ek]; exact ap j k nn (by omega) (by omega) p hp
theorem Sig.cut {s : Sl} {o : Option V} (I : Sig K cl B G H (S ++ [s]) (σ ++ [o])) : Sig K cl B G H S σ := by
  obtain ⟨AA, hs, ap⟩ := I.slots
  have hlen : σ.length = S.length := by have := I.len; rw [List.length_append, List.length_append] at this; exact Nat.add_right_cancel this
  have L : (S ++ [s]).length = S.length + 1 := by rw [List.length_append]; rfl
  refine ⟨I.nxt, hlen, I.tab, AA, fun j s' h => ?_, fun j k n hj hk => ap j k n (by omega) (by omega)⟩
  have hl : j < S.length := (List.getElem?_eq_some_iff.mp h).1
  obtain ⟨o', h1, h2⟩ := hs j s' (by rw [List.getElem?_append_left hl]; exact h)
  rw [List.getElem?_append_left (by rw [hlen]; exact hl)] at h1
  exact ⟨o', h1, h2⟩
/-- the slot laid behind is set aside -/
theorem Sig.res1 (I : Sig K cl B G H (S ++ [.ow sh d]) (σ ++ [some v])) : ∃ A, Own K cl G H sh v d A ∧ A.Nodup ∧ (∀ p ∈ A, G p = none ∧ B.H p = none) ∧ Sig K cl ⟨B.G, ovr B.H H A⟩ G H S σ := by
  have ln : σ.length = S.length := by have := I.len; rw [List.length_append, List.length_append] at this; exact Nat.add_right_cancel this
  obtain ⟨v', A, h1, ow, nd, out, I2⟩ := I.res (i := S.length) (by rw [List.getElem?_append_right (Nat.le_refl _), Nat.sub_self]; rfl)
  rw [List.getElem?_append_right (by rw [ln]; exact Nat.le_refl _), ln, Nat.sub_self] at h1
  cases h1
  rw [List.set_append_right _ _ (Nat.le_refl _), Nat.sub_self] at I2
  exact ⟨A, ow, nd, out, I2.cut⟩
/-! ### expressions whose value is owned, its shape told by what it is -/
noncomputable def EVD (K : PySem.W.Frag) (cl : Cl) (sh : D → Sh) (te : TE) (S : List Sl) (m : Option D) (S' : List Sl) : Prop := ∀ (B : Bs) (G H : Hp) (σ : L2.St), Sig K cl B G H S σ → ∀ d, m = some d → ∀ Q : VK,
  (∀ v G' H', Sig K cl B G' H' (S' ++ [.ow (sh d) d]) (σ ++ [some v]) → Ex G G' → Ex2 H H' → Q v H') → te σ H Q
theorem EVO.evd (h : EVO K cl sh te S m S1) : EVD K cl (fun _ => sh) te S m S1 := h
/-- arguments, some owned -/
noncomputable def EAT (K : PySem.W.Frag) (cl : Cl) (f : Nat → Sh) (k n : Nat) (ta : TA) (S : List Sl) (m : Option (List D)) (S' : List Sl) : Prop := ∀ (B : Bs) (G H : Hp) (σ : L2.St), Sig K cl B G H S σ → ∀ ds, m = some ds → ∀ Q : List V → Hp → Prop,
  (∀ vs A G' H', Sig K cl ⟨B.G, ovr B.H H' A⟩ G' H' S' σ → Ex G G' → Ex2 H H' → OwnT (fun i => Own K cl G' H' (f i)) n vs ds A → A.Nodup → (∀ p ∈ A, G' p = none ∧ B.H p = none) → ds.length = k → Q vs H') → ta σ H Q
theorem eat_nil {f : Nat → Sh} {n : Nat} : EAT K cl f 0 n tNil S (some []) S := fun B G H σ I ds e Q q => by
  cases e
  exact q [] [] G H (by rw [ovr_nil]; exact I) (Ex.refl _) (Ex2.refl _) .nil .nil (fun p hp => nomatch hp) rfl
theorem OwnT.inN {f : Nat → Sh} {n : Nat} {vs : List V} {ds : List D} (h : OwnT (fun i => Own K cl G H (f i)) n vs ds A) : ∀ p ∈ A, ∃ u, H p = some u ∧ NT u := fun p hp =>
  h.inH (fun n v d A' r => Own.inN (sh := f n) r) p hp
theorem eat_o {f : Nat → Sh} {k n : Nat} {tr : TA} {ms : Option (List D)} (ha : EVD K cl (fun _ => f n) ta S m S1) (hr : EAT K cl f k (n + 1) tr S1 ms S2) : EAT K cl f (k + 1) n (tCons ta tr) S (m.bind fun x => ms.bind fun xs => some (x :: xs)) S2 := fun B G H σ I ds e Q q => by
  obtain ⟨a, ea, e⟩ := bind_some e
  obtain ⟨as, eas, e⟩ := bind_some e
  cases e
  refine ha B G H σ I a ea _ fun x G1 H1 I1 g1 h1 => ?_
  obtain ⟨A1, ow, nd1, out1, I1'⟩ := I1.res1
  refine hr _ G1 H1 σ I1' as eas _ fun vs A2 G2 H2 I2 g2 h2 rs nd out hl => ?_
  have out : ∀ p ∈ A2, G2 p = none ∧ ovr B.H H1 A1 p = none := out
  have dj : ∀ p ∈ A1, p ∉ A2 := fun p hp z => by
    have y := (out p z).2
    rw [ovr_in hp] at y; exact ow.inH p hp y
  have kp : ∀ p ∈ A1, H2 p = H1 p := fun p hp => by
    obtain ⟨w, e1, nw⟩ := ow.inN p hp
    rw [e1]; exact h2 p w e1
  have ow2 : Own K cl G2 H2 (f n) x a A1 := ow.step g2 fun p hp u _ hu => by rw [kp p hp]; exact hu
  have eo : ovr (ovr B.H H1 A1) H2 A2 = ovr B.H H2 (A1 ++ A2) := funext fun p => by
    by_cases z : p ∈ A2
    · rw [ovr_in z, ovr_in (List.mem_append_right _ z)]
    · rw [ovr_out z]
      by_cases y : p ∈ A1
      · rw [ovr_in y, ovr_in (List.mem_append_left _ y), kp p y]
      · rw [ovr_out y, ovr_out fun w => (List.mem_append.mp w).elim y z]
  have I3 : Sig K cl ⟨B.G, ovr (ovr B.H H1 A1) H2 A2⟩ G2 H2 S2 σ := I2
  rw [eo] at I3
  refine q _ (A1 ++ A2) G2 H2 I3 (g1.trans g2) (h1.trans h2) (.cons ow2 rs) (List.nodup_append.mpr ⟨nd1, nd, fun a ha b hb z => dj a ha (by rw [z]; exact hb)⟩) (fun p hp => ?_) (by rw [List.length_cons, hl])
  rcases List.mem_append.mp hp with z | z
  · refine ⟨?_, (out1 p z).2⟩
    cases e2 : G2 p with
    | none => rfl
    | some w =>
      rcases I2.nxt.fr p (by rw [e2]; simp) with y | y
      · have : B.G p ≠ none := y
        cases e3 : B.G p with
        | none => exact absurd e3 this
        | some w2 => have := I1.nxt.g _ _ e3; rw [(out1 p z).1] at this; cases this
      · have y : ovr (ovr B.H H1 A1) H2 A2 p = none := y
        rw [ovr_out (dj p z), ovr_in z] at y
        exact absurd y (ow.inH p z)
  · exact ⟨(out p z).1, (ovr_out fun y => dj p y z).symm.trans (out p z).2⟩
theorem sv_asgD {i : Nat} {sh : D → Sh} (h : EVD K cl sh te S m S1) : SV K cl (tAsg te (gName i)) S m (fun d => S1.set i (.ow (sh d) d)) := fun B G H σ I d e Dn q =>
  h B G H σ I d e _ fun v G' H' I' _ _ => q _ G' H' (I'.take i)
/-! ### x[k].append(e): a list that an owned tuple holds; the tuple is not read again -/
theorem OwnT.at {R : Nat → V → D → List Addr → Prop} : ∀ {n vs ds A k dk}, OwnT R n vs ds A → ds[k]? = some dk → ∃ vk A1, vs[k]? = some vk ∧ R (n + k) vk dk A1 ∧ A1 ⊆ A
  | _, _, _, _, 0, _, .cons r t, h => by
    cases h
    exact ⟨_, _, rfl, r, List.subset_append_left _ _⟩
  | n, _, _, _, k + 1, _, .cons r t, h => by
    obtain ⟨vk, A1, h1, h2, h3⟩ := OwnT.at t (k := k) (by simpa using h)
    exact ⟨vk, A1, by simpa using h1, by rw [show n + (k + 1) = n + 1 + k by omega]; exact h2, fun p hp => List.mem_append_right _ (h3 hp)⟩
theorem atI_nat {α : Type} {xs : List α} {k : Nat} {x : α} (h : xs[k]? = some x) : atI xs (k : Int) = some x := by
  have hl : k < xs.length := (List.getElem?_eq_some_iff.mp h).1
  unfold atI ixN
  rw [if_pos (by omega), if_pos (by omega)]
  exact h
end
end Oh
namespace Oh
open PySem PySem.Spec PyProof.Rows L2 Evl
section
variable {K : PySem.W.Frag} {cl : Cl} {S S1 : List Sl} {te : TE} {m : Option D} {t : TS} {sh : Sh} {d : D}
end
/-- what the solver hands back -/
noncomputable def sh2 (n : Nat) : Sh := match n with | 1 => .l .v | _ => .v
noncomputable def sh3 (n : Nat) : Sh := match n with | 1 => .l .v | 2 => .l .v | _ => .v
end Oh
namespace Oh
open PySem PySem.Spec PyProof.Rows L2 Evl
section
variable {K : PySem.W.Frag} {cl : Cl} {G G' H H' : Hp} {B : Bs} {S S1 S2 S3 : List Sl} {σ : L2.St} {te : TE} {tt : TT} {m : Option D} {e : Sh}
theorem OwnL.snoc {R : V → D → List Addr → Prop} {v : V} {d : D} {A2 : List Addr} : ∀ {vs ds A}, OwnL R vs ds A → R v d A2 → OwnL R (vs ++ [v]) (ds ++ [d]) (A ++ A2)
  | _, _, _, .nil, r => by
    have := OwnL.cons r OwnL.nil
    rw [List.append_nil] at this
    exact this
  | _, _, _, .cons r0 t, r => by
    rw [List.append_assoc]
    exact .cons r0 (OwnL.snoc t r)
end
end Oh
namespace Oh
open PySem PySem.Spec PyProof.Rows L2 Evl
section
variable {K : PySem.W.Frag} {cl : Cl} {G G' H H' : Hp} {B : Bs} {S S1 : List Sl} {σ : L2.St} {te : TE} {tt tt1 : TT} {m : Option D} {e : Sh}
end
end Oh
namespace Oh
open PySem PySem.Spec PyProof.Rows L2 Evl NdefX LamX
section
variable {K : PySem.W.Frag} {cl : Cl} {G G' H H' : Hp} {cs : List Addr} {S S1 S2 : List Sl} {ta : TA}
end
end Oh
namespace Oh
open PySem PySem.Spec PyProof.Rows L2 Evl
section
variable {K : PySem.W.Frag} {cl : Cl} {G G' H H' : Hp} {S S1 S2 : List Sl} {P : Addr} {φ : Bs → Prop} {β : Type}
end
end Oh
namespace Oh
open PySem PySem.Spec PyProof.Rows L2 Evl
section
variable {P : Program} {w : World} {K : PySem.W.Frag} {cl : Cl} {mg : Str → Option Value} {base : Heap} {T : Addr}
end
end Oh
namespace Oh
open PySem PySem.Spec PyProof.Rows L2 Evl NdefX LamX
section
variable {X : Cx}
end
end Oh
namespace Oh
open PySem PySem.Spec PyProof.Rows L2 Evl NdefX LamX
section
variable {P : Program} {w : World} {K : PySem.W.Frag} {cl : Cl} {mg : Str → Option Value} {base : Heap}
end
end Oh
namespace Oh
open PySem PySem.Spec PyProof.Rows L2 Evl NdefX LamX
section
variable {K : PySem.W.Frag} {cl : Cl} {G G' H H' : Hp} {S S1 : List Sl} {P : Addr}
end
end Oh
namespace Oh
open PySem PySem.Spec PyProof.Rows L2 Evl
section
variable {P : Program} {w : World} {K : PySem.W.Frag} {cl : Cl} {mg : Str → Option Value} {base : Heap} {T : Addr}
end
end Oh
namespace Oh
open PySem PySem.Spec PyProof.Rows L2 Evl NdefX LamX
section
variable {P : Program} {w : World} {K : PySem.W.Frag} {cl : Cl} {mg : Str → Option Value} {base : Heap} {S S1 : List Sl} {ta : TA}
end
end Oh
namespace Oh
open PySem PySem.Spec PyProof.Rows L2 Evl NdefX LamX
section
variable {K : PySem.W.Frag} {cl : Cl} {S S1 S2 : List Sl} {P P1 P2 : Addr} {φ : Bs → Prop} {β : Type}
theorem sv_drop {te : TE} {m : Option D} (he : EV K cl te S m S1) : SV K cl (tDrop te) S m (fun _ => S1) := fun B G H σ I d e Dn q => he B G H σ I d e _ fun v G1 H1 I1 _ _ _ => q σ G1 H1 I1
end
section
variable {P : Program} {w : World} {K : PySem.W.Frag} {cl : Cl} {mg : Str → Option Value} {base : Heap} {Ts : List Addr}
end
/-! ### try: if c: f(..) / else: g(..) / except .. -/
section
variable {K : PySem.W.Frag} {cl : Cl} {S S1 S2 : List Sl} {C C1 C2 C3 : Addr}
end
end Oh
namespace Oh
open PySem PySem.Spec PyProof.Rows L2 Evl
/-! ### what is owned is changed and not read again -/
section
variable {K : PySem.W.Frag} {cl : Cl} {G G' H H' H1 H2 : Hp} {B : Bs} {S S1 : List Sl} {σ : L2.St} {A : List Addr}
/-- of what was set aside something is changed: it is set aside anew -/
theorem Sig.mutR (I : Sig K cl ⟨B.G, ovr B.H H1 A⟩ G' H' S σ) (hH : ∀ p ∈ A, H1 p ≠ none) (out : ∀ p ∈ A, G' p = none ∧ B.H p = none) (k : ∀ p, p ∉ A → H2 p = H' p) (kt : ∀ a, GxR.TabG H' a → a ∉ A) : Sig K cl ⟨B.G, ovr B.H H2 A⟩ G' H2 S σ := by
  obtain ⟨AA, hs, ap⟩ := I.slots
  refine ⟨⟨I.nxt.g, ⟨fun a u _ e => ?_, fun a ps e => ?_⟩, fun a u e => ?_, fun a e => ?_⟩, I.len, fun a ha => ?_, AA, fun j s hj => ?_, ap⟩
  · by_cases z : a ∈ A
    · rw [show (⟨B.G, ovr B.H H2 A⟩ : Bs).H a = H2 a from ovr_in z] at e; exact e
    · rw [show (⟨B.G, ovr B.H H2 A⟩ : Bs).H a = B.H a from ovr_out z] at e
      rw [k a z]; exact I.nxt.h a u ((ovr_out z).trans e)
  · by_cases z : a ∈ A
    · rw [show (⟨B.G, ovr B.H H2 A⟩ : Bs).H a = H2 a from ovr_in z] at e; exact ⟨ps, e, id⟩
    · rw [show (⟨B.G, ovr B.H H2 A⟩ : Bs).H a = B.H a from ovr_out z] at e
      obtain ⟨ps', e', o'⟩ := I.nxt.h.b a ps ((ovr_out z).trans e)
      exact ⟨ps', (k a z).trans e', o'⟩
  · rw [k a fun z => by rw [(out a z).1] at e; cases e]; exact I.nxt.gh a u e
  · rcases I.nxt.fr a e with z | z
    · exact .inl z
    · by_cases y : a ∈ A
      · exact absurd (out a y).1 e
      · exact .inr ((ovr_out y).trans ((ovr_out y).symm.trans z))
  · obtain ⟨⟨ps, e, ok⟩, hg⟩ := I.tab a ha
    exact ⟨⟨ps, (k a (kt a ⟨ps, e, ok⟩)).trans e, ok⟩, hg⟩
  · obtain ⟨o, h1, h2⟩ := hs j s hj
    refine ⟨o, h1, ?_⟩
    cases s with
    | jk => exact h2
    | vl d' => exact h2
    | ow sh' d' =>
      obtain ⟨v', e1, ow2, nd', out'⟩ := h2
      have nA : ∀ p ∈ AA j, p ∉ A := fun p hp y => by
        have z : ovr B.H H1 A p = none := (out' p hp).2
        rw [ovr_in y] at z; exact hH p y z
      exact ⟨v', e1, ow2.step (Ex.refl _) fun p hp u _ hu => by rw [k p (nA p hp)]; exact hu, nd', fun p hp => ⟨(out' p hp).1, (ovr_out (nA p hp)).trans ((ovr_out (nA p hp)).symm.trans (out' p hp).2)⟩⟩
/-- a list of pairs (x, list of triples (x, y, list)): p the list, Q the inner lists, R the innermost -/
structure SpI (LQ LR : Nat) (G H : Hp) (p : Addr) (vs : List V) (Q R : List Addr) : Prop where
  hp : H p = some (.lst vs)
  ev : ∀ v ∈ vs, ∃ t x q, v = .ref t ∧ G t = some (.tup [x, .ref q]) ∧ q ∈ Q
  q : ∀ q ∈ Q, ∃ us, H q = some (.lst us) ∧ us.length ≤ LQ ∧ ∀ u ∈ us, ∃ t x y r, u = .ref t ∧ G t = some (.tup [x, y, .ref r]) ∧ r ∈ R
  r : ∀ r ∈ R, ∃ ws, H r = some (.lst ws) ∧ ws.length ≤ LR
  pq : p ∉ Q
  pr : p ∉ R
  qr : ∀ a ∈ Q, a ∉ R
variable {p : Addr} {vs : List V} {Q R : List Addr} {LQ LR LQ' LR' : Nat}
theorem SpI.mono (I : SpI LQ LR G H p vs Q R) (g : Ex G G') (h : ∀ a ∈ p :: (Q ++ R), H' a = H a) (lq : LQ ≤ LQ') (lr : LR ≤ LR') : SpI LQ' LR' G' H' p vs Q R :=
  ⟨(h p List.mem_cons_self).trans I.hp, fun v hv => by
    obtain ⟨t, x, q, e1, e2, e3⟩ := I.ev v hv
    exact ⟨t, x, q, e1, g _ _ e2, e3⟩, fun q hq => by
    obtain ⟨us, e, l, hu⟩ := I.q q hq
    refine ⟨us, (h q (List.mem_cons_of_mem _ (List.mem_append_left _ hq))).trans e, Nat.le_trans l lq, fun u hu' => ?_⟩
    obtain ⟨t, x, y, r, e1, e2, e3⟩ := hu u hu'
    exact ⟨t, x, y, r, e1, g _ _ e2, e3⟩, fun r hr => by
    obtain ⟨ws, e, l⟩ := I.r r hr
    exact ⟨ws, (h r (List.mem_cons_of_mem _ (List.mem_append_right _ hr))).trans e, Nat.le_trans l lr⟩, I.pq, I.pr, I.qr⟩
end
end Oh
namespace Oh
open PySem PySem.Spec PyProof.Rows L2 Evl
section
variable {K : PySem.W.Frag} {cl : Cl} {G G' H H' : Hp} {B : Bs} {S : List Sl} {σ : L2.St} {A : List Addr} {p : Addr} {vs : List V} {Q R : List Addr} {LQ LR : Nat} {te te2 : TE} {m : Option D} {d : D}
/-- the area of what is spoiled -/
structure Ar (B : Bs) (G H : Hp) (A : List Addr) : Prop where
  out : ∀ x ∈ A, G x = none ∧ B.H x = none
  inn : ∀ x ∈ A, ∃ u, H x = some u ∧ NT u
theorem Ar.ne (a : Ar B G H A) : ∀ x ∈ A, H x ≠ none := fun x hx z => by
  obtain ⟨u, e, _⟩ := a.inn x hx
  rw [z] at e; cases e
theorem Ar.nt (a : Ar B G H A) {x : Addr} (t : GxR.TabG H x) : x ∉ A := fun hx => by
  obtain ⟨u, e, n⟩ := a.inn x hx
  obtain ⟨ps, e2, _⟩ := t
  rw [e] at e2; cases e2
  exact n.nt _ rfl
end
end Oh
namespace Oh
open PySem PySem.Spec PyProof.Rows L2 Evl
section
variable {K : PySem.W.Frag} {cl : Cl} {G G' H H' : Hp} {B : Bs} {S : List Sl} {σ : L2.St} {A : List Addr} {p : Addr} {vs : List V} {Q R : List Addr} {LQ LR : Nat} {te te2 : TE} {m m2 : Option D} {d da db : D}
end
end Oh
namespace Oh
open PySem PySem.Spec PyProof.Rows L2 Evl
end Oh
namespace Oh
open PySem PySem.Spec PyProof.Rows L2 Evl
section
variable {K : PySem.W.Frag} {cl : Cl} {G G' H H' : Hp} {B : Bs} {S S1 : List Sl} {σ : L2.St} {te : TE} {m : Option D}
theorem Sig.share2 (I : Sig K cl B G H S σ) {i : Nat} {sh : Sh} {d : D} (h : S[i]? = some (.ow sh d)) :
    ∃ v G', σ[i]? = some (some v) ∧ Ex G G' ∧ Rep K cl G' v d ∧ Sig K cl B G' H (S.set i (.vl d)) σ ∧ ∀ A', Own K cl G H sh v d A' → ∀ p ∈ A', G' p ≠ none := by
  obtain ⟨A, hs, ap⟩ := I.slots
  obtain ⟨o, h1, v, rfl, ow, nd, out⟩ := hs i _ h
  have hl : i < S.length := (List.getElem?_eq_some_iff.mp h).1
  have eg : Ex G (fun b => if b ∈ A i then H b else G b) := fun a u e => by
    show (if a ∈ A i then H a else G a) = _
    rw [if_neg (fun z => by rw [(out a z).1] at e; cases e)]; exact e
  have rp : Rep K cl (fun b => if b ∈ A i then H b else G b) v d := ow.rep eg fun p hp => if_pos hp
  refine ⟨v, _, h1, eg, rp, ⟨⟨I.nxt.g.trans eg, I.nxt.h, fun a u e => ?_, fun a e => ?_⟩, by rw [List.length_set]; exact I.len, fun a ha => ⟨(I.tab a ha).1, by show (if a ∈ A i then H a else G a) = none; rw [if_neg (ow.noT (I.tab a ha).1)]; exact (I.tab a ha).2⟩, atA A i ([]), fun j s hj => ?_, fun j k n hj hk p hp => ?_⟩, fun A' ow' p hp => ?_⟩
  · by_cases z : a ∈ A i
    · rw [if_pos z] at e; exact e
    · rw [if_neg z] at e; exact I.nxt.gh a u e
  · by_cases z : a ∈ A i
    · exact .inr (out a z).2
    · rw [if_neg z] at e; exact I.nxt.fr a e
  · by_cases e : i = j
    · subst e
      rw [List.getElem?_set_self hl] at hj
      cases hj
      exact ⟨_, h1, atA_e rfl, _, rfl, rp⟩
    · rw [List.getElem?_set_ne e] at hj
      have hlj : j < S.length := (List.getElem?_eq_some_iff.mp hj).1
      obtain ⟨o, h2, h3⟩ := hs j s hj
      refine ⟨o, h2, ?_⟩
      rw [atA_n (fun z => e z.symm)]
      cases s with
      | jk => exact h3
      | vl d' =>
        obtain ⟨ea, v, e1, r1⟩ := h3
        exact ⟨ea, v, e1, r1.mono eg⟩
      | ow sh' d' =>
        obtain ⟨v', e1, ow2, nd', out'⟩ := h3
        refine ⟨v', e1, ow2.step eg (fun p hp u _ hu => hu), nd', fun p hp => ⟨?_, (out' p hp).2⟩⟩
        show (if p ∈ A i then H p else G p) = none
        rw [if_neg (ap j i (fun z => e z.symm) hlj hl p hp)]
        exact (out' p hp).1
  · rw [List.length_set] at hj hk
    by_cases ej : j = i
    · rw [atA_e ej] at hp; cases hp
    · rw [atA_n ej] at hp
      by_cases ek : k = i
      · rw [atA_e ek]; exact fun z => nomatch z
      · rw [atA_n ek]; exact ap j k n hj hk p hp
  · have e : A i = A' := Own.det I.nxt.gh I.nxt.gh ow ow'
    show (if p ∈ A i then H p else G p) ≠ none
    rw [e, if_pos hp]
    exact ow'.inH p hp
end
end Oh
namespace Oh
open PySem PySem.Spec PyProof.Rows L2 Evl
section
variable {K : PySem.W.Frag} {cl : Cl} {G G' H H' : Hp} {B : Bs} {S S1 S2 S3 : List Sl} {σ : L2.St} {te ta tb : TE} {ts : TA} {tt : TT} {m n : Option D} {ms : Option (List D)} {t u : TS} {E : XK} {β γ δ : Type}
/-! ### expressions that change what is owned -/
/-- its outcome b gives its value and the slots behind -/
noncomputable def EVP (K : PySem.W.Frag) (cl : Cl) {β : Type} (te : TE) (S : List Sl) (m : Option β) (val : β → D) (post : β → List Sl) : Prop := ∀ (B : Bs) (G H : Hp) (σ : L2.St), Sig K cl B G H S σ → ∀ b, m = some b → ∀ Q : VK,
  (∀ v G' H', Sig K cl B G' H' (post b) σ → Ex G G' → Rep K cl G' v (val b) → Q v H') → te σ H Q
noncomputable def ETP (K : PySem.W.Frag) (cl : Cl) {β : Type} (tt : TT) (S : List Sl) (m : Option β) (tst : β → Bool) (post : β → List Sl) : Prop := ∀ (B : Bs) (G H : Hp) (σ : L2.St), Sig K cl B G H S σ → ∀ b, m = some b → ∀ Q : Bool → Hp → Prop,
  (∀ G' H', Sig K cl B G' H' (post b) σ → Ex G G' → Q (tst b) H') → tt σ H Q
theorem call_ownE {i c : Nat} {mn : Str} {po : Option Addr} {fs : Str → Sh} {d : D} {f : D → List D → Option (D × D)} (h0 : S[i]? = some (.ow (.j po fs) d)) (h1 : S1[i]? = some (.ow (.j po fs) d)) (ha : EA K cl ts S ms S1) :
    EVP K cl (tMeth (cl.c c) mn (spO K cl fs f) [] E (tVar i) ts) S ((dMt c mn d).bind fun x => ms.bind fun xs => f x xs) (·.1) (fun r => S1.set i (.ow (.j po fs) r.2)) := fun B G H σ I r e Q q => by
  obtain ⟨x, ex, e⟩ := bind_some e
  obtain ⟨xs, exs, e3⟩ := bind_some e
  obtain ⟨v, A, hσ, ow, _, _, _⟩ := I.thru h0
  obtain ⟨p, dx, c', vs, ds, A', rfl, _, rfl, hp, _, of⟩ := ow
  have e2 : (if c' = c ∧ ds.lookup mn = none then some (D.ob c' ds) else none) = some x := ex
  by_cases hc : c' = c ∧ ds.lookup mn = none
  · rw [if_pos hc] at e2
    cases e2
    obtain ⟨rfl, hn⟩ := hc
    refine ⟨.ref p, hσ, p, dx, vs, rfl, hp, of.none hn, ?_⟩
    refine ha B G H σ I xs exs _ fun us G1 H1 I1 g1 h1' rs => ?_
    obtain ⟨v1, A1, hσ1, ow1, nd1, out1, cls⟩ := I1.thru h1
    rw [hσ] at hσ1; cases hσ1
    refine ⟨G1, .ref p, us, _, xs, A1, r, by rw [List.append_nil], I1.nxt.gh, I1.tab, ow1.none_, nd1, fun a ha => (out1 a ha).1, rs, e3, fun w G' H' A2 nx o2 nd2 new rv => ?_⟩
    exact q w G' H' (cls G' H' _ _ A2 nx (ow1.some_ o2) nd2 new) (g1.trans nx.g) rv
  · rw [if_neg hc] at e2; cases e2
/-- f(x, ..), f a def that changes its first argument, one's own object -/
structure ConF (P : Program) (w : World) (K : PySem.W.Frag) (cl : Cl) (mg : Str → Option Value) (base : Heap) (k : Nat) (x : Str) (fs : Str → Sh) (f : D → List D → Option (D × D)) (fa : Addr) (fd : FuncData) (ps : List Str) : Prop where
  ok : FnOk P w K mg base CX0 k fa fd ps (spO K cl fs f)
  mg : mg x = some (.ref fa)
  kp : PySem.W.keepIn K (.ref fa) = true
  bd : Binds K fd ps []
theorem evp_fun {i : Nat} {po : Option Addr} {fs : Str → Sh} {d : D} {f : D → List D → Option (D × D)} (h0 : S[i]? = some (.ow (.j po fs) d)) (h1 : S1[i]? = some (.ow (.j po fs) d)) (ha : EA K cl ts S ms S1) :
    EVP K cl (tCall (spO K cl fs f) [] E (tCons (tVar i) ts)) S (ms.bind fun xs => f d xs) (·.1) (fun r => S1.set i (.ow (.j po fs) r.2)) := fun B G H σ I r e Q q => by
  obtain ⟨xs, exs, e3⟩ := bind_some e
  obtain ⟨v, A, hσ, ow, _, _, _⟩ := I.thru h0
  refine ⟨v, hσ, ?_⟩
  refine ha B G H σ I xs exs _ fun us G1 H1 I1 g1 h1' rs => ?_
  obtain ⟨v1, A1, hσ1, ow1, nd1, out1, cls⟩ := I1.thru h1
  rw [hσ] at hσ1; cases hσ1
  refine ⟨G1, v, us, d, xs, A1, r, by rw [List.append_nil], I1.nxt.gh, I1.tab, ow1.none_, nd1, fun a ha => (out1 a ha).1, rs, e3, fun w G' H' A2 nx o2 nd2 new rv => ?_⟩
  exact q w G' H' (cls G' H' _ _ A2 nx (ow1.some_ o2) nd2 new) (g1.trans nx.g) rv
theorem own_con {P : Program} {w : World} {mg : Str → Option Value} {base : Heap} {x qual : Str} {st : Stmt} {fa : Addr} {fd : FuncData} {N ps : List Str} {k n : Nat} {f : D → List D → Option (Fg D Empty)} {fs : Str → Sh}
    (F : Fun K x qual st fa fd) (SC : FnScope N ps (defScope st)) (hn : ps.length = n + 1) (ar : ∀ d ds r, f d ds = some r → ds.length = n) (hm : mg x = some (.ref fa)) (hb : Binds K fd ps [])
    (body : ∀ (cdv : Value) (A : Around) (outer : List Env) (s : Shared) (H : Hp) (E : XK), Room k (A.deeper (envOfC qual (defScope st) s.heap.objs.size fa cdv)) →
      ∃ t, PSs (cxOf CX0 P w K mg base N qual (defScope st) fa cdv A outer s H E).nox (defBody st) t ∧ ∀ (xa : Addr) (d : D) (ds : List D), ds.length = n →
        QV K cl xa fs t (.ow (.j (some xa) fs) d :: (ds.map .vl ++ List.replicate (N.length - (n + 1)) .jk)) (f d ds) (fun b => .ow (.j (some xa) fs) b :: List.replicate (n + (N.length - (n + 1))) .jk) (fun _ => [])) : ConF P w K cl mg base (k + 1) x fs (fun d ds => (f d ds).bind endO) fa fd ps := by
  refine ⟨F.ok SC (fun vs H Q E h => ?_) (fun cdv A outer s H vs Q E hr h => ?_), hm, F.kp, hb⟩
  · obtain ⟨G, x, vs', d, ds, A, r, rfl, _, _, _, _, _, rs, e, _⟩ := h
    obtain ⟨f0, e, e2⟩ := bind_some e
    rw [List.length_cons, rs.length, ar d ds _ e, hn]
  · obtain ⟨G, x, vs', d, ds, A0, r, rfl, gh, tb, ow, nd, gA, rs, e, q⟩ := h
    obtain ⟨f0, e, e2⟩ := bind_some e
    obtain ⟨t, hp, ht⟩ := body cdv A outer s H E hr
    have hl := ar d ds _ e
    have hv : vs'.length = n := rs.length.trans hl
    obtain ⟨p, rfl⟩ : ∃ p, x = .ref p := by obtain ⟨p, _, _, _, _, _, h1, _⟩ := ow; exact ⟨p, h1⟩
    refine ⟨t, hp, ?_⟩
    have e0 : L2.start N (.ref p :: vs') = some (.ref p) :: (vs'.map some ++ List.replicate (N.length - (n + 1)) none) := by unfold L2.start; rw [List.length_cons, hv]; rfl
    rw [e0]
    have fin : ∀ v G' H' S' σ' s', Sig K cl ⟨G, cutA H A0⟩ G' H' S' σ' → S'[0]? = some (.ow (.j (some p) fs) s') → r.2 = s' → Rep K cl G' v r.1 → Q v H' := fun v G' H' S' σ' s' I' h0 er rv => by
      obtain ⟨v1, A1, hσ, ow1, nd1, out1, _⟩ := I'.thru h0
      have ev : v1 = .ref p := by obtain ⟨p', _, _, _, _, _, h1, hpo, _⟩ := ow1; rw [h1, hpo p rfl]
      subst ev
      refine q v G' H' A1 I'.nxt (by rw [er]; exact ow1.none_) nd1 (fun a ha => ⟨(out1 a ha).1, ?_⟩) rv
      have := (out1 a ha).2
      by_cases z : a ∈ A0
      · exact .inl z
      · rw [show (⟨G, cutA H A0⟩ : Bs).H a = H a from cutA_out z] at this; exact .inr this
    refine ht p d ds hl ⟨G, cutA H A0⟩ G H _ (start_own gh tb ow nd gA rs) _ e _ ?_
    cases f0 with
    | nx s' =>
      cases e2
      exact fun σ' G' H' I' => fin .non G' H' _ σ' s' I' rfl rfl .non
    | rt r' =>
      cases e2
      exact fun v G' H' S' σ' I' h0 rv => fin v G' H' S' σ' _ I' h0 rfl rv
    | bk c => exact nomatch c
    | ct c => exact nomatch c
/-! ### operations over them -/
theorem evp_opR {r : R2} {f : D → D → Option D} {mb : Option β} {val : β → D} {post : β → List Sl} (o : Op2 K cl r f) (ha : EV K cl ta S m S1) (hb : EVP K cl tb S1 mb val post) : EVP K cl (tOp r ta tb) S (m.bind fun x => mb.bind fun b => (f x (val b)).map fun z => (z, b)) (·.1) (fun p => post p.2) := fun B G H σ I z e Q q => by
  obtain ⟨a, ea, e⟩ := bind_some e
  obtain ⟨b, eb, e⟩ := bind_some e
  obtain ⟨y, ey, rfl⟩ := Option.map_eq_some_iff.mp e
  refine ha B G H σ I a ea _ fun x G1 H1 I1 g1 h1 rx => ?_
  refine hb B G1 H1 σ I1 b eb _ fun y' G2 H2 I2 g2 ry => ?_
  exact o G2 H2 x y' a _ y I2.nxt.gh (rx.mono g2) ry ey Q fun v rv => q v G2 H2 I2 (g1.trans g2) rv
theorem evp_opL {r : R2} {f : D → D → Option D} {ma : Option β} {mb : β → Option D} {val : β → D} {post : β → List Sl} (o : Op2 K cl r f) (ha : EVP K cl ta S ma val post) (hb : ∀ b, EV K cl tb (post b) (mb b) (post b)) : EVP K cl (tOp r ta tb) S (ma.bind fun b => (mb b).bind fun y => (f (val b) y).map fun z => (z, b)) (·.1) (fun p => post p.2) := fun B G H σ I z e Q q => by
  obtain ⟨b, eb, e⟩ := bind_some e
  obtain ⟨y, ey, e⟩ := bind_some e
  obtain ⟨z0, ez, rfl⟩ := Option.map_eq_some_iff.mp e
  refine ha B G H σ I b eb _ fun x G1 H1 I1 g1 rx => ?_
  refine hb b B G1 H1 σ I1 y ey _ fun y' G2 H2 I2 g2 h2 ry => ?_
  exact o G2 H2 x y' _ y z0 I2.nxt.gh (rx.mono g2) ry ez Q fun v rv => q v G2 H2 I2 (g1.trans g2) rv
theorem etp_B {mb : Option β} {val : β → D} {post : β → List Sl} (h : EVP K cl te S mb val post) : ETP K cl (tB te) S (mb.bind fun b => (asB (val b)).map fun z => (z, b)) (·.1) (fun p => post p.2) := fun B G H σ I z e Q q => by
  obtain ⟨b, eb, e⟩ := bind_some e
  obtain ⟨x, ex, rfl⟩ := Option.map_eq_some_iff.mp e
  exact h B G H σ I b eb _ fun v G1 H1 I1 g1 rv => ⟨x, rep_B rv ex, q G1 H1 I1 g1⟩
theorem sv_appP3 {i : Nat} {d : D} {mb : Option β} {val : β → D} {post : β → List Sl} (h0 : S[i]? = some (.ow (.l .v) d)) (h1 : ∀ b, (post b)[i]? = some (.ow (.l .v) d)) (h : EVP K cl te S mb val post) :
    SV K cl (tDrop (tBM K "list" rAppend (tVar i) (tCons te tNil))) S (mb.bind fun b => (dApp d (val b)).map fun d' => (d', b)) (fun r => (post r.2).set i (.ow (.l .v) r.1)) := fun B G H σ I z e Dn q => by
  obtain ⟨b, eb, e⟩ := bind_some e
  obtain ⟨d', ed, rfl⟩ := Option.map_eq_some_iff.mp e
  obtain ⟨p, vs, xs, hσ, rfl, hp, gp, bp, rs⟩ := I.ow h0
  refine ⟨.ref p, hσ, Or.inl ⟨rfl, vs, sq_of hp⟩, h B G H σ I b eb _ fun v G' H' I' g1 r => ?_⟩
  obtain ⟨p2, vs2, xs2, hσ2, ex2, hp2, gp2, bp2, rs2⟩ := I'.ow (h1 b)
  rw [hσ] at hσ2; cases hσ2
  cases ex2
  unfold dApp at ed
  simp only at ed
  split at ed
  · rename_i hl
    cases ed
    refine ⟨p, vs2, v, rfl, rfl, hp2, sz_lt (by rw [rs2.length]; exact hl), q σ G' _ ?_⟩
    exact I'.mut (h1 b) hσ (rs2.append (.cons r .nil))
  · cases ed
/-- x = [e] -/
theorem sv_newP {j : Nat} {mb : Option β} {val : β → D} {post : β → List Sl} (h : EVP K cl te S mb val post) : SV K cl (tAsg (tLst (tCons te tNil)) (gName j)) S mb (fun b => (post b).set j (.ow (.l .v) (.lst [val b]))) := fun B G H σ I b e Dn q => h B G H σ I b e _ fun v G1 H1 I1 _ r => ⟨sz_of (by show 1 ≤ 100000; decide), fun p hp => by
  have nx := Nxt.lay (o := .lst [v]) I1.nxt.gh hp
  exact q _ G1 _ ((I1.push nx (Own.mkFlat upd_same (.cons r .nil)) (by simp) fun p' hp' => by rw [List.mem_singleton.mp hp']; exact ⟨hp, fresh_back I1.nxt.gh hp⟩).take j)⟩
theorem q_retP {xa : Addr} {fs : Str → Sh} {mb : Option β} {val : β → D} {pst : β → List Sl} {ob : β → D} {post : γ → List Sl} {out : δ → List Sl} (h : EVP K cl te S mb val pst) (h0 : ∀ b, (pst b)[0]? = some (.ow (.j (some xa) fs) (ob b))) : QV K cl xa fs (tSeq (tRet te) tNever) S (mb.map fun b => Fg.rt (val b, ob b)) post out := fun B G H σ I f e Dn q => by
  obtain ⟨b, eb, rfl⟩ := Option.map_eq_some_iff.mp e
  exact h B G H σ I b eb _ fun v G' H' I' _ r => q v G' H' _ σ I' (h0 b) r
theorem q_iflP {xa : Addr} {fs : Str → Sh} {mc : Option β} {tst : β → Bool} {pst : β → List Sl} {ma : β → Option (Fg Empty δ)} {mr : β → Option (Fg γ δ)} {post : γ → List Sl} {post0 : Empty → List Sl} {out : δ → List Sl} (hc : ETP K cl tt S mc tst pst) (ha : ∀ b, QV K cl xa fs t (pst b) (ma b) post0 out) (hr : ∀ b, QV K cl xa fs u (pst b) (mr b) post out) :
    QV K cl xa fs (tSeq (tIfS tt t tNext) u) S (mc.bind fun b => if tst b = true then (ma b).bind ggE else mr b) post out := fun B G H σ I f e Dn q => by
  obtain ⟨b, eb, e⟩ := bind_some e
  refine hc B G H σ I b eb _ fun G1 H1 I1 _ => ?_
  cases z : tst b with
  | true =>
    rw [z, if_pos rfl] at e
    obtain ⟨f0, ef, e⟩ := bind_some e
    refine ha b B G1 H1 σ I1 f0 ef _ ?_
    cases f0 with
    | nx b => exact nomatch b
    | rt d => cases e; exact q
    | bk c => cases e; exact q
    | ct c => cases e; exact q
  | false =>
    rw [z, if_neg (by decide)] at e
    exact hr b B G1 H1 σ I1 f e Dn q
/-- while e: .., the test changes what is owned -/
noncomputable def whP (c : β → Option γ) (tst : γ → Bool) (nx : γ → β) (k : β → Option β) : Nat → β → Option β
  | 0, _ => none
  | n + 1, b => (c b).bind fun g => if tst g = true then (k (nx g)).bind (whP c tst nx k n) else some (nx g)
theorem sv_whileP {inv : β → List Sl} {c : β → Option γ} {tst : γ → Bool} {nx : γ → β} {k : β → Option β} (n : Nat) (b0 : β) (hw : Weak S (inv b0)) (hc : ∀ b, ETP K cl tt (inv b) (c b) tst (fun g => inv (nx g))) (hb : ∀ b, SV K cl t (inv b) (k b) inv) :
    SV K cl (tWhile tt t) S (whP c tst nx k n b0) inv := fun B G H σ I bz e Dn q => by
  refine ⟨fun m σ' H' => ∃ b G', whP c tst nx k m b = some bz ∧ Sig K cl B G' H' (inv b) σ', ⟨n, b0, G, e, I.weak hw⟩, ?_⟩
  rintro m σ' H' ⟨b, G', eb, I'⟩
  cases m with
  | zero => cases eb
  | succ m =>
    obtain ⟨g, eg, eb⟩ := bind_some eb
    refine hc b B G' H' σ' I' g eg _ fun G1 H1 I1 _ => ?_
    cases z : tst g with
    | true =>
      rw [z, if_pos rfl] at eb
      obtain ⟨b2, eb2, eb⟩ := bind_some eb
      exact ⟨fun σ2 H2 => ∃ G2, Sig K cl B G2 H2 (inv b2) σ2, fun σ2 H2 ⟨G2, I2⟩ => ⟨m, by omega, b2, G2, eb, I2⟩, hb (nx g) B G1 H1 σ' I1 b2 eb2 _ fun σ2 G2 H2 I2 => ⟨G2, I2⟩⟩
    | false =>
      rw [z, if_neg (by decide)] at eb
      cases eb
      exact q σ' G1 H1 I1
/-! ### what is made of flat leaves alone rests on no other cell -/
noncomputable def flo : Sh → D → Bool
  | .v, d => flatB d
  | .l e, .lst ds => ds.all (flo e)
  | .j _ f, .ob _ fs => fs.all fun p => flo (f p.1) p.2
  | _, _ => false
theorem flatB_rep {v : V} {d : D} (h : flatB d = true) (r : Rep K cl G v d) : Rep K cl G' v d := by
  cases d with
  | non => cases r; exact .non
  | bl => cases r; exact .bl
  | int => cases r; exact .int
  | str => cases r; exact .str
  | _ => cases h
theorem OwnL.flo {R R' : V → D → List Addr → Prop} {p : D → Bool} (h : ∀ v d A, R v d A → p d = true → R' v d A) : ∀ {vs ds A}, OwnL R vs ds A → ds.all p = true → OwnL R' vs ds A
  | _, _, _, .nil, _ => .nil
  | _, _, _, .cons r t, e => by
    rw [List.all_cons, Bool.and_eq_true] at e
    exact .cons (h _ _ _ r e.1) (OwnL.flo h t e.2)
theorem OwnF.flo {R R' : Str → V → D → List Addr → Prop} {p : Str × D → Bool} (h : ∀ n v d A, R n v d A → p (n, d) = true → R' n v d A) : ∀ {vs ds A}, OwnF R vs ds A → ds.all p = true → OwnF R' vs ds A
  | _, _, _, .nil, _ => .nil
  | _, _, _, .cons r t, e => by
    rw [List.all_cons, Bool.and_eq_true] at e
    exact .cons (h _ _ _ _ r e.1) (OwnF.flo h t e.2)
theorem Own.flo : ∀ {sh : Sh} {v : V} {d : D} {A : List Addr}, Own K cl G H sh v d A → Oh.flo sh d = true → Own K cl G' H sh v d A
  | .v, _, _, _, ⟨h1, h2⟩, e => ⟨h1, flatB_rep e h2⟩
  | .l s, _, _, _, ⟨p, vs, ds, A', h1, h2, h3, h4, h5⟩, e => by
    subst h2
    exact ⟨p, vs, ds, A', h1, rfl, h3, h4, h5.flo (p := Oh.flo s) (fun v d A r e => Own.flo (sh := s) r e) e⟩
  | .j po f, _, _, _, ⟨p, dx, c, fs, ds, A', h1, hpo, h2, h3, h4, h5⟩, e => by
    subst h2
    exact ⟨p, dx, c, fs, ds, A', h1, hpo, rfl, h3, h4, h5.flo (p := fun p => Oh.flo (f p.1) p.2) (fun n v d A r e => Own.flo (sh := f n) r e) e⟩
  | .i p, _, _, _, h, e => by
    obtain ⟨dx, c, fs, ds, h1, h2, _⟩ := h
    subst h2
    cases e
  | .t f, _, _, _, h, e => by
    obtain ⟨p, vs, ds, h1, h2, _⟩ := h
    subst h2
    cases e
  | .d, _, d, _, h, e => by cases d <;> cases e
/-- slot k's list is lent to the call of a method of slot i's object -/
theorem evp_methL {i k c : Nat} {mn : Str} {po : Option Addr} {fs : Str → Sh} {shk : Sh} {d dk : D} {f : D → List D → Option (D × D)} (h0 : S[i]? = some (.ow (.j po fs) d)) (hk : S[k]? = some (.ow shk dk)) (ne : k ≠ i) (ha : EA K cl ts (S.set k (.vl dk)) ms (S.set k (.vl dk))) :
    EVP K cl (tMeth (cl.c c) mn (spO K cl fs f) [] E (tVar i) ts) S (((dMt c mn d).bind fun x => ms.bind fun xs => f x xs).bind fun r => if flatB r.1 = true ∧ Oh.flo (.j none fs) r.2 = true then some r else none) (·.1) (fun r => S.set i (.ow (.j po fs) r.2)) := fun B G H σ I r e Q q => by
  obtain ⟨r0, er, e⟩ := bind_some e
  by_cases hf : flatB r0.1 = true ∧ Oh.flo (.j none fs) r0.2 = true
  · rw [if_pos hf] at e; cases e
    obtain ⟨x, ex, e⟩ := bind_some er
    obtain ⟨xs, exs, e3⟩ := bind_some e
    obtain ⟨v, A, hσ, ow, _, _, _⟩ := I.thru h0
    obtain ⟨p, dx, c', vs, ds, A', rfl, _, rfl, hp, _, of⟩ := ow
    have e2 : (if c' = c ∧ ds.lookup mn = none then some (D.ob c' ds) else none) = some x := ex
    by_cases hc : c' = c ∧ ds.lookup mn = none
    · rw [if_pos hc] at e2
      cases e2
      obtain ⟨rfl, hn⟩ := hc
      refine ⟨.ref p, hσ, p, dx, vs, rfl, hp, of.none hn, ?_⟩
      obtain ⟨v0, G1, hσk, g1, r1, I1, inG⟩ := I.share2 hk
      refine ha B G1 H σ I1 xs exs _ fun us G2 H2 I2 g2 h2 rs => ?_
      have g12 := g1.trans g2
      have I4 := I.lendT hk I2 g12 h2
      have h1 : (S.set k (.vl dk))[i]? = some (.ow (.j po fs) (.ob c' ds)) := by rw [List.getElem?_set_ne ne]; exact h0
      obtain ⟨v1, A1, hσ1, ow1, nd1, out1, _⟩ := I2.thru h1
      rw [hσ] at hσ1; cases hσ1
      obtain ⟨v4, A4, hσ4, ow4, nd4, out4, cls⟩ := I4.thru h0
      rw [hσ] at hσ4; cases hσ4
      have eA : A1 = A4 := Own.det I2.nxt.gh I4.nxt.gh ow1 ow4
      subst eA
      refine ⟨G2, .ref p, us, _, xs, A1, r, by rw [List.append_nil], I2.nxt.gh, I2.tab, ow1.none_, nd1, fun a ha => (out1 a ha).1, rs, e3, fun w G' H' A2 nx o2 nd2 new rv => ?_⟩
      have gm : Ex (mixT G G2) G' := fun a u e => nx.g a u (mixT_in g12 e)
      refine q w (mixT G G2) H' (cls (mixT G G2) H' _ _ A2 ⟨Ex.refl _, nx.h, fun a u e => nx.gh a u (gm a u e), fun _ h => .inl h⟩ (ow1.some_ (o2.flo hf.2)) nd2 fun a ha => ⟨?_, (new a ha).2⟩) mixT_ex (flatB_rep hf.1 rv)
      cases z : mixT G G2 a with
      | none => rfl
      | some u => have := gm a u z; rw [(new a ha).1] at this; cases this
    · rw [if_neg hc] at e2; cases e2
  · rw [if_neg hf] at e; cases e
/-- xs.index(e), e changes what is owned -/
theorem evp_index {tx : TE} {mb : Option β} {val : β → D} {post : β → List Sl} (h : EV K cl te S m S1) (hx : EVP K cl tx S1 mb val post) : EVP K cl (tBM K "list" (rIndex K) te (tCons tx tNil)) S (m.bind fun d => mb.bind fun b => (dIndex d (val b)).map fun z => (z, b)) (·.1) (fun p => post p.2) := fun B G H σ I z e Q q => by
  obtain ⟨d, ed, e⟩ := bind_some e
  obtain ⟨b, eb, e⟩ := bind_some e
  obtain ⟨z0, ez, rfl⟩ := Option.map_eq_some_iff.mp e
  obtain ⟨xs, exs, ez⟩ := bind_some ez
  obtain ⟨ks, eks, ez⟩ := bind_some ez
  obtain ⟨k, ek, ez⟩ := bind_some ez
  obtain ⟨j, ej, rfl⟩ := Option.map_eq_some_iff.mp ez
  obtain ⟨hj, hj1, hj2⟩ := List.findIdx?_eq_some_iff_getElem.mp ej
  refine h B G H σ I d ed _ fun v G1 H1 I1 g1 h1 rv => ?_
  obtain ⟨a, vs, rfl, sq, rs⟩ : ∃ a vs, v = .ref a ∧ SqL K G1 a vs ∧ Reps K cl G1 vs xs := by
    cases rv with
    | lst hg rs => cases exs; exact ⟨_, _, rfl, sq_of hg, rs⟩
    | rol hg rs => cases exs; exact ⟨_, _, rfl, hg, rs⟩
    | _ => cases exs
  have ev := kys_reps eks rs
  subst ev
  refine ⟨Or.inl ⟨rfl, _, ex_l I1.nxt.gh sq⟩, hx B G1 H1 σ I1 b eb _ fun w G2 H2 I2 g2 rw_ => ?_⟩
  have ew := ky_rep ek rw_
  subst ew
  refine ⟨a, ks.map kyV, kyV k, j, kyV ks[j], rfl, rfl, ex_l I2.nxt.gh (ex_l g2 sq), ky_flat k, ?_, ?_, ?_, fun m z' hm hz => ?_, q _ G2 H2 I2 (g1.trans g2) .int⟩
  · rw [List.all_eq_true]
    intro y hy
    obtain ⟨k', _, rfl⟩ := List.mem_map.mp hy
    exact ky_flat k'
  · rw [List.getElem?_map, List.getElem?_eq_getElem hj]; rfl
  · rw [ky_eq]; exact hj1
  · rw [List.getElem?_map] at hz
    obtain ⟨k', hk', rfl⟩ := Option.map_eq_some_iff.mp hz
    have hml : m < ks.length := Nat.lt_trans hm hj
    rw [List.getElem?_eq_getElem hml] at hk'
    cases hk'
    rw [ky_eq]
    have := hj2 m hm
    simpa using this
end
end Oh
namespace Oh
open PySem PySem.Spec PyProof.Rows L2 Evl
section
variable {X : Cx} {K : PySem.W.Frag} {cl : Cl} {S S1 S2 S3 : List Sl} {te ta tb : TE} {m n : Option D} {e e2 o : Expr}
/-! ### slices of texts -/
noncomputable def dSlS (d : D) (lo hi : Option Int) : Option D := match d with | .str z => if z.length ≤ 100000 then some (.str (cutS z lo hi)) else none | _ => none
theorem ev_slS {tl th : TO} {ml mh : Option (Option Int)} (h : EV K cl te S m S1) (h1 : EO tl S1 ml S2 K cl) (h2 : EO th S2 mh S3 K cl) : EV K cl (tSl rSlS te tl th) S (m.bind fun d => ml.bind fun lo => mh.bind fun hi => dSlS d lo hi) S3 := fun B G H σ I z e Q q => by
  obtain ⟨d, ed, e⟩ := bind_some e
  obtain ⟨lo, el, e⟩ := bind_some e
  obtain ⟨hi, eh, e⟩ := bind_some e
  refine h B G H σ I d ed _ fun v G1 H1 I1 g1 h1' rv => ?_
  refine h1 B G1 H1 σ I1 lo el _ fun G2 H2 I2 g2 h2' => ?_
  refine h2 B G2 H2 σ I2 hi eh _ fun G3 H3 I3 g3 h3' => ?_
  cases rv with
  | @str x =>
    have e : (if x.length ≤ 100000 then some (D.str (cutS x lo hi)) else none) = some z := e
    split at e
    · rename_i hl
      cases e
      exact ⟨_, rfl, sz_of hl, q _ G3 H3 I3 ((g1.trans g2).trans g3) ((h1'.trans h2').trans h3') .str⟩
    · cases e
  | _ => cases e
/-! ### one sign in a text -/
noncomputable def sgD : D → Option Nat | .str z => (match z.cps.toList with | [c] => some c | _ => none) | _ => none
noncomputable def dInT (x y : D) : Option D := (sgD x).bind fun c => match y with | .str z => some (.bl (decide (c ∈ z.cps.toList))) | _ => none
noncomputable def rInT : R2 := fun x y H Q => ∃ (c : Nat) (z : Str), x = .str ⟨#[c]⟩ ∧ y = .str z ∧ Q (.bl (decide (c ∈ z.cps.toList))) H
theorem op_inT : OpR X (compareOp .In) rInT := op_in_sign
theorem sg_str {x : D} {c : Nat} (h : sgD x = some c) : x = .str ⟨#[c]⟩ := by
  cases x with
  | str z =>
    have h : (match z.cps.toList with | [c] => some c | _ => none) = some c := h
    split at h
    · rename_i c' e
      cases h
      obtain ⟨⟨l⟩⟩ := z
      have e : l = [c] := e
      rw [e]
    · cases h
  | _ => cases h
theorem o_inT : Op2 K cl rInT dInT := by
  intro G H x y d e z gh rx ry h Q q
  obtain ⟨c, ec, h⟩ := bind_some h
  have ed := sg_str ec
  subst ed
  cases rx
  cases ry <;> (try (cases h; done))
  cases h
  exact ⟨c, _, rfl, rfl, q _ .bl⟩
/-! ### a text so many times -/
noncomputable def rMulT : R2 := fun x y H Q => ∃ (z : Str) (k : Int), x = .str z ∧ y = .int k ∧ PySem.MulOk z k ∧ Q (.str (Txt.mul z k)) H
theorem op_mulT : OpR X (binaryOp .Mult) rMulT := by
  intro pins s σ H x y v u Q I rx ry h
  obtain ⟨z, k, rfl, rfl, hk, q⟩ := h
  obtain ⟨t, rfl⟩ := rx
  obtain ⟨t', rfl⟩ := ry
  exact PySem.SB.mul hk fun t2 k2 => ⟨.str (Txt.mul z k), H, I.tok _, ⟨_, rfl⟩, q⟩
noncomputable def dMulT : D → D → Option D
  | .str z, .int k => if 0 ≤ k ∧ k ≤ 1000 ∧ z.length ≤ 1000 then some (.str (Txt.mul z k)) else none
  | _, _ => none
theorem o_mulT : Op2 K cl rMulT dMulT := by
  intro G H x y d e z gh rx ry h Q q
  cases rx <;> cases ry <;> (try (cases h; done))
  rename_i a k
  have h : (if 0 ≤ k ∧ k ≤ 1000 ∧ a.length ≤ 1000 then some (D.str (Txt.mul a k)) else none) = some z := h
  split at h
  · rename_i hk
    cases h
    refine ⟨a, k, rfl, rfl, ⟨?_, fun h1 h2 => ?_, fun h1 h2 => ?_⟩, q _ .str⟩
    · rw [Bool.or_eq_false_iff]
      exact ⟨decide_eq_false (by omega), decide_eq_false (by omega)⟩
    · have h3 : (a.length : Int) * k ≤ 1000 * 1000 := Int.mul_le_mul (by omega) (by omega) (by omega) (by decide)
      have h4 : (a.length : Int) ≤ (2 ^ 63 - 1) / k := Int.le_ediv_of_mul_le (by omega) (by omega)
      omega
    · have h3 : a.length * k.toNat ≤ 1000 * 1000 := Nat.mul_le_mul hk.2.2 (by omega)
      unfold Builtin.Str.tooLong
      rw [sizeLine_eq]
      exact decide_eq_false (by omega)
  · cases h
/-! ### the signs of a text -/
noncomputable def dChars (d : D) : Option (List D) := match d with | .str z => some (z.cps.toList.map fun c => .str ⟨#[c]⟩) | _ => none
theorem iv_str (h : EV K cl te S m S1) : IV K cl (iStr te) S (m.bind dChars) S1 := fun B G H σ I xs e R r => by
  obtain ⟨d, ed, e⟩ := bind_some e
  refine h B G H σ I d ed _ fun v G' H' I' g1 h1 rv => ?_
  cases rv with
  | @str x =>
    cases e
    have hl : (x.cps.toList.map fun c => D.str ⟨#[c]⟩).length = x.cps.size := by rw [List.length_map, Array.length_toList]
    refine ⟨x, rfl, r _ G' H' I' g1 h1 ⟨fun G2 H2 eg gh => by rw [hl]; exact Nat.le_refl _, fun i G2 H2 hi eg gh => by rw [hl] at hi; exact hi, fun i y G2 H2 v H3 hx eg gh hy => ?_⟩⟩
    obtain ⟨e1, c, hc, rfl⟩ := hy
    subst e1
    rw [List.getElem?_map, Array.getElem?_toList, hc] at hx
    cases hx
    exact ⟨G2, Nxt.refl gh, .str⟩
  | _ => cases e
/-! ### split, join -/
noncomputable abbrev rSplit : V → List V → Hp → VK → Prop := fun x xs H Q => ∃ a b, x = .str a ∧ xs = [.str b] ∧ (b.length == 0) = false ∧ a.length + 2 ≤ sizeLine ∧ rNewStrs (Txt.split a b) H Q
noncomputable def dSplit (x y : D) : Option D := match x, y with
  | .str a, .str b => if (b.length == 0) = false ∧ a.length ≤ 90000 then some (.lst ((Txt.split a b).map .str)) else none
  | _, _ => none
theorem strs_reps {G : Hp} : ∀ ys : List Str, Reps K cl G (ys.map V.str) (ys.map D.str)
  | [] => .nil
  | _ :: ys => .cons .str (strs_reps ys)
theorem evn_split (h : EV K cl ta S m S1) (h2 : EV K cl tb S1 n S2) : EVN K cl (tM1 rSplit ta tb) S (m.bind fun x => n.bind fun y => dSplit x y) S2 := fun B G H σ I z e Q q => by
  obtain ⟨a, ea, e⟩ := bind_some e
  obtain ⟨b, eb, e⟩ := bind_some e
  refine h B G H σ I a ea _ fun x G1 H1 I1 g1 h1 rx => ?_
  cases rx with
  | @str x =>
    refine ⟨⟨x, rfl⟩, h2 B G1 H1 σ I1 b eb _ fun y G2 H2 I2 g2 h2' ry => ?_⟩
    cases ry with
    | @str y =>
      have e : (if (y.length == 0) = false ∧ x.length ≤ 90000 then some (D.lst ((Txt.split x y).map .str)) else none) = some z := e
      split at e
      · rename_i hc
        cases e
        exact ⟨x, y, rfl, rfl, hc.1, sz_of (by omega), fun p hp => q p _ _ G2 H2 I2 (g1.trans g2) (h1.trans h2') rfl hp (strs_reps _)⟩
      · cases e
    | _ => cases e
  | _ => cases e
noncomputable def strsD : List D → Option (List Str)
  | [] => some []
  | .str z :: ds => (strsD ds).map (z :: ·)
  | _ :: _ => none
theorem strs_of {G : Hp} : ∀ {ds : List D} {ys : List Str} {vs : List V}, strsD ds = some ys → Reps K cl G vs ds → vs = ys.map V.str
  | [], ys, _, h, .nil => by cases h; rfl
  | d :: ds, ys, _, h, .cons r t => by
    cases d with
    | str z =>
      obtain ⟨ys', e, rfl⟩ := Option.map_eq_some_iff.mp h
      cases r
      rw [strs_of e t]; rfl
    | _ => cases h
noncomputable def dJoin (x y : D) : Option D := match x with
  | .str a => (asLT y).bind fun ds => (strsD ds).bind fun ys => if (ys.map (·.length)).sum + ys.length * a.length ≤ 100000 then some (.str (Txt.join a ys)) else none
  | _ => none
noncomputable abbrev rJoin (K : PySem.W.Frag) : V → List V → Hp → VK → Prop := fun x xs H Q => ∃ a p, ∃ ys : List Str, x = .str a ∧ xs = [.ref p] ∧ (SqL K H p (ys.map V.str) ∨ SqT K H p (ys.map V.str)) ∧ (ys.map (·.length)).sum + ys.length * a.length ≤ 16777216 ∧ Q (.str (Txt.join a ys)) H
theorem ev_join (h : EV K cl ta S m S1) (h2 : EV K cl tb S1 n S2) : EV K cl (tM1 (rJoin K) ta tb) S (m.bind fun x => n.bind fun y => dJoin x y) S2 := fun B G H σ I z e Q q => by
  obtain ⟨a, ea, e⟩ := bind_some e
  obtain ⟨b, eb, e⟩ := bind_some e
  refine h B G H σ I a ea _ fun x G1 H1 I1 g1 h1 rx => ?_
  cases rx with
  | @str x =>
    refine ⟨⟨x, rfl⟩, h2 B G1 H1 σ I1 b eb _ fun y G2 H2 I2 g2 h2' ry => ?_⟩
    obtain ⟨ds, eds, e⟩ := bind_some e
    obtain ⟨ys, eys, e⟩ := bind_some e
    split at e
    · rename_i hc
      cases e
      cases ry with
      | lst hg rs => cases eds; exact ⟨x, _, ys, rfl, rfl, .inl (by rw [← strs_of eys rs]; exact sq_of (I2.nxt.gh _ _ hg)), by omega, q _ G2 H2 I2 (g1.trans g2) (h1.trans h2') .str⟩
      | rol hg rs => cases eds; exact ⟨x, _, ys, rfl, rfl, .inl (by rw [← strs_of eys rs]; exact ex_l I2.nxt.gh hg), by omega, q _ G2 H2 I2 (g1.trans g2) (h1.trans h2') .str⟩
      | tup hg rs => cases eds; exact ⟨x, _, ys, rfl, rfl, .inr (by rw [← strs_of eys rs]; exact ex_t I2.nxt.gh hg), by omega, q _ G2 H2 I2 (g1.trans g2) (h1.trans h2') .str⟩
      | _ => cases eds
    · cases e
  | _ => cases e
theorem splitK (he : PE X e ta) (he2 : PE X e2 tb) {apos pos : Pos} (hs : starEach [e2] X.env = [(false, eval e2 X.env)] := by rfl) (hbase : attributeBase e "split" X.env (eval e X.env) = eval e X.env := by rfl) (hline : (apos.endLine == pos.line) = true := by rfl) :
    PE X (.Call (.Attribute e "split" apos) [e2] [] pos) (tM1 rSplit ta tb) := pe_split he he2 hs hbase hline
theorem joinK (he : PE X e ta) (he2 : PE X e2 tb) {apos pos : Pos} (hs : starEach [e2] X.env = [(false, eval e2 X.env)] := by rfl) (hbase : attributeBase e "join" X.env (eval e X.env) = eval e X.env := by rfl) (hline : (apos.endLine == pos.line) = true := by rfl) (h : X.K = K := by rfl) :
    PE X (.Call (.Attribute e "join" apos) [e2] [] pos) (tM1 (rJoin K) ta tb) := by subst h; exact pe_join he he2 hs hbase hline
end
end Oh
namespace Oh
open PySem PySem.Spec PyProof.Rows L2 Evl
section
variable {X : Cx} {K : PySem.W.Frag} {cl : Cl} {G G' H H' : Hp} {B : Bs} {σ : L2.St} {S S1 S2 S3 : List Sl} {te ta tb : TE} {tc : TT} {m n : Option D} {mc : Option Bool}
theorem Sig.thruJ (I : Sig K cl B G H S σ) {i : Nat} {sh : Sh} {d : D} (h : S[i]? = some (.ow sh d)) :
    ∃ v A, σ[i]? = some (some v) ∧ Own K cl G H sh v d A ∧ A.Nodup ∧ (∀ p ∈ A, G p = none ∧ B.H p = none) ∧
      ∀ (G' H' : Hp), Nxt G (cutA H A) G' H' → Sig K cl B G' H' (S.set i .jk) σ := by
  obtain ⟨A, hs, ap⟩ := I.slots
  obtain ⟨o, h1, v, rfl, ow, nd, out⟩ := hs i _ h
  have hl : i < S.length := (List.getElem?_eq_some_iff.mp h).1
  refine ⟨v, A i, h1, ow, nd, out, fun G' H' n => ?_⟩
  have keep : ∀ a u, a ∉ A i → H a = some u → NT u → H' a = some u := fun a u ha e nt => n.h a u (by rw [cutA_out ha]; exact e)
  have back : ∀ p, G' p ≠ none → G p ≠ none ∨ H p = none ∨ p ∈ A i := fun p hp => by
    rcases n.fr p hp with h | h
    · exact .inl h
    · by_cases z : p ∈ A i
      · exact .inr (.inr z)
      · rw [cutA_out z] at h; exact .inr (.inl h)
  refine ⟨⟨I.nxt.g.trans n.g, ⟨fun a u _ e => ?_, fun a ps e => ?_⟩, n.gh, fun p hp => ?_⟩, by rw [List.length_set]; exact I.len, fun a ha => ?_, atA A i [], fun j s hj => ?_, fun j k ne hj hk p hp => ?_⟩
  · have e1 := I.nxt.h a u e
    exact keep a u (fun z => by rw [(out a z).2] at e; cases e) e1 ‹_›
  · obtain ⟨ps1, e1, k1⟩ := I.nxt.h.b a ps e
    obtain ⟨ps2, e2, k2⟩ := n.h.b a ps1 (by rw [cutA_out fun z => by rw [(out a z).2] at e; cases e]; exact e1)
    exact ⟨ps2, e2, fun z => k2 (k1 z)⟩
  · rcases back p hp with h | h | h
    · exact I.nxt.fr p h
    · exact .inr (I.nxt.h.back h)
    · exact .inr (out p h).2
  · obtain ⟨⟨ps, e, ok⟩, hg⟩ := I.tab a ha
    have na := ow.noT ⟨ps, e, ok⟩
    obtain ⟨ps2, e2, k2⟩ := n.h.b a ps (by rw [cutA_out na]; exact e)
    refine ⟨⟨ps2, e2, k2 ok⟩, ?_⟩
    cases q : G' a with
    | none => rfl
    | some u =>
      rcases back a (by rw [q]; simp) with h | h | h
      · exact absurd hg h
      · rw [e] at h; cases h
      · exact absurd h na
  · by_cases e : i = j
    · subst e
      rw [List.getElem?_set_self hl] at hj
      cases hj
      refine ⟨_, h1, ?_⟩
      exact atA_e rfl
    · rw [List.getElem?_set_ne e] at hj
      have hlj : j < S.length := (List.getElem?_eq_some_iff.mp hj).1
      obtain ⟨o, h2, h3⟩ := hs j s hj
      refine ⟨o, h2, ?_⟩
      rw [atA_n (fun z => e z.symm)]
      cases s with
      | jk => exact h3
      | vl d' =>
        obtain ⟨ea, v, e1, r⟩ := h3
        exact ⟨ea, v, e1, r.mono n.g⟩
      | ow sh2 d2 =>
        obtain ⟨v2, e1, ow2, nd2, out2⟩ := h3
        refine ⟨v2, e1, ow2.step n.g (fun p hp u nt hu => keep p u (ap j i (fun z => e z.symm) hlj hl p hp) hu nt), nd2, fun p hp => ⟨?_, (out2 p hp).2⟩⟩
        cases q : G' p with
        | none => rfl
        | some u =>
          rcases back p (by rw [q]; simp) with h | h | h
          · exact absurd (out2 p hp).1 h
          · exact absurd h (ow2.inH p hp)
          · exact absurd h (ap j i (fun z => e z.symm) hlj hl p hp)
  · rw [List.length_set] at hj hk
    have inH : ∀ j, j < S.length → ∀ p ∈ A j, H p ≠ none := fun j hj p hp => by
      obtain ⟨o, h1, h2⟩ := hs j S[j] (List.getElem?_eq_getElem hj)
      generalize S[j] = s at h2
      cases s with
      | jk => rw [h2] at hp; cases hp
      | vl d' => rw [h2.1] at hp; cases hp
      | ow sh' d' => obtain ⟨v', _, ow', _⟩ := h2; exact ow'.inH p hp
    by_cases ej : j = i
    · subst ej
      rw [atA_e rfl] at hp
      cases hp
    · rw [atA_n ej] at hp
      by_cases ek : k = i
      · subst ek
        rw [atA_e rfl]
        exact fun y => nomatch y
      · rw [atA_n ek]; exact ap j k ne hj hk p hp
/-- if c: raise .. (it never does) -/
theorem sv_ifno (hc : ET K cl tc S mc S1) : SV K cl (tIfS tc tNever tNext) S (mc.bind fun c => if c = true then none else some ()) (fun _ => S1) := fun B G H σ I b e Dn q => by
  obtain ⟨c, ec, e⟩ := bind_some e
  refine hc B G H σ I c ec _ fun G1 H1 I1 _ _ => ?_
  cases c with
  | true => cases e
  | false => rw [if_neg (by decide)]; exact q σ G1 H1 I1
/-- what is one's own is lent while a new copy of it is made, which then stands for ever -/
theorem ev_lendF {i : Nat} {sh sh0 : Sh} {d0 : D} (h : S[i]? = some (.ow sh0 d0)) (he : EVO K cl sh te (S.set i (.vl d0)) m (S.set i (.vl d0))) : EV K cl te S (m.bind fun z => if flo sh z = true then some z else none) S := fun B G H σ I z e Q q => by
  obtain ⟨x, ex, e⟩ := bind_some e
  split at e
  · rename_i hb
    cases e
    obtain ⟨v0, G1, hσ, g1, r1, I1, inG⟩ := I.share2 h
    refine he B G1 H σ I1 z ex _ fun v G2 H2 I2 g2 h2 => ?_
    have g12 := g1.trans g2
    have I3 := I2.cut
    have I4 := I.lendT h I3 g12 h2
    have hl : i < S.length := (List.getElem?_eq_some_iff.mp h).1
    have L : (S.set i (.vl d0)).length = S.length := List.length_set ..
    have hσl : σ.length = S.length := I.len
    obtain ⟨AA2, hs2, ap2⟩ := I2.slots
    obtain ⟨AA4, hs4, ap4⟩ := I4.slots
    obtain ⟨o, h1, v', e1, ow, nd, out⟩ := hs2 S.length (.ow sh z) (by rw [List.getElem?_append_right (by rw [L]; exact Nat.le_refl _), L, Nat.sub_self]; rfl)
    rw [List.getElem?_append_right (by rw [hσl]; exact Nat.le_refl _), hσl, Nat.sub_self] at h1
    cases h1
    cases e1
    generalize hA2 : AA2 S.length = A2 at *
    have ow' := Own.flo (G' := mixT G G2) ow hb
    have mN : ∀ p ∈ A2, mixT G G2 p = none := fun p hp => by
      cases q2 : mixT G G2 p with
      | none => rfl
      | some u => have := mixT_in g12 q2; rw [(out p hp).1] at this; cases this
    have eg : Ex (mixT G G2) (fun b => if b ∈ A2 then H2 b else mixT G G2 b) := fun a u e => by
      show (if a ∈ A2 then H2 a else mixT G G2 a) = _
      rw [if_neg (fun z => by rw [mN a z] at e; cases e)]; exact e
    have dj : ∀ j s, S[j]? = some s → ∀ p ∈ AA4 j, p ∉ A2 := fun j s hj p hp hp2 => by
      have hlj : j < S.length := (List.getElem?_eq_some_iff.mp hj).1
      obtain ⟨o4, k1, k2⟩ := hs4 j s hj
      cases s with
      | jk => rw [k2] at hp; cases hp
      | vl d' => rw [k2.1] at hp; cases hp
      | ow sh' d' =>
        obtain ⟨v4, e4, ow4, nd4, out4⟩ := k2
        subst e4
        by_cases ej : j = i
        · subst ej
          rw [h] at hj; cases hj
          rw [hσ] at k1; cases k1
          obtain ⟨v5, A5, l1, l2, l3, l4, _⟩ := I.opn h
          rw [hσ] at l1; cases l1
          have e5 : AA4 j = A5 := Own.det I4.nxt.gh (mixT_ex.trans I4.nxt.gh) ow4 (l2.step (Ex.refl _) fun p hp u _ hu => h2 p u hu)
          rw [e5] at hp
          have := inG A5 l2 p hp
          cases q3 : G1 p with
          | none => exact this q3
          | some u => have := g2 p u q3; rw [(out p hp2).1] at this; cases this
        · obtain ⟨o5, l1, l2⟩ := hs2 j (.ow sh' d') (by rw [List.getElem?_append_left (by rw [L]; exact hlj), List.getElem?_set_ne (fun z => ej z.symm)]; exact hj)
          rw [List.getElem?_append_left (by rw [hσl]; exact hlj), k1] at l1
          cases l1
          obtain ⟨v5, e5, ow5, nd5, out5⟩ := l2
          cases e5
          have e6 : AA4 j = AA2 j := Own.det I4.nxt.gh I2.nxt.gh ow4 ow5
          rw [e6] at hp
          exact ap2 j S.length (by omega) (by rw [List.length_append, L]; omega) (by rw [List.length_append, L]; show S.length < S.length + 1; omega) p hp (by rw [hA2]; exact hp2)
    have I5 : Sig K cl B (fun b => if b ∈ A2 then H2 b else mixT G G2 b) H2 S σ := by
      refine ⟨⟨I4.nxt.g.trans eg, I4.nxt.h, fun a u e => ?_, fun a e => ?_⟩, I4.len, fun a ha => ⟨(I4.tab a ha).1, by show (if a ∈ A2 then H2 a else mixT G G2 a) = none; rw [if_neg (ow.noT (I4.tab a ha).1)]; exact (I4.tab a ha).2⟩, AA4, fun j s hj => ?_, ap4⟩
      · by_cases z : a ∈ A2
        · rw [if_pos z] at e; exact e
        · rw [if_neg z] at e; exact I4.nxt.gh a u e
      · by_cases z : a ∈ A2
        · exact .inr (out a z).2
        · rw [if_neg z] at e; exact I4.nxt.fr a e
      · obtain ⟨o4, k1, k2⟩ := hs4 j s hj
        refine ⟨o4, k1, ?_⟩
        have dj := dj j s hj
        cases s with
        | jk => exact k2
        | vl d' =>
          obtain ⟨ea, v, e1, r1⟩ := k2
          exact ⟨ea, v, e1, r1.mono eg⟩
        | ow sh' d' =>
          obtain ⟨v', e1, ow2, nd', out'⟩ := k2
          refine ⟨v', e1, ow2.step eg (fun p hp u _ hu => hu), nd', fun p hp => ⟨?_, (out' p hp).2⟩⟩
          show (if p ∈ A2 then H2 p else mixT G G2 p) = none
          rw [if_neg (dj p hp)]
          exact (out' p hp).1
    exact q v _ H2 I5 (mixT_ex.trans eg) h2 (ow'.rep eg fun p hp => if_pos hp)
  · cases e
/-! ### a def that spoils what it is handed -/
noncomputable def spSp (K : PySem.W.Frag) (cl : Cl) (ok : D → Bool) : Sp := fun vs H Q _ => ∃ G x d A, vs = [x] ∧ Ex G H ∧ (∀ a ∈ cl.t, GxR.TabG H a ∧ G a = none) ∧ OwnD G H x d A ∧ A.Nodup ∧ (∀ p ∈ A, G p = none) ∧ ok d = true ∧ ∀ G' H', Nxt G (cutA H A) G' H' → Q .non H'
structure ConSp (P : Program) (w : World) (K : PySem.W.Frag) (cl : Cl) (mg : Str → Option Value) (base : Heap) (k : Nat) (x : Str) (ok : D → Bool) (fa : Addr) (fd : FuncData) (ps : List Str) : Prop where
  ok : FnOk P w K mg base CX0 k fa fd ps (spSp K cl ok)
  mg : mg x = some (.ref fa)
  kp : PySem.W.keepIn K (.ref fa) = true
  bd : Binds K fd ps []
theorem sv_spoilC {i : Nat} {d : D} {ok : D → Bool} {E : XK} (h0 : S[i]? = some (.ow .d d)) : SV K cl (tDrop (tCall (spSp K cl ok) [] E (tCons (tVar i) tNil))) S (if ok d = true then some () else none) (fun _ => S.set i .jk) := fun B G H σ I b e Dn q => by
  split at e
  · rename_i hd
    obtain ⟨v, A, hσ, ow, nd, out, cls⟩ := I.thruJ h0
    exact ⟨v, hσ, G, v, d, A, by rw [List.append_nil], I.nxt.gh, I.tab, ow, nd, fun p hp => (out p hp).1, hd, fun G' H' nx => q σ G' H' (cls G' H' nx)⟩
  · cases e
end
end Oh
namespace Oh
open PySem PySem.Spec PyProof.Rows L2 Evl PyProof
section zipThree
theorem li_ne {h : Heap} {it l : Addr} {i : Nat} {items : Array Value} (h1 : h.IsListIter it l i) (h2 : h.IsList l items) : l ≠ it := fun e => by
  subst e
  obtain ⟨o, q, _, d⟩ := h1
  obtain ⟨o', q', _, n, d'⟩ := h2
  rw [q] at q'
  cases q'
  rw [d] at d'
  cases d'
noncomputable def It3 (K : PySem.W.Frag) (a b c : Addr) : It :=
  ⟨fun i H => ∃ (xs ys zs : List V) (x y z : V), SqL K H a xs ∧ SqL K H b ys ∧ SqL K H c zs ∧ xs[i]? = some x ∧ ys[i]? = some y ∧ zs[i]? = some z,
    fun i H v H' => ∃ T x y z, v = .ref T ∧ H T = none ∧ H' = upd H T (.tup [x, y, z]) ∧ (∀ xs, SqL K H a xs → xs[i]? = some x) ∧ (∀ ys, SqL K H b ys → ys[i]? = some y) ∧ ∀ zs, SqL K H c zs → zs[i]? = some z,
    fun i H => ∃ xs ys zs : List V, SqL K H a xs ∧ SqL K H b ys ∧ SqL K H c zs ∧ i ≤ xs.length ∧ i ≤ ys.length ∧ i ≤ zs.length ∧ (i = xs.length ∨ i = ys.length ∨ i = zs.length)⟩
theorem six {P : Addr → Prop} {z TI TO i1 i2 i3 : Addr} (h : P z) (h1 : P TI) (h2 : P TO) (h3 : P i1) (h4 : P i2) (h5 : P i3) : ∀ c ∈ [z, TI, TO, i1, i2, i3], P c := fun c hc => by
  have e' : c = z ∨ c = TI ∨ c = TO ∨ c = i1 ∨ c = i2 ∨ c = i3 := by simpa using hc
  rcases e' with q | q | q | q | q | q <;> (rw [q]; assumption)
theorem turn_zip3 {P : Program} {w : World} {K : PySem.W.Frag} {elts : List Expr} {kk : Nat} {tpos : Pos} {a b c z TI TO i1 i2 i3 : Addr} (D : ZipSep3 z TI TO i1 i2 i3 [i1, a] [i2, b] [i3, c]) (zn : z ≠ TI) :
    Turn P w K (.Tuple elts kk tpos) (It3 K a b c) [z, TI, TO, i1, i2, i3] z (fun i h => IsZip h z TI TO .none ∧ IsTupOf3 h TI (.ref i1) (.ref i2) (.ref i3) ∧ (∃ x y u, IsTupOf3 h TO x y u) ∧ h.IsListIter i1 a i ∧ h.IsListIter i2 b i ∧ h.IsListIter i3 c i) where
  mem := by simp
  obj := fun i h st => by
    obtain ⟨hz, hTI, ⟨x, y, u, hTO⟩, ⟨o1, e1, _, d1⟩, ⟨o2, e2, _, d2⟩, ⟨o3, e3, _, d3⟩⟩ := st
    exact six ⟨_, hz, fun v q => nomatch q⟩ ⟨_, hTI, fun v q => nomatch q⟩ ⟨_, hTO, fun v q => nomatch q⟩ ⟨o1, e1, fun v q => by rw [d1] at q; cases q⟩ ⟨o2, e2, fun v q => by rw [d2] at q; cases q⟩ ⟨o3, e3, fun v q => by rw [d3] at q; cases q⟩
  keep := fun i h h' st k => by
    obtain ⟨hz, hTI, ⟨x, y, u, hTO⟩, h1, h2, h3⟩ := st
    exact ⟨k z (by simp) _ hz, k TI (by simp) _ hTI, ⟨x, y, u, k TO (by simp) _ hTO⟩, h1.at fun o q => k i1 (by simp) o q, h2.at fun o q => k i2 (by simp) o q, h3.at fun o q => k i3 (by simp) o q⟩
  item := by
    intro X hP hw hK hc i pins s σ H E I hf st hg
    subst hP hw hK
    obtain ⟨hz, hTI, ⟨x0, y0, u0, hTO⟩, h1, h2, h3⟩ := st
    obtain ⟨xs, ys, zs, x, y, u, hqx, hqy, hqz, hx, hy, hu⟩ := hg
    obtain ⟨its, rv, p, _⟩ := I.list hqx
    obtain ⟨its2, rv2, p2, _⟩ := I.list hqy
    obtain ⟨its3, rv3, p3, _⟩ := I.list hqz
    obtain ⟨w1, hw1, ru1⟩ := rv.get hx
    obtain ⟨w2, hw2, ru2⟩ := rv2.get hy
    obtain ⟨w3, hw3, ru3⟩ := rv3.get hu
    have hzl : z < s.heap.objs.size := Heap.lt_size hz
    have hh := I.ok.hd hc
    refine wpAny_pyNext_zipD3_item D (Draws.list (A := X.A.in1) hh i1 a (li_ne h1 p.isList) its.toArray)
      (Draws.list (A := X.A.in1) hh i2 b (li_ne h2 p2.isList) its2.toArray)
      (Draws.list (A := X.A.in1) hh i3 c (li_ne h3 p3.isList) its3.toArray)
      hz hTI hTO ⟨h1, p.isList⟩ ⟨h2, p2.isList⟩ ⟨h3, p3.isList⟩ (by have := (List.getElem?_eq_some_iff.mp hw1).1; simpa using this) (by have := (List.getElem?_eq_some_iff.mp hw2).1; simpa using this) (by have := (List.getElem?_eq_some_iff.mp hw3).1; simpa using this)
      fun v1 v2 v3 h' tk q1 q2 q3 z' TO' n1 n2 n3 hT hsz hk => ?_
    have e1 : v1 = w1 := by simp [hw1] at q1; exact q1.symm
    have e2 : v2 = w2 := by simp [hw2] at q2; exact q2.symm
    have e3 : v3 = w3 := by simp [hw3] at q3; exact q3.symm
    subst e1 e2 e3
    refine ⟨_, rfl, wpAny_letOwnedTupleGo_zip (s := { s with heap := h', toks := tk }) z' fun h'' z'' sb => ?_⟩
    have hT2 : h''.get? s.heap.objs.size = some { cls := .type "tuple", data := .seq #[v1, v2, v3] } := (sb.2 _ (Nat.ne_of_gt hzl)).trans hT
    have new : ObjOk X.prog X.w (upd H s.heap.objs.size (.tup [x, y, u])) h'' s.heap.objs.size (.tup [x, y, u]) :=
      ⟨by show 3 ≤ sizeLine; decide, [v1, v2, v3], .cons ru1 (.cons ru2 (.cons ru3 .nil)), ⟨_, hT2, rfl, _, rfl⟩⟩
    have I1 : Inv X pins σ (upd H s.heap.objs.size (.tup [x, y, u])) { s with heap := h'', toks := tk } :=
      I.turnedNew (t' := tk) (ch := [z, TI, TO, i1, i2, i3]) (fun c o hb q => (sb.2 c (fun q' => hb (by simp [q']))).trans (hk c o (fun q' => hb (by simp [q'])) (fun q' => hb (by simp [q'])) (fun q' => hb (by simp [q'])) (fun q' => hb (by simp [q'])) (fun q' => hb (by simp [q'])) q)) hf (Nat.le_refl _) new
    refine ⟨.ref s.heap.objs.size, _, I1, rfl, ⟨_, x, y, u, rfl, I.hok.fresh (Nat.le_refl _), rfl, fun l hl => by rw [I.list_inj hl hqx]; exact hx, fun l hl => by rw [I.list_inj hl hqy]; exact hy, fun l hl => by rw [I.list_inj hl hqz]; exact hu⟩, ⟨z'', ?_, ⟨v1, v2, v3, ?_⟩, ?_, ?_, ?_⟩, six ?_ ?_ ?_ ?_ ?_ ?_⟩
    · exact (sb.2 _ D.TIz).trans (hk _ _ D.TIz D.TITO D.TIi1 D.TIi2 D.TIi3 hTI)
    · exact (sb.2 _ D.TOz).trans TO'
    · exact n1.1.at fun o q => (sb.2 _ (fun e => D.zf1 (by simp [e]))).trans q
    · exact n2.1.at fun o q => (sb.2 _ (fun e => D.zf2 (by simp [e]))).trans q
    · exact n3.1.at fun o q => (sb.2 _ (fun e => D.zf3 (by simp [e]))).trans q
    · rw [upd_ne (Nat.ne_of_lt hzl)]; exact (hf z (by simp)).1
    · rw [upd_ne (Nat.ne_of_lt (Heap.lt_size hTI))]; exact (hf TI (by simp)).1
    · rw [upd_ne (Nat.ne_of_lt (Heap.lt_size hTO))]; exact (hf TO (by simp)).1
    · obtain ⟨_, e1, _⟩ := h1; rw [upd_ne (Nat.ne_of_lt (Heap.lt_size e1))]; exact (hf i1 (by simp)).1
    · obtain ⟨_, e1, _⟩ := h2; rw [upd_ne (Nat.ne_of_lt (Heap.lt_size e1))]; exact (hf i2 (by simp)).1
    · obtain ⟨_, e1, _⟩ := h3; rw [upd_ne (Nat.ne_of_lt (Heap.lt_size e1))]; exact (hf i3 (by simp)).1
  done := by
    intro X hP hw hK hc i pins s σ H E I hf st hg
    subst hP hw hK
    obtain ⟨hz, hTI, ⟨x0, y0, u0, hTO⟩, h1, h2, h3⟩ := st
    obtain ⟨xs, ys, zs, hqx, hqy, hqz, l1, l2, l3, hend⟩ := hg
    obtain ⟨its, rv, p, _⟩ := I.list hqx
    obtain ⟨its2, rv2, p2, _⟩ := I.list hqy
    obtain ⟨its3, rv3, p3, _⟩ := I.list hqz
    have g1 := rv.length
    have g2 := rv2.length
    have g3 := rv3.length
    have hh := I.ok.hd hc
    refine wpAny_pyNext_zipD3_end D (Draws.list (A := X.A.in1) hh i1 a (li_ne h1 p.isList) its.toArray)
      (Draws.list (A := X.A.in1) hh i2 b (li_ne h2 p2.isList) its2.toArray)
      (Draws.list (A := X.A.in1) hh i3 c (li_ne h3 p3.isList) its3.toArray)
      hz hTI hTO ⟨h1, p.isList⟩ ⟨h2, p2.isList⟩ ⟨h3, p3.isList⟩ (by simp; omega) (by simp; omega) (by simp; omega) (by simp; omega) fun h' tk hk => ⟨rfl, I.turnedL (t' := tk) (ch := [z, TI, TO, i1, i2, i3]) (fun c o hb q =>
      hk c o (fun q' => hb (by simp [q'])) (fun q' => hb (by simp [q'])) (fun q' => hb (by simp [q'])) (fun q' => hb (by simp [q'])) (fun q' => hb (by simp [q'])) q) hf⟩
  self := fun A i s Q E st h => wpAny_pyIter_zip st.1 h
noncomputable def iZip3 (K : PySem.W.Frag) (ta : TA) : TI := fun σ H R => ta σ H fun vs H1 => ∃ a b c xs ys zs, vs = [.ref a, .ref b, .ref c] ∧ SqL K H1 a xs ∧ SqL K H1 b ys ∧ SqL K H1 c zs ∧ R (It3 K a b c) H1
theorem pi_zip3 {X : Cx} {e e2 e3 : Expr} {ta : TA} {p pos tpos : Pos} {elts : List Expr} {kk : Nat} (hg : Gl X "zip") (hm : X.mg "zip" = none) (ha : PA X [e, e2, e3] ta)
    (hs : starEach [e, e2, e3] X.env = (false, eval e X.env) :: starEach [e2, e3] X.env := by rfl) (hpl : (backTo pos (starEach [e2, e3] X.env)).any (·.1) = false := by rfl) :
    PI X (.Tuple elts kk tpos) (.Call (.Name "zip" p) [e, e2, e3] [] pos) (iZip3 X.K ta) := by
  refine ⟨fun pins s σ H R I h => ?_⟩
  refine Call_ (ld_blt I hg hm PyProof.Rows.boot_zip (PyProof.Rows.callWith_type1 (thn (ha.run pos pins s σ H _ I h) fun us s1 ⟨vs, H1, I1, r1, q1⟩ => ?_) hs hpl))
  obtain ⟨a, b, c, xs, ys, zs, ex, hqx, hqy, hqz, q⟩ := q1
  subst ex
  cases r1 with
  | cons r rr =>
    cases rr with
    | cons r' rr =>
      cases rr with
      | cons r'' rr =>
      cases rr
      cases r
      cases r'
      cases r''
      obtain ⟨its, rv, p1, _⟩ := I1.list hqx
      obtain ⟨its2, rv2, p2, _⟩ := I1.list hqy
      obtain ⟨its3, rv3, p3, _⟩ := I1.list hqz
      have la : a < s1.heap.objs.size := p1.lt
      have lb : b < s1.heap.objs.size := p2.lt
      have lc : c < s1.heap.objs.size := p3.lt
      refine zip_begins3 (begins_list a its.toArray) (begins_list b its2.toArray) (begins_list c its3.toArray) p1.isList p2.isList p3.isList fun h' hz hTI hTO h1 h2 h3 hsz hk => wpAny_pyIter_zip hz ?_
      have I2 : Inv X pins σ H1 { s1 with heap := h' } := I1.kept (t' := s1.toks) hk
      refine ⟨s1.heap.objs.size + 5, [s1.heap.objs.size + 5, s1.heap.objs.size + 3, s1.heap.objs.size + 4, s1.heap.objs.size, s1.heap.objs.size + 1, s1.heap.objs.size + 2], _, _, H1, rfl, I2, turn_zip3 (zip_sep3 (by simpa using la) (by simpa using lb) (by simpa using lc)) (by show (s1.heap.objs.size + 5 : Nat) ≠ s1.heap.objs.size + 3; omega), ⟨hz, hTI, ⟨_, _, _, hTO⟩, ⟨_, h1, rfl, rfl⟩, ⟨_, h2, rfl, rfl⟩, ⟨_, h3, rfl, rfl⟩⟩, ?_, q⟩
      have key : ∀ k, s1.heap.objs.size ≤ k → FpOk X pins H1 k := fun k hle => I1.fpOk hle (I1.hok.fresh hle)
      exact six (key _ (Nat.le_add_right _ _)) (key _ (Nat.le_add_right _ _)) (key _ (Nat.le_add_right _ _)) (key _ (Nat.le_refl _)) (key _ (Nat.le_add_right _ _)) (key _ (Nat.le_add_right _ _))
end zipThree
section
variable {X : Cx} {K : PySem.W.Frag} {cl : Cl} {S S1 S2 S3 : List Sl} {ta tb tc : TE} {m n k : Option D}
noncomputable def zip3D : List D → List D → List D → List D
  | x :: xs, y :: ys, z :: zs => .tup [x, y, z] :: zip3D xs ys zs
  | _, _, _ => []
theorem zip3D_len : ∀ {xs ys zs : List D}, (zip3D xs ys zs).length ≤ xs.length ∧ (zip3D xs ys zs).length ≤ ys.length ∧ (zip3D xs ys zs).length ≤ zs.length ∧ ((zip3D xs ys zs).length = xs.length ∨ (zip3D xs ys zs).length = ys.length ∨ (zip3D xs ys zs).length = zs.length)
  | [], ys, zs => by cases ys <;> cases zs <;> simp [zip3D]
  | x :: xs, [], zs => by cases zs <;> simp [zip3D]
  | x :: xs, y :: ys, [] => by simp [zip3D]
  | x :: xs, y :: ys, z :: zs => by
    obtain ⟨a, b, c, d⟩ := zip3D_len (xs := xs) (ys := ys) (zs := zs)
    refine ⟨?_, ?_, ?_, ?_⟩ <;> simp only [zip3D, List.length_cons] <;> omega
theorem zip3D_get : ∀ {xs ys zs : List D} {i : Nat} {x : D}, (zip3D xs ys zs)[i]? = some x → ∃ a b c, xs[i]? = some a ∧ ys[i]? = some b ∧ zs[i]? = some c ∧ x = .tup [a, b, c]
  | [], ys, zs, i, x, h => by cases ys <;> cases zs <;> simp [zip3D] at h
  | x :: xs, [], zs, i, _, h => by cases zs <;> simp [zip3D] at h
  | x :: xs, y :: ys, [], i, _, h => by simp [zip3D] at h
  | x :: xs, y :: ys, z :: zs, 0, _, h => by simp [zip3D] at h; exact ⟨x, y, z, rfl, rfl, rfl, h.symm⟩
  | x :: xs, y :: ys, z :: zs, i + 1, _, h => by simp only [zip3D, List.getElem?_cons_succ] at h ⊢; exact zip3D_get h
theorem iv_zip3 (ha : EV K cl ta S m S1) (hb : EV K cl tb S1 n S2) (hc : EV K cl tc S2 k S3) : IV K cl (iZip3 K (tCons ta (tCons tb (tCons tc tNil)))) S (m.bind fun x => n.bind fun y => k.bind fun z => (asL x).bind fun xs => (asL y).bind fun ys => (asL z).bind fun zs => some (zip3D xs ys zs)) S3 := fun B G H σ I xs e R r => by
  obtain ⟨d, ed, e⟩ := bind_some e
  obtain ⟨d2, ed2, e⟩ := bind_some e
  obtain ⟨d3, ed3, e⟩ := bind_some e
  obtain ⟨ys, ey, e⟩ := bind_some e
  obtain ⟨zs, ez, e⟩ := bind_some e
  obtain ⟨us, eu, e⟩ := bind_some e
  cases e
  refine ha B G H σ I d ed _ fun v G' H' I' g1 h1 rv => ?_
  refine hb B G' H' σ I' d2 ed2 _ fun v2 G2 H2 I2 g2 h2 rv2 => ?_
  refine hc B G2 H2 σ I2 d3 ed3 _ fun v3 G3 H3 I3 g3 h3 rv3 => ?_
  have key : ∀ {v : V} {d : D} {ys : List D}, Rep K cl G3 v d → asL d = some ys → ∃ a vs, v = .ref a ∧ SqL K G3 a vs ∧ Reps K cl G3 vs ys := fun rv ey => by
    cases rv with
    | lst hg rs => cases ey; exact ⟨_, _, rfl, sq_of hg, rs⟩
    | rol hg rs => cases ey; exact ⟨_, _, rfl, hg, rs⟩
    | _ => cases ey
  obtain ⟨a, vs, rfl, hs, rs⟩ := key (rv.mono (g2.trans g3)) ey
  obtain ⟨a2, vs2, rfl, hs2, rs2⟩ := key (rv2.mono g3) ez
  obtain ⟨a3, vs3, rfl, hs3, rs3⟩ := key rv3 eu
  have lv := rs.length
  have lv2 := rs2.length
  have lv3 := rs3.length
  obtain ⟨z1, z2, z3, z4⟩ := zip3D_len (xs := ys) (ys := zs) (zs := us)
  refine ⟨a, a2, a3, vs, vs2, vs3, rfl, ex_l I3.nxt.gh hs, ex_l I3.nxt.gh hs2, ex_l I3.nxt.gh hs3, r _ G3 H3 I3 (g1.trans (g2.trans g3)) (h1.trans (h2.trans h3)) ⟨fun G4 H4 eg gh => ⟨vs, vs2, vs3, ex_l gh (ex_l eg hs), ex_l gh (ex_l eg hs2), ex_l gh (ex_l eg hs3), by omega, by omega, by omega, by omega⟩, fun i G4 H4 hi eg gh => ?_, fun i x G4 H4 v H5 hx eg gh hy => ?_⟩⟩
  · exact ⟨vs, vs2, vs3, vs[i], vs2[i], vs3[i], ex_l gh (ex_l eg hs), ex_l gh (ex_l eg hs2), ex_l gh (ex_l eg hs3), List.getElem?_eq_getElem (by omega), List.getElem?_eq_getElem (by omega), List.getElem?_eq_getElem (by omega)⟩
  · obtain ⟨T, x1, x2, x3, rfl, nT, rfl, f1, f2, f3⟩ := hy
    obtain ⟨a, b, c, q1, q2, q3, rfl⟩ := zip3D_get hx
    obtain ⟨d1, hd1, r1⟩ := rs.getV (f1 vs (ex_l gh (ex_l eg hs)))
    obtain ⟨d2, hd2, r2⟩ := rs2.getV (f2 vs2 (ex_l gh (ex_l eg hs2)))
    obtain ⟨d3, hd3, r3⟩ := rs3.getV (f3 vs3 (ex_l gh (ex_l eg hs3)))
    rw [q1] at hd1; rw [q2] at hd2; rw [q3] at hd3
    cases hd1; cases hd2; cases hd3
    have nx := Nxt.new (o := .tup [x1, x2, x3]) gh nT
    exact ⟨_, nx, .tup (st_of upd_same) (.cons (r1.mono (eg.trans nx.g)) (.cons (r2.mono (eg.trans nx.g)) (.cons (r3.mono (eg.trans nx.g)) .nil)))⟩
end
end Oh
namespace Oh
open PySem PySem.Spec PyProof.Rows L2 Evl
section
variable {X : Cx} {K : PySem.W.Frag} {cl : Cl} {G G' H H' : Hp} {B : Bs} {σ : L2.St} {S S1 S2 S3 : List Sl} {te ta tb : TE} {tt : TT} {m n : Option D} {β γ : Type}
/-! ### self.f += e, an int -/
noncomputable def dAddI : D → D → Option D | .int i, .int j => some (.int (i + j)) | _, _ => none
theorem ev_here {v : V} {d : D} (r : ∀ G, Rep K cl G v d) : EV K cl (fun σ H Q => Q v H) S (some d) S := fun B G H σ I d' e Q q => by
  cases e
  exact q v G H I (Ex.refl _) (Ex2.refl _) (r G)
theorem sv_fldAugJ {i c : Nat} {po : Option Addr} {fs : Str → Sh} {f : Str} {as : List Str} {x : D} (T : ClsF K (cl.c c) as) (hf : f ∈ as) (hv : fs f = .v) (h0 : S[i]? = some (.ow (.j po fs) x)) (h : EV K cl te S n S) :
    SV K cl (sFldAug K (tVar i) te rAdd f) S ((dFld c f x).bind fun a => n.bind fun y => (dAddI a y).bind fun z => dStF c f x z) (fun b => S.set i (.ow (.j po fs) b)) := fun B G H σ I d e Dn q => by
  obtain ⟨a, ea, e⟩ := bind_some e
  obtain ⟨y, ey, e⟩ := bind_some e
  obtain ⟨z, ez, e⟩ := bind_some e
  obtain ⟨k, j, rfl, rfl, rfl⟩ : ∃ k j : Int, a = .int k ∧ y = .int j ∧ z = .int (k + j) := by
    cases a <;> cases y <;> first | (cases ez; exact ⟨_, _, rfl, rfl, rfl⟩) | cases ez
  obtain ⟨v1, A1, hσ, ⟨p, dx, c', vs, ds, A', rfl, _, rfl, hp, rfl, ow⟩, _, _, _⟩ := I.thru h0
  have e2 : (if c' = c then ds.lookup f else none) = some (.int k) := ea
  by_cases hc : c' = c
  · rw [if_pos hc] at e2
    obtain ⟨A0, Ar, pm, lk, _⟩ := ow.spl f
    obtain ⟨v, hl, r⟩ := lk _ e2
    obtain ⟨_, r⟩ := OwnF.freps hv r
    cases r
    refine ⟨.ref p, hσ, p, _, dx, vs, .int k, rfl, hp, by rw [hc]; exact T.c, by rw [hc]; exact T.n f hf, hl, ?_⟩
    refine h B G H σ I _ ey _ fun v2 G1 H1 I1 g1 h1 r2 => ?_
    cases r2
    refine ⟨k, j, rfl, rfl, ?_⟩
    obtain ⟨x1, hx, a, C, dx1, fs1, rfl, ha, _, _, hlen, qq⟩ := sv_fldJ T hf hv h0 (ev_here (v := .int (k + j)) (d := .int (k + j)) fun _ => .int) B G1 H1 σ I1 d e Dn q
    rw [hσ] at hx
    cases hx
    obtain ⟨v3, A3, hσ3, ⟨p3, dx3, c3, vs3, ds3, A3', rfl, _, ed3, hp3, rfl, _⟩, _, _, _⟩ := I1.thru h0
    rw [hσ] at hσ3
    cases hσ3
    cases ed3
    rw [hp3] at ha
    cases ha
    exact ⟨_, _, hp3, hlen, qq⟩
  · rw [if_neg hc] at e2; cases e2
/-- the outcome of a test told anew -/
theorem etp_as {mb : Option β} {tst : β → Bool} {post : β → List Sl} {nx : β → γ} {inv : γ → List Sl} (h : ETP K cl tt S mb tst post) (e : ∀ b, post b = inv (nx b)) : ETP K cl tt S (mb.map fun g => (tst g, nx g)) (·.1) (fun p => inv p.2) := fun B G H σ I b eb Q q => by
  obtain ⟨g, eg, rfl⟩ := Option.map_eq_some_iff.mp eb
  exact h B G H σ I g eg Q fun G' H' I' g' => q G' H' (by show Sig K cl B G' H' (inv (nx g)) σ; rw [← e]; exact I') g'
/-! ### what is owned to a depth is owned at any depth -/
noncomputable def floL : Sh → D → Bool
  | .v, d => flatB d
  | .l e, .lst ds => ds.all (floL e)
  | _, _ => false
theorem OwnL.toD {R : V → D → List Addr → Prop} {p : D → Bool} (h : ∀ v d A, R v d A → p d = true → OwnD G H v d A) : ∀ {vs ds A}, OwnL R vs ds A → ds.all p = true → OwnDs G H vs ds A
  | _, _, _, .nil, _ => .nil
  | _, _, _, .cons r t, e => by
    rw [List.all_cons, Bool.and_eq_true] at e
    exact .cons (h _ _ _ r e.1) (OwnL.toD h t e.2)
theorem Own.toD : ∀ {sh : Sh} {v : V} {d : D} {A : List Addr}, Own K cl G H sh v d A → floL sh d = true → OwnD G H v d A
  | .v, v, d, _, ⟨h1, h2⟩, e => by
    subst h1
    cases h2 with
    | non => exact .non
    | bl => exact .bl
    | int => exact .int
    | str => exact .str
    | _ => cases e
  | .l s, _, _, _, ⟨p, vs, ds, A', h1, h2, h3, h4, h5⟩, e => by
    subst h1 h2 h4
    exact .lst h3 (h5.toD (p := floL s) (fun v d A r e => Own.toD (sh := s) r e) e)
  | .j po f, _, d, _, h, e => by cases d <;> cases e
  | .i p, _, d, _, h, e => by cases d <;> cases e
  | .t f, _, d, _, h, e => by cases d <;> cases e
  | .d, _, d, _, h, e => by cases d <;> cases e
theorem EVO.toD {sh : Sh} (h : EVO K cl sh te S m S1) : EVO K cl .d te S (m.bind fun z => if floL sh z = true then some z else none) S1 := fun B G H σ I z e Q q => by
  obtain ⟨d, ed, e⟩ := bind_some e
  split at e
  · rename_i hf
    obtain rfl := Option.some.inj e
    refine h B G H σ I d ed _ fun v G' H' I' g1 h1 => ?_
    obtain ⟨A, ow, nd, out, I2⟩ := I'.res1
    exact q v G' H' (I2.unres (sh := .d) (Own.toD (K := K) (cl := cl) ow hf) nd ow.inH out) g1 h1
  · cases e
theorem OwnT.toDs : ∀ {n : Nat} {vs : List V} {ds : List D} {A : List Addr}, OwnT (fun _ => Own K cl G H .d) n vs ds A → OwnDs G H vs ds A
  | _, _, _, _, .nil => .nil
  | _, _, _, _, .cons r t => .cons r (OwnT.toDs t)
theorem Sig.stood {BG BH : Hp} {p : Addr} {vs : List V} (I : Sig K cl ⟨BG, BH⟩ G H S σ) (hp : H p = none) : Sig K cl ⟨BG, upd BH p (.lst vs)⟩ G (upd H p (.lst vs)) S σ := by
  have nx := Nxt.lay (o := .lst vs) I.nxt.gh hp
  have I1 := I.step nx
  obtain ⟨AA, hs, ap⟩ := I.slots
  have gp : G p = none := fresh_back I.nxt.gh hp
  refine ⟨⟨I.nxt.g, ⟨fun a u nt e => ?_, fun a ps e => ?_⟩, nx.gh, fun a e => ?_⟩, I.len, I1.tab, AA, fun j s hj => ?_, ap⟩
  · by_cases z : a = p
    · subst z
      rw [show (⟨BG, upd BH a (.lst vs)⟩ : Bs).H a = some (.lst vs) from upd_same] at e
      rw [upd_same]; exact e
    · rw [show (⟨BG, upd BH p (.lst vs)⟩ : Bs).H a = BH a from upd_ne z] at e
      exact I1.nxt.h a u e
  · by_cases z : a = p
    · subst z
      rw [show (⟨BG, upd BH a (.lst vs)⟩ : Bs).H a = some (.lst vs) from upd_same] at e
      cases e
    · rw [show (⟨BG, upd BH p (.lst vs)⟩ : Bs).H a = BH a from upd_ne z] at e
      exact I1.nxt.h.b a ps e
  · rcases I.nxt.fr a e with z | z
    · exact .inl z
    · exact .inr ((upd_ne fun y => by rw [y, gp] at e; exact e rfl).trans z)
  · obtain ⟨o, h1, h2⟩ := hs j s hj
    refine ⟨o, h1, ?_⟩
    cases s with
    | jk => exact h2
    | vl d' => exact h2
    | ow sh' d' =>
      obtain ⟨v', e1, ow2, nd', out'⟩ := h2
      have ne : ∀ q ∈ AA j, q ≠ p := fun q hq z => ow2.inH q hq (by rw [z]; exact hp)
      exact ⟨v', e1, ow2.step (Ex.refl _) fun q hq u _ hu => by rw [upd_ne (ne q hq)]; exact hu, nd', fun q hq => ⟨(out' q hq).1, (upd_ne (ne q hq)).trans (out' q hq).2⟩⟩
/-- [e1, e2, ..], each of them new -/
theorem evo_lstD {k : Nat} {ts : TA} {ms : Option (List D)} (ha : EAT K cl (fun _ => .d) k 0 ts S ms S1) : EVO K cl .d (tLst ts) S (ms.bind (few .lst)) S1 := fun B G H σ I z e Q q => by
  obtain ⟨ds, eds, e⟩ := bind_some e
  unfold few at e
  split at e
  · rename_i hl
    cases e
    refine ha B G H σ I ds eds _ fun vs A G1 H1 I1 g1 h1 rs nd out hk => ?_
    refine ⟨sz_of (by rw [rs.len]; exact hl), fun p hp => ?_⟩
    have nx := Nxt.lay (o := .lst vs) I1.nxt.gh hp
    have hA : ∀ q ∈ A, q ≠ p := fun q hq z => by
      obtain ⟨w, e1, _⟩ := rs.inN q hq
      rw [z, hp] at e1; cases e1
    have ow : OwnDs G1 (upd H1 p (.lst vs)) vs ds A := rs.toDs.step (Ex.refl _) fun q hq u _ hu => by rw [upd_ne (hA q hq)]; exact hu
    have I2 : Sig K cl ⟨B.G, ovr B.H (upd H1 p (.lst vs)) (p :: A)⟩ G1 (upd H1 p (.lst vs)) S1 σ := by
      have eo : upd (ovr B.H H1 A) p (.lst vs) = ovr B.H (upd H1 p (.lst vs)) (p :: A) := funext fun a => by
        by_cases z : a = p
        · subst z; rw [upd_same, ovr_in List.mem_cons_self, upd_same]
        · rw [upd_ne z]
          by_cases y : a ∈ A
          · rw [ovr_in y, ovr_in (List.mem_cons_of_mem _ y), upd_ne z]
          · rw [ovr_out y, ovr_out fun w => (List.mem_cons.mp w).elim z y]
      rw [← eo]
      exact I1.stood hp
    have gp : G1 p = none := fresh_back I1.nxt.gh hp
    have bp : B.H p = none := by
      have z : ovr B.H H1 A p = none := I1.nxt.h.back hp
      rwa [ovr_out fun y => hA p y rfl] at z
    refine q (.ref p) _ _ (I2.unres (sh := .d) (OwnD.lst upd_same ow) (List.nodup_cons.mpr ⟨fun z => hA p z rfl, nd⟩) (fun q hq => ?_) fun q hq => ?_) g1 (h1.trans nx.h)
    · rcases List.mem_cons.mp hq with z | z
      · rw [z, upd_same]; simp
      · obtain ⟨w, e1, _⟩ := rs.inN q z; rw [upd_ne (hA q z), e1]; simp
    · rcases List.mem_cons.mp hq with z | z
      · rw [z]; exact ⟨gp, bp⟩
      · exact out q z
  · cases e
end
end Oh
namespace Oh
open PySem PySem.Spec PyProof.Rows L2 Evl
section
variable {X : Cx} {K : PySem.W.Frag} {cl : Cl} {G G' H H' : Hp} {B : Bs} {σ : L2.St} {S S1 S2 S3 : List Sl} {te tk ta tb : TE} {m n : Option D} {t u : TS}
/-! ### x[i][j].append(e), x owned at any depth -/
noncomputable def dAppAt : D → List Nat → D → Option D
  | .lst xs, [], y => if xs.length < 100000 then some (.lst (xs ++ [y])) else none
  | .lst xs, k :: ks, y => xs[k]?.bind fun x => (dAppAt x ks y).map fun z => .lst (xs.set k z)
  | _, _, _ => none
noncomputable def VAt (H : Hp) : V → List Nat → Addr → Prop
  | v, [], q => v = .ref q
  | v, k :: ks, q => ∃ p ws w, v = .ref p ∧ H p = some (.lst ws) ∧ ws[k]? = some w ∧ VAt H w ks q
theorem OwnDs.snoc : ∀ {vs ds A v d A2}, OwnDs G H vs ds A → OwnD G H v d A2 → OwnDs G H (vs ++ [v]) (ds ++ [d]) (A ++ A2)
  | _, _, _, _, _, _, .nil, r => by
    have := OwnDs.cons r (OwnDs.nil (G := G) (H := H))
    rw [List.append_nil] at this; exact this
  | _, _, _, _, _, _, .cons h t, r => by
    rw [List.append_assoc]
    exact .cons h (OwnDs.snoc t r)
theorem OwnDs.len : ∀ {vs ds A}, OwnDs G H vs ds A → vs.length = ds.length
  | _, _, _, .nil => rfl
  | _, _, _, .cons _ r => congrArg (· + 1) r.len
theorem OwnDs.part : ∀ {ws xs A k x}, OwnDs G H ws xs A → xs[k]? = some x → ∃ w Ak Ar, ws[k]? = some w ∧ OwnD G H w x Ak ∧ A.Perm (Ak ++ Ar) ∧
    ∀ H' x' Ak', OwnD G H' w x' Ak' → (∀ p ∈ Ar, H' p = H p) → ∃ A', OwnDs G H' ws (xs.set k x') A' ∧ A'.Perm (Ak' ++ Ar)
  | _, _, _, 0, _, .cons (A := A0) (As := As) r t, h => by
    cases h
    exact ⟨_, A0, As, rfl, r, .refl _, fun H' x' Ak' r' k => ⟨Ak' ++ As, .cons r' (t.step (Ex.refl _) fun p hp u _ hu => by rw [k p hp]; exact hu), .refl _⟩⟩
  | _, _, _, k + 1, _, .cons (A := A0) (As := As) r t, h => by
    obtain ⟨w, Ak, Ar, h1, h2, h3, h4⟩ := OwnDs.part t (k := k) (by simpa using h)
    refine ⟨w, Ak, A0 ++ Ar, by simpa using h1, h2, ?_, fun H' x' Ak' r' kk => ?_⟩
    · refine (h3.append_left A0).trans ?_
      rw [← List.append_assoc, ← List.append_assoc]
      exact List.perm_append_comm.append_right Ar
    · obtain ⟨A', o, pm⟩ := h4 H' x' Ak' r' fun p hp => kk p (List.mem_append_right _ hp)
      refine ⟨A0 ++ A', .cons (r.step (Ex.refl _) fun p hp u _ hu => by rw [kk p (List.mem_append_left _ hp)]; exact hu) o, (pm.append_left A0).trans ?_⟩
      rw [← List.append_assoc, ← List.append_assoc]
      exact List.perm_append_comm.append_right Ar
theorem OwnD.appAt : ∀ {ks : List Nat} {v d A y d'}, OwnD G H v d A → A.Nodup → dAppAt d ks y = some d' → ∃ q vs, VAt H v ks q ∧ q ∈ A ∧ H q = some (.lst vs) ∧ vs.length < 100000 ∧
    ∀ u Au H', OwnD G H' u y Au → (∀ p ∈ A, p ≠ q → H' p = H p) → H' q = some (.lst (vs ++ [u])) → ∃ A', OwnD G H' v d' A' ∧ A'.Perm (A ++ Au)
  | [], v, d, A, y, d', ow, nd, e => by
    cases ow with
    | lst hp r =>
      rename_i p vs ds A1
      simp only [dAppAt] at e
      split at e
      · rename_i hl
        cases e
        obtain ⟨np, nd1⟩ := List.nodup_cons.mp nd
        refine ⟨p, vs, rfl, List.mem_cons_self, hp, by rw [r.len]; exact hl, fun u Au H' ou kp hq => ?_⟩
        exact ⟨p :: (A1 ++ Au), .lst hq ((r.step (Ex.refl _) fun a ha w _ hw => by rw [kp a (List.mem_cons_of_mem _ ha) fun z => np (by rw [← z]; exact ha)]; exact hw).snoc ou), .refl _⟩
      · cases e
    | _ => simp [dAppAt] at e
  | k :: ks, v, d, A, y, d', ow, nd, e => by
    cases ow with
    | lst hp r =>
      rename_i p vs ds A1
      simp only [dAppAt] at e
      obtain ⟨x, ex, e⟩ := bind_some e
      obtain ⟨z, ez, rfl⟩ := Option.map_eq_some_iff.mp e
      obtain ⟨w, Ak, Ar, h1, h2, h3, h4⟩ := r.part ex
      obtain ⟨np, nd1⟩ := List.nodup_cons.mp nd
      have nd2 := h3.nodup_iff.mp nd1
      obtain ⟨nk, nr, dj⟩ := List.nodup_append.mp nd2
      obtain ⟨q, us, va, qA, hq, hl, cont⟩ := OwnD.appAt h2 nk ez
      have qA1 : q ∈ A1 := h3.mem_iff.mpr (List.mem_append_left _ qA)
      refine ⟨q, us, ⟨p, vs, w, rfl, hp, h1, va⟩, List.mem_cons_of_mem _ qA1, hq, hl, fun u Au H' ou kp hq' => ?_⟩
      obtain ⟨Ak', o, pm⟩ := cont u Au H' ou (fun a ha ne => kp a (List.mem_cons_of_mem _ (h3.mem_iff.mpr (List.mem_append_left _ ha))) ne) hq'
      obtain ⟨A', o2, pm2⟩ := h4 H' z Ak' o fun a ha => kp a (List.mem_cons_of_mem _ (h3.mem_iff.mpr (List.mem_append_right _ ha))) fun e => dj q qA a ha e.symm
      refine ⟨p :: A', .lst ((kp p List.mem_cons_self fun e => np (by rw [e]; exact qA1)).trans hp) o2, (List.Perm.cons p ?_)⟩
      refine pm2.trans ((pm.append_right Ar).trans ?_)
      rw [List.append_assoc]
      refine (List.perm_append_comm.append_left Ak).trans ?_
      rw [← List.append_assoc]
      exact h3.symm.append_right Au
    | _ => simp [dAppAt] at e
noncomputable def tPath (K : PySem.W.Frag) : TE → List Nat → TE
  | t, [] => t
  | t, k :: ks => tPath K (tOp (rIx K) t (tC (.int (k : Int)))) ks
theorem tPath_ok : ∀ {ks : List Nat} {t : TE} {v : V} {q : Addr}, (∀ Q : VK, Q v H → t σ H Q) → VAt H v ks q → ∀ Q : VK, Q (.ref q) H → tPath K t ks σ H Q
  | [], t, v, q, h, e, Q, z => by
    subst e
    exact h Q z
  | k :: ks, t, v, q, h, ⟨p, ws, w, e, hp, hw, va⟩, Q, z => by
    subst e
    refine tPath_ok (ks := ks) (t := tOp (rIx K) t (tC (.int (k : Int)))) (fun Q2 z2 => ?_) va Q z
    exact h _ (Or.inl ⟨p, ws, _, w, rfl, rfl, sq_of hp, atI_nat hw, z2⟩)
theorem EV.evoD (h : EV K cl te S m S1) : EVO K cl .d te S (m.bind flatD) S1 := fun B G H σ I z e Q q => by
  obtain ⟨d, ed, e⟩ := bind_some e
  refine h B G H σ I d ed _ fun v G' H' I' g1 h1 r => ?_
  have ow : OwnD G' H' v z [] := by cases r <;> cases e <;> constructor
  exact q v G' H' (I'.push (Nxt.refl I'.nxt.gh) (sh := .d) ow .nil fun p hp => nomatch hp) g1 h1
theorem sv_dapp {i : Nat} {d : D} (ks : List Nat) (h0 : S[i]? = some (.ow .d d)) (hy : EVO K cl .d tk S n S) :
    SV K cl (tDrop (tBM K "list" rAppend (tPath K (tVar i) ks) (tCons tk tNil))) S (n.bind fun y => dAppAt d ks y) (fun d' => S.set i (.ow .d d')) := fun B G H σ I d' e Dn q => by
  obtain ⟨y, ey, e⟩ := bind_some e
  obtain ⟨v, A, hσ, ow, nd, out, _⟩ := I.thruJ h0
  obtain ⟨a, vs, va, aA, ha, hl, _⟩ := OwnD.appAt ow nd e
  refine tPath_ok (v := v) (fun Q z => ⟨v, hσ, z⟩) va _ ?_
  refine ⟨Or.inl ⟨rfl, vs, sq_of ha⟩, ?_⟩
  refine hy B G H σ I y ey _ fun u G2 H2 I2 g2 h2 => ?_
  have hi : i < S.length := (List.getElem?_eq_some_iff.mp h0).1
  have ln : σ.length = S.length := I.len
  obtain ⟨v2, A2, hσ2, ow2, nd2, out2, I3⟩ := I2.res (i := i) (by rw [List.getElem?_append_left hi]; exact h0)
  rw [List.getElem?_append_left (by rw [ln]; exact hi), hσ] at hσ2
  cases hσ2
  rw [List.set_append_left _ _ hi] at I3
  obtain ⟨Au, owu, ndu, outu, I4⟩ := I3.res1
  obtain ⟨a2, vs2, va2, aA2, ha2, hl2, cont⟩ := OwnD.appAt ow2 nd2 e
  have ea : a = a2 ∧ vs = vs2 := by
    have key : ∀ (ks : List Nat) (v : V) (a a2 : Addr), VAt H v ks a → VAt H2 v ks a2 → a = a2 := fun ks => by
      induction ks with
      | nil => intro v a a2 h h'; rw [show v = .ref a from h] at h'; cases h'; rfl
      | cons k ks ih =>
        intro v a a2 h h'
        obtain ⟨p, ws, w, e1, e2, e3, e4⟩ := h
        obtain ⟨p', ws', w', e1', e2', e3', e4'⟩ := h'
        subst e1; cases e1'
        rw [h2 _ _ e2] at e2'; cases e2'
        rw [e3] at e3'; cases e3'
        exact ih _ _ _ e4 e4'
    have e1 := key ks v a a2 va va2
    subst e1
    rw [h2 _ _ ha] at ha2
    cases ha2
    exact ⟨rfl, rfl⟩
  obtain ⟨rfl, rfl⟩ := ea
  have dj : ∀ p ∈ Au, p ∉ A2 := fun p hp z => by
    have y : ovr B.H H2 A2 p = none := (outu p hp).2
    rw [ovr_in z] at y
    exact ow2.inH p z y
  have eo : ovr (ovr B.H H2 A2) H2 Au = ovr B.H H2 (A2 ++ Au) := funext fun p => by
    by_cases z : p ∈ Au
    · rw [ovr_in z, ovr_in (List.mem_append_right _ z)]
    · rw [ovr_out z]
      by_cases y : p ∈ A2
      · rw [ovr_in y, ovr_in (List.mem_append_left _ y)]
      · rw [ovr_out y, ovr_out fun w => (List.mem_append.mp w).elim y z]
  have I5 : Sig K cl ⟨B.G, ovr (ovr B.H H2 A2) H2 Au⟩ G2 H2 (S.set i .jk) σ := I4
  rw [eo] at I5
  have hH : ∀ p ∈ A2 ++ Au, H2 p ≠ none := fun p hp => (List.mem_append.mp hp).elim (ow2.inH p) (owu.inH p)
  have outA : ∀ p ∈ A2 ++ Au, G2 p = none ∧ B.H p = none := fun p hp => by
    rcases List.mem_append.mp hp with z | z
    · exact out2 p z
    · exact ⟨(outu p z).1, (ovr_out (dj p z)).symm.trans (outu p z).2⟩
  have aAu : a ∉ Au := fun z => dj a z aA2
  have I6 := I5.mutR (H2 := upd H2 a (.lst (vs ++ [u]))) hH outA (fun p hp => upd_ne fun z => hp (by rw [z]; exact List.mem_append_left _ aA2)) fun p tp hp => by
    rcases List.mem_append.mp hp with z | z
    · exact ow2.noT tp z
    · exact owu.noT tp z
  have owu' : OwnD G2 (upd H2 a (.lst (vs ++ [u]))) u y Au := OwnD.step (Ex.refl _) (fun p hp w _ hw => by rw [upd_ne fun z => aAu (by rw [← z]; exact hp)]; exact hw) owu
  obtain ⟨A', ow', pm⟩ := cont u Au (upd H2 a (.lst (vs ++ [u]))) owu' (fun p _ ne => upd_ne ne) upd_same
  have mA : ∀ p, p ∈ A' ↔ p ∈ A2 ++ Au := fun p => pm.mem_iff
  have eo2 : ovr B.H (upd H2 a (.lst (vs ++ [u]))) (A2 ++ Au) = ovr B.H (upd H2 a (.lst (vs ++ [u]))) A' := funext fun p => by
    by_cases z : p ∈ A'
    · rw [ovr_in z, ovr_in ((mA p).mp z)]
    · rw [ovr_out z, ovr_out fun w => z ((mA p).mpr w)]
  rw [eo2] at I6
  have ndA : A'.Nodup := pm.nodup_iff.mpr (List.nodup_append.mpr ⟨nd2, ndu, fun p hp r hr z => dj r hr (by rw [← z]; exact hp)⟩)
  have I7 := I6.unres (sh := .d) (v := v) ow' ndA (fun p hp => by
    by_cases z : p = a
    · rw [z, upd_same]; simp
    · rw [upd_ne z]; exact hH p ((mA p).mp hp)) fun p hp => outA p ((mA p).mp hp)
  have I8 := I7.take i
  rw [List.set_set] at I8
  have es : σ.set i (some v) = σ := by
    apply List.ext_getElem?
    intro j
    by_cases z : i = j
    · subst z; rw [List.getElem?_set_self (by rw [ln]; exact hi), hσ]
    · rw [List.getElem?_set_ne z]
  rw [es] at I8
  exact ⟨a, vs, u, rfl, rfl, h2 _ _ ha, sz_lt hl, q σ G2 _ I8⟩
theorem spoil_con {P : Program} {w : World} {mg : Str → Option Value} {base : Heap} {x qual : Str} {st : Stmt} {fa : Addr} {fd : FuncData} {N ps : List Str} {k : Nat} {f : D → Option D}
    (F : Fun K x qual st fa fd) (SC : FnScope N ps (defScope st)) (hn : ps.length = 1) (hm : mg x = some (.ref fa)) (hb : Binds K fd ps [])
    (body : ∀ (cdv : Value) (A : Around) (outer : List Env) (s : Shared) (H : Hp) (E : XK), Room k (A.deeper (envOfC qual (defScope st) s.heap.objs.size fa cdv)) →
      ∃ t, PSs (cxOf CX0 P w K mg base N qual (defScope st) fa cdv A outer s H E).nox (defBody st) t ∧ ∀ (d : D), SV K cl t (.ow .d d :: List.replicate (N.length - 1) .jk) (f d) (fun b => .ow .d b :: List.replicate (N.length - 1) .jk)) :
    ConSp P w K cl mg base (k + 1) x (fun d => (f d).isSome) fa fd ps := by
  refine ⟨F.ok SC (fun vs H Q E h => ?_) (fun cdv A outer s H vs Q E hr h => ?_), hm, F.kp, hb⟩
  · obtain ⟨G, x, d, A, rfl, _⟩ := h
    exact hn.symm
  · obtain ⟨G, x, d, A0, rfl, gh, tb, ow, nd, gA, ok, q⟩ := h
    obtain ⟨t, hp, ht⟩ := body cdv A outer s H E hr
    obtain ⟨b, eb⟩ := Option.isSome_iff_exists.mp ok
    refine ⟨t, hp, ?_⟩
    have e0 : L2.start N [x] = some x :: List.replicate (N.length - 1) none := by unfold L2.start; rfl
    rw [e0]
    refine ht d ⟨G, cutA H A0⟩ G H _ ⟨⟨Ex.refl _, ⟨fun a u _ e => ?_, fun a ps e => ?_⟩, gh, fun _ h => .inl h⟩, by simp only [List.length_cons, List.length_replicate], tb, atA (fun _ => []) 0 A0, fun i s hs => ?_, fun i j hij _ _ q hq => ?_⟩ b eb _ fun σ' G' H' I' => q G' H' I'.nxt
    · by_cases z : a ∈ A0
      · rw [show (⟨G, cutA H A0⟩ : Bs).H a = none from cutA_in z] at e; cases e
      · rw [show (⟨G, cutA H A0⟩ : Bs).H a = H a from cutA_out z] at e; exact e
    · by_cases z : a ∈ A0
      · rw [show (⟨G, cutA H A0⟩ : Bs).H a = none from cutA_in z] at e; cases e
      · rw [show (⟨G, cutA H A0⟩ : Bs).H a = H a from cutA_out z] at e; exact ⟨ps, e, id⟩
    · cases i with
      | zero =>
        cases hs
        exact ⟨_, rfl, x, rfl, by rw [atA_e rfl]; exact ow, by rw [atA_e rfl]; exact nd, fun q hq => by rw [atA_e rfl] at hq; exact ⟨gA q hq, cutA_in hq⟩⟩
      | succ i =>
        have hl : i < N.length - 1 := by have := (List.getElem?_eq_some_iff.mp hs).1; simpa using this
        have e1 : s = .jk := by
          rw [List.getElem?_cons_succ, List.getElem?_replicate, if_pos hl] at hs; cases hs; rfl
        subst e1
        exact ⟨none, by rw [List.getElem?_cons_succ, List.getElem?_replicate, if_pos hl], by rw [atA_n (Nat.succ_ne_zero i)]; rfl⟩
    · cases i with
      | zero => rw [atA_n (fun z => hij z.symm)]; exact fun z => nomatch z
      | succ i => rw [atA_n (Nat.succ_ne_zero i)] at hq; cases hq
end
section
variable {X : Cx} {K : PySem.W.Frag}
theorem zip3K {e e2 e3 : Expr} {ta : TA} {p pos tpos : Pos} {elts : List Expr} {kk : Nat} (K : PySem.W.Frag) (hg : Gl X "zip") (hm : X.mg "zip" = none) (ha : PA X [e, e2, e3] ta)
    (hs : starEach [e, e2, e3] X.env = (false, eval e X.env) :: starEach [e2, e3] X.env := by rfl) (hpl : (backTo pos (starEach [e2, e3] X.env)).any (·.1) = false := by rfl) (h : X.K = K := by rfl) :
    PI X (.Tuple elts kk tpos) (.Call (.Name "zip" p) [e, e2, e3] [] pos) (iZip3 K ta) := by subst h; exact pi_zip3 hg hm ha hs hpl
end
section
variable {K : PySem.W.Frag} {cl : Cl} {S : List Sl}
/-- a, b, c = [], [], [] -/
theorem sv_three3 {i j k : Nat} (hi : i < S.length) (hj : j < S.length) (hk : k < S.length) (nij : i ≠ j) (nik : i ≠ k) (njk : j ≠ k) :
    SV K cl (tPar3 i j k (tCons (tLst tNil) (tCons (tLst tNil) (tCons (tLst tNil) tNil)))) S (some ()) (fun _ => ((S.set i (.ow (.l .v) (.lst []))).set j (.ow (.l .v) (.lst []))).set k (.ow (.l .v) (.lst []))) := fun B G H σ I b e Dn q => by
  cases e
  have z0 : ([] : List V).length ≤ sizeLine := Nat.zero_le _
  refine ⟨z0, fun p1 h1 => ⟨z0, fun p2 h2 => ⟨z0, fun p3 h3 => ?_⟩⟩⟩
  have new : ∀ {H0 : Hp} {S0 : List Sl} {σ0 : L2.St} (I0 : Sig K cl B G H0 S0 σ0) {p0 : Addr} (h0 : H0 p0 = none), Sig K cl B G (upd H0 p0 (.lst [])) (S0 ++ [.ow (.l .v) (.lst [])]) (σ0 ++ [some (.ref p0)]) := fun {H0 S0 σ0} I0 {p0} h0 =>
    I0.push (Nxt.lay (o := .lst []) I0.nxt.gh h0) (Own.mkFlat upd_same .nil) (by simp) fun p' hp' => by rw [List.mem_singleton.mp hp']; exact ⟨h0, fresh_back I0.nxt.gh h0⟩
  have I4 := new (new (new I h1) h2) h3
  have L : σ.length = S.length := I.len
  have I5 := I4.take k
  rw [List.set_append_left _ _ (by rw [List.length_append]; omega), List.set_append_left _ _ hk, List.set_append_left _ _ (by rw [List.length_append, L]; omega), List.set_append_left _ _ (by rw [L]; exact hk)] at I5
  have I6 := I5.take j
  rw [List.set_append_left _ _ (by rw [List.length_set]; exact hj), List.set_append_left _ _ (by rw [List.length_set, L]; exact hj)] at I6
  have I7 := I6.take i
  refine ⟨.ref p1, .ref p2, .ref p3, rfl, q _ G _ ?_⟩
  have e1 : ∀ {α : Type} (l : List α) (a b c : α), ((l.set k a).set j b).set i c = ((l.set i c).set j b).set k a := fun l a b c => by
    rw [List.set_comm _ _ njk.symm, List.set_comm (i := k) (j := i) _ _ nik.symm, List.set_comm (i := j) (j := i) _ _ nij.symm]
  rw [e1, e1] at I7
  exact I7
end
end Oh
namespace Oh
open PySem PySem.Spec PyProof.Rows L2 Evl
noncomputable def m_law_row (script_1 : D) (place_2 : D) (many_3 : D) : Option D := ((((some (.int 7919)).bind fun t5 => (some place_2).bind fun t6 => dMul t5 t6).bind fun t7 => (some (.int 5)).bind fun t8 => dAdd t7 t8).bind fun cell_4 => ((((some place_2).bind fun t11 => (((some script_1).bind fun x_9 => (some []).bind fun xs_10 => some (x_9 :: xs_10)).bind (on1 dLen)).bind fun t12 => (dLt t11 t12).bind asB).bind fun c_13 => if c_13 = true then (((some script_1).bind fun t16 => (some place_2).bind fun t17 => dIx t16 t17).bind fun cell_15 => (some cell_15)) else (some cell_4)).bind fun s_14 => (((some s_14).bind fun t21 => ((some (.int 10)).bind fun t19 => (some (.int 18)).bind fun t20 => dPow t19 t20).bind fun t22 => dSub t21 t22).bind fun rest_18 => (((some []).bind (few .lst)).bind fun row_23 => ((((some many_3).bind dRng1).bind fun xs => forS (fun x_73 (b_24 : D × D) => (some x_73).bind fun c_25 => ((((some b_24.2).bind fun t26 => (some (.int 0)).bind fun t27 => (dGt t26 t27).bind asB).bind fun c_28 => if c_28 = true then ((((((some b_24.2).bind fun x_30 => (some []).bind fun xs_31 => some (x_30 :: xs_31)).bind (on1 dInt)).bind fun t32 => (some (.int 1000)).bind fun t33 => dMod t32 t33).bind fun t34 => dApp b_24.1 t34).bind fun row_35 => (((some b_24.2).bind fun t37 => (some (.int 1000)).bind fun t38 => dFdiv t37 t38).bind fun rest_36 => (some (row_35, rest_36)))) else ((((((((some s_14).bind fun t40 => (some (.int 48271)).bind fun t41 => dMul t40 t41).bind fun t44 => ((some c_25).bind fun t42 => (some (.int 69621)).bind fun t43 => dMul t42 t43).bind fun t45 => dAdd t44 t45).bind fun t46 => (some (.int 12345)).bind fun t47 => dAdd t46 t47).bind fun x_48 => (some []).bind fun xs_49 => some (x_48 :: xs_49)).bind (on1 dInt)).bind fun t50 => (some (.int 2147483647)).bind fun t51 => dMod t50 t51).bind fun mixed_39 => ((((((((some mixed_39).bind fun t53 => (some mixed_39).bind fun t54 => dMul t53 t54).bind fun t57 => ((some mixed_39).bind fun t55 => (some (.int 16807)).bind fun t56 => dMul t55 t56).bind fun t58 => dAdd t57 t58).bind fun t61 => ((some c_25).bind fun t59 => (some (.int 40692)).bind fun t60 => dMul t59 t60).bind fun t62 => dAdd t61 t62).bind fun x_63 => (some []).bind fun xs_64 => some (x_63 :: xs_64)).bind (on1 dInt)).bind fun t65 => (some (.int 2147483399)).bind fun t66 => dMod t65 t66).bind fun mixed_52 => (((((some mixed_52).bind fun t67 => (some (.int 64)).bind fun t68 => dFdiv t67 t68).bind fun t69 => (some (.int 1000)).bind fun t70 => dMod t69 t70).bind fun t71 => dApp b_24.1 t71).bind fun row_72 => (some (row_72, b_24.2)))))).bind fun s_29 => (some (s_29.1, s_29.2)))) xs (row_23, rest_18)).bind fun s_74 => (some s_74.1))))))
noncomputable def m_law_size (bounds_1 : D) : Option D := ((some (.int 1)).bind fun many_2 => ((((some bounds_1).bind asL).bind fun xs => forS (fun x_8 (b_3 : D) => (some x_8).bind fun c_4 => (((some b_3).bind fun t6 => (some c_4).bind fun t7 => dMul t6 t7).bind fun many_5 => (some many_5))) xs many_2).bind fun s_9 => (some s_9)))
noncomputable def m_law_count_ways (counts_1 : D) (heard_2 : D) : Option D := ((some (.int 1)).bind fun many_3 => ((((((some counts_1).bind fun x_4 => (some []).bind fun xs_5 => some (x_4 :: xs_5)).bind (on1 dLen)).bind dRng1).bind fun xs => forS (fun x_26 (b_6 : D) => (some x_26).bind fun c_7 => (((((((((some heard_2).bind fun t8 => (some c_7).bind fun t9 => dIx t8 t9).bind asL).bind fun xs => (capD xs).bind fun xs => (compD (fun x_13 => (some x_13).bind fun c_10 => (some true).bind fun b_14 => if b_14 = true then ((some counts_1).bind fun t11 => (some c_10).bind fun t12 => dIx t11 t12).map some else some none) xs).map .lst).bind fun x_15 => (some []).bind fun xs_16 => some (x_15 :: xs_16)).bind (on1 (m_law_size))).bind dRng1).bind fun xs => forS (fun x_24 (b_17 : D) => (some x_24).bind fun c_18 => (((some b_17).bind fun t22 => ((some counts_1).bind fun t20 => (some c_7).bind fun t21 => dIx t20 t21).bind fun t23 => dMul t22 t23).bind fun many_19 => (some many_19))) xs b_6).bind fun s_25 => (some s_25))) xs many_3).bind fun s_27 => (some s_27)))
noncomputable def m_law_shape (script_1 : D) (place_2 : D) (cap_3 : D) : Option D := ((((some script_1).bind fun x_9 => ((some place_2).bind fun x_7 => ((some (.int 40)).bind fun x_5 => (some []).bind fun xs_6 => some (x_5 :: xs_6)).bind fun xs_8 => some (x_7 :: xs_8)).bind fun xs_10 => some (x_9 :: xs_10)).bind (on3 (m_law_row))).bind fun row_4 => (((((some (.int 1)).bind fun x_24 => ((some (.int 2)).bind fun x_22 => ((some (.int 3)).bind fun x_20 => ((some (.int 2)).bind fun x_18 => ((some (.int 3)).bind fun x_16 => ((some (.int 4)).bind fun x_14 => ((some (.int 5)).bind fun x_12 => (some []).bind fun xs_13 => some (x_12 :: xs_13)).bind fun xs_15 => some (x_14 :: xs_15)).bind fun xs_17 => some (x_16 :: xs_17)).bind fun xs_19 => some (x_18 :: xs_19)).bind fun xs_21 => some (x_20 :: xs_21)).bind fun xs_23 => some (x_22 :: xs_23)).bind fun xs_25 => some (x_24 :: xs_25)).bind (few .lst)).bind fun t32 => (((((some row_4).bind fun t26 => (some (.int 0)).bind fun t27 => dIx t26 t27).bind fun x_28 => (some []).bind fun xs_29 => some (x_28 :: xs_29)).bind (on1 dInt)).bind fun t30 => (some (.int 7)).bind fun t31 => dMod t30 t31).bind fun t33 => dIx t32 t33).bind fun variables_11 => ((((some variables_11).bind dRng1).bind fun xs => (capD xs).bind fun xs => (compD (fun x_50 => (some x_50).bind fun c_35 => (some true).bind fun b_51 => if b_51 = true then ((some (.int 2)).bind fun t48 => ((((((((some row_4).bind fun t38 => ((some (.int 1)).bind fun t36 => (some c_35).bind fun t37 => dAdd t36 t37).bind fun t39 => dIx t38 t39).bind fun x_40 => (some []).bind fun xs_41 => some (x_40 :: xs_41)).bind (on1 dInt)).bind fun t42 => (some (.int 4)).bind fun t43 => dMod t42 t43).bind fun t44 => (some (.int 1)).bind fun t45 => dEqF t44 t45).bind fun x_46 => (some []).bind fun xs_47 => some (x_46 :: xs_47)).bind (on1 dInt)).bind fun t49 => dAdd t48 t49).map some else some none) xs).map .lst).bind fun counts_34 => ((((some variables_11).bind dRng1).bind fun xs => (capD xs).bind fun xs => (compD (fun x_71 => (some x_71).bind fun c_53 => (some true).bind fun b_72 => if b_72 = true then (((some c_53).bind dRng1).bind fun xs => (capD xs).bind fun xs => (compD (fun x_69 => (some x_69).bind fun c_54 => ((((((some row_4).bind fun t61 => (((some (.int 6)).bind fun t57 => ((some (.int 5)).bind fun t55 => (some c_53).bind fun t56 => dMul t55 t56).bind fun t58 => dAdd t57 t58).bind fun t59 => (some c_54).bind fun t60 => dAdd t59 t60).bind fun t62 => dIx t61 t62).bind fun x_63 => (some []).bind fun xs_64 => some (x_63 :: xs_64)).bind (on1 dInt)).bind fun t65 => (some (.int 3)).bind fun t66 => dMod t65 t66).bind fun t67 => (some (.int 0)).bind fun t68 => (dGt t67 t68).bind asB).bind fun b_70 => if b_70 = true then (some c_54).map some else some none) xs).map .lst).map some else some none) xs).map .lst).bind fun heard_52 => ((((some (.int 30)).bind dRng1).bind fun xs => forS (fun x_114 (b_73 : D × D) => (some x_114).bind fun c_74 => (((((((some row_4).bind fun t76 => (some (.int 31)).bind fun t77 => dIx t76 t77).bind fun t78 => (some c_74).bind fun t79 => dAdd t78 t79).bind fun x_80 => (some []).bind fun xs_81 => some (x_80 :: xs_81)).bind (on1 dInt)).bind fun t82 => (some variables_11).bind fun t83 => dMod t82 t83).bind fun v_75 => ((((((some b_73.2).bind fun x_86 => ((some b_73.1).bind fun x_84 => (some []).bind fun xs_85 => some (x_84 :: xs_85)).bind fun xs_87 => some (x_86 :: xs_87)).bind (on2 (m_law_count_ways))).bind fun t88 => (some cap_3).bind fun t89 => (dGt t88 t89).bind asB).bind fun c_90 => if c_90 = true then (((((some b_73.1).bind fun t92 => (some v_75).bind fun t93 => dIx t92 t93).bind dTru).bind fun c_94 => if c_94 = true then (((some v_75).bind fun t108 => ((((((some row_4).bind fun t98 => ((some (.int 32)).bind fun t96 => (some v_75).bind fun t97 => dAdd t96 t97).bind fun t99 => dIx t98 t99).bind fun x_100 => (some []).bind fun xs_101 => some (x_100 :: xs_101)).bind (on1 dInt)).bind fun t106 => ((((some b_73.1).bind fun t102 => (some v_75).bind fun t103 => dIx t102 t103).bind fun x_104 => (some []).bind fun xs_105 => some (x_104 :: xs_105)).bind (on1 dLen)).bind fun t107 => dMod t106 t107).bind flatD).bind fun t109 => dPop2 b_73.1 t108 t109).bind fun heard_110 => (some (heard_110, b_73.2))) else (((some (.int 2)).bind fun t111 => (some v_75).bind fun t112 => dSet b_73.2 t112 t111).bind fun counts_113 => (some (b_73.1, counts_113)))).bind fun s_95 => (some (s_95.1, s_95.2))) else (some (b_73.1, b_73.2))).bind fun s_91 => (some (s_91.1, s_91.2))))) xs (heard_52, counts_34)).bind fun s_115 => (((some s_115.2).bind fun x_118 => ((some s_115.1).bind fun x_116 => (some []).bind fun xs_117 => some (x_116 :: xs_117)).bind fun xs_119 => some (x_118 :: xs_119)).bind (few .tup)))))))
noncomputable def m_law_kept : Option D := (((some (.str "house")).bind fun x_25 => ((some (.str "variable")).bind fun x_23 => ((some (.str "says")).bind fun x_21 => ((some (.str "hears")).bind fun x_19 => ((some (.str "end")).bind fun x_17 => ((some (.str "if")).bind fun x_15 => ((some (.str "and")).bind fun x_13 => ((some (.str "ignores")).bind fun x_11 => ((some (.str "rises")).bind fun x_9 => ((some (.str "falls")).bind fun x_7 => ((some (.str "with")).bind fun x_5 => ((some (.str "never")).bind fun x_3 => ((some (.str "when")).bind fun x_1 => (some []).bind fun xs_2 => some (x_1 :: xs_2)).bind fun xs_4 => some (x_3 :: xs_4)).bind fun xs_6 => some (x_5 :: xs_6)).bind fun xs_8 => some (x_7 :: xs_8)).bind fun xs_10 => some (x_9 :: xs_10)).bind fun xs_12 => some (x_11 :: xs_12)).bind fun xs_14 => some (x_13 :: xs_14)).bind fun xs_16 => some (x_15 :: xs_16)).bind fun xs_18 => some (x_17 :: xs_18)).bind fun xs_20 => some (x_19 :: xs_20)).bind fun xs_22 => some (x_21 :: xs_22)).bind fun xs_24 => some (x_23 :: xs_24)).bind fun xs_26 => some (x_25 :: xs_26)).bind (few .lst))
noncomputable def m_law_name (row_1 : D) (k_2 : D) : Option D := ((some (.str "abcdefghijklmnopqrstuvwxyz")).bind fun letters_3 => ((some (.str "")).bind fun text_4 => ((((((some row_1).bind fun t6 => (some (.int 0)).bind fun t7 => dIx t6 t7).bind fun x_8 => (some []).bind fun xs_9 => some (x_8 :: xs_9)).bind (on1 dInt)).bind fun t10 => (some (.int 12)).bind fun t11 => dMod t10 t11).bind fun size_v_5 => ((((((((some row_1).bind fun t13 => (some (.int 0)).bind fun t14 => dIx t13 t14).bind fun t15 => (some (.int 12)).bind fun t16 => dFdiv t15 t16).bind fun x_17 => (some []).bind fun xs_18 => some (x_17 :: xs_18)).bind (on1 dInt)).bind fun t19 => (some (.int 2)).bind fun t20 => dMod t19 t20).bind fun t21 => (some (.int 0)).bind fun t22 => dEqF t21 t22).bind fun alike_12 => (((((some alike_12).bind asB).map fun b_23 => !b_23).bind fun c_24 => if c_24 = true then ((((some (.int 0)).bind fun x_31 => (((some size_v_5).bind fun t27 => (some k_2).bind fun t28 => dSub t27 t28).bind fun x_29 => (some []).bind fun xs_30 => some (x_29 :: xs_30)).bind fun xs_32 => some (x_31 :: xs_32)).bind (on2 dMax2)).bind fun size_v_26 => (some size_v_26)) else (some size_v_5)).bind fun s_25 => ((((some s_25).bind dRng1).bind fun xs => forS (fun x_63 (b_33 : D) => (some x_63).bind fun c_34 => ((((some c_34).bind fun t35 => (some (.int 0)).bind fun t36 => (dEqF t35 t36).bind asB).bind fun c_37 => if c_37 = true then (((some letters_3).bind fun t46 => (((((some row_1).bind fun t40 => (some (.int 3)).bind fun t41 => dIx t40 t41).bind fun x_42 => (some []).bind fun xs_43 => some (x_42 :: xs_43)).bind (on1 dInt)).bind fun t44 => (some (.int 26)).bind fun t45 => dMod t44 t45).bind fun t47 => dIx t46 t47).bind fun text_39 => (some text_39)) else (((some b_33).bind fun t61 => (((some letters_3).bind fun t49 => (some (.str "0123456789")).bind fun t50 => dAdd t49 t50).bind fun t59 => (((((some row_1).bind fun t53 => ((some (.int 3)).bind fun t51 => (some c_34).bind fun t52 => dAdd t51 t52).bind fun t54 => dIx t53 t54).bind fun x_55 => (some []).bind fun xs_56 => some (x_55 :: xs_56)).bind (on1 dInt)).bind fun t57 => (some (.int 36)).bind fun t58 => dMod t57 t58).bind fun t60 => dIx t59 t60).bind fun t62 => dAdd t61 t62).bind fun text_48 => (some text_48))).bind fun s_38 => (some s_38))) xs text_4).bind fun s_64 => ((((((some row_1).bind fun t66 => (some (.int 1)).bind fun t67 => dIx t66 t67).bind fun x_68 => (some []).bind fun xs_69 => some (x_68 :: xs_69)).bind (on1 dInt)).bind fun t72 => ((some s_25).bind fun t70 => (some (.int 1)).bind fun t71 => dAdd t70 t71).bind fun t73 => dMod t72 t73).bind fun at_65 => (((((some alike_12).bind asB).map fun b_74 => !b_74).bind fun c_75 => if c_75 = true then ((some (.int 0)).bind fun at_77 => (some at_77)) else (some at_65)).bind fun s_76 => (((((some s_64).bind fun t79 => (some none).bind fun t80 => (optI (some s_76)).bind fun t81 => dSlS t79 t80 t81).bind fun t92 => ((some letters_3).bind fun t90 => ((((((some row_1).bind fun t82 => (some (.int 2)).bind fun t83 => dIx t82 t83).bind fun t84 => (some k_2).bind fun t85 => dAdd t84 t85).bind fun x_86 => (some []).bind fun xs_87 => some (x_86 :: xs_87)).bind (on1 dInt)).bind fun t88 => (some (.int 26)).bind fun t89 => dMod t88 t89).bind fun t91 => dIx t90 t91).bind fun t93 => dAdd t92 t93).bind fun t97 => ((some s_64).bind fun t94 => (optI (some s_76)).bind fun t95 => (some none).bind fun t96 => dSlS t94 t95 t96).bind fun t98 => dAdd t97 t98).bind fun text_78 => ((((some text_78).bind fun t99 => ((some []).bind (on0 (m_law_kept))).bind fun t100 => (dIn t99 t100).bind asB).bind fun c_101 => if c_101 = true then (((some text_78).bind fun t104 => (some (.str "x")).bind fun t105 => dAdd t104 t105).bind fun text_103 => (some text_103)) else (some text_78)).bind fun s_102 => (some s_102)))))))))))
noncomputable def m_law_names (script_1 : D) (place_2 : D) (many_3 : D) : Option D := ((((some script_1).bind fun x_9 => ((some place_2).bind fun x_7 => ((some (.int 15)).bind fun x_5 => (some []).bind fun xs_6 => some (x_5 :: xs_6)).bind fun xs_8 => some (x_7 :: xs_8)).bind fun xs_10 => some (x_9 :: xs_10)).bind (on3 (m_law_row))).bind fun row_4 => (((some many_3).bind dRng1).bind fun xs => (capD xs).bind fun xs => (compD (fun x_16 => (some x_16).bind fun c_11 => (some true).bind fun b_17 => if b_17 = true then (((some row_4).bind fun x_14 => ((some c_11).bind fun x_12 => (some []).bind fun xs_13 => some (x_12 :: xs_13)).bind fun xs_15 => some (x_14 :: xs_15)).bind (on2 (m_law_name))).map some else some none) xs).map .lst))
noncomputable def m_law_house (script_1 : D) (place_2 : D) (cap_3 : D) : Option D := (((((some script_1).bind fun x_9 => ((some place_2).bind fun x_7 => ((some cap_3).bind fun x_5 => (some []).bind fun xs_6 => some (x_5 :: xs_6)).bind fun xs_8 => some (x_7 :: xs_8)).bind fun xs_10 => some (x_9 :: xs_10)).bind (on3 (m_law_shape))).bind dUn2).bind fun c_4 => ((((some script_1).bind fun x_20 => (((some place_2).bind fun t12 => (some (.int 1)).bind fun t13 => dAdd t12 t13).bind fun x_18 => ((((some c_4.1).bind fun x_14 => (some []).bind fun xs_15 => some (x_14 :: xs_15)).bind (on1 dLen)).bind fun x_16 => (some []).bind fun xs_17 => some (x_16 :: xs_17)).bind fun xs_19 => some (x_18 :: xs_19)).bind fun xs_21 => some (x_20 :: xs_21)).bind (on3 (m_law_names))).bind fun names_11 => (((some []).bind (few .lst)).bind fun words_22 => ((((((some c_4.1).bind fun x_23 => (some []).bind fun xs_24 => some (x_23 :: xs_24)).bind (on1 dLen)).bind dRng1).bind fun xs => forS (fun x_87 (b_25 : D) => (some x_87).bind fun c_26 => ((((some script_1).bind fun x_36 => ((((some place_2).bind fun t28 => (some (.int 2)).bind fun t29 => dAdd t28 t29).bind fun t30 => (some c_26).bind fun t31 => dAdd t30 t31).bind fun x_34 => ((some (.int 3)).bind fun x_32 => (some []).bind fun xs_33 => some (x_32 :: xs_33)).bind fun xs_35 => some (x_34 :: xs_35)).bind fun xs_37 => some (x_36 :: xs_37)).bind (on3 (m_law_names))).bind fun found_27 => ((((((((((some script_1).bind fun x_42 => ((some place_2).bind fun x_40 => ((some (.int 40)).bind fun x_38 => (some []).bind fun xs_39 => some (x_38 :: xs_39)).bind fun xs_41 => some (x_40 :: xs_41)).bind fun xs_43 => some (x_42 :: xs_43)).bind (on3 (m_law_row))).bind fun t44 => (some (.int 38)).bind fun t45 => dIx t44 t45).bind fun x_46 => (some []).bind fun xs_47 => some (x_46 :: xs_47)).bind (on1 dInt)).bind fun t48 => (some (.int 3)).bind fun t49 => dMod t48 t49).bind fun t50 => (some (.int 0)).bind fun t51 => (dEqF t50 t51).bind asB).bind fun c_52 => if c_52 = true then ((((some script_1).bind fun x_61 => (((some place_2).bind fun t55 => (some (.int 2)).bind fun t56 => dAdd t55 t56).bind fun x_59 => ((some (.int 3)).bind fun x_57 => (some []).bind fun xs_58 => some (x_57 :: xs_58)).bind fun xs_60 => some (x_59 :: xs_60)).bind fun xs_62 => some (x_61 :: xs_62)).bind (on3 (m_law_names))).bind fun found_54 => ((((some found_54).bind fun t68 => (optI ((((some c_26).bind fun x_64 => (some []).bind fun xs_65 => some (x_64 :: xs_65)).bind (on1 dInt)).bind fun t66 => (some (.int 3)).bind fun t67 => dMod t66 t67)).bind fun t69 => (some none).bind fun t70 => dSl t68 t69 t70).bind fun t78 => ((some found_54).bind fun t75 => (some none).bind fun t76 => (optI ((((some c_26).bind fun x_71 => (some []).bind fun xs_72 => some (x_71 :: xs_72)).bind (on1 dInt)).bind fun t73 => (some (.int 3)).bind fun t74 => dMod t73 t74)).bind fun t77 => dSl t75 t76 t77).bind fun t79 => dCat t78 t79).bind fun found_63 => (some found_63))) else (some found_27)).bind fun s_53 => ((((some s_53).bind fun t82 => (some none).bind fun t83 => (optI ((some c_4.1).bind fun t80 => (some c_26).bind fun t81 => dIx t80 t81)).bind fun t84 => dSl t82 t83 t84).bind fun t85 => dApp b_25 t85).bind fun words_86 => (some words_86))))) xs words_22).bind fun s_88 => (((some names_11).bind fun x_93 => ((some s_88).bind fun x_91 => ((some c_4.2).bind fun x_89 => (some []).bind fun xs_90 => some (x_89 :: xs_90)).bind fun xs_92 => some (x_91 :: xs_92)).bind fun xs_94 => some (x_93 :: xs_94)).bind (few .tup))))))
noncomputable def i_House (names_1 : D) (words_2 : D) (heard_3 : D) : Option D := (((((some names_1).bind fun x_4 => (some []).bind fun xs_5 => some (x_4 :: xs_5)).bind (on1 dList)).bind fun t6 => dStF 1 "names" (.ob 1 []) t6).bind fun self_7 => (((((some words_2).bind asL).bind fun xs => (capD xs).bind fun xs => (compD (fun x_11 => (some x_11).bind fun c_8 => (some true).bind fun b_12 => if b_12 = true then (((some c_8).bind fun x_9 => (some []).bind fun xs_10 => some (x_9 :: xs_10)).bind (on1 dList)).map some else some none) xs).map .lst).bind fun t13 => dStF 1 "words" self_7 t13).bind fun self_14 => (((((some heard_3).bind asL).bind fun xs => (capD xs).bind fun xs => (compD (fun x_18 => (some x_18).bind fun c_15 => (some true).bind fun b_19 => if b_19 = true then (((some c_15).bind fun x_16 => (some []).bind fun xs_17 => some (x_16 :: xs_17)).bind (on1 dList)).map some else some none) xs).map .lst).bind fun t20 => dStF 1 "heard" self_14 t20).bind fun self_21 => (some self_21))))
noncomputable def mk_House : List D → Option D := on3 i_House
noncomputable def m_law_spoil (lists_1 : D) : Option D := ((((some (.str "spoilt")).bind flatD).bind fun y_2 => dAppAt lists_1 [0] y_2).bind fun lists_3 => ((((some (.str "spoilt")).bind flatD).bind fun y_4 => dAppAt lists_3 [1, 0] y_4).bind fun lists_5 => ((((((some (.str "spoilt")).bind fun x_6 => (some []).bind fun xs_7 => some (x_6 :: xs_7)).bind (few .lst)).bind fun z_8 => if floL (.l .v) z_8 = true then some z_8 else none).bind fun y_9 => dAppAt lists_5 [1] y_9).bind fun lists_10 => ((((some (.int 0)).bind flatD).bind fun y_11 => dAppAt lists_10 [2, 0] y_11).bind fun lists_12 => ((((((some (.int 0)).bind fun x_13 => (some []).bind fun xs_14 => some (x_13 :: xs_14)).bind (few .lst)).bind fun z_15 => if floL (.l .v) z_15 = true then some z_15 else none).bind fun y_16 => dAppAt lists_12 [2] y_16).bind fun lists_17 => (some lists_17))))))
noncomputable def m_size (bounds_1 : D) : Option D := ((some (.int 1)).bind fun many_2 => ((((some bounds_1).bind asL).bind fun xs => forS (fun x_8 (b_3 : D) => (some x_8).bind fun c_4 => (((some b_3).bind fun t6 => (some c_4).bind fun t7 => dMul t6 t7).bind fun many_5 => (some many_5))) xs many_2).bind fun s_9 => (some s_9)))
noncomputable def m_heard_bounds (house_1 : D) (variable_2 : D) : Option D := (((((some house_1).bind (dFld 1 "heard")).bind fun t3 => (some variable_2).bind fun t4 => dIx t3 t4).bind asL).bind fun xs => (capD xs).bind fun xs => (compD (fun x_10 => (some x_10).bind fun c_5 => (some true).bind fun b_11 => if b_11 = true then (((((some house_1).bind (dFld 1 "words")).bind fun t6 => (some c_5).bind fun t7 => dIx t6 t7).bind fun x_8 => (some []).bind fun xs_9 => some (x_8 :: xs_9)).bind (on1 dLen)).map some else some none) xs).map .lst)
noncomputable def m_answer_bounds (house_1 : D) : Option D := (((some []).bind (few .lst)).bind fun bounds_2 => (((((((some house_1).bind (dFld 1 "names")).bind fun x_3 => (some []).bind fun xs_4 => some (x_3 :: xs_4)).bind (on1 dLen)).bind dRng1).bind fun xs => forS (fun x_23 (b_5 : D) => (some x_23).bind fun c_6 => ((((((((((some house_1).bind (dFld 1 "words")).bind fun t7 => (some c_6).bind fun t8 => dIx t7 t8).bind fun x_9 => (some []).bind fun xs_10 => some (x_9 :: xs_10)).bind (on1 dLen)).bind fun x_11 => (some []).bind fun xs_12 => some (x_11 :: xs_12)).bind (few .lst)).bind fun t19 => (((((some house_1).bind fun x_15 => ((some c_6).bind fun x_13 => (some []).bind fun xs_14 => some (x_13 :: xs_14)).bind fun xs_16 => some (x_15 :: xs_16)).bind (on2 (m_heard_bounds))).bind fun x_17 => (some []).bind fun xs_18 => some (x_17 :: xs_18)).bind (on1 (m_size))).bind fun t20 => dRep t19 t20).bind fun t21 => dExt b_5 t21).bind fun bounds_22 => (some bounds_22))) xs bounds_2).bind fun s_24 => (some s_24)))
noncomputable def m_way_count (house_1 : D) : Option D := (((((some house_1).bind fun x_2 => (some []).bind fun xs_3 => some (x_2 :: xs_3)).bind (on1 (m_answer_bounds))).bind fun x_4 => (some []).bind fun xs_5 => some (x_4 :: xs_5)).bind (on1 (m_size)))
noncomputable def m_format_house (house_1 : D) : Option D := ((((some (.str "house")).bind fun x_3 => (some []).bind fun xs_4 => some (x_3 :: xs_4)).bind (few .lst)).bind fun parts_2 => (((((some house_1).bind (dFld 1 "names")).bind fun t5 => ((some house_1).bind (dFld 1 "words")).bind fun t6 => ((some house_1).bind (dFld 1 "heard")).bind fun t7 => (asL t5).bind fun t8 => (asL t6).bind fun t9 => (asL t7).bind fun t10 => some (zip3D t8 t9 t10)).bind fun xs => forS (fun x_38 (b_11 : D) => (dUn3 x_38).bind fun c_12 => ((((((some (.str "variable")).bind fun x_17 => ((some c_12.1).bind fun x_15 => ((some (.str "says")).bind fun x_13 => (some []).bind fun xs_14 => some (x_13 :: xs_14)).bind fun xs_16 => some (x_15 :: xs_16)).bind fun xs_18 => some (x_17 :: xs_18)).bind (few .lst)).bind fun t19 => (some c_12.2.1).bind fun t20 => dCat t19 t20).bind fun t21 => dExt b_11 t21).bind fun parts_22 => ((((some c_12.2.2).bind dTru).bind fun c_23 => if c_23 = true then ((((((some (.str "hears")).bind fun x_25 => (some []).bind fun xs_26 => some (x_25 :: xs_26)).bind (few .lst)).bind fun t32 => (((some c_12.2.2).bind asL).bind fun xs => (capD xs).bind fun xs => (compD (fun x_30 => (some x_30).bind fun c_27 => (some true).bind fun b_31 => if b_31 = true then (((some house_1).bind (dFld 1 "names")).bind fun t28 => (some c_27).bind fun t29 => dIx t28 t29).map some else some none) xs).map .lst).bind fun t33 => dCat t32 t33).bind fun t34 => dExt parts_22 t34).bind fun parts_35 => (some parts_35)) else (some parts_22)).bind fun s_24 => (((some (.str "end")).bind fun t36 => dApp s_24 t36).bind fun parts_37 => (some parts_37))))) xs parts_2).bind fun s_39 => (((some (.str "end")).bind fun t40 => dApp s_39 t40).bind fun parts_41 => ((some (.str " ")).bind fun t42 => (some parts_41).bind fun t43 => dJoin t42 t43))))
noncomputable def m_law_text_words (house_1 : D) : Option D := (((some house_1).bind dUn3).bind fun c_2 => ((((some (.str "house")).bind fun x_4 => (some []).bind fun xs_5 => some (x_4 :: xs_5)).bind (few .lst)).bind fun found_3 => ((((((some c_2.1).bind fun x_6 => (some []).bind fun xs_7 => some (x_6 :: xs_7)).bind (on1 dLen)).bind dRng1).bind fun xs => forS (fun x_48 (b_8 : D) => (some x_48).bind fun c_9 => ((((some b_8).bind fun t19 => (((some (.str "variable")).bind fun x_17 => (((some c_2.1).bind fun t11 => (some c_9).bind fun t12 => dIx t11 t12).bind fun x_15 => ((some (.str "says")).bind fun x_13 => (some []).bind fun xs_14 => some (x_13 :: xs_14)).bind fun xs_16 => some (x_15 :: xs_16)).bind fun xs_18 => some (x_17 :: xs_18)).bind (few .lst)).bind fun t20 => dCat t19 t20).bind fun t23 => ((some c_2.2.1).bind fun t21 => (some c_9).bind fun t22 => dIx t21 t22).bind fun t24 => dCat t23 t24).bind fun found_10 => (((((some c_2.2.2).bind fun t25 => (some c_9).bind fun t26 => dIx t25 t26).bind dTru).bind fun c_27 => if c_27 = true then ((((some found_10).bind fun t32 => (((some (.str "hears")).bind fun x_30 => (some []).bind fun xs_31 => some (x_30 :: xs_31)).bind (few .lst)).bind fun t33 => dCat t32 t33).bind fun t41 => ((((some c_2.2.2).bind fun t34 => (some c_9).bind fun t35 => dIx t34 t35).bind asL).bind fun xs => (capD xs).bind fun xs => (compD (fun x_39 => (some x_39).bind fun c_36 => (some true).bind fun b_40 => if b_40 = true then ((some c_2.1).bind fun t37 => (some c_36).bind fun t38 => dIx t37 t38).map some else some none) xs).map .lst).bind fun t42 => dCat t41 t42).bind fun found_29 => (some found_29)) else (some found_10)).bind fun s_28 => (((some s_28).bind fun t46 => (((some (.str "end")).bind fun x_44 => (some []).bind fun xs_45 => some (x_44 :: xs_45)).bind (few .lst)).bind fun t47 => dCat t46 t47).bind fun found_43 => (some found_43))))) xs found_3).bind fun s_49 => ((some s_49).bind fun t52 => (((some (.str "end")).bind fun x_50 => (some []).bind fun xs_51 => some (x_50 :: xs_51)).bind (few .lst)).bind fun t53 => dCat t52 t53))))
noncomputable def m_law_is_integer (x_1 : D) : Option D := (((some x_1).bind (dIsi .int)).bind fun t4 => (asB t4).bind fun t5 => if t5 = true then (((some x_1).bind (dIsi .bool)).bind fun t2 => (asB t2).map fun t3 => .bl (!t3)) else some (.bl false))
noncomputable def m_law_same : Nat → D → D → Option D
  | 0, _, _ => none
  | fuel + 1, actual_1, due_2 => (((((some due_2).bind (dIsi .list)).bind asB).bind fun c_3 => if c_3 = true then some true else (((some due_2).bind (dIsi .tuple)).bind asB)).bind fun c_4 => if c_4 = true then (((((some actual_1).bind (dIsi .list)).bind fun t5 => ((some due_2).bind (dIsi .list)).bind fun t6 => (dNeF t5 t6).bind asB).bind fun c_9 => if c_9 = true then some true else (((some actual_1).bind (dIsi .tuple)).bind fun t7 => ((some due_2).bind (dIsi .tuple)).bind fun t8 => (dNeF t7 t8).bind asB)).bind fun c_10 => if c_10 = true then (some (.bl false)) else (((((some actual_1).bind fun x_11 => (some []).bind fun xs_12 => some (x_11 :: xs_12)).bind (on1 dLen)).bind fun t15 => (((some due_2).bind fun x_13 => (some []).bind fun xs_14 => some (x_13 :: xs_14)).bind (on1 dLen)).bind fun t16 => (dNeF t15 t16).bind asB).bind fun c_17 => if c_17 = true then (some (.bl false)) else ((((((some due_2).bind fun x_18 => (some []).bind fun xs_19 => some (x_18 :: xs_19)).bind (on1 dLen)).bind dRng1).bind fun xs => forF (γ := Empty) (fun x_32 (b_20 : Unit) => (some x_32).bind fun c_21 => (((((((some actual_1).bind fun t22 => (some c_21).bind fun t23 => dIx t22 t23).bind fun x_28 => (((some due_2).bind fun t24 => (some c_21).bind fun t25 => dIx t24 t25).bind fun x_26 => (some []).bind fun xs_27 => some (x_26 :: xs_27)).bind fun xs_29 => some (x_28 :: xs_29)).bind (on2 (m_law_same fuel))).bind asB).map fun b_30 => !b_30).bind fun c_31 => if c_31 = true then ((((some (.bl false)).map Fl.rt) : Option (Fl Empty (Unit)))).bind (flE (β := Unit)) else (some (Fl.nx ())))) xs ()).bind (flT fun s_33 => (some (.bl true)))))) else ((((some due_2).bind (dIsi .bool)).bind asB).bind fun c_34 => if c_34 = true then (((some actual_1).bind (dIsi .bool)).bind fun t37 => (asB t37).bind fun t38 => if t38 = true then ((some actual_1).bind fun t35 => (some due_2).bind fun t36 => dEq t35 t36) else some (.bl false)) else ((((some due_2).bind (dIsi .int)).bind asB).bind fun c_39 => if c_39 = true then ((((some actual_1).bind fun x_40 => (some []).bind fun xs_41 => some (x_40 :: xs_41)).bind (on1 (m_law_is_integer))).bind fun t44 => (asB t44).bind fun t45 => if t45 = true then ((some actual_1).bind fun t42 => (some due_2).bind fun t43 => dEq t42 t43) else some (.bl false)) else (((some actual_1).bind (dIsi .str)).bind fun t48 => (asB t48).bind fun t49 => if t49 = true then ((some actual_1).bind fun t46 => (some due_2).bind fun t47 => dEq t46 t47) else some (.bl false)))))
noncomputable def m_law_same_house (actual_1 : D) (house_2 : D) : Option D := (((((some actual_1).bind (dIsO 1)).bind asB).map fun b_3 => !b_3).bind fun c_4 => if c_4 = true then (some (.bl false)) else (((((some actual_1).bind (dFld 1 "names")).bind fun x_9 => (((some house_2).bind fun t5 => (some (.int 0)).bind fun t6 => dIx t5 t6).bind fun x_7 => (some []).bind fun xs_8 => some (x_7 :: xs_8)).bind fun xs_10 => some (x_9 :: xs_10)).bind (on2 (m_law_same 12))).bind fun t25 => (asB t25).bind fun t26 => if t26 = true then (((((some actual_1).bind (dFld 1 "words")).bind fun x_15 => (((some house_2).bind fun t11 => (some (.int 1)).bind fun t12 => dIx t11 t12).bind fun x_13 => (some []).bind fun xs_14 => some (x_13 :: xs_14)).bind fun xs_16 => some (x_15 :: xs_16)).bind (on2 (m_law_same 12))).bind fun t23 => (asB t23).bind fun t24 => if t24 = true then ((((some actual_1).bind (dFld 1 "heard")).bind fun x_21 => (((some house_2).bind fun t17 => (some (.int 2)).bind fun t18 => dIx t17 t18).bind fun x_19 => (some []).bind fun xs_20 => some (x_19 :: xs_20)).bind fun xs_22 => some (x_21 :: xs_22)).bind (on2 (m_law_same 12))) else some (.bl false)) else some (.bl false)))
noncomputable def m_law_spaced (words_1 : D) (row_2 : D) : Option D := (((some (.str " ")).bind fun t10 => (((((some row_2).bind fun t4 => (some (.int 0)).bind fun t5 => dIx t4 t5).bind fun x_6 => (some []).bind fun xs_7 => some (x_6 :: xs_7)).bind (on1 dInt)).bind fun t8 => (some (.int 3)).bind fun t9 => dMod t8 t9).bind fun t11 => dMulT t10 t11).bind fun text_3 => ((((((some words_1).bind fun x_12 => (some []).bind fun xs_13 => some (x_12 :: xs_13)).bind (on1 dLen)).bind dRng1).bind fun xs => forS (fun x_46 (b_14 : D) => (some x_46).bind fun c_15 => ((((some c_15).bind fun t16 => (some (.int 0)).bind fun t17 => (dGt t16 t17).bind asB).bind fun c_18 => if c_18 = true then (((some b_14).bind fun t39 => ((some (.str " ")).bind fun t37 => ((some (.int 1)).bind fun t35 => ((((((some row_2).bind fun t25 => ((some (.int 1)).bind fun t23 => ((some c_15).bind fun t21 => (some (.int 5)).bind fun t22 => dMod t21 t22).bind fun t24 => dAdd t23 t24).bind fun t26 => dIx t25 t26).bind fun t29 => ((some (.int 1)).bind fun t27 => (some c_15).bind fun t28 => dAdd t27 t28).bind fun t30 => dFdiv t29 t30).bind fun x_31 => (some []).bind fun xs_32 => some (x_31 :: xs_32)).bind (on1 dInt)).bind fun t33 => (some (.int 3)).bind fun t34 => dMod t33 t34).bind fun t36 => dAdd t35 t36).bind fun t38 => dMulT t37 t38).bind fun t40 => dAdd t39 t40).bind fun text_20 => (some text_20)) else (some b_14)).bind fun s_19 => (((some s_19).bind fun t44 => ((some words_1).bind fun t42 => (some c_15).bind fun t43 => dIx t42 t43).bind fun t45 => dAdd t44 t45).bind fun text_41 => (some text_41)))) xs text_3).bind fun s_47 => ((some s_47).bind fun t56 => ((some (.str " ")).bind fun t54 => (((((some row_2).bind fun t48 => (some (.int 6)).bind fun t49 => dIx t48 t49).bind fun x_50 => (some []).bind fun xs_51 => some (x_50 :: xs_51)).bind (on1 dInt)).bind fun t52 => (some (.int 3)).bind fun t53 => dMod t52 t53).bind fun t55 => dMulT t54 t55).bind fun t57 => dAdd t56 t57)))
noncomputable def i_Reader (text_1 : D) : Option D := ((((((some text_1).bind fun t2 => (some (.str " ")).bind fun t3 => dSplit t2 t3).bind asL).bind fun xs => (capD xs).bind fun xs => (compD (fun x_7 => (some x_7).bind fun c_4 => ((some c_4).bind fun t5 => (some (.str "")).bind fun t6 => (dNeF t5 t6).bind asB).bind fun b_8 => if b_8 = true then (some c_4).map some else some none) xs).map .lst).bind fun t9 => dStF 0 "words" (.ob 0 []) t9).bind fun self_10 => (((some (.int 0)).bind fun t11 => dStF 0 "at" self_10 t11).bind fun self_12 => (some self_12)))
noncomputable def mk_Reader : List D → Option D := on1 i_Reader
noncomputable def m_Reader_ended (self_1 : D) : Option D := (((some self_1).bind (dFld 0 "at")).bind fun t4 => ((((some self_1).bind (dFld 0 "words")).bind fun x_2 => (some []).bind fun xs_3 => some (x_2 :: xs_3)).bind (on1 dLen)).bind fun t5 => dEqF t4 t5)
noncomputable def m_Reader_coming (self_1 : D) : Option D := (((((some self_1).bind (dMt 0 "ended")).bind fun x_2 => (some []).bind fun xs => (on1 (m_Reader_ended)) (x_2 :: xs)).bind asB).bind fun c_3 => if c_3 = true then (some (.str "")) else (((some self_1).bind (dFld 0 "words")).bind fun t4 => ((some self_1).bind (dFld 0 "at")).bind fun t5 => dIx t4 t5))
noncomputable def m_Reader_take (self_2 : D) (allowed_1 : D) : Option (Fg D Empty) := (((((some self_2).bind (dMt 0 "coming")).bind fun x_4 => (some []).bind fun xs => (on1 (m_Reader_coming)) (x_4 :: xs)).bind flatD).bind fun word_3 => ((((some word_3).bind fun t5 => (some allowed_1).bind fun t6 => (dNin t5 t6).bind asB).bind fun c_7 => if c_7 = true then none else some ()).bind fun u_8 => (((dFld 0 "at" self_2).bind fun a_9 => (some (.int 1)).bind fun y_10 => (dAddI a_9 y_10).bind fun z_11 => dStF 0 "at" self_2 z_11).bind fun self_12 => ((some word_3).map fun r_13 => Fg.rt (r_13, self_12)))))
noncomputable def m_Reader_finish (self_1 : D) : Option D := (((((((some self_1).bind (dMt 0 "ended")).bind fun x_2 => (some []).bind fun xs => (on1 (m_Reader_ended)) (x_2 :: xs)).bind asB).map fun b_3 => !b_3).bind fun c_4 => if c_4 = true then none else some ()).bind fun u_5 => (some .non))
noncomputable def m_words_after (many_1 : D) : Option D := (((some many_1).bind fun t2 => (some (.int 0)).bind fun t3 => (dEqF t2 t3).bind asB).bind fun c_4 => if c_4 = true then (((some (.str "variable")).bind fun x_5 => (some []).bind fun xs_6 => some (x_5 :: xs_6)).bind (few .lst)) else (((some many_1).bind fun t7 => (some (.int (5))).bind fun t8 => (dLt t7 t8).bind asB).bind fun c_9 => if c_9 = true then (((some (.str "variable")).bind fun x_12 => ((some (.str "end")).bind fun x_10 => (some []).bind fun xs_11 => some (x_10 :: xs_11)).bind fun xs_13 => some (x_12 :: xs_13)).bind (few .lst)) else (((some (.str "end")).bind fun x_14 => (some []).bind fun xs_15 => some (x_14 :: xs_15)).bind (few .lst))))
noncomputable def m_is_name (word_1 : D) : Option D := ((((((some word_1).bind (dIsi .str)).bind asB).map fun b_2 => !b_2).bind fun c_13 => if c_13 = true then some true else (((some word_1).bind fun t3 => (some (.str "")).bind fun t4 => (dEqF t3 t4).bind asB).bind fun c_12 => if c_12 = true then some true else (((((some word_1).bind fun x_5 => (some []).bind fun xs_6 => some (x_5 :: xs_6)).bind (on1 dLen)).bind fun t7 => (some (.int 12)).bind fun t8 => (dGt t7 t8).bind asB).bind fun c_11 => if c_11 = true then some true else ((some word_1).bind fun t9 => (some (.tup [(.str "house"), (.str "variable"), (.str "says"), (.str "hears"), (.str "end"), (.str "if"), (.str "and"), (.str "ignores"), (.str "rises"), (.str "falls"), (.str "with"), (.str "never"), (.str "when")])).bind fun t10 => (dIn t9 t10).bind asB)))).bind fun c_14 => if c_14 = true then (some (.bl false)) else ((((some word_1).bind fun t15 => (some (.int 0)).bind fun t16 => dIx t15 t16).bind fun t17 => (some (.str "abcdefghijklmnopqrstuvwxyz")).bind fun t18 => dInT t17 t18).bind fun t25 => (asB t25).bind fun t26 => if t26 = true then (((some word_1).bind dChars).bind fun xs => allD (fun x_24 => (some x_24).bind fun c_19 => ((some c_19).bind fun t22 => ((some (.str "abcdefghijklmnopqrstuvwxyz")).bind fun t20 => (some (.str "0123456789")).bind fun t21 => dAdd t20 t21).bind fun t23 => dInT t22 t23)) xs) else some (.bl false)))
noncomputable def m_Reader_take_name (self_2 : D) (used_1 : D) : Option (Fg D Empty) := (((((some self_2).bind (dMt 0 "coming")).bind fun x_4 => (some []).bind fun xs => (on1 (m_Reader_coming)) (x_4 :: xs)).bind flatD).bind fun word_3 => (((((some word_3).bind fun t5 => (some used_1).bind fun t6 => (dIn t5 t6).bind asB).bind fun c_10 => if c_10 = true then some true else (((((some word_3).bind fun x_7 => (some []).bind fun xs_8 => some (x_7 :: xs_8)).bind (on1 (m_is_name))).bind asB).map fun b_9 => !b_9)).bind fun c_11 => if c_11 = true then none else some ()).bind fun u_12 => (((dFld 0 "at" self_2).bind fun a_13 => (some (.int 1)).bind fun y_14 => (dAddI a_13 y_14).bind fun z_15 => dStF 0 "at" self_2 z_15).bind fun self_16 => ((some word_3).map fun r_17 => Fg.rt (r_17, self_16)))))
noncomputable def m_read_words (reader_1 : D) : Option (Fg D Empty) := (((dMt 0 "take_name" reader_1).bind fun x_4 => (((some []).bind (few .lst)).bind fun x_2 => (some []).bind fun xs_3 => some (x_2 :: xs_3)).bind fun xs_5 => (fun d ds => ((own1 m_Reader_take_name) d ds).bind endO) x_4 xs_5).bind fun said_6 => (((((dMt 0 "take_name" said_6.2).bind fun x_9 => ((some (.lst [said_6.1])).bind fun x_7 => (some []).bind fun xs_8 => some (x_7 :: xs_8)).bind fun xs_10 => (fun d ds => ((own1 m_Reader_take_name) d ds).bind endO) x_9 xs_10).bind fun r_11 => if flatB r_11.1 = true ∧ Oh.flo (.j none (shF [("words", .l .v)])) r_11.2 = true then some r_11 else none).bind fun b_12 => (dApp (.lst [said_6.1]) b_12.1).map fun z_13 => (z_13, b_12)).bind fun said_14 => ((((((((some said_14.2.2).bind (dMt 0 "coming")).bind fun x_15 => (some []).bind fun xs => (on1 (m_Reader_coming)) (x_15 :: xs)).bind fun x_16 => (some []).bind fun xs_17 => some (x_16 :: xs_17)).bind (on1 (m_is_name))).bind asB).bind fun c_18 => if c_18 = true then (((((dMt 0 "take_name" said_14.2.2).bind fun x_22 => ((some said_14.1).bind fun x_20 => (some []).bind fun xs_21 => some (x_20 :: xs_21)).bind fun xs_23 => (fun d ds => ((own1 m_Reader_take_name) d ds).bind endO) x_22 xs_23).bind fun r_24 => if flatB r_24.1 = true ∧ Oh.flo (.j none (shF [("words", .l .v)])) r_24.2 = true then some r_24 else none).bind fun b_25 => (dApp said_14.1 b_25.1).map fun z_26 => (z_26, b_25)).bind fun said_27 => (some (said_27.2.2, said_27.1))) else (some (said_14.2.2, said_14.1))).bind fun s_19 => ((some s_19.2).map fun r_28 => Fg.rt (r_28, s_19.1)))))
noncomputable def m_Reader_take_index (self_2 : D) (allowed_1 : D) : Option (Fg D Empty) := (((some allowed_1).bind fun t7 => ((dMt 0 "take" self_2).bind fun x_5 => ((some allowed_1).bind fun x_3 => (some []).bind fun xs_4 => some (x_3 :: xs_4)).bind fun xs_6 => (fun d ds => ((own1 m_Reader_take) d ds).bind endO) x_5 xs_6).bind fun b_8 => (dIndex t7 b_8.1).map fun z_9 => (z_9, b_8)).map fun b_10 => Fg.rt (b_10.1, b_10.2.2))
noncomputable def m_read_heard (reader_1 : D) (earlier_2 : D) : Option (Fg D Empty) := (((some []).bind (few .lst)).bind fun heard_3 => (((((dMt 0 "take" reader_1).bind fun x_13 => ((((some earlier_2).bind dTru).bind fun c_10 => if c_10 = true then (((some (.str "hears")).bind fun x_6 => ((some (.str "end")).bind fun x_4 => (some []).bind fun xs_5 => some (x_4 :: xs_5)).bind fun xs_7 => some (x_6 :: xs_7)).bind (few .lst)) else (((some (.str "end")).bind fun x_8 => (some []).bind fun xs_9 => some (x_8 :: xs_9)).bind (few .lst))).bind fun x_11 => (some []).bind fun xs_12 => some (x_11 :: xs_12)).bind fun xs_14 => (fun d ds => ((own1 m_Reader_take) d ds).bind endO) x_13 xs_14).bind fun b_15 => (some (.str "end")).bind fun y_16 => (dEqF b_15.1 y_16).map fun z_17 => (z_17, b_15)).bind fun w_18 => (asB w_18.1).map fun u_19 => (u_19, w_18)).bind fun b_20 => if b_20.1 = true then (((some heard_3).map fun r_21 => Fg.rt (r_21, b_20.2.2.2)) : Option (Fg Empty (Empty))).bind (ggE (β := D)) else ((((dMt 0 "take_index" b_20.2.2.2).bind fun x_24 => ((some earlier_2).bind fun x_22 => (some []).bind fun xs_23 => some (x_22 :: xs_23)).bind fun xs_25 => (fun d ds => ((own1 m_Reader_take_index) d ds).bind endO) x_24 xs_25).bind fun b_26 => (dApp heard_3 b_26.1).map fun z_27 => (z_27, b_26)).bind fun heard_28 => ((whS (fun (b_29 : D × D) => ((((some b_29.2).bind (dMt 0 "coming")).bind fun x_31 => (some []).bind fun xs => (on1 (m_Reader_coming)) (x_31 :: xs)).bind fun t32 => (some (.str "end")).bind fun t33 => (dNeF t32 t33).bind asB)) (fun (b_29 : D × D) => (((((some b_29.1).bind fun t35 => ((some (.int 1)).bind dNeg).bind fun t36 => dIx t35 t36).bind fun t37 => (some (.int 1)).bind fun t38 => dAdd t37 t38).bind flatD).bind fun start_34 => ((((some start_34).bind fun t46 => ((dMt 0 "take_index" b_29.2).bind fun x_44 => (((some earlier_2).bind fun t39 => (optI (some start_34)).bind fun t40 => (some none).bind fun t41 => dSl t39 t40 t41).bind fun x_42 => (some []).bind fun xs_43 => some (x_42 :: xs_43)).bind fun xs_45 => (fun d ds => ((own1 m_Reader_take_index) d ds).bind endO) x_44 xs_45).bind fun b_47 => (dAdd t46 b_47.1).map fun z_48 => (z_48, b_47)).bind fun b_49 => (dApp b_29.1 b_49.1).map fun z_50 => (z_50, b_49)).bind fun heard_51 => (some (heard_51.1, heard_51.2.2.2))))) 1000 (heard_28.1, heard_28.2.2)).bind fun s_52 => (((dMt 0 "take" s_52.2).bind fun x_57 => ((((some (.str "end")).bind fun x_53 => (some []).bind fun xs_54 => some (x_53 :: xs_54)).bind (few .lst)).bind fun x_55 => (some []).bind fun xs_56 => some (x_55 :: xs_56)).bind fun xs_58 => (fun d ds => ((own1 m_Reader_take) d ds).bind endO) x_57 xs_58).bind fun reader_59 => ((some s_52.1).map fun r_60 => Fg.rt (r_60, reader_59.2)))))))
noncomputable def m_parse_house (text_1 : D) : Option D := ((((some text_1).bind fun x_3 => (some []).bind fun xs_4 => some (x_3 :: xs_4)).bind mk_Reader).bind fun reader_2 => ((some ()).bind fun u_5 => (((dMt 0 "take" reader_2).bind fun x_10 => ((((some (.str "house")).bind fun x_6 => (some []).bind fun xs_7 => some (x_6 :: xs_7)).bind (few .lst)).bind fun x_8 => (some []).bind fun xs_9 => some (x_8 :: xs_9)).bind fun xs_11 => (fun d ds => ((own1 m_Reader_take) d ds).bind endO) x_10 xs_11).bind fun reader_12 => ((whP (fun (b_13 : D × D × D × D) => ((((dMt 0 "take" b_13.2.1).bind fun x_21 => (((((((some b_13.1).bind fun x_15 => (some []).bind fun xs_16 => some (x_15 :: xs_16)).bind (on1 dLen)).bind flatD).bind fun x_17 => (some []).bind fun xs_18 => some (x_17 :: xs_18)).bind (on1 (m_words_after))).bind fun x_19 => (some []).bind fun xs_20 => some (x_19 :: xs_20)).bind fun xs_22 => (fun d ds => ((own1 m_Reader_take) d ds).bind endO) x_21 xs_22).bind fun b_23 => (some (.str "variable")).bind fun y_24 => (dEqF b_23.1 y_24).map fun z_25 => (z_25, b_23)).bind fun w_26 => (asB w_26.1).map fun u_27 => (u_27, w_26)).map fun g_28 => (g_28.1, (b_13.1, g_28.2.2.2, b_13.2.2.1, b_13.2.2.2))) (fun (p_29 : Bool × (D × D × D × D)) => p_29.1) (fun (p_29 : Bool × (D × D × D × D)) => p_29.2) (fun (b_13 : D × D × D × D) => (((((some b_13.1).bind fun x_31 => (some []).bind fun xs_32 => some (x_31 :: xs_32)).bind (on1 dList)).bind flatL).bind fun earlier_30 => ((((dMt 0 "take_name" b_13.2.1).bind fun x_35 => ((some earlier_30).bind fun x_33 => (some []).bind fun xs_34 => some (x_33 :: xs_34)).bind fun xs_36 => (fun d ds => ((own1 m_Reader_take_name) d ds).bind endO) x_35 xs_36).bind fun b_37 => (dApp b_13.1 b_37.1).map fun z_38 => (z_38, b_37)).bind fun names_39 => (((dMt 0 "take" names_39.2.2).bind fun x_44 => ((((some (.str "says")).bind fun x_40 => (some []).bind fun xs_41 => some (x_40 :: xs_41)).bind (few .lst)).bind fun x_42 => (some []).bind fun xs_43 => some (x_42 :: xs_43)).bind fun xs_45 => (fun d ds => ((own1 m_Reader_take) d ds).bind endO) x_44 xs_45).bind fun reader_46 => ((((some []).bind fun xs_47 => (fun d ds => ((own0 m_read_words) d ds).bind endO) reader_46.2 xs_47).bind fun b_48 => (dApp b_13.2.2.1 b_48.1).map fun z_49 => (z_49, b_48)).bind fun words_50 => (((((some earlier_30).bind fun x_51 => (some []).bind fun xs_52 => some (x_51 :: xs_52)).bind fun xs_53 => (fun d ds => ((own1 m_read_heard) d ds).bind endO) words_50.2.2 xs_53).bind fun b_54 => (dApp b_13.2.2.2 b_54.1).map fun z_55 => (z_55, b_54)).bind fun heard_56 => (some (names_39.1, heard_56.2.2, words_50.1, heard_56.1)))))))) 1000 ((.lst []), reader_12.2, (.lst []), (.lst []))).bind fun s_57 => ((((some s_57.2.1).bind (dMt 0 "finish")).bind fun x_58 => (some []).bind fun xs => (on1 (m_Reader_finish)) (x_58 :: xs)).bind fun u_59 => ((((some s_57.1).bind fun x_65 => ((some s_57.2.2.1).bind fun x_63 => ((some s_57.2.2.2).bind fun x_61 => (some []).bind fun xs_62 => some (x_61 :: xs_62)).bind fun xs_64 => some (x_63 :: xs_64)).bind fun xs_66 => some (x_65 :: xs_66)).bind mk_House).bind fun house_60 => ((((((some house_60).bind fun x_67 => (some []).bind fun xs_68 => some (x_67 :: xs_68)).bind (on1 (m_way_count))).bind fun t69 => (some (.int (512))).bind fun t70 => (dGt t69 t70).bind asB).bind fun c_71 => if c_71 = true then none else some ()).bind fun u_72 => (some house_60))))))))
noncomputable def m_law (script_1 : D) : Option D := ((((some script_1).bind fun x_7 => ((some (.int 0)).bind fun x_5 => ((some (.int 512)).bind fun x_3 => (some []).bind fun xs_4 => some (x_3 :: xs_4)).bind fun xs_6 => some (x_5 :: xs_6)).bind fun xs_8 => some (x_7 :: xs_8)).bind (on3 (m_law_house))).bind fun house_2 => (((some house_2).bind dUn3).bind fun c_9 => (((some (.str " ")).bind fun t13 => (((some house_2).bind fun x_11 => (some []).bind fun xs_12 => some (x_11 :: xs_12)).bind (on1 (m_law_text_words))).bind fun t14 => dJoin t13 t14).bind fun due_10 => (((((((some c_9.1).bind fun x_15 => (some []).bind fun xs_16 => some (x_15 :: xs_16)).bind (on1 dList)).bind fun z_17 => if floL (.l .v) z_17 = true then some z_17 else none).bind fun x_34 => (((((some c_9.2.1).bind asL).bind fun xs => (capD xs).bind fun xs => (compD (fun x_21 => (some x_21).bind fun c_18 => (some true).bind fun b_22 => if b_22 = true then (((some c_18).bind fun x_19 => (some []).bind fun xs_20 => some (x_19 :: xs_20)).bind (on1 dList)).map some else some none) xs).map .lst).bind fun z_23 => if floL (.l (.l .v)) z_23 = true then some z_23 else none).bind fun x_32 => (((((some c_9.2.2).bind asL).bind fun xs => (capD xs).bind fun xs => (compD (fun x_27 => (some x_27).bind fun c_24 => (some true).bind fun b_28 => if b_28 = true then (((some c_24).bind fun x_25 => (some []).bind fun xs_26 => some (x_25 :: xs_26)).bind (on1 dList)).map some else some none) xs).map .lst).bind fun z_29 => if floL (.l (.l .v)) z_29 = true then some z_29 else none).bind fun x_30 => (some []).bind fun xs_31 => some (x_30 :: xs_31)).bind fun xs_33 => some (x_32 :: xs_33)).bind fun xs_35 => some (x_34 :: xs_35)).bind (few .lst)).bind fun lists_36 => ((((((some lists_36).bind fun t37 => (some (.int 0)).bind fun t38 => dIx t37 t38).bind fun x_47 => (((some lists_36).bind fun t39 => (some (.int 1)).bind fun t40 => dIx t39 t40).bind fun x_45 => (((some lists_36).bind fun t41 => (some (.int 2)).bind fun t42 => dIx t41 t42).bind fun x_43 => (some []).bind fun xs_44 => some (x_43 :: xs_44)).bind fun xs_46 => some (x_45 :: xs_46)).bind fun xs_48 => some (x_47 :: xs_48)).bind mk_House).bind fun z_50 => if flo (.j none (shF [("heard", .l (.l .v)), ("names", .l .v), ("words", .l (.l .v))])) z_50 = true then some z_50 else none).bind fun made_49 => ((if (m_law_spoil lists_36).isSome = true then some () else none).bind fun u_51 => ((((((some made_49).bind fun x_54 => ((some house_2).bind fun x_52 => (some []).bind fun xs_53 => some (x_52 :: xs_53)).bind fun xs_55 => some (x_54 :: xs_55)).bind (on2 (m_law_same_house))).bind asB).map fun b_56 => !b_56).bind fun c_57 => if c_57 = true then (some (.bl false)) else ((((some c_9.2.1).bind asL).bind fun xs => (capD xs).bind fun xs => (compD (fun x_62 => (some x_62).bind fun c_59 => (some true).bind fun b_63 => if b_63 = true then (((some c_59).bind fun x_60 => (some []).bind fun xs_61 => some (x_60 :: xs_61)).bind (on1 dLen)).map some else some none) xs).map .lst).bind fun counts_58 => ((((some made_49).bind fun x_65 => (some []).bind fun xs_66 => some (x_65 :: xs_66)).bind (on1 (m_way_count))).bind fun many_64 => (((((((some many_64).bind fun x_67 => (some []).bind fun xs_68 => some (x_67 :: xs_68)).bind (on1 (m_law_is_integer))).bind asB).map fun b_69 => !b_69).bind fun c_76 => if c_76 = true then some true else ((some many_64).bind fun t74 => (((some counts_58).bind fun x_72 => ((some c_9.2.2).bind fun x_70 => (some []).bind fun xs_71 => some (x_70 :: xs_71)).bind fun xs_73 => some (x_72 :: xs_73)).bind (on2 (m_law_count_ways))).bind fun t75 => (dNeF t74 t75).bind asB)).bind fun c_77 => if c_77 = true then (some (.bl false)) else ((((((some c_9.1).bind fun x_78 => (some []).bind fun xs_79 => some (x_78 :: xs_79)).bind (on1 dLen)).bind dRng1).bind fun xs => forF (γ := Empty) (fun x_99 (b_80 : Unit) => (some x_99).bind fun c_81 => ((((((((some made_49).bind fun x_84 => ((some c_81).bind fun x_82 => (some []).bind fun xs_83 => some (x_82 :: xs_83)).bind fun xs_85 => some (x_84 :: xs_85)).bind (on2 (m_heard_bounds))).bind fun x_95 => (((((some c_9.2.2).bind fun t86 => (some c_81).bind fun t87 => dIx t86 t87).bind asL).bind fun xs => (capD xs).bind fun xs => (compD (fun x_91 => (some x_91).bind fun c_88 => (some true).bind fun b_92 => if b_92 = true then ((some counts_58).bind fun t89 => (some c_88).bind fun t90 => dIx t89 t90).map some else some none) xs).map .lst).bind fun x_93 => (some []).bind fun xs_94 => some (x_93 :: xs_94)).bind fun xs_96 => some (x_95 :: xs_96)).bind (on2 (m_law_same 12))).bind asB).map fun b_97 => !b_97).bind fun c_98 => if c_98 = true then ((((some (.bl false)).map Fl.rt) : Option (Fl Empty (Unit)))).bind (flE (β := Unit)) else (some (Fl.nx ())))) xs ()).bind (flT fun s_100 => ((((some made_49).bind fun x_102 => (some []).bind fun xs_103 => some (x_102 :: xs_103)).bind (on1 (m_format_house))).bind fun text_101 => ((((((some text_101).bind (dIsi .str)).bind asB).map fun b_104 => !b_104).bind fun c_107 => if c_107 = true then some true else ((some text_101).bind fun t105 => (some due_10).bind fun t106 => (dNeF t105 t106).bind asB)).bind fun c_108 => if c_108 = true then (some (.bl false)) else ((((((some due_10).bind fun x_123 => ((((((some house_2).bind fun x_109 => (some []).bind fun xs_110 => some (x_109 :: xs_110)).bind (on1 (m_law_text_words))).bind fun x_119 => ((((some script_1).bind fun x_115 => ((some (.int 8)).bind fun x_113 => ((some (.int 8)).bind fun x_111 => (some []).bind fun xs_112 => some (x_111 :: xs_112)).bind fun xs_114 => some (x_113 :: xs_114)).bind fun xs_116 => some (x_115 :: xs_116)).bind (on3 (m_law_row))).bind fun x_117 => (some []).bind fun xs_118 => some (x_117 :: xs_118)).bind fun xs_120 => some (x_119 :: xs_120)).bind (on2 (m_law_spaced))).bind fun x_121 => (some []).bind fun xs_122 => some (x_121 :: xs_122)).bind fun xs_124 => some (x_123 :: xs_124)).bind (few .tup)).bind asT).bind fun xs => forF (γ := Empty) (fun x_141 (b_125 : Unit) => (some x_141).bind fun c_126 => ((((some c_126).bind fun x_128 => (some []).bind fun xs_129 => some (x_128 :: xs_129)).bind (on1 (m_parse_house))).bind fun back_127 => (((((((some back_127).bind fun x_132 => ((some house_2).bind fun x_130 => (some []).bind fun xs_131 => some (x_130 :: xs_131)).bind fun xs_133 => some (x_132 :: xs_133)).bind (on2 (m_law_same_house))).bind asB).map fun b_134 => !b_134).bind fun c_139 => if c_139 = true then some true else ((((some back_127).bind fun x_135 => (some []).bind fun xs_136 => some (x_135 :: xs_136)).bind (on1 (m_format_house))).bind fun t137 => (some due_10).bind fun t138 => (dNeF t137 t138).bind asB)).bind fun c_140 => if c_140 = true then ((((some (.bl false)).map Fl.rt) : Option (Fl Empty (Unit)))).bind (flE (β := Unit)) else (some (Fl.nx ()))))) xs ()).bind (flT fun s_142 => (some (.bl true))))))))))))))))))
end Oh
/-! the head by facts: what the layer asks, from what the hook says -/
namespace HdL
open PySem PySem.Spec PyProof.Rows L2 Evl Oh He
section
variable {K : PySem.W.Frag} {fa : List Fa} {fn : List DefD} {h : Heap} {mg : Str → Option Value}
theorem def_at (c : SaysD fa fn K) (i : Nat) {p : Str × Option Str} {x qual : Str} {st : Stmt} (hi : fn[i]? = some ⟨p, x, qual, defArgs st, defBody st, defScope st, [], []⟩) :
    ∃ (oc : Value) (od : Option Addr) (kV doc pm : Value) (an : Option Addr) (cdv ct : Value) (osl : Array (Option Value)),
      K.lookup (fAd K p) = some ⟨oc, od, .func (PySem.W.fnOf x qual (defArgs st) (defBody st) (defScope st) .none kV doc pm an cdv ct), osl⟩ ∧ PySem.W.codeIn K cdv qual = true ∧ PySem.W.keepIn K (.ref (fAd K p)) = true := by
  obtain ⟨fd, ⟨oc, od, dV, kV, doc, pm, an, cdv, ct, osl, rfl, lk, hcd, hd, _⟩, kp⟩ := c.def_ i hi
  have e : dV = .none := by
    rcases hd with ⟨_, e⟩ | ⟨n, _⟩
    · exact e
    · exact absurd rfl n
  subst e
  exact ⟨oc, od, kV, doc, pm, an, cdv, ct, osl, lk, hcd, kp⟩
theorem fun_at (c : SaysD fa fn K) (i : Nat) {p : Str × Option Str} {x qual : Str} {st : Stmt} (hi : fn[i]? = some ⟨p, x, qual, defArgs st, defBody st, defScope st, [], []⟩) :
    ∃ fd, Fun K x qual st (fAd K p) fd := by
  obtain ⟨oc, od, kV, doc, pm, an, cdv, ct, osl, lk, hcd, kp⟩ := def_at c i hi
  exact ⟨_, ⟨oc, od, kV, doc, pm, an, cdv, ct, osl, rfl, lk, hcd⟩, kp⟩
theorem fun_last (c : SaysD fa fn K) (i : Nat) {p : Str × Option Str} {x qual : Str} {st : Stmt} (hi : fn[i]? = some ⟨p, x, qual, defArgs st, defBody st, defScope st, [], []⟩) :
    ∃ (oc : Value) (od : Option Addr) (kV doc pm : Value) (an : Option Addr) (cdv ct : Value) (osl : Array (Option Value)),
      Fun K x qual st (fAd K p) (PySem.W.fnOf x qual (defArgs st) (defBody st) (defScope st) .none kV doc pm an cdv ct) := by
  obtain ⟨oc, od, kV, doc, pm, an, cdv, ct, osl, lk, hcd, kp⟩ := def_at c i hi
  exact ⟨oc, od, kV, doc, pm, an, cdv, ct, osl, ⟨oc, od, kV, doc, pm, an, cdv, ct, osl, rfl, lk, hcd⟩, kp⟩
theorem fun_atC (c : SaysD fa fn K) (i : Nat) {p : Str × Option Str} {x qual : Str} {st : Stmt} (hi : fn[i]? = some ⟨p, x, qual, defArgs st, defBody st, defScope st, [], []⟩) :
    ∃ fd, FunC K x qual st (fAd K p) fd (cT K p).1 := by
  obtain ⟨oc, od, kV, doc, pm, an, cdv, ct, osl, lk, hcd, kp⟩ := def_at c i hi
  obtain ⟨a, rfl⟩ := codeIn_ref hcd
  have e : codeOf K p = a := codeOf_eq lk rfl
  show ∃ fd, FunC K x qual st (fAd K p) fd (codeOf K p)
  rw [e]
  exact ⟨_, fun_mkC lk hcd kp⟩
theorem gt_at {x : Str} {vs : List Dv} {ds : List D} (g : mg x = some (.ref (ga K x))) (hf : ds.all flatB = true) (h : He.tupB K x vs = true) (e : ds.map vD = vs.map (Dv.v K)) : GT K mg x (ga K x) ds := by
  refine ⟨g, hf, ?_⟩
  unfold He.tupB at h
  cases q : K.lookup (ga K x) with
  | none =>
    rw [q] at h
    cases h
  | some o =>
    obtain ⟨oc, od, dt, osl⟩ := o
    rw [q] at h
    cases oc with
    | type c =>
      cases dt with
      | seq its n =>
        obtain ⟨h1, h2⟩ := ba (show (decide (c = "tuple") && (decide (its.size ≤ sizeLine) && relAll (vs.map (Dv.v K)) its.toList)) = true from h)
        obtain ⟨h3, h4⟩ := ba h2
        exact ⟨_, its, n, rfl, congrArg Value.type (of_decide_eq_true h1), rfl, of_decide_eq_true h3, by rw [e]; exact relAll_ok h4⟩
      | _ => cases h
    | _ => cases dt <;> cases h
theorem isi_at {C : Addr} (h : (eqO (PySem.W.findIn K (.ref C) "__class__") (some (some (.builtin "object.__class__"))) && (eqO (PySem.W.specialIn K (.builtin "object.__class__") "__get__") (some (some (.builtin "getset_descriptor.__get__"))) && (decide (PySem.W.takesIn K (.builtin "object.__class__") = some true) && decide (PySem.W.mroIn K C (.type "object") = some true)))) = true) : IsiF K C := by
  obtain ⟨h1, h⟩ := ba h
  obtain ⟨h2, h⟩ := ba h
  obtain ⟨h3, h4⟩ := ba h
  exact ⟨eqO_ok h1, eqO_ok h2, of_decide_eq_true h3, of_decide_eq_true h4⟩
theorem tabs_at {tf : List Defn} (X : K.In h) (hd : ∀ p ∈ tf, PySem.W.codeHdIn K (cT K p).1 (cT K p).2 = true) (em : ∀ p ∈ tf, h.get? (cT K p).2 = some { cls := .none, data := .fields #[] }) :
    ∀ p ∈ tf.map (cT K), PySem.W.CodeHd h p.1 p.2 ∧ h.get? p.2 = some { cls := .none, data := .fields #[] } := fun p hp => by
  obtain ⟨q, hq, rfl⟩ := List.mem_map.mp hp
  exact ⟨PySem.W.codeHd_of_K X (hd q hq), em q hq⟩
theorem outs_at {tf : List Defn} (o : ∀ p ∈ tf, K.lookup (cT K p).2 = none) : ∀ p ∈ tf.map (cT K), K.lookup p.2 = none := fun p hp => by
  obtain ⟨q, hq, rfl⟩ := List.mem_map.mp hp
  exact o q hq
end
end HdL
namespace Oh
open PySem PySem.Spec PyProof.Rows L2 Evl NdefX LamX
noncomputable def topS (i : Nat) : Stmt := PySem.Challenge.pw_otherhow_k03_house_text_back.main.body.getD i (.Pass ⟨0, 0, 0, 0⟩)
structure Bi (mg : Str → Option Value) : Prop where
  all : mg "all" = none
  bool : mg "bool" = none
  int : mg "int" = none
  isinstance : mg "isinstance" = none
  len : mg "len" = none
  list : mg "list" = none
  max : mg "max" = none
  range : mg "range" = none
  str : mg "str" = none
  tuple : mg "tuple" = none
  zip : mg "zip" = none
structure Tx (K : PySem.W.Frag) (cl : Cl) : Prop where
  Reader : ClsF K (cl.c 0) ["words", "at"]
  House : ClsF K (cl.c 1) ["names", "words", "heard"]
structure Ti (K : PySem.W.Frag) (cl : Cl) (mg : Str → Option Value) : Prop where
  House : IsiF K (cl.c 1)
  House_mg : mg "House" = some (.ref (cl.c 1))
structure Gx (K : PySem.W.Frag) (mg : Str → Option Value) (az : Nat → Addr) (zv : Nat → Value) : Prop where
  LETTERS : GS mg "LETTERS" (zv 0) (.str "abcdefghijklmnopqrstuvwxyz")
  DIGITS : GS mg "DIGITS" (zv 1) (.str "0123456789")
  NOT_NAMES : GT K mg "NOT_NAMES" (az 2) [(.str "house"), (.str "variable"), (.str "says"), (.str "hears"), (.str "end"), (.str "if"), (.str "and"), (.str "ignores"), (.str "rises"), (.str "falls"), (.str "with"), (.str "never"), (.str "when")]
  MOST_VARIABLES : GS mg "MOST_VARIABLES" (zv 3) (.int 5)
  MOST_WAYS : GS mg "MOST_WAYS" (zv 4) (.int 512)
section
variable {P : Program} {w : World} {K : PySem.W.Frag} {cl : Cl} {mg : Str → Option Value} {base : Heap} {az : Nat → Addr} {zv : Nat → Value} {cC cB cT cU gT0 gT1 : Addr}
/-! _law_row -/
noncomputable abbrev s_law_row : Stmt := topS 26
noncomputable abbrev n_law_row : List Str := ["script", "place", "many", "cell", "rest", "row", "k", "mixed"]
theorem sc_law_row : FnScope n_law_row ["script", "place", "many"] (defScope s_law_row) := ⟨rfl, rfl, rfl, by decide +kernel, rfl, by decide +kernel, by decide +kernel⟩
theorem ok_law_row {fa : Addr} {fd : FuncData} (F : Fun K "_law_row" "_law_row" s_law_row fa fd) (hm : mg "_law_row" = some (.ref fa)) (hb : Binds K fd ["script", "place", "many"] []) (bl : Bi mg) (gx : Gx K mg az zv) (ti : Ti K cl mg) (tx : Tx K cl)  : Con P w K cl mg base 1 "_law_row" (on3 (m_law_row)) fa fd ["script", "place", "many"] := by
  refine fun_con (k := 0) F sc_law_row rfl ar3 hm hb (fun cdv A outer s H E hr => ?_)
  have nd := sc_law_row.nd
  refine ⟨_, (pss_cons (ps_set (i := 3) nd rfl (by first | exact Or.inl rfl | exact Or.inr rfl) (pe_op op_addD (pe_op op_mulD pe_int (pv 1)) pe_int)) (pss_cons (ps_if (pt_cmpR op_lt (pv 1) (pe_callB (lenK K) (by rfl) bl.len (by decide +kernel) (pa_cons (pv 0) pa_nil)) (nomark _)) (pss_cons (ps_set (i := 3) nd rfl (by first | exact Or.inl rfl | exact Or.inr rfl) (pe_ix (ixK K) (pv 0) (pv 1) (fun _ _ => rfl))) pss_nil) pss_nil) (pss_cons (ps_set (i := 4) nd rfl (by first | exact Or.inl rfl | exact Or.inr rfl) (pe_op op_sub (pv 3) (pe_op op_pow pe_int pe_int))) (pss_cons (ps_set (i := 5) nd rfl (by first | exact Or.inl rfl | exact Or.inr rfl) (pe_lst pa_nil)) (pss_cons (ps_for PassesOwn.never rfl (pi_range1 (by rfl) bl.range (pa_cons (pv 2) pa_nil)) (pg_name (i := 6) nd rfl (by first | exact Or.inl rfl | exact Or.inr rfl)) (pss_cons (ps_if (pt_cmpR op_gt (pv 4) pe_int (nomark _)) (pss_cons (ps_expr (bmK K PySem.F.plainAttrs_list PySem.F.slot_list_append PySem.F.type_list_append mt_append (pv 5) (pa_cons (pe_op op_mod (pe_callTy call_int1 (by rfl) bl.int (by decide +kernel) (pa_cons (pv 4) pa_nil)) pe_int) pa_nil))) (pss_cons (ps_set (i := 4) nd rfl (by first | exact Or.inl rfl | exact Or.inr rfl) (pe_op op_fdivP (pv 4) pe_int)) pss_nil)) (pss_cons (ps_set (i := 7) nd rfl (by first | exact Or.inl rfl | exact Or.inr rfl) (pe_op op_mod (pe_callTy call_int1 (by rfl) bl.int (by decide +kernel) (pa_cons (pe_op op_addD (pe_op op_addD (pe_op op_mulD (pv 3) pe_int) (pe_op op_mulD (pv 6) pe_int)) pe_int) pa_nil)) pe_int)) (pss_cons (ps_set (i := 7) nd rfl (by first | exact Or.inl rfl | exact Or.inr rfl) (pe_op op_mod (pe_callTy call_int1 (by rfl) bl.int (by decide +kernel) (pa_cons (pe_op op_addD (pe_op op_addD (pe_op op_mulD (pv 7) (pv 7)) (pe_op op_mulD (pv 7) pe_int)) (pe_op op_mulD (pv 6) pe_int)) pa_nil)) pe_int)) (pss_cons (ps_expr (bmK K PySem.F.plainAttrs_list PySem.F.slot_list_append PySem.F.type_list_append mt_append (pv 5) (pa_cons (pe_op op_mod (pe_op op_fdivP (pv 7) pe_int) pe_int) pa_nil))) pss_nil)))) pss_nil)) (pss_cons (ps_ret (pv 5)) pss_never)))))), ?_⟩
  exact all3 fun script_1 place_2 many_3 => (tv_cons (sv_asg (i := 3) (ev_op o_add (ev_op o_mul ev_int (ev_v (i := 1) (d := place_2) rfl)) ev_int)) (fun cell_4 => (tv_cons (sv_if (post := (fun (b : D) => [.vl script_1, .vl place_2, .vl many_3, .vl b, .jk, .jk, .jk, .jk])) (et_op o_lt (ev_v (i := 1) (d := place_2) rfl) (ev_cb o_len (ea_cons (ev_v (i := 0) (d := script_1) rfl) ea_nil))) (sv_cons (sv_asg (i := 3) (ev_op o_ix (ev_v (i := 0) (d := script_1) rfl) (ev_v (i := 1) (d := place_2) rfl))) (fun cell_15 => (sv_nil cell_15 (.same (.same (.same (.same (.same (.same (.same (.same .nil))))))))))) (sv_nil cell_4 (.same (.same (.same (.same (.same (.same (.same (.same .nil)))))))))) (fun s_14 => (tv_cons (sv_asg (i := 4) (ev_op o_sub (ev_v (i := 3) (d := s_14) rfl) (ev_op o_pow ev_int ev_int))) (fun rest_18 => (tv_cons (sv_asgN (i := 5) (evn_lst ea_nil)) (fun row_23 => (tv_cons (sv_for (f := some) (inv := (fun (b : D × D) => [.vl script_1, .vl place_2, .vl many_3, .vl s_14, .vl b.2, .ow (.l .v) b.1, .jk, .jk])) (row_23, rest_18) (iv_rng1 (ev_v (i := 2) (d := many_3) rfl)) (.same (.same (.same (.same (.same (.same (.same (.same .nil)))))))) gv_name (fun c_25 b_24 => (sv_cons (sv_if (post := (fun (b : D × D) => [.vl script_1, .vl place_2, .vl many_3, .vl s_14, .vl b.2, .ow (.l .v) b.1, .vl c_25, .jk])) (et_op o_gt (ev_v (i := 4) (d := b_24.2) rfl) ev_int) (sv_cons (sv_app (i := 5) (d := b_24.1) rfl rfl (ev_op o_mod (ev_cb o_int (ea_cons (ev_v (i := 4) (d := b_24.2) rfl) ea_nil)) ev_int)) (fun row_35 => (sv_cons (sv_asg (i := 4) (ev_op o_fdiv (ev_v (i := 4) (d := b_24.2) rfl) ev_int)) (fun rest_36 => (sv_nil (row_35, rest_36) (.same (.same (.same (.same (.same (.same (.same (.same .nil))))))))))))) (sv_cons (sv_asg (i := 7) (ev_op o_mod (ev_cb o_int (ea_cons (ev_op o_add (ev_op o_add (ev_op o_mul (ev_v (i := 3) (d := s_14) rfl) ev_int) (ev_op o_mul (ev_v (i := 6) (d := c_25) rfl) ev_int)) ev_int) ea_nil)) ev_int)) (fun mixed_39 => (sv_cons (sv_asg (i := 7) (ev_op o_mod (ev_cb o_int (ea_cons (ev_op o_add (ev_op o_add (ev_op o_mul (ev_v (i := 7) (d := mixed_39) rfl) (ev_v (i := 7) (d := mixed_39) rfl)) (ev_op o_mul (ev_v (i := 7) (d := mixed_39) rfl) ev_int)) (ev_op o_mul (ev_v (i := 6) (d := c_25) rfl) ev_int)) ea_nil)) ev_int)) (fun mixed_52 => (sv_cons (sv_app (i := 5) (d := b_24.1) rfl rfl (ev_op o_mod (ev_op o_fdiv (ev_v (i := 7) (d := mixed_52) rfl) ev_int) ev_int)) (fun row_72 => (sv_nil (row_72, b_24.2) (.same (.same (.same (.same (.same (.same (.same (.drop .nil)))))))))))))))) (fun s_29 => (sv_nil (s_29.1, s_29.2) (.same (.same (.same (.same (.same (.same (.drop (.same .nil))))))))))))) (fun s_74 => (tv_ret (ev_pre (i := 5) (d := s_74.1) rfl (ev_v (i := 5) (d := s_74.1) rfl)))))))))))))
/-! _law_size -/
noncomputable abbrev s_law_size : Stmt := topS 27
noncomputable abbrev n_law_size : List Str := ["bounds", "many", "bound"]
theorem sc_law_size : FnScope n_law_size ["bounds"] (defScope s_law_size) := ⟨rfl, rfl, rfl, by decide +kernel, rfl, by decide +kernel, by decide +kernel⟩
theorem ok_law_size {fa : Addr} {fd : FuncData} (F : Fun K "_law_size" "_law_size" s_law_size fa fd) (hm : mg "_law_size" = some (.ref fa)) (hb : Binds K fd ["bounds"] []) (bl : Bi mg) (gx : Gx K mg az zv) (ti : Ti K cl mg) (tx : Tx K cl)  : Con P w K cl mg base 1 "_law_size" (on1 (m_law_size)) fa fd ["bounds"] := by
  refine fun_con (k := 0) F sc_law_size rfl ar1 hm hb (fun cdv A outer s H E hr => ?_)
  have nd := sc_law_size.nd
  refine ⟨_, (pss_cons (ps_set (i := 1) nd rfl (by first | exact Or.inl rfl | exact Or.inr rfl) pe_int) (pss_cons (ps_for PassesOwn.never rfl (listIK K (pv 0)) (pg_name (i := 2) nd rfl (by first | exact Or.inl rfl | exact Or.inr rfl)) (pss_cons (ps_set (i := 1) nd rfl (by first | exact Or.inl rfl | exact Or.inr rfl) (pe_op op_mulD (pv 1) (pv 2))) pss_nil)) (pss_cons (ps_ret (pv 1)) pss_never))), ?_⟩
  exact all1 fun bounds_1 => (tv_cons (sv_asg (i := 1) ev_int) (fun many_2 => (tv_cons (sv_for (f := some) (inv := (fun (b : D) => [.vl bounds_1, .vl b, .jk])) many_2 (iv_list (ev_v (i := 0) (d := bounds_1) rfl)) (.same (.same (.same .nil))) gv_name (fun c_4 b_3 => (sv_cons (sv_asg (i := 1) (ev_op o_mul (ev_v (i := 1) (d := b_3) rfl) (ev_v (i := 2) (d := c_4) rfl))) (fun many_5 => (sv_nil many_5 (.same (.same (.drop .nil)))))))) (fun s_9 => (tv_ret (ev_v (i := 1) (d := s_9) rfl))))))
/-! _law_count_ways -/
noncomputable abbrev s_law_count_ways : Stmt := topS 31
noncomputable abbrev n_law_count_ways : List Str := ["counts", "heard", "many", "v", "n", "u"]
theorem sc_law_count_ways : FnScope n_law_count_ways ["counts", "heard"] (defScope s_law_count_ways) := ⟨rfl, rfl, rfl, by decide +kernel, rfl, by decide +kernel, by decide +kernel⟩
theorem ok_law_count_ways {fa : Addr} {fd : FuncData} (F : Fun K "_law_count_ways" "_law_count_ways" s_law_count_ways fa fd) (hm : mg "_law_count_ways" = some (.ref fa)) (hb : Binds K fd ["counts", "heard"] []) (bl : Bi mg) (gx : Gx K mg az zv) (ti : Ti K cl mg) (tx : Tx K cl) {f0 : Addr} {fd0 : FuncData} (C_law_size : Con P w K cl mg base 1 "_law_size" (on1 (m_law_size)) f0 fd0 ["bounds"]) : Con P w K cl mg base 2 "_law_count_ways" (on2 (m_law_count_ways)) fa fd ["counts", "heard"] := by
  refine fun_con (k := 1) F sc_law_count_ways rfl ar2 hm hb (fun cdv A outer s H E hr => ?_)
  have nd := sc_law_count_ways.nd
  refine ⟨_, (pss_cons (ps_set (i := 2) nd rfl (by first | exact Or.inl rfl | exact Or.inr rfl) pe_int) (pss_cons (ps_for PassesOwn.never rfl (pi_range1 (by rfl) bl.range (pa_cons (pe_callB (lenK K) (by rfl) bl.len (by decide +kernel) (pa_cons (pv 0) pa_nil)) pa_nil)) (pg_name (i := 3) nd rfl (by first | exact Or.inl rfl | exact Or.inr rfl)) (pss_cons (ps_for PassesOwn.never rfl (pi_range1 (by rfl) bl.range (pa_cons (pe_call C_law_size.ok (hr.mono (by omega)) (by rfl) C_law_size.mg C_law_size.kp C_law_size.bd .nil pass0 (pa_cons (pe_lc (own := [("u", 5)]) (g := (gName 5)) (tt := tYes) rfl nd (listIK K (pe_ix (ixK K) (pv 1) (pv 3) (fun _ _ => rfl))) (blkOk_by (N := n_law_count_ways) (sc := defScope s_law_count_ways) (by decide +kernel)) (fun _ _ _ _ _ => pg_name (i := 5) nd rfl (by first | exact Or.inl rfl | exact Or.inr rfl)) (fun _ _ _ _ _ => pts_nil) (fun _ _ _ _ _ => (pe_ix (ixK K) (pv 0) (pv 5) (fun _ _ => rfl)))) pa_nil)) pa_nil)) (pg_name (i := 4) nd rfl (by first | exact Or.inl rfl | exact Or.inr rfl)) (pss_cons (ps_set (i := 2) nd rfl (by first | exact Or.inl rfl | exact Or.inr rfl) (pe_op op_mulD (pv 2) (pe_ix (ixK K) (pv 0) (pv 3) (fun _ _ => rfl)))) pss_nil)) pss_nil)) (pss_cons (ps_ret (pv 2)) pss_never))), ?_⟩
  exact all2 fun counts_1 heard_2 => (tv_cons (sv_asg (i := 2) ev_int) (fun many_3 => (tv_cons (sv_for (f := some) (inv := (fun (b : D) => [.vl counts_1, .vl heard_2, .vl b, .jk, .jk, .jk])) many_3 (iv_rng1 (ev_cb o_len (ea_cons (ev_v (i := 0) (d := counts_1) rfl) ea_nil))) (.same (.same (.same (.same (.same (.same .nil)))))) gv_name (fun c_7 b_6 => (sv_cons (sv_for (f := some) (inv := (fun (b : D) => [.vl counts_1, .vl heard_2, .vl b, .vl c_7, .jk, .jk])) b_6 (iv_rng1 (ev_call (ea_cons ((evn_lc (f := some) (iv_list (ev_op o_ix (ev_v (i := 1) (d := heard_2) rfl) (ev_v (i := 3) (d := c_7) rfl))) gv_name (gw_name (by decide)) (fun c_10 => et_yes) (fun c_10 => (ev_op o_ix (ev_v (i := 0) (d := counts_1) rfl) (ev_v (i := 5) (d := c_10) rfl))))).ev ea_nil))) (.same (.same (.same (.same (.same (.same .nil)))))) gv_name (fun c_18 b_17 => (sv_cons (sv_asg (i := 2) (ev_op o_mul (ev_v (i := 2) (d := b_17) rfl) (ev_op o_ix (ev_v (i := 0) (d := counts_1) rfl) (ev_v (i := 3) (d := c_7) rfl)))) (fun many_19 => (sv_nil many_19 (.same (.same (.same (.same (.drop (.same .nil))))))))))) (fun s_25 => (sv_nil s_25 (.same (.same (.same (.drop (.same (.same .nil))))))))))) (fun s_27 => (tv_ret (ev_v (i := 2) (d := s_27) rfl))))))
/-! _law_shape -/
noncomputable abbrev s_law_shape : Stmt := topS 32
noncomputable abbrev n_law_shape : List Str := ["script", "place", "cap", "row", "variables", "counts", "heard", "turn", "v", "u"]
theorem sc_law_shape : FnScope n_law_shape ["script", "place", "cap"] (defScope s_law_shape) := ⟨rfl, rfl, rfl, by decide +kernel, rfl, by decide +kernel, by decide +kernel⟩
theorem ok_law_shape {fa : Addr} {fd : FuncData} (F : Fun K "_law_shape" "_law_shape" s_law_shape fa fd) (hm : mg "_law_shape" = some (.ref fa)) (hb : Binds K fd ["script", "place", "cap"] []) (bl : Bi mg) (gx : Gx K mg az zv) (ti : Ti K cl mg) (tx : Tx K cl) {f0 : Addr} {fd0 : FuncData} (C_law_row : Con P w K cl mg base 1 "_law_row" (on3 (m_law_row)) f0 fd0 ["script", "place", "many"]) {f1 : Addr} {fd1 : FuncData} (C_law_count_ways : Con P w K cl mg base 2 "_law_count_ways" (on2 (m_law_count_ways)) f1 fd1 ["counts", "heard"]) : Con P w K cl mg base 3 "_law_shape" (on3 (m_law_shape)) fa fd ["script", "place", "cap"] := by
  refine fun_con (k := 2) F sc_law_shape rfl ar3 hm hb (fun cdv A outer s H E hr => ?_)
  have nd := sc_law_shape.nd
  refine ⟨_, (pss_cons (ps_set (i := 3) nd rfl (by first | exact Or.inl rfl | exact Or.inr rfl) (pe_call C_law_row.ok (hr.mono (by omega)) (by rfl) C_law_row.mg C_law_row.kp C_law_row.bd .nil pass0 (pa_cons (pv 0) (pa_cons (pv 1) (pa_cons pe_int pa_nil))))) (pss_cons (ps_set (i := 4) nd rfl (by first | exact Or.inl rfl | exact Or.inr rfl) (pe_ix (ixK K) (pe_lst (pa_cons pe_int (pa_cons pe_int (pa_cons pe_int (pa_cons pe_int (pa_cons pe_int (pa_cons pe_int (pa_cons pe_int pa_nil)))))))) (pe_op op_mod (pe_callTy call_int1 (by rfl) bl.int (by decide +kernel) (pa_cons (pe_ix (ixK K) (pv 3) pe_int (fun _ _ => rfl)) pa_nil)) pe_int) (fun _ _ => rfl))) (pss_cons (ps_setLc (i := 5) (own := [("v", 8)]) (g := (gName 8)) (tt := tYes) rfl nd rfl rfl (sw_true rfl rfl rfl (by decide +kernel)) (pi_range1 (by rfl) bl.range (pa_cons (pv 4) pa_nil)) (blkOk_by (N := n_law_shape) (sc := defScope s_law_shape) (by decide +kernel)) (fun _ _ _ _ _ => pg_name (i := 8) nd rfl (by first | exact Or.inl rfl | exact Or.inr rfl)) (fun _ _ _ _ _ => pts_nil) (fun _ _ _ _ _ => (pe_op op_addD pe_int (pe_callTy call_int1 (by rfl) bl.int (by decide +kernel) (pa_cons (pe_cmpR op_eq (pe_op op_mod (pe_callTy call_int1 (by rfl) bl.int (by decide +kernel) (pa_cons (pe_ix (ixK K) (pv 3) (pe_op op_addD pe_int (pv 8)) (fun _ _ => rfl)) pa_nil)) pe_int) pe_int (nomark _)) pa_nil))))) (pss_cons (ps_setLc (i := 6) (own := [("v", 8)]) (g := (gName 8)) (tt := tYes) rfl nd rfl rfl (sw_true rfl rfl rfl (by decide +kernel)) (pi_range1 (by rfl) bl.range (pa_cons (pv 4) pa_nil)) (blkOk_by (N := n_law_shape) (sc := defScope s_law_shape) (by decide +kernel)) (fun _ _ _ _ _ => pg_name (i := 8) nd rfl (by first | exact Or.inl rfl | exact Or.inr rfl)) (fun _ _ _ _ _ => pts_nil) (fun _ _ _ _ _ => (pe_lc (own := [("u", 9)]) (g := (gName 9)) (tt := _) rfl nd (pi_range1 (by rfl) bl.range (pa_cons (pv 8) pa_nil)) (blkOk_by (N := n_law_shape) (by rfl)) (fun _ _ _ _ _ => pg_name (i := 9) nd rfl (by first | exact Or.inl rfl | exact Or.inr rfl)) (fun _ _ _ _ _ => pts_one (pt_cmpR op_gt (pe_op op_mod (pe_callTy call_int1 (by rfl) bl.int (by decide +kernel) (pa_cons (pe_ix (ixK K) (pv 3) (pe_op op_addD (pe_op op_addD pe_int (pe_op op_mulD pe_int (pv 8))) (pv 9)) (fun _ _ => rfl)) pa_nil)) pe_int) pe_int (nomark _))) (fun _ _ _ _ _ => (pv 9))))) (pss_cons (ps_for PassesOwn.never rfl (pi_range1 (by rfl) bl.range (pa_cons pe_int pa_nil)) (pg_name (i := 7) nd rfl (by first | exact Or.inl rfl | exact Or.inr rfl)) (pss_cons (ps_set (i := 8) nd rfl (by first | exact Or.inl rfl | exact Or.inr rfl) (pe_op op_mod (pe_callTy call_int1 (by rfl) bl.int (by decide +kernel) (pa_cons (pe_op op_addD (pe_ix (ixK K) (pv 3) pe_int (fun _ _ => rfl)) (pv 7)) pa_nil)) (pv 4))) (pss_cons (ps_if (pt_cmpR op_gt (pe_call C_law_count_ways.ok (hr.mono (by omega)) (by rfl) C_law_count_ways.mg C_law_count_ways.kp C_law_count_ways.bd .nil pass0 (pa_cons (pv 5) (pa_cons (pv 6) pa_nil))) (pv 2) (nomark _)) (pss_cons (ps_if (truthK K (pe_ix (ixK K) (pv 6) (pv 8) (fun _ _ => rfl)) (by intro _; rfl)) (pss_cons (ps_expr (bmK K PySem.F.plainAttrs_list PySem.F.slot_list_pop PySem.F.type_list_pop mt_popAt (pe_ix (ixK K) (pv 6) (pv 8) (fun _ _ => rfl)) (pa_cons (pe_op op_mod (pe_callTy call_int1 (by rfl) bl.int (by decide +kernel) (pa_cons (pe_ix (ixK K) (pv 3) (pe_op op_addD pe_int (pv 8)) (fun _ _ => rfl)) pa_nil)) (pe_callB (lenK K) (by rfl) bl.len (by decide +kernel) (pa_cons (pe_ix (ixK K) (pv 6) (pv 8) (fun _ _ => rfl)) pa_nil))) pa_nil))) pss_nil) (pss_cons (ps_asg pe_int (pg_sub (pv 5) (pv 8) set_list)) pss_nil)) pss_nil) pss_nil) pss_nil))) (pss_cons (ps_ret (pe_tup (pa_cons (pv 5) (pa_cons (pv 6) pa_nil)))) pss_never)))))), ?_⟩
  exact all3 fun script_1 place_2 cap_3 => (tv_cons (sv_asg (i := 3) (ev_call (ea_cons (ev_v (i := 0) (d := script_1) rfl) (ea_cons (ev_v (i := 1) (d := place_2) rfl) (ea_cons ev_int ea_nil))))) (fun row_4 => (tv_cons (sv_asg (i := 4) (ev_op o_ix ((evn_lst (ea_cons ev_int (ea_cons ev_int (ea_cons ev_int (ea_cons ev_int (ea_cons ev_int (ea_cons ev_int (ea_cons ev_int ea_nil))))))))).ev (ev_op o_mod (ev_cb o_int (ea_cons (ev_op o_ix (ev_v (i := 3) (d := row_4) rfl) ev_int) ea_nil)) ev_int))) (fun variables_11 => (tv_cons (sv_asgN (i := 5) (evn_lc (f := some) (iv_rng1 (ev_v (i := 4) (d := variables_11) rfl)) gv_name (gw_name (by decide)) (fun c_35 => et_yes) (fun c_35 => (ev_op o_add ev_int (ev_cb o_int (ea_cons (ev_op o_eqF (ev_op o_mod (ev_cb o_int (ea_cons (ev_op o_ix (ev_v (i := 3) (d := row_4) rfl) (ev_op o_add ev_int (ev_v (i := 8) (d := c_35) rfl))) ea_nil)) ev_int) ev_int) ea_nil)))))) (fun counts_34 => (tv_cons (sv_asgO (i := 6) (evo_lc (f := some) (iv_rng1 (ev_v (i := 4) (d := variables_11) rfl)) gv_name (gw_name (by decide)) (fun c_53 => et_yes) (fun c_53 => (evn_lc (f := some) (iv_rng1 (ev_v (i := 8) (d := c_53) rfl)) gv_name (gw_name (by decide)) (fun c_54 => (et_op o_gt (ev_op o_mod (ev_cb o_int (ea_cons (ev_op o_ix (ev_v (i := 3) (d := row_4) rfl) (ev_op o_add (ev_op o_add ev_int (ev_op o_mul ev_int (ev_v (i := 8) (d := c_53) rfl))) (ev_v (i := 9) (d := c_54) rfl))) ea_nil)) ev_int) ev_int)) (fun c_54 => (ev_v (i := 9) (d := c_54) rfl)))))) (fun heard_52 => (tv_cons (sv_for (f := some) (inv := (fun (b : D × D) => [.vl script_1, .vl place_2, .vl cap_3, .vl row_4, .vl variables_11, .ow (.l .v) b.2, .ow (.l (.l .v)) b.1, .jk, .jk, .jk])) (heard_52, counts_34) (iv_rng1 ev_int) (.same (.same (.same (.same (.same (.same (.same (.same (.same (.same .nil)))))))))) gv_name (fun c_74 b_73 => (sv_cons (sv_asg (i := 8) (ev_op o_mod (ev_cb o_int (ea_cons (ev_op o_add (ev_op o_ix (ev_v (i := 3) (d := row_4) rfl) ev_int) (ev_v (i := 7) (d := c_74) rfl)) ea_nil)) (ev_v (i := 4) (d := variables_11) rfl))) (fun v_75 => (sv_cons (sv_if (post := (fun (b : D × D) => [.vl script_1, .vl place_2, .vl cap_3, .vl row_4, .vl variables_11, .ow (.l .v) b.2, .ow (.l (.l .v)) b.1, .vl c_74, .vl v_75, .jk])) (et_lend (i := 5) (d := b_73.2) rfl (et_lend (i := 6) (d := b_73.1) rfl (et_op o_gt (ev_call (ea_cons (ev_v (i := 5) (d := b_73.2) rfl) (ea_cons (ev_v (i := 6) (d := b_73.1) rfl) ea_nil))) (ev_v (i := 2) (d := cap_3) rfl)))) (sv_cons (sv_if (post := (fun (b : D × D) => [.vl script_1, .vl place_2, .vl cap_3, .vl row_4, .vl variables_11, .ow (.l .v) b.2, .ow (.l (.l .v)) b.1, .vl c_74, .vl v_75, .jk])) (et_lend (i := 6) (d := b_73.1) rfl (et_tru (ev_op o_ix (ev_v (i := 6) (d := b_73.1) rfl) (ev_v (i := 8) (d := v_75) rfl)))) (sv_cons (sv_pop2 (i := 6) (d := b_73.1) rfl rfl rfl (ev_v (i := 8) (d := v_75) rfl) (ev_lend (i := 6) (d := b_73.1) rfl (ev_op o_mod (ev_cb o_int (ea_cons (ev_op o_ix (ev_v (i := 3) (d := row_4) rfl) (ev_op o_add ev_int (ev_v (i := 8) (d := v_75) rfl))) ea_nil)) (ev_cb o_len (ea_cons (ev_op o_ix (ev_v (i := 6) (d := b_73.1) rfl) (ev_v (i := 8) (d := v_75) rfl)) ea_nil))))) (fun heard_110 => (sv_nil (heard_110, b_73.2) (.same (.same (.same (.same (.same (.same (.same (.same (.same (.same .nil))))))))))))) (sv_cons (sv_setL (i := 5) (d := b_73.2) rfl ev_int rfl (ev_v (i := 8) (d := v_75) rfl)) (fun counts_113 => (sv_nil (b_73.1, counts_113) (.same (.same (.same (.same (.same (.same (.same (.same (.same (.same .nil)))))))))))))) (fun s_95 => (sv_nil (s_95.1, s_95.2) (.same (.same (.same (.same (.same (.same (.same (.same (.same (.same .nil))))))))))))) (sv_nil (b_73.1, b_73.2) (.same (.same (.same (.same (.same (.same (.same (.same (.same (.same .nil)))))))))))) (fun s_91 => (sv_nil (s_91.1, s_91.2) (.same (.same (.same (.same (.same (.same (.same (.drop (.drop (.same .nil))))))))))))))))) (fun s_115 => (tv_ret (ev_pre (i := 5) (d := s_115.2) rfl (ev_pre (i := 6) (d := s_115.1) rfl (ev_tup (ea_cons (ev_v (i := 5) (d := s_115.2) rfl) (ea_cons (ev_v (i := 6) (d := s_115.1) rfl) ea_nil))))))))))))))))
/-! _law_kept -/
noncomputable abbrev s_law_kept : Stmt := topS 28
noncomputable abbrev n_law_kept : List Str := []
theorem sc_law_kept : FnScope n_law_kept [] (defScope s_law_kept) := ⟨rfl, rfl, rfl, by decide +kernel, rfl, by decide +kernel, by decide +kernel⟩
theorem ok_law_kept {fa : Addr} {fd : FuncData} (F : Fun K "_law_kept" "_law_kept" s_law_kept fa fd) (hm : mg "_law_kept" = some (.ref fa)) (hb : Binds K fd [] []) (bl : Bi mg) (gx : Gx K mg az zv) (ti : Ti K cl mg) (tx : Tx K cl)  : Con P w K cl mg base 1 "_law_kept" (on0 (m_law_kept)) fa fd [] := by
  refine fun_con (k := 0) F sc_law_kept rfl ar0 hm hb (fun cdv A outer s H E hr => ?_)
  have nd := sc_law_kept.nd
  refine ⟨_, (pss_cons (ps_ret (pe_lst (pa_cons pe_str (pa_cons pe_str (pa_cons pe_str (pa_cons pe_str (pa_cons pe_str (pa_cons pe_str (pa_cons pe_str (pa_cons pe_str (pa_cons pe_str (pa_cons pe_str (pa_cons pe_str (pa_cons pe_str (pa_cons pe_str pa_nil))))))))))))))) pss_never), ?_⟩
  exact all0 (tv_ret ((evn_lst (ea_cons ev_str (ea_cons ev_str (ea_cons ev_str (ea_cons ev_str (ea_cons ev_str (ea_cons ev_str (ea_cons ev_str (ea_cons ev_str (ea_cons ev_str (ea_cons ev_str (ea_cons ev_str (ea_cons ev_str (ea_cons ev_str ea_nil))))))))))))))).ev)
/-! _law_name -/
noncomputable abbrev s_law_name : Stmt := topS 29
noncomputable abbrev n_law_name : List Str := ["row", "k", "letters", "text", "size_v", "alike", "i", "at"]
theorem sc_law_name : FnScope n_law_name ["row", "k"] (defScope s_law_name) := ⟨rfl, rfl, rfl, by decide +kernel, rfl, by decide +kernel, by decide +kernel⟩
theorem ok_law_name {fa : Addr} {fd : FuncData} (F : Fun K "_law_name" "_law_name" s_law_name fa fd) (hm : mg "_law_name" = some (.ref fa)) (hb : Binds K fd ["row", "k"] []) (bl : Bi mg) (gx : Gx K mg az zv) (ti : Ti K cl mg) (tx : Tx K cl) {f0 : Addr} {fd0 : FuncData} (C_law_kept : Con P w K cl mg base 1 "_law_kept" (on0 (m_law_kept)) f0 fd0 []) : Con P w K cl mg base 2 "_law_name" (on2 (m_law_name)) fa fd ["row", "k"] := by
  refine fun_con (k := 1) F sc_law_name rfl ar2 hm hb (fun cdv A outer s H E hr => ?_)
  have nd := sc_law_name.nd
  refine ⟨_, (pss_cons (ps_set (i := 2) nd rfl (by first | exact Or.inl rfl | exact Or.inr rfl) pe_str) (pss_cons (ps_set (i := 3) nd rfl (by first | exact Or.inl rfl | exact Or.inr rfl) pe_str) (pss_cons (ps_set (i := 4) nd rfl (by first | exact Or.inl rfl | exact Or.inr rfl) (pe_op op_mod (pe_callTy call_int1 (by rfl) bl.int (by decide +kernel) (pa_cons (pe_ix (ixK K) (pv 0) pe_int (fun _ _ => rfl)) pa_nil)) pe_int)) (pss_cons (ps_set (i := 5) nd rfl (by first | exact Or.inl rfl | exact Or.inr rfl) (pe_cmpR op_eq (pe_op op_mod (pe_callTy call_int1 (by rfl) bl.int (by decide +kernel) (pa_cons (pe_op op_fdivP (pe_ix (ixK K) (pv 0) pe_int (fun _ _ => rfl)) pe_int) pa_nil)) pe_int) pe_int (nomark _))) (pss_cons (ps_if (pt_not (pt_val (pv 5))) (pss_cons (ps_set (i := 4) nd rfl (by first | exact Or.inl rfl | exact Or.inr rfl) (pe_callB (call_max2 rfl) (by rfl) bl.max (by decide +kernel) (pa_cons pe_int (pa_cons (pe_op op_sub (pv 4) (pv 1)) pa_nil)))) pss_nil) pss_nil) (pss_cons (ps_for PassesOwn.never rfl (pi_range1 (by rfl) bl.range (pa_cons (pv 4) pa_nil)) (pg_name (i := 6) nd rfl (by first | exact Or.inl rfl | exact Or.inr rfl)) (pss_cons (ps_if (pt_cmpR op_eq (pv 6) pe_int (nomark _)) (pss_cons (ps_set (i := 3) nd rfl (by first | exact Or.inl rfl | exact Or.inr rfl) (pe_ix (ixK K) (pv 2) (pe_op op_mod (pe_callTy call_int1 (by rfl) bl.int (by decide +kernel) (pa_cons (pe_ix (ixK K) (pv 0) pe_int (fun _ _ => rfl)) pa_nil)) pe_int) (fun _ _ => rfl))) pss_nil) (pss_cons (ps_set (i := 3) nd rfl (by first | exact Or.inl rfl | exact Or.inr rfl) (pe_op op_addD (pv 3) (pe_ix (ixK K) (pe_op op_addD (pv 2) pe_str) (pe_op op_mod (pe_callTy call_int1 (by rfl) bl.int (by decide +kernel) (pa_cons (pe_ix (ixK K) (pv 0) (pe_op op_addD pe_int (pv 6)) (fun _ _ => rfl)) pa_nil)) pe_int) (fun _ _ => rfl)))) pss_nil)) pss_nil)) (pss_cons (ps_set (i := 7) nd rfl (by first | exact Or.inl rfl | exact Or.inr rfl) (pe_op op_mod (pe_callTy call_int1 (by rfl) bl.int (by decide +kernel) (pa_cons (pe_ix (ixK K) (pv 0) pe_int (fun _ _ => rfl)) pa_nil)) (pe_op op_addD (pv 4) pe_int))) (pss_cons (ps_if (pt_not (pt_val (pv 5))) (pss_cons (ps_set (i := 7) nd rfl (by first | exact Or.inl rfl | exact Or.inr rfl) pe_int) pss_nil) pss_nil) (pss_cons (ps_set (i := 3) nd rfl (by first | exact Or.inl rfl | exact Or.inr rfl) (pe_op op_addD (pe_op op_addD (pe_slice sl_str (pv 3) po_none (po_some (pv 7))) (pe_ix (ixK K) (pv 2) (pe_op op_mod (pe_callTy call_int1 (by rfl) bl.int (by decide +kernel) (pa_cons (pe_op op_addD (pe_ix (ixK K) (pv 0) pe_int (fun _ _ => rfl)) (pv 1)) pa_nil)) pe_int) (fun _ _ => rfl))) (pe_slice sl_str (pv 3) (po_some (pv 7)) po_none))) (pss_cons (ps_if (pt_cmpR (inK K) (pv 3) (pe_call0 C_law_kept.ok (hr.mono (by omega)) (by rfl) C_law_kept.mg C_law_kept.kp C_law_kept.bd .nil pass0) (by rfl)) (pss_cons (ps_set (i := 3) nd rfl (by first | exact Or.inl rfl | exact Or.inr rfl) (pe_op op_addD (pv 3) pe_str)) pss_nil) pss_nil) (pss_cons (ps_ret (pv 3)) pss_never))))))))))), ?_⟩
  exact all2 fun row_1 k_2 => (tv_cons (sv_asg (i := 2) ev_str) (fun letters_3 => (tv_cons (sv_asg (i := 3) ev_str) (fun text_4 => (tv_cons (sv_asg (i := 4) (ev_op o_mod (ev_cb o_int (ea_cons (ev_op o_ix (ev_v (i := 0) (d := row_1) rfl) ev_int) ea_nil)) ev_int)) (fun size_v_5 => (tv_cons (sv_asg (i := 5) (ev_op o_eqF (ev_op o_mod (ev_cb o_int (ea_cons (ev_op o_fdiv (ev_op o_ix (ev_v (i := 0) (d := row_1) rfl) ev_int) ev_int) ea_nil)) ev_int) ev_int)) (fun alike_12 => (tv_cons (sv_if (post := (fun (b : D) => [.vl row_1, .vl k_2, .vl letters_3, .vl text_4, .vl b, .vl alike_12, .jk, .jk])) (et_not (et_B (ev_v (i := 5) (d := alike_12) rfl))) (sv_cons (sv_asg (i := 4) (ev_cb o_max2 (ea_cons ev_int (ea_cons (ev_op o_sub (ev_v (i := 4) (d := size_v_5) rfl) (ev_v (i := 1) (d := k_2) rfl)) ea_nil)))) (fun size_v_26 => (sv_nil size_v_26 (.same (.same (.same (.same (.same (.same (.same (.same .nil))))))))))) (sv_nil size_v_5 (.same (.same (.same (.same (.same (.same (.same (.same .nil)))))))))) (fun s_25 => (tv_cons (sv_for (f := some) (inv := (fun (b : D) => [.vl row_1, .vl k_2, .vl letters_3, .vl b, .vl s_25, .vl alike_12, .jk, .jk])) text_4 (iv_rng1 (ev_v (i := 4) (d := s_25) rfl)) (.same (.same (.same (.same (.same (.same (.same (.same .nil)))))))) gv_name (fun c_34 b_33 => (sv_cons (sv_if (post := (fun (b : D) => [.vl row_1, .vl k_2, .vl letters_3, .vl b, .vl s_25, .vl alike_12, .vl c_34, .jk])) (et_op o_eqF (ev_v (i := 6) (d := c_34) rfl) ev_int) (sv_cons (sv_asg (i := 3) (ev_op o_ix (ev_v (i := 2) (d := letters_3) rfl) (ev_op o_mod (ev_cb o_int (ea_cons (ev_op o_ix (ev_v (i := 0) (d := row_1) rfl) ev_int) ea_nil)) ev_int))) (fun text_39 => (sv_nil text_39 (.same (.same (.same (.same (.same (.same (.same (.same .nil))))))))))) (sv_cons (sv_asg (i := 3) (ev_op o_add (ev_v (i := 3) (d := b_33) rfl) (ev_op o_ix (ev_op o_add (ev_v (i := 2) (d := letters_3) rfl) ev_str) (ev_op o_mod (ev_cb o_int (ea_cons (ev_op o_ix (ev_v (i := 0) (d := row_1) rfl) (ev_op o_add ev_int (ev_v (i := 6) (d := c_34) rfl))) ea_nil)) ev_int)))) (fun text_48 => (sv_nil text_48 (.same (.same (.same (.same (.same (.same (.same (.same .nil)))))))))))) (fun s_38 => (sv_nil s_38 (.same (.same (.same (.same (.same (.same (.drop (.same .nil))))))))))))) (fun s_64 => (tv_cons (sv_asg (i := 7) (ev_op o_mod (ev_cb o_int (ea_cons (ev_op o_ix (ev_v (i := 0) (d := row_1) rfl) ev_int) ea_nil)) (ev_op o_add (ev_v (i := 4) (d := s_25) rfl) ev_int))) (fun at_65 => (tv_cons (sv_if (post := (fun (b : D) => [.vl row_1, .vl k_2, .vl letters_3, .vl s_64, .vl s_25, .vl alike_12, .jk, .vl b])) (et_not (et_B (ev_v (i := 5) (d := alike_12) rfl))) (sv_cons (sv_asg (i := 7) ev_int) (fun at_77 => (sv_nil at_77 (.same (.same (.same (.same (.same (.same (.same (.same .nil))))))))))) (sv_nil at_65 (.same (.same (.same (.same (.same (.same (.same (.same .nil)))))))))) (fun s_76 => (tv_cons (sv_asg (i := 3) (ev_op o_add (ev_op o_add (ev_slS (ev_v (i := 3) (d := s_64) rfl) eo_no (eo_so (ev_v (i := 7) (d := s_76) rfl))) (ev_op o_ix (ev_v (i := 2) (d := letters_3) rfl) (ev_op o_mod (ev_cb o_int (ea_cons (ev_op o_add (ev_op o_ix (ev_v (i := 0) (d := row_1) rfl) ev_int) (ev_v (i := 1) (d := k_2) rfl)) ea_nil)) ev_int))) (ev_slS (ev_v (i := 3) (d := s_64) rfl) (eo_so (ev_v (i := 7) (d := s_76) rfl)) eo_no))) (fun text_78 => (tv_cons (sv_if (post := (fun (b : D) => [.vl row_1, .vl k_2, .vl letters_3, .vl b, .vl s_25, .vl alike_12, .jk, .vl s_76])) (et_op o_in (ev_v (i := 3) (d := text_78) rfl) (ev_call ea_nil)) (sv_cons (sv_asg (i := 3) (ev_op o_add (ev_v (i := 3) (d := text_78) rfl) ev_str)) (fun text_103 => (sv_nil text_103 (.same (.same (.same (.same (.same (.same (.same (.same .nil))))))))))) (sv_nil text_78 (.same (.same (.same (.same (.same (.same (.same (.same .nil)))))))))) (fun s_102 => (tv_ret (ev_v (i := 3) (d := s_102) rfl))))))))))))))))))))))
/-! _law_names -/
noncomputable abbrev s_law_names : Stmt := topS 30
noncomputable abbrev n_law_names : List Str := ["script", "place", "many", "row", "k"]
theorem sc_law_names : FnScope n_law_names ["script", "place", "many"] (defScope s_law_names) := ⟨rfl, rfl, rfl, by decide +kernel, rfl, by decide +kernel, by decide +kernel⟩
theorem ok_law_names {fa : Addr} {fd : FuncData} (F : Fun K "_law_names" "_law_names" s_law_names fa fd) (hm : mg "_law_names" = some (.ref fa)) (hb : Binds K fd ["script", "place", "many"] []) (bl : Bi mg) (gx : Gx K mg az zv) (ti : Ti K cl mg) (tx : Tx K cl) {f0 : Addr} {fd0 : FuncData} (C_law_row : Con P w K cl mg base 1 "_law_row" (on3 (m_law_row)) f0 fd0 ["script", "place", "many"]) {f1 : Addr} {fd1 : FuncData} (C_law_name : Con P w K cl mg base 2 "_law_name" (on2 (m_law_name)) f1 fd1 ["row", "k"]) : Con P w K cl mg base 3 "_law_names" (on3 (m_law_names)) fa fd ["script", "place", "many"] := by
  refine fun_con (k := 2) F sc_law_names rfl ar3 hm hb (fun cdv A outer s H E hr => ?_)
  have nd := sc_law_names.nd
  refine ⟨_, (pss_cons (ps_set (i := 3) nd rfl (by first | exact Or.inl rfl | exact Or.inr rfl) (pe_call C_law_row.ok (hr.mono (by omega)) (by rfl) C_law_row.mg C_law_row.kp C_law_row.bd .nil pass0 (pa_cons (pv 0) (pa_cons (pv 1) (pa_cons pe_int pa_nil))))) (pss_cons (ps_ret (pe_lc (own := [("k", 4)]) (g := (gName 4)) (tt := tYes) rfl nd (pi_range1 (by rfl) bl.range (pa_cons (pv 2) pa_nil)) (blkOk_by (N := n_law_names) (sc := defScope s_law_names) (by decide +kernel)) (fun _ _ _ _ _ => pg_name (i := 4) nd rfl (by first | exact Or.inl rfl | exact Or.inr rfl)) (fun _ _ _ _ _ => pts_nil) (fun _ _ _ _ _ => (pe_call C_law_name.ok (hr.mono (by omega)) (by rfl) C_law_name.mg C_law_name.kp C_law_name.bd .nil pass0 (pa_cons (pv 3) (pa_cons (pv 4) pa_nil)))))) pss_never)), ?_⟩
  exact all3 fun script_1 place_2 many_3 => (tv_cons (sv_asg (i := 3) (ev_call (ea_cons (ev_v (i := 0) (d := script_1) rfl) (ea_cons (ev_v (i := 1) (d := place_2) rfl) (ea_cons ev_int ea_nil))))) (fun row_4 => (tv_ret ((evn_lc (f := some) (iv_rng1 (ev_v (i := 2) (d := many_3) rfl)) gv_name (gw_name (by decide)) (fun c_11 => et_yes) (fun c_11 => (ev_call (ea_cons (ev_v (i := 3) (d := row_4) rfl) (ea_cons (ev_v (i := 4) (d := c_11) rfl) ea_nil)))))).ev)))
/-! _law_house -/
noncomputable abbrev s_law_house : Stmt := topS 33
noncomputable abbrev n_law_house : List Str := ["script", "place", "cap", "counts", "heard", "names", "words", "v", "found"]
theorem sc_law_house : FnScope n_law_house ["script", "place", "cap"] (defScope s_law_house) := ⟨rfl, rfl, rfl, by decide +kernel, rfl, by decide +kernel, by decide +kernel⟩
theorem ok_law_house {fa : Addr} {fd : FuncData} (F : Fun K "_law_house" "_law_house" s_law_house fa fd) (hm : mg "_law_house" = some (.ref fa)) (hb : Binds K fd ["script", "place", "cap"] []) (bl : Bi mg) (gx : Gx K mg az zv) (ti : Ti K cl mg) (tx : Tx K cl) {f0 : Addr} {fd0 : FuncData} (C_law_shape : Con P w K cl mg base 3 "_law_shape" (on3 (m_law_shape)) f0 fd0 ["script", "place", "cap"]) {f1 : Addr} {fd1 : FuncData} (C_law_names : Con P w K cl mg base 3 "_law_names" (on3 (m_law_names)) f1 fd1 ["script", "place", "many"]) {f2 : Addr} {fd2 : FuncData} (C_law_row : Con P w K cl mg base 1 "_law_row" (on3 (m_law_row)) f2 fd2 ["script", "place", "many"]) : Con P w K cl mg base 4 "_law_house" (on3 (m_law_house)) fa fd ["script", "place", "cap"] := by
  refine fun_con (k := 3) F sc_law_house rfl ar3 hm hb (fun cdv A outer s H E hr => ?_)
  have nd := sc_law_house.nd
  refine ⟨_, (pss_cons (ps_asg (pe_call C_law_shape.ok (hr.mono (by omega)) (by rfl) C_law_shape.mg C_law_shape.kp C_law_shape.bd .nil pass0 (pa_cons (pv 0) (pa_cons (pv 1) (pa_cons (pv 2) pa_nil)))) (tupGK K rfl (pgs_cons (pg_name (i := 3) nd rfl (by first | exact Or.inl rfl | exact Or.inr rfl)) (pgs_cons (pg_name (i := 4) nd rfl (by first | exact Or.inl rfl | exact Or.inr rfl)) pgs_nil)))) (pss_cons (ps_set (i := 5) nd rfl (by first | exact Or.inl rfl | exact Or.inr rfl) (pe_call C_law_names.ok (hr.mono (by omega)) (by rfl) C_law_names.mg C_law_names.kp C_law_names.bd .nil pass0 (pa_cons (pv 0) (pa_cons (pe_op op_addD (pv 1) pe_int) (pa_cons (pe_callB (lenK K) (by rfl) bl.len (by decide +kernel) (pa_cons (pv 3) pa_nil)) pa_nil))))) (pss_cons (ps_set (i := 6) nd rfl (by first | exact Or.inl rfl | exact Or.inr rfl) (pe_lst pa_nil)) (pss_cons (ps_for PassesOwn.never rfl (pi_range1 (by rfl) bl.range (pa_cons (pe_callB (lenK K) (by rfl) bl.len (by decide +kernel) (pa_cons (pv 3) pa_nil)) pa_nil)) (pg_name (i := 7) nd rfl (by first | exact Or.inl rfl | exact Or.inr rfl)) (pss_cons (ps_set (i := 8) nd rfl (by first | exact Or.inl rfl | exact Or.inr rfl) (pe_call C_law_names.ok (hr.mono (by omega)) (by rfl) C_law_names.mg C_law_names.kp C_law_names.bd .nil pass0 (pa_cons (pv 0) (pa_cons (pe_op op_addD (pe_op op_addD (pv 1) pe_int) (pv 7)) (pa_cons pe_int pa_nil))))) (pss_cons (ps_if (pt_cmpR op_eq (pe_op op_mod (pe_callTy call_int1 (by rfl) bl.int (by decide +kernel) (pa_cons (pe_ix (ixK K) (pe_call C_law_row.ok (hr.mono (by omega)) (by rfl) C_law_row.mg C_law_row.kp C_law_row.bd .nil pass0 (pa_cons (pv 0) (pa_cons (pv 1) (pa_cons pe_int pa_nil)))) pe_int (fun _ _ => rfl)) pa_nil)) pe_int) pe_int (nomark _)) (pss_cons (ps_set (i := 8) nd rfl (by first | exact Or.inl rfl | exact Or.inr rfl) (pe_call C_law_names.ok (hr.mono (by omega)) (by rfl) C_law_names.mg C_law_names.kp C_law_names.bd .nil pass0 (pa_cons (pv 0) (pa_cons (pe_op op_addD (pv 1) pe_int) (pa_cons pe_int pa_nil))))) (pss_cons (ps_set (i := 8) nd rfl (by first | exact Or.inl rfl | exact Or.inr rfl) (pe_op op_cat (pe_slice (slK K) (pv 8) (po_some (pe_op op_mod (pe_callTy call_int1 (by rfl) bl.int (by decide +kernel) (pa_cons (pv 7) pa_nil)) pe_int)) po_none) (pe_slice (slK K) (pv 8) po_none (po_some (pe_op op_mod (pe_callTy call_int1 (by rfl) bl.int (by decide +kernel) (pa_cons (pv 7) pa_nil)) pe_int))))) pss_nil)) pss_nil) (pss_cons (ps_expr (bmK K PySem.F.plainAttrs_list PySem.F.slot_list_append PySem.F.type_list_append mt_append (pv 6) (pa_cons (pe_slice (slK K) (pv 8) po_none (po_some (pe_ix (ixK K) (pv 3) (pv 7) (fun _ _ => rfl)))) pa_nil))) pss_nil)))) (pss_cons (ps_ret (pe_tup (pa_cons (pv 5) (pa_cons (pv 6) (pa_cons (pv 4) pa_nil))))) pss_never))))), ?_⟩
  exact all3 fun script_1 place_2 cap_3 => (tv_cons (sv_asgG (ev_call (ea_cons (ev_v (i := 0) (d := script_1) rfl) (ea_cons (ev_v (i := 1) (d := place_2) rfl) (ea_cons (ev_v (i := 2) (d := cap_3) rfl) ea_nil)))) gv_tup2) (fun c_4 => (tv_cons (sv_asg (i := 5) (ev_call (ea_cons (ev_v (i := 0) (d := script_1) rfl) (ea_cons (ev_op o_add (ev_v (i := 1) (d := place_2) rfl) ev_int) (ea_cons (ev_cb o_len (ea_cons (ev_v (i := 3) (d := c_4.1) rfl) ea_nil)) ea_nil))))) (fun names_11 => (tv_cons (sv_asgN (i := 6) (evn_lst ea_nil)) (fun words_22 => (tv_cons (sv_for (f := some) (inv := (fun (b : D) => [.vl script_1, .vl place_2, .vl cap_3, .vl c_4.1, .vl c_4.2, .vl names_11, .ow (.l .v) b, .jk, .jk])) words_22 (iv_rng1 (ev_cb o_len (ea_cons (ev_v (i := 3) (d := c_4.1) rfl) ea_nil))) (.same (.same (.same (.same (.same (.same (.same (.same (.same .nil))))))))) gv_name (fun c_26 b_25 => (sv_cons (sv_asg (i := 8) (ev_call (ea_cons (ev_v (i := 0) (d := script_1) rfl) (ea_cons (ev_op o_add (ev_op o_add (ev_v (i := 1) (d := place_2) rfl) ev_int) (ev_v (i := 7) (d := c_26) rfl)) (ea_cons ev_int ea_nil))))) (fun found_27 => (sv_cons (sv_if (post := (fun (b : D) => [.vl script_1, .vl place_2, .vl cap_3, .vl c_4.1, .vl c_4.2, .vl names_11, .ow (.l .v) b_25, .vl c_26, .vl b])) (et_op o_eqF (ev_op o_mod (ev_cb o_int (ea_cons (ev_op o_ix (ev_call (ea_cons (ev_v (i := 0) (d := script_1) rfl) (ea_cons (ev_v (i := 1) (d := place_2) rfl) (ea_cons ev_int ea_nil)))) ev_int) ea_nil)) ev_int) ev_int) (sv_cons (sv_asg (i := 8) (ev_call (ea_cons (ev_v (i := 0) (d := script_1) rfl) (ea_cons (ev_op o_add (ev_v (i := 1) (d := place_2) rfl) ev_int) (ea_cons ev_int ea_nil))))) (fun found_54 => (sv_cons (sv_asg (i := 8) ((evn_op o_cat ((evn_sl (ev_v (i := 8) (d := found_54) rfl) (eo_so (ev_op o_mod (ev_cb o_int (ea_cons (ev_v (i := 7) (d := c_26) rfl) ea_nil)) ev_int)) eo_no)).ev ((evn_sl (ev_v (i := 8) (d := found_54) rfl) eo_no (eo_so (ev_op o_mod (ev_cb o_int (ea_cons (ev_v (i := 7) (d := c_26) rfl) ea_nil)) ev_int)))).ev)).ev) (fun found_63 => (sv_nil found_63 (.same (.same (.same (.same (.same (.same (.same (.same (.same .nil)))))))))))))) (sv_nil found_27 (.same (.same (.same (.same (.same (.same (.same (.same (.same .nil))))))))))) (fun s_53 => (sv_cons (sv_app (i := 6) (d := b_25) rfl rfl ((evn_sl (ev_v (i := 8) (d := s_53) rfl) eo_no (eo_so (ev_op o_ix (ev_v (i := 3) (d := c_4.1) rfl) (ev_v (i := 7) (d := c_26) rfl))))).ev) (fun words_86 => (sv_nil words_86 (.same (.same (.same (.same (.same (.same (.same (.drop (.drop .nil)))))))))))))))))) (fun s_88 => (tv_ret (ev_pre (i := 6) (d := s_88) rfl (ev_tup (ea_cons (ev_v (i := 5) (d := names_11) rfl) (ea_cons (ev_v (i := 6) (d := s_88) rfl) (ea_cons (ev_v (i := 4) (d := c_4.2) rfl) ea_nil))))))))))))))
/-! House.__init__ -/
noncomputable abbrev s_House : Stmt := inClass (topS 15) 0
noncomputable abbrev n_House : List Str := ["self", "names", "words", "heard", "said", "earlier"]
theorem sc_House : FnScope n_House ["self", "names", "words", "heard"] (defScope s_House) := ⟨rfl, rfl, rfl, by decide +kernel, rfl, by decide +kernel, by decide +kernel⟩
theorem ok_House {fa : Addr} {fd : FuncData} (F : Fun K "__init__" "House.__init__" s_House fa fd) (M : Mk K (cl.c 1) fa) (hm : mg "House" = some (.ref (cl.c 1))) (hb : Binds K fd ["self", "names", "words", "heard"] []) (bl : Bi mg) (gx : Gx K mg az zv) (tx : Tx K cl)  : ConJ P w K cl mg base 1 1 "House" (shF [("heard", .l (.l .v)), ("names", .l .v), ("words", .l (.l .v))]) mk_House fa fd ["self", "names", "words", "heard"] := by
  refine initJ_con (fs0 := (shF [("heard", .l (.l .v)), ("names", .l .v), ("words", .l (.l .v))])) (k := 0) F sc_House rfl ar3 M hm hb (fun cdv A outer s H E hr => ?_)
  have nd := sc_House.nd
  refine ⟨_, (pss_cons (ps_fld (pv 0) (pe_callTy (listK K) (by rfl) bl.list (by decide +kernel) (pa_cons (pv 1) pa_nil)) rfl) (pss_cons (ps_fld (pv 0) (pe_lc (own := [("said", 4)]) (g := (gName 4)) (tt := tYes) rfl nd (listIK K (pv 2)) (blkOk_by (N := n_House) (sc := defScope s_House) (by decide +kernel)) (fun _ _ _ _ _ => pg_name (i := 4) nd rfl (by first | exact Or.inl rfl | exact Or.inr rfl)) (fun _ _ _ _ _ => pts_nil) (fun _ _ _ _ _ => (pe_callTy (listK K) (by rfl) bl.list (by decide +kernel) (pa_cons (pv 4) pa_nil)))) rfl) (pss_cons (ps_fld (pv 0) (pe_lc (own := [("earlier", 5)]) (g := (gName 5)) (tt := tYes) rfl nd (listIK K (pv 3)) (blkOk_by (N := n_House) (sc := defScope s_House) (by decide +kernel)) (fun _ _ _ _ _ => pg_name (i := 5) nd rfl (by first | exact Or.inl rfl | exact Or.inr rfl)) (fun _ _ _ _ _ => pts_nil) (fun _ _ _ _ _ => (pe_callTy (listK K) (by rfl) bl.list (by decide +kernel) (pa_cons (pv 5) pa_nil)))) rfl) pss_nil))), ?_⟩
  exact fun xa ds hl => match ds, hl with | [names_1, words_2, heard_3], _ => (by show SV K cl _ _ ((((((some names_1).bind fun x_4 => (some []).bind fun xs_5 => some (x_4 :: xs_5)).bind (on1 dList)).bind fun t6 => dStF 1 "names" (.ob 1 []) t6).bind fun self_7 => (((((some words_2).bind asL).bind fun xs => (capD xs).bind fun xs => (compD (fun x_11 => (some x_11).bind fun c_8 => (some true).bind fun b_12 => if b_12 = true then (((some c_8).bind fun x_9 => (some []).bind fun xs_10 => some (x_9 :: xs_10)).bind (on1 dList)).map some else some none) xs).map .lst).bind fun t13 => dStF 1 "words" self_7 t13).bind fun self_14 => (((((some heard_3).bind asL).bind fun xs => (capD xs).bind fun xs => (compD (fun x_18 => (some x_18).bind fun c_15 => (some true).bind fun b_19 => if b_19 = true then (((some c_15).bind fun x_16 => (some []).bind fun xs_17 => some (x_16 :: xs_17)).bind (on1 dList)).map some else some none) xs).map .lst).bind fun t20 => dStF 1 "heard" self_14 t20).bind fun self_21 => (some self_21))))) _; exact (sv_cons (sv_fldJO (i := 0) (x := (.ob 1 [])) (po := ((some xa))) (fs := (shF [("heard", .l (.l .v)), ("names", .l .v), ("words", .l (.l .v))])) (sh := .l .v) tx.House (.head _) rfl rfl ((evn_cb o_list (ea_cons (ev_v (i := 1) (d := names_1) rfl) ea_nil))).evo) (fun self_7 => (sv_cons (sv_fldJO (i := 0) (x := self_7) (po := ((some xa))) (fs := (shF [("heard", .l (.l .v)), ("names", .l .v), ("words", .l (.l .v))])) (sh := .l (.l .v)) tx.House (.tail _ (.head _)) rfl rfl (evo_lc (f := some) (iv_list (ev_v (i := 2) (d := words_2) rfl)) gv_name (gw_name (by decide)) (fun c_8 => et_yes) (fun c_8 => (evn_cb o_list (ea_cons (ev_v (i := 4) (d := c_8) rfl) ea_nil))))) (fun self_14 => (sv_cons (sv_fldJO (i := 0) (x := self_14) (po := ((some xa))) (fs := (shF [("heard", .l (.l .v)), ("names", .l .v), ("words", .l (.l .v))])) (sh := .l (.l .v)) tx.House (.tail _ (.tail _ (.head _))) rfl rfl (evo_lc (f := some) (iv_list (ev_v (i := 3) (d := heard_3) rfl)) gv_name (gw_name (by decide)) (fun c_15 => et_yes) (fun c_15 => (evn_cb o_list (ea_cons (ev_v (i := 5) (d := c_15) rfl) ea_nil))))) (fun self_21 => (sv_nil self_21 (.same (.drop (.drop (.drop (.same (.same .nil))))))))))))))
/-! _law_spoil -/
noncomputable abbrev s_law_spoil : Stmt := topS 38
noncomputable abbrev n_law_spoil : List Str := ["lists"]
theorem sc_law_spoil : FnScope n_law_spoil ["lists"] (defScope s_law_spoil) := ⟨rfl, rfl, rfl, by decide +kernel, rfl, by decide +kernel, by decide +kernel⟩
theorem ok_law_spoil {fa : Addr} {fd : FuncData} (F : Fun K "_law_spoil" "_law_spoil" s_law_spoil fa fd) (hm : mg "_law_spoil" = some (.ref fa)) (hb : Binds K fd ["lists"] []) (bl : Bi mg) (gx : Gx K mg az zv) (ti : Ti K cl mg) (tx : Tx K cl)  : ConSp P w K cl mg base 1 "_law_spoil" (fun d => (m_law_spoil d).isSome) fa fd ["lists"] := by
  refine spoil_con (k := 0) F sc_law_spoil rfl hm hb (fun cdv A outer s H E hr => ?_)
  have nd := sc_law_spoil.nd
  refine ⟨_, (pss_cons (ps_expr (bmK K PySem.F.plainAttrs_list PySem.F.slot_list_append PySem.F.type_list_append mt_append (pe_ix (ixK K) (pv 0) pe_int (fun _ _ => rfl)) (pa_cons pe_str pa_nil))) (pss_cons (ps_expr (bmK K PySem.F.plainAttrs_list PySem.F.slot_list_append PySem.F.type_list_append mt_append (pe_ix (ixK K) (pe_ix (ixK K) (pv 0) pe_int (fun _ _ => rfl)) pe_int (fun _ _ => rfl)) (pa_cons pe_str pa_nil))) (pss_cons (ps_expr (bmK K PySem.F.plainAttrs_list PySem.F.slot_list_append PySem.F.type_list_append mt_append (pe_ix (ixK K) (pv 0) pe_int (fun _ _ => rfl)) (pa_cons (pe_lst (pa_cons pe_str pa_nil)) pa_nil))) (pss_cons (ps_expr (bmK K PySem.F.plainAttrs_list PySem.F.slot_list_append PySem.F.type_list_append mt_append (pe_ix (ixK K) (pe_ix (ixK K) (pv 0) pe_int (fun _ _ => rfl)) pe_int (fun _ _ => rfl)) (pa_cons pe_int pa_nil))) (pss_cons (ps_expr (bmK K PySem.F.plainAttrs_list PySem.F.slot_list_append PySem.F.type_list_append mt_append (pe_ix (ixK K) (pv 0) pe_int (fun _ _ => rfl)) (pa_cons (pe_lst (pa_cons pe_int pa_nil)) pa_nil))) pss_nil))))), ?_⟩
  exact fun lists_1 => (sv_cons (sv_dapp (i := 0) (d := lists_1) [0] rfl (EV.evoD ev_str)) (fun lists_3 => (sv_cons (sv_dapp (i := 0) (d := lists_3) [1, 0] rfl (EV.evoD ev_str)) (fun lists_5 => (sv_cons (sv_dapp (i := 0) (d := lists_5) [1] rfl (EVO.toD (sh := .l .v) (EVN.evo (evn_lst (ea_cons ev_str ea_nil))))) (fun lists_10 => (sv_cons (sv_dapp (i := 0) (d := lists_10) [2, 0] rfl (EV.evoD ev_int)) (fun lists_12 => (sv_cons (sv_dapp (i := 0) (d := lists_12) [2] rfl (EVO.toD (sh := .l .v) (EVN.evo (evn_lst (ea_cons ev_int ea_nil))))) (fun lists_17 => (sv_nil lists_17 (.same .nil))))))))))))
/-! size -/
noncomputable abbrev s_size : Stmt := topS 11
noncomputable abbrev n_size : List Str := ["bounds", "many", "bound"]
theorem sc_size : FnScope n_size ["bounds"] (defScope s_size) := ⟨rfl, rfl, rfl, by decide +kernel, rfl, by decide +kernel, by decide +kernel⟩
theorem ok_size {fa : Addr} {fd : FuncData} (F : Fun K "size" "size" s_size fa fd) (hm : mg "size" = some (.ref fa)) (hb : Binds K fd ["bounds"] []) (bl : Bi mg) (gx : Gx K mg az zv) (ti : Ti K cl mg) (tx : Tx K cl)  : Con P w K cl mg base 1 "size" (on1 (m_size)) fa fd ["bounds"] := by
  refine fun_con (k := 0) F sc_size rfl ar1 hm hb (fun cdv A outer s H E hr => ?_)
  have nd := sc_size.nd
  refine ⟨_, (pss_cons (ps_set (i := 1) nd rfl (by first | exact Or.inl rfl | exact Or.inr rfl) pe_int) (pss_cons (ps_for PassesOwn.never rfl (listIK K (pv 0)) (pg_name (i := 2) nd rfl (by first | exact Or.inl rfl | exact Or.inr rfl)) (pss_cons (ps_set (i := 1) nd rfl (by first | exact Or.inl rfl | exact Or.inr rfl) (pe_op op_mulD (pv 1) (pv 2))) pss_nil)) (pss_cons (ps_ret (pv 1)) pss_never))), ?_⟩
  exact all1 fun bounds_1 => (tv_cons (sv_asg (i := 1) ev_int) (fun many_2 => (tv_cons (sv_for (f := some) (inv := (fun (b : D) => [.vl bounds_1, .vl b, .jk])) many_2 (iv_list (ev_v (i := 0) (d := bounds_1) rfl)) (.same (.same (.same .nil))) gv_name (fun c_4 b_3 => (sv_cons (sv_asg (i := 1) (ev_op o_mul (ev_v (i := 1) (d := b_3) rfl) (ev_v (i := 2) (d := c_4) rfl))) (fun many_5 => (sv_nil many_5 (.same (.same (.drop .nil)))))))) (fun s_9 => (tv_ret (ev_v (i := 1) (d := s_9) rfl))))))
/-! heard_bounds -/
noncomputable abbrev s_heard_bounds : Stmt := topS 16
noncomputable abbrev n_heard_bounds : List Str := ["house", "variable", "heard"]
theorem sc_heard_bounds : FnScope n_heard_bounds ["house", "variable"] (defScope s_heard_bounds) := ⟨rfl, rfl, rfl, by decide +kernel, rfl, by decide +kernel, by decide +kernel⟩
theorem ok_heard_bounds {fa : Addr} {fd : FuncData} (F : Fun K "heard_bounds" "heard_bounds" s_heard_bounds fa fd) (hm : mg "heard_bounds" = some (.ref fa)) (hb : Binds K fd ["house", "variable"] []) (bl : Bi mg) (gx : Gx K mg az zv) (ti : Ti K cl mg) (tx : Tx K cl)  : Con P w K cl mg base 1 "heard_bounds" (on2 (m_heard_bounds)) fa fd ["house", "variable"] := by
  refine fun_con (k := 0) F sc_heard_bounds rfl ar2 hm hb (fun cdv A outer s H E hr => ?_)
  have nd := sc_heard_bounds.nd
  refine ⟨_, (pss_cons (ps_ret (pe_lc (own := [("heard", 2)]) (g := (gName 2)) (tt := tYes) rfl nd (listIK K (pe_ix (ixK K) (fldK K (pv 0) rfl) (pv 1) (fun _ _ => rfl))) (blkOk_by (N := n_heard_bounds) (sc := defScope s_heard_bounds) (by decide +kernel)) (fun _ _ _ _ _ => pg_name (i := 2) nd rfl (by first | exact Or.inl rfl | exact Or.inr rfl)) (fun _ _ _ _ _ => pts_nil) (fun _ _ _ _ _ => (pe_callB (lenK K) (by rfl) bl.len (by decide +kernel) (pa_cons (pe_ix (ixK K) (fldK K (pv 0) rfl) (pv 2) (fun _ _ => rfl)) pa_nil))))) pss_never), ?_⟩
  exact all2 fun house_1 variable_2 => (tv_ret ((evn_lc (f := some) (iv_list (ev_op o_ix (ev_fld tx.House (.tail _ (.tail _ (.head _))) (ev_v (i := 0) (d := house_1) rfl)) (ev_v (i := 1) (d := variable_2) rfl))) gv_name (gw_name (by decide)) (fun c_5 => et_yes) (fun c_5 => (ev_cb o_len (ea_cons (ev_op o_ix (ev_fld tx.House (.tail _ (.head _)) (ev_v (i := 0) (d := house_1) rfl)) (ev_v (i := 2) (d := c_5) rfl)) ea_nil))))).ev)
/-! answer_bounds -/
noncomputable abbrev s_answer_bounds : Stmt := topS 17
noncomputable abbrev n_answer_bounds : List Str := ["house", "bounds", "variable"]
theorem sc_answer_bounds : FnScope n_answer_bounds ["house"] (defScope s_answer_bounds) := ⟨rfl, rfl, rfl, by decide +kernel, rfl, by decide +kernel, by decide +kernel⟩
theorem ok_answer_bounds {fa : Addr} {fd : FuncData} (F : Fun K "answer_bounds" "answer_bounds" s_answer_bounds fa fd) (hm : mg "answer_bounds" = some (.ref fa)) (hb : Binds K fd ["house"] []) (bl : Bi mg) (gx : Gx K mg az zv) (ti : Ti K cl mg) (tx : Tx K cl) {f0 : Addr} {fd0 : FuncData} (C_size : Con P w K cl mg base 1 "size" (on1 (m_size)) f0 fd0 ["bounds"]) {f1 : Addr} {fd1 : FuncData} (C_heard_bounds : Con P w K cl mg base 1 "heard_bounds" (on2 (m_heard_bounds)) f1 fd1 ["house", "variable"]) : Con P w K cl mg base 2 "answer_bounds" (on1 (m_answer_bounds)) fa fd ["house"] := by
  refine fun_con (k := 1) F sc_answer_bounds rfl ar1 hm hb (fun cdv A outer s H E hr => ?_)
  have nd := sc_answer_bounds.nd
  refine ⟨_, (pss_cons (ps_set (i := 1) nd rfl (by first | exact Or.inl rfl | exact Or.inr rfl) (pe_lst pa_nil)) (pss_cons (ps_for PassesOwn.never rfl (pi_range1 (by rfl) bl.range (pa_cons (pe_callB (lenK K) (by rfl) bl.len (by decide +kernel) (pa_cons (fldK K (pv 0) rfl) pa_nil)) pa_nil)) (pg_name (i := 2) nd rfl (by first | exact Or.inl rfl | exact Or.inr rfl)) (pss_cons (ps_expr (bmK K PySem.F.plainAttrs_list PySem.F.slot_list_extend PySem.F.type_list_extend mt_extend (pv 1) (pa_cons (pe_op op_rep (pe_lst (pa_cons (pe_callB (lenK K) (by rfl) bl.len (by decide +kernel) (pa_cons (pe_ix (ixK K) (fldK K (pv 0) rfl) (pv 2) (fun _ _ => rfl)) pa_nil)) pa_nil)) (pe_call C_size.ok (hr.mono (by omega)) (by rfl) C_size.mg C_size.kp C_size.bd .nil pass0 (pa_cons (pe_call C_heard_bounds.ok (hr.mono (by omega)) (by rfl) C_heard_bounds.mg C_heard_bounds.kp C_heard_bounds.bd .nil pass0 (pa_cons (pv 0) (pa_cons (pv 2) pa_nil))) pa_nil))) pa_nil))) pss_nil)) (pss_cons (ps_ret (pv 1)) pss_never))), ?_⟩
  exact all1 fun house_1 => (tv_cons (sv_asgN (i := 1) (evn_lst ea_nil)) (fun bounds_2 => (tv_cons (sv_for (f := some) (inv := (fun (b : D) => [.vl house_1, .ow (.l .v) b, .jk])) bounds_2 (iv_rng1 (ev_cb o_len (ea_cons (ev_fld tx.House (.head _) (ev_v (i := 0) (d := house_1) rfl)) ea_nil))) (.same (.same (.same .nil))) gv_name (fun c_6 b_5 => (sv_cons (sv_ext (i := 1) (d := b_5) rfl rfl ((evn_op o_rep ((evn_lst (ea_cons (ev_cb o_len (ea_cons (ev_op o_ix (ev_fld tx.House (.tail _ (.head _)) (ev_v (i := 0) (d := house_1) rfl)) (ev_v (i := 2) (d := c_6) rfl)) ea_nil)) ea_nil))).ev (ev_call (ea_cons (ev_call (ea_cons (ev_v (i := 0) (d := house_1) rfl) (ea_cons (ev_v (i := 2) (d := c_6) rfl) ea_nil))) ea_nil)))).ev) (fun bounds_22 => (sv_nil bounds_22 (.same (.same (.drop .nil)))))))) (fun s_24 => (tv_ret (ev_pre (i := 1) (d := s_24) rfl (ev_v (i := 1) (d := s_24) rfl)))))))
/-! way_count -/
noncomputable abbrev s_way_count : Stmt := topS 18
noncomputable abbrev n_way_count : List Str := ["house"]
theorem sc_way_count : FnScope n_way_count ["house"] (defScope s_way_count) := ⟨rfl, rfl, rfl, by decide +kernel, rfl, by decide +kernel, by decide +kernel⟩
theorem ok_way_count {fa : Addr} {fd : FuncData} (F : Fun K "way_count" "way_count" s_way_count fa fd) (hm : mg "way_count" = some (.ref fa)) (hb : Binds K fd ["house"] []) (bl : Bi mg) (gx : Gx K mg az zv) (ti : Ti K cl mg) (tx : Tx K cl) {f0 : Addr} {fd0 : FuncData} (C_size : Con P w K cl mg base 1 "size" (on1 (m_size)) f0 fd0 ["bounds"]) {f1 : Addr} {fd1 : FuncData} (C_answer_bounds : Con P w K cl mg base 2 "answer_bounds" (on1 (m_answer_bounds)) f1 fd1 ["house"]) : Con P w K cl mg base 3 "way_count" (on1 (m_way_count)) fa fd ["house"] := by
  refine fun_con (k := 2) F sc_way_count rfl ar1 hm hb (fun cdv A outer s H E hr => ?_)
  have nd := sc_way_count.nd
  refine ⟨_, (pss_cons (ps_ret (pe_call C_size.ok (hr.mono (by omega)) (by rfl) C_size.mg C_size.kp C_size.bd .nil pass0 (pa_cons (pe_call C_answer_bounds.ok (hr.mono (by omega)) (by rfl) C_answer_bounds.mg C_answer_bounds.kp C_answer_bounds.bd .nil pass0 (pa_cons (pv 0) pa_nil)) pa_nil))) pss_never), ?_⟩
  exact all1 fun house_1 => (tv_ret (ev_call (ea_cons (ev_call (ea_cons (ev_v (i := 0) (d := house_1) rfl) ea_nil)) ea_nil)))
/-! format_house -/
noncomputable abbrev s_format_house : Stmt := topS 23
noncomputable abbrev n_format_house : List Str := ["house", "parts", "name", "said", "heard", "earlier"]
theorem sc_format_house : FnScope n_format_house ["house"] (defScope s_format_house) := ⟨rfl, rfl, rfl, by decide +kernel, rfl, by decide +kernel, by decide +kernel⟩
theorem ok_format_house {fa : Addr} {fd : FuncData} (F : Fun K "format_house" "format_house" s_format_house fa fd) (hm : mg "format_house" = some (.ref fa)) (hb : Binds K fd ["house"] []) (bl : Bi mg) (gx : Gx K mg az zv) (ti : Ti K cl mg) (tx : Tx K cl)  : Con P w K cl mg base 1 "format_house" (on1 (m_format_house)) fa fd ["house"] := by
  refine fun_con (k := 0) F sc_format_house rfl ar1 hm hb (fun cdv A outer s H E hr => ?_)
  have nd := sc_format_house.nd
  refine ⟨_, (pss_cons (ps_set (i := 1) nd rfl (by first | exact Or.inl rfl | exact Or.inr rfl) (pe_lst (pa_cons pe_str pa_nil))) (pss_cons (ps_for PassesOwn.never rfl (zip3K K (by rfl) bl.zip (pa_cons (fldK K (pv 0) rfl) (pa_cons (fldK K (pv 0) rfl) (pa_cons (fldK K (pv 0) rfl) pa_nil)))) (tupGK K rfl (pgs_cons (pg_name (i := 2) nd rfl (by first | exact Or.inl rfl | exact Or.inr rfl)) (pgs_cons (pg_name (i := 3) nd rfl (by first | exact Or.inl rfl | exact Or.inr rfl)) (pgs_cons (pg_name (i := 4) nd rfl (by first | exact Or.inl rfl | exact Or.inr rfl)) pgs_nil)))) (pss_cons (ps_expr (bmK K PySem.F.plainAttrs_list PySem.F.slot_list_extend PySem.F.type_list_extend mt_extend (pv 1) (pa_cons (pe_op op_cat (pe_lst (pa_cons pe_str (pa_cons (pv 2) (pa_cons pe_str pa_nil)))) (pv 3)) pa_nil))) (pss_cons (ps_if (truthK K (pv 4) (by intro _; rfl)) (pss_cons (ps_expr (bmK K PySem.F.plainAttrs_list PySem.F.slot_list_extend PySem.F.type_list_extend mt_extend (pv 1) (pa_cons (pe_op op_cat (pe_lst (pa_cons pe_str pa_nil)) (pe_lc (own := [("earlier", 5)]) (g := (gName 5)) (tt := tYes) rfl nd (listIK K (pv 4)) (blkOk_by (N := n_format_house) (sc := defScope s_format_house) (by decide +kernel)) (fun _ _ _ _ _ => pg_name (i := 5) nd rfl (by first | exact Or.inl rfl | exact Or.inr rfl)) (fun _ _ _ _ _ => pts_nil) (fun _ _ _ _ _ => (pe_ix (ixK K) (fldK K (pv 0) rfl) (pv 5) (fun _ _ => rfl))))) pa_nil))) pss_nil) pss_nil) (pss_cons (ps_expr (bmK K PySem.F.plainAttrs_list PySem.F.slot_list_append PySem.F.type_list_append mt_append (pv 1) (pa_cons pe_str pa_nil))) pss_nil)))) (pss_cons (ps_expr (bmK K PySem.F.plainAttrs_list PySem.F.slot_list_append PySem.F.type_list_append mt_append (pv 1) (pa_cons pe_str pa_nil))) (pss_cons (ps_ret (joinK pe_str (pv 1))) pss_never)))), ?_⟩
  exact all1 fun house_1 => (tv_cons (sv_asgN (i := 1) (evn_lst (ea_cons ev_str ea_nil))) (fun parts_2 => (tv_cons (sv_for (f := dUn3) (inv := (fun (b : D) => [.vl house_1, .ow (.l .v) b, .jk, .jk, .jk, .jk])) parts_2 (iv_zip3 (ev_fld tx.House (.head _) (ev_v (i := 0) (d := house_1) rfl)) (ev_fld tx.House (.tail _ (.head _)) (ev_v (i := 0) (d := house_1) rfl)) (ev_fld tx.House (.tail _ (.tail _ (.head _))) (ev_v (i := 0) (d := house_1) rfl))) (.same (.same (.same (.same (.same (.same .nil)))))) gv_tup3 (fun c_12 b_11 => (sv_cons (sv_ext (i := 1) (d := b_11) rfl rfl ((evn_op o_cat ((evn_lst (ea_cons ev_str (ea_cons (ev_v (i := 2) (d := c_12.1) rfl) (ea_cons ev_str ea_nil))))).ev (ev_v (i := 3) (d := c_12.2.1) rfl))).ev) (fun parts_22 => (sv_cons (sv_if (post := (fun (b : D) => [.vl house_1, .ow (.l .v) b, .vl c_12.1, .vl c_12.2.1, .vl c_12.2.2, .jk])) (et_tru (ev_v (i := 4) (d := c_12.2.2) rfl)) (sv_cons (sv_ext (i := 1) (d := parts_22) rfl rfl ((evn_op o_cat ((evn_lst (ea_cons ev_str ea_nil))).ev ((evn_lc (f := some) (iv_list (ev_v (i := 4) (d := c_12.2.2) rfl)) gv_name (gw_name (by decide)) (fun c_27 => et_yes) (fun c_27 => (ev_op o_ix (ev_fld tx.House (.head _) (ev_v (i := 0) (d := house_1) rfl)) (ev_v (i := 5) (d := c_27) rfl))))).ev)).ev) (fun parts_35 => (sv_nil parts_35 (.same (.same (.same (.same (.same (.same .nil))))))))) (sv_nil parts_22 (.same (.same (.same (.same (.same (.same .nil)))))))) (fun s_24 => (sv_cons (sv_app (i := 1) (d := s_24) rfl rfl ev_str) (fun parts_37 => (sv_nil parts_37 (.same (.same (.drop (.drop (.drop (.same .nil))))))))))))))) (fun s_39 => (tv_cons (sv_app (i := 1) (d := s_39) rfl rfl ev_str) (fun parts_41 => (tv_ret (ev_pre (i := 1) (d := parts_41) rfl (ev_join ev_str (ev_v (i := 1) (d := parts_41) rfl))))))))))
/-! _law_text_words -/
noncomputable abbrev s_law_text_words : Stmt := topS 34
noncomputable abbrev n_law_text_words : List Str := ["house", "names", "words", "heard", "found", "v", "u"]
theorem sc_law_text_words : FnScope n_law_text_words ["house"] (defScope s_law_text_words) := ⟨rfl, rfl, rfl, by decide +kernel, rfl, by decide +kernel, by decide +kernel⟩
theorem ok_law_text_words {fa : Addr} {fd : FuncData} (F : Fun K "_law_text_words" "_law_text_words" s_law_text_words fa fd) (hm : mg "_law_text_words" = some (.ref fa)) (hb : Binds K fd ["house"] []) (bl : Bi mg) (gx : Gx K mg az zv) (ti : Ti K cl mg) (tx : Tx K cl)  : Con P w K cl mg base 1 "_law_text_words" (on1 (m_law_text_words)) fa fd ["house"] := by
  refine fun_con (k := 0) F sc_law_text_words rfl ar1 hm hb (fun cdv A outer s H E hr => ?_)
  have nd := sc_law_text_words.nd
  refine ⟨_, (pss_cons (ps_asg (pv 0) (tupGK K rfl (pgs_cons (pg_name (i := 1) nd rfl (by first | exact Or.inl rfl | exact Or.inr rfl)) (pgs_cons (pg_name (i := 2) nd rfl (by first | exact Or.inl rfl | exact Or.inr rfl)) (pgs_cons (pg_name (i := 3) nd rfl (by first | exact Or.inl rfl | exact Or.inr rfl)) pgs_nil))))) (pss_cons (ps_set (i := 4) nd rfl (by first | exact Or.inl rfl | exact Or.inr rfl) (pe_lst (pa_cons pe_str pa_nil))) (pss_cons (ps_for PassesOwn.never rfl (pi_range1 (by rfl) bl.range (pa_cons (pe_callB (lenK K) (by rfl) bl.len (by decide +kernel) (pa_cons (pv 1) pa_nil)) pa_nil)) (pg_name (i := 5) nd rfl (by first | exact Or.inl rfl | exact Or.inr rfl)) (pss_cons (ps_set (i := 4) nd rfl (by first | exact Or.inl rfl | exact Or.inr rfl) (pe_op op_cat (pe_op op_cat (pv 4) (pe_lst (pa_cons pe_str (pa_cons (pe_ix (ixK K) (pv 1) (pv 5) (fun _ _ => rfl)) (pa_cons pe_str pa_nil))))) (pe_ix (ixK K) (pv 2) (pv 5) (fun _ _ => rfl)))) (pss_cons (ps_if (truthK K (pe_ix (ixK K) (pv 3) (pv 5) (fun _ _ => rfl)) (by intro _; rfl)) (pss_cons (ps_set (i := 4) nd rfl (by first | exact Or.inl rfl | exact Or.inr rfl) (pe_op op_cat (pe_op op_cat (pv 4) (pe_lst (pa_cons pe_str pa_nil))) (pe_lc (own := [("u", 6)]) (g := (gName 6)) (tt := tYes) rfl nd (listIK K (pe_ix (ixK K) (pv 3) (pv 5) (fun _ _ => rfl))) (blkOk_by (N := n_law_text_words) (sc := defScope s_law_text_words) (by decide +kernel)) (fun _ _ _ _ _ => pg_name (i := 6) nd rfl (by first | exact Or.inl rfl | exact Or.inr rfl)) (fun _ _ _ _ _ => pts_nil) (fun _ _ _ _ _ => (pe_ix (ixK K) (pv 1) (pv 6) (fun _ _ => rfl)))))) pss_nil) pss_nil) (pss_cons (ps_set (i := 4) nd rfl (by first | exact Or.inl rfl | exact Or.inr rfl) (pe_op op_cat (pv 4) (pe_lst (pa_cons pe_str pa_nil)))) pss_nil)))) (pss_cons (ps_ret (pe_op op_cat (pv 4) (pe_lst (pa_cons pe_str pa_nil)))) pss_never)))), ?_⟩
  exact all1 fun house_1 => (tv_cons (sv_asgG (ev_v (i := 0) (d := house_1) rfl) gv_tup3) (fun c_2 => (tv_cons (sv_asg (i := 4) ((evn_lst (ea_cons ev_str ea_nil))).ev) (fun found_3 => (tv_cons (sv_for (f := some) (inv := (fun (b : D) => [.vl house_1, .vl c_2.1, .vl c_2.2.1, .vl c_2.2.2, .vl b, .jk, .jk])) found_3 (iv_rng1 (ev_cb o_len (ea_cons (ev_v (i := 1) (d := c_2.1) rfl) ea_nil))) (.same (.same (.same (.same (.same (.same (.same .nil))))))) gv_name (fun c_9 b_8 => (sv_cons (sv_asg (i := 4) ((evn_op o_cat ((evn_op o_cat (ev_v (i := 4) (d := b_8) rfl) ((evn_lst (ea_cons ev_str (ea_cons (ev_op o_ix (ev_v (i := 1) (d := c_2.1) rfl) (ev_v (i := 5) (d := c_9) rfl)) (ea_cons ev_str ea_nil))))).ev)).ev (ev_op o_ix (ev_v (i := 2) (d := c_2.2.1) rfl) (ev_v (i := 5) (d := c_9) rfl)))).ev) (fun found_10 => (sv_cons (sv_if (post := (fun (b : D) => [.vl house_1, .vl c_2.1, .vl c_2.2.1, .vl c_2.2.2, .vl b, .vl c_9, .jk])) (et_tru (ev_op o_ix (ev_v (i := 3) (d := c_2.2.2) rfl) (ev_v (i := 5) (d := c_9) rfl))) (sv_cons (sv_asg (i := 4) ((evn_op o_cat ((evn_op o_cat (ev_v (i := 4) (d := found_10) rfl) ((evn_lst (ea_cons ev_str ea_nil))).ev)).ev ((evn_lc (f := some) (iv_list (ev_op o_ix (ev_v (i := 3) (d := c_2.2.2) rfl) (ev_v (i := 5) (d := c_9) rfl))) gv_name (gw_name (by decide)) (fun c_36 => et_yes) (fun c_36 => (ev_op o_ix (ev_v (i := 1) (d := c_2.1) rfl) (ev_v (i := 6) (d := c_36) rfl))))).ev)).ev) (fun found_29 => (sv_nil found_29 (.same (.same (.same (.same (.same (.same (.same .nil)))))))))) (sv_nil found_10 (.same (.same (.same (.same (.same (.same (.same .nil))))))))) (fun s_28 => (sv_cons (sv_asg (i := 4) ((evn_op o_cat (ev_v (i := 4) (d := s_28) rfl) ((evn_lst (ea_cons ev_str ea_nil))).ev)).ev) (fun found_43 => (sv_nil found_43 (.same (.same (.same (.same (.same (.drop (.same .nil)))))))))))))))) (fun s_49 => (tv_ret ((evn_op o_cat (ev_v (i := 4) (d := s_49) rfl) ((evn_lst (ea_cons ev_str ea_nil))).ev)).ev)))))))
/-! _law_is_integer -/
noncomputable abbrev s_law_is_integer : Stmt := topS 25
noncomputable abbrev n_law_is_integer : List Str := ["x"]
theorem sc_law_is_integer : FnScope n_law_is_integer ["x"] (defScope s_law_is_integer) := ⟨rfl, rfl, rfl, by decide +kernel, rfl, by decide +kernel, by decide +kernel⟩
theorem ok_law_is_integer {fa : Addr} {fd : FuncData} (F : Fun K "_law_is_integer" "_law_is_integer" s_law_is_integer fa fd) (hm : mg "_law_is_integer" = some (.ref fa)) (hb : Binds K fd ["x"] []) (bl : Bi mg) (gx : Gx K mg az zv) (ti : Ti K cl mg) (tx : Tx K cl)  : Con P w K cl mg base 1 "_law_is_integer" (on1 (m_law_is_integer)) fa fd ["x"] := by
  refine fun_con (k := 0) F sc_law_is_integer rfl ar1 hm hb (fun cdv A outer s H E hr => ?_)
  have nd := sc_law_is_integer.nd
  refine ⟨_, (pss_cons (ps_ret (pe_and (pe_callB (isiK K) (by rfl) bl.isinstance (by decide +kernel) (pa_cons (pv 0) (pa_cons (pe_bltn (v := .ty "int") (by rfl) bl.int (by decide +kernel) rfl) pa_nil))) (pe_one (pe_not (pe_callB (isiK K) (by rfl) bl.isinstance (by decide +kernel) (pa_cons (pv 0) (pa_cons (pe_bltn (v := .ty "bool") (by rfl) bl.bool (by decide +kernel) rfl) pa_nil))))))) pss_never), ?_⟩
  exact all1 fun x_1 => (tv_ret (ev_and (ev_isi .int (ev_v (i := 0) (d := x_1) rfl)) (ev_not (ev_isi .bool (ev_v (i := 0) (d := x_1) rfl)))))
/-! _law_same -/
noncomputable abbrev s_law_same : Stmt := topS 37
noncomputable abbrev n_law_same : List Str := ["actual", "due", "k"]
theorem sc_law_same : FnScope n_law_same ["actual", "due"] (defScope s_law_same) := ⟨rfl, rfl, rfl, by decide +kernel, rfl, by decide +kernel, by decide +kernel⟩
theorem ok_law_same {fa : Addr} {fd : FuncData} (F : Fun K "_law_same" "_law_same" s_law_same fa fd) (hm : mg "_law_same" = some (.ref fa)) (hb : Binds K fd ["actual", "due"] []) (bl : Bi mg) (gx : Gx K mg az zv) (ti : Ti K cl mg) (tx : Tx K cl) {f0 : Addr} {fd0 : FuncData} (C_law_is_integer : Con P w K cl mg base 1 "_law_is_integer" (on1 (m_law_is_integer)) f0 fd0 ["x"]) : ∀ fuel : Nat, Con P w K cl mg base (2 + fuel) "_law_same" (on2 (m_law_same fuel)) fa fd ["actual", "due"]
  | 0 => ⟨con_none (fun ds d h => by
      have hl := ar2 ds d h
      match ds, hl, h with | [_, _], _, h => exact nomatch h), hm, F.kp, hb⟩
  | fuel + 1 => by
    have IH := ok_law_same F hm hb bl gx ti tx C_law_is_integer fuel
    refine fun_con (k := 2 + fuel) F sc_law_same rfl ar2 hm hb (fun cdv A outer s H E hr => ?_)
    have nd := sc_law_same.nd
    refine ⟨_, (pss_cons (ps_if (PW.pt (pw_or (pt_val (pe_callB (isiK K) (by rfl) bl.isinstance (by decide +kernel) (pa_cons (pv 1) (pa_cons (pe_bltn (v := .ty "list") (by rfl) bl.list (by decide +kernel) rfl) pa_nil)))) (pw_or1 (pt_val (pe_callB (isiK K) (by rfl) bl.isinstance (by decide +kernel) (pa_cons (pv 1) (pa_cons (pe_bltn (v := .ty "tuple") (by rfl) bl.tuple (by decide +kernel) rfl) pa_nil))))))) (pss_cons (ps_if (PW.pt (pw_or (pt_cmpR op_ne (pe_callB (isiK K) (by rfl) bl.isinstance (by decide +kernel) (pa_cons (pv 0) (pa_cons (pe_bltn (v := .ty "list") (by rfl) bl.list (by decide +kernel) rfl) pa_nil))) (pe_callB (isiK K) (by rfl) bl.isinstance (by decide +kernel) (pa_cons (pv 1) (pa_cons (pe_bltn (v := .ty "list") (by rfl) bl.list (by decide +kernel) rfl) pa_nil))) (nomark _)) (pw_or1 (pt_cmpR op_ne (pe_callB (isiK K) (by rfl) bl.isinstance (by decide +kernel) (pa_cons (pv 0) (pa_cons (pe_bltn (v := .ty "tuple") (by rfl) bl.tuple (by decide +kernel) rfl) pa_nil))) (pe_callB (isiK K) (by rfl) bl.isinstance (by decide +kernel) (pa_cons (pv 1) (pa_cons (pe_bltn (v := .ty "tuple") (by rfl) bl.tuple (by decide +kernel) rfl) pa_nil))) (nomark _))))) (pss_cons (ps_ret pe_bl) pss_never) pss_nil) (pss_cons (ps_if (pt_cmpR op_ne (pe_callB (lenK K) (by rfl) bl.len (by decide +kernel) (pa_cons (pv 0) pa_nil)) (pe_callB (lenK K) (by rfl) bl.len (by decide +kernel) (pa_cons (pv 1) pa_nil)) (nomark _)) (pss_cons (ps_ret pe_bl) pss_never) pss_nil) (pss_cons (ps_for PassesOwn.never rfl (pi_range1 (by rfl) bl.range (pa_cons (pe_callB (lenK K) (by rfl) bl.len (by decide +kernel) (pa_cons (pv 1) pa_nil)) pa_nil)) (pg_name (i := 2) nd rfl (by first | exact Or.inl rfl | exact Or.inr rfl)) (pss_cons (ps_if (pt_not (pt_val (pe_call IH.ok (hr.mono (by omega)) (by rfl) IH.mg IH.kp IH.bd .nil pass0 (pa_cons (pe_ix (ixK K) (pv 0) (pv 2) (fun _ _ => rfl)) (pa_cons (pe_ix (ixK K) (pv 1) (pv 2) (fun _ _ => rfl)) pa_nil))))) (pss_cons (ps_ret pe_bl) pss_never) pss_nil) pss_nil)) (pss_cons (ps_ret pe_bl) pss_never)))) pss_nil) (pss_cons (ps_if (pt_val (pe_callB (isiK K) (by rfl) bl.isinstance (by decide +kernel) (pa_cons (pv 1) (pa_cons (pe_bltn (v := .ty "bool") (by rfl) bl.bool (by decide +kernel) rfl) pa_nil)))) (pss_cons (ps_ret (pe_and (pe_callB (isiK K) (by rfl) bl.isinstance (by decide +kernel) (pa_cons (pv 0) (pa_cons (pe_bltn (v := .ty "bool") (by rfl) bl.bool (by decide +kernel) rfl) pa_nil))) (pe_one (pe_cmpR (eqK K hr) (pv 0) (pv 1) (nomark _))))) pss_never) pss_nil) (pss_cons (ps_if (pt_val (pe_callB (isiK K) (by rfl) bl.isinstance (by decide +kernel) (pa_cons (pv 1) (pa_cons (pe_bltn (v := .ty "int") (by rfl) bl.int (by decide +kernel) rfl) pa_nil)))) (pss_cons (ps_ret (pe_and (pe_call C_law_is_integer.ok (hr.mono (by omega)) (by rfl) C_law_is_integer.mg C_law_is_integer.kp C_law_is_integer.bd .nil pass0 (pa_cons (pv 0) pa_nil)) (pe_one (pe_cmpR (eqK K hr) (pv 0) (pv 1) (nomark _))))) pss_never) pss_nil) (pss_cons (ps_ret (pe_and (pe_callB (isiK K) (by rfl) bl.isinstance (by decide +kernel) (pa_cons (pv 0) (pa_cons (pe_bltn (v := .ty "str") (by rfl) bl.str (by decide +kernel) rfl) pa_nil))) (pe_one (pe_cmpR (eqK K hr) (pv 0) (pv 1) (nomark _))))) pss_never)))), ?_⟩
    exact all2 fun actual_1 due_2 => (tv_ifl (et_or (et_B (ev_isi .list (ev_v (i := 1) (d := due_2) rfl))) (et_B (ev_isi .tuple (ev_v (i := 1) (d := due_2) rfl)))) (tv_ifl (et_or (et_op o_neF (ev_isi .list (ev_v (i := 0) (d := actual_1) rfl)) (ev_isi .list (ev_v (i := 1) (d := due_2) rfl))) (et_op o_neF (ev_isi .tuple (ev_v (i := 0) (d := actual_1) rfl)) (ev_isi .tuple (ev_v (i := 1) (d := due_2) rfl)))) (tv_ret ev_bl) (tv_ifl (et_op o_neF (ev_cb o_len (ea_cons (ev_v (i := 0) (d := actual_1) rfl) ea_nil)) (ev_cb o_len (ea_cons (ev_v (i := 1) (d := due_2) rfl) ea_nil))) (tv_ret ev_bl) (tv_flow (out := fun c => nomatch c) (fv_for (γ := Empty) (f := some) (inv := (fun (b : Unit) => [.vl actual_1, .vl due_2, .jk])) () (iv_rng1 (ev_cb o_len (ea_cons (ev_v (i := 1) (d := due_2) rfl) ea_nil))) (.same (.same (.same .nil))) gv_name (fun c_21 b_20 => (fv_ifl (post0 := fun _ => []) (et_not (et_B (ev_call (ea_cons (ev_op o_ix (ev_v (i := 0) (d := actual_1) rfl) (ev_v (i := 2) (d := c_21) rfl)) (ea_cons (ev_op o_ix (ev_v (i := 1) (d := due_2) rfl) (ev_v (i := 2) (d := c_21) rfl)) ea_nil))))) (fv_ret ev_bl) (fv_nil () (.same (.same (.drop .nil))))))) (fun s_33 => (tv_ret ev_bl))))) (tv_ifl (et_B (ev_isi .bool (ev_v (i := 1) (d := due_2) rfl))) (tv_ret (ev_and (ev_isi .bool (ev_v (i := 0) (d := actual_1) rfl)) (ev_op o_eq (ev_v (i := 0) (d := actual_1) rfl) (ev_v (i := 1) (d := due_2) rfl)))) (tv_ifl (et_B (ev_isi .int (ev_v (i := 1) (d := due_2) rfl))) (tv_ret (ev_and (ev_call (ea_cons (ev_v (i := 0) (d := actual_1) rfl) ea_nil)) (ev_op o_eq (ev_v (i := 0) (d := actual_1) rfl) (ev_v (i := 1) (d := due_2) rfl)))) (tv_ret (ev_and (ev_isi .str (ev_v (i := 0) (d := actual_1) rfl)) (ev_op o_eq (ev_v (i := 0) (d := actual_1) rfl) (ev_v (i := 1) (d := due_2) rfl)))))))
/-! _law_same_house -/
noncomputable abbrev s_law_same_house : Stmt := topS 35
noncomputable abbrev n_law_same_house : List Str := ["actual", "house"]
theorem sc_law_same_house : FnScope n_law_same_house ["actual", "house"] (defScope s_law_same_house) := ⟨rfl, rfl, rfl, by decide +kernel, rfl, by decide +kernel, by decide +kernel⟩
theorem ok_law_same_house {fa : Addr} {fd : FuncData} (F : Fun K "_law_same_house" "_law_same_house" s_law_same_house fa fd) (hm : mg "_law_same_house" = some (.ref fa)) (hb : Binds K fd ["actual", "house"] []) (bl : Bi mg) (gx : Gx K mg az zv) (ti : Ti K cl mg) (tx : Tx K cl) {f0 : Addr} {fd0 : FuncData} (C_law_same : Con P w K cl mg base 14 "_law_same" (on2 (m_law_same 12)) f0 fd0 ["actual", "due"]) : Con P w K cl mg base 15 "_law_same_house" (on2 (m_law_same_house)) fa fd ["actual", "house"] := by
  refine fun_con (k := 14) F sc_law_same_house rfl ar2 hm hb (fun cdv A outer s H E hr => ?_)
  have nd := sc_law_same_house.nd
  refine ⟨_, (pss_cons (ps_if (pt_not (pt_val (pe_callB (isiK K) (by rfl) bl.isinstance (by decide +kernel) (pa_cons (pv 0) (pa_cons (pe_glob (v := .ref (cl.c 1)) rfl ti.House_mg rfl) pa_nil))))) (pss_cons (ps_ret pe_bl) pss_never) pss_nil) (pss_cons (ps_ret (pe_and (pe_call C_law_same.ok (hr.mono (by omega)) (by rfl) C_law_same.mg C_law_same.kp C_law_same.bd .nil pass0 (pa_cons (fldK K (pv 0) rfl) (pa_cons (pe_ix (ixK K) (pv 1) pe_int (fun _ _ => rfl)) pa_nil))) (pe_and (pe_call C_law_same.ok (hr.mono (by omega)) (by rfl) C_law_same.mg C_law_same.kp C_law_same.bd .nil pass0 (pa_cons (fldK K (pv 0) rfl) (pa_cons (pe_ix (ixK K) (pv 1) pe_int (fun _ _ => rfl)) pa_nil))) (pe_one (pe_call C_law_same.ok (hr.mono (by omega)) (by rfl) C_law_same.mg C_law_same.kp C_law_same.bd .nil pass0 (pa_cons (fldK K (pv 0) rfl) (pa_cons (pe_ix (ixK K) (pv 1) pe_int (fun _ _ => rfl)) pa_nil))))))) pss_never)), ?_⟩
  exact all2 fun actual_1 house_2 => (tv_ifl (et_not (et_B (ev_isO tx.House ti.House (ev_v (i := 0) (d := actual_1) rfl)))) (tv_ret ev_bl) (tv_ret (ev_and (ev_call (ea_cons (ev_fld tx.House (.head _) (ev_v (i := 0) (d := actual_1) rfl)) (ea_cons (ev_op o_ix (ev_v (i := 1) (d := house_2) rfl) ev_int) ea_nil))) (ev_and (ev_call (ea_cons (ev_fld tx.House (.tail _ (.head _)) (ev_v (i := 0) (d := actual_1) rfl)) (ea_cons (ev_op o_ix (ev_v (i := 1) (d := house_2) rfl) ev_int) ea_nil))) (ev_call (ea_cons (ev_fld tx.House (.tail _ (.tail _ (.head _))) (ev_v (i := 0) (d := actual_1) rfl)) (ea_cons (ev_op o_ix (ev_v (i := 1) (d := house_2) rfl) ev_int) ea_nil)))))))
/-! _law_spaced -/
noncomputable abbrev s_law_spaced : Stmt := topS 36
noncomputable abbrev n_law_spaced : List Str := ["words", "row", "text", "k"]
theorem sc_law_spaced : FnScope n_law_spaced ["words", "row"] (defScope s_law_spaced) := ⟨rfl, rfl, rfl, by decide +kernel, rfl, by decide +kernel, by decide +kernel⟩
theorem ok_law_spaced {fa : Addr} {fd : FuncData} (F : Fun K "_law_spaced" "_law_spaced" s_law_spaced fa fd) (hm : mg "_law_spaced" = some (.ref fa)) (hb : Binds K fd ["words", "row"] []) (bl : Bi mg) (gx : Gx K mg az zv) (ti : Ti K cl mg) (tx : Tx K cl)  : Con P w K cl mg base 1 "_law_spaced" (on2 (m_law_spaced)) fa fd ["words", "row"] := by
  refine fun_con (k := 0) F sc_law_spaced rfl ar2 hm hb (fun cdv A outer s H E hr => ?_)
  have nd := sc_law_spaced.nd
  refine ⟨_, (pss_cons (ps_set (i := 2) nd rfl (by first | exact Or.inl rfl | exact Or.inr rfl) (pe_op op_mulT pe_str (pe_op op_mod (pe_callTy call_int1 (by rfl) bl.int (by decide +kernel) (pa_cons (pe_ix (ixK K) (pv 1) pe_int (fun _ _ => rfl)) pa_nil)) pe_int))) (pss_cons (ps_for PassesOwn.never rfl (pi_range1 (by rfl) bl.range (pa_cons (pe_callB (lenK K) (by rfl) bl.len (by decide +kernel) (pa_cons (pv 0) pa_nil)) pa_nil)) (pg_name (i := 3) nd rfl (by first | exact Or.inl rfl | exact Or.inr rfl)) (pss_cons (ps_if (pt_cmpR op_gt (pv 3) pe_int (nomark _)) (pss_cons (ps_set (i := 2) nd rfl (by first | exact Or.inl rfl | exact Or.inr rfl) (pe_op op_addD (pv 2) (pe_op op_mulT pe_str (pe_op op_addD pe_int (pe_op op_mod (pe_callTy call_int1 (by rfl) bl.int (by decide +kernel) (pa_cons (pe_op op_fdivP (pe_ix (ixK K) (pv 1) (pe_op op_addD pe_int (pe_op op_mod (pv 3) pe_int)) (fun _ _ => rfl)) (pe_op op_addD pe_int (pv 3))) pa_nil)) pe_int))))) pss_nil) pss_nil) (pss_cons (ps_set (i := 2) nd rfl (by first | exact Or.inl rfl | exact Or.inr rfl) (pe_op op_addD (pv 2) (pe_ix (ixK K) (pv 0) (pv 3) (fun _ _ => rfl)))) pss_nil))) (pss_cons (ps_ret (pe_op op_addD (pv 2) (pe_op op_mulT pe_str (pe_op op_mod (pe_callTy call_int1 (by rfl) bl.int (by decide +kernel) (pa_cons (pe_ix (ixK K) (pv 1) pe_int (fun _ _ => rfl)) pa_nil)) pe_int)))) pss_never))), ?_⟩
  exact all2 fun words_1 row_2 => (tv_cons (sv_asg (i := 2) (ev_op o_mulT ev_str (ev_op o_mod (ev_cb o_int (ea_cons (ev_op o_ix (ev_v (i := 1) (d := row_2) rfl) ev_int) ea_nil)) ev_int))) (fun text_3 => (tv_cons (sv_for (f := some) (inv := (fun (b : D) => [.vl words_1, .vl row_2, .vl b, .jk])) text_3 (iv_rng1 (ev_cb o_len (ea_cons (ev_v (i := 0) (d := words_1) rfl) ea_nil))) (.same (.same (.same (.same .nil)))) gv_name (fun c_15 b_14 => (sv_cons (sv_if (post := (fun (b : D) => [.vl words_1, .vl row_2, .vl b, .vl c_15])) (et_op o_gt (ev_v (i := 3) (d := c_15) rfl) ev_int) (sv_cons (sv_asg (i := 2) (ev_op o_add (ev_v (i := 2) (d := b_14) rfl) (ev_op o_mulT ev_str (ev_op o_add ev_int (ev_op o_mod (ev_cb o_int (ea_cons (ev_op o_fdiv (ev_op o_ix (ev_v (i := 1) (d := row_2) rfl) (ev_op o_add ev_int (ev_op o_mod (ev_v (i := 3) (d := c_15) rfl) ev_int))) (ev_op o_add ev_int (ev_v (i := 3) (d := c_15) rfl))) ea_nil)) ev_int))))) (fun text_20 => (sv_nil text_20 (.same (.same (.same (.same .nil))))))) (sv_nil b_14 (.same (.same (.same (.same .nil)))))) (fun s_19 => (sv_cons (sv_asg (i := 2) (ev_op o_add (ev_v (i := 2) (d := s_19) rfl) (ev_op o_ix (ev_v (i := 0) (d := words_1) rfl) (ev_v (i := 3) (d := c_15) rfl)))) (fun text_41 => (sv_nil text_41 (.same (.same (.same (.drop .nil))))))))))) (fun s_47 => (tv_ret (ev_op o_add (ev_v (i := 2) (d := s_47) rfl) (ev_op o_mulT ev_str (ev_op o_mod (ev_cb o_int (ea_cons (ev_op o_ix (ev_v (i := 1) (d := row_2) rfl) ev_int) ea_nil)) ev_int))))))))
/-! Reader.__init__ -/
noncomputable abbrev s_Reader : Stmt := inClass (topS 9) 0
noncomputable abbrev n_Reader : List Str := ["self", "text", "word"]
theorem sc_Reader : FnScope n_Reader ["self", "text"] (defScope s_Reader) := ⟨rfl, rfl, rfl, by decide +kernel, rfl, by decide +kernel, by decide +kernel⟩
theorem ok_Reader {fa : Addr} {fd : FuncData} (F : Fun K "__init__" "Reader.__init__" s_Reader fa fd) (M : Mk K (cl.c 0) fa) (hm : mg "Reader" = some (.ref (cl.c 0))) (hb : Binds K fd ["self", "text"] []) (bl : Bi mg) (gx : Gx K mg az zv) (tx : Tx K cl)  : ConJ P w K cl mg base 1 0 "Reader" (shF [("words", .l .v)]) mk_Reader fa fd ["self", "text"] := by
  refine initJ_con (fs0 := (shF [("words", .l .v)])) (k := 0) F sc_Reader rfl ar1 M hm hb (fun cdv A outer s H E hr => ?_)
  have nd := sc_Reader.nd
  refine ⟨_, (pss_cons (ps_fld (pv 0) (pe_lc (own := [("word", 2)]) (g := (gName 2)) (tt := _) rfl nd (listIK K (splitK (pv 1) pe_str)) (blkOk_by (N := n_Reader) (sc := defScope s_Reader) (by decide +kernel)) (fun _ _ _ _ _ => pg_name (i := 2) nd rfl (by first | exact Or.inl rfl | exact Or.inr rfl)) (fun _ _ _ _ _ => pts_one (pt_cmpR op_ne (pv 2) pe_str (nomark _))) (fun _ _ _ _ _ => (pv 2))) rfl) (pss_cons (ps_fld (pv 0) pe_int rfl) pss_nil)), ?_⟩
  exact fun xa ds hl => match ds, hl with | [text_1], _ => (by show SV K cl _ _ (((((((some text_1).bind fun t2 => (some (.str " ")).bind fun t3 => dSplit t2 t3).bind asL).bind fun xs => (capD xs).bind fun xs => (compD (fun x_7 => (some x_7).bind fun c_4 => ((some c_4).bind fun t5 => (some (.str "")).bind fun t6 => (dNeF t5 t6).bind asB).bind fun b_8 => if b_8 = true then (some c_4).map some else some none) xs).map .lst).bind fun t9 => dStF 0 "words" (.ob 0 []) t9).bind fun self_10 => (((some (.int 0)).bind fun t11 => dStF 0 "at" self_10 t11).bind fun self_12 => (some self_12)))) _; exact (sv_cons (sv_fldJO (i := 0) (x := (.ob 0 [])) (po := ((some xa))) (fs := (shF [("words", .l .v)])) (sh := .l .v) tx.Reader (.head _) rfl rfl ((evn_lc (f := some) (iv_list ((evn_split (ev_v (i := 1) (d := text_1) rfl) ev_str)).ev) gv_name (gw_name (by decide)) (fun c_4 => (et_op o_neF (ev_v (i := 2) (d := c_4) rfl) ev_str)) (fun c_4 => (ev_v (i := 2) (d := c_4) rfl)))).evo) (fun self_10 => (sv_cons (sv_fldJ (i := 0) (x := self_10) (po := ((some xa))) (fs := (shF [("words", .l .v)])) tx.Reader (.tail _ (.head _)) rfl rfl ev_int) (fun self_12 => (sv_nil self_12 (.same (.drop (.same .nil)))))))))
/-! Reader.ended -/
noncomputable abbrev s_Reader_ended : Stmt := inClass (topS 9) 1
noncomputable abbrev n_Reader_ended : List Str := ["self"]
theorem sc_Reader_ended : FnScope n_Reader_ended ["self"] (defScope s_Reader_ended) := ⟨rfl, rfl, rfl, by decide +kernel, rfl, by decide +kernel, by decide +kernel⟩
theorem ok_Reader_ended {fa : Addr} {fd : FuncData} (F : Fun K "ended" "Reader.ended" s_Reader_ended fa fd) (hm : Meth K (cl.c 0) "ended" fa) (hb : Binds K fd ["self"] []) (bl : Bi mg) (gx : Gx K mg az zv) (tx : Tx K cl)  : ConM P w K cl mg base 1 0 "ended" (on1 (m_Reader_ended)) fa fd ["self"] := by
  refine pure_con (k := 0) F sc_Reader_ended rfl ar1 hm hb (fun cdv A outer s H E hr => ?_)
  have nd := sc_Reader_ended.nd
  refine ⟨_, (pss_cons (ps_ret (pe_cmpR op_eq (fldK K (pv 0) rfl) (pe_callB (lenK K) (by rfl) bl.len (by decide +kernel) (pa_cons (fldK K (pv 0) rfl) pa_nil)) (nomark _))) pss_never), ?_⟩
  exact all1 fun self_1 => (tv_ret (ev_op o_eqF (ev_fld tx.Reader (.tail _ (.head _)) (ev_v (i := 0) (d := self_1) rfl)) (ev_cb o_len (ea_cons (ev_fld tx.Reader (.head _) (ev_v (i := 0) (d := self_1) rfl)) ea_nil))))
/-! Reader.coming -/
noncomputable abbrev s_Reader_coming : Stmt := inClass (topS 9) 2
noncomputable abbrev n_Reader_coming : List Str := ["self"]
theorem sc_Reader_coming : FnScope n_Reader_coming ["self"] (defScope s_Reader_coming) := ⟨rfl, rfl, rfl, by decide +kernel, rfl, by decide +kernel, by decide +kernel⟩
theorem ok_Reader_coming {fa : Addr} {fd : FuncData} (F : Fun K "coming" "Reader.coming" s_Reader_coming fa fd) (hm : Meth K (cl.c 0) "coming" fa) (hb : Binds K fd ["self"] []) (bl : Bi mg) (gx : Gx K mg az zv) (tx : Tx K cl) {f0 : Addr} {fd0 : FuncData} (C_Reader_ended : ConM P w K cl mg base 1 0 "ended" (on1 (m_Reader_ended)) f0 fd0 ["self"]) : ConM P w K cl mg base 2 0 "coming" (on1 (m_Reader_coming)) fa fd ["self"] := by
  refine pure_con (k := 1) F sc_Reader_coming rfl ar1 hm hb (fun cdv A outer s H E hr => ?_)
  have nd := sc_Reader_coming.nd
  refine ⟨_, (pss_cons (ps_if (pt_val (pe_meth0 (pv 0) tx.Reader.c C_Reader_ended.mt C_Reader_ended.ok (hr.mono (by omega)) C_Reader_ended.bd .nil pass0)) (pss_cons (ps_ret pe_str) pss_never) pss_nil) (pss_cons (ps_ret (pe_ix (ixK K) (fldK K (pv 0) rfl) (fldK K (pv 0) rfl) (fun _ _ => rfl))) pss_never)), ?_⟩
  exact all1 fun self_1 => (tv_ifl (et_B (ev_meth (ev_v (i := 0) (d := self_1) rfl) ea_nil)) (tv_ret ev_str) (tv_ret (ev_op o_ix (ev_fld tx.Reader (.head _) (ev_v (i := 0) (d := self_1) rfl)) (ev_fld tx.Reader (.tail _ (.head _)) (ev_v (i := 0) (d := self_1) rfl)))))
/-! Reader.take -/
noncomputable abbrev s_Reader_take : Stmt := inClass (topS 9) 3
noncomputable abbrev n_Reader_take : List Str := ["self", "allowed", "word"]
theorem sc_Reader_take : FnScope n_Reader_take ["self", "allowed"] (defScope s_Reader_take) := ⟨rfl, rfl, rfl, by decide +kernel, rfl, by decide +kernel, by decide +kernel⟩
theorem ok_Reader_take {fa : Addr} {fd : FuncData} (F : Fun K "take" "Reader.take" s_Reader_take fa fd) (hm : Meth K (cl.c 0) "take" fa) (hb : Binds K fd ["self", "allowed"] []) (bl : Bi mg) (gx : Gx K mg az zv) (tx : Tx K cl) {f0 : Addr} {fd0 : FuncData} (C_Reader_coming : ConM P w K cl mg base 2 0 "coming" (on1 (m_Reader_coming)) f0 fd0 ["self"]) : ConO P w K cl mg base 3 0 "take" (shF [("words", .l .v)]) (fun d ds => ((own1 m_Reader_take) d ds).bind endO) fa fd ["self", "allowed"] := by
  refine meth_con (k := 2) F sc_Reader_take rfl arO1 hm hb (fun cdv A outer s H E hr => ?_)
  have nd := sc_Reader_take.nd
  refine ⟨_, (pss_cons (ps_set (i := 2) nd rfl (by first | exact Or.inl rfl | exact Or.inr rfl) (pe_meth0 (pv 0) tx.Reader.c C_Reader_coming.mt C_Reader_coming.ok (hr.mono (by omega)) C_Reader_coming.bd .nil pass0)) (pss_cons (ps_if (pt_cmpR (ninK K) (pv 2) (pv 1) (by rfl)) pss_never pss_nil) (pss_cons (ps_fldaug (pv 0) pe_int in_add) (pss_cons (ps_ret (pv 2)) pss_never)))), ?_⟩
  exact fun xa self_2 ds hl => match ds, hl with | [allowed_1], _ => (by show QV K cl xa _ _ _ (m_Reader_take self_2 allowed_1) _ _; unfold m_Reader_take; exact (q_cons (sv_asg (i := 2) (ev_lend (i := 0) (d := self_2) rfl (ev_meth (ev_v (i := 0) (d := self_2) rfl) ea_nil))) (fun word_3 => (q_cons (sv_ifno (et_op o_nin (ev_v (i := 2) (d := word_3) rfl) (ev_v (i := 1) (d := allowed_1) rfl))) (fun u_8 => (q_cons (sv_fldAugJ (i := 0) (x := self_2) tx.Reader (.tail _ (.head _)) rfl rfl ev_int) (fun self_12 => (q_ret (ev_v (i := 2) (d := word_3) rfl) rfl))))))))
/-! Reader.finish -/
noncomputable abbrev s_Reader_finish : Stmt := inClass (topS 9) 6
noncomputable abbrev n_Reader_finish : List Str := ["self"]
theorem sc_Reader_finish : FnScope n_Reader_finish ["self"] (defScope s_Reader_finish) := ⟨rfl, rfl, rfl, by decide +kernel, rfl, by decide +kernel, by decide +kernel⟩
theorem ok_Reader_finish {fa : Addr} {fd : FuncData} (F : Fun K "finish" "Reader.finish" s_Reader_finish fa fd) (hm : Meth K (cl.c 0) "finish" fa) (hb : Binds K fd ["self"] []) (bl : Bi mg) (gx : Gx K mg az zv) (tx : Tx K cl) {f0 : Addr} {fd0 : FuncData} (C_Reader_ended : ConM P w K cl mg base 1 0 "ended" (on1 (m_Reader_ended)) f0 fd0 ["self"]) : ConM P w K cl mg base 2 0 "finish" (on1 (m_Reader_finish)) fa fd ["self"] := by
  refine pure_con (k := 1) F sc_Reader_finish rfl ar1 hm hb (fun cdv A outer s H E hr => ?_)
  have nd := sc_Reader_finish.nd
  refine ⟨_, (pss_cons (ps_if (pt_not (pt_val (pe_meth0 (pv 0) tx.Reader.c C_Reader_ended.mt C_Reader_ended.ok (hr.mono (by omega)) C_Reader_ended.bd .nil pass0))) pss_never pss_nil) pss_nil), ?_⟩
  exact all1 fun self_1 => (tv_cons (sv_ifno (et_not (et_B (ev_meth (ev_v (i := 0) (d := self_1) rfl) ea_nil)))) (fun u_5 => tv_nil))
/-! words_after -/
noncomputable abbrev s_words_after : Stmt := topS 20
noncomputable abbrev n_words_after : List Str := ["many"]
theorem sc_words_after : FnScope n_words_after ["many"] (defScope s_words_after) := ⟨rfl, rfl, rfl, by decide +kernel, rfl, by decide +kernel, by decide +kernel⟩
theorem ok_words_after {fa : Addr} {fd : FuncData} (F : Fun K "words_after" "words_after" s_words_after fa fd) (hm : mg "words_after" = some (.ref fa)) (hb : Binds K fd ["many"] []) (bl : Bi mg) (gx : Gx K mg az zv) (ti : Ti K cl mg) (tx : Tx K cl)  : Con P w K cl mg base 1 "words_after" (on1 (m_words_after)) fa fd ["many"] := by
  refine fun_con (k := 0) F sc_words_after rfl ar1 hm hb (fun cdv A outer s H E hr => ?_)
  have nd := sc_words_after.nd
  refine ⟨_, (pss_cons (ps_if (pt_cmpR op_eq (pv 0) pe_int (nomark _)) (pss_cons (ps_ret (pe_lst (pa_cons pe_str pa_nil))) pss_never) pss_nil) (pss_cons (ps_if (pt_cmpR op_lt (pv 0) (pe_glob (v := .int (5)) rfl gx.MOST_VARIABLES.1 gx.MOST_VARIABLES.2) (nomark _)) (pss_cons (ps_ret (pe_lst (pa_cons pe_str (pa_cons pe_str pa_nil)))) pss_never) pss_nil) (pss_cons (ps_ret (pe_lst (pa_cons pe_str pa_nil))) pss_never))), ?_⟩
  exact all1 fun many_1 => (tv_ifl (et_op o_eqF (ev_v (i := 0) (d := many_1) rfl) ev_int) (tv_ret ((evn_lst (ea_cons ev_str ea_nil))).ev) (tv_ifl (et_op o_lt (ev_v (i := 0) (d := many_1) rfl) ev_int) (tv_ret ((evn_lst (ea_cons ev_str (ea_cons ev_str ea_nil)))).ev) (tv_ret ((evn_lst (ea_cons ev_str ea_nil))).ev)))
/-! is_name -/
noncomputable abbrev s_is_name : Stmt := topS 8
noncomputable abbrev n_is_name : List Str := ["word", "sign"]
theorem sc_is_name : FnScope n_is_name ["word"] (defScope s_is_name) := ⟨rfl, rfl, rfl, by decide +kernel, rfl, by decide +kernel, by decide +kernel⟩
theorem ok_is_name {gC gP : Addr} {fa : Addr} {fd : FuncData} (F : FunC K "is_name" "is_name" s_is_name fa fd gC) (hm : mg "is_name" = some (.ref fa)) (hb : Binds K fd ["word"] []) (bl : Bi mg) (TB : GxR.TabB base mg gC gP) (hP : gP ∈ cl.t) (gx : Gx K mg az zv) (ti : Ti K cl mg) (tx : Tx K cl)  : Con P w K cl mg base 5 "is_name" (on1 (m_is_name)) fa fd ["word"] := by
  refine fun_conC (k := 4) F sc_is_name rfl ar1 hm hb (fun A outer s H E hr => ?_)
  have nd := sc_is_name.nd
  refine ⟨_, (pss_cons (ps_if (PW.pt (pw_or (pt_not (pt_val (pe_callB (isiK K) (by rfl) bl.isinstance (by decide +kernel) (pa_cons (pv 0) (pa_cons (pe_bltn (v := .ty "str") (by rfl) bl.str (by decide +kernel) rfl) pa_nil))))) (pw_or (pt_cmpR op_eq (pv 0) pe_str (nomark _)) (pw_or (pt_cmpR op_gt (pe_callB (lenK K) (by rfl) bl.len (by decide +kernel) (pa_cons (pv 0) pa_nil)) pe_int (nomark _)) (pw_or1 (pt_cmpR (inK K) (pv 0) (pe_glob (v := .ref (az 2)) rfl gx.NOT_NAMES.1 rfl) (by rfl))))))) (pss_cons (ps_ret pe_bl) pss_never) pss_nil) (pss_cons (ps_ret (pe_and (pe_cmpR op_inT (pe_ix (ixK K) (pv 0) pe_int (fun _ _ => rfl)) (pe_glob (v := .str "abcdefghijklmnopqrstuvwxyz") rfl gx.LETTERS.1 gx.LETTERS.2) (by rfl)) (pe_one (pe_allG (k := 0) (P := gP) (own := [("sign", 1)]) (g := (gName 1)) (hr.mono (by omega)) (by rfl) bl.all TB rfl nd (gscp_by (blkOk_by (N := n_is_name) (sc := defScope s_is_name) (by decide +kernel)) (by decide +kernel) rfl (by decide +kernel)) (pi_str (pv 0)) (fun _ _ _ _ _ _ => pg_name (i := 1) nd rfl (by first | exact Or.inl rfl | exact Or.inr rfl)) (fun _ _ _ _ _ _ hr => (pe_cmpR op_inT (pv 1) (pe_op op_addD (pe_glob (v := .str "abcdefghijklmnopqrstuvwxyz") rfl gx.LETTERS.1 gx.LETTERS.2) (pe_glob (v := .str "0123456789") rfl gx.DIGITS.1 gx.DIGITS.2)) (by rfl))) (by intro _; rfl))))) pss_never)), ?_⟩
  exact all1 fun word_1 => (tv_ifl (et_or (et_not (et_B (ev_isi .str (ev_v (i := 0) (d := word_1) rfl)))) (et_or (et_op o_eqF (ev_v (i := 0) (d := word_1) rfl) ev_str) (et_or (et_op o_gt (ev_cb o_len (ea_cons (ev_v (i := 0) (d := word_1) rfl) ea_nil)) ev_int) (et_op o_in (ev_v (i := 0) (d := word_1) rfl) (ev_glt gx.NOT_NAMES))))) (tv_ret ev_bl) (tv_ret (ev_and (ev_op o_inT (ev_op o_ix (ev_v (i := 0) (d := word_1) rfl) ev_int) ev_str) (ev_allG (f := some) hP (iv_str (ev_v (i := 0) (d := word_1) rfl)) gv_name (gw_name (by decide)) (fun c_19 => (ev_op o_inT (ev_v (i := 1) (d := c_19) rfl) (ev_op o_add ev_str ev_str)))))))
/-! Reader.take_name -/
noncomputable abbrev s_Reader_take_name : Stmt := inClass (topS 9) 5
noncomputable abbrev n_Reader_take_name : List Str := ["self", "used", "word"]
theorem sc_Reader_take_name : FnScope n_Reader_take_name ["self", "used"] (defScope s_Reader_take_name) := ⟨rfl, rfl, rfl, by decide +kernel, rfl, by decide +kernel, by decide +kernel⟩
theorem ok_Reader_take_name {fa : Addr} {fd : FuncData} (F : Fun K "take_name" "Reader.take_name" s_Reader_take_name fa fd) (hm : Meth K (cl.c 0) "take_name" fa) (hb : Binds K fd ["self", "used"] []) (bl : Bi mg) (gx : Gx K mg az zv) (tx : Tx K cl) {f0 : Addr} {fd0 : FuncData} (C_Reader_coming : ConM P w K cl mg base 2 0 "coming" (on1 (m_Reader_coming)) f0 fd0 ["self"]) {f1 : Addr} {fd1 : FuncData} (C_is_name : Con P w K cl mg base 5 "is_name" (on1 (m_is_name)) f1 fd1 ["word"]) : ConO P w K cl mg base 6 0 "take_name" (shF [("words", .l .v)]) (fun d ds => ((own1 m_Reader_take_name) d ds).bind endO) fa fd ["self", "used"] := by
  refine meth_con (k := 5) F sc_Reader_take_name rfl arO1 hm hb (fun cdv A outer s H E hr => ?_)
  have nd := sc_Reader_take_name.nd
  refine ⟨_, (pss_cons (ps_set (i := 2) nd rfl (by first | exact Or.inl rfl | exact Or.inr rfl) (pe_meth0 (pv 0) tx.Reader.c C_Reader_coming.mt C_Reader_coming.ok (hr.mono (by omega)) C_Reader_coming.bd .nil pass0)) (pss_cons (ps_if (PW.pt (pw_or (pt_cmpR (inK K) (pv 2) (pv 1) (by rfl)) (pw_or1 (pt_not (pt_val (pe_call C_is_name.ok (hr.mono (by omega)) (by rfl) C_is_name.mg C_is_name.kp C_is_name.bd .nil pass0 (pa_cons (pv 2) pa_nil))))))) pss_never pss_nil) (pss_cons (ps_fldaug (pv 0) pe_int in_add) (pss_cons (ps_ret (pv 2)) pss_never)))), ?_⟩
  exact fun xa self_2 ds hl => match ds, hl with | [used_1], _ => (by show QV K cl xa _ _ _ (m_Reader_take_name self_2 used_1) _ _; unfold m_Reader_take_name; exact (q_cons (sv_asg (i := 2) (ev_lend (i := 0) (d := self_2) rfl (ev_meth (ev_v (i := 0) (d := self_2) rfl) ea_nil))) (fun word_3 => (q_cons (sv_ifno (et_or (et_op o_in (ev_v (i := 2) (d := word_3) rfl) (ev_v (i := 1) (d := used_1) rfl)) (et_not (et_B (ev_call (ea_cons (ev_v (i := 2) (d := word_3) rfl) ea_nil)))))) (fun u_12 => (q_cons (sv_fldAugJ (i := 0) (x := self_2) tx.Reader (.tail _ (.head _)) rfl rfl ev_int) (fun self_16 => (q_ret (ev_v (i := 2) (d := word_3) rfl) rfl))))))))
/-! read_words -/
noncomputable abbrev s_read_words : Stmt := topS 21
noncomputable abbrev n_read_words : List Str := ["reader", "said"]
theorem sc_read_words : FnScope n_read_words ["reader"] (defScope s_read_words) := ⟨rfl, rfl, rfl, by decide +kernel, rfl, by decide +kernel, by decide +kernel⟩
theorem ok_read_words {fa : Addr} {fd : FuncData} (F : Fun K "read_words" "read_words" s_read_words fa fd) (hm : mg "read_words" = some (.ref fa)) (hb : Binds K fd ["reader"] []) (bl : Bi mg) (gx : Gx K mg az zv) (ti : Ti K cl mg) (tx : Tx K cl) {f0 : Addr} {fd0 : FuncData} (C_is_name : Con P w K cl mg base 5 "is_name" (on1 (m_is_name)) f0 fd0 ["word"]) {f1 : Addr} {fd1 : FuncData} (C_Reader_take_name : ConO P w K cl mg base 6 0 "take_name" (shF [("words", .l .v)]) (fun d ds => ((own1 m_Reader_take_name) d ds).bind endO) f1 fd1 ["self", "used"]) {f2 : Addr} {fd2 : FuncData} (C_Reader_coming : ConM P w K cl mg base 2 0 "coming" (on1 (m_Reader_coming)) f2 fd2 ["self"]) : ConF P w K cl mg base 7 "read_words" (shF [("words", .l .v)]) (fun d ds => ((own0 m_read_words) d ds).bind endO) fa fd ["reader"] := by
  refine own_con (k := 6) F sc_read_words rfl arO0 hm hb (fun cdv A outer s H E hr => ?_)
  have nd := sc_read_words.nd
  refine ⟨_, (pss_cons (ps_set (i := 1) nd rfl (by first | exact Or.inl rfl | exact Or.inr rfl) (pe_lst (pa_cons (pe_meth (pv 0) tx.Reader.c C_Reader_take_name.mt C_Reader_take_name.ok (hr.mono (by omega)) C_Reader_take_name.bd .nil pass0 (pa_cons (pe_lst pa_nil) pa_nil)) pa_nil))) (pss_cons (ps_expr (bmK K PySem.F.plainAttrs_list PySem.F.slot_list_append PySem.F.type_list_append mt_append (pv 1) (pa_cons (pe_meth (pv 0) tx.Reader.c C_Reader_take_name.mt C_Reader_take_name.ok (hr.mono (by omega)) C_Reader_take_name.bd .nil pass0 (pa_cons (pv 1) pa_nil)) pa_nil))) (pss_cons (ps_if (pt_val (pe_call C_is_name.ok (hr.mono (by omega)) (by rfl) C_is_name.mg C_is_name.kp C_is_name.bd .nil pass0 (pa_cons (pe_meth0 (pv 0) tx.Reader.c C_Reader_coming.mt C_Reader_coming.ok (hr.mono (by omega)) C_Reader_coming.bd .nil pass0) pa_nil))) (pss_cons (ps_expr (bmK K PySem.F.plainAttrs_list PySem.F.slot_list_append PySem.F.type_list_append mt_append (pv 1) (pa_cons (pe_meth (pv 0) tx.Reader.c C_Reader_take_name.mt C_Reader_take_name.ok (hr.mono (by omega)) C_Reader_take_name.bd .nil pass0 (pa_cons (pv 1) pa_nil)) pa_nil))) pss_nil) pss_nil) (pss_cons (ps_ret (pv 1)) pss_never)))), ?_⟩
  exact fun xa reader_1 ds hl => match ds, hl with | [], _ => (by show QV K cl xa _ _ _ (m_read_words reader_1) _ _; unfold m_read_words; exact (q_cons (sv_newP (j := 1) (call_ownE (i := 0) (d := reader_1) rfl rfl (ea_cons ((evn_lst ea_nil)).ev ea_nil))) (fun said_6 => (q_cons (sv_appP3 (i := 1) (d := (.lst [said_6.1])) rfl (fun _ => rfl) (evp_methL (i := 0) (k := 1) (d := said_6.2) (dk := (.lst [said_6.1])) rfl rfl (by decide) (ea_cons (ev_v (i := 1) (d := (.lst [said_6.1])) rfl) ea_nil))) (fun said_14 => (q_cons (sv_if (post := (fun (b : D × D) => [.ow (.j (some xa) (shF [("words", .l .v)])) b.1, .ow (.l .v) b.2])) (et_lend (i := 0) (d := said_14.2.2) rfl (et_B (ev_call (ea_cons (ev_meth (ev_v (i := 0) (d := said_14.2.2) rfl) ea_nil) ea_nil)))) (sv_cons (sv_appP3 (i := 1) (d := said_14.1) rfl (fun _ => rfl) (evp_methL (i := 0) (k := 1) (d := said_14.2.2) (dk := said_14.1) rfl rfl (by decide) (ea_cons (ev_v (i := 1) (d := said_14.1) rfl) ea_nil))) (fun said_27 => (sv_nil (said_27.2.2, said_27.1) (.same (.same .nil))))) (sv_nil (said_14.2.2, said_14.1) (.same (.same .nil)))) (fun s_19 => (q_ret (ev_pre (i := 1) (d := s_19.2) rfl (ev_v (i := 1) (d := s_19.2) rfl)) rfl))))))))
/-! Reader.take_index -/
noncomputable abbrev s_Reader_take_index : Stmt := inClass (topS 9) 4
noncomputable abbrev n_Reader_take_index : List Str := ["self", "allowed"]
theorem sc_Reader_take_index : FnScope n_Reader_take_index ["self", "allowed"] (defScope s_Reader_take_index) := ⟨rfl, rfl, rfl, by decide +kernel, rfl, by decide +kernel, by decide +kernel⟩
theorem ok_Reader_take_index {fa : Addr} {fd : FuncData} (F : Fun K "take_index" "Reader.take_index" s_Reader_take_index fa fd) (hm : Meth K (cl.c 0) "take_index" fa) (hb : Binds K fd ["self", "allowed"] []) (bl : Bi mg) (gx : Gx K mg az zv) (tx : Tx K cl) {f0 : Addr} {fd0 : FuncData} (C_Reader_take : ConO P w K cl mg base 3 0 "take" (shF [("words", .l .v)]) (fun d ds => ((own1 m_Reader_take) d ds).bind endO) f0 fd0 ["self", "allowed"]) : ConO P w K cl mg base 4 0 "take_index" (shF [("words", .l .v)]) (fun d ds => ((own1 m_Reader_take_index) d ds).bind endO) fa fd ["self", "allowed"] := by
  refine meth_con (k := 3) F sc_Reader_take_index rfl arO1 hm hb (fun cdv A outer s H E hr => ?_)
  have nd := sc_Reader_take_index.nd
  refine ⟨_, (pss_cons (ps_ret (bmK K PySem.F.plainAttrs_list PySem.F.slot_list_index PySem.F.type_list_index mt_index (pv 1) (pa_cons (pe_meth (pv 0) tx.Reader.c C_Reader_take.mt C_Reader_take.ok (hr.mono (by omega)) C_Reader_take.bd .nil pass0 (pa_cons (pv 1) pa_nil)) pa_nil))) pss_never), ?_⟩
  exact fun xa self_2 ds hl => match ds, hl with | [allowed_1], _ => (by show QV K cl xa _ _ _ (m_Reader_take_index self_2 allowed_1) _ _; unfold m_Reader_take_index; exact (q_retP (evp_index (ev_v (i := 1) (d := allowed_1) rfl) (call_ownE (i := 0) (d := self_2) rfl rfl (ea_cons (ev_v (i := 1) (d := allowed_1) rfl) ea_nil))) (fun _ => rfl)))
/-! read_heard -/
noncomputable abbrev s_read_heard : Stmt := topS 22
noncomputable abbrev n_read_heard : List Str := ["reader", "earlier", "heard", "start"]
theorem sc_read_heard : FnScope n_read_heard ["reader", "earlier"] (defScope s_read_heard) := ⟨rfl, rfl, rfl, by decide +kernel, rfl, by decide +kernel, by decide +kernel⟩
theorem ok_read_heard {fa : Addr} {fd : FuncData} (F : Fun K "read_heard" "read_heard" s_read_heard fa fd) (hm : mg "read_heard" = some (.ref fa)) (hb : Binds K fd ["reader", "earlier"] []) (bl : Bi mg) (gx : Gx K mg az zv) (ti : Ti K cl mg) (tx : Tx K cl) {f0 : Addr} {fd0 : FuncData} (C_Reader_take : ConO P w K cl mg base 3 0 "take" (shF [("words", .l .v)]) (fun d ds => ((own1 m_Reader_take) d ds).bind endO) f0 fd0 ["self", "allowed"]) {f1 : Addr} {fd1 : FuncData} (C_Reader_take_index : ConO P w K cl mg base 4 0 "take_index" (shF [("words", .l .v)]) (fun d ds => ((own1 m_Reader_take_index) d ds).bind endO) f1 fd1 ["self", "allowed"]) {f2 : Addr} {fd2 : FuncData} (C_Reader_coming : ConM P w K cl mg base 2 0 "coming" (on1 (m_Reader_coming)) f2 fd2 ["self"]) : ConF P w K cl mg base 5 "read_heard" (shF [("words", .l .v)]) (fun d ds => ((own1 m_read_heard) d ds).bind endO) fa fd ["reader", "earlier"] := by
  refine own_con (k := 4) F sc_read_heard rfl arO1 hm hb (fun cdv A outer s H E hr => ?_)
  have nd := sc_read_heard.nd
  refine ⟨_, (pss_cons (ps_set (i := 2) nd rfl (by first | exact Or.inl rfl | exact Or.inr rfl) (pe_lst pa_nil)) (pss_cons (ps_if (pt_cmpR op_eq (pe_meth (pv 0) tx.Reader.c C_Reader_take.mt C_Reader_take.ok (hr.mono (by omega)) C_Reader_take.bd .nil pass0 (pa_cons (pe_ifExp (truthK K (pv 1) (by intro _; rfl)) (pe_lst (pa_cons pe_str (pa_cons pe_str pa_nil))) (pe_lst (pa_cons pe_str pa_nil))) pa_nil)) pe_str (nomark _)) (pss_cons (ps_ret (pv 2)) pss_never) pss_nil) (pss_cons (ps_expr (bmK K PySem.F.plainAttrs_list PySem.F.slot_list_append PySem.F.type_list_append mt_append (pv 2) (pa_cons (pe_meth (pv 0) tx.Reader.c C_Reader_take_index.mt C_Reader_take_index.ok (hr.mono (by omega)) C_Reader_take_index.bd .nil pass0 (pa_cons (pv 1) pa_nil)) pa_nil))) (pss_cons (ps_while PassesOwn.never (pt_cmpR op_ne (pe_meth0 (pv 0) tx.Reader.c C_Reader_coming.mt C_Reader_coming.ok (hr.mono (by omega)) C_Reader_coming.bd .nil pass0) pe_str (nomark _)) (pss_cons (ps_set (i := 3) nd rfl (by first | exact Or.inl rfl | exact Or.inr rfl) (pe_op op_addD (pe_ix (ixK K) (pv 2) (pe_un un_neg pe_int) (fun _ _ => rfl)) pe_int)) (pss_cons (ps_expr (bmK K PySem.F.plainAttrs_list PySem.F.slot_list_append PySem.F.type_list_append mt_append (pv 2) (pa_cons (pe_op op_addD (pv 3) (pe_meth (pv 0) tx.Reader.c C_Reader_take_index.mt C_Reader_take_index.ok (hr.mono (by omega)) C_Reader_take_index.bd .nil pass0 (pa_cons (pe_slice (slK K) (pv 1) (po_some (pv 3)) po_none) pa_nil))) pa_nil))) pss_nil))) (pss_cons (ps_expr (pe_meth (pv 0) tx.Reader.c C_Reader_take.mt C_Reader_take.ok (hr.mono (by omega)) C_Reader_take.bd .nil pass0 (pa_cons (pe_lst (pa_cons pe_str pa_nil)) pa_nil))) (pss_cons (ps_ret (pv 2)) pss_never)))))), ?_⟩
  exact fun xa reader_1 ds hl => match ds, hl with | [earlier_2], _ => (by show QV K cl xa _ _ _ (m_read_heard reader_1 earlier_2) _ _; unfold m_read_heard; exact (q_cons (sv_asgN (i := 2) (evn_lst ea_nil)) (fun heard_3 => (q_iflP (post0 := fun _ => []) (etp_B (evp_opL o_eqF (call_ownE (i := 0) (d := reader_1) rfl rfl (ea_cons (ev_ife (et_tru (ev_v (i := 1) (d := earlier_2) rfl)) ((evn_lst (ea_cons ev_str (ea_cons ev_str ea_nil)))).ev ((evn_lst (ea_cons ev_str ea_nil))).ev) ea_nil)) (fun b_15 => ev_str))) (fun b_20 => (q_ret (ev_pre (i := 2) (d := heard_3) rfl (ev_v (i := 2) (d := heard_3) rfl)) rfl)) (fun b_20 => (q_cons (sv_appP3 (i := 2) (d := heard_3) rfl (fun _ => rfl) (call_ownE (i := 0) (d := b_20.2.2.2) rfl rfl (ea_cons (ev_v (i := 1) (d := earlier_2) rfl) ea_nil))) (fun heard_28 => (q_cons (sv_while (inv := (fun (b : D × D) => [.ow (.j (some xa) (shF [("words", .l .v)])) b.2, .vl earlier_2, .ow (.l .v) b.1, .jk])) 1000 (heard_28.1, heard_28.2.2) (.same (.same (.same (.same .nil)))) (fun b_29 => (et_lend (i := 0) (d := b_29.2) rfl (et_op o_neF (ev_meth (ev_v (i := 0) (d := b_29.2) rfl) ea_nil) ev_str))) (fun b_29 => (sv_cons (sv_asg (i := 3) (ev_lend (i := 2) (d := b_29.1) rfl (ev_op o_add (ev_op o_ix (ev_v (i := 2) (d := b_29.1) rfl) (ev_un (fun G H x d z gh r h Q q => o_neg gh r h Q q) ev_int)) ev_int))) (fun start_34 => (sv_cons (sv_appP3 (i := 2) (d := b_29.1) rfl (fun _ => rfl) (evp_opR o_add (ev_v (i := 3) (d := start_34) rfl) (call_ownE (i := 0) (d := b_29.2) rfl rfl (ea_cons ((evn_sl (ev_v (i := 1) (d := earlier_2) rfl) (eo_so (ev_v (i := 3) (d := start_34) rfl)) eo_no)).ev ea_nil)))) (fun heard_51 => (sv_nil (heard_51.1, heard_51.2.2.2) (.same (.same (.same (.drop .nil))))))))))) (fun s_52 => (q_cons (sv_exprM (i := 0) (d := s_52.2) rfl rfl (ea_cons ((evn_lst (ea_cons ev_str ea_nil))).ev ea_nil)) (fun reader_59 => (q_ret (ev_pre (i := 2) (d := s_52.1) rfl (ev_v (i := 2) (d := s_52.1) rfl)) rfl))))))))))))
/-! parse_house -/
noncomputable abbrev s_parse_house : Stmt := topS 19
noncomputable abbrev n_parse_house : List Str := ["text", "reader", "names", "words", "heard", "earlier", "house"]
theorem sc_parse_house : FnScope n_parse_house ["text"] (defScope s_parse_house) := ⟨rfl, rfl, rfl, by decide +kernel, rfl, by decide +kernel, by decide +kernel⟩
theorem ok_parse_house {fa : Addr} {fd : FuncData} (F : Fun K "parse_house" "parse_house" s_parse_house fa fd) (hm : mg "parse_house" = some (.ref fa)) (hb : Binds K fd ["text"] []) (bl : Bi mg) (gx : Gx K mg az zv) (ti : Ti K cl mg) (tx : Tx K cl) {f0 : Addr} {fd0 : FuncData} (C_Reader : ConJ P w K cl mg base 1 0 "Reader" (shF [("words", .l .v)]) mk_Reader f0 fd0 ["self", "text"]) {f1 : Addr} {fd1 : FuncData} (C_Reader_take : ConO P w K cl mg base 3 0 "take" (shF [("words", .l .v)]) (fun d ds => ((own1 m_Reader_take) d ds).bind endO) f1 fd1 ["self", "allowed"]) {f2 : Addr} {fd2 : FuncData} (C_Reader_finish : ConM P w K cl mg base 2 0 "finish" (on1 (m_Reader_finish)) f2 fd2 ["self"]) {f3 : Addr} {fd3 : FuncData} (C_House : ConJ P w K cl mg base 1 1 "House" (shF [("heard", .l (.l .v)), ("names", .l .v), ("words", .l (.l .v))]) mk_House f3 fd3 ["self", "names", "words", "heard"]) {f4 : Addr} {fd4 : FuncData} (C_way_count : Con P w K cl mg base 3 "way_count" (on1 (m_way_count)) f4 fd4 ["house"]) {f5 : Addr} {fd5 : FuncData} (C_words_after : Con P w K cl mg base 1 "words_after" (on1 (m_words_after)) f5 fd5 ["many"]) {f6 : Addr} {fd6 : FuncData} (C_Reader_take_name : ConO P w K cl mg base 6 0 "take_name" (shF [("words", .l .v)]) (fun d ds => ((own1 m_Reader_take_name) d ds).bind endO) f6 fd6 ["self", "used"]) {f7 : Addr} {fd7 : FuncData} (C_read_words : ConF P w K cl mg base 7 "read_words" (shF [("words", .l .v)]) (fun d ds => ((own0 m_read_words) d ds).bind endO) f7 fd7 ["reader"]) {f8 : Addr} {fd8 : FuncData} (C_read_heard : ConF P w K cl mg base 5 "read_heard" (shF [("words", .l .v)]) (fun d ds => ((own1 m_read_heard) d ds).bind endO) f8 fd8 ["reader", "earlier"]) : Con P w K cl mg base 8 "parse_house" (on1 (m_parse_house)) fa fd ["text"] := by
  refine fun_con (k := 7) F sc_parse_house rfl ar1 hm hb (fun cdv A outer s H E hr => ?_)
  have nd := sc_parse_house.nd
  refine ⟨_, (pss_cons (ps_set (i := 1) nd rfl (by first | exact Or.inl rfl | exact Or.inr rfl) (pe_make C_Reader.mkc C_Reader.ok (hr.mono (by omega)) (by rfl) C_Reader.mg C_Reader.bd .nil pass0 (pa_cons (pv 0) pa_nil))) (pss_cons (ps_par3 (i := 2) (j := 3) (l := 4) rfl nd rfl rfl rfl (by decide) (by decide) (by decide) rfl rfl rfl (pa_cons (pe_lst pa_nil) (pa_cons (pe_lst pa_nil) (pa_cons (pe_lst pa_nil) pa_nil))) (by rfl)) (pss_cons (ps_expr (pe_meth (pv 1) tx.Reader.c C_Reader_take.mt C_Reader_take.ok (hr.mono (by omega)) C_Reader_take.bd .nil pass0 (pa_cons (pe_lst (pa_cons pe_str pa_nil)) pa_nil))) (pss_cons (ps_while PassesOwn.never (pt_cmpR op_eq (pe_meth (pv 1) tx.Reader.c C_Reader_take.mt C_Reader_take.ok (hr.mono (by omega)) C_Reader_take.bd .nil pass0 (pa_cons (pe_call C_words_after.ok (hr.mono (by omega)) (by rfl) C_words_after.mg C_words_after.kp C_words_after.bd .nil pass0 (pa_cons (pe_callB (lenK K) (by rfl) bl.len (by decide +kernel) (pa_cons (pv 2) pa_nil)) pa_nil)) pa_nil)) pe_str (nomark _)) (pss_cons (ps_set (i := 5) nd rfl (by first | exact Or.inl rfl | exact Or.inr rfl) (pe_callTy (listK K) (by rfl) bl.list (by decide +kernel) (pa_cons (pv 2) pa_nil))) (pss_cons (ps_expr (bmK K PySem.F.plainAttrs_list PySem.F.slot_list_append PySem.F.type_list_append mt_append (pv 2) (pa_cons (pe_meth (pv 1) tx.Reader.c C_Reader_take_name.mt C_Reader_take_name.ok (hr.mono (by omega)) C_Reader_take_name.bd .nil pass0 (pa_cons (pv 5) pa_nil)) pa_nil))) (pss_cons (ps_expr (pe_meth (pv 1) tx.Reader.c C_Reader_take.mt C_Reader_take.ok (hr.mono (by omega)) C_Reader_take.bd .nil pass0 (pa_cons (pe_lst (pa_cons pe_str pa_nil)) pa_nil))) (pss_cons (ps_expr (bmK K PySem.F.plainAttrs_list PySem.F.slot_list_append PySem.F.type_list_append mt_append (pv 3) (pa_cons (pe_call C_read_words.ok (hr.mono (by omega)) (by rfl) C_read_words.mg C_read_words.kp C_read_words.bd .nil pass0 (pa_cons (pv 1) pa_nil)) pa_nil))) (pss_cons (ps_expr (bmK K PySem.F.plainAttrs_list PySem.F.slot_list_append PySem.F.type_list_append mt_append (pv 4) (pa_cons (pe_call C_read_heard.ok (hr.mono (by omega)) (by rfl) C_read_heard.mg C_read_heard.kp C_read_heard.bd .nil pass0 (pa_cons (pv 1) (pa_cons (pv 5) pa_nil))) pa_nil))) pss_nil)))))) (pss_cons (ps_expr (pe_meth0 (pv 1) tx.Reader.c C_Reader_finish.mt C_Reader_finish.ok (hr.mono (by omega)) C_Reader_finish.bd .nil pass0)) (pss_cons (ps_set (i := 6) nd rfl (by first | exact Or.inl rfl | exact Or.inr rfl) (pe_make C_House.mkc C_House.ok (hr.mono (by omega)) (by rfl) C_House.mg C_House.bd .nil pass0 (pa_cons (pv 2) (pa_cons (pv 3) (pa_cons (pv 4) pa_nil))))) (pss_cons (ps_if (pt_cmpR op_gt (pe_call C_way_count.ok (hr.mono (by omega)) (by rfl) C_way_count.mg C_way_count.kp C_way_count.bd .nil pass0 (pa_cons (pv 6) pa_nil)) (pe_glob (v := .int (512)) rfl gx.MOST_WAYS.1 gx.MOST_WAYS.2) (nomark _)) pss_never pss_nil) (pss_cons (ps_ret (pv 6)) pss_never)))))))), ?_⟩
  exact all1 fun text_1 => (tv_cons (sv_asgO (i := 1) (evo_make (ea_cons (ev_v (i := 0) (d := text_1) rfl) ea_nil))) (fun reader_2 => (tv_cons (sv_three3 (i := 2) (j := 3) (k := 4) (Nat.le_of_ble_eq_true rfl) (Nat.le_of_ble_eq_true rfl) (Nat.le_of_ble_eq_true rfl) (by decide) (by decide) (by decide)) (fun u_5 => (tv_cons (sv_exprM (i := 1) (d := reader_2) rfl rfl (ea_cons ((evn_lst (ea_cons ev_str ea_nil))).ev ea_nil)) (fun reader_12 => (tv_cons (sv_whileP (inv := (fun (b : D × D × D × D) => [.vl text_1, .ow (.j none (shF [("words", .l .v)])) b.2.1, .ow (.l .v) b.1, .ow (.l .v) b.2.2.1, .ow (.l .v) b.2.2.2, .jk, .jk])) (tst := fun (p_29 : Bool × (D × D × D × D)) => p_29.1) (nx := fun (p_29 : Bool × (D × D × D × D)) => p_29.2) 1000 ((.lst []), reader_12.2, (.lst []), (.lst [])) (.same (.same (.same (.same (.same (.same (.same .nil))))))) (fun b_13 => etp_as (inv := (fun (b : D × D × D × D) => [.vl text_1, .ow (.j none (shF [("words", .l .v)])) b.2.1, .ow (.l .v) b.1, .ow (.l .v) b.2.2.1, .ow (.l .v) b.2.2.2, .jk, .jk])) (nx := fun g_28 => (b_13.1, g_28.2.2.2, b_13.2.2.1, b_13.2.2.2)) (etp_B (evp_opL o_eqF (call_ownE (i := 1) (d := b_13.2.1) rfl rfl (ea_cons (ev_call (ea_cons (ev_lend (i := 2) (d := b_13.1) rfl (ev_cb o_len (ea_cons (ev_v (i := 2) (d := b_13.1) rfl) ea_nil))) ea_nil)) ea_nil)) (fun b_23 => ev_str))) (fun _ => rfl)) (fun b_13 => (sv_cons (sv_asg (i := 5) (EVN.ev (evn_lend (i := 2) (d := b_13.1) rfl (evn_cb o_list (ea_cons (ev_v (i := 2) (d := b_13.1) rfl) ea_nil))))) (fun earlier_30 => (sv_cons (sv_appP3 (i := 2) (d := b_13.1) rfl (fun _ => rfl) (call_ownE (i := 1) (d := b_13.2.1) rfl rfl (ea_cons (ev_v (i := 5) (d := earlier_30) rfl) ea_nil))) (fun names_39 => (sv_cons (sv_exprM (i := 1) (d := names_39.2.2) rfl rfl (ea_cons ((evn_lst (ea_cons ev_str ea_nil))).ev ea_nil)) (fun reader_46 => (sv_cons (sv_appP3 (i := 3) (d := b_13.2.2.1) rfl (fun _ => rfl) (evp_fun (i := 1) (d := reader_46.2) rfl rfl ea_nil)) (fun words_50 => (sv_cons (sv_appP3 (i := 4) (d := b_13.2.2.2) rfl (fun _ => rfl) (evp_fun (i := 1) (d := words_50.2.2) rfl rfl (ea_cons (ev_v (i := 5) (d := earlier_30) rfl) ea_nil))) (fun heard_56 => (sv_nil (names_39.1, heard_56.2.2, words_50.1, heard_56.1) (.same (.same (.same (.same (.same (.drop (.same .nil)))))))))))))))))))) (fun s_57 => (tv_cons (sv_drop (ev_pre (i := 1) (d := s_57.2.1) rfl (ev_meth (ev_v (i := 1) (d := s_57.2.1) rfl) ea_nil))) (fun u_59 => (tv_cons (sv_shr (i := 2) (d := s_57.1) rfl (sv_shr (i := 3) (d := s_57.2.2.1) rfl (sv_shr (i := 4) (d := s_57.2.2.2) rfl (sv_asgO (i := 6) (evo_make (ea_cons (ev_v (i := 2) (d := s_57.1) rfl) (ea_cons (ev_v (i := 3) (d := s_57.2.2.1) rfl) (ea_cons (ev_v (i := 4) (d := s_57.2.2.2) rfl) ea_nil)))))))) (fun house_60 => (tv_cons (sv_ifno (et_pre (i := 6) (d := house_60) rfl (et_op o_gt (ev_call (ea_cons (ev_v (i := 6) (d := house_60) rfl) ea_nil)) ev_int))) (fun u_72 => (tv_ret (ev_v (i := 6) (d := house_60) rfl))))))))))))))))
/-! law -/
noncomputable abbrev s_law : Stmt := topS 39
noncomputable abbrev n_law : List Str := ["script", "house", "names", "words", "heard", "due", "lists", "made", "counts", "many", "v", "text", "back", "one", "u"]
theorem sc_law : FnScope n_law ["script"] (defScope s_law) := ⟨rfl, rfl, rfl, by decide +kernel, rfl, by decide +kernel, by decide +kernel⟩
theorem ok_law {fa : Addr} {fd : FuncData} (F : Fun K "law" "law" s_law fa fd) (hm : mg "law" = some (.ref fa)) (hb : Binds K fd ["script"] []) (bl : Bi mg) (gx : Gx K mg az zv) (ti : Ti K cl mg) (tx : Tx K cl) {f0 : Addr} {fd0 : FuncData} (C_law_house : Con P w K cl mg base 4 "_law_house" (on3 (m_law_house)) f0 fd0 ["script", "place", "cap"]) {f1 : Addr} {fd1 : FuncData} (C_House : ConJ P w K cl mg base 1 1 "House" (shF [("heard", .l (.l .v)), ("names", .l .v), ("words", .l (.l .v))]) mk_House f1 fd1 ["self", "names", "words", "heard"]) {f2 : Addr} {fd2 : FuncData} (C_law_spoil : ConSp P w K cl mg base 1 "_law_spoil" (fun d => (m_law_spoil d).isSome) f2 fd2 ["lists"]) {f3 : Addr} {fd3 : FuncData} (C_way_count : Con P w K cl mg base 3 "way_count" (on1 (m_way_count)) f3 fd3 ["house"]) {f4 : Addr} {fd4 : FuncData} (C_format_house : Con P w K cl mg base 1 "format_house" (on1 (m_format_house)) f4 fd4 ["house"]) {f5 : Addr} {fd5 : FuncData} (C_law_text_words : Con P w K cl mg base 1 "_law_text_words" (on1 (m_law_text_words)) f5 fd5 ["house"]) {f6 : Addr} {fd6 : FuncData} (C_law_same_house : Con P w K cl mg base 15 "_law_same_house" (on2 (m_law_same_house)) f6 fd6 ["actual", "house"]) {f7 : Addr} {fd7 : FuncData} (C_law_spaced : Con P w K cl mg base 1 "_law_spaced" (on2 (m_law_spaced)) f7 fd7 ["words", "row"]) {f8 : Addr} {fd8 : FuncData} (C_parse_house : Con P w K cl mg base 8 "parse_house" (on1 (m_parse_house)) f8 fd8 ["text"]) {f9 : Addr} {fd9 : FuncData} (C_law_is_integer : Con P w K cl mg base 1 "_law_is_integer" (on1 (m_law_is_integer)) f9 fd9 ["x"]) {f10 : Addr} {fd10 : FuncData} (C_law_count_ways : Con P w K cl mg base 2 "_law_count_ways" (on2 (m_law_count_ways)) f10 fd10 ["counts", "heard"]) {f11 : Addr} {fd11 : FuncData} (C_law_same : Con P w K cl mg base 14 "_law_same" (on2 (m_law_same 12)) f11 fd11 ["actual", "due"]) {f12 : Addr} {fd12 : FuncData} (C_law_row : Con P w K cl mg base 1 "_law_row" (on3 (m_law_row)) f12 fd12 ["script", "place", "many"]) {f13 : Addr} {fd13 : FuncData} (C_heard_bounds : Con P w K cl mg base 1 "heard_bounds" (on2 (m_heard_bounds)) f13 fd13 ["house", "variable"]) : Con P w K cl mg base 16 "law" (on1 (m_law)) fa fd ["script"] := by
  refine fun_con (k := 15) F sc_law rfl ar1 hm hb (fun cdv A outer s H E hr => ?_)
  have nd := sc_law.nd
  refine ⟨_, (pss_cons (ps_set (i := 1) nd rfl (by first | exact Or.inl rfl | exact Or.inr rfl) (pe_call C_law_house.ok (hr.mono (by omega)) (by rfl) C_law_house.mg C_law_house.kp C_law_house.bd .nil pass0 (pa_cons (pv 0) (pa_cons pe_int (pa_cons pe_int pa_nil))))) (pss_cons (ps_asg (pv 1) (tupGK K rfl (pgs_cons (pg_name (i := 2) nd rfl (by first | exact Or.inl rfl | exact Or.inr rfl)) (pgs_cons (pg_name (i := 3) nd rfl (by first | exact Or.inl rfl | exact Or.inr rfl)) (pgs_cons (pg_name (i := 4) nd rfl (by first | exact Or.inl rfl | exact Or.inr rfl)) pgs_nil))))) (pss_cons (ps_set (i := 5) nd rfl (by first | exact Or.inl rfl | exact Or.inr rfl) (joinK pe_str (pe_call C_law_text_words.ok (hr.mono (by omega)) (by rfl) C_law_text_words.mg C_law_text_words.kp C_law_text_words.bd .nil pass0 (pa_cons (pv 1) pa_nil)))) (pss_cons (ps_set (i := 6) nd rfl (by first | exact Or.inl rfl | exact Or.inr rfl) (pe_lst (pa_cons (pe_callTy (listK K) (by rfl) bl.list (by decide +kernel) (pa_cons (pv 2) pa_nil)) (pa_cons (pe_lc (own := [("one", 13)]) (g := (gName 13)) (tt := tYes) rfl nd (listIK K (pv 3)) (blkOk_by (N := n_law) (sc := defScope s_law) (by decide +kernel)) (fun _ _ _ _ _ => pg_name (i := 13) nd rfl (by first | exact Or.inl rfl | exact Or.inr rfl)) (fun _ _ _ _ _ => pts_nil) (fun _ _ _ _ _ => (pe_callTy (listK K) (by rfl) bl.list (by decide +kernel) (pa_cons (pv 13) pa_nil)))) (pa_cons (pe_lc (own := [("one", 13)]) (g := (gName 13)) (tt := tYes) rfl nd (listIK K (pv 4)) (blkOk_by (N := n_law) (sc := defScope s_law) (by decide +kernel)) (fun _ _ _ _ _ => pg_name (i := 13) nd rfl (by first | exact Or.inl rfl | exact Or.inr rfl)) (fun _ _ _ _ _ => pts_nil) (fun _ _ _ _ _ => (pe_callTy (listK K) (by rfl) bl.list (by decide +kernel) (pa_cons (pv 13) pa_nil)))) pa_nil))))) (pss_cons (ps_set (i := 7) nd rfl (by first | exact Or.inl rfl | exact Or.inr rfl) (pe_make C_House.mkc C_House.ok (hr.mono (by omega)) (by rfl) C_House.mg C_House.bd .nil pass0 (pa_cons (pe_ix (ixK K) (pv 6) pe_int (fun _ _ => rfl)) (pa_cons (pe_ix (ixK K) (pv 6) pe_int (fun _ _ => rfl)) (pa_cons (pe_ix (ixK K) (pv 6) pe_int (fun _ _ => rfl)) pa_nil))))) (pss_cons (ps_expr (pe_call C_law_spoil.ok (hr.mono (by omega)) (by rfl) C_law_spoil.mg C_law_spoil.kp C_law_spoil.bd .nil pass0 (pa_cons (pv 6) pa_nil))) (pss_cons (ps_if (pt_not (pt_val (pe_call C_law_same_house.ok (hr.mono (by omega)) (by rfl) C_law_same_house.mg C_law_same_house.kp C_law_same_house.bd .nil pass0 (pa_cons (pv 7) (pa_cons (pv 1) pa_nil))))) (pss_cons (ps_ret pe_bl) pss_never) pss_nil) (pss_cons (ps_set (i := 8) nd rfl (by first | exact Or.inl rfl | exact Or.inr rfl) (pe_lc (own := [("one", 13)]) (g := (gName 13)) (tt := tYes) rfl nd (listIK K (pv 3)) (blkOk_by (N := n_law) (sc := defScope s_law) (by decide +kernel)) (fun _ _ _ _ _ => pg_name (i := 13) nd rfl (by first | exact Or.inl rfl | exact Or.inr rfl)) (fun _ _ _ _ _ => pts_nil) (fun _ _ _ _ _ => (pe_callB (lenK K) (by rfl) bl.len (by decide +kernel) (pa_cons (pv 13) pa_nil))))) (pss_cons (ps_set (i := 9) nd rfl (by first | exact Or.inl rfl | exact Or.inr rfl) (pe_call C_way_count.ok (hr.mono (by omega)) (by rfl) C_way_count.mg C_way_count.kp C_way_count.bd .nil pass0 (pa_cons (pv 7) pa_nil))) (pss_cons (ps_if (PW.pt (pw_or (pt_not (pt_val (pe_call C_law_is_integer.ok (hr.mono (by omega)) (by rfl) C_law_is_integer.mg C_law_is_integer.kp C_law_is_integer.bd .nil pass0 (pa_cons (pv 9) pa_nil)))) (pw_or1 (pt_cmpR op_ne (pv 9) (pe_call C_law_count_ways.ok (hr.mono (by omega)) (by rfl) C_law_count_ways.mg C_law_count_ways.kp C_law_count_ways.bd .nil pass0 (pa_cons (pv 8) (pa_cons (pv 4) pa_nil))) (nomark _))))) (pss_cons (ps_ret pe_bl) pss_never) pss_nil) (pss_cons (ps_for PassesOwn.never rfl (pi_range1 (by rfl) bl.range (pa_cons (pe_callB (lenK K) (by rfl) bl.len (by decide +kernel) (pa_cons (pv 2) pa_nil)) pa_nil)) (pg_name (i := 10) nd rfl (by first | exact Or.inl rfl | exact Or.inr rfl)) (pss_cons (ps_if (pt_not (pt_val (pe_call C_law_same.ok (hr.mono (by omega)) (by rfl) C_law_same.mg C_law_same.kp C_law_same.bd .nil pass0 (pa_cons (pe_call C_heard_bounds.ok (hr.mono (by omega)) (by rfl) C_heard_bounds.mg C_heard_bounds.kp C_heard_bounds.bd .nil pass0 (pa_cons (pv 7) (pa_cons (pv 10) pa_nil))) (pa_cons (pe_lc (own := [("u", 14)]) (g := (gName 14)) (tt := tYes) rfl nd (listIK K (pe_ix (ixK K) (pv 4) (pv 10) (fun _ _ => rfl))) (blkOk_by (N := n_law) (sc := defScope s_law) (by decide +kernel)) (fun _ _ _ _ _ => pg_name (i := 14) nd rfl (by first | exact Or.inl rfl | exact Or.inr rfl)) (fun _ _ _ _ _ => pts_nil) (fun _ _ _ _ _ => (pe_ix (ixK K) (pv 8) (pv 14) (fun _ _ => rfl)))) pa_nil))))) (pss_cons (ps_ret pe_bl) pss_never) pss_nil) pss_nil)) (pss_cons (ps_set (i := 11) nd rfl (by first | exact Or.inl rfl | exact Or.inr rfl) (pe_call C_format_house.ok (hr.mono (by omega)) (by rfl) C_format_house.mg C_format_house.kp C_format_house.bd .nil pass0 (pa_cons (pv 7) pa_nil))) (pss_cons (ps_if (PW.pt (pw_or (pt_not (pt_val (pe_callB (isiK K) (by rfl) bl.isinstance (by decide +kernel) (pa_cons (pv 11) (pa_cons (pe_bltn (v := .ty "str") (by rfl) bl.str (by decide +kernel) rfl) pa_nil))))) (pw_or1 (pt_cmpR op_ne (pv 11) (pv 5) (nomark _))))) (pss_cons (ps_ret pe_bl) pss_never) pss_nil) (pss_cons (ps_for PassesOwn.never rfl (tupIK K (pe_tup (pa_cons (pv 5) (pa_cons (pe_call C_law_spaced.ok (hr.mono (by omega)) (by rfl) C_law_spaced.mg C_law_spaced.kp C_law_spaced.bd .nil pass0 (pa_cons (pe_call C_law_text_words.ok (hr.mono (by omega)) (by rfl) C_law_text_words.mg C_law_text_words.kp C_law_text_words.bd .nil pass0 (pa_cons (pv 1) pa_nil)) (pa_cons (pe_call C_law_row.ok (hr.mono (by omega)) (by rfl) C_law_row.mg C_law_row.kp C_law_row.bd .nil pass0 (pa_cons (pv 0) (pa_cons pe_int (pa_cons pe_int pa_nil)))) pa_nil))) pa_nil)))) (pg_name (i := 11) nd rfl (by first | exact Or.inl rfl | exact Or.inr rfl)) (pss_cons (ps_set (i := 12) nd rfl (by first | exact Or.inl rfl | exact Or.inr rfl) (pe_call C_parse_house.ok (hr.mono (by omega)) (by rfl) C_parse_house.mg C_parse_house.kp C_parse_house.bd .nil pass0 (pa_cons (pv 11) pa_nil))) (pss_cons (ps_if (PW.pt (pw_or (pt_not (pt_val (pe_call C_law_same_house.ok (hr.mono (by omega)) (by rfl) C_law_same_house.mg C_law_same_house.kp C_law_same_house.bd .nil pass0 (pa_cons (pv 12) (pa_cons (pv 1) pa_nil))))) (pw_or1 (pt_cmpR op_ne (pe_call C_format_house.ok (hr.mono (by omega)) (by rfl) C_format_house.mg C_format_house.kp C_format_house.bd .nil pass0 (pa_cons (pv 12) pa_nil)) (pv 5) (nomark _))))) (pss_cons (ps_ret pe_bl) pss_never) pss_nil) pss_nil))) (pss_cons (ps_ret pe_bl) pss_never))))))))))))))), ?_⟩
  exact all1 fun script_1 => (tv_cons (sv_asg (i := 1) (ev_call (ea_cons (ev_v (i := 0) (d := script_1) rfl) (ea_cons ev_int (ea_cons ev_int ea_nil))))) (fun house_2 => (tv_cons (sv_asgG (ev_v (i := 1) (d := house_2) rfl) gv_tup3) (fun c_9 => (tv_cons (sv_asg (i := 5) (ev_join ev_str (ev_call (ea_cons (ev_v (i := 1) (d := house_2) rfl) ea_nil)))) (fun due_10 => (tv_cons (sv_asgD (i := 6) (sh := fun _ => .d) (EVO.evd (evo_lstD (eat_o (f := fun _ => .d) (EVO.evd (EVO.toD (sh := .l .v) (EVN.evo (evn_cb o_list (ea_cons (ev_v (i := 2) (d := c_9.1) rfl) ea_nil))))) (eat_o (f := fun _ => .d) (EVO.evd (EVO.toD (sh := .l (.l .v)) (evo_lc (f := some) (iv_list (ev_v (i := 3) (d := c_9.2.1) rfl)) gv_name (gw_name (by decide)) (fun c_18 => et_yes) (fun c_18 => (evn_cb o_list (ea_cons (ev_v (i := 13) (d := c_18) rfl) ea_nil)))))) (eat_o (f := fun _ => .d) (EVO.evd (EVO.toD (sh := .l (.l .v)) (evo_lc (f := some) (iv_list (ev_v (i := 4) (d := c_9.2.2) rfl)) gv_name (gw_name (by decide)) (fun c_24 => et_yes) (fun c_24 => (evn_cb o_list (ea_cons (ev_v (i := 13) (d := c_24) rfl) ea_nil)))))) eat_nil)))))) (fun lists_36 => (tv_cons (sv_asg (i := 7) (ev_lendF (i := 6) (d0 := lists_36) (sh := .j none (shF [("heard", .l (.l .v)), ("names", .l .v), ("words", .l (.l .v))])) rfl (evo_make (ea_cons (ev_op o_ix (ev_v (i := 6) (d := lists_36) rfl) ev_int) (ea_cons (ev_op o_ix (ev_v (i := 6) (d := lists_36) rfl) ev_int) (ea_cons (ev_op o_ix (ev_v (i := 6) (d := lists_36) rfl) ev_int) ea_nil)))))) (fun made_49 => (tv_cons (sv_spoilC (i := 6) (d := lists_36) rfl) (fun u_51 => (tv_ifl (et_not (et_B (ev_call (ea_cons (ev_v (i := 7) (d := made_49) rfl) (ea_cons (ev_v (i := 1) (d := house_2) rfl) ea_nil))))) (tv_ret ev_bl) (tv_cons (sv_asg (i := 8) ((evn_lc (f := some) (iv_list (ev_v (i := 3) (d := c_9.2.1) rfl)) gv_name (gw_name (by decide)) (fun c_59 => et_yes) (fun c_59 => (ev_cb o_len (ea_cons (ev_v (i := 13) (d := c_59) rfl) ea_nil))))).ev) (fun counts_58 => (tv_cons (sv_asg (i := 9) (ev_call (ea_cons (ev_v (i := 7) (d := made_49) rfl) ea_nil))) (fun many_64 => (tv_ifl (et_or (et_not (et_B (ev_call (ea_cons (ev_v (i := 9) (d := many_64) rfl) ea_nil)))) (et_op o_neF (ev_v (i := 9) (d := many_64) rfl) (ev_call (ea_cons (ev_v (i := 8) (d := counts_58) rfl) (ea_cons (ev_v (i := 4) (d := c_9.2.2) rfl) ea_nil))))) (tv_ret ev_bl) (tv_flow (out := fun c => nomatch c) (fv_for (γ := Empty) (f := some) (inv := (fun (b : Unit) => [.vl script_1, .vl house_2, .vl c_9.1, .vl c_9.2.1, .vl c_9.2.2, .vl due_10, .jk, .vl made_49, .vl counts_58, .vl many_64, .jk, .jk, .jk, .jk, .jk])) () (iv_rng1 (ev_cb o_len (ea_cons (ev_v (i := 2) (d := c_9.1) rfl) ea_nil))) (.same (.same (.same (.same (.same (.same (.same (.same (.same (.same (.same (.same (.same (.same (.same .nil))))))))))))))) gv_name (fun c_81 b_80 => (fv_ifl (post0 := fun _ => []) (et_not (et_B (ev_call (ea_cons (ev_call (ea_cons (ev_v (i := 7) (d := made_49) rfl) (ea_cons (ev_v (i := 10) (d := c_81) rfl) ea_nil))) (ea_cons ((evn_lc (f := some) (iv_list (ev_op o_ix (ev_v (i := 4) (d := c_9.2.2) rfl) (ev_v (i := 10) (d := c_81) rfl))) gv_name (gw_name (by decide)) (fun c_88 => et_yes) (fun c_88 => (ev_op o_ix (ev_v (i := 8) (d := counts_58) rfl) (ev_v (i := 14) (d := c_88) rfl))))).ev ea_nil))))) (fv_ret ev_bl) (fv_nil () (.same (.same (.same (.same (.same (.same (.same (.same (.same (.same (.drop (.same (.same (.same (.same .nil))))))))))))))))))) (fun s_100 => (tv_cons (sv_asg (i := 11) (ev_call (ea_cons (ev_v (i := 7) (d := made_49) rfl) ea_nil))) (fun text_101 => (tv_ifl (et_or (et_not (et_B (ev_isi .str (ev_v (i := 11) (d := text_101) rfl)))) (et_op o_neF (ev_v (i := 11) (d := text_101) rfl) (ev_v (i := 5) (d := due_10) rfl))) (tv_ret ev_bl) (tv_flow (out := fun c => nomatch c) (fv_for (γ := Empty) (f := some) (inv := (fun (b : Unit) => [.vl script_1, .vl house_2, .vl c_9.1, .vl c_9.2.1, .vl c_9.2.2, .vl due_10, .jk, .vl made_49, .vl counts_58, .vl many_64, .jk, .jk, .jk, .jk, .jk])) () (iv_tup (ev_tup (ea_cons (ev_v (i := 5) (d := due_10) rfl) (ea_cons (ev_call (ea_cons (ev_call (ea_cons (ev_v (i := 1) (d := house_2) rfl) ea_nil)) (ea_cons (ev_call (ea_cons (ev_v (i := 0) (d := script_1) rfl) (ea_cons ev_int (ea_cons ev_int ea_nil)))) ea_nil))) ea_nil)))) (.same (.same (.same (.same (.same (.same (.same (.same (.same (.same (.same (.drop (.same (.same (.same .nil))))))))))))))) gv_name (fun c_126 b_125 => (fv_cons (sv_asg (i := 12) (ev_call (ea_cons (ev_v (i := 11) (d := c_126) rfl) ea_nil))) (fun back_127 => (fv_ifl (post0 := fun _ => []) (et_or (et_not (et_B (ev_call (ea_cons (ev_v (i := 12) (d := back_127) rfl) (ea_cons (ev_v (i := 1) (d := house_2) rfl) ea_nil))))) (et_op o_neF (ev_call (ea_cons (ev_v (i := 12) (d := back_127) rfl) ea_nil)) (ev_v (i := 5) (d := due_10) rfl))) (fv_ret ev_bl) (fv_nil () (.same (.same (.same (.same (.same (.same (.same (.same (.same (.same (.same (.drop (.drop (.same (.same .nil))))))))))))))))))))) (fun s_142 => (tv_ret ev_bl))))))))))))))))))))))))))
end
noncomputable abbrev P0 : Program := PySem.Challenge.rw_otherhow_k03_house_text_back.prog
theorem all_facts {w : World} {K : PySem.W.Frag} {h : Heap} {mg : Str → Option Value} {fa : Addr} (X : K.In h) (G : h.Ns mainGlobals mg) (hfa : mg "law" = some (.ref fa)) (c : He.SaysX Hd.fa Hd.fn [] Hd.tf Hd.ex w h K) (main : ∀ ns : List Int, ns.length ≤ 63 → m_law (.rol (ns.map D.int)) = some (.bl true)) :
    LamX.LawAtS PySem.Challenge.rw_otherhow_k03_house_text_back w K CX0 16 63 "script" mg fa h := by
  have cd : He.SaysD Hd.fa Hd.fn K := c.t.d
  have ce : Hd.ex K = true := c.more
  unfold Hd.ex at ce
  have x0 := (He.ba ce).1
  have y0 := (He.ba ce).2
  have x1 := (He.ba y0).1
  have y1 := (He.ba y0).2
  have e := hfa.symm.trans (He.glo_ok X G (cd.fact 32 (f := .glo "law") rfl))
  cases e
  obtain ⟨fd0, F0⟩ := HdL.fun_at cd 0 (st := s_law_row) rfl
  have b0 := F0.binds (ps := ["script", "place", "many"]) fun _ _ _ _ _ _ us hl => match us, hl with | [_, _, _], _ => rfl
  obtain ⟨fd1, F1⟩ := HdL.fun_at cd 1 (st := s_law_size) rfl
  have b1 := F1.binds (ps := ["bounds"]) fun _ _ _ _ _ _ us hl => match us, hl with | [_], _ => rfl
  obtain ⟨fd2, F2⟩ := HdL.fun_at cd 2 (st := s_law_count_ways) rfl
  have b2 := F2.binds (ps := ["counts", "heard"]) fun _ _ _ _ _ _ us hl => match us, hl with | [_, _], _ => rfl
  obtain ⟨fd3, F3⟩ := HdL.fun_at cd 3 (st := s_law_shape) rfl
  have b3 := F3.binds (ps := ["script", "place", "cap"]) fun _ _ _ _ _ _ us hl => match us, hl with | [_, _, _], _ => rfl
  obtain ⟨fd4, F4⟩ := HdL.fun_at cd 4 (st := s_law_kept) rfl
  have b4 := F4.binds (ps := []) fun _ _ _ _ _ _ us hl => match us, hl with | [], _ => rfl
  obtain ⟨fd5, F5⟩ := HdL.fun_at cd 5 (st := s_law_name) rfl
  have b5 := F5.binds (ps := ["row", "k"]) fun _ _ _ _ _ _ us hl => match us, hl with | [_, _], _ => rfl
  obtain ⟨fd6, F6⟩ := HdL.fun_at cd 6 (st := s_law_names) rfl
  have b6 := F6.binds (ps := ["script", "place", "many"]) fun _ _ _ _ _ _ us hl => match us, hl with | [_, _, _], _ => rfl
  obtain ⟨fd7, F7⟩ := HdL.fun_at cd 7 (st := s_law_house) rfl
  have b7 := F7.binds (ps := ["script", "place", "cap"]) fun _ _ _ _ _ _ us hl => match us, hl with | [_, _, _], _ => rfl
  obtain ⟨fd8, F8⟩ := HdL.fun_at cd 8 (st := s_House) rfl
  have b8 := F8.binds (ps := ["self", "names", "words", "heard"]) fun _ _ _ _ _ _ us hl => match us, hl with | [_, _, _, _], _ => rfl
  obtain ⟨fd9, F9⟩ := HdL.fun_at cd 9 (st := s_law_spoil) rfl
  have b9 := F9.binds (ps := ["lists"]) fun _ _ _ _ _ _ us hl => match us, hl with | [_], _ => rfl
  obtain ⟨fd10, F10⟩ := HdL.fun_at cd 10 (st := s_size) rfl
  have b10 := F10.binds (ps := ["bounds"]) fun _ _ _ _ _ _ us hl => match us, hl with | [_], _ => rfl
  obtain ⟨fd11, F11⟩ := HdL.fun_at cd 11 (st := s_heard_bounds) rfl
  have b11 := F11.binds (ps := ["house", "variable"]) fun _ _ _ _ _ _ us hl => match us, hl with | [_, _], _ => rfl
  obtain ⟨fd12, F12⟩ := HdL.fun_at cd 12 (st := s_answer_bounds) rfl
  have b12 := F12.binds (ps := ["house"]) fun _ _ _ _ _ _ us hl => match us, hl with | [_], _ => rfl
  obtain ⟨fd13, F13⟩ := HdL.fun_at cd 13 (st := s_way_count) rfl
  have b13 := F13.binds (ps := ["house"]) fun _ _ _ _ _ _ us hl => match us, hl with | [_], _ => rfl
  obtain ⟨fd14, F14⟩ := HdL.fun_at cd 14 (st := s_format_house) rfl
  have b14 := F14.binds (ps := ["house"]) fun _ _ _ _ _ _ us hl => match us, hl with | [_], _ => rfl
  obtain ⟨fd15, F15⟩ := HdL.fun_at cd 15 (st := s_law_text_words) rfl
  have b15 := F15.binds (ps := ["house"]) fun _ _ _ _ _ _ us hl => match us, hl with | [_], _ => rfl
  obtain ⟨fd16, F16⟩ := HdL.fun_at cd 16 (st := s_law_is_integer) rfl
  have b16 := F16.binds (ps := ["x"]) fun _ _ _ _ _ _ us hl => match us, hl with | [_], _ => rfl
  obtain ⟨fd17, F17⟩ := HdL.fun_at cd 17 (st := s_law_same) rfl
  have b17 := F17.binds (ps := ["actual", "due"]) fun _ _ _ _ _ _ us hl => match us, hl with | [_, _], _ => rfl
  obtain ⟨fd18, F18⟩ := HdL.fun_at cd 18 (st := s_law_same_house) rfl
  have b18 := F18.binds (ps := ["actual", "house"]) fun _ _ _ _ _ _ us hl => match us, hl with | [_, _], _ => rfl
  obtain ⟨fd19, F19⟩ := HdL.fun_at cd 19 (st := s_law_spaced) rfl
  have b19 := F19.binds (ps := ["words", "row"]) fun _ _ _ _ _ _ us hl => match us, hl with | [_, _], _ => rfl
  obtain ⟨fd20, F20⟩ := HdL.fun_at cd 20 (st := s_Reader) rfl
  have b20 := F20.binds (ps := ["self", "text"]) fun _ _ _ _ _ _ us hl => match us, hl with | [_, _], _ => rfl
  obtain ⟨fd21, F21⟩ := HdL.fun_at cd 21 (st := s_Reader_ended) rfl
  have b21 := F21.binds (ps := ["self"]) fun _ _ _ _ _ _ us hl => match us, hl with | [_], _ => rfl
  obtain ⟨fd22, F22⟩ := HdL.fun_at cd 22 (st := s_Reader_coming) rfl
  have b22 := F22.binds (ps := ["self"]) fun _ _ _ _ _ _ us hl => match us, hl with | [_], _ => rfl
  obtain ⟨fd23, F23⟩ := HdL.fun_at cd 23 (st := s_Reader_take) rfl
  have b23 := F23.binds (ps := ["self", "allowed"]) fun _ _ _ _ _ _ us hl => match us, hl with | [_, _], _ => rfl
  obtain ⟨fd24, F24⟩ := HdL.fun_at cd 24 (st := s_Reader_finish) rfl
  have b24 := F24.binds (ps := ["self"]) fun _ _ _ _ _ _ us hl => match us, hl with | [_], _ => rfl
  obtain ⟨fd25, F25⟩ := HdL.fun_at cd 25 (st := s_words_after) rfl
  have b25 := F25.binds (ps := ["many"]) fun _ _ _ _ _ _ us hl => match us, hl with | [_], _ => rfl
  obtain ⟨fd26, F26⟩ := HdL.fun_atC cd 26 (st := s_is_name) rfl
  have b26 := F26.fn.binds (ps := ["word"]) fun _ _ _ _ _ _ us hl => match us, hl with | [_], _ => rfl
  obtain ⟨fd27, F27⟩ := HdL.fun_at cd 27 (st := s_Reader_take_name) rfl
  have b27 := F27.binds (ps := ["self", "used"]) fun _ _ _ _ _ _ us hl => match us, hl with | [_, _], _ => rfl
  obtain ⟨fd28, F28⟩ := HdL.fun_at cd 28 (st := s_read_words) rfl
  have b28 := F28.binds (ps := ["reader"]) fun _ _ _ _ _ _ us hl => match us, hl with | [_], _ => rfl
  obtain ⟨fd29, F29⟩ := HdL.fun_at cd 29 (st := s_Reader_take_index) rfl
  have b29 := F29.binds (ps := ["self", "allowed"]) fun _ _ _ _ _ _ us hl => match us, hl with | [_, _], _ => rfl
  obtain ⟨fd30, F30⟩ := HdL.fun_at cd 30 (st := s_read_heard) rfl
  have b30 := F30.binds (ps := ["reader", "earlier"]) fun _ _ _ _ _ _ us hl => match us, hl with | [_, _], _ => rfl
  obtain ⟨fd31, F31⟩ := HdL.fun_at cd 31 (st := s_parse_house) rfl
  have b31 := F31.binds (ps := ["text"]) fun _ _ _ _ _ _ us hl => match us, hl with | [_], _ => rfl
  obtain ⟨oc, od, kV, doc, pm, an, cdv, ct, osl, F32⟩ := HdL.fun_last cd 32 (st := s_law) rfl
  have b32 := F32.binds (ps := ["script"]) fun _ _ _ _ _ _ us hl => match us, hl with | [_], _ => rfl
  have bl : Bi mg := ⟨He.free_ok X G (cd.fact 42 (f := .free "all") rfl), He.free_ok X G (cd.fact 43 (f := .free "bool") rfl), He.free_ok X G (cd.fact 44 (f := .free "int") rfl), He.free_ok X G (cd.fact 45 (f := .free "isinstance") rfl), He.free_ok X G (cd.fact 46 (f := .free "len") rfl), He.free_ok X G (cd.fact 47 (f := .free "list") rfl), He.free_ok X G (cd.fact 48 (f := .free "max") rfl), He.free_ok X G (cd.fact 49 (f := .free "range") rfl), He.free_ok X G (cd.fact 50 (f := .free "str") rfl), He.free_ok X G (cd.fact 51 (f := .free "tuple") rfl), He.free_ok X G (cd.fact 52 (f := .free "zip") rfl)⟩
  let cl : Cl := ⟨fun n => match n with | 0 => He.ga K "Reader" | 1 => He.ga K "House" | _ => 0, [(He.cT K ("is_name", none)).2], fun _ => (.Pass ⟨0, 0, 0, 0⟩, "", "")⟩
  obtain ⟨tz0, gz0⟩ := He.str_ok X G (cd.fact 53 (f := .str "LETTERS" "abcdefghijklmnopqrstuvwxyz") rfl)
  obtain ⟨tz1, gz1⟩ := He.str_ok X G (cd.fact 54 (f := .str "DIGITS" "0123456789") rfl)
  obtain ⟨tz3, gz3⟩ := He.int_ok X G (cd.fact 56 (f := .int "MOST_VARIABLES" (5)) rfl)
  obtain ⟨tz4, gz4⟩ := He.int_ok X G (cd.fact 57 (f := .int "MOST_WAYS" (512)) rfl)
  let az : Nat → Addr := fun n => match n with | 2 => He.ga K "NOT_NAMES" | _ => 0
  let zv : Nat → Value := fun n => match n with | 0 => .str "abcdefghijklmnopqrstuvwxyz" tz0 | 1 => .str "0123456789" tz1 | 3 => .int (5) tz3 | 4 => .int (512) tz4 | _ => .none
  have gx : Gx K mg az zv := ⟨⟨gz0, ⟨_, rfl⟩⟩, ⟨gz1, ⟨_, rfl⟩⟩, HdL.gt_at (He.glo_ok X G (cd.fact 55 (f := .glo "NOT_NAMES") rfl)) rfl x0 rfl, ⟨gz3, ⟨_, rfl⟩⟩, ⟨gz4, ⟨_, rfl⟩⟩⟩
  have tx0 : ClsF K (cl.c 0) ["words", "at"] := ⟨He.cls_ok (cd.fact 34 (f := .cls "Reader") rfl), by
      intro f hf
      simp only [List.mem_cons, List.not_mem_nil, or_false] at hf
      rcases hf with rfl | rfl
      · exact He.noat_ok (cd.fact 35 (f := .noat "Reader" "words") rfl)
      · exact He.noat_ok (cd.fact 36 (f := .noat "Reader" "at") rfl)⟩
  have tx1 : ClsF K (cl.c 1) ["names", "words", "heard"] := ⟨He.cls_ok (cd.fact 38 (f := .cls "House") rfl), by
      intro f hf
      simp only [List.mem_cons, List.not_mem_nil, or_false] at hf
      rcases hf with rfl | rfl | rfl
      · exact He.noat_ok (cd.fact 39 (f := .noat "House" "names") rfl)
      · exact He.noat_ok (cd.fact 40 (f := .noat "House" "words") rfl)
      · exact He.noat_ok (cd.fact 41 (f := .noat "House" "heard") rfl)⟩
  have tx : Tx K cl := ⟨tx0, tx1⟩
  have ti : Ti K cl mg := ⟨HdL.isi_at x1, (He.glo_ok X G (cd.fact 37 (f := .glo "House") rfl))⟩
  refine lawAt_mk (fd := PySem.W.fnOf "law" "law" (defArgs s_law) (defBody s_law) (defScope s_law) .none kV doc pm an cdv ct) cl (Hd.tf.map (He.cT K)) rfl (HdL.tabs_at X c.hd c.empty) (HdL.outs_at c.out) (fun s v => .of_eq rfl) (fun base _ _ htb => ?_)
  have T26 : GxR.TabB base mg (He.cT K ("is_name", none)).1 (He.cT K ("is_name", none)).2 := htb (He.cT K ("is_name", none)) (List.mem_map.mpr ⟨("is_name", none), by unfold Hd.tf; simp, rfl⟩)
  have P26 : (He.cT K ("is_name", none)).2 ∈ cl.t := by show _ ∈ [(He.cT K ("is_name", none)).2]; simp
  have C0 := ok_law_row (P := P0) (w := w) (cl := cl) (base := base) (az := az) (zv := zv) F0 (He.glo_ok X G (cd.fact 0 (f := .glo "_law_row") rfl)) b0 bl gx ti tx 
  have C1 := ok_law_size (P := P0) (w := w) (cl := cl) (base := base) (az := az) (zv := zv) F1 (He.glo_ok X G (cd.fact 1 (f := .glo "_law_size") rfl)) b1 bl gx ti tx 
  have C2 := ok_law_count_ways (P := P0) (w := w) (cl := cl) (base := base) (az := az) (zv := zv) F2 (He.glo_ok X G (cd.fact 2 (f := .glo "_law_count_ways") rfl)) b2 bl gx ti tx C1
  have C3 := ok_law_shape (P := P0) (w := w) (cl := cl) (base := base) (az := az) (zv := zv) F3 (He.glo_ok X G (cd.fact 3 (f := .glo "_law_shape") rfl)) b3 bl gx ti tx C0 C2
  have C4 := ok_law_kept (P := P0) (w := w) (cl := cl) (base := base) (az := az) (zv := zv) F4 (He.glo_ok X G (cd.fact 4 (f := .glo "_law_kept") rfl)) b4 bl gx ti tx 
  have C5 := ok_law_name (P := P0) (w := w) (cl := cl) (base := base) (az := az) (zv := zv) F5 (He.glo_ok X G (cd.fact 5 (f := .glo "_law_name") rfl)) b5 bl gx ti tx C4
  have C6 := ok_law_names (P := P0) (w := w) (cl := cl) (base := base) (az := az) (zv := zv) F6 (He.glo_ok X G (cd.fact 6 (f := .glo "_law_names") rfl)) b6 bl gx ti tx C0 C5
  have C7 := ok_law_house (P := P0) (w := w) (cl := cl) (base := base) (az := az) (zv := zv) F7 (He.glo_ok X G (cd.fact 7 (f := .glo "_law_house") rfl)) b7 bl gx ti tx C3 C6 C0
  have C8 := ok_House (P := P0) (w := w) (cl := cl) (base := base) (az := az) (zv := zv) F8 (He.mkr_ok (cd.fact 8 (f := .mkr "House") rfl)) (He.glo_ok X G (cd.fact 37 (f := .glo "House") rfl)) b8 bl gx tx 
  have C9 := ok_law_spoil (P := P0) (w := w) (cl := cl) (base := base) (az := az) (zv := zv) F9 (He.glo_ok X G (cd.fact 9 (f := .glo "_law_spoil") rfl)) b9 bl gx ti tx 
  have C10 := ok_size (P := P0) (w := w) (cl := cl) (base := base) (az := az) (zv := zv) F10 (He.glo_ok X G (cd.fact 10 (f := .glo "size") rfl)) b10 bl gx ti tx 
  have C11 := ok_heard_bounds (P := P0) (w := w) (cl := cl) (base := base) (az := az) (zv := zv) F11 (He.glo_ok X G (cd.fact 11 (f := .glo "heard_bounds") rfl)) b11 bl gx ti tx 
  have C12 := ok_answer_bounds (P := P0) (w := w) (cl := cl) (base := base) (az := az) (zv := zv) F12 (He.glo_ok X G (cd.fact 12 (f := .glo "answer_bounds") rfl)) b12 bl gx ti tx C10 C11
  have C13 := ok_way_count (P := P0) (w := w) (cl := cl) (base := base) (az := az) (zv := zv) F13 (He.glo_ok X G (cd.fact 13 (f := .glo "way_count") rfl)) b13 bl gx ti tx C10 C12
  have C14 := ok_format_house (P := P0) (w := w) (cl := cl) (base := base) (az := az) (zv := zv) F14 (He.glo_ok X G (cd.fact 14 (f := .glo "format_house") rfl)) b14 bl gx ti tx 
  have C15 := ok_law_text_words (P := P0) (w := w) (cl := cl) (base := base) (az := az) (zv := zv) F15 (He.glo_ok X G (cd.fact 15 (f := .glo "_law_text_words") rfl)) b15 bl gx ti tx 
  have C16 := ok_law_is_integer (P := P0) (w := w) (cl := cl) (base := base) (az := az) (zv := zv) F16 (He.glo_ok X G (cd.fact 16 (f := .glo "_law_is_integer") rfl)) b16 bl gx ti tx 
  have C17 := ok_law_same (P := P0) (w := w) (cl := cl) (base := base) (az := az) (zv := zv) F17 (He.glo_ok X G (cd.fact 17 (f := .glo "_law_same") rfl)) b17 bl gx ti tx C16 12
  have C18 := ok_law_same_house (P := P0) (w := w) (cl := cl) (base := base) (az := az) (zv := zv) F18 (He.glo_ok X G (cd.fact 18 (f := .glo "_law_same_house") rfl)) b18 bl gx ti tx C17
  have C19 := ok_law_spaced (P := P0) (w := w) (cl := cl) (base := base) (az := az) (zv := zv) F19 (He.glo_ok X G (cd.fact 19 (f := .glo "_law_spaced") rfl)) b19 bl gx ti tx 
  have C20 := ok_Reader (P := P0) (w := w) (cl := cl) (base := base) (az := az) (zv := zv) F20 (He.mkr_ok (cd.fact 20 (f := .mkr "Reader") rfl)) (He.glo_ok X G (cd.fact 33 (f := .glo "Reader") rfl)) b20 bl gx tx 
  have C21 := ok_Reader_ended (P := P0) (w := w) (cl := cl) (base := base) (az := az) (zv := zv) F21 (He.meth_ok (cd.fact 21 (f := .meth "Reader" "ended") rfl)) b21 bl gx tx 
  have C22 := ok_Reader_coming (P := P0) (w := w) (cl := cl) (base := base) (az := az) (zv := zv) F22 (He.meth_ok (cd.fact 22 (f := .meth "Reader" "coming") rfl)) b22 bl gx tx C21
  have C23 := ok_Reader_take (P := P0) (w := w) (cl := cl) (base := base) (az := az) (zv := zv) F23 (He.meth_ok (cd.fact 23 (f := .meth "Reader" "take") rfl)) b23 bl gx tx C22
  have C24 := ok_Reader_finish (P := P0) (w := w) (cl := cl) (base := base) (az := az) (zv := zv) F24 (He.meth_ok (cd.fact 24 (f := .meth "Reader" "finish") rfl)) b24 bl gx tx C21
  have C25 := ok_words_after (P := P0) (w := w) (cl := cl) (base := base) (az := az) (zv := zv) F25 (He.glo_ok X G (cd.fact 25 (f := .glo "words_after") rfl)) b25 bl gx ti tx 
  have C26 := ok_is_name (P := P0) (w := w) (cl := cl) (base := base) (az := az) (zv := zv) F26 (He.glo_ok X G (cd.fact 26 (f := .glo "is_name") rfl)) b26 bl T26 P26 gx ti tx 
  have C27 := ok_Reader_take_name (P := P0) (w := w) (cl := cl) (base := base) (az := az) (zv := zv) F27 (He.meth_ok (cd.fact 27 (f := .meth "Reader" "take_name") rfl)) b27 bl gx tx C22 C26
  have C28 := ok_read_words (P := P0) (w := w) (cl := cl) (base := base) (az := az) (zv := zv) F28 (He.glo_ok X G (cd.fact 28 (f := .glo "read_words") rfl)) b28 bl gx ti tx C26 C27 C22
  have C29 := ok_Reader_take_index (P := P0) (w := w) (cl := cl) (base := base) (az := az) (zv := zv) F29 (He.meth_ok (cd.fact 29 (f := .meth "Reader" "take_index") rfl)) b29 bl gx tx C23
  have C30 := ok_read_heard (P := P0) (w := w) (cl := cl) (base := base) (az := az) (zv := zv) F30 (He.glo_ok X G (cd.fact 30 (f := .glo "read_heard") rfl)) b30 bl gx ti tx C23 C29 C22
  have C31 := ok_parse_house (P := P0) (w := w) (cl := cl) (base := base) (az := az) (zv := zv) F31 (He.glo_ok X G (cd.fact 31 (f := .glo "parse_house") rfl)) b31 bl gx ti tx C20 C23 C24 C8 C13 C25 C27 C28 C30
  have C32 := ok_law (P := P0) (w := w) (cl := cl) (base := base) (az := az) (zv := zv) F32 (He.glo_ok X G (cd.fact 32 (f := .glo "law") rfl)) b32 bl gx ti tx C7 C8 C9 C13 C14 C15 C18 C19 C31 C16 C2 C17 C0 C11
  exact law_ok C32.ok main
end Oh
namespace Oh
open PySem L2

/-! ### a mirror ends well -/
noncomputable def Ok {α : Type} (m : Option α) (Q : α → Prop) : Prop := ∃ r, m = some r ∧ Q r
section
variable {α β γ : Type}
theorem ok_some {a : α} {Q : α → Prop} (h : Q a) : Ok (some a) Q := ⟨a, rfl, h⟩
theorem ok_bind {m : Option α} {k : α → Option β} {P : α → Prop} {Q : β → Prop} (h : Ok m P) (hk : ∀ a, P a → Ok (k a) Q) : Ok (m.bind k) Q := by
  obtain ⟨a, e, p⟩ := h
  obtain ⟨b, e2, q⟩ := hk a p
  exact ⟨b, by rw [e]; exact e2, q⟩
theorem ok_mono {m : Option α} {P Q : α → Prop} (h : Ok m P) (hk : ∀ a, P a → Q a) : Ok m Q := by
  obtain ⟨a, e, p⟩ := h
  exact ⟨a, e, hk a p⟩
theorem ok_ite {c : Prop} [Decidable c] {m n : Option α} {Q : α → Prop} (h1 : c → Ok m Q) (h2 : ¬ c → Ok n Q) : Ok (if c then m else n) Q := by
  by_cases h : c
  · rw [if_pos h]; exact h1 h
  · rw [if_neg h]; exact h2 h
/-- loops -/
theorem forS_ok {k : D → β → Option β} {Q : β → Prop} (P : Nat → β → Prop) {xs : List D} {b : β} (h0 : P 0 b) (hs : ∀ i x b, xs[i]? = some x → P i b → Ok (k x b) (P (i + 1))) (hd : ∀ b, P xs.length b → Q b) : Ok (forS k xs b) Q := by
  have key : ∀ (ys : List D) (i : Nat) (b : β), ys = xs.drop i → i ≤ xs.length → P i b → Ok (forS k ys b) (P xs.length) := by
    intro ys
    induction ys with
    | nil =>
      intro i b e hi p
      have : xs.length ≤ i := by
        have := congrArg List.length e
        rw [List.length_drop] at this
        simp at this; omega
      have : i = xs.length := by omega
      subst this
      exact ok_some p
    | cons y ys ih =>
      intro i b e hi p
      have hl : i < xs.length := by
        have := congrArg List.length e
        rw [List.length_drop] at this
        simp at this; omega
      have e2 := List.drop_eq_getElem_cons hl
      rw [← e] at e2
      injection e2 with e3 e4
      refine ok_bind (hs i y b (by rw [List.getElem?_eq_getElem hl, e3]) p) fun b2 p2 => ?_
      exact ih (i + 1) b2 e4 hl p2
  exact ok_mono (key xs 0 b rfl (Nat.zero_le _) h0) hd
theorem rngD_len (lo : Int) (n : Nat) : (rngD lo n).length = n := by unfold rngD; rw [List.length_map, List.length_range]
theorem rngD_get {lo : Int} {n i : Nat} {x : D} (h : (rngD lo n)[i]? = some x) : i < n ∧ x = .int (lo + (i : Nat)) := by
  have hi : i < n := by rw [← rngD_len lo n]; exact (List.getElem?_eq_some_iff.mp h).1
  refine ⟨hi, ?_⟩
  unfold rngD at h
  rw [List.getElem?_map, List.getElem?_range hi] at h
  exact (Option.some.inj h).symm
theorem forS_rng {k : D → β → Option β} {Q : β → Prop} (P : Nat → β → Prop) {lo : Int} {n : Nat} {b : β} (h0 : P 0 b) (hs : ∀ i b, i < n → P i b → Ok (k (.int (lo + (i : Nat))) b) (P (i + 1))) (hd : ∀ b, P n b → Q b) : Ok (forS k (rngD lo n) b) Q := by
  refine forS_ok P h0 (fun i x b hx p => ?_) (fun b p => hd b (by rw [rngD_len] at p; exact p))
  obtain ⟨hi, rfl⟩ := rngD_get hx
  exact hs i b hi p
end
/-! ### values of the operations -/
theorem mul_l {a b : Int} (h : -(2 ^ 64) < a ∧ a < 2 ^ 64) : dMul (.int a) (.int b) = some (.int (a * b)) := by
  simp only [dMul]
  rw [if_pos (Or.inl (Or.inl h))]
theorem mul_r {a b : Int} (h : -(2 ^ 64) < b ∧ b < 2 ^ 64) : dMul (.int a) (.int b) = some (.int (a * b)) := by
  simp only [dMul]
  rw [if_pos (Or.inl (Or.inr h))]
theorem fdiv_w {a b : Int} {n : Nat} (h : 0 < b) (hb : b.natAbs < 2 ^ n) (h0 : 0 < n) (h9 : n ≤ 9000) : dFdiv (.int a) (.int b) = some (.int (a / b)) := by
  simp only [dFdiv]
  have e := wide_div (i := a) h hb h0 h9
  rw [if_pos (show 0 < b ∧ (b.natAbs.log2 < 9000 ∨ a.natAbs.log2 ≤ b.natAbs.log2 + 4400) from ⟨e.1, .inl e.2⟩)]
theorem fdiv_s {a b : Int} (h : 0 < b) (hb : b < 2 ^ 64) : dFdiv (.int a) (.int b) = some (.int (a / b)) := fdiv_w (n := 64) h (by omega) (by decide) (by decide)
theorem mod_p {a b : Int} (h : 0 < b) : dMod (.int a) (.int b) = some (.int (a % b)) := by
  simp only [dMod]
  rw [if_pos h]
theorem pow_s {a b : Int} (h : 0 ≤ b ∧ b ≤ 1000000 ∧ a.natAbs < 2 ^ 64) : dPow (.int a) (.int b) = some (.int (a ^ b.toNat)) := by
  simp only [dPow]
  rw [if_pos h]
theorem app_s {xs : List D} {x : D} (h : xs.length < 100000) : dApp (.lst xs) x = some (.lst (xs ++ [x])) := by
  simp only [dApp]
  rw [if_pos h]
theorem few_s {k : List D → D} {xs : List D} (h : xs.length ≤ 100000) : few k xs = some (k xs) := by
  unfold few
  rw [if_pos h]
theorem rng1_s {n : Int} (h0 : -(2 ^ 62) ≤ n) (h : n < 2 ^ 62) : dRng1 (.int n) = some (rngD 0 n.toNat) := by
  simp only [dRng1]
  rw [if_pos ⟨h0, h⟩]
theorem rng1_n {n : Nat} (h : (n : Int) < 2 ^ 62) : dRng1 (.int (n : Int)) = some (rngD 0 n) := rng1_s (by omega) h
theorem set_s {xs : List D} {i : Nat} {x : D} (h : i < xs.length) : dSet (.lst xs) (.int (i : Int)) x = some (.lst (xs.set i x)) := by
  simp only [dSet]
  rw [Evl.ixN_nat h]; rfl
theorem atI_s {α : Type} {xs : List α} {i : Nat} {x : α} (h : xs[i]? = some x) : atI xs (i : Int) = some x := atI_nat h
/-- lists of ints as data -/
noncomputable abbrev dis (xs : List Int) : List D := xs.map D.int
theorem dis_get {xs : List Int} {i : Nat} {x : Int} (h : xs[i]? = some x) : (dis xs)[i]? = some (.int x) := by
  show (xs.map D.int)[i]? = _
  rw [List.getElem?_map, h]; rfl
theorem dis_app (xs : List Int) (x : Int) : dis xs ++ [D.int x] = dis (xs ++ [x]) := by simp
theorem dis_len (xs : List Int) : (dis xs).length = xs.length := List.length_map _
end Oh
namespace Oh
open PySem L2
theorem forS_foldl {α σ β : Type} {k : D → β → Option β} (enc : α → D) (e : σ → β) (g : σ → α → σ) (I : σ → Prop) {xs : List α} {s : σ} (h0 : I s) (hs : ∀ s x, x ∈ xs → I s → k (enc x) (e s) = some (e (g s x)) ∧ I (g s x)) :
    forS k (xs.map enc) (e s) = some (e (xs.foldl g s)) ∧ I (xs.foldl g s) := by
  induction xs generalizing s with
  | nil => exact ⟨rfl, h0⟩
  | cons x xs ih =>
    obtain ⟨h1, h2⟩ := hs s x (List.mem_cons_self) h0
    obtain ⟨h3, h4⟩ := ih h2 (fun s y hy => hs s y (List.mem_cons_of_mem _ hy))
    refine ⟨?_, h4⟩
    show (k (enc x) (e s)).bind (forS k (xs.map enc)) = _
    rw [h1]
    exact h3
/-- numbers from 0 on as data -/
noncomputable abbrev dn (n : Nat) : D := .int (n : Int)
noncomputable abbrev dns (xs : List Nat) : List D := xs.map dn
theorem dns_get {xs : List Nat} {i : Nat} {x : Nat} (h : xs[i]? = some x) : (dns xs)[i]? = some (dn x) := by
  show (xs.map dn)[i]? = _
  rw [List.getElem?_map, h]; rfl
theorem dns_len (xs : List Nat) : (dns xs).length = xs.length := List.length_map _
end Oh
namespace Oh
open PySem L2
theorem asL_l {xs : List D} : asL (.lst xs) = some xs := rfl
theorem asL_r {xs : List D} : asL (.rol xs) = some xs := rfl
theorem asT_t {xs : List D} : asT (.tup xs) = some xs := rfl
theorem asB_b {b : Bool} : asB (.bl b) = some b := rfl
theorem int_i {a : Int} : dInt (.int a) = some (.int a) := rfl
theorem len_l {xs : List D} : dLen (.lst xs) = some (.int xs.length) := rfl
theorem len_r {xs : List D} : dLen (.rol xs) = some (.int xs.length) := rfl
theorem len_t {xs : List D} : dLen (.tup xs) = some (.int xs.length) := rfl
theorem list_l {xs : List D} : dList (.lst xs) = some (.lst xs) := rfl
theorem un2_t {a b : D} : dUn2 (.tup [a, b]) = some (a, b) := rfl
theorem few1 {k : List D → D} {a : D} : few k [a] = some (k [a]) := few_s (by show 1 ≤ 100000; decide)
theorem few2 {k : List D → D} {a b : D} : few k [a, b] = some (k [a, b]) := few_s (by show 2 ≤ 100000; decide)
theorem few3 {k : List D → D} {a b c : D} : few k [a, b, c] = some (k [a, b, c]) := few_s (by show 3 ≤ 100000; decide)
theorem few0 {k : List D → D} : few k [] = some (k []) := rfl
theorem on1_s {f : D → Option D} {a : D} : on1 f [a] = f a := rfl
theorem on2_s {f : D → D → Option D} {a b : D} : on2 f [a, b] = f a b := rfl
theorem on3_s {f : D → D → D → Option D} {a b c : D} : on3 f [a, b, c] = f a b c := rfl
theorem on4_s {f : D → D → D → D → Option D} {a b c d : D} : on4 f [a, b, c, d] = f a b c d := rfl
end Oh
namespace Oh
theorem flT_nx {β : Type} {k : β → Option D} {b : β} : flT k (.nx b) = k b := rfl
theorem flT_rt {β : Type} {k : β → Option D} {d : D} : flT k (.rt d) = some d := rfl
theorem flF_nx {β γ δ : Type} {k : δ → Option (Fl β γ)} {b : δ} : flF k (.nx b) = k b := rfl
theorem flE_rt {β γ : Type} {d : D} : (flE (.rt d) : Option (Fl β γ)) = some (.rt d) := rfl
end Oh
namespace Oh
open PySem L2
theorem if_true_ {α : Type} {a b : α} : (if true = true then a else b) = a := rfl
theorem if_ff {α : Type} {a b : α} : (if false = true then a else b) = b := rfl
theorem on5_s {f : D → D → D → D → D → Option D} {a b c d e : D} : on5 f [a, b, c, d, e] = f a b c d e := rfl
theorem on6_s {f : D → D → D → D → D → D → Option D} {a b c d e g : D} : on6 f [a, b, c, d, e, g] = f a b c d e g := rfl
theorem on0_s {m : Option D} : on0 m [] = m := rfl
theorem if_T {α : Type} {a b : α} : (if True then a else b) = a := rfl
theorem if_F {α : Type} {a b : α} : (if False then a else b) = b := rfl
theorem bind_of {α β : Type} {m : Option α} {a : α} {k : α → Option β} (h : m = some a) : m.bind k = k a := by rw [h]; rfl
theorem map_of {α β : Type} {m : Option α} {a : α} {k : α → β} (h : m = some a) : m.map k = some (k a) := by rw [h]; rfl
theorem l_0 : D.int 0 = dn 0 := rfl
theorem l_1 : D.int 1 = dn 1 := rfl
theorem l_2 : D.int 2 = dn 2 := rfl
theorem l_3 : D.int 3 = dn 3 := rfl
theorem l_4 : D.int 4 = dn 4 := rfl
theorem l_5 : D.int 5 = dn 5 := rfl
theorem l_6 : D.int 6 = dn 6 := rfl
theorem l_7 : D.int 7 = dn 7 := rfl
theorem l_8 : D.int 8 = dn 8 := rfl
theorem l_9 : D.int 9 = dn 9 := rfl
theorem l_10 : D.int 10 = dn 10 := rfl
theorem l_11 : D.int 11 = dn 11 := rfl
theorem l_12 : D.int 12 = dn 12 := rfl
theorem l_13 : D.int 13 = dn 13 := rfl
theorem l_14 : D.int 14 = dn 14 := rfl
theorem l_15 : D.int 15 = dn 15 := rfl
theorem l_20 : D.int 20 = dn 20 := rfl
theorem l_21 : D.int 21 = dn 21 := rfl
theorem l_22 : D.int 22 = dn 22 := rfl
theorem l_25 : D.int 25 = dn 25 := rfl
theorem l_26 : D.int 26 = dn 26 := rfl
theorem l_30 : D.int 30 = dn 30 := rfl
theorem l_31 : D.int 31 = dn 31 := rfl
theorem l_32 : D.int 32 = dn 32 := rfl
theorem l_36 : D.int 36 = dn 36 := rfl
theorem l_38 : D.int 38 = dn 38 := rfl
theorem l_40 : D.int 40 = dn 40 := rfl
theorem l_60 : D.int 60 = dn 60 := rfl
theorem l_64 : D.int 64 = dn 64 := rfl
theorem l_70 : D.int 70 = dn 70 := rfl
theorem l_96 : D.int 96 = dn 96 := rfl
theorem l_97 : D.int 97 = dn 97 := rfl
theorem l_100 : D.int 100 = dn 100 := rfl
theorem l_128 : D.int 128 = dn 128 := rfl
theorem l_512 : D.int 512 = dn 512 := rfl
theorem l_7919 : D.int 7919 = dn 7919 := rfl
theorem int_n {n : Nat} : dInt (dn n) = some (dn n) := rfl
theorem int_bn {c : Bool} : dInt (.bl c) = some (dn (if c = true then 1 else 0)) := by cases c <;> rfl
theorem add_n {a b : Nat} : dAdd (dn a) (dn b) = some (dn (a + b)) := by
  show some (D.int ((a : Int) + b)) = some (D.int ((a + b : Nat) : Int))
  rw [Int.natCast_add]
theorem mod_n {a b : Nat} (h : 0 < b) : dMod (dn a) (dn b) = some (dn (a % b)) := by
  show dMod (.int a) (.int b) = _
  rw [mod_p (by omega)]
  show _ = some (D.int ((a % b : Nat) : Int))
  rw [Int.natCast_emod]
theorem div_n {a b : Nat} (h : 0 < b) (h2 : b < 2 ^ 64) : dFdiv (dn a) (dn b) = some (dn (a / b)) := by
  show dFdiv (.int a) (.int b) = _
  rw [fdiv_s (by omega) (by omega)]
  show _ = some (D.int ((a / b : Nat) : Int))
  rw [Int.natCast_ediv]
theorem mul_n {a b : Nat} (h : b < 2 ^ 64) : dMul (dn a) (dn b) = some (dn (a * b)) := by
  show dMul (.int a) (.int b) = _
  rw [mul_r (by omega)]
  show _ = some (D.int ((a * b : Nat) : Int))
  rw [Int.natCast_mul]
theorem mul_nl {a b : Nat} (h : a < 2 ^ 64) : dMul (dn a) (dn b) = some (dn (a * b)) := by
  show dMul (.int a) (.int b) = _
  rw [mul_l (by omega)]
  show _ = some (D.int ((a * b : Nat) : Int))
  rw [Int.natCast_mul]
theorem atI_n {α : Type} {xs : List α} {i : Nat} : atI xs (i : Int) = xs[i]? := by
  by_cases h : i < xs.length
  · rw [atI_s (List.getElem?_eq_getElem h), List.getElem?_eq_getElem h]
  · unfold atI ixN
    rw [if_pos (by omega), if_neg (by omega), List.getElem?_eq_none (by omega)]; rfl
theorem ix_ln {xs : List D} {i : Nat} : dIx (.lst xs) (dn i) = xs[i]? := atI_n
theorem ix_rn {xs : List D} {i : Nat} : dIx (.rol xs) (dn i) = xs[i]? := atI_n
theorem ix_tn {xs : List D} {i : Nat} : dIx (.tup xs) (dn i) = xs[i]? := atI_n
theorem list_t {xs : List D} : dList (.tup xs) = some (.lst xs) := rfl
theorem few5 {k : List D → D} {a b c d e : D} : few k [a, b, c, d, e] = some (k [a, b, c, d, e]) := few_s (by show 5 ≤ 100000; decide)
theorem lt_n {a b : Nat} : dLt (dn a) (dn b) = some (.bl (decide (a < b))) := by
  show some (D.bl (decide ((a : Int) < b))) = _
  congr 2; exact decide_eq_decide.mpr (by omega)
theorem gt_n {a b : Nat} : dGt (dn a) (dn b) = some (.bl (decide (b < a))) := by
  show some (D.bl (decide ((b : Int) < a))) = _
  congr 2; exact decide_eq_decide.mpr (by omega)
theorem le_n {a b : Nat} : dLe (dn a) (dn b) = some (.bl (decide (a ≤ b))) := by
  show some (D.bl (decide ((a : Int) ≤ b))) = _
  congr 2; exact decide_eq_decide.mpr (by omega)
theorem eqF_n {a b : Nat} : dEqF (dn a) (dn b) = some (.bl (decide (a = b))) := by
  show some (D.bl (decide ((a : Int) = b))) = _
  congr 2; exact decide_eq_decide.mpr (by omega)
theorem neF_n {a b : Nat} : dNeF (dn a) (dn b) = some (.bl (!decide (a = b))) := by
  show some (D.bl (!decide ((a : Int) = b))) = _
  congr 3; exact decide_eq_decide.mpr (by omega)
theorem rng_dns (n : Nat) : rngD 0 n = dns (List.range n) := by
  unfold rngD
  refine List.map_congr_left fun i _ => ?_
  show D.int (0 + (i : Int)) = D.int i
  rw [Int.zero_add]
/-- range, of a number that is not too great (else nothing) -/
noncomputable def rngM (n : Nat) : Option (List D) := dRng1 (dn n)
theorem rng1_m {n : Nat} : dRng1 (dn n) = rngM n := rfl
theorem rng_s {n : Nat} (h : n ≤ 1000000) : rngM n = some (dns (List.range n)) := (rng1_n (n := n) (by omega)).trans (congrArg some (rng_dns n))
theorem un3_t {a b c : D} : dUn3 (.tup [a, b, c]) = some (a, b, c) := rfl
theorem tru_l {xs : List D} : dTru (.lst xs) = some (!xs.isEmpty) := rfl
theorem tru_b {b : Bool} : dTru (.bl b) = some b := rfl
/-- append, at most so many -/
noncomputable def appM (xs : List D) (x : D) : Option D := if xs.length < 100000 then some (.lst (xs ++ [x])) else none
theorem app_n {xs : List D} {x : D} : dApp (.lst xs) x = appM xs x := rfl
theorem appM_s {xs : List D} {x : D} (h : xs.length < 100000) : appM xs x = some (.lst (xs ++ [x])) := if_pos h
noncomputable def capM (xs : List D) : Option (List D) := capD xs
theorem cap_n {xs : List D} : capD xs = capM xs := rfl
theorem capM_s {xs : List D} (h : xs.length ≤ 90000) : capM xs = some xs := if_pos h
theorem flat_n {n : Nat} : flatD (dn n) = some (dn n) := rfl
theorem flat_bl {b : Bool} : flatD (.bl b) = some (.bl b) := rfl
theorem optI_n {n : Nat} : optI (some (dn n)) = some (some (n : Int)) := rfl
theorem sl_n {xs : List D} {lo hi : Option Int} : dSl (.lst xs) lo hi = some (.lst (cutD xs lo hi)) := rfl
theorem zero_add_ {n : Nat} : 0 + n = n := Nat.zero_add n
/-! lists of numbers -/
noncomputable abbrev dl (xs : List Nat) : D := .lst (dns xs)
noncomputable abbrev dll (xss : List (List Nat)) : D := .lst (xss.map dl)
theorem compD_map {α : Type} {k : D → Option (Option D)} (enc : α → D) (g : α → D) {xs : List α} (h : ∀ x ∈ xs, k (enc x) = some (some (g x))) : compD k (xs.map enc) = some (xs.map g) := by
  induction xs with
  | nil => rfl
  | cons x xs ih =>
    show (k (enc x)).bind _ = _
    rw [h x List.mem_cons_self]
    show (compD k (xs.map enc)).bind _ = _
    rw [ih fun y hy => h y (List.mem_cons_of_mem _ hy)]
    rfl
theorem compD_filter {α : Type} {k : D → Option (Option D)} (enc : α → D) (g : α → D) (p : α → Bool) {xs : List α} (h : ∀ x ∈ xs, k (enc x) = some (if p x = true then some (g x) else none)) : compD k (xs.map enc) = some ((xs.filter p).map g) := by
  induction xs with
  | nil => rfl
  | cons x xs ih =>
    show (k (enc x)).bind _ = _
    rw [h x List.mem_cons_self]
    show (compD k (xs.map enc)).bind _ = _
    rw [ih fun y hy => h y (List.mem_cons_of_mem _ hy), List.filter_cons]
    cases p x <;> rfl
theorem compD_dns {k : D → Option (Option D)} (g : Nat → D) {xs : List Nat} (h : ∀ x ∈ xs, k (dn x) = some (some (g x))) : compD k (dns xs) = some (xs.map g) := compD_map dn g h
/-- a loop over numbers, step by step -/
theorem forS_dns {β σ : Type} {k : D → β → Option β} (e : σ → β) (g : σ → Nat → σ) (I : Nat → σ → Prop) {n : Nat} {s : σ} (h0 : I 0 s) (hs : ∀ i s, i < n → I i s → k (dn i) (e s) = some (e (g s i)) ∧ I (i + 1) (g s i)) :
    forS k (dns (List.range n)) (e s) = some (e ((List.range n).foldl g s)) ∧ I n ((List.range n).foldl g s) := by
  induction n with
  | zero => exact ⟨rfl, h0⟩
  | succ n ih =>
    obtain ⟨h1, h2⟩ := ih fun i s hi => hs i s (Nat.lt_succ_of_lt hi)
    obtain ⟨h3, h4⟩ := hs n _ (Nat.lt_succ_self n) h2
    have ap : ∀ (xs ys : List D) (b : β), forS k (xs ++ ys) b = (forS k xs b).bind (forS k ys) := fun xs ys b => by
      induction xs generalizing b with
      | nil => rfl
      | cons x xs ih2 =>
        show (k x b).bind (forS k (xs ++ ys)) = ((k x b).bind (forS k xs)).bind _
        cases k x b with
        | none => rfl
        | some b2 => exact ih2 b2
    have e0 : dns (List.range (n + 1)) = dns (List.range n) ++ [dn n] := by rw [List.range_succ]; exact List.map_append
    rw [e0, List.range_succ, ap, h1, List.foldl_append]
    refine ⟨?_, h4⟩
    show (k (dn n) _).bind (forS k []) = _
    rw [h3]
    rfl
theorem forS_idx {α β σ : Type} {k : D → β → Option β} (enc : α → D) (e : σ → β) (g : σ → α → σ) (I : Nat → σ → Prop) : ∀ (ys : List α) (i : Nat) (s : σ), I i s → (∀ j x s, ys[j]? = some x → I (i + j) s → k (enc x) (e s) = some (e (g s x)) ∧ I (i + j + 1) (g s x)) →
    forS k (ys.map enc) (e s) = some (e (ys.foldl g s)) ∧ I (i + ys.length) (ys.foldl g s)
  | [], i, s, h0, _ => ⟨rfl, h0⟩
  | y :: ys, i, s, h0, hs => by
    obtain ⟨h1, h2⟩ := hs 0 y s rfl h0
    obtain ⟨h3, h4⟩ := forS_idx enc e g I ys (i + 1) (g s y) h2 fun j x s hx hI => by
      have := hs (j + 1) x s (by simpa using hx) (by rw [show i + (j + 1) = i + 1 + j by omega]; exact hI)
      rw [show i + (j + 1) = i + 1 + j by omega] at this
      exact this
    refine ⟨?_, by rw [List.length_cons, show i + (ys.length + 1) = i + 1 + ys.length by omega]; exact h4⟩
    show (k (enc y) (e s)).bind (forS k (ys.map enc)) = _
    rw [h1]
    exact h3
end Oh
namespace Oh
open PySem L2 TL
/-! ### texts as lists of numbers -/
noncomputable abbrev sD (l : List Nat) : D := .str ⟨l.toArray⟩
noncomputable abbrev ssD (ls : List (List Nat)) : D := .lst (ls.map sD)
noncomputable abbrev sS (l : List Nat) : Str := ⟨l.toArray⟩
noncomputable def Wd (s : String) : List Nat := s.toList.map Char.toNat
theorem lit_s (s : String) : D.str (Str.ofString s) = sD (Wd s) := congrArg D.str (ext_tl (by rw [tl_ofString]; rfl))
theorem len_s {l : List Nat} : (sS l).length = l.length := by rw [len_tl]
theorem sS_inj {a b : List Nat} (h : sS a = sS b) : a = b := congrArg tl h
theorem add_s {a b : List Nat} (h : a.length + b.length ≤ 100000) : dAdd (sD a) (sD b) = some (sD (a ++ b)) := by
  show (if (sS a).length + (sS b).length ≤ 100000 then some (D.str (sS a ++ sS b)) else none) = _
  rw [len_s, len_s, if_pos h]
  exact congrArg (fun z => some (D.str z)) (ext_tl (by rw [tl_append]))
theorem ix_s {l : List Nat} {i : Nat} (h : l.length ≤ 100000) : dIx (sD l) (dn i) = (l[i]?).map fun c => sD [c] := by
  show (if (sS l).length ≤ 100000 then (atI l (i : Int)).map (fun c => D.str ⟨#[c]⟩) else none) = _
  rw [len_s, if_pos h, atI_n]
theorem in_s {c : Nat} {l : List Nat} : dInT (sD [c]) (sD l) = some (.bl (decide (c ∈ l))) := rfl
theorem eqF_s {a b : List Nat} : dEqF (sD a) (sD b) = some (.bl (decide (a = b))) := by
  show some (D.bl (decide (sS a = sS b))) = _
  by_cases h : a = b
  · subst h; rw [decide_eq_true rfl, decide_eq_true rfl]
  · rw [decide_eq_false h, decide_eq_false fun z => h (sS_inj z)]
theorem neF_s {a b : List Nat} : dNeF (sD a) (sD b) = some (.bl (!decide (a = b))) := by
  show some (D.bl (!decide (sS a = sS b))) = _
  by_cases h : a = b
  · subst h; rw [decide_eq_true rfl, decide_eq_true rfl]
  · rw [decide_eq_false h, decide_eq_false fun z => h (sS_inj z)]
theorem any_s {a : List Nat} : ∀ ls : List (List Nat), ((ls.map sD).any fun y => eqFl y (sD a)) = decide (a ∈ ls)
  | [] => rfl
  | b :: ls => by
    rw [List.map_cons, List.any_cons, any_s ls]
    show ((sS b == sS a) || decide (a ∈ ls)) = _
    by_cases h : b = a
    · subst h; simp
    · rw [beq_false_of_ne fun z => h (sS_inj z), Bool.false_or]
      simp [show ¬ a = b from fun z => h z.symm]
theorem allfl_s : ∀ ls : List (List Nat), (ls.map sD).all flatB = true
  | [] => rfl
  | _ :: ls => by rw [List.map_cons, List.all_cons, allfl_s ls]; rfl
theorem mem_s {a : List Nat} {ls : List (List Nat)} : dIn (sD a) (ssD ls) = some (.bl (decide (a ∈ ls))) := by
  show ((if flatB (sD a) = true ∧ (ls.map sD).all flatB = true then some ((ls.map sD).any fun y => eqFl y (sD a)) else none).map D.bl) = _
  rw [if_pos ⟨rfl, allfl_s ls⟩, any_s]; rfl
theorem memt_s {a : List Nat} {ls : List (List Nat)} : dIn (sD a) (.tup (ls.map sD)) = some (.bl (decide (a ∈ ls))) := by
  show ((if flatB (sD a) = true ∧ (ls.map sD).all flatB = true then some ((ls.map sD).any fun y => eqFl y (sD a)) else none).map D.bl) = _
  rw [if_pos ⟨rfl, allfl_s ls⟩, any_s]; rfl
theorem nin_s {a : List Nat} {ls : List (List Nat)} : dNin (sD a) (ssD ls) = some (.bl (!decide (a ∈ ls))) := by
  show ((if flatB (sD a) = true ∧ (ls.map sD).all flatB = true then some ((ls.map sD).any fun y => eqFl y (sD a)) else none).map fun b => D.bl (!b)) = _
  rw [if_pos ⟨rfl, allfl_s ls⟩, any_s]; rfl
theorem chars_s {l : List Nat} : dChars (sD l) = some (l.map fun c => sD [c]) := rfl
theorem cutS_to {l : List Nat} {k : Nat} : cutS (sS l) none (some (k : Int)) = sS (l.take k) := by
  unfold cutS
  rw [HT.sIx_none, HT.sIx_nat, List.drop_zero, Nat.sub_zero, len_s]
  show sS (l.take (min k l.length)) = _
  by_cases h : k ≤ l.length
  · rw [Nat.min_eq_left h]
  · rw [Nat.min_eq_right (by omega), List.take_length, List.take_of_length_le (by omega)]
theorem cutS_from {l : List Nat} {k : Nat} : cutS (sS l) (some (k : Int)) none = sS (l.drop k) := by
  unfold cutS
  rw [HT.sIx_none, HT.sIx_nat, len_s]
  show sS ((l.drop (min k l.length)).take (l.length - min k l.length)) = _
  by_cases h : k ≤ l.length
  · rw [Nat.min_eq_left h, List.take_of_length_le (by rw [List.length_drop]; omega)]
  · rw [Nat.min_eq_right (by omega), List.drop_length, List.drop_eq_nil_of_le (by omega), List.take_nil]
theorem slS_to {l : List Nat} {k : Nat} (h : l.length ≤ 100000) : dSlS (sD l) none (some (k : Int)) = some (sD (l.take k)) := by
  show (if (sS l).length ≤ 100000 then some (D.str (cutS (sS l) none (some (k : Int)))) else none) = _
  rw [len_s, if_pos h, cutS_to]
theorem slS_from {l : List Nat} {k : Nat} (h : l.length ≤ 100000) : dSlS (sD l) (some (k : Int)) none = some (sD (l.drop k)) := by
  show (if (sS l).length ≤ 100000 then some (D.str (cutS (sS l) (some (k : Int)) none)) else none) = _
  rw [len_s, if_pos h, cutS_from]
theorem mul_sp {k : Nat} (h : k ≤ 1000) : dMulT (sD [32]) (dn k) = some (sD (List.replicate k 32)) := by
  show (if 0 ≤ (k : Int) ∧ (k : Int) ≤ 1000 ∧ (sS [32]).length ≤ 1000 then some (D.str (Txt.mul (sS [32]) (k : Int))) else none) = _
  rw [if_pos ⟨by omega, by omega, by rw [len_s]; decide⟩]
  exact congrArg (fun z => some (D.str z)) (ext_tl (by rw [show tl (Txt.mul (sS [32]) (k : Int)) = _ from PyProof.Rows.mul_one_list 32 k]; exact congrArg (fun n => List.replicate n 32) (Int.toNat_natCast k)))
theorem split_s {l : List Nat} (h : l.length ≤ 90000) : dSplit (sD l) (sD [32]) = some (ssD (spl [32] 0 [] l)) := by
  show (if ((sS [32]).length == 0) = false ∧ (sS l).length ≤ 90000 then some (D.lst ((Txt.split (sS l) (sS [32])).map .str)) else none) = _
  rw [len_s, len_s, if_pos ⟨rfl, h⟩]
  refine congrArg (fun z => some (D.lst z)) ?_
  have e := split_spl (sS l) (sS [32]) (by simp) (kind_ok (by rw [← Array.all_toList]; decide))
  have e2 : Txt.split (sS l) (sS [32]) = (spl [32] 0 [] l).map sS := map_tl_inj (by rw [e, List.map_map]; exact (List.map_id _).symm)
  rw [e2, List.map_map]; rfl
theorem strs_s : ∀ ls : List (List Nat), strsD (ls.map sD) = some (ls.map sS)
  | [] => rfl
  | l :: ls => by
    show (strsD (ls.map sD)).map (sS l :: ·) = _
    rw [strs_s ls]; rfl
theorem join_s {ls : List (List Nat)} (h : (ls.map (·.length)).sum + ls.length ≤ 100000) : dJoin (sD [32]) (ssD ls) = some (sD (joinL [32] ls)) := by
  show ((strsD (ls.map sD)).bind fun ys => if (ys.map (·.length)).sum + ys.length * (sS [32]).length ≤ 100000 then some (D.str (Txt.join (sS [32]) ys)) else none) = _
  rw [strs_s]
  show (if (((ls.map sS).map (·.length)).sum + (ls.map sS).length * (sS [32]).length ≤ 100000) then some (D.str (Txt.join (sS [32]) (ls.map sS))) else none) = _
  have e1 : ((ls.map sS).map (·.length)) = ls.map (·.length) := by rw [List.map_map]; exact List.map_congr_left fun l _ => len_s
  rw [e1, List.length_map, len_s, if_pos (by rw [show [32].length = 1 from rfl, Nat.mul_one]; exact h)]
  refine congrArg (fun z => some (D.str z)) (ext_tl ?_)
  rw [join_eq, tl_join, List.map_map, show (tl ∘ sS : List Nat → List Nat) = id from rfl, List.map_id]
theorem kys_s : ∀ ls : List (List Nat), kysD (ls.map sD) = some (ls.map fun l => Sum.inr (sS l))
  | [] => rfl
  | l :: ls => by
    show (kyD (sD l)).bind (fun k => (kysD (ls.map sD)).bind fun ks => some (k :: ks)) = _
    rw [kys_s ls]; rfl
theorem index_s {a : List Nat} {ls : List (List Nat)} {j : Nat} (hj : ls[j]? = some a) (hn : ls.Nodup) : dIndex (ssD ls) (sD a) = some (dn j) := by
  show ((kysD (ls.map sD)).bind fun ks => (some (Sum.inr (sS a))).bind fun k => (ks.findIdx? fun y => decide (y = k)).map fun j => D.int (j : Nat)) = _
  rw [kys_s]
  show ((ls.map fun l => (Sum.inr (sS l) : Int ⊕ Str)).findIdx? fun y => decide (y = Sum.inr (sS a))).map (fun j => D.int (j : Nat)) = _
  have e : ((ls.map fun l => (Sum.inr (sS l) : Int ⊕ Str)).findIdx? fun y => decide (y = Sum.inr (sS a))) = some j := by
    have hl : j < ls.length := (List.getElem?_eq_some_iff.mp hj).1
    have hv : ls[j] = a := (List.getElem?_eq_some_iff.mp hj).2
    rw [List.findIdx?_eq_some_iff_getElem]
    refine ⟨by rw [List.length_map]; exact hl, by simp [hv], fun i hi => ?_⟩
    have hl2 : i < ls.length := Nat.lt_trans hi hl
    have : ls[i] ≠ a := fun z => by
      have := (List.getElem_inj (h₀ := hl2) (h₁ := hl) hn).mp (z.trans hv.symm)
      omega
    simp only [List.getElem_map, decide_eq_true_eq]
    exact fun z => this (sS_inj (Sum.inr.inj z))
  rw [e]; rfl
end Oh
namespace Oh
open PySem L2

/-! ### the drawn row -/
theorem row_ok (ns : List Int) (p n : Nat) (hn : n ≤ 1000) : Ok (m_law_row (.rol (dis ns)) (.int p) (.int n)) (fun r => ∃ xs : List Int, r = .lst (dis xs) ∧ xs.length = n ∧ ∀ x ∈ xs, 0 ≤ x ∧ x < 1000) := by
  unfold m_law_row
  simp -implicitDefEqProofs only [Option.bind_some, on1, dLen, dAdd, dLt, dSub, asB, mul_l (a := 7919) (by decide : -(2 ^ 64) < (7919 : Int) ∧ (7919 : Int) < 2 ^ 64), pow_s (a := 10) (b := 18) (by decide), few_s (xs := []) (Nat.zero_le _), rng1_n (n := n) (by omega)]
  refine ok_bind (P := fun d => ∃ c, d = .int c) (ok_ite (fun h => ?_) (fun h => ok_some ⟨_, rfl⟩)) fun d ⟨c, e⟩ => ?_
  · have h2 : p < (dis ns).length := by have := of_decide_eq_true h; omega
    rw [dis_len] at h2
    simp -implicitDefEqProofs only [dIx]
    rw [atI_s (dis_get (List.getElem?_eq_getElem h2))]
    exact ok_some ⟨_, rfl⟩
  · subst e
    simp -implicitDefEqProofs only [Option.bind_some, dSub]
    refine ok_bind (P := fun b => ∃ xs : List Int, b.1 = .lst (dis xs) ∧ xs.length = n ∧ ∀ x ∈ xs, 0 ≤ x ∧ x < 1000) ?_ fun b ⟨xs, e, h⟩ => ok_some ⟨xs, e, h⟩
    refine forS_rng (fun i b => ∃ (xs : List Int) (r : Int), b = (.lst (dis xs), .int r) ∧ xs.length = i ∧ ∀ x ∈ xs, 0 ≤ x ∧ x < 1000) ⟨[], _, rfl, rfl, by simp⟩ (fun i b hi hp => ?_) (fun b ⟨xs, r, e, h⟩ => ⟨xs, by rw [e], h⟩)
    obtain ⟨xs, r, rfl, hl, hx⟩ := hp
    have grow : ∀ (z r' : Int), ∃ (ys : List Int) (r2 : Int), (D.lst (dis xs ++ [D.int (z % 1000)]), D.int r') = (D.lst (dis ys), D.int r2) ∧ ys.length = i + 1 ∧ ∀ x ∈ ys, 0 ≤ x ∧ x < 1000 := fun z r' => by
      refine ⟨xs ++ [z % 1000], r', by rw [dis_app], by simp [hl], fun x hx' => ?_⟩
      rcases List.mem_append.mp hx' with h | h
      · exact hx x h
      · rw [List.mem_singleton.mp h]; omega
    have hA : ∀ x : D, dApp (.lst (dis xs)) x = some (.lst (dis xs ++ [x])) := fun x => app_s (by rw [dis_len]; omega)
    simp -implicitDefEqProofs only [Option.bind_some, dGt, asB]
    refine ok_bind (P := fun s => ∃ (ys : List Int) (r2 : Int), s = (D.lst (dis ys), D.int r2) ∧ ys.length = i + 1 ∧ ∀ x ∈ ys, 0 ≤ x ∧ x < 1000) (ok_ite (fun h => ?_) (fun h => ?_)) fun s hs => ok_some hs
    · simp -implicitDefEqProofs only [Option.bind_some, on1, dInt, mod_p (b := 1000) (by decide), fdiv_s (b := 1000) (by decide) (by decide), hA]
      exact ok_some (grow _ _)
    · simp -implicitDefEqProofs only [Option.bind_some, on1, dInt, dAdd, mod_p (b := 2147483647) (by decide), mod_p (b := 2147483399) (by decide), mod_p (b := 1000) (by decide), fdiv_s (b := 64) (by decide) (by decide), mul_r (b := 48271) (by decide), mul_r (b := 69621) (by decide), mul_r (b := 16807) (by decide), mul_r (b := 40692) (by decide), hA]
      rw [mul_l (by have := Int.emod_lt_of_pos (c * 48271 + (0 + (i : Int)) * 69621 + 12345) (show (0 : Int) < 2147483647 by decide); have := Int.emod_nonneg (c * 48271 + (0 + (i : Int)) * 69621 + 12345) (show (2147483647 : Int) ≠ 0 by decide); omega)]
      simp -implicitDefEqProofs only [Option.bind_some, on1, dInt, dAdd, mod_p (b := 2147483399) (by decide), mod_p (b := 1000) (by decide), fdiv_s (b := 64) (by decide) (by decide), hA]
      exact ok_some (grow _ _)
end Oh
namespace Oh
open PySem L2
/-! ### the drawn row, as numbers from 0 on -/
theorem rowN_ok (ns : List Int) (p n : Nat) (hn : n ≤ 1000) : Ok (m_law_row (.rol (dis ns)) (dn p) (dn n)) (fun r => ∃ xs : List Nat, r = dl xs ∧ xs.length = n ∧ ∀ x ∈ xs, x < 1000) := by
  refine ok_mono (row_ok ns p n hn) fun r ⟨xs, e, hl, hx⟩ => ⟨xs.map Int.toNat, ?_, by rw [List.length_map]; exact hl, fun x h => ?_⟩
  · rw [e]
    show D.lst (dis xs) = D.lst ((xs.map Int.toNat).map dn)
    rw [List.map_map]
    congr 1
    refine List.map_congr_left fun x h => ?_
    show D.int x = D.int ((x.toNat : Nat) : Int)
    rw [Int.toNat_of_nonneg (hx x h).1]
  · obtain ⟨y, hy, rfl⟩ := List.mem_map.mp h
    have := hx y hy
    omega
theorem row_get {xs : List Nat} {n i : Nat} (hl : xs.length = n) (h : i < n) : ∃ x, xs[i]? = some x := ⟨xs[i], List.getElem?_eq_getElem (by omega)⟩
theorem dns_at {xs : List Nat} {i x : Nat} (h : xs[i]? = some x) : (dns xs)[i]? = some (dn x) := dns_get h
theorem dll_at {xs : List (List Nat)} {i : Nat} {x : List Nat} (h : xs[i]? = some x) : (xs.map dl)[i]? = some (dl x) := by rw [List.getElem?_map, h]; rfl
/-! ### shapes of houses -/
noncomputable def prodN (bs : List Nat) : Nat := bs.foldl (fun a b => a * b) 1
noncomputable def hv (hs : List (List Nat)) (v : Nat) : List Nat := hs.getD v []
noncomputable def ct (cs : List Nat) (v : Nat) : Nat := cs.getD v 0
noncomputable def bnd (cs : List Nat) (h : List Nat) : List Nat := h.map (ct cs)
noncomputable def szN (cs : List Nat) (hs : List (List Nat)) (v : Nat) : Nat := prodN (bnd cs (hv hs v))
noncomputable def wayN (cs : List Nat) (hs : List (List Nat)) : Nat := (List.range cs.length).foldl (fun m v => m * ct cs v ^ szN cs hs v) 1
structure Shp (cs : List Nat) (hs : List (List Nat)) : Prop where
  len : hs.length = cs.length
  lo : 1 ≤ cs.length
  hi : cs.length ≤ 5
  cnt : ∀ c ∈ cs, c = 2 ∨ c = 3
  asc : ∀ h ∈ hs, h.Pairwise (· < ·)
  lt : ∀ v u, u ∈ hv hs v → u < v
theorem ct_get {cs : List Nat} {v : Nat} (h : v < cs.length) : cs[v]? = some (ct cs v) := by unfold ct; rw [List.getD_eq_getElem?_getD, List.getElem?_eq_getElem h]; rfl
theorem hv_get {hs : List (List Nat)} {v : Nat} (h : v < hs.length) : hs[v]? = some (hv hs v) := by unfold hv; rw [List.getD_eq_getElem?_getD, List.getElem?_eq_getElem h]; rfl
theorem asc_len : ∀ (h : List Nat) (a v : Nat), h.Pairwise (· < ·) → (∀ u ∈ h, a ≤ u ∧ u < v) → h.length ≤ v - a
  | [], _, _, _, _ => Nat.zero_le _
  | x :: h, a, v, p, q => by
    have hx := q x List.mem_cons_self
    have := asc_len h (x + 1) v (List.pairwise_cons.mp p).2 fun u hu => ⟨(List.pairwise_cons.mp p).1 u hu, (q u (List.mem_cons_of_mem _ hu)).2⟩
    rw [List.length_cons]
    omega
section
variable {cs : List Nat} {hs : List (List Nat)} {v : Nat}
theorem Shp.ct23 (s : Shp cs hs) (h : v < cs.length) : ct cs v = 2 ∨ ct cs v = 3 := s.cnt _ (List.mem_of_getElem? (ct_get h))
theorem Shp.hlen (s : Shp cs hs) (h : v < cs.length) : (hv hs v).length ≤ v :=
  asc_len (hv hs v) 0 v (s.asc _ (List.mem_of_getElem? (hv_get (by rw [s.len]; exact h)))) fun u hu => ⟨Nat.zero_le _, s.lt v u hu⟩
theorem Shp.hin (s : Shp cs hs) (h : v < cs.length) : ∀ u ∈ hv hs v, u < cs.length := fun u hu => Nat.lt_trans (s.lt v u hu) h
theorem prod_fold (bs : List Nat) : ∀ a, bs.foldl (fun a b => a * b) a = a * prodN bs := by
  unfold prodN
  induction bs with
  | nil => intro a; exact (Nat.mul_one a).symm
  | cons b bs ih =>
    intro a
    rw [List.foldl_cons, List.foldl_cons, ih, ih (1 * b), Nat.one_mul, Nat.mul_assoc]
theorem prod_cons (b : Nat) (bs : List Nat) : prodN (b :: bs) = b * prodN bs := by
  show (b :: bs).foldl (fun a b => a * b) 1 = _
  rw [prod_fold]
  show 1 * ((b :: bs).foldl (fun a b => a * b) 1) = _
  rw [Nat.one_mul, List.foldl_cons, Nat.one_mul, prod_fold]
theorem prod_le {bs : List Nat} (h : ∀ b ∈ bs, b ≤ 3) : prodN bs ≤ 3 ^ bs.length := by
  induction bs with
  | nil => exact Nat.le_refl _
  | cons b bs ih =>
    rw [prod_cons, List.length_cons, Nat.pow_succ, Nat.mul_comm]
    exact Nat.mul_le_mul (ih fun c hc => h c (List.mem_cons_of_mem _ hc)) (h b List.mem_cons_self)
theorem Shp.bnd23 (s : Shp cs hs) {h : List Nat} (hh : ∀ u ∈ h, u < cs.length) : ∀ b ∈ bnd cs h, b = 2 ∨ b = 3 := fun b hb => by
  obtain ⟨u, hu, rfl⟩ := List.mem_map.mp hb
  exact s.ct23 (hh u hu)
theorem bnd_len {h : List Nat} : (bnd cs h).length = h.length := List.length_map _
theorem Shp.sz_le (s : Shp cs hs) (h : v < cs.length) : szN cs hs v ≤ 81 := by
  refine Nat.le_trans (prod_le fun b hb => by have := s.bnd23 (s.hin h) b hb; omega) ?_
  rw [bnd_len]
  have h1 := s.hlen h
  have h2 := s.hi
  exact Nat.pow_le_pow_right (n := 3) (by decide) (show (hv hs v).length ≤ 4 by omega)
/-! the mirrors on them -/
theorem size_ok {bs : List Nat} (h : ∀ b ∈ bs, b < 2 ^ 64) : m_law_size (dl bs) = some (dn (prodN bs)) := by
  unfold m_law_size
  simp -implicitDefEqProofs only [Option.bind_some, Option.map_some, if_true_, if_ff, if_T, if_F, on0_s, on1_s, on2_s, on3_s, on4_s, on5_s, on6_s, asL_l, asL_r, asT_t, asB_b, len_l, len_r, len_t, l_0, l_1, l_2, l_3, l_4, l_5, l_6, l_7, l_8, l_9, l_10, l_11, l_12, l_13, l_14, l_15, l_20, l_21, l_22, l_25, l_26, l_30, l_31, l_32, l_36, l_38, l_40, l_60, l_64, l_70, l_96, l_97, l_100, l_128, l_512, l_7919, int_n, int_i, int_bn, add_n, ix_ln, ix_rn, ix_tn, list_l, list_t, few0, few1, few2, few3, few5, lt_n, gt_n, le_n, eqF_n, neF_n, rng1_m, flT_nx, flT_rt, flF_nx, flE_rt, un2_t, un3_t, tru_l, tru_b, app_n, cap_n, flat_n, flat_bl, optI_n, sl_n, zero_add_]
  exact bind_of (forS_foldl dn dn (fun a b => a * b) (fun _ => True) (xs := bs) (s := 1) trivial fun s x hx _ => ⟨by simp -implicitDefEqProofs only [Option.bind_some, Option.map_some, if_true_, if_ff, if_T, if_F, on0_s, on1_s, on2_s, on3_s, on4_s, on5_s, on6_s, asL_l, asL_r, asT_t, asB_b, len_l, len_r, len_t, l_0, l_1, l_2, l_3, l_4, l_5, l_6, l_7, l_8, l_9, l_10, l_11, l_12, l_13, l_14, l_15, l_20, l_21, l_22, l_25, l_26, l_30, l_31, l_32, l_36, l_38, l_40, l_60, l_64, l_70, l_96, l_97, l_100, l_128, l_512, l_7919, int_n, int_i, int_bn, add_n, ix_ln, ix_rn, ix_tn, list_l, list_t, few0, few1, few2, few3, few5, lt_n, gt_n, le_n, eqF_n, neF_n, rng1_m, flT_nx, flT_rt, flF_nx, flE_rt, un2_t, un3_t, tru_l, tru_b, app_n, cap_n, flat_n, flat_bl, optI_n, sl_n, zero_add_, mul_n (h x hx)], trivial⟩).1
theorem bnd_dns {h : List Nat} : h.map (fun u => dn (ct cs u)) = dns (bnd cs h) := by
  show _ = (h.map (ct cs)).map dn
  rw [List.map_map]; rfl
theorem pow_fold (c m n : Nat) : (List.range n).foldl (fun m _ => m * c) m = m * c ^ n := by
  induction n with
  | zero => exact (Nat.mul_one m).symm
  | succ n ih => rw [List.range_succ, List.foldl_append, ih, Nat.pow_succ]; exact Nat.mul_assoc _ _ _
theorem Shp.count (s : Shp cs hs) : m_law_count_ways (dl cs) (dll hs) = some (dn (wayN cs hs)) := by
  unfold m_law_count_ways
  simp -implicitDefEqProofs only [Option.bind_some, Option.map_some, if_true_, if_ff, if_T, if_F, on0_s, on1_s, on2_s, on3_s, on4_s, on5_s, on6_s, asL_l, asL_r, asT_t, asB_b, len_l, len_r, len_t, l_0, l_1, l_2, l_3, l_4, l_5, l_6, l_7, l_8, l_9, l_10, l_11, l_12, l_13, l_14, l_15, l_20, l_21, l_22, l_25, l_26, l_30, l_31, l_32, l_36, l_38, l_40, l_60, l_64, l_70, l_96, l_97, l_100, l_128, l_512, l_7919, int_n, int_i, int_bn, add_n, ix_ln, ix_rn, ix_tn, list_l, list_t, few0, few1, few2, few3, few5, lt_n, gt_n, le_n, eqF_n, neF_n, rng1_m, flT_nx, flT_rt, flF_nx, flE_rt, un2_t, un3_t, tru_l, tru_b, app_n, cap_n, flat_n, flat_bl, optI_n, sl_n, zero_add_, dns_len, rng_s (n := cs.length) (by have := s.hi; omega)]
  refine bind_of (forS_dns dn (fun m v => m * ct cs v ^ szN cs hs v) (fun _ _ => True) trivial fun v m hv _ => ⟨?_, trivial⟩).1
  have e1 : (dns cs)[v]? = some (dn (ct cs v)) := dns_at (ct_get hv)
  have e3 : compD (fun c_10 => Option.map some (dIx (dl cs) c_10)) (dns (Oh.hv hs v)) = some (dns (bnd cs (Oh.hv hs v))) := (compD_dns (fun u => dn (ct cs u)) fun u hu => by simp -implicitDefEqProofs only [Option.bind_some, Option.map_some, if_true_, if_ff, if_T, if_F, on0_s, on1_s, on2_s, on3_s, on4_s, on5_s, on6_s, asL_l, asL_r, asT_t, asB_b, len_l, len_r, len_t, l_0, l_1, l_2, l_3, l_4, l_5, l_6, l_7, l_8, l_9, l_10, l_11, l_12, l_13, l_14, l_15, l_20, l_21, l_22, l_25, l_26, l_30, l_31, l_32, l_36, l_38, l_40, l_60, l_64, l_70, l_96, l_97, l_100, l_128, l_512, l_7919, int_n, int_i, int_bn, add_n, ix_ln, ix_rn, ix_tn, list_l, list_t, few0, few1, few2, few3, few5, lt_n, gt_n, le_n, eqF_n, neF_n, rng1_m, flT_nx, flT_rt, flF_nx, flE_rt, un2_t, un3_t, tru_l, tru_b, app_n, cap_n, flat_n, flat_bl, optI_n, sl_n, zero_add_, dns_at (ct_get (s.hin hv u hu))]).trans (by rw [bnd_dns])
  have e4 : m_law_size (dl (bnd cs (Oh.hv hs v))) = some (dn (szN cs hs v)) := size_ok fun b hb => by have := s.bnd23 (s.hin hv) b hb; omega
  have e5 : rngM (szN cs hs v) = some (dns (List.range (szN cs hs v))) := rng_s (by have := s.sz_le hv; omega)
  simp -implicitDefEqProofs only [Option.bind_some, Option.map_some, if_true_, if_ff, if_T, if_F, on0_s, on1_s, on2_s, on3_s, on4_s, on5_s, on6_s, asL_l, asL_r, asT_t, asB_b, len_l, len_r, len_t, l_0, l_1, l_2, l_3, l_4, l_5, l_6, l_7, l_8, l_9, l_10, l_11, l_12, l_13, l_14, l_15, l_20, l_21, l_22, l_25, l_26, l_30, l_31, l_32, l_36, l_38, l_40, l_60, l_64, l_70, l_96, l_97, l_100, l_128, l_512, l_7919, int_n, int_i, int_bn, add_n, ix_ln, ix_rn, ix_tn, list_l, list_t, few0, few1, few2, few3, few5, lt_n, gt_n, le_n, eqF_n, neF_n, rng1_m, flT_nx, flT_rt, flF_nx, flE_rt, un2_t, un3_t, tru_l, tru_b, app_n, cap_n, flat_n, flat_bl, optI_n, sl_n, zero_add_, dll_at (hv_get (hs := hs) (v := v) (by rw [s.len]; exact hv)), capM_s (xs := dns (Oh.hv hs v)) (by rw [dns_len]; have := s.hlen hv; have := s.hi; omega), e1, e3, e4, e5]
  refine bind_of ((forS_dns dn (fun m _ => m * ct cs v) (fun _ _ => True) trivial fun i m hi _ => ⟨by simp -implicitDefEqProofs only [Option.bind_some, Option.map_some, if_true_, if_ff, if_T, if_F, on0_s, on1_s, on2_s, on3_s, on4_s, on5_s, on6_s, asL_l, asL_r, asT_t, asB_b, len_l, len_r, len_t, l_0, l_1, l_2, l_3, l_4, l_5, l_6, l_7, l_8, l_9, l_10, l_11, l_12, l_13, l_14, l_15, l_20, l_21, l_22, l_25, l_26, l_30, l_31, l_32, l_36, l_38, l_40, l_60, l_64, l_70, l_96, l_97, l_100, l_128, l_512, l_7919, int_n, int_i, int_bn, add_n, ix_ln, ix_rn, ix_tn, list_l, list_t, few0, few1, few2, few3, few5, lt_n, gt_n, le_n, eqF_n, neF_n, rng1_m, flT_nx, flT_rt, flF_nx, flE_rt, un2_t, un3_t, tru_l, tru_b, app_n, cap_n, flat_n, flat_bl, optI_n, sl_n, zero_add_, mul_n (a := m) (b := ct cs v) (by have := s.ct23 hv; omega)], trivial⟩).1.trans ?_)
  rw [pow_fold]
end
end Oh
namespace Oh
open PySem L2
theorem pop2_n {hs : List (List Nat)} {v j : Nat} {h : List Nat} (e : hs[v]? = some h) (hj : j < h.length) (hl : h.length ≤ 1000) : dPop2 (dll hs) (dn v) (dn j) = some (dll (hs.set v (h.eraseIdx j))) := by
  have hv : v < hs.length := (List.getElem?_eq_some_iff.mp e).1
  show (ixN (hs.map dl).length ((v : Nat) : Int)).bind _ = _
  rw [Evl.ixN_nat (by rw [List.length_map]; exact hv)]
  show (match (hs.map dl)[v]? with | some (.lst xs) => _ | _ => _) = _
  rw [dll_at e]
  have hs1 : seqIndex? ((j : Nat) : Int) (dns h).length = some j := by
    unfold seqIndex?
    rw [dns_len]
    have h1 : ¬ ((j : Nat) : Int) < 0 := by omega
    simp only [h1, if_false]
    have h2 : (decide (0 ≤ ((j : Nat) : Int)) && decide (((j : Nat) : Int) < (h.length : Nat))) = true := by simp; omega
    rw [if_pos h2]; rfl
  show (if -(2 ^ 63) ≤ ((j : Nat) : Int) ∧ ((j : Nat) : Int) < 2 ^ 63 then (seqIndex? ((j : Nat) : Int) (dns h).length).bind (fun c => if c < (dns h).length then some (D.lst ((hs.map dl).set v (.lst ((dns h).eraseIdx c)))) else none) else none) = _
  rw [if_pos (by omega), hs1]
  show (if j < (dns h).length then _ else none) = _
  rw [if_pos (by rw [dns_len]; exact hj)]
  rw [show dll (hs.set v (h.eraseIdx j)) = .lst ((hs.map dl).set v (dl (h.eraseIdx j))) from congrArg D.lst List.map_set]
  have e9 : (dns h).eraseIdx j = dns (h.eraseIdx j) := by
    show (h.map dn).eraseIdx j = (h.eraseIdx j).map dn
    rw [List.eraseIdx_eq_take_drop_succ, List.eraseIdx_eq_take_drop_succ, List.map_append, List.map_take, List.map_drop]
  rw [e9]
end Oh
namespace Oh
open PySem L2
theorem set_n {cs : List Nat} {v c : Nat} (h : v < cs.length) : dSet (dl cs) (dn v) (dn c) = some (dl (cs.set v c)) := by
  show dSet (.lst (dns cs)) (.int ((v : Nat) : Int)) (dn c) = _
  rw [set_s (by rw [dns_len]; exact h), ← List.map_set]
noncomputable def visN (n r t v : Nat) : Nat := ((List.range t).filter fun s => (r + s) % n = v).length
noncomputable def pot (cs : List Nat) (hs : List (List Nat)) (v : Nat) : Nat := (hv hs v).length + (if ct cs v = 3 then 1 else 0)
theorem vis_all : ∀ n, n < 6 → ∀ r, r < n → ∀ v, v < n → v + 1 ≤ visN n r 30 v := by decide +kernel
theorem vis_mod (n r t v : Nat) : visN n r t v = visN n (r % n) t v := by
  unfold visN
  congr 2
  funext s
  rw [Nat.mod_add_mod]
theorem vis_succ (n r t v : Nat) : visN n r (t + 1) v = visN n r t v + if (r + t) % n = v then 1 else 0 := by
  unfold visN
  rw [List.range_succ, List.filter_append, List.length_append, List.filter_cons, List.filter_nil]
  by_cases h : (r + t) % n = v
  · simp [h]
  · simp [h]
section
variable {cs : List Nat} {hs : List (List Nat)} {v : Nat}
theorem ct_set {c u : Nat} (h : v < cs.length) : ct (cs.set v c) u = if u = v then c else ct cs u := by
  unfold ct
  rw [List.getD_eq_getElem?_getD, List.getD_eq_getElem?_getD]
  by_cases e : u = v
  · subst e; rw [List.getElem?_set_self h, if_pos rfl]; rfl
  · rw [List.getElem?_set_ne (fun z => e z.symm), if_neg e]
theorem hv_set {x : List Nat} {u : Nat} (h : v < hs.length) : hv (hs.set v x) u = if u = v then x else hv hs u := by
  unfold hv
  rw [List.getD_eq_getElem?_getD, List.getD_eq_getElem?_getD]
  by_cases e : u = v
  · subst e; rw [List.getElem?_set_self h, if_pos rfl]; rfl
  · rw [List.getElem?_set_ne (fun z => e z.symm), if_neg e]
theorem Shp.setC (s : Shp cs hs) : Shp (cs.set v 2) hs := ⟨by rw [List.length_set]; exact s.len, by rw [List.length_set]; exact s.lo, by rw [List.length_set]; exact s.hi, fun c hc => (List.mem_or_eq_of_mem_set hc).elim (s.cnt c) .inl, s.asc, s.lt⟩
theorem Shp.setH (s : Shp cs hs) (h : v < hs.length) {j : Nat} : Shp cs (hs.set v ((hv hs v).eraseIdx j)) := by
  refine ⟨by rw [List.length_set]; exact s.len, s.lo, s.hi, s.cnt, fun x hx => ?_, fun w u hu => ?_⟩
  · rcases List.mem_or_eq_of_mem_set hx with z | z
    · exact s.asc x z
    · rw [z]; exact (s.asc _ (List.mem_of_getElem? (hv_get h))).sublist (List.eraseIdx_sublist _ _)
  · rw [hv_set h] at hu
    by_cases e : w = v
    · rw [if_pos e] at hu
      subst e
      exact s.lt w u ((List.eraseIdx_sublist _ _).subset hu)
    · rw [if_neg e] at hu; exact s.lt w u hu
/-- all is reduced: at most 32 ways -/
theorem Shp.least (s : Shp cs hs) (h : ∀ v, v < cs.length → pot cs hs v = 0) : wayN cs hs ≤ 32 := by
  have e : ∀ v, v < cs.length → ct cs v ^ szN cs hs v = 2 := fun v hv1 => by
    have h1 := h v hv1
    unfold pot at h1
    have h2 : hv hs v = [] := List.length_eq_zero_iff.mp (by omega)
    have h3 : ct cs v = 2 := by
      rcases s.ct23 hv1 with z | z
      · exact z
      · rw [if_pos z] at h1; omega
    unfold szN
    rw [h2, h3]; rfl
  have key : ∀ k, k ≤ cs.length → (List.range k).foldl (fun m v => m * ct cs v ^ szN cs hs v) 1 = 2 ^ k := by
    intro k
    induction k with
    | zero => intro _; rfl
    | succ k ih =>
      intro hk
      rw [List.range_succ, List.foldl_append, ih (by omega), Nat.pow_succ]
      show 2 ^ k * ct cs k ^ szN cs hs k = _
      rw [e k (by omega)]
  unfold wayN
  rw [key _ (Nat.le_refl _)]
  have := s.hi
  exact Nat.pow_le_pow_right (n := 2) (by decide) this
end
theorem shape_ok (ns : List Int) (p cap : Nat) (hcap : 32 ≤ cap) : Ok (m_law_shape (.rol (dis ns)) (dn p) (dn cap)) (fun r => ∃ cs hs, r = .tup [dl cs, dll hs] ∧ Shp cs hs ∧ wayN cs hs ≤ cap) := by
  unfold m_law_shape
  simp -implicitDefEqProofs only [Option.bind_some, Option.map_some, if_true_, if_ff, if_T, if_F, on0_s, on1_s, on2_s, on3_s, on4_s, on5_s, on6_s, asL_l, asL_r, asT_t, asB_b, len_l, len_r, len_t, l_0, l_1, l_2, l_3, l_4, l_5, l_6, l_7, l_8, l_9, l_10, l_11, l_12, l_13, l_14, l_15, l_20, l_21, l_22, l_25, l_26, l_30, l_31, l_32, l_36, l_38, l_40, l_60, l_64, l_70, l_96, l_97, l_100, l_128, l_512, l_7919, int_n, int_i, int_bn, add_n, ix_ln, ix_rn, ix_tn, list_l, list_t, few0, few1, few2, few3, few5, lt_n, gt_n, le_n, eqF_n, neF_n, rng1_m, flT_nx, flT_rt, flF_nx, flE_rt, un2_t, un3_t, tru_l, tru_b, app_n, cap_n, flat_n, flat_bl, optI_n, sl_n, zero_add_]
  refine ok_bind (rowN_ok ns p 40 (by decide)) fun r ⟨xs, e, hl, hx⟩ => ?_
  subst e
  obtain ⟨x0, h0⟩ := row_get hl (i := 0) (by decide)
  obtain ⟨x31, h31⟩ := row_get hl (i := 31) (by decide)
  have f7 : ∀ {a b c d e f g : D}, few D.lst [a, b, c, d, e, f, g] = some (.lst [a, b, c, d, e, f, g]) := few_s (by show 7 ≤ 100000; decide)
  simp -implicitDefEqProofs only [Option.bind_some, Option.map_some, if_true_, if_ff, if_T, if_F, on0_s, on1_s, on2_s, on3_s, on4_s, on5_s, on6_s, asL_l, asL_r, asT_t, asB_b, len_l, len_r, len_t, l_0, l_1, l_2, l_3, l_4, l_5, l_6, l_7, l_8, l_9, l_10, l_11, l_12, l_13, l_14, l_15, l_20, l_21, l_22, l_25, l_26, l_30, l_31, l_32, l_36, l_38, l_40, l_60, l_64, l_70, l_96, l_97, l_100, l_128, l_512, l_7919, int_n, int_i, int_bn, add_n, ix_ln, ix_rn, ix_tn, list_l, list_t, few0, few1, few2, few3, few5, lt_n, gt_n, le_n, eqF_n, neF_n, rng1_m, flT_nx, flT_rt, flF_nx, flE_rt, un2_t, un3_t, tru_l, tru_b, app_n, cap_n, flat_n, flat_bl, optI_n, sl_n, zero_add_, dns_at h0, f7, mod_n (a := x0) (b := 7) (by decide)]
  have hn : ∃ n, [dn 1, dn 2, dn 3, dn 2, dn 3, dn 4, dn 5][x0 % 7]? = some (dn n) ∧ 1 ≤ n ∧ n ≤ 5 := by
    have : x0 % 7 < 7 := Nat.mod_lt _ (by decide)
    generalize x0 % 7 = k at this
    match k, this with
    | 0, _ => exact ⟨1, rfl, by decide, by decide⟩
    | 1, _ => exact ⟨2, rfl, by decide, by decide⟩
    | 2, _ => exact ⟨3, rfl, by decide, by decide⟩
    | 3, _ => exact ⟨2, rfl, by decide, by decide⟩
    | 4, _ => exact ⟨3, rfl, by decide, by decide⟩
    | 5, _ => exact ⟨4, rfl, by decide, by decide⟩
    | 6, _ => exact ⟨5, rfl, by decide, by decide⟩
  obtain ⟨n, en, n1, n5⟩ := hn
  rw [en]
  have rn : rngM n = some (dns (List.range n)) := rng_s (by omega)
  have cn : capM (dns (List.range n)) = some (dns (List.range n)) := capM_s (by rw [dns_len, List.length_range]; omega)
  simp -implicitDefEqProofs only [Option.bind_some, Option.map_some, if_true_, if_ff, if_T, if_F, on0_s, on1_s, on2_s, on3_s, on4_s, on5_s, on6_s, asL_l, asL_r, asT_t, asB_b, len_l, len_r, len_t, l_0, l_1, l_2, l_3, l_4, l_5, l_6, l_7, l_8, l_9, l_10, l_11, l_12, l_13, l_14, l_15, l_20, l_21, l_22, l_25, l_26, l_30, l_31, l_32, l_36, l_38, l_40, l_60, l_64, l_70, l_96, l_97, l_100, l_128, l_512, l_7919, int_n, int_i, int_bn, add_n, ix_ln, ix_rn, ix_tn, list_l, list_t, few0, few1, few2, few3, few5, lt_n, gt_n, le_n, eqF_n, neF_n, rng1_m, flT_nx, flT_rt, flF_nx, flE_rt, un2_t, un3_t, tru_l, tru_b, app_n, cap_n, flat_n, flat_bl, optI_n, sl_n, zero_add_, rn, cn, mod_n (b := 4) (by decide)]
  have rx : ∀ i, i < 40 → (dns xs)[i]? = some (dn (xs.getD i 0)) := fun i hi => by
    refine dns_at ?_
    rw [List.getD_eq_getElem?_getD, List.getElem?_eq_getElem (by omega)]; rfl
  have ec : compD (fun c_35 => Option.map some (((((((((dAdd (dn 1) c_35).bind fun t39 => dIx (dl xs) t39).bind fun x_5 => some [x_5]).bind (on1 dInt)).bind fun t42 => dMod t42 (dn 4)).bind fun t44 => dEqF t44 (dn 1)).bind fun x_5 => some [x_5]).bind (on1 dInt)).bind fun t49 => dAdd (dn 2) t49)) (dns (List.range n)) = some ((List.range n).map fun v => dn (2 + if xs.getD (1 + v) 0 % 4 = 1 then 1 else 0)) :=
    compD_dns _ fun v hv => by
      have hv := List.mem_range.mp hv
      simp -implicitDefEqProofs only [Option.bind_some, Option.map_some, if_true_, if_ff, if_T, if_F, on0_s, on1_s, on2_s, on3_s, on4_s, on5_s, on6_s, asL_l, asL_r, asT_t, asB_b, len_l, len_r, len_t, l_0, l_1, l_2, l_3, l_4, l_5, l_6, l_7, l_8, l_9, l_10, l_11, l_12, l_13, l_14, l_15, l_20, l_21, l_22, l_25, l_26, l_30, l_31, l_32, l_36, l_38, l_40, l_60, l_64, l_70, l_96, l_97, l_100, l_128, l_512, l_7919, int_n, int_i, int_bn, add_n, ix_ln, ix_rn, ix_tn, list_l, list_t, few0, few1, few2, few3, few5, lt_n, gt_n, le_n, eqF_n, neF_n, rng1_m, flT_nx, flT_rt, flF_nx, flE_rt, un2_t, un3_t, tru_l, tru_b, app_n, cap_n, flat_n, flat_bl, optI_n, sl_n, zero_add_, rx (1 + v) (by omega), mod_n (b := 4) (by decide)]
      simp only [decide_eq_true_eq]
  have ec2 : (List.range n).map (fun v => dn (2 + if xs.getD (1 + v) 0 % 4 = 1 then 1 else 0)) = dns ((List.range n).map fun v => 2 + if xs.getD (1 + v) 0 % 4 = 1 then 1 else 0) := by
    show _ = List.map dn _
    rw [List.map_map]; rfl
  rw [ec2] at ec
  rw [ec]
  have eh : ∀ F : D → Option (Option D), (∀ v, v < n → F (dn v) = some (some (dl ((List.range v).filter fun u => decide (0 < xs.getD (6 + 5 * v + u) 0 % 3))))) → compD F (dns (List.range n)) = some (((List.range n).map fun v => (List.range v).filter fun u => decide (0 < xs.getD (6 + 5 * v + u) 0 % 3)).map dl) := fun F hF => by
    rw [compD_dns (fun v => dl ((List.range v).filter fun u => decide (0 < xs.getD (6 + 5 * v + u) 0 % 3))) fun v hv => hF v (List.mem_range.mp hv), List.map_map]; rfl
  rw [eh _ fun v hv => by
    simp -implicitDefEqProofs only [Option.bind_some, Option.map_some, if_true_, if_ff, if_T, if_F, on0_s, on1_s, on2_s, on3_s, on4_s, on5_s, on6_s, asL_l, asL_r, asT_t, asB_b, len_l, len_r, len_t, l_0, l_1, l_2, l_3, l_4, l_5, l_6, l_7, l_8, l_9, l_10, l_11, l_12, l_13, l_14, l_15, l_20, l_21, l_22, l_25, l_26, l_30, l_31, l_32, l_36, l_38, l_40, l_60, l_64, l_70, l_96, l_97, l_100, l_128, l_512, l_7919, int_n, int_i, int_bn, add_n, ix_ln, ix_rn, ix_tn, list_l, list_t, few0, few1, few2, few3, few5, lt_n, gt_n, le_n, eqF_n, neF_n, rng1_m, flT_nx, flT_rt, flF_nx, flE_rt, un2_t, un3_t, tru_l, tru_b, app_n, cap_n, flat_n, flat_bl, optI_n, sl_n, zero_add_, rng_s (n := v) (by omega), capM_s (xs := dns (List.range v)) (by rw [dns_len, List.length_range]; omega)]
    have := compD_filter (k := fun c_54 => ((((((((dMul (dn 5) (dn v)).bind fun t58 => dAdd (dn 6) t58).bind fun t59 => dAdd t59 c_54).bind fun t39 => dIx (dl xs) t39).bind fun x_5 => some [x_5]).bind (on1 dInt)).bind fun t65 => dMod t65 (dn 3)).bind fun t67 => (dGt t67 (dn 0)).bind asB).bind fun b_70 => if b_70 = true then some (some c_54) else some none) dn dn (fun u => decide (0 < xs.getD (6 + 5 * v + u) 0 % 3)) (xs := List.range v) fun u hu => by
      have hu := List.mem_range.mp hu
      simp -implicitDefEqProofs only [Option.bind_some, Option.map_some, if_true_, if_ff, if_T, if_F, on0_s, on1_s, on2_s, on3_s, on4_s, on5_s, on6_s, asL_l, asL_r, asT_t, asB_b, len_l, len_r, len_t, l_0, l_1, l_2, l_3, l_4, l_5, l_6, l_7, l_8, l_9, l_10, l_11, l_12, l_13, l_14, l_15, l_20, l_21, l_22, l_25, l_26, l_30, l_31, l_32, l_36, l_38, l_40, l_60, l_64, l_70, l_96, l_97, l_100, l_128, l_512, l_7919, int_n, int_i, int_bn, add_n, ix_ln, ix_rn, ix_tn, list_l, list_t, few0, few1, few2, few3, few5, lt_n, gt_n, le_n, eqF_n, neF_n, rng1_m, flT_nx, flT_rt, flF_nx, flE_rt, un2_t, un3_t, tru_l, tru_b, app_n, cap_n, flat_n, flat_bl, optI_n, sl_n, zero_add_, mul_nl (a := 5) (by decide), rx (6 + 5 * v + u) (by omega), mod_n (b := 3) (by decide)]
      split <;> rfl
    rw [this]
    rfl]
  have r30 : rngM 30 = some (dns (List.range 30)) := rng_s (by decide)
  simp -implicitDefEqProofs only [Option.bind_some, Option.map_some, if_true_, if_ff, if_T, if_F, on0_s, on1_s, on2_s, on3_s, on4_s, on5_s, on6_s, asL_l, asL_r, asT_t, asB_b, len_l, len_r, len_t, l_0, l_1, l_2, l_3, l_4, l_5, l_6, l_7, l_8, l_9, l_10, l_11, l_12, l_13, l_14, l_15, l_20, l_21, l_22, l_25, l_26, l_30, l_31, l_32, l_36, l_38, l_40, l_60, l_64, l_70, l_96, l_97, l_100, l_128, l_512, l_7919, int_n, int_i, int_bn, add_n, ix_ln, ix_rn, ix_tn, list_l, list_t, few0, few1, few2, few3, few5, lt_n, gt_n, le_n, eqF_n, neF_n, rng1_m, flT_nx, flT_rt, flF_nx, flE_rt, un2_t, un3_t, tru_l, tru_b, app_n, cap_n, flat_n, flat_bl, optI_n, sl_n, zero_add_, r30, dns_at h31]
  generalize hcs : ((List.range n).map fun v => 2 + if xs.getD (1 + v) 0 % 4 = 1 then 1 else 0) = cs0
  generalize hhs : ((List.range n).map fun v => (List.range v).filter fun u => decide (0 < xs.getD (6 + 5 * v + u) 0 % 3)) = hs0
  have hvd : ∀ v, v < n → hv hs0 v = (List.range v).filter fun u => decide (0 < xs.getD (6 + 5 * v + u) 0 % 3) := fun v hv1 => by
    rw [← hhs]; unfold hv
    rw [List.getD_eq_getElem?_getD, List.getElem?_map, List.getElem?_range hv1]; rfl
  have cl0 : cs0.length = n := by rw [← hcs, List.length_map, List.length_range]
  have hl0 : hs0.length = n := by rw [← hhs, List.length_map, List.length_range]
  have s0 : Shp cs0 hs0 := by
    refine ⟨by omega, by omega, by omega, fun c hc => ?_, fun h hh => ?_, fun v u hu => ?_⟩
    · rw [← hcs] at hc
      obtain ⟨v, _, rfl⟩ := List.mem_map.mp hc
      split <;> simp
    · rw [← hhs] at hh
      obtain ⟨v, _, rfl⟩ := List.mem_map.mp hh
      exact (List.pairwise_lt_range).filter _
    · by_cases hv1 : v < n
      · rw [hvd v hv1] at hu
        exact List.mem_range.mp (List.mem_filter.mp hu).1
      · unfold hv at hu
        rw [List.getD_eq_getElem?_getD, List.getElem?_eq_none (by omega)] at hu
        cases hu
  refine ok_bind (P := fun b : D × D => ∃ cs hs, b = (dll hs, dl cs) ∧ Shp cs hs ∧ wayN cs hs ≤ cap) ?_ fun b ⟨cs, hs, e, s, hw⟩ => ok_some ⟨cs, hs, by rw [e], s, hw⟩
  have P0 : ∀ v, v < n → pot cs0 hs0 v ≤ v + 1 - visN n x31 0 v := fun v hv1 => by
    unfold pot
    have := s0.hlen (v := v) (by omega)
    have e0 : visN n x31 0 v = 0 := rfl
    rw [e0]
    split <;> omega
  refine forS_ok (fun t b => ∃ cs hs, b = (dll hs, dl cs) ∧ Shp cs hs ∧ cs.length = n ∧ (wayN cs hs ≤ cap ∨ ∀ v, v < n → pot cs hs v ≤ v + 1 - visN n x31 t v)) ⟨cs0, hs0, rfl, s0, cl0, .inr P0⟩ (fun t x b hx hb => ?_) (fun b hb => ?_)
  · obtain ⟨cs, hs, rfl, s, hc, hp⟩ := hb
    have ht : t < 30 := by have := (List.getElem?_eq_some_iff.mp hx).1; rwa [dns_len, List.length_range] at this
    rw [dns_at (List.getElem?_range ht)] at hx
    cases hx
    simp -implicitDefEqProofs only [Option.bind_some, Option.map_some, if_true_, if_ff, if_T, if_F, on0_s, on1_s, on2_s, on3_s, on4_s, on5_s, on6_s, asL_l, asL_r, asT_t, asB_b, len_l, len_r, len_t, l_0, l_1, l_2, l_3, l_4, l_5, l_6, l_7, l_8, l_9, l_10, l_11, l_12, l_13, l_14, l_15, l_20, l_21, l_22, l_25, l_26, l_30, l_31, l_32, l_36, l_38, l_40, l_60, l_64, l_70, l_96, l_97, l_100, l_128, l_512, l_7919, int_n, int_i, int_bn, add_n, ix_ln, ix_rn, ix_tn, list_l, list_t, few0, few1, few2, few3, few5, lt_n, gt_n, le_n, eqF_n, neF_n, rng1_m, flT_nx, flT_rt, flF_nx, flE_rt, un2_t, un3_t, tru_l, tru_b, app_n, cap_n, flat_n, flat_bl, optI_n, sl_n, zero_add_, mod_n (b := n) (by omega), s.count]
    have hvn : (x31 + t) % n < n := Nat.mod_lt _ (by omega)
    generalize hvv : (x31 + t) % n = v at hvn
    by_cases hcnt : cap < wayN cs hs
    · have hp := hp.resolve_left (by omega)
      have e1 : hs[v]? = some (hv hs v) := hv_get (by rw [s.len]; omega)
      have e32 : (dns xs)[32 + v]? = some (dn (xs.getD (32 + v) 0)) := rx _ (by omega)
      have hlen := s.hlen (v := v) (by omega)
      simp -implicitDefEqProofs only [decide_eq_true hcnt]
      simp -implicitDefEqProofs only [Option.bind_some, Option.map_some, if_true_, if_ff, if_T, if_F, on0_s, on1_s, on2_s, on3_s, on4_s, on5_s, on6_s, asL_l, asL_r, asT_t, asB_b, len_l, len_r, len_t, l_0, l_1, l_2, l_3, l_4, l_5, l_6, l_7, l_8, l_9, l_10, l_11, l_12, l_13, l_14, l_15, l_20, l_21, l_22, l_25, l_26, l_30, l_31, l_32, l_36, l_38, l_40, l_60, l_64, l_70, l_96, l_97, l_100, l_128, l_512, l_7919, int_n, int_i, int_bn, add_n, ix_ln, ix_rn, ix_tn, list_l, list_t, few0, few1, few2, few3, few5, lt_n, gt_n, le_n, eqF_n, neF_n, rng1_m, flT_nx, flT_rt, flF_nx, flE_rt, un2_t, un3_t, tru_l, tru_b, app_n, cap_n, flat_n, flat_bl, optI_n, sl_n, zero_add_, dll_at e1, e32]
      by_cases hem : hv hs v = []
      · rw [show (dns (hv hs v)).isEmpty = true by rw [hem]; rfl]
        simp -implicitDefEqProofs only [Option.bind_some, Option.map_some, if_true_, if_ff, if_T, if_F, on0_s, on1_s, on2_s, on3_s, on4_s, on5_s, on6_s, asL_l, asL_r, asT_t, asB_b, len_l, len_r, len_t, l_0, l_1, l_2, l_3, l_4, l_5, l_6, l_7, l_8, l_9, l_10, l_11, l_12, l_13, l_14, l_15, l_20, l_21, l_22, l_25, l_26, l_30, l_31, l_32, l_36, l_38, l_40, l_60, l_64, l_70, l_96, l_97, l_100, l_128, l_512, l_7919, int_n, int_i, int_bn, add_n, ix_ln, ix_rn, ix_tn, list_l, list_t, few0, few1, few2, few3, few5, lt_n, gt_n, le_n, eqF_n, neF_n, rng1_m, flT_nx, flT_rt, flF_nx, flE_rt, un2_t, un3_t, tru_l, tru_b, app_n, cap_n, flat_n, flat_bl, optI_n, sl_n, zero_add_, Bool.not_true]
        rw [set_n (by omega)]
        simp -implicitDefEqProofs only [Option.bind_some, Option.map_some, if_true_, if_ff, if_T, if_F, on0_s, on1_s, on2_s, on3_s, on4_s, on5_s, on6_s, asL_l, asL_r, asT_t, asB_b, len_l, len_r, len_t, l_0, l_1, l_2, l_3, l_4, l_5, l_6, l_7, l_8, l_9, l_10, l_11, l_12, l_13, l_14, l_15, l_20, l_21, l_22, l_25, l_26, l_30, l_31, l_32, l_36, l_38, l_40, l_60, l_64, l_70, l_96, l_97, l_100, l_128, l_512, l_7919, int_n, int_i, int_bn, add_n, ix_ln, ix_rn, ix_tn, list_l, list_t, few0, few1, few2, few3, few5, lt_n, gt_n, le_n, eqF_n, neF_n, rng1_m, flT_nx, flT_rt, flF_nx, flE_rt, un2_t, un3_t, tru_l, tru_b, app_n, cap_n, flat_n, flat_bl, optI_n, sl_n, zero_add_]
        refine ok_some ⟨cs.set v 2, hs, rfl, s.setC, by rw [List.length_set]; exact hc, .inr fun u hu => ?_⟩
        have h1 := hp u hu
        have h2 := vis_succ n x31 t u
        unfold pot at h1 ⊢
        rw [ct_set (by omega)]
        rw [hvv] at h2
        by_cases e : u = v
        · subst e
          rw [if_pos rfl, hem]
          simp
        · rw [if_neg e]
          rw [if_neg (fun z => e z.symm)] at h2
          omega
      · have hne : (hv hs v).length ≠ 0 := fun z => hem (List.length_eq_zero_iff.mp z)
        rw [show (dns (hv hs v)).isEmpty = false by cases h : hv hs v with | nil => exact absurd h hem | cons a l => rfl]
        simp -implicitDefEqProofs only [Option.bind_some, Option.map_some, if_true_, if_ff, if_T, if_F, on0_s, on1_s, on2_s, on3_s, on4_s, on5_s, on6_s, asL_l, asL_r, asT_t, asB_b, len_l, len_r, len_t, l_0, l_1, l_2, l_3, l_4, l_5, l_6, l_7, l_8, l_9, l_10, l_11, l_12, l_13, l_14, l_15, l_20, l_21, l_22, l_25, l_26, l_30, l_31, l_32, l_36, l_38, l_40, l_60, l_64, l_70, l_96, l_97, l_100, l_128, l_512, l_7919, int_n, int_i, int_bn, add_n, ix_ln, ix_rn, ix_tn, list_l, list_t, few0, few1, few2, few3, few5, lt_n, gt_n, le_n, eqF_n, neF_n, rng1_m, flT_nx, flT_rt, flF_nx, flE_rt, un2_t, un3_t, tru_l, tru_b, app_n, cap_n, flat_n, flat_bl, optI_n, sl_n, zero_add_, Bool.not_false, dns_len, mod_n (b := (hv hs v).length) (by omega), pop2_n e1 (j := xs.getD (32 + v) 0 % (hv hs v).length) (Nat.mod_lt _ (by omega)) (by omega)]
        refine ok_some ⟨cs, hs.set v ((hv hs v).eraseIdx (xs.getD (32 + v) 0 % (hv hs v).length)), rfl, s.setH (by rw [s.len]; omega), hc, .inr fun u hu => ?_⟩
        have h1 := hp u hu
        have h2 := vis_succ n x31 t u
        unfold pot at h1 ⊢
        rw [hv_set (by rw [s.len]; omega)]
        rw [hvv] at h2
        by_cases e : u = v
        · subst e
          rw [if_pos rfl, List.length_eraseIdx_of_lt (Nat.mod_lt _ (by omega))]
          rw [if_pos rfl] at h2
          omega
        · rw [if_neg e]
          rw [if_neg (fun z => e z.symm)] at h2
          omega
    · simp -implicitDefEqProofs only [decide_eq_false hcnt]
      simp -implicitDefEqProofs only [Option.bind_some, Option.map_some, if_true_, if_ff, if_T, if_F, on0_s, on1_s, on2_s, on3_s, on4_s, on5_s, on6_s, asL_l, asL_r, asT_t, asB_b, len_l, len_r, len_t, l_0, l_1, l_2, l_3, l_4, l_5, l_6, l_7, l_8, l_9, l_10, l_11, l_12, l_13, l_14, l_15, l_20, l_21, l_22, l_25, l_26, l_30, l_31, l_32, l_36, l_38, l_40, l_60, l_64, l_70, l_96, l_97, l_100, l_128, l_512, l_7919, int_n, int_i, int_bn, add_n, ix_ln, ix_rn, ix_tn, list_l, list_t, few0, few1, few2, few3, few5, lt_n, gt_n, le_n, eqF_n, neF_n, rng1_m, flT_nx, flT_rt, flF_nx, flE_rt, un2_t, un3_t, tru_l, tru_b, app_n, cap_n, flat_n, flat_bl, optI_n, sl_n, zero_add_, Bool.false_eq_true]
      exact ok_some ⟨cs, hs, rfl, s, hc, .inl (by omega)⟩
  · obtain ⟨cs, hs, rfl, s, hc, hp⟩ := hb
    refine ⟨cs, hs, rfl, s, ?_⟩
    rcases hp with h | h
    · exact h
    · refine Nat.le_trans (s.least fun v hv1 => ?_) hcap
      have h1 := h v (by omega)
      rw [dns_len, List.length_range, vis_mod] at h1
      have h2 := vis_all n (by omega) (x31 % n) (Nat.mod_lt _ (by omega)) v (by omega)
      omega
end Oh
namespace Oh
open PySem L2 TL
/-! ### drawn names -/
noncomputable def az : List Nat := Wd "abcdefghijklmnopqrstuvwxyz"
noncomputable def dg : List Nat := Wd "0123456789"
noncomputable def an : List Nat := az ++ dg
noncomputable def kept : List (List Nat) := [Wd "house", Wd "variable", Wd "says", Wd "hears", Wd "end", Wd "if", Wd "and", Wd "ignores", Wd "rises", Wd "falls", Wd "with", Wd "never", Wd "when"]
theorem az_len : az.length = 26 := by decide +kernel
theorem an_len : an.length = 36 := by decide +kernel
theorem az_nd : az.Nodup := by decide +kernel
theorem kept_ok : m_law_kept = some (ssD kept) := by
  unfold m_law_kept
  simp -implicitDefEqProofs only [Option.bind_some, Option.map_some, if_true_, if_ff, if_T, if_F, on0_s, on1_s, on2_s, on3_s, on4_s, on5_s, on6_s, asL_l, asL_r, asT_t, asB_b, len_l, len_r, len_t, l_0, l_1, l_2, l_3, l_4, l_5, l_6, l_7, l_8, l_9, l_10, l_11, l_12, l_13, l_14, l_15, l_20, l_21, l_22, l_25, l_26, l_30, l_31, l_32, l_36, l_38, l_40, l_60, l_64, l_70, l_96, l_97, l_100, l_128, l_512, l_7919, int_n, int_i, int_bn, add_n, ix_ln, ix_rn, ix_tn, list_l, list_t, few0, few1, few2, few3, few5, lt_n, gt_n, le_n, eqF_n, neF_n, rng1_m, flT_nx, flT_rt, flF_nx, flE_rt, un2_t, un3_t, tru_l, tru_b, app_n, cap_n, flat_n, flat_bl, optI_n, sl_n, zero_add_, lit_s]
  exact few_s (by show 13 ≤ 100000; decide)
structure NameOk (s : List Nat) : Prop where
  ne : s ≠ []
  len : s.length ≤ 12
  hd : s.headD 0 ∈ az
  all : ∀ c ∈ s, c ∈ an
  nk : s ∉ kept
noncomputable def azA (i : Nat) : Nat := az.getD (i % 26) 0
noncomputable def anA (i : Nat) : Nat := an.getD (i % 36) 0
theorem az_at (i : Nat) : az[i % 26]? = some (azA i) := by
  have : i % 26 < az.length := by rw [az_len]; exact Nat.mod_lt _ (by decide)
  unfold azA
  rw [List.getD_eq_getElem?_getD, List.getElem?_eq_getElem this]; rfl
theorem an_at (i : Nat) : an[i % 36]? = some (anA i) := by
  have : i % 36 < an.length := by rw [an_len]; exact Nat.mod_lt _ (by decide)
  unfold anA
  rw [List.getD_eq_getElem?_getD, List.getElem?_eq_getElem this]; rfl
theorem azA_mem (i : Nat) : azA i ∈ az := List.mem_of_getElem? (az_at i)
theorem anA_mem (i : Nat) : anA i ∈ an := List.mem_of_getElem? (an_at i)
noncomputable def bstep (xs : List Nat) (s : List Nat) (i : Nat) : List Nat := if i = 0 then [azA (xs.getD 3 0)] else s ++ [anA (xs.getD (3 + i) 0)]
noncomputable def baseN (xs : List Nat) (n : Nat) : List Nat := (List.range n).foldl (bstep xs) []
theorem base_succ (xs : List Nat) (n : Nat) : baseN xs (n + 1) = bstep xs (baseN xs n) n := by
  unfold baseN
  rw [List.range_succ, List.foldl_append]; rfl
theorem base_ok (xs : List Nat) : ∀ n, (baseN xs n).length = n ∧ (∀ c ∈ baseN xs n, c ∈ an) ∧ (0 < n → (baseN xs n).headD 0 ∈ az)
  | 0 => ⟨rfl, (fun _ h => nomatch h), fun h => absurd h (by decide)⟩
  | n + 1 => by
    obtain ⟨h1, h2, h3⟩ := base_ok xs n
    rw [base_succ]
    unfold bstep
    by_cases e : n = 0
    · subst e
      rw [if_pos rfl]
      exact ⟨rfl, fun c hc => by rw [List.mem_singleton.mp hc]; exact List.mem_append_left _ (azA_mem _), fun _ => azA_mem _⟩
    · rw [if_neg e]
      refine ⟨by rw [List.length_append, h1]; rfl, fun c hc => ?_, fun _ => ?_⟩
      · rcases List.mem_append.mp hc with z | z
        · exact h2 c z
        · rw [List.mem_singleton.mp z]; exact anA_mem _
      · have := h3 (by omega)
        cases hb : baseN xs n with
        | nil => rw [hb] at h1; exact absurd h1.symm e
        | cons a l => rw [hb] at this; exact this
noncomputable def sizeN (xs : List Nat) (k : Nat) : Nat := if xs.getD 0 0 / 12 % 2 = 0 then xs.getD 0 0 % 12 else xs.getD 0 0 % 12 - k
noncomputable def atN (xs : List Nat) (k : Nat) : Nat := if xs.getD 0 0 / 12 % 2 = 0 then xs.getD 1 0 % (sizeN xs k + 1) else 0
noncomputable def rawN (xs : List Nat) (k : Nat) : List Nat := (baseN xs (sizeN xs k)).take (atN xs k) ++ [azA (xs.getD 2 0 + k)] ++ (baseN xs (sizeN xs k)).drop (atN xs k)
noncomputable def nameN (xs : List Nat) (k : Nat) : List Nat := if rawN xs k ∈ kept then rawN xs k ++ Wd "x" else rawN xs k
theorem max_sub {a b : Nat} : ((((dSub (dn a) (dn b)).bind fun x_8 => some [x_8]).bind fun xs_32 => some (dn 0 :: xs_32)).bind (on2 dMax2)) = some (dn (a - b)) := by
  show some (D.int (if ((a : Int) - (b : Int)) > 0 then ((a : Int) - (b : Int)) else 0)) = some (D.int ((a - b : Nat) : Int))
  congr 2
  split <;> omega
theorem name_ok {xs : List Nat} {k : Nat} (hl : xs.length = 15) : m_law_name (dl xs) (dn k) = some (sD (nameN xs k)) := by
  have rx : ∀ i, i < 15 → (dns xs)[i]? = some (dn (xs.getD i 0)) := fun i hi => by
    refine dns_at ?_
    rw [List.getD_eq_getElem?_getD, List.getElem?_eq_getElem (by omega)]; rfl
  unfold m_law_name
  simp -implicitDefEqProofs only [Option.bind_some, Option.map_some, if_true_, if_ff, if_T, if_F, on0_s, on1_s, on2_s, on3_s, on4_s, on5_s, on6_s, asL_l, asL_r, asT_t, asB_b, len_l, len_r, len_t, l_0, l_1, l_2, l_3, l_4, l_5, l_6, l_7, l_8, l_9, l_10, l_11, l_12, l_13, l_14, l_15, l_20, l_21, l_22, l_25, l_26, l_30, l_31, l_32, l_36, l_38, l_40, l_60, l_64, l_70, l_96, l_97, l_100, l_128, l_512, l_7919, int_n, int_i, int_bn, add_n, ix_ln, ix_rn, ix_tn, list_l, list_t, few0, few1, few2, few3, few5, lt_n, gt_n, le_n, eqF_n, neF_n, rng1_m, flT_nx, flT_rt, flF_nx, flE_rt, un2_t, un3_t, tru_l, tru_b, app_n, cap_n, flat_n, flat_bl, optI_n, sl_n, zero_add_, lit_s, rx 0 (by decide), rx 1 (by decide), rx 2 (by decide), rx 3 (by decide), mod_n (b := 12) (by decide), div_n (b := 12) (by decide) (by decide), mod_n (b := 2) (by decide), mod_n (b := 26) (by decide)]
  have azE : sD (Wd "abcdefghijklmnopqrstuvwxyz") = sD az := rfl
  have dgE : sD (Wd "0123456789") = sD dg := rfl
  rw [azE, dgE]
  have sz : (if (!decide (xs.getD 0 0 / 12 % 2 = 0)) = true then (((((dSub (dn (xs.getD 0 0 % 12)) (dn k)).bind fun x_8 => some [x_8]).bind fun xs_32 => some (dn 0 :: xs_32)).bind (on2 dMax2)).bind fun size_v_26 => some size_v_26) else some (dn (xs.getD 0 0 % 12))) = some (dn (sizeN xs k)) := by
    rw [max_sub]
    unfold sizeN
    by_cases h : xs.getD 0 0 / 12 % 2 = 0
    · rw [if_pos h, decide_eq_true h]; rfl
    · rw [if_neg h, decide_eq_false h]; rfl
  refine (bind_of sz).trans ?_
  have s12 : sizeN xs k ≤ 11 := by
    have : xs.getD 0 0 % 12 < 12 := Nat.mod_lt _ (by decide)
    unfold sizeN
    split <;> omega
  have azL : az.length ≤ 100000 := by rw [az_len]; decide
  have anE : dAdd (sD az) (sD dg) = some (sD an) := add_s (by rw [az_len]; decide +kernel)
  simp -implicitDefEqProofs only [Option.bind_some, Option.map_some, if_true_, if_ff, if_T, if_F, on0_s, on1_s, on2_s, on3_s, on4_s, on5_s, on6_s, asL_l, asL_r, asT_t, asB_b, len_l, len_r, len_t, l_0, l_1, l_2, l_3, l_4, l_5, l_6, l_7, l_8, l_9, l_10, l_11, l_12, l_13, l_14, l_15, l_20, l_21, l_22, l_25, l_26, l_30, l_31, l_32, l_36, l_38, l_40, l_60, l_64, l_70, l_96, l_97, l_100, l_128, l_512, l_7919, int_n, int_i, int_bn, add_n, ix_ln, ix_rn, ix_tn, list_l, list_t, few0, few1, few2, few3, few5, lt_n, gt_n, le_n, eqF_n, neF_n, rng1_m, flT_nx, flT_rt, flF_nx, flE_rt, un2_t, un3_t, tru_l, tru_b, app_n, cap_n, flat_n, flat_bl, optI_n, sl_n, zero_add_, rng_s (n := sizeN xs k) (by omega)]
  refine (bind_of (forS_dns (s := []) sD (bstep xs) (fun i s => s.length = i) rfl (fun i s hi hs => ⟨?_, ?_⟩)).1).trans ?_
  · unfold bstep
    simp -implicitDefEqProofs only [Option.bind_some, Option.map_some, if_true_, if_ff, if_T, if_F, on0_s, on1_s, on2_s, on3_s, on4_s, on5_s, on6_s, asL_l, asL_r, asT_t, asB_b, len_l, len_r, len_t, l_0, l_1, l_2, l_3, l_4, l_5, l_6, l_7, l_8, l_9, l_10, l_11, l_12, l_13, l_14, l_15, l_20, l_21, l_22, l_25, l_26, l_30, l_31, l_32, l_36, l_38, l_40, l_60, l_64, l_70, l_96, l_97, l_100, l_128, l_512, l_7919, int_n, int_i, int_bn, add_n, ix_ln, ix_rn, ix_tn, list_l, list_t, few0, few1, few2, few3, few5, lt_n, gt_n, le_n, eqF_n, neF_n, rng1_m, flT_nx, flT_rt, flF_nx, flE_rt, un2_t, un3_t, tru_l, tru_b, app_n, cap_n, flat_n, flat_bl, optI_n, sl_n, zero_add_]
    by_cases e : i = 0
    · subst e
      simp -implicitDefEqProofs only [Option.bind_some, Option.map_some, if_true_, if_ff, if_T, if_F, on0_s, on1_s, on2_s, on3_s, on4_s, on5_s, on6_s, asL_l, asL_r, asT_t, asB_b, len_l, len_r, len_t, l_0, l_1, l_2, l_3, l_4, l_5, l_6, l_7, l_8, l_9, l_10, l_11, l_12, l_13, l_14, l_15, l_20, l_21, l_22, l_25, l_26, l_30, l_31, l_32, l_36, l_38, l_40, l_60, l_64, l_70, l_96, l_97, l_100, l_128, l_512, l_7919, int_n, int_i, int_bn, add_n, ix_ln, ix_rn, ix_tn, list_l, list_t, few0, few1, few2, few3, few5, lt_n, gt_n, le_n, eqF_n, neF_n, rng1_m, flT_nx, flT_rt, flF_nx, flE_rt, un2_t, un3_t, tru_l, tru_b, app_n, cap_n, flat_n, flat_bl, optI_n, sl_n, zero_add_, decide_eq_true, ix_s azL, az_at]
    · rw [decide_eq_false e, if_neg e]
      have r3 := rx (3 + i) (by omega)
      simp -implicitDefEqProofs only [Option.bind_some, Option.map_some, if_true_, if_ff, if_T, if_F, on0_s, on1_s, on2_s, on3_s, on4_s, on5_s, on6_s, asL_l, asL_r, asT_t, asB_b, len_l, len_r, len_t, l_0, l_1, l_2, l_3, l_4, l_5, l_6, l_7, l_8, l_9, l_10, l_11, l_12, l_13, l_14, l_15, l_20, l_21, l_22, l_25, l_26, l_30, l_31, l_32, l_36, l_38, l_40, l_60, l_64, l_70, l_96, l_97, l_100, l_128, l_512, l_7919, int_n, int_i, int_bn, add_n, ix_ln, ix_rn, ix_tn, list_l, list_t, few0, few1, few2, few3, few5, lt_n, gt_n, le_n, eqF_n, neF_n, rng1_m, flT_nx, flT_rt, flF_nx, flE_rt, un2_t, un3_t, tru_l, tru_b, app_n, cap_n, flat_n, flat_bl, optI_n, sl_n, zero_add_, anE, r3, mod_n (b := 36) (by decide), ix_s (l := an) (by rw [an_len]; decide), an_at]
      rw [add_s (a := s) (b := [anA (xs.getD (3 + i) 0)]) (by rw [hs]; show i + 1 ≤ 100000; omega)]; rfl
  · unfold bstep
    by_cases e : i = 0
    · subst e; rw [if_pos rfl]; rfl
    · rw [if_neg e, List.length_append, hs]; rfl
  show _ = some (sD (nameN xs k))
  have bE : (List.range (sizeN xs k)).foldl (bstep xs) [] = baseN xs (sizeN xs k) := rfl
  rw [bE]
  obtain ⟨bl, _, _⟩ := base_ok xs (sizeN xs k)
  have at_ : (dMod (D.int ((xs.getD 1 0 : Nat) : Int)) (dn (sizeN xs k + 1))) = some (dn (xs.getD 1 0 % (sizeN xs k + 1))) := mod_n (a := xs.getD 1 0) (b := sizeN xs k + 1) (Nat.succ_pos _)
  refine (bind_of at_).trans ?_
  have at2 : (if (!decide (xs.getD 0 0 / 12 % 2 = 0)) = true then some (dn 0) else some (dn (xs.getD 1 0 % (sizeN xs k + 1)))) = some (dn (atN xs k)) := by
    unfold atN
    by_cases h : xs.getD 0 0 / 12 % 2 = 0
    · rw [if_pos h, decide_eq_true h]; rfl
    · rw [if_neg h, decide_eq_false h]; rfl
  refine (bind_of at2).trans ?_
  have l1 : (baseN xs (sizeN xs k)).length ≤ 100000 := by rw [bl]; omega
  have t1 : ((baseN xs (sizeN xs k)).take (atN xs k)).length ≤ 11 := by rw [List.length_take, bl]; omega
  have t2 : ((baseN xs (sizeN xs k)).drop (atN xs k)).length ≤ 11 := by rw [List.length_drop, bl]; omega
  simp -implicitDefEqProofs only [Option.bind_some, Option.map_some, if_true_, if_ff, if_T, if_F, on0_s, on1_s, on2_s, on3_s, on4_s, on5_s, on6_s, asL_l, asL_r, asT_t, asB_b, len_l, len_r, len_t, l_0, l_1, l_2, l_3, l_4, l_5, l_6, l_7, l_8, l_9, l_10, l_11, l_12, l_13, l_14, l_15, l_20, l_21, l_22, l_25, l_26, l_30, l_31, l_32, l_36, l_38, l_40, l_60, l_64, l_70, l_96, l_97, l_100, l_128, l_512, l_7919, int_n, int_i, int_bn, add_n, ix_ln, ix_rn, ix_tn, list_l, list_t, few0, few1, few2, few3, few5, lt_n, gt_n, le_n, eqF_n, neF_n, rng1_m, flT_nx, flT_rt, flF_nx, flE_rt, un2_t, un3_t, tru_l, tru_b, app_n, cap_n, flat_n, flat_bl, optI_n, sl_n, zero_add_, slS_to l1, slS_from l1, ix_s azL, az_at, add_s (a := (baseN xs (sizeN xs k)).take (atN xs k)) (b := [azA (xs.getD 2 0 + k)]) (by show _ + 1 ≤ 100000; omega), add_s (a := (baseN xs (sizeN xs k)).take (atN xs k) ++ [azA (xs.getD 2 0 + k)]) (b := (baseN xs (sizeN xs k)).drop (atN xs k)) (by rw [List.length_append]; show _ + 1 + _ ≤ 100000; omega), kept_ok, mem_s]
  show (if decide (rawN xs k ∈ kept) = true then (dAdd (sD (rawN xs k)) (sD (Wd "x"))).bind fun z => some z else some (sD (rawN xs k))).bind (fun z => some z) = _
  have rl : (rawN xs k).length ≤ 23 := by
    unfold rawN
    rw [List.length_append, List.length_append]
    show _ + 1 + _ ≤ 23
    omega
  unfold nameN
  by_cases h : rawN xs k ∈ kept
  · rw [if_pos h, if_pos (decide_eq_true h), add_s (by show _ + 1 ≤ 100000; omega)]; rfl
  · rw [if_neg h, if_neg (by rw [decide_eq_false h]; decide)]; rfl
/-! names are good, and differ -/
theorem kept_len : ∀ w ∈ kept, w.length ≤ 8 := by decide +kernel
theorem kept_x : ∀ w ∈ kept, w ++ Wd "x" ∉ kept := by decide +kernel
theorem az_an {c : Nat} (h : c ∈ az) : c ∈ an := List.mem_append_left _ h
theorem x_an : ∀ c ∈ Wd "x", c ∈ an := by decide +kernel
theorem raw_len {xs : List Nat} {k : Nat} : (rawN xs k).length = sizeN xs k + 1 := by
  obtain ⟨bl, _, _⟩ := base_ok xs (sizeN xs k)
  have : atN xs k ≤ sizeN xs k := by
    unfold atN
    split
    · exact Nat.lt_succ_iff.mp (Nat.mod_lt _ (Nat.succ_pos _))
    · exact Nat.zero_le _
  unfold rawN
  rw [List.length_append, List.length_append, List.length_take, List.length_drop, bl]
  show min _ _ + 1 + _ = _
  omega
theorem size_le {xs : List Nat} {k : Nat} : sizeN xs k ≤ 11 := by
  have : xs.getD 0 0 % 12 < 12 := Nat.mod_lt _ (by decide)
  unfold sizeN
  split <;> omega
theorem raw_all {xs : List Nat} {k : Nat} : ∀ c ∈ rawN xs k, c ∈ an := fun c hc => by
  obtain ⟨_, h2, _⟩ := base_ok xs (sizeN xs k)
  unfold rawN at hc
  rcases List.mem_append.mp hc with z | z
  · rcases List.mem_append.mp z with y | y
    · exact h2 c (List.mem_of_mem_take y)
    · rw [List.mem_singleton.mp y]; exact az_an (azA_mem _)
  · exact h2 c (List.mem_of_mem_drop z)
theorem raw_hd {xs : List Nat} {k : Nat} : (rawN xs k).headD 0 ∈ az := by
  obtain ⟨bl, _, h3⟩ := base_ok xs (sizeN xs k)
  unfold rawN
  by_cases e : atN xs k = 0
  · rw [e, List.take_zero, List.nil_append]; exact azA_mem _
  · cases hb : baseN xs (sizeN xs k) with
    | nil => rw [List.take_nil, List.nil_append]; exact azA_mem _
    | cons a l =>
      have : (baseN xs (sizeN xs k)).headD 0 ∈ az := h3 (by rw [← bl, hb]; exact Nat.succ_pos _)
      rw [hb] at this
      obtain ⟨m, hm⟩ : ∃ m, atN xs k = m + 1 := ⟨atN xs k - 1, by omega⟩
      rw [hm, List.take_succ_cons]
      exact this
theorem nameOk (xs : List Nat) (k : Nat) : NameOk (nameN xs k) := by
  have hl := raw_len (xs := xs) (k := k)
  have hs := size_le (xs := xs) (k := k)
  have hn : rawN xs k ≠ [] := fun e => by rw [e] at hl; cases hl
  unfold nameN
  by_cases h : rawN xs k ∈ kept
  · rw [if_pos h]
    refine ⟨by simp [hn], by have := kept_len _ h; rw [List.length_append]; show _ + 1 ≤ 12; omega, ?_, fun c hc => ?_, kept_x _ h⟩
    · cases e : rawN xs k with
      | nil => exact absurd e hn
      | cons a l => have := raw_hd (xs := xs) (k := k); rw [e] at this; exact this
    · rcases List.mem_append.mp hc with z | z
      · exact raw_all c z
      · exact x_an c z
  · rw [if_neg h]
    exact ⟨hn, by omega, raw_hd, raw_all, h⟩
theorem azA_inj {i j m : Nat} (hi : i < 26) (hj : j < 26) (h : azA (m + i) = azA (m + j)) : i = j := by
  have h1 : (m + i) % 26 < az.length := by rw [az_len]; exact Nat.mod_lt _ (by decide)
  have h2 : (m + j) % 26 < az.length := by rw [az_len]; exact Nat.mod_lt _ (by decide)
  have e1 := az_at (m + i)
  have e2 := az_at (m + j)
  rw [List.getElem?_eq_getElem h1] at e1
  rw [List.getElem?_eq_getElem h2] at e2
  have e3 : az[(m + i) % 26] = az[(m + j) % 26] := by
    have := Option.some.inj e1
    have := Option.some.inj e2
    omega
  have := (List.getElem_inj (h₀ := h1) (h₁ := h2) az_nd).mp e3
  omega
theorem name_at {xs : List Nat} {k : Nat} : (nameN xs k)[atN xs k]? = some (azA (xs.getD 2 0 + k)) := by
  obtain ⟨bl, _, _⟩ := base_ok xs (sizeN xs k)
  have ha : atN xs k ≤ sizeN xs k := by
    unfold atN
    split
    · exact Nat.lt_succ_iff.mp (Nat.mod_lt _ (Nat.succ_pos _))
    · exact Nat.zero_le _
  have hr : (rawN xs k)[atN xs k]? = some (azA (xs.getD 2 0 + k)) := by
    unfold rawN
    have hl : ((baseN xs (sizeN xs k)).take (atN xs k)).length = atN xs k := by rw [List.length_take, bl]; omega
    rw [List.append_assoc, List.getElem?_append_right (by rw [hl]; exact Nat.le_refl _), hl, Nat.sub_self]; rfl
  unfold nameN
  split
  · rw [List.getElem?_append_left (by rw [raw_len]; omega)]; exact hr
  · exact hr
theorem name_inj {xs : List Nat} {i j : Nat} (hi : i < 26) (hj : j < 26) (h : nameN xs i = nameN xs j) : i = j := by
  have e : atN xs i = atN xs j := by
    unfold atN sizeN
    by_cases al : xs.getD 0 0 / 12 % 2 = 0
    · rw [if_pos al, if_pos al, if_pos al, if_pos al]
    · rw [if_neg al, if_neg al]
  have h1 := name_at (xs := xs) (k := i)
  have h2 := name_at (xs := xs) (k := j)
  rw [h, e, h2] at h1
  exact azA_inj hi hj (Option.some.inj h1).symm
end Oh
namespace Oh
open PySem L2 TL
theorem cutD_to (xs : List D) (k : Nat) : cutD xs none (some (k : Int)) = xs.take k := by
  unfold cutD
  rw [HT.sIx_none, HT.sIx_nat, List.drop_zero, Nat.sub_zero]
  by_cases h : k ≤ xs.length
  · rw [Nat.min_eq_left h]
  · rw [Nat.min_eq_right (by omega), List.take_length, List.take_of_length_le (by omega)]
theorem cutD_from (xs : List D) (k : Nat) : cutD xs (some (k : Int)) none = xs.drop k := by
  unfold cutD
  rw [HT.sIx_none, HT.sIx_nat]
  by_cases h : k ≤ xs.length
  · rw [Nat.min_eq_left h, List.take_of_length_le (by rw [List.length_drop]; omega)]
  · rw [Nat.min_eq_right (by omega), List.drop_length, List.drop_eq_nil_of_le (by omega), List.take_nil]
structure WdOk (w : List (List Nat)) (c : Nat) : Prop where
  len : w.length = c
  nd : w.Nodup
  ok : ∀ s ∈ w, NameOk s
theorem names_ok (ns : List Int) (p n : Nat) (hn : n ≤ 26) : Ok (m_law_names (.rol (dis ns)) (dn p) (dn n)) (fun r => ∃ ls, r = ssD ls ∧ WdOk ls n) := by
  unfold m_law_names
  simp -implicitDefEqProofs only [Option.bind_some, Option.map_some, if_true_, if_ff, if_T, if_F, on0_s, on1_s, on2_s, on3_s, on4_s, on5_s, on6_s, asL_l, asL_r, asT_t, asB_b, len_l, len_r, len_t, l_0, l_1, l_2, l_3, l_4, l_5, l_6, l_7, l_8, l_9, l_10, l_11, l_12, l_13, l_14, l_15, l_20, l_21, l_22, l_25, l_26, l_30, l_31, l_32, l_36, l_38, l_40, l_60, l_64, l_70, l_96, l_97, l_100, l_128, l_512, l_7919, int_n, int_i, int_bn, add_n, ix_ln, ix_rn, ix_tn, list_l, list_t, few0, few1, few2, few3, few5, lt_n, gt_n, le_n, eqF_n, neF_n, rng1_m, flT_nx, flT_rt, flF_nx, flE_rt, un2_t, un3_t, tru_l, tru_b, app_n, cap_n, flat_n, flat_bl, optI_n, sl_n, zero_add_]
  refine ok_bind (rowN_ok ns p 15 (by decide)) fun r ⟨xs, e, hl, _⟩ => ?_
  subst e
  simp -implicitDefEqProofs only [Option.bind_some, Option.map_some, if_true_, if_ff, if_T, if_F, on0_s, on1_s, on2_s, on3_s, on4_s, on5_s, on6_s, asL_l, asL_r, asT_t, asB_b, len_l, len_r, len_t, l_0, l_1, l_2, l_3, l_4, l_5, l_6, l_7, l_8, l_9, l_10, l_11, l_12, l_13, l_14, l_15, l_20, l_21, l_22, l_25, l_26, l_30, l_31, l_32, l_36, l_38, l_40, l_60, l_64, l_70, l_96, l_97, l_100, l_128, l_512, l_7919, int_n, int_i, int_bn, add_n, ix_ln, ix_rn, ix_tn, list_l, list_t, few0, few1, few2, few3, few5, lt_n, gt_n, le_n, eqF_n, neF_n, rng1_m, flT_nx, flT_rt, flF_nx, flE_rt, un2_t, un3_t, tru_l, tru_b, app_n, cap_n, flat_n, flat_bl, optI_n, sl_n, zero_add_, rng_s (n := n) (by omega), capM_s (xs := dns (List.range n)) (by rw [dns_len, List.length_range]; omega)]
  rw [compD_dns (fun k => sD (nameN xs k)) fun k hk => by simp -implicitDefEqProofs only [Option.bind_some, Option.map_some, if_true_, if_ff, if_T, if_F, on0_s, on1_s, on2_s, on3_s, on4_s, on5_s, on6_s, asL_l, asL_r, asT_t, asB_b, len_l, len_r, len_t, l_0, l_1, l_2, l_3, l_4, l_5, l_6, l_7, l_8, l_9, l_10, l_11, l_12, l_13, l_14, l_15, l_20, l_21, l_22, l_25, l_26, l_30, l_31, l_32, l_36, l_38, l_40, l_60, l_64, l_70, l_96, l_97, l_100, l_128, l_512, l_7919, int_n, int_i, int_bn, add_n, ix_ln, ix_rn, ix_tn, list_l, list_t, few0, few1, few2, few3, few5, lt_n, gt_n, le_n, eqF_n, neF_n, rng1_m, flT_nx, flT_rt, flF_nx, flE_rt, un2_t, un3_t, tru_l, tru_b, app_n, cap_n, flat_n, flat_bl, optI_n, sl_n, zero_add_, name_ok hl]]
  refine ⟨_, rfl, (List.range n).map (nameN xs), by rw [ssD, List.map_map]; rfl, by rw [List.length_map, List.length_range], ?_, fun s hs => ?_⟩
  · rw [List.nodup_iff_pairwise_ne, List.pairwise_map]
    refine List.Pairwise.imp_of_mem (fun {a b} ha hb h e => h ?_) (List.nodup_range (n := n))
    exact name_inj (by have := List.mem_range.mp ha; omega) (by have := List.mem_range.mp hb; omega) e
  · obtain ⟨k, _, rfl⟩ := List.mem_map.mp hs
    exact nameOk xs k
structure HouseOk (cs : List Nat) (hs : List (List Nat)) (nm : List (List Nat)) (wd : List (List (List Nat))) : Prop where
  shp : Shp cs hs
  nm : WdOk nm cs.length
  wdl : wd.length = cs.length
  wd : ∀ v, v < cs.length → WdOk (wd.getD v []) (ct cs v)
noncomputable abbrev sssD (wd : List (List (List Nat))) : D := .lst (wd.map ssD)
theorem rot_ok {ls : List (List Nat)} {c k : Nat} (h : WdOk ls c) : WdOk (ls.drop k ++ ls.take k) c := by
  have pm : (ls.drop k ++ ls.take k).Perm ls := by
    have := List.perm_append_comm (l₁ := ls.drop k) (l₂ := ls.take k)
    rwa [List.take_append_drop] at this
  exact ⟨pm.length_eq.trans h.len, pm.nodup_iff.mpr h.nd, fun s hs => h.ok s (pm.mem_iff.mp hs)⟩
theorem take_ok {ls : List (List Nat)} {c k : Nat} (h : WdOk ls c) (hk : k ≤ c) : WdOk (ls.take k) k :=
  ⟨by rw [List.length_take, h.len]; omega, h.nd.sublist (List.take_sublist _ _), fun s hs => h.ok s (List.mem_of_mem_take hs)⟩
theorem house_ok (ns : List Int) (p cap : Nat) (hcap : 32 ≤ cap) : Ok (m_law_house (.rol (dis ns)) (dn p) (dn cap)) (fun r => ∃ cs hs nm wd, r = .tup [ssD nm, sssD wd, dll hs] ∧ HouseOk cs hs nm wd ∧ wayN cs hs ≤ cap) := by
  obtain ⟨r, es, cs, hs, e, sp, wl⟩ := shape_ok ns p cap hcap
  subst e
  have hi := sp.hi
  obtain ⟨r, en, nm, e, hnm⟩ := names_ok ns (p + 1) cs.length (by omega)
  subst e
  obtain ⟨r, er, xs, e, hl, _⟩ := rowN_ok ns p 40 (by decide)
  subst e
  obtain ⟨x38, h38⟩ := row_get hl (i := 38) (by decide)
  obtain ⟨r, ea, la, e, hla⟩ := names_ok ns (p + 2) 3 (by decide)
  subst e
  unfold m_law_house
  simp -implicitDefEqProofs only [Option.bind_some, Option.map_some, if_true_, if_ff, if_T, if_F, on0_s, on1_s, on2_s, on3_s, on4_s, on5_s, on6_s, asL_l, asL_r, asT_t, asB_b, len_l, len_r, len_t, l_0, l_1, l_2, l_3, l_4, l_5, l_6, l_7, l_8, l_9, l_10, l_11, l_12, l_13, l_14, l_15, l_20, l_21, l_22, l_25, l_26, l_30, l_31, l_32, l_36, l_38, l_40, l_60, l_64, l_70, l_96, l_97, l_100, l_128, l_512, l_7919, int_n, int_i, int_bn, add_n, ix_ln, ix_rn, ix_tn, list_l, list_t, few0, few1, few2, few3, few5, lt_n, gt_n, le_n, eqF_n, neF_n, rng1_m, flT_nx, flT_rt, flF_nx, flE_rt, un2_t, un3_t, tru_l, tru_b, app_n, cap_n, flat_n, flat_bl, optI_n, sl_n, zero_add_, es, dns_len, en, rng_s (n := cs.length) (by omega)]
  refine ok_bind (P := fun s => ∃ wd : List (List (List Nat)), s = sssD wd ∧ wd.length = cs.length ∧ ∀ v, v < cs.length → WdOk (wd.getD v []) (ct cs v)) ?_ fun s ⟨wd, e, h1, h2⟩ => ?_
  · refine forS_ok (fun i b => ∃ wd : List (List (List Nat)), b = sssD wd ∧ wd.length = i ∧ ∀ v, v < i → WdOk (wd.getD v []) (ct cs v)) ⟨[], rfl, rfl, fun v h => absurd h (Nat.not_lt_zero v)⟩ (fun i x b hx ⟨wd, e, h1, h2⟩ => ?_) (fun b h => by rw [dns_len, List.length_range] at h; exact h)
    subst e
    have hi2 : i < cs.length := by have := (List.getElem?_eq_some_iff.mp hx).1; rw [dns_len, List.length_range] at this; exact this
    rw [dns_at (List.getElem?_range hi2)] at hx
    cases hx
    obtain ⟨r, el, ls, e, hls⟩ := names_ok ns (p + 2 + i) 3 (by decide)
    subst e
    have hc := sp.ct23 hi2
    have fin : ∀ F : List (List Nat), WdOk F 3 → Ok ((((optI (dns cs)[i]?).bind fun t84 => some (D.lst (cutD (F.map sD) none t84))).bind fun t85 => appM (wd.map ssD) t85).bind fun found_63 => some found_63) (fun b => ∃ wd : List (List (List Nat)), b = sssD wd ∧ wd.length = i + 1 ∧ ∀ v, v < i + 1 → WdOk (wd.getD v []) (ct cs v)) := fun F hF => by
      simp -implicitDefEqProofs only [Option.bind_some, Option.map_some, if_true_, if_ff, if_T, if_F, on0_s, on1_s, on2_s, on3_s, on4_s, on5_s, on6_s, asL_l, asL_r, asT_t, asB_b, len_l, len_r, len_t, l_0, l_1, l_2, l_3, l_4, l_5, l_6, l_7, l_8, l_9, l_10, l_11, l_12, l_13, l_14, l_15, l_20, l_21, l_22, l_25, l_26, l_30, l_31, l_32, l_36, l_38, l_40, l_60, l_64, l_70, l_96, l_97, l_100, l_128, l_512, l_7919, int_n, int_i, int_bn, add_n, ix_ln, ix_rn, ix_tn, list_l, list_t, few0, few1, few2, few3, few5, lt_n, gt_n, le_n, eqF_n, neF_n, rng1_m, flT_nx, flT_rt, flF_nx, flE_rt, un2_t, un3_t, tru_l, tru_b, app_n, cap_n, flat_n, flat_bl, optI_n, sl_n, zero_add_, dns_at (ct_get hi2), cutD_to, appM_s (xs := wd.map ssD) (by rw [List.length_map]; omega)]
      refine ⟨_, rfl, wd ++ [F.take (ct cs i)], ?_, by rw [List.length_append, h1]; rfl, fun v hv => ?_⟩
      · rw [sssD, List.map_append, ← List.map_take]; rfl
      · rw [List.getD_eq_getElem?_getD]
        by_cases z : v < i
        · rw [List.getElem?_append_left (by omega), ← List.getD_eq_getElem?_getD]; exact h2 v z
        · have z : v = i := by omega
          subst z
          rw [List.getElem?_append_right (by omega), h1, Nat.sub_self]
          exact take_ok hF (by omega)
    simp -implicitDefEqProofs only [Option.bind_some, Option.map_some, if_true_, if_ff, if_T, if_F, on0_s, on1_s, on2_s, on3_s, on4_s, on5_s, on6_s, asL_l, asL_r, asT_t, asB_b, len_l, len_r, len_t, l_0, l_1, l_2, l_3, l_4, l_5, l_6, l_7, l_8, l_9, l_10, l_11, l_12, l_13, l_14, l_15, l_20, l_21, l_22, l_25, l_26, l_30, l_31, l_32, l_36, l_38, l_40, l_60, l_64, l_70, l_96, l_97, l_100, l_128, l_512, l_7919, int_n, int_i, int_bn, add_n, ix_ln, ix_rn, ix_tn, list_l, list_t, few0, few1, few2, few3, few5, lt_n, gt_n, le_n, eqF_n, neF_n, rng1_m, flT_nx, flT_rt, flF_nx, flE_rt, un2_t, un3_t, tru_l, tru_b, app_n, cap_n, flat_n, flat_bl, optI_n, sl_n, zero_add_, el, er, dns_at h38, mod_n (b := 3) (by decide), ea, cutD_to, cutD_from]
    have cat : ∀ k : Nat, dCat (.lst ((la.map sD).drop k)) (.lst ((la.map sD).take k)) = some (ssD (la.drop k ++ la.take k)) := fun k => by
      show (if ((la.map sD).drop k).length + ((la.map sD).take k).length ≤ 100000 then some (D.lst ((la.map sD).drop k ++ (la.map sD).take k)) else none) = _
      rw [if_pos (by rw [List.length_drop, List.length_take, List.length_map, hla.len]; omega), ssD, List.map_append, List.map_drop, List.map_take]
    by_cases z : x38 % 3 = 0
    · simp -implicitDefEqProofs only [Option.bind_some, Option.map_some, if_true_, if_ff, if_T, if_F, on0_s, on1_s, on2_s, on3_s, on4_s, on5_s, on6_s, asL_l, asL_r, asT_t, asB_b, len_l, len_r, len_t, l_0, l_1, l_2, l_3, l_4, l_5, l_6, l_7, l_8, l_9, l_10, l_11, l_12, l_13, l_14, l_15, l_20, l_21, l_22, l_25, l_26, l_30, l_31, l_32, l_36, l_38, l_40, l_60, l_64, l_70, l_96, l_97, l_100, l_128, l_512, l_7919, int_n, int_i, int_bn, add_n, ix_ln, ix_rn, ix_tn, list_l, list_t, few0, few1, few2, few3, few5, lt_n, gt_n, le_n, eqF_n, neF_n, rng1_m, flT_nx, flT_rt, flF_nx, flE_rt, un2_t, un3_t, tru_l, tru_b, app_n, cap_n, flat_n, flat_bl, optI_n, sl_n, zero_add_, z, decide_eq_true, cat]
      exact fin _ (rot_ok hla)
    · simp -implicitDefEqProofs only [Option.bind_some, Option.map_some, if_true_, if_ff, if_T, if_F, on0_s, on1_s, on2_s, on3_s, on4_s, on5_s, on6_s, asL_l, asL_r, asT_t, asB_b, len_l, len_r, len_t, l_0, l_1, l_2, l_3, l_4, l_5, l_6, l_7, l_8, l_9, l_10, l_11, l_12, l_13, l_14, l_15, l_20, l_21, l_22, l_25, l_26, l_30, l_31, l_32, l_36, l_38, l_40, l_60, l_64, l_70, l_96, l_97, l_100, l_128, l_512, l_7919, int_n, int_i, int_bn, add_n, ix_ln, ix_rn, ix_tn, list_l, list_t, few0, few1, few2, few3, few5, lt_n, gt_n, le_n, eqF_n, neF_n, rng1_m, flT_nx, flT_rt, flF_nx, flE_rt, un2_t, un3_t, tru_l, tru_b, app_n, cap_n, flat_n, flat_bl, optI_n, sl_n, zero_add_, decide_eq_false z]
      exact fin _ hls
  · subst e
    exact ⟨_, rfl, cs, hs, nm, wd, rfl, ⟨sp, hnm, h1, h2⟩, wl⟩
end Oh
namespace Oh
open PySem L2 TL
/-! ### the words of a house's text -/
section
variable {cs : List Nat} {hs : List (List Nat)} {nm : List (List Nat)} {wd : List (List (List Nat))} {v : Nat}
noncomputable def houseV (nm : List (List Nat)) (wd : List (List (List Nat))) (hs : List (List Nat)) : D := .ob 1 [("names", ssD nm), ("words", sssD wd), ("heard", dll hs)]
theorem fldV_n : dFld 1 "names" (houseV nm wd hs) = some (ssD nm) := rfl
theorem fldV_w : dFld 1 "words" (houseV nm wd hs) = some (sssD wd) := rfl
theorem fldV_h : dFld 1 "heard" (houseV nm wd hs) = some (dll hs) := rfl
theorem mk_ok (h1 : wd.length ≤ 1000) (h2 : hs.length ≤ 1000) : mk_House [ssD nm, sssD wd, dll hs] = some (houseV nm wd hs) := by
  have c1 : capM (wd.map ssD) = some (wd.map ssD) := capM_s (by rw [List.length_map]; omega)
  have c2 : capM (hs.map dl) = some (hs.map dl) := capM_s (by rw [List.length_map]; omega)
  have e1 : compD (fun c_5 => Option.map some (dList c_5)) (wd.map ssD) = some (wd.map ssD) := compD_map ssD ssD fun c _ => rfl
  have e2 : compD (fun c_5 => Option.map some (dList c_5)) (hs.map dl) = some (hs.map dl) := compD_map dl dl fun c _ => rfl
  unfold mk_House i_House
  simp -implicitDefEqProofs only [Option.bind_some, Option.map_some, if_true_, if_ff, if_T, if_F, on0_s, on1_s, on2_s, on3_s, on4_s, on5_s, on6_s, asL_l, asL_r, asT_t, asB_b, len_l, len_r, len_t, l_0, l_1, l_2, l_3, l_4, l_5, l_6, l_7, l_8, l_9, l_10, l_11, l_12, l_13, l_14, l_15, l_20, l_21, l_22, l_25, l_26, l_30, l_31, l_32, l_36, l_38, l_40, l_60, l_64, l_70, l_96, l_97, l_100, l_128, l_512, l_7919, int_n, int_i, int_bn, add_n, ix_ln, ix_rn, ix_tn, list_l, list_t, few0, few1, few2, few3, few5, lt_n, gt_n, le_n, eqF_n, neF_n, rng1_m, flT_nx, flT_rt, flF_nx, flE_rt, un2_t, un3_t, tru_l, tru_b, app_n, cap_n, flat_n, flat_bl, optI_n, sl_n, zero_add_, c1, c2, e1, e2]
  rfl
noncomputable def tailN (nm : List (List Nat)) (h : List Nat) : List (List Nat) := (if h = [] then [] else [Wd "hears"] ++ h.map fun u => nm.getD u []) ++ [Wd "end"]
noncomputable def partN (nm : List (List Nat)) (wd : List (List (List Nat))) (hs : List (List Nat)) (v : Nat) : List (List Nat) := ([Wd "variable", nm.getD v [], Wd "says"] ++ wd.getD v []) ++ tailN nm (hv hs v)
noncomputable def partsN (nm : List (List Nat)) (wd : List (List (List Nat))) (hs : List (List Nat)) (n : Nat) : List (List Nat) := (List.range n).foldl (fun s v => s ++ partN nm wd hs v) [Wd "house"]
noncomputable def wordsN (nm : List (List Nat)) (wd : List (List (List Nat))) (hs : List (List Nat)) (n : Nat) : List (List Nat) := partsN nm wd hs n ++ [Wd "end"]
theorem HouseOk.hlt (h : HouseOk cs hs nm wd) (hv1 : v < cs.length) : (hv hs v).length ≤ 4 := by
  have := h.shp.hlen hv1
  have := h.shp.hi
  omega
theorem HouseOk.wlt (h : HouseOk cs hs nm wd) (hv1 : v < cs.length) : (wd.getD v []).length ≤ 3 := by
  have := (h.wd v hv1).len
  have := h.shp.ct23 hv1
  omega
theorem HouseOk.tail_len (h : HouseOk cs hs nm wd) (hv1 : v < cs.length) : (tailN nm (hv hs v)).length ≤ 6 := by
  have := h.hlt hv1
  unfold tailN
  split
  · show 1 ≤ 6; decide
  · rw [List.length_append, List.length_append, List.length_map]
    show 1 + _ + 1 ≤ 6
    omega
theorem HouseOk.part_len (h : HouseOk cs hs nm wd) (hv1 : v < cs.length) : (partN nm wd hs v).length ≤ 12 := by
  have := h.wlt hv1
  have := h.tail_len hv1
  unfold partN
  rw [List.length_append, List.length_append]
  show 3 + _ + _ ≤ 12
  omega
theorem ls_at {ls : List (List Nat)} {i : Nat} (h : i < ls.length) : (ls.map sD)[i]? = some (sD (ls.getD i [])) := by
  rw [List.getElem?_map, List.getD_eq_getElem?_getD, List.getElem?_eq_getElem h]; rfl
theorem lss_at {ls : List (List (List Nat))} {i : Nat} (h : i < ls.length) : (ls.map ssD)[i]? = some (ssD (ls.getD i [])) := by
  rw [List.getElem?_map, List.getD_eq_getElem?_getD, List.getElem?_eq_getElem h]; rfl
theorem catW {a b : List (List Nat)} (h : a.length + b.length ≤ 100000) : dCat (ssD a) (ssD b) = some (ssD (a ++ b)) := by
  show (if (a.map sD).length + (b.map sD).length ≤ 100000 then some (D.lst (a.map sD ++ b.map sD)) else none) = _
  rw [List.length_map, List.length_map, if_pos h, ssD, List.map_append]
theorem extW {a b : List (List Nat)} (h : a.length + b.length ≤ 100000) : dExt (ssD a) (ssD b) = some (ssD (a ++ b)) := by
  show (if (a.map sD).length + (b.map sD).length ≤ 100000 then some (D.lst (a.map sD ++ b.map sD)) else none) = _
  rw [List.length_map, List.length_map, if_pos h, ssD, List.map_append]
theorem appW {a : List (List Nat)} {b : List Nat} (h : a.length < 100000) : dApp (ssD a) (sD b) = some (ssD (a ++ [b])) := by
  show (if (a.map sD).length < 100000 then some (D.lst (a.map sD ++ [sD b])) else none) = _
  rw [List.length_map, if_pos h, ssD, List.map_append]; rfl
theorem names_comp {h : List Nat} (hh : ∀ u ∈ h, u < nm.length) : compD (fun c => Option.map some (dIx (ssD nm) c)) (dns h) = some ((h.map fun u => nm.getD u []).map sD) := by
  rw [List.map_map]
  exact compD_dns (fun u => sD (nm.getD u [])) fun u hu => by simp -implicitDefEqProofs only [Option.bind_some, Option.map_some, if_true_, if_ff, if_T, if_F, on0_s, on1_s, on2_s, on3_s, on4_s, on5_s, on6_s, asL_l, asL_r, asT_t, asB_b, len_l, len_r, len_t, l_0, l_1, l_2, l_3, l_4, l_5, l_6, l_7, l_8, l_9, l_10, l_11, l_12, l_13, l_14, l_15, l_20, l_21, l_22, l_25, l_26, l_30, l_31, l_32, l_36, l_38, l_40, l_60, l_64, l_70, l_96, l_97, l_100, l_128, l_512, l_7919, int_n, int_i, int_bn, add_n, ix_ln, ix_rn, ix_tn, list_l, list_t, few0, few1, few2, few3, few5, lt_n, gt_n, le_n, eqF_n, neF_n, rng1_m, flT_nx, flT_rt, flF_nx, flE_rt, un2_t, un3_t, tru_l, tru_b, app_n, cap_n, flat_n, flat_bl, optI_n, sl_n, zero_add_, ls_at (hh u hu)]
theorem HouseOk.step (h : HouseOk cs hs nm wd) (hv1 : v < cs.length) {s : List (List Nat)} (hs1 : s.length ≤ 1 + 12 * v) : (s ++ partN nm wd hs v).length ≤ 1 + 12 * (v + 1) := by
  have := h.part_len hv1
  rw [List.length_append]
  omega
theorem emp_h {x : List Nat} : (dns x).isEmpty = decide (x = []) := by cases x <;> rfl
theorem parts_le (h : HouseOk cs hs nm wd) : ∀ n, n ≤ cs.length → (partsN nm wd hs n).length ≤ 1 + 12 * n := fun n => by
  induction n with
  | zero => intro _; exact (show 1 ≤ 1 by decide)
  | succ n ih =>
    intro hn
    have : partsN nm wd hs (n + 1) = partsN nm wd hs n ++ partN nm wd hs n := by unfold partsN; rw [List.range_succ, List.foldl_append]; rfl
    rw [this]
    exact h.step (by omega) (ih (by omega))
theorem HouseOk.lwords (h : HouseOk cs hs nm wd) : m_law_text_words (.tup [ssD nm, sssD wd, dll hs]) = some (ssD (wordsN nm wd hs cs.length)) := by
  have hi := h.shp.hi
  have hnl := h.nm.len
  unfold m_law_text_words
  simp -implicitDefEqProofs only [Option.bind_some, Option.map_some, if_true_, if_ff, if_T, if_F, on0_s, on1_s, on2_s, on3_s, on4_s, on5_s, on6_s, asL_l, asL_r, asT_t, asB_b, len_l, len_r, len_t, l_0, l_1, l_2, l_3, l_4, l_5, l_6, l_7, l_8, l_9, l_10, l_11, l_12, l_13, l_14, l_15, l_20, l_21, l_22, l_25, l_26, l_30, l_31, l_32, l_36, l_38, l_40, l_60, l_64, l_70, l_96, l_97, l_100, l_128, l_512, l_7919, int_n, int_i, int_bn, add_n, ix_ln, ix_rn, ix_tn, list_l, list_t, few0, few1, few2, few3, few5, lt_n, gt_n, le_n, eqF_n, neF_n, rng1_m, flT_nx, flT_rt, flF_nx, flE_rt, un2_t, un3_t, tru_l, tru_b, app_n, cap_n, flat_n, flat_bl, optI_n, sl_n, zero_add_, lit_s, hnl, List.length_map, rng_s (n := cs.length) (by omega)]
  refine (bind_of (forS_dns (s := [Wd "house"]) ssD (fun s v => s ++ partN nm wd hs v) (fun v s => s.length ≤ 1 + 12 * v) (by decide) (fun v s hv1 hs1 => ⟨?_, h.step hv1 hs1⟩)).1).trans ?_
  · have wl := h.wlt hv1
    have hl4 := h.hlt hv1
    have e1 : dCat (ssD s) (.lst [sD (Wd "variable"), sD (nm.getD v []), sD (Wd "says")]) = some (ssD (s ++ [Wd "variable", nm.getD v [], Wd "says"])) := catW (b := [Wd "variable", nm.getD v [], Wd "says"]) (by show _ + 3 ≤ 100000; omega)
    have e2 : dCat (ssD (s ++ [Wd "variable", nm.getD v [], Wd "says"])) (ssD (wd.getD v [])) = some (ssD (s ++ [Wd "variable", nm.getD v [], Wd "says"] ++ wd.getD v [])) := catW (by rw [List.length_append]; show _ + 3 + _ ≤ 100000; omega)
    simp -implicitDefEqProofs only [Option.bind_some, Option.map_some, if_true_, if_ff, if_T, if_F, on0_s, on1_s, on2_s, on3_s, on4_s, on5_s, on6_s, asL_l, asL_r, asT_t, asB_b, len_l, len_r, len_t, l_0, l_1, l_2, l_3, l_4, l_5, l_6, l_7, l_8, l_9, l_10, l_11, l_12, l_13, l_14, l_15, l_20, l_21, l_22, l_25, l_26, l_30, l_31, l_32, l_36, l_38, l_40, l_60, l_64, l_70, l_96, l_97, l_100, l_128, l_512, l_7919, int_n, int_i, int_bn, add_n, ix_ln, ix_rn, ix_tn, list_l, list_t, few0, few1, few2, few3, few5, lt_n, gt_n, le_n, eqF_n, neF_n, rng1_m, flT_nx, flT_rt, flF_nx, flE_rt, un2_t, un3_t, tru_l, tru_b, app_n, cap_n, flat_n, flat_bl, optI_n, sl_n, zero_add_, ls_at (ls := nm) (i := v) (by omega), lss_at (ls := wd) (i := v) (by rw [h.wdl]; exact hv1), dll_at (hv_get (hs := hs) (v := v) (by rw [h.shp.len]; exact hv1)), e1, e2, emp_h]
    have sl : (s ++ [Wd "variable", nm.getD v [], Wd "says"] ++ wd.getD v []).length ≤ 100 := by
      rw [List.length_append, List.length_append]; show _ + 3 + _ ≤ 100; omega
    generalize eS : s ++ [Wd "variable", nm.getD v [], Wd "says"] ++ wd.getD v [] = s2 at sl
    have fin : s ++ partN nm wd hs v = s2 ++ tailN nm (hv hs v) := by rw [← eS]; unfold partN; simp only [List.append_assoc]
    rw [fin]
    unfold tailN
    by_cases z : hv hs v = []
    · have e3 : dCat (ssD s2) (.lst [sD (Wd "end")]) = some (ssD (s2 ++ [Wd "end"])) := catW (b := [Wd "end"]) (by show _ + 1 ≤ 100000; omega)
      rw [if_pos z, decide_eq_true z]
      simp -implicitDefEqProofs only [Option.bind_some, Option.map_some, if_true_, if_ff, if_T, if_F, on0_s, on1_s, on2_s, on3_s, on4_s, on5_s, on6_s, asL_l, asL_r, asT_t, asB_b, len_l, len_r, len_t, l_0, l_1, l_2, l_3, l_4, l_5, l_6, l_7, l_8, l_9, l_10, l_11, l_12, l_13, l_14, l_15, l_20, l_21, l_22, l_25, l_26, l_30, l_31, l_32, l_36, l_38, l_40, l_60, l_64, l_70, l_96, l_97, l_100, l_128, l_512, l_7919, int_n, int_i, int_bn, add_n, ix_ln, ix_rn, ix_tn, list_l, list_t, few0, few1, few2, few3, few5, lt_n, gt_n, le_n, eqF_n, neF_n, rng1_m, flT_nx, flT_rt, flF_nx, flE_rt, un2_t, un3_t, tru_l, tru_b, app_n, cap_n, flat_n, flat_bl, optI_n, sl_n, zero_add_, Bool.not_true, e3, List.nil_append]
    · have e3 : dCat (ssD s2) (.lst [sD (Wd "hears")]) = some (ssD (s2 ++ [Wd "hears"])) := catW (b := [Wd "hears"]) (by show _ + 1 ≤ 100000; omega)
      have e4 : dCat (ssD (s2 ++ [Wd "hears"])) (ssD ((hv hs v).map fun u => nm.getD u [])) = some (ssD (s2 ++ [Wd "hears"] ++ (hv hs v).map fun u => nm.getD u [])) := catW (by rw [List.length_append, List.length_map]; show _ + 1 + _ ≤ 100000; omega)
      have e5 : dCat (ssD (s2 ++ [Wd "hears"] ++ (hv hs v).map fun u => nm.getD u [])) (.lst [sD (Wd "end")]) = some (ssD (s2 ++ [Wd "hears"] ++ ((hv hs v).map fun u => nm.getD u []) ++ [Wd "end"])) := catW (b := [Wd "end"]) (by rw [List.length_append, List.length_append, List.length_map]; show _ + 1 + _ + 1 ≤ 100000; omega)
      rw [if_neg z, decide_eq_false z]
      simp -implicitDefEqProofs only [Option.bind_some, Option.map_some, if_true_, if_ff, if_T, if_F, on0_s, on1_s, on2_s, on3_s, on4_s, on5_s, on6_s, asL_l, asL_r, asT_t, asB_b, len_l, len_r, len_t, l_0, l_1, l_2, l_3, l_4, l_5, l_6, l_7, l_8, l_9, l_10, l_11, l_12, l_13, l_14, l_15, l_20, l_21, l_22, l_25, l_26, l_30, l_31, l_32, l_36, l_38, l_40, l_60, l_64, l_70, l_96, l_97, l_100, l_128, l_512, l_7919, int_n, int_i, int_bn, add_n, ix_ln, ix_rn, ix_tn, list_l, list_t, few0, few1, few2, few3, few5, lt_n, gt_n, le_n, eqF_n, neF_n, rng1_m, flT_nx, flT_rt, flF_nx, flE_rt, un2_t, un3_t, tru_l, tru_b, app_n, cap_n, flat_n, flat_bl, optI_n, sl_n, zero_add_, Bool.not_false, e3, capM_s (xs := dns (hv hs v)) (by rw [dns_len]; omega), names_comp (nm := nm) (h := hv hs v) (fun u hu => by have := h.shp.lt v u hu; omega), e4, e5]
      simp only [List.append_assoc]
  · have := parts_le h cs.length (Nat.le_refl _)
    exact catW (a := partsN nm wd hs cs.length) (b := [Wd "end"]) (by show _ + 1 ≤ 100000; omega)
theorem zip3_range {α : Type} : ∀ (n : Nat) (xs ys zs : List D), xs.length = n → ys.length = n → zs.length = n → zip3D xs ys zs = (List.range n).map fun v => D.tup [xs.getD v .non, ys.getD v .non, zs.getD v .non]
  | 0, xs, ys, zs, h1, h2, h3 => by
    rw [List.length_eq_zero_iff.mp h1, List.length_eq_zero_iff.mp h2, List.length_eq_zero_iff.mp h3]; rfl
  | n + 1, [], _, _, h1, _, _ => nomatch h1
  | n + 1, _ :: _, [], _, _, h2, _ => nomatch h2
  | n + 1, _ :: _, _ :: _, [], _, _, h3 => nomatch h3
  | n + 1, x :: xs, y :: ys, z :: zs, h1, h2, h3 => by
    rw [List.range_succ_eq_map, List.map_cons, List.map_map]
    show D.tup [x, y, z] :: zip3D xs ys zs = _
    rw [zip3_range (α := α) n xs ys zs (Nat.succ.inj h1) (Nat.succ.inj h2) (Nat.succ.inj h3)]
    rfl
theorem joined_le {ls : List (List Nat)} (h : ∀ s ∈ ls, s.length ≤ 12) : (ls.map (·.length)).sum ≤ 12 * ls.length := by
  induction ls with
  | nil => exact Nat.le_refl _
  | cons a l ih =>
    rw [List.map_cons, List.sum_cons, List.length_cons]
    have := h a List.mem_cons_self
    have := ih fun s hs => h s (List.mem_cons_of_mem _ hs)
    omega
/-- every word of the text is a kept word or a name -/
theorem HouseOk.part_all (h : HouseOk cs hs nm wd) (hv1 : v < cs.length) : ∀ s ∈ partN nm wd hs v, s ∈ kept ∨ NameOk s := fun s hs1 => by
  have hn : ∀ u, u < cs.length → NameOk (nm.getD u []) := fun u hu => by
    rw [List.getD_eq_getElem?_getD, List.getElem?_eq_getElem (by rw [h.nm.len]; exact hu)]
    exact h.nm.ok _ (List.getElem_mem _)
  unfold partN tailN at hs1
  rcases List.mem_append.mp hs1 with z | z
  · rcases List.mem_append.mp z with y | y
    · rcases List.mem_cons.mp y with e | y
      · rw [e]; exact .inl (by decide +kernel)
      · rcases List.mem_cons.mp y with e | y
        · rw [e]; exact .inr (hn v hv1)
        · rw [List.mem_singleton.mp y]; exact .inl (by decide +kernel)
    · exact .inr ((h.wd v hv1).ok s y)
  · rcases List.mem_append.mp z with y | y
    · split at y
      · cases y
      · rcases List.mem_append.mp y with e | e
        · rw [List.mem_singleton.mp e]; exact .inl (by decide +kernel)
        · obtain ⟨u, hu, rfl⟩ := List.mem_map.mp e
          have := h.shp.lt v u hu
          exact .inr (hn u (by omega))
    · rw [List.mem_singleton.mp y]; exact .inl (by decide +kernel)
theorem HouseOk.parts_all (h : HouseOk cs hs nm wd) : ∀ n, n ≤ cs.length → ∀ s ∈ partsN nm wd hs n, s ∈ kept ∨ NameOk s := fun n => by
  induction n with
  | zero => intro _ s hs1; rw [List.mem_singleton.mp hs1]; exact .inl (by decide +kernel)
  | succ n ih =>
    intro hn s hs1
    have : partsN nm wd hs (n + 1) = partsN nm wd hs n ++ partN nm wd hs n := by unfold partsN; rw [List.range_succ, List.foldl_append]; rfl
    rw [this] at hs1
    rcases List.mem_append.mp hs1 with z | z
    · exact ih (by omega) s z
    · exact h.part_all (by omega) s z
theorem HouseOk.words_all (h : HouseOk cs hs nm wd) : ∀ s ∈ wordsN nm wd hs cs.length, s ∈ kept ∨ NameOk s := fun s hs1 => by
  rcases List.mem_append.mp hs1 with z | z
  · exact h.parts_all _ (Nat.le_refl _) s z
  · rw [List.mem_singleton.mp z]; exact .inl (by decide +kernel)
theorem word_len {s : List Nat} (h : s ∈ kept ∨ NameOk s) : s.length ≤ 12 := h.elim (fun z => by have := kept_len s z; omega) fun z => z.len
theorem HouseOk.words_le (h : HouseOk cs hs nm wd) : (wordsN nm wd hs cs.length).length ≤ 62 := by
  have := parts_le h cs.length (Nat.le_refl _)
  have := h.shp.hi
  unfold wordsN
  rw [List.length_append]
  show _ + 1 ≤ 62
  omega
theorem HouseOk.join (h : HouseOk cs hs nm wd) : dJoin (sD [32]) (ssD (wordsN nm wd hs cs.length)) = some (sD (joinL [32] (wordsN nm wd hs cs.length))) := by
  have h1 := h.words_le
  have h2 := joined_le fun s hs1 => word_len (h.words_all s hs1)
  exact join_s (by omega)
theorem sp_lit : sD (Wd " ") = sD [32] := rfl
theorem HouseOk.format (h : HouseOk cs hs nm wd) : m_format_house (houseV nm wd hs) = some (sD (joinL [32] (wordsN nm wd hs cs.length))) := by
  have hi := h.shp.hi
  have hnl := h.nm.len
  unfold m_format_house
  simp -implicitDefEqProofs only [Option.bind_some, Option.map_some, if_true_, if_ff, if_T, if_F, on0_s, on1_s, on2_s, on3_s, on4_s, on5_s, on6_s, asL_l, asL_r, asT_t, asB_b, len_l, len_r, len_t, l_0, l_1, l_2, l_3, l_4, l_5, l_6, l_7, l_8, l_9, l_10, l_11, l_12, l_13, l_14, l_15, l_20, l_21, l_22, l_25, l_26, l_30, l_31, l_32, l_36, l_38, l_40, l_60, l_64, l_70, l_96, l_97, l_100, l_128, l_512, l_7919, int_n, int_i, int_bn, add_n, ix_ln, ix_rn, ix_tn, list_l, list_t, few0, few1, few2, few3, few5, lt_n, gt_n, le_n, eqF_n, neF_n, rng1_m, flT_nx, flT_rt, flF_nx, flE_rt, un2_t, un3_t, tru_l, tru_b, app_n, cap_n, flat_n, flat_bl, optI_n, sl_n, zero_add_, lit_s, fldV_n, fldV_w, fldV_h]
  rw [zip3_range (α := Nat) cs.length _ _ _ (by rw [List.length_map]; exact hnl) (by rw [List.length_map]; exact h.wdl) (by rw [List.length_map]; exact h.shp.len)]
  refine (bind_of (forS_idx (fun v => D.tup [(nm.map sD).getD v .non, (wd.map ssD).getD v .non, (hs.map dl).getD v .non]) ssD (fun s v => s ++ partN nm wd hs v) (fun v s => s.length ≤ 1 + 12 * v) (List.range cs.length) 0 [Wd "house"] (by decide) (fun v x s hx hs1 => ?_)).1).trans ?_
  · have hv1 : v < cs.length := by have := (List.getElem?_eq_some_iff.mp hx).1; rw [List.length_range] at this; exact this
    rw [List.getElem?_range hv1] at hx
    cases hx
    rw [Nat.zero_add] at hs1 ⊢
    refine ⟨?_, h.step hv1 hs1⟩
    have wl := h.wlt hv1
    have hl4 := h.hlt hv1
    have n1 : (nm.map sD).getD v .non = sD (nm.getD v []) := by rw [List.getD_eq_getElem?_getD, ls_at (by omega)]; rfl
    have n2 : (wd.map ssD).getD v .non = ssD (wd.getD v []) := by rw [List.getD_eq_getElem?_getD, lss_at (by rw [h.wdl]; exact hv1)]; rfl
    have n3 : (hs.map dl).getD v .non = dl (hv hs v) := by rw [List.getD_eq_getElem?_getD, dll_at (hv_get (hs := hs) (v := v) (by rw [h.shp.len]; exact hv1))]; rfl
    rw [n1, n2, n3]
    have e1 : dCat (.lst [sD (Wd "variable"), sD (nm.getD v []), sD (Wd "says")]) (ssD (wd.getD v [])) = some (ssD ([Wd "variable", nm.getD v [], Wd "says"] ++ wd.getD v [])) := catW (a := [Wd "variable", nm.getD v [], Wd "says"]) (by show 3 + _ ≤ 100000; omega)
    have e2 : dExt (ssD s) (ssD ([Wd "variable", nm.getD v [], Wd "says"] ++ wd.getD v [])) = some (ssD (s ++ ([Wd "variable", nm.getD v [], Wd "says"] ++ wd.getD v []))) := extW (by rw [List.length_append]; show _ + (3 + _) ≤ 100000; omega)
    simp -implicitDefEqProofs only [Option.bind_some, Option.map_some, if_true_, if_ff, if_T, if_F, on0_s, on1_s, on2_s, on3_s, on4_s, on5_s, on6_s, asL_l, asL_r, asT_t, asB_b, len_l, len_r, len_t, l_0, l_1, l_2, l_3, l_4, l_5, l_6, l_7, l_8, l_9, l_10, l_11, l_12, l_13, l_14, l_15, l_20, l_21, l_22, l_25, l_26, l_30, l_31, l_32, l_36, l_38, l_40, l_60, l_64, l_70, l_96, l_97, l_100, l_128, l_512, l_7919, int_n, int_i, int_bn, add_n, ix_ln, ix_rn, ix_tn, list_l, list_t, few0, few1, few2, few3, few5, lt_n, gt_n, le_n, eqF_n, neF_n, rng1_m, flT_nx, flT_rt, flF_nx, flE_rt, un2_t, un3_t, tru_l, tru_b, app_n, cap_n, flat_n, flat_bl, optI_n, sl_n, zero_add_, e1, e2, emp_h]
    have sl : (s ++ ([Wd "variable", nm.getD v [], Wd "says"] ++ wd.getD v [])).length ≤ 100 := by
      rw [List.length_append, List.length_append]; show _ + (3 + _) ≤ 100; omega
    generalize eS : s ++ ([Wd "variable", nm.getD v [], Wd "says"] ++ wd.getD v []) = s2 at sl
    have fin : s ++ partN nm wd hs v = s2 ++ tailN nm (hv hs v) := by rw [← eS]; unfold partN; simp only [List.append_assoc]
    rw [fin]
    unfold tailN
    by_cases z : hv hs v = []
    · have e3 : appM (s2.map sD) (sD (Wd "end")) = some (ssD (s2 ++ [Wd "end"])) := appW (by omega)
      rw [if_pos z, decide_eq_true z]
      simp -implicitDefEqProofs only [Option.bind_some, Option.map_some, if_true_, if_ff, if_T, if_F, on0_s, on1_s, on2_s, on3_s, on4_s, on5_s, on6_s, asL_l, asL_r, asT_t, asB_b, len_l, len_r, len_t, l_0, l_1, l_2, l_3, l_4, l_5, l_6, l_7, l_8, l_9, l_10, l_11, l_12, l_13, l_14, l_15, l_20, l_21, l_22, l_25, l_26, l_30, l_31, l_32, l_36, l_38, l_40, l_60, l_64, l_70, l_96, l_97, l_100, l_128, l_512, l_7919, int_n, int_i, int_bn, add_n, ix_ln, ix_rn, ix_tn, list_l, list_t, few0, few1, few2, few3, few5, lt_n, gt_n, le_n, eqF_n, neF_n, rng1_m, flT_nx, flT_rt, flF_nx, flE_rt, un2_t, un3_t, tru_l, tru_b, app_n, cap_n, flat_n, flat_bl, optI_n, sl_n, zero_add_, Bool.not_true, e3, List.nil_append]
    · have e3 : dCat (.lst [sD (Wd "hears")]) (ssD ((hv hs v).map fun u => nm.getD u [])) = some (ssD ([Wd "hears"] ++ (hv hs v).map fun u => nm.getD u [])) := catW (a := [Wd "hears"]) (by rw [List.length_map]; show 1 + _ ≤ 100000; omega)
      have e4 : dExt (ssD s2) (ssD ([Wd "hears"] ++ (hv hs v).map fun u => nm.getD u [])) = some (ssD (s2 ++ ([Wd "hears"] ++ (hv hs v).map fun u => nm.getD u []))) := extW (by rw [List.length_append, List.length_map]; show _ + (1 + _) ≤ 100000; omega)
      have e5 : appM ((s2 ++ ([Wd "hears"] ++ (hv hs v).map fun u => nm.getD u [])).map sD) (sD (Wd "end")) = some (ssD (s2 ++ ([Wd "hears"] ++ (hv hs v).map fun u => nm.getD u []) ++ [Wd "end"])) := appW (by rw [List.length_append, List.length_append, List.length_map]; show _ + (1 + _) < 100000; omega)
      rw [if_neg z, decide_eq_false z]
      simp -implicitDefEqProofs only [Option.bind_some, Option.map_some, if_true_, if_ff, if_T, if_F, on0_s, on1_s, on2_s, on3_s, on4_s, on5_s, on6_s, asL_l, asL_r, asT_t, asB_b, len_l, len_r, len_t, l_0, l_1, l_2, l_3, l_4, l_5, l_6, l_7, l_8, l_9, l_10, l_11, l_12, l_13, l_14, l_15, l_20, l_21, l_22, l_25, l_26, l_30, l_31, l_32, l_36, l_38, l_40, l_60, l_64, l_70, l_96, l_97, l_100, l_128, l_512, l_7919, int_n, int_i, int_bn, add_n, ix_ln, ix_rn, ix_tn, list_l, list_t, few0, few1, few2, few3, few5, lt_n, gt_n, le_n, eqF_n, neF_n, rng1_m, flT_nx, flT_rt, flF_nx, flE_rt, un2_t, un3_t, tru_l, tru_b, app_n, cap_n, flat_n, flat_bl, optI_n, sl_n, zero_add_, Bool.not_false, capM_s (xs := dns (hv hs v)) (by rw [dns_len]; omega), names_comp (nm := nm) (h := hv hs v) (fun u hu => by have := h.shp.lt v u hu; omega), e3, e4, e5, List.append_assoc]
  · have hl := parts_le h cs.length (Nat.le_refl _)
    have e1 : dApp (ssD (partsN nm wd hs cs.length)) (sD (Wd "end")) = some (ssD (wordsN nm wd hs cs.length)) := appW (by omega)
    refine (bind_of e1).trans ?_
    rw [sp_lit]
    exact h.join
end
end Oh
namespace Oh
open PySem L2 TL
/-! ### is_name -/
theorem wd_nil : sD (Wd "") = sD [] := rfl
theorem kept_an : ∀ w ∈ kept, w ≠ [] := by decide +kernel
theorem all_an : ∀ l : List Nat, (∀ c ∈ l, c ∈ an) → allD (fun x_24 => dInT x_24 (sD an)) (l.map fun c => sD [c]) = some (.bl true)
  | [], _ => rfl
  | c :: l, h => by
    show (dInT (sD [c]) (sD an)).bind (fun y => (asB y).bind fun b => if b = true then allD (fun x_24 => dInT x_24 (sD an)) (l.map fun c => sD [c]) else some (.bl false)) = _
    rw [in_s, decide_eq_true (h c List.mem_cons_self)]
    exact all_an l fun d hd => h d (List.mem_cons_of_mem _ hd)
theorem len_of {l : List Nat} (h : l.length ≤ 100000) : dLen (sD l) = some (dn l.length) := by
  show (if (sS l).length ≤ 100000 then some (D.int ((sS l).length : Int)) else none) = _
  rw [len_s, if_pos h]
theorem isi_s {s : List Nat} : dIsi .str (sD s) = some (.bl true) := rfl
theorem keptT : D.tup [sD (Wd "house"), sD (Wd "variable"), sD (Wd "says"), sD (Wd "hears"), sD (Wd "end"), sD (Wd "if"), sD (Wd "and"), sD (Wd "ignores"), sD (Wd "rises"), sD (Wd "falls"), sD (Wd "with"), sD (Wd "never"), sD (Wd "when")] = D.tup (kept.map sD) := rfl
theorem azE : sD (Wd "abcdefghijklmnopqrstuvwxyz") = sD az := rfl
theorem dgE : sD (Wd "0123456789") = sD dg := rfl
theorem anE : dAdd (sD az) (sD dg) = some (sD an) := add_s (by rw [az_len]; decide +kernel)
theorem is_name_ok {s : List Nat} (h : NameOk s) : m_is_name (sD s) = some (.bl true) := by
  have hl := h.len
  unfold m_is_name
  simp -implicitDefEqProofs only [Option.bind_some, Option.map_some, if_true_, if_ff, if_T, if_F, on0_s, on1_s, on2_s, on3_s, on4_s, on5_s, on6_s, asL_l, asL_r, asT_t, asB_b, len_l, len_r, len_t, l_0, l_1, l_2, l_3, l_4, l_5, l_6, l_7, l_8, l_9, l_10, l_11, l_12, l_13, l_14, l_15, l_20, l_21, l_22, l_25, l_26, l_30, l_31, l_32, l_36, l_38, l_40, l_60, l_64, l_70, l_96, l_97, l_100, l_128, l_512, l_7919, int_n, int_i, int_bn, add_n, ix_ln, ix_rn, ix_tn, list_l, list_t, few0, few1, few2, few3, few5, lt_n, gt_n, le_n, eqF_n, neF_n, rng1_m, flT_nx, flT_rt, flF_nx, flE_rt, un2_t, un3_t, tru_l, tru_b, app_n, cap_n, flat_n, flat_bl, optI_n, sl_n, zero_add_, lit_s, isi_s, Bool.not_true, keptT, azE, dgE, anE, wd_nil, eqF_s, decide_eq_false h.ne, len_of (l := s) (by omega), decide_eq_false (show ¬ 12 < s.length by omega), memt_s, decide_eq_false h.nk, ix_s (l := s) (by omega), chars_s]
  cases s with
  | nil => exact absurd rfl h.ne
  | cons c l =>
    have hd : c ∈ az := h.hd
    show ((dInT (sD [c]) (sD az)).bind _) = _
    rw [in_s, decide_eq_true hd]
    exact all_an (c :: l) h.all
theorem is_name_no {s : List Nat} (h : s ∈ kept) : m_is_name (sD s) = some (.bl false) := by
  have hl := kept_len s h
  unfold m_is_name
  simp -implicitDefEqProofs only [Option.bind_some, Option.map_some, if_true_, if_ff, if_T, if_F, on0_s, on1_s, on2_s, on3_s, on4_s, on5_s, on6_s, asL_l, asL_r, asT_t, asB_b, len_l, len_r, len_t, l_0, l_1, l_2, l_3, l_4, l_5, l_6, l_7, l_8, l_9, l_10, l_11, l_12, l_13, l_14, l_15, l_20, l_21, l_22, l_25, l_26, l_30, l_31, l_32, l_36, l_38, l_40, l_60, l_64, l_70, l_96, l_97, l_100, l_128, l_512, l_7919, int_n, int_i, int_bn, add_n, ix_ln, ix_rn, ix_tn, list_l, list_t, few0, few1, few2, few3, few5, lt_n, gt_n, le_n, eqF_n, neF_n, rng1_m, flT_nx, flT_rt, flF_nx, flE_rt, un2_t, un3_t, tru_l, tru_b, app_n, cap_n, flat_n, flat_bl, optI_n, sl_n, zero_add_, lit_s, isi_s, Bool.not_true, keptT, azE, dgE, anE, wd_nil, eqF_s, decide_eq_false (kept_an s h), len_of (l := s) (by omega), decide_eq_false (show ¬ 12 < s.length by omega), memt_s, decide_eq_true h]
/-! ### the reader -/
noncomputable def rdV (ws : List (List Nat)) (i : Nat) : D := .ob 0 [("words", ssD ws), ("at", dn i)]
section
variable {ws : List (List Nat)} {i : Nat} {w : List Nat}
theorem rd_at : dFld 0 "at" (rdV ws i) = some (dn i) := rfl
theorem rd_ws : dFld 0 "words" (rdV ws i) = some (ssD ws) := rfl
theorem mt1 : dMt 0 "ended" (rdV ws i) = some (rdV ws i) := rfl
theorem mt2 : dMt 0 "coming" (rdV ws i) = some (rdV ws i) := rfl
theorem mt3 : dMt 0 "take" (rdV ws i) = some (rdV ws i) := rfl
theorem mt4 : dMt 0 "take_name" (rdV ws i) = some (rdV ws i) := rfl
theorem mt5 : dMt 0 "take_index" (rdV ws i) = some (rdV ws i) := rfl
theorem mt6 : dMt 0 "finish" (rdV ws i) = some (rdV ws i) := rfl
theorem rd_set {j : Nat} : dStF 0 "at" (rdV ws i) (dn j) = some (rdV ws j) := rfl
theorem ended_ok : m_Reader_ended (rdV ws i) = some (.bl (decide (i = ws.length))) := by
  unfold m_Reader_ended
  simp -implicitDefEqProofs only [Option.bind_some, Option.map_some, if_true_, if_ff, if_T, if_F, on0_s, on1_s, on2_s, on3_s, on4_s, on5_s, on6_s, asL_l, asL_r, asT_t, asB_b, len_l, len_r, len_t, l_0, l_1, l_2, l_3, l_4, l_5, l_6, l_7, l_8, l_9, l_10, l_11, l_12, l_13, l_14, l_15, l_20, l_21, l_22, l_25, l_26, l_30, l_31, l_32, l_36, l_38, l_40, l_60, l_64, l_70, l_96, l_97, l_100, l_128, l_512, l_7919, int_n, int_i, int_bn, add_n, ix_ln, ix_rn, ix_tn, list_l, list_t, few0, few1, few2, few3, few5, lt_n, gt_n, le_n, eqF_n, neF_n, rng1_m, flT_nx, flT_rt, flF_nx, flE_rt, un2_t, un3_t, tru_l, tru_b, app_n, cap_n, flat_n, flat_bl, optI_n, sl_n, zero_add_, rd_at, rd_ws, List.length_map]
theorem coming_ok (h : ws[i]? = some w) : m_Reader_coming (rdV ws i) = some (sD w) := by
  have hl : i < ws.length := (List.getElem?_eq_some_iff.mp h).1
  unfold m_Reader_coming
  simp -implicitDefEqProofs only [Option.bind_some, Option.map_some, if_true_, if_ff, if_T, if_F, on0_s, on1_s, on2_s, on3_s, on4_s, on5_s, on6_s, asL_l, asL_r, asT_t, asB_b, len_l, len_r, len_t, l_0, l_1, l_2, l_3, l_4, l_5, l_6, l_7, l_8, l_9, l_10, l_11, l_12, l_13, l_14, l_15, l_20, l_21, l_22, l_25, l_26, l_30, l_31, l_32, l_36, l_38, l_40, l_60, l_64, l_70, l_96, l_97, l_100, l_128, l_512, l_7919, int_n, int_i, int_bn, add_n, ix_ln, ix_rn, ix_tn, list_l, list_t, few0, few1, few2, few3, few5, lt_n, gt_n, le_n, eqF_n, neF_n, rng1_m, flT_nx, flT_rt, flF_nx, flE_rt, un2_t, un3_t, tru_l, tru_b, app_n, cap_n, flat_n, flat_bl, optI_n, sl_n, zero_add_, mt1, ended_ok, decide_eq_false (show ¬ i = ws.length by omega), rd_at, rd_ws]
  rw [List.getElem?_map, h]; rfl
theorem flat_s {a : List Nat} : flatD (sD a) = some (sD a) := rfl
theorem addI_n {a b : Nat} : dAddI (dn a) (dn b) = some (dn (a + b)) := rfl
theorem take_rd {al : List (List Nat)} (h : ws[i]? = some w) (hm : w ∈ al) : (own1 m_Reader_take (rdV ws i) [ssD al]).bind endO = some (sD w, rdV ws (i + 1)) := by
  show (m_Reader_take (rdV ws i) (ssD al)).bind endO = _
  unfold m_Reader_take
  simp -implicitDefEqProofs only [Option.bind_some, Option.map_some, if_true_, if_ff, if_T, if_F, on0_s, on1_s, on2_s, on3_s, on4_s, on5_s, on6_s, asL_l, asL_r, asT_t, asB_b, len_l, len_r, len_t, l_0, l_1, l_2, l_3, l_4, l_5, l_6, l_7, l_8, l_9, l_10, l_11, l_12, l_13, l_14, l_15, l_20, l_21, l_22, l_25, l_26, l_30, l_31, l_32, l_36, l_38, l_40, l_60, l_64, l_70, l_96, l_97, l_100, l_128, l_512, l_7919, int_n, int_i, int_bn, add_n, ix_ln, ix_rn, ix_tn, list_l, list_t, few0, few1, few2, few3, few5, lt_n, gt_n, le_n, eqF_n, neF_n, rng1_m, flT_nx, flT_rt, flF_nx, flE_rt, un2_t, un3_t, tru_l, tru_b, app_n, cap_n, flat_n, flat_bl, optI_n, sl_n, zero_add_, mt2, coming_ok h, flat_s, nin_s, decide_eq_true hm, Bool.not_true, rd_at, addI_n, rd_set]
  rfl
theorem take_name_rd {us : List (List Nat)} (h : ws[i]? = some w) (hm : w ∉ us) (hn : NameOk w) : (own1 m_Reader_take_name (rdV ws i) [ssD us]).bind endO = some (sD w, rdV ws (i + 1)) := by
  show (m_Reader_take_name (rdV ws i) (ssD us)).bind endO = _
  unfold m_Reader_take_name
  simp -implicitDefEqProofs only [Option.bind_some, Option.map_some, if_true_, if_ff, if_T, if_F, on0_s, on1_s, on2_s, on3_s, on4_s, on5_s, on6_s, asL_l, asL_r, asT_t, asB_b, len_l, len_r, len_t, l_0, l_1, l_2, l_3, l_4, l_5, l_6, l_7, l_8, l_9, l_10, l_11, l_12, l_13, l_14, l_15, l_20, l_21, l_22, l_25, l_26, l_30, l_31, l_32, l_36, l_38, l_40, l_60, l_64, l_70, l_96, l_97, l_100, l_128, l_512, l_7919, int_n, int_i, int_bn, add_n, ix_ln, ix_rn, ix_tn, list_l, list_t, few0, few1, few2, few3, few5, lt_n, gt_n, le_n, eqF_n, neF_n, rng1_m, flT_nx, flT_rt, flF_nx, flE_rt, un2_t, un3_t, tru_l, tru_b, app_n, cap_n, flat_n, flat_bl, optI_n, sl_n, zero_add_, mt2, coming_ok h, flat_s, mem_s, decide_eq_false hm, is_name_ok hn, Bool.not_true, rd_at, addI_n, rd_set]
  rfl
theorem take_index_rd {al : List (List Nat)} {j : Nat} (h : ws[i]? = some w) (hj : al[j]? = some w) (hn : al.Nodup) : (own1 m_Reader_take_index (rdV ws i) [ssD al]).bind endO = some (dn j, rdV ws (i + 1)) := by
  show (m_Reader_take_index (rdV ws i) (ssD al)).bind endO = _
  unfold m_Reader_take_index
  simp -implicitDefEqProofs only [Option.bind_some, Option.map_some, if_true_, if_ff, if_T, if_F, on0_s, on1_s, on2_s, on3_s, on4_s, on5_s, on6_s, asL_l, asL_r, asT_t, asB_b, len_l, len_r, len_t, l_0, l_1, l_2, l_3, l_4, l_5, l_6, l_7, l_8, l_9, l_10, l_11, l_12, l_13, l_14, l_15, l_20, l_21, l_22, l_25, l_26, l_30, l_31, l_32, l_36, l_38, l_40, l_60, l_64, l_70, l_96, l_97, l_100, l_128, l_512, l_7919, int_n, int_i, int_bn, add_n, ix_ln, ix_rn, ix_tn, list_l, list_t, few0, few1, few2, few3, few5, lt_n, gt_n, le_n, eqF_n, neF_n, rng1_m, flT_nx, flT_rt, flF_nx, flE_rt, un2_t, un3_t, tru_l, tru_b, app_n, cap_n, flat_n, flat_bl, optI_n, sl_n, zero_add_, mt3]
  rw [take_rd h (List.mem_of_getElem? hj)]
  simp -implicitDefEqProofs only [Option.bind_some, Option.map_some, if_true_, if_ff, if_T, if_F, on0_s, on1_s, on2_s, on3_s, on4_s, on5_s, on6_s, asL_l, asL_r, asT_t, asB_b, len_l, len_r, len_t, l_0, l_1, l_2, l_3, l_4, l_5, l_6, l_7, l_8, l_9, l_10, l_11, l_12, l_13, l_14, l_15, l_20, l_21, l_22, l_25, l_26, l_30, l_31, l_32, l_36, l_38, l_40, l_60, l_64, l_70, l_96, l_97, l_100, l_128, l_512, l_7919, int_n, int_i, int_bn, add_n, ix_ln, ix_rn, ix_tn, list_l, list_t, few0, few1, few2, few3, few5, lt_n, gt_n, le_n, eqF_n, neF_n, rng1_m, flT_nx, flT_rt, flF_nx, flE_rt, un2_t, un3_t, tru_l, tru_b, app_n, cap_n, flat_n, flat_bl, optI_n, sl_n, zero_add_, index_s hj hn]
  rfl
theorem flo_rd : Oh.flo (.j none (shF [("words", .l .v)])) (rdV ws i) = true := by
  show ((ws.map sD).all (Oh.flo .v) && (flatB (dn i) && true)) = true
  have : (ws.map sD).all (Oh.flo .v) = true := allfl_s ws
  rw [this]; rfl
theorem read_words_rd {W : List (List Nat)} {c : Nat} {t : List Nat} (hW : WdOk W c) (hc : c = 2 ∨ c = 3) (hs : ∀ k, k < c → ws[i + k]? = W[k]?) (ht : ws[i + c]? = some t) (hk : t ∈ kept) :
    (own0 m_read_words (rdV ws i) []).bind endO = some (ssD W, rdV ws (i + c)) := by
  show (m_read_words (rdV ws i)).bind endO = _
  have key : ∀ (s : List (List Nat)) (j : Nat) (x : List Nat), ws[j]? = some x → x ∉ s → NameOk x → s.length ≤ 3 →
      ((((dMt 0 "take_name" (rdV ws j)).bind fun x_9 => (own1 m_Reader_take_name x_9 [ssD s]).bind endO).bind fun r_11 => if flatB r_11.1 = true ∧ Oh.flo (.j none (shF [("words", .l .v)])) r_11.2 = true then some r_11 else none).bind fun b_12 => (dApp (ssD s) b_12.1).map fun z_13 => (z_13, b_12)) = some (ssD (s ++ [x]), (sD x, rdV ws (j + 1))) := fun s j x h1 h2 h3 h4 => by
    rw [mt4]
    show (((own1 m_Reader_take_name (rdV ws j) [ssD s]).bind endO).bind _).bind _ = _
    rw [take_name_rd h1 h2 h3]
    show (if flatB (sD x) = true ∧ Oh.flo (.j none (shF [("words", .l .v)])) (rdV ws (j + 1)) = true then some (sD x, rdV ws (j + 1)) else none).bind _ = _
    rw [if_pos ⟨rfl, flo_rd⟩]
    show (dApp (ssD s) (sD x)).map _ = _
    rw [appW (by omega)]; rfl
  have w0 : ∃ x0 x1, W[0]? = some x0 ∧ W[1]? = some x1 := ⟨W[0]'(by rw [hW.len]; omega), W[1]'(by rw [hW.len]; omega), List.getElem?_eq_getElem _, List.getElem?_eq_getElem _⟩
  obtain ⟨x0, x1, e0, e1⟩ := w0
  have i0 : ws[i]? = some x0 := (hs 0 (by omega)).trans e0
  have i1 : ws[i + 1]? = some x1 := (hs 1 (by omega)).trans e1
  have n0 := hW.ok x0 (List.mem_of_getElem? e0)
  have n1 := hW.ok x1 (List.mem_of_getElem? e1)
  have t0 : (own1 m_Reader_take_name (rdV ws i) [D.lst []]).bind endO = some (sD x0, rdV ws (i + 1)) := take_name_rd (us := []) i0 (fun z => nomatch z) n0
  have ne01 : x1 ∉ [x0] := fun z => by
    have := List.mem_singleton.mp z
    obtain ⟨h0, v0⟩ := List.getElem?_eq_some_iff.mp e0
    obtain ⟨h1, v1⟩ := List.getElem?_eq_some_iff.mp e1
    have := (List.getElem_inj (h₀ := h1) (h₁ := h0) hW.nd).mp (by rw [v0, v1]; exact this)
    omega
  have t1 := key [x0] (i + 1) x1 i1 ne01 n1 (show 1 ≤ 3 by decide)
  unfold m_read_words
  simp -implicitDefEqProofs only [Option.bind_some, Option.map_some, if_true_, if_ff, if_T, if_F, on0_s, on1_s, on2_s, on3_s, on4_s, on5_s, on6_s, asL_l, asL_r, asT_t, asB_b, len_l, len_r, len_t, l_0, l_1, l_2, l_3, l_4, l_5, l_6, l_7, l_8, l_9, l_10, l_11, l_12, l_13, l_14, l_15, l_20, l_21, l_22, l_25, l_26, l_30, l_31, l_32, l_36, l_38, l_40, l_60, l_64, l_70, l_96, l_97, l_100, l_128, l_512, l_7919, int_n, int_i, int_bn, add_n, ix_ln, ix_rn, ix_tn, list_l, list_t, few0, few1, few2, few3, few5, lt_n, gt_n, le_n, eqF_n, neF_n, rng1_m, flT_nx, flT_rt, flF_nx, flE_rt, un2_t, un3_t, tru_l, tru_b, app_n, cap_n, flat_n, flat_bl, optI_n, sl_n, zero_add_, mt4, t0]
  refine (congrArg (fun z => Option.bind z endO) (bind_of t1)).trans ?_
  have k2 : ∀ {α : Type} (m : Option α), (m.bind fun z => some z) = m := fun m => by cases m <;> rfl
  rcases hc with rfl | rfl
  · have eW : W = [x0] ++ [x1] := by
      match W, hW.len, e0, e1 with
      | [a, b], _, h0, h1 => cases h0; cases h1; rfl
    have it : m_is_name (sD t) = some (.bl false) := is_name_no hk
    simp -implicitDefEqProofs only [Option.bind_some, Option.map_some, if_true_, if_ff, if_T, if_F, on0_s, on1_s, on2_s, on3_s, on4_s, on5_s, on6_s, asL_l, asL_r, asT_t, asB_b, len_l, len_r, len_t, l_0, l_1, l_2, l_3, l_4, l_5, l_6, l_7, l_8, l_9, l_10, l_11, l_12, l_13, l_14, l_15, l_20, l_21, l_22, l_25, l_26, l_30, l_31, l_32, l_36, l_38, l_40, l_60, l_64, l_70, l_96, l_97, l_100, l_128, l_512, l_7919, int_n, int_i, int_bn, add_n, ix_ln, ix_rn, ix_tn, list_l, list_t, few0, few1, few2, few3, few5, lt_n, gt_n, le_n, eqF_n, neF_n, rng1_m, flT_nx, flT_rt, flF_nx, flE_rt, un2_t, un3_t, tru_l, tru_b, app_n, cap_n, flat_n, flat_bl, optI_n, sl_n, zero_add_, mt2, coming_ok (i := i + 1 + 1) ht, it]
    rw [eW]; rfl
  · obtain ⟨x2, e2⟩ : ∃ x2, W[2]? = some x2 := ⟨W[2]'(by rw [hW.len]; omega), List.getElem?_eq_getElem _⟩
    have i2 : ws[i + 1 + 1]? = some x2 := (hs 2 (by omega)).trans e2
    have n2 := hW.ok x2 (List.mem_of_getElem? e2)
    have eW : W = ([x0] ++ [x1]) ++ [x2] := by
      match W, hW.len, e0, e1, e2 with
      | [a, b, c], _, h0, h1, h2 => cases h0; cases h1; cases h2; rfl
    have ne2 : x2 ∉ [x0] ++ [x1] := fun z => by
      have nd := hW.nd
      rw [eW] at nd
      exact (List.nodup_append.mp nd).2.2 x2 z x2 List.mem_cons_self rfl
    have t2 := key ([x0] ++ [x1]) (i + 1 + 1) x2 i2 ne2 n2 (show 2 ≤ 3 by decide)
    simp -implicitDefEqProofs only [Option.bind_some, Option.map_some, if_true_, if_ff, if_T, if_F, on0_s, on1_s, on2_s, on3_s, on4_s, on5_s, on6_s, asL_l, asL_r, asT_t, asB_b, len_l, len_r, len_t, l_0, l_1, l_2, l_3, l_4, l_5, l_6, l_7, l_8, l_9, l_10, l_11, l_12, l_13, l_14, l_15, l_20, l_21, l_22, l_25, l_26, l_30, l_31, l_32, l_36, l_38, l_40, l_60, l_64, l_70, l_96, l_97, l_100, l_128, l_512, l_7919, int_n, int_i, int_bn, add_n, ix_ln, ix_rn, ix_tn, list_l, list_t, few0, few1, few2, few3, few5, lt_n, gt_n, le_n, eqF_n, neF_n, rng1_m, flT_nx, flT_rt, flF_nx, flE_rt, un2_t, un3_t, tru_l, tru_b, app_n, cap_n, flat_n, flat_bl, optI_n, sl_n, zero_add_, mt2, coming_ok i2, is_name_ok n2]
    refine (congrArg (fun z => Option.bind (Option.bind (Option.bind z (fun said_27 => some (said_27.2.2, said_27.1))) (fun s_19 => some (Fg.rt (s_19.2, s_19.1)))) endO) t2).trans ?_
    rw [eW]; rfl
/-! read_heard -/
theorem last_ix (d : List Nat) (x : Nat) : dIx (dl (d ++ [x])) (.int (-1)) = some (dn x) := by
  show (ixN (dns (d ++ [x])).length (-1)).bind (fun j => (dns (d ++ [x]))[j]?) = _
  have hl : (dns (d ++ [x])).length = d.length + 1 := by rw [dns_len, List.length_append]; rfl
  unfold ixN
  rw [hl, if_neg (by decide), if_pos (by omega)]
  show (dns (d ++ [x]))[((-1 : Int) + ((d.length + 1 : Nat) : Int)).toNat]? = _
  rw [show ((-1 : Int) + ((d.length + 1 : Nat) : Int)).toNat = d.length by omega]
  exact dns_at (by rw [List.getElem?_append_right (Nat.le_refl _), Nat.sub_self]; rfl)
theorem drop_hd {α : Type} {l r : List α} {j : Nat} {a : α} (h : l.drop j = a :: r) : l[j]? = some a ∧ l.drop (j + 1) = r := by
  have h1 : l[j]? = some a := by
    have := List.getElem?_drop (xs := l) (i := j) (j := 0)
    rw [h] at this
    rw [← show l[j + 0]? = l[j]? from rfl, ← this]; rfl
  exact ⟨h1, by rw [← List.drop_drop, h]; rfl⟩
theorem heard_loop {nm : List (List Nat)} {L : Nat} {R : List (List Nat)} {c : D × D → Option Bool} {k : D × D → Option (D × D)} (nok : ∀ u, u < L → NameOk (nm.getD u []))
    (hc : ∀ d j w, ws[j]? = some w → c (dl d, rdV ws j) = some (!decide (w = Wd "end")))
    (hk : ∀ d x u j, d.length < 1000 → x < u → u < L → ws[j]? = some (nm.getD u []) → k (dl (d ++ [x]), rdV ws j) = some (dl (d ++ [x] ++ [u]), rdV ws (j + 1))) :
    ∀ (rest d : List Nat) (x j fuel : Nat), rest.length < fuel → d.length + rest.length < 1000 → (x :: rest).Pairwise (· < ·) → (∀ u ∈ rest, u < L) → ws.drop j = (rest.map fun u => nm.getD u []) ++ Wd "end" :: R →
      whS c k fuel (dl (d ++ [x]), rdV ws j) = some (dl (d ++ x :: rest), rdV ws (j + rest.length))
  | [], d, x, j, 0, hf, _, _, _, _ => absurd hf (Nat.not_lt_zero _)
  | [], d, x, j, fuel + 1, _, _, _, _, hw => by
    obtain ⟨h1, _⟩ := drop_hd (a := Wd "end") hw
    show (c (dl (d ++ [x]), rdV ws j)).bind _ = _
    rw [hc _ j _ h1, decide_eq_true rfl]; rfl
  | u :: rest, d, x, j, 0, hf, _, _, _, _ => absurd hf (Nat.not_lt_zero _)
  | u :: rest, d, x, j, fuel + 1, hf, hd, hp, hu, hw => by
    rw [List.length_cons] at hd
    obtain ⟨h1, h2⟩ := drop_hd (a := nm.getD u []) hw
    have hul := hu u List.mem_cons_self
    have ne : nm.getD u [] ≠ Wd "end" := fun e => (nok u hul).nk (by rw [e]; decide +kernel)
    show (c (dl (d ++ [x]), rdV ws j)).bind _ = _
    rw [hc _ j _ h1, decide_eq_false ne]
    show (k (dl (d ++ [x]), rdV ws j)).bind (whS c k fuel) = _
    rw [hk d x u j (by omega) ((List.pairwise_cons.mp hp).1 u List.mem_cons_self) hul h1]
    show whS c k fuel (dl (d ++ [x] ++ [u]), rdV ws (j + 1)) = _
    rw [heard_loop nok hc hk rest (d ++ [x]) u (j + 1) fuel (by simpa using hf) (by rw [List.length_append]; show d.length + 1 + _ < 1000; omega) (List.pairwise_cons.mp hp).2 (fun w hw => hu w (List.mem_cons_of_mem _ hw)) h2]
    rw [List.append_assoc, List.length_cons, show j + 1 + rest.length = j + (rest.length + 1) by omega]; rfl
noncomputable def alw (er : List (List Nat)) : List (List Nat) := if er = [] then [Wd "end"] else [Wd "hears", Wd "end"]
theorem neg1 : dNeg (dn 1) = some (.int (-1)) := rfl
theorem alw_ok (er : List (List Nat)) : (if (!(er.map sD).isEmpty) = true then some (D.lst [sD (Wd "hears"), sD (Wd "end")]) else some (D.lst [sD (Wd "end")])) = some (ssD (alw er)) := by
  cases er <;> rfl
theorem read_heard_rd {nm er : List (List Nat)} {h : List Nat} {R : List (List Nat)} (nd : er.Nodup) (her : ∀ u, u < er.length → er[u]? = some (nm.getD u [])) (nok : ∀ u, u < er.length → NameOk (nm.getD u []))
    (asc : h.Pairwise (· < ·)) (lt : ∀ u ∈ h, u < er.length) (hl : er.length ≤ 100) (hw : ws.drop i = tailN nm h ++ R) : (own1 m_read_heard (rdV ws i) [ssD er]).bind endO = some (dl h, rdV ws (i + (tailN nm h).length)) := by
  show (m_read_heard (rdV ws i) (ssD er)).bind endO = _
  unfold m_read_heard
  simp -implicitDefEqProofs only [Option.bind_some, Option.map_some, if_true_, if_ff, if_T, if_F, on0_s, on1_s, on2_s, on3_s, on4_s, on5_s, on6_s, asL_l, asL_r, asT_t, asB_b, len_l, len_r, len_t, l_0, l_1, l_2, l_3, l_4, l_5, l_6, l_7, l_8, l_9, l_10, l_11, l_12, l_13, l_14, l_15, l_20, l_21, l_22, l_25, l_26, l_30, l_31, l_32, l_36, l_38, l_40, l_60, l_64, l_70, l_96, l_97, l_100, l_128, l_512, l_7919, int_n, int_i, int_bn, add_n, ix_ln, ix_rn, ix_tn, list_l, list_t, few0, few1, few2, few3, few5, lt_n, gt_n, le_n, eqF_n, neF_n, rng1_m, flT_nx, flT_rt, flF_nx, flE_rt, un2_t, un3_t, tru_l, tru_b, app_n, cap_n, flat_n, flat_bl, optI_n, sl_n, zero_add_, lit_s, mt3, mt5, mt2, alw_ok]
  cases h with
  | nil =>
    obtain ⟨h1, _⟩ := drop_hd (a := Wd "end") (r := R) hw
    have h2 := take_rd (al := alw er) h1 (by unfold alw; split <;> simp)
    simp -implicitDefEqProofs only [Option.bind_some, Option.map_some, if_true_, if_ff, if_T, if_F, on0_s, on1_s, on2_s, on3_s, on4_s, on5_s, on6_s, asL_l, asL_r, asT_t, asB_b, len_l, len_r, len_t, l_0, l_1, l_2, l_3, l_4, l_5, l_6, l_7, l_8, l_9, l_10, l_11, l_12, l_13, l_14, l_15, l_20, l_21, l_22, l_25, l_26, l_30, l_31, l_32, l_36, l_38, l_40, l_60, l_64, l_70, l_96, l_97, l_100, l_128, l_512, l_7919, int_n, int_i, int_bn, add_n, ix_ln, ix_rn, ix_tn, list_l, list_t, few0, few1, few2, few3, few5, lt_n, gt_n, le_n, eqF_n, neF_n, rng1_m, flT_nx, flT_rt, flF_nx, flE_rt, un2_t, un3_t, tru_l, tru_b, app_n, cap_n, flat_n, flat_bl, optI_n, sl_n, zero_add_, h2, eqF_s, decide_eq_true]
    rfl
  | cons u h =>
    have hul := lt u List.mem_cons_self
    have e1 : tailN nm (u :: h) = Wd "hears" :: nm.getD u [] :: ((h.map fun u => nm.getD u []) ++ [Wd "end"]) := rfl
    rw [e1] at hw
    simp only [List.cons_append, List.append_assoc] at hw
    obtain ⟨h1, hw⟩ := drop_hd (a := Wd "hears") hw
    obtain ⟨h2, hw⟩ := drop_hd (a := nm.getD u []) hw
    have h3 := take_rd (al := alw er) h1 (by unfold alw; rw [if_neg (fun e => by rw [e] at hul; cases hul)]; exact List.mem_cons_self)
    have h4 := take_index_rd h2 (her u hul) nd
    simp -implicitDefEqProofs only [Option.bind_some, Option.map_some, if_true_, if_ff, if_T, if_F, on0_s, on1_s, on2_s, on3_s, on4_s, on5_s, on6_s, asL_l, asL_r, asT_t, asB_b, len_l, len_r, len_t, l_0, l_1, l_2, l_3, l_4, l_5, l_6, l_7, l_8, l_9, l_10, l_11, l_12, l_13, l_14, l_15, l_20, l_21, l_22, l_25, l_26, l_30, l_31, l_32, l_36, l_38, l_40, l_60, l_64, l_70, l_96, l_97, l_100, l_128, l_512, l_7919, int_n, int_i, int_bn, add_n, ix_ln, ix_rn, ix_tn, list_l, list_t, few0, few1, few2, few3, few5, lt_n, gt_n, le_n, eqF_n, neF_n, rng1_m, flT_nx, flT_rt, flF_nx, flE_rt, un2_t, un3_t, tru_l, tru_b, app_n, cap_n, flat_n, flat_bl, optI_n, sl_n, zero_add_, h3, eqF_s, decide_eq_false (show ¬ Wd "hears" = Wd "end" by decide +kernel), mt5, h4, neg1, appM_s (xs := []) (x := dn u) (by decide)]
    have hlen : h.length < 1000 := by
      have := asc_len (u :: h) 0 er.length asc fun w hw => ⟨Nat.zero_le _, lt w hw⟩
      rw [List.length_cons] at this
      omega
    refine (congrArg (fun z => Option.bind z endO) (bind_of (heard_loop (nm := nm) (L := er.length) (R := R) nok (fun d j w hj => ?_) (fun d x u j hd hx hu hj => ?_) h [] u (i + 1 + 1) 1000 hlen (by rw [List.length_nil, Nat.zero_add]; exact hlen) asc (fun w hw => lt w (List.mem_cons_of_mem _ hw)) hw))).trans ?_
    · simp -implicitDefEqProofs only [Option.bind_some, Option.map_some, if_true_, if_ff, if_T, if_F, on0_s, on1_s, on2_s, on3_s, on4_s, on5_s, on6_s, asL_l, asL_r, asT_t, asB_b, len_l, len_r, len_t, l_0, l_1, l_2, l_3, l_4, l_5, l_6, l_7, l_8, l_9, l_10, l_11, l_12, l_13, l_14, l_15, l_20, l_21, l_22, l_25, l_26, l_30, l_31, l_32, l_36, l_38, l_40, l_60, l_64, l_70, l_96, l_97, l_100, l_128, l_512, l_7919, int_n, int_i, int_bn, add_n, ix_ln, ix_rn, ix_tn, list_l, list_t, few0, few1, few2, few3, few5, lt_n, gt_n, le_n, eqF_n, neF_n, rng1_m, flT_nx, flT_rt, flF_nx, flE_rt, un2_t, un3_t, tru_l, tru_b, app_n, cap_n, flat_n, flat_bl, optI_n, sl_n, zero_add_, mt2, coming_ok hj, neF_s]
    · have e3 : dIx (dl (d ++ [x])) (.int (-1)) = some (dn x) := last_ix d x
      have e4 : (er.drop (x + 1))[u - (x + 1)]? = some (nm.getD u []) := by rw [List.getElem?_drop, show x + 1 + (u - (x + 1)) = u by omega]; exact her u hu
      have e5 := take_index_rd (al := er.drop (x + 1)) hj e4 (nd.sublist (List.drop_sublist _ _))
      have e6 : D.lst (cutD (er.map sD) (some ((x + 1 : Nat) : Int)) none) = ssD (er.drop (x + 1)) := by rw [cutD_from, ← List.map_drop]
      simp -implicitDefEqProofs only [Option.bind_some, Option.map_some, if_true_, if_ff, if_T, if_F, on0_s, on1_s, on2_s, on3_s, on4_s, on5_s, on6_s, asL_l, asL_r, asT_t, asB_b, len_l, len_r, len_t, l_0, l_1, l_2, l_3, l_4, l_5, l_6, l_7, l_8, l_9, l_10, l_11, l_12, l_13, l_14, l_15, l_20, l_21, l_22, l_25, l_26, l_30, l_31, l_32, l_36, l_38, l_40, l_60, l_64, l_70, l_96, l_97, l_100, l_128, l_512, l_7919, int_n, int_i, int_bn, add_n, ix_ln, ix_rn, ix_tn, list_l, list_t, few0, few1, few2, few3, few5, lt_n, gt_n, le_n, eqF_n, neF_n, rng1_m, flT_nx, flT_rt, flF_nx, flE_rt, un2_t, un3_t, tru_l, tru_b, app_n, cap_n, flat_n, flat_bl, optI_n, sl_n, zero_add_, e3, mt5, e6, e5, appM_s (xs := dns (d ++ [x])) (x := dn (x + 1 + (u - (x + 1)))) (by rw [dns_len, List.length_append]; show d.length + 1 < 100000; omega)]
      rw [show x + 1 + (u - (x + 1)) = u by omega]
      show some (D.lst (dns (d ++ [x]) ++ [dn u]), rdV ws (j + 1)) = some (D.lst (dns (d ++ [x] ++ [u])), rdV ws (j + 1))
      rw [show dns (d ++ [x] ++ [u]) = dns (d ++ [x]) ++ [dn u] from List.map_append]
    · have hd : ws.drop (i + 1 + 1 + h.length) = Wd "end" :: ([] ++ R) := by
        rw [← List.drop_drop, hw]
        have : h.length = (h.map fun u => nm.getD u []).length := (List.length_map _).symm
        rw [this, List.drop_left]
      obtain ⟨h5, _⟩ := drop_hd hd
      have h6 : (own1 m_Reader_take (rdV ws (i + 1 + 1 + h.length)) [D.lst [sD (Wd "end")]]).bind endO = some (sD (Wd "end"), rdV ws (i + 1 + 1 + h.length + 1)) := take_rd (al := [Wd "end"]) h5 List.mem_cons_self
      simp -implicitDefEqProofs only [Option.bind_some, Option.map_some, if_true_, if_ff, if_T, if_F, on0_s, on1_s, on2_s, on3_s, on4_s, on5_s, on6_s, asL_l, asL_r, asT_t, asB_b, len_l, len_r, len_t, l_0, l_1, l_2, l_3, l_4, l_5, l_6, l_7, l_8, l_9, l_10, l_11, l_12, l_13, l_14, l_15, l_20, l_21, l_22, l_25, l_26, l_30, l_31, l_32, l_36, l_38, l_40, l_60, l_64, l_70, l_96, l_97, l_100, l_128, l_512, l_7919, int_n, int_i, int_bn, add_n, ix_ln, ix_rn, ix_tn, list_l, list_t, few0, few1, few2, few3, few5, lt_n, gt_n, le_n, eqF_n, neF_n, rng1_m, flT_nx, flT_rt, flF_nx, flE_rt, un2_t, un3_t, tru_l, tru_b, app_n, cap_n, flat_n, flat_bl, optI_n, sl_n, zero_add_, mt3, h6]
      rw [e1]
      simp only [List.length_cons, List.length_append, List.length_map, List.length_nil]
      show some (dl (u :: h), rdV ws (i + 1 + 1 + h.length + 1)) = _
      rw [show i + 1 + 1 + h.length + 1 = i + (h.length + (0 + 1) + 1 + 1) by omega]
end
end Oh
namespace Oh
open PySem L2 TL
section
variable {cs : List Nat} {hs : List (List Nat)} {nm : List (List Nat)} {wd : List (List (List Nat))} {v i : Nat} {ws : List (List Nat)}
theorem parts_succ (n : Nat) : partsN nm wd hs (n + 1) = partsN nm wd hs n ++ partN nm wd hs n := by unfold partsN; rw [List.range_succ, List.foldl_append]; rfl
noncomputable def posN (nm : List (List Nat)) (wd : List (List (List Nat))) (hs : List (List Nat)) (v : Nat) : Nat := (partsN nm wd hs v).length
theorem words_split (n : Nat) : ∀ m v, v + m = n → ∃ R, wordsN nm wd hs n = partsN nm wd hs v ++ R
  | 0, v, e => ⟨[Wd "end"], by rw [← e, Nat.add_zero]; rfl⟩
  | m + 1, v, e => by
    obtain ⟨R, h⟩ := words_split n m (v + 1) (by omega)
    exact ⟨partN nm wd hs v ++ R, by rw [h, parts_succ, List.append_assoc]⟩
theorem drop_part {n : Nat} (h : v < n) : (wordsN nm wd hs n).drop (posN nm wd hs v) = partN nm wd hs v ++ (wordsN nm wd hs n).drop (posN nm wd hs (v + 1)) := by
  obtain ⟨R, e⟩ := words_split (nm := nm) (wd := wd) (hs := hs) n (n - (v + 1)) (v + 1) (by omega)
  unfold posN
  rw [e, List.drop_left, parts_succ, List.append_assoc, List.drop_left]
theorem drop_fin (n : Nat) : (wordsN nm wd hs n).drop (posN nm wd hs n) = [Wd "end"] := by
  unfold posN wordsN
  rw [List.drop_left]
theorem pos_succ (v : Nat) : posN nm wd hs (v + 1) = posN nm wd hs v + (partN nm wd hs v).length := by
  unfold posN
  rw [parts_succ, List.length_append]
noncomputable def alv (v : Nat) : List (List Nat) := if v = 0 then [Wd "variable"] else if v < 5 then [Wd "variable", Wd "end"] else [Wd "end"]
theorem words_after_ok (v : Nat) : m_words_after (dn v) = some (ssD (alv v)) := by
  unfold m_words_after alv
  simp -implicitDefEqProofs only [Option.bind_some, Option.map_some, if_true_, if_ff, if_T, if_F, on0_s, on1_s, on2_s, on3_s, on4_s, on5_s, on6_s, asL_l, asL_r, asT_t, asB_b, len_l, len_r, len_t, l_0, l_1, l_2, l_3, l_4, l_5, l_6, l_7, l_8, l_9, l_10, l_11, l_12, l_13, l_14, l_15, l_20, l_21, l_22, l_25, l_26, l_30, l_31, l_32, l_36, l_38, l_40, l_60, l_64, l_70, l_96, l_97, l_100, l_128, l_512, l_7919, int_n, int_i, int_bn, add_n, ix_ln, ix_rn, ix_tn, list_l, list_t, few0, few1, few2, few3, few5, lt_n, gt_n, le_n, eqF_n, neF_n, rng1_m, flT_nx, flT_rt, flF_nx, flE_rt, un2_t, un3_t, tru_l, tru_b, app_n, cap_n, flat_n, flat_bl, optI_n, sl_n, zero_add_, lit_s]
  by_cases h : v = 0
  · subst h; rfl
  · rw [decide_eq_false h, if_neg h]
    by_cases h5 : v < 5
    · rw [decide_eq_true h5, if_pos h5]; rfl
    · rw [decide_eq_false h5, if_neg h5]; rfl
theorem flatL_s : ∀ l : List (List Nat), flatL (ssD l) = some (ssD l) := fun l => by
  have : ∀ l : List (List Nat), flatDs (l.map sD) = some (l.map sD) := by
    intro l
    induction l with
    | nil => rfl
    | cons x l ih =>
      show (flatD (sD x)).bind (fun y => (flatDs (l.map sD)).bind fun ys => some (y :: ys)) = _
      rw [ih]; rfl
  show (flatDs (l.map sD)).map D.lst = _
  rw [this]; rfl
noncomputable abbrev stP (nm : List (List Nat)) (wd : List (List (List Nat))) (hs : List (List Nat)) (ws : List (List Nat)) (v i : Nat) : D × D × D × D := (ssD (nm.take v), rdV ws i, sssD (wd.take v), dll (hs.take v))
theorem parse_loop {c : D × D × D × D → Option (Bool × (D × D × D × D))} {k : D × D × D × D → Option (D × D × D × D)} (n : Nat)
    (hc : ∀ v, v ≤ n → c (stP nm wd hs ws v (posN nm wd hs v)) = some (decide (v < n), stP nm wd hs ws v (posN nm wd hs v + 1)))
    (hk : ∀ v, v < n → k (stP nm wd hs ws v (posN nm wd hs v + 1)) = some (stP nm wd hs ws (v + 1) (posN nm wd hs (v + 1)))) :
    ∀ (m v fuel : Nat), v + m = n → m < fuel → whP c (fun p => p.1) (fun p => p.2) k fuel (stP nm wd hs ws v (posN nm wd hs v)) = some (stP nm wd hs ws n (posN nm wd hs n + 1))
  | _, _, 0, _, hf => absurd hf (Nat.not_lt_zero _)
  | 0, v, fuel + 1, e, _ => by
    have e : v = n := e
    subst e
    show (c _).bind _ = _
    rw [hc v (Nat.le_refl _), decide_eq_false (Nat.lt_irrefl _)]; rfl
  | m + 1, v, fuel + 1, e, hf => by
    show (c _).bind _ = _
    rw [hc v (by omega), decide_eq_true (show v < n by omega)]
    show (k (stP nm wd hs ws v (posN nm wd hs v + 1))).bind _ = _
    rw [hk v (by omega)]
    exact parse_loop n hc hk m (v + 1) fuel (by omega) (by omega)
theorem drop_get {T R : List (List Nat)} (h : ws.drop i = T ++ R) {k : Nat} (hk : k < T.length) : ws[i + k]? = T[k]? := by
  rw [← List.getElem?_drop, h, List.getElem?_append_left hk]
theorem finish_ok (h : i = ws.length) : m_Reader_finish (rdV ws i) = some .non := by
  unfold m_Reader_finish
  simp -implicitDefEqProofs only [Option.bind_some, Option.map_some, if_true_, if_ff, if_T, if_F, on0_s, on1_s, on2_s, on3_s, on4_s, on5_s, on6_s, asL_l, asL_r, asT_t, asB_b, len_l, len_r, len_t, l_0, l_1, l_2, l_3, l_4, l_5, l_6, l_7, l_8, l_9, l_10, l_11, l_12, l_13, l_14, l_15, l_20, l_21, l_22, l_25, l_26, l_30, l_31, l_32, l_36, l_38, l_40, l_60, l_64, l_70, l_96, l_97, l_100, l_128, l_512, l_7919, int_n, int_i, int_bn, add_n, ix_ln, ix_rn, ix_tn, list_l, list_t, few0, few1, few2, few3, few5, lt_n, gt_n, le_n, eqF_n, neF_n, rng1_m, flT_nx, flT_rt, flF_nx, flE_rt, un2_t, un3_t, tru_l, tru_b, app_n, cap_n, flat_n, flat_bl, optI_n, sl_n, zero_add_, mt1, ended_ok, decide_eq_true h, Bool.not_true]
theorem app_take {α : Type} (f : α → D) {l : List α} {d : α} (h : v < l.length) (hl : l.length ≤ 1000) : appM ((l.take v).map f) (f (l.getD v d)) = some (.lst ((l.take (v + 1)).map f)) := by
  rw [appM_s (by rw [List.length_map, List.length_take]; omega)]
  have e1 : l.take (v + 1) = l.take v ++ [l.getD v d] := by
    rw [List.take_succ, List.getD_eq_getElem?_getD, List.getElem?_eq_getElem h]; rfl
  rw [e1, List.map_append]; rfl
theorem tail_head (nm : List (List Nat)) (h : List Nat) : ∃ t r, tailN nm h = t :: r ∧ t ∈ kept := by
  unfold tailN
  by_cases z : h = []
  · rw [if_pos z]; exact ⟨Wd "end", [], rfl, by decide +kernel⟩
  · rw [if_neg z]; exact ⟨Wd "hears", _, rfl, by decide +kernel⟩
theorem HouseOk.parse (h : HouseOk cs hs nm wd) {tx : D} (hr : mk_Reader [tx] = some (rdV (wordsN nm wd hs cs.length) 0)) (wl : wayN cs hs ≤ 512) (hw : m_way_count (houseV nm wd hs) = some (dn (wayN cs hs))) : m_parse_house tx = some (houseV nm wd hs) := by
  have hi := h.shp.hi
  have lo := h.shp.lo
  have hnl := h.nm.len
  have dp : ∀ v, v < cs.length → _ := fun v hv1 => drop_part (nm := nm) (wd := wd) (hs := hs) (n := cs.length) (v := v) hv1
  have de := drop_fin (nm := nm) (wd := wd) (hs := hs) cs.length
  have w0 : (wordsN nm wd hs cs.length)[0]? = some (Wd "house") := by
    obtain ⟨R, e⟩ := words_split (nm := nm) (wd := wd) (hs := hs) cs.length cs.length 0 (Nat.zero_add _)
    rw [e]; rfl
  have wlen : posN nm wd hs cs.length + 1 = (wordsN nm wd hs cs.length).length := by
    unfold posN wordsN
    rw [List.length_append]; rfl
  unfold m_parse_house
  simp -implicitDefEqProofs only [Option.bind_some, Option.map_some, if_true_, if_ff, if_T, if_F, on0_s, on1_s, on2_s, on3_s, on4_s, on5_s, on6_s, asL_l, asL_r, asT_t, asB_b, len_l, len_r, len_t, l_0, l_1, l_2, l_3, l_4, l_5, l_6, l_7, l_8, l_9, l_10, l_11, l_12, l_13, l_14, l_15, l_20, l_21, l_22, l_25, l_26, l_30, l_31, l_32, l_36, l_38, l_40, l_60, l_64, l_70, l_96, l_97, l_100, l_128, l_512, l_7919, int_n, int_i, int_bn, add_n, ix_ln, ix_rn, ix_tn, list_l, list_t, few0, few1, few2, few3, few5, lt_n, gt_n, le_n, eqF_n, neF_n, rng1_m, flT_nx, flT_rt, flF_nx, flE_rt, un2_t, un3_t, tru_l, tru_b, app_n, cap_n, flat_n, flat_bl, optI_n, sl_n, zero_add_, lit_s, hr, mt3, mt4, mt6]
  generalize wordsN nm wd hs cs.length = ws at *
  have t0 : (own1 m_Reader_take (rdV ws 0) [D.lst [sD (Wd "house")]]).bind endO = some (sD (Wd "house"), rdV ws 1) := take_rd (al := [Wd "house"]) w0 List.mem_cons_self
  refine (bind_of t0).trans ?_
  refine (bind_of (parse_loop (nm := nm) (wd := wd) (hs := hs) (ws := ws) cs.length (fun v hv1 => ?_) (fun v hv1 => ?_) cs.length 0 1000 (Nat.zero_add _) (by omega))).trans ?_
  · have el : ((nm.take v).map sD).length = v := by rw [List.length_map, List.length_take]; omega
    simp -implicitDefEqProofs only [Option.bind_some, Option.map_some, if_true_, if_ff, if_T, if_F, on0_s, on1_s, on2_s, on3_s, on4_s, on5_s, on6_s, asL_l, asL_r, asT_t, asB_b, len_l, len_r, len_t, l_0, l_1, l_2, l_3, l_4, l_5, l_6, l_7, l_8, l_9, l_10, l_11, l_12, l_13, l_14, l_15, l_20, l_21, l_22, l_25, l_26, l_30, l_31, l_32, l_36, l_38, l_40, l_60, l_64, l_70, l_96, l_97, l_100, l_128, l_512, l_7919, int_n, int_i, int_bn, add_n, ix_ln, ix_rn, ix_tn, list_l, list_t, few0, few1, few2, few3, few5, lt_n, gt_n, le_n, eqF_n, neF_n, rng1_m, flT_nx, flT_rt, flF_nx, flE_rt, un2_t, un3_t, tru_l, tru_b, app_n, cap_n, flat_n, flat_bl, optI_n, sl_n, zero_add_, mt3, el, words_after_ok]
    by_cases z : v < cs.length
    · have h1 := (drop_hd (a := Wd "variable") (dp v z)).1
      rw [take_rd (al := alv v) h1 (by unfold alv; split; exact List.mem_cons_self; rw [if_pos (by omega)]; exact List.mem_cons_self)]
      simp -implicitDefEqProofs only [Option.bind_some, Option.map_some, if_true_, if_ff, if_T, if_F, on0_s, on1_s, on2_s, on3_s, on4_s, on5_s, on6_s, asL_l, asL_r, asT_t, asB_b, len_l, len_r, len_t, l_0, l_1, l_2, l_3, l_4, l_5, l_6, l_7, l_8, l_9, l_10, l_11, l_12, l_13, l_14, l_15, l_20, l_21, l_22, l_25, l_26, l_30, l_31, l_32, l_36, l_38, l_40, l_60, l_64, l_70, l_96, l_97, l_100, l_128, l_512, l_7919, int_n, int_i, int_bn, add_n, ix_ln, ix_rn, ix_tn, list_l, list_t, few0, few1, few2, few3, few5, lt_n, gt_n, le_n, eqF_n, neF_n, rng1_m, flT_nx, flT_rt, flF_nx, flE_rt, un2_t, un3_t, tru_l, tru_b, app_n, cap_n, flat_n, flat_bl, optI_n, sl_n, zero_add_, eqF_s, decide_eq_true, z]
    · have e : v = cs.length := by omega
      subst e
      have h1 := (drop_hd de).1
      rw [take_rd (al := alv cs.length) h1 (by unfold alv; rw [if_neg (by omega)]; split <;> simp)]
      simp -implicitDefEqProofs only [Option.bind_some, Option.map_some, if_true_, if_ff, if_T, if_F, on0_s, on1_s, on2_s, on3_s, on4_s, on5_s, on6_s, asL_l, asL_r, asT_t, asB_b, len_l, len_r, len_t, l_0, l_1, l_2, l_3, l_4, l_5, l_6, l_7, l_8, l_9, l_10, l_11, l_12, l_13, l_14, l_15, l_20, l_21, l_22, l_25, l_26, l_30, l_31, l_32, l_36, l_38, l_40, l_60, l_64, l_70, l_96, l_97, l_100, l_128, l_512, l_7919, int_n, int_i, int_bn, add_n, ix_ln, ix_rn, ix_tn, list_l, list_t, few0, few1, few2, few3, few5, lt_n, gt_n, le_n, eqF_n, neF_n, rng1_m, flT_nx, flT_rt, flF_nx, flE_rt, un2_t, un3_t, tru_l, tru_b, app_n, cap_n, flat_n, flat_bl, optI_n, sl_n, zero_add_, eqF_s, decide_eq_false (show ¬ Wd "end" = Wd "variable" by decide +kernel), decide_eq_false z]
  · have d0 := dp v hv1
    unfold partN at d0
    simp only [List.append_assoc, List.cons_append, List.nil_append] at d0
    obtain ⟨_, d1⟩ := drop_hd d0
    obtain ⟨h1, d2⟩ := drop_hd d1
    obtain ⟨h2, d3⟩ := drop_hd d2
    have hvn : v < nm.length := by omega
    have hnv : ∀ u, u < cs.length → nm[u]? = some (nm.getD u []) := fun u hu => by rw [List.getD_eq_getElem?_getD, List.getElem?_eq_getElem (by omega)]; rfl
    have nok : ∀ u, u < cs.length → NameOk (nm.getD u []) := fun u hu => h.nm.ok _ (List.mem_of_getElem? (hnv u hu))
    have ni : nm.getD v [] ∉ nm.take v := fun z => by
      obtain ⟨j, hj⟩ := List.getElem?_of_mem z
      have hjl := (List.getElem?_eq_some_iff.mp hj).1
      rw [List.length_take] at hjl
      rw [List.getElem?_take, if_pos (by omega), hnv j (by omega)] at hj
      obtain ⟨b1, c1⟩ := List.getElem?_eq_some_iff.mp (hnv j (by omega))
      obtain ⟨b2, c2⟩ := List.getElem?_eq_some_iff.mp (hnv v hv1)
      have := (List.getElem_inj (h₀ := b1) (h₁ := b2) h.nm.nd).mp (by rw [c1, c2]; exact Option.some.inj hj)
      omega
    have e1 := take_name_rd (ws := ws) h1 ni (nok v hv1)
    have e2 : (own1 m_Reader_take (rdV ws (posN nm wd hs v + 1 + 1)) [D.lst [sD (Wd "says")]]).bind endO = some (sD (Wd "says"), rdV ws (posN nm wd hs v + 1 + 1 + 1)) := take_rd (al := [Wd "says"]) h2 List.mem_cons_self
    have hW := h.wd v hv1
    obtain ⟨t, r, et, tk⟩ := tail_head nm (hv hs v)
    have d4 : ws.drop (posN nm wd hs v + 1 + 1 + 1 + ct cs v) = tailN nm (hv hs v) ++ ws.drop (posN nm wd hs (v + 1)) := by
      rw [← List.drop_drop, d3, ← hW.len, List.drop_left]
    have ht : ws[posN nm wd hs v + 1 + 1 + 1 + ct cs v]? = some t := (drop_hd (d4.trans (by rw [et]; rfl))).1
    have e3 := read_words_rd (ws := ws) (i := posN nm wd hs v + 1 + 1 + 1) hW (h.shp.ct23 hv1) (fun k hk => drop_get d3 (by rw [hW.len]; exact hk)) ht tk
    have tl1 : (nm.take v).length = v := by rw [List.length_take]; omega
    have e4 := read_heard_rd (ws := ws) (nm := nm) (er := nm.take v) (h := hv hs v) (h.nm.nd.sublist (List.take_sublist _ _)) (fun u hu => by rw [tl1] at hu; rw [List.getElem?_take, if_pos hu]; exact hnv u (by omega)) (fun u hu => nok u (by rw [tl1] at hu; omega)) (h.shp.asc _ (List.mem_of_getElem? (hv_get (by rw [h.shp.len]; exact hv1)))) (fun u hu => by rw [tl1]; exact h.shp.lt v u hu) (by rw [tl1]; omega) d4
    have a1 := app_take sD (l := nm) (d := []) hvn (by omega)
    have a2 := app_take ssD (l := wd) (d := []) (v := v) (by rw [h.wdl]; exact hv1) (by rw [h.wdl]; omega)
    have a3 := app_take dl (l := hs) (d := []) (v := v) (by rw [h.shp.len]; exact hv1) (by rw [h.shp.len]; omega)
    have ep : posN nm wd hs v + 1 + 1 + 1 + ct cs v + (tailN nm (hv hs v)).length = posN nm wd hs (v + 1) := by
      rw [pos_succ]
      unfold partN
      rw [List.length_append, List.length_append, hW.len]
      show _ = _ + (3 + _ + _)
      omega
    rw [ep] at e4
    simp -implicitDefEqProofs only [Option.bind_some, Option.map_some, if_true_, if_ff, if_T, if_F, on0_s, on1_s, on2_s, on3_s, on4_s, on5_s, on6_s, asL_l, asL_r, asT_t, asB_b, len_l, len_r, len_t, l_0, l_1, l_2, l_3, l_4, l_5, l_6, l_7, l_8, l_9, l_10, l_11, l_12, l_13, l_14, l_15, l_20, l_21, l_22, l_25, l_26, l_30, l_31, l_32, l_36, l_38, l_40, l_60, l_64, l_70, l_96, l_97, l_100, l_128, l_512, l_7919, int_n, int_i, int_bn, add_n, ix_ln, ix_rn, ix_tn, list_l, list_t, few0, few1, few2, few3, few5, lt_n, gt_n, le_n, eqF_n, neF_n, rng1_m, flT_nx, flT_rt, flF_nx, flE_rt, un2_t, un3_t, tru_l, tru_b, app_n, cap_n, flat_n, flat_bl, optI_n, sl_n, zero_add_, flatL_s, mt4, mt3, e1, e2, e3, e4, a1, a2]
    rw [show hv hs v = hs.getD v [] from rfl, a3]
    rfl
  · simp -implicitDefEqProofs only [Option.bind_some, Option.map_some, if_true_, if_ff, if_T, if_F, on0_s, on1_s, on2_s, on3_s, on4_s, on5_s, on6_s, asL_l, asL_r, asT_t, asB_b, len_l, len_r, len_t, l_0, l_1, l_2, l_3, l_4, l_5, l_6, l_7, l_8, l_9, l_10, l_11, l_12, l_13, l_14, l_15, l_20, l_21, l_22, l_25, l_26, l_30, l_31, l_32, l_36, l_38, l_40, l_60, l_64, l_70, l_96, l_97, l_100, l_128, l_512, l_7919, int_n, int_i, int_bn, add_n, ix_ln, ix_rn, ix_tn, list_l, list_t, few0, few1, few2, few3, few5, lt_n, gt_n, le_n, eqF_n, neF_n, rng1_m, flT_nx, flT_rt, flF_nx, flE_rt, un2_t, un3_t, tru_l, tru_b, app_n, cap_n, flat_n, flat_bl, optI_n, sl_n, zero_add_, mt6, finish_ok wlen]
    have n1 : nm.take cs.length = nm := by rw [← hnl, List.take_length]
    have n2 : wd.take cs.length = wd := by rw [← h.wdl, List.take_length]
    have n3 : hs.take cs.length = hs := by rw [← h.shp.len, List.take_length]
    rw [n1, n2, n3]
    have m1 := mk_ok (nm := nm) (wd := wd) (hs := hs) (by rw [h.wdl]; omega) (by rw [h.shp.len]; omega)
    simp -implicitDefEqProofs only [Option.bind_some, Option.map_some, if_true_, if_ff, if_T, if_F, on0_s, on1_s, on2_s, on3_s, on4_s, on5_s, on6_s, asL_l, asL_r, asT_t, asB_b, len_l, len_r, len_t, l_0, l_1, l_2, l_3, l_4, l_5, l_6, l_7, l_8, l_9, l_10, l_11, l_12, l_13, l_14, l_15, l_20, l_21, l_22, l_25, l_26, l_30, l_31, l_32, l_36, l_38, l_40, l_60, l_64, l_70, l_96, l_97, l_100, l_128, l_512, l_7919, int_n, int_i, int_bn, add_n, ix_ln, ix_rn, ix_tn, list_l, list_t, few0, few1, few2, few3, few5, lt_n, gt_n, le_n, eqF_n, neF_n, rng1_m, flT_nx, flT_rt, flF_nx, flE_rt, un2_t, un3_t, tru_l, tru_b, app_n, cap_n, flat_n, flat_bl, optI_n, sl_n, zero_add_, m1, hw, decide_eq_false (show ¬ 512 < wayN cs hs by omega)]
end
end Oh
namespace Oh
open PySem L2 TL
/-! ### the words of a spaced text -/
noncomputable def fil (l : List Nat) : List (List Nat) := (spl [32] 0 [] l).filter fun w => !decide (w = [])
theorem fil_sp (l : List Nat) : fil (32 :: l) = fil l := by
  unfold fil
  rw [spl_hit (S := [32]) (by unfold pre; simp)]
  rfl
theorem fil_sps (l : List Nat) : ∀ k, fil (List.replicate k 32 ++ l) = fil l
  | 0 => rfl
  | k + 1 => by rw [List.replicate_succ, List.cons_append, fil_sp, fil_sps l k]
theorem fil_nil : fil [] = [] := rfl
theorem fil_word {w r : List Nat} (h : 32 ∉ w) (hw : w ≠ []) (hr : r = [] ∨ ∃ r', r = 32 :: r') : fil (w ++ r) = w :: fil r := by
  rcases hr with rfl | ⟨r', rfl⟩
  · unfold fil
    rw [List.append_nil, spl_last1 h]
    simp [hw, spl_nil]
  · rw [fil_sp]
    unfold fil
    have := spl_part1 (s := 32) (S := []) (p := w) (rest := r') (acc := []) h
    rw [show w ++ 32 :: r' = w ++ ([32] ++ r') from rfl, this, List.nil_append, List.filter_cons, if_pos (by simp [hw])]
theorem kept_sp : ∀ w ∈ kept, 32 ∉ w := by decide +kernel
theorem an_sp : 32 ∉ an := by decide +kernel
theorem word_sp {s : List Nat} (h : s ∈ kept ∨ NameOk s) : 32 ∉ s ∧ s ≠ [] :=
  h.elim (fun z => ⟨kept_sp s z, kept_an s z⟩) fun z => ⟨fun y => an_sp (z.all 32 y), z.ne⟩
theorem fil_join {W : List (List Nat)} (hW : ∀ s ∈ W, s ∈ kept ∨ NameOk s) (hn : W ≠ []) : fil (joinL [32] W) = W := by
  unfold fil
  rw [spl_join hn fun p hp => (word_sp (hW p hp)).1]
  rw [List.filter_eq_self]
  intro s hs
  simp [(word_sp (hW s hs)).2]
theorem spl_len : ∀ (l acc : List Nat), (spl [32] 0 acc l).length ≤ l.length + 1
  | [], acc => by rw [spl_nil]; exact Nat.le_refl _
  | c :: l, acc => by
    by_cases h : pre [32] (c :: l) = true
    · rw [spl_hit h, List.length_cons, List.length_cons]
      exact Nat.succ_le_succ (spl_len l [])
    · rw [spl_miss (by simpa using h), List.length_cons]
      exact Nat.le_succ_of_le (spl_len l _)
theorem reader_ok {l : List Nat} (h : l.length ≤ 80000) : mk_Reader [sD l] = some (rdV (fil l) 0) := by
  have hl : (spl [32] 0 [] l).length ≤ 90000 := by
    have := spl_len l []
    omega
  have e1 : compD (fun c_4 => ((dNeF c_4 (sD (Wd ""))).bind asB).bind fun b_8 => if b_8 = true then some (some c_4) else some none) ((spl [32] 0 [] l).map sD) = some ((fil l).map sD) :=
    compD_filter sD sD (fun w => !decide (w = [])) fun w _ => by
      rw [wd_nil, neF_s]
      by_cases z : w = []
      · rw [decide_eq_true z]; rfl
      · rw [decide_eq_false z]; rfl
  unfold mk_Reader i_Reader
  simp -implicitDefEqProofs only [Option.bind_some, Option.map_some, if_true_, if_ff, if_T, if_F, on0_s, on1_s, on2_s, on3_s, on4_s, on5_s, on6_s, asL_l, asL_r, asT_t, asB_b, len_l, len_r, len_t, l_0, l_1, l_2, l_3, l_4, l_5, l_6, l_7, l_8, l_9, l_10, l_11, l_12, l_13, l_14, l_15, l_20, l_21, l_22, l_25, l_26, l_30, l_31, l_32, l_36, l_38, l_40, l_60, l_64, l_70, l_96, l_97, l_100, l_128, l_512, l_7919, int_n, int_i, int_bn, add_n, ix_ln, ix_rn, ix_tn, list_l, list_t, few0, few1, few2, few3, few5, lt_n, gt_n, le_n, eqF_n, neF_n, rng1_m, flT_nx, flT_rt, flF_nx, flE_rt, un2_t, un3_t, tru_l, tru_b, app_n, cap_n, flat_n, flat_bl, optI_n, sl_n, zero_add_, lit_s, sp_lit, split_s (l := l) (by omega), capM_s (xs := (spl [32] 0 [] l).map sD) (by rw [List.length_map]; exact hl), e1]
  rfl
/-! the law's spaced text -/
structure Spd (W : List (List Nat)) (k : Nat) (T : List Nat) : Prop where
  len : T.length ≤ 2 + 15 * k
  fl : ∀ r : List Nat, (0 < k → r = [] ∨ ∃ r', r = 32 :: r') → fil (T ++ r) = W.take k ++ fil r
theorem take_snoc {W : List (List Nat)} {k : Nat} (h : k < W.length) : W.take (k + 1) = W.take k ++ [W.getD k []] := by
  rw [List.take_succ, List.getD_eq_getElem?_getD, List.getElem?_eq_getElem h]; rfl
theorem Spd.next {W : List (List Nat)} {k b : Nat} {T : List Nat} (h : Spd W k T) (hk : k < W.length) (hw : W.getD k [] ∈ kept ∨ NameOk (W.getD k [])) (hb : 1 ≤ b ∧ b ≤ 3) : Spd W (k + 1) (T ++ (if 0 < k then List.replicate b 32 else []) ++ W.getD k []) := by
  have hl := word_len hw
  obtain ⟨h32, hne⟩ := word_sp hw
  refine ⟨?_, fun r hr => ?_⟩
  · have := h.len
    rw [List.length_append, List.length_append]
    split
    · rw [List.length_replicate]; omega
    · show _ + 0 + _ ≤ _; omega
  · have hr := hr (Nat.succ_pos _)
    rw [take_snoc hk, List.append_assoc, List.append_assoc]
    by_cases z : 0 < k
    · rw [if_pos z]
      obtain ⟨b', rfl⟩ : ∃ b', b = b' + 1 := ⟨b - 1, by omega⟩
      rw [h.fl _ (fun _ => .inr ⟨_, by rw [List.replicate_succ, List.cons_append]⟩), fil_sps, fil_word h32 hne hr, List.append_assoc]; rfl
    · rw [if_neg z, List.nil_append, h.fl _ (fun y => absurd y z), fil_word h32 hne hr, List.append_assoc]; rfl
theorem spaced_ok {W : List (List Nat)} {xs : List Nat} (hl : xs.length = 8) (hW : ∀ s ∈ W, s ∈ kept ∨ NameOk s) (hn : W.length ≤ 62) : Ok (m_law_spaced (ssD W) (dl xs)) (fun t => ∃ l, t = sD l ∧ mk_Reader [sD l] = some (rdV W 0)) := by
  have rx : ∀ i, i < 8 → (dns xs)[i]? = some (dn (xs.getD i 0)) := fun i hi => by
    refine dns_at ?_
    rw [List.getD_eq_getElem?_getD, List.getElem?_eq_getElem (by omega)]; rfl
  have r0 := rx 0 (by decide)
  have r6 : (dns xs)[6]? = some (dn (xs.getD 6 0)) := rx 6 (by decide)
  have m3 : ∀ a : Nat, a % 3 < 3 := fun a => Nat.mod_lt _ (by decide)
  have hm0 := m3 (xs.getD 0 0)
  have hm6 := m3 (xs.getD 6 0)
  unfold m_law_spaced
  simp -implicitDefEqProofs only [Option.bind_some, Option.map_some, if_true_, if_ff, if_T, if_F, on0_s, on1_s, on2_s, on3_s, on4_s, on5_s, on6_s, asL_l, asL_r, asT_t, asB_b, len_l, len_r, len_t, l_0, l_1, l_2, l_3, l_4, l_5, l_6, l_7, l_8, l_9, l_10, l_11, l_12, l_13, l_14, l_15, l_20, l_21, l_22, l_25, l_26, l_30, l_31, l_32, l_36, l_38, l_40, l_60, l_64, l_70, l_96, l_97, l_100, l_128, l_512, l_7919, int_n, int_i, int_bn, add_n, ix_ln, ix_rn, ix_tn, list_l, list_t, few0, few1, few2, few3, few5, lt_n, gt_n, le_n, eqF_n, neF_n, rng1_m, flT_nx, flT_rt, flF_nx, flE_rt, un2_t, un3_t, tru_l, tru_b, app_n, cap_n, flat_n, flat_bl, optI_n, sl_n, zero_add_, lit_s, sp_lit, r0, r6, mod_n (b := 3) (by decide), mul_sp (k := xs.getD 0 0 % 3) (by omega), mul_sp (k := xs.getD 6 0 % 3) (by omega), List.length_map, rng_s (n := W.length) (by omega)]
  refine ok_bind (P := fun b => ∃ T, b = sD T ∧ Spd W W.length T) (forS_ok (fun i b => ∃ T, b = sD T ∧ Spd W i T) ⟨_, rfl, ⟨by rw [List.length_replicate]; omega, fun r _ => by rw [fil_sps]; rfl⟩⟩ (fun i x b hx ⟨T, e, hT⟩ => ?_) (fun b h => by rw [dns_len, List.length_range] at h; exact h)) fun b ⟨T, e, hT⟩ => ?_
  · subst e
    have hi2 : i < W.length := by have := (List.getElem?_eq_some_iff.mp hx).1; rw [dns_len, List.length_range] at this; exact this
    rw [dns_at (List.getElem?_range hi2)] at hx
    cases hx
    have hw : W.getD i [] ∈ kept ∨ NameOk (W.getD i []) := hW _ (by rw [List.getD_eq_getElem?_getD, List.getElem?_eq_getElem hi2]; exact List.getElem_mem _)
    have wl := word_len hw
    have tl1 := hT.len
    have r5 := rx (1 + i % 5) (by have : i % 5 < 5 := Nat.mod_lt _ (by decide); omega)
    have hb : 1 ≤ 1 + xs.getD (1 + i % 5) 0 / (1 + i) % 3 ∧ 1 + xs.getD (1 + i % 5) 0 / (1 + i) % 3 ≤ 3 := by have := m3 (xs.getD (1 + i % 5) 0 / (1 + i)); omega
    have hnx := hT.next hi2 hw hb
    have wi := ls_at (ls := W) hi2
    simp -implicitDefEqProofs only [Option.bind_some, Option.map_some, if_true_, if_ff, if_T, if_F, on0_s, on1_s, on2_s, on3_s, on4_s, on5_s, on6_s, asL_l, asL_r, asT_t, asB_b, len_l, len_r, len_t, l_0, l_1, l_2, l_3, l_4, l_5, l_6, l_7, l_8, l_9, l_10, l_11, l_12, l_13, l_14, l_15, l_20, l_21, l_22, l_25, l_26, l_30, l_31, l_32, l_36, l_38, l_40, l_60, l_64, l_70, l_96, l_97, l_100, l_128, l_512, l_7919, int_n, int_i, int_bn, add_n, ix_ln, ix_rn, ix_tn, list_l, list_t, few0, few1, few2, few3, few5, lt_n, gt_n, le_n, eqF_n, neF_n, rng1_m, flT_nx, flT_rt, flF_nx, flE_rt, un2_t, un3_t, tru_l, tru_b, app_n, cap_n, flat_n, flat_bl, optI_n, sl_n, zero_add_, mod_n (b := 5) (by decide), r5, div_n (a := xs.getD (1 + i % 5) 0) (b := 1 + i) (by omega) (by omega), mod_n (b := 3) (by decide), mul_sp (k := 1 + xs.getD (1 + i % 5) 0 / (1 + i) % 3) (by omega), wi]
    by_cases z : 0 < i
    · rw [if_pos z] at hnx
      rw [decide_eq_true z]
      simp -implicitDefEqProofs only [Option.bind_some, Option.map_some, if_true_, if_ff, if_T, if_F, on0_s, on1_s, on2_s, on3_s, on4_s, on5_s, on6_s, asL_l, asL_r, asT_t, asB_b, len_l, len_r, len_t, l_0, l_1, l_2, l_3, l_4, l_5, l_6, l_7, l_8, l_9, l_10, l_11, l_12, l_13, l_14, l_15, l_20, l_21, l_22, l_25, l_26, l_30, l_31, l_32, l_36, l_38, l_40, l_60, l_64, l_70, l_96, l_97, l_100, l_128, l_512, l_7919, int_n, int_i, int_bn, add_n, ix_ln, ix_rn, ix_tn, list_l, list_t, few0, few1, few2, few3, few5, lt_n, gt_n, le_n, eqF_n, neF_n, rng1_m, flT_nx, flT_rt, flF_nx, flE_rt, un2_t, un3_t, tru_l, tru_b, app_n, cap_n, flat_n, flat_bl, optI_n, sl_n, zero_add_, add_s (a := T) (b := List.replicate (1 + xs.getD (1 + i % 5) 0 / (1 + i) % 3) 32) (by rw [List.length_replicate]; omega)]
      rw [add_s (by rw [List.length_append, List.length_replicate]; omega)]
      exact ⟨_, rfl, _, rfl, hnx⟩
    · rw [if_neg z, List.append_nil] at hnx
      rw [decide_eq_false z]
      simp -implicitDefEqProofs only [Option.bind_some, Option.map_some, if_true_, if_ff, if_T, if_F, on0_s, on1_s, on2_s, on3_s, on4_s, on5_s, on6_s, asL_l, asL_r, asT_t, asB_b, len_l, len_r, len_t, l_0, l_1, l_2, l_3, l_4, l_5, l_6, l_7, l_8, l_9, l_10, l_11, l_12, l_13, l_14, l_15, l_20, l_21, l_22, l_25, l_26, l_30, l_31, l_32, l_36, l_38, l_40, l_60, l_64, l_70, l_96, l_97, l_100, l_128, l_512, l_7919, int_n, int_i, int_bn, add_n, ix_ln, ix_rn, ix_tn, list_l, list_t, few0, few1, few2, few3, few5, lt_n, gt_n, le_n, eqF_n, neF_n, rng1_m, flT_nx, flT_rt, flF_nx, flE_rt, un2_t, un3_t, tru_l, tru_b, app_n, cap_n, flat_n, flat_bl, optI_n, sl_n, zero_add_]
      rw [add_s (by omega)]
      exact ⟨_, rfl, _, rfl, hnx⟩
  · subst e
    have tl1 := hT.len
    rw [add_s (by rw [List.length_replicate]; omega)]
    refine ⟨_, rfl, _, rfl, ?_⟩
    rw [reader_ok (by rw [List.length_append, List.length_replicate]; omega), hT.fl _ (fun _ => ?_), List.take_length]
    · have := fil_sps [] (xs.getD 6 0 % 3)
      rw [List.append_nil] at this
      rw [this, fil_nil, List.append_nil]
    · cases xs.getD 6 0 % 3 with
      | zero => exact .inl rfl
      | succ m => exact .inr ⟨_, List.replicate_succ⟩
end Oh
namespace Oh
open PySem L2 TL
/-! ### the same data -/
theorem forF_unit {k : D → Unit → Option (Fl Unit Unit)} : ∀ {xs : List D}, (∀ x ∈ xs, k x () = some (Fl.nx ())) → forF (γ := Empty) k xs () = some (Fl.nx ())
  | [], _ => rfl
  | x :: xs, h => by
    show (k x ()).bind _ = _
    rw [h x List.mem_cons_self]
    exact forF_unit fun y hy => h y (List.mem_cons_of_mem _ hy)
noncomputable abbrev Low (a : List Nat) : Prop := ∀ c ∈ a, c < 0x110000
theorem an_low : ∀ c ∈ an, c < 0x110000 := by decide +kernel
theorem NameOk.low {s : List Nat} (h : NameOk s) : Low s := fun c hc => an_low c (h.all c hc)
theorem eq_s {a : List Nat} (h : Low a) : dEq (sD a) (sD a) = some (.bl true) := by
  have ok : PyData.strOk (sS a) = true := by
    unfold PyData.strOk
    rw [← Array.all_toList, List.all_eq_true]
    exact fun c hc => decide_eq_true (h c hc)
  have sh : SeqAt.shaped (.str (sS a)) = true := by unfold SeqAt.shaped; simp only [PyData.canLay0, PyData.depth, ok]; rfl
  unfold dEq dEqB
  simp only [toP, Option.bind_some]
  rw [if_pos ⟨sh, sh⟩]
  simp [PyData.eqv]
theorem eq_n {a : Nat} : dEq (dn a) (dn a) = some (.bl true) := by
  unfold dEq dEqB
  simp only [toP, Option.bind_some]
  rw [if_pos ⟨by unfold SeqAt.shaped; simp [PyData.canLay0, PyData.depth], by unfold SeqAt.shaped; simp [PyData.canLay0, PyData.depth]⟩]
  simp [PyData.eqv]
theorem same_s {f : Nat} {a : List Nat} (h : Low a) : m_law_same (f + 1) (sD a) (sD a) = some (.bl true) := by
  have b1 : ∀ t : Ty, t ≠ .str → dIsi t (sD a) = some (.bl false) := fun t h => by cases t <;> first | rfl | exact absurd rfl h
  unfold m_law_same
  simp -implicitDefEqProofs only [Option.bind_some, Option.map_some, if_true_, if_ff, if_T, if_F, on0_s, on1_s, on2_s, on3_s, on4_s, on5_s, on6_s, asL_l, asL_r, asT_t, asB_b, len_l, len_r, len_t, l_0, l_1, l_2, l_3, l_4, l_5, l_6, l_7, l_8, l_9, l_10, l_11, l_12, l_13, l_14, l_15, l_20, l_21, l_22, l_25, l_26, l_30, l_31, l_32, l_36, l_38, l_40, l_60, l_64, l_70, l_96, l_97, l_100, l_128, l_512, l_7919, int_n, int_i, int_bn, add_n, ix_ln, ix_rn, ix_tn, list_l, list_t, few0, few1, few2, few3, few5, lt_n, gt_n, le_n, eqF_n, neF_n, rng1_m, flT_nx, flT_rt, flF_nx, flE_rt, un2_t, un3_t, tru_l, tru_b, app_n, cap_n, flat_n, flat_bl, optI_n, sl_n, zero_add_, b1 .list (by decide), b1 .tuple (by decide), b1 .bool (by decide), b1 .int (by decide), isi_s, eq_s h]
theorem same_n {f : Nat} {a : Nat} : m_law_same (f + 1) (dn a) (dn a) = some (.bl true) := by
  have b1 : ∀ t : Ty, t ≠ .int → dIsi t (dn a) = some (.bl false) := fun t h => by cases t <;> first | rfl | exact absurd rfl h
  have b2 : dIsi .int (dn a) = some (.bl true) := rfl
  have b3 : m_law_is_integer (dn a) = some (.bl true) := by unfold m_law_is_integer; simp -implicitDefEqProofs only [Option.bind_some, Option.map_some, if_true_, if_ff, if_T, if_F, on0_s, on1_s, on2_s, on3_s, on4_s, on5_s, on6_s, asL_l, asL_r, asT_t, asB_b, len_l, len_r, len_t, l_0, l_1, l_2, l_3, l_4, l_5, l_6, l_7, l_8, l_9, l_10, l_11, l_12, l_13, l_14, l_15, l_20, l_21, l_22, l_25, l_26, l_30, l_31, l_32, l_36, l_38, l_40, l_60, l_64, l_70, l_96, l_97, l_100, l_128, l_512, l_7919, int_n, int_i, int_bn, add_n, ix_ln, ix_rn, ix_tn, list_l, list_t, few0, few1, few2, few3, few5, lt_n, gt_n, le_n, eqF_n, neF_n, rng1_m, flT_nx, flT_rt, flF_nx, flE_rt, un2_t, un3_t, tru_l, tru_b, app_n, cap_n, flat_n, flat_bl, optI_n, sl_n, zero_add_, b2, b1 .bool (by decide), Bool.not_false]
  unfold m_law_same
  simp -implicitDefEqProofs only [Option.bind_some, Option.map_some, if_true_, if_ff, if_T, if_F, on0_s, on1_s, on2_s, on3_s, on4_s, on5_s, on6_s, asL_l, asL_r, asT_t, asB_b, len_l, len_r, len_t, l_0, l_1, l_2, l_3, l_4, l_5, l_6, l_7, l_8, l_9, l_10, l_11, l_12, l_13, l_14, l_15, l_20, l_21, l_22, l_25, l_26, l_30, l_31, l_32, l_36, l_38, l_40, l_60, l_64, l_70, l_96, l_97, l_100, l_128, l_512, l_7919, int_n, int_i, int_bn, add_n, ix_ln, ix_rn, ix_tn, list_l, list_t, few0, few1, few2, few3, few5, lt_n, gt_n, le_n, eqF_n, neF_n, rng1_m, flT_nx, flT_rt, flF_nx, flE_rt, un2_t, un3_t, tru_l, tru_b, app_n, cap_n, flat_n, flat_bl, optI_n, sl_n, zero_add_, b1 .list (by decide), b1 .tuple (by decide), b1 .bool (by decide), b2, b3, eq_n]
theorem same_l {f : Nat} {xs : List D} (hl : xs.length ≤ 1000) (h : ∀ x ∈ xs, m_law_same f x x = some (.bl true)) : m_law_same (f + 1) (.lst xs) (.lst xs) = some (.bl true) := by
  have b1 : dIsi .list (.lst xs) = some (.bl true) := rfl
  have b2 : dIsi .tuple (.lst xs) = some (.bl false) := rfl
  have b3 : ∀ b : Bool, dNeF (.bl b) (.bl b) = some (.bl false) := fun b => by cases b <;> rfl
  unfold m_law_same
  simp -implicitDefEqProofs only [Option.bind_some, Option.map_some, if_true_, if_ff, if_T, if_F, on0_s, on1_s, on2_s, on3_s, on4_s, on5_s, on6_s, asL_l, asL_r, asT_t, asB_b, len_l, len_r, len_t, l_0, l_1, l_2, l_3, l_4, l_5, l_6, l_7, l_8, l_9, l_10, l_11, l_12, l_13, l_14, l_15, l_20, l_21, l_22, l_25, l_26, l_30, l_31, l_32, l_36, l_38, l_40, l_60, l_64, l_70, l_96, l_97, l_100, l_128, l_512, l_7919, int_n, int_i, int_bn, add_n, ix_ln, ix_rn, ix_tn, list_l, list_t, few0, few1, few2, few3, few5, lt_n, gt_n, le_n, eqF_n, neF_n, rng1_m, flT_nx, flT_rt, flF_nx, flE_rt, un2_t, un3_t, tru_l, tru_b, app_n, cap_n, flat_n, flat_bl, optI_n, sl_n, zero_add_, b1, b2, b3, decide_eq_true, Bool.not_true, rng_s (n := xs.length) (by omega)]
  refine (bind_of (forF_unit fun x hx => ?_)).trans rfl
  obtain ⟨i, hi, rfl⟩ := List.mem_map.mp hx
  have hi := List.mem_range.mp hi
  have hs := h xs[i] (List.getElem_mem _)
  simp -implicitDefEqProofs only [Option.bind_some, Option.map_some, if_true_, if_ff, if_T, if_F, on0_s, on1_s, on2_s, on3_s, on4_s, on5_s, on6_s, asL_l, asL_r, asT_t, asB_b, len_l, len_r, len_t, l_0, l_1, l_2, l_3, l_4, l_5, l_6, l_7, l_8, l_9, l_10, l_11, l_12, l_13, l_14, l_15, l_20, l_21, l_22, l_25, l_26, l_30, l_31, l_32, l_36, l_38, l_40, l_60, l_64, l_70, l_96, l_97, l_100, l_128, l_512, l_7919, int_n, int_i, int_bn, add_n, ix_ln, ix_rn, ix_tn, list_l, list_t, few0, few1, few2, few3, few5, lt_n, gt_n, le_n, eqF_n, neF_n, rng1_m, flT_nx, flT_rt, flF_nx, flE_rt, un2_t, un3_t, tru_l, tru_b, app_n, cap_n, flat_n, flat_bl, optI_n, sl_n, zero_add_, List.getElem?_eq_getElem hi, hs, Bool.not_true]
theorem same_ss {f : Nat} (a : List (List Nat)) (h : a.length ≤ 1000) (lw : ∀ l ∈ a, Low l) : m_law_same (f + 2) (ssD a) (ssD a) = some (.bl true) := same_l (by rw [List.length_map]; exact h) fun x hx => by
  obtain ⟨l, hl, rfl⟩ := List.mem_map.mp hx
  exact same_s (lw l hl)
theorem same_sss {f : Nat} (a : List (List (List Nat))) (h : a.length ≤ 1000) (h2 : ∀ l ∈ a, l.length ≤ 1000) (lw : ∀ l ∈ a, ∀ s ∈ l, Low s) : m_law_same (f + 3) (sssD a) (sssD a) = some (.bl true) := same_l (by rw [List.length_map]; exact h) fun x hx => by
  obtain ⟨l, hl, rfl⟩ := List.mem_map.mp hx
  exact same_ss l (h2 l hl) (lw l hl)
theorem same_dl {f : Nat} (a : List Nat) (h : a.length ≤ 1000) : m_law_same (f + 2) (dl a) (dl a) = some (.bl true) := same_l (by rw [dns_len]; exact h) fun x hx => by
  obtain ⟨l, _, rfl⟩ := List.mem_map.mp hx
  exact same_n
theorem same_dll {f : Nat} (a : List (List Nat)) (h : a.length ≤ 1000) (h2 : ∀ l ∈ a, l.length ≤ 1000) : m_law_same (f + 3) (dll a) (dll a) = some (.bl true) := same_l (by rw [List.length_map]; exact h) fun x hx => by
  obtain ⟨l, hl, rfl⟩ := List.mem_map.mp hx
  exact same_dl l (h2 l hl)
section
variable {cs : List Nat} {hs : List (List Nat)} {nm : List (List Nat)} {wd : List (List (List Nat))} {v : Nat}
theorem HouseOk.wdm (h : HouseOk cs hs nm wd) : ∀ l ∈ wd, l.length ≤ 3 := fun l hl => by
  obtain ⟨i, hi⟩ := List.getElem?_of_mem hl
  have hil := (List.getElem?_eq_some_iff.mp hi).1
  have := h.wlt (v := i) (by rw [← h.wdl]; exact hil)
  rw [List.getD_eq_getElem?_getD, hi] at this
  exact this
theorem HouseOk.wdo (h : HouseOk cs hs nm wd) : ∀ l ∈ wd, ∀ s ∈ l, NameOk s := fun l hl s hs1 => by
  obtain ⟨i, hi⟩ := List.getElem?_of_mem hl
  have hil := (List.getElem?_eq_some_iff.mp hi).1
  have := (h.wd i (by rw [← h.wdl]; exact hil)).ok s
  rw [List.getD_eq_getElem?_getD, hi] at this
  exact this hs1
theorem HouseOk.hsm (h : HouseOk cs hs nm wd) : ∀ l ∈ hs, l.length ≤ 4 := fun l hl => by
  obtain ⟨i, hi⟩ := List.getElem?_of_mem hl
  have hil := (List.getElem?_eq_some_iff.mp hi).1
  have := h.hlt (v := i) (by rw [← h.shp.len]; exact hil)
  unfold hv at this
  rw [List.getD_eq_getElem?_getD, hi] at this
  exact this
theorem isO_h : dIsO 1 (houseV nm wd hs) = some (.bl true) := rfl
theorem HouseOk.same (h : HouseOk cs hs nm wd) : m_law_same_house (houseV nm wd hs) (.tup [ssD nm, sssD wd, dll hs]) = some (.bl true) := by
  have hi := h.shp.hi
  have s1 : m_law_same 12 (ssD nm) (ssD nm) = some (.bl true) := same_ss nm (by rw [h.nm.len]; omega) fun l hl => (h.nm.ok l hl).low
  have s2 : m_law_same 12 (sssD wd) (sssD wd) = some (.bl true) := same_sss wd (by rw [h.wdl]; omega) (fun l hl => by have := h.wdm l hl; omega) fun l hl s hs => (h.wdo l hl s hs).low
  have s3 : m_law_same 12 (dll hs) (dll hs) = some (.bl true) := same_dll hs (by rw [h.shp.len]; omega) fun l hl => by have := h.hsm l hl; omega
  have g0 : ([ssD nm, sssD wd, dll hs] : List D)[0]? = some (ssD nm) := rfl
  have g1 : ([ssD nm, sssD wd, dll hs] : List D)[1]? = some (sssD wd) := rfl
  have g2 : ([ssD nm, sssD wd, dll hs] : List D)[2]? = some (dll hs) := rfl
  unfold m_law_same_house
  simp -implicitDefEqProofs only [Option.bind_some, Option.map_some, if_true_, if_ff, if_T, if_F, on0_s, on1_s, on2_s, on3_s, on4_s, on5_s, on6_s, asL_l, asL_r, asT_t, asB_b, len_l, len_r, len_t, l_0, l_1, l_2, l_3, l_4, l_5, l_6, l_7, l_8, l_9, l_10, l_11, l_12, l_13, l_14, l_15, l_20, l_21, l_22, l_25, l_26, l_30, l_31, l_32, l_36, l_38, l_40, l_60, l_64, l_70, l_96, l_97, l_100, l_128, l_512, l_7919, int_n, int_i, int_bn, add_n, ix_ln, ix_rn, ix_tn, list_l, list_t, few0, few1, few2, few3, few5, lt_n, gt_n, le_n, eqF_n, neF_n, rng1_m, flT_nx, flT_rt, flF_nx, flE_rt, un2_t, un3_t, tru_l, tru_b, app_n, cap_n, flat_n, flat_bl, optI_n, sl_n, zero_add_, isO_h, Bool.not_true, fldV_n, fldV_w, fldV_h, g0, g1, g2, s1, s2, s3]
/-! the number of ways -/
theorem size2_ok {bs : List Nat} (h : ∀ b ∈ bs, b < 2 ^ 64) : m_size (dl bs) = some (dn (prodN bs)) := by
  unfold m_size
  simp -implicitDefEqProofs only [Option.bind_some, Option.map_some, if_true_, if_ff, if_T, if_F, on0_s, on1_s, on2_s, on3_s, on4_s, on5_s, on6_s, asL_l, asL_r, asT_t, asB_b, len_l, len_r, len_t, l_0, l_1, l_2, l_3, l_4, l_5, l_6, l_7, l_8, l_9, l_10, l_11, l_12, l_13, l_14, l_15, l_20, l_21, l_22, l_25, l_26, l_30, l_31, l_32, l_36, l_38, l_40, l_60, l_64, l_70, l_96, l_97, l_100, l_128, l_512, l_7919, int_n, int_i, int_bn, add_n, ix_ln, ix_rn, ix_tn, list_l, list_t, few0, few1, few2, few3, few5, lt_n, gt_n, le_n, eqF_n, neF_n, rng1_m, flT_nx, flT_rt, flF_nx, flE_rt, un2_t, un3_t, tru_l, tru_b, app_n, cap_n, flat_n, flat_bl, optI_n, sl_n, zero_add_]
  exact bind_of (forS_foldl dn dn (fun a b => a * b) (fun _ => True) (xs := bs) (s := 1) trivial fun s x hx _ => ⟨by simp -implicitDefEqProofs only [Option.bind_some, Option.map_some, if_true_, if_ff, if_T, if_F, on0_s, on1_s, on2_s, on3_s, on4_s, on5_s, on6_s, asL_l, asL_r, asT_t, asB_b, len_l, len_r, len_t, l_0, l_1, l_2, l_3, l_4, l_5, l_6, l_7, l_8, l_9, l_10, l_11, l_12, l_13, l_14, l_15, l_20, l_21, l_22, l_25, l_26, l_30, l_31, l_32, l_36, l_38, l_40, l_60, l_64, l_70, l_96, l_97, l_100, l_128, l_512, l_7919, int_n, int_i, int_bn, add_n, ix_ln, ix_rn, ix_tn, list_l, list_t, few0, few1, few2, few3, few5, lt_n, gt_n, le_n, eqF_n, neF_n, rng1_m, flT_nx, flT_rt, flF_nx, flE_rt, un2_t, un3_t, tru_l, tru_b, app_n, cap_n, flat_n, flat_bl, optI_n, sl_n, zero_add_, mul_n (h x hx)], trivial⟩).1
theorem HouseOk.hb (h : HouseOk cs hs nm wd) (hv1 : v < cs.length) : m_heard_bounds (houseV nm wd hs) (dn v) = some (dl (bnd cs (hv hs v))) := by
  have hl := h.hlt hv1
  unfold m_heard_bounds
  simp -implicitDefEqProofs only [Option.bind_some, Option.map_some, if_true_, if_ff, if_T, if_F, on0_s, on1_s, on2_s, on3_s, on4_s, on5_s, on6_s, asL_l, asL_r, asT_t, asB_b, len_l, len_r, len_t, l_0, l_1, l_2, l_3, l_4, l_5, l_6, l_7, l_8, l_9, l_10, l_11, l_12, l_13, l_14, l_15, l_20, l_21, l_22, l_25, l_26, l_30, l_31, l_32, l_36, l_38, l_40, l_60, l_64, l_70, l_96, l_97, l_100, l_128, l_512, l_7919, int_n, int_i, int_bn, add_n, ix_ln, ix_rn, ix_tn, list_l, list_t, few0, few1, few2, few3, few5, lt_n, gt_n, le_n, eqF_n, neF_n, rng1_m, flT_nx, flT_rt, flF_nx, flE_rt, un2_t, un3_t, tru_l, tru_b, app_n, cap_n, flat_n, flat_bl, optI_n, sl_n, zero_add_, fldV_h, fldV_w, dll_at (hv_get (hs := hs) (v := v) (by rw [h.shp.len]; exact hv1)), capM_s (xs := dns (hv hs v)) (by rw [dns_len]; omega)]
  refine map_of ((compD_dns (fun u => dn (ct cs u)) fun u hu => ?_).trans (by rw [bnd_dns]))
  have hu2 := h.shp.hin hv1 u hu
  simp -implicitDefEqProofs only [Option.bind_some, Option.map_some, if_true_, if_ff, if_T, if_F, on0_s, on1_s, on2_s, on3_s, on4_s, on5_s, on6_s, asL_l, asL_r, asT_t, asB_b, len_l, len_r, len_t, l_0, l_1, l_2, l_3, l_4, l_5, l_6, l_7, l_8, l_9, l_10, l_11, l_12, l_13, l_14, l_15, l_20, l_21, l_22, l_25, l_26, l_30, l_31, l_32, l_36, l_38, l_40, l_60, l_64, l_70, l_96, l_97, l_100, l_128, l_512, l_7919, int_n, int_i, int_bn, add_n, ix_ln, ix_rn, ix_tn, list_l, list_t, few0, few1, few2, few3, few5, lt_n, gt_n, le_n, eqF_n, neF_n, rng1_m, flT_nx, flT_rt, flF_nx, flE_rt, un2_t, un3_t, tru_l, tru_b, app_n, cap_n, flat_n, flat_bl, optI_n, sl_n, zero_add_, lss_at (ls := wd) (i := u) (by rw [h.wdl]; exact hu2), List.length_map, (h.wd u hu2).len]
noncomputable def ansN (cs : List Nat) (hs : List (List Nat)) (n : Nat) : List Nat := (List.range n).foldl (fun s v => s ++ List.replicate (szN cs hs v) (ct cs v)) []
theorem ans_succ (n : Nat) : ansN cs hs (n + 1) = ansN cs hs n ++ List.replicate (szN cs hs n) (ct cs n) := by
  unfold ansN
  rw [List.range_succ, List.foldl_append]; rfl
theorem prod_app (a b : List Nat) : prodN (a ++ b) = prodN a * prodN b := by
  induction a with
  | nil => exact (Nat.one_mul _).symm
  | cons x a ih => rw [List.cons_append, prod_cons, prod_cons, ih, Nat.mul_assoc]
theorem prod_rep (n c : Nat) : prodN (List.replicate n c) = c ^ n := by
  induction n with
  | zero => rfl
  | succ n ih => rw [List.replicate_succ, prod_cons, ih, Nat.pow_succ, Nat.mul_comm]
theorem ans_prod : prodN (ansN cs hs cs.length) = wayN cs hs := by
  have key : ∀ n, prodN (ansN cs hs n) = (List.range n).foldl (fun m v => m * ct cs v ^ szN cs hs v) 1 := fun n => by
    induction n with
    | zero => rfl
    | succ n ih => rw [ans_succ, prod_app, prod_rep, ih, List.range_succ, List.foldl_append]; rfl
  exact key _
theorem rep_fl (c : Nat) : ∀ k : Nat, (List.replicate k [dn c]).flatten = dns (List.replicate k c)
  | 0 => rfl
  | k + 1 => by rw [List.replicate_succ, List.flatten_cons, rep_fl c k]; rfl
theorem rep_0 (xs : List D) (k : Int) : dRep (.lst xs) (.int k) = if -(2 ^ 63) ≤ k ∧ k < 2 ^ 63 ∧ xs.length * k.toNat ≤ 100000 then some (.lst (List.replicate k.toNat xs).flatten) else none := rfl
theorem rep_n (c k : Nat) (h : k ≤ 1000) : dRep (.lst [dn c]) (dn k) = some (dl (List.replicate k c)) := by
  refine (rep_0 [dn c] (k : Int)).trans ?_
  have e : ((k : Nat) : Int).toNat = k := Int.toNat_natCast k
  rw [e, if_pos ⟨by omega, by omega, by rw [show [dn c].length = 1 from rfl]; omega⟩, rep_fl]
theorem HouseOk.ways (h : HouseOk cs hs nm wd) : m_way_count (houseV nm wd hs) = some (dn (wayN cs hs)) := by
  have hi := h.shp.hi
  have e1 : m_answer_bounds (houseV nm wd hs) = some (dl (ansN cs hs cs.length)) := by
    unfold m_answer_bounds
    simp -implicitDefEqProofs only [Option.bind_some, Option.map_some, if_true_, if_ff, if_T, if_F, on0_s, on1_s, on2_s, on3_s, on4_s, on5_s, on6_s, asL_l, asL_r, asT_t, asB_b, len_l, len_r, len_t, l_0, l_1, l_2, l_3, l_4, l_5, l_6, l_7, l_8, l_9, l_10, l_11, l_12, l_13, l_14, l_15, l_20, l_21, l_22, l_25, l_26, l_30, l_31, l_32, l_36, l_38, l_40, l_60, l_64, l_70, l_96, l_97, l_100, l_128, l_512, l_7919, int_n, int_i, int_bn, add_n, ix_ln, ix_rn, ix_tn, list_l, list_t, few0, few1, few2, few3, few5, lt_n, gt_n, le_n, eqF_n, neF_n, rng1_m, flT_nx, flT_rt, flF_nx, flE_rt, un2_t, un3_t, tru_l, tru_b, app_n, cap_n, flat_n, flat_bl, optI_n, sl_n, zero_add_, fldV_n, fldV_w, List.length_map, h.nm.len, rng_s (n := cs.length) (by omega)]
    refine bind_of (forS_dns (s := []) dl (fun s v => s ++ List.replicate (szN cs hs v) (ct cs v)) (fun v s => s.length ≤ 81 * v) (Nat.le_refl _) (fun v s hv1 hs1 => ⟨?_, ?_⟩)).1
    · have sz := h.shp.sz_le hv1
      have e2 : m_size (dl (bnd cs (hv hs v))) = some (dn (szN cs hs v)) := size2_ok fun b hb => by have := h.shp.bnd23 (h.shp.hin hv1) b hb; omega
      have e3 : dExt (dl s) (dl (List.replicate (szN cs hs v) (ct cs v))) = some (dl (s ++ List.replicate (szN cs hs v) (ct cs v))) := by
        show (if (dns s).length + (dns (List.replicate (szN cs hs v) (ct cs v))).length ≤ 100000 then some (D.lst (dns s ++ dns (List.replicate (szN cs hs v) (ct cs v)))) else none) = _
        rw [dns_len, dns_len, List.length_replicate, if_pos (by omega)]
        exact congrArg (fun z => some (D.lst z)) List.map_append.symm
      simp -implicitDefEqProofs only [Option.bind_some, Option.map_some, if_true_, if_ff, if_T, if_F, on0_s, on1_s, on2_s, on3_s, on4_s, on5_s, on6_s, asL_l, asL_r, asT_t, asB_b, len_l, len_r, len_t, l_0, l_1, l_2, l_3, l_4, l_5, l_6, l_7, l_8, l_9, l_10, l_11, l_12, l_13, l_14, l_15, l_20, l_21, l_22, l_25, l_26, l_30, l_31, l_32, l_36, l_38, l_40, l_60, l_64, l_70, l_96, l_97, l_100, l_128, l_512, l_7919, int_n, int_i, int_bn, add_n, ix_ln, ix_rn, ix_tn, list_l, list_t, few0, few1, few2, few3, few5, lt_n, gt_n, le_n, eqF_n, neF_n, rng1_m, flT_nx, flT_rt, flF_nx, flE_rt, un2_t, un3_t, tru_l, tru_b, app_n, cap_n, flat_n, flat_bl, optI_n, sl_n, zero_add_, lss_at (ls := wd) (i := v) (by rw [h.wdl]; exact hv1), List.length_map, (h.wd v hv1).len, h.hb hv1, e2, rep_n (ct cs v) (szN cs hs v) (by omega), e3]
    · have sz := h.shp.sz_le hv1
      rw [List.length_append, List.length_replicate]; omega
  unfold m_way_count
  simp -implicitDefEqProofs only [Option.bind_some, Option.map_some, if_true_, if_ff, if_T, if_F, on0_s, on1_s, on2_s, on3_s, on4_s, on5_s, on6_s, asL_l, asL_r, asT_t, asB_b, len_l, len_r, len_t, l_0, l_1, l_2, l_3, l_4, l_5, l_6, l_7, l_8, l_9, l_10, l_11, l_12, l_13, l_14, l_15, l_20, l_21, l_22, l_25, l_26, l_30, l_31, l_32, l_36, l_38, l_40, l_60, l_64, l_70, l_96, l_97, l_100, l_128, l_512, l_7919, int_n, int_i, int_bn, add_n, ix_ln, ix_rn, ix_tn, list_l, list_t, few0, few1, few2, few3, few5, lt_n, gt_n, le_n, eqF_n, neF_n, rng1_m, flT_nx, flT_rt, flF_nx, flE_rt, un2_t, un3_t, tru_l, tru_b, app_n, cap_n, flat_n, flat_bl, optI_n, sl_n, zero_add_, e1]
  rw [size2_ok, ans_prod]
  have key : ∀ n, n ≤ cs.length → ∀ b ∈ ansN cs hs n, b < 2 ^ 64 := fun n => by
    induction n with
    | zero => intro _ b hb; cases hb
    | succ n ih =>
      intro hn b hb
      rw [ans_succ] at hb
      rcases List.mem_append.mp hb with z | z
      · exact ih (by omega) b z
      · rw [List.eq_of_mem_replicate z]
        have := h.shp.ct23 (v := n) (by omega)
        omega
  exact key _ (Nat.le_refl _)
end
end Oh
namespace Oh
open PySem L2 TL
section
variable {cs : List Nat} {hs : List (List Nat)} {nm : List (List Nat)} {wd : List (List (List Nat))} {v : Nat}
theorem floL_s (a : List (List Nat)) : floL (.l .v) (ssD a) = true := allfl_s a
theorem floL_ss (a : List (List (List Nat))) : floL (.l (.l .v)) (sssD a) = true := by
  show (a.map ssD).all (floL (.l .v)) = true
  rw [List.all_eq_true]
  intro x hx
  obtain ⟨l, _, rfl⟩ := List.mem_map.mp hx
  exact floL_s l
theorem allfl_n : ∀ l : List Nat, (dns l).all flatB = true
  | [] => rfl
  | _ :: l => by show (flatB _ && (dns l).all flatB) = true; rw [allfl_n l]; rfl
theorem floL_dll (a : List (List Nat)) : floL (.l (.l .v)) (dll a) = true := by
  show (a.map dl).all (floL (.l .v)) = true
  rw [List.all_eq_true]
  intro x hx
  obtain ⟨l, _, rfl⟩ := List.mem_map.mp hx
  exact allfl_n l
theorem flo_h : flo (.j none (shF [("heard", .l (.l .v)), ("names", .l .v), ("words", .l (.l .v))])) (houseV nm wd hs) = true := by
  have a1 : flo (.l .v) (ssD nm) = true := allfl_s nm
  have a2 : flo (.l (.l .v)) (sssD wd) = true := by
    show (wd.map ssD).all (flo (.l .v)) = true
    rw [List.all_eq_true]
    intro x hx
    obtain ⟨l, _, rfl⟩ := List.mem_map.mp hx
    exact allfl_s l
  have a3 : flo (.l (.l .v)) (dll hs) = true := by
    show (hs.map dl).all (flo (.l .v)) = true
    rw [List.all_eq_true]
    intro x hx
    obtain ⟨l, _, rfl⟩ := List.mem_map.mp hx
    exact allfl_n l
  show (flo (.l .v) (ssD nm) && (flo (.l (.l .v)) (sssD wd) && (flo (.l (.l .v)) (dll hs) && true))) = true
  rw [a1, a2, a3]; rfl
theorem HouseOk.cnt (h : HouseOk cs hs nm wd) : wd.map (·.length) = cs := by
  apply List.ext_getElem?
  intro i
  by_cases hi : i < cs.length
  · have := (h.wd i hi).len
    rw [List.getElem?_map, ct_get hi, List.getElem?_eq_getElem (by rw [h.wdl]; exact hi)]
    rw [List.getD_eq_getElem?_getD, List.getElem?_eq_getElem (by rw [h.wdl]; exact hi)] at this
    exact congrArg some this
  · rw [List.getElem?_eq_none (by rw [List.length_map, h.wdl]; omega), List.getElem?_eq_none (by omega)]
theorem HouseOk.spoil (h : HouseOk cs hs nm wd) : (m_law_spoil (.lst [ssD nm, sssD wd, dll hs])).isSome = true := by
  have lo := h.shp.lo
  have hi := h.shp.hi
  obtain ⟨w0, wd', ew⟩ : ∃ w0 wd', wd = w0 :: wd' := by
    cases e : wd with
    | nil => have := h.wdl; rw [e] at this; exact absurd this (by show ¬ 0 = _; omega)
    | cons a l => exact ⟨a, l, rfl⟩
  obtain ⟨h0, hs', eh⟩ : ∃ h0 hs', hs = h0 :: hs' := by
    cases e : hs with
    | nil => have := h.shp.len; rw [e] at this; exact absurd this (by show ¬ 0 = _; omega)
    | cons a l => exact ⟨a, l, rfl⟩
  have l1 : (nm.map sD).length < 100000 := by rw [List.length_map, h.nm.len]; omega
  have l2 : (w0.map sD).length < 100000 := by rw [List.length_map]; have := h.wdm w0 (by rw [ew]; exact List.mem_cons_self); omega
  have l3 : (h0.map dn).length < 100000 := by rw [List.length_map]; have := h.hsm h0 (by rw [eh]; exact List.mem_cons_self); omega
  have l4 : wd'.length < 1000 := by have := h.wdl; rw [ew, List.length_cons] at this; omega
  have l5 : hs'.length < 1000 := by have := h.shp.len; rw [eh, List.length_cons] at this; omega
  have fl : floL (.l .v) (.lst [sD (Wd "spoilt")]) = true := rfl
  have fl2 : floL (.l .v) (.lst [dn 0]) = true := rfl
  subst ew eh
  unfold m_law_spoil
  simp -implicitDefEqProofs only [Option.bind_some, Option.map_some, if_true_, if_ff, if_T, if_F, on0_s, on1_s, on2_s, on3_s, on4_s, on5_s, on6_s, asL_l, asL_r, asT_t, asB_b, len_l, len_r, len_t, l_0, l_1, l_2, l_3, l_4, l_5, l_6, l_7, l_8, l_9, l_10, l_11, l_12, l_13, l_14, l_15, l_20, l_21, l_22, l_25, l_26, l_30, l_31, l_32, l_36, l_38, l_40, l_60, l_64, l_70, l_96, l_97, l_100, l_128, l_512, l_7919, int_n, int_i, int_bn, add_n, ix_ln, ix_rn, ix_tn, list_l, list_t, few0, few1, few2, few3, few5, lt_n, gt_n, le_n, eqF_n, neF_n, rng1_m, flT_nx, flT_rt, flF_nx, flE_rt, un2_t, un3_t, tru_l, tru_b, app_n, cap_n, flat_n, flat_bl, optI_n, sl_n, zero_add_, lit_s, flat_s, fl, fl2]
  have s1 : dAppAt (.lst [ssD nm, sssD (w0 :: wd'), dll (h0 :: hs')]) [0] (sD (Wd "spoilt")) = some (.lst [.lst (nm.map sD ++ [sD (Wd "spoilt")]), sssD (w0 :: wd'), dll (h0 :: hs')]) := by
    show ((if (nm.map sD).length < 100000 then some (D.lst (nm.map sD ++ [sD (Wd "spoilt")])) else none).map fun z => D.lst [z, sssD (w0 :: wd'), dll (h0 :: hs')]) = _
    rw [if_pos l1]; rfl
  rw [s1]
  generalize D.lst (nm.map sD ++ [sD (Wd "spoilt")]) = a0
  have s2 : dAppAt (.lst [a0, sssD (w0 :: wd'), dll (h0 :: hs')]) [1, 0] (sD (Wd "spoilt")) = some (.lst [a0, .lst (.lst (w0.map sD ++ [sD (Wd "spoilt")]) :: wd'.map ssD), dll (h0 :: hs')]) := by
    show ((((if (w0.map sD).length < 100000 then some (D.lst (w0.map sD ++ [sD (Wd "spoilt")])) else none).map fun z => D.lst (z :: wd'.map ssD))).map fun z => D.lst [a0, z, dll (h0 :: hs')]) = _
    rw [if_pos l2]; rfl
  show ((dAppAt (.lst [a0, sssD (w0 :: wd'), dll (h0 :: hs')]) [1, 0] (sD (Wd "spoilt"))).bind _).isSome = true
  rw [s2]
  generalize D.lst (w0.map sD ++ [sD (Wd "spoilt")]) = a1
  have s3 : ∀ y, dAppAt (.lst [a0, .lst (a1 :: wd'.map ssD), dll (h0 :: hs')]) [1] y = some (.lst [a0, .lst (a1 :: wd'.map ssD ++ [y]), dll (h0 :: hs')]) := fun y => by
    show ((if (a1 :: wd'.map ssD).length < 100000 then some (D.lst (a1 :: wd'.map ssD ++ [y])) else none).map fun z => D.lst [a0, z, dll (h0 :: hs')]) = _
    rw [if_pos (by rw [List.length_cons, List.length_map]; omega)]; rfl
  show ((dAppAt (.lst [a0, .lst (a1 :: wd'.map ssD), dll (h0 :: hs')]) [1] _).bind _).isSome = true
  rw [s3]
  generalize D.lst (a1 :: wd'.map ssD ++ [_]) = a2
  have s4 : dAppAt (.lst [a0, a2, dll (h0 :: hs')]) [2, 0] (dn 0) = some (.lst [a0, a2, .lst (.lst (h0.map dn ++ [dn 0]) :: hs'.map dl)]) := by
    show ((((if (h0.map dn).length < 100000 then some (D.lst (h0.map dn ++ [dn 0])) else none).map fun z => D.lst (z :: hs'.map dl))).map fun z => D.lst [a0, a2, z]) = _
    rw [if_pos l3]; rfl
  show ((dAppAt (.lst [a0, a2, dll (h0 :: hs')]) [2, 0] (dn 0)).bind _).isSome = true
  rw [s4]
  generalize D.lst (h0.map dn ++ [dn 0]) = a3
  have s5 : ∀ y, dAppAt (.lst [a0, a2, .lst (a3 :: hs'.map dl)]) [2] y = some (.lst [a0, a2, .lst (a3 :: hs'.map dl ++ [y])]) := fun y => by
    show ((if (a3 :: hs'.map dl).length < 100000 then some (D.lst (a3 :: hs'.map dl ++ [y])) else none).map fun z => D.lst [a0, a2, z]) = _
    rw [if_pos (by rw [List.length_cons, List.length_map]; omega)]; rfl
  show ((dAppAt (.lst [a0, a2, .lst (a3 :: hs'.map dl)]) [2] _).bind _).isSome = true
  rw [s5]; rfl
theorem joinL_len : ∀ W : List (List Nat), (joinL [32] W).length ≤ (W.map (·.length)).sum + W.length
  | [] => Nat.zero_le _
  | [p] => by show p.length ≤ (p.length + 0) + 1; omega
  | p :: q :: r => by
    have := joinL_len (q :: r)
    show (p ++ ([32] ++ joinL [32] (q :: r))).length ≤ (p.length + ((q :: r).map (·.length)).sum) + ((q :: r).length + 1)
    rw [List.length_append, List.length_append]
    show p.length + (1 + _) ≤ _
    omega
theorem int_ok {a : Nat} : m_law_is_integer (dn a) = some (.bl true) := by
  have b2 : dIsi .int (dn a) = some (.bl true) := rfl
  have b1 : dIsi .bool (dn a) = some (.bl false) := rfl
  unfold m_law_is_integer
  simp -implicitDefEqProofs only [Option.bind_some, Option.map_some, if_true_, if_ff, if_T, if_F, on0_s, on1_s, on2_s, on3_s, on4_s, on5_s, on6_s, asL_l, asL_r, asT_t, asB_b, len_l, len_r, len_t, l_0, l_1, l_2, l_3, l_4, l_5, l_6, l_7, l_8, l_9, l_10, l_11, l_12, l_13, l_14, l_15, l_20, l_21, l_22, l_25, l_26, l_30, l_31, l_32, l_36, l_38, l_40, l_60, l_64, l_70, l_96, l_97, l_100, l_128, l_512, l_7919, int_n, int_i, int_bn, add_n, ix_ln, ix_rn, ix_tn, list_l, list_t, few0, few1, few2, few3, few5, lt_n, gt_n, le_n, eqF_n, neF_n, rng1_m, flT_nx, flT_rt, flF_nx, flE_rt, un2_t, un3_t, tru_l, tru_b, app_n, cap_n, flat_n, flat_bl, optI_n, sl_n, zero_add_, b2, b1, Bool.not_false]
theorem words_ne : wordsN nm wd hs cs.length ≠ [] := by
  unfold wordsN
  simp
theorem law3_ok (ns : List Int) : m_law (.rol (dis ns)) = some (.bl true) := by
  obtain ⟨r, eh, cs, hs, nm, wd, e, h, wl⟩ := house_ok ns 0 512 (by decide)
  subst e
  have hi := h.shp.hi
  obtain ⟨r, er, xs, e, hl, _⟩ := rowN_ok ns 8 8 (by decide)
  subst e
  obtain ⟨t, et, l, e, el⟩ := spaced_ok (W := wordsN nm wd hs cs.length) hl (fun s hs1 => h.words_all s hs1) h.words_le
  subst e
  have c1 : capM (wd.map ssD) = some (wd.map ssD) := capM_s (by rw [List.length_map, h.wdl]; omega)
  have c2 : capM (hs.map dl) = some (hs.map dl) := capM_s (by rw [List.length_map, h.shp.len]; omega)
  have e1 : compD (fun c_5 => Option.map some (dList c_5)) (wd.map ssD) = some (wd.map ssD) := compD_map ssD ssD fun c _ => rfl
  have e2 : compD (fun c_5 => Option.map some (dList c_5)) (hs.map dl) = some (hs.map dl) := compD_map dl dl fun c _ => rfl
  have g0 : ([ssD nm, sssD wd, dll hs] : List D)[0]? = some (ssD nm) := rfl
  have g1 : ([ssD nm, sssD wd, dll hs] : List D)[1]? = some (sssD wd) := rfl
  have g2 : ([ssD nm, sssD wd, dll hs] : List D)[2]? = some (dll hs) := rfl
  have m1 := mk_ok (nm := nm) (wd := wd) (hs := hs) (by rw [h.wdl]; omega) (by rw [h.shp.len]; omega)
  unfold m_law
  simp -implicitDefEqProofs only [Option.bind_some, Option.map_some, if_true_, if_ff, if_T, if_F, on0_s, on1_s, on2_s, on3_s, on4_s, on5_s, on6_s, asL_l, asL_r, asT_t, asB_b, len_l, len_r, len_t, l_0, l_1, l_2, l_3, l_4, l_5, l_6, l_7, l_8, l_9, l_10, l_11, l_12, l_13, l_14, l_15, l_20, l_21, l_22, l_25, l_26, l_30, l_31, l_32, l_36, l_38, l_40, l_60, l_64, l_70, l_96, l_97, l_100, l_128, l_512, l_7919, int_n, int_i, int_bn, add_n, ix_ln, ix_rn, ix_tn, list_l, list_t, few0, few1, few2, few3, few5, lt_n, gt_n, le_n, eqF_n, neF_n, rng1_m, flT_nx, flT_rt, flF_nx, flE_rt, un2_t, un3_t, tru_l, tru_b, app_n, cap_n, flat_n, flat_bl, optI_n, sl_n, zero_add_, eh, lit_s, sp_lit, h.lwords, h.join, floL_s, floL_ss, floL_dll, c1, c2, e1, e2, g0, g1, g2, m1, flo_h, h.spoil, h.same, Bool.not_true]
  have e5 : compD (fun c_59 => Option.map some (dLen c_59)) (wd.map ssD) = some (dns cs) := by
    refine (compD_map ssD (fun w => dn w.length) fun w _ => by simp -implicitDefEqProofs only [Option.bind_some, Option.map_some, if_true_, if_ff, if_T, if_F, on0_s, on1_s, on2_s, on3_s, on4_s, on5_s, on6_s, asL_l, asL_r, asT_t, asB_b, len_l, len_r, len_t, l_0, l_1, l_2, l_3, l_4, l_5, l_6, l_7, l_8, l_9, l_10, l_11, l_12, l_13, l_14, l_15, l_20, l_21, l_22, l_25, l_26, l_30, l_31, l_32, l_36, l_38, l_40, l_60, l_64, l_70, l_96, l_97, l_100, l_128, l_512, l_7919, int_n, int_i, int_bn, add_n, ix_ln, ix_rn, ix_tn, list_l, list_t, few0, few1, few2, few3, few5, lt_n, gt_n, le_n, eqF_n, neF_n, rng1_m, flT_nx, flT_rt, flF_nx, flE_rt, un2_t, un3_t, tru_l, tru_b, app_n, cap_n, flat_n, flat_bl, optI_n, sl_n, zero_add_, List.length_map]).trans ?_
    rw [show (wd.map fun w => dn w.length) = (wd.map (·.length)).map dn by rw [List.map_map]; rfl, h.cnt]
  have hp1 : m_parse_house (sD (joinL [32] (wordsN nm wd hs cs.length))) = some (houseV nm wd hs) := by
    refine h.parse ?_ wl h.ways
    have h1 := joinL_len (wordsN nm wd hs cs.length)
    have h2 := joined_le fun s hs1 => word_len (h.words_all s hs1)
    have h3 := h.words_le
    rw [reader_ok (by omega), fil_join (fun s hs1 => h.words_all s hs1) words_ne]
  have hp2 : m_parse_house (sD l) = some (houseV nm wd hs) := h.parse el wl h.ways
  simp -implicitDefEqProofs only [Option.bind_some, Option.map_some, if_true_, if_ff, if_T, if_F, on0_s, on1_s, on2_s, on3_s, on4_s, on5_s, on6_s, asL_l, asL_r, asT_t, asB_b, len_l, len_r, len_t, l_0, l_1, l_2, l_3, l_4, l_5, l_6, l_7, l_8, l_9, l_10, l_11, l_12, l_13, l_14, l_15, l_20, l_21, l_22, l_25, l_26, l_30, l_31, l_32, l_36, l_38, l_40, l_60, l_64, l_70, l_96, l_97, l_100, l_128, l_512, l_7919, int_n, int_i, int_bn, add_n, ix_ln, ix_rn, ix_tn, list_l, list_t, few0, few1, few2, few3, few5, lt_n, gt_n, le_n, eqF_n, neF_n, rng1_m, flT_nx, flT_rt, flF_nx, flE_rt, un2_t, un3_t, tru_l, tru_b, app_n, cap_n, flat_n, flat_bl, optI_n, sl_n, zero_add_, e5, h.ways, int_ok, Bool.not_true, h.shp.count, decide_eq_true, List.length_map, h.nm.len, rng_s (n := cs.length) (by omega)]
  refine (bind_of (forF_unit fun x hx => ?_)).trans ?_
  · obtain ⟨v, hv1, rfl⟩ := List.mem_map.mp hx
    have hv1 := List.mem_range.mp hv1
    have hl4 := h.hlt hv1
    have e6 : compD (fun c_88 => Option.map some (dIx (dl cs) c_88)) (dns (hv hs v)) = some (dns (bnd cs (hv hs v))) := (compD_dns (fun u => dn (ct cs u)) fun u hu => by simp -implicitDefEqProofs only [Option.bind_some, Option.map_some, if_true_, if_ff, if_T, if_F, on0_s, on1_s, on2_s, on3_s, on4_s, on5_s, on6_s, asL_l, asL_r, asT_t, asB_b, len_l, len_r, len_t, l_0, l_1, l_2, l_3, l_4, l_5, l_6, l_7, l_8, l_9, l_10, l_11, l_12, l_13, l_14, l_15, l_20, l_21, l_22, l_25, l_26, l_30, l_31, l_32, l_36, l_38, l_40, l_60, l_64, l_70, l_96, l_97, l_100, l_128, l_512, l_7919, int_n, int_i, int_bn, add_n, ix_ln, ix_rn, ix_tn, list_l, list_t, few0, few1, few2, few3, few5, lt_n, gt_n, le_n, eqF_n, neF_n, rng1_m, flT_nx, flT_rt, flF_nx, flE_rt, un2_t, un3_t, tru_l, tru_b, app_n, cap_n, flat_n, flat_bl, optI_n, sl_n, zero_add_, dns_at (ct_get (h.shp.hin hv1 u hu))]).trans (by rw [bnd_dns])
    have e7 : m_law_same 12 (dl (bnd cs (hv hs v))) (dl (bnd cs (hv hs v))) = some (.bl true) := same_dl _ (by rw [bnd_len]; omega)
    simp -implicitDefEqProofs only [Option.bind_some, Option.map_some, if_true_, if_ff, if_T, if_F, on0_s, on1_s, on2_s, on3_s, on4_s, on5_s, on6_s, asL_l, asL_r, asT_t, asB_b, len_l, len_r, len_t, l_0, l_1, l_2, l_3, l_4, l_5, l_6, l_7, l_8, l_9, l_10, l_11, l_12, l_13, l_14, l_15, l_20, l_21, l_22, l_25, l_26, l_30, l_31, l_32, l_36, l_38, l_40, l_60, l_64, l_70, l_96, l_97, l_100, l_128, l_512, l_7919, int_n, int_i, int_bn, add_n, ix_ln, ix_rn, ix_tn, list_l, list_t, few0, few1, few2, few3, few5, lt_n, gt_n, le_n, eqF_n, neF_n, rng1_m, flT_nx, flT_rt, flF_nx, flE_rt, un2_t, un3_t, tru_l, tru_b, app_n, cap_n, flat_n, flat_bl, optI_n, sl_n, zero_add_, h.hb hv1, dll_at (hv_get (hs := hs) (v := v) (by rw [h.shp.len]; exact hv1)), capM_s (xs := dns (hv hs v)) (by rw [dns_len]; omega), e6, e7, Bool.not_true]
  · show Option.bind (m_format_house (houseV nm wd hs)) _ = _
    simp -implicitDefEqProofs only [Option.bind_some, Option.map_some, if_true_, if_ff, if_T, if_F, on0_s, on1_s, on2_s, on3_s, on4_s, on5_s, on6_s, asL_l, asL_r, asT_t, asB_b, len_l, len_r, len_t, l_0, l_1, l_2, l_3, l_4, l_5, l_6, l_7, l_8, l_9, l_10, l_11, l_12, l_13, l_14, l_15, l_20, l_21, l_22, l_25, l_26, l_30, l_31, l_32, l_36, l_38, l_40, l_60, l_64, l_70, l_96, l_97, l_100, l_128, l_512, l_7919, int_n, int_i, int_bn, add_n, ix_ln, ix_rn, ix_tn, list_l, list_t, few0, few1, few2, few3, few5, lt_n, gt_n, le_n, eqF_n, neF_n, rng1_m, flT_nx, flT_rt, flF_nx, flE_rt, un2_t, un3_t, tru_l, tru_b, app_n, cap_n, flat_n, flat_bl, optI_n, sl_n, zero_add_, h.format, isi_s, Bool.not_true, neF_s, decide_eq_true, er, et]
    refine (bind_of (forF_unit fun x hx => ?_)).trans rfl
    rcases List.mem_cons.mp hx with z | z
    · subst z
      simp -implicitDefEqProofs only [Option.bind_some, Option.map_some, if_true_, if_ff, if_T, if_F, on0_s, on1_s, on2_s, on3_s, on4_s, on5_s, on6_s, asL_l, asL_r, asT_t, asB_b, len_l, len_r, len_t, l_0, l_1, l_2, l_3, l_4, l_5, l_6, l_7, l_8, l_9, l_10, l_11, l_12, l_13, l_14, l_15, l_20, l_21, l_22, l_25, l_26, l_30, l_31, l_32, l_36, l_38, l_40, l_60, l_64, l_70, l_96, l_97, l_100, l_128, l_512, l_7919, int_n, int_i, int_bn, add_n, ix_ln, ix_rn, ix_tn, list_l, list_t, few0, few1, few2, few3, few5, lt_n, gt_n, le_n, eqF_n, neF_n, rng1_m, flT_nx, flT_rt, flF_nx, flE_rt, un2_t, un3_t, tru_l, tru_b, app_n, cap_n, flat_n, flat_bl, optI_n, sl_n, zero_add_, hp1, h.same, Bool.not_true, h.format, neF_s, decide_eq_true]
    · rw [List.mem_singleton.mp z]
      simp -implicitDefEqProofs only [Option.bind_some, Option.map_some, if_true_, if_ff, if_T, if_F, on0_s, on1_s, on2_s, on3_s, on4_s, on5_s, on6_s, asL_l, asL_r, asT_t, asB_b, len_l, len_r, len_t, l_0, l_1, l_2, l_3, l_4, l_5, l_6, l_7, l_8, l_9, l_10, l_11, l_12, l_13, l_14, l_15, l_20, l_21, l_22, l_25, l_26, l_30, l_31, l_32, l_36, l_38, l_40, l_60, l_64, l_70, l_96, l_97, l_100, l_128, l_512, l_7919, int_n, int_i, int_bn, add_n, ix_ln, ix_rn, ix_tn, list_l, list_t, few0, few1, few2, few3, few5, lt_n, gt_n, le_n, eqF_n, neF_n, rng1_m, flT_nx, flT_rt, flF_nx, flE_rt, un2_t, un3_t, tru_l, tru_b, app_n, cap_n, flat_n, flat_bl, optI_n, sl_n, zero_add_, hp2, h.same, Bool.not_true, h.format, neF_s, decide_eq_true]
end
end Oh
namespace Oh
theorem main_law : ∀ ns : List Int, ns.length ≤ 63 → m_law (.rol (ns.map D.int)) = some (.bl true) := fun ns _ => law3_ok ns
end Oh
open PySem PySem.W PyProof.Rows
set_option maxRecDepth 100000 in
set_option maxHeartbeats 0 in
theorem PySem.Challenge.cw_otherhow_k03_house_text_back_holds : PySem.Challenge.rw_otherhow_k03_house_text_back.Holds := by
  w_on; o_law
  refine HandSHeadRun.head_imp (r := OpenLaw.row PySem.Challenge.rw_otherhow_k03_house_text_back) (q := Hd.q) (H := Hd.hk) (ob := Hd.ob) (M := 20000) (loose := []) (d := HandSHeadRun.topDef (OpenLaw.row PySem.Challenge.rw_otherhow_k03_house_text_back).prog 39) (kwd := []) Hd.ob_eq Hd.run (by kernel_rfl) (by kernel_rfl) (by kernel_rfl) (by rfl) (by first | assumption | decide +kernel) (by decide +kernel) ⟨rfl, rfl, rfl, rfl, rfl, by decide +kernel⟩ ?hw ?hc
  case hw => w_witness2
  case hc =>
    refine LamX.walk_ofTsE (l := PySem.Challenge.rw_otherhow_k03_house_text_back) (n := 63) (k := 16) (x := "script") (CX := fun _ => L2.CX0) rfl (by decide) (by kernel_rfl) ⟨rfl, by decide, by decide⟩ ?F (fun _ _ _ _ _ h => h)
    intro w mg fa h Y G hmg0
    obtain ⟨K, KX, c⟩ := Y
    have hmg : mg ("law" : PySem.Str) = some (.ref fa) := by
      have e : (HandSHeadRun.topDef (OpenLaw.row PySem.Challenge.rw_otherhow_k03_house_text_back).prog 39).name = ("law" : PySem.Str) := by kernel_rfl
      rw [← e]
      exact hmg0
    exact ⟨K, KX, Oh.all_facts KX G hmg c Oh.main_law⟩
