import PyProof.Rows.All
import Wide.All
import OpenK.AllK
import Wide.FinOn
import HandS.Words
import HandS.Small
import HandS.HeadHook4
import HandS.HeadWalk
import HandS.Head0
import HandS.Head1
import HandS.Head2
import HandS.ForMost
import HandS.ForExc
import HandS.ExcCtx
import HandS.HotCalls
import HandS.ExcIs
import HandS.IsInst
import HandS.Lambda
import HandS.EndTab
import HandS.TupAny
import HandS.Conv
import HandS.Wide
import HandS.Style
import KE.GoesEnum
import KE.KDictPairs
import HandS.ExcInit
import KE.KExcSuper
import KE.KSuper
import HandS.ExcOwn
import HandS.OwnEq
import HandS.GenList
import HandS.Iter
import PyProof.GenArm
import PyProof.GenComp
import HandS.AnyAll
import PyProof.TupleOfGen
import HandS.CallLocal
import HandS.Codes
import HandS.NoneIn
import HandS.Star
import HandS.ExcField
import HandS.FStr
import HandS.More
import KE.KExcIs
import HandS.Text
import HandS.RaiseMore
import HandS.SetFor
import HandS.Flow
import HandS.Walk
import HandS.DictComp
import KE.KUnpackStar
import PySem.Challenge.RW_stillcopy_k18_written_and_read
set_option Elab.async false
set_option linter.all false
set_option maxRecDepth 100000
set_option maxHeartbeats 2000000
namespace S02
open PySem PySem.Spec PyProof.Rows L2 LamX
def top (i : Nat) : Stmt := PySem.Challenge.pw_stillcopy_k18_written_and_read.main.body.getD i (.Pass ⟨0, 0, 0, 0⟩)
abbrev s_within : Stmt := top 27
abbrev s_check_hand : Stmt := top 30
abbrev s_check_key : Stmt := top 31
abbrev s_is_deed : Stmt := top 32
abbrev s_check_deal : Stmt := top 33
abbrev s_is_shown : Stmt := top 34
abbrev s_shown_worth : Stmt := top 35
abbrev s_put_row : Stmt := top 36
abbrev s_drop_row : Stmt := top 37
abbrev s_add_to_row : Stmt := top 38
abbrev s_does_show : Stmt := top 39
abbrev s_rows_behind : Stmt := top 41
abbrev s_check_deals : Stmt := top 45
abbrev s_written_deed : Stmt := top 46
abbrev s_written_row : Stmt := top 47
abbrev s_written : Stmt := top 48
abbrev s_read_number : Stmt := top 49
abbrev s_read_last : Stmt := top 50
abbrev s_read_deed : Stmt := top 51
abbrev s_read_row : Stmt := top 52
abbrev s_read_deals : Stmt := top 53
abbrev s_is_too_heavy : Stmt := top 57
abbrev s_check_block : Stmt := top 58
abbrev s_entry_block : Stmt := top 70
abbrev s_page_block : Stmt := top 71
abbrev s_begun : Stmt := top 76
abbrev s_take : Stmt := top 77
abbrev s_alike : Stmt := top 78
abbrev s_class : Stmt := top 79
abbrev s_refused : Stmt := top 80
abbrev s_all : Stmt := top 81
abbrev s_store : Stmt := top 82
abbrev s_again : Stmt := top 83
abbrev s_seen : Stmt := top 84
abbrev s_tried : Stmt := top 85
abbrev s_deal : Stmt := top 86
abbrev s_whole : Stmt := top 87
abbrev s_deed : Stmt := top 88
abbrev s_drawn : Stmt := top 89
abbrev s_deals : Stmt := top 90
abbrev s_text : Stmt := top 91
abbrev s_dealt : Stmt := top 92
abbrev s_law : Stmt := top 93
abbrev s_BadDeal___init__ : Stmt := inClass (top 3) 0
abbrev s_Behind___init__ : Stmt := inClass (top 10) 0
abbrev s_BadText___init__ : Stmt := inClass (top 13) 0
abbrev s_Disk___init__ : Stmt := inClass (top 59) 0
abbrev s_Disk_write : Stmt := inClass (top 59) 1
abbrev s_Disk_settle : Stmt := inClass (top 59) 2
abbrev s_Disk_read : Stmt := inClass (top 59) 3
abbrev s_Disk_arm : Stmt := inClass (top 59) 4
abbrev s_Disk_stop : Stmt := inClass (top 59) 5
abbrev s_Disk_again : Stmt := inClass (top 59) 6
abbrev s_Disk_settled : Stmt := inClass (top 59) 7
abbrev s_Disk_check_running : Stmt := inClass (top 59) 8
abbrev s_Disk_count_deed : Stmt := inClass (top 59) 9
abbrev s_Copy___init__ : Stmt := inClass (top 61) 0
abbrev s_Copy_page_of : Stmt := inClass (top 61) 1
abbrev s_Copy_follow : Stmt := inClass (top 61) 2
abbrev s_Copy_let_go : Stmt := inClass (top 61) 3
abbrev s_Shelf___init__ : Stmt := inClass (top 62) 0
abbrev s_Shelf_begin : Stmt := inClass (top 62) 1
abbrev s_Shelf_find_copy : Stmt := inClass (top 62) 2
abbrev s_Shelf_read_out : Stmt := inClass (top 62) 3
abbrev s_Shelf_give_up : Stmt := inClass (top 62) 4
abbrev s_Shelf_follow : Stmt := inClass (top 62) 5
abbrev s_Shelf_listed : Stmt := inClass (top 62) 6
abbrev s_Shelf_count_aside : Stmt := inClass (top 62) 7
abbrev s_Table___init__ : Stmt := inClass (top 64) 0
abbrev s_Table_twin : Stmt := inClass (top 64) 1
abbrev s_Table_take : Stmt := inClass (top 64) 2
abbrev s_Table_take_deal : Stmt := inClass (top 64) 3
abbrev s_Table_told_of : Stmt := inClass (top 64) 4
abbrev s_Table_told_whole : Stmt := inClass (top 64) 5
abbrev s_Table_last_letter : Stmt := inClass (top 64) 6
abbrev s_Table_page_rows : Stmt := inClass (top 64) 7
abbrev s_Table_hand_rows : Stmt := inClass (top 64) 8
abbrev s_Table_kept : Stmt := inClass (top 64) 9
abbrev s_Table_shown : Stmt := inClass (top 64) 10
abbrev s_Table_unlike : Stmt := inClass (top 64) 11
abbrev s_Table_fill : Stmt := inClass (top 64) 12
abbrev s_Table_shed : Stmt := inClass (top 64) 13
abbrev s_Store___init__ : Stmt := inClass (top 72) 0
abbrev s_Store_claim : Stmt := inClass (top 72) 1
abbrev s_Store_put : Stmt := inClass (top 72) 2
abbrev s_Store_check_held : Stmt := inClass (top 72) 3
abbrev s_Store_write_root : Stmt := inClass (top 72) 4
abbrev s_Store_stored_table : Stmt := inClass (top 72) 5
abbrev s_Store_last_entries : Stmt := inClass (top 72) 6
abbrev s_Store_put_aside : Stmt := inClass (top 72) 7
abbrev s_Store_gathered_pages : Stmt := inClass (top 72) 8
abbrev s_Lead___init__ : Stmt := inClass (top 74) 0
abbrev s_Lead_known : Stmt := inClass (top 74) 1
abbrev s_Lead_clock : Stmt := inClass (top 74) 2
abbrev s_Lead_deals : Stmt := inClass (top 74) 3
abbrev s_Lead_deal : Stmt := inClass (top 74) 4
abbrev s_Lead_tick : Stmt := inClass (top 74) 5
abbrev s_Lead_read : Stmt := inClass (top 74) 6
abbrev s_Lead_whole : Stmt := inClass (top 74) 7
abbrev s_Lead_tidy : Stmt := inClass (top 74) 8
abbrev s_Lead_kept_rows : Stmt := inClass (top 74) 9
abbrev s_Lead_copy : Stmt := inClass (top 74) 10
abbrev s_Lead_read_page : Stmt := inClass (top 74) 11
abbrev s_Lead_close : Stmt := inClass (top 74) 12
abbrev s_Lead_open_copies : Stmt := inClass (top 74) 13
abbrev s_Lead_room : Stmt := inClass (top 74) 14
abbrev s_Lead_letters : Stmt := inClass (top 74) 15
abbrev s_Lead_heard : Stmt := inClass (top 74) 16
abbrev s_Lead_check_house : Stmt := inClass (top 74) 17
abbrev s_Lead_check_group : Stmt := inClass (top 74) 18
abbrev s_Lead_change_over : Stmt := inClass (top 74) 19
end S02

set_option Elab.async false
set_option linter.all false
set_option maxRecDepth 100000
set_option maxHeartbeats 2000000
/-! ### what the head tells beside names, as Boolean facts -/
namespace S02
open PySem PySem.Spec PyProof.Rows L2 LamX
section
variable {K : PySem.W.Frag}
def itsOf (K : PySem.W.Frag) (a : Addr) : Option (List Value) := match K.lookup a with
  | some ⟨.type c, _, .seq its _, _⟩ => (if c = "tuple" ∧ its.size ≤ 1000 then some its.toList else none)
  | _ => none
def prB (K : PySem.W.Frag) (v : Value) (p : Int × Int) : Bool := match v with
  | .ref a => (match itsOf K a with
    | some [.int i _, .int j _] => decide (i = p.1) && decide (j = p.2)
    | _ => false)
  | _ => false
def prsB (K : PySem.W.Frag) : List Value → List (Int × Int) → Bool
  | [], [] => true
  | v :: vs, p :: ps => prB K v p && prsB K vs ps
  | _, _ => false
def bdB (K : PySem.W.Frag) (b : Addr) (l : List (Int × Int)) : Bool := match itsOf K b with
  | some vs => prsB K vs l
  | none => false
def vA (K : PySem.W.Frag) (B : Addr) (x : Str) : Addr := match PySem.W.nsIn K B x with
  | some (some (.ref a)) => a
  | _ => 0
def isA (K : PySem.W.Frag) (B : Addr) (x : Str) (a : Addr) : Bool := decide (PySem.W.nsIn K B x = some (some (.ref a)))
abbrev gB (K : PySem.W.Frag) : Addr := He.ga K "BOUNDS"
abbrev gC (K : PySem.W.Frag) : Addr := He.ga K "ACTIONS"
abbrev gX (K : PySem.W.Frag) (c : Str) : Addr := He.ga K c
abbrev gI (K : PySem.W.Frag) (c : Str) : Addr := He.ma K (gX K c) "__init__"
def boundsB (K : PySem.W.Frag) (x : Str) (l : List (Int × Int)) : Bool := isA K (gB K) x (vA K (gB K) x) && bdB K (vA K (gB K) x) l
abbrev FnY1 : Type := Option (Str × Str × Arguments × FuncBody × Scope × Addr × List Str × Value × Addr)
def fnY1 (K : PySem.W.Frag) (c : Str) : FnY1 := match K.lookup (gI K c) with
  | some ⟨_, _, .func f, _⟩ => some (f.name, f.qualname, f.params, f.body, f.scope, f.globals, f.closure.map (·.1), f.defaults, f.builtins)
  | _ => none
def cellB (K : PySem.W.Frag) (cn : Str) (l : List (Str × Addr)) : Bool := match l with
  | [(_, c)] => (match K.lookup c with
    | some ⟨_, _, .cell (some (.ref D)), _⟩ => decide (D = gX K cn)
    | _ => false)
  | _ => false
def fileB (K : PySem.W.Frag) (c : Value) : Bool := match c with
  | .ref a => (match K.lookup a with
    | some ⟨_, _, .fields vs, _⟩ => (match (vs[2]? : Option Value) with
      | some (Value.str file _) => ("/claim/cut.py" : Str) == file
      | _ => false)
    | _ => false)
  | _ => false
def funB (K : PySem.W.Frag) (c q : Str) : Bool := match K.lookup (gI K c) with
  | some ⟨_, _, .func f, _⟩ => cellB K c f.closure && (PySem.W.codeIn K f.code q && fileB K f.code)
  | _ => false
def initB (K : PySem.W.Frag) (c q : Str) : Bool := funB K c q && (decide (PySem.W.findIn K (.ref (gX K c)) "__init__" = some (some (.ref (gI K c)))) && decide (PySem.W.typeIn K (.ref (gI K c)) = some (.type "function")))
def slB (l : List (Option Value)) : Bool := match l with
  | [_, _, _, _, some (Value.builtin n), _] => decide (n = "ValueError.__new__")
  | _ => false
def mroB (C : Addr) (l : List Value) : Bool := match l with
  | .ref D :: bm => decide (D = C) && PySem.HandSPX.refsVE bm
  | _ => false
def cdB (C : Addr) (cd : ClassData) (sl : Array (Option Value)) : Bool := mroB C cd.mro && (cd.hasDict && (!cd.hasDel && slB sl.toList))
def clO (K : PySem.W.Frag) (C : Addr) : Bool := match K.lookup C with
  | some ⟨.type t, _, .cls cd, sl⟩ => decide (t = "type") && cdB C cd sl
  | _ => false
def oexB (K : PySem.W.Frag) (C : Addr) : Bool := clO K C && (decide (PySem.W.findIn K (.ref C) "__setattr__" = some (some (.builtin "object.__setattr__"))) && (decide (PySem.W.subIn K (.ref C) (.type "BaseException") = some true) && (decide (PySem.W.typeIn K (.ref C) = some (.type "type")) && PySem.W.keepIn K (.ref C))))
def clsB (K : PySem.W.Frag) (c n : Str) : Bool := oexB K (gX K c) && (decide (PySem.W.mroIn K (gX K c) (.ref (gX K c)) = some true) && (decide (PySem.W.ks_superIn K (gX K c) (gX K c) "__init__" = some (some (.builtin "ValueError.__init__"))) &&
  (decide (PySem.W.subIn K (.ref (gX K c)) (.type "ValueError") = some true) && (decide (PySem.W.nsIn K PySem.cStatics "thirdparty.any" = some none) && decide (PySem.W.findIn K (.ref (gX K c)) n = some none)))))
abbrev gN (K : PySem.W.Frag) : Addr := He.ga K "NEW_ROOT"
def z9B : List Value → Nat → Bool
  | [], 0 => true
  | .int i _ :: vs, n + 1 => decide (i = 0) && z9B vs n
  | _, _ => false
def plB (K : PySem.W.Frag) (p : Addr) : Bool := match itsOf K p with
  | some vs => z9B vs 9
  | none => false
def pAt (K : PySem.W.Frag) : Addr := match itsOf K (gN K) with
  | some [_, _, .ref p] => p
  | _ => 0
def rtB (K : PySem.W.Frag) : Bool := match itsOf K (gN K) with
  | some [.int i _, .int j _, .ref p] => decide (i = 0) && (decide (j = 0) && decide (p = pAt K))
  | _ => false
def newB (K : PySem.W.Frag) : Bool := rtB K && plB K (pAt K)
def icl : List (Str × Str × Str) := [("BadDeal", "BadDeal.__init__", "place")]
abbrev FnY : Type := List FnY1
def fnY (K : PySem.W.Frag) : FnY := icl.map fun p => fnY1 K p.1
def iniB (K : PySem.W.Frag) : Bool := icl.all fun p => initB K p.1 p.2.1 && clsB K p.1 p.2.2
def excB (K : PySem.W.Frag) (D : Addr) : Bool := decide (PySem.W.findIn K (.ref D) "__getattribute__" = some (some (.builtin "BaseException.__getattribute__"))) && (decide (PySem.W.findIn K (.ref D) "__getattr__" = some none) &&
  (decide (PySem.W.subIn K (.ref D) (.type "BaseException") = some true) && (PySem.W.hasDictIn K D && (decide (PySem.W.findIn K (.ref D) "__class__" = some (some (.builtin "object.__class__"))) &&
  (decide (PySem.W.specialIn K (.builtin "object.__class__") "__get__" = some (some (.builtin "getset_descriptor.__get__"))) && (decide (PySem.W.takesIn K (.builtin "object.__class__") = some true) && decide (PySem.W.mroIn K D (.type "object") = some true)))))))
def clsN (i : Nat) : Str := match i with
  | 0 => "BadDeal"
  | 1 => "BadHand"
  | 2 => "BadLetter"
  | 3 => "BadTime"
  | 4 => "BadKey"
  | 5 => "BadHouse"
  | 6 => "NoCopy"
  | 7 => "Behind"
  | 8 => "BadBlock"
  | 9 => "BadEntry"
  | 10 => "BadText"
  | _ => "Stopped"
def cisB (K : PySem.W.Frag) (j : Nat) : Bool := excB K (He.ga K (clsN j)) && (((List.range 12).all fun i => decide (PySem.W.kitOne K (.ref (He.ga K (clsN j))) (.ref (He.ga K (clsN i))) = some (decide (i = j)))) &&
  (decide (PySem.W.kitOne K (.ref (He.ga K (clsN j))) (.type "ValueError") = some true) && decide (PySem.W.exmOne K (.ref (He.ga K (clsN j))) (.ref (He.ga K "StillError")) = some true)))
def ndB : List Addr → Bool
  | [] => true
  | a :: l => (l.all fun b => decide (a ≠ b)) && ndB l
def tfL : List He.Defn := [("Table", some "page_rows"), ("Table", some "hand_rows"), ("Table", some "shown"), ("read_row", none), ("law", none)]
def tabB (K : PySem.W.Frag) : Bool := ndB (tfL.map fun p => (He.cT K p).2)
def exB (K : PySem.W.Frag) : Bool := (boundsB K "put" [(0, 31), (0, 999), (0, 1000)] && (boundsB K "drop" [(0, 31)] && (boundsB K "add" [(0, 31), (-999, 999)] && boundsB K "if" [(0, 31), (0, 999)]))) &&
  ((isA K (gC K) "put" (He.ga K "put_row") && (isA K (gC K) "drop" (He.ga K "drop_row") && (isA K (gC K) "add" (He.ga K "add_to_row") && isA K (gC K) "if" (He.ga K "does_show")))) &&
  (iniB K && (newB K && (cisB K 0 && cisB K 1 && tabB K))))
end
section
variable {fa : List He.Fa} {fn : List He.DefD} {ts : List He.Tab} {tf : List He.Defn} {ex : PySem.W.Frag → Bool} {w : World}
def asY (_ : Addr → Option Obj) : List Addr := 3 :: (List.range 1200).reverse
abbrev kY (g : Addr → Option Obj) : PySem.W.Frag := He.frT g (asY g)
abbrev AlY : Type := He.AlX × FnY
def obsY (fa : List He.Fa) (fn : List He.DefD) (ts : List He.Tab) (tf : List He.Defn) (ex : PySem.W.Frag → Bool) (g : Addr → Option Obj) : AlY := ((He.obsT fa fn ts (kY g), ex (kY g) && He.tabsB g tf (kY g)), fnY (kY g))
theorem says_gen {as : List Addr} {h : Heap} (e1 : He.obsT fa fn ts (He.frT h.get? as) = He.valT fn ts w) (e2 : (ex (He.frT h.get? as) && He.tabsB h.get? tf (He.frT h.get? as)) = true) : He.SaysX fa fn ts tf ex w h (He.frT h.get? as) := by
  obtain ⟨b1, b2⟩ := Bool.and_eq_true_iff.mp e2
  have c : ∀ p ∈ tf, PySem.W.codeHdIn (He.frT h.get? as) (He.cT (He.frT h.get? as) p).1 (He.cT (He.frT h.get? as) p).2 = true ∧ ∃ o, h.get? (He.cT (He.frT h.get? as) p).2 = some o ∧ He.emptyTab o = true := fun p m => by
    obtain ⟨a1, a2⟩ := Bool.and_eq_true_iff.mp (List.all_eq_true.mp b2 p m)
    refine ⟨a1, ?_⟩
    split at a2
    · rename_i o q
      exact ⟨o, q, a2⟩
    · cases a2
  refine ⟨e1, b1, fun p m => (c p m).1, fun p m => ?_, fun p m => ?_⟩
  · obtain ⟨_, o, q, z⟩ := c p m
    exact He.frT_none q z
  · obtain ⟨_, o, q, z⟩ := c p m
    rw [q, He.emptyTab_eq z]
structure SaysY (fa : List He.Fa) (fn : List He.DefD) (ts : List He.Tab) (tf : List He.Defn) (ex : PySem.W.Frag → Bool) (fy : FnY) (w : World) (h : Heap) (K : PySem.W.Frag) : Prop where
  x : He.SaysX fa fn ts tf ex w h K
  y : fnY K = fy
theorem ofY {fy : FnY} {h : Heap} (e : obsY fa fn ts tf ex h.get? = ((He.valT fn ts w, true), fy)) : ∃ K : PySem.W.Frag, K.In h ∧ SaysY fa fn ts tf ex fy w h K := by
  unfold obsY at e
  obtain ⟨e12, e3⟩ := Prod.mk.inj e
  obtain ⟨e1, e2⟩ := Prod.mk.inj e12
  exact ⟨kY h.get?, He.frT_in, ⟨says_gen e1 e2, e3⟩⟩
theorem keepY {fy : FnY} {h h' : Heap} (y : ∃ K : PySem.W.Frag, K.In h ∧ SaysY fa fn ts tf ex fy w h K) (k : ∀ b o, h.get? b = some o → h'.get? b = some o) : ∃ K : PySem.W.Frag, K.In h' ∧ SaysY fa fn ts tf ex fy w h' K := by
  obtain ⟨K, hK, c⟩ := y
  exact ⟨K, PySem.W.Frag.In.keeps hK k, ⟨⟨c.x.t, c.x.more, c.x.hd, c.x.out, fun p m => k _ _ (c.x.empty p m)⟩, c.y⟩⟩
def hookY (fa : List He.Fa) (fn : List He.DefD) (ts : List He.Tab) (tf : List He.Defn) (ex : PySem.W.Frag → Bool) (fy : FnY) : PySem.W.Hook where
  α := AlY
  obs := fun s => obsY fa fn ts tf ex s.heap.get?
  val := fun w => ((He.valT fn ts w, true), fy)
  says := fun w h => ∃ K : PySem.W.Frag, K.In h ∧ SaysY fa fn ts tf ex fy w h K
  of := fun _ _ e => ofY e
  keeps := fun _ _ _ y k => keepY y k
theorem obsY_eq {fy : FnY} {g : Addr → Option Obj} {s : Shared} (h : ∀ a, g a = s.heap.get? a) : obsY fa fn ts tf ex g = (hookY fa fn ts tf ex fy).obs s := by
  have e : g = s.heap.get? := funext h
  rw [e] <;> rfl
end
end S02

set_option Elab.async false
set_option linter.all false
set_option maxRecDepth 100000
set_option maxHeartbeats 0
namespace S02
open PySem PySem.Spec PyProof.Rows L2 LamX
def fn0 : List He.DefD := [⟨("within", none), "within", "within", defArgs s_within, defBody s_within, defScope s_within, [], []⟩, ⟨("check_hand", none), "check_hand", "check_hand", defArgs s_check_hand, defBody s_check_hand, defScope s_check_hand, [], []⟩, ⟨("check_key", none), "check_key", "check_key", defArgs s_check_key, defBody s_check_key, defScope s_check_key, [], []⟩, ⟨("is_deed", none), "is_deed", "is_deed", defArgs s_is_deed, defBody s_is_deed, defScope s_is_deed, [], []⟩, ⟨("check_deal", none), "check_deal", "check_deal", defArgs s_check_deal, defBody s_check_deal, defScope s_check_deal, [], []⟩, ⟨("is_shown", none), "is_shown", "is_shown", defArgs s_is_shown, defBody s_is_shown, defScope s_is_shown, [], []⟩, ⟨("shown_worth", none), "shown_worth", "shown_worth", defArgs s_shown_worth, defBody s_shown_worth, defScope s_shown_worth, [], []⟩, ⟨("put_row", none), "put_row", "put_row", defArgs s_put_row, defBody s_put_row, defScope s_put_row, [], []⟩, ⟨("drop_row", none), "drop_row", "drop_row", defArgs s_drop_row, defBody s_drop_row, defScope s_drop_row, [], []⟩, ⟨("add_to_row", none), "add_to_row", "add_to_row", defArgs s_add_to_row, defBody s_add_to_row, defScope s_add_to_row, [], []⟩, ⟨("does_show", none), "does_show", "does_show", defArgs s_does_show, defBody s_does_show, defScope s_does_show, [], []⟩, ⟨("rows_behind", none), "rows_behind", "rows_behind", defArgs s_rows_behind, defBody s_rows_behind, defScope s_rows_behind, [], []⟩]
def fn1 : List He.DefD := [⟨("check_deals", none), "check_deals", "check_deals", defArgs s_check_deals, defBody s_check_deals, defScope s_check_deals, [], []⟩, ⟨("written_deed", none), "written_deed", "written_deed", defArgs s_written_deed, defBody s_written_deed, defScope s_written_deed, [], []⟩, ⟨("written_row", none), "written_row", "written_row", defArgs s_written_row, defBody s_written_row, defScope s_written_row, [], []⟩, ⟨("written", none), "written", "written", defArgs s_written, defBody s_written, defScope s_written, [], []⟩, ⟨("read_number", none), "read_number", "read_number", defArgs s_read_number, defBody s_read_number, defScope s_read_number, [], []⟩, ⟨("read_last", none), "read_last", "read_last", defArgs s_read_last, defBody s_read_last, defScope s_read_last, [], []⟩, ⟨("read_deed", none), "read_deed", "read_deed", defArgs s_read_deed, defBody s_read_deed, defScope s_read_deed, [], []⟩, ⟨("read_row", none), "read_row", "read_row", defArgs s_read_row, defBody s_read_row, defScope s_read_row, [], []⟩, ⟨("read_deals", none), "read_deals", "read_deals", defArgs s_read_deals, defBody s_read_deals, defScope s_read_deals, [], []⟩, ⟨("is_too_heavy", none), "is_too_heavy", "is_too_heavy", defArgs s_is_too_heavy, defBody s_is_too_heavy, defScope s_is_too_heavy, [], []⟩, ⟨("check_block", none), "check_block", "check_block", defArgs s_check_block, defBody s_check_block, defScope s_check_block, [], []⟩, ⟨("entry_block", none), "entry_block", "entry_block", defArgs s_entry_block, defBody s_entry_block, defScope s_entry_block, [], []⟩]
def fn2 : List He.DefD := [⟨("page_block", none), "page_block", "page_block", defArgs s_page_block, defBody s_page_block, defScope s_page_block, [], []⟩, ⟨("_law_begun", none), "_law_begun", "_law_begun", defArgs s_begun, defBody s_begun, defScope s_begun, [], []⟩, ⟨("_law_take", none), "_law_take", "_law_take", defArgs s_take, defBody s_take, defScope s_take, [], []⟩, ⟨("_law_alike", none), "_law_alike", "_law_alike", defArgs s_alike, defBody s_alike, defScope s_alike, [], []⟩, ⟨("_law_class", none), "_law_class", "_law_class", defArgs s_class, defBody s_class, defScope s_class, [], []⟩, ⟨("_law_refused", none), "_law_refused", "_law_refused", defArgs s_refused, defBody s_refused, defScope s_refused, [], []⟩, ⟨("_law_all", none), "_law_all", "_law_all", defArgs s_all, defBody s_all, defScope s_all, [], []⟩, ⟨("_law_store", none), "_law_store", "_law_store", defArgs s_store, defBody s_store, defScope s_store, [], []⟩, ⟨("_law_again", none), "_law_again", "_law_again", defArgs s_again, defBody s_again, defScope s_again, [], []⟩, ⟨("_law_seen", none), "_law_seen", "_law_seen", defArgs s_seen, defBody s_seen, defScope s_seen, [], []⟩, ⟨("_law_tried", none), "_law_tried", "_law_tried", defArgs s_tried, defBody s_tried, defScope s_tried, [], []⟩, ⟨("_law_deal", none), "_law_deal", "_law_deal", defArgs s_deal, defBody s_deal, defScope s_deal, [], []⟩]
def fn3 : List He.DefD := [⟨("_law_whole", none), "_law_whole", "_law_whole", defArgs s_whole, defBody s_whole, defScope s_whole, [], []⟩, ⟨("_law_deed", none), "_law_deed", "_law_deed", defArgs s_deed, defBody s_deed, defScope s_deed, [], []⟩, ⟨("_law_drawn", none), "_law_drawn", "_law_drawn", defArgs s_drawn, defBody s_drawn, defScope s_drawn, [], []⟩, ⟨("_law_deals", none), "_law_deals", "_law_deals", defArgs s_deals, defBody s_deals, defScope s_deals, [], []⟩, ⟨("_law_text", none), "_law_text", "_law_text", defArgs s_text, defBody s_text, defScope s_text, [], []⟩, ⟨("_law_dealt", none), "_law_dealt", "_law_dealt", defArgs s_dealt, defBody s_dealt, defScope s_dealt, [], []⟩, ⟨("law", none), "law", "law", defArgs s_law, defBody s_law, defScope s_law, [], []⟩, ⟨("Disk", some "__init__"), "__init__", "Disk.__init__", defArgs s_Disk___init__, defBody s_Disk___init__, defScope s_Disk___init__, [], []⟩, ⟨("Disk", some "write"), "write", "Disk.write", defArgs s_Disk_write, defBody s_Disk_write, defScope s_Disk_write, [], []⟩, ⟨("Disk", some "settle"), "settle", "Disk.settle", defArgs s_Disk_settle, defBody s_Disk_settle, defScope s_Disk_settle, [], []⟩, ⟨("Disk", some "read"), "read", "Disk.read", defArgs s_Disk_read, defBody s_Disk_read, defScope s_Disk_read, [], []⟩, ⟨("Disk", some "arm"), "arm", "Disk.arm", defArgs s_Disk_arm, defBody s_Disk_arm, defScope s_Disk_arm, [], []⟩]
def fn4 : List He.DefD := [⟨("Disk", some "stop"), "stop", "Disk.stop", defArgs s_Disk_stop, defBody s_Disk_stop, defScope s_Disk_stop, [], []⟩, ⟨("Disk", some "again"), "again", "Disk.again", defArgs s_Disk_again, defBody s_Disk_again, defScope s_Disk_again, [], []⟩, ⟨("Disk", some "settled"), "settled", "Disk.settled", defArgs s_Disk_settled, defBody s_Disk_settled, defScope s_Disk_settled, [], []⟩, ⟨("Disk", some "check_running"), "check_running", "Disk.check_running", defArgs s_Disk_check_running, defBody s_Disk_check_running, defScope s_Disk_check_running, [], []⟩, ⟨("Disk", some "count_deed"), "count_deed", "Disk.count_deed", defArgs s_Disk_count_deed, defBody s_Disk_count_deed, defScope s_Disk_count_deed, [], []⟩, ⟨("Copy", some "__init__"), "__init__", "Copy.__init__", defArgs s_Copy___init__, defBody s_Copy___init__, defScope s_Copy___init__, [], []⟩, ⟨("Copy", some "page_of"), "page_of", "Copy.page_of", defArgs s_Copy_page_of, defBody s_Copy_page_of, defScope s_Copy_page_of, [], []⟩, ⟨("Copy", some "follow"), "follow", "Copy.follow", defArgs s_Copy_follow, defBody s_Copy_follow, defScope s_Copy_follow, [], []⟩, ⟨("Copy", some "let_go"), "let_go", "Copy.let_go", defArgs s_Copy_let_go, defBody s_Copy_let_go, defScope s_Copy_let_go, [], []⟩, ⟨("Shelf", some "__init__"), "__init__", "Shelf.__init__", defArgs s_Shelf___init__, defBody s_Shelf___init__, defScope s_Shelf___init__, [], []⟩, ⟨("Shelf", some "begin"), "begin", "Shelf.begin", defArgs s_Shelf_begin, defBody s_Shelf_begin, defScope s_Shelf_begin, [], []⟩, ⟨("Shelf", some "find_copy"), "find_copy", "Shelf.find_copy", defArgs s_Shelf_find_copy, defBody s_Shelf_find_copy, defScope s_Shelf_find_copy, [], []⟩]
def fn5 : List He.DefD := [⟨("Shelf", some "read_out"), "read_out", "Shelf.read_out", defArgs s_Shelf_read_out, defBody s_Shelf_read_out, defScope s_Shelf_read_out, [], []⟩, ⟨("Shelf", some "give_up"), "give_up", "Shelf.give_up", defArgs s_Shelf_give_up, defBody s_Shelf_give_up, defScope s_Shelf_give_up, [], []⟩, ⟨("Shelf", some "follow"), "follow", "Shelf.follow", defArgs s_Shelf_follow, defBody s_Shelf_follow, defScope s_Shelf_follow, [], []⟩, ⟨("Shelf", some "listed"), "listed", "Shelf.listed", defArgs s_Shelf_listed, defBody s_Shelf_listed, defScope s_Shelf_listed, [], []⟩, ⟨("Shelf", some "count_aside"), "count_aside", "Shelf.count_aside", defArgs s_Shelf_count_aside, defBody s_Shelf_count_aside, defScope s_Shelf_count_aside, [], []⟩, ⟨("Table", some "__init__"), "__init__", "Table.__init__", defArgs s_Table___init__, defBody s_Table___init__, defScope s_Table___init__, [], []⟩, ⟨("Table", some "twin"), "twin", "Table.twin", defArgs s_Table_twin, defBody s_Table_twin, defScope s_Table_twin, [], []⟩, ⟨("Table", some "take"), "take", "Table.take", defArgs s_Table_take, defBody s_Table_take, defScope s_Table_take, [], []⟩, ⟨("Table", some "take_deal"), "take_deal", "Table.take_deal", defArgs s_Table_take_deal, defBody s_Table_take_deal, defScope s_Table_take_deal, [], []⟩, ⟨("Table", some "told_of"), "told_of", "Table.told_of", defArgs s_Table_told_of, defBody s_Table_told_of, defScope s_Table_told_of, [], []⟩, ⟨("Table", some "told_whole"), "told_whole", "Table.told_whole", defArgs s_Table_told_whole, defBody s_Table_told_whole, defScope s_Table_told_whole, [], []⟩, ⟨("Table", some "last_letter"), "last_letter", "Table.last_letter", defArgs s_Table_last_letter, defBody s_Table_last_letter, defScope s_Table_last_letter, [], []⟩]
def fn6 : List He.DefD := [⟨("Table", some "page_rows"), "page_rows", "Table.page_rows", defArgs s_Table_page_rows, defBody s_Table_page_rows, defScope s_Table_page_rows, [], []⟩, ⟨("Table", some "hand_rows"), "hand_rows", "Table.hand_rows", defArgs s_Table_hand_rows, defBody s_Table_hand_rows, defScope s_Table_hand_rows, [], []⟩, ⟨("Table", some "kept"), "kept", "Table.kept", defArgs s_Table_kept, defBody s_Table_kept, defScope s_Table_kept, [], []⟩, ⟨("Table", some "shown"), "shown", "Table.shown", defArgs s_Table_shown, defBody s_Table_shown, defScope s_Table_shown, [], []⟩, ⟨("Table", some "unlike"), "unlike", "Table.unlike", defArgs s_Table_unlike, defBody s_Table_unlike, defScope s_Table_unlike, [], []⟩, ⟨("Table", some "fill"), "fill", "Table.fill", defArgs s_Table_fill, defBody s_Table_fill, defScope s_Table_fill, [], []⟩, ⟨("Table", some "shed"), "shed", "Table.shed", defArgs s_Table_shed, defBody s_Table_shed, defScope s_Table_shed, [], []⟩, ⟨("Store", some "__init__"), "__init__", "Store.__init__", defArgs s_Store___init__, defBody s_Store___init__, defScope s_Store___init__, [], []⟩, ⟨("Store", some "claim"), "claim", "Store.claim", defArgs s_Store_claim, defBody s_Store_claim, defScope s_Store_claim, [], []⟩, ⟨("Store", some "put"), "put", "Store.put", defArgs s_Store_put, defBody s_Store_put, defScope s_Store_put, [], []⟩, ⟨("Store", some "check_held"), "check_held", "Store.check_held", defArgs s_Store_check_held, defBody s_Store_check_held, defScope s_Store_check_held, [], []⟩, ⟨("Store", some "write_root"), "write_root", "Store.write_root", defArgs s_Store_write_root, defBody s_Store_write_root, defScope s_Store_write_root, [], []⟩]
def fn7 : List He.DefD := [⟨("Store", some "stored_table"), "stored_table", "Store.stored_table", defArgs s_Store_stored_table, defBody s_Store_stored_table, defScope s_Store_stored_table, [], []⟩, ⟨("Store", some "last_entries"), "last_entries", "Store.last_entries", defArgs s_Store_last_entries, defBody s_Store_last_entries, defScope s_Store_last_entries, [], []⟩, ⟨("Store", some "put_aside"), "put_aside", "Store.put_aside", defArgs s_Store_put_aside, defBody s_Store_put_aside, defScope s_Store_put_aside, [], []⟩, ⟨("Store", some "gathered_pages"), "gathered_pages", "Store.gathered_pages", defArgs s_Store_gathered_pages, defBody s_Store_gathered_pages, defScope s_Store_gathered_pages, [], []⟩, ⟨("Lead", some "__init__"), "__init__", "Lead.__init__", defArgs s_Lead___init__, defBody s_Lead___init__, defScope s_Lead___init__, [], []⟩, ⟨("Lead", some "known"), "known", "Lead.known", defArgs s_Lead_known, defBody s_Lead_known, defScope s_Lead_known, [], []⟩, ⟨("Lead", some "clock"), "clock", "Lead.clock", defArgs s_Lead_clock, defBody s_Lead_clock, defScope s_Lead_clock, [], []⟩, ⟨("Lead", some "deals"), "deals", "Lead.deals", defArgs s_Lead_deals, defBody s_Lead_deals, defScope s_Lead_deals, [], []⟩, ⟨("Lead", some "deal"), "deal", "Lead.deal", defArgs s_Lead_deal, defBody s_Lead_deal, defScope s_Lead_deal, [], []⟩, ⟨("Lead", some "tick"), "tick", "Lead.tick", defArgs s_Lead_tick, defBody s_Lead_tick, defScope s_Lead_tick, [], []⟩, ⟨("Lead", some "read"), "read", "Lead.read", defArgs s_Lead_read, defBody s_Lead_read, defScope s_Lead_read, [], []⟩, ⟨("Lead", some "whole"), "whole", "Lead.whole", defArgs s_Lead_whole, defBody s_Lead_whole, defScope s_Lead_whole, [], []⟩]
def fn8 : List He.DefD := [⟨("Lead", some "tidy"), "tidy", "Lead.tidy", defArgs s_Lead_tidy, defBody s_Lead_tidy, defScope s_Lead_tidy, [], []⟩, ⟨("Lead", some "kept_rows"), "kept_rows", "Lead.kept_rows", defArgs s_Lead_kept_rows, defBody s_Lead_kept_rows, defScope s_Lead_kept_rows, [], []⟩, ⟨("Lead", some "copy"), "copy", "Lead.copy", defArgs s_Lead_copy, defBody s_Lead_copy, defScope s_Lead_copy, [], []⟩, ⟨("Lead", some "read_page"), "read_page", "Lead.read_page", defArgs s_Lead_read_page, defBody s_Lead_read_page, defScope s_Lead_read_page, [], []⟩, ⟨("Lead", some "close"), "close", "Lead.close", defArgs s_Lead_close, defBody s_Lead_close, defScope s_Lead_close, [], []⟩, ⟨("Lead", some "open_copies"), "open_copies", "Lead.open_copies", defArgs s_Lead_open_copies, defBody s_Lead_open_copies, defScope s_Lead_open_copies, [], []⟩, ⟨("Lead", some "room"), "room", "Lead.room", defArgs s_Lead_room, defBody s_Lead_room, defScope s_Lead_room, [], []⟩, ⟨("Lead", some "letters"), "letters", "Lead.letters", defArgs s_Lead_letters, defBody s_Lead_letters, defScope s_Lead_letters, [], []⟩, ⟨("Lead", some "heard"), "heard", "Lead.heard", defArgs s_Lead_heard, defBody s_Lead_heard, defScope s_Lead_heard, [], []⟩, ⟨("Lead", some "check_house"), "check_house", "Lead.check_house", defArgs s_Lead_check_house, defBody s_Lead_check_house, defScope s_Lead_check_house, [], []⟩, ⟨("Lead", some "check_group"), "check_group", "Lead.check_group", defArgs s_Lead_check_group, defBody s_Lead_check_group, defScope s_Lead_check_group, [], []⟩, ⟨("Lead", some "change_over"), "change_over", "Lead.change_over", defArgs s_Lead_change_over, defBody s_Lead_change_over, defScope s_Lead_change_over, [], []⟩]
def fn : List He.DefD := fn0 ++ (fn1 ++ (fn2 ++ (fn3 ++ (fn4 ++ (fn5 ++ (fn6 ++ (fn7 ++ (fn8))))))))
def fa0 : List He.Fa := [.glo "within", .glo "check_hand", .glo "check_key", .glo "is_deed", .glo "check_deal", .glo "is_shown", .glo "shown_worth", .glo "put_row", .glo "drop_row", .glo "add_to_row", .glo "does_show", .glo "rows_behind", .glo "check_deals", .glo "written_deed", .glo "written_row", .glo "written", .glo "read_number", .glo "read_last", .glo "read_deed", .glo "read_row", .glo "read_deals", .glo "is_too_heavy", .glo "check_block", .glo "entry_block", .glo "page_block", .glo "_law_begun", .glo "_law_take", .glo "_law_alike", .glo "_law_class", .glo "_law_refused"]
def fa1 : List He.Fa := [.glo "_law_all", .glo "_law_store", .glo "_law_again", .glo "_law_seen", .glo "_law_tried", .glo "_law_deal", .glo "_law_whole", .glo "_law_deed", .glo "_law_drawn", .glo "_law_deals", .glo "_law_text", .glo "_law_dealt", .glo "law", .glo "StillError", .glo "BadDeal", .glo "BadHand", .glo "BadLetter", .glo "BadTime", .glo "BadKey", .glo "BadHouse", .glo "NoCopy", .glo "Behind", .glo "BadBlock", .glo "BadEntry", .glo "BadText", .glo "Stopped", .glo "Disk", .glo "Copy", .glo "Shelf", .glo "Table"]
def fa2 : List He.Fa := [.glo "Store", .glo "Lead", .exc "BadHand", .exm "BadHand" "StillError" true, .exc "BadLetter", .exm "BadLetter" "StillError" true, .exc "BadTime", .exm "BadTime" "StillError" true, .exc "BadKey", .exm "BadKey" "StillError" true, .exc "BadHouse", .exm "BadHouse" "StillError" true, .exc "NoCopy", .exm "NoCopy" "StillError" true, .exc "BadBlock", .exm "BadBlock" "StillError" true, .exc "BadEntry", .exm "BadEntry" "StillError" true, .exc "Stopped", .exm "Stopped" "StillError" true, .cls "Disk", .noat "Disk" "armed_picks", .noat "Disk" "deeds_left", .noat "Disk" "running", .noat "Disk" "stops", .noat "Disk" "sure", .noat "Disk" "unsure", .mkr "Disk", .meth "Disk" "write", .meth "Disk" "settle"]
def fa3 : List He.Fa := [.meth "Disk" "read", .meth "Disk" "arm", .meth "Disk" "stop", .meth "Disk" "again", .meth "Disk" "settled", .meth "Disk" "check_running", .meth "Disk" "count_deed", .cls "Copy", .noat "Copy" "aside", .noat "Copy" "number", .noat "Copy" "wanted", .mkr "Copy", .meth "Copy" "page_of", .meth "Copy" "follow", .meth "Copy" "let_go", .cls "Shelf", .noat "Shelf" "begun", .noat "Shelf" "copies", .mkr "Shelf", .meth "Shelf" "begin", .meth "Shelf" "find_copy", .meth "Shelf" "read_out", .meth "Shelf" "give_up", .meth "Shelf" "follow", .meth "Shelf" "listed", .meth "Shelf" "count_aside", .cls "Table", .noat "Table" "hands", .noat "Table" "moment", .noat "Table" "number"]
def fa4 : List He.Fa := [.noat "Table" "rows", .mkr "Table", .meth "Table" "twin", .meth "Table" "take", .meth "Table" "take_deal", .meth "Table" "told_of", .meth "Table" "told_whole", .meth "Table" "last_letter", .meth "Table" "page_rows", .meth "Table" "hand_rows", .meth "Table" "kept", .meth "Table" "shown", .meth "Table" "unlike", .meth "Table" "fill", .meth "Table" "shed", .cls "Store", .noat "Store" "disk", .noat "Store" "root", .noat "Store" "stops", .mkr "Store", .meth "Store" "claim", .meth "Store" "put", .meth "Store" "check_held", .meth "Store" "write_root", .meth "Store" "stored_table", .meth "Store" "last_entries", .meth "Store" "put_aside", .meth "Store" "gathered_pages", .cls "Lead", .noat "Lead" "entries"]
def fa5 : List He.Fa := [.noat "Lead" "followers", .noat "Lead" "houses", .noat "Lead" "shelf", .noat "Lead" "store", .noat "Lead" "table", .mkr "Lead", .meth "Lead" "known", .meth "Lead" "clock", .meth "Lead" "deals", .meth "Lead" "deal", .meth "Lead" "tick", .meth "Lead" "read", .meth "Lead" "whole", .meth "Lead" "tidy", .meth "Lead" "kept_rows", .meth "Lead" "copy", .meth "Lead" "read_page", .meth "Lead" "close", .meth "Lead" "open_copies", .meth "Lead" "room", .meth "Lead" "letters", .meth "Lead" "heard", .meth "Lead" "check_house", .meth "Lead" "check_group", .meth "Lead" "change_over", .int "LAST_KEY" 31, .int "LAST_HAND" 3, .int "LAST_WORTH" 999, .int "LAST_MOMENT" 1000000, .int "PAGES" 9]
def fa6 : List He.Fa := [.int "KEYS_OF_A_PAGE" 4, .int "HANDS_PAGE" 8, .int "MOST_DEEDS" 4, .int "MOST_DEALS" 4, .int "MOST_HOUSES" 3, .int "MOST_ENTRIES" 16, .int "MOST_FIGURES" 4, .int "BLOCKS" 35, .int "MOST_WEIGHT" 40, .int "ROOT" 0, .int "FIRST_ENTRY" 1, .int "FIRST_PAGE" 17, .free "ValueError", .free "all", .free "bool", .free "dict", .free "enumerate", .free "int", .free "isinstance", .free "len", .free "list", .free "max", .free "range", .free "sorted", .free "str", .free "tuple", .free "zip"]
def fa7 : List He.Fa := [.glo "BOUNDS", .glo "ACTIONS", .free "super", .glo "NEW_ROOT", .str "FIGURES" "0123456789"]
def fa : List He.Fa := fa0 ++ (fa1 ++ (fa2 ++ (fa3 ++ (fa4 ++ (fa5 ++ (fa6 ++ (fa7)))))))
def tf : List He.Defn := [("Table", some "page_rows"), ("Table", some "hand_rows"), ("Table", some "shown"), ("read_row", none), ("law", none)]
def ex (_ : PySem.W.Frag) : Bool := true
def ts : List He.Tab := [((fun K => He.ga K "BOUNDS"), ["put", "drop", "add", "if"]), ((fun K => He.ga K "ACTIONS"), ["put", "drop", "add", "if"])]
def fy : FnY := [some ("__init__", "BadDeal.__init__", defArgs s_BadDeal___init__, .stmts (defBody s_BadDeal___init__), defScope s_BadDeal___init__, mainGlobals, ["__class__"], .none, builtinsNs)]
def loose0 : List PySem.Str := ["within", "check_hand", "check_key", "is_deed", "check_deal", "is_shown", "shown_worth", "put_row", "drop_row", "add_to_row", "does_show", "rows_behind", "check_deals", "written_deed", "written_row", "written", "read_number", "read_last", "read_deed", "read_row", "read_deals", "is_too_heavy", "check_block", "entry_block", "page_block", "_law_begun", "_law_take", "_law_alike", "_law_class", "_law_refused"]
def loose1 : List PySem.Str := ["_law_all", "_law_store", "_law_again", "_law_seen", "_law_tried", "_law_deal", "_law_whole", "_law_deed", "_law_drawn", "_law_deals", "_law_text", "_law_dealt", "StillError", "BadDeal", "BadHand", "BadLetter", "BadTime", "BadKey", "BadHouse", "NoCopy", "Behind", "BadBlock", "BadEntry", "BadText", "Stopped", "Disk", "Copy", "Shelf", "Table", "Store"]
def loose2 : List PySem.Str := ["Lead", "LAST_KEY", "LAST_HAND", "LAST_WORTH", "LAST_MOMENT", "PAGES", "KEYS_OF_A_PAGE", "HANDS_PAGE", "MOST_DEEDS", "MOST_DEALS", "MOST_HOUSES", "MOST_ENTRIES", "BOUNDS", "ACTIONS", "FIGURES", "MOST_FIGURES", "BLOCKS", "MOST_WEIGHT", "ROOT", "FIRST_ENTRY", "FIRST_PAGE", "NEW_ROOT", "_wall"]
def loose : List PySem.Str := loose0 ++ (loose1 ++ (loose2))
abbrev R : PySem.W.OpenRow := PySem.W.OpenLaw.row PySem.Challenge.rw_stillcopy_k18_written_and_read
abbrev hk : PySem.W.Hook := hookY fa fn ts tf exB fy
def ob (s : PySem.W.SharedT) : AlY := obsY fa fn ts tf exB (HandSHeadRun.getT s)
theorem ob_eq (s : PySem.W.SharedT) : ob s = hk.obs s.abs := obsY_eq (HandSHeadRun.getT_eq s)
open HandSHeadRun
theorem runEq_and {r : PySem.W.OpenRow} {q : Program} {H1 H2 H : PySem.W.Hook} {ob1 : PySem.W.SharedT → H1.α} {ob2 : PySem.W.SharedT → H2.α} {M : Nat} {lo : List PySem.Str} {w : World} {ob : PySem.W.SharedT → H.α} (j : H1.α → H2.α → H.α)
    (h1 : RunEq r q H1 ob1 M lo w) (h2 : RunEq r q H2 ob2 M lo w) (eo : ∀ s, ob s = j (ob1 s) (ob2 s)) (ev : H.val w = j (H1.val w) (H2.val w)) : RunEq r q H ob M lo w := by
  intro os
  have a := h1 os
  have b := h2 os
  revert a b
  generalize endF (stepQ (denQ tabQ) r.prog w) M r.prog w os = x
  cases x with
  | none => intro a; cases a
  | some s =>
    intro a b
    obtain ⟨a1, a⟩ := Prod.mk.inj (Option.some.inj a)
    obtain ⟨a2, a3⟩ := Prod.mk.inj a
    obtain ⟨b1, b⟩ := Prod.mk.inj (Option.some.inj b)
    obtain ⟨b2, b3⟩ := Prod.mk.inj b
    refine congrArg some (Prod.ext a1 (Prod.ext a2 ?_))
    show ob s = H.val w
    rw [eo, ev, a3, b3]
abbrev kT (s : PySem.W.SharedT) : PySem.W.Frag := kY (getT s)
abbrev hkA : PySem.W.Hook := { α := Bool, obs := fun s => fa.all fun f => f.ok (kY s.heap.get?), val := fun _ => true, says := fun _ _ => True, of := fun _ _ _ => trivial, keeps := fun _ _ _ _ _ => trivial }
def obA (s : PySem.W.SharedT) : Bool := fa.all fun f => f.ok (kY (getT s))
abbrev hkB : PySem.W.Hook := { α := Bool × List He.FnW, obs := fun s => (fn.all fun d => d.ok (kY s.heap.get?), fn.map fun d => He.fnW (kY s.heap.get?) d.at_), val := fun _ => (true, fn.map He.DefD.val), says := fun _ _ => True, of := fun _ _ _ => trivial, keeps := fun _ _ _ _ _ => trivial }
def obB (s : PySem.W.SharedT) : Bool × List He.FnW := (fn.all fun d => d.ok (kY (getT s)), fn.map fun d => He.fnW (kY (getT s)) d.at_)
abbrev AlC : Type := (List (Option (List (Option (Str × Int)))) × Bool) × FnY
abbrev hkC : PySem.W.Hook := { α := AlC, obs := fun s => ((ts.map fun t => He.dicW (kY s.heap.get?) (t.1 (kY s.heap.get?)), exB (kY s.heap.get?) && He.tabsB s.heap.get? tf (kY s.heap.get?)), fnY (kY s.heap.get?)), val := fun w => ((ts.map fun t => some (He.keysIn w.params t.2), true), fy), says := fun _ _ => True, of := fun _ _ _ => trivial, keeps := fun _ _ _ _ _ => trivial }
def obC (s : PySem.W.SharedT) : AlC := ((ts.map fun t => He.dicW (kY (getT s)) (t.1 (kY (getT s))), exB (kY (getT s)) && He.tabsB (getT s) tf (kY (getT s))), fnY (kY (getT s)))
abbrev hkAB : PySem.W.Hook := { α := He.AlD, obs := fun s => He.obsD fa fn (kY s.heap.get?), val := fun _ => He.valD fn, says := fun _ _ => True, of := fun _ _ _ => trivial, keeps := fun _ _ _ _ _ => trivial }
def obAB (s : PySem.W.SharedT) : He.AlD := He.obsD fa fn (kY (getT s))
theorem all_split {α : Type} (l : List α) (n : Nat) (p : α → Bool) : l.all p = ((l.take n).all p && (l.drop n).all p) := by rw [← List.all_append, List.take_append_drop]
theorem map_split {α β : Type} (l : List α) (n : Nat) (g : α → β) : l.map g = (l.take n).map g ++ (l.drop n).map g := by rw [← List.map_append, List.take_append_drop]
def fnB1 : List He.DefD := fn.take (fn.length / 2)
abbrev hkB1 : PySem.W.Hook := { α := Bool × List He.FnW, obs := fun s => (fnB1.all fun d => d.ok (kY s.heap.get?), fnB1.map fun d => He.fnW (kY s.heap.get?) d.at_), val := fun _ => (true, fnB1.map He.DefD.val), says := fun _ _ => True, of := fun _ _ _ => trivial, keeps := fun _ _ _ _ _ => trivial }
def obB1 (s : PySem.W.SharedT) : Bool × List He.FnW := (fnB1.all fun d => d.ok (kY (getT s)), fnB1.map fun d => He.fnW (kY (getT s)) d.at_)
def fnB2 : List He.DefD := fn.drop (fn.length / 2)
abbrev hkB2 : PySem.W.Hook := { α := Bool × List He.FnW, obs := fun s => (fnB2.all fun d => d.ok (kY s.heap.get?), fnB2.map fun d => He.fnW (kY s.heap.get?) d.at_), val := fun _ => (true, fnB2.map He.DefD.val), says := fun _ _ => True, of := fun _ _ _ => trivial, keeps := fun _ _ _ _ _ => trivial }
def obB2 (s : PySem.W.SharedT) : Bool × List He.FnW := (fnB2.all fun d => d.ok (kY (getT s)), fnB2.map fun d => He.fnW (kY (getT s)) d.at_)
theorem runAF (w : World) : HandSHeadRun.RunEq R (PySem.W.view R.prog [93]) hkA obA 12000 loose (w.withFollow "special-get-raises" false) := by
  intro os
  kernel_rfl
theorem runAT (w : World) : HandSHeadRun.RunEq R (PySem.W.view R.prog [93]) hkA obA 12000 loose (w.withFollow "special-get-raises" true) := by
  intro os
  kernel_rfl
theorem runB1F (w : World) : HandSHeadRun.RunEq R (PySem.W.view R.prog [93]) hkB1 obB1 12000 loose (w.withFollow "special-get-raises" false) := by
  intro os
  kernel_rfl
theorem runB1T (w : World) : HandSHeadRun.RunEq R (PySem.W.view R.prog [93]) hkB1 obB1 12000 loose (w.withFollow "special-get-raises" true) := by
  intro os
  kernel_rfl
theorem runB2F (w : World) : HandSHeadRun.RunEq R (PySem.W.view R.prog [93]) hkB2 obB2 12000 loose (w.withFollow "special-get-raises" false) := by
  intro os
  kernel_rfl
theorem runB2T (w : World) : HandSHeadRun.RunEq R (PySem.W.view R.prog [93]) hkB2 obB2 12000 loose (w.withFollow "special-get-raises" true) := by
  intro os
  kernel_rfl
theorem runCF (w : World) : HandSHeadRun.RunEq R (PySem.W.view R.prog [93]) hkC obC 12000 loose (w.withFollow "special-get-raises" false) := by
  intro os
  kernel_rfl
theorem runCT (w : World) : HandSHeadRun.RunEq R (PySem.W.view R.prog [93]) hkC obC 12000 loose (w.withFollow "special-get-raises" true) := by
  intro os
  kernel_rfl
theorem runBF (w : World) : HandSHeadRun.RunEq R (PySem.W.view R.prog [93]) hkB obB 12000 loose (w.withFollow "special-get-raises" false) :=
  runEq_and (H1 := hkB1) (H2 := hkB2) (ob1 := obB1) (ob2 := obB2) (fun x y => (x.1 && y.1, x.2 ++ y.2)) (runB1F w) (runB2F w) (fun _ => Prod.ext (all_split _ _ _) (map_split _ _ _)) (Prod.ext rfl (map_split _ _ _))
theorem runBT (w : World) : HandSHeadRun.RunEq R (PySem.W.view R.prog [93]) hkB obB 12000 loose (w.withFollow "special-get-raises" true) :=
  runEq_and (H1 := hkB1) (H2 := hkB2) (ob1 := obB1) (ob2 := obB2) (fun x y => (x.1 && y.1, x.2 ++ y.2)) (runB1T w) (runB2T w) (fun _ => Prod.ext (all_split _ _ _) (map_split _ _ _)) (Prod.ext rfl (map_split _ _ _))
theorem runF (w : World) : HandSHeadRun.RunEq R (PySem.W.view R.prog [93]) hk ob 12000 loose (w.withFollow "special-get-raises" false) :=
  runEq_and (H1 := hkAB) (H2 := hkC) (ob1 := obAB) (ob2 := obC) (fun a c => (((a, c.1.1), c.1.2), c.2)) (runEq_and (H1 := hkA) (H2 := hkB) (ob1 := obA) (ob2 := obB) (fun a b => (a && b.1, b.2)) (runAF w) (runBF w) (fun _ => rfl) rfl) (runCF w) (fun _ => rfl) rfl
theorem runT (w : World) : HandSHeadRun.RunEq R (PySem.W.view R.prog [93]) hk ob 12000 loose (w.withFollow "special-get-raises" true) :=
  runEq_and (H1 := hkAB) (H2 := hkC) (ob1 := obAB) (ob2 := obC) (fun a c => (((a, c.1.1), c.1.2), c.2)) (runEq_and (H1 := hkA) (H2 := hkB) (ob1 := obA) (ob2 := obB) (fun a b => (a && b.1, b.2)) (runAT w) (runBT w) (fun _ => rfl) rfl) (runCT w) (fun _ => rfl) rfl
theorem run (w : World) : HandSHeadRun.RunEq R (PySem.W.view R.prog [93]) hk ob 12000 loose w :=
  PySem.W.byRow2 "special-get-raises" (P := fun w => HandSHeadRun.RunEq R (PySem.W.view R.prog [93]) hk ob 12000 loose w) runF runT w
theorem fact_bounds : fa[207]? = some (.glo "BOUNDS") := rfl
theorem fact_actions : fa[208]? = some (.glo "ACTIONS") := rfl
theorem fact_super : fa[209]? = some (.free "super") := rfl
theorem fact_fig : fa[211]? = some (.str "FIGURES" "0123456789") := rfl
theorem fact_root : fa[210]? = some (.glo "NEW_ROOT") := rfl
end S02

set_option Elab.async false
set_option linter.all false
set_option maxRecDepth 100000
/-! ### 1. Heaps: what stays behind a deed -/
namespace K5
open PySem PySem.Spec PyProof.Rows L2
/-- objects that deeds may change -/
def Mu : HO → Prop
  | .lst _ => True
  | .dK _ => True
  | .ins _ _ _ => True
  | _ => False
/-- all stays but what may change and lies in F -/
def Kp (F : Addr → Prop) (H G : Hp) : Prop := ∀ b o, H b = some o → (Mu o → ¬ F b) → G b = some o
/-- the same, code tables aside -/
def Kt (F : Addr → Prop) (H G : Hp) : Prop := ∀ b o, H b = some o → (∀ ps, o ≠ .tbl ps) → (Mu o → ¬ F b) → G b = some o
def No : Addr → Prop := fun _ => False
theorem Kp.t {F : Addr → Prop} {H G : Hp} (k : Kp F H G) : Kt F H G := fun b o e _ n => k b o e n
theorem Kp.refl (F : Addr → Prop) (H : Hp) : Kp F H H := fun _ _ e _ => e
theorem Kt.refl (F : Addr → Prop) (H : Hp) : Kt F H H := fun _ _ e _ _ => e
theorem Kp.sub {F F' : Addr → Prop} {H G : Hp} (k : Kp F H G) (s : ∀ b, F b → F' b) : Kp F' H G := fun b o e n => k b o e fun m z => n m (s b z)
theorem Kt.sub {F F' : Addr → Prop} {H G : Hp} (k : Kt F H G) (s : ∀ b, F b → F' b) : Kt F' H G := fun b o e t n => k b o e t fun m z => n m (s b z)
/-- one deed behind another; the second may also change what is new -/
theorem Kp.trans {F F' : Addr → Prop} {H G I : Hp} (k : Kp F H G) (l : Kp F' G I) (s : ∀ b, F' b → F b ∨ H b = none) : Kp F H I := fun b o e n =>
  l b o (k b o e n) fun m z => (s b z).elim (n m) fun q => by rw [q] at e; cases e
theorem Kt.trans {F F' : Addr → Prop} {H G I : Hp} (k : Kt F H G) (l : Kt F' G I) (s : ∀ b, F' b → F b ∨ H b = none) : Kt F H I := fun b o e t n =>
  l b o (k b o e t n) t fun m z => (s b z).elim (n m) fun q => by rw [q] at e; cases e
theorem Kp.new {F : Addr → Prop} {H : Hp} {a : Addr} {o : HO} (h : H a = none) : Kp F H (upd H a o) := fun b u e _ => by rw [upd_ne (ne_of_none e h)]; exact e
theorem Kp.upd {F : Addr → Prop} {H : Hp} {a : Addr} {o o' : HO} (h : H a = some o) (m : Mu o) (f : F a) : Kp F H (upd H a o') := fun b u e n => by
  have ne : b ≠ a := fun z => by
    subst z
    rw [h] at e
    cases e
    exact n m f
  rw [upd_ne ne]
  exact e
theorem Kp.updI {F : Addr → Prop} {H : Hp} {a C dx : Addr} {fs : List (Str × V)} {o' : HO} (h : H a = some (.ins C dx fs)) (f : F a) : Kp F H (L2.upd H a o') := Kp.upd h trivial f
theorem Kp.updL {F : Addr → Prop} {H : Hp} {a : Addr} {xs : List V} {o' : HO} (h : H a = some (.lst xs)) (f : F a) : Kp F H (L2.upd H a o') := Kp.upd h trivial f
theorem Kp.updD {F : Addr → Prop} {H : Hp} {a : Addr} {xs : List (Key × V)} {o' : HO} (h : H a = some (.dK xs)) (f : F a) : Kp F H (L2.upd H a o') := Kp.upd h trivial f
/-- one step more -/
theorem Kp.andI {F : Addr → Prop} {H G : Hp} {a C dx : Addr} {fs : List (Str × V)} {o' : HO} (k : Kp F H G) (h : G a = some (.ins C dx fs)) (f : F a) : Kp F H (L2.upd G a o') := k.trans (Kp.updI h f) fun _ z => .inl z
theorem Kp.andL {F : Addr → Prop} {H G : Hp} {a : Addr} {xs : List V} {o' : HO} (k : Kp F H G) (h : G a = some (.lst xs)) (f : F a) : Kp F H (L2.upd G a o') := k.trans (Kp.updL h f) fun _ z => .inl z
theorem Kp.andD {F : Addr → Prop} {H G : Hp} {a : Addr} {xs : List (Key × V)} {o' : HO} (k : Kp F H G) (h : G a = some (.dK xs)) (f : F a) : Kp F H (L2.upd G a o') := k.trans (Kp.updD h f) fun _ z => .inl z
theorem Kp.andN {F : Addr → Prop} {H G : Hp} {a : Addr} {o' : HO} (k : Kp F H G) (h : G a = none) : Kp F H (L2.upd G a o') := k.trans (Kp.new h) fun _ z => .inl z
/-- what is new behind it was new ahead of it -/
theorem Kp.free {F : Addr → Prop} {H G : Hp} {a : Addr} (k : Kp F H G) (h : G a = none) (n : F a → H a = none) : H a = none := by
  by_cases f : F a
  · exact n f
  · cases e : H a with
    | none => rfl
    | some o =>
      rw [k a o e fun _ => f] at h
      cases h
theorem Kt.ext {F : Addr → Prop} {H G : Hp} (e : LamX.ExtN H G) : Kt F H G := fun b o q t _ => e b o q t
theorem Kt.none {F : Addr → Prop} {H G : Hp} {a : Addr} (k : Kt F H G) (m : ∀ o, H a = some o → (∀ ps, o ≠ .tbl ps) ∧ (Mu o → ¬ F a)) (h : G a = Option.none) : H a = Option.none := by
  cases e : H a with
  | none => rfl
  | some o =>
    rw [k a o e (m o e).1 (m o e).2] at h
    cases h
theorem Kp.tabs {F : Addr → Prop} {H G : Hp} {T : List (Addr × Str)} (k : Kp F H G) (t : LamX.Tabs T H) : LamX.Tabs T G := fun p hp => by
  obtain ⟨ps, h1, h2, h3⟩ := t p hp
  exact ⟨ps, k _ _ h1 (fun m => nomatch m), h2, fun pos cv hc => by
    obtain ⟨c, e1, e2⟩ := h3 pos cv hc
    exact ⟨c, e1, k _ _ e2 fun m => by unfold LamX.CodeO at m; exact nomatch m⟩⟩
theorem Kt.tup {F : Addr → Prop} {H G : Hp} (k : Kt F H G) {a : Addr} {xs : List V} (h : H a = some (.tup xs)) : G a = some (.tup xs) := k _ _ h (fun _ z => nomatch z) fun m => nomatch m
theorem Kt.lst {F : Addr → Prop} {H G : Hp} (k : Kt F H G) {a : Addr} {xs : List V} (h : H a = some (.lst xs)) (n : ¬ F a) : G a = some (.lst xs) := k _ _ h (fun _ z => nomatch z) fun _ => n
theorem Kt.dK {F : Addr → Prop} {H G : Hp} (k : Kt F H G) {a : Addr} {xs : List (Key × V)} (h : H a = some (.dK xs)) (n : ¬ F a) : G a = some (.dK xs) := k _ _ h (fun _ z => nomatch z) fun _ => n
theorem Kt.ins {F : Addr → Prop} {H G : Hp} (k : Kt F H G) {a C dx : Addr} {fs : List (Str × V)} (h : H a = some (.ins C dx fs)) (n : ¬ F a) : G a = some (.ins C dx fs) := k _ _ h (fun _ z => nomatch z) fun _ => n

theorem upd_none {H : Hp} {a b : Addr} {o : HO} (h : upd H a o b = none) : b ≠ a ∧ H b = none := by
  by_cases e : b = a
  · rw [e, upd_same] at h
    cases h
  · rw [upd_ne e] at h
    exact ⟨e, h⟩

/-! ### 2. Data: what is written into blocks -/
def leafV : V → Bool
  | .non => true
  | .bl _ => true
  | .int _ => true
  | .str x => PyData.strOk x
  | _ => false
def SumD (P : V → Nat → Nat → Prop) : List V → Nat → Nat → Prop
  | [], w, z => w = 0 ∧ z = 0
  | v :: vs, w, z => ∃ x y a b, P v x a ∧ SumD P vs y b ∧ w = x + y ∧ z = a + b
/-- v is a leaf, or tuples within one another, at most n deep; w is its weight, z how many things it has -/
def Dat (H : Hp) : Nat → V → Nat → Nat → Prop
  | 0, _, _, _ => False
  | n + 1, v, w, z => (leafV v = true ∧ w = 1 ∧ z = 1) ∨ ∃ a xs u, v = .ref a ∧ H a = some (.tup xs) ∧ SumD (Dat H n) xs w u ∧ z = u + 1
theorem SumD.imp {P Q : V → Nat → Nat → Prop} (h : ∀ v w z, P v w z → Q v w z) : ∀ {xs : List V} {w z : Nat}, SumD P xs w z → SumD Q xs w z
  | [], _, _, e => e
  | _ :: _, _, _, ⟨x, y, a, b, p, r, e⟩ => ⟨x, y, a, b, h _ _ _ p, SumD.imp h r, e⟩
theorem SumD.mem {P : V → Nat → Nat → Prop} : ∀ {xs : List V} {w z : Nat}, SumD P xs w z → ∀ v ∈ xs, ∃ x a, P v x a
  | [], _, _, _, _, h => by cases h
  | _ :: _, _, _, ⟨x, _, a, _, p, r, _⟩, v, h => by
    rcases List.mem_cons.mp h with e | e
    · exact ⟨x, a, e ▸ p⟩
    · exact SumD.mem r v e
theorem SumD.app {P : V → Nat → Nat → Prop} : ∀ {xs ys : List V} {w z u t : Nat}, SumD P xs w z → SumD P ys u t → SumD P (xs ++ ys) (w + u) (z + t)
  | [], _, _, _, _, _, ⟨e, f⟩, r => by
    subst e f
    rw [Nat.zero_add, Nat.zero_add]
    exact r
  | _ :: _, _, _, _, _, _, ⟨x, y, a, b, p, q, e, f⟩, r => ⟨x, _, a, _, p, SumD.app q r, by omega, by omega⟩
theorem SumD.of_app {P : V → Nat → Nat → Prop} : ∀ {xs ys : List V} {w z : Nat}, SumD P (xs ++ ys) w z → ∃ x a y b, SumD P xs x a ∧ SumD P ys y b ∧ w = x + y ∧ z = a + b
  | [], _, _, _, r => ⟨0, 0, _, _, ⟨rfl, rfl⟩, r, by omega, by omega⟩
  | _ :: _, _, _, _, ⟨x, y, a, b, p, q, e, f⟩ => by
    obtain ⟨x', a', y', b', p', q', e', f'⟩ := SumD.of_app q
    exact ⟨_, _, y', b', ⟨x, x', a, a', p, p', rfl, rfl⟩, q', by omega, by omega⟩
theorem Dat.pos {H : Hp} : ∀ {n : Nat} {v : V} {w z : Nat}, Dat H n v w z → 1 ≤ z
  | 0, _, _, _, h => h.elim
  | _ + 1, _, _, _, .inl h => by omega
  | _ + 1, _, _, _, .inr ⟨a, xs, u, e, h, s, f⟩ => by omega
theorem SumD.len {H : Hp} {n : Nat} : ∀ {xs : List V} {w z : Nat}, SumD (Dat H n) xs w z → xs.length ≤ z
  | [], _, _, _ => Nat.zero_le _
  | _ :: _, _, _, ⟨x, y, a, b, p, r, e, f⟩ => by
    have h1 := p.pos
    have h2 := SumD.len r
    rw [List.length_cons]
    omega
theorem Dat.kt {F : Addr → Prop} {H G : Hp} (k : Kt F H G) : ∀ {n : Nat} {v : V} {w z : Nat}, Dat H n v w z → Dat G n v w z
  | 0, _, _, _, h => h
  | _ + 1, _, _, _, .inl h => .inl h
  | _ + 1, _, _, _, .inr ⟨a, xs, u, e, h, s, f⟩ => .inr ⟨a, xs, u, e, k.tup h, s.imp fun _ _ _ p => Dat.kt k p, f⟩
theorem Dat.up {H : Hp} : ∀ {n : Nat} {v : V} {w z : Nat}, Dat H n v w z → Dat H (n + 1) v w z
  | 0, _, _, _, h => h.elim
  | _ + 1, _, _, _, .inl h => .inl h
  | _ + 1, _, _, _, .inr ⟨a, xs, u, e, h, s, f⟩ => .inr ⟨a, xs, u, e, h, s.imp fun _ _ _ p => Dat.up p, f⟩
theorem Dat.le {H : Hp} {n m : Nat} {v : V} {w z : Nat} (d : Dat H n v w z) (h : n ≤ m) : Dat H m v w z := by
  induction m with
  | zero =>
    have : n = 0 := by omega
    subst this
    exact d
  | succ m ih =>
    by_cases e : n = m + 1
    · subst e
      exact d
    · exact (ih (by omega)).up
/-- x and y are the same data: leaves, tuples and lists of the same -/
def Al (H : Hp) : Nat → V → V → Prop
  | 0, _, _ => False
  | n + 1, x, y => (leafV y = true ∧ x = y) ∨ ∃ (a b : Addr) (xs ys : List V), x = .ref a ∧ y = .ref b ∧ ((H a = some (.tup xs) ∧ H b = some (.tup ys)) ∨ (H a = some (.lst xs) ∧ H b = some (.lst ys))) ∧ xs.length = ys.length ∧ (ys.length : Int) < 2 ^ 62 ∧ ∀ (i : Nat) (x y : V), xs[i]? = some x → ys[i]? = some y → Al H n x y
theorem SumD.mem2 {P : V → Nat → Nat → Prop} : ∀ {xs : List V} {w z : Nat}, SumD P xs w z → ∀ v ∈ xs, ∃ x a, P v x a ∧ a ≤ z
  | [], _, _, _, _, h => by cases h
  | _ :: _, _, _, ⟨x, _, a, b, p, r, _, e⟩, v, h => by
    rcases List.mem_cons.mp h with q | q
    · exact ⟨x, a, q ▸ p, by omega⟩
    · obtain ⟨x', a', p', l⟩ := SumD.mem2 r v q
      exact ⟨x', a', p', by omega⟩
theorem Dat.al {H : Hp} : ∀ {n : Nat} {v : V} {w z : Nat}, Dat H n v w z → z ≤ 10000 → Al H n v v
  | 0, _, _, _, h, _ => h.elim
  | _ + 1, _, _, _, .inl h, _ => .inl ⟨h.1, rfl⟩
  | _ + 1, _, _, _, .inr ⟨a, xs, u, e, h, s, f⟩, hz => .inr ⟨a, a, xs, xs, e, e, .inl ⟨h, h⟩, rfl, by have := s.len; omega, fun i x y hx hy => by
    rw [hx] at hy
    cases hy
    obtain ⟨w, z, d, l⟩ := s.mem2 x (List.mem_of_getElem? hx)
    exact d.al (by omega)⟩
theorem Al.leaf {H : Hp} {n : Nat} {v : V} (h : leafV v = true) : Al H (n + 1) v v := .inl ⟨h, rfl⟩
end K5

set_option Elab.async false
set_option linter.all false
set_option maxRecDepth 100000
set_option maxHeartbeats 1000000
/-! ### Rules for what the layer lacks: xs.extend(t), bs.count(True), d.update(pairs), zip(xs, t) -/
namespace K5
open PySem PySem.Spec PyProof.Rows L2
theorem ext_tup (l : Addr) (xs : Array Value) (n : Nat) (b : Addr) (ys : Array Value) (m : Nat) (dd : Option Addr) (sl : Array (Option Value))
    (h0 : ¬(!xs.isEmpty && Builtin.List.listTooLong (xs.size + ys.size)) = true) (h1 : xs.size ≤ sizeLine) (h2 : xs.size + ys.size ≤ sizeLine + 1) :
    Meets (Builtin.«list.extend» ⟨[.ref l, .ref b], []⟩) (fun _ R s => s.heap.get? l = some { cls := .type "list", dict := none, data := .seq xs n, slots := #[] } ∧ s.heap.get? b = some ⟨.type "tuple", dd, .seq ys m, sl⟩ ∧
      R (.ok (.ret Value.none)) { s with heap := s.heap.update l (Obj.mapSeq fun x => x ++ ys), toks := s.toks }) :=
  .of_wp fun prog w A R s h => by
    obtain ⟨hp, g, d, tk, os⟩ := s
    obtain ⟨hl, hb, h⟩ := h
    have f1 := PySem.AutoSeq1.idx_int
    have f2 := PySem.AutoSeq1.sub_tuple_tuple
    have f3 := PySem.AutoSeq1.sub_list_list
    have f4 := PySem.AutoSeq1.sub_tuple_list
    have f5 := PySem.AutoSeq1.sub_list_tuple
    have hz' : (xs ++ ys).size ≤ sizeLine + 1 := by rw [Array.size_append]; exact h2
    wp_walk using (wpAny_updateSeq hl rfl (hz := h1) (_hz' := hz')), wpAny_loadPart' hl, wpAny_loadPart' hb
    exact ⟨_, rfl, h⟩
def rExtT : V → List V → Hp → VK → Prop := fun x vs H Q => ∃ l b xs zs, x = .ref l ∧ vs = [.ref b] ∧ H l = some (.lst xs) ∧ H b = some (.tup zs) ∧ xs.length + zs.length ≤ sizeLine ∧ Q .non (upd H l (.lst (xs ++ zs)))
section
variable {X : Cx}
theorem mt_extT : MtM X "list.extend" rExtT := by
  intro pins s σ H x vs v us Q I rx rv h
  obtain ⟨l, b, xs, zs, rfl, rfl, hH, hB, hz, q⟩ := h
  cases rx
  obtain ⟨u, rfl, ru⟩ := rv.one
  cases ru
  obtain ⟨z, ja, n, r, hl, e⟩ := I.lstM hH
  obtain ⟨z2, jb, r2, ⟨oc, od, oda, osl⟩, e2, c2, m, d2⟩ := (show ObjOk X.prog X.w H s.heap b (.tup zs) from I.hok b _ hB)
  dsimp only at c2 d2
  subst c2 d2
  have hl2 := r2.length
  have fits : ja.toArray.size + jb.toArray.size ≤ sizeLine := by
    rw [List.size_toArray, List.size_toArray, ← hl, ← hl2]
    exact hz
  have door : ¬ (!ja.toArray.isEmpty && Builtin.List.listTooLong (ja.toArray.size + jb.toArray.size)) = true := by
    rw [notLongL fits, Bool.and_false]; exact Bool.false_ne_true
  refine call_meets F.slot_list_extend ⟨_, e, rfl⟩ F.entry_list_extend (F.args_list_extend_2 _ _) (ext_tup l ja.toArray n b jb.toArray m od osl door (by rw [List.size_toArray]; omega) (by omega)) ⟨e, e2, ?_⟩
  exact ⟨.non, _, I.lset (its' := ja ++ jb) hH e (by simp) (r.append r2) (by rw [List.length_append]; exact hz), rfl, q⟩
/-- bs.count(True) -/
def rCntB (K : PySem.W.Frag) : V → List V → Hp → VK → Prop := fun x xs H Q => ∃ (p : Addr) (bs : List Bool), x = .ref p ∧ xs = [.bl true] ∧ SqL K H p (bs.map V.bl) ∧ Q (.int (bs.count true : Nat)) H
theorem flat_bools (bs : List Bool) : (bs.map V.bl).all flatV = true := by
  rw [List.all_map]
  exact List.all_eq_true.mpr fun _ _ => rfl
theorem countB : ∀ {bs : List Bool} {us : List Value}, Vals (bs.map V.bl) us → us.countP (eqU (.bl true)) = bs.count true
  | [], _, r => by
    cases r
    rfl
  | b :: bs, _, r => by
    rw [List.map_cons] at r
    cases r with
    | cons h t =>
      rw [List.countP_cons, countB t, List.count_cons]
      have e : eqU (.bl true) _ = eqV (.bl b) (.bl true) := eqU_of h rfl
      rw [e]
      cases b <;> rfl
theorem mt_cntB : MtR X "list.count" (rCntB X.K) := by
  intro pins s σ H x xs v us Q I rx rxs h
  obtain ⟨p, bs, rfl, rfl, hs, q⟩ := h
  cases rx
  obtain ⟨u, rfl, ru⟩ := rxs.one
  obtain ⟨its, rv, ⟨⟨cls, dd, data, sl⟩, n, ho, hc, hdn, hd⟩, hlen⟩ := I.list hs
  dsimp only at hc hd
  subst hc hd
  refine call_meets PySem.F.slot_list_count ⟨_, ho, rfl⟩ PySem.F.entry_list_count (PySem.F.args_list_count_2 _ _) (SeqAt.list_countAt p its.toArray n dd sl u (eqU (.bl true))) ⟨ho, fun y hy => mem_eqAt ru rfl rv (flat_bools bs) y (by simpa using hy), ?_⟩
  refine ⟨.int (bs.count true : Nat), H, I.tok _, ⟨s.toks, ?_⟩, q⟩
  show Value.int ((its.toArray.toList.countP (eqU (.bl true)) : Nat) : Int) s.toks = _
  rw [show its.toArray.toList.countP (eqU (.bl true)) = bs.count true from countB rv]
end
end K5
namespace K5
open PySem PySem.Spec PyProof.Rows L2
section
variable {X : Cx} {pins : List (Addr × Obj)} {σ : L2.St} {H : Hp} {s : Shared}
theorem uvOf (I : Inv X pins σ H s) : ∀ {ps : List Addr} {kvs : List (Key × V)}, Paired (fun p kv => SqT X.K H p [kV kv.1, kv.2]) ps kvs →
    ∃ (rs : List (Key × Value)) (uv : List (Value × Value)), KV kvs rs ∧ rs.length = ps.length ∧ uv.length = ps.length ∧
      ∀ (j : Nat) (k v : Value), uv[j]? = some (k, v) → ∃ (b : Addr) (kk : Key), ps[j]? = some b ∧ IsTup s.heap b #[k, v] ∧ rs[j]? = some (kk, v) ∧ keyIs kk k = true
  | _, _, .nil => ⟨[], [], .nil, rfl, rfl, fun j k v e => by simp at e⟩
  | _, _, .cons (a := p) (b := kv) h t => by
    obtain ⟨rs, uv, r, l1, l2, hp⟩ := uvOf I t
    obtain ⟨its, rv, ht, _⟩ := I.tuple h
    obtain ⟨u, y, ei, ru, ry⟩ := vals2 rv
    subst ei
    refine ⟨(kv.1, y) :: rs, (u, y) :: uv, .cons ⟨rfl, ry⟩ r, by rw [List.length_cons, List.length_cons, l1], by rw [List.length_cons, List.length_cons, l2], fun j k v e => ?_⟩
    cases j with
    | zero =>
      have e' : (u, y) = (k, v) := Option.some.inj e
      cases e'
      exact ⟨p, kv.1, rfl, ht, rfl, kV_is (P := X.prog) (w := X.w) ru⟩
    | succ j => exact hp j k v (by simpa using e)
def rUpdP (K : PySem.W.Frag) : V → List V → Hp → VK → Prop := fun x xs H Q => ∃ (d a : Addr) (ps : List Addr) (acc kvs : List (Key × V)), x = .ref d ∧ xs = [.ref a] ∧ H d = some (.dK acc) ∧ SqL K H a (ps.map V.ref) ∧
  Paired (fun p kv => SqT K H p [kV kv.1, kv.2]) ps kvs ∧ acc.length + ps.length ≤ sizeLine ∧ Q .non (upd H d (.dK (mergeK acc kvs)))
theorem mt_updP (hcalm : X.calm = true) : MtR X "dict.update" (rUpdP X.K) := by
  intro pins s σ H x xs v us Q I rx rxs h
  obtain ⟨d, a, ps, acc, kvs, rfl, rfl, hd, hq, hp, hz, q⟩ := h
  cases rx
  obtain ⟨u, rfl, ru⟩ := rxs.one
  cases ru
  obtain ⟨its, rv, ⟨oa, n, ho, hc, hdn, hdat⟩, _⟩ := I.list hq
  have ei := refs_at rv
  subst ei
  obtain ⟨rs, uv, rel, l1, l2, hpr⟩ := uvOf I hp
  obtain ⟨zd, hsys, vs, rd, hD⟩ := (show ObjOk X.prog X.w H s.heap d (.dK acc) from I.hok d _ hd)
  have ok : PlainSeq "list" s.heap a (ps.map Value.ref).toArray ∧ PairItems s.heap (ps.map Value.ref).toArray (fun j => ps.getD j 0) uv := by
    refine ⟨⟨oa, n, ho, hc, hdn, hdat⟩, by simp [l2], fun j k v e => ?_⟩
    obtain ⟨b, kk, e1, e2, _⟩ := hpr j k v e
    have eg : ps.getD j 0 = b := by rw [List.getD_eq_getElem?_getD, e1]; rfl
    refine ⟨?_, ?_⟩
    · show (ps.map Value.ref).toArray[j]? = some (.ref (ps.getD j 0))
      rw [eg]
      simp [e1]
    · show PairAt s.heap (ps.getD j 0) k v
      rw [eg]
      exact .inl e2
  obtain ⟨od, hod, hcd⟩ := hD.typeIs (s := s)
  have hdf : d ∉ a :: (List.range uv.length).map (fun j => ps.getD j 0) := fun hm => by
    rcases List.mem_cons.mp hm with e | hm
    · subst e
      rw [ho] at hod
      cases hod
      rw [hc] at hcd
      exact absurd (Value.type.inj hcd) (by decide)
    · obtain ⟨j, hj, e⟩ := List.mem_map.mp hm
      have hj := List.mem_range.mp hj
      obtain ⟨b, kk, e1, ⟨ob, hob, hcb, _⟩, _⟩ := hpr j uv[j].1 uv[j].2 (List.getElem?_eq_getElem hj)
      have eg : ps.getD j 0 = b := by rw [List.getD_eq_getElem?_getD, e1]; rfl
      rw [eg] at e
      subst e
      rw [hob] at hod
      cases hod
      rw [hcb] at hcd
      exact absurd (Value.type.inj hcd) (by decide)
  have la : vs.length = acc.length := (Paired.length rd).symm
  refine call_update_pairs (knd := mixKind X.prog X.w) (kvs := rs) (PairArg.list a _ _ uv) (I.ok.hd hcalm) ok hdf ⟨by rw [l1, l2], fun i key v e => ?_⟩ hD (by rw [l2, la]; exact hz) fun h' tk hD' k => ?_
  · obtain ⟨b, kk, _, _, e3, e4⟩ := hpr i key v e
    exact ⟨kk, e3, e4⟩
  · have hlen : (mergeK acc kvs).length ≤ sizeLine := by
      refine Nat.le_trans (length_mergeK kvs acc) ?_
      rw [show kvs.length = ps.length by rw [← l1]; exact Paired.length rel]
      exact hz
    obtain ⟨oe, hoe, _⟩ := hD'.typeIs (s := { s with heap := h' })
    refine ⟨.non, _, I.write (t' := tk) (o := .dK (mergeK acc kvs)) (by rw [hd]; trivial) (.inl rfl) (fun b o nb e => k b o nb (fun z => nomatch z) e) ⟨oe, hoe⟩ ⟨hlen, hsys, _, KV.merge rel rd, hD'⟩, rfl, q⟩
end
end K5

set_option Elab.async false
set_option linter.all false
set_option maxRecDepth 100000
set_option maxHeartbeats 1000000
/-! ### zip of a list and of a list or a tuple -/
namespace K5
open PySem PySem.Spec PyProof.Rows L2
/-- how the second one is walked: its iterator's state, and what it stands for -/
structure Snd (P : Program) (w : World) (j b : Addr) where
  st : Nat → Heap → Prop
  own : Heap → Array Value → Prop
  obj : ∀ i h, st i h → ∃ o, h.get? j = some o ∧ ∀ v, o.data ≠ .cell v
  keep : ∀ i h g, st i h → (∀ o, h.get? j = some o → g.get? j = some o) → st i g
  draws : ∀ (A : Around) (ys : Array Value), A.handled = none → Draws P w A j [j, b] ys.size (fun i v => ys[i]? = some v) (fun i h => st i h ∧ own h ys)
def sndL (P : Program) (w : World) (j b : Addr) (ne : b ≠ j) : Snd P w j b where
  st := fun i h => h.IsListIter j b i
  own := fun h ys => h.IsList b ys
  obj := fun i h ⟨o, e, _, d⟩ => ⟨o, e, fun v q => by rw [d] at q; cases q⟩
  keep := fun i h g x k => x.at k
  draws := fun A ys hh => Draws.list hh j b ne ys
def sndT (P : Program) (w : World) (j b : Addr) (ne : b ≠ j) : Snd P w j b where
  st := fun i h => h.IsTupleIter j b i
  own := fun h ys => h.IsTuple b ys
  obj := fun i h ⟨o, e, _, d⟩ => ⟨o, e, fun v q => by rw [d] at q; cases q⟩
  keep := fun i h g x k => x.at k
  draws := fun A ys hh => Draws.tuple hh j b ne ys
/-- one turn after another: the items in new pairs -/
def ItM (K : PySem.W.Frag) (a : Addr) (sq : Hp → Prop) (xs ys : List V) : It where
  go := fun i H => SqL K H a xs ∧ sq H ∧ i < xs.length ∧ i < ys.length
  yld := fun i H v G => ∃ T x y, v = .ref T ∧ H T = none ∧ G = upd H T (.tup [x, y]) ∧ xs[i]? = some x ∧ ys[i]? = some y
  stop := fun i H => SqL K H a xs ∧ sq H ∧ i ≤ xs.length ∧ i ≤ ys.length ∧ (i = xs.length ∨ i = ys.length)
theorem turnM {P : Program} {w : World} {K : PySem.W.Frag} {elts : List Expr} {kk : Nat} {tpos : Pos} {a b z TI TO i1 i2 : Addr} {xs ys : List V} {sq : Hp → Prop} (D : Snd P w i2 b) (S : ZipSep2 z TI TO i1 i2 [i1, a] [i2, b]) (na : a ≠ i1)
    (rd : ∀ {X : Cx} {pins : List (Addr × Obj)} {σ : L2.St} {H : Hp} {s : Shared}, X.K = K → Inv X pins σ H s → sq H → ∃ its : List Value, Vals ys its ∧ D.own s.heap its.toArray) :
    Turn P w K (.Tuple elts kk tpos) (ItM K a sq xs ys) [z, TI, TO, i1, i2] z (fun i h => IsZip h z TI TO .none ∧ IsTupOf2 h TI (.ref i1) (.ref i2) ∧ (∃ x y, IsTupOf2 h TO x y) ∧ h.IsListIter i1 a i ∧ D.st i h) where
  mem := List.mem_cons_self
  obj := fun i h ⟨hz, hTI, ⟨x, y, hTO⟩, ⟨o1, e1, _, d1⟩, h2⟩ c hc => by
    simp only [List.mem_cons, List.not_mem_nil, or_false] at hc
    rcases hc with rfl | rfl | rfl | rfl | rfl
    · exact ⟨_, hz, nofun⟩
    · exact ⟨_, hTI, nofun⟩
    · exact ⟨_, hTO, nofun⟩
    · exact ⟨o1, e1, fun v q => by rw [d1] at q; cases q⟩
    · exact D.obj i h h2
  keep := fun i h g ⟨hz, hTI, ⟨x, y, hTO⟩, h1, h2⟩ k =>
    ⟨k _ (by simp) _ hz, k _ (by simp) _ hTI, ⟨x, y, k _ (by simp) _ hTO⟩, h1.at fun o q => k _ (by simp) o q, D.keep i h g h2 fun o q => k _ (by simp) o q⟩
  item := by
    intro X hP hw hK hc i pins s σ H E I hf ⟨hz, hTI, ⟨x0, y0, hTO⟩, h1, h2⟩ ⟨qx, qy, lx, ly⟩
    subst hP hw
    obtain ⟨ja, ra, pa, _⟩ := I.list (by rw [hK]; exact qx)
    obtain ⟨jb, rb, pb⟩ := rd hK I qy
    have la := ra.length
    have lb := rb.length
    have hh := I.ok.hd hc
    refine wpAny_pyNext_zipD2_item S (Draws.list (A := X.A.in1) hh i1 a na ja.toArray) (D.draws X.A.in1 jb.toArray hh) hz hTI hTO ⟨h1, pa.isList⟩ ⟨h2, pb⟩ (by simp; omega) (by simp; omega) fun u1 u2 g tk e1 e2 z' TO' n1 n2 hT hsz hk => ?_
    refine ⟨_, rfl, wpAny_letOwnedTupleGo_zip (s := { s with heap := g, toks := tk }) z' fun g' z'' sb => ?_⟩
    have hzl : z < s.heap.objs.size := Heap.lt_size hz
    have old : ∀ c o, c ∉ [z, TI, TO, i1, i2] → s.heap.get? c = some o → g'.get? c = some o := fun c o nc q => by
      simp only [List.mem_cons, List.not_mem_nil, or_false, not_or] at nc
      exact (sb.2 c nc.1).trans (hk c o nc.1 nc.2.2.1 nc.2.2.2.1 nc.2.2.2.2 q)
    obtain ⟨x, hx⟩ : ∃ x, xs[i]? = some x := ⟨_, List.getElem?_eq_getElem lx⟩
    obtain ⟨y, hy⟩ : ∃ y, ys[i]? = some y := ⟨_, List.getElem?_eq_getElem ly⟩
    obtain ⟨v1, hv1, r1⟩ := ra.get hx
    obtain ⟨v2, hv2, r2⟩ := rb.get hy
    have e1' : ja[i]? = some u1 := by simpa using e1
    have e2' : jb[i]? = some u2 := by simpa using e2
    rw [hv1] at e1'
    rw [hv2] at e2'
    cases e1'
    cases e2'
    have hT' : g'.get? s.heap.objs.size = some { cls := .type "tuple", data := .seq #[u1, u2] } := (sb.2 _ (Nat.ne_of_gt hzl)).trans hT
    have new : ObjOk X.prog X.w (upd H s.heap.objs.size (.tup [x, y])) g' s.heap.objs.size (.tup [x, y]) := ⟨by show 2 ≤ sizeLine; decide, [u1, u2], .cons r1 (.cons r2 .nil), ⟨_, hT', rfl, _, rfl⟩⟩
    refine ⟨.ref s.heap.objs.size, _, I.turnedNew (t' := tk) old hf (Nat.le_refl _) new, rfl, ⟨_, x, y, rfl, I.hok.fresh (Nat.le_refl _), rfl, hx, hy⟩, ⟨z'', (sb.2 _ S.TIz).trans (hk _ _ S.TIz S.TITO S.TIi1 S.TIi2 hTI), ⟨u1, u2, (sb.2 _ S.TOz).trans TO'⟩, n1.1.at fun o q => (sb.2 _ S.zi1.symm).trans q, D.keep _ _ _ n2.1 fun o q => (sb.2 _ S.zi2.symm).trans q⟩, fun c hcm => ?_⟩
    have hlt : c < s.heap.objs.size := by
      simp only [List.mem_cons, List.not_mem_nil, or_false] at hcm
      rcases hcm with rfl | rfl | rfl | rfl | rfl
      · exact hzl
      · exact Heap.lt_size hTI
      · exact Heap.lt_size hTO
      · obtain ⟨_, q, _⟩ := h1
        exact Heap.lt_size q
      · obtain ⟨_, q, _⟩ := D.obj i _ h2
        exact Heap.lt_size q
    rw [upd_ne (Nat.ne_of_lt hlt)]
    exact (hf c hcm).1
  done := by
    intro X hP hw hK hc i pins s σ H E I hf ⟨hz, hTI, ⟨x0, y0, hTO⟩, h1, h2⟩ ⟨qx, qy, lx, ly, hend⟩
    subst hP hw
    obtain ⟨ja, ra, pa, _⟩ := I.list (by rw [hK]; exact qx)
    obtain ⟨jb, rb, pb⟩ := rd hK I qy
    have la := ra.length
    have lb := rb.length
    have hh := I.ok.hd hc
    refine wpAny_pyNext_zipD2_end S (Draws.list (A := X.A.in1) hh i1 a na ja.toArray) (D.draws X.A.in1 jb.toArray hh) hz hTI hTO ⟨h1, pa.isList⟩ ⟨h2, pb⟩ (by simp; omega) (by simp; omega) (by simp; omega) fun g tk hk => ⟨rfl, I.turnedL (t' := tk) (ch := [z, TI, TO, i1, i2]) (fun c o nc q => ?_) hf⟩
    simp only [List.mem_cons, List.not_mem_nil, or_false, not_or] at nc
    exact hk c o nc.1 nc.2.2.1 nc.2.2.2.1 nc.2.2.2.2 q
  self := fun A i s Q E st h => wpAny_pyIter_zip st.1 h
def iZipM (K : PySem.W.Frag) (ta : TA) : TI := fun σ H R => ta σ H fun vs G => ∃ (a b : Addr) (xs ys : List V), vs = [.ref a, .ref b] ∧ SqL K G a xs ∧ ((SqL K G b ys ∧ R (ItM K a (fun J => SqL K J b ys) xs ys) G) ∨ (SqT K G b ys ∧ R (ItM K a (fun J => SqT K J b ys) xs ys) G))
theorem pi_zipM {X : Cx} {e e2 : Expr} {ta : TA} {p pos tpos : Pos} {elts : List Expr} {kk : Nat} (hg : Gl X "zip") (hm : X.mg "zip" = none) (ha : PA X [e, e2] ta)
    (hs : starEach [e, e2] X.env = (false, eval e X.env) :: starEach [e2] X.env := by rfl) (hpl : (backTo pos (starEach [e2] X.env)).any (·.1) = false := by rfl) :
    PI X (.Tuple elts kk tpos) (.Call (.Name "zip" p) [e, e2] [] pos) (iZipM X.K ta) := by
  refine ⟨fun pins s σ H R I h => Call_ (ld_blt I hg hm PyProof.Rows.boot_zip (PyProof.Rows.callWith_type1 (thn (ha.run pos pins s σ H _ I h) fun us s1 ⟨vs, G, I1, r1, a, b, xs, ys, ex, qx, q1⟩ => ?_) hs hpl))⟩
  subst ex
  obtain ⟨u1, u2, eu, ra, rb⟩ := vals2 r1
  subst eu
  cases ra
  cases rb
  have lt5 : ∀ {c n : Nat}, c ∈ [n + 4, n + 2, n + 3, n, n + 1] → n ≤ c := fun {c n} hc => by
    simp only [List.mem_cons, List.not_mem_nil, or_false] at hc
    omega
  have fr : ∀ c, c ∈ [s1.heap.objs.size + 4, s1.heap.objs.size + 2, s1.heap.objs.size + 3, s1.heap.objs.size, s1.heap.objs.size + 1] → FpOk X pins G c := fun c hc => I1.fpOk (lt5 hc) (I1.hok.fresh (lt5 hc))
  obtain ⟨ja, va, pa, _⟩ := I1.list qx
  have na : a ≠ s1.heap.objs.size := Nat.ne_of_lt pa.lt
  rcases q1 with ⟨qy, q⟩ | ⟨qy, q⟩
  · obtain ⟨jb, vb, pb, _⟩ := I1.list qy
    have nb : b ≠ s1.heap.objs.size + 1 := Nat.ne_of_lt (Nat.lt_succ_of_lt pb.lt)
    refine zip_begins2 (begins_list a ja.toArray) (begins_list b jb.toArray) pa.isList pb.isList fun g hz hTI hTO e1 e2 hsz hk => wpAny_pyIter_zip hz ?_
    refine ⟨_, _, _, _, G, rfl, I1.kept (t' := s1.toks) hk, turnM (sndL X.prog X.w (s1.heap.objs.size + 1) b nb) (zip_sep2 (fp1 := [a]) (fp2 := [b]) (by simpa using pa.lt) (by simpa using pb.lt)) na (fun {Y pn τ J t} eK IY sq => ?_), ⟨hz, hTI, ⟨_, _, hTO⟩, ⟨_, e1, rfl, rfl⟩, ⟨_, e2, rfl, rfl⟩⟩, fr, q⟩
    obtain ⟨jc, vc, pc, _⟩ := IY.list (by rw [eK]; exact sq)
    exact ⟨jc, vc, pc.isList⟩
  · obtain ⟨jb, vb, pb, _⟩ := I1.tuple qy
    have lb : b < s1.heap.objs.size := by
      obtain ⟨_, e, _⟩ := pb
      exact Heap.lt_size e
    have nb : b ≠ s1.heap.objs.size + 1 := Nat.ne_of_lt (Nat.lt_succ_of_lt lb)
    refine zip_begins2 (begins_list a ja.toArray) (begins_tuple b jb.toArray) pa.isList pb fun g hz hTI hTO e1 e2 hsz hk => wpAny_pyIter_zip hz ?_
    refine ⟨_, _, _, _, G, rfl, I1.kept (t' := s1.toks) hk, turnM (sndT X.prog X.w (s1.heap.objs.size + 1) b nb) (zip_sep2 (fp1 := [a]) (fp2 := [b]) (by simpa using pa.lt) (by simpa using lb)) na (fun {Y pn τ J t} eK IY sq => ?_), ⟨hz, hTI, ⟨_, _, hTO⟩, ⟨_, e1, rfl, rfl⟩, ⟨_, e2, rfl, rfl⟩⟩, fr, q⟩
    obtain ⟨jc, vc, pc, _⟩ := IY.tuple (by rw [eK]; exact sq)
    exact ⟨jc, vc, pc⟩
/-- a loop over such a zip -/
theorem for_zipM {K : PySem.W.Frag} {a : Addr} {sq : Hp → Prop} {xs ys : List V} {g : TG} {tb : TS} {D : Ends} {σ : L2.St} {H : Hp} (Pv : Nat → L2.St → Hp → Prop) (h0 : Pv 0 σ H) (hq : ∀ i σ H, Pv i σ H → SqL K H a xs ∧ sq H)
    (hs : ∀ (i : Nat) (x y : V) (T : Addr) (σ : L2.St) (H : Hp), xs[i]? = some x → ys[i]? = some y → Pv i σ H → H T = none → g (.ref T) σ (upd H T (.tup [x, y])) fun σ2 H2 => tb { D with nx := Pv (i + 1), ct := Pv (i + 1), bk := D.nx } σ2 H2)
    (hd : ∀ σ H, Pv (min xs.length ys.length) σ H → D.nx σ H) :
    ∃ W : Nat → Nat → L2.St → Hp → Prop, (∃ m, W 0 m σ H) ∧ ∀ i m σ H, W i m σ H →
      ((ItM K a sq xs ys).stop i H ∧ D.nx σ H) ∨ ((ItM K a sq xs ys).go i H ∧ ∃ N : L2.St → Hp → Prop, (∀ σ' H', N σ' H' → ∃ m', m' < m ∧ W (i + 1) m' σ' H') ∧ ∀ v H', (ItM K a sq xs ys).yld i H v H' → g v σ H' fun σ2 H2 => tb { D with nx := N, ct := N, bk := D.nx } σ2 H2) := by
  refine ⟨fun i m σ H => m = min xs.length ys.length - i ∧ i ≤ min xs.length ys.length ∧ Pv i σ H, ⟨_, rfl, Nat.zero_le _, h0⟩, ?_⟩
  rintro i m σ H ⟨rfl, hi, p⟩
  obtain ⟨qx, qy⟩ := hq i σ H p
  by_cases lt : i < min xs.length ys.length
  · refine .inr ⟨⟨qx, qy, by omega, by omega⟩, Pv (i + 1), fun σ' G p' => ⟨min xs.length ys.length - (i + 1), by omega, rfl, by omega, p'⟩, fun v G yl => ?_⟩
    obtain ⟨T, x, y, rfl, hT, rfl, e1, e2⟩ := yl
    exact hs i x y T σ H e1 e2 p hT
  · have e : i = min xs.length ys.length := by omega
    subst e
    exact .inl ⟨⟨qx, qy, by omega, by omega, by omega⟩, hd σ H p⟩
end K5

set_option Elab.async false
set_option linter.all false
set_option maxRecDepth 100000
set_option maxHeartbeats 2000000
/-! An own exception class whose __init__ says super().__init__(f'..'), then self.f = p. -/
namespace SupX
open PySem PySem.Spec PyProof.Rows L2
/-- what the written part says of C's own __init__ at fI: its code, the cell of __class__ -/
structure InitAt (P : Program) (K : PySem.W.Frag) (C fI : Addr) (qual : Str) (st : Stmt) : Prop where
  ex : ∃ (oc : Value) (od : Option Addr) (kV doc pm : Value) (an : Option Addr) (cda cc : Addr) (ct : Value) (osl : Array (Option Value)) (ccl : Value) (cdd : Option Addr) (vs : Array Value) (ccs : Array (Option Value)) (file : Str) (tf : Tok) (cl : Value) (cld : Option Addr) (csl : Array (Option Value)),
    K.lookup fI = some ⟨oc, od, .func (PySem.W.fnX "__init__" qual (defArgs st) (defBody st) (defScope st) [(("__class__" : Str), cc)] .none kV doc pm an (.ref cda) ct), osl⟩ ∧ PySem.W.codeIn K (.ref cda) qual = true ∧
    K.lookup cda = some ⟨ccl, cdd, .fields vs, ccs⟩ ∧ vs[2]? = some (.str file tf) ∧ ((P.main.file : Str) == file) = true ∧ K.lookup cc = some ⟨cl, cld, .cell (some (.ref C)), csl⟩
  init : PySem.W.findIn K (.ref C) "__init__" = some (some (.ref fI))
  ty : PySem.W.typeIn K (.ref fI) = some (.type "function")
/-- what it says of the class -/
structure ClsAt (K : PySem.W.Frag) (mg : Str → Option Value) (C : Addr) (f : Str) : Prop where
  oex : OexC K C
  own : PySem.W.mroIn K C (.ref C) = some true
  up : PySem.W.ks_superIn K C C "__init__" = some (some (.builtin "ValueError.__init__"))
  ve : PySem.W.subIn K (.ref C) (.type "ValueError") = some true
  st : PySem.W.nsIn K PySem.cStatics "thirdparty.any" = some none
  no : PySem.W.findIn K (.ref C) f = some none
  sup : mg "super" = none
/-- the scope of such a def -/
structure Sco (x : Str) (sc : Scope) : Prop where
  kind : sc.kind = .function
  co : sc.isCoroutine = false
  gen : sc.isGenerator = false
  self : sc.names.lookup ("self" : Str) = some .local
  arg : sc.names.lookup x = some .local
  sup : sc.names.lookup ("super" : Str) = some .globalImplicit
  cls : sc.names.lookup ("__class__" : Str) = some .free
  only : ∀ y ∈ sc.names, y.2 ≠ .cell ∧ (y.2 = .free → y.1 = "__class__")
  ne : x ≠ ("self" : Str)
/-- the context of its body -/
def cx1 (P : Program) (w : World) (K : PySem.W.Frag) (mg : Str → Option Value) (base : Heap) (x qual : Str) (sc : Scope) (f : Addr) (cd : Value) (cc : Addr) (A : Around) (outer : List Env) (s : Shared) (H : Hp) (xe : Value → Shared → Prop) : Cx where
  prog := P
  w := w
  K := K
  mg := mg
  base := base
  A := A.deeper (PySem.W.ksEnv qual sc s.heap.objs.size f cd cc)
  N := [("self" : Str), x]
  s_0 := s
  H_0 := H
  env := PySem.W.ksEnv qual sc s.heap.objs.size f cd cc
  outer := outer
  stack := PySem.W.ksEnv qual sc s.heap.objs.size f cd cc :: outer
  ex := []
  fn := fun _ => false
  calm := true
  pn := []
  xe := xe
section
variable {P : Program} {w : World} {K : PySem.W.Frag} {mg : Str → Option Value} {base : Heap} {x qual : Str} {sc : Scope} {f cc : Addr} {cd : Value} {A : Around} {outer : List Env} {s : Shared} {H : Hp} {xe : Value → Shared → Prop} {k : Nat}
theorem inv1 (S : Sco x sc) (hr : Room k A) (e0 : Env0 P w K mg base A outer s H) {oc : Value} {od : Option Addr} {D : Addr} {osl : Array (Option Value)} (hcc : K.lookup cc = some ⟨oc, od, .cell (some (.ref D)), osl⟩) {h : Heap} {tk : Nat} {v1 v2 : V} {u1 u2 : Value} (r1 : RelV v1 u1) (r2 : RelV v2 u2)
    (hns : h.Ns s.heap.objs.size (fun y => ([("self" : Str), x].zip [u1, u2]).reverse.lookup y)) (hk : ∀ b o, s.heap.get? b = some o → h.get? b = some o) :
    Inv (cx1 P w K mg base x qual sc f cd cc A outer s H xe) [] [some v1, some v2] H { s with heap := h, toks := tk } := by
  have KX : K.In s.heap := e0.mod.kin.keeps fun b o e => (e0.bs b o e).1
  have lk1 : ∀ y c, ([(("__class__" : Str), cc)] : List (Str × Addr)).lookup y = some c → y = "__class__" ∧ c = cc := fun y c h => by
    by_cases e : y = "__class__"
    · subst e
      exact ⟨rfl, by simpa using h.symm⟩
    · have : (y == ("__class__" : Str)) = false := by simpa using e
      simp [List.lookup, this] at h
  have Hc : H cc = none := (e0.bs cc _ (e0.mod.kin _ _ hcc)).2
  have memN : ∀ {y : Str} {z : NameKind}, sc.names.lookup y = some z → (y, z) ∈ sc.names := fun {y z} e => PySem.mem_of_lookup e
  refine ⟨⟨e0.mod, S.kind, rfl, rfl, Nat.le_refl _, fun y z c h1 h2 => (lk1 y c h1).1.trans (lk1 z c h2).1.symm, fun y hy => ?_, fun y c h _ => Bool.noConfusion (show false = true from h), fun _ => hr.hd, Around.frames_deeper e0.frames, .inr ⟨rfl, rfl⟩, fun b z => (by cases z), e0.bs, e0.bsz, fun b _ _ z => (by cases z), fun b z => (by cases z), e0.funs, e0.frf⟩,
    rfl, e0.bare, Un.kept hk, ⟨_, hns, fun i y v h1 h2 h3 => ?_⟩, fun y c h => ?_, e0.hok.fresh (Nat.le_refl _), fun y c h => ?_, fun p hp => (by cases hp), e0.hok.kept hk, rfl⟩
  · rcases hy with hy | hy
    · exact absurd rfl (S.only _ (memN hy)).1
    · have e := (S.only _ (memN hy)).2 rfl
      exact ⟨cc, by show ([(("__class__" : Str), cc)] : List (Str × Addr)).lookup y = some cc; rw [show y = "__class__" from e]; rfl⟩
  · match i, h1, h2 with
    | 0, h1, h2 =>
      cases h1
      cases h2
      refine ⟨u1, r1, .inl ⟨S.self, ?_⟩⟩
      have ne : (("self" : Str) == x) = false := by simpa using (fun z => S.ne z.symm : ("self" : Str) ≠ x)
      simp [List.lookup, ne]
    | 1, h1, h2 =>
      cases h1
      cases h2
      refine ⟨u2, r2, .inl ⟨S.arg, ?_⟩⟩
      simp [List.lookup]
    | i + 2, h1, h2 => simp at h2
  · obtain ⟨rfl, rfl⟩ := lk1 y c h
    exact ⟨_, _, hk _ _ (KX _ _ hcc), rfl⟩
  · obtain ⟨rfl, rfl⟩ := lk1 y c h
    exact Hc
end
end SupX
namespace SupX
open PySem PySem.Spec PyProof.Rows L2
section
variable {X : Cx} {pins : List (Addr × Obj)} {σ : L2.St} {H : Hp} {s : Shared} {a C u : Addr}
/-- the bound ValueError.__init__, called: nothing of it is told -/
theorem mw_call {A : Around} {E : Value → Shared → Prop} {us : List Value} {Q : Value → Shared → Prop} (T : OexC X.K C) (I : Inv X pins σ H s) (hu : s.heap.get? u = some (PySem.W.kxs_mw "ValueError.__init__" a)) (e : H a = some (exo a C none)) (hz : us.length ≤ sizeLine)
    (h : ∀ s', Inv X pins σ H s' → Q .none s') : wpAny (model X.prog X.w) A (call (.ref u) us) Q E s := by
  obtain ⟨n0, q0, N0, bs0, bm0, sn0, su0, ab0, col0, dd0, j0, j1, j2, j3, j5, hK, hm⟩ := T.cls
  obtain ⟨t1, ho⟩ := exo_at I.hok e
  obtain ⟨hp, gs, dr, tk, os⟩ := s
  refine wpAny_call (codeAny_of_tree (by
    show wpAny _ A.in1 (callAny (.ref u) ⟨us, []⟩) _ _ _
    simp only [callAny]
    refine wpAny_bind (wpAny_load hu ?_)
    simp only [PySem.W.kxs_mw]
    refine PySem.W.KFB.if_so (by decide) ?_
    refine wpAny_bind (PySem.W.check_bound_init PySem.F.excBase_ValueError.toExcCallFacts (I.kIn _ _ hK) ho rfl (wpAny_bind (wpAny_pure (wpAny_pure ?_))))
    refine ⟨plainId_quiet PySem.F.excBase_ValueError.init.plain _, codeAny_builtin PySem.F.excBase_ValueError.initEntry ?_⟩
    refine PySem.W.exc_init_tree (t0 := t1) (cls := .ref C) (c2 := .none) (dv := none) (c3 := .none) (b4 := .bool false) ho hz fun h' k hx _ => ?_
    have J := I.write (x := a) (e := a) (t' := tk) (o := exo a C none) (by rw [e]; trivial) (.inl rfl) k ⟨_, hx⟩ (exo_ok hx)
    have same : upd H a (exo a C none) = H := funext fun b => by
      by_cases hb : b = a
      · rw [hb, upd_same, e]
      · exact upd_ne hb
    rw [same] at J
    exact h _ J))
end
/-- a number whose text is short -/
def Sm (v : Int) : Prop := v.natAbs.log2 < 1920 ∧ (toString v : Str).length ≤ 1000
/-- the text of the error -/
def tTxt : TE := fun σ H Q => ∃ v : Int, σ[1]? = some (some (.int v)) ∧ Sm v ∧ ∀ z : Str, Q (.str z) H
def spI (C : Addr) (f : Str) : Sp := fun vs H Q _ => ∃ (a : Addr) (v : Int), vs = [.ref a, .int v] ∧ Sm v ∧ H a = some (exo a C none) ∧ ∀ dx, H dx = none → dx ≠ a → Q .non (upd (upd H dx (exd dx [(f, .int v)])) a (exo a C (some dx)))
section
variable {P : Program} {w : World} {K : PySem.W.Frag} {mg : Str → Option Value} {base : Heap} {x f qual : Str} {st : Stmt} {C fI : Addr} {CX : CXT} {jv : List Expr} {p0 p1 p2 p3 p4 p5 p6 p7 p8 p9 : Pos}
theorem ok_init (M : InitAt P K C fI qual st) (T : ClsAt K mg C f) (S : Sco x (defScope st)) (hpar : ∃ ar, ((defArgs st).posonlyargs ++ (defArgs st).args).head? = some ar ∧ ar.arg = "self")
    (hbody : defBody st = [.Expr (.Call (.Attribute (.Call (.Name "super" p0) [] [] p1) "__init__" p2) [.JoinedStr jv p9] [] p3) p4, .Assign [.Attribute (.Name "self" p5) f p6] (.Name x p7) p8])
    (he : ∀ Y : Cx, Y.N = [("self" : Str), x] → Y.env.scope = defScope st → PE Y (.JoinedStr jv p9) tTxt)
    (hcall : ∀ env : Env, ∃ pl : Sem Bool, eval (.Call (.Attribute (.Call (.Name "super" p0) [] [] p1) "__init__" p2) [.JoinedStr jv p9] [] p3) env = (do
      let o0 ← attributeBase (.Call (.Name "super" p0) [] [] p1) "__init__" env (eval (.Call (.Name "super" p0) [] [] p1) env)
      standAt p2.atName
      let (g, first) ← holding [o0] (getMethod o0 "__init__" pl)
      callWith p3 g first (backTo p3 (starEach [.JoinedStr jv p9] env)) []))
    (htop : (P.main.scope.names.lookup ("super" : Str)).isSome = false) (hx : (x == ("__debug__" : Str)) = false) (hx2 : (x == ("__classdict__" : Str)) = false)
    (hbind : ∀ (kV doc pm : Value) (an : Option Addr) (cl : List (Str × Addr)) (cdv ct : Value) (us : List Value), us.length = 2 → bindArgs (PySem.W.fnX "__init__" qual (defArgs st) (defBody st) (defScope st) cl .none kV doc pm an cdv ct) ⟨us, []⟩ = pure ([("self" : Str), x].zip us)) :
    ∃ fd, FnOk P w K mg base CX 1 fI fd [("self" : Str), x] (spI C f) ∧ Binds K fd [("self" : Str), x] [] := by
  obtain ⟨oc, od, kV, doc, pm, an, cda, cc, ct, osl, ccl, cdd, vs0, ccs, file, tf, cl, cld, csl, lk, hcd, lc, hv2, hfile, lcc⟩ := M.ex
  refine ⟨PySem.W.fnX "__init__" qual (defArgs st) (defBody st) (defScope st) [(("__class__" : Str), cc)] .none kV doc pm an (.ref cda) ct, ⟨fun vs H Q E h => ?_, fun A outer s H args us vs Q E hr e0 hb r h => ?_⟩, fun s us X hl => ?_⟩
  · obtain ⟨a, v, rfl, _⟩ := h
    rfl
  · obtain ⟨a, v, rfl, hv, ea, k⟩ := h
    have KX : K.In s.heap := e0.mod.kin.keeps fun b o e => (e0.bs b o e).1
    obtain ⟨u1, u2, rfl⟩ : ∃ u1 u2, us = [u1, u2] := by
      cases r with
      | cons r1 r =>
        cases r with
        | cons r2 r =>
          cases r
          exact ⟨_, _, rfl⟩
    have r1 : RelV (.ref a) u1 := by cases r; assumption
    have r2 : RelV (.int v) u2 := by
      cases r with
      | cons _ r => cases r; assumption
    obtain rfl : u1 = Value.ref a := r1
    refine PySem.ks_codeAny_call_defAt (fd := PySem.W.fnX "__init__" qual (defArgs st) (defBody st) (defScope st) [(("__class__" : Str), cc)] .none kV doc pm an (.ref cda) ct) (binds := [("self" : Str), x].zip [Value.ref a, u2]) (body := defBody st) hr.depth (KX _ _ lk) rfl (e0.mod.nolimit.keeps fun b o e => (e0.bs b o e).1)
      (PySem.W.codeRec_of KX hcd) rfl hb (fun y hy => (S.only y hy).1) (fun y hy => ?_) (fun h₀ hns hk => ?_) S.co S.gen S.kind
    · have : y = (("self" : Str), Value.ref a) ∨ y = (x, u2) := by simpa using hy
      rcases this with rfl | rfl
      · exact S.self
      · exact S.arg
    · let xe : Value → Shared → Prop := fun e' s' => wpAny (model P w) (A.deeper (PySem.W.ksEnv qual (defScope st) s.heap.objs.size fI (.ref cda) cc)) (leaving (PySem.W.ksEnv qual (defScope st) s.heap.objs.size fI (.ref cda) cc) e') (fun _ s'' => CR CX outer P w H s Q E (.error e') s'') (fun e'' s'' => CR CX outer P w H s Q E (.error e'') s'') s'
      let X : Cx := cx1 P w K mg base x qual (defScope st) fI (.ref cda) cc A outer s H xe
      have I : Inv X [] [some (.ref a), some (.int v)] H { s with heap := h₀, toks := s.toks + ([("self" : Str), x].zip [Value.ref a, u2]).length } := inv1 S hr e0 lcc rfl r2 hns hk
      obtain ⟨ar, har, hself⟩ := hpar
      obtain ⟨n0, q0, N0, bs0, bm0, sn0, su0, ab0, col0, dd0, j0, j1, j2, j3, j5, hC, hm⟩ := T.oex.cls
      obtain ⟨cdC, hcd1, hcd2⟩ : ∃ cd, PySem.W.clsIn K C = some cd ∧ ∀ h : Heap, K.In h → ∃ oD, h.get? C = some oD ∧ oD.data = .cls cd :=
        ⟨_, by unfold PySem.W.clsIn; rw [hC] <;> rfl, fun h X => ⟨_, X _ _ hC, rfl⟩⟩
      obtain ⟨t1, ho⟩ := exo_at I.hok ea
      obtain ⟨oD, hD1, hD2⟩ := hcd2 _ I.kIn
      obtain ⟨mb, hb1, hb2⟩ := I.mod.blt
      have hup := T.up
      unfold PySem.W.ks_superIn at hup
      rw [hcd1] at hup
      show _root_.PySem.wpAt (model P w) (A.deeper X.env) (.func (defBody st) X.env) (execs (defBody st) X.env) _ _ _
      rw [hbody]
      obtain ⟨pl, hpl⟩ := hcall X.env
      refine PySem.ks_wpAt_execs_cons (PySem.ks_wpAt_Expr_any (PySem.ks_wpAt_MethodCall (PySem.ks_wpAt_super_base (ar := ar) S.sup S.cls (by decide) rfl (I.kIn _ _ lk) rfl har rfl (I.kIn _ _ lc) rfl hv2 hfile htop
        (PySem.W.ks_loadName_global S.kind S.sup (Calls.loadGlobal_builtin (I.mod.glob.keeps I.bk) T.sup (hb1.keeps I.bk) ((hb2 "super" (by decide)).trans (by decide +kernel)) ⟨rfl, wpAny_loadName_free S.kind S.cls rfl ⟨_, I.kIn _ _ lcc, rfl⟩ ?_⟩))) hpl) (by show interactive (PySem.W.ksEnv _ _ _ _ _ _) = false; unfold interactive; simp [Env.blockKind, S.kind]))
      rw [hself]
      refine wpAny_loadName_local (v := .ref a) S.kind S.self hns (by simp [List.lookup, (by simpa using (fun z => S.ne z.symm : ("self" : Str) ≠ x) : (("self" : Str) == x) = false)]) ?_
      refine ks_wpAny_isType_cls hD1 hD2 ⟨rfl, ks_wpAny_call_super hD1 hD2 ho rfl (fun c z => by cases z) (PySem.W.looks_mroIn I.kIn T.own) fun h1 e1 k1 => ?_⟩
      have I1 : Inv X [] [some (.ref a), some (.int v)] H ⟨h1, s.gens, s.drawn, s.toks + ([("self" : Str), x].zip [Value.ref a, u2]).length, s.os⟩ := I.kept (t' := _) k1
      obtain ⟨t2, ho1⟩ := exo_at I1.hok ea
      have at1 : PySem.W.InstAt h1 a { cls := .ref C, dict := none, data := .fields #[.ref t2, .none, .none, .none, .bool false, .none] } C none := ⟨ho1, rfl, rfl, trivial⟩
      refine PySem.W.kxs_getMethod PySem.W.kxs_ValueError e1 (PySem.W.looks_opaque I1.kIn T.st) (l₀ := cdC.mro) (fun A' Q' E' s' k' q' => wpAny_bind ((PySem.W.looks_clsIn I1.kIn hcd1) A' _ E' s' k' (wpAny_pure q'))) rfl I1.kIn hup (at1.type.andThen (PySem.W.looks_subIn I1.kIn T.ve)) (PySem.W.ks_ne I1.kIn at1 hcd1) (by decide) ?_
      have hu : (h1.push (PySem.W.kxs_mw "ValueError.__init__" a)).get? h1.objs.size = some (PySem.W.kxs_mw "ValueError.__init__" a) := Heap.get?_push_size _ rfl
      have I2 : Inv X [] [some (.ref a), some (.int v)] H ⟨h1.push (PySem.W.kxs_mw "ValueError.__init__" a), s.gens, s.drawn, s.toks + ([("self" : Str), x].zip [Value.ref a, u2]).length + 1, s.os⟩ := I1.kept (t' := _) fun b o e => Heap.get?_push_of_some _ e
      have fp := I1.fpOk (H' := H) (Nat.le_refl _) (I1.hok.fresh (Nat.le_refl _))
      have I3 : Inv X [(h1.objs.size, PySem.W.kxs_mw "ValueError.__init__" a)] [some (.ref a), some (.int v)] H ⟨h1.push (PySem.W.kxs_mw "ValueError.__init__" a), s.gens, s.drawn, s.toks + ([("self" : Str), x].zip [Value.ref a, u2]).length + 1, s.os⟩ := I2.pins_of fun p hp => by
        have e : p = (h1.objs.size, PySem.W.kxs_mw "ValueError.__init__" a) := by simpa using hp
        subst e
        exact ⟨hu, fp.1, fp.2.1, fp.2.2.1, fun v z => by cases z⟩
      have hargs := (pa_cons (he X rfl rfl) pa_nil (X := X)).run p3 _ _ _ H (fun vs G => G = H ∧ ∃ z : Str, vs = [.str z]) I3 ⟨v, rfl, hv, fun z => ⟨rfl, z, rfl⟩⟩
      show wpAny (model P w) (A.deeper X.env) (callWith p3 (.ref h1.objs.size) [] (backTo p3 (starEach [.JoinedStr jv p9] X.env)) []) _ _ _
      refine PySem.W.kxs_callWith (i := "ValueError.__init__") (x := a) rfl (Calls.evalArgs_plain (thn hargs fun us s3 ⟨ws, G, I4, r4, eG, z, ez⟩ => ?_))
      subst eG ez
      refine ⟨(I4.pin _ (List.mem_append_right _ List.mem_cons_self)).1, mw_call T.oex I4 (I4.pin _ (List.mem_append_right _ List.mem_cons_self)).1 ea (by show us.length ≤ sizeLine; rw [← Paired.length r4]; exact (by decide : 1 ≤ sizeLine)) fun s4 J => ?_⟩
      refine PySem.wpAt_of_wpAny (thn ((pss_one (ps_ost (pe_var (i := 0) rfl (.inl S.self)) (pe_var (i := 1) rfl (.inl S.arg) hx hx2))).run _ s4 _ _ { nx := fun _ G => Q .non G, rt := Q, bk := fun _ _ => False, ct := fun _ _ => False } J
        ⟨_, rfl, _, rfl, a, C, rfl, T.oex, T.no, .inl ⟨ea, fun dx n ne => k dx n ne⟩⟩) fun fl s5 q => ?_)
      match fl, q with
      | .next, ⟨σ', G, J5, q⟩ => exact ⟨V.non, G, J5.os, J5.bare, J5.base, J5.hok, rfl, q⟩
      | .ret u, ⟨v5, σ', G, J5, r5, q⟩ => exact ⟨v5, G, J5.os, J5.bare, J5.base, J5.hok, r5, q⟩
      | .brk, ⟨_, _, _, q⟩ => exact q.elim
      | .cont, ⟨_, _, _, q⟩ => exact q.elim
  · have hl2 : us.length = 2 := by rw [List.append_nil] at hl; exact hl
    rw [List.append_nil]
    exact BindsTo.of_eq (hbind _ _ _ _ _ _ _ us hl2)
end
end SupX

set_option Elab.async false
set_option linter.all false
set_option maxRecDepth 100000
set_option maxHeartbeats 2000000
namespace SupX
open PySem PySem.Spec PyProof.Rows L2
/-! ### a, .., *rest = a tuple: the star last -/
section
variable {prog : Program} {w : World} {A : Around} {E : Value → Shared → Prop} {s : Shared}
theorem star_items {l : Addr} {its : Array Value} {i : Nat} {Q : List Value → Shared → Prop} (ht : IsTup s.heap l its) (hh : A.handled = none) (hi : i ≤ its.size) (hz : its.size ≤ 1000)
    (hQ : ∀ (h' : Heap) (tk : Nat), (∀ b o, s.heap.get? b = some o → h'.get? b = some o) → Q (its.toList.take i ++ [.ref h'.objs.size] ++ []) { s with heap := h'.push { cls := .type "list", data := .seq (its.toList.drop i).toArray }, toks := tk }) :
    wpAny (model prog w) A (unpackItems (.ref l) (i + 1) (some i)) Q E s := by
  have ne : l ≠ s.heap.objs.size := by obtain ⟨o, e, _⟩ := ht; exact Nat.ne_of_lt (Heap.lt_size e)
  unfold unpackItems notIterableAtAll
  refine wpAny_bind (wpAny_bind (wpAny_specialOf ht.typeIs slot_tuple_iter.lookup (wpAny_pure ?_)))
  simp only [Bool.false_eq_true, if_false]
  refine wpAny_bind (wpAny_holding (iter_tuple ht (wpAny_bind (wpAny_holding (draw_tuple ne i 0 _ _ ⟨_, Heap.get?_push_size _ rfl, rfl, rfl⟩ (ht.push _) (by omega) fun h1 it1 sb1 => ?_)))))
  have t1 : IsTup h1 l its := (ht.push _).extBut sb1.extBut ne
  rw [Nat.zero_add] at it1
  have l1 : s.heap.objs.size < h1.objs.size := by obtain ⟨o, e, _⟩ := it1; exact Heap.lt_size e
  have l2 : l < h1.objs.size := by obtain ⟨o, e, _⟩ := t1; exact Heap.lt_size e
  have len1 : (its.toList.take i).length = i := by rw [List.length_take, Array.length_toList]; omega
  have len2 : (its.toList.drop i).length = its.size - i := by rw [List.length_drop, Array.length_toList]
  rw [List.drop_zero, if_neg (show ¬ ((its.toList.take i).length < i) by omega)]
  refine wpAny_bind (wpAny_holding (PySem.W.kun_collect (s := { s with heap := h1 }) (k := i) (T := "tuple_iterator") (.inr (.inr (.inr rfl))) (Walks.tuple (A := A.in1) hh s.heap.objs.size l ne its) (fun j u z => z.1.typeIs) hi ⟨it1, t1⟩ l1 l2 (fun h2 tk k2 => ?_) (by rw [sizeLine_eq]; omega)))
  have z0 : i + 1 - 1 - i = 0 := by omega
  rw [if_neg (show ¬ ((its.toList.drop i).length < i + 1 - 1 - i) by omega)]
  simp only [z0, Nat.sub_zero, List.take_length, List.drop_length]
  refine wpAny_bind (wpAny_newList (wpAny_pure (hQ h2 tk fun b o e => ?_)) (by rw [sizeLine_eq]; omega))
  exact k2 b o (Nat.ne_of_lt (Heap.lt_size e)) (sb1.extBut b o (Nat.ne_of_lt (Heap.lt_size e)) (Heap.get?_push_of_some _ e))
end
section
variable {X : Cx} {pos : Pos}
/-- (a, .., *rest), n ahead of the star -/
def gStar (K : PySem.W.Frag) (n : Nat) (t : TGs) : TG := fun v σ H Q => ∃ a xs, v = .ref a ∧ SqT K H a xs ∧ n ≤ xs.length ∧ xs.length ≤ 1000 ∧ ∀ D, H D = none → t (xs.take n ++ [.ref D] ++ []) σ (upd H D (.lst (xs.drop n))) Q
theorem pgs_star {e : Expr} {p : Pos} {t : TG} (h1 : PG X e t) (hs : (assignEach [.Starred e p] X.env).map (·.2) = [assign e X.env] := by rfl) : PGs X [.Starred e p] (gCons t gNil) := by
  refine ⟨fun pins s σ H vs us Q I r h => ?_⟩
  obtain ⟨v, vr, e1, h⟩ := h
  subst e1
  cases r with
  | cons r rr =>
    rw [hs]
    refine assignInOrder_cons (thn (h1.run pins s σ H _ _ _ I r h) fun _ s1 ⟨σ1, H1, I1, q1⟩ => ?_)
    exact (pgs_nil (X := X)).run pins s1 σ1 H1 _ _ Q I1 rr q1
theorem pg_star {es : List Expr} {k : Nat} {t : TGs} {n : Nat} (hc : X.calm = true) (h : PGs X es t) (hn : (assignEach es X.env).length = n + 1 := by rfl) (hst : (assignEach es X.env).findIdx? (·.1) = some n := by rfl) : PG X (.Tuple es k pos) (gStar X.K n t) := by
  refine ⟨fun pins s σ H v u Q I r hw => ?_⟩
  obtain ⟨a, xs, e1, hq, hl, hz, hw⟩ := hw
  subst e1
  cases r
  obtain ⟨its, rv, ht, _⟩ := I.tuple hq
  have el : xs.length = its.length := rv.length
  rw [assign_Tuple]
  refine wpAny_bind (wpAny_standAt ?_)
  unfold unpack
  rw [hn, hst]
  refine wpAny_bind (wpAny_holding (star_items ht (I.ok.hd hc) (by simp; omega) (by simp; omega) fun h' tk hk => ?_))
  have I1 : Inv X pins σ H { s with heap := h', toks := tk } := I.kept (t' := tk) hk
  have rd : Vals (xs.drop n) (its.drop n) := rv.drop n
  have I2 : Inv X pins σ (upd H h'.objs.size (.lst (xs.drop n))) { s with heap := h'.push { cls := .type "list", data := .seq (its.drop n).toArray }, toks := tk } :=
    I1.laid (t' := tk) (fun b o e => Heap.get?_push_of_some _ e) (Nat.le_refl _) (show ObjOk X.prog X.w _ _ _ (.lst (xs.drop n)) from ⟨by rw [List.length_drop, sizeLine_eq]; omega, its.drop n, 0, rd, Heap.get?_push_size _ rfl⟩)
  have e0 : its.toArray.toList = its := rfl
  show wpAny _ _ (assignInOrder _ (its.take n ++ [.ref h'.objs.size] ++ [])) _ _ { s with heap := h'.push { cls := .type "list", data := .seq (its.drop n).toArray }, toks := tk }
  exact h.run pins _ σ _ _ _ Q I2 (((rv.take n).append (.cons (show L2.RelV (V.ref h'.objs.size) (Value.ref h'.objs.size) from rfl) .nil)).append .nil) (hw _ (I1.hok.fresh (Nat.le_refl _)))
end
end SupX
namespace SupX
open PySem PySem.Spec PyProof.Rows L2
/-! ### raise C(e): C's own __init__ says super().__init__(f'..') and stores e -/
def tMkS (C : Addr) (f : Str) (te : TE) : L2.St → Hp → XK → Prop := fun σ H Q => te σ H fun y H1 => ∃ n : Int, y = .int n ∧ Sm n ∧ ∀ d, H1 d = none → Q (.ref C) (some d) (upd H1 d (.xd [(f, .int n)]))
theorem heap_back {H : Hp} {a d : Addr} {fs : List (Str × V)} {o1 o2 o3 : HO} (ha : H a = none) (ne : d ≠ a) : upd (del (upd (upd (upd H a o1) d o2) a o3) a) d (.xd fs) = upd H d (.xd fs) := funext fun b => by
  by_cases hd : b = d
  · rw [hd, upd_same, upd_same]
  · rw [upd_ne hd, upd_ne hd]
    by_cases hb : b = a
    · rw [hb, del_same, ha]
    · rw [del_ne hb, upd_ne hb, upd_ne hd, upd_ne hb]
theorem pmk_sup {X : Cx} {x x0 f qual : Str} {C fI : Addr} {fd : FuncData} {st : Stmt} {e : Expr} {te : TE} {p pos : Pos} (T : ClsAt X.K X.mg C f) (M : InitAt X.prog X.K C fI qual st) (F1 : FnOk X.prog X.w X.K X.mg X.base CX0 1 fI fd [("self" : Str), x0] (spI C f)) (hb : L2.Binds X.K fd [("self" : Str), x0] []) (hr : Room 2 X.A)
    (hg : Gl X x) (hm : X.mg x = some (.ref C)) (he : PE X e te) (hdb : (x == ("__debug__" : Str)) = false := by decide) (hst : starEach [e] X.env = (false, eval e X.env) :: starEach [] X.env := by rfl) (hpl : (backTo pos (starEach [] X.env)).any (·.1) = false := by rfl) :
    L2N.PMk X (.Call (.Name x p) [e] [] pos) (tMkS C f te) := by
  intro pins s σ H Q I h
  obtain ⟨n0, q0, N0, bs0, bm0, sn0, su0, ab0, col0, dd0, j0, j1, j2, j3, j5, hC, hbm⟩ := T.oex.cls
  refine wpAny_Call_Name_kw (ld_glob I hg hm (PySem.W.callWith_K (h₀ := X.base) I.ok.mod.kin T.oex.kC (thn ((pa_cons he pa_nil hst).run pos pins s σ H (fun vs H1 => match vs with | [y] => (∃ n : Int, y = .int n ∧ Sm n ∧ ∀ d, H1 d = none → Q (.ref C) (some d) (upd H1 d (.xd [(f, .int n)]))) | _ => False) I h) fun us s1 hq => ?_) hst hpl) hdb)
  obtain ⟨vs, H1, I1, r1, q0⟩ := hq
  obtain ⟨n, ev, hn, q1⟩ : ∃ n : Int, vs = [.int n] ∧ Sm n ∧ ∀ d, H1 d = none → Q (.ref C) (some d) (upd H1 d (.xd [(f, .int n)])) := by
    match vs, q0 with
    | [y], ⟨n, e, q⟩ => exact ⟨n, by rw [e], q⟩
  subst ev
  refine ⟨I1.kIn, ?_⟩
  show wpAny _ _ (call (.ref C) us) _ _ _
  obtain ⟨hp, g, dr, tk, os⟩ := s1
  have hus : us.length = 1 := by rw [← r1.length]; rfl
  have h1 : H1 (hp.objs.size + 1) = none := I1.hok.fresh (Nat.le_succ _)
  have grow : ∀ b o, hp.get? b = some o → ((hp.push (PySem.W.kdv_tup us)).push (PySem.HandSPX.excO C hp.objs.size)).get? b = some o := fun b o z => Heap.get?_push_of_some _ (Heap.get?_push_of_some _ z)
  have at1 : ((hp.push (PySem.W.kdv_tup us)).push (PySem.HandSPX.excO C hp.objs.size)).get? (hp.objs.size + 1) = some (PySem.HandSPX.excO C hp.objs.size) := by heap_get
  have I2 : Inv X pins σ (upd H1 (hp.objs.size + 1) (exo (hp.objs.size + 1) C none)) ⟨(hp.push (PySem.W.kdv_tup us)).push (PySem.HandSPX.excO C hp.objs.size), g, dr, tk, os⟩ := I1.laid (o := exo (hp.objs.size + 1) C none) (t' := tk) grow (Nat.le_succ _) (exo_ok at1)
  have r2 : Vals (V.ref (hp.objs.size + 1) :: [V.int n]) (Value.ref (hp.objs.size + 1) :: us) := .cons rfl r1
  have b2 := hb _ (Value.ref (hp.objs.size + 1) :: us) I2.kIn (by rw [List.append_nil, List.length_cons, hus]; rfl)
  rw [List.append_nil] at b2
  have big : us.length ≤ sizeLine := by rw [hus]; decide
  refine wpAny_call (PySem.HandSPX.call_own PySem.F.excBase_ValueError (fun Y => PySem.HandSPX.refsVE_contains Y bm0 hbm) (I1.kIn _ _ hC) (PySem.W.looks_findIn I1.kIn M.init) (fun o => PySem.W.bind_fn I1.kIn o M.ty) big
    (codeAny_mono (F1.run _ X.stack _ _ ⟨Value.ref (hp.objs.size + 1) :: us, []⟩ (Value.ref (hp.objs.size + 1) :: us) [V.ref (hp.objs.size + 1), V.int n]
      (fun v H2 => v = .non ∧ ∃ d, H1 d = none ∧ d ≠ hp.objs.size + 1 ∧ H2 = upd (upd (upd H1 (hp.objs.size + 1) (exo (hp.objs.size + 1) C none)) d (exd d [(f, .int n)])) (hp.objs.size + 1) (exo (hp.objs.size + 1) C (some d))) (fun _ _ _ => False) (hr.make C us []) (I2.env0.make C us []) b2 r2
      ⟨_, n, rfl, hn, upd_same, fun d hd ne => ⟨rfl, d, by rw [upd_ne ne] at hd; exact hd, ne, rfl⟩⟩) fun r s' hq => ?_))
  cases r with
  | error er => exact False.elim hq
  | ok fl =>
    cases fl with
    | ret u =>
      obtain ⟨v, H2, os2, bare2, un2, hok2, rv, ev, d, hd, ne, eH⟩ := hq
      subst ev eH
      obtain ⟨h2, g2, d2, t2, os'⟩ := s'
      obtain ⟨t0, G, J, kG, ge, hoe, _⟩ := mk_end0 (a := hp.objs.size + 1) (C := C) (d := d) (d2 := d2) (t2 := t2) (fs := [(f, .int n)]) I1 (Nat.le_succ _) grow un2 hok2 os2 bare2 upd_same (by rw [upd_ne ne, upd_same]) hd
      rw [heap_back h1 ne] at J
      have na : upd H1 d (.xd [(f, .int n)]) (hp.objs.size + 1) = none := by rw [upd_ne ne.symm]; exact h1
      exact ⟨rv, hp.objs.size + 1, _, _, ⟨G, g2, d2, t2, os'⟩, _, .ref C, some d, rfl, J, kG, ge, hoe, ⟨rfl, rfl, fun vs hv => (by cases hv; rfl)⟩, rfl, rfl, na, rfl, bare2, raises_own T.oex.exC T.oex.tyC, q1 d hd⟩
    | next => exact False.elim hq
    | brk => exact False.elim hq
    | cont => exact False.elim hq
end SupX

set_option Elab.async false
set_option linter.all false
set_option maxRecDepth 100000
set_option maxHeartbeats 2000000
/-! ### enumerate of a list or a tuple -/
namespace SupX
open PySem PySem.Spec PyProof.Rows L2 K5
theorem en_new {v : Value} {o : Obj} {Hh : Heap → Prop} (B : Begins v o Hh) :
    Meets (Builtin.«enumerate.__new__» ⟨[.type "enumerate", v], []⟩) (fun _ R s => Hh s.heap ∧
      R (.ok (.ret (.ref (s.heap.push o).objs.size))) { s with heap := (s.heap.push o).push { cls := .type "enumerate", data := .fields #[.none, .bool false, .ref s.heap.objs.size, rawInt 0, .none, .none] } }) :=
  .of_wp fun prog w A R s h => by
    obtain ⟨hp, gs, dr, tk, os⟩ := s
    obtain ⟨hh, h⟩ := h
    have hsub := sub_enumerate
    have it0 : ∀ {A' : Around} {E : Value → Shared → Prop} {Q : Value → Shared → Prop}, Q (.ref hp.objs.size) ⟨hp.push o, gs, dr, tk, os⟩ → wpAny (model prog w) A' (pyIter v) Q E ⟨hp, gs, dr, tk, os⟩ := fun q => B.iter prog w _ _ ⟨hp, gs, dr, tk, os⟩ _ hh q
    wp_walk using it0
    refine wpAny_stack_any fun st => wpAny_pure ?_
    split
    · rename_i c _ _ _ _ _
      cases (c == Value.type "enumerate") <;> (wp_walk using it0) <;> exact ⟨_, rfl, h⟩
    · wp_walk using it0
      exact ⟨_, rfl, h⟩
theorem en_call {prog : Program} {w : World} {A : Around} {E : Value → Shared → Prop} {s : Shared} {v : Value} {o : Obj} {Hh : Heap → Prop} {Q : Value → Shared → Prop} (B : Begins v o Hh) (hh : Hh s.heap)
    (h : ∀ h', IsEnum h' (s.heap.objs.size + 1) s.heap.objs.size 0 .none → h'.get? s.heap.objs.size = some o → (∀ b u, s.heap.get? b = some u → h'.get? b = some u) → Q (.ref (s.heap.objs.size + 1)) { s with heap := h' }) :
    wpAny (model prog w) A (call (.type "enumerate") [v]) Q E s := by
  refine callType_new F.called_enumerate (by decide) (F.typeCall_enumerate_1 _) (F.newCall_enumerate_1 _) (fun obj => F.args_object_init_2 obj _) F.entry_enumerate_new (en_new B) ⟨hh, ?_⟩
  have z1 : (s.heap.push o).objs.size = s.heap.objs.size + 1 := Heap.size_push ..
  show _ ∧ _
  rw [z1]
  have en : IsEnum ((s.heap.push o).push { cls := .type "enumerate", data := .fields #[.none, .bool false, .ref s.heap.objs.size, rawInt 0, .none, .none] }) (s.heap.objs.size + 1) s.heap.objs.size 0 .none := by
    have q := Heap.get?_push_size (s.heap.push o) (o := { cls := .type "enumerate", data := .fields #[.none, .bool false, .ref s.heap.objs.size, rawInt 0, .none, .none] }) rfl
    rw [z1] at q
    exact q
  exact ⟨⟨_, en, rfl⟩, h _ en (Heap.get?_push_of_some _ (Heap.get?_push_size _ B.free)) fun b u x => Heap.get?_push_of_some _ (Heap.get?_push_of_some _ x)⟩
/-- one turn after another: the number and the item in a new pair -/
def ItE (sq : Hp → Prop) (ys : List V) : It where
  go := fun i H => sq H ∧ i < ys.length
  yld := fun i H v G => ∃ T y, v = .ref T ∧ H T = none ∧ G = upd H T (.tup [.int (i : Nat), y]) ∧ ys[i]? = some y
  stop := fun i H => sq H ∧ i = ys.length
theorem turnE {P : Program} {w : World} {K : PySem.W.Frag} {elts : List Expr} {kk : Nat} {tpos : Pos} {b e i2 : Addr} {ys : List V} {sq : Hp → Prop} (D : Snd P w i2 b) (ne : e ≠ i2) (nb : e ≠ b)
    (rd : ∀ {X : Cx} {pins : List (Addr × Obj)} {σ : L2.St} {H : Hp} {s : Shared}, X.K = K → Inv X pins σ H s → sq H → ∃ its : List Value, Vals ys its ∧ D.own s.heap its.toArray) :
    Turn P w K (.Tuple elts kk tpos) (ItE sq ys) [e, i2] e (fun i h => (∃ old, IsEnum h e i2 ((i : Nat) : Int) old) ∧ D.st i h) where
  mem := List.mem_cons_self
  obj := fun i h ⟨⟨old, he⟩, h2⟩ c hc => by
    simp only [List.mem_cons, List.not_mem_nil, or_false] at hc
    rcases hc with rfl | rfl
    · exact ⟨_, he, nofun⟩
    · exact D.obj i h h2
  keep := fun i h g ⟨⟨old, he⟩, h2⟩ k => ⟨⟨old, k _ (by simp) _ he⟩, D.keep i h g h2 fun o q => k _ (by simp) o q⟩
  item := by
    intro X hP hw hK hc i pins s σ H E I hf ⟨⟨old, he⟩, h2⟩ ⟨qy, ly⟩
    subst hP hw
    obtain ⟨jb, rb, pb⟩ := rd hK I qy
    have lb := rb.length
    have hel : e < s.heap.objs.size := Heap.lt_size he
    refine wpAny_pyNext_enum_itemD (D.draws X.A.in1 jb.toArray (I.ok.hd hc)) he ⟨h2, pb⟩ (by simp; omega) ne (by simp [ne, nb]) fun u g tk eu ho st' hT hz hk => ?_
    obtain ⟨st2, own2⟩ := st'
    refine ⟨_, rfl, wpAny_letOwnedTupleGo_enum (s := { s with heap := g, toks := tk + 1 }) ho fun g' he' sb => ?_⟩
    have eu' : jb[i]? = some u := by simpa using eu
    obtain ⟨y, hy, ry⟩ : ∃ y, ys[i]? = some y ∧ RelV y u := by
      have li : i < ys.length := ly
      obtain ⟨u2, h1, h3⟩ := rb.get (List.getElem?_eq_getElem li)
      rw [h1] at eu'
      cases eu'
      exact ⟨_, List.getElem?_eq_getElem li, h3⟩
    have hT2 : g'.get? s.heap.objs.size = some { cls := .type "tuple", data := .seq #[.int i tk, u] } := (sb.2 _ (Nat.ne_of_gt hel)).trans hT
    have new : ObjOk X.prog X.w (upd H s.heap.objs.size (.tup [.int (i : Nat), y])) g' s.heap.objs.size (.tup [.int (i : Nat), y]) := ⟨by show 2 ≤ sizeLine; decide, [.int i tk, u], .cons ⟨_, rfl⟩ (.cons ry .nil), ⟨_, hT2, rfl, _, rfl⟩⟩
    have I1 : Inv X pins σ (upd H s.heap.objs.size (.tup [.int (i : Nat), y])) { s with heap := g', toks := tk + 1 } :=
      I.turnedNew (ch := [e, i2]) (fun c o hb q => (sb.2 c (fun z => hb (by simp [z]))).trans (hk c o (fun z => hb (by simp [z])) (fun z => hb (by simp [z])) q)) hf (Nat.le_refl _) new
    refine ⟨.ref s.heap.objs.size, _, I1, rfl, ⟨_, y, rfl, I.hok.fresh (Nat.le_refl _), rfl, hy⟩, ⟨⟨u, ?_⟩, D.keep _ _ _ st2 fun o q => (sb.2 i2 (Ne.symm ne)).trans q⟩, fun c hb => ?_⟩
    · rw [show ((i + 1 : Nat) : Int) = (i : Int) + 1 by omega]
      exact he'
    · have lc : c < s.heap.objs.size := by
        simp only [List.mem_cons, List.not_mem_nil, or_false] at hb
        rcases hb with rfl | rfl
        · exact hel
        · obtain ⟨_, q, _⟩ := D.obj i _ h2
          exact Heap.lt_size q
      rw [upd_ne (Nat.ne_of_lt lc)]
      exact (hf c hb).1
  done := by
    intro X hP hw hK hc i pins s σ H E I hf ⟨⟨old, he⟩, h2⟩ ⟨qy, ly⟩
    subst hP hw
    obtain ⟨jb, rb, pb⟩ := rd hK I qy
    have lb := rb.length
    obtain ⟨f0, f1, f2, f3, f4, f5⟩ := hf i2 (by simp)
    have en : i = jb.toArray.size := by simp; omega
    subst en
    exact wpAny_pyNext_enum_endD (D.draws X.A.in1 jb.toArray (I.ok.hd hc)) he ⟨h2, pb⟩ fun h' eb => ⟨rfl, I.turned (t' := s.toks) (fun c o hb q => eb c o hb q) f0 f1 f3 f4 f5⟩
  self := fun A i s Q E ⟨⟨_, he⟩, _⟩ h => wpAny_pyIter_enum he h
def iEnT (K : PySem.W.Frag) (ta : TA) : TI := fun σ H R => ta σ H fun vs G => ∃ (b : Addr) (ys : List V), vs = [.ref b] ∧ ((SqL K G b ys ∧ R (ItE (fun J => SqL K J b ys) ys) G) ∨ (SqT K G b ys ∧ R (ItE (fun J => SqT K J b ys) ys) G))
theorem pi_enT {X : Cx} {e : Expr} {ta : TA} {p pos tpos : Pos} {elts : List Expr} {kk : Nat} (hg : Gl X "enumerate") (hm : X.mg "enumerate" = none) (ha : PA X [e] ta) (hs : starEach [e] X.env = [(false, eval e X.env)] := by rfl) :
    PI X (.Tuple elts kk tpos) (.Call (.Name "enumerate" p) [e] [] pos) (iEnT X.K ta) := by
  refine ⟨fun pins s σ H R I h => Call_ (ld_blt I hg hm boot_enumerate (PyProof.Rows.callWith_type1 (thn (ha.run pos pins s σ H _ I h) fun us s1 ⟨vs, G, I1, r1, b, ys, ex, q1⟩ => ?_) hs rfl))⟩
  subst ex
  cases r1 with
  | cons r rr =>
    cases rr
    cases r
    have fr : ∀ c, c ∈ [s1.heap.objs.size + 1, s1.heap.objs.size] → FpOk X pins G c := fun c hc => by
      have le : s1.heap.objs.size ≤ c := by
        simp only [List.mem_cons, List.not_mem_nil, or_false] at hc
        omega
      exact I1.fpOk le (I1.hok.fresh le)
    rcases q1 with ⟨qy, q⟩ | ⟨qy, q⟩
    · obtain ⟨jb, vb, pb, _⟩ := I1.list qy
      have lb := pb.lt
      refine en_call (begins_list b jb.toArray) pb.isList fun g he hi hk => wpAny_pyIter_enum he ?_
      refine ⟨_, _, _, _, G, rfl, I1.kept (t' := s1.toks) hk, turnE (sndL X.prog X.w s1.heap.objs.size b (Nat.ne_of_lt lb)) (Nat.succ_ne_self _) (Nat.ne_of_gt (Nat.lt_succ_of_lt lb)) (fun {Y pn τ J t} eK IY sq => ?_), ⟨⟨.none, he⟩, ⟨_, hi, rfl, rfl⟩⟩, fr, q⟩
      obtain ⟨jc, vc, pc, _⟩ := IY.list (by rw [eK]; exact sq)
      exact ⟨jc, vc, pc.isList⟩
    · obtain ⟨jb, vb, pb, _⟩ := I1.tuple qy
      have lb : b < s1.heap.objs.size := by
        obtain ⟨_, z, _⟩ := pb
        exact Heap.lt_size z
      refine en_call (begins_tuple b jb.toArray) pb fun g he hi hk => wpAny_pyIter_enum he ?_
      refine ⟨_, _, _, _, G, rfl, I1.kept (t' := s1.toks) hk, turnE (sndT X.prog X.w s1.heap.objs.size b (Nat.ne_of_lt lb)) (Nat.succ_ne_self _) (Nat.ne_of_gt (Nat.lt_succ_of_lt lb)) (fun {Y pn τ J t} eK IY sq => ?_), ⟨⟨.none, he⟩, ⟨_, hi, rfl, rfl⟩⟩, fr, q⟩
      obtain ⟨jc, vc, pc, _⟩ := IY.tuple (by rw [eK]; exact sq)
      exact ⟨jc, vc, pc⟩
/-- a loop over it -/
theorem for_enT {sq : Hp → Prop} {ys : List V} {g : TG} {tb : TS} {D : Ends} {σ : L2.St} {H : Hp} (Pv : Nat → L2.St → Hp → Prop) (h0 : Pv 0 σ H) (hq : ∀ i σ H, Pv i σ H → sq H)
    (hs : ∀ (i : Nat) (y : V) (T : Addr) (σ : L2.St) (H : Hp), ys[i]? = some y → Pv i σ H → H T = none → g (.ref T) σ (upd H T (.tup [.int (i : Nat), y])) fun σ2 H2 => tb { D with nx := Pv (i + 1), ct := Pv (i + 1), bk := D.nx } σ2 H2)
    (hd : ∀ σ H, Pv ys.length σ H → D.nx σ H) :
    ∃ W : Nat → Nat → L2.St → Hp → Prop, (∃ m, W 0 m σ H) ∧ ∀ i m σ H, W i m σ H →
      ((ItE sq ys).stop i H ∧ D.nx σ H) ∨ ((ItE sq ys).go i H ∧ ∃ N : L2.St → Hp → Prop, (∀ σ' H', N σ' H' → ∃ m', m' < m ∧ W (i + 1) m' σ' H') ∧ ∀ v H', (ItE sq ys).yld i H v H' → g v σ H' fun σ2 H2 => tb { D with nx := N, ct := N, bk := D.nx } σ2 H2) := by
  refine ⟨fun i m σ H => m = ys.length - i ∧ i ≤ ys.length ∧ Pv i σ H, ⟨_, rfl, Nat.zero_le _, h0⟩, ?_⟩
  rintro i m σ H ⟨rfl, hi, p⟩
  by_cases lt : i < ys.length
  · refine .inr ⟨⟨hq i σ H p, lt⟩, Pv (i + 1), fun σ' G p' => ⟨ys.length - (i + 1), by omega, rfl, by omega, p'⟩, fun v G yl => ?_⟩
    obtain ⟨T, y, rfl, hT, rfl, e2⟩ := yl
    exact hs i y T σ H e2 p hT
  · have e : i = ys.length := by omega
    subst e
    exact .inl ⟨⟨hq _ σ H p, rfl⟩, hd σ H p⟩
end SupX

set_option Elab.async false
set_option linter.all false
set_option maxRecDepth 100000
/-! ### 3. The text by places, and what the top has written -/
namespace K5
open PySem PySem.Spec PyProof.Rows L2
def top (i : Nat) : Stmt := PySem.Challenge.pw_stillcopy_k18_written_and_read.main.body.getD i (.Pass ⟨0, 0, 0, 0⟩)
abbrev sWithin : Stmt := top 27
abbrev sHeavy : Stmt := top 57
abbrev sCheck : Stmt := top 58
abbrev sDk (j : Nat) : Stmt := inClass (top 59) j
/-- a def of the module -/
structure Df (K : PySem.W.Frag) (mg : Str → Option Value) (x : Str) (st : Stmt) (f : Addr) : Prop where
  fn : ∃ fd, Fun K x x st f fd
  at_ : mg x = some (.ref f)
theorem Df.kp {K : PySem.W.Frag} {mg : Str → Option Value} {x : Str} {st : Stmt} {f : Addr} (d : Df K mg x st f) : PySem.W.keepIn K (.ref f) = true := by
  obtain ⟨_, F⟩ := d.fn
  exact F.kp
/-- a method of the class at C -/
structure Md (K : PySem.W.Frag) (C : Addr) (m qual : Str) (st : Stmt) (f : Addr) : Prop where
  fn : ∃ fd, Fun K m qual st f fd
  me : Meth K C m f
/-- an exception class of the program -/
structure Xc (K : PySem.W.Frag) (mg : Str → Option Value) (x : Str) (C : Addr) : Prop where
  at_ : mg x = some (.ref C)
  ex : PySem.W.excIn K C [.type "ValueError", .type "Exception", .type "BaseException", .type "object"] "ValueError.__new__" = true
  kp : PySem.W.keepIn K (.ref C) = true
  sb : PySem.W.subIn K (.ref C) (.type "BaseException") = some true
  ty : PySem.W.typeIn K (.ref C) = some (.type "type")
/-- the addresses: defs, the class Disk, the classes BadBlock, Stopped -/
structure Ad where
  within : Addr
  heavy : Addr
  check : Addr
  disk : Addr
  dm : Nat → Addr
  bad : Addr
  stopped : Addr
structure Txt (K : PySem.W.Frag) (mg : Str → Option Value) (A : Ad) : Prop where
  within : Df K mg "within" sWithin A.within
  heavy : Df K mg "is_too_heavy" sHeavy A.heavy
  check : Df K mg "check_block" sCheck A.check
  blocks : ∃ t, mg "BLOCKS" = some (.int 35 t)
  most : ∃ t, mg "MOST_WEIGHT" = some (.int 40 t)
  bad : Xc K mg "BadBlock" A.bad
  stopped : Xc K mg "Stopped" A.stopped
  isinstance : mg "isinstance" = none
  int : mg "int" = none
  bool : mg "bool" = none
  tuple : mg "tuple" = none
  list : mg "list" = none
  zip : mg "zip" = none
  cl : Cls K A.disk
  nSure : NoAttr K A.disk "sure"
  nUns : NoAttr K A.disk "unsure"
  nLeft : NoAttr K A.disk "deeds_left"
  nPicks : NoAttr K A.disk "armed_picks"
  nRun : NoAttr K A.disk "running"
  nStops : NoAttr K A.disk "stops"
  m0 : Md K A.disk "__init__" "Disk.__init__" (sDk 0) (A.dm 0)
  m1 : Md K A.disk "write" "Disk.write" (sDk 1) (A.dm 1)
  m2 : Md K A.disk "settle" "Disk.settle" (sDk 2) (A.dm 2)
  m3 : Md K A.disk "read" "Disk.read" (sDk 3) (A.dm 3)
  m4 : Md K A.disk "arm" "Disk.arm" (sDk 4) (A.dm 4)
  m5 : Md K A.disk "stop" "Disk.stop" (sDk 5) (A.dm 5)
  m6 : Md K A.disk "again" "Disk.again" (sDk 6) (A.dm 6)
  m7 : Md K A.disk "settled" "Disk.settled" (sDk 7) (A.dm 7)
  m8 : Md K A.disk "check_running" "Disk.check_running" (sDk 8) (A.dm 8)
  m9 : Md K A.disk "count_deed" "Disk.count_deed" (sDk 9) (A.dm 9)
/-- the layer of defs that may raise: the exception's context is None -/
theorem okN {P : Program} {w : World} {K : PySem.W.Frag} {mg : Str → Option Value} {base : Heap} {x qual : Str} {st : Stmt} {f : Addr} {fd : FuncData} {N ps : List Str} {k : Nat} {sp : Sp} (F : Fun K x qual st f fd)
    (S : FnScope N ps (defScope st)) (len : ∀ vs H Q E, sp vs H Q E → vs.length = ps.length)
    (body : ∀ (cdv : Value) (A : Around) (outer : List Env) (s : Shared) (H : Hp) (vs : List V) (Q : VK) (E : XK), Room k (A.deeper (envOfC qual (defScope st) s.heap.objs.size f cdv)) → sp vs H Q E →
      ∃ t, PSs (cxOf (L2N.CX P w) P w K mg base N qual (defScope st) f cdv A outer s H E) (defBody st) t ∧ t { nx := fun _ G => Q .non G, rt := Q } (L2.start N vs) H) :
    FnOk P w K mg base (L2N.CX P w) (k + 1) f fd ps sp := by
  obtain ⟨oc, od, kV, doc, pm, an, cdv, ct, osl, rfl, lk, hcd⟩ := F.ex
  exact fn_of lk hcd S len fun A outer s H vs Q E hr hsp => body cdv A outer s H vs Q E hr hsp
section
variable {P : Program} {w : World} {K : PySem.W.Frag} {mg : Str → Option Value} {base : Heap} {A : Ad}
/-! ### within -/
theorem scWithin : FnScope ["number", "low", "high"] ["number", "low", "high"] (defScope sWithin) := ⟨rfl, rfl, rfl, by decide +kernel, rfl, by decide +kernel, by decide +kernel⟩
def spWithin : Sp := fun vs H Q _ => ∃ n lo hi : Int, vs = [.int n, .int lo, .int hi] ∧ Q (.bl (decide (lo ≤ n) && decide (n ≤ hi))) H
theorem ok_within (T : Txt K mg A) : ∃ fd, FnOk P w K mg base CX0 1 A.within fd ["number", "low", "high"] spWithin ∧ Binds K fd ["number", "low", "high"] [] := by
  obtain ⟨fd, F⟩ := T.within.fn
  refine ⟨fd, F.ok scWithin (fun vs H Q E h => ?_) (fun cdv A outer s H vs Q E hr h => ?_), F.binds fun _ _ _ _ _ _ us hl => match us, hl with | [_, _, _], _ => rfl⟩
  · obtain ⟨n, lo, hi, rfl, _⟩ := h
    rfl
  · obtain ⟨n, lo, hi, rfl, k⟩ := h
    refine ⟨_, pss_one (ps_ret (pe_and (pe_callB call_isi (by rfl) T.isinstance (by decide +kernel) (pa_cons (pv 0) (pa_cons (pe_bltn (v := .ty "int") (by rfl) T.int (by decide +kernel) rfl) pa_nil)))
      (pe_and (pe_not (pe_callB call_isi (by rfl) T.isinstance (by decide +kernel) (pa_cons (pv 0) (pa_cons (pe_bltn (v := .ty "bool") (by rfl) T.bool (by decide +kernel) rfl) pa_nil))))
        (pe_one (pe_chain op_le op_le (pv 1) (pv 0) (pv 2)))))), ?_⟩
    refine ⟨_, rfl, _, _, _, _, true, rfl, .ty "int", .base (.int n), by rfl, true, rfl, iteT ?_⟩
    refine ⟨_, rfl, _, _, _, _, false, rfl, .ty "bool", .base (.int n), by rfl, false, rfl, true, rfl, iteT ?_⟩
    refine ⟨_, rfl, _, rfl, _, _, rfl, rfl, _, rfl, ?_⟩
    by_cases h1 : lo ≤ n
    · rw [decide_eq_true h1]
      refine iteT ⟨_, rfl, _, _, rfl, rfl, ?_⟩
      have := k
      rw [decide_eq_true h1, Bool.true_and] at this
      exact this
    · rw [decide_eq_false h1]
      refine iteF ?_
      have := k
      rw [decide_eq_false h1, Bool.false_and] at this
      exact this
end
end K5

set_option Elab.async false
set_option linter.all false
set_option maxRecDepth 100000
set_option maxHeartbeats 1000000
/-! ### data whose tuples may be the module's; xs.extend of such a tuple -/
namespace K5
open PySem PySem.Spec PyProof.Rows L2
theorem SqT.kt {K : PySem.W.Frag} {F : Addr → Prop} {H G : Hp} {a : Addr} {xs : List V} (k : Kt F H G) (h : SqT K H a xs) : SqT K G a xs := by
  rcases h with (h | ⟨o, h⟩) | h
  · exact .inl (.inl (k.tup h))
  · exact .inl (.inr ⟨o, k _ _ h (fun _ z => nomatch z) fun m => nomatch m⟩)
  · exact .inr h
def DatK (K : PySem.W.Frag) (H : Hp) : Nat → V → Nat → Nat → Prop
  | 0, _, _, _ => False
  | n + 1, v, w, z => (leafV v = true ∧ w = 1 ∧ z = 1) ∨ ∃ a xs u, v = .ref a ∧ SqT K H a xs ∧ SumD (DatK K H n) xs w u ∧ z = u + 1
theorem DatK.pos {K : PySem.W.Frag} {H : Hp} : ∀ {n : Nat} {v : V} {w z : Nat}, DatK K H n v w z → 1 ≤ z
  | 0, _, _, _, h => h.elim
  | _ + 1, _, _, _, .inl h => by omega
  | _ + 1, _, _, _, .inr ⟨a, xs, u, e, h, s, f⟩ => by omega
theorem SumD.lenK {K : PySem.W.Frag} {H : Hp} {n : Nat} : ∀ {xs : List V} {w z : Nat}, SumD (DatK K H n) xs w z → xs.length ≤ z
  | [], _, _, _ => Nat.zero_le _
  | _ :: _, _, _, ⟨x, y, a, b, p, r, e, f⟩ => by
    have h1 := p.pos
    have h2 := SumD.lenK r
    rw [List.length_cons]
    omega
theorem DatK.kt {K : PySem.W.Frag} {F : Addr → Prop} {H G : Hp} (k : Kt F H G) : ∀ {n : Nat} {v : V} {w z : Nat}, DatK K H n v w z → DatK K G n v w z
  | 0, _, _, _, h => h
  | _ + 1, _, _, _, .inl h => .inl h
  | _ + 1, _, _, _, .inr ⟨a, xs, u, e, h, s, f⟩ => .inr ⟨a, xs, u, e, SqT.kt k h, s.imp fun _ _ _ p => DatK.kt k p, f⟩
theorem DatK.up {K : PySem.W.Frag} {H : Hp} : ∀ {n : Nat} {v : V} {w z : Nat}, DatK K H n v w z → DatK K H (n + 1) v w z
  | 0, _, _, _, h => h.elim
  | _ + 1, _, _, _, .inl h => .inl h
  | _ + 1, _, _, _, .inr ⟨a, xs, u, e, h, s, f⟩ => .inr ⟨a, xs, u, e, h, s.imp fun _ _ _ p => DatK.up p, f⟩
theorem DatK.leaf {K : PySem.W.Frag} {H : Hp} {n : Nat} {v : V} (h : leafV v = true) : DatK K H (n + 1) v 1 1 := .inl ⟨h, rfl, rfl⟩
theorem SqT.ty {K : PySem.W.Frag} {H : Hp} {a : Addr} {xs : List V} (h : SqT K H a xs) : TyX K H (.ref a) (.type "tuple") := by
  rcases h with (h | ⟨o, h⟩) | ⟨o, its, n, h, c, _⟩
  · exact .base (.tup h)
  · exact .fTuple h
  · exact .kTuple h c
def rExtS (K : PySem.W.Frag) : V → List V → Hp → VK → Prop := fun x vs H Q => ∃ l b xs zs, x = .ref l ∧ vs = [.ref b] ∧ H l = some (.lst xs) ∧ SqT K H b zs ∧ xs.length + zs.length ≤ sizeLine ∧ Q .non (upd H l (.lst (xs ++ zs)))
section
variable {X : Cx}
theorem mt_extS : MtM X "list.extend" (rExtS X.K) := by
  intro pins s σ H x vs v us Q I rx rv h
  obtain ⟨l, b, xs, zs, rfl, rfl, hH, hB, hz, q⟩ := h
  cases rx
  obtain ⟨u, rfl, ru⟩ := rv.one
  cases ru
  obtain ⟨z, ja, n, r, hl, e⟩ := I.lstM hH
  obtain ⟨jb, r2, ⟨⟨oc, od, oda, osl⟩, e2, c2, m, d2⟩, _⟩ := I.tuple hB
  dsimp only at c2 d2
  subst c2 d2
  have hl2 := r2.length
  have fits : ja.toArray.size + jb.toArray.size ≤ sizeLine := by
    rw [List.size_toArray, List.size_toArray, ← hl, ← hl2]
    exact hz
  have door : ¬ (!ja.toArray.isEmpty && Builtin.List.listTooLong (ja.toArray.size + jb.toArray.size)) = true := by
    rw [notLongL fits, Bool.and_false]; exact Bool.false_ne_true
  refine call_meets F.slot_list_extend ⟨_, e, rfl⟩ F.entry_list_extend (F.args_list_extend_2 _ _) (ext_tup l ja.toArray n b jb.toArray m od osl door (by rw [List.size_toArray]; omega) (by omega)) ⟨e, e2, ?_⟩
  exact ⟨.non, _, I.lset (its' := ja ++ jb) hH e (by simp) (r.append r2) (by rw [List.length_append]; exact hz), rfl, q⟩
end
end K5

set_option Elab.async false
set_option linter.all false
set_option maxRecDepth 100000
set_option maxHeartbeats 1000000
namespace K5
open PySem PySem.Spec PyProof.Rows L2
section
variable {P : Program} {w : World} {K : PySem.W.Frag} {mg : Str → Option Value} {base : Heap} {A : Ad}
/-! ### check_block -/
theorem scCheck : FnScope ["block"] ["block"] (defScope sCheck) := ⟨rfl, rfl, rfl, by decide +kernel, rfl, by decide +kernel, by decide +kernel⟩
def spCheck (A : Ad) : Sp := fun vs H Q E => ∃ n : Int, vs = [.int n] ∧ (0 ≤ n → n ≤ 34 → Q .non H) ∧ (¬ (0 ≤ n ∧ n ≤ 34) → E (.ref A.bad) none H)
theorem ok_check (T : Txt K mg A) : ∃ fd, FnOk P w K mg base (L2N.CX P w) 2 A.check fd ["block"] (spCheck A) ∧ Binds K fd ["block"] [] := by
  obtain ⟨fd, F⟩ := T.check.fn
  obtain ⟨fdW, GW, bW⟩ := ok_within (P := P) (w := w) (base := base) T
  obtain ⟨tb, hb⟩ := T.blocks
  refine ⟨fd, okN F scCheck (fun vs H Q E h => ?_) (fun cdv Ar outer s H vs Q E hr h => ?_), F.binds fun _ _ _ _ _ _ us hl => match us, hl with | [_], _ => rfl⟩
  · obtain ⟨n, rfl, _⟩ := h
    rfl
  · obtain ⟨n, rfl, k1, k2⟩ := h
    refine ⟨_, pss_one (ps_if (pt_not (pt_val (pe_call GW hr rfl T.within.at_ T.within.kp bW .nil pass0 (pa_cons (pv 0) (pa_cons pe_int (pa_cons (pe_op op_sub (pe_glob (v := .int 35) rfl hb ⟨_, rfl⟩) pe_int) pa_nil))))))
      (pss_one (L2N.ps_raise rfl (L2N.takes_of rfl rfl rfl rfl) (L2N.pmk_own PySem.F.excBase_ValueError T.bad.ex T.bad.at_ T.bad.kp (raises_own T.bad.sb T.bad.ty) rfl))) pss_nil), ?_⟩
    refine ⟨_, rfl, _, _, rfl, rfl, n, 0, 34, rfl, _, rfl, ?_⟩
    by_cases h : 0 ≤ n ∧ n ≤ 34
    · rw [decide_eq_true h.1, decide_eq_true h.2]
      exact iteF (k1 h.1 h.2)
    · have e : (decide (0 ≤ n) && decide (n ≤ 34)) = false := by
        rw [← Bool.not_eq_true, Bool.and_eq_true, decide_eq_true_eq, decide_eq_true_eq]
        exact h
      rw [e]
      exact iteT (k2 h)
/-! ### is_too_heavy -/
theorem scHeavy : FnScope ["what", "weight", "waiting", "part"] ["what"] (defScope sHeavy) := ⟨rfl, rfl, rfl, by decide +kernel, rfl, by decide +kernel, by decide +kernel⟩
def spHeavy (K : PySem.W.Frag) : Sp := fun vs H Q _ => ∃ (v : V) (n x z : Nat), vs = [v] ∧ DatK K H n v x z ∧ z ≤ 10000 ∧ ∀ G, Kp No H G → Q (.bl (decide (40 < (x : Int)))) G
theorem ok_heavy (T : Txt K mg A) : ∃ fd, FnOk P w K mg base CX0 1 A.heavy fd ["what"] (spHeavy K) ∧ Binds K fd ["what"] [] := by
  obtain ⟨fd, F⟩ := T.heavy.fn
  obtain ⟨tb, hb⟩ := T.most
  refine ⟨fd, F.ok scHeavy (fun vs H Q E h => ?_) (fun cdv Ar outer s H vs Q E hr h => ?_), F.binds fun _ _ _ _ _ _ us hl => match us, hl with | [_], _ => rfl⟩
  · obtain ⟨v, n, x, z, rfl, _⟩ := h
    rfl
  · obtain ⟨v, n, x, z, rfl, hd, hz, k⟩ := h
    refine ⟨_, pss_cons (ps_set (i := 1) scHeavy.nd rfl (.inl rfl) pe_int) (pss_cons (ps_set (i := 2) scHeavy.nd rfl (.inl rfl) (pe_lst (pa_cons (pv 0) pa_nil)))
      (pss_cons (ps_while PassesOwn.never (PW.pt (pw_and (pt_truth (pv 2) (by intro _; rfl)) (pw_and1 (pt_cmpR op_le (pv 1) (pe_glob (v := .int 40) rfl hb ⟨_, rfl⟩) (nomark _)))))
        (pss_cons (ps_set (i := 3) scHeavy.nd rfl (.inl rfl) (pe_bm0 PySem.F.plainAttrs_list PySem.F.slot_list_pop PySem.F.type_list_pop mt_pop (pv 2)))
        (pss_one (ps_if (pt_val (pe_callB call_isi (by rfl) T.isinstance (by decide +kernel) (pa_cons (pv 3) (pa_cons (pe_bltn (v := .ty "tuple") (by rfl) T.tuple (by decide +kernel) rfl) pa_nil))))
          (pss_one (ps_expr (pe_bm PySem.F.plainAttrs_list PySem.F.slot_list_extend PySem.F.type_list_extend mt_extS (pv 2) (pa_cons (pv 3) pa_nil))))
          (pss_one (ps_aug (i := 1) scHeavy.nd rfl (.inl rfl) pe_int ip_add))))))
      (pss_one (ps_ret (pe_cmpR op_gt (pv 1) (pe_glob (v := .int 40) rfl hb ⟨_, rfl⟩) (nomark _)))))), ?_⟩
    refine ⟨v, rfl, Nat.le_trans (by show 1 ≤ 16777216; omega) (Nat.le_of_eq sizeLine_eq.symm), fun l hl => ?_⟩
    have dt : ∀ {l : Addr} {xs : List V} {m : Nat} {v : V} {a b : Nat}, H l = none → DatK K H m v a b → DatK K (upd H l (.lst xs)) m v a b := fun h d => d.kt (Kp.new (F := No) h).t
    refine ⟨fun m σ G => ∃ (xs : List V) (a : Nat) (wt : Int) (o : Option V), σ = [some v, some (.int wt), some (.ref l), o] ∧ G = upd H l (.lst xs) ∧ SumD (DatK K H n) xs a m ∧ wt + a = x ∧ 0 ≤ wt ∧ m ≤ 10000, ⟨z, [v], x, 0, none, rfl, rfl, ⟨x, 0, z, 0, hd, ⟨rfl, rfl⟩, rfl, rfl⟩, by omega, by omega, hz⟩, ?_⟩
    rintro m σ G ⟨xs, a, wt, o, rfl, rfl, hs, hw, h0, hm⟩
    have fin : (∀ c : Bool, c = decide (40 < (x : Int)) → Q (.bl c) (upd H l (.lst xs))) := fun c e => by
      rw [e]
      exact k _ (Kp.new hl)
    -- while waiting and weight <= MOST_WEIGHT
    refine ⟨_, rfl, !xs.isEmpty, .inl ⟨xs, SqL.of upd_same, rfl⟩, ?_⟩
    rcases List.eq_nil_or_concat xs with rfl | ⟨ys, y, rfl⟩
    · -- none is waiting
      have ha : a = 0 := hs.1
      refine iteF (iteF ?_)
      exact ⟨_, rfl, _, _, rfl, rfl, fin _ (by rw [show (x : Int) = wt by omega])⟩
    · rw [show (!(ys.concat y).isEmpty) = true by simp]
      refine iteT ⟨_, rfl, _, _, rfl, rfl, _, rfl, ?_⟩
      refine ite2 (fun hle => ?_) (fun hgt => ?_)
      · rw [List.concat_eq_append] at hs ⊢
        obtain ⟨x1, a1, x2, a2, p1, ⟨x3, x4, a3, a4, p2, ⟨rfl, rfl⟩, rfl, rfl⟩, rfl, rfl⟩ := hs.of_app
        refine ⟨_, fun σ' G' q => q, ?_⟩
        -- part = waiting.pop()
        refine ⟨_, rfl, .inl ⟨rfl, _, SqL.of upd_same⟩, l, _, y, rfl, rfl, upd_same, by simp, ?_⟩
        rw [List.dropLast_concat, upd_upd]
        have hp3 := p2.pos
        cases n with
        | zero => exact p2.elim
        | succ n =>
          rcases p2 with ⟨lf, rfl, rfl⟩ | ⟨b, zs, u, rfl, hb', hs', rfl⟩
          · -- a leaf
            have ty : ∃ t, TyX K (upd H l (.lst ys)) y t ∧ PySem.W.kitOne K t (.type "tuple") = some false := by
              cases y with
              | non => exact ⟨_, .base .non, by rfl⟩
              | bl b => exact ⟨_, .base (.bl b), by rfl⟩
              | int i => exact ⟨_, .base (.int i), by rfl⟩
              | str z => exact ⟨_, .base (.str z), by rfl⟩
              | byt _ => cases lf
              | flt _ => cases lf
              | ref _ => cases lf
              | ty _ => cases lf
            obtain ⟨t, ty1, ty2⟩ := ty
            refine ⟨_, rfl, y, _, t, _, false, rfl, .ty "tuple", ty1, ty2, false, rfl, iteF ?_⟩
            refine ⟨_, rfl, wt, 1, rfl, rfl, a1, by omega, ys, x1, wt + 1, some y, rfl, rfl, p1, by omega, by omega, by omega⟩
          · -- a tuple
            have hb2 : SqT K (upd H l (.lst ys)) b zs := SqT.kt (Kp.new (F := No) hl).t hb'
            have l1 := SumD.lenK p1
            have l2 := SumD.lenK hs'
            refine ⟨_, rfl, .ref b, _, _, _, true, rfl, .ty "tuple", SqT.ty hb2, by rfl, true, rfl, iteT ?_⟩
            refine ⟨_, rfl, .inl ⟨rfl, _, SqL.of upd_same⟩, _, rfl, l, b, ys, zs, rfl, rfl, upd_same, hb2, by rw [sizeLine_eq]; omega, ?_⟩
            rw [upd_upd]
            exact ⟨a1 + u, by omega, ys ++ zs, _, wt, _, rfl, rfl, p1.app (hs'.imp fun _ _ _ q => q.up), by omega, by omega, by omega⟩
      · have hgt : ¬ wt ≤ 40 := by simpa using hgt
        exact ⟨_, rfl, _, _, rfl, rfl, fin _ (by rw [decide_eq_true (show (40 : Int) < wt by omega), decide_eq_true (show (40 : Int) < x by omega)])⟩
end
end K5

set_option Elab.async false
set_option linter.all false
set_option maxRecDepth 100000
set_option maxHeartbeats 1000000
/-! ### 4. A disk: what it holds, and its methods -/
namespace K5
open PySem PySem.Spec PyProof.Rows L2
/-- what a disk (or the law's own telling of one) holds -/
structure M where
  sure : List V
  pend : List (Int × V)
  left : Option Int
  picks : List Bool
  run : Bool
  stops : Int
def put1 (s : List V) (q : Int × V) : List V := s.set q.1.toNat q.2
def putAll (s : List V) (ps : List (Int × V)) : List V := ps.foldl put1 s
def putIf (s : List V) (ps : List ((Int × V) × Bool)) : List V := ps.foldl (fun s q => if q.2 then put1 s q.1 else s) s
def M.new : M := ⟨List.replicate 35 .non, [], none, [], true, 0⟩
def M.stop (m : M) (bs : List Bool) : M := if m.run then ⟨putIf m.sure (m.pend.zip bs), [], m.left, m.picks, false, m.stops + 1⟩ else m
def M.again (m : M) : M := ⟨m.sure, [], none, [], true, m.stops⟩
def M.arm (m : M) (n : Int) (bs : List Bool) : M := if m.run then ⟨m.sure, m.pend, some n, bs, m.run, m.stops⟩ else m
/-- whether one more deed is done, and what is behind it -/
def M.count (m : M) : Bool × M := if m.run then (match m.left with
  | none => (true, m)
  | some l => if l ≤ 0 then (false, m.stop m.picks) else (true, ⟨m.sure, m.pend, some (l - 1), m.picks, m.run, m.stops⟩)) else (false, m)
def M.settle (m : M) : M := ⟨putAll m.sure m.pend, [], m.left, m.picks, m.run, m.stops⟩
def M.write (m : M) (b : Int) (v : V) : M := ⟨m.sure, m.pend ++ [(b, v)], m.left, m.picks, m.run, m.stops⟩
theorem put1_len (s : List V) (q : Int × V) : (put1 s q).length = s.length := List.length_set ..
theorem putIf_len : ∀ (ps : List ((Int × V) × Bool)) (s : List V), (putIf s ps).length = s.length
  | [], _ => rfl
  | (q, b) :: ps, s => by
    show (putIf (if b then put1 s q else s) ps).length = _
    rw [putIf_len ps]
    cases b
    · rfl
    · exact put1_len s q
theorem putAll_len : ∀ (ps : List (Int × V)) (s : List V), (putAll s ps).length = s.length
  | [], _ => rfl
  | q :: ps, s => by
    show (putAll (put1 s q) ps).length = _
    rw [putAll_len ps, put1_len]
def optV : Option Int → V
  | none => .non
  | some l => .int l
def dfl (ls lu : Addr) (lf : V) (tp : Addr) (rn : Bool) (st : Int) : List (Str × V) := [("sure", .ref ls), ("unsure", .ref lu), ("deeds_left", lf), ("armed_picks", .ref tp), ("running", .bl rn), ("stops", .int st)]
section
variable (ls lu tp x : Addr) (lf v : V) (rn b : Bool) (st i : Int)
theorem l_sure : (dfl ls lu lf tp rn st).lookup ("sure" : Str) = some (.ref ls) := rfl
theorem l_uns : (dfl ls lu lf tp rn st).lookup ("unsure" : Str) = some (.ref lu) := rfl
theorem l_left : (dfl ls lu lf tp rn st).lookup ("deeds_left" : Str) = some lf := rfl
theorem l_picks : (dfl ls lu lf tp rn st).lookup ("armed_picks" : Str) = some (.ref tp) := rfl
theorem l_run : (dfl ls lu lf tp rn st).lookup ("running" : Str) = some (.bl rn) := rfl
theorem l_stops : (dfl ls lu lf tp rn st).lookup ("stops" : Str) = some (.int st) := rfl
theorem p_uns : putF "unsure" (.ref x) (dfl ls lu lf tp rn st) = dfl ls x lf tp rn st := rfl
theorem p_left : putF "deeds_left" v (dfl ls lu lf tp rn st) = dfl ls lu v tp rn st := rfl
theorem p_picks : putF "armed_picks" (.ref x) (dfl ls lu lf tp rn st) = dfl ls lu lf x rn st := rfl
theorem p_run : putF "running" (.bl b) (dfl ls lu lf tp rn st) = dfl ls lu lf tp b st := rfl
theorem p_stops : putF "stops" (.int i) (dfl ls lu lf tp rn st) = dfl ls lu lf tp rn i := rfl
end
def PairOf (H : Hp) (v : V) (q : Int × V) : Prop := ∃ t, v = .ref t ∧ H t = some (.tup [.int q.1, q.2])
def PairsAt (H : Hp) (rs : List V) (ps : List (Int × V)) : Prop := Paired (PairOf H) rs ps
theorem PairsAt.kt {F : Addr → Prop} {H G : Hp} (k : Kt F H G) {rs : List V} {ps : List (Int × V)} (p : PairsAt H rs ps) : PairsAt G rs ps := Paired.mapP p fun _ _ ⟨t, e, h⟩ => ⟨t, e, k.tup h⟩
/-- a Disk at p: its blocks at ls, what isn't settled at lu -/
structure DiskAt (A : Ad) (H : Hp) (p ls lu : Addr) (m : M) : Prop where
  ex : ∃ (dx tp : Addr) (st : Int), H p = some (.ins A.disk dx (dfl ls lu (optV m.left) tp m.run st)) ∧ H tp = some (.tup (m.picks.map V.bl)) ∧ st = m.stops
  sure : H ls = some (.lst m.sure)
  uns : ∃ rs, H lu = some (.lst rs) ∧ PairsAt H rs m.pend
  ne : ls ≠ lu
def dF (p ls lu : Addr) : Addr → Prop := fun b => b = p ∨ b = ls ∨ b = lu
theorem DiskAt.kt {A : Ad} {F : Addr → Prop} {H G : Hp} {p ls lu : Addr} {m : M} (k : Kt F H G) (d : DiskAt A H p ls lu m) (n : ∀ b, F b → ¬ dF p ls lu b) : DiskAt A G p ls lu m := by
  obtain ⟨dx, tp, st, h1, h2, hst⟩ := d.ex
  obtain ⟨rs, h3, h4⟩ := d.uns
  exact ⟨⟨dx, tp, st, k.ins h1 fun z => n _ z (.inl rfl), k.tup h2, hst⟩, k.lst d.sure fun z => n _ z (.inr (.inl rfl)), ⟨rs, k.lst h3 fun z => n _ z (.inr (.inr rfl)), h4.kt k⟩, d.ne⟩
/-- all that is to be known of the numbers in it -/
structure Good (m : M) : Prop where
  len : m.sure.length = 35
  blk : ∀ q ∈ m.pend, 0 ≤ q.1 ∧ q.1 ≤ 34
  few : m.pend.length ≤ 1000
  fal : m.run = false → m.pend = []
  nat : ∀ l, m.left = some l → 0 ≤ l
end K5

set_option Elab.async false
set_option linter.all false
set_option maxRecDepth 100000
set_option maxHeartbeats 1000000
namespace K5
open PySem PySem.Spec PyProof.Rows L2
section
variable {P : Program} {w : World} {K : PySem.W.Frag} {mg : Str → Option Value} {base : Heap} {A : Ad}
theorem sz (n : Nat) (h : n ≤ 16777216) : n ≤ sizeLine := by rw [sizeLine_eq]; exact h
/-! ### Disk() -/
theorem scDk0 : FnScope ["self"] ["self"] (defScope (sDk 0)) := ⟨rfl, rfl, rfl, by decide +kernel, rfl, by decide +kernel, by decide +kernel⟩
def spDk0 (A : Ad) : Sp := fun vs H Q _ => ∃ p dx, vs = [.ref p] ∧ H p = some (.ins A.disk dx []) ∧ ∀ G ls lu, H ls = none → H lu = none → DiskAt A G p ls lu M.new → Kp (fun b => b = p) H G → Q .non G
theorem ok_dk0 (T : Txt K mg A) : ∃ fd, FnOk P w K mg base CX0 1 (A.dm 0) fd ["self"] (spDk0 A) ∧ Binds K fd ["self"] [] := by
  obtain ⟨fd, F⟩ := T.m0.fn
  obtain ⟨tb, hb⟩ := T.blocks
  refine ⟨fd, F.ok scDk0 (fun vs H Q E h => ?_) (fun cdv Ar outer s H vs Q E hr h => ?_), F.binds fun _ _ _ _ _ _ us hl => match us, hl with | [_], _ => rfl⟩
  · obtain ⟨p, dx, rfl, _⟩ := h
    rfl
  · obtain ⟨p, dx, rfl, hp, k⟩ := h
    refine ⟨_, pss_cons (ps_fld (pv 0) (pe_op op_rep (pe_lst (pa_cons pe_non pa_nil)) (pe_glob (v := .int 35) rfl hb ⟨_, rfl⟩)) rfl) (pss_cons (ps_fld (pv 0) (pe_lst pa_nil) rfl)
      (pss_cons (ps_fld (pv 0) pe_non rfl) (pss_cons (ps_fld (pv 0) (pe_tup pa_nil) rfl) (pss_cons (ps_fld (pv 0) pe_bl rfl) (pss_one (ps_fld (pv 0) pe_int rfl)))))), ?_⟩
    -- self.sure = [None] * BLOCKS
    refine ⟨sz _ (by decide), fun l0 n0 => ⟨l0, 35, _, rfl, rfl, upd_same, by decide, by decide, sz _ (by decide), fun ls nls => ?_⟩⟩
    have np0 : p ≠ l0 := ne_of_none hp n0
    obtain ⟨nl0s, hls⟩ := upd_none nls
    have nps : p ≠ ls := ne_of_none hp hls
    refine ⟨_, rfl, p, A.disk, dx, [], rfl, by rw [upd_ne nps, upd_ne np0]; exact hp, T.cl, T.nSure, by show 0 < 1000; decide, ?_⟩
    -- self.unsure = []
    refine ⟨Nat.zero_le _, fun lu nlu => ?_⟩
    obtain ⟨npu, nlu⟩ := upd_none nlu
    obtain ⟨nsu, nlu⟩ := upd_none nlu
    obtain ⟨n0u, hlu⟩ := upd_none nlu
    refine ⟨_, rfl, p, A.disk, dx, _, rfl, by rw [upd_ne npu.symm, upd_same], T.cl, T.nUns, by show 1 < 1000; decide, ?_⟩
    -- self.deeds_left = None
    refine ⟨_, rfl, p, A.disk, dx, _, rfl, upd_same, T.cl, T.nLeft, by show 2 < 1000; decide, ?_⟩
    -- self.armed_picks = ()
    refine ⟨Nat.zero_le _, fun tp ntp => ?_⟩
    obtain ⟨npt, ntp⟩ := upd_none ntp
    obtain ⟨_, ntp⟩ := upd_none ntp
    obtain ⟨nut, ntp⟩ := upd_none ntp
    obtain ⟨_, ntp⟩ := upd_none ntp
    obtain ⟨nst, ntp⟩ := upd_none ntp
    obtain ⟨n0t, htp⟩ := upd_none ntp
    refine ⟨_, rfl, p, A.disk, dx, _, rfl, by rw [upd_ne npt.symm, upd_same], T.cl, T.nPicks, by show 3 < 1000; decide, _, rfl, p, A.disk, dx, _, rfl, upd_same, T.cl, T.nRun, by show 4 < 1000; decide, _, rfl, p, A.disk, dx, _, rfl, upd_same, T.cl, T.nStops, by show 5 < 1000; decide, ?_⟩
    refine k _ ls lu hls hlu ⟨⟨dx, tp, 0, upd_same, ?_, rfl⟩, ?_, ⟨[], ?_, .nil⟩, nsu.symm⟩ ?_
    · rw [upd_ne npt, upd_ne npt, upd_ne npt, upd_same]
      rfl
    · rw [upd_ne nps.symm, upd_ne nps.symm, upd_ne nps.symm, upd_ne nst.symm, upd_ne nps.symm, upd_ne nps.symm, upd_ne nsu.symm, upd_ne nps.symm, upd_same]
      rfl
    · rw [upd_ne npu, upd_ne npu, upd_ne npu, upd_ne nut.symm, upd_ne npu, upd_ne npu, upd_same]
    · intro b o e n
      by_cases hbp : b = p
      · subst hbp
        rw [hp] at e
        cases e
        exact (n trivial rfl).elim
      · rw [upd_ne hbp, upd_ne hbp, upd_ne hbp, upd_ne (ne_of_none e htp), upd_ne hbp, upd_ne hbp, upd_ne (ne_of_none e hlu), upd_ne hbp, upd_ne (ne_of_none e hls), upd_ne (ne_of_none e n0)]
        exact e
/-! ### check_running -/
theorem scDk8 : FnScope ["self"] ["self"] (defScope (sDk 8)) := ⟨rfl, rfl, rfl, by decide +kernel, rfl, by decide +kernel, by decide +kernel⟩
def spDk8 (A : Ad) : Sp := fun vs H Q E => ∃ p ls lu m, vs = [.ref p] ∧ DiskAt A H p ls lu m ∧ (m.run = true → Q .non H) ∧ (m.run = false → E (.ref A.stopped) none H)
theorem ok_dk8 (T : Txt K mg A) : ∃ fd, FnOk P w K mg base (L2N.CX P w) 1 (A.dm 8) fd ["self"] (spDk8 A) ∧ Binds K fd ["self"] [] := by
  obtain ⟨fd, F⟩ := T.m8.fn
  refine ⟨fd, okN F scDk8 (fun vs H Q E h => ?_) (fun cdv Ar outer s H vs Q E hr h => ?_), F.binds fun _ _ _ _ _ _ us hl => match us, hl with | [_], _ => rfl⟩
  · obtain ⟨p, ls, lu, m, rfl, _⟩ := h
    rfl
  · obtain ⟨p, ls, lu, m, rfl, D, k1, k2⟩ := h
    obtain ⟨dx, tp, st, h1, h2, hst⟩ := D.ex
    refine ⟨_, pss_one (ps_if (pt_not (pt_val (pe_fld (pv 0) rfl))) (pss_one (L2N.ps_raise rfl (L2N.takes_of rfl rfl rfl rfl) (L2N.pmk_own PySem.F.excBase_ValueError T.stopped.ex T.stopped.at_ T.stopped.kp (raises_own T.stopped.sb T.stopped.ty) rfl))) pss_nil), ?_⟩
    refine ⟨_, rfl, p, A.disk, dx, _, _, rfl, h1, T.cl, T.nRun, l_run .., _, rfl, ?_⟩
    cases e : m.run with
    | true => exact iteF (k1 e)
    | false => exact iteT (k2 e)
end
end K5

set_option Elab.async false
set_option linter.all false
set_option maxRecDepth 100000
set_option maxHeartbeats 1000000
namespace K5
open PySem PySem.Spec PyProof.Rows L2
theorem Paired.at {α β : Type} {R : α → β → Prop} : ∀ {xs : List α} {ys : List β}, Paired R xs ys → ∀ {i : Nat} {x : α}, xs[i]? = some x → ∃ y, ys[i]? = some y ∧ R x y
  | _, _, .nil, i, x, h => by simp at h
  | _, _, .cons r t, 0, x, h => by
    cases (Option.some.inj h)
    exact ⟨_, rfl, r⟩
  | _, _, .cons r t, i + 1, x, h => by
    obtain ⟨y, h1, h2⟩ := Paired.at t (i := i) (by simpa using h)
    exact ⟨y, by simpa using h1, h2⟩
theorem take_succ_of {α : Type} {xs : List α} {i : Nat} {x : α} (h : xs[i]? = some x) : xs.take (i + 1) = xs.take i ++ [x] := by
  rw [List.take_succ, h]
  rfl
theorem putIf_app (s : List V) (ps : List ((Int × V) × Bool)) (q : (Int × V) × Bool) : putIf s (ps ++ [q]) = if q.2 then put1 (putIf s ps) q.1 else putIf s ps := by
  unfold putIf
  rw [List.foldl_append]
  rfl
theorem putAll_app (s : List V) (ps : List (Int × V)) (q : Int × V) : putAll s (ps ++ [q]) = put1 (putAll s ps) q := by
  unfold putAll
  rw [List.foldl_append]
  rfl
theorem ixN_in {n : Nat} {i : Int} (h0 : 0 ≤ i) (h1 : i < n) : ixN n i = some i.toNat := by
  unfold ixN
  rw [if_pos h0, if_pos h1]
section
variable {P : Program} {w : World} {K : PySem.W.Frag} {mg : Str → Option Value} {base : Heap} {A : Ad}
/-! ### stop -/
theorem scDk5 : FnScope ["self", "picks", "block", "what", "pick"] ["self", "picks"] (defScope (sDk 5)) := ⟨rfl, rfl, rfl, by decide +kernel, rfl, by decide +kernel, by decide +kernel⟩
/-- a list or a tuple of truths -/
def BoolsAt (H : Hp) (b : Addr) (bs : List Bool) : Prop := H b = some (.lst (bs.map V.bl)) ∨ H b = some (.tup (bs.map V.bl))
def spDk5 (A : Ad) : Sp := fun vs H Q _ => ∃ p ls lu m b bs, vs = [.ref p, .ref b] ∧ DiskAt A H p ls lu m ∧ Good m ∧ BoolsAt H b bs ∧ b ≠ ls ∧
  ∀ G lu', (lu' = lu ∨ H lu' = none) → DiskAt A G p ls lu' (m.stop bs) → Kp (dF p ls lu) H G → Q .non G
theorem stop_body {H : Hp} {p ls lu tp dx b : Addr} {st : Int} {rn : Bool} {m : M} {bs : List Bool} {lf : V} (h1 : H p = some (.ins A.disk dx (dfl ls lu lf tp rn st))) (hs : H ls = some (.lst m.sure)) (T : Txt K mg A) (Gm : Good m) (nps : p ≠ ls) {D' : Ends} :
    ∀ (i : Nat) (q : Int × V) (c : Bool) (σ : L2.St) (G : Hp), m.pend[i]? = some q → bs[i]? = some c → (∃ o1 o2 o3, σ = [some (.ref p), some (.ref b), o1, o2, o3]) → Kp (fun b => b = ls) H G → G ls = some (.lst (putIf m.sure ((m.pend.zip bs).take i))) →
      ∀ (nx : L2.St → Hp → Prop), (∀ (σ' : L2.St) (G' : Hp), (∃ o1 o2 o3, σ' = [some (.ref p), some (.ref b), o1, o2, o3]) → Kp (fun b => b = ls) H G' → G' ls = some (.lst (putIf m.sure ((m.pend.zip bs).take (i + 1)))) → nx σ' G') →
      tIfS (tB (tVar 4)) (tAsg (tVar 3) (gSub (tFld K (tVar 0) "sure") (tVar 2) rSetL)) tNext { D' with nx := nx, ct := nx, bk := D'.nx } [some (.ref p), some (.ref b), some (.int q.1), some q.2, some (.bl c)] G := by
  intro i q c σ G hq hc _ kp hls nx hnx
  have hz : (m.pend.zip bs)[i]? = some (q, c) := by rw [List.getElem?_zip_eq_some]; exact ⟨hq, hc⟩
  have e1 := take_succ_of hz
  refine ⟨_, rfl, _, rfl, ?_⟩
  cases c with
  | false =>
    refine iteF (hnx _ _ ⟨_, _, _, rfl⟩ kp ?_)
    rw [e1, putIf_app]
    exact hls
  | true =>
    refine iteT ?_
    have hr := Gm.blk q (List.mem_of_getElem? hq)
    have hl : (putIf m.sure ((m.pend.zip bs).take i)).length = 35 := by rw [putIf_len, Gm.len]
    refine ⟨_, rfl, _, rfl, p, A.disk, dx, _, _, rfl, kp.t.ins h1 nps, T.cl, T.nSure, l_sure .., _, rfl, ls, _, q.1, q.1.toNat, rfl, rfl, hls, ixN_in hr.1 (by rw [hl]; omega), ?_⟩
    refine hnx _ _ ⟨_, _, _, rfl⟩ (kp.trans (Kp.upd (F := fun b => b = ls) hls trivial rfl) fun _ z => .inl z) ?_
    rw [upd_same, e1, putIf_app]
    rfl
theorem stop_fin {H : Hp} {p ls lu tp dx b : Addr} {st : Int} {m : M} {bs : List Bool} {rs : List V} {Q : VK} (h1 : H p = some (.ins A.disk dx (dfl ls lu (optV m.left) tp true st))) (h2 : H tp = some (.tup (m.picks.map V.bl))) (h3 : H lu = some (.lst rs)) (D : DiskAt A H p ls lu m) (T : Txt K mg A) (nps : p ≠ ls) (npu : p ≠ lu) (hst : st = m.stops)
    (em : m.stop bs = ⟨putIf m.sure (m.pend.zip bs), [], m.left, m.picks, false, m.stops + 1⟩) (k : ∀ G lu', (lu' = lu ∨ H lu' = none) → DiskAt A G p ls lu' (m.stop bs) → Kp (dF p ls lu) H G → Q .non G) :
    ∀ (σ : L2.St) (G : Hp), (∃ o1 o2 o3, σ = [some (.ref p), some (.ref b), o1, o2, o3]) → Kp (fun b => b = ls) H G → G ls = some (.lst (putIf m.sure (m.pend.zip bs))) →
      tSeq (sFld K (tVar 0) (tLst tNil) "unsure") (tSeq (sFld K (tVar 0) (tC (.bl false)) "running") (sFldAug K (tVar 0) (tC (.int 1)) rAdd "stops")) { nx := fun _ G => Q .non G, rt := Q } σ G := by
  rintro σ G ⟨o1, o2, o3, rfl⟩ kp hls
  have g1 := kp.t.ins h1 nps
  refine ⟨Nat.zero_le _, fun lu' nlu => ?_⟩
  have npl : p ≠ lu' := ne_of_none g1 nlu
  have nsl : ls ≠ lu' := ne_of_none hls nlu
  refine ⟨_, rfl, p, A.disk, dx, _, rfl, by rw [upd_ne npl]; exact g1, T.cl, T.nUns, by show 6 < 1000; decide, ?_⟩
  refine ⟨_, rfl, p, A.disk, dx, _, rfl, upd_same, T.cl, T.nRun, by show 6 < 1000; decide, ?_⟩
  refine ⟨_, rfl, p, A.disk, dx, _, _, rfl, upd_same, T.cl, T.nStops, rfl, _, _, rfl, rfl, dx, _, upd_same, by show 6 < 1000; decide, ?_⟩
  have nH : H lu' = none := by
    cases e : H lu' with
    | none => rfl
    | some o =>
      by_cases z : lu' = ls
      · exact absurd z.symm nsl
      · rw [kp lu' o e fun _ => z] at nlu
        cases nlu
  have ntp : tp ≠ p := ne_of h2 h1 (by intro z; cases z)
  have ntl : tp ≠ lu' := ne_of_none h2 nH
  refine k _ lu' (.inr nH) ?_ ?_
  · rw [em]
    refine ⟨⟨dx, tp, st + 1, upd_same, ?_, by rw [hst]⟩, ?_, ⟨[], ?_, .nil⟩, nsl⟩
    · rw [upd_ne ntp, upd_ne ntp, upd_ne ntp, upd_ne ntl]
      exact kp.t.tup h2
    · rw [upd_ne nps.symm, upd_ne nps.symm, upd_ne nps.symm, upd_ne nsl]
      exact hls
    · rw [upd_ne npl.symm, upd_ne npl.symm, upd_ne npl.symm, upd_same]
  · have m1 : Kp (dF p ls lu) H G := kp.sub fun b z => .inr (.inl z)
    have g2 : upd G lu' (.lst []) p = _ := (upd_ne npl).trans g1
    exact ((((m1.andN nlu).andI g2 (.inl rfl)).andI upd_same (.inl rfl)).andI upd_same (.inl rfl))
theorem ok_dk5 (T : Txt K mg A) : ∃ fd, FnOk P w K mg base CX0 1 (A.dm 5) fd ["self", "picks"] (spDk5 A) ∧ Binds K fd ["self", "picks"] [] := by
  obtain ⟨fd, F⟩ := T.m5.fn
  refine ⟨fd, F.ok scDk5 (fun vs H Q E h => ?_) (fun cdv Ar outer s H vs Q E hr h => ?_), F.binds fun _ _ _ _ _ _ us hl => match us, hl with | [_, _], _ => rfl⟩
  · obtain ⟨p, ls, lu, m, b, bs, rfl, _⟩ := h
    rfl
  · obtain ⟨p, ls, lu, m, b, bs, rfl, D, Gm, hB, hbl, k⟩ := h
    obtain ⟨dx, tp, st, h1, h2, hst⟩ := D.ex
    obtain ⟨rs, h3, h4⟩ := D.uns
    have nps : p ≠ ls := ne_of h1 D.sure (by intro z; cases z)
    have npu : p ≠ lu := ne_of h1 h3 (by intro z; cases z)
    refine ⟨_, pss_cons (ps_if (pt_not (pt_val (pe_fld (pv 0) rfl))) (pss_one ps_retN) pss_nil)
      (pss_cons (ps_for PassesOwn.never rfl (pi_zipM (by rfl) T.zip (pa_cons (pe_fld (pv 0) rfl) (pa_cons (pv 1) pa_nil)))
          (pg_tup rfl (pgs_cons (pg_tup rfl (pgs_cons (pg_name (i := 2) scDk5.nd rfl (Or.inl rfl)) (pgs_cons (pg_name (i := 3) scDk5.nd rfl (Or.inl rfl)) pgs_nil))) (pgs_cons (pg_name (i := 4) scDk5.nd rfl (Or.inl rfl)) pgs_nil)))
          (pss_one (ps_if (pt_val (pv 4)) (pss_one (ps_asg (pv 3) (pg_sub (pe_fld (pv 0) rfl) (pv 2) set_list))) pss_nil)))
      (pss_cons (ps_fld (pv 0) (pe_lst pa_nil) rfl) (pss_cons (ps_fld (pv 0) pe_bl rfl) (pss_one (ps_fldaug (pv 0) pe_int in_add))))), ?_⟩
    refine ⟨_, rfl, p, A.disk, dx, _, _, rfl, h1, T.cl, T.nRun, l_run .., _, rfl, ?_⟩
    cases er : m.run with
    | false =>
      refine iteT ?_
      have em : m.stop bs = m := by
        unfold M.stop
        rw [er]
        rfl
      exact k H lu (.inl rfl) (by rw [em]; exact D) (Kp.refl _ _)
    | true =>
      refine iteF ?_
      have em : m.stop bs = ⟨putIf m.sure (m.pend.zip bs), [], m.left, m.picks, false, m.stops + 1⟩ := by
        unfold M.stop
        rw [er]
        rfl
      rw [er] at h1
      -- for (block, what), pick in zip(self.unsure, picks)
      refine ⟨_, rfl, p, A.disk, dx, _, _, rfl, h1, T.cl, T.nUns, l_uns .., _, rfl, ?_⟩
      have hq : ∀ {G : Hp}, Kp (fun b => b = ls) H G → SqL K G lu rs ∧ (SqL K G b (bs.map V.bl) ∨ SqT K G b (bs.map V.bl)) := fun {G} kp =>
        ⟨SqL.of (kp.t.lst h3 fun z => D.ne z.symm), hB.elim (fun e => .inl (SqL.of (kp.t.lst e hbl))) fun e => .inr (SqT.of (kp.t.tup e))⟩
      have key : ∀ (sq : Hp → Prop), (∀ {G : Hp}, Kp (fun b => b = ls) H G → sq G) → ∀ (tb : TS) (D' : Ends), (∀ (i : Nat) (q : Int × V) (c : Bool) (σ : L2.St) (G : Hp), m.pend[i]? = some q → bs[i]? = some c → (∃ o1 o2 o3, σ = [some (.ref p), some (.ref b), o1, o2, o3]) → Kp (fun b => b = ls) H G → G ls = some (.lst (putIf m.sure ((m.pend.zip bs).take i))) →
            ∀ (nx : L2.St → Hp → Prop), (∀ (σ' : L2.St) (G' : Hp), (∃ o1 o2 o3, σ' = [some (.ref p), some (.ref b), o1, o2, o3]) → Kp (fun b => b = ls) H G' → G' ls = some (.lst (putIf m.sure ((m.pend.zip bs).take (i + 1)))) → nx σ' G') →
            tb { D' with nx := nx, ct := nx, bk := D'.nx } [some (.ref p), some (.ref b), some (.int q.1), some q.2, some (.bl c)] G) →
          (∀ (σ : L2.St) (G : Hp), (∃ o1 o2 o3, σ = [some (.ref p), some (.ref b), o1, o2, o3]) → Kp (fun b => b = ls) H G → G ls = some (.lst (putIf m.sure (m.pend.zip bs))) → D'.nx σ G) →
          ∃ W : Nat → Nat → L2.St → Hp → Prop, (∃ m', W 0 m' (L2.start ["self", "picks", "block", "what", "pick"] [.ref p, .ref b]) H) ∧ ∀ i m' σ G, W i m' σ G →
            ((ItM K lu sq rs (bs.map V.bl)).stop i G ∧ D'.nx σ G) ∨ ((ItM K lu sq rs (bs.map V.bl)).go i G ∧ ∃ N : L2.St → Hp → Prop, (∀ σ' H', N σ' H' → ∃ m'', m'' < m' ∧ W (i + 1) m'' σ' H') ∧ ∀ v H', (ItM K lu sq rs (bs.map V.bl)).yld i G v H' →
              gTup K 2 (gCons (gTup K 2 (gCons (gName 2) (gCons (gName 3) gNil))) (gCons (gName 4) gNil)) v σ H' fun σ2 H2 => tb { D' with nx := N, ct := N, bk := D'.nx } σ2 H2) := by
        intro sq hsq tb D' hbody hend
        refine for_zipM (fun i σ G => (∃ o1 o2 o3, σ = [some (.ref p), some (.ref b), o1, o2, o3]) ∧ Kp (fun b => b = ls) H G ∧ G ls = some (.lst (putIf m.sure ((m.pend.zip bs).take i)))) ⟨⟨none, none, none, rfl⟩, Kp.refl _ _, by rw [List.take_zero]; exact D.sure⟩ (fun i σ G ⟨_, kp, _⟩ => ⟨(hq kp).1, hsq kp⟩) ?_ ?_
        · rintro i x y Tn σ G hx hy ⟨⟨o1, o2, o3, rfl⟩, kp, hls⟩ hT
          obtain ⟨q, hq1, t, rfl, ht⟩ := Paired.at h4 hx
          obtain ⟨c, hc, rfl⟩ : ∃ c, bs[i]? = some c ∧ y = V.bl c := by
            rw [List.getElem?_map] at hy
            cases e : bs[i]? with
            | none =>
              rw [e] at hy
              cases hy
            | some c =>
              rw [e] at hy
              exact ⟨c, rfl, (Option.some.inj hy).symm⟩
          have kn : Kp (fun b => b = ls) H (upd G Tn (.tup [.ref t, .bl c])) := kp.trans (Kp.new (F := No) hT) fun _ z => z.elim
          refine ⟨Tn, _, rfl, SqT.of upd_same, rfl, _, _, rfl, ⟨t, _, rfl, SqT.of (kn.t.tup ht), rfl, _, _, rfl, _, _, rfl, rfl, ?_⟩⟩
          refine ⟨_, _, rfl, rfl, ?_⟩
          refine hbody i q c [some (.ref p), some (.ref b), some (.int q.1), some q.2, some (.bl c)] _ hq1 hc ⟨_, _, _, rfl⟩ kn (by rw [upd_ne (ne_of_none hls hT)]; exact hls) _ fun σ' G' a1 a2 a3 => ⟨a1, a2, a3⟩
        · rintro σ G ⟨a1, a2, a3⟩
          refine hend σ G a1 a2 ?_
          have e : (m.pend.zip bs).take (min rs.length (bs.map V.bl).length) = m.pend.zip bs := by
            refine List.take_of_length_le ?_
            rw [List.length_zip, List.length_map, Paired.length h4]
            exact Nat.le_refl _
          rw [e] at a3
          exact a3
      refine ⟨lu, b, rs, bs.map V.bl, rfl, (hq (Kp.refl _ _)).1, ?_⟩
      rcases hB with e | e
      · refine .inl ⟨SqL.of e, key _ (fun {G} kp => SqL.of (kp.t.lst e hbl)) _ _ ?body ?fin⟩
        case body => exact stop_body h1 D.sure T Gm nps
        case fin => exact stop_fin h1 h2 h3 D T nps npu hst em k
      · refine .inr ⟨SqT.of e, key _ (fun {G} kp => SqT.of (kp.t.tup e)) _ _ ?body ?fin⟩
        case body => exact stop_body h1 D.sure T Gm nps
        case fin => exact stop_fin h1 h2 h3 D T nps npu hst em k
end
end K5

set_option Elab.async false
set_option linter.all false
set_option maxRecDepth 100000
set_option maxHeartbeats 1000000
namespace K5
open PySem PySem.Spec PyProof.Rows L2
section
variable {P : Program} {w : World} {K : PySem.W.Frag} {mg : Str → Option Value} {base : Heap} {A : Ad}
/-! ### settled -/
theorem scDk7 : FnScope ["self"] ["self"] (defScope (sDk 7)) := ⟨rfl, rfl, rfl, by decide +kernel, rfl, by decide +kernel, by decide +kernel⟩
def spDk7 (A : Ad) : Sp := fun vs H Q _ => ∃ p ls lu m, vs = [.ref p] ∧ DiskAt A H p ls lu m ∧ ∀ l, H l = none → Q (.ref l) (upd H l (.lst m.sure))
theorem ok_dk7 (T : Txt K mg A) : ∃ fd, FnOk P w K mg base CX0 1 (A.dm 7) fd ["self"] (spDk7 A) ∧ Binds K fd ["self"] [] := by
  obtain ⟨fd, F⟩ := T.m7.fn
  refine ⟨fd, F.ok scDk7 (fun vs H Q E h => ?_) (fun cdv Ar outer s H vs Q E hr h => ?_), F.binds fun _ _ _ _ _ _ us hl => match us, hl with | [_], _ => rfl⟩
  · obtain ⟨p, ls, lu, m, rfl, _⟩ := h
    rfl
  · obtain ⟨p, ls, lu, m, rfl, D, k⟩ := h
    obtain ⟨dx, tp, st, h1, h2, hst⟩ := D.ex
    refine ⟨_, pss_one (ps_ret (pe_callTy call_list_of (by rfl) T.list (by decide +kernel) (pa_cons (pe_fld (pv 0) rfl) pa_nil))), ?_⟩
    exact ⟨_, rfl, p, A.disk, dx, _, _, rfl, h1, T.cl, T.nSure, l_sure .., ls, _, rfl, .inl (SqL.of D.sure), k⟩
/-! ### count_deed -/
theorem scDk9 : FnScope ["self"] ["self"] (defScope (sDk 9)) := ⟨rfl, rfl, rfl, by decide +kernel, rfl, by decide +kernel, by decide +kernel⟩
def spDk9 (A : Ad) : Sp := fun vs H Q E => ∃ p ls lu m, vs = [.ref p] ∧ DiskAt A H p ls lu m ∧ Good m ∧
  ∀ G lu', (lu' = lu ∨ H lu' = none) → DiskAt A G p ls lu' m.count.2 → Kp (dF p ls lu) H G → (m.count.1 = true → lu' = lu → Q .non G) ∧ (m.count.1 = false → E (.ref A.stopped) none G)
theorem ok_dk9 (T : Txt K mg A) : ∃ fd, FnOk P w K mg base (L2N.CX P w) 2 (A.dm 9) fd ["self"] (spDk9 A) ∧ Binds K fd ["self"] [] := by
  obtain ⟨fd, F⟩ := T.m9.fn
  obtain ⟨fd8, G8, b8⟩ := ok_dk8 (P := P) (w := w) (base := base) T
  obtain ⟨fd5, G5, b5⟩ := ok_dk5 (P := P) (w := w) (base := base) T
  refine ⟨fd, okN F scDk9 (fun vs H Q E h => ?_) (fun cdv Ar outer s H vs Q E hr h => ?_), F.binds fun _ _ _ _ _ _ us hl => match us, hl with | [_], _ => rfl⟩
  · obtain ⟨p, ls, lu, m, rfl, _⟩ := h
    rfl
  · obtain ⟨p, ls, lu, m, rfl, D, Gm, k⟩ := h
    obtain ⟨dx, tp, st, h1, h2, hst⟩ := D.ex
    obtain ⟨rs, h3, h4⟩ := D.uns
    have tk : L2N.Takes (cxOf (L2N.CX P w) P w K mg base ["self"] "Disk.count_deed" (defScope (sDk 9)) (A.dm 9) cdv Ar outer s H E) (fun cls d _ G => E cls d G) := L2N.takes_of rfl rfl rfl rfl
    refine ⟨_, pss_cons (ps_expr (pe_meth0 (E := E) (pv 0) T.cl T.m8.me G8 hr b8 .nil (L2N.passes_call tk fun _ _ _ _ h => h)))
      (pss_cons (ps_if (pt_cmp (pc_isN (pe_fld (pv 0) rfl))) (pss_one ps_retN) pss_nil)
      (pss_cons (ps_if (pt_cmpR op_le (pe_fld (pv 0) rfl) pe_int (nomark _))
        (pss_cons (ps_expr (pe_meth (pv 0) T.cl T.m5.me G5 hr b5 .nil pass0 (pa_cons (pe_fld (pv 0) rfl) pa_nil)))
        (pss_one (L2N.ps_raise rfl tk (L2N.pmk_own PySem.F.excBase_ValueError T.stopped.ex T.stopped.at_ T.stopped.kp (raises_own T.stopped.sb T.stopped.ty) rfl)))) pss_nil)
      (pss_one (ps_fldaug (pv 0) pe_int in_sub)))), ?_⟩
    refine ⟨_, rfl, p, dx, _, rfl, h1, rfl, p, ls, lu, m, rfl, D, fun er => ?_, fun er => ?_⟩
    · -- it runs
      refine ⟨_, rfl, p, A.disk, dx, _, _, rfl, h1, T.cl, T.nLeft, l_left .., _, rfl, ?_⟩
      cases el : m.left with
      | none =>
        have ec : m.count = (true, m) := by unfold M.count; rw [er, el]; rfl
        rw [ec] at k
        exact iteT ((k H lu (.inl rfl) D (Kp.refl _ _)).1 rfl rfl)
      | some l =>
        rw [el] at h1
        refine iteF ⟨_, rfl, p, A.disk, dx, _, _, rfl, h1, T.cl, T.nLeft, l_left .., _, _, rfl, rfl, _, rfl, ?_⟩
        refine ite2 (fun hle => ?_) (fun hgt => ?_)
        · have hle : l ≤ 0 := by simpa using hle
          have ec : m.count = (false, m.stop m.picks) := by
            unfold M.count
            rw [er, el]
            show (if l ≤ 0 then _ else _) = _
            rw [if_pos hle]
          rw [ec] at k
          refine ⟨_, rfl, p, dx, _, rfl, h1, rfl, _, rfl, p, A.disk, dx, _, _, rfl, h1, T.cl, T.nPicks, l_picks .., ?_⟩
          refine ⟨p, ls, lu, m, tp, m.picks, rfl, D, Gm, .inr h2, ne_of h2 D.sure (by intro z; cases z), fun G lu' hl DG kp => ?_⟩
          exact (k G lu' hl DG kp).2 rfl
        · have hgt : ¬ l ≤ 0 := by simpa using hgt
          have ec : m.count = (true, ⟨m.sure, m.pend, some (l - 1), m.picks, m.run, m.stops⟩) := by
            unfold M.count
            rw [er, el]
            show (if l ≤ 0 then _ else _) = _
            rw [if_neg hgt]
          rw [ec] at k
          refine ⟨_, rfl, p, A.disk, dx, _, _, rfl, h1, T.cl, T.nLeft, rfl, _, _, rfl, rfl, dx, _, h1, by show 6 < 1000; decide, ?_⟩
          have kp := Kp.updI (F := dF p ls lu) (o' := .ins A.disk dx (putF "deeds_left" (.int (l - 1)) (dfl ls lu (optV (some l)) tp m.run st))) h1 (.inl rfl)
          have ntp : tp ≠ p := ne_of h2 h1 (by intro z; cases z)
          have nps : ls ≠ p := ne_of D.sure h1 (by intro z; cases z)
          have npu : lu ≠ p := ne_of h3 h1 (by intro z; cases z)
          exact (k _ lu (.inl rfl) ⟨⟨dx, tp, st, upd_same, by rw [upd_ne ntp]; exact h2, hst⟩, by rw [upd_ne nps]; exact D.sure, ⟨rs, by rw [upd_ne npu]; exact h3, h4.kt kp.t⟩, D.ne⟩ kp).1 rfl rfl
    · have ec : m.count = (false, m) := by unfold M.count; rw [er]; rfl
      rw [ec] at k
      exact (k H lu (.inl rfl) D (Kp.refl _ _)).2 rfl
end
end K5

set_option Elab.async false
set_option linter.all false
set_option maxRecDepth 100000
set_option maxHeartbeats 1000000
namespace K5
open PySem PySem.Spec PyProof.Rows L2
def M.get (m : M) (n : Int) : V := m.pend.foldl (fun f q => if q.1 = n then q.2 else f) (m.sure.getD n.toNat .non)
theorem Paired.at2 {α β : Type} {R : α → β → Prop} {xs : List α} {ys : List β} (h : Paired R xs ys) {i : Nat} {x : α} (e : xs[i]? = some x) : ∃ y, ys[i]? = some y ∧ R x y := Paired.at h e
theorem pairedApp {α β : Type} {R : α → β → Prop} : ∀ {xs zs : List α} {ys ws : List β}, PySem.Paired R xs ys → PySem.Paired R zs ws → PySem.Paired R (xs ++ zs) (ys ++ ws)
  | _, _, _, _, .nil, h => h
  | _, _, _, _, .cons r t, h => .cons r (pairedApp t h)
theorem count_true {m : M} (h : m.count.1 = true) : m.count.2.sure = m.sure ∧ m.count.2.pend = m.pend ∧ m.count.2.run = true ∧ (m.count.2.left = m.left ∨ ∃ l, 0 < l ∧ m.left = some l ∧ m.count.2.left = some (l - 1)) ∧ m.count.2.picks = m.picks := by
  unfold M.count at h ⊢
  cases e : m.run with
  | false =>
    rw [e] at h
    cases h
  | true =>
    rw [e] at h
    rw [if_pos rfl] at h ⊢
    cases el : m.left with
    | none => exact ⟨rfl, rfl, e, .inl el, rfl⟩
    | some l =>
      rw [el] at h
      by_cases hl : l ≤ 0
      · dsimp only at h
        rw [if_pos hl] at h
        cases h
      · dsimp only
        rw [if_neg hl]
        exact ⟨rfl, rfl, rfl, .inr ⟨l, by omega, rfl, rfl⟩, rfl⟩
theorem Good.count {m : M} (g : Good m) (h : m.count.1 = true) : Good m.count.2 := by
  obtain ⟨e1, e2, e3, e4, _⟩ := count_true h
  refine ⟨by rw [e1]; exact g.len, by rw [e2]; exact g.blk, by rw [e2]; exact g.few, (fun z => by rw [e3] at z; cases z), fun l hl => ?_⟩
  rcases e4 with e | ⟨l', h0, h1, h2⟩
  · exact g.nat l (by rw [← e]; exact hl)
  · rw [h2] at hl
    cases hl
    omega
section
variable {P : Program} {w : World} {K : PySem.W.Frag} {mg : Str → Option Value} {base : Heap} {A : Ad}
/-! ### settle -/
theorem scDk2 : FnScope ["self", "block", "what"] ["self"] (defScope (sDk 2)) := ⟨rfl, rfl, rfl, by decide +kernel, rfl, by decide +kernel, by decide +kernel⟩
def spDk2 (A : Ad) : Sp := fun vs H Q E => ∃ p ls lu m, vs = [.ref p] ∧ DiskAt A H p ls lu m ∧ Good m ∧ ∀ G lu', (lu' = lu ∨ H lu' = none) → Kp (dF p ls lu) H G →
  (m.count.1 = true → DiskAt A G p ls lu' m.count.2.settle → Q .non G) ∧ (m.count.1 = false → DiskAt A G p ls lu' m.count.2 → E (.ref A.stopped) none G)
theorem ok_dk2 (T : Txt K mg A) : ∃ fd, FnOk P w K mg base (L2N.CX P w) 3 (A.dm 2) fd ["self"] (spDk2 A) ∧ Binds K fd ["self"] [] := by
  obtain ⟨fd, F⟩ := T.m2.fn
  obtain ⟨fd9, G9, b9⟩ := ok_dk9 (P := P) (w := w) (base := base) T
  refine ⟨fd, okN F scDk2 (fun vs H Q E h => ?_) (fun cdv Ar outer s H vs Q E hr h => ?_), F.binds fun _ _ _ _ _ _ us hl => match us, hl with | [_], _ => rfl⟩
  · obtain ⟨p, ls, lu, m, rfl, _⟩ := h
    rfl
  · obtain ⟨p, ls, lu, m, rfl, D, Gm, k⟩ := h
    have tk : L2N.Takes (cxOf (L2N.CX P w) P w K mg base ["self", "block", "what"] "Disk.settle" (defScope (sDk 2)) (A.dm 2) cdv Ar outer s H E) (fun cls d _ G => E cls d G) := L2N.takes_of rfl rfl rfl rfl
    refine ⟨_, pss_cons (ps_expr (pe_meth0 (E := E) (pv 0) T.cl T.m9.me G9 hr b9 .nil (L2N.passes_call tk fun _ _ _ _ h => h)))
      (PSs.nox (pss_cons (ps_for PassesOwn.never rfl (pi_list (pe_fld (pv 0) rfl)) (pg_tup rfl (pgs_cons (pg_name (i := 1) scDk2.nd rfl (Or.inl rfl)) (pgs_cons (pg_name (i := 2) scDk2.nd rfl (Or.inl rfl)) pgs_nil)))
          (pss_one (ps_asg (pv 2) (pg_sub (pe_fld (pv 0) rfl) (pv 1) set_list))))
        (pss_one (ps_fld (pv 0) (pe_lst pa_nil) rfl)))), ?_⟩
    obtain ⟨dx0, tp0, st0, h10, _, hst0⟩ := D.ex
    refine ⟨_, rfl, p, dx0, _, rfl, h10, rfl, p, ls, lu, m, rfl, D, Gm, fun G lu' hlu DG kp => ⟨fun c e => ?_, fun c => (k G lu' hlu kp).2 c DG⟩⟩
    subst e
    obtain ⟨e1, e2, e3, _, _⟩ := count_true c
    have Gg := Gm.count c
    obtain ⟨dx, tp, st, h1, h2, hst⟩ := DG.ex
    obtain ⟨rs, h3, h4⟩ := DG.uns
    have nps : p ≠ ls := ne_of h1 DG.sure (by intro z; cases z)
    have npu : p ≠ lu' := ne_of h1 h3 (by intro z; cases z)
    refine ⟨_, rfl, p, A.disk, dx, _, _, rfl, h1, T.cl, T.nUns, l_uns .., lu', rfl, ⟨_, SqL.of h3⟩, for_list (K := K) (a := lu') (xs := rs) (fun i σ J => (∃ o1 o2, σ = [some (.ref p), o1, o2]) ∧ Kp (fun b => b = ls) G J ∧ J ls = some (.lst (putAll m.count.2.sure (m.count.2.pend.take i))))
      ⟨⟨none, none, rfl⟩, Kp.refl _ _, by rw [List.take_zero]; exact DG.sure⟩ (fun i σ J _ ⟨_, kj, _⟩ => SqL.of (kj.t.lst h3 fun z => DG.ne z.symm)) ?_ ?_⟩
    · rintro i x σ J hx ⟨⟨o1, o2, rfl⟩, kj, hls⟩
      obtain ⟨q, hq, t, rfl, ht⟩ := Paired.at h4 hx
      refine ⟨t, _, rfl, SqT.of (kj.t.tup ht), rfl, _, _, rfl, _, _, rfl, rfl, ?_⟩
      have hr := Gg.blk q (List.mem_of_getElem? hq)
      have hl : (putAll m.count.2.sure (m.count.2.pend.take i)).length = 35 := by rw [putAll_len, Gg.len]
      refine ⟨_, rfl, _, rfl, p, A.disk, dx, _, _, rfl, kj.t.ins h1 nps, T.cl, T.nSure, l_sure .., _, rfl, ls, _, q.1, q.1.toNat, rfl, rfl, hls, ixN_in hr.1 (by rw [hl]; omega), ?_⟩
      refine ⟨⟨_, _, rfl⟩, kj.andL hls rfl, ?_⟩
      rw [upd_same, take_succ_of hq, putAll_app]
      rfl
    · rintro σ J ⟨⟨o1, o2, rfl⟩, kj, hls⟩
      rw [List.take_of_length_le (Nat.le_of_eq (Paired.length h4).symm)] at hls
      have j1 := kj.t.ins h1 nps
      refine ⟨Nat.zero_le _, fun l nl => ?_⟩
      have npl : p ≠ l := ne_of_none j1 nl
      have nlH : H l = none := kp.free (kj.free nl fun z => by rw [z, hls] at nl; cases nl) fun z => by
        rcases z with z | z | z
        · exact absurd z.symm npl
        · rw [z, hls] at nl
          cases nl
        · subst z
          rw [kj.t.lst h3 fun z => DG.ne z.symm] at nl
          cases nl
      refine ⟨_, rfl, p, A.disk, dx, _, rfl, by rw [upd_ne npl]; exact j1, T.cl, T.nUns, by show 6 < 1000; decide, ?_⟩
      have kn : Kp (dF p ls lu') G _ := ((kj.sub (F' := dF p ls lu') fun b z => .inr (.inl z)).andN (o' := .lst []) nl).andI (o' := .ins A.disk dx (putF "unsure" (.ref l) (dfl ls lu' (optV m.count.2.left) tp m.count.2.run st))) (by rw [upd_ne npl]; exact j1) (.inl rfl)
      refine (k _ l (.inr nlH) (kp.trans kn fun b z => .inl z)).1 c ⟨⟨dx, tp, st, upd_same, kn.t.tup h2, hst⟩, ?_, ⟨[], ?_, .nil⟩, ne_of_none hls nl⟩
      · rw [upd_ne nps.symm, upd_ne (ne_of_none hls nl)]
        exact hls
      · rw [upd_ne npl.symm, upd_same]
/-! ### write -/
theorem scDk1 : FnScope ["self", "block", "what"] ["self", "block", "what"] (defScope (sDk 1)) := ⟨rfl, rfl, rfl, by decide +kernel, rfl, by decide +kernel, by decide +kernel⟩
def Fits (n : Int) (x : Nat) : Prop := 0 ≤ n ∧ n ≤ 34 ∧ x ≤ 40
def spDk1 (A : Ad) (K : PySem.W.Frag) : Sp := fun vs H Q E => ∃ p ls lu m n v d x z, vs = [.ref p, .int n, v] ∧ DiskAt A H p ls lu m ∧ Good m ∧ m.pend.length < 1000 ∧ DatK K H d v x z ∧ z ≤ 10000 ∧ ∀ G lu', (lu' = lu ∨ H lu' = none) → Kp (dF p ls lu) H G →
  (¬ Fits n x → lu' = lu → DiskAt A G p ls lu m → E (.ref A.bad) none G) ∧ (Fits n x → m.count.1 = true → lu' = lu → DiskAt A G p ls lu (m.count.2.write n v) → Q .non G) ∧ (Fits n x → m.count.1 = false → DiskAt A G p ls lu' m.count.2 → E (.ref A.stopped) none G)
theorem ok_dk1 (T : Txt K mg A) : ∃ fd, FnOk P w K mg base (L2N.CX P w) 3 (A.dm 1) fd ["self", "block", "what"] (spDk1 A K) ∧ Binds K fd ["self", "block", "what"] [] := by
  obtain ⟨fd, F⟩ := T.m1.fn
  obtain ⟨fd9, G9, b9⟩ := ok_dk9 (P := P) (w := w) (base := base) T
  obtain ⟨fdC, GC, bC⟩ := ok_check (P := P) (w := w) (base := base) T
  obtain ⟨fdH, GH, bH⟩ := ok_heavy (P := P) (w := w) (base := base) T
  refine ⟨fd, okN F scDk1 (fun vs H Q E h => ?_) (fun cdv Ar outer s H vs Q E hr h => ?_), F.binds fun _ _ _ _ _ _ us hl => match us, hl with | [_, _, _], _ => rfl⟩
  · obtain ⟨p, ls, lu, m, n, v, d, x, z, rfl, _⟩ := h
    rfl
  · obtain ⟨p, ls, lu, m, n, v, d, x, z, rfl, D, Gm, hfew, hd, hz, k⟩ := h
    have tk : L2N.Takes (cxOf (L2N.CX P w) P w K mg base ["self", "block", "what"] "Disk.write" (defScope (sDk 1)) (A.dm 1) cdv Ar outer s H E) (fun cls d _ G => E cls d G) := L2N.takes_of rfl rfl rfl rfl
    refine ⟨_, pss_cons (ps_expr (pe_call (E := E) GC hr rfl T.check.at_ T.check.kp bC .nil (L2N.passes_call tk fun _ _ _ _ h => h) (pa_cons (pv 1) pa_nil)))
      (pss_cons (ps_if (pt_val (pe_call GH (hr.mono (by decide)) rfl T.heavy.at_ T.heavy.kp bH .nil pass0 (pa_cons (pv 2) pa_nil)))
        (pss_one (L2N.ps_raise rfl tk (L2N.pmk_own PySem.F.excBase_ValueError T.bad.ex T.bad.at_ T.bad.kp (raises_own T.bad.sb T.bad.ty) rfl))) pss_nil)
      (pss_cons (ps_expr (pe_meth0 (E := E) (pv 0) T.cl T.m9.me G9 hr b9 .nil (L2N.passes_call tk fun _ _ _ _ h => h)))
      (pss_one (ps_expr (pe_bm PySem.F.plainAttrs_list PySem.F.slot_list_append PySem.F.type_list_append mt_append (pe_fld (pv 0) rfl) (pa_cons (pe_tup (pa_cons (pv 1) (pa_cons (pv 2) pa_nil))) pa_nil)))))), ?_⟩
    refine ⟨_, rfl, n, rfl, fun h0 h34 => ?_, fun hn => (k H lu (.inl rfl) (Kp.refl _ _)).1 (fun f => hn ⟨f.1, f.2.1⟩) rfl D⟩
    refine ⟨_, rfl, v, d, x, z, rfl, hd, hz, fun G kG => ⟨_, rfl, ?_⟩⟩
    have DG : DiskAt A G p ls lu m := D.kt kG.t fun b z => z.elim
    refine ite2 (fun hx => ?_) (fun hx => ?_)
    · have hx : (40 : Int) < x := by simpa using hx
      exact (k G lu (.inl rfl) (kG.sub fun _ z => z.elim)).1 (fun f => by have := f.2.2; omega) rfl DG
    · have hx : ¬ (40 : Int) < x := by simpa using hx
      have fit : Fits n x := ⟨h0, h34, by omega⟩
      obtain ⟨dx0, tp0, st0, h10, _, hst0⟩ := DG.ex
      refine ⟨_, rfl, p, dx0, _, rfl, h10, rfl, p, ls, lu, m, rfl, DG, Gm, fun J lu' hlu DJ kJ => ?_⟩
      have kHJ : Kp (dF p ls lu) H J := (kG.sub fun _ z => z.elim).trans kJ fun b z => .inl z
      have hlu2 : lu' = lu ∨ H lu' = none := hlu.imp id fun e => kG.free e fun z => z.elim
      refine ⟨fun c e => ?_, fun c => (k J lu' hlu2 kHJ).2.2 fit c DJ⟩
      subst e
      obtain ⟨e1, e2, e3, _, _⟩ := count_true c
      obtain ⟨dx, tp, st, h1, h2, hst⟩ := DJ.ex
      obtain ⟨rs, h3, h4⟩ := DJ.uns
      have npu : p ≠ lu' := ne_of h1 h3 (by intro z; cases z)
      have hlr : rs.length = m.pend.length := by rw [← e2]; exact Paired.length h4
      refine ⟨_, rfl, p, A.disk, dx, _, _, rfl, h1, T.cl, T.nUns, l_uns .., .inl ⟨rfl, _, SqL.of h3⟩, _, rfl, _, rfl, sz 2 (by decide), fun t nt => ?_⟩
      have nlt : lu' ≠ t := ne_of_none h3 nt
      refine ⟨lu', rs, _, rfl, rfl, by rw [upd_ne nlt]; exact h3, Nat.lt_of_lt_of_le (show rs.length < 1000 by omega) (sz _ (by decide)), ?_⟩
      have kn : Kp (dF p ls lu') J _ := (Kp.new (F := dF p ls lu') (o := .tup [.int n, v]) nt).andL (o' := .lst (rs ++ [.ref t])) (by rw [upd_ne nlt]; exact h3) (.inr (.inr rfl))
      refine (k _ lu' (.inl rfl) (kHJ.trans kn fun b z => .inl z)).2.1 fit c rfl ⟨⟨dx, tp, st, ?_, kn.t.tup h2, hst⟩, ?_, ⟨rs ++ [.ref t], upd_same, ?_⟩, DJ.ne⟩
      · rw [upd_ne npu, upd_ne (ne_of_none h1 nt)]
        exact h1
      · rw [upd_ne DJ.ne, upd_ne (ne_of_none DJ.sure nt)]
        exact DJ.sure
      · exact pairedApp (h4.kt kn.t) (.cons ⟨t, rfl, by rw [upd_ne nlt.symm, upd_same]⟩ .nil)
end
end K5

set_option Elab.async false
set_option linter.all false
set_option maxRecDepth 100000
set_option maxHeartbeats 1000000
namespace K5
open PySem PySem.Spec PyProof.Rows L2
section
variable {P : Program} {w : World} {K : PySem.W.Frag} {mg : Str → Option Value} {base : Heap} {A : Ad}
/-! ### read -/
theorem scDk3 : FnScope ["self", "block", "found", "place", "what"] ["self", "block"] (defScope (sDk 3)) := ⟨rfl, rfl, rfl, by decide +kernel, rfl, by decide +kernel, by decide +kernel⟩
def spDk3 (A : Ad) : Sp := fun vs H Q E => ∃ p ls lu m n, vs = [.ref p, .int n] ∧ DiskAt A H p ls lu m ∧ Good m ∧ ∀ G, Kp No H G →
  (¬ (0 ≤ n ∧ n ≤ 34) → E (.ref A.bad) none G) ∧ (0 ≤ n → n ≤ 34 → m.run = false → E (.ref A.stopped) none G) ∧ (0 ≤ n → n ≤ 34 → m.run = true → Q (m.get n) G)
theorem ok_dk3 (T : Txt K mg A) : ∃ fd, FnOk P w K mg base (L2N.CX P w) 3 (A.dm 3) fd ["self", "block"] (spDk3 A) ∧ Binds K fd ["self", "block"] [] := by
  obtain ⟨fd, F⟩ := T.m3.fn
  obtain ⟨fd8, G8, b8⟩ := ok_dk8 (P := P) (w := w) (base := base) T
  obtain ⟨fdC, GC, bC⟩ := ok_check (P := P) (w := w) (base := base) T
  refine ⟨fd, okN F scDk3 (fun vs H Q E h => ?_) (fun cdv Ar outer s H vs Q E hr h => ?_), F.binds fun _ _ _ _ _ _ us hl => match us, hl with | [_, _], _ => rfl⟩
  · obtain ⟨p, ls, lu, m, n, rfl, _⟩ := h
    rfl
  · obtain ⟨p, ls, lu, m, n, rfl, D, Gm, k⟩ := h
    have tk : L2N.Takes (cxOf (L2N.CX P w) P w K mg base ["self", "block", "found", "place", "what"] "Disk.read" (defScope (sDk 3)) (A.dm 3) cdv Ar outer s H E) (fun cls d _ G => E cls d G) := L2N.takes_of rfl rfl rfl rfl
    refine ⟨_, pss_cons (ps_expr (pe_call (E := E) GC hr rfl T.check.at_ T.check.kp bC .nil (L2N.passes_call tk fun _ _ _ _ h => h) (pa_cons (pv 1) pa_nil)))
      (pss_cons (ps_expr (pe_meth0 (E := E) (pv 0) T.cl T.m8.me G8 (hr.mono (by decide)) b8 .nil (L2N.passes_call tk fun _ _ _ _ h => h)))
      (PSs.nox (pss_cons (ps_set (i := 2) scDk3.nd rfl (Or.inl rfl) (pe_ix ix_list (pe_fld (pv 0) rfl) (pv 1) (fun _ _ => rfl)))
      (pss_cons (ps_for PassesOwn.never rfl (pi_list (pe_fld (pv 0) rfl)) (pg_tup rfl (pgs_cons (pg_name (i := 3) scDk3.nd rfl (Or.inl rfl)) (pgs_cons (pg_name (i := 4) scDk3.nd rfl (Or.inl rfl)) pgs_nil)))
        (pss_one (ps_if (pt_cmpR op_eq (pv 3) (pv 1) (nomark _)) (pss_one (ps_set (i := 2) scDk3.nd rfl (Or.inl rfl) (pv 4))) pss_nil)))
      (pss_one (ps_ret (pv 2))))))), ?_⟩
    obtain ⟨dx, tp, st, h1, h2, hst⟩ := D.ex
    obtain ⟨rs, h3, h4⟩ := D.uns
    refine ⟨_, rfl, n, rfl, fun h0 h34 => ?_, fun hn => (k H (Kp.refl _ _)).1 hn⟩
    refine ⟨_, rfl, p, dx, _, rfl, h1, rfl, p, ls, lu, m, rfl, D, fun er => ?_, fun er => (k H (Kp.refl _ _)).2.1 h0 h34 er⟩
    have hx : m.sure[n.toNat]? = some (m.sure.getD n.toNat .non) := by
      rw [List.getD_eq_getElem?_getD, List.getElem?_eq_getElem (by rw [Gm.len]; omega)]
      rfl
    refine ⟨_, rfl, p, A.disk, dx, _, _, rfl, h1, T.cl, T.nSure, l_sure .., _, rfl, ls, m.sure, n, m.sure.getD n.toNat .non, rfl, rfl, SqL.of D.sure, by unfold atI; rw [ixN_in h0 (by rw [Gm.len]; omega)]; exact hx, ?_⟩
    refine ⟨_, rfl, p, A.disk, dx, _, _, rfl, h1, T.cl, T.nUns, l_uns .., lu, rfl, ⟨_, SqL.of h3⟩, for_list (K := K) (a := lu) (xs := rs) (fun i σ J => J = H ∧ ∃ o1 o2, σ = [some (.ref p), some (.int n), some ((m.pend.take i).foldl (fun f q => if q.1 = n then q.2 else f) (m.sure.getD n.toNat .non)), o1, o2])
      ⟨rfl, none, none, rfl⟩ (fun i σ J _ ⟨e, _⟩ => by rw [e]; exact SqL.of h3) ?_ ?_⟩
    · rintro i x σ J hxi ⟨rfl, o1, o2, rfl⟩
      obtain ⟨q, hq, t, rfl, ht⟩ := Paired.at h4 hxi
      refine ⟨t, _, rfl, SqT.of ht, rfl, _, _, rfl, _, _, rfl, rfl, _, rfl, _, rfl, rfl, _, rfl, ?_⟩
      have e1 : (m.pend.take (i + 1)).foldl (fun f q => if q.1 = n then q.2 else f) (m.sure.getD n.toNat .non) = if q.1 = n then q.2 else (m.pend.take i).foldl (fun f q => if q.1 = n then q.2 else f) (m.sure.getD n.toNat .non) := by
        rw [take_succ_of hq, List.foldl_append]
        rfl
      refine ite2 (fun he => ?_) (fun he => ?_)
      · have he : q.1 = n := by simpa using he
        refine ⟨_, rfl, rfl, some (.int q.1), some q.2, ?_⟩
        rw [e1, if_pos he]
        rfl
      · have he : ¬ q.1 = n := by simpa using he
        refine ⟨rfl, some (.int q.1), some q.2, ?_⟩
        rw [e1, if_neg he]
        rfl
    · rintro σ J ⟨rfl, o1, o2, rfl⟩
      rw [List.take_of_length_le (Nat.le_of_eq (Paired.length h4).symm)]
      exact ⟨_, rfl, (k J (Kp.refl _ _)).2.2 h0 h34 er⟩
end
end K5

set_option Elab.async false
set_option linter.all false
set_option maxRecDepth 100000
set_option maxHeartbeats 2000000
/-! A generator expression's frame as a context of the hand layer: names and slots are the def's, its own names are forgotten at first; fp: the iterator's addresses -/
namespace GenX
open PySem PySem.Spec PyProof.Rows L2 GenW
def gexCx (X : Cx) (B : Around) (s : Shared) (H : Hp) (env : Env) (fp : List Addr) (pn : List (Addr × Obj)) : Cx :=
  { prog := X.prog, w := X.w, K := X.K, mg := X.mg, base := X.base, A := B.deeper env, N := X.N, s_0 := s, H_0 := H, env := env, outer := X.stack, stack := env :: X.stack, ex := fp,
    fn := fun _ => false, calm := true, pn := pn, xe := fun _ _ => False }
section
variable {X : Cx} {pins : List (Addr × Obj)} {σ : L2.St} {H : Hp} {s : Shared}
/-- the frame has come: nothing but «.0» stands in it -/
theorem gex_start {B : Around} {scope : Scope} {own : List (Str × Nat)} {fp : List Addr} {code it : Value} {s2 : Shared} (I : Inv X pins σ H s) (ok : BlkOk X.N X.env.scope scope own) (hN : X.N.Nodup) (hcell : ∀ y ∈ scope.names, y.2 ≠ .cell) (hfp : ∀ b ∈ fp, FpOk X pins H b ∧ b < s.heap.objs.size)
    (hd : B.handled = none) (hfr : B.frames = some X.stack) (os : s2.os = s.os) (hb : AllBare s2.gens) (kp : ∀ b o, s.heap.get? b = some o → s2.heap.get? b = some o)
    (hns : s2.heap.Ns s.heap.objs.size fun y => if y = ".0" then some it else none) :
    Inv (gexCx X B s H (genEnv scope (cloFrom X.env.cells scope.names []) s.heap.objs.size code builtinsNs X.env) fp []) [] (wipe σ (own.map (·.2))) H s2 := by
  have e0 := I.env0
  have fr : ∀ y ∈ scope.names, y.2 = .free → ∃ c, X.env.cells.lookup y.1 = some c := fun y hy e => (ok.free y hy e).elim (fun k => I.ok.has _ (.inl k)) fun k => I.ok.has _ (.inr k)
  have back : ∀ {y c}, (cloFrom X.env.cells scope.names []).lookup y = some c → X.env.cells.lookup y = some c := fun {y c} e => by
    rcases cloFrom_mem (PySem.mem_of_lookup e) with z | ⟨z1, z2⟩
    · cases z
    · obtain ⟨d, hd'⟩ := fr _ z1 rfl
      have hd' : X.env.cells.lookup y = some d := hd'
      rw [hd'] at z2
      rw [z2]
      exact hd'
  have there : ∀ {y}, scope.names.lookup y = some .free → ∃ c, (cloFrom X.env.cells scope.names []).lookup y = some c := fun {y} hl => mem_lookup (cloFrom_has (cells := X.env.cells) (acc := []) (show (y, NameKind.free) ∈ scope.names from PySem.mem_of_lookup hl))
  have bsF : ∀ b o, X.base.get? b = some o → b ∉ fp := fun b o e z => by
    obtain ⟨_, _, _, k, _⟩ := (hfp b z).1
    rcases k with k | k
    · exact I.ok.noex b o e k
    · have := Heap.lt_size (I.ok.bs b o e).1
      exact absurd (Nat.lt_of_lt_of_le this k) (Nat.lt_irrefl _)
  have fsF : ∀ b ∈ fp, b ∉ frs X.stack := fun b z hm => by
    obtain ⟨_, k1, k2, _⟩ := (hfp b z).1
    rcases List.mem_cons.mp (I.stkSub b hm) with k | k
    · exact k1 k
    · exact k2 k
  have okX : (gexCx X B s H (genEnv scope (cloFrom X.env.cells scope.names []) s.heap.objs.size code builtinsNs X.env) fp []).Ok := by
    refine ⟨e0.mod, ok.kind, I.ok.glob, rfl, Nat.le_refl _, (fun y z c a b => I.ok.inj y z c (back a) (back b)), (fun y hy => ?_), (fun y c z _ => nomatch z), (fun _ => hd), Around.frames_deeper hfr, .inr ⟨rfl, rfl⟩, (fun b z => ⟨Nat.ne_of_lt (hfp b z).2, fun y c e => (hfp b z).1.2.2.2.2.1 y c (back e)⟩), e0.bs, e0.bsz, bsF, fsF, e0.funs, e0.frf⟩
    rcases (show scope.names.lookup y = some .cell ∨ scope.names.lookup y = some .free from hy) with k | k
    · exact absurd rfl (hcell _ (PySem.mem_of_lookup k))
    · exact there k
  refine ⟨okX, os, hb, Un.kept kp, ⟨_, hns, fun i y v e1 e2 e3 => ?_⟩, fun y c e => ?_, I.hok.fresh (Nat.le_refl _), fun y c e => I.freeC y c (back e), (fun p hp => nomatch hp), I.hok.kept kp, by rw [wipe_length]; exact I.len⟩
  · obtain ⟨e2, hi⟩ := wipe_some e2
    have e1 : X.N[i]? = some y := e1
    have mine : ∀ k, scope.names.lookup y = some k → (k = .local ∨ k = .cell) → False := fun k hk hl => by
      rcases ok.own _ (PySem.mem_of_lookup hk) hl with z | z
      · obtain ⟨q, hq, eq⟩ := List.mem_map.mp z
        have eq : q.1 = y := eq
        have hx := ok.ix q hq
        rw [eq] at hx
        have e9 : i = q.2 := (List.getElem?_inj (List.getElem?_eq_some_iff.mp e1).1 hN).mp (e1.trans hx.symm)
        exact hi (List.mem_map.mpr ⟨q, hq, e9.symm⟩)
      · exact z (List.mem_of_getElem? e1)
    rcases (show Vis scope y from e3) with k | k | k
    · exact (mine _ k (.inl rfl)).elim
    · exact (mine _ k (.inr rfl)).elim
    · obtain ⟨m, hn, hl⟩ := I.loc
      have kd := ok.free _ (PySem.mem_of_lookup k) rfl
      have kd : X.env.scope.names.lookup y = some .cell ∨ X.env.scope.names.lookup y = some .free := kd
      obtain ⟨u, r, q⟩ := hl i y v e1 e2 (.inr kd)
      obtain ⟨c, hc⟩ := there k
      refine ⟨u, r, .inr ⟨.inr k, c, hc, ?_⟩⟩
      rcases q with ⟨k', _⟩ | ⟨_, c3, e', z⟩
      · have k' : X.env.scope.names.lookup y = some .local := k'
        rcases kd with k2 | k2 <;> rw [k2] at k' <;> cases k'
      · have := back hc
        rw [this] at e'
        cases e'
        exact z.keeps kp
  · obtain ⟨v, hv⟩ := I.cell y c (back e)
    exact ⟨v, hv.keeps kp⟩
end
end GenX

set_option Elab.async false
set_option linter.all false
set_option maxRecDepth 100000
set_option maxHeartbeats 2000000
namespace GenX
open PySem PySem.Spec PyProof.Rows L2 GenW
/-- its end: all is out -/
def GE (Y : Cx) (S : Addr) (Q : List V → Hp → Prop) : GenEnd := fun n _ r s => r = .ok .next ∧ ∃ ys ip σ H, n + ys.length = sizeLine ∧ GI Y S ip ys σ H s ∧ Q ys H
/-- what the turns do: ys is out ahead of turn i -/
def Turns (J : It) (g : TG) (tt : TT) (te : TE) (vs : List Nat) (σ : L2.St) (cont : List V → Hp → Prop) (W : Nat → Nat → List V → Hp → Prop) : Prop :=
  ∀ i m ys H, W i m ys H → (J.stop i H ∧ cont ys H) ∨ (J.go i H ∧ ∃ Nx : List V → Hp → Prop, (∀ zs H', Nx zs H' → ∃ m', m' < m ∧ W (i + 1) m' zs H') ∧ ∀ x H', J.yld i H x H' →
    g x (wipe σ vs) H' fun σ2 H2 => wipe σ2 vs = wipe σ vs ∧ tt σ2 H2 fun b H3 => if b = true then te σ2 H3 fun y H4 => ys.length < sizeLine ∧ Nx (ys ++ [y]) H4 else Nx ys H3)
section
variable {Y : Cx} {S : Addr} {B : Around} {elt tg iter : Expr} {ifs : List Expr} {scope : Scope} {pos : Pos} {fp : List Addr} {it : Addr} {tn : Nat → Heap → Prop} {J : It} {g : TG} {tt : TT} {te : TE} {vs : List Nat} {σ : L2.St} {cont : List V → Hp → Prop} {W : Nat → Nat → List V → Hp → Prop}
theorem gex_loop (hc : Y.calm = true) (hx : Y.xe = fun _ _ => False) (hf : Y.ex = fp) (hco : Y.env.scope.isCoroutine = false) (hov : ∀ c : Code, c = .compLoop (.GeneratorExp elt [⟨tg, iter, ifs, 0⟩] scope pos) 0 (.ref it) .none Y.env → B.over c [] = Y.A) (hA : Apart Y S) (hpn : ∀ p ∈ Y.pn, p.1 ≠ S) (hpf : ∀ p ∈ Y.pn, p.1 ∉ fp) (hSf : S ∉ fp)
    (T : Turn Y.prog Y.w Y.K tg J fp it tn) (pg : PG Y tg g) (pt : PTs Y ifs tt) (pe : PE Y elt te) (tu : Turns J g tt te vs σ cont W) :
    ∀ (m n i : Nat) (ys : List V) (s₀ s : Shared) (H : Hp), n + ys.length = sizeLine → W i m ys H → GI Y S [] ys (wipe σ vs) H s → tn i s.heap → (∀ b ∈ fp, H b = none) →
      Seg (model Y.prog Y.w) B (GE Y S cont) (GY Y S) n s₀ (.compLoop (.GeneratorExp elt [⟨tg, iter, ifs, 0⟩] scope pos) 0 (.ref it) .none Y.env)
        ((model Y.prog Y.w).den (.compLoop (.GeneratorExp elt [⟨tg, iter, ifs, 0⟩] scope pos) 0 (.ref it) .none Y.env)) [] s := by
  have hover := hov _ rfl
  have stat : ∀ {σ' : L2.St} {H' : Hp} {s' : Shared} {acc : Array Value} {c : Nat}, Inv Y [(S, lstObj acc c)] σ' H' s' → (∀ b ∈ fp, H' b = none) → ∀ b ∈ fp, FpOk Y [(S, lstObj acc c)] H' b := fun {σ' H' s' acc c} I hn b hb => by
    have hb' : b ∈ Y.ex := by rw [hf]; exact hb
    refine ⟨hn b hb, (I.ok.exf b hb').1, I.ok.exfs b hb', .inl hb', fun x c e => (I.ok.exf b hb').2 x c e, fun p hp => ?_⟩
    rcases List.mem_append.mp hp with z | z
    · exact fun e => hpf p z (e ▸ hb)
    · rw [List.mem_singleton.mp z]
      exact fun e => hSf (by rw [show S = b from e]; exact hb)
  have dead : ∀ {n : Nat} {s₀ : Shared} {e : Value} {s' : Shared} {P : Prop}, Y.xe e s' → P := fun {n s₀ e s' P} h => by
    rw [hx] at h
    exact h.elim
  intro m
  induction m using Nat.strongRecOn with
  | ind m ih =>
    intro n i ys s₀ s H hn w hI st hnf
    obtain ⟨acc, c, r, I⟩ := hI
    show Seg _ B _ _ _ s₀ _ ((compTurn (.GeneratorExp elt [⟨tg, iter, ifs, 0⟩] scope pos) 0 (.ref it) .none Y.env).onRaise (leaving Y.env)) [] s
    rw [compTurn_gen, Sem.onRaise_eq_wrap]
    refine seg_bind_wrap (wpAny_standAt ?_)
    rcases tu i m ys H w with ⟨stop, q⟩ | ⟨go, Nx, hNx, step⟩
    · have td := T.done Y rfl rfl rfl hc i [(S, lstObj acc c)] s _ H (fun _ _ => False) I (stat I hnf) st stop
      refine seg_bind_wrap ?_
      rw [hover]
      refine wpAny_mono td (fun z s6 hz => ?_) fun _ _ e => e.elim
      obtain ⟨rfl, I6⟩ := hz
      exact seg_end (.ok .next) ⟨rfl, ys, [], _, H, hn, ⟨acc, c, r, I6⟩, q⟩
    · have ti := T.item Y rfl rfl rfl hc i [(S, lstObj acc c)] s _ H (fun _ _ => False) I (stat I hnf) st go
      refine seg_bind_wrap ?_
      rw [hover]
      refine wpAny_mono ti (fun z s6 hz => ?_) fun _ _ e => e.elim
      obtain ⟨u, rfl, h6⟩ := hz
      refine seg_bind_wrap ?_
      rw [hover]
      refine wpAny_mono h6 (fun _ s7 h7 => ?_) fun _ _ e => e.elim
      obtain ⟨x, H7, I7, r7, y7, st7, n7⟩ := h7
      have I7' := I7.pinned (stat I7 n7) (T.obj _ _ st7)
      refine seg_bind_wrap ?_
      rw [hover]
      refine wpAny_mono (pg.run _ s7 _ H7 x u _ I7' r7 (step x H7 y7)) (fun _ s8 h8 => ?_) fun _ _ e => dead (n := n) (s₀ := s₀) e
      obtain ⟨σ8, H8, I8, hw8, q8⟩ := h8
      refine seg_bind_wrap ?_
      rw [hover]
      refine wpAny_mono (pt.run _ s8 σ8 H8 _ I8 q8) (fun b s9 h9 => ?_) fun _ _ e => dead (n := n) (s₀ := s₀) e
      obtain ⟨H9, I9, q9⟩ := h9
      have hl8 : (wipe σ vs).length = σ8.length := by rw [← hw8, wipe_length]
      -- behind the turn
      have turn : ∀ {n' : Nat} {s₀' s' : Shared} {H' : Hp} {zs : List V}, n' + zs.length = sizeLine → GI Y S (pinsAt fp s7.heap) zs σ8 H' s' → Nx zs H' → Seg (model Y.prog Y.w) B (GE Y S cont) (GY Y S) n' s₀' (.compLoop (.GeneratorExp elt [⟨tg, iter, ifs, 0⟩] scope pos) 0 (.ref it) .none Y.env)
          ((model Y.prog Y.w).den (.compLoop (.GeneratorExp elt [⟨tg, iter, ifs, 0⟩] scope pos) 0 (.ref it) .none Y.env)) [] s' := fun {n' s₀' s' H' zs} hn' hG nx => by
        obtain ⟨m', hm, w'⟩ := hNx zs H' nx
        obtain ⟨acc', c', r', I'⟩ := hG
        have pin' : ∀ b ∈ fp, ∀ o, s7.heap.get? b = some o → s'.heap.get? b = some o ∧ H' b = none := fun b hb o e =>
          let z := I'.pin (b, o) (List.mem_append_right _ (List.mem_cons_of_mem _ (mem_pinsAt hb e)))
          ⟨z.1, z.2.1⟩
        have I2 : Inv Y [(S, lstObj acc' c')] σ8 H' s' := I'.pins_of fun p hp => I'.pin p (List.mem_append_right _ (by rw [List.mem_singleton.mp hp]; exact List.mem_cons_self))
        refine ih m' hm n' (i + 1) zs s₀' s' H' hn' w' ⟨acc', c', r', I2.weak hl8 fun j v e => ?_⟩ (T.keep _ _ _ st7 fun b hb o e => (pin' b hb o e).1) fun b hb => ?_
        · rw [← hw8] at e
          exact (wipe_some e).1
        · obtain ⟨o, e, _⟩ := T.obj _ _ st7 b hb
          exact (pin' b hb o e).2
      cases b with
      | false =>
        simp only [Bool.false_eq_true, if_false] at q9 ⊢
        exact seg_again rfl (turn hn ⟨acc, c, r, I9⟩ q9)
      | true =>
        simp only [if_true] at q9 ⊢
        have hy : ∀ v, yieldOut Y.env v = yieldValue v := fun v => by simp only [yieldOut, hco, Bool.false_eq_true, if_false]
        simp only [hy]
        rw [Sem.bind_eq_wrap', Sem.bind_eq_wrap', Sem.wrap_wrap, Sem.wrap_wrap]
        refine seg_wrap ?_
        rw [hover]
        refine wpAny_mono (pe.run _ s9 σ8 H9 _ I9 q9) (fun v s10 h10 => ?_) fun _ _ e => dead (n := n) (s₀ := s₀) e
        obtain ⟨yv, H10, I10, r10, hlt, nx⟩ := h10
        obtain ⟨n', rfl⟩ : ∃ n', n = n' + 1 := ⟨n - 1, by omega⟩
        have hip : ∀ p ∈ pinsAt fp s7.heap, p.1 ≠ S := fun p hp e => hSf (e ▸ (of_pinsAt hp).1)
        refine seg_at (seg_yield rfl rfl rfl ⟨ys, yv, pinsAt fp s7.heap, σ8, H10, hn, r10, ⟨acc, c, r, I10⟩, fun s'' hz => ?_⟩)
        exact seg_again rfl (turn (by rw [List.length_append, List.length_singleton]; omega) (GI.woken hpn hip hA ⟨acc, c, r, I10⟩ r10 hz) nx)
end
end GenX

set_option Elab.async false
set_option linter.all false
set_option maxRecDepth 100000
set_option maxHeartbeats 2000000
namespace GenX
open PySem PySem.Spec PyProof.Rows L2 GenW
section
variable {Y : Cx} {S : Addr} {B : Around} {elt tg iter : Expr} {ifs : List Expr} {scope : Scope} {pos : Pos} {fp : List Addr} {it : Addr} {tn : Nat → Heap → Prop} {J : It} {g : TG} {tt : TT} {te : TE} {vs : List Nat} {σ : L2.St} {cont : List V → Hp → Prop} {W : Nat → Nat → List V → Hp → Prop}
theorem gex_begin {R : GenEnd} {Pr : Protocol} {n : Nat} {s₀ s : Shared} (T : Turn Y.prog Y.w Y.K tg J fp it tn) (st : tn 0 s.heap)
    (h : Seg (model Y.prog Y.w) B R Pr n s₀ (.compLoop (.GeneratorExp elt [⟨tg, iter, ifs, 0⟩] scope pos) 0 (.ref it) .none Y.env) ((model Y.prog Y.w).den (.compLoop (.GeneratorExp elt [⟨tg, iter, ifs, 0⟩] scope pos) 0 (.ref it) .none Y.env)) [] s) :
    Seg (model Y.prog Y.w) B R Pr n s₀ (.compStart (.GeneratorExp elt [⟨tg, iter, ifs, 0⟩] scope pos) 0 (.ref it) .none Y.env) ((model Y.prog Y.w).den (.compStart (.GeneratorExp elt [⟨tg, iter, ifs, 0⟩] scope pos) 0 (.ref it) .none Y.env)) [] s := by
  show Seg _ B _ _ _ s₀ _ ((compStart (.GeneratorExp elt [⟨tg, iter, ifs, 0⟩] scope pos) 0 (.ref it) .none Y.env).onRaise (leaving Y.env)) [] s
  unfold compStart
  rw [Sem.onRaise_eq_wrap]
  show Seg _ B _ _ _ s₀ _ ((ask >>= _).wrap _ _ _ _) [] s
  refine seg_bind_wrap (wpAny_askSetting ?_)
  split
  · exact seg_again rfl h
  · refine seg_bind_wrap (wpAny_rule ?_)
    show Seg _ B _ _ _ s₀ _ ((standAt iter.pos >>= _).wrap _ _ _ _) [] s
    exact seg_bind_wrap (wpAny_standAt (seg_bind_wrap (T.self _ 0 s _ _ st (seg_again rfl h))))
end
/-- the generator's code stands where a def's body would -/
theorem over_gex {A : Around} {c : Code} {elt : Expr} {gens : List Comprehension} {scope : Scope} {pos : Pos} {it : Value} {env : Env} (h : c = .compLoop (.GeneratorExp elt gens scope pos) 0 it .none env ∨ c = .compStart (.GeneratorExp elt gens scope pos) 0 it .none env) : A.over c [] = A.deeper env := by
  obtain ⟨hd, d, fr, gs, u⟩ := A
  rcases h with rfl | rfl <;> simp [Around.over, Around.deeper, marksOver, frameCount, unitsOf, envsOf, guardsOf, pushEnvs, pushGuards, Code.envs, Code.env?, Code.isFrame, Code.guards, Code.isGuard, Code.weight, Code.frames, Code.isCreation, Code.isCaller, Code.cUnits]
/-- what is pinned in the context, if it holds -/
theorem gex_pin {X : Cx} {B : Around} {s s1 : Shared} {H H' : Hp} {env : Env} {fp : List Addr} {pn pins : List (Addr × Obj)} {σ : L2.St} (I : Inv (gexCx X B s H env fp []) [] σ H' s1)
    (h : ∀ p ∈ pn ++ pins, s1.heap.get? p.1 = some p.2 ∧ H' p.1 = none ∧ p.1 ≠ env.locals ∧ p.1 ∉ frs X.stack ∧ ∀ v, p.2.data ≠ .cell v) : Inv (gexCx X B s H env fp pn) pins σ H' s1 :=
  ⟨⟨I.ok.mod, I.ok.kind, I.ok.glob, I.ok.blt, I.ok.above, I.ok.inj, I.ok.has, I.ok.cab, I.ok.hd, I.ok.frames, I.ok.stk, I.ok.exf, I.ok.bs, I.ok.bsz, I.ok.noex, I.ok.exfs, I.ok.funs, I.ok.frf⟩, I.os, I.bare, I.base, I.loc, I.cell, I.free, I.freeC, h, I.hok, I.len⟩
end GenX

set_option Elab.async false
set_option linter.all false
set_option maxRecDepth 100000
set_option maxHeartbeats 2000000
namespace GenX
open PySem PySem.Spec PyProof.Rows L2 GenW
/-- the frame's environment -/
abbrev gexE (X : Cx) (scope : Scope) (C : Addr) (code : Value) : Env := genEnv scope (cloFrom X.env.cells scope.names []) C code builtinsNs X.env
theorem clo_back {X : Cx} {scope : Scope} {own : List (Str × Nat)} (okX : X.Ok) (ok : BlkOk X.N X.env.scope scope own) {y : Str} {c : Addr} (e : (cloFrom X.env.cells scope.names []).lookup y = some c) : X.env.cells.lookup y = some c := by
  rcases cloFrom_mem (PySem.mem_of_lookup e) with z | ⟨z1, z2⟩
  · cases z
  · obtain ⟨d, hd'⟩ := (ok.free _ z1 rfl).elim (fun k => okX.has _ (.inl k)) fun k => okX.has _ (.inr k)
    have hd' : X.env.cells.lookup y = some d := hd'
    rw [hd'] at z2
    rw [z2]
    exact hd'
section
variable {X : Cx} {pins : List (Addr × Obj)} {σ : L2.St} {H : Hp} {s : Shared} {elt tg iter : Expr} {ifs : List Expr} {scope : Scope} {pos : Pos} {fp : List Addr} {it : Addr} {tn : Nat → Heap → Prop} {J : It} {g : TG} {tt : TT} {te : TE} {own : List (Str × Nat)} {cont : List V → Hp → Prop} {k : Nat} {EX : XK}
theorem gex_made {code : Value} {h' : Heap} {nm qn : Value} {tk : Nat} (I : Inv X pins σ H s) (ok : BlkOk X.N X.env.scope scope own) (hN : X.N.Nodup) (hcell : ∀ y ∈ scope.names, y.2 ≠ .cell) (hco : scope.isCoroutine = false)
    (T : Turn X.prog X.w X.K tg J fp it tn) (st : tn 0 s.heap) (hfp : ∀ b ∈ fp, FpOk X pins H b)
    (hns : h'.Ns s.heap.objs.size fun y => if y = ".0" then some (.ref it) else none) (hsz : h'.objs.size = s.heap.objs.size + 1) (kp : ∀ b o, s.heap.get? b = some o → h'.get? b = some o)
    (pg : ∀ (B : Around) (pn : List (Addr × Obj)), Room k (B.deeper (gexE X scope s.heap.objs.size code)) → PG (gexCx X B s H (gexE X scope s.heap.objs.size code) fp pn) tg g)
    (pt : ∀ (B : Around) (pn : List (Addr × Obj)), Room k (B.deeper (gexE X scope s.heap.objs.size code)) → PTs (gexCx X B s H (gexE X scope s.heap.objs.size code) fp pn) ifs tt)
    (pe : ∀ (B : Around) (pn : List (Addr × Obj)), Room k (B.deeper (gexE X scope s.heap.objs.size code)) → PE (gexCx X B s H (gexE X scope s.heap.objs.size code) fp pn) elt te)
    (q : ∃ W : Nat → Nat → List V → Hp → Prop, (∃ m, W 0 m [] H) ∧ Turns J g tt te (own.map (·.2)) σ cont W) :
    GMade X.prog X.w (k + 1) X.stack H s fp cont EX (.ref h'.objs.size)
      { s with gens := s.gens.push (.fresh (.compStart (.GeneratorExp elt [⟨tg, iter, ifs, 0⟩] scope pos) 0 (.ref it) .none (gexE X scope s.heap.objs.size code))), toks := tk, heap := h'.push { cls := .type "generator", data := .fields #[.int s.gens.size 0, nm, qn] } } := by
  obtain ⟨W, ⟨m0, w0⟩, tu⟩ := q
  have here : (h'.push { cls := .type "generator", data := .fields #[.int s.gens.size 0, nm, qn] }).get? h'.objs.size = some { cls := .type "generator", data := .fields #[.int s.gens.size 0, nm, qn] } := Heap.get?_push_size _ rfl
  have kg : ∀ b o, s.heap.get? b = some o → (h'.push { cls := .type "generator", data := .fields #[.int s.gens.size 0, nm, qn] }).get? b = some o := fun b o e => Heap.get?_push_of_some _ (kp b o e)
  have isg : ∀ h : Heap, h.get? h'.objs.size = some { cls := .type "generator", data := .fields #[.int s.gens.size 0, nm, qn] } → h.IsGen h'.objs.size s.gens.size := fun h e => ⟨_, nm, qn, e, rfl, rfl, rfl⟩
  refine ⟨h'.objs.size, s.gens.size, _, rfl, by rw [hsz]; exact Nat.le_succ _, by show _ < (h'.push _).objs.size; rw [Heap.size_push]; exact Nat.lt_succ_self _, isg _ here, Array.getElem?_push_size .., rfl, I.bare.push rfl, I.nolimit.keeps kg, kg, ?_⟩
  intro B S s2 hr hfr hS hk hSo hos hbare
  have hrk : Room k (B.deeper (gexE X scope s.heap.objs.size code)) := hr.deeper _
  have lt : ∀ b ∈ fp, b < s.heap.objs.size := fun b hb => by
    obtain ⟨o, e, _⟩ := T.obj _ _ st b hb
    exact Heap.lt_size e
  have k2 : ∀ b o, s.heap.get? b = some o → s2.heap.get? b = some o := fun b o e => hk b o (kg b o e)
  have hns2 : s2.heap.Ns s.heap.objs.size fun y => if y = ".0" then some (.ref it) else none := hns.keeps fun b o e => hk b o (Heap.get?_push_of_some _ e)
  have I1 := gex_start (B := B) (own := own) (code := code) (it := .ref it) I ok hN hcell (fun b hb => ⟨hfp b hb, lt b hb⟩) hr.hd hfr hos hbare k2 hns2
  have hSz : h'.objs.size < S := by
    have : (h'.push { cls := .type "generator", data := .fields #[.int s.gens.size 0, nm, qn] }).objs.size ≤ S := hS
    rw [Heap.size_push] at this
    exact this
  obtain ⟨cS, eS⟩ := hSo
  have eg := hk _ _ here
  have young : ∀ b, s.heap.objs.size < b → H b = none ∧ b ≠ s.heap.objs.size ∧ b ∉ frs X.stack ∧ s.heap.objs.size ≤ b ∧ (∀ y c, (cloFrom X.env.cells scope.names []).lookup y = some c → c ≠ b) ∧ b ∉ fp := fun b hb => by
    refine ⟨I.hok.fresh (Nat.le_of_lt hb), Nat.ne_of_gt hb, fun hm => ?_, Nat.le_of_lt hb, fun y c e z => ?_, fun hm => absurd (Nat.lt_trans hb (lt b hm)) (Nat.lt_irrefl _)⟩
    · rcases List.mem_cons.mp (I.stkSub b hm) with z | z
      · have := I.lt
        rw [← z] at this
        exact absurd (Nat.lt_trans hb this) (Nat.lt_irrefl _)
      · exact I.nofs (Nat.le_of_lt hb) z
    · obtain ⟨v, o, ho, _⟩ := I.cell y c (clo_back I.ok ok e)
      have := Heap.lt_size ho
      rw [z] at this
      exact absurd (Nat.lt_trans hb this) (Nat.lt_irrefl _)
  have hgs : s.heap.objs.size < h'.objs.size := by rw [hsz]; exact Nat.lt_succ_self _
  obtain ⟨g1, g2, g3, g4, g5, g6⟩ := young h'.objs.size hgs
  obtain ⟨u1, u2, u3, u4, u5, u6⟩ := young S (Nat.lt_trans hgs hSz)
  have hI : GI (gexCx X B s H (gexE X scope s.heap.objs.size code) fp [(h'.objs.size, { cls := .type "generator", data := .fields #[.int s.gens.size 0, nm, qn] })]) S [] [] (wipe σ (own.map (·.2))) H s2 := by
    refine ⟨#[], cS, .nil, gex_pin I1 fun p hp => ?_⟩
    rcases List.mem_append.mp hp with z | z <;> rw [List.mem_singleton.mp z]
    · exact ⟨eg, g1, g2, g3, (fun v e => nomatch e)⟩
    · exact ⟨eS, u1, u2, u3, (fun v e => nomatch e)⟩
  have hne : ∀ p ∈ (gexCx X B s H (gexE X scope s.heap.objs.size code) fp [(h'.objs.size, { cls := .type "generator", data := .fields #[.int s.gens.size 0, nm, qn] })]).pn, p.1 ≠ S := fun p hp => by
    rw [List.mem_singleton.mp hp]
    exact Nat.ne_of_lt hSz
  have hpf : ∀ p ∈ (gexCx X B s H (gexE X scope s.heap.objs.size code) fp [(h'.objs.size, { cls := .type "generator", data := .fields #[.int s.gens.size 0, nm, qn] })]).pn, p.1 ∉ fp := fun p hp => by
    rw [List.mem_singleton.mp hp]
    exact g6
  have hAp : Apart (gexCx X B s H (gexE X scope s.heap.objs.size code) fp [(h'.objs.size, { cls := .type "generator", data := .fields #[.int s.gens.size 0, nm, qn] })]) S := ⟨u4, u2, u5⟩
  have own2 : ∀ {ip : List (Addr × Obj)} {ys : List V} {s' : Shared} {σ' : L2.St} {H' : Hp}, GI (gexCx X B s H (gexE X scope s.heap.objs.size code) fp [(h'.objs.size, { cls := .type "generator", data := .fields #[.int s.gens.size 0, nm, qn] })]) S ip ys σ' H' s' → s'.heap.IsGen h'.objs.size s.gens.size := fun {ip ys s' σ' H'} h => by
    obtain ⟨acc, cc, _, K⟩ := h
    exact isg _ (K.pin (h'.objs.size, _) (List.mem_append_left _ (List.mem_singleton.mpr rfl))).1
  have st2 : tn 0 s2.heap := T.keep _ _ _ st fun b _ o e => k2 b o e
  refine seg_imp (fun n s₀ r s1' hR => ?_) (fun n s₀ v s1' kap kap' hkk hY => ?_) sizeLine (gex_begin (Y := gexCx X B s H (gexE X scope s.heap.objs.size code) fp [(h'.objs.size, { cls := .type "generator", data := .fields #[.int s.gens.size 0, nm, qn] })]) T st2 (gex_loop rfl rfl rfl hco (fun c hc => over_gex (.inl hc)) hAp hne hpf u6 T (pg B _ hrk) (pt B _ hrk) (pe B _ hrk) tu m0 sizeLine 0 [] s2 s2 H (Nat.add_zero _) w0 hI st2 fun b hb => (hfp b hb).1))
  · obtain ⟨rfl, ys, ip, σ', H', hn, hG, hQ⟩ := hR
    obtain ⟨a1, _, _, acc, cc, ra, ea⟩ := hG.at
    obtain ⟨_, _, _, K⟩ := hG
    exact .inl ⟨.inr rfl, H', ys, acc, cc, K.os, K.bare, K.base, K.hok, a1, ea, ra, by omega, hQ⟩
  · obtain ⟨ys, xx, ip, σ', H', hn, rx, hG, hw⟩ := hY
    obtain ⟨_, _, _, acc, cc, ra, ea⟩ := hG.at
    have hg := own2 hG
    obtain ⟨_, _, _, K⟩ := hG
    have hl : acc.size = ys.length := by
      have e1 := ra.length
      have e2 : acc.toList.length = acc.size := by simp
      omega
    exact ⟨K.os, K.bare, K.nolimit, hg, ⟨acc, cc, ea, by rw [hl]; exact hn⟩, fun s' z => hkk _ _ (hw s' z)⟩
end
end GenX

set_option Elab.async false
set_option linter.all false
set_option maxRecDepth 100000
set_option maxHeartbeats 2000000
namespace GenX
open PySem PySem.Spec PyProof.Rows L2 GenW
/-- a generator expression in a def whose code table is at P: the table may have grown; then its turns -/
def tGex (P : Addr) (wi : TI) (g : TG) (tt : TT) (te : TE) (vs : List Nat) : TGen := fun σ H cont => wi σ H fun J H1 => ∃ ps : Array Value, H1 P = some (.tbl ps) ∧ TriplesOk ps.toList ∧
  ∀ qs : Array Value, TriplesOk qs.toList → ∃ W : Nat → Nat → List V → Hp → Prop, (∃ m, W 0 m [] (upd H1 P (.tbl qs))) ∧ Turns J g tt te vs σ cont W
section
variable {X : Cx} {elt tg iter : Expr} {ifs : List Expr} {scope : Scope} {pos : Pos} {g : TG} {tt : TT} {te : TE} {own : List (Str × Nat)} {wi : TI} {k : Nat} {EX : XK} {c P : Addr}
theorem pgen_gex (hd : X.A.handled = none) (hdep : X.A.depth < recursionLimit) (TB : GxR.TabB X.base X.mg c P) (hcode : X.env.code = .ref c) (ok : BlkOk X.N X.env.scope scope own) (hN : X.N.Nodup) (hcell : ∀ y ∈ scope.names, y.2 ≠ .cell) (hco : scope.isCoroutine = false) (dot : scope.names.lookup (".0" : Str) = some NameKind.local)
    (hi : PI X tg iter wi) (hs : ∀ v, genFold iter X.env v = pure v)
    (pg : ∀ (B : Around) (s : Shared) (H : Hp) (C : Addr) (code : Value) (fp : List Addr) (pn : List (Addr × Obj)), Room k (B.deeper (gexE X scope C code)) → PG (gexCx X B s H (gexE X scope C code) fp pn) tg g)
    (pt : ∀ (B : Around) (s : Shared) (H : Hp) (C : Addr) (code : Value) (fp : List Addr) (pn : List (Addr × Obj)), Room k (B.deeper (gexE X scope C code)) → PTs (gexCx X B s H (gexE X scope C code) fp pn) ifs tt)
    (pe : ∀ (B : Around) (s : Shared) (H : Hp) (C : Addr) (code : Value) (fp : List Addr) (pn : List (Addr × Obj)), Room k (B.deeper (gexE X scope C code)) → PE (gexCx X B s H (gexE X scope C code) fp pn) elt te) :
    PGen X (k + 1) (.GeneratorExp elt [⟨tg, iter, ifs, 0⟩] scope pos) (tGex P wi g tt te (own.map (·.2))) EX := by
  refine ⟨fun pins s σ H cont I h => ?_⟩
  have hfree : ∀ y ∈ scope.names, y.2 = .free → ∃ c, X.env.cells.lookup y.1 = some c := fun y hy e => (ok.free y hy e).elim (fun k => I.ok.has _ (.inl k)) fun k => I.ok.has _ (.inr k)
  refine wpAny_GeneratorExp_make hco (closure_ok hfree) hcell dot ok.kind hdep (thn (hi.run pins s σ H _ I h) fun xv s1 hx => thn hx fun itv s2 h2 => ⟨?_, ?_⟩) hs
  · obtain ⟨it, fp, tn, J, H2, e, I2, _⟩ := h2
    exact I2.nolimit
  obtain ⟨it, fp, tn, J, H2, rfl, I2, T, st2, f2, ps, hP, ht, q⟩ := h2
  have hPs : s2.heap.get? P = some { cls := .none, data := .fields ps } := I2.hok P _ hP
  have cd : PySem.W.CodeHd s2.heap c P := TB.code.keeps fun b u e => I2.bk b u e
  have cont2 : ∀ (code : Value) (h3 : Heap) (tk : Nat) (more : Array Value), Heap.ExtBut P s2.heap h3 → s2.heap.objs.size ≤ h3.objs.size → h3.get? P = some { cls := .none, data := .fields (ps ++ more) } → TriplesOk (ps ++ more).toList →
      wpAny (model X.prog X.w) X.A (builtinsFor X.env.globals X.env.builtins) (fun bi s₄ => ∀ h' : Heap, h'.Ns s₄.heap.objs.size (fun y => if y = ".0" then some (.ref it) else none) → Heap.SameBut s₄.heap.objs.size (s₄.heap.push { cls := .type "frame", data := .dict #[] }) h' →
        (fun u s' => ∃ H1 sc ex, Inv X pins σ H1 sc ∧ ExOk X pins ex ∧ GMade X.prog X.w (k + 1) X.stack H1 sc ex cont EX u s') (.ref h'.objs.size)
          { s₄ with gens := s₄.gens.push (.fresh (.compStart (.GeneratorExp elt [⟨tg, iter, ifs, 0⟩] scope pos) 0 (.ref it) .none (genEnv scope (cloFrom X.env.cells scope.names []) s₄.heap.objs.size code bi X.env))), toks := s₄.toks + 1 + 1 + 1,
                    heap := h'.push { cls := .type "generator", data := .fields #[.int s₄.gens.size 0, .str "<genexpr>" (s₄.toks + 1), .str (X.env.qual ++ "<genexpr>") (s₄.toks + 1 + 1)] } }) X.xe { s2 with heap := h3, toks := tk } := by
    intro code h3 tk more hx hsz hP3 ht3
    obtain ⟨bm, ob, e1, e2, e3, e4, e5, e6, e7, e8⟩ := TB.bm
    have I3 : Inv X pins σ (upd H2 P (.tbl (ps ++ more))) { s2 with heap := h3, toks := tk } := GxR.inv_tab (more := more) (h' := h3) (g' := s2.gens) (d' := s2.drawn) (t' := tk) I2 hP (fun b u hb e => hx b u hb e) hP3 I2.bare
    have apart : ∀ b ∈ fp, b ≠ P := fun b hb z => by
      have := (f2 b hb).1
      rw [z, hP] at this
      cases this
    have f3 : ∀ b ∈ fp, FpOk X pins (upd H2 P (.tbl (ps ++ more))) b := fun b hb => ⟨by rw [upd_ne (apart b hb)]; exact (f2 b hb).1, (f2 b hb).2⟩
    have st3 : tn 0 h3 := T.keep _ _ _ st2 fun b hb o e => hx b o (apart b hb) e
    refine wpAny_builtinsFor (m := X.mg) (by rw [I2.ok.glob]; exact (I2.mod.glob.keeps I2.bk).extBut hx TB.gP) e1 e2 (hx _ _ e4 (I2.bk _ _ e5)) e6 e7 e8 ?_
    intro h' hn' hs'
    refine ⟨_, _, fp, I3, fun b hb => ?_, gex_made (own := own) (code := code) I3 ok hN hcell hco T st3 f3 hn' (by rw [hs'.1, Heap.size_push]) (fun b o e => hs'.extBut b o (Nat.ne_of_lt (Heap.lt_size e)) (Heap.get?_push_of_some _ e)) (fun B pn => pg B _ _ _ _ _ pn) (fun B pn => pt B _ _ _ _ _ pn) (fun B pn => pe B _ _ _ _ _ pn) (q _ ht3)⟩
    obtain ⟨_, a1, _, a3, a4, a5⟩ := f2 b hb
    exact ⟨a3, a1, a4, a5⟩
  cases hf : codeAmong pos ps.toList with
  | none =>
    refine PySem.wpAny_genexprCodeX hcode (cd.code hPs ht) (cd.tab hPs) hf fun c' h' tk hx hge hlt hco' _ htab' _ => ?_
    obtain ⟨o1, vs, f1, tf, fl, tg', inF, tx, tt', op, _, _, _, _, _, _, _, _, _, htr, _⟩ := hco'
    exact cont2 _ h' tk _ hx (Nat.le_trans hge (Nat.le_of_lt hlt)) htab'.2 htr
  | some cv =>
    refine PySem.wpAny_genexprCode_hit hcode (cd.code hPs ht) hf ?_
    exact cont2 cv s2.heap s2.toks #[] (Heap.ExtBut.refl _ _) (Nat.le_refl _) (by simpa using hPs) (by simpa using ht)
end
end GenX

set_option Elab.async false
set_option linter.all false
set_option maxRecDepth 100000
set_option maxHeartbeats 2000000
namespace GenX
open PySem PySem.Spec PyProof.Rows L2 GenW
section
variable {P : Program} {w : World} {outer : List Env} {H : Hp} {sc s : Shared} {ex : List Addr} {Q : List V → Hp → Prop} {EX : XK} {A : Around} {k : Nat} {E : Value → Shared → Prop}
/-- all that a generator hands out, as a list that stands in the heap -/
theorem collect_new {u : Value} {Qc : List Value → Shared → Prop} (hr : Room (k + 2) A) (hfr : A.frames = some outer) (gm : GMade P w k outer H sc ex Q EX u s)
    (lost : ∀ e s' g, CX P w outer H sc EX e s' → NotStop (model P w) e s'.heap ∧ E e (s'.setGen g .finished))
    (done : ∀ z s' acc c Hn zs, s.heap.objs.size ≤ z → s'.heap.get? z = some (lstObj acc c) → Vals zs acc.toList → zs.length ≤ sizeLine → s'.os = sc.os → AllBare s'.gens → Un (frs outer) ex H Hn sc.heap s'.heap → HOk P w Hn s'.heap → Hn z = none → Q zs Hn → Qc acc.toList s') :
    wpAny (model P w) A (collect u) Qc E s := by
  obtain ⟨a, g, c, rfl, ha1, ha2, hg, hgs, hos, hb, hl, hkp, wake⟩ := gm
  have za : s.heap.objs.size ≠ a := Nat.ne_of_gt ha2
  have zc : s.heap.objs.size ≠ cStatics := Nat.ne_of_gt (let ⟨_, hn, _⟩ := hl; hn.lt)
  have gen : ∀ {h : Heap}, (∀ b o, s.heap.get? b = some o → h.get? b = some o) → h.IsGen a g := fun {h} k => hg.keeps k
  have p1 : ∀ b o, s.heap.get? b = some o → (s.heap.push { cls := .type "list", data := .seq ([] : List Value).toArray }).get? b = some o := fun b o e => Heap.get?_push_of_some _ e
  unfold collect
  refine wpAny_bind (wpAny_runValue (codeAny_builtin F.entry_proto_collect ?_))
  rw [Around.under_plainId F.plain_proto_collect _]
  show wpAny _ A.in1 (newList [] >>= fun z => again (.builtin "list.__iadd__" ⟨[z, .ref a], []⟩)) _ _ s
  refine wpAny_bind (wpAny_newObj_type ?_)
  refine wpAny_pure ⟨plainId_quiet F.plain_list_iadd _, codeAny_builtin F.entry_list_iadd ?_⟩
  rw [Around.under_plainId F.plain_list_iadd _]
  show wpAny _ A.in1 (Builtin.List.listExtendWith (.ref s.heap.objs.size) (.ref a) (.ref s.heap.objs.size)) _ _ _
  have q1 : (s.heap.push { cls := .type "list", data := .seq ([] : List Value).toArray }).get? s.heap.objs.size = some { cls := .type "list", data := .seq ([] : List Value).toArray } := Heap.get?_push_size _ rfl
  have far : ∀ (h : Heap) (f : Obj → Obj), (∀ b o, s.heap.get? b = some o → h.get? b = some o) → ∀ b o, s.heap.get? b = some o → (h.update s.heap.objs.size f).get? b = some o := fun h f q b o e =>
    (Heap.get?_update_other _ _ (Ne.symm (Nat.ne_of_lt (Heap.lt_size e)))).trans (q b o e)
  have d1 : Builtin.List.listSameRef (.ref s.heap.objs.size) (.ref a) = false := by simp [Builtin.List.listSameRef, za]
  have d2 : (Value.type "generator" == Value.type "list") = false ∧ (Value.type "generator" == Value.type "tuple") = false := ⟨by decide, by decide⟩
  unfold Builtin.List.listExtendWith
  refine wpAny_bind (wpAny_typeOf (Heap.IsGen.typeIs (s := { s with heap := _ }) (gen p1)) ?_)
  simp only [d1, d2.1, d2.2, Bool.or_false, Bool.false_eq_true, if_false]
  refine wpAny_bind (wpAny_pyIter_gen (s := { s with heap := _ }) (gen p1) ?_)
  refine (wpAny_bind (wpAny_holding ?_))
  unfold Builtin.List.listLengthHint
  refine wpAny_bind (wpAny_specialOf (Heap.IsGen.typeIs (s := { s with heap := _ }) (gen p1)) F.gen_no_len ?_)
  show wpAny _ A.in1 (specialOf (Value.ref a) (Str.ofString "__length_hint__") >>= _) _ _ _
  refine wpAny_bind (wpAny_specialOf (Heap.IsGen.typeIs (s := { s with heap := _ }) (gen p1)) F.gen_no_hint ?_)
  refine wpAny_pure ?_
  show wpAny _ A.in1 (rule "list.extend.makes-room" >>= fun _ => Builtin.List.listTouch (.ref s.heap.objs.size) >>= fun _ => again (.builtin "list.extend.loop" ⟨[.ref s.heap.objs.size, .ref a, .ref s.heap.objs.size], []⟩)) _ _ _
  refine (wpAny_bind (wpAny_rule (wpAny_bind ?_)))
  show wpAny _ A.in1 (updateSeq s.heap.objs.size (·.push .none) >>= fun _ => updateSeq s.heap.objs.size (·.pop)) _ _ _
  refine (wpAny_bind (wpAny_updateSeq q1 rfl ?_))
  have q2 := Heap.get?_update_self (Obj.mapSeq (·.push Value.none)) q1 rfl
  refine (wpAny_updateSeq (hz := by seq_fits) q2 rfl ?_)
  have q3 := Heap.get?_update_self (Obj.mapSeq (·.pop)) q2 rfl
  have p3 := far _ (Obj.mapSeq (·.pop)) (far _ (Obj.mapSeq (·.push Value.none)) p1)
  refine wpAny_pure ⟨plainId_quiet F.plain_extend_loop _, ?_⟩
  refine drain (P := P) (w := w) (outer := outer) (H := H) (sc := sc) (ex := ex) (Q := Q) (EX := EX) (A := A) (g := g) hr.hd (by have := hr.dp; omega) za zc
    (fun s' acc cc Hn zs r1 r2 r3 r4 r5 r6 r7 r8 r9 => ?_) (fun e s' he => lost e s' g he) sizeLine _ (gen p3) (hl.keeps p3) ⟨_, hgs, rfl, wake _ _ _ ⟨hr.hd, ?_, ?_⟩ hfr (Nat.le_refl _) p3 ⟨_, q3⟩ hos (allBare_setGen (s := { s with heap := _ }) hb rfl)⟩
  · refine wpAny_bind (wpAny_load r1 (wpAny_pure ?_))
    exact done _ s' acc cc Hn zs (Nat.le_refl _) r1 r2 r3 r4 r5 r6 r7 r8 r9
  · have := hr.dp
    show A.depth + 3 * k + 5 < _
    omega
  · have := hr.un
    show A.units + 1 + 1 + 16 * k + 200 < _
    omega
/-- tuple(g) -/
theorem call_tup_new {u : Value} {Qc : Value → Shared → Prop} (hr : Room (k + 3) A) (hfr : A.frames = some outer) (gm : GMade P w k outer H sc ex Q EX u s)
    (done : ∀ (s' : Shared) (acc : Array Value) (Hn : Hp) (zs : List V) (z : Addr) (c : Nat), s.heap.objs.size ≤ z → s'.heap.get? z = some (lstObj acc c) → Vals zs acc.toList → zs.length ≤ sizeLine → s'.os = sc.os → AllBare s'.gens → Un (frs outer) ex H Hn sc.heap s'.heap → HOk P w Hn s'.heap → Hn z = none → Q zs Hn →
      Qc (.ref s'.heap.objs.size) { s' with heap := s'.heap.push { cls := .type "tuple", data := .seq acc } })
    (lost : ∀ e s' g, CX P w outer H sc EX e s' → NotStop (model P w) e s'.heap ∧ E e (s'.setGen g .finished)) :
    wpAny (model P w) A (call (.type "tuple") [u]) Qc E s := by
  obtain ⟨a, g, c, rfl, _, _, hg, _⟩ := id gm
  have hTI : s.TypeIs (.ref a) "generator" := Heap.IsGen.typeIs hg
  have code : codeAny (model P w) A.in1 (.call (.builtin "tuple.__new__") ⟨[.type "tuple", .ref a], []⟩) (wants (fun o s1 => s1.TypeIs o "tuple" ∧ Qc o s1) E) s := by
    refine codeAny_of_tree ?_
    show wpAny _ A.in1.in1 (do checkBuiltinCall "tuple.__new__" ⟨[.type "tuple", .ref a], []⟩; again (.builtin "tuple.__new__" ⟨[.type "tuple", .ref a], []⟩)) _ _ s
    refine wpAny_bind (wpAny_of_eq (F.newCall_tuple_1 _) (wpAny_pure ⟨plainId_quiet F.plain_tuple_new _, codeAny_builtin F.entry_tuple_new ?_⟩))
    rw [Around.under_plainId F.plain_tuple_new _]
    have w1 := sub_tuple_self
    have w2 := init_tuple_lookup
    have w3 := madeHere_tuple
    have hr2 : Room (k + 2) A.in1.in1 := ⟨hr.hd, by have := hr.dp; show A.depth + 3 * (k + 2) + 5 < _ ; omega, by have := hr.un; show A.units + 1 + 1 + 16 * (k + 2) + 200 < _; omega⟩
    wp_walk using wpAny_typeOf hTI, collect_new (E := fun e s' => wants (fun o s1 => s1.TypeIs o "tuple" ∧ Qc o s1) E (Except.error e) s') hr2 hfr gm (fun e s' g he => lost e s' g he)
    intro z s' acc cc Hn zs r0 r1 r2 r3 r4 r5 r6 r7 r8 r9
    show wpAny _ _ (Builtin.Tuple.tupleExact acc.toList.toArray >>= fun v => ret v) _ _ _
    have e : acc.toList.toArray = acc := by simp
    rw [e]
    unfold Builtin.Tuple.tupleExact
    have le : acc.size ≤ sizeLine := by
      have e1 := r2.length
      have e2 : acc.toList.length = acc.size := by simp
      omega
    refine wpAny_bind (wpAny_newObj_type (wpAny_pure ⟨⟨_, Heap.get?_push_size _ rfl, rfl⟩, done s' acc Hn zs z cc r0 r1 r2 r3 r4 r5 r6 r7 r8 r9⟩) le)
  refine callType_codes (Q₁ := fun o s1 => s1.TypeIs o "tuple" ∧ Qc o s1) F.called_tuple (F.typeCall_tuple_1 _) F.entry_object_init code fun o s1 h1 => ?_
  exact ⟨h1.1, F.args_object_init_2 o _, object_init_meets F.called_tuple.init.lookup F.called_tuple.made (by decide) P w A.in1 _ s1 ⟨h1.1, rfl, h1.2⟩⟩
end
end GenX

set_option Elab.async false
set_option linter.all false
set_option maxRecDepth 100000
set_option maxHeartbeats 2000000
namespace GenX
open PySem PySem.Spec PyProof.Rows L2 GenW
def tTupG (tg : TGen) : TE := fun σ H Q => tg σ H fun out H2 => ∀ p, H2 p = none → Q (.ref p) (upd H2 p (.tup out))
/-- tuple(g): nothing leaves it -/
theorem pe_tupG {X : Cx} {k : Nat} {e : Expr} {tg : TGen} {p pos : Pos} (h : PGen X k e tg fun _ _ _ => False) (hr : Room (k + 3) X.A) (hg : Gl X "tuple") (hmg : X.mg "tuple" = none)
    (he : starEach [e] X.env = (false, eval e X.env) :: starEach [] X.env := by rfl) : PE X (.Call (.Name "tuple" p) [e] [] pos) (tTupG tg) := by
  refine ⟨fun pins s σ H Q I hq => ?_⟩
  refine wpAny_Call_Name_kw (ld_blt I hg hmg boot_tuple (PyProof.Rows.callWith_type1 ?_ he rfl))
  rw [he]
  show wpAny _ _ (spliced ((false, eval e X.env) :: backTo pos (starEach [] X.env))) _ _ s
  refine Calls.spliced_cons (thn (h.run pins s σ H _ I hq) fun u s1 ⟨H1, sc, ex, I1, hex, gm⟩ => Calls.spliced_nil ?_)
  refine call_tup_new hr I1.ok.frames gm (fun s' acc Hn zs z c r0 r1 r2 r3 r4 r5 r6 r7 r8 r9 => ?_) fun x s' g hx => ?_
  · have I2 : Inv X pins σ Hn s' := I1.call' r4 r6 r7 r5 hex
    exact ⟨.ref s'.heap.objs.size, upd Hn s'.heap.objs.size (.tup zs), I2.laid (t' := s'.toks) (fun b o e => Heap.get?_push_of_some _ e) (Nat.le_refl _) (show ObjOk X.prog X.w _ _ _ (.tup zs) from ⟨r3, acc.toList, r2, by simpa using IsTup.new s'.heap acc⟩), rfl, r9 _ (I2.hok.fresh (Nat.le_refl _))⟩
  · obtain ⟨a, B, H', cls, d, _, _, _, _, _, _, _, no⟩ := hx
    exact no.elim
end GenX

set_option Elab.async false
set_option linter.all false
set_option maxRecDepth 100000
set_option maxHeartbeats 2000000
/-! readings: over a range, a list, a tuple; Pv by the turn, what is out, the heap -/
namespace GenX
open PySem PySem.Spec PyProof.Rows L2
section
variable {g : TG} {tt : TT} {te : TE} {vs : List Nat} {σ : L2.St} {H0 : Hp} {cont : List V → Hp → Prop} (Pv : Nat → List V → Hp → Prop)
/-- one turn with x, from (i, ys) -/
def One (g : TG) (tt : TT) (te : TE) (vs : List Nat) (σ : L2.St) (Pv : Nat → List V → Hp → Prop) (i : Nat) (ys : List V) (x : V) (H : Hp) : Prop :=
  g x (wipe σ vs) H fun σ2 H2 => wipe σ2 vs = wipe σ vs ∧ tt σ2 H2 fun b H3 => if b = true then te σ2 H3 fun y H4 => ys.length < sizeLine ∧ Pv (i + 1) (ys ++ [y]) H4 else Pv (i + 1) ys H3
theorem gx_range {lo : Int} {n : Nat} (h0 : Pv 0 [] H0) (hs : ∀ i ys H, i < n → Pv i ys H → One g tt te vs σ Pv i ys (.int (lo + i)) H) (hd : ∀ ys H, Pv n ys H → cont ys H) :
    ∃ W : Nat → Nat → List V → Hp → Prop, (∃ m, W 0 m [] H0) ∧ Turns (Itr lo n) g tt te vs σ cont W := by
  refine ⟨fun i m ys H => m = n - i ∧ i ≤ n ∧ Pv i ys H, ⟨n, by simp, Nat.zero_le _, h0⟩, ?_⟩
  rintro i m ys H ⟨rfl, hi, p⟩
  by_cases h : i < n
  · refine .inr ⟨h, Pv (i + 1), fun zs H' p' => ⟨n - (i + 1), by omega, rfl, h, p'⟩, fun x H' y => ?_⟩
    obtain ⟨e, y⟩ := y
    subst e y
    exact hs i ys _ h p
  · have e : i = n := by omega
    subst e
    exact .inl ⟨Nat.le_refl _, hd ys H p⟩
theorem gx_list {K : PySem.W.Frag} {a : Addr} {xs : List V} (h0 : Pv 0 [] H0) (hl : ∀ i ys H, i ≤ xs.length → Pv i ys H → SqL K H a xs) (hs : ∀ i x ys H, xs[i]? = some x → Pv i ys H → One g tt te vs σ Pv i ys x H) (hd : ∀ ys H, Pv xs.length ys H → cont ys H) :
    ∃ W : Nat → Nat → List V → Hp → Prop, (∃ m, W 0 m [] H0) ∧ Turns (Itl K a) g tt te vs σ cont W := by
  refine ⟨fun i m ys H => m = xs.length - i ∧ i ≤ xs.length ∧ Pv i ys H, ⟨xs.length, by simp, Nat.zero_le _, h0⟩, ?_⟩
  rintro i m ys H ⟨rfl, hi, p⟩
  have q := hl i ys H hi p
  by_cases h : i < xs.length
  · refine .inr ⟨⟨xs, xs[i], q, by simp [h]⟩, Pv (i + 1), fun zs H' p' => ⟨xs.length - (i + 1), by omega, rfl, h, p'⟩, fun x H' y => ?_⟩
    obtain ⟨e, y⟩ := y
    subst e
    exact hs i x ys _ (y xs q) p
  · have e : i = xs.length := by omega
    subst e
    exact .inl ⟨⟨xs, q, Nat.le_refl _⟩, hd ys H p⟩
theorem gx_tup {K : PySem.W.Frag} {a : Addr} {xs : List V} (h0 : Pv 0 [] H0) (hl : ∀ i ys H, i ≤ xs.length → Pv i ys H → SqT K H a xs) (hs : ∀ i x ys H, xs[i]? = some x → Pv i ys H → One g tt te vs σ Pv i ys x H) (hd : ∀ ys H, Pv xs.length ys H → cont ys H) :
    ∃ W : Nat → Nat → List V → Hp → Prop, (∃ m, W 0 m [] H0) ∧ Turns (Itt K a) g tt te vs σ cont W := by
  refine ⟨fun i m ys H => m = xs.length - i ∧ i ≤ xs.length ∧ Pv i ys H, ⟨xs.length, by simp, Nat.zero_le _, h0⟩, ?_⟩
  rintro i m ys H ⟨rfl, hi, p⟩
  have q := hl i ys H hi p
  by_cases h : i < xs.length
  · refine .inr ⟨⟨xs, xs[i], q, by simp [h]⟩, Pv (i + 1), fun zs H' p' => ⟨xs.length - (i + 1), by omega, rfl, h, p'⟩, fun x H' y => ?_⟩
    obtain ⟨e, y⟩ := y
    subst e
    exact hs i x ys _ (y xs q) p
  · have e : i = xs.length := by omega
    subst e
    exact .inl ⟨⟨xs, q, Nat.le_refl _⟩, hd ys H p⟩
end
end GenX

set_option Elab.async false
set_option linter.all false
set_option maxRecDepth 100000
namespace S02
open PySem PySem.Spec PyProof.Rows L2 LamX K5 SupX
/-- a def of the module; its function object's code is at c -/
structure Df (K : PySem.W.Frag) (mg : Str → Option Value) (x : Str) (st : Stmt) (f : Addr) : Prop where
  fn : ∃ fd, Fun K x x st f fd
  at_ : mg x = some (.ref f)
theorem Df.kp {K : PySem.W.Frag} {mg : Str → Option Value} {x : Str} {st : Stmt} {f : Addr} (d : Df K mg x st f) : PySem.W.keepIn K (.ref f) = true := by
  obtain ⟨_, F⟩ := d.fn
  exact F.kp
/-- a function object whose code object is known -/
structure FnC (K : PySem.W.Frag) (x qual : Str) (st : Stmt) (f c : Addr) : Prop where
  ex : ∃ (oc : Value) (od : Option Addr) (kV doc pm : Value) (an : Option Addr) (ct : Value) (osl : Array (Option Value)), K.lookup f = some ⟨oc, od, .func (PySem.W.fnOf x qual (defArgs st) (defBody st) (defScope st) .none kV doc pm an (.ref c) ct), osl⟩ ∧ PySem.W.codeIn K (.ref c) qual = true
  kp : PySem.W.keepIn K (.ref f) = true
theorem FnC.fn {K : PySem.W.Frag} {x qual : Str} {st : Stmt} {f c : Addr} (d : FnC K x qual st f c) : ∃ fd, Fun K x qual st f fd := by
  obtain ⟨oc, od, kV, doc, pm, an, ct, osl, lk, hcd⟩ := d.ex
  exact ⟨_, fun_mk lk hcd d.kp⟩
/-- a method of the class at C -/
structure Md (K : PySem.W.Frag) (C : Addr) (m qual : Str) (st : Stmt) (f : Addr) : Prop where
  fn : ∃ fd, Fun K m qual st f fd
  me : Meth K C m f
/-- an exception class of the program, without an __init__ of its own -/
structure Xc (K : PySem.W.Frag) (mg : Str → Option Value) (x : Str) (C : Addr) : Prop where
  at_ : mg x = some (.ref C)
  ex : PySem.W.excIn K C [.type "ValueError", .type "Exception", .type "BaseException", .type "object"] "ValueError.__new__" = true
  kp : PySem.W.keepIn K (.ref C) = true
  sb : PySem.W.subIn K (.ref C) (.type "BaseException") = some true
  ty : PySem.W.typeIn K (.ref C) = some (.type "type")
/-- the addresses, by places in the top (and in a class) -/
structure Ad where
  d : Nat → Addr
  c : Nat → Addr
  m : Nat → Nat → Addr
  co : Nat → Nat → Addr
structure Txt (K : PySem.W.Frag) (mg : Str → Option Value) (A : Ad) : Prop where
  within : Df K mg "within" s_within (A.d 27)
  check_hand : Df K mg "check_hand" s_check_hand (A.d 30)
  check_key : Df K mg "check_key" s_check_key (A.d 31)
  is_deed : Df K mg "is_deed" s_is_deed (A.d 32)
  check_deal : Df K mg "check_deal" s_check_deal (A.d 33)
  is_shown : Df K mg "is_shown" s_is_shown (A.d 34)
  shown_worth : Df K mg "shown_worth" s_shown_worth (A.d 35)
  put_row : Df K mg "put_row" s_put_row (A.d 36)
  drop_row : Df K mg "drop_row" s_drop_row (A.d 37)
  add_to_row : Df K mg "add_to_row" s_add_to_row (A.d 38)
  does_show : Df K mg "does_show" s_does_show (A.d 39)
  rows_behind : Df K mg "rows_behind" s_rows_behind (A.d 41)
  check_deals : Df K mg "check_deals" s_check_deals (A.d 45)
  written_deed : Df K mg "written_deed" s_written_deed (A.d 46)
  written_row : Df K mg "written_row" s_written_row (A.d 47)
  written : Df K mg "written" s_written (A.d 48)
  read_number : Df K mg "read_number" s_read_number (A.d 49)
  read_last : Df K mg "read_last" s_read_last (A.d 50)
  read_deed : Df K mg "read_deed" s_read_deed (A.d 51)
  read_row : Df K mg "read_row" s_read_row (A.d 52)
  C_read_row : FnC K "read_row" "read_row" s_read_row (A.d 52) (A.co 52 0)
  read_deals : Df K mg "read_deals" s_read_deals (A.d 53)
  is_too_heavy : Df K mg "is_too_heavy" s_is_too_heavy (A.d 57)
  check_block : Df K mg "check_block" s_check_block (A.d 58)
  entry_block : Df K mg "entry_block" s_entry_block (A.d 70)
  page_block : Df K mg "page_block" s_page_block (A.d 71)
  begun : Df K mg "_law_begun" s_begun (A.d 76)
  take : Df K mg "_law_take" s_take (A.d 77)
  alike : Df K mg "_law_alike" s_alike (A.d 78)
  class_ : Df K mg "_law_class" s_class (A.d 79)
  refused : Df K mg "_law_refused" s_refused (A.d 80)
  lall : Df K mg "_law_all" s_all (A.d 81)
  store : Df K mg "_law_store" s_store (A.d 82)
  again : Df K mg "_law_again" s_again (A.d 83)
  seen : Df K mg "_law_seen" s_seen (A.d 84)
  tried : Df K mg "_law_tried" s_tried (A.d 85)
  deal : Df K mg "_law_deal" s_deal (A.d 86)
  whole : Df K mg "_law_whole" s_whole (A.d 87)
  deed : Df K mg "_law_deed" s_deed (A.d 88)
  drawn : Df K mg "_law_drawn" s_drawn (A.d 89)
  deals : Df K mg "_law_deals" s_deals (A.d 90)
  text : Df K mg "_law_text" s_text (A.d 91)
  dealt : Df K mg "_law_dealt" s_dealt (A.d 92)
  law : Df K mg "law" s_law (A.d 93)
  C_law : FnC K "law" "law" s_law (A.d 93) (A.co 93 0)
  c_StillError : mg "StillError" = some (.ref (A.c 2))
  c_BadDeal : mg "BadDeal" = some (.ref (A.c 3))
  x_BadHand : Xc K mg "BadHand" (A.c 4)
  x_BadLetter : Xc K mg "BadLetter" (A.c 5)
  x_BadTime : Xc K mg "BadTime" (A.c 6)
  x_BadKey : Xc K mg "BadKey" (A.c 7)
  x_BadHouse : Xc K mg "BadHouse" (A.c 8)
  x_NoCopy : Xc K mg "NoCopy" (A.c 9)
  c_Behind : mg "Behind" = some (.ref (A.c 10))
  x_BadBlock : Xc K mg "BadBlock" (A.c 11)
  x_BadEntry : Xc K mg "BadEntry" (A.c 12)
  c_BadText : mg "BadText" = some (.ref (A.c 13))
  x_Stopped : Xc K mg "Stopped" (A.c 14)
  c_Disk : mg "Disk" = some (.ref (A.c 59))
  cl_Disk : Cls K (A.c 59)
  n_Disk_armed_picks : NoAttr K (A.c 59) "armed_picks"
  n_Disk_deeds_left : NoAttr K (A.c 59) "deeds_left"
  n_Disk_running : NoAttr K (A.c 59) "running"
  n_Disk_stops : NoAttr K (A.c 59) "stops"
  n_Disk_sure : NoAttr K (A.c 59) "sure"
  n_Disk_unsure : NoAttr K (A.c 59) "unsure"
  m_Disk___init__ : Md K (A.c 59) "__init__" "Disk.__init__" s_Disk___init__ (A.m 59 0)
  mk_Disk : Mk K (A.c 59) (A.m 59 0)
  m_Disk_write : Md K (A.c 59) "write" "Disk.write" s_Disk_write (A.m 59 1)
  m_Disk_settle : Md K (A.c 59) "settle" "Disk.settle" s_Disk_settle (A.m 59 2)
  m_Disk_read : Md K (A.c 59) "read" "Disk.read" s_Disk_read (A.m 59 3)
  m_Disk_arm : Md K (A.c 59) "arm" "Disk.arm" s_Disk_arm (A.m 59 4)
  m_Disk_stop : Md K (A.c 59) "stop" "Disk.stop" s_Disk_stop (A.m 59 5)
  m_Disk_again : Md K (A.c 59) "again" "Disk.again" s_Disk_again (A.m 59 6)
  m_Disk_settled : Md K (A.c 59) "settled" "Disk.settled" s_Disk_settled (A.m 59 7)
  m_Disk_check_running : Md K (A.c 59) "check_running" "Disk.check_running" s_Disk_check_running (A.m 59 8)
  m_Disk_count_deed : Md K (A.c 59) "count_deed" "Disk.count_deed" s_Disk_count_deed (A.m 59 9)
  c_Copy : mg "Copy" = some (.ref (A.c 61))
  cl_Copy : Cls K (A.c 61)
  n_Copy_aside : NoAttr K (A.c 61) "aside"
  n_Copy_number : NoAttr K (A.c 61) "number"
  n_Copy_wanted : NoAttr K (A.c 61) "wanted"
  m_Copy___init__ : Md K (A.c 61) "__init__" "Copy.__init__" s_Copy___init__ (A.m 61 0)
  mk_Copy : Mk K (A.c 61) (A.m 61 0)
  m_Copy_page_of : Md K (A.c 61) "page_of" "Copy.page_of" s_Copy_page_of (A.m 61 1)
  m_Copy_follow : Md K (A.c 61) "follow" "Copy.follow" s_Copy_follow (A.m 61 2)
  m_Copy_let_go : Md K (A.c 61) "let_go" "Copy.let_go" s_Copy_let_go (A.m 61 3)
  c_Shelf : mg "Shelf" = some (.ref (A.c 62))
  cl_Shelf : Cls K (A.c 62)
  n_Shelf_begun : NoAttr K (A.c 62) "begun"
  n_Shelf_copies : NoAttr K (A.c 62) "copies"
  m_Shelf___init__ : Md K (A.c 62) "__init__" "Shelf.__init__" s_Shelf___init__ (A.m 62 0)
  mk_Shelf : Mk K (A.c 62) (A.m 62 0)
  m_Shelf_begin : Md K (A.c 62) "begin" "Shelf.begin" s_Shelf_begin (A.m 62 1)
  m_Shelf_find_copy : Md K (A.c 62) "find_copy" "Shelf.find_copy" s_Shelf_find_copy (A.m 62 2)
  m_Shelf_read_out : Md K (A.c 62) "read_out" "Shelf.read_out" s_Shelf_read_out (A.m 62 3)
  m_Shelf_give_up : Md K (A.c 62) "give_up" "Shelf.give_up" s_Shelf_give_up (A.m 62 4)
  m_Shelf_follow : Md K (A.c 62) "follow" "Shelf.follow" s_Shelf_follow (A.m 62 5)
  m_Shelf_listed : Md K (A.c 62) "listed" "Shelf.listed" s_Shelf_listed (A.m 62 6)
  m_Shelf_count_aside : Md K (A.c 62) "count_aside" "Shelf.count_aside" s_Shelf_count_aside (A.m 62 7)
  c_Table : mg "Table" = some (.ref (A.c 64))
  cl_Table : Cls K (A.c 64)
  n_Table_hands : NoAttr K (A.c 64) "hands"
  n_Table_moment : NoAttr K (A.c 64) "moment"
  n_Table_number : NoAttr K (A.c 64) "number"
  n_Table_rows : NoAttr K (A.c 64) "rows"
  m_Table___init__ : Md K (A.c 64) "__init__" "Table.__init__" s_Table___init__ (A.m 64 0)
  mk_Table : Mk K (A.c 64) (A.m 64 0)
  m_Table_twin : Md K (A.c 64) "twin" "Table.twin" s_Table_twin (A.m 64 1)
  m_Table_take : Md K (A.c 64) "take" "Table.take" s_Table_take (A.m 64 2)
  m_Table_take_deal : Md K (A.c 64) "take_deal" "Table.take_deal" s_Table_take_deal (A.m 64 3)
  m_Table_told_of : Md K (A.c 64) "told_of" "Table.told_of" s_Table_told_of (A.m 64 4)
  m_Table_told_whole : Md K (A.c 64) "told_whole" "Table.told_whole" s_Table_told_whole (A.m 64 5)
  m_Table_last_letter : Md K (A.c 64) "last_letter" "Table.last_letter" s_Table_last_letter (A.m 64 6)
  m_Table_page_rows : Md K (A.c 64) "page_rows" "Table.page_rows" s_Table_page_rows (A.m 64 7)
  C_Table_page_rows : FnC K "page_rows" "Table.page_rows" s_Table_page_rows (A.m 64 7) (A.co 64 7)
  m_Table_hand_rows : Md K (A.c 64) "hand_rows" "Table.hand_rows" s_Table_hand_rows (A.m 64 8)
  C_Table_hand_rows : FnC K "hand_rows" "Table.hand_rows" s_Table_hand_rows (A.m 64 8) (A.co 64 8)
  m_Table_kept : Md K (A.c 64) "kept" "Table.kept" s_Table_kept (A.m 64 9)
  m_Table_shown : Md K (A.c 64) "shown" "Table.shown" s_Table_shown (A.m 64 10)
  C_Table_shown : FnC K "shown" "Table.shown" s_Table_shown (A.m 64 10) (A.co 64 10)
  m_Table_unlike : Md K (A.c 64) "unlike" "Table.unlike" s_Table_unlike (A.m 64 11)
  m_Table_fill : Md K (A.c 64) "fill" "Table.fill" s_Table_fill (A.m 64 12)
  m_Table_shed : Md K (A.c 64) "shed" "Table.shed" s_Table_shed (A.m 64 13)
  c_Store : mg "Store" = some (.ref (A.c 72))
  cl_Store : Cls K (A.c 72)
  n_Store_disk : NoAttr K (A.c 72) "disk"
  n_Store_root : NoAttr K (A.c 72) "root"
  n_Store_stops : NoAttr K (A.c 72) "stops"
  m_Store___init__ : Md K (A.c 72) "__init__" "Store.__init__" s_Store___init__ (A.m 72 0)
  mk_Store : Mk K (A.c 72) (A.m 72 0)
  m_Store_claim : Md K (A.c 72) "claim" "Store.claim" s_Store_claim (A.m 72 1)
  m_Store_put : Md K (A.c 72) "put" "Store.put" s_Store_put (A.m 72 2)
  m_Store_check_held : Md K (A.c 72) "check_held" "Store.check_held" s_Store_check_held (A.m 72 3)
  m_Store_write_root : Md K (A.c 72) "write_root" "Store.write_root" s_Store_write_root (A.m 72 4)
  m_Store_stored_table : Md K (A.c 72) "stored_table" "Store.stored_table" s_Store_stored_table (A.m 72 5)
  m_Store_last_entries : Md K (A.c 72) "last_entries" "Store.last_entries" s_Store_last_entries (A.m 72 6)
  m_Store_put_aside : Md K (A.c 72) "put_aside" "Store.put_aside" s_Store_put_aside (A.m 72 7)
  m_Store_gathered_pages : Md K (A.c 72) "gathered_pages" "Store.gathered_pages" s_Store_gathered_pages (A.m 72 8)
  c_Lead : mg "Lead" = some (.ref (A.c 74))
  cl_Lead : Cls K (A.c 74)
  n_Lead_entries : NoAttr K (A.c 74) "entries"
  n_Lead_followers : NoAttr K (A.c 74) "followers"
  n_Lead_houses : NoAttr K (A.c 74) "houses"
  n_Lead_shelf : NoAttr K (A.c 74) "shelf"
  n_Lead_store : NoAttr K (A.c 74) "store"
  n_Lead_table : NoAttr K (A.c 74) "table"
  m_Lead___init__ : Md K (A.c 74) "__init__" "Lead.__init__" s_Lead___init__ (A.m 74 0)
  mk_Lead : Mk K (A.c 74) (A.m 74 0)
  m_Lead_known : Md K (A.c 74) "known" "Lead.known" s_Lead_known (A.m 74 1)
  m_Lead_clock : Md K (A.c 74) "clock" "Lead.clock" s_Lead_clock (A.m 74 2)
  m_Lead_deals : Md K (A.c 74) "deals" "Lead.deals" s_Lead_deals (A.m 74 3)
  m_Lead_deal : Md K (A.c 74) "deal" "Lead.deal" s_Lead_deal (A.m 74 4)
  m_Lead_tick : Md K (A.c 74) "tick" "Lead.tick" s_Lead_tick (A.m 74 5)
  m_Lead_read : Md K (A.c 74) "read" "Lead.read" s_Lead_read (A.m 74 6)
  m_Lead_whole : Md K (A.c 74) "whole" "Lead.whole" s_Lead_whole (A.m 74 7)
  m_Lead_tidy : Md K (A.c 74) "tidy" "Lead.tidy" s_Lead_tidy (A.m 74 8)
  m_Lead_kept_rows : Md K (A.c 74) "kept_rows" "Lead.kept_rows" s_Lead_kept_rows (A.m 74 9)
  m_Lead_copy : Md K (A.c 74) "copy" "Lead.copy" s_Lead_copy (A.m 74 10)
  m_Lead_read_page : Md K (A.c 74) "read_page" "Lead.read_page" s_Lead_read_page (A.m 74 11)
  m_Lead_close : Md K (A.c 74) "close" "Lead.close" s_Lead_close (A.m 74 12)
  m_Lead_open_copies : Md K (A.c 74) "open_copies" "Lead.open_copies" s_Lead_open_copies (A.m 74 13)
  m_Lead_room : Md K (A.c 74) "room" "Lead.room" s_Lead_room (A.m 74 14)
  m_Lead_letters : Md K (A.c 74) "letters" "Lead.letters" s_Lead_letters (A.m 74 15)
  m_Lead_heard : Md K (A.c 74) "heard" "Lead.heard" s_Lead_heard (A.m 74 16)
  m_Lead_check_house : Md K (A.c 74) "check_house" "Lead.check_house" s_Lead_check_house (A.m 74 17)
  m_Lead_check_group : Md K (A.c 74) "check_group" "Lead.check_group" s_Lead_check_group (A.m 74 18)
  m_Lead_change_over : Md K (A.c 74) "change_over" "Lead.change_over" s_Lead_change_over (A.m 74 19)
  k_LAST_KEY : ∃ t, mg "LAST_KEY" = some (.int 31 t)
  k_LAST_HAND : ∃ t, mg "LAST_HAND" = some (.int 3 t)
  k_LAST_WORTH : ∃ t, mg "LAST_WORTH" = some (.int 999 t)
  k_LAST_MOMENT : ∃ t, mg "LAST_MOMENT" = some (.int 1000000 t)
  k_PAGES : ∃ t, mg "PAGES" = some (.int 9 t)
  k_KEYS_OF_A_PAGE : ∃ t, mg "KEYS_OF_A_PAGE" = some (.int 4 t)
  k_HANDS_PAGE : ∃ t, mg "HANDS_PAGE" = some (.int 8 t)
  k_MOST_DEEDS : ∃ t, mg "MOST_DEEDS" = some (.int 4 t)
  k_MOST_DEALS : ∃ t, mg "MOST_DEALS" = some (.int 4 t)
  k_MOST_HOUSES : ∃ t, mg "MOST_HOUSES" = some (.int 3 t)
  k_MOST_ENTRIES : ∃ t, mg "MOST_ENTRIES" = some (.int 16 t)
  k_MOST_FIGURES : ∃ t, mg "MOST_FIGURES" = some (.int 4 t)
  k_BLOCKS : ∃ t, mg "BLOCKS" = some (.int 35 t)
  k_MOST_WEIGHT : ∃ t, mg "MOST_WEIGHT" = some (.int 40 t)
  k_ROOT : ∃ t, mg "ROOT" = some (.int 0 t)
  k_FIRST_ENTRY : ∃ t, mg "FIRST_ENTRY" = some (.int 1 t)
  k_FIRST_PAGE : ∃ t, mg "FIRST_PAGE" = some (.int 17 t)
  ValueError : mg "ValueError" = none
  all : mg "all" = none
  bool : mg "bool" = none
  dict : mg "dict" = none
  enumerate : mg "enumerate" = none
  int : mg "int" = none
  isinstance : mg "isinstance" = none
  len : mg "len" = none
  list : mg "list" = none
  max : mg "max" = none
  range : mg "range" = none
  sorted : mg "sorted" = none
  str : mg "str" = none
  tuple : mg "tuple" = none
  zip : mg "zip" = none
end S02

set_option Elab.async false
set_option linter.all false
set_option maxRecDepth 100000
/-! ### The mathematics: deeds, rows, entries, readings -/
namespace S02
open PySem PySem.Spec PyProof.Rows L2 K5
inductive Dd where
  | put (k w l : Int)
  | drop (k : Int)
  | add (k m : Int)
  | iff (k : Int) (w : Option Int)
def oV : Option Int → V
  | none => .non
  | some i => .int i
def Dd.word : Dd → Str
  | .put .. => "put"
  | .drop .. => "drop"
  | .add .. => "add"
  | .iff .. => "if"
def Dd.parts : Dd → List V
  | .put k w l => [.int k, .int w, .int l]
  | .drop k => [.int k]
  | .add k m => [.int k, .int m]
  | .iff k w => [.int k, oV w]
def Dd.vs (d : Dd) : List V := .str d.word :: d.parts
def Dd.key : Dd → Int
  | .put k _ _ => k
  | .drop k => k
  | .add k _ => k
  | .iff k _ => k
def inB (lo hi n : Int) : Bool := decide (lo ≤ n) && decide (n ≤ hi)
def Dd.ok : Dd → Bool
  | .put k w l => inB 0 31 k && (inB 0 999 w && inB 0 1000 l)
  | .drop k => inB 0 31 k
  | .add k m => inB 0 31 k && inB (-999) 999 m
  | .iff k none => inB 0 31 k
  | .iff k (some w) => inB 0 31 k && inB 0 999 w
/-- the place of the first deed that is none, from i on -/
def badFrom (i : Nat) : List Dd → Option Nat
  | [] => none
  | d :: ds => if i = 4 ∨ d.ok = false then some i else badFrom (i + 1) ds
def dealBad (ds : List Dd) : Option Nat := if ds = [] then some 0 else badFrom 0 ds
/-! rows: a key's worth and end -/
abbrev Rw := Int → Option (Int × Int)
def Rw.set (f : Rw) (k : Int) (x : Option (Int × Int)) : Rw := fun j => if j = k then x else f j
def shB (e m : Int) : Bool := decide (e = 0) || decide (m < e)
def seen (m : Int) (f : Rw) (k : Int) : Option Int := match f k with
  | none => none
  | some (w, e) => if shB e m = true then some w else none
def step (m : Int) (f : Rw) : Dd → Option Rw
  | .put k w l => some (f.set k (some (w, if l = 0 then 0 else m + l)))
  | .drop k => some (f.set k none)
  | .add k x => match f k with
    | none => none
    | some (w, e) => if shB e m = true ∧ inB 0 999 (w + x) = true then some (f.set k (some (w + x, e))) else none
  | .iff k w => if seen m f k = w then some f else none
def steps (m : Int) : Rw → List Dd → Option Rw
  | f, [] => some f
  | f, d :: ds => match step m f d with
    | none => none
    | some g => steps m g ds
/-! entries -/
inductive En where
  | deal (h : Int) (ds : List Dd)
  | tick (t : Int)
  | odd
inductive Er where
  | hand
  | key
  | entry
  | deal (p : Nat)
structure Tb where
  rows : Rw
  mom : Int
def Tb.new : Tb := ⟨fun _ => none, 0⟩
def En.bad (m : Int) : En → Option Er
  | .deal h ds => if inB 0 3 h = true then (match dealBad ds with | none => none | some p => some (.deal p)) else some .hand
  | .tick t => if inB (m + 1) 1000000 t = true then none else some .entry
  | .odd => some .entry
def Tb.next (s : Tb) : En → Tb
  | .deal _ ds => ⟨match steps s.mom s.rows ds with | none => s.rows | some g => g, s.mom⟩
  | .tick t => ⟨s.rows, t⟩
  | .odd => s
/-- the tables behind none, one, .. of the entries -/
def tbs (s : Tb) : List En → List Tb
  | [] => [s]
  | e :: es => s :: tbs (s.next e) es
def lastT (s : Tb) (es : List En) : Tb := es.foldl Tb.next s
/-- the first entry that can't be -/
def badE (s : Tb) : List En → Option Er
  | [] => none
  | e :: es => match e.bad s.mom with
    | some r => some r
    | none => badE (s.next e) es
structure Rd where
  hand : Int
  num : Int
  key : Int
  worth : Option Int
def Rd.vs (r : Rd) : List V := [.int r.hand, .int r.num, .int r.key, oV r.worth]
def Rd.bad (r : Rd) : Option Er := if inB 0 3 r.hand = true then (if inB 0 31 r.key = true then none else some .key) else some .hand
def badR : List Rd → Option Er
  | [] => none
  | r :: rs => match r.bad with
    | some e => some e
    | none => badR rs
def okW : Option Int → Bool
  | none => true
  | some w => inB 0 999 w
abbrev Ls := Int → Int
def Ls.set (l : Ls) (h n : Int) : Ls := fun j => if j = h then n else l j
def fits (T : List Tb) (l : Ls) (r : Rd) : Bool := inB (l r.hand) (T.length - 1) r.num && (match T[r.num.toNat]? with
  | none => false
  | some t => okW r.worth && decide (seen t.mom t.rows r.key = r.worth))
def dueFrom (T : List Tb) (l : Ls) (i : Nat) : List Rd → Option Nat
  | [] => none
  | r :: rs => if fits T l r = true then dueFrom T (l.set r.hand r.num) (i + 1) rs else some i
def due (T : List Tb) (rs : List Rd) : Option Nat := dueFrom T (fun _ => 0) 0 rs
theorem tbs_length (s : Tb) (es : List En) : (tbs s es).length = es.length + 1 := by
  induction es generalizing s with
  | nil => rfl
  | cons e es ih => simp [tbs, ih]
theorem tbs_snoc (s : Tb) (es : List En) (e : En) : tbs s (es ++ [e]) = tbs s es ++ [(lastT s es).next e] := by
  induction es generalizing s with
  | nil => rfl
  | cons a es ih => simp only [List.cons_append, tbs, ih, lastT, List.foldl_cons]
theorem lastT_snoc (s : Tb) (es : List En) (e : En) : lastT s (es ++ [e]) = (lastT s es).next e := by simp [lastT]
theorem tbs_at (s : Tb) (es : List En) (i : Nat) (h : i ≤ es.length) : (tbs s es)[i]? = some (lastT s (es.take i)) := by
  induction es generalizing s i with
  | nil =>
    have : i = 0 := by simpa using h
    subst this
    rfl
  | cons e es ih =>
    cases i with
    | zero => rfl
    | succ i =>
      simp only [tbs, List.getElem?_cons_succ, List.take_succ_cons, lastT, List.foldl_cons]
      exact ih _ _ (by simpa using h)
theorem badE_app {s : Tb} {es fs : List En} (h : badE s es = none) : badE s (es ++ fs) = badE (lastT s es) fs := by
  induction es generalizing s with
  | nil => rfl
  | cons e es ih =>
    simp only [badE] at h
    simp only [List.cons_append, badE, lastT, List.foldl_cons]
    cases q : e.bad s.mom with
    | some r => rw [q] at h; cases h
    | none =>
      rw [q] at h
      exact ih h
theorem badR_app {rs qs : List Rd} (h : badR rs = none) : badR (rs ++ qs) = badR qs := by
  induction rs with
  | nil => rfl
  | cons r rs ih =>
    simp only [badR] at h
    simp only [List.cons_append, badR]
    cases q : r.bad with
    | some e => rw [q] at h; cases h
    | none =>
      rw [q] at h
      exact ih h
theorem inB_t {lo hi n : Int} : inB lo hi n = true ↔ lo ≤ n ∧ n ≤ hi := by simp [inB]
theorem shB_t {e m : Int} : shB e m = true ↔ e = 0 ∨ m < e := by simp [shB]
end S02

set_option Elab.async false
set_option linter.all false
set_option maxRecDepth 100000
set_option maxHeartbeats 4000000
/-! ### deals as texts: pure facts -/
namespace S02
open PySem PySem.Spec PyProof.Rows L2 K5 TL
def nS (i : Int) : Str := Str.ofString (toString i)
def pS : V → Str
  | .str x => x
  | .int n => nS n
  | _ => "-"
def deedS (d : Dd) : Str := Str.join " " (d.vs.map pS)
def headS (h x : Int) : Str := nS h ++ " " ++ nS x
def tailS (ds : List Dd) : Str := Str.join "; " (ds.map deedS)
def rowS (h x : Int) (ds : List Dd) : Str := headS h x ++ ": " ++ tailS ds
theorem nS_nat (n : Nat) : tl (nS (n : Int)) = numL n := tl_num n
theorem nS_pos {i : Int} (h : 0 ≤ i) : tl (nS i) = numL i.toNat := by
  obtain ⟨n, rfl⟩ := Int.eq_ofNat_of_zero_le h
  exact nS_nat n
theorem nS_neg {i : Int} (h : i < 0) : tl (nS i) = 45 :: numL (-i).toNat := by
  obtain ⟨n, rfl⟩ : ∃ n : Nat, i = Int.negSucc n := ⟨(-i).toNat - 1, by omega⟩
  have e : toString (Int.negSucc n) = "-" ++ toString ((n + 1 : Nat) : Int) := rfl
  unfold nS
  rw [e, tl_ofString, String.toList_append, List.map_append]
  have e2 : tl (Str.ofString (toString ((n + 1 : Nat) : Int))) = numL (n + 1) := tl_num _
  rw [tl_ofString] at e2
  rw [e2]
  rfl
def chC (c : Nat) : Prop := c = 45 ∨ (48 ≤ c ∧ c ≤ 57) ∨ (97 ≤ c ∧ c ≤ 122)
theorem chC_num {n c : Nat} (h : c ∈ numL n) : chC c := by
  by_cases a : c < 48 ∨ 57 < c
  · exact absurd h (numL_free a)
  · exact .inr (.inl (by omega))
theorem chC_nS {i : Int} {c : Nat} (h : c ∈ tl (nS i)) : chC c := by
  by_cases z : 0 ≤ i
  · rw [nS_pos z] at h
    exact chC_num h
  · rw [nS_neg (by omega)] at h
    rcases List.mem_cons.mp h with h | h
    · exact .inl h
    · exact chC_num h
theorem chC_word (d : Dd) : ∀ c ∈ tl d.word, chC c := by
  have h : ∀ (x : Str), (tl x).all (fun c => decide (97 ≤ c) && decide (c ≤ 122)) = true → ∀ c ∈ tl x, chC c := fun x h c hc => by
    have := List.all_eq_true.mp h c hc
    simp only [Bool.and_eq_true, decide_eq_true_eq] at this
    exact .inr (.inr this)
  cases d with
  | put _ _ _ => exact h ("put" : Str) (by decide +kernel)
  | drop _ => exact h ("drop" : Str) (by decide +kernel)
  | add _ _ => exact h ("add" : Str) (by decide +kernel)
  | iff _ _ => exact h ("if" : Str) (by decide +kernel)
theorem chC_oV (x : Option Int) : ∀ c ∈ tl (pS (oV x)), chC c := by
  cases x with
  | none =>
    intro c hc
    have : c ∈ [45] := hc
    exact .inl (List.mem_singleton.mp this)
  | some i => exact fun c hc => chC_nS hc
/-- the signs of a deed's parts -/
theorem chC_parts (d : Dd) : ∀ v ∈ d.vs, ∀ c ∈ tl (pS v), chC c := by
  intro v hv
  rcases List.mem_cons.mp hv with rfl | hv
  · exact chC_word d
  · cases d with
    | put k w l =>
      rcases List.mem_cons.mp hv with rfl | hv
      · exact fun c hc => chC_nS hc
      rcases List.mem_cons.mp hv with rfl | hv
      · exact fun c hc => chC_nS hc
      rw [List.mem_singleton.mp hv]
      exact fun c hc => chC_nS hc
    | drop k =>
      rw [List.mem_singleton.mp hv]
      exact fun c hc => chC_nS hc
    | add k m =>
      rcases List.mem_cons.mp hv with rfl | hv
      · exact fun c hc => chC_nS hc
      rw [List.mem_singleton.mp hv]
      exact fun c hc => chC_nS hc
    | iff k w =>
      rcases List.mem_cons.mp hv with rfl | hv
      · exact fun c hc => chC_nS hc
      rw [List.mem_singleton.mp hv]
      exact chC_oV w
theorem joinL_mem {S : List Nat} {c : Nat} : ∀ {ps : List (List Nat)}, c ∈ joinL S ps → c ∈ S ∨ ∃ p ∈ ps, c ∈ p
  | [], h => by cases h
  | [p], h => .inr ⟨p, List.mem_singleton.mpr rfl, h⟩
  | p :: q :: r, h => by
    have h : c ∈ p ++ (S ++ joinL S (q :: r)) := h
    rcases List.mem_append.mp h with h | h
    · exact .inr ⟨p, List.mem_cons_self, h⟩
    rcases List.mem_append.mp h with h | h
    · exact .inl h
    rcases joinL_mem h with h | ⟨p', hp, h⟩
    · exact .inl h
    · exact .inr ⟨p', List.mem_cons_of_mem _ hp, h⟩
theorem joinL_len {S : List Nat} {m : Nat} : ∀ {ps : List (List Nat)}, (∀ p ∈ ps, p.length ≤ m) → (joinL S ps).length ≤ ps.length * (m + S.length)
  | [], _ => Nat.zero_le _
  | [p], h => by
    have := h p (List.mem_singleton.mpr rfl)
    show p.length ≤ 1 * (m + S.length)
    omega
  | p :: q :: r, h => by
    have h1 := h p List.mem_cons_self
    have h2 := joinL_len (S := S) (ps := q :: r) fun p' hp => h p' (List.mem_cons_of_mem _ hp)
    show (p ++ (S ++ joinL S (q :: r))).length ≤ ((q :: r).length + 1) * (m + S.length)
    rw [List.length_append, List.length_append, Nat.succ_mul]
    omega
/-- the signs of a deed -/
theorem chC_deed {d : Dd} {c : Nat} (h : c ∈ tl (deedS d)) : chC c ∨ c = 32 := by
  unfold deedS at h
  rw [tl_join] at h
  rcases joinL_mem h with h | ⟨p, hp, h⟩
  · exact .inr (List.mem_singleton.mp (show c ∈ [32] from h))
  · rw [List.map_map] at hp
    obtain ⟨v, hv, rfl⟩ := List.mem_map.mp hp
    exact .inl (chC_parts d v hv c h)
theorem split_deed (d : Dd) : Txt.split (deedS d) " " = d.vs.map pS := by
  unfold deedS
  rw [← join_eq]
  refine split_join (s := 32) (S := []) rfl (by decide +kernel) (by unfold Dd.vs; simp) fun p hp => ?_
  obtain ⟨v, hv, rfl⟩ := List.mem_map.mp hp
  intro h
  have := chC_parts d v hv 32 h
  unfold chC at this
  omega
theorem split_tail {ds : List Dd} (h : ds ≠ []) : Txt.split (tailS ds) "; " = ds.map deedS := by
  unfold tailS
  rw [← join_eq]
  refine split_join (s := 59) (S := [32]) rfl (by decide +kernel) (by simpa using h) fun p hp => ?_
  obtain ⟨d, _, rfl⟩ := List.mem_map.mp hp
  intro h
  have := chC_deed h
  unfold chC at this
  omega
theorem headS_join (h x : Int) : headS h x = Txt.join " " [nS h, nS x] := by
  rw [join_eq]
  rfl
theorem split_head (h x : Int) : Txt.split (headS h x) " " = [nS h, nS x] := by
  rw [headS_join]
  refine split_join (s := 32) (S := []) rfl (by decide +kernel) (by simp) fun p hp => ?_
  have hh : ∀ i : Int, 32 ∉ tl (nS i) := fun i h => by
    have := chC_nS h
    unfold chC at this
    omega
  rcases List.mem_cons.mp hp with rfl | hp
  · exact hh _
  · rw [List.mem_singleton.mp hp]; exact hh _
theorem chC_head {h x : Int} {c : Nat} (hc : c ∈ tl (headS h x)) : chC c ∨ c = 32 := by
  unfold headS at hc
  rw [tl_append, tl_append] at hc
  rcases List.mem_append.mp hc with hc | hc
  · rcases List.mem_append.mp hc with hc | hc
    · exact .inl (chC_nS hc)
    · exact .inr (List.mem_singleton.mp (show c ∈ [32] from hc))
  · exact .inl (chC_nS hc)
theorem part_row (h x : Int) (ds : List Dd) : Txt.partition (rowS h x ds) ": " = (headS h x, (": " : Str), tailS ds) := by
  unfold rowS
  refine partition_app (s := 58) (S := [32]) rfl fun hc => ?_
  have := chC_head hc
  unfold chC at this
  omega
theorem chC_row {h x : Int} {ds : List Dd} {c : Nat} (hc : c ∈ tl (rowS h x ds)) : c ≠ 10 := by
  unfold rowS at hc
  rw [tl_append, tl_append] at hc
  rcases List.mem_append.mp hc with hc | hc
  · rcases List.mem_append.mp hc with hc | hc
    · have := chC_head hc
      unfold chC at this
      omega
    · have : c ∈ [58, 32] := hc
      simp only [List.mem_cons, List.not_mem_nil, or_false] at this
      omega
  · unfold tailS at hc
    rw [tl_join] at hc
    rcases joinL_mem hc with hc | ⟨p, hp, hc⟩
    · have : c ∈ [59, 32] := hc
      simp only [List.mem_cons, List.not_mem_nil, or_false] at this
      omega
    · rw [List.map_map] at hp
      obtain ⟨d, _, rfl⟩ := List.mem_map.mp hp
      have := chC_deed hc
      unfold chC at this
      omega
/-- rows of text -/
theorem split_rows {rs : List Str} (hne : rs ≠ []) (h : ∀ r ∈ rs, 10 ∉ tl r) : Txt.split (Str.join "\n" rs) "\n" = rs := by
  rw [← join_eq]
  exact split_join (s := 10) (S := []) rfl (by decide +kernel) hne h
/-! lengths -/
theorem nS_len {i : Int} (h : -10000 < i) (h2 : i < 10000) : (tl (nS i)).length ≤ 5 := by
  by_cases z : 0 ≤ i
  · rw [nS_pos z]
    exact Nat.le_trans (numL_len (k := 4) (by decide) (by omega)) (by decide)
  · rw [nS_neg (by omega), List.length_cons]
    have := numL_len (n := (-i).toNat) (k := 4) (by decide) (by omega)
    omega
theorem inB_le {a b n : Int} (h : inB a b n = true) : a ≤ n ∧ n ≤ b := by
  unfold inB at h
  simpa only [Bool.and_eq_true, decide_eq_true_eq] using h
/-- the parts of a deed that can be: small numbers -/
theorem parts_small {d : Dd} (h : d.ok = true) : ∀ v ∈ d.parts, (∃ i : Int, v = .int i ∧ -1000 < i ∧ i ≤ 1000) ∨ v = .non := by
  cases d with
  | put k w l =>
    have h : (inB 0 31 k && (inB 0 999 w && inB 0 1000 l)) = true := by simpa [Dd.ok, Bool.and_assoc] using h
    simp only [Bool.and_eq_true] at h
    obtain ⟨h1, h2, h3⟩ := h
    have h1 := inB_le h1; have h2 := inB_le h2; have h3 := inB_le h3
    intro v hv
    simp only [Dd.parts, List.mem_cons, List.not_mem_nil, or_false] at hv
    rcases hv with rfl | rfl | rfl
    · exact .inl ⟨_, rfl, by omega, by omega⟩
    · exact .inl ⟨_, rfl, by omega, by omega⟩
    · exact .inl ⟨_, rfl, by omega, by omega⟩
  | drop k =>
    have h1 := inB_le (show inB 0 31 k = true from by simpa [Dd.ok] using h)
    intro v hv
    simp only [Dd.parts, List.mem_cons, List.not_mem_nil, or_false] at hv
    subst hv
    exact .inl ⟨_, rfl, by omega, by omega⟩
  | add k m =>
    have h : (inB 0 31 k && inB (-999) 999 m) = true := by simpa [Dd.ok] using h
    simp only [Bool.and_eq_true] at h
    obtain ⟨h1, h2⟩ := h
    have h1 := inB_le h1; have h2 := inB_le h2
    intro v hv
    simp only [Dd.parts, List.mem_cons, List.not_mem_nil, or_false] at hv
    rcases hv with rfl | rfl
    · exact .inl ⟨_, rfl, by omega, by omega⟩
    · exact .inl ⟨_, rfl, by omega, by omega⟩
  | iff k w =>
    intro v hv
    simp only [Dd.parts, List.mem_cons, List.not_mem_nil, or_false] at hv
    cases w with
    | none =>
      have h1 := inB_le (show inB 0 31 k = true from by simpa [Dd.ok] using h)
      rcases hv with rfl | rfl
      · exact .inl ⟨_, rfl, by omega, by omega⟩
      · exact .inr rfl
    | some w =>
      have h : (inB 0 31 k && inB 0 999 w) = true := by simpa [Dd.ok] using h
      simp only [Bool.and_eq_true] at h
      obtain ⟨h1, h2⟩ := h
      have h1 := inB_le h1; have h2 := inB_le h2
      rcases hv with rfl | rfl
      · exact .inl ⟨_, rfl, by omega, by omega⟩
      · exact .inl ⟨_, rfl, by omega, by omega⟩
theorem word_len (d : Dd) : (tl d.word).length ≤ 5 := by
  cases d with
  | put _ _ _ => exact (by decide +kernel : (tl ("put" : Str)).length ≤ 5)
  | drop _ => exact (by decide +kernel : (tl ("drop" : Str)).length ≤ 5)
  | add _ _ => exact (by decide +kernel : (tl ("add" : Str)).length ≤ 5)
  | iff _ _ => exact (by decide +kernel : (tl ("if" : Str)).length ≤ 5)
theorem part_len {d : Dd} (h : d.ok = true) : ∀ v ∈ d.vs, (tl (pS v)).length ≤ 5 := fun v hv => by
  rcases List.mem_cons.mp hv with rfl | hv
  · exact word_len d
  · rcases parts_small h v hv with ⟨i, rfl, h1, h2⟩ | rfl
    · exact nS_len (by omega) (by omega)
    · exact (by decide +kernel : (tl ("-" : Str)).length ≤ 5)
theorem vs_len (d : Dd) : d.vs.length ≤ 4 := by cases d <;> simp [Dd.vs, Dd.parts]
theorem deed_len {d : Dd} (h : d.ok = true) : (tl (deedS d)).length ≤ 24 := by
  unfold deedS
  rw [tl_join]
  refine Nat.le_trans (joinL_len (m := 5) fun p hp => ?_) ?_
  · rw [List.map_map] at hp
    obtain ⟨v, hv, rfl⟩ := List.mem_map.mp hp
    exact part_len h v hv
  · rw [List.length_map, List.length_map]
    exact Nat.le_trans (Nat.mul_le_mul_right _ (vs_len d)) (by decide)
theorem tail_len {ds : List Dd} (h : ∀ d ∈ ds, d.ok = true) (l : ds.length ≤ 4) : (tl (tailS ds)).length ≤ 104 := by
  unfold tailS
  rw [tl_join]
  refine Nat.le_trans (joinL_len (m := 24) fun p hp => ?_) ?_
  · rw [List.map_map] at hp
    obtain ⟨d, hd, rfl⟩ := List.mem_map.mp hp
    exact deed_len (h d hd)
  · rw [List.length_map, List.length_map]
    exact Nat.le_trans (Nat.mul_le_mul_right _ l) (by decide)
theorem head_len {h x : Int} (h0 : 0 ≤ h) (h3 : h < 10000) (x0 : 0 ≤ x) (x1 : x < 10000) : (tl (headS h x)).length ≤ 11 := by
  unfold headS
  rw [tl_append, tl_append, List.length_append, List.length_append]
  have h1 := nS_len (i := h) (by omega) (by omega)
  have h2 := nS_len (i := x) (by omega) (by omega)
  have h3 : (tl (" " : Str)).length = 1 := by decide +kernel
  omega
theorem row_len {h x : Int} {ds : List Dd} (h0 : 0 ≤ h) (h3 : h < 10000) (x0 : 0 ≤ x) (x1 : x < 10000) (hd : ∀ d ∈ ds, d.ok = true) (l : ds.length ≤ 4) : (tl (rowS h x ds)).length ≤ 117 := by
  unfold rowS
  rw [tl_append, tl_append, List.length_append, List.length_append]
  have h1 := head_len h0 h3 x0 x1
  have h2 := tail_len hd l
  have h3 : (tl (": " : Str)).length = 2 := by decide +kernel
  omega
theorem num_back {n : Nat} (h : n < 10000) : intText? (nS (n : Int)) = some (n : Int) := int_num (Nat.le_trans (numL_len (k := 4) (by decide) h) (by decide))
end S02

set_option Elab.async false
set_option linter.all false
set_option maxRecDepth 100000
set_option maxHeartbeats 1000000
/-! ### What stands in the heap -/
namespace S02
open PySem PySem.Spec PyProof.Rows L2 K5 SupX
theorem paired_at {α β : Type} {R : α → β → Prop} {xs : List α} {ys : List β} (h : Paired R xs ys) {i : Nat} {x : α} (e : xs[i]? = some x) : ∃ y, ys[i]? = some y ∧ R x y := by
  induction h generalizing i with
  | nil => cases e
  | cons r _ ih =>
    cases i with
    | zero =>
      cases e
      exact ⟨_, rfl, r⟩
    | succ i => exact ih e
theorem paired_to {α β : Type} {R : α → β → Prop} {xs : List α} {ys : List β} (h : Paired R xs ys) {i : Nat} {y : β} (e : ys[i]? = some y) : ∃ x, xs[i]? = some x ∧ R x y := by
  induction h generalizing i with
  | nil => cases e
  | cons r _ ih =>
    cases i with
    | zero =>
      cases e
      exact ⟨_, rfl, r⟩
    | succ i => exact ih e
theorem paired_take {α β : Type} {R : α → β → Prop} {xs : List α} {ys : List β} (h : Paired R xs ys) (n : Nat) : Paired R (xs.take n) (ys.take n) := by
  induction h generalizing n with
  | nil => cases n <;> exact .nil
  | cons r _ ih =>
    cases n with
    | zero => exact .nil
    | succ n => exact .cons r (ih n)
theorem paired_drop {α β : Type} {R : α → β → Prop} {xs : List α} {ys : List β} (h : Paired R xs ys) (n : Nat) : Paired R (xs.drop n) (ys.drop n) := by
  induction h generalizing n with
  | nil => cases n <;> exact .nil
  | cons r t ih =>
    cases n with
    | zero => exact .cons r t
    | succ n => exact ih n
theorem paired_app {α β : Type} {R : α → β → Prop} {xs xs2 : List α} {ys ys2 : List β} (h : Paired R xs ys) (h2 : Paired R xs2 ys2) : Paired R (xs ++ xs2) (ys ++ ys2) := by
  induction h with
  | nil => exact h2
  | cons r _ ih => exact .cons r ih
theorem kp_fresh {F F' : Addr → Prop} {H G : Hp} (k : Kp F H G) (n : ∀ b, F b → H b = none) : Kp F' H G := fun b o e _ => k b o e fun _ z => by rw [n b z] at e; cases e
theorem take_snoc {α : Type} {xs : List α} {i : Nat} {x : α} (h : xs[i]? = some x) : xs.take (i + 1) = xs.take i ++ [x] := by
  rw [List.take_succ, h]
  rfl
def DdAt (H : Hp) (v : V) (d : Dd) : Prop := ∃ a, v = .ref a ∧ H a = some (.tup d.vs)
def DsAt (H : Hp) (v : V) (ds : List Dd) : Prop := ∃ a xs, v = .ref a ∧ H a = some (.tup xs) ∧ Paired (DdAt H) xs ds ∧ ds.length ≤ 1000
def RwAt (H : Hp) (a : Addr) (f : Rw) (n : Nat) : Prop := ∃ kvs, H a = some (.dK kvs) ∧ kvs.length ≤ n ∧ ∀ k : Int, match f k with
  | none => valV kvs (.inl k : Key) = none
  | some (w, e) => ∃ t, valV kvs (.inl k : Key) = some (.ref t) ∧ H t = some (.tup [.int w, .int e])
def EnAt (H : Hp) (v : V) : En → Prop
  | .deal h ds => ∃ a dv, v = .ref a ∧ H a = some (.tup [.str "deal", .int h, dv]) ∧ DsAt H dv ds
  | .tick t => ∃ a, v = .ref a ∧ H a = some (.tup [.str "tick", .int t])
  | .odd => ∃ a xs, v = .ref a ∧ H a = some (.tup xs) ∧ (xs = [] ∨ xs = [.str "tick"] ∨ ∃ dv ds, xs = [.str "Deal", .int 0, dv] ∧ DsAt H dv ds)
def RdAt (H : Hp) (v : V) (r : Rd) : Prop := ∃ a, v = .ref a ∧ H a = some (.tup r.vs)
section
variable {F : Addr → Prop} {H G : Hp}
theorem DdAt.kt (k : Kt F H G) {v : V} {d : Dd} (h : DdAt H v d) : DdAt G v d := let ⟨a, e, q⟩ := h; ⟨a, e, k.tup q⟩
theorem DsAt.kt (k : Kt F H G) {v : V} {ds : List Dd} (h : DsAt H v ds) : DsAt G v ds := let ⟨a, xs, e, q, p, l⟩ := h; ⟨a, xs, e, k.tup q, p.mono fun _ _ z => z.kt k, l⟩
theorem RwAt.kt (k : Kt F H G) {a : Addr} {f : Rw} {n : Nat} (h : RwAt H a f n) (nf : ¬ F a) : RwAt G a f n := by
  obtain ⟨kvs, e, l, q⟩ := h
  refine ⟨kvs, k.dK e nf, l, fun j => ?_⟩
  have := q j
  cases hf : f j with
  | none =>
    rw [hf] at this
    exact this
  | some p =>
    obtain ⟨w, e⟩ := p
    rw [hf] at this
    obtain ⟨t, h1, h2⟩ := this
    exact ⟨t, h1, k.tup h2⟩
theorem RwAt.le {a : Addr} {f : Rw} {n m : Nat} (h : RwAt H a f n) (l : n ≤ m) : RwAt H a f m := let ⟨kvs, e, q, r⟩ := h; ⟨kvs, e, Nat.le_trans q l, r⟩
theorem EnAt.kt (k : Kt F H G) {v : V} : ∀ {e : En}, EnAt H v e → EnAt G v e
  | .deal _ _, ⟨a, dv, e, q, d⟩ => ⟨a, dv, e, k.tup q, d.kt k⟩
  | .tick _, ⟨a, e, q⟩ => ⟨a, e, k.tup q⟩
  | .odd, ⟨a, xs, e, q, .inl z⟩ => ⟨a, xs, e, k.tup q, .inl z⟩
  | .odd, ⟨a, xs, e, q, .inr (.inl z)⟩ => ⟨a, xs, e, k.tup q, .inr (.inl z)⟩
  | .odd, ⟨a, xs, e, q, .inr (.inr ⟨dv, ds, z, d⟩)⟩ => ⟨a, xs, e, k.tup q, .inr (.inr ⟨dv, ds, z, d.kt k⟩)⟩
theorem RdAt.kt (k : Kt F H G) {v : V} {r : Rd} (h : RdAt H v r) : RdAt G v r := let ⟨a, e, q⟩ := h; ⟨a, e, k.tup q⟩
end
section
variable {α : Type} [DecidableEq α] {kvs : List (α × V)}
theorem valV_drop (kvs : List (α × V)) (k j : α) : valV (dropK kvs k) j = if j = k then none else valV kvs j := by
  unfold valV dropK
  induction kvs with
  | nil => simp
  | cons p ps ih =>
    by_cases hp : p.1 = k
    · rw [List.filter_cons_of_neg (by simp [hp]), ih]
      by_cases hj : j = k
      · rw [if_pos hj, if_pos hj]
      · rw [if_neg hj, if_neg hj, List.find?_cons_of_neg (by simpa using fun z => hj (z.symm.trans hp))]
    · rw [List.filter_cons_of_pos (by simp [hp])]
      by_cases hj : p.1 = j
      · rw [List.find?_cons_of_pos (by simp [hj]), List.find?_cons_of_pos (by simp [hj]), if_neg (fun z => hp (hj.trans z))]
      · rw [List.find?_cons_of_neg (by simpa using hj), List.find?_cons_of_neg (by simpa using hj)]
        exact ih
theorem dropK_len (kvs : List (α × V)) (k : α) : (dropK kvs k).length ≤ kvs.length := List.length_filter_le _ _
end
theorem sz (n : Nat) (h : n ≤ 16777216) : n ≤ sizeLine := by rw [sizeLine_eq]; exact h
theorem szL {n : Nat} (h : n ≤ 16000) : n < sizeLine := by rw [sizeLine_eq]; omega
section
variable {H : Hp} {a : Addr} {f : Rw} {n : Nat}
/-- a key is stored -/
theorem RwAt.put {kvs : List (Key × V)} {k w e : Int} {t : Addr} (h : RwAt H a f n) (hd : H a = some (.dK kvs)) (ht : H t = some (.tup [.int w, .int e])) : RwAt (upd H a (.dK (putK kvs (.inl k) (.ref t)))) a (f.set k (some (w, e))) (n + 1) := by
  obtain ⟨kv2, e1, l, q⟩ := h
  obtain rfl : kvs = kv2 := by rw [e1] at hd; cases hd; rfl
  have nt : ∀ {t : Addr} {xs : List V}, H t = some (.tup xs) → t ≠ a := fun h => ne_of h e1 (by intro z; cases z)
  refine ⟨_, upd_same, Nat.le_trans (length_putK _ _ _) (by omega), fun j => ?_⟩
  rw [valV_put]
  unfold Rw.set
  by_cases hj : j = k
  · rw [if_pos hj, if_pos (by rw [hj])]
    exact ⟨t, rfl, by rw [upd_ne (nt ht)]; exact ht⟩
  · rw [if_neg hj, if_neg (fun z => hj (Sum.inl.inj z))]
    have := q j
    cases hf : f j with
    | none =>
      rw [hf] at this
      exact this
    | some p =>
      obtain ⟨w', e'⟩ := p
      rw [hf] at this
      obtain ⟨t', h1, h2⟩ := this
      exact ⟨t', h1, by rw [upd_ne (nt h2)]; exact h2⟩
theorem RwAt.del {kvs : List (Key × V)} {k : Int} (h : RwAt H a f n) (hd : H a = some (.dK kvs)) : RwAt (upd H a (.dK (dropK kvs (.inl k)))) a (f.set k none) n := by
  obtain ⟨kv2, e1, l, q⟩ := h
  obtain rfl : kvs = kv2 := by rw [e1] at hd; cases hd; rfl
  refine ⟨_, upd_same, Nat.le_trans (dropK_len _ _) l, fun j => ?_⟩
  rw [valV_drop]
  unfold Rw.set
  by_cases hj : j = k
  · rw [if_pos hj, if_pos (by rw [hj])]
  · rw [if_neg hj, if_neg (fun z => hj (Sum.inl.inj z))]
    have := q j
    cases hf : f j with
    | none =>
      rw [hf] at this
      exact this
    | some p =>
      obtain ⟨w', e'⟩ := p
      rw [hf] at this
      obtain ⟨t', h1, h2⟩ := this
      exact ⟨t', h1, by rw [upd_ne (ne_of h2 e1 (by intro z; cases z))]; exact h2⟩
theorem set_none {k : Int} (h : f k = none) : f.set k none = f := funext fun j => by
  unfold Rw.set
  by_cases hj : j = k
  · rw [if_pos hj, hj, h]
  · rw [if_neg hj]
end
end S02

set_option Elab.async false
set_option linter.all false
set_option maxRecDepth 100000
set_option maxHeartbeats 1000000
namespace S02
open PySem PySem.Spec PyProof.Rows L2 K5 SupX
section
variable {P : Program} {w : World} {K : PySem.W.Frag} {mg : Str → Option Value} {base : Heap} {A : Ad}
/-! ### within -/
theorem scwithin : FnScope ["number", "low", "high"] ["number", "low", "high"] (defScope s_within) := ⟨rfl, rfl, rfl, by decide +kernel, rfl, by decide +kernel, by decide +kernel⟩
/-- of a number; of None -/
def spWithin : Sp := fun vs H Q _ => ∃ (v : V) (lo hi : Int), vs = [v, .int lo, .int hi] ∧ ((∃ n, v = .int n ∧ Q (.bl (inB lo hi n)) H) ∨ (v = .non ∧ Q (.bl false) H))
theorem ok_within (T : Txt K mg A) : ∃ fd, FnOk P w K mg base CX0 1 (A.d 27) fd ["number", "low", "high"] spWithin ∧ Binds K fd ["number", "low", "high"] [] := by
  obtain ⟨fd, F⟩ := T.within.fn
  refine ⟨fd, F.ok scwithin (fun vs H Q E h => ?_) (fun cdv A outer s H vs Q E hr h => ?_), F.binds fun _ _ _ _ _ _ us hl => match us, hl with | [_, _, _], _ => rfl⟩
  · obtain ⟨v, lo, hi, rfl, _⟩ := h
    rfl
  · obtain ⟨v, lo, hi, rfl, k⟩ := h
    refine ⟨_, (pss_one (ps_ret (pe_and (pe_callB call_isi (by rfl) T.isinstance (by decide +kernel) (pa_cons (pv 0) (pa_cons (pe_bltn (v := .ty "int") (by rfl) T.int (by decide +kernel) rfl) pa_nil))) (pe_and (pe_not (pe_callB call_isi (by rfl) T.isinstance (by decide +kernel) (pa_cons (pv 0) (pa_cons (pe_bltn (v := .ty "bool") (by rfl) T.bool (by decide +kernel) rfl) pa_nil)))) (pe_one (pe_chain op_le op_le (pv 1) (pv 0) (pv 2))))))), ?_⟩
    rcases k with ⟨n, rfl, k⟩ | ⟨rfl, k⟩
    · refine ⟨_, rfl, _, _, _, _, true, rfl, .ty "int", .base (.int n), by rfl, true, rfl, iteT ?_⟩
      refine ⟨_, rfl, _, _, _, _, false, rfl, .ty "bool", .base (.int n), by rfl, false, rfl, true, rfl, iteT ?_⟩
      refine ⟨_, rfl, _, rfl, _, _, rfl, rfl, _, rfl, ?_⟩
      unfold inB at k
      by_cases h1 : lo ≤ n
      · rw [decide_eq_true h1] at k ⊢
        rw [Bool.true_and] at k
        exact iteT ⟨_, rfl, _, _, rfl, rfl, k⟩
      · rw [decide_eq_false h1] at k ⊢
        rw [Bool.false_and] at k
        exact iteF k
    · refine ⟨_, rfl, _, _, _, _, false, rfl, .ty "int", .base .non, by rfl, false, rfl, iteF ?_⟩
      exact k
/-! ### is_shown, shown_worth -/
theorem scis_shown : FnScope ["end", "moment"] ["end", "moment"] (defScope s_is_shown) := ⟨rfl, rfl, rfl, by decide +kernel, rfl, by decide +kernel, by decide +kernel⟩
def spShown : Sp := fun vs H Q _ => ∃ e m : Int, vs = [.int e, .int m] ∧ Q (.bl (shB e m)) H
theorem ok_is_shown (T : Txt K mg A) : ∃ fd, FnOk P w K mg base CX0 1 (A.d 34) fd ["end", "moment"] spShown ∧ Binds K fd ["end", "moment"] [] := by
  obtain ⟨fd, F⟩ := T.is_shown.fn
  refine ⟨fd, F.ok scis_shown (fun vs H Q E h => ?_) (fun cdv A outer s H vs Q E hr h => ?_), F.binds fun _ _ _ _ _ _ us hl => match us, hl with | [_, _], _ => rfl⟩
  · obtain ⟨e, m, rfl, _⟩ := h
    rfl
  · obtain ⟨e, m, rfl, k⟩ := h
    refine ⟨_, (pss_one (ps_ret (pe_or (pe_cmpR op_eq (pv 0) pe_int (nomark _)) (pe_one (pe_cmpR op_gt (pv 0) (pv 1) (nomark _)))))), ?_⟩
    refine ⟨_, rfl, rfl, _, rfl, ?_⟩
    unfold shB at k
    have e1 : decide (V.int e = V.int 0) = decide (e = 0) := by simp
    rw [e1]
    by_cases h1 : e = 0
    · rw [decide_eq_true h1] at k ⊢
      rw [Bool.true_or] at k
      exact iteT k
    · rw [decide_eq_false h1] at k ⊢
      rw [Bool.false_or] at k
      exact iteF ⟨_, rfl, _, rfl, _, _, rfl, rfl, k⟩
theorem scshown_worth : FnScope ["rows", "key", "moment", "worth", "end"] ["rows", "key", "moment"] (defScope s_shown_worth) := ⟨rfl, rfl, rfl, by decide +kernel, rfl, by decide +kernel, by decide +kernel⟩
def spWorth : Sp := fun vs H Q _ => ∃ (a : Addr) (k m : Int) (f : Rw) (n : Nat), vs = [.ref a, .int k, .int m] ∧ RwAt H a f n ∧ Q (oV (seen m f k)) H
theorem ok_shown_worth (T : Txt K mg A) : ∃ fd, FnOk P w K mg base CX0 2 (A.d 35) fd ["rows", "key", "moment"] spWorth ∧ Binds K fd ["rows", "key", "moment"] [] := by
  obtain ⟨fd, F⟩ := T.shown_worth.fn
  obtain ⟨fdS, Gis_shown, bis_shown⟩ := ok_is_shown (P := P) (w := w) (base := base) T
  refine ⟨fd, F.ok scshown_worth (fun vs H Q E h => ?_) (fun cdv A outer s H vs Q E hr h => ?_), F.binds fun _ _ _ _ _ _ us hl => match us, hl with | [_, _, _], _ => rfl⟩
  · obtain ⟨a, j, m, f, n, rfl, _⟩ := h
    rfl
  · obtain ⟨a, j, m, f, n, rfl, ⟨kvs, hd, hl, hf⟩, k⟩ := h
    have hu := hu_of hr
    refine ⟨_, (pss_cons (ps_if (pt_cmp (pc_dnotin hu (pv 1) (pv 0)))
        (pss_one (ps_ret pe_non))
        pss_nil)
      (pss_cons (ps_asg (pe_dget hu (pv 0) (pv 1) (fun _ _ => rfl)) (pg_tup rfl (pgs_cons (pg_name (i := 3) scshown_worth.nd rfl (Or.inl rfl)) (pgs_cons (pg_name (i := 4) scshown_worth.nd rfl (Or.inl rfl)) pgs_nil))))
      (pss_one (ps_ret (pe_ifExp (pt_val (pe_call Gis_shown (hr.mono (by first | decide | omega)) rfl T.is_shown.at_ T.is_shown.kp bis_shown .nil pass0 (pa_cons (pv 4) (pa_cons (pv 2) pa_nil)))) (pv 3) pe_non))))), ?_⟩
    have q := hf j
    unfold seen at k
    refine ⟨_, rfl, _, rfl, a, _, rfl, DGet.k (k := Sum.inl j) hd, _, rfl, ?_⟩
    cases e : f j with
    | none =>
      rw [e] at q k
      rw [q]
      exact iteT k
    | some p =>
      obtain ⟨wt, en⟩ := p
      rw [e] at q k
      obtain ⟨t, q1, q2⟩ := q
      rw [q1]
      refine iteF ?_
      refine ⟨_, rfl, _, rfl, a, _, rfl, by have := DGet.k (k := Sum.inl j) hd; rw [q1] at this; exact this, ?_⟩
      refine ⟨t, _, rfl, SqT.of q2, rfl, _, _, rfl, _, _, rfl, rfl, ?_⟩
      refine ⟨_, rfl, _, rfl, en, m, rfl, _, rfl, ?_⟩
      by_cases hs : shB en m = true
      · have k : Q (oV (if shB en m = true then some wt else none)) H := k
        rw [if_pos hs] at k
        rw [hs]
        exact iteT ⟨_, rfl, k⟩
      · have k : Q (oV (if shB en m = true then some wt else none)) H := k
        rw [if_neg hs] at k
        rw [Bool.not_eq_true] at hs
        rw [hs]
        exact iteF k
end
end S02

set_option Elab.async false
set_option linter.all false
set_option maxRecDepth 100000
set_option maxHeartbeats 1000000
namespace S02
open PySem PySem.Spec PyProof.Rows L2 K5 SupX
section
variable {P : Program} {w : World} {K : PySem.W.Frag} {mg : Str → Option Value} {base : Heap} {A : Ad}
/-- a deed's action: rows at a, the parts at p, the moment -/
def spAct (wd : Str) : Sp := fun vs H Q _ => ∃ (a p : Addr) (m : Int) (f : Rw) (n : Nat) (d : Dd), vs = [.ref a, .ref p, .int m] ∧ d.word = wd ∧ RwAt H a f n ∧ n ≤ 15000 ∧ H p = some (.lst d.parts) ∧
  ∀ G, Kp (fun b => b = a) H G → (step m f d = none → Q (.bl false) G) ∧ (∀ g, step m f d = some g → RwAt G a g (n + 1) → Q (.bl true) G)
theorem spAct_len {wd : Str} {vs : List V} {H : Hp} {Q : VK} {E : XK} (h : spAct wd vs H Q E) : vs.length = 3 := by
  obtain ⟨a, p, m, f, n, d, rfl, _⟩ := h
  rfl
theorem scput_row : FnScope ["rows", "parts", "moment", "key", "worth", "life"] ["rows", "parts", "moment"] (defScope s_put_row) := ⟨rfl, rfl, rfl, by decide +kernel, rfl, by decide +kernel, by decide +kernel⟩
theorem ok_put_row (T : Txt K mg A) : ∃ fd, FnOk P w K mg base CX0 3 (A.d 36) fd ["rows", "parts", "moment"] (spAct "put") ∧ Binds K fd ["rows", "parts", "moment"] [] := by
  obtain ⟨fd, F⟩ := T.put_row.fn
  refine ⟨fd, F.ok scput_row (fun vs H Q E h => spAct_len h) (fun cdv A outer s H vs Q E hr h => ?_), F.binds fun _ _ _ _ _ _ us hl => match us, hl with | [_, _, _], _ => rfl⟩
  obtain ⟨a, p, m, f, n, d, rfl, hw, R, hn, hp, k⟩ := h
  have hu := hu_of hr
  obtain ⟨j, wt, l, rfl⟩ : ∃ j wt l, d = .put j wt l := by
    cases d with
    | put j wt l => exact ⟨j, wt, l, rfl⟩
    | drop => cases hw
    | add => cases hw
    | iff => cases hw
  refine ⟨_, (pss_cons (ps_asg (pv 1) (pg_unl rfl (pgs_cons (pg_name (i := 3) scput_row.nd rfl (Or.inl rfl)) (pgs_cons (pg_name (i := 4) scput_row.nd rfl (Or.inl rfl)) (pgs_cons (pg_name (i := 5) scput_row.nd rfl (Or.inl rfl)) pgs_nil)))))
      (pss_cons (ps_dput hu (pv 0) (pv 3) (pe_tup (pa_cons (pv 4) (pa_cons (pe_ifExp (pt_truth (pv 5) (by intro _; rfl)) (pe_op op_add (pv 2) (pv 5)) pe_int) pa_nil))) rfl)
      (pss_one (ps_ret pe_bl)))), ?_⟩
  have ⟨kvs, hd, hl, _⟩ := R
  refine ⟨_, rfl, p, _, rfl, SqL.of hp, rfl, _, _, rfl, _, _, rfl, _, _, rfl, rfl, ?_⟩
  refine ⟨_, rfl, _, rfl, (l != 0), rfl, ?_⟩
  refine ite2 (fun h0 => ⟨_, rfl, _, rfl, _, _, rfl, rfl, ?_⟩) (fun h0 => ?_)
  all_goals
    refine ⟨sz 2 (by decide), fun t ht => ?_⟩
    refine ⟨_, rfl, _, rfl, a, _, rfl, DPut.k (k := Sum.inl j) ((upd_ne (ne_of_none hd ht)).trans hd) (szL (by omega)), ?_⟩
    refine (k _ ((Kp.new ht).andD ((upd_ne (ne_of_none hd ht)).trans hd) rfl)).2 _ ?_ ((R.kt (Kp.new (F := No) ht).t fun z => z).put (k := j) ((upd_ne (ne_of_none hd ht)).trans hd) upd_same)
    have h0' : (l != 0) = true ↔ l ≠ 0 := bne_iff_ne
    simp only [step]
    first
      | rw [if_neg (h0'.mp h0)]
      | rw [if_pos (Decidable.byContradiction fun z => h0 (h0'.mpr z))]
theorem scdrop_row : FnScope ["rows", "parts", "moment"] ["rows", "parts", "moment"] (defScope s_drop_row) := ⟨rfl, rfl, rfl, by decide +kernel, rfl, by decide +kernel, by decide +kernel⟩
theorem ok_drop_row (T : Txt K mg A) : ∃ fd, FnOk P w K mg base CX0 3 (A.d 37) fd ["rows", "parts", "moment"] (spAct "drop") ∧ Binds K fd ["rows", "parts", "moment"] [] := by
  obtain ⟨fd, F⟩ := T.drop_row.fn
  refine ⟨fd, F.ok scdrop_row (fun vs H Q E h => spAct_len h) (fun cdv A outer s H vs Q E hr h => ?_), F.binds fun _ _ _ _ _ _ us hl => match us, hl with | [_, _, _], _ => rfl⟩
  obtain ⟨a, p, m, f, n, d, rfl, hw, R, hn, hp, k⟩ := h
  have hu := hu_of hr
  obtain ⟨j, rfl⟩ : ∃ j, d = .drop j := by
    cases d with
    | put => cases hw
    | drop j => exact ⟨j, rfl⟩
    | add => cases hw
    | iff => cases hw
  refine ⟨_, (pss_cons (ps_expr (pe_dpop2 (pv 0) (pe_ix ix_list (pv 1) pe_int (fun _ _ => rfl)) pe_non ⟨rfl, rfl, rfl, rfl⟩))
      (pss_one (ps_ret pe_bl))), ?_⟩
  have ⟨kvs, hd, hl, hf⟩ := R
  refine ⟨_, rfl, a, rfl, .inl ⟨kvs, .inl hd⟩, _, rfl, p, _, 0, .int j, rfl, rfl, SqL.of hp, rfl, kvs, Sum.inl j, hd, rfl, fun v hv => ?_, fun hv => ?_⟩
  · exact (k _ (Kp.updD hd rfl)).2 _ rfl ((R.del (k := j) hd).le (by omega))
  · have e : f.set j none = f := set_none (by
      have := hf j
      cases e : f j with
      | none => rfl
      | some q =>
        obtain ⟨w', e'⟩ := q
        rw [e] at this
        obtain ⟨t, h1, _⟩ := this
        rw [hv] at h1
        cases h1)
    exact (k _ (Kp.refl _ _)).2 _ rfl (by rw [e]; exact R.le (by omega))
theorem scadd_to_row : FnScope ["rows", "parts", "moment", "key", "more", "worth"] ["rows", "parts", "moment"] (defScope s_add_to_row) := ⟨rfl, rfl, rfl, by decide +kernel, rfl, by decide +kernel, by decide +kernel⟩
theorem ok_add_to_row (T : Txt K mg A) : ∃ fd, FnOk P w K mg base CX0 3 (A.d 38) fd ["rows", "parts", "moment"] (spAct "add") ∧ Binds K fd ["rows", "parts", "moment"] [] := by
  obtain ⟨fd, F⟩ := T.add_to_row.fn
  obtain ⟨fdW, Gshown_worth, bshown_worth⟩ := ok_shown_worth (P := P) (w := w) (base := base) T
  obtain ⟨fdI, Gwithin, bwithin⟩ := ok_within (P := P) (w := w) (base := base) T
  refine ⟨fd, F.ok scadd_to_row (fun vs H Q E h => spAct_len h) (fun cdv A outer s H vs Q E hr h => ?_), F.binds fun _ _ _ _ _ _ us hl => match us, hl with | [_, _, _], _ => rfl⟩
  obtain ⟨a, p, m, f, n, d, rfl, hw, R, hn, hp, k⟩ := h
  have hu := hu_of hr
  obtain ⟨j, x, rfl⟩ : ∃ j x, d = .add j x := by
    cases d with
    | put => cases hw
    | drop => cases hw
    | add j x => exact ⟨j, x, rfl⟩
    | iff => cases hw
  refine ⟨_, (pss_cons (ps_asg (pv 1) (pg_unl rfl (pgs_cons (pg_name (i := 3) scadd_to_row.nd rfl (Or.inl rfl)) (pgs_cons (pg_name (i := 4) scadd_to_row.nd rfl (Or.inl rfl)) pgs_nil))))
      (pss_cons (ps_set (i := 5) scadd_to_row.nd rfl (Or.inl rfl) (pe_call Gshown_worth (hr.mono (by first | decide | omega)) rfl T.shown_worth.at_ T.shown_worth.kp bshown_worth .nil pass0 (pa_cons (pv 0) (pa_cons (pv 3) (pa_cons (pv 2) pa_nil)))))
      (pss_cons (ps_if (PW.pt (pw_or (pt_cmp (pc_isN (pv 5))) (pw_or1 (pt_not (pt_val (pe_call Gwithin (hr.mono (by first | decide | omega)) rfl T.within.at_ T.within.kp bwithin .nil pass0 (pa_cons (pe_op op_add (pv 5) (pv 4)) (pa_cons pe_int (pa_cons (pe_glob (v := .int 999) rfl T.k_LAST_WORTH.choose_spec ⟨_, rfl⟩) pa_nil)))))))))
        (pss_one (ps_ret pe_bl))
        pss_nil)
      (pss_cons (ps_dput hu (pv 0) (pv 3) (pe_tup (pa_cons (pe_op op_add (pv 5) (pv 4)) (pa_cons (pe_ix ix_tup (pe_dget hu (pv 0) (pv 3) (fun _ _ => rfl)) pe_int (fun _ _ => rfl)) pa_nil))) rfl)
      (pss_one (ps_ret pe_bl)))))), ?_⟩
  have ⟨kvs, hd, hl, hf⟩ := R
  refine ⟨_, rfl, p, _, rfl, SqL.of hp, rfl, _, _, rfl, _, _, rfl, rfl, ?_⟩
  refine ⟨_, rfl, _, rfl, _, rfl, a, j, m, f, n, rfl, R, ?_⟩
  have q := hf j
  have no := (k H (Kp.refl _ _)).1
  cases e : f j with
  | none =>
    have s0 : step m f (.add j x) = none := by simp only [step, e]
    have z0 : seen m f j = none := by simp only [seen, e]
    rw [z0]
    exact ⟨_, rfl, _, rfl, iteT (iteT (no s0))⟩
  | some r =>
    obtain ⟨wt, en⟩ := r
    rw [e] at q
    obtain ⟨t, q1, q2⟩ := q
    by_cases hs : shB en m = true
    · have z0 : seen m f j = some wt := by simp only [seen, e, hs, if_true]
      rw [z0]
      refine ⟨_, rfl, _, rfl, iteF ?_⟩
      refine ⟨_, rfl, _, rfl, _, _, rfl, rfl, _, 0, 999, rfl, .inl ⟨_, rfl, _, rfl, ?_⟩⟩
      cases hb : inB 0 999 (wt + x) with
      | false =>
        have s0 : step m f (.add j x) = none := by simp only [step, e, hs, hb]; rfl
        exact iteT (no s0)
      | true =>
        have s0 : step m f (.add j x) = some (f.set j (some (wt + x, en))) := by simp only [step, e, hs, hb]; rfl
        refine iteF ?_
        refine ⟨_, rfl, _, rfl, _, _, rfl, rfl, _, rfl, _, rfl, a, _, rfl, (by have := DGet.k (k := Sum.inl j) hd; rw [q1] at this; exact this), t, _, 1, .int en, rfl, rfl, SqT.of q2, rfl, sz 2 (by decide), fun t2 h2 => ?_⟩
        refine ⟨_, rfl, _, rfl, a, _, rfl, DPut.k (k := Sum.inl j) ((upd_ne (ne_of_none hd h2)).trans hd) (szL (by omega)), ?_⟩
        exact (k _ ((Kp.new h2).andD ((upd_ne (ne_of_none hd h2)).trans hd) rfl)).2 _ s0 ((R.kt (Kp.new (F := No) h2).t fun z => z).put (k := j) ((upd_ne (ne_of_none hd h2)).trans hd) upd_same)
    · have z0 : seen m f j = none := by simp only [seen, e, hs, if_false]; rfl
      have s0 : step m f (.add j x) = none := by simp only [step, e, hs, false_and, if_false]; rfl
      rw [z0]
      exact ⟨_, rfl, _, rfl, iteT (iteT (no s0))⟩
theorem scdoes_show : FnScope ["rows", "parts", "moment", "key", "worth"] ["rows", "parts", "moment"] (defScope s_does_show) := ⟨rfl, rfl, rfl, by decide +kernel, rfl, by decide +kernel, by decide +kernel⟩
theorem oV_eq {a b : Option Int} : decide (oV a = oV b) = decide (a = b) := by
  cases a <;> cases b <;> simp [oV]
theorem ok_does_show (T : Txt K mg A) : ∃ fd, FnOk P w K mg base CX0 3 (A.d 39) fd ["rows", "parts", "moment"] (spAct "if") ∧ Binds K fd ["rows", "parts", "moment"] [] := by
  obtain ⟨fd, F⟩ := T.does_show.fn
  obtain ⟨fdW, Gshown_worth, bshown_worth⟩ := ok_shown_worth (P := P) (w := w) (base := base) T
  refine ⟨fd, F.ok scdoes_show (fun vs H Q E h => spAct_len h) (fun cdv A outer s H vs Q E hr h => ?_), F.binds fun _ _ _ _ _ _ us hl => match us, hl with | [_, _, _], _ => rfl⟩
  obtain ⟨a, p, m, f, n, d, rfl, hw, R, hn, hp, k⟩ := h
  have hu := hu_of hr
  obtain ⟨j, x, rfl⟩ : ∃ j x, d = .iff j x := by
    cases d with
    | put => cases hw
    | drop => cases hw
    | add => cases hw
    | iff j x => exact ⟨j, x, rfl⟩
  refine ⟨_, (pss_cons (ps_asg (pv 1) (pg_unl rfl (pgs_cons (pg_name (i := 3) scdoes_show.nd rfl (Or.inl rfl)) (pgs_cons (pg_name (i := 4) scdoes_show.nd rfl (Or.inl rfl)) pgs_nil))))
      (pss_one (ps_ret (pe_cmpR op_eq (pe_call Gshown_worth (hr.mono (by first | decide | omega)) rfl T.shown_worth.at_ T.shown_worth.kp bshown_worth .nil pass0 (pa_cons (pv 0) (pa_cons (pv 3) (pa_cons (pv 2) pa_nil)))) (pv 4) (nomark _))))), ?_⟩
  refine ⟨_, rfl, p, _, rfl, SqL.of hp, rfl, _, _, rfl, _, _, rfl, rfl, ?_⟩
  refine ⟨_, rfl, _, rfl, _, rfl, a, j, m, f, n, rfl, R, _, rfl, ?_⟩
  have kk := k H (Kp.refl _ _)
  refine ⟨?_, ?_⟩
  · cases x <;> cases seen m f j <;> rfl
  · rw [oV_eq]
    by_cases h : seen m f j = x
    · rw [decide_eq_true h]
      exact kk.2 f (by simp only [step, h, if_true]) (R.le (by omega))
    · rw [decide_eq_false h]
      exact kk.1 (by simp only [step, h, if_false])
end
end S02

set_option Elab.async false
set_option linter.all false
set_option maxRecDepth 100000
set_option maxHeartbeats 1000000
namespace S02
open PySem PySem.Spec PyProof.Rows L2 K5 SupX
/-- a comprehension over such a zip -/
theorem lc_zipM {K : PySem.W.Frag} {a : Addr} {sq : Hp → Prop} {xs ys : List V} {g : TG} {tt : TT} {te : TE} {vs : List Nat} {σ : L2.St} {H1 : Hp} {D : Addr} {Qd : Hp → Prop} (Pv : Nat → Hp → Prop) (h0 : Pv 0 (upd H1 D (.lst []))) (hq : ∀ i H, Pv i H → SqL K H a xs ∧ sq H)
    (hs : ∀ (i : Nat) (x y : V) (T : Addr) (H : Hp), xs[i]? = some x → ys[i]? = some y → Pv i H → H T = none → g (.ref T) (wipe σ vs) (upd H T (.tup [x, y])) fun σ2 H2 => wipe σ2 vs = wipe σ vs ∧ tt σ2 H2 fun b H3 =>
      if b = true then te σ2 H3 fun z H4 => ∃ acc, H4 D = some (.lst acc) ∧ acc.length < sizeLine ∧ Pv (i + 1) (upd H4 D (.lst (acc ++ [z]))) else Pv (i + 1) H3) (hd : ∀ H, Pv (min xs.length ys.length) H → Qd H) :
    ∃ W : Nat → Nat → Hp → Prop, (∃ m, W 0 m (upd H1 D (.lst []))) ∧ ∀ i m H, W i m H →
      ((ItM K a sq xs ys).stop i H ∧ Qd H) ∨ ((ItM K a sq xs ys).go i H ∧ ∃ Nx : Hp → Prop, (∀ H', Nx H' → ∃ m', m' < m ∧ W (i + 1) m' H') ∧ ∀ x H', (ItM K a sq xs ys).yld i H x H' → g x (wipe σ vs) H' fun σ2 H2 => wipe σ2 vs = wipe σ vs ∧ tt σ2 H2 fun b H3 =>
        if b = true then te σ2 H3 fun y H4 => ∃ acc, H4 D = some (.lst acc) ∧ acc.length < sizeLine ∧ Nx (upd H4 D (.lst (acc ++ [y]))) else Nx H3) := by
  refine ⟨fun i m H => m = min xs.length ys.length - i ∧ i ≤ min xs.length ys.length ∧ Pv i H, ⟨_, rfl, Nat.zero_le _, h0⟩, ?_⟩
  rintro i m H ⟨rfl, hi, p⟩
  obtain ⟨qx, qy⟩ := hq i H p
  by_cases lt : i < min xs.length ys.length
  · refine .inr ⟨⟨qx, qy, by omega, by omega⟩, Pv (i + 1), fun G p' => ⟨min xs.length ys.length - (i + 1), by omega, rfl, by omega, p'⟩, fun v G yl => ?_⟩
    obtain ⟨T, x, y, rfl, hT, rfl, e1, e2⟩ := yl
    exact hs i x y T H e1 e2 p hT
  · have e : i = min xs.length ys.length := by omega
    subst e
    exact .inl ⟨⟨qx, qy, by omega, by omega, by omega⟩, hd H p⟩
/-- a written tuple -/
def WT (K : PySem.W.Frag) (a : Addr) (xs : List V) : Prop := ∃ (o : Obj) (its : Array Value) (n : Nat), K.lookup a = some o ∧ o.cls = .type "tuple" ∧ o.data = .seq its n ∧ its.size ≤ sizeLine ∧ Vals xs its.toList
theorem WT.sq {K : PySem.W.Frag} {a : Addr} {xs : List V} (h : WT K a xs) (H : Hp) : SqT K H a xs := .inr h
def bnds : Dd → List (Int × Int)
  | .put .. => [(0, 31), (0, 999), (0, 1000)]
  | .drop .. => [(0, 31)]
  | .add .. => [(0, 31), (-999, 999)]
  | .iff .. => [(0, 31), (0, 999)]
def BndAt (K : PySem.W.Frag) (b : Addr) (l : List (Int × Int)) : Prop := ∃ as : List Addr, WT K b (as.map V.ref) ∧ Paired (fun a p => WT K a [.int p.1, .int p.2]) as l
/-- what the top has beside names -/
structure Ex (P : Program) (w : World) (K : PySem.W.Frag) (mg : Str → Option Value) (A : Ad) (B C fI : Addr) : Prop where
  bounds : mg "BOUNDS" = some (.ref B)
  bd : ∃ es n, KDict K w B es n
  bn : ∀ d : Dd, ∃ b, PySem.W.nsIn K B d.word = some (some (.ref b)) ∧ BndAt K b (bnds d)
  actions : mg "ACTIONS" = some (.ref C)
  cd : ∃ es n, K.lookup C = some ⟨.type "dict", none, .dict es n, #[]⟩ ∧ PySem.W.KeysLit w.params es.toList
  cp : PySem.W.nsIn K C "put" = some (some (.ref (A.d 36)))
  cr : PySem.W.nsIn K C "drop" = some (some (.ref (A.d 37)))
  ca : PySem.W.nsIn K C "add" = some (some (.ref (A.d 38)))
  ci : PySem.W.nsIn K C "if" = some (some (.ref (A.d 39)))
  init : InitAt P K (A.c 3) fI "BadDeal.__init__" s_BadDeal___init__
  cls : ClsAt K mg (A.c 3) "place"
section
variable {P : Program} {w : World} {K : PySem.W.Frag} {mg : Str → Option Value} {base : Heap} {A : Ad} {B C fI : Addr}
abbrev Nscis_deed : List Str := ["deed", "word", "parts", "bounds", "part", "low", "high"]
theorem scis_deed : FnScope Nscis_deed ["deed"] (defScope s_is_deed) := ⟨rfl, rfl, rfl, by decide +kernel, rfl, by decide +kernel, by decide +kernel⟩
def spDeed : Sp := fun vs H Q _ => ∃ (v : V) (d : Dd), vs = [v] ∧ DdAt H v d ∧ ∀ G, Kp No H G → Q (.bl d.ok) G
theorem ok_is_deed (T : Txt K mg A) (X : Ex P w K mg A B C fI) : ∃ fd, FnOk P w K mg base CX0 2 (A.d 32) fd ["deed"] spDeed ∧ Binds K fd ["deed"] [] := by
  obtain ⟨fd, F⟩ := T.is_deed.fn
  obtain ⟨fdI, Gwithin, bwithin⟩ := ok_within (P := P) (w := w) (base := base) T
  obtain ⟨es, n, hB⟩ := X.bd
  refine ⟨fd, F.ok scis_deed (fun vs H Q E h => ?_) (fun cdv A outer s H vs Q E hr h => ?_), F.binds fun _ _ _ _ _ _ us hl => match us, hl with | [_], _ => rfl⟩
  · obtain ⟨v, d, rfl, _⟩ := h
    rfl
  · obtain ⟨v, d, rfl, ⟨a, rfl, ha⟩, k⟩ := h
    have hu := hu_of hr
    refine ⟨_, (pss_cons (ps_if (PW.pt (pw_or (pt_not (pt_val (pe_callB call_isi (by rfl) T.isinstance (by decide +kernel) (pa_cons (pv 0) (pa_cons (pe_bltn (v := .ty "tuple") (by rfl) T.tuple (by decide +kernel) rfl) pa_nil))))) (pw_or (pt_not (pt_truth (pv 0) (by intro _; rfl))) (pw_or1 (pt_cmpR (op_notIn_kd hB) (pe_ix ix_tup (pv 0) pe_int (fun _ _ => rfl)) (pe_glob (v := .ref B) rfl X.bounds rfl) rfl)))))
        (pss_one (ps_ret pe_bl))
        pss_nil)
      (pss_cons (ps_asg (pv 0) (pg_star (n := 1) rfl (pgs_cons (pg_name (i := 1) scis_deed.nd rfl (Or.inl rfl)) (pgs_star (pg_name (i := 2) scis_deed.nd rfl (Or.inl rfl))))))
      (pss_cons (ps_set (i := 3) scis_deed.nd rfl (Or.inl rfl) (pe_ix ix_kdict (pe_glob (v := .ref B) rfl X.bounds rfl) (pv 1) (fun _ _ => rfl)))
      (pss_cons (ps_if (pt_cmpR op_ne (pe_callB call_len_seq (by rfl) T.len PySem.boot_len (pa_cons (pv 2) pa_nil)) (pe_callB call_len_seq (by rfl) T.len PySem.boot_len (pa_cons (pv 3) pa_nil)) (nomark _))
        (pss_one (ps_ret pe_bl))
        pss_nil)
      (pss_cons (ps_if (PW.pt (pw_and (pt_cmpR op_eq (pv 1) pe_str (nomark _)) (pw_and1 (pt_cmp (pc_isN (pe_ix ix_list (pv 2) pe_int (fun _ _ => rfl)))))))
        (pss_one (ps_ret (pe_call Gwithin (hr.mono (by first | decide | omega)) rfl T.within.at_ T.within.kp bwithin .nil pass0 (pa_cons (pe_ix ix_list (pv 2) pe_int (fun _ _ => rfl)) (pa_cons pe_int (pa_cons (pe_glob (v := .int 31) rfl T.k_LAST_KEY.choose_spec ⟨_, rfl⟩) pa_nil))))))
        pss_nil)
      (pss_one (ps_ret (pe_callB (cr_all rfl) (by rfl) T.all (by decide +kernel) (pa_cons (pe_lc (own := [("part", 4), ("low", 5), ("high", 6)]) (g := (gTup K 2 (gCons (gName 4) (gCons (gTup K 2 (gCons (gName 5) (gCons (gName 6) gNil))) gNil)))) (by rfl) scis_deed.nd (pi_zipM (by rfl) T.zip (pa_cons (pv 2) (pa_cons (pv 3) pa_nil))) (blkOk_by (N := Nscis_deed) (sc := defScope s_is_deed) (by decide +kernel)) (fun _ _ _ _ _ => pg_tup rfl (pgs_cons (pg_name (i := 4) scis_deed.nd rfl (Or.inl rfl)) (pgs_cons (pg_tup rfl (pgs_cons (pg_name (i := 5) scis_deed.nd rfl (Or.inl rfl)) (pgs_cons (pg_name (i := 6) scis_deed.nd rfl (Or.inl rfl)) pgs_nil))) pgs_nil))) (fun _ _ _ _ _ => pts_nil) (fun _ _ _ _ _ => (pe_call Gwithin (hr.mono (by first | decide | omega)) rfl T.within.at_ T.within.kp bwithin .nil pass0 (pa_cons (pv 4) (pa_cons (pv 5) (pa_cons (pv 6) pa_nil)))))) pa_nil))))))))), ?_⟩
    obtain ⟨b, hb, as, wb, pb⟩ := X.bn d
    have kd : KDct K w B d.word (.ref b) := ⟨es, n, _, hB.at_, hB.lit, hb, rfl⟩
    have hlen : as.length = d.parts.length := by
      rw [pb.length]
      cases d <;> rfl
    refine ⟨_, rfl, .ref a, _, _, _, true, rfl, .ty "tuple", .base (.tup ha), by rfl, true, rfl, iteF ?_⟩
    refine ⟨_, rfl, true, .inr (.inl ⟨_, SqT.of ha, rfl⟩), iteF ?_⟩
    refine ⟨_, rfl, a, _, 0, .str d.word, rfl, rfl, SqT.of ha, atI_nat (j := 0) rfl, d.word, _, rfl, rfl, hb, _, rfl, iteF ?_⟩
    refine ⟨_, rfl, a, _, rfl, SqT.of ha, (by show 1 ≤ d.vs.length; simp [Dd.vs]), (by cases d <;> simp [Dd.vs, Dd.parts]), fun L hL => ?_⟩
    refine ⟨_, _, rfl, _, _, rfl, rfl, ?_⟩
    refine ⟨_, rfl, B, d.word, .ref b, rfl, rfl, kd, ?_⟩
    refine ⟨_, rfl, L, _, rfl, .inl (SqL.of upd_same), _, rfl, b, _, rfl, .inr (wb.sq _), rfl, _, rfl, ?_⟩
    have e1 : (!decide (V.int ((List.drop 1 d.vs).length : Nat) = V.int ((as.map V.ref).length : Nat))) = false := by
      rw [List.length_map, hlen]
      simp [Dd.vs]
    rw [e1]
    refine iteF ?_
    have dp : List.drop 1 d.vs = d.parts := rfl
    rw [dp]
    -- all([..])
    have main : ∀ (ns : List Int) (σ : L2.St), d.parts = ns.map V.int → d.ok = ((ns.zip (bnds d)).map fun p => inB p.2.1 p.2.2 p.1).all id → σ[2]? = some (some (.ref L)) → σ[3]? = some (some (.ref b)) → σ.length = 7 →
        tRet (tCB (rAll K) (tCons (tLc (iZipM K (tCons (tVar 2) (tCons (tVar 3) tNil))) (gTup K 2 (gCons (gName 4) (gCons (gTup K 2 (gCons (gName 5) (gCons (gName 6) gNil))) gNil))) tYes
          (tCall spWithin [] E0 (tCons (tVar 4) (tCons (tVar 5) (tCons (tVar 6) tNil)))) [4, 5, 6]) tNil)) { nx := fun _ G => Q .non G, rt := Q } σ (upd H L (.lst d.parts)) := by
      intro ns σ hp hok h2 h3 h7
      obtain ⟨s0, s1, s2, s3, s4, s5, s6, rfl⟩ : ∃ s0 s1 s2 s3 s4 s5 s6, σ = [s0, s1, s2, s3, s4, s5, s6] := by
        match σ, h7 with
        | [s0, s1, s2, s3, s4, s5, s6], _ => exact ⟨_, _, _, _, _, _, _, rfl⟩
      cases h2
      cases h3
      have lz : ns.length = (bnds d).length := by
        have := congrArg List.length hp
        rw [List.length_map] at this
        rw [← this, ← hlen, pb.length]
      have hL1 : upd H L (.lst d.parts) L = some (.lst (ns.map V.int)) := by rw [upd_same, hp]
      refine ⟨_, rfl, _, rfl, L, b, ns.map V.int, as.map V.ref, rfl, SqL.of hL1, .inr ⟨wb.sq _, fun D hD => lc_zipM (fun i G => Kp (fun c => c = D) (upd H L (.lst d.parts)) G ∧ G D = some (.lst ((((ns.zip (bnds d)).map fun p => inB p.2.1 p.2.2 p.1).map V.bl).take i))) ⟨Kp.new hD, upd_same⟩ (fun i G ⟨kp, _⟩ => ⟨SqL.of (kp.t.lst hL1 (ne_of_none hL1 hD)), wb.sq _⟩) ?_ ?_⟩⟩
      · intro i x y T G hx hy ⟨kp, hG⟩ hT
        rw [List.getElem?_map] at hx hy
        cases ex : ns[i]? with
        | none => rw [ex] at hx; cases hx
        | some n0 =>
          cases ey : as[i]? with
          | none => rw [ey] at hy; cases hy
          | some a0 =>
            rw [ex] at hx
            rw [ey] at hy
            cases hx
            cases hy
            obtain ⟨q, hq, wq⟩ := paired_at pb ey
            have hD2 := (upd_ne (o := .tup [V.int n0, V.ref a0]) (ne_of_none hG hT)).trans hG
            refine ⟨T, _, rfl, SqT.of upd_same, rfl, _, _, rfl, _, _, rfl, ⟨a0, _, rfl, wq.sq _, rfl, _, _, rfl, _, _, rfl, rfl, rfl, rfl, ?_⟩⟩
            have hb2 : ((ns.zip (bnds d)).map fun p => inB p.2.1 p.2.2 p.1)[i]? = some (inB q.1 q.2 n0) := by
              rw [List.getElem?_map, List.getElem?_zip_eq_some (z := (n0, q)) |>.mpr ⟨ex, hq⟩]
              rfl
            refine ⟨_, rfl, _, rfl, _, rfl, .int n0, q.1, q.2, rfl, .inl ⟨n0, rfl, _, hD2, szL (by have : (bnds d).length ≤ 3 := (by cases d <;> simp [bnds]); simp only [List.length_take, List.length_map, List.length_zip]; omega), ?_⟩⟩
            refine ⟨(kp.andN hT).andL hD2 rfl, ?_⟩
            · rw [upd_same, take_snoc (x := V.bl (inB q.1 q.2 n0)) (by rw [List.getElem?_map, hb2]; rfl)]
      · intro G ⟨kp, hG⟩
        refine ⟨D, (ns.zip (bnds d)).map fun p => inB p.2.1 p.2.2 p.1, rfl, SqL.of ?_, ?_⟩
        · rw [hG, List.take_of_length_le (by simp only [List.length_map, List.length_zip]; rw [pb.length]; omega)]
        · rw [← hok]
          exact k G ((Kp.new hL).trans (kp_fresh (F' := No) kp fun c z => by rw [z]; exact hD) fun _ z => False.elim z)
    refine ⟨_, rfl, rfl, _, rfl, ?_⟩
    cases d with
    | put j wt l => exact iteF (iteF (main [j, wt, l] _ rfl (by simp [Dd.ok, bnds, inB]) rfl rfl rfl))
    | drop j => exact iteF (iteF (main [j] _ rfl (by simp [Dd.ok, bnds, inB]) rfl rfl rfl))
    | add j x => exact iteF (iteF (main [j, x] _ rfl (by simp [Dd.ok, bnds, inB]) rfl rfl rfl))
    | iff j x =>
      refine iteT ⟨_, rfl, L, _, 1, oV x, rfl, rfl, SqL.of upd_same, atI_nat (j := 1) rfl, _, rfl, ?_⟩
      cases x with
      | none =>
        refine iteT ⟨_, rfl, L, _, 0, .int j, rfl, rfl, SqL.of upd_same, atI_nat (j := 0) rfl, _, 0, 31, rfl, .inl ⟨j, rfl, ?_⟩⟩
        exact k _ (Kp.new hL)
      | some x => exact iteF (main [j, x] _ rfl (by simp [Dd.ok, bnds, inB]) rfl rfl rfl)
end
end S02

set_option Elab.async false
set_option linter.all false
set_option maxRecDepth 100000
set_option maxHeartbeats 1000000
namespace S02
open PySem PySem.Spec PyProof.Rows L2 K5 SupX
/-- the layer of defs that may raise: the exception's context is None -/
theorem okN {P : Program} {w : World} {K : PySem.W.Frag} {mg : Str → Option Value} {base : Heap} {x qual : Str} {st : Stmt} {f : Addr} {fd : FuncData} {N ps : List Str} {k : Nat} {sp : Sp} (F : Fun K x qual st f fd)
    (S : FnScope N ps (defScope st)) (len : ∀ vs H Q E, sp vs H Q E → vs.length = ps.length)
    (body : ∀ (cdv : Value) (A : Around) (outer : List Env) (s : Shared) (H : Hp) (vs : List V) (Q : VK) (E : XK), Room k (A.deeper (envOfC qual (defScope st) s.heap.objs.size f cdv)) → sp vs H Q E →
      ∃ t, PSs (cxOf (L2N.CX P w) P w K mg base N qual (defScope st) f cdv A outer s H E) (defBody st) t ∧ t { nx := fun _ G => Q .non G, rt := Q } (L2.start N vs) H) :
    FnOk P w K mg base (L2N.CX P w) (k + 1) f fd ps sp := by
  obtain ⟨oc, od, kV, doc, pm, an, cdv, ct, osl, rfl, lk, hcd⟩ := F.ex
  exact fn_of lk hcd S len fun A outer s H vs Q E hr hsp => body cdv A outer s H vs Q E hr hsp
theorem str_len (a b : Str) : (a ++ b).length = a.length + b.length := by
  show (a.cps ++ b.cps).size = _
  rw [Array.size_append]
  rfl
/-- how a refusal leaves -/
def ErX (A : Ad) (E : XK) (H : Hp) : Er → Prop
  | .hand => E (.ref (A.c 4)) none H
  | .key => E (.ref (A.c 7)) none H
  | .entry => E (.ref (A.c 9999)) none H
  | .deal p => ∀ d, H d = none → E (.ref (A.c 3)) (some d) (upd H d (.xd [("place", .int (p : Nat))]))
section
variable {P : Program} {w : World} {K : PySem.W.Frag} {mg : Str → Option Value} {base : Heap} {A : Ad} {B C fI : Addr}
theorem sccheck_hand : FnScope ["hand"] ["hand"] (defScope s_check_hand) := ⟨rfl, rfl, rfl, by decide +kernel, rfl, by decide +kernel, by decide +kernel⟩
def spCk (A : Ad) (hi : Int) (r : Er) : Sp := fun vs H Q E => ∃ n : Int, vs = [.int n] ∧ (inB 0 hi n = true → Q .non H) ∧ (inB 0 hi n = false → ErX A E H r)
theorem ok_check_hand (T : Txt K mg A) : ∃ fd, FnOk P w K mg base (L2N.CX P w) 2 (A.d 30) fd ["hand"] (spCk A 3 .hand) ∧ Binds K fd ["hand"] [] := by
  obtain ⟨fd, F⟩ := T.check_hand.fn
  obtain ⟨fdW, Gwithin, bwithin⟩ := ok_within (P := P) (w := w) (base := base) T
  refine ⟨fd, okN F sccheck_hand (fun vs H Q E h => ?_) (fun cdv Ar outer s H vs Q E hr h => ?_), F.binds fun _ _ _ _ _ _ us hl => match us, hl with | [_], _ => rfl⟩
  · obtain ⟨n, rfl, _⟩ := h
    rfl
  · obtain ⟨n, rfl, k1, k2⟩ := h
    refine ⟨_, (pss_one (ps_if (pt_not (pt_val (pe_call Gwithin (hr.mono (by first | decide | omega)) rfl T.within.at_ T.within.kp bwithin .nil pass0 (pa_cons (pv 0) (pa_cons pe_int (pa_cons (pe_glob (v := .int 3) rfl T.k_LAST_HAND.choose_spec ⟨_, rfl⟩) pa_nil))))))
        (pss_one (L2N.ps_raise rfl (L2N.takes_of rfl rfl rfl rfl) (L2N.pmk_own PySem.F.excBase_ValueError T.x_BadHand.ex T.x_BadHand.at_ T.x_BadHand.kp (raises_own T.x_BadHand.sb T.x_BadHand.ty) rfl)))
        pss_nil)), ?_⟩
    refine ⟨_, rfl, .int n, 0, 3, rfl, .inl ⟨n, rfl, _, rfl, ?_⟩⟩
    cases h : inB 0 3 n with
    | true => exact iteF (k1 h)
    | false => exact iteT (k2 h)
theorem sccheck_key : FnScope ["key"] ["key"] (defScope s_check_key) := ⟨rfl, rfl, rfl, by decide +kernel, rfl, by decide +kernel, by decide +kernel⟩
theorem ok_check_key (T : Txt K mg A) : ∃ fd, FnOk P w K mg base (L2N.CX P w) 2 (A.d 31) fd ["key"] (spCk A 31 .key) ∧ Binds K fd ["key"] [] := by
  obtain ⟨fd, F⟩ := T.check_key.fn
  obtain ⟨fdW, Gwithin, bwithin⟩ := ok_within (P := P) (w := w) (base := base) T
  refine ⟨fd, okN F sccheck_key (fun vs H Q E h => ?_) (fun cdv Ar outer s H vs Q E hr h => ?_), F.binds fun _ _ _ _ _ _ us hl => match us, hl with | [_], _ => rfl⟩
  · obtain ⟨n, rfl, _⟩ := h
    rfl
  · obtain ⟨n, rfl, k1, k2⟩ := h
    refine ⟨_, (pss_one (ps_if (pt_not (pt_val (pe_call Gwithin (hr.mono (by first | decide | omega)) rfl T.within.at_ T.within.kp bwithin .nil pass0 (pa_cons (pv 0) (pa_cons pe_int (pa_cons (pe_glob (v := .int 31) rfl T.k_LAST_KEY.choose_spec ⟨_, rfl⟩) pa_nil))))))
        (pss_one (L2N.ps_raise rfl (L2N.takes_of rfl rfl rfl rfl) (L2N.pmk_own PySem.F.excBase_ValueError T.x_BadKey.ex T.x_BadKey.at_ T.x_BadKey.kp (raises_own T.x_BadKey.sb T.x_BadKey.ty) rfl)))
        pss_nil)), ?_⟩
    refine ⟨_, rfl, .int n, 0, 31, rfl, .inl ⟨n, rfl, _, rfl, ?_⟩⟩
    cases h : inB 0 31 n with
    | true => exact iteF (k1 h)
    | false => exact iteT (k2 h)
/-! ### BadDeal's own __init__ -/
theorem sco_init : Sco "place" (defScope s_BadDeal___init__) := ⟨rfl, rfl, rfl, by decide +kernel, by decide +kernel, by decide +kernel, by decide +kernel, by decide +kernel, by decide +kernel⟩
theorem ok_init16 (T : Txt K mg A) (X : Ex P w K mg A B C fI) (htop : (P.main.scope.names.lookup ("super" : Str)).isSome = false) : ∃ fd, FnOk P w K mg base CX0 1 fI fd [("self" : Str), "place"] (spI (A.c 3) "place") ∧ Binds K fd [("self" : Str), "place"] [] := by
  refine ok_init X.init X.cls sco_init ⟨_, rfl, rfl⟩ rfl (fun Y hN hS => ?_) (fun env => ⟨_, rfl⟩) htop (by decide) (by decide) (fun kV doc pm an cl cdv ct us hl => ?_)
  · refine ⟨fun pins s σ H Q I ⟨v, h1, h2, h3⟩ => ?_⟩
    refine (pe_joined (.cons pe_str (.cons (pe_fmt (pe_var (i := 1) (x := "place") (by rw [hN]; rfl) (by rw [hS]; exact .inl (by decide +kernel)))) (.cons pe_str .nil)))).run pins s σ H Q I ?_
    obtain ⟨h2, h4⟩ := h2
    refine ⟨_, rfl, (by decide +kernel), _, h1, .inr ⟨v, rfl, h2, _, rfl, ?_, _, rfl, ?_, h3 _⟩⟩
    · rw [str_len]
      have : (Str.empty ++ ("no deal: its deed at " : Str)).length ≤ 100 := by decide +kernel
      exact sz _ (by omega)
    · rw [str_len, str_len]
      have : (Str.empty ++ ("no deal: its deed at " : Str)).length ≤ 100 := by decide +kernel
      have : (" is none" : Str).length ≤ 100 := by decide +kernel
      exact sz _ (by omega)
  · match us, hl with
    | [_, _], _ => rfl
theorem sm_small : ∀ p : Nat, p ≤ 4 → Sm (p : Int)
  | 0, _ => ⟨by decide, by decide +kernel⟩
  | 1, _ => ⟨by decide, by decide +kernel⟩
  | 2, _ => ⟨by decide, by decide +kernel⟩
  | 3, _ => ⟨by decide, by decide +kernel⟩
  | 4, _ => ⟨by decide, by decide +kernel⟩
  | n + 5, h => absurd h (by omega)
theorem badFrom_le {p : Nat} : ∀ {ds : List Dd} {i : Nat}, i ≤ 4 → badFrom i ds = some p → p ≤ 4
  | [], _, _, h => by cases h
  | d :: ds, i, hi, h => by
    unfold badFrom at h
    split at h
    · cases h
      exact hi
    · rename_i q
      exact badFrom_le (by omega) h
/-! ### check_deal -/
theorem sccheck_deal : FnScope ["deeds", "place", "deed"] ["deeds"] (defScope s_check_deal) := ⟨rfl, rfl, rfl, by decide +kernel, rfl, by decide +kernel, by decide +kernel⟩
def spCD (A : Ad) : Sp := fun vs H Q E => ∃ (v : V) (ds : List Dd), vs = [v] ∧ DsAt H v ds ∧ ∀ G, Kp No H G → (dealBad ds = none → Q .non G) ∧ ∀ p, dealBad ds = some p → ErX A E G (.deal p)
theorem ok_check_deal (T : Txt K mg A) (X : Ex P w K mg A B C fI) (htop : (P.main.scope.names.lookup ("super" : Str)).isSome = false) : ∃ fd, FnOk P w K mg base (L2N.CX P w) 3 (A.d 33) fd ["deeds"] (spCD A) ∧ Binds K fd ["deeds"] [] := by
  obtain ⟨fd, F⟩ := T.check_deal.fn
  obtain ⟨fdD, Gis_deed, bis_deed⟩ := ok_is_deed (P := P) (w := w) (base := base) T X
  obtain ⟨fdB, GB, bB⟩ := ok_init16 (P := P) (w := w) (base := base) T X htop
  refine ⟨fd, okN F sccheck_deal (fun vs H Q E h => ?_) (fun cdv Ar outer s H vs Q E hr h => ?_), F.binds fun _ _ _ _ _ _ us hl => match us, hl with | [_], _ => rfl⟩
  · obtain ⟨v, ds, rfl, _⟩ := h
    rfl
  · obtain ⟨v, ds, rfl, ⟨a, xs, rfl, ha, pa, hl⟩, k⟩ := h
    have hu := hu_of hr
    have tk : L2N.Takes (cxOf (L2N.CX P w) P w K mg base ["deeds", "place", "deed"] "check_deal" (defScope s_check_deal) (A.d 33) cdv Ar outer s H E) (fun cls d _ G => E cls d G) := L2N.takes_of rfl rfl rfl rfl
    refine ⟨_, (pss_cons (ps_if (pt_not (pt_truth (pv 0) (by intro _; rfl)))
        (pss_one (L2N.ps_raise rfl tk (pmk_sup X.cls X.init GB bB (hr.mono (by first | decide | omega)) rfl T.c_BadDeal pe_int)))
        pss_nil)
      (pss_one (ps_for PassesOwn.leaving rfl (pi_enT (by rfl) T.enumerate (pa_cons (pv 0) pa_nil)) (pg_tup rfl (pgs_cons (pg_name (i := 1) sccheck_deal.nd rfl (Or.inl rfl)) (pgs_cons (pg_name (i := 2) sccheck_deal.nd rfl (Or.inl rfl)) pgs_nil)))
        (pss_one (ps_if (PW.pt (pw_or (pt_cmpR op_eq (pv 1) (pe_glob (v := .int 4) rfl T.k_MOST_DEEDS.choose_spec ⟨_, rfl⟩) (nomark _)) (pw_or1 (pt_not (pt_val (pe_call Gis_deed (hr.mono (by first | decide | omega)) rfl T.is_deed.at_ T.is_deed.kp bis_deed .nil pass0 (pa_cons (pv 2) pa_nil)))))))
          (pss_one (L2N.ps_raise rfl tk (pmk_sup X.cls X.init GB bB (hr.mono (by first | decide | omega)) rfl T.c_BadDeal (pv 1))))
          pss_nil))))), ?_⟩
    have lx := pa.length
    refine ⟨_, rfl, !xs.isEmpty, .inr (.inl ⟨_, SqT.of ha, rfl⟩), ?_⟩
    cases ds with
    | nil =>
      cases pa
      refine iteT ⟨0, rfl, sm_small 0 (by omega), fun d hd => ?_⟩
      exact (k H (Kp.refl _ _)).2 0 rfl d hd
    | cons d0 ds0 =>
      cases xs with
      | nil => cases pa
      | cons x0 xs0 =>
      refine iteF ?_
      generalize hds : d0 :: ds0 = ds at *
      generalize hxs : x0 :: xs0 = xs at *
      have hb0 : dealBad ds = badFrom 0 ds := if_neg (by rw [← hds]; simp)
      rw [hb0] at k
      refine ⟨_, rfl, a, xs, rfl, .inr ⟨SqT.of ha, for_enT (fun i σ G => Kp No H G ∧ (∃ o1 o2, σ = [some (.ref a), o1, o2]) ∧ badFrom 0 ds = badFrom i (ds.drop i) ∧ i ≤ 4) ⟨Kp.refl _ _, ⟨none, none, rfl⟩, by rw [List.drop_zero], by omega⟩ (fun i σ G ⟨kp, _⟩ => SqT.of (kp.t.tup ha)) ?_ ?_⟩⟩
      · rintro i y U σ G hy ⟨kp, ⟨o1, o2, rfl⟩, hbd, h4⟩ hU
        obtain ⟨d, hd, dd⟩ := paired_at pa hy
        have dr : ds.drop i = d :: ds.drop (i + 1) := by
          obtain ⟨h1, h2⟩ := List.getElem?_eq_some_iff.mp hd
          rw [List.drop_eq_getElem_cons h1, h2]
        rw [dr] at hbd
        have kU : Kp No H (upd G U (.tup [.int (i : Nat), y])) := kp.andN hU
        have bad : (i = 4 ∨ d.ok = false) → badFrom 0 ds = some i := fun z => by rw [hbd]; unfold badFrom; rw [if_pos z]
        have raise : ∀ G2, Kp No H G2 → (i = 4 ∨ d.ok = false) → tMkS (A.c 3) "place" (tVar 1) [some (.ref a), some (.int (i : Nat)), some y] G2 (fun cls d H' => E cls d H') := fun G2 k2 z => ⟨_, rfl, i, rfl, sm_small i h4, fun e he => (k G2 k2).2 i (bad z) e he⟩
        refine ⟨U, _, rfl, SqT.of upd_same, rfl, _, _, rfl, _, _, rfl, rfl, ?_⟩
        refine ⟨_, rfl, rfl, _, rfl, ?_⟩
        by_cases e4 : i = 4
        · have : decide (V.int ((i : Nat) : Int) = V.int 4) = true := by rw [e4]; rfl
          rw [this]
          exact iteT (iteT (raise _ kU (.inl e4)))
        · have : decide (V.int ((i : Nat) : Int) = V.int 4) = false := by simp; omega
          rw [this]
          refine iteF ⟨_, rfl, y, d, rfl, dd.kt kU.t, fun G2 k2 => ⟨_, rfl, ?_⟩⟩
          have kp2 : Kp No H G2 := kU.trans k2 fun _ z => False.elim z
          cases hk : d.ok with
          | false => exact iteT (raise _ kp2 (.inr hk))
          | true =>
            refine iteF ⟨kp2, ⟨_, _, rfl⟩, ?_, by omega⟩
            rw [hbd]
            show badFrom i (d :: ds.drop (i + 1)) = _
            rw [badFrom, if_neg (by rw [hk]; simp [e4])]
      · rintro σ G ⟨kp, _, hbd, _⟩
        refine (k G kp).1 ?_
        rw [hbd, List.drop_of_length_le (by omega)]
        rfl
end
end S02

set_option Elab.async false
set_option linter.all false
set_option maxRecDepth 100000
set_option maxHeartbeats 1000000
namespace S02
open PySem PySem.Spec PyProof.Rows L2 K5 SupX
/-- a call of a local name that holds a def: the promise goes with the reading -/
def tCallHd (P : Program) (w : World) (K : PySem.W.Frag) (mg : Str → Option Value) (base : Heap) (k i : Nat) (t : TA) : TE := fun σ H Q => ∃ f sp, σ[i]? = some (some (.ref f)) ∧ Held P w K mg base k f sp ∧ t σ H fun vs H1 => sp vs H1 Q (fun _ _ _ => False)
theorem pe_callHd {X : Cx} {k i : Nat} {x : Str} {p pos : Pos} {e : Expr} {es : List Expr} {t : TA} (hr : Room k X.A) (hN : X.N[i]? = some x) (hv : Vis X.env.scope x) (ha : PA X (e :: es) t)
    (hdb : (x == ("__debug__" : Str)) = false := by decide) (hcd : (x == ("__classdict__" : Str)) = false := by decide)
    (he : starEach (e :: es) X.env = (false, eval e X.env) :: starEach es X.env := by rfl) (hpl : (backTo pos (starEach es X.env)).any (·.1) = false := by rfl) : PE X (.Call (.Name x p) (e :: es) [] pos) (tCallHd X.prog X.w X.K X.mg X.base k i t) := by
  refine ⟨fun pins s σ H Q I ⟨f, sp, hs, hh, ht⟩ => ?_⟩
  obtain ⟨fd, ps, F, hk, hb⟩ := hh.ex
  refine (pe_callL (i := i) (f := f) (sp := sp) (dvs := []) (E := fun _ _ _ => False) F hr hN hv hk hb .nil (fun _ _ _ _ _ _ _ z => z.elim) ha hdb hcd he hpl).run pins s σ H Q I ⟨hs, ?_⟩
  have e0 : (fun (vs : List V) (H1 : Hp) => sp (vs ++ []) H1 Q (fun _ _ _ => False)) = fun vs H1 => sp vs H1 Q (fun _ _ _ => False) := funext fun vs => funext fun H1 => by rw [List.append_nil]
  show t σ H (fun vs H1 => sp (vs ++ []) H1 Q (fun _ _ _ => False))
  rw [e0]
  exact ht
theorem steps_app {m : Int} {g : Rw} : ∀ {ds es : List Dd} {f : Rw}, steps m f ds = some g → steps m f (ds ++ es) = steps m g es
  | [], _, _, h => by
    cases h
    rfl
  | d :: ds, es, f, h => by
    unfold steps at h
    simp only [List.cons_append, steps]
    cases q : step m f d with
    | none => rw [q] at h; cases h
    | some f2 =>
      rw [q] at h
      exact steps_app h
section
variable {P : Program} {w : World} {K : PySem.W.Frag} {mg : Str → Option Value} {base : Heap} {A : Ad} {B C fI : Addr}
theorem act_held (T : Txt K mg A) (X : Ex P w K mg A B C fI) (d : Dd) : ∃ f, PySem.W.nsIn K C d.word = some (some (.ref f)) ∧ Held P w K mg base 3 f (spAct d.word) := by
  have to : ∀ {f : Addr} {fd : FuncData} {wd : Str}, FnOk P w K mg base CX0 3 f fd ["rows", "parts", "moment"] (spAct wd) → PySem.W.keepIn K (.ref f) = true → L2.Binds K fd ["rows", "parts", "moment"] [] → Held P w K mg base 3 f (spAct wd) := fun F k b => ⟨_, _, F, k, b⟩
  cases d with
  | put =>
    obtain ⟨fd, G, b⟩ := ok_put_row (P := P) (w := w) (base := base) T
    exact ⟨_, X.cp, to G T.put_row.kp b⟩
  | drop =>
    obtain ⟨fd, G, b⟩ := ok_drop_row (P := P) (w := w) (base := base) T
    exact ⟨_, X.cr, to G T.drop_row.kp b⟩
  | add =>
    obtain ⟨fd, G, b⟩ := ok_add_to_row (P := P) (w := w) (base := base) T
    exact ⟨_, X.ca, to G T.add_to_row.kp b⟩
  | iff =>
    obtain ⟨fd, G, b⟩ := ok_does_show (P := P) (w := w) (base := base) T
    exact ⟨_, X.ci, to G T.does_show.kp b⟩
theorem scrows_behind : FnScope ["rows", "deeds", "moment", "behind", "word", "parts", "action"] ["rows", "deeds", "moment"] (defScope s_rows_behind) := ⟨rfl, rfl, rfl, by decide +kernel, rfl, by decide +kernel, by decide +kernel⟩
def spRB : Sp := fun vs H Q _ => ∃ (a : Addr) (v : V) (m : Int) (f : Rw) (n : Nat) (ds : List Dd), vs = [.ref a, v, .int m] ∧ RwAt H a f n ∧ DsAt H v ds ∧ n + ds.length ≤ 15000 ∧
  ∀ G, Kp No H G → (steps m f ds = none → Q .non G) ∧ (∀ g b, steps m f ds = some g → H b = none → RwAt G b g (n + ds.length) → Q (.ref b) G)
theorem ok_rows_behind (T : Txt K mg A) (X : Ex P w K mg A B C fI) : ∃ fd, FnOk P w K mg base CX0 4 (A.d 41) fd ["rows", "deeds", "moment"] spRB ∧ Binds K fd ["rows", "deeds", "moment"] [] := by
  obtain ⟨fd, F⟩ := T.rows_behind.fn
  obtain ⟨es, en, hC, hlit⟩ := X.cd
  refine ⟨fd, F.ok scrows_behind (fun vs H Q E h => ?_) (fun cdv Ar outer s H vs Q E hr h => ?_), F.binds fun _ _ _ _ _ _ us hl => match us, hl with | [_, _, _], _ => rfl⟩
  · obtain ⟨a, v, m, f, n, ds, rfl, _⟩ := h
    rfl
  · obtain ⟨a, v, m, f, n, ds, rfl, R, ⟨u, xs, rfl, hu2, pa, hl⟩, hn, k⟩ := h
    have hu := hu_of hr
    refine ⟨_, (pss_cons (ps_set (i := 3) scrows_behind.nd rfl (Or.inl rfl) (pe_callTy call_dictD (by rfl) T.dict (by decide +kernel) (pa_cons (pv 0) pa_nil)))
      (pss_cons (ps_for PassesOwn.never rfl (pi_tup (pv 1)) (pg_star (n := 1) rfl (pgs_cons (pg_name (i := 4) scrows_behind.nd rfl (Or.inl rfl)) (pgs_star (pg_name (i := 5) scrows_behind.nd rfl (Or.inl rfl)))))
        (pss_cons (ps_set (i := 6) scrows_behind.nd rfl (Or.inl rfl) (pe_ix ix_kdict (pe_glob (v := .ref C) rfl X.actions rfl) (pv 4) (fun _ _ => rfl)))
        (pss_one (ps_if (pt_not (pt_val (pe_callHd (i := 6) (k := 3) (hr.mono (by first | decide | omega)) rfl (.inl rfl) (pa_cons (pv 3) (pa_cons (pv 5) (pa_cons (pv 2) pa_nil))))))
          (pss_one (ps_ret pe_non))
          pss_nil))))
      (pss_one (ps_ret (pv 3))))), ?_⟩
    obtain ⟨kvs, hd, hkl, hf⟩ := R
    refine ⟨_, rfl, a, kvs, rfl, .inl hd, fun b nb => ?_⟩
    have kb : Kp No H (upd H b (.dK kvs)) := Kp.new nb
    have R0 : RwAt (upd H b (.dK kvs)) b f n := ⟨kvs, upd_same, hkl, fun j => by
      have := hf j
      cases e : f j with
      | none => rw [e] at this; exact this
      | some p =>
        obtain ⟨w1, e1⟩ := p
        rw [e] at this
        obtain ⟨t, h1, h2⟩ := this
        exact ⟨t, h1, kb.t.tup h2⟩⟩
    refine ⟨_, rfl, u, rfl, ⟨_, SqT.of (kb.t.tup hu2)⟩, for_tup (K := K) (a := u) (xs := xs) (fun i σ G => Kp No H G ∧ (∃ o1 o2 o3, σ = [some (.ref a), some (.ref u), some (.int m), some (.ref b), o1, o2, o3]) ∧ ∃ g, steps m f (ds.take i) = some g ∧ RwAt G b g (n + i)) ⟨kb, ⟨none, none, none, rfl⟩, f, rfl, R0⟩ (fun i σ G _ ⟨kp, _⟩ => SqT.of (kp.t.tup hu2)) ?_ ?_⟩
    · rintro i x σ G hx ⟨kp, ⟨o1, o2, o3, rfl⟩, g, hg, Rg⟩
      obtain ⟨d, hd, t, rfl, ht⟩ := paired_at pa hx
      have hil : i < ds.length := (List.getElem?_eq_some_iff.mp hd).1
      have sp1 : ds = ds.take i ++ d :: ds.drop (i + 1) := by
        obtain ⟨h1, h2⟩ := List.getElem?_eq_some_iff.mp hd
        conv => lhs; rw [← List.take_append_drop i ds]
        rw [List.drop_eq_getElem_cons h1, h2]
      obtain ⟨f1, hf1, hh⟩ := act_held (P := P) (base := base) T X d
      refine ⟨t, _, rfl, SqT.of (kp.t.tup ht), (by show 1 ≤ d.vs.length; simp [Dd.vs]), (by cases d <;> simp [Dd.vs, Dd.parts]), fun L hL => ?_⟩
      refine ⟨_, _, rfl, _, _, rfl, rfl, ?_⟩
      refine ⟨_, rfl, C, d.word, .ref f1, rfl, rfl, ⟨es, en, _, hC, hlit, hf1, rfl⟩, ?_⟩
      have kL : Kp No H (upd G L (.lst d.parts)) := kp.andN hL
      refine ⟨f1, spAct d.word, rfl, hh, _, rfl, _, rfl, _, rfl, b, L, m, g, n + i, d, rfl, rfl, Rg.kt (Kp.new (F := No) hL).t (fun z => z), by omega, upd_same, fun G2 k2 => ⟨fun s0 => ?_, fun g2 s2 R2 => ?_⟩⟩
      · refine ⟨_, rfl, iteT ?_⟩
        refine (k G2 (kL.trans (F' := fun c => c = b) k2 fun c z => .inr (by rw [z]; exact nb))).1 ?_
        rw [sp1, steps_app hg]
        simp only [steps, s0]
      · refine ⟨_, rfl, iteF ⟨kL.trans (F' := fun c => c = b) k2 fun c z => .inr (by rw [z]; exact nb), ⟨_, _, _, rfl⟩, g2, ?_, R2⟩⟩
        rw [take_snoc hd, steps_app hg]
        simp only [steps, s2]
    · rintro σ G ⟨kp, ⟨o1, o2, o3, rfl⟩, g, hg, Rg⟩
      rw [pa.length, List.take_length] at hg
      rw [pa.length] at Rg
      exact ⟨_, rfl, (k G kp).2 g b hg nb Rg⟩
end
end S02

set_option Elab.async false
set_option linter.all false
set_option maxRecDepth 100000
set_option maxHeartbeats 4000000
/-! ### deals written as text -/
namespace S02
open PySem PySem.Spec PyProof.Rows L2 K5 SupX GenX TL
section
variable {P : Program} {w : World} {K : PySem.W.Frag} {mg : Str → Option Value} {base : Heap} {A : Ad} {tp : Nat → Addr} {nr pl B C fI : Addr}
theorem call_strB {X : Cx} : CallR X (.type "str") (fun xs H Q => (∃ i, xs = [.int i] ∧ i.natAbs.log2 < 1920 ∧ Q (.str (nS i)) H) ∨ ∃ a, xs = [.str a] ∧ Q (.str a) H) := fun pins s σ H xs us Q I r h =>
  h.elim (call_str_int pins s σ H xs us Q I r) (SkE.call_str_str pins s σ H xs us Q I r)
theorem small_log {i : Int} (h : -100000 < i) (h2 : i < 100000) : i.natAbs.log2 < 1920 := by
  by_cases z : i.natAbs = 0
  · rw [z]; decide
  · exact Nat.lt_of_lt_of_le ((Nat.log2_lt z).mpr (by omega : i.natAbs < 2 ^ 17)) (by decide)
theorem sum_len {m : Nat} : ∀ {ys : List Str}, (∀ y ∈ ys, (tl y).length ≤ m) → (ys.map (·.length)).sum ≤ ys.length * m
  | [], _ => Nat.zero_le _
  | y :: ys, h => by
    have h1 := h y List.mem_cons_self
    have h2 := sum_len (ys := ys) fun z hz => h z (List.mem_cons_of_mem _ hz)
    rw [← len_tl] at h1
    show y.length + (ys.map (·.length)).sum ≤ (ys.length + 1) * m
    rw [Nat.succ_mul]
    omega
abbrev Nscwritten_deed : List Str := ["deed", "part"]
theorem scwritten_deed : FnScope Nscwritten_deed ["deed"] (defScope s_written_deed) := ⟨rfl, rfl, rfl, by decide +kernel, rfl, by decide +kernel, by decide +kernel⟩
def spWd : Sp := fun vs H Q _ => ∃ (v : V) (d : Dd), vs = [v] ∧ DdAt H v d ∧ d.ok = true ∧ ∀ G, Kp No H G → Q (.str (deedS d)) G
theorem ok_wd (T : Txt K mg A) : ∃ fd, FnOk P w K mg base CX0 1 (A.d 46) fd ["deed"] spWd ∧ Binds K fd ["deed"] [] := by
  obtain ⟨fd, F⟩ := T.written_deed.fn
  refine ⟨fd, F.ok scwritten_deed (fun vs H Q E h => ?_) (fun cdv Ar outer s0 H vs Q E hr h => ?_), F.binds fun _ _ _ _ _ _ us hl => match us, hl with | [_], _ => rfl⟩
  · obtain ⟨v, d, rfl, _⟩ := h
    rfl
  · obtain ⟨v, d, rfl, hv, hok, k⟩ := h
    have hu := hu_of hr
    refine ⟨_, (pss_one (ps_ret (pe_join pe_str (pe_lc (own := [("part", 1)]) (g := (gName 1)) (by rfl) scwritten_deed.nd (pi_tup (pv 0)) (blkOk_by (N := Nscwritten_deed) (sc := defScope s_written_deed) (by decide +kernel)) (fun _ _ _ _ _ => pg_name (i := 1) scwritten_deed.nd rfl (Or.inl rfl)) (fun _ _ _ _ _ => pts_nil) (fun _ _ _ _ _ => (pe_ifExp (pt_cmp (pc_isN (pv 1))) pe_str (pe_callTy call_strB (by rfl) T.str (by decide +kernel) (pa_cons (pv 1) pa_nil)))))))), ?_⟩
    obtain ⟨a, rfl, e⟩ := hv
    refine ⟨⟨_, rfl⟩, _, rfl, a, rfl, ⟨_, SqT.of e⟩, fun D nD => ?_⟩
    have eD : ∀ {F : Addr → Prop} {J : Hp}, Kp (fun b => b = D) H J → J a = some (.tup d.vs) := fun k => k.t.tup e
    refine lc_tup (K := K) (a := a) (xs := d.vs) (fun i J => Kp (fun b => b = D) H J ∧ J D = some (.lst (((d.vs.take i).map pS).map V.str))) ⟨Kp.new nD, upd_same⟩ (fun i J _ ⟨kJ, _⟩ => SqT.of (kJ.t.tup e)) ?_ ?_
    · rintro i x J hx ⟨kJ, eJ⟩
      have hm := List.mem_of_getElem? hx
      have hl : i < 4 := Nat.lt_of_lt_of_le (List.getElem?_eq_some_iff.mp hx).1 (vs_len d)
      have fin : ∀ {y : V}, y = .str (pS x) → ∃ acc, J D = some (.lst acc) ∧ acc.length < sizeLine ∧ Kp (fun b => b = D) H (upd J D (.lst (acc ++ [y]))) ∧ (upd J D (.lst (acc ++ [y]))) D = some (.lst (((d.vs.take (i + 1)).map pS).map V.str)) := fun {y} hy => by
        subst hy
        refine ⟨_, eJ, szL (by rw [List.length_map, List.length_map, List.length_take]; omega), kJ.trans (show Kp (fun b => b = D) J _ from Kp.updL eJ rfl) fun b z => .inl z, ?_⟩
        rw [upd_same, take_snoc hx, List.map_append, List.map_append]
        rfl
      have np : ∀ i : Int, x = .int i → x ≠ .non := fun i e z => by rw [z] at e; cases e
      refine ⟨rfl, _, rfl, ?_⟩
      rcases List.mem_cons.mp hm with rfl | hp
      · exact ⟨_, rfl, iteF ⟨_, rfl, .inr ⟨_, rfl, fin rfl⟩⟩⟩
      · rcases parts_small hok x hp with ⟨n, rfl, n1, n2⟩ | rfl
        · exact ⟨_, rfl, iteF ⟨_, rfl, .inl ⟨n, rfl, small_log (by omega) (by omega), fin rfl⟩⟩⟩
        · exact ⟨_, rfl, iteT (fin rfl)⟩
    · rintro J ⟨kJ, eJ⟩
      rw [List.take_length] at eJ
      refine ⟨" ", D, d.vs.map pS, rfl, rfl, .inl (SqL.of eJ), ?_, ?_⟩
      · have h1 := sum_len (m := 5) (ys := d.vs.map pS) fun y hy => by
          obtain ⟨v, hv, rfl⟩ := List.mem_map.mp hy
          exact part_len hok v hv
        rw [List.length_map] at h1 ⊢
        have h2 := vs_len d
        have h3 : (" " : Str).length = 1 := by decide +kernel
        rw [h3]
        have h4 : d.vs.length * 5 ≤ 4 * 5 := Nat.mul_le_mul_right _ h2
        omega
      · rw [join_eq]
        exact k J (kp_fresh kJ fun b z => by rw [show b = D from z]; exact nD)
end
end S02

set_option Elab.async false
set_option linter.all false
set_option maxRecDepth 100000
set_option maxHeartbeats 4000000
/-! ### frames with tables that grow; a table of the program -/
namespace S02
open PySem PySem.Spec PyProof.Rows L2 K5 SupX GenX
def TbA (H : Hp) (P : Addr) : Prop := ∃ ps : Array Value, H P = some (.tbl ps) ∧ TriplesOk ps.toList
/-- all stays but what may change and lies in F; the tables in L are tables still -/
structure Kg (L : List Addr) (F : Addr → Prop) (H G : Hp) : Prop where
  st : ∀ b o, H b = some o → (Mu o → ¬ F b) → (b ∈ L ∧ (∃ ps, o = .tbl ps) ∧ ∃ qs, G b = some (.tbl qs)) ∨ G b = some o
  tb : ∀ P ∈ L, TbA H P → TbA G P
section
variable {L : List Addr} {F F' : Addr → Prop} {H G I : Hp}
theorem Kg.of (k : Kp F H G) : Kg L F H G := ⟨fun b o e n => .inr (k b o e n), fun P _ ⟨ps, e, t⟩ => ⟨ps, k _ _ e (fun m => nomatch m), t⟩⟩
theorem Kg.t (k : Kg L F H G) : Kt F H G := fun b o e t n => (k.st b o e n).elim (fun ⟨_, ⟨ps, z⟩, _⟩ => absurd z (t ps)) id
theorem Kg.trans (k : Kg L F H G) (l : Kg L F' G I) (s : ∀ b, F' b → F b ∨ H b = none) : Kg L F H I := by
  refine ⟨fun b o e n => ?_, fun P m t => l.tb P m (k.tb P m t)⟩
  rcases k.st b o e n with ⟨h1, h2, qs, h3⟩ | h
  · rcases l.st b _ h3 (fun m => nomatch m) with ⟨_, _, rs, h4⟩ | h4
    · exact .inl ⟨h1, h2, rs, h4⟩
    · exact .inl ⟨h1, h2, qs, h4⟩
  · exact l.st b o h fun m z => (s b z).elim (n m) fun q => by rw [q] at e; cases e
theorem Kg.sub (k : Kg L F H G) (s : ∀ b, F b → F' b) : Kg L F' H G := ⟨fun b o e n => k.st b o e fun m z => n m (s b z), k.tb⟩
theorem Kg.free {a : Addr} (k : Kg L F H G) (h : G a = none) (n : F a → H a = none) : H a = none := by
  by_cases f : F a
  · exact n f
  · cases e : H a with
    | none => rfl
    | some o =>
      rcases k.st a o e fun _ => f with ⟨_, _, qs, z⟩ | z
      · rw [h] at z; cases z
      · rw [h] at z; cases z
theorem Kg.fresh (k : Kg L F H G) (n : ∀ b, F b → H b = none) : Kg L F' H G := ⟨(fun b o e _ => k.st b o e fun _ z => by rw [n b z] at e; cases e), k.tb⟩
theorem Kg.refl (L : List Addr) (F : Addr → Prop) (H : Hp) : Kg L F H H := Kg.of (Kp.refl F H)
theorem Kg.tab {P : Addr} {ps qs : Array Value} (m : P ∈ L) (h : H P = some (.tbl ps)) (t : TriplesOk qs.toList) : Kg L F H (upd H P (.tbl qs)) := by
  refine ⟨fun b o e n => ?_, fun Q _ ⟨rs, e, t2⟩ => ?_⟩
  · by_cases z : b = P
    · subst z
      rw [h] at e
      cases e
      exact .inl ⟨m, ⟨ps, rfl⟩, qs, upd_same⟩
    · exact .inr ((upd_ne z).trans e)
  · by_cases z : Q = P
    · subst z
      exact ⟨qs, upd_same, t⟩
    · exact ⟨rs, (upd_ne z).trans e, t2⟩
def Tg (L : List Addr) (H : Hp) : Prop := ∀ P ∈ L, TbA H P
theorem Tg.kg (t : Tg L H) (k : Kg L F H G) : Tg L G := fun P m => k.tb P m (t P m)
theorem Tg.kp (t : Tg L H) (k : Kp F H G) : Tg L G := t.kg (Kg.of k)
end
/-! hands -/
abbrev Hn := Int → Option (Int × Int × Bool)
def Hn.set (f : Hn) (h : Int) (x : Int × Int × Bool) : Hn := fun j => if j = h then some x else f j
def HnV (H : Hp) (kvs : List (Key × V)) (f : Hn) : Prop := ∀ j : Int, match f j with
  | none => valV kvs (.inl j : Key) = none
  | some (x, num, b) => ∃ t, valV kvs (.inl j : Key) = some (.ref t) ∧ H t = some (.tup [.int x, .int num, .bl b])
/-- the keys are hands, each once -/
def HnK (kvs : List (Key × V)) (f : Hn) : Prop := (∃ ks : List Int, kvs.map (·.1) = ks.map Sum.inl ∧ ks.Nodup) ∧ ∀ j, f j ≠ none → 0 ≤ j ∧ j ≤ 3
def HnAt (H : Hp) (a : Addr) (f : Hn) (n : Nat) : Prop := ∃ kvs, H a = some (.dK kvs) ∧ kvs.length ≤ n ∧ HnK kvs f ∧ HnV H kvs f
theorem keys_put (kvs : List (Key × V)) (k : Key) (v : V) : (putK kvs k v).map (·.1) = if (valV kvs k).isSome = true then kvs.map (·.1) else kvs.map (·.1) ++ [k] := by
  unfold putK
  rw [valV_any]
  by_cases h : (valV kvs k).isSome = true
  · rw [if_pos h, if_pos h, List.map_map]
    refine List.map_congr_left fun p _ => ?_
    show (if p.1 = k then (p.1, v) else p).1 = p.1
    split <;> rfl
  · rw [if_neg h, if_neg h, List.map_append]
    rfl
theorem val_mem {kvs : List (Key × V)} {k : Key} : (valV kvs k).isSome = true ↔ k ∈ kvs.map (·.1) := by
  rw [← valV_any, List.any_eq_true]
  constructor
  · rintro ⟨p, hp, e⟩
    exact List.mem_map.mpr ⟨p, hp, of_decide_eq_true e⟩
  · intro h
    obtain ⟨p, hp, e⟩ := List.mem_map.mp h
    exact ⟨p, hp, decide_eq_true e⟩
theorem HnK.put {kvs : List (Key × V)} {f : Hn} {j : Int} {v : V} {x : Int × Int × Bool} (h : HnK kvs f) (h0 : 0 ≤ j) (h3 : j ≤ 3) : HnK (putK kvs (.inl j) v) (f.set j x) := by
  obtain ⟨⟨ks, e, nd⟩, r⟩ := h
  refine ⟨?_, fun i hi => ?_⟩
  · rw [keys_put]
    split
    · exact ⟨ks, e, nd⟩
    · rename_i hn
      refine ⟨ks ++ [j], by rw [e, List.map_append]; rfl, ?_⟩
      rw [List.nodup_append]
      refine ⟨nd, by simp, fun a ha b hb => ?_⟩
      rw [List.mem_singleton.mp hb]
      intro z
      apply hn
      rw [val_mem, e]
      exact List.mem_map.mpr ⟨a, ha, by rw [z]⟩
  · unfold Hn.set at hi
    by_cases z : i = j
    · rw [z]; exact ⟨h0, h3⟩
    · rw [if_neg z] at hi
      exact r i hi
/-- some dict -/
def GoAt (H : Hp) (a : Addr) (_ : Nat) : Prop := ∃ kvs, H a = some (.dK kvs)
/-! rows that tell the same at a moment -/
def shw (m : Int) (f : Rw) (k : Int) : Option (Int × Int) := match f k with
  | none => none
  | some x => if shB x.2 m = true then some x else none
def Sim (m : Int) (f g : Rw) : Prop := ∀ k, shw m f k = shw m g k
theorem Sim.refl (m : Int) (f : Rw) : Sim m f f := fun _ => rfl
theorem Sim.trans {m : Int} {f g h : Rw} (a : Sim m f g) (b : Sim m g h) : Sim m f h := fun k => (a k).trans (b k)
theorem seen_shw (m : Int) (f : Rw) (k : Int) : seen m f k = (shw m f k).map (·.1) := by
  unfold seen shw
  cases f k with
  | none => rfl
  | some x =>
    obtain ⟨w, e⟩ := x
    show (if shB e m = true then some w else none) = ((if shB e m = true then some (w, e) else none).map (·.1) : Option Int)
    split <;> rfl
theorem Sim.seen {m : Int} {f g : Rw} (s : Sim m f g) (k : Int) : S02.seen m f k = S02.seen m g k := by rw [seen_shw, seen_shw, s k]
theorem Sim.set {m : Int} {f g : Rw} (s : Sim m f g) (k : Int) (x : Option (Int × Int)) : Sim m (f.set k x) (g.set k x) := fun j => by
  unfold shw Rw.set
  by_cases e : j = k
  · rw [if_pos e, if_pos e]
  · rw [if_neg e, if_neg e]
    exact s j
/-- both none, or both there and alike -/
def SimO (m : Int) : Option Rw → Option Rw → Prop
  | none, none => True
  | some f, some g => Sim m f g
  | _, _ => False
theorem step_add (m : Int) (f : Rw) (k x : Int) : step m f (.add k x) = (match shw m f k with
  | none => none
  | some y => if inB 0 999 (y.1 + x) = true then some (f.set k (some (y.1 + x, y.2))) else none) := by
  show (match f k with
    | none => none
    | some (w, e) => if shB e m = true ∧ inB 0 999 (w + x) = true then some (f.set k (some (w + x, e))) else none) = _
  unfold shw
  cases q : f k with
  | none => rfl
  | some y =>
    obtain ⟨w, e⟩ := y
    show (if shB e m = true ∧ inB 0 999 (w + x) = true then some (f.set k (some (w + x, e))) else none) = (match (if shB e m = true then some (w, e) else none) with
      | none => none
      | some y => if inB 0 999 (y.1 + x) = true then some (f.set k (some (y.1 + x, y.2))) else none)
    by_cases h : shB e m = true
    · rw [if_pos h]
      by_cases g : inB 0 999 (w + x) = true
      · rw [if_pos ⟨h, g⟩]
        exact (if_pos g).symm
      · rw [if_neg fun z => g z.2]
        exact (if_neg g).symm
    · rw [if_neg h, if_neg fun z => h z.1]
theorem Sim.step {m : Int} {f g : Rw} (s : Sim m f g) (d : Dd) : SimO m (S02.step m f d) (S02.step m g d) := by
  cases d with
  | put k w l => exact s.set _ _
  | drop k => exact s.set _ _
  | add k x =>
    rw [step_add, step_add, s k]
    cases shw m g k with
    | none => exact trivial
    | some y =>
      show SimO m (if inB 0 999 (y.1 + x) = true then some _ else none) (if inB 0 999 (y.1 + x) = true then some _ else none)
      by_cases h : inB 0 999 (y.1 + x) = true
      · rw [if_pos h, if_pos h]
        exact s.set _ _
      · rw [if_neg h, if_neg h]
        exact trivial
  | iff k w =>
    show SimO m (if S02.seen m f k = w then some f else none) (if S02.seen m g k = w then some g else none)
    rw [s.seen k]
    by_cases h : S02.seen m g k = w
    · rw [if_pos h, if_pos h]
      exact s
    · rw [if_neg h, if_neg h]
      exact trivial
theorem Sim.steps {m : Int} : ∀ {ds : List Dd} {f g : Rw}, Sim m f g → SimO m (S02.steps m f ds) (S02.steps m g ds)
  | [], _, _, s => s
  | d :: ds, f, g, s => by
    have h := s.step d
    unfold S02.steps
    cases e1 : S02.step m f d with
    | none =>
      cases e2 : S02.step m g d with
      | none => exact trivial
      | some g' => rw [e1, e2] at h; exact h.elim
    | some f' =>
      cases e2 : S02.step m g d with
      | none => rw [e1, e2] at h; exact h.elim
      | some g' =>
        rw [e1, e2] at h
        exact Sim.steps (show Sim m f' g' from h)
theorem shB_le {e m n : Int} (h : m ≤ n) (q : shB e n = true) : shB e m = true := by
  rw [shB_t] at q ⊢
  omega
theorem shw_le {m n : Int} (h : m ≤ n) (f : Rw) (k : Int) : shw n f k = (shw m f k).filter fun x => shB x.2 n := by
  unfold shw
  cases f k with
  | none => rfl
  | some x =>
    by_cases q : shB x.2 n = true
    · simp only [q, shB_le h q, if_true, Option.filter_some]
    · by_cases r : shB x.2 m = true
      · simp only [q, r, if_true, if_false, Option.filter_some, Bool.false_eq_true]
      · simp only [q, r, if_false, Option.filter_none, Bool.false_eq_true]
theorem Sim.mono {m n : Int} {f g : Rw} (s : Sim m f g) (h : m ≤ n) : Sim n f g := fun k => by rw [shw_le h, shw_le h, s k]
/-- a row that has ended is let go -/
theorem Sim.drop {m : Int} {f : Rw} {k : Int} (h : shw m f k = none) : Sim m (f.set k none) f := fun j => by
  by_cases e : j = k
  · subst e
    rw [h]
    unfold shw Rw.set
    rw [if_pos rfl]
  · unfold shw Rw.set
    rw [if_neg e]
def RsAt (H : Hp) (a : Addr) (m : Int) (f : Rw) (n : Nat) : Prop := ∃ f', Sim m f' f ∧ RwAt H a f' n
section
variable {F : Addr → Prop} {H G : Hp} {a : Addr} {n m : Nat}
theorem HnV.kt (k : Kt F H G) {kvs : List (Key × V)} {f : Hn} (q : HnV H kvs f) : HnV G kvs f := fun j => by
  have := q j
  cases hf : f j with
  | none =>
    rw [hf] at this
    exact this
  | some p =>
    obtain ⟨x, num, b⟩ := p
    rw [hf] at this
    obtain ⟨t, h1, h2⟩ := this
    exact ⟨t, h1, k.tup h2⟩
theorem HnAt.kt (k : Kt F H G) {f : Hn} (h : HnAt H a f n) (nf : ¬ F a) : HnAt G a f n := by
  obtain ⟨kvs, e, l, q, v⟩ := h
  exact ⟨kvs, k.dK e nf, l, q, v.kt k⟩
theorem HnAt.le {f : Hn} (h : HnAt H a f n) (l : n ≤ m) : HnAt H a f m := let ⟨kvs, e, q, r⟩ := h; ⟨kvs, e, Nat.le_trans q l, r⟩
theorem HnAt.put {f : Hn} {kvs : List (Key × V)} {j x num : Int} {b : Bool} {t : Addr} (h : HnAt H a f n) (hd : H a = some (.dK kvs)) (h0 : 0 ≤ j) (h3 : j ≤ 3) (ht : H t = some (.tup [.int x, .int num, .bl b])) : HnAt (upd H a (.dK (putK kvs (.inl j) (.ref t)))) a (f.set j (x, num, b)) (n + 1) := by
  obtain ⟨kv2, e1, l, hk, q⟩ := h
  obtain rfl : kvs = kv2 := by rw [e1] at hd; cases hd; rfl
  have nt : ∀ {t : Addr} {xs : List V}, H t = some (.tup xs) → t ≠ a := fun h => ne_of h e1 (by intro z; cases z)
  refine ⟨_, upd_same, Nat.le_trans (length_putK _ _ _) (by omega), hk.put h0 h3, fun i => ?_⟩
  rw [valV_put]
  unfold Hn.set
  by_cases hj : i = j
  · rw [if_pos hj, if_pos (by rw [hj])]
    exact ⟨t, rfl, by rw [upd_ne (nt ht)]; exact ht⟩
  · rw [if_neg hj, if_neg (fun z => hj (Sum.inl.inj z))]
    have := q i
    cases hf : f i with
    | none =>
      rw [hf] at this
      exact this
    | some p =>
      obtain ⟨x', num', b'⟩ := p
      rw [hf] at this
      obtain ⟨t', h1, h2⟩ := this
      exact ⟨t', h1, by rw [upd_ne (nt h2)]; exact h2⟩
theorem HnAt.dc {f : Hn} (h : HnAt H a f n) : ∃ kvs, H a = some (.dK kvs) := let ⟨kvs, e, _⟩ := h; ⟨kvs, e⟩
theorem HnAt.copy {b : Addr} {f : Hn} {kvs : List (Key × V)} (R : HnAt H a f n) (hd : H a = some (.dK kvs)) (hb : G b = some (.dK kvs)) (k : Kt No H G) : HnAt G b f n := by
  obtain ⟨kv2, e1, l, hk, q⟩ := R
  obtain rfl : kvs = kv2 := by rw [e1] at hd; cases hd; rfl
  exact ⟨kvs, hb, l, hk, q.kt k⟩
theorem RwAt.dc {f : Rw} (h : RwAt H a f n) : ∃ kvs, H a = some (.dK kvs) := let ⟨kvs, e, _⟩ := h; ⟨kvs, e⟩
theorem RwAt.copy {b : Addr} {f : Rw} {kvs : List (Key × V)} (R : RwAt H a f n) (hd : H a = some (.dK kvs)) (hb : G b = some (.dK kvs)) (k : Kt No H G) : RwAt G b f n := by
  obtain ⟨kv2, e1, l, q⟩ := R
  obtain rfl : kvs = kv2 := by rw [e1] at hd; cases hd; rfl
  refine ⟨kvs, hb, l, fun j => ?_⟩
  have := q j
  cases e : f j with
  | none => rw [e] at this; exact this
  | some p =>
    obtain ⟨w1, e1⟩ := p
    rw [e] at this
    obtain ⟨t, h1, h2⟩ := this
    exact ⟨t, h1, k.tup h2⟩
theorem GoAt.kt (k : Kt F H G) (h : GoAt H a n) (nf : ¬ F a) : GoAt G a n := let ⟨kvs, e⟩ := h; ⟨kvs, k.dK e nf⟩
theorem GoAt.le (h : GoAt H a n) (_ : n ≤ m) : GoAt H a m := h
theorem GoAt.dc (h : GoAt H a n) : ∃ kvs, H a = some (.dK kvs) := h
theorem GoAt.up {b : Addr} {kvs ms : List (Key × V)} (h : GoAt H a n) (_ : H b = some (.dK kvs)) : GoAt (upd H b (.dK ms)) a m := by
  by_cases e : a = b
  · exact ⟨ms, by rw [e, upd_same]⟩
  · obtain ⟨ks, z⟩ := h
    exact ⟨ks, by rw [upd_ne e]; exact z⟩
theorem RsAt.kt {mo : Int} {f : Rw} (k : Kt F H G) (h : RsAt H a mo f n) (nf : ¬ F a) : RsAt G a mo f n := let ⟨f', s, R⟩ := h; ⟨f', s, R.kt k nf⟩
theorem RsAt.le {mo : Int} {f : Rw} (h : RsAt H a mo f n) (l : n ≤ m) : RsAt H a mo f m := let ⟨f', s, R⟩ := h; ⟨f', s, R.le l⟩
theorem RsAt.dc {mo : Int} {f : Rw} (h : RsAt H a mo f n) : ∃ kvs, H a = some (.dK kvs) := let ⟨_, _, R⟩ := h; R.dc
theorem RsAt.copy {mo : Int} {b : Addr} {f : Rw} {kvs : List (Key × V)} (h : RsAt H a mo f n) (hd : H a = some (.dK kvs)) (hb : G b = some (.dK kvs)) (k : Kt No H G) : RsAt G b mo f n := let ⟨f', s, R⟩ := h; ⟨f', s, R.copy hd hb k⟩
theorem RsAt.later {mo mo' : Int} {f : Rw} (h : RsAt H a mo f n) (l : mo ≤ mo') : RsAt H a mo' f n := let ⟨f', s, R⟩ := h; ⟨f', s.mono l, R⟩
end
structure TT where
  rows : Rw
  mom : Int
  num : Int
  hands : Hn
def TT.new : TT := ⟨fun _ => none, 0, 0, fun _ => none⟩
def tfl (n m : Int) (r h : Addr) : List (Str × V) := [("number", .int n), ("moment", .int m), ("rows", .ref r), ("hands", .ref h)]
section
variable (n m i : Int) (r h x : Addr)
theorem l_num : (tfl n m r h).lookup ("number" : Str) = some (.int n) := rfl
theorem l_mom : (tfl n m r h).lookup ("moment" : Str) = some (.int m) := rfl
theorem l_rows : (tfl n m r h).lookup ("rows" : Str) = some (.ref r) := rfl
theorem l_hands : (tfl n m r h).lookup ("hands" : Str) = some (.ref h) := rfl
theorem p_num : putF "number" (.int i) (tfl n m r h) = tfl i m r h := rfl
theorem p_mom : putF "moment" (.int i) (tfl n m r h) = tfl n i r h := rfl
theorem p_rows : putF "rows" (.ref x) (tfl n m r h) = tfl n m x h := rfl
theorem p_hands : putF "hands" (.ref x) (tfl n m r h) = tfl n m r x := rfl
end
/-- a Table at a; g is any dict -/
structure TabAt (A : Ad) (H : Hp) (a r h g : Addr) (t : TT) (n : Nat) : Prop where
  at_ : ∃ dx, H a = some (.ins (A.c 64) dx (tfl t.num t.mom r h))
  rows : RsAt H r t.mom t.rows n
  hands : HnAt H h t.hands n
  gone : GoAt H g n
  rh : r ≠ h
def tF (a r h g : Addr) : Addr → Prop := fun b => b = a ∨ b = r ∨ b = h ∨ b = g
theorem TabAt.kt {A : Ad} {F : Addr → Prop} {H G : Hp} (k : Kt F H G) {a r h g : Addr} {t : TT} {n : Nat} (T : TabAt A H a r h g t n) (nf : ∀ b, F b → ¬ tF a r h g b) : TabAt A G a r h g t n := by
  obtain ⟨dx, e⟩ := T.at_
  exact ⟨⟨dx, k.ins e fun z => nf _ z (.inl rfl)⟩, T.rows.kt k fun z => nf _ z (.inr (.inl rfl)), T.hands.kt k fun z => nf _ z (.inr (.inr (.inl rfl))), T.gone.kt k fun z => nf _ z (.inr (.inr (.inr rfl))), T.rh⟩
theorem TabAt.no {A : Ad} {H G : Hp} {a r h g : Addr} {t : TT} {n : Nat} (T : TabAt A H a r h g t n) (k : Kt No H G) : TabAt A G a r h g t n := T.kt k fun _ z => False.elim z
theorem TabAt.le {A : Ad} {H : Hp} {a r h g : Addr} {t : TT} {n m : Nat} (T : TabAt A H a r h g t n) (l : n ≤ m) : TabAt A H a r h g t m := ⟨T.at_, T.rows.le l, T.hands.le l, T.gone.le l, T.rh⟩
theorem TabAt.there {A : Ad} {H : Hp} {a r h g : Addr} {t : TT} {n : Nat} (T : TabAt A H a r h g t n) {b : Addr} (z : tF a r h g b) : ∃ o, H b = some o := by
  obtain ⟨dx, e⟩ := T.at_
  obtain ⟨_, e1⟩ := T.rows.dc
  obtain ⟨_, e2⟩ := T.hands.dc
  obtain ⟨_, e3⟩ := T.gone.dc
  rcases z with rfl | rfl | rfl | rfl
  · exact ⟨_, e⟩
  · exact ⟨_, e1⟩
  · exact ⟨_, e2⟩
  · exact ⟨_, e3⟩
/-! a page's rows -/
def RwV (H : Hp) (v : V) (x : Int × Int × Int) : Prop := ∃ t, v = .ref t ∧ H t = some (.tup [.int x.1, .int x.2.1, .int x.2.2])
def PgAt (H : Hp) (b : Addr) (l : List (Int × Int × Int)) : Prop := ∃ xs, H b = some (.tup xs) ∧ Paired (RwV H) xs l
theorem RwV.kt {F : Addr → Prop} {H G : Hp} (k : Kt F H G) {v : V} {x : Int × Int × Int} (h : RwV H v x) : RwV G v x := let ⟨t, e, q⟩ := h; ⟨t, e, k.tup q⟩
theorem PgAt.kt {F : Addr → Prop} {H G : Hp} (k : Kt F H G) {b : Addr} {l : List (Int × Int × Int)} (h : PgAt H b l) : PgAt G b l := let ⟨xs, e, p⟩ := h; ⟨xs, k.tup e, p.mono fun _ _ z => z.kt k⟩
/-- the row of a key, if there is one -/
def rowOf (f : Rw) (k : Int) : Option (Int × Int × Int) := (f k).map fun x => (k, x.1, x.2)
def keysFrom (lo : Int) (n : Nat) : List Int := (List.range n).map fun (i : Nat) => lo + i
def pgRows (f : Rw) (p : Int) : List (Int × Int × Int) := (keysFrom (p * 4) 4).filterMap (rowOf f)
theorem keysFrom_succ (lo : Int) (n : Nat) : keysFrom lo (n + 1) = keysFrom lo n ++ [lo + n] := by
  unfold keysFrom
  rw [List.range_succ, List.map_append]
  rfl
/-- a function object whose code object is known, with its promise -/
theorem okC {P : Program} {w : World} {K : PySem.W.Frag} {mg : Str → Option Value} {base : Heap} {x qual : Str} {st : Stmt} {f c : Addr} {N ps : List Str} {k : Nat} {sp : Sp} (F : FnC K x qual st f c)
    (S : FnScope N ps (defScope st)) (len : ∀ vs H Q E, sp vs H Q E → vs.length = ps.length)
    (body : ∀ (Ar : Around) (outer : List Env) (s : Shared) (H : Hp) (vs : List V) (Q : VK) (E : XK), Room k (Ar.deeper (envOfC qual (defScope st) s.heap.objs.size f (.ref c))) → sp vs H Q E →
      ∃ t, PSs (cxOf CX0 P w K mg base N qual (defScope st) f (.ref c) Ar outer s H E).nox (defBody st) t ∧ t { nx := fun _ G => Q .non G, rt := Q } (L2.start N vs) H)
    (hb : ∀ (kV doc pm : Value) (an : Option Addr) (ct : Value) (us : List Value), us.length = ps.length → bindArgs (PySem.W.fnOf x qual (defArgs st) (defBody st) (defScope st) .none kV doc pm an (.ref c) ct) ⟨us, []⟩ = pure (ps.zip us)) :
    ∃ fd, FnOk P w K mg base CX0 (k + 1) f fd ps sp ∧ Binds K fd ps [] := by
  obtain ⟨oc, od, kV, doc, pm, an, ct, osl, lk, hcd⟩ := F.ex
  refine ⟨_, fn_of lk hcd S len fun Ar outer s H vs Q E hr hsp => ?_, fun s us X hl => ?_⟩
  · obtain ⟨t, ht, q⟩ := body Ar outer s H vs Q E hr hsp
    exact ⟨t, ht.nox, q⟩
  · rw [List.append_nil] at hl ⊢
    exact BindsTo.of_eq (hb _ _ _ _ _ us hl)
/-- the tables of the four methods -/
structure TbsB (base : Heap) (mg : Str → Option Value) (A : Ad) (tp : Nat → Addr) : Prop where
  pr : GxR.TabB base mg (A.co 64 7) (tp 7)
  hr : GxR.TabB base mg (A.co 64 8) (tp 8)
  sh : GxR.TabB base mg (A.co 64 10) (tp 10)
def tL (tp : Nat → Addr) : List Addr := [tp 7, tp 8, tp 10]
section
variable {P : Program} {w : World} {K : PySem.W.Frag} {mg : Str → Option Value} {base : Heap} {A : Ad} {tp : Nat → Addr}
abbrev NscPr : List Str := ["self", "page", "first", "key"]
theorem scPr : FnScope NscPr ["self", "page"] (defScope s_Table_page_rows) := ⟨rfl, rfl, rfl, by decide +kernel, rfl, by decide +kernel, by decide +kernel⟩
def spPageRows (A : Ad) (tp : Nat → Addr) : Sp := fun vs H Q _ => ∃ (a r h g : Addr) (t : TT) (n : Nat) (p : Int), vs = [.ref a, .int p] ∧ TabAt A H a r h g t n ∧ Tg (tL tp) H ∧ 0 ≤ p ∧ p ≤ 8 ∧
  ∀ G b f, Sim t.mom f t.rows → H b = none → Kg (tL tp) No H G → PgAt G b (pgRows f p) → RwAt G r f n → Q (.ref b) G
theorem ok_page_rows (T : Txt K mg A) (TB : TbsB base mg A tp) : ∃ fd, FnOk P w K mg base CX0 5 (A.m 64 7) fd ["self", "page"] (spPageRows A tp) ∧ Binds K fd ["self", "page"] [] := by
  refine okC T.C_Table_page_rows scPr (fun vs H Q E h => ?_) (fun Ar outer s H vs Q E hr h => ?_) (fun _ _ _ _ _ us hl => match us, hl with | [_, _], _ => rfl)
  · obtain ⟨a, r, h, g, t, n, p, rfl, _⟩ := h
    rfl
  · obtain ⟨a, r, h, g, t, n, p, rfl, TA, TG, p0, p8, k⟩ := h
    have hu := hu_of hr
    refine ⟨_, pss_cons (ps_set (i := 2) scPr.nd rfl (Or.inl rfl) (pe_op op_mul (pv 1) (pe_glob (v := .int 4) rfl T.k_KEYS_OF_A_PAGE.choose_spec ⟨_, rfl⟩)))
      (pss_one (ps_ret (pe_tupG (k := 1) (pgen_gex (k := 0) (own := [("key", 3)]) (g := gName 3) (tt := tB (tDIn (tVar 3) (tFld K (tVar 0) "rows"))) (te := tTup (tCons (tVar 3) (StX.tStar K (tDGet (tFld K (tVar 0) "rows") (tVar 3)) tNil))) hr.hd (by have := hr.dp; show (Ar.deeper _).depth < _; omega) TB.pr rfl (blkOk_by (N := NscPr) (sc := defScope s_Table_page_rows) (by decide +kernel)) scPr.nd (by decide +kernel) rfl rfl
        (pi_range2 (by rfl) T.range (pa_cons (pv 2) (pa_cons (pe_op op_add (pv 2) (pe_glob (v := .int 4) rfl T.k_KEYS_OF_A_PAGE.choose_spec ⟨_, rfl⟩)) pa_nil))) (fun _ => rfl)
        (fun _ _ _ _ _ _ _ _ => pg_name (i := 3) scPr.nd rfl (Or.inl rfl)) (fun _ _ _ _ _ _ _ hr => by exact pts_one (pt_cmp (pc_din (hu_of hr) (pv 3) (pe_fld (pv 0) rfl)))) (fun _ _ _ _ _ _ _ hr => by exact pe_tup (pa_cons (pv 3) (StX.pa_star (pe_dget (hu_of hr) (pe_fld (pv 0) rfl) (pv 3) (fun _ _ => rfl)) pa_nil)))) (hr.mono (by decide)) rfl T.tuple))), ?_⟩
    have m7 : tp 7 ∈ tL tp := List.mem_cons_self
    obtain ⟨ps, hP, tri⟩ := TG _ m7
    obtain ⟨dx, ea⟩ := TA.at_
    refine ⟨_, rfl, _, _, rfl, rfl, .inr ⟨by decide, by decide⟩, _, rfl, _, rfl, _, _, rfl, rfl, p * 4, p * 4 + 4, rfl, ⟨by omega, by omega, by omega, by omega⟩, ps, hP, tri, fun qs tq => ?_⟩
    have e4 : (p * 4 + 4 - p * 4).toNat = 4 := by omega
    rw [e4]
    have kt : Kg (tL tp) No H (upd H (tp 7) (.tbl qs)) := Kg.tab m7 hP tq
    obtain ⟨f, sf, Rf⟩ := TA.rows
    refine gx_range (fun i ys J => Kg (tL tp) No H J ∧ ys.length ≤ i ∧ Paired (RwV J) ys ((keysFrom (p * 4) i).filterMap (rowOf f))) ⟨kt, Nat.le_refl _, .nil⟩ ?_ ?_
    · rintro i ys J hi ⟨kJ, hl, pJ⟩
      have TJ := TA.no kJ.t
      obtain ⟨dxJ, eJ⟩ := TJ.at_
      obtain ⟨kvs, hd, hkl, hf⟩ := Rf.kt kJ.t (fun z => False.elim z)
      have q := hf (p * 4 + i)
      have ks : (keysFrom (p * 4) (i + 1)).filterMap (rowOf f) = (keysFrom (p * 4) i).filterMap (rowOf f) ++ (match rowOf f (p * 4 + i) with | none => [] | some x => [x]) := by
        rw [keysFrom_succ, List.filterMap_append, List.filterMap_cons]
        cases rowOf f (p * 4 + i) <;> rfl
      refine ⟨rfl, _, rfl, _, rfl, a, A.c 64, dxJ, _, _, rfl, eJ, T.cl_Table, T.n_Table_rows, l_rows .., r, _, rfl, DGet.k (k := Sum.inl (p * 4 + i)) hd, _, rfl, ?_⟩
      cases e : f (p * 4 + i) with
      | none =>
        rw [e] at q
        rw [q]
        refine iteF ⟨kJ, Nat.le_succ_of_le hl, ?_⟩
        have : rowOf f (p * 4 + i) = none := by unfold rowOf; rw [e]; rfl
        rw [ks, this, List.append_nil]
        exact pJ
      | some x =>
        obtain ⟨wt, en⟩ := x
        rw [e] at q
        obtain ⟨u, q1, q2⟩ := q
        rw [q1]
        have dg : DGet J r (.int (p * 4 + i)) (some (.ref u)) := by
          have := DGet.k (k := Sum.inl (p * 4 + i)) hd
          rw [q1] at this
          exact this
        refine iteT ⟨_, rfl, _, rfl, a, A.c 64, dxJ, _, _, rfl, eJ, T.cl_Table, T.n_Table_rows, l_rows .., _, rfl, r, .ref u, rfl, dg, u, _, rfl, .inl (SqT.of q2), sz 3 (by decide), fun b nb => ⟨szL (by omega), (kJ.trans (Kg.of (Kp.new nb)) fun _ z => False.elim z), by rw [List.length_append]; simp only [List.length_cons, List.length_nil]; omega, ?_⟩⟩
        have : rowOf f (p * 4 + i) = some (p * 4 + i, wt, en) := by unfold rowOf; rw [e]; rfl
        rw [ks, this]
        exact (pJ.mono fun _ _ z => z.kt (Kp.new (F := No) nb).t).snoc ⟨b, rfl, upd_same⟩
    · rintro ys J ⟨kJ, hl, pJ⟩
      intro b nb
      exact k _ b f sf (kJ.free nb fun z => False.elim z) (kJ.trans (Kg.of (Kp.new nb)) fun _ z => False.elim z) ⟨ys, upd_same, pJ.mono fun _ _ z => z.kt (Kp.new (F := No) nb).t⟩ ((Rf.kt kJ.t fun z => False.elim z).kt (Kp.new (F := No) nb).t fun z => False.elim z)
end
end S02

set_option Elab.async false
set_option linter.all false
set_option maxRecDepth 100000
set_option maxHeartbeats 4000000
namespace S02
open PySem PySem.Spec PyProof.Rows L2 K5 SupX GenX
/-! a page's hands -/
def RhV (H : Hp) (v : V) (x : Int × Int × Int × Bool) : Prop := ∃ t, v = .ref t ∧ H t = some (.tup [.int x.1, .int x.2.1, .int x.2.2.1, .bl x.2.2.2])
def PhAt (H : Hp) (b : Addr) (l : List (Int × Int × Int × Bool)) : Prop := ∃ xs, H b = some (.tup xs) ∧ Paired (RhV H) xs l
theorem RhV.kt {F : Addr → Prop} {H G : Hp} (k : Kt F H G) {v : V} {x : Int × Int × Int × Bool} (h : RhV H v x) : RhV G v x := let ⟨t, e, q⟩ := h; ⟨t, e, k.tup q⟩
theorem PhAt.kt {F : Addr → Prop} {H G : Hp} (k : Kt F H G) {b : Addr} {l : List (Int × Int × Int × Bool)} (h : PhAt H b l) : PhAt G b l := let ⟨xs, e, p⟩ := h; ⟨xs, k.tup e, p.mono fun _ _ z => z.kt k⟩
def handOf (f : Hn) (h : Int) : Option (Int × Int × Int × Bool) := (f h).map fun x => (h, x.1, x.2.1, x.2.2)
def hnRows (f : Hn) : List (Int × Int × Int × Bool) := [0, 1, 2, 3].filterMap (handOf f)
theorem sorted_eq : ∀ {l m : List Int}, l.Pairwise (· < ·) → m.Pairwise (· < ·) → (∀ x, x ∈ l ↔ x ∈ m) → l = m
  | [], [], _, _, _ => rfl
  | [], y :: _, _, _, h => absurd ((h y).mpr List.mem_cons_self) (by simp)
  | x :: _, [], _, _, h => absurd ((h x).mp List.mem_cons_self) (by simp)
  | x :: l, y :: m, hl, hm, h => by
    have l1 := List.pairwise_cons.mp hl
    have m1 := List.pairwise_cons.mp hm
    have e : x = y := by
      rcases List.mem_cons.mp ((h x).mp List.mem_cons_self) with z | z
      · exact z
      · rcases List.mem_cons.mp ((h y).mpr List.mem_cons_self) with u | u
        · exact u.symm
        · have := m1.1 x z
          have := l1.1 y u
          omega
    subst e
    rw [sorted_eq l1.2 m1.2 fun z => ?_]
    constructor
    · intro hz
      rcases List.mem_cons.mp ((h z).mp (List.mem_cons_of_mem _ hz)) with u | u
      · have := l1.1 z hz
        omega
      · exact u
    · intro hz
      rcases List.mem_cons.mp ((h z).mpr (List.mem_cons_of_mem _ hz)) with u | u
      · have := m1.1 z hz
        omega
      · exact u
theorem inl_inj : ∀ {a b : List Int}, (a.map Sum.inl : List Key) = b.map Sum.inl → a = b
  | [], [], _ => rfl
  | [], _ :: _, h => by cases h
  | _ :: _, [], h => by cases h
  | x :: a, y :: b, h => by
    obtain ⟨h1, h2⟩ := List.cons.inj h
    rw [Sum.inl.inj h1, inl_inj h2]
theorem nodup_le : ∀ {l m : List Int}, l.Nodup → (∀ x ∈ l, x ∈ m) → l.length ≤ m.length
  | [], _, _, _ => Nat.zero_le _
  | x :: l, m, hn, hs => by
    have h1 := List.nodup_cons.mp hn
    have h2 : l.length ≤ (m.erase x).length := nodup_le h1.2 fun y hy => (List.mem_erase_of_ne fun z => by rw [z] at hy; exact h1.1 hy).mpr (hs y (List.mem_cons_of_mem _ hy))
    have hm := hs x List.mem_cons_self
    rw [List.length_erase_of_mem hm] at h2
    have : 0 < m.length := List.length_pos_of_mem hm
    rw [List.length_cons]
    omega
/-- the sorted keys of hands -/
theorem hn_keys {H : Hp} {kvs : List (Key × V)} {f : Hn} {ks ys : List Int} (hk : HnK kvs f) (hv : HnV H kvs f) (e : kvs.map (·.1) = ks.map Sum.inl) (p : ys.Perm ks) (s : ys.Pairwise (· ≤ ·)) : ys = [0, 1, 2, 3].filter fun h => (f h).isSome := by
  obtain ⟨⟨ks', e', nd⟩, r⟩ := hk
  have ek : ks' = ks := by
    have := e'.symm.trans e
    exact inl_inj this
  subst ek
  have ndy : ys.Nodup := p.nodup_iff.mpr nd
  have mem : ∀ j : Int, (f j).isSome = true ↔ j ∈ ks' := fun j => by
    have h1 : (valV kvs (.inl j : Key)).isSome = true ↔ j ∈ ks' := by
      rw [val_mem, e]
      constructor
      · intro h
        obtain ⟨a, ha, q⟩ := List.mem_map.mp h
        rw [← Sum.inl.inj q]
        exact ha
      · intro h
        exact List.mem_map.mpr ⟨j, h, rfl⟩
    rw [← h1]
    have := hv j
    cases hf : f j with
    | none =>
      rw [hf] at this
      have this : valV kvs (.inl j : Key) = none := this
      rw [this] <;> simp
    | some x =>
      obtain ⟨x, num, b⟩ := x
      rw [hf] at this
      obtain ⟨t, h2, _⟩ := this
      rw [h2] <;> simp
  refine sorted_eq ?_ (List.Pairwise.filter _ (by decide)) fun j => ?_
  · exact (List.pairwise_and_iff.mpr ⟨s, ndy⟩).imp fun {a b} z => by omega
  · rw [p.mem_iff, ← mem, List.mem_filter]
    constructor
    · intro h
      have := r j (fun z => by rw [z] at h; cases h)
      refine ⟨?_, h⟩
      simp only [List.mem_cons, List.not_mem_nil, or_false]
      omega
    · exact fun h => h.2
theorem filterMap_take {α β : Type} (f : α → Option β) {xs : List α} {i : Nat} {x : α} (h : xs[i]? = some x) : (xs.take (i + 1)).filterMap f = (xs.take i).filterMap f ++ (match f x with | none => [] | some y => [y]) := by
  rw [take_snoc h, List.filterMap_append, List.filterMap_cons]
  cases f x <;> rfl
theorem filterMap_filter (f : Hn) (l : List Int) : (l.filter fun h => (f h).isSome).filterMap (handOf f) = l.filterMap (handOf f) := by
  induction l with
  | nil => rfl
  | cons x l ih =>
    cases e : f x with
    | none =>
      rw [List.filter_cons_of_neg (by rw [e]; decide), ih, List.filterMap_cons]
      have : handOf f x = none := by unfold handOf; rw [e]; rfl
      rw [this]
    | some y =>
      rw [List.filter_cons_of_pos (by rw [e]; rfl), List.filterMap_cons, List.filterMap_cons, ih]
section
variable {P : Program} {w : World} {K : PySem.W.Frag} {mg : Str → Option Value} {base : Heap} {A : Ad} {tp : Nat → Addr}
abbrev NscHr : List Str := ["self", "hand"]
theorem scHr : FnScope NscHr ["self"] (defScope s_Table_hand_rows) := ⟨rfl, rfl, rfl, by decide +kernel, rfl, by decide +kernel, by decide +kernel⟩
def spHandRows (A : Ad) (tp : Nat → Addr) : Sp := fun vs H Q _ => ∃ (a r h g : Addr) (t : TT) (n : Nat), vs = [.ref a] ∧ TabAt A H a r h g t n ∧ Tg (tL tp) H ∧
  ∀ G b, H b = none → Kg (tL tp) No H G → PhAt G b (hnRows t.hands) → Q (.ref b) G
theorem ok_hand_rows (T : Txt K mg A) (TB : TbsB base mg A tp) : ∃ fd, FnOk P w K mg base CX0 5 (A.m 64 8) fd ["self"] (spHandRows A tp) ∧ Binds K fd ["self"] [] := by
  refine okC T.C_Table_hand_rows scHr (fun vs H Q E h => ?_) (fun Ar outer s H vs Q E hr h => ?_) (fun _ _ _ _ _ us hl => match us, hl with | [_], _ => rfl)
  · obtain ⟨a, r, h, g, t, n, rfl, _⟩ := h
    rfl
  · obtain ⟨a, r, h, g, t, n, rfl, TA, TG, k⟩ := h
    have hu := hu_of hr
    refine ⟨_, pss_one (ps_ret (pe_tupG (k := 1) (pgen_gex (k := 0) (own := [("hand", 1)]) (g := gName 1) (tt := tYes) (te := tTup (tCons (tVar 1) (StX.tStar K (tDGet (tFld K (tVar 0) "hands") (tVar 1)) tNil))) hr.hd (by have := hr.dp; show (Ar.deeper _).depth < _; omega) TB.hr rfl (blkOk_by (N := NscHr) (sc := defScope s_Table_hand_rows) (by decide +kernel)) scHr.nd (by decide +kernel) rfl rfl
        (pi_list (pe_callB (call_sortedDI (by rfl)) (by rfl) T.sorted (by decide +kernel) (pa_cons (pe_fld (pv 0) rfl) pa_nil))) (fun _ => rfl)
        (fun _ _ _ _ _ _ _ _ => pg_name (i := 1) scHr.nd rfl (Or.inl rfl)) (fun _ _ _ _ _ _ _ _ => pts_nil) (fun _ _ _ _ _ _ _ hr => by exact pe_tup (pa_cons (pv 1) (StX.pa_star (pe_dget (hu_of hr) (pe_fld (pv 0) rfl) (pv 1) (fun _ _ => rfl)) pa_nil)))) (hr.mono (by decide)) rfl T.tuple)), ?_⟩
    have m8 : tp 8 ∈ tL tp := List.mem_cons_of_mem _ List.mem_cons_self
    obtain ⟨dx, ea⟩ := TA.at_
    obtain ⟨kvs, hd, hkl, hk, hv⟩ := TA.hands
    have hk' := hk
    obtain ⟨⟨ks, e, nd⟩, hr3⟩ := hk'
    have hks : ks.length ≤ 4 := nodup_le (m := [0, 1, 2, 3]) nd fun j hj => by
      have h1 : (valV kvs (.inl j : Key)).isSome = true := by
        rw [val_mem, e]
        exact List.mem_map.mpr ⟨j, hj, rfl⟩
      have h2 := hr3 j fun z => by
        have := hv j
        rw [z] at this
        have this : valV kvs (.inl j : Key) = none := this
        rw [this] at h1
        cases h1
      simp only [List.mem_cons, List.not_mem_nil, or_false]
      omega
    refine ⟨_, rfl, a, A.c 64, dx, _, _, rfl, ea, T.cl_Table, T.n_Table_hands, l_hands .., h, kvs, ks, rfl, .inl hd, e, by omega, fun ys q perm srt nq => ?_⟩
    have eys := hn_keys hk hv e perm srt
    have k1 : Kp No H (upd H q (.lst (ys.map V.int))) := Kp.new nq
    obtain ⟨ps, hP, tri⟩ := (TG.kp k1) _ m8
    refine ⟨q, rfl, ⟨_, SqL.of upd_same⟩, ps, hP, tri, fun qs tq => ?_⟩
    have kt : Kg (tL tp) No H (upd (upd H q (.lst (ys.map V.int))) (tp 8) (.tbl qs)) := (Kg.of k1).trans (Kg.tab m8 hP tq) fun _ z => False.elim z
    have neq : q ≠ tp 8 := fun z => by rw [z, upd_same] at hP; cases hP
    have hq2 : upd (upd H q (.lst (ys.map V.int))) (tp 8) (.tbl qs) q = some (.lst (ys.map V.int)) := (upd_ne neq).trans upd_same
    generalize hG : upd (upd H q (.lst (ys.map V.int))) (tp 8) (.tbl qs) = G0 at kt hq2 ⊢
    refine gx_list (K := K) (a := q) (xs := ys.map V.int) (fun i zs J => Kg (tL tp) No H J ∧ J q = some (.lst (ys.map V.int)) ∧ zs.length ≤ i ∧ Paired (RhV J) zs ((ys.take i).filterMap (handOf t.hands))) ⟨kt, hq2, Nat.le_refl _, by rw [List.take_zero]; exact .nil⟩ (fun i zs J _ ⟨_, hJ, _⟩ => SqL.of hJ) ?_ ?_
    · rintro i x zs J hx ⟨kJ, hJ, hl, pJ⟩
      obtain ⟨j, hj, rfl⟩ : ∃ j, ys[i]? = some j ∧ x = V.int j := by
        rw [List.getElem?_map] at hx
        cases e : ys[i]? with
        | none => rw [e] at hx; cases hx
        | some j => rw [e] at hx; exact ⟨j, rfl, (Option.some.inj hx).symm⟩
      have TJ := TA.no kJ.t
      obtain ⟨dxJ, eJ⟩ := TJ.at_
      obtain ⟨kvJ, hdJ, _, _, hvJ⟩ := TJ.hands
      have hjs : (t.hands j).isSome = true := by
        have := List.mem_of_getElem? hj
        rw [eys] at this
        exact (List.mem_filter.mp this).2
      have q := hvJ j
      cases ef : t.hands j with
      | none => rw [ef] at hjs; cases hjs
      | some z =>
        obtain ⟨x, num, b⟩ := z
        rw [ef] at q
        obtain ⟨u, q1, q2⟩ := q
        have dg : DGet J h (.int j) (some (.ref u)) := by
          have := DGet.k (k := Sum.inl j) hdJ
          rw [q1] at this
          exact this
        refine ⟨rfl, _, rfl, _, rfl, a, A.c 64, dxJ, _, _, rfl, eJ, T.cl_Table, T.n_Table_hands, l_hands .., _, rfl, h, .ref u, rfl, dg, u, _, rfl, .inl (SqT.of q2), sz 4 (by decide), fun c nc => ⟨szL ?_, kJ.trans (Kg.of (Kp.new nc)) (fun _ z => False.elim z), (Kp.new (F := No) nc).t.lst hJ (fun z => z), by rw [List.length_append]; simp only [List.length_cons, List.length_nil]; omega, ?_⟩⟩
        · have h4 : ys.length ≤ 4 := by rw [perm.length_eq]; exact hks
          have : i < ys.length := (List.getElem?_eq_some_iff.mp hj).1
          omega
        · have : handOf t.hands j = some (j, x, num, b) := by unfold handOf; rw [ef]; rfl
          rw [filterMap_take _ hj, this]
          exact (pJ.mono fun _ _ z => z.kt (Kp.new (F := No) nc).t).snoc ⟨c, rfl, upd_same⟩
    · rintro zs J ⟨kJ, hJ, hl, pJ⟩
      rw [List.length_map, List.take_length, eys, filterMap_filter] at pJ
      intro b nb
      exact k _ b (kJ.free nb fun z => False.elim z) (kJ.trans (Kg.of (Kp.new nb)) fun _ z => False.elim z) ⟨zs, upd_same, pJ.mono fun _ _ z => z.kt (Kp.new (F := No) nb).t⟩
end
end S02

set_option Elab.async false
set_option linter.all false
set_option maxRecDepth 100000
set_option maxHeartbeats 4000000
namespace S02
open PySem PySem.Spec PyProof.Rows L2 K5 SupX GenX
/-! data, as it is compared, and as it weighs -/
theorem shaped_of {d : PyData} (h1 : d.canLay0 = true) (h2 : d.depth ≤ 64) : SeqAt.shaped d = true := by
  unfold SeqAt.shaped
  rw [h1, decide_eq_true h2]
  rfl
def Dt (K : PySem.W.Frag) (H : Hp) (n : Nat) (v : V) (d : PyData) : Prop := Dp K H v d ∧ d.canLay0 = true ∧ d.depth ≤ n
def DtA (K : PySem.W.Frag) (H : Hp) (n : Nat) (vs : List V) (ds : List PyData) : Prop := DpAll K H vs ds ∧ PyData.canLayAll0 ds = true ∧ PyData.depthAll ds ≤ n
section
variable {K : PySem.W.Frag} {H : Hp}
theorem Dt.int (n : Nat) (i : Int) : Dt K H n (.int i) (.int i) := ⟨.int i, by simp only [PyData.canLay0], by simp only [PyData.depth]; omega⟩
theorem Dt.bl (n : Nat) (b : Bool) : Dt K H n (.bl b) (.bool b) := ⟨.bl b, by simp only [PyData.canLay0], by simp only [PyData.depth]; omega⟩
theorem Dt.non (n : Nat) : Dt K H n .non .none := ⟨.non, by simp only [PyData.canLay0], by simp only [PyData.depth]; omega⟩
theorem Dt.str (n : Nat) (x : Str) (h : PyData.strOk x = true) : Dt K H n (.str x) (.str x) := ⟨.str x, by simpa only [PyData.canLay0] using h, by simp only [PyData.depth]; omega⟩
theorem DtA.nil (n : Nat) : DtA K H n [] [] := ⟨.nil, by simp only [PyData.canLayAll0], by simp only [PyData.depthAll]; omega⟩
theorem Dt.cons {n : Nat} {v : V} {vs : List V} {d : PyData} {ds : List PyData} (h : Dt K H n v d) (hs : DtA K H n vs ds) : DtA K H n (v :: vs) (d :: ds) :=
  ⟨.cons h.1 hs.1, by simp only [PyData.canLayAll0, h.2.1, hs.2.1, Bool.and_self], by simp only [PyData.depthAll]; exact Nat.max_le.mpr ⟨h.2.2, hs.2.2⟩⟩
theorem Dt.tup {n : Nat} {a : Addr} {xs : List V} {ds : List PyData} (e : H a = some (.tup xs)) (h : DtA K H n xs ds) : Dt K H (n + 1) (.ref a) (.tuple ds) :=
  ⟨.tup (SqT.of e) h.1, by simp only [PyData.canLay0]; exact h.2.1, by simp only [PyData.depth]; have := h.2.2; omega⟩
theorem Dt.lst {n : Nat} {a : Addr} {xs : List V} {ds : List PyData} (e : H a = some (.lst xs)) (h : DtA K H n xs ds) : Dt K H (n + 1) (.ref a) (.list ds) :=
  ⟨.lst (SqL.of e) h.1, by simp only [PyData.canLay0]; exact h.2.1, by simp only [PyData.depth]; have := h.2.2; omega⟩
theorem Dt.shaped {n : Nat} {v : V} {d : PyData} (h : Dt K H n v d) (hn : n ≤ 64) : SeqAt.shaped d = true := shaped_of h.2.1 (Nat.le_trans h.2.2 hn)
theorem Dt.same {n : Nat} {v : V} {d : PyData} (h : Dt K H n v d) : PyData.eqv d d = true := SeqAt.eqv_refl d h.2.1
theorem dt_all {α : Type} {R : V → α → Prop} {n : Nat} (h : ∀ v a, R v a → ∃ d, Dt K H n v d) {xs : List V} {ys : List α} (p : Paired R xs ys) : ∃ ds, DtA K H n xs ds := by
  induction p with
  | nil => exact ⟨_, DtA.nil n⟩
  | cons r _ ih =>
    obtain ⟨d, hd⟩ := h _ _ r
    obtain ⟨ds, hds⟩ := ih
    exact ⟨_, hd.cons hds⟩
theorem dt_rw {v : V} {x : Int × Int × Int} (h : RwV H v x) : ∃ d, Dt K H 1 v d := by
  obtain ⟨t, rfl, e⟩ := h
  exact ⟨_, Dt.tup e ((Dt.int 0 _).cons ((Dt.int 0 _).cons ((Dt.int 0 _).cons (DtA.nil 0))))⟩
theorem dt_rh {v : V} {x : Int × Int × Int × Bool} (h : RhV H v x) : ∃ d, Dt K H 1 v d := by
  obtain ⟨t, rfl, e⟩ := h
  exact ⟨_, Dt.tup e ((Dt.int 0 _).cons ((Dt.int 0 _).cons ((Dt.int 0 _).cons ((Dt.bl 0 _).cons (DtA.nil 0)))))⟩
end
/-- what is kept of a page -/
def KtAt (H : Hp) (b : Addr) : Prop := (∃ l, PgAt H b l ∧ l.length ≤ 4) ∨ ∃ m c l, H b = some (.tup [.int m, .ref c]) ∧ PhAt H c l ∧ l.length ≤ 4
theorem KtAt.kt {F : Addr → Prop} {H G : Hp} (k : Kt F H G) {b : Addr} (h : KtAt H b) : KtAt G b := by
  rcases h with ⟨l, h, z⟩ | ⟨m, c, l, e, h, z⟩
  · exact .inl ⟨l, h.kt k, z⟩
  · exact .inr ⟨m, c, l, k.tup e, h.kt k, z⟩
theorem dt_kt {K : PySem.W.Frag} {H : Hp} {b : Addr} (h : KtAt H b) : ∃ d, Dt K H 3 (.ref b) d := by
  rcases h with ⟨l, ⟨xs, e, p⟩, z⟩ | ⟨m, c, l, e, ⟨xs, e2, p⟩, z⟩
  · obtain ⟨ds, hd⟩ := dt_all (K := K) (fun v a z => dt_rw z) p
    exact ⟨_, (Dt.tup e hd).1, (Dt.tup e hd).2.1, Nat.le_trans (Dt.tup e hd).2.2 (by decide)⟩
  · obtain ⟨ds, hd⟩ := dt_all (K := K) (fun v a z => dt_rh z) p
    exact ⟨_, Dt.tup e ((Dt.int 2 m).cons ((Dt.tup e2 hd).cons (DtA.nil 2)))⟩
theorem pg_len (f : Rw) (p : Int) : (pgRows f p).length ≤ 4 := by
  unfold pgRows keysFrom
  exact Nat.le_trans (List.length_filterMap_le _ _) (by simp)
theorem hn_len (f : Hn) : (hnRows f).length ≤ 4 := Nat.le_trans (List.length_filterMap_le _ _) (by decide)
section
variable {P : Program} {w : World} {K : PySem.W.Frag} {mg : Str → Option Value} {base : Heap} {A : Ad} {tp : Nat → Addr}
abbrev NscKp : List Str := ["self", "page"]
theorem scKp : FnScope NscKp ["self", "page"] (defScope s_Table_kept) := ⟨rfl, rfl, rfl, by decide +kernel, rfl, by decide +kernel, by decide +kernel⟩
def spKept (A : Ad) (tp : Nat → Addr) : Sp := fun vs H Q _ => ∃ (a r h g : Addr) (t : TT) (n : Nat) (p : Int), vs = [.ref a, .int p] ∧ TabAt A H a r h g t n ∧ Tg (tL tp) H ∧ 0 ≤ p ∧ p ≤ 8 ∧
  ∀ G b, H b = none → Kg (tL tp) No H G → KtAt G b → Q (.ref b) G
theorem ok_kept (T : Txt K mg A) (TB : TbsB base mg A tp) : ∃ fd, FnOk P w K mg base CX0 6 (A.m 64 9) fd ["self", "page"] (spKept A tp) ∧ Binds K fd ["self", "page"] [] := by
  obtain ⟨fdP, G_Table_page_rows, b_Table_page_rows⟩ := ok_page_rows (P := P) (w := w) (base := base) T TB
  obtain ⟨fdH, G_Table_hand_rows, b_Table_hand_rows⟩ := ok_hand_rows (P := P) (w := w) (base := base) T TB
  obtain ⟨fd, F⟩ := T.m_Table_kept.fn
  refine ⟨fd, F.ok scKp (fun vs H Q E h => ?_) (fun cdv Ar outer s H vs Q E hr h => ?_), F.binds fun _ _ _ _ _ _ us hl => match us, hl with | [_, _], _ => rfl⟩
  · obtain ⟨a, r, h, g, t, n, p, rfl, _⟩ := h
    rfl
  · obtain ⟨a, r, h, g, t, n, p, rfl, TA, TG, p0, p8, k⟩ := h
    have hu := hu_of hr
    refine ⟨_, (pss_cons (ps_if (pt_cmpR op_eq (pv 1) (pe_glob (v := .int 8) rfl T.k_HANDS_PAGE.choose_spec ⟨_, rfl⟩) (nomark _))
        (pss_one (ps_ret (pe_tup (pa_cons (pe_fld (pv 0) rfl) (pa_cons (pe_meth0 (pv 0) T.cl_Table T.m_Table_hand_rows.me G_Table_hand_rows (hr.mono (by first | decide | omega)) b_Table_hand_rows .nil pass0) pa_nil)))))
        pss_nil)
      (pss_one (ps_ret (pe_meth (pv 0) T.cl_Table T.m_Table_page_rows.me G_Table_page_rows (hr.mono (by first | decide | omega)) b_Table_page_rows .nil pass0 (pa_cons (pv 1) pa_nil))))), ?_⟩
    obtain ⟨dx, ea⟩ := TA.at_
    refine ⟨_, rfl, rfl, _, rfl, ite2 (fun z => ?_) (fun z => ?_)⟩
    · refine ⟨_, rfl, a, A.c 64, dx, _, _, rfl, ea, T.cl_Table, T.n_Table_moment, l_mom .., _, rfl, a, dx, _, rfl, ea, rfl, a, r, h, g, t, n, rfl, TA, TG, fun G1 c nc kg hph => ⟨sz 2 (by decide), fun b nb => ?_⟩⟩
      exact k _ b (kg.free nb fun z => False.elim z) (kg.trans (Kg.of (Kp.new nb)) fun _ z => False.elim z) (.inr ⟨_, c, _, upd_same, hph.kt (Kp.new (F := No) nb).t, hn_len _⟩)
    · refine ⟨_, rfl, a, dx, _, rfl, ea, rfl, _, rfl, a, r, h, g, t, n, p, rfl, TA, TG, p0, p8, fun G1 c f _ nc kg hpg _ => ?_⟩
      exact k _ c nc kg (.inl ⟨_, hpg, pg_len _ _⟩)
end
end S02

set_option Elab.async false
set_option linter.all false
set_option maxRecDepth 100000
set_option maxHeartbeats 4000000
namespace S02
open PySem PySem.Spec PyProof.Rows L2 K5 SupX GenX
theorem pe_never {X : Cx} {e : Expr} : PE X e (fun _ _ _ => False) := ⟨fun _ _ _ _ _ _ h => False.elim h⟩
/-! a comprehension of two fors: over a range, over a tuple -/
/-- the inner turns -/
def In1 (J1 : It) (g1 : TG) (tt1 : L2.TT) (te : TE) (vs1 : List Nat) (σ2 : L2.St) (D : Addr) (N : Hp → Prop) (H4 : Hp) : Prop := ∃ W1 : Nat → Nat → Hp → Prop, (∃ m, W1 0 m H4) ∧ ∀ j k H, W1 j k H →
  (J1.stop j H ∧ N H) ∨ (J1.go j H ∧ ∃ Nx1 : Hp → Prop, (∀ H', Nx1 H' → ∃ k', k' < k ∧ W1 (j + 1) k' H') ∧ ∀ x H', J1.yld j H x H' → g1 x (wipe σ2 vs1) H' fun σ3 H5 => wipe σ3 vs1 = wipe σ2 vs1 ∧ tt1 σ3 H5 fun b H6 =>
    if b = true then te σ3 H6 fun y H7 => ∃ acc, H7 D = some (.lst acc) ∧ acc.length < sizeLine ∧ Nx1 (upd H7 D (.lst (acc ++ [y]))) else Nx1 H6)
theorem in_tup {K : PySem.W.Frag} {a : Addr} {xs : List V} {g1 : TG} {tt1 : L2.TT} {te : TE} {vs1 : List Nat} {σ2 : L2.St} {D : Addr} {N : Hp → Prop} {H4 : Hp} (Pv : Nat → Hp → Prop) (h0 : Pv 0 H4) (hl : ∀ i H, i ≤ xs.length → Pv i H → SqT K H a xs)
    (hs : ∀ i x H, xs[i]? = some x → Pv i H → g1 x (wipe σ2 vs1) H fun σ3 H5 => wipe σ3 vs1 = wipe σ2 vs1 ∧ tt1 σ3 H5 fun b H6 => if b = true then te σ3 H6 fun y H7 => ∃ acc, H7 D = some (.lst acc) ∧ acc.length < sizeLine ∧ Pv (i + 1) (upd H7 D (.lst (acc ++ [y]))) else Pv (i + 1) H6)
    (hd : ∀ H, Pv xs.length H → N H) : In1 (Itt K a) g1 tt1 te vs1 σ2 D N H4 := by
  refine ⟨fun i m H => m = xs.length - i ∧ i ≤ xs.length ∧ Pv i H, ⟨xs.length, by simp, Nat.zero_le _, h0⟩, ?_⟩
  rintro i m H ⟨rfl, hi, p⟩
  have q := hl i H hi p
  by_cases hlt : i < xs.length
  · refine .inr ⟨⟨xs, xs[i], q, by simp [hlt]⟩, Pv (i + 1), fun H' p' => ⟨xs.length - (i + 1), by omega, rfl, hlt, p'⟩, fun x H' y => ?_⟩
    obtain ⟨e, y⟩ := y
    subst e
    exact hs i x _ (y xs q) p
  · have e : i = xs.length := by omega
    subst e
    exact .inl ⟨⟨xs, q, Nat.le_refl _⟩, hd H p⟩
theorem rng2 {lo : Int} {n : Nat} {g : TG} {tt : L2.TT} {wi1 : TI} {g1 : TG} {tt1 : L2.TT} {te : TE} {vs vs1 : List Nat} {σ : L2.St} {H1 : Hp} {D : Addr} {Qd : Hp → Prop} (Pv : Nat → Hp → Prop) (h0 : Pv 0 (upd H1 D (.lst [])))
    (hs : ∀ i H, i < n → Pv i H → g (.int (lo + i)) (wipe σ vs) H fun σ2 H2 => wipe σ2 vs = wipe σ vs ∧ tt σ2 H2 fun b H3 => if b = true then wi1 σ2 H3 fun J1 H4 => In1 J1 g1 tt1 te vs1 σ2 D (Pv (i + 1)) H4 else Pv (i + 1) H3) (hd : ∀ H, Pv n H → Qd H) :
    ∃ W : Nat → Nat → Hp → Prop, (∃ m, W 0 m (upd H1 D (.lst []))) ∧ ∀ i m H, W i m H →
      ((Itr lo n).stop i H ∧ Qd H) ∨ ((Itr lo n).go i H ∧ ∃ Nx : Hp → Prop, (∀ H', Nx H' → ∃ m', m' < m ∧ W (i + 1) m' H') ∧ ∀ x H', (Itr lo n).yld i H x H' → g x (wipe σ vs) H' fun σ2 H2 => wipe σ2 vs = wipe σ vs ∧ tt σ2 H2 fun b H3 =>
        if b = true then wi1 σ2 H3 fun J1 H4 => In1 J1 g1 tt1 te vs1 σ2 D Nx H4 else Nx H3) := by
  refine ⟨fun i m H => m = n - i ∧ i ≤ n ∧ Pv i H, ⟨n, by simp, Nat.zero_le _, h0⟩, ?_⟩
  rintro i m H ⟨rfl, hi, p⟩
  by_cases h : i < n
  · refine .inr ⟨h, Pv (i + 1), fun H' p' => ⟨n - (i + 1), by omega, rfl, h, p'⟩, fun x H' y => ?_⟩
    obtain ⟨e, y⟩ := y
    subst e y
    exact hs i _ h p
  · have e : i = n := by omega
    subst e
    exact .inl ⟨Nat.le_refl _, hd H p⟩
def shF (m : Int) (x : Int × Int × Int) : Bool := shB x.2.2 m
theorem row_shw (m : Int) (f : Rw) (k : Int) : (rowOf f k).filter (shF m) = (shw m f k).map fun x => (k, x.1, x.2) := by
  unfold rowOf shw
  cases f k with
  | none => rfl
  | some x =>
    show (if shB x.2 m = true then some (k, x.1, x.2) else none) = (if shB x.2 m = true then some x else none).map fun x => (k, x.1, x.2)
    by_cases h : shB x.2 m = true
    · rw [if_pos h, if_pos h]
      rfl
    · rw [if_neg h, if_neg h]
      rfl
theorem rows_shw (m : Int) (f : Rw) (ks : List Int) : (ks.filterMap (rowOf f)).filter (shF m) = ks.filterMap fun k => (shw m f k).map fun x => (k, x.1, x.2) := by
  rw [List.filter_filterMap]
  exact congrArg (fun h => List.filterMap h ks) (funext fun k => row_shw m f k)
theorem Sim.page {m : Int} {f g : Rw} (s : Sim m f g) (p : Int) : (pgRows f p).filter (shF m) = (pgRows g p).filter (shF m) := by
  unfold pgRows
  rw [rows_shw, rows_shw]
  exact congrArg (fun h => List.filterMap h _) (funext fun k => by rw [s k])
section
variable {P : Program} {w : World} {K : PySem.W.Frag} {mg : Str → Option Value} {base : Heap} {A : Ad} {tp : Nat → Addr}
abbrev NscSh : List Str := ["self", "page", "row"]
theorem scSh : FnScope NscSh ["self", "page"] (defScope s_Table_shown) := ⟨rfl, rfl, rfl, by decide +kernel, rfl, by decide +kernel, by decide +kernel⟩
def spShownM (A : Ad) (tp : Nat → Addr) : Sp := fun vs H Q _ => ∃ (a r h g : Addr) (t : TT) (n : Nat) (p : Int), vs = [.ref a, .int p] ∧ TabAt A H a r h g t n ∧ Tg (tL tp) H ∧ 0 ≤ p ∧ p ≤ 7 ∧
  ∀ G b, H b = none → Kg (tL tp) No H G → PgAt G b ((pgRows t.rows p).filter (shF t.mom)) → Q (.ref b) G
theorem ok_shown (T : Txt K mg A) (TB : TbsB base mg A tp) : ∃ fd, FnOk P w K mg base CX0 6 (A.m 64 10) fd ["self", "page"] (spShownM A tp) ∧ Binds K fd ["self", "page"] [] := by
  obtain ⟨fdP, Gpr, bpr⟩ := ok_page_rows (P := P) (w := w) (base := base) T TB
  obtain ⟨fdS, Gis, bis⟩ := ok_is_shown (P := P) (w := w) (base := base) T
  refine okC T.C_Table_shown scSh (fun vs H Q E h => ?_) (fun Ar outer s H vs Q E hr h => ?_) (fun _ _ _ _ _ us hl => match us, hl with | [_, _], _ => rfl)
  · obtain ⟨a, r, h, g, t, n, p, rfl, _⟩ := h
    rfl
  · obtain ⟨a, r, h, g, t, n, p, rfl, TA, TG, p0, p7, k⟩ := h
    have hu := hu_of hr
    refine ⟨_, pss_cons (ps_if (pt_cmpR op_eq (pv 1) (pe_glob (v := .int 8) rfl T.k_HANDS_PAGE.choose_spec ⟨_, rfl⟩) (nomark _)) (pss_one (ps_ret pe_never)) pss_nil)
      (pss_one (ps_ret (pe_tupG (k := 2) (pgen_gex (k := 1) (own := [("row", 2)]) (g := gName 2) (tt := tB (tCall spShown [] E0 (tCons (tOp (rIxT K) (tVar 2) (tC (.int 2))) (tCons (tFld K (tVar 0) "moment") tNil)))) (te := tVar 2) hr.hd (by have := hr.dp; show (Ar.deeper _).depth < _; omega) TB.sh rfl (blkOk_by (N := NscSh) (sc := defScope s_Table_shown) (by decide +kernel)) scSh.nd (by decide +kernel) rfl rfl
        (pi_tup (pe_meth (pv 0) T.cl_Table T.m_Table_page_rows.me Gpr hr bpr .nil pass0 (pa_cons (pv 1) pa_nil))) (fun _ => rfl)
        (fun _ _ _ _ _ _ _ _ => pg_name (i := 2) scSh.nd rfl (Or.inl rfl)) (fun _ _ _ _ _ _ _ hr => by exact pts_one (pt_val (pe_call Gis hr rfl T.is_shown.at_ T.is_shown.kp bis .nil pass0 (pa_cons (pe_ix ix_tup (pv 2) pe_int (fun _ _ => rfl)) (pa_cons (pe_fld (pv 0) rfl) pa_nil))))) (fun _ _ _ _ _ _ _ hr => by exact pv 2)) (hr.mono (by decide)) rfl T.tuple))), ?_⟩
    have m10 : tp 10 ∈ tL tp := List.mem_cons_of_mem _ (List.mem_cons_of_mem _ List.mem_cons_self)
    obtain ⟨dx, ea⟩ := TA.at_
    refine ⟨_, rfl, rfl, _, rfl, ?_⟩
    rw [show decide (V.int p = V.int 8) = false by simp; omega]
    refine iteF ⟨_, rfl, a, dx, _, rfl, ea, rfl, _, rfl, a, r, h, g, t, n, p, rfl, TA, TG, p0, by omega, fun G1 c f sf nc kg hpg _ => ?_⟩
    obtain ⟨xs, hc, pc⟩ := hpg
    obtain ⟨ps, hP, tri⟩ := (TG.kg kg) _ m10
    refine ⟨c, rfl, ⟨_, SqT.of hc⟩, ps, hP, tri, fun qs tq => ?_⟩
    have kt : Kg (tL tp) No H (upd G1 (tp 10) (.tbl qs)) := kg.trans (Kg.tab m10 hP tq) fun _ z => False.elim z
    have k1 : Kg (tL tp) No G1 (upd G1 (tp 10) (.tbl qs)) := Kg.tab m10 hP tq
    generalize upd G1 (tp 10) (.tbl qs) = G2 at kt k1 ⊢
    have hc2 := k1.t.tup hc
    have pc2 : Paired (RwV G2) xs (pgRows f p) := pc.mono fun _ _ z => z.kt k1.t
    refine gx_tup (K := K) (a := c) (xs := xs) (fun i zs J => Kg (tL tp) No G2 J ∧ zs.length ≤ i ∧ Paired (RwV J) zs (((pgRows f p).take i).filter (shF t.mom))) ⟨Kg.refl _ _ _, Nat.le_refl _, by rw [List.take_zero]; exact .nil⟩ (fun i zs J _ ⟨kJ, _⟩ => SqT.of (kJ.t.tup hc2)) ?_ ?_
    · rintro i x zs J hx ⟨kJ, hl, pJ⟩
      obtain ⟨y, hy, q, rfl, hq⟩ := paired_at pc2 hx
      have hqJ := kJ.t.tup hq
      have hi4 : i < 4 := by
        have h1 := (List.getElem?_eq_some_iff.mp hx).1
        have h2 := pg_len f p
        rw [← pc.length] at h2
        omega
      have tk1 : (((pgRows f p).take (i + 1)).filter (shF t.mom)) = ((pgRows f p).take i).filter (shF t.mom) ++ (if shF t.mom y = true then [y] else []) := by
        rw [take_snoc hy, List.filter_append, List.filter_cons]
        cases shF t.mom y <;> rfl
      have eJ := (kt.trans kJ fun _ z => False.elim z).t.ins ea fun z => z
      refine ⟨rfl, _, rfl, q, _, 2, .int y.2.2, rfl, rfl, SqT.of hqJ, rfl, _, rfl, a, A.c 64, dx, _, _, rfl, eJ, T.cl_Table, T.n_Table_moment, l_mom .., y.2.2, t.mom, rfl, _, rfl, ?_⟩
      refine ite2 (fun z => ⟨_, rfl, szL (by omega), kJ, by rw [List.length_append]; simp only [List.length_cons, List.length_nil]; omega, ?_⟩) (fun z => ⟨kJ, Nat.le_succ_of_le hl, ?_⟩)
      · rw [tk1, if_pos (show shF t.mom y = true from z)]
        exact pJ.snoc ⟨q, rfl, hqJ⟩
      · rw [tk1, if_neg (show ¬ shF t.mom y = true from z), List.append_nil]
        exact pJ
    · rintro zs J ⟨kJ, hl, pJ⟩
      intro b nb
      have kHJ : Kg (tL tp) No H J := kt.trans kJ fun _ z => False.elim z
      rw [pc.length, List.take_length, sf.page p] at pJ
      exact k _ b (kHJ.free nb fun z => False.elim z) (kHJ.trans (Kg.of (Kp.new nb)) fun _ z => False.elim z) ⟨zs, upd_same, pJ.mono fun _ _ z => z.kt (Kp.new (F := No) nb).t⟩
/-! all that is shown -/
def whRows (t : TT) (n : Nat) : List (Int × Int × Int) := (keysFrom 0 n).flatMap fun p => (pgRows t.rows p).filter (shF t.mom)
theorem whRows_succ (t : TT) (n : Nat) : whRows t (n + 1) = whRows t n ++ (pgRows t.rows n).filter (shF t.mom) := by
  unfold whRows
  rw [keysFrom_succ, List.flatMap_append, Int.zero_add]
  simp
theorem wh_len (t : TT) (n : Nat) : (whRows t n).length ≤ 4 * n := by
  induction n with
  | zero => exact Nat.le_refl _
  | succ n ih =>
    rw [whRows_succ, List.length_append]
    have := Nat.le_trans (List.length_filter_le (shF t.mom) _) (pg_len t.rows n)
    omega
abbrev NscTw : List Str := ["self", "rows", "page", "row"]
theorem scTw : FnScope NscTw ["self"] (defScope s_Table_told_whole) := ⟨rfl, rfl, rfl, by decide +kernel, rfl, by decide +kernel, by decide +kernel⟩
def spWhole (A : Ad) (tp : Nat → Addr) : Sp := fun vs H Q _ => ∃ (a r h g : Addr) (t : TT) (n : Nat), vs = [.ref a] ∧ TabAt A H a r h g t n ∧ Tg (tL tp) H ∧
  ∀ G b l1 l2 xs zs, H b = none → H l1 = none → H l2 = none → l1 ≠ l2 → Kg (tL tp) No H G → G b = some (.tup [.int t.mom, .ref l1, .ref l2]) → G l1 = some (.lst xs) → Paired (RwV G) xs (whRows t 8) → G l2 = some (.lst zs) → Paired (RhV G) zs (hnRows t.hands) → Q (.ref b) G
theorem ok_told_whole (T : Txt K mg A) (TB : TbsB base mg A tp) : ∃ fd, FnOk P w K mg base CX0 7 (A.m 64 5) fd ["self"] (spWhole A tp) ∧ Binds K fd ["self"] [] := by
  obtain ⟨fd, F⟩ := T.m_Table_told_whole.fn
  obtain ⟨fdS, Gsh, bsh⟩ := ok_shown (P := P) (w := w) (base := base) T TB
  obtain ⟨fdH, Ghr, bhr⟩ := ok_hand_rows (P := P) (w := w) (base := base) T TB
  refine ⟨fd, F.ok scTw (fun vs H Q E h => ?_) (fun cdv Ar outer s H vs Q E hr h => ?_), F.binds fun _ _ _ _ _ _ us hl => match us, hl with | [_], _ => rfl⟩
  · obtain ⟨a, r, h, g, t, n, rfl, _⟩ := h
    rfl
  · obtain ⟨a, r, h, g, t, n, rfl, TA, TG, k⟩ := h
    have hu := hu_of hr
    refine ⟨_, pss_cons (ps_setLc2 (i := 1) (own := [("page", 2), ("row", 3)]) (vs1 := [3]) (g := gName 2) (g1 := gName 3) (tt := tYes) (tt1 := tYes) (te := tVar 3) (wi1 := iTup K (tMeth (A.c 64) "shown" (spShownM A tp) [] E0 (tVar 0) (tCons (tVar 2) tNil))) (by rfl) scTw.nd rfl rfl (sw_true rfl rfl rfl (by decide +kernel)) (pi_range1 (by rfl) T.range (pa_cons (pe_glob (v := .int 8) rfl T.k_HANDS_PAGE.choose_spec ⟨_, rfl⟩) pa_nil)) (blkOk_by (N := NscTw) (sc := defScope s_Table_told_whole) (by decide +kernel)) (by simp)
        (fun _ _ _ _ _ => pg_name (i := 2) scTw.nd rfl (Or.inl rfl)) (fun _ _ _ _ _ => pts_nil) (fun _ _ _ _ _ => by exact pi_tup (pe_meth (pv 0) T.cl_Table T.m_Table_shown.me Gsh hr bsh .nil pass0 (pa_cons (pv 2) pa_nil))) (fun _ _ _ _ _ => pg_name (i := 3) scTw.nd rfl (Or.inl rfl)) (fun _ _ _ _ _ => pts_nil) (fun _ _ _ _ _ => pv 3))
      (pss_one (ps_ret (pe_tup (pa_cons (pe_fld (pv 0) rfl) (pa_cons (pv 1) (pa_cons (pe_callTy call_list_of (by rfl) T.list (by decide +kernel) (pa_cons (pe_meth0 (pv 0) T.cl_Table T.m_Table_hand_rows.me Ghr (hr.mono (by decide)) bhr .nil pass0) pa_nil)) pa_nil)))))), ?_⟩
    have nfD : ∀ {D : Addr}, H D = none → ∀ b, b = D → ¬ tF a r h g b := fun {D} nD b z y => by
      obtain ⟨o, e⟩ := TA.there y
      rw [z, nD] at e
      cases e
    refine ⟨8, rfl, by decide, by decide, fun D nD => ?_⟩
    refine rng2 (lo := 0) (n := (8 : Int).toNat) (fun i J => Kg (tL tp) (fun b => b = D) H J ∧ ∃ xs, J D = some (.lst xs) ∧ xs.length ≤ 4 * i ∧ Paired (RwV J) xs (whRows t i)) ⟨Kg.of (Kp.new nD), [], upd_same, Nat.le_refl _, .nil⟩ ?_ ?_
    · rintro i J hi ⟨kJ, xs, hD, hl, pJ⟩
      have hi8 : i < 8 := by simpa using hi
      have TJ := TA.kt kJ.t (nfD nD)
      obtain ⟨dxJ, eJ⟩ := TJ.at_
      refine ⟨rfl, _, rfl, a, dxJ, _, rfl, eJ, rfl, _, rfl, a, r, h, g, t, n, 0 + (i : Nat), rfl, TJ, TG.kg kJ, by omega, by omega, fun G1 c nc kg hpg => ?_⟩
      rw [Int.zero_add] at hpg
      obtain ⟨cs, hc, pc⟩ := hpg
      have hcl : cs.length ≤ 4 := by rw [pc.length]; exact Nat.le_trans (List.length_filter_le _ _) (pg_len _ _)
      have hD1 : G1 D = some (.lst xs) := kg.t.lst hD fun z => z
      have ncD : c ≠ D := ne_of hc hD1 (by intro z; cases z)
      refine ⟨c, rfl, ⟨_, SqT.of hc⟩, ?_⟩
      refine in_tup (K := K) (a := c) (xs := cs) (fun j L => Kg (tL tp) (fun b => b = D) G1 L ∧ L D = some (.lst (xs ++ cs.take j))) ⟨Kg.refl _ _ _, by rw [List.take_zero, List.append_nil]; exact hD1⟩ (fun j L _ ⟨kL, _⟩ => SqT.of (kL.t.tup hc)) ?_ ?_
      · rintro j x L hx ⟨kL, hLD⟩
        refine ⟨rfl, _, rfl, _, hLD, szL ?_, kL.trans (Kg.of (Kp.updL (F := fun b => b = D) hLD rfl)) (fun _ z => .inl z), ?_⟩
        · rw [List.length_append, List.length_take]
          omega
        · rw [upd_same, take_snoc hx, List.append_assoc]
      · rintro L ⟨kL, hLD⟩
        rw [List.take_length] at hLD
        have kJL : Kg (tL tp) (fun b => b = D) J L := (kg.sub fun _ z => False.elim z).trans kL fun _ z => .inl z
        refine ⟨kJ.trans kJL fun _ z => .inl z, _, hLD, by rw [List.length_append]; omega, ?_⟩
        rw [whRows_succ]
        exact paired_app (pJ.mono fun _ _ z => z.kt kJL.t) (pc.mono fun _ _ z => z.kt kL.t)
    · rintro J ⟨kJ, xs, hD, hl, pJ⟩
      have TJ := TA.kt kJ.t (nfD nD)
      obtain ⟨dxJ, eJ⟩ := TJ.at_
      have kJ0 : Kg (tL tp) No H J := kJ.fresh fun b z => by rw [z]; exact nD
      refine ⟨_, rfl, a, A.c 64, dxJ, _, _, rfl, eJ, T.cl_Table, T.n_Table_moment, l_mom .., _, rfl, _, rfl, a, dxJ, _, rfl, eJ, rfl, a, r, h, g, t, n, rfl, TJ, TG.kg kJ, fun G1 c nc kg hph => ?_⟩
      obtain ⟨zs, hc, pz⟩ := hph
      have hD1 : G1 D = some (.lst xs) := kg.t.lst hD fun z => z
      refine ⟨c, _, rfl, .inr (SqT.of hc), fun l2 nl2 => ⟨sz 3 (by decide), fun b nb => ?_⟩⟩
      have k1 : Kp No G1 _ := (Kp.new (o := .lst zs) nl2).andN (o' := .tup [.int t.mom, .ref D, .ref l2]) nb
      have kF : Kg (tL tp) No H _ := (kJ0.trans kg fun _ z => False.elim z).trans (Kg.of k1) fun _ z => False.elim z
      have kHG1 : Kg (tL tp) No H G1 := kJ0.trans kg fun _ z => False.elim z
      have nl2H : H l2 = none := kHG1.free nl2 fun z => False.elim z
      have nbH : H b = none := kHG1.free (upd_none nb).2 fun z => False.elim z
      refine k _ b D l2 xs zs nbH nD nl2H (ne_of_none hD1 nl2) kF upd_same (k1.t.lst hD1 fun z => z) (pJ.mono fun _ _ z => (z.kt kg.t).kt k1.t) ?_ (pz.mono fun _ _ z => z.kt k1.t)
      rw [upd_ne (upd_none nb).1.symm, upd_same]
end
end S02

set_option Elab.async false
set_option linter.all false
set_option maxRecDepth 100000
set_option maxHeartbeats 4000000
namespace S02
open PySem PySem.Spec PyProof.Rows L2 K5 SupX GenX
theorem takesN0 {X : Cx} : L2N.Takes X (fun _ _ _ _ => False) := fun _ _ ⟨_, _, _, _, _, _, _, _, _, _, _, _, _, _, _, _, w⟩ => w.elim
section
variable {P : Program} {w : World} {K : PySem.W.Frag} {mg : Str → Option Value} {base : Heap} {A : Ad} {tp : Nat → Addr}
/-! ### __init__ -/
theorem scTi : FnScope ["self"] ["self"] (defScope s_Table___init__) := ⟨rfl, rfl, rfl, by decide +kernel, rfl, by decide +kernel, by decide +kernel⟩
def spTInit (A : Ad) : Sp := fun vs H Q _ => ∃ (a dx : Addr), vs = [.ref a] ∧ H a = some (.ins (A.c 64) dx []) ∧ ∀ G r h g, H r = none → H h = none → H g = none → TabAt A G a r h g TT.new 0 → Kp (fun b => b = a) H G → Q .non G
theorem ok_tinit (T : Txt K mg A) : ∃ fd, FnOk P w K mg base CX0 1 (A.m 64 0) fd ["self"] (spTInit A) ∧ Binds K fd ["self"] [] := by
  obtain ⟨fd, F⟩ := T.m_Table___init__.fn
  refine ⟨fd, F.ok scTi (fun vs H Q E h => ?_) (fun cdv Ar outer s H vs Q E hr h => ?_), F.binds fun _ _ _ _ _ _ us hl => match us, hl with | [_], _ => rfl⟩
  · obtain ⟨a, dx, rfl, _⟩ := h
    rfl
  · obtain ⟨a, dx, rfl, ea, k⟩ := h
    refine ⟨_, (pss_cons (ps_fld (pv 0) pe_int rfl)
      (pss_cons (ps_fld (pv 0) pe_int rfl)
      (pss_cons (ps_fld (pv 0) pe_dnewK rfl)
      (pss_one (ps_fld (pv 0) pe_dnewK rfl))))), ?_⟩
    have lt : ∀ n : Nat, n ≤ 5 → n < 1000 := fun n h => by omega
    refine ⟨_, rfl, a, A.c 64, dx, _, rfl, ea, T.cl_Table, T.n_Table_number, lt 0 (by decide), ?_⟩
    refine ⟨_, rfl, a, A.c 64, dx, _, rfl, upd_same, T.cl_Table, T.n_Table_moment, lt 1 (by decide), ?_⟩
    rw [upd_upd]
    have k1 : Kp (fun b => b = a) H (upd H a (.ins (A.c 64) dx [("number", .int 0), ("moment", .int 0)])) := Kp.updI ea rfl
    have e1 : upd H a (.ins (A.c 64) dx [("number", .int 0), ("moment", .int 0)]) a = some (.ins (A.c 64) dx [("number", .int 0), ("moment", .int 0)]) := upd_same
    show tSeq _ _ _ _ (upd H a (.ins (A.c 64) dx [("number", .int 0), ("moment", .int 0)]))
    generalize upd H a (.ins (A.c 64) dx [("number", .int 0), ("moment", .int 0)]) = H1 at k1 e1 ⊢
    refine fun r nr => ⟨_, rfl, a, A.c 64, dx, _, rfl, (upd_ne (ne_of_none e1 nr)).trans e1, T.cl_Table, T.n_Table_rows, lt 2 (by decide), ?_⟩
    have k2 : Kp (fun b => b = a) H1 (upd (upd H1 r (.dK [])) a (.ins (A.c 64) dx [("number", .int 0), ("moment", .int 0), ("rows", .ref r)])) := (Kp.new nr).andI ((upd_ne (ne_of_none e1 nr)).trans e1) rfl
    have e2 : upd (upd H1 r (.dK [])) a (.ins (A.c 64) dx [("number", .int 0), ("moment", .int 0), ("rows", .ref r)]) a = some (.ins (A.c 64) dx [("number", .int 0), ("moment", .int 0), ("rows", .ref r)]) := upd_same
    have r2 : upd (upd H1 r (.dK [])) a (.ins (A.c 64) dx [("number", .int 0), ("moment", .int 0), ("rows", .ref r)]) r = some (.dK []) := by rw [upd_ne (ne_of_none e1 nr).symm, upd_same]
    show tSeq _ _ _ _ (upd (upd H1 r (.dK [])) a (.ins (A.c 64) dx [("number", .int 0), ("moment", .int 0), ("rows", .ref r)]))
    generalize upd (upd H1 r (.dK [])) a (.ins (A.c 64) dx [("number", .int 0), ("moment", .int 0), ("rows", .ref r)]) = H2 at k2 e2 r2 ⊢
    refine fun h nh => ⟨_, rfl, a, A.c 64, dx, _, rfl, (upd_ne (ne_of_none e2 nh)).trans e2, T.cl_Table, T.n_Table_hands, lt 3 (by decide), ?_⟩
    have k3 : Kp (fun b => b = a) H2 (upd (upd H2 h (.dK [])) a (.ins (A.c 64) dx [("number", .int 0), ("moment", .int 0), ("rows", .ref r), ("hands", .ref h)])) := (Kp.new nh).andI ((upd_ne (ne_of_none e2 nh)).trans e2) rfl
    have e3 : upd (upd H2 h (.dK [])) a (.ins (A.c 64) dx [("number", .int 0), ("moment", .int 0), ("rows", .ref r), ("hands", .ref h)]) a = some (.ins (A.c 64) dx [("number", .int 0), ("moment", .int 0), ("rows", .ref r), ("hands", .ref h)]) := upd_same
    have h3 : upd (upd H2 h (.dK [])) a (.ins (A.c 64) dx [("number", .int 0), ("moment", .int 0), ("rows", .ref r), ("hands", .ref h)]) h = some (.dK []) := by rw [upd_ne (ne_of_none e2 nh).symm, upd_same]
    rw [show putF "hands" (V.ref h) [("number", V.int 0), ("moment", V.int 0), ("rows", V.ref r)] = ([("number", V.int 0), ("moment", V.int 0), ("rows", V.ref r), ("hands", V.ref h)] : List (Str × V)) from rfl]
    generalize upd (upd H2 h (.dK [])) a (.ins (A.c 64) dx [("number", .int 0), ("moment", .int 0), ("rows", .ref r), ("hands", .ref h)]) = H3 at k3 e3 h3 ⊢
    have nra : ¬ r = a := (ne_of_none e1 nr).symm
    have nha : ¬ h = a := (ne_of_none e2 nh).symm
    have r3 := k3.t.dK r2 nra
    have kk : Kp (fun b => b = a) H _ := (k1.trans k2 fun _ z => .inl z).trans k3 fun _ z => .inl z
    have hr0 : H r = none := k1.free nr fun z => by rw [show r = a from z, e1] at nr; cases nr
    have hh0 : H h = none := (k1.trans k2 fun _ z => .inl z).free nh fun z => by rw [show h = a from z, e2] at nh; cases nh
    exact k _ r h r hr0 hh0 hr0 ⟨⟨dx, e3⟩, ⟨_, Sim.refl _ _, [], r3, Nat.le_refl _, fun _ => rfl⟩, ⟨[], h3, Nat.le_refl _, ⟨⟨[], rfl, .nil⟩, fun _ z => absurd rfl z⟩, fun _ => rfl⟩, ⟨[], r3⟩, ne_of_none r2 nh⟩ kk
/-! ### twin -/
theorem scTt : FnScope ["self", "other"] ["self"] (defScope s_Table_twin) := ⟨rfl, rfl, rfl, by decide +kernel, rfl, by decide +kernel, by decide +kernel⟩
def spTwin (A : Ad) : Sp := fun vs H Q _ => ∃ (a r h g : Addr) (t : TT) (n : Nat), vs = [.ref a] ∧ TabAt A H a r h g t n ∧ ∀ G a' r' h' g', H a' = none → H r' = none → H h' = none → H g' = none → TabAt A G a' r' h' g' t n → Kp No H G → Q (.ref a') G
theorem ok_twin (T : Txt K mg A) : ∃ fd, FnOk P w K mg base CX0 3 (A.m 64 1) fd ["self"] (spTwin A) ∧ Binds K fd ["self"] [] := by
  obtain ⟨fd, F⟩ := T.m_Table_twin.fn
  obtain ⟨fdI, G_Table___init__, b_Table___init__⟩ := ok_tinit (P := P) (w := w) (base := base) T
  refine ⟨fd, F.ok scTt (fun vs H Q E h => ?_) (fun cdv Ar outer s H vs Q E hr h => ?_), F.binds fun _ _ _ _ _ _ us hl => match us, hl with | [_], _ => rfl⟩
  · obtain ⟨a, r, h, g, t, n, rfl, _⟩ := h
    rfl
  · obtain ⟨a, r, h, g, t, n, rfl, TA, k⟩ := h
    refine ⟨_, (pss_cons (ps_set (i := 1) scTt.nd rfl (Or.inl rfl) (pe_make0 (E := E0) T.mk_Table G_Table___init__ (hr.mono (by first | decide | omega)) rfl T.c_Table b_Table___init__ .nil pass0))
      (pss_cons (ps_fld (pv 1) (pe_fld (pv 0) rfl) rfl)
      (pss_cons (ps_fld (pv 1) (pe_fld (pv 0) rfl) rfl)
      (pss_cons (ps_fld (pv 1) (pe_callTy call_dictD (by rfl) T.dict (by decide +kernel) (pa_cons (pe_fld (pv 0) rfl) pa_nil)) rfl)
      (pss_cons (ps_fld (pv 1) (pe_callTy call_dictD (by rfl) T.dict (by decide +kernel) (pa_cons (pe_fld (pv 0) rfl) pa_nil)) rfl)
      (pss_one (ps_ret (pv 1)))))))), ?_⟩
    obtain ⟨dx, ea⟩ := TA.at_
    obtain ⟨kr, hr1⟩ := TA.rows.dc
    obtain ⟨kh, hh1⟩ := TA.hands.dc
    refine fun a' dx' na ndx nex => ⟨a', dx', rfl, upd_same, fun G r0 h0 g0 nr nh ng TB kG => ?_⟩
    have na0 : upd H dx' (.own a') a' = none := (upd_ne nex.symm).trans na
    have k0 : Kp (fun b => b = a') H G := (((Kp.new (F := fun b => b = a') ndx).andN na0).trans kG fun _ z => .inl z)
    obtain ⟨dx2, e0⟩ := TB.at_
    have nfa : ∀ {b o}, H b = some o → ¬ b = a' := fun e z => by rw [z, na] at e; cases e
    have eG := k0.t.ins ea (nfa ea)
    refine ⟨rfl, _, rfl, a, A.c 64, dx, _, _, rfl, eG, T.cl_Table, T.n_Table_number, l_num .., _, rfl, a', A.c 64, dx2, _, rfl, e0, T.cl_Table, T.n_Table_number, by show 4 < 1000; decide, ?_⟩
    rw [p_num]
    have k1 : Kp (fun b => b = a') H (upd G a' (.ins (A.c 64) dx2 (tfl t.num TT.new.mom r0 h0))) := k0.andI e0 rfl
    have e1 : upd G a' (.ins (A.c 64) dx2 (tfl t.num TT.new.mom r0 h0)) a' = some (.ins (A.c 64) dx2 (tfl t.num TT.new.mom r0 h0)) := upd_same
    generalize upd G a' (.ins (A.c 64) dx2 (tfl t.num TT.new.mom r0 h0)) = G1 at k1 e1 ⊢
    refine ⟨_, rfl, a, A.c 64, dx, _, _, rfl, k1.t.ins ea (nfa ea), T.cl_Table, T.n_Table_moment, l_mom .., _, rfl, a', A.c 64, dx2, _, rfl, e1, T.cl_Table, T.n_Table_moment, by show 4 < 1000; decide, ?_⟩
    rw [p_mom]
    have k2 : Kp (fun b => b = a') H (upd G1 a' (.ins (A.c 64) dx2 (tfl t.num t.mom r0 h0))) := k1.andI e1 rfl
    have e2 : upd G1 a' (.ins (A.c 64) dx2 (tfl t.num t.mom r0 h0)) a' = some (.ins (A.c 64) dx2 (tfl t.num t.mom r0 h0)) := upd_same
    generalize upd G1 a' (.ins (A.c 64) dx2 (tfl t.num t.mom r0 h0)) = G2 at k2 e2 ⊢
    refine ⟨_, rfl, a, A.c 64, dx, _, _, rfl, k2.t.ins ea (nfa ea), T.cl_Table, T.n_Table_rows, l_rows .., r, kr, rfl, .inl (k2.t.dK hr1 (nfa hr1)), fun r' nr' => ⟨_, rfl, a', A.c 64, dx2, _, rfl, (upd_ne (ne_of_none e2 nr')).trans e2, T.cl_Table, T.n_Table_rows, by show 4 < 1000; decide, ?_⟩⟩
    rw [p_rows]
    have j3 : Kp (fun b => b = a') G2 (upd (upd G2 r' (.dK kr)) a' (.ins (A.c 64) dx2 (tfl t.num t.mom r' h0))) := (Kp.new nr').andI ((upd_ne (ne_of_none e2 nr')).trans e2) rfl
    have e3 : upd (upd G2 r' (.dK kr)) a' (.ins (A.c 64) dx2 (tfl t.num t.mom r' h0)) a' = some (.ins (A.c 64) dx2 (tfl t.num t.mom r' h0)) := upd_same
    have r3 : upd (upd G2 r' (.dK kr)) a' (.ins (A.c 64) dx2 (tfl t.num t.mom r' h0)) r' = some (.dK kr) := by rw [upd_ne (ne_of_none e2 nr').symm, upd_same]
    have nra : ¬ r' = a' := (ne_of_none e2 nr').symm
    have hr0 : H r' = none := k2.free nr' fun z => absurd z nra
    generalize upd (upd G2 r' (.dK kr)) a' (.ins (A.c 64) dx2 (tfl t.num t.mom r' h0)) = G3 at j3 e3 r3 ⊢
    have k3 := k2.trans j3 fun _ z => .inl z
    refine ⟨_, rfl, a, A.c 64, dx, _, _, rfl, k3.t.ins ea (nfa ea), T.cl_Table, T.n_Table_hands, l_hands .., h, kh, rfl, .inl (k3.t.dK hh1 (nfa hh1)), fun h' nh' => ⟨_, rfl, a', A.c 64, dx2, _, rfl, (upd_ne (ne_of_none e3 nh')).trans e3, T.cl_Table, T.n_Table_hands, by show 4 < 1000; decide, ?_⟩⟩
    rw [p_hands]
    have j4 : Kp (fun b => b = a') G3 (upd (upd G3 h' (.dK kh)) a' (.ins (A.c 64) dx2 (tfl t.num t.mom r' h'))) := (Kp.new nh').andI ((upd_ne (ne_of_none e3 nh')).trans e3) rfl
    have e4 : upd (upd G3 h' (.dK kh)) a' (.ins (A.c 64) dx2 (tfl t.num t.mom r' h')) a' = some (.ins (A.c 64) dx2 (tfl t.num t.mom r' h')) := upd_same
    have h4 : upd (upd G3 h' (.dK kh)) a' (.ins (A.c 64) dx2 (tfl t.num t.mom r' h')) h' = some (.dK kh) := by rw [upd_ne (ne_of_none e3 nh').symm, upd_same]
    have nha : ¬ h' = a' := (ne_of_none e3 nh').symm
    have hh0 : H h' = none := k3.free nh' fun z => absurd z nha
    generalize upd (upd G3 h' (.dK kh)) a' (.ins (A.c 64) dx2 (tfl t.num t.mom r' h')) = G4 at j4 e4 h4 ⊢
    have k4 := k3.trans j4 fun _ z => .inl z
    have r4 := j4.t.dK r3 nra
    have rh : r' ≠ h' := ne_of_none r3 nh'
    have k5 : Kp No H G4 := kp_fresh k4 fun b z => by rw [z]; exact na
    exact ⟨_, rfl, k G4 a' r' h' r' na hr0 hh0 hr0 ⟨⟨dx2, e4⟩, TA.rows.copy hr1 r4 k5.t, TA.hands.copy hh1 h4 k5.t, ⟨_, r4⟩, rh⟩ k5⟩
end
end S02

set_option Elab.async false
set_option linter.all false
set_option maxRecDepth 100000
set_option maxHeartbeats 4000000
namespace S02
open PySem PySem.Spec PyProof.Rows L2 K5 SupX GenX
inductive Ev where
  | tick (m : Int)
  | deal (hd x : Int) (ds : List Dd)
def EvAt (H : Hp) (v : V) : Ev → Prop
  | .tick m => ∃ u, v = .ref u ∧ H u = some (.tup [.str "tick", .int m])
  | .deal hd x ds => ∃ u dv, v = .ref u ∧ H u = some (.tup [.str "deal", .int hd, .int x, dv]) ∧ DsAt H dv ds
theorem EvAt.kt {F : Addr → Prop} {H G : Hp} (k : Kt F H G) {v : V} : ∀ {e : Ev}, EvAt H v e → EvAt G v e
  | .tick _, ⟨u, e, q⟩ => ⟨u, e, k.tup q⟩
  | .deal _ _ _, ⟨u, dv, e, q, d⟩ => ⟨u, dv, e, k.tup q, d.kt k⟩
def Ev.ok : Ev → Prop
  | .tick _ => True
  | .deal hd _ ds => 0 ≤ hd ∧ hd ≤ 3 ∧ ds.length ≤ 4
def rowsBe (t : TT) (ds : List Dd) : Rw := match steps t.mom t.rows ds with
  | none => t.rows
  | some f => f
def TT.next (t : TT) : Ev → TT
  | .tick m => ⟨t.rows, m, t.num + 1, t.hands⟩
  | .deal hd x ds => ⟨rowsBe t ds, t.mom, t.num + 1, t.hands.set hd (x, t.num + 1, (steps t.mom t.rows ds).isSome)⟩
def lastL (f : Hn) (h : Int) : Int := match f h with
  | none => 0
  | some x => x.1
def oA : Option Addr → V
  | none => .non
  | some b => .ref b
section
variable {P : Program} {w : World} {K : PySem.W.Frag} {mg : Str → Option Value} {base : Heap} {A : Ad} {tp : Nat → Addr} {B C fI : Addr}
/-! ### last_letter -/
theorem scLl : FnScope ["self", "hand"] ["self", "hand"] (defScope s_Table_last_letter) := ⟨rfl, rfl, rfl, by decide +kernel, rfl, by decide +kernel, by decide +kernel⟩
def spLast (A : Ad) : Sp := fun vs H Q _ => ∃ (a r h g : Addr) (t : TT) (n : Nat) (j : Int), vs = [.ref a, .int j] ∧ TabAt A H a r h g t n ∧ Q (.int (lastL t.hands j)) H
theorem ok_last_letter (T : Txt K mg A) : ∃ fd, FnOk P w K mg base CX0 1 (A.m 64 6) fd ["self", "hand"] (spLast A) ∧ Binds K fd ["self", "hand"] [] := by
  obtain ⟨fd, F⟩ := T.m_Table_last_letter.fn
  refine ⟨fd, F.ok scLl (fun vs H Q E h => ?_) (fun cdv Ar outer s H vs Q E hr h => ?_), F.binds fun _ _ _ _ _ _ us hl => match us, hl with | [_, _], _ => rfl⟩
  · obtain ⟨a, r, h, g, t, n, j, rfl, _⟩ := h
    rfl
  · obtain ⟨a, r, h, g, t, n, j, rfl, TA, k⟩ := h
    have hu := hu_of hr
    refine ⟨_, (pss_one (ps_ret (pe_ifExp (pt_cmp (pc_din hu (pv 1) (pe_fld (pv 0) rfl))) (pe_ix ix_tup (pe_dget hu (pe_fld (pv 0) rfl) (pv 1) (fun _ _ => rfl)) pe_int (fun _ _ => rfl)) pe_int))), ?_⟩
    obtain ⟨dx, ea⟩ := TA.at_
    obtain ⟨kvs, hd, hkl, hk, hv⟩ := TA.hands
    have q := hv j
    refine ⟨_, rfl, _, rfl, a, A.c 64, dx, _, _, rfl, ea, T.cl_Table, T.n_Table_hands, l_hands .., h, _, rfl, DGet.k (k := Sum.inl j) hd, _, rfl, ?_⟩
    unfold lastL at k
    cases e : t.hands j with
    | none =>
      rw [e] at q k
      have q : valV kvs (.inl j : Key) = none := q
      rw [q]
      exact iteF k
    | some z =>
      obtain ⟨x, num, b⟩ := z
      rw [e] at q k
      obtain ⟨u, q1, q2⟩ := q
      have dg : DGet H h (.int j) (some (.ref u)) := by
        have := DGet.k (k := Sum.inl j) hd
        rw [q1] at this
        exact this
      rw [q1]
      exact iteT ⟨_, rfl, a, A.c 64, dx, _, _, rfl, ea, T.cl_Table, T.n_Table_hands, l_hands .., _, rfl, h, .ref u, rfl, dg, u, _, 0, .int x, rfl, rfl, SqT.of q2, rfl, k⟩
/-! ### told_of -/
theorem scTo : FnScope ["self", "key", "token"] ["self", "key", "token"] (defScope s_Table_told_of) := ⟨rfl, rfl, rfl, by decide +kernel, rfl, by decide +kernel, by decide +kernel⟩
def spToldOf (A : Ad) : Sp := fun vs H Q _ => ∃ (a r h g : Addr) (t : TT) (n : Nat) (j tk : Int), vs = [.ref a, .int j, .int tk] ∧ TabAt A H a r h g t n ∧ inB 0 31 j = true ∧ tk ≤ t.num ∧ ∀ G b, H b = none → Kp No H G → G b = some (.tup [.int t.num, oV (seen t.mom t.rows j)]) → Q (.ref b) G
theorem ok_told_of (T : Txt K mg A) : ∃ fd, FnOk P w K mg base CX0 3 (A.m 64 4) fd ["self", "key", "token"] (spToldOf A) ∧ Binds K fd ["self", "key", "token"] [] := by
  obtain ⟨fd, F⟩ := T.m_Table_told_of.fn
  obtain ⟨fdK, Gcheck_key, bcheck_key⟩ := ok_check_key (P := P) (w := w) (base := base) T
  obtain ⟨fdW, Gshown_worth, bshown_worth⟩ := ok_shown_worth (P := P) (w := w) (base := base) T
  refine ⟨fd, F.ok scTo (fun vs H Q E h => ?_) (fun cdv Ar outer s H vs Q E hr h => ?_), F.binds fun _ _ _ _ _ _ us hl => match us, hl with | [_, _, _], _ => rfl⟩
  · obtain ⟨a, r, h, g, t, n, j, tk, rfl, _⟩ := h
    rfl
  · obtain ⟨a, r, h, g, t, n, j, tk, rfl, TA, hj, htk, k⟩ := h
    have hu := hu_of hr
    refine ⟨_, (pss_cons (ps_expr (pe_call (E := fun _ _ _ => False) Gcheck_key (hr.mono (by decide)) rfl T.check_key.at_ T.check_key.kp bcheck_key .nil (L2N.passes_call takesN0 fun _ _ _ _ h => h) (pa_cons (pv 1) pa_nil)))
      (pss_cons (ps_if (pt_cmpR op_gt (pv 2) (pe_fld (pv 0) rfl) (nomark _))
        (pss_one ps_never)
        pss_nil)
      (pss_one (ps_ret (pe_tup (pa_cons (pe_fld (pv 0) rfl) (pa_cons (pe_call Gshown_worth (hr.mono (by first | decide | omega)) rfl T.shown_worth.at_ T.shown_worth.kp bshown_worth .nil pass0 (pa_cons (pe_fld (pv 0) rfl) (pa_cons (pv 1) (pa_cons (pe_fld (pv 0) rfl) pa_nil)))) pa_nil))))))), ?_⟩
    obtain ⟨dx, ea⟩ := TA.at_
    refine ⟨_, rfl, j, rfl, fun _ => ?_, fun z => by rw [hj] at z; cases z⟩
    refine ⟨_, rfl, _, rfl, a, A.c 64, dx, _, _, rfl, ea, T.cl_Table, T.n_Table_number, l_num .., _, _, rfl, rfl, _, rfl, ?_⟩
    rw [decide_eq_false (show ¬ tk > t.num by omega)]
    obtain ⟨f0, s0, R0⟩ := TA.rows
    refine iteF ⟨_, rfl, a, A.c 64, dx, _, _, rfl, ea, T.cl_Table, T.n_Table_number, l_num .., _, rfl, a, A.c 64, dx, _, _, rfl, ea, T.cl_Table, T.n_Table_rows, l_rows .., _, rfl, _, rfl, a, A.c 64, dx, _, _, rfl, ea, T.cl_Table, T.n_Table_moment, l_mom .., r, j, t.mom, f0, n, rfl, R0, sz 2 (by decide), fun b nb => ?_⟩
    exact k _ b nb (Kp.new nb) (by rw [← s0.seen j]; exact upd_same)
/-! ### take_deal -/
theorem scTd : FnScope ["self", "entry", "word", "hand", "letter", "deeds", "behind"] ["self", "entry"] (defScope s_Table_take_deal) := ⟨rfl, rfl, rfl, by decide +kernel, rfl, by decide +kernel, by decide +kernel⟩
def spTakeDeal (A : Ad) : Sp := fun vs H Q _ => ∃ (a r h g u : Addr) (t : TT) (n : Nat) (hd x : Int) (dv : V) (ds : List Dd), vs = [.ref a, .ref u] ∧ TabAt A H a r h g t n ∧ H u = some (.tup [.str "deal", .int hd, .int x, dv]) ∧ DsAt H dv ds ∧ 0 ≤ hd ∧ hd ≤ 3 ∧ ds.length ≤ 4 ∧ n ≤ 14000 ∧
  ∀ G r', (r' = r ∨ H r' = none) → TabAt A G a r' h g ⟨rowsBe t ds, t.mom, t.num, t.hands.set hd (x, t.num, (steps t.mom t.rows ds).isSome)⟩ (n + 5) → Kp (fun b => b = a ∨ b = h) H G → Q .non G
theorem ok_take_deal (T : Txt K mg A) (X : Ex P w K mg A B C fI) : ∃ fd, FnOk P w K mg base CX0 5 (A.m 64 3) fd ["self", "entry"] (spTakeDeal A) ∧ Binds K fd ["self", "entry"] [] := by
  obtain ⟨fd, F⟩ := T.m_Table_take_deal.fn
  obtain ⟨fdR, Grows_behind, brows_behind⟩ := ok_rows_behind (P := P) (w := w) (base := base) T X
  refine ⟨fd, F.ok scTd (fun vs H Q E h => ?_) (fun cdv Ar outer s H vs Q E hr h => ?_), F.binds fun _ _ _ _ _ _ us hl => match us, hl with | [_, _], _ => rfl⟩
  · obtain ⟨a, r, h, g, u, t, n, hd, x, dv, ds, rfl, _⟩ := h
    rfl
  · obtain ⟨a, r, h, g, u, t, n, hd, x, dv, ds, rfl, TA, hu2, hds, h0, h3, h4, hn, k⟩ := h
    have hu := hu_of hr
    refine ⟨_, (pss_cons (ps_asg (pv 1) (pg_tup rfl (pgs_cons (pg_name (i := 2) scTd.nd rfl (Or.inl rfl)) (pgs_cons (pg_name (i := 3) scTd.nd rfl (Or.inl rfl)) (pgs_cons (pg_name (i := 4) scTd.nd rfl (Or.inl rfl)) (pgs_cons (pg_name (i := 5) scTd.nd rfl (Or.inl rfl)) pgs_nil))))))
      (C8.pss_cut (ps_set (i := 6) scTd.nd rfl (Or.inl rfl) (pe_call Grows_behind (hr.mono (by first | decide | omega)) rfl T.rows_behind.at_ T.rows_behind.kp brows_behind .nil pass0 (pa_cons (pe_fld (pv 0) rfl) (pa_cons (pv 5) (pa_cons (pe_fld (pv 0) rfl) pa_nil)))))
      (C8.pss_cut (ps_if (pt_cmp (pc_notN (pv 6)))
        (pss_one (ps_fld (pv 0) (pv 6) rfl))
        pss_nil)
      (pss_one (ps_dput hu (pe_fld (pv 0) rfl) (pv 3) (pe_tup (pa_cons (pv 4) (pa_cons (pe_fld (pv 0) rfl) (pa_cons (pe_cmp (pc_notN (pv 6))) pa_nil)))) rfl))))), ?_⟩
    obtain ⟨dx, ea⟩ := TA.at_
    obtain ⟨kvh, hdh, hkl, hk, hv⟩ := TA.hands
    refine ⟨_, rfl, u, _, rfl, SqT.of hu2, rfl, _, _, rfl, _, _, rfl, _, _, rfl, _, _, rfl, rfl, ?_⟩
    obtain ⟨f0, s0, R0⟩ := TA.rows
    have hs := s0.steps (ds := ds)
    refine ⟨fun σ G => ∃ o, σ = [some (.ref a), some (.ref u), some (.str "deal"), some (.int hd), some (.int x), some dv, some (oA o)] ∧ Kp No H G ∧ (steps t.mom t.rows ds).isSome = o.isSome ∧ (o = none → RsAt G r t.mom (rowsBe t ds) (n + 4)) ∧ ∀ b, o = some b → H b = none ∧ RsAt G b t.mom (rowsBe t ds) (n + 4), ?_, ?_⟩
    · refine ⟨_, rfl, a, A.c 64, dx, _, _, rfl, ea, T.cl_Table, T.n_Table_rows, l_rows .., _, rfl, _, rfl, a, A.c 64, dx, _, _, rfl, ea, T.cl_Table, T.n_Table_moment, l_mom .., r, dv, t.mom, f0, n, ds, rfl, R0, hds, by omega, fun G kG => ⟨fun q => ?_, fun f b q nb R => ?_⟩⟩
      · rw [q] at hs
        cases e2 : steps t.mom t.rows ds with
        | some f2 => rw [e2] at hs; exact hs.elim
        | none =>
          refine ⟨none, rfl, kG, rfl, fun _ => ?_, fun b z => by cases z⟩
          unfold rowsBe
          rw [e2]
          exact (TA.rows.kt kG.t fun z => z).le (by omega)
      · rw [q] at hs
        cases e2 : steps t.mom t.rows ds with
        | none => rw [e2] at hs; exact hs.elim
        | some f2 =>
          rw [e2] at hs
          refine ⟨some b, rfl, kG, rfl, (fun z => by cases z), fun b2 z => by cases z; exact ⟨nb, by unfold rowsBe; rw [e2]; exact ⟨f, hs, R.le (by omega)⟩⟩⟩
    rintro σ G ⟨o, rfl, kG, hso, ho1, ho2⟩
    have eG := kG.t.ins ea fun z => z
    refine ⟨fun σ J => σ = [some (.ref a), some (.ref u), some (.str "deal"), some (.int hd), some (.int x), some dv, some (oA o)] ∧ ∃ r', (r' = r ∨ H r' = none) ∧ (r' = r ∨ G r' ≠ none) ∧ Kp (fun b => b = a) G J ∧ J a = some (.ins (A.c 64) dx (tfl t.num t.mom r' h)) ∧ RsAt J r' t.mom (rowsBe t ds) (n + 4) ∧ r' ≠ a ∧ r' ≠ h, ?_, ?_⟩
    · have nra : r ≠ a := by obtain ⟨_, e⟩ := TA.rows.dc; exact ne_of e ea (by intro z; cases z)
      cases o with
      | none =>
        exact ⟨_, rfl, _, rfl, iteF ⟨rfl, r, .inl rfl, .inl rfl, Kp.refl _ _, eG, ho1 rfl, nra, TA.rh⟩⟩
      | some b =>
        obtain ⟨nb, Rb⟩ := ho2 b rfl
        obtain ⟨kb, hbd⟩ := Rb.dc
        have nba : b ≠ a := fun z => by rw [z, ea] at nb; cases nb
        refine ⟨_, rfl, _, rfl, iteT ⟨_, rfl, _, rfl, a, A.c 64, dx, _, rfl, eG, T.cl_Table, T.n_Table_rows, by show 4 < 1000; decide, ?_⟩⟩
        show _ ∧ _
        refine ⟨rfl, b, .inr nb, .inr (fun z => by rw [hbd] at z; cases z), Kp.updI eG rfl, ?_, Rb.kt (Kp.updI (F := fun b => b = a) eG rfl).t nba, nba, (fun z => by rw [z, hdh] at nb; cases nb)⟩
        rw [upd_same]
        rfl
    rintro σ J ⟨rfl, r', hr1, hr2, kJ, eJ, RJ, nra, nrh⟩
    have nha : h ≠ a := ne_of hdh ea (by intro z; cases z)
    obtain ⟨kvg, hdg⟩ := TA.gone.dc
    have nga : g ≠ a := ne_of hdg ea (by intro z; cases z)
    have kHJ : Kp (fun b => b = a) H J := (kG.sub fun _ z => False.elim z).trans kJ fun _ z => .inl z
    have hJh := kHJ.t.dK hdh nha
    refine ⟨_, rfl, _, rfl, a, A.c 64, dx, _, _, rfl, eJ, T.cl_Table, T.n_Table_number, l_num .., _, rfl, sz 3 (by decide), fun q nq => ?_⟩
    have kq : Kp No J (upd J q (.tup [.int x, .int t.num, .bl (!decide (oA o = V.non))])) := Kp.new nq
    have eq : (!decide (oA o = V.non)) = (steps t.mom t.rows ds).isSome := by
      rw [hso]
      cases o with
      | none => rfl
      | some b => rfl
    refine ⟨_, rfl, a, A.c 64, dx, _, _, rfl, kq.t.ins eJ (fun z => z), T.cl_Table, T.n_Table_hands, l_hands .., _, rfl, h, _, rfl, DPut.k (k := Sum.inl hd) (kq.t.dK hJh fun z => z) (szL (by omega)), ?_⟩
    have Hd2 := ((TA.hands.kt kHJ.t nha).kt kq.t fun z => z).put (j := hd) (kq.t.dK hJh fun z => z) h0 h3 upd_same
    have k4 : Kp (fun b => b = h) J _ := (kq.sub (F' := fun b => b = h) fun _ z => False.elim z).andD (o' := .dK (putK kvh (Sum.inl hd) (.ref q))) (kq.t.dK hJh fun z => z) rfl
    rw [← eq] at k
    refine k _ r' hr1 ⟨⟨dx, k4.t.ins eJ nha.symm⟩, (RJ.kt k4.t nrh).le (by omega), Hd2.le (by omega), ((TA.gone.kt kHJ.t nga).kt kq.t fun z => z).up (kq.t.dK hJh fun z => z), nrh⟩ ((kHJ.sub fun _ z => .inl z).trans k4 fun _ z => .inl (.inr z))
end
end S02

set_option Elab.async false
set_option linter.all false
set_option maxRecDepth 100000
set_option maxHeartbeats 4000000
namespace S02
open PySem PySem.Spec PyProof.Rows L2 K5 SupX GenX
/-- pages that are to be written -/
def PcV (H : Hp) (v : V) : Prop := ∃ u p c, v = .ref u ∧ H u = some (.tup [.int p, .ref c]) ∧ 0 ≤ p ∧ p ≤ 8 ∧ KtAt H c
theorem PcV.kt {F : Addr → Prop} {H G : Hp} (k : Kt F H G) {v : V} (h : PcV H v) : PcV G v := let ⟨u, p, c, e, q, h0, h8, z⟩ := h; ⟨u, p, c, e, k.tup q, h0, h8, z.kt k⟩
section
variable {P : Program} {w : World} {K : PySem.W.Frag} {mg : Str → Option Value} {base : Heap} {A : Ad} {tp : Nat → Addr} {B C fI : Addr}
/-! ### take -/
theorem scTk : FnScope ["self", "entry"] ["self", "entry"] (defScope s_Table_take) := ⟨rfl, rfl, rfl, by decide +kernel, rfl, by decide +kernel, by decide +kernel⟩
def spTakeT (A : Ad) : Sp := fun vs H Q _ => ∃ (a r h g : Addr) (t : TT) (n : Nat) (v : V) (e : Ev), vs = [.ref a, v] ∧ TabAt A H a r h g t n ∧ EvAt H v e ∧ e.ok ∧ (∀ m, e = .tick m → t.mom ≤ m) ∧ n ≤ 14000 ∧
  ∀ G r', (r' = r ∨ H r' = none) → TabAt A G a r' h g (t.next e) (n + 5) → Kp (fun b => b = a ∨ b = h) H G → Q .non G
theorem ok_takeT (T : Txt K mg A) (X : Ex P w K mg A B C fI) : ∃ fd, FnOk P w K mg base CX0 6 (A.m 64 2) fd ["self", "entry"] (spTakeT A) ∧ Binds K fd ["self", "entry"] [] := by
  obtain ⟨fd, F⟩ := T.m_Table_take.fn
  obtain ⟨fdD, G_Table_take_deal, b_Table_take_deal⟩ := ok_take_deal (P := P) (w := w) (base := base) T X
  refine ⟨fd, F.ok scTk (fun vs H Q E h => ?_) (fun cdv Ar outer s H vs Q E hr h => ?_), F.binds fun _ _ _ _ _ _ us hl => match us, hl with | [_, _], _ => rfl⟩
  · obtain ⟨a, r, h, g, t, n, v, e, rfl, _⟩ := h
    rfl
  · obtain ⟨a, r, h, g, t, n, v, e, rfl, TA, hv, hok, hmo, hn, k⟩ := h
    refine ⟨_, (pss_cons (ps_fldaug (pv 0) pe_int in_add)
      (pss_one (ps_if (pt_cmpR op_eq (pe_ix ix_tup (pv 1) pe_int (fun _ _ => rfl)) pe_str (nomark _))
        (pss_one (ps_fld (pv 0) (pe_ix ix_tup (pv 1) pe_int (fun _ _ => rfl)) rfl))
        (pss_one (ps_expr (pe_meth (pv 0) T.cl_Table T.m_Table_take_deal.me G_Table_take_deal (hr.mono (by first | decide | omega)) b_Table_take_deal .nil pass0 (pa_cons (pv 1) pa_nil))))))), ?_⟩
    obtain ⟨dx, ea⟩ := TA.at_
    refine ⟨_, rfl, a, A.c 64, dx, _, _, rfl, ea, T.cl_Table, T.n_Table_number, l_num .., _, _, rfl, rfl, dx, _, ea, by show 4 < 1000; decide, ?_⟩
    rw [p_num]
    have k1 : Kp (fun b => b = a) H (upd H a (.ins (A.c 64) dx (tfl (t.num + 1) t.mom r h))) := Kp.updI ea rfl
    have nf : ∀ {b o}, (∀ C2 d2 f2, o ≠ .ins C2 d2 f2) → H b = some o → ¬ b = a := fun {b o} ho e z => by
      rw [z, ea] at e
      cases e
      exact ho _ _ _ rfl
    obtain ⟨_, er⟩ := TA.rows.dc
    obtain ⟨_, eh⟩ := TA.hands.dc
    obtain ⟨_, eg⟩ := TA.gone.dc
    have nr := nf (fun _ _ _ z => by cases z) er
    have nh := nf (fun _ _ _ z => by cases z) eh
    have ng := nf (fun _ _ _ z => by cases z) eg
    have T1 : TabAt A (upd H a (.ins (A.c 64) dx (tfl (t.num + 1) t.mom r h))) a r h g ⟨t.rows, t.mom, t.num + 1, t.hands⟩ n := ⟨⟨dx, upd_same⟩, TA.rows.kt k1.t nr, TA.hands.kt k1.t nh, TA.gone.kt k1.t ng, TA.rh⟩
    have e1 : upd H a (.ins (A.c 64) dx (tfl (t.num + 1) t.mom r h)) a = some (.ins (A.c 64) dx (tfl (t.num + 1) t.mom r h)) := upd_same
    generalize upd H a (.ins (A.c 64) dx (tfl (t.num + 1) t.mom r h)) = G1 at k1 T1 e1 ⊢
    have hv1 := hv.kt k1.t
    cases e with
    | tick m =>
      obtain ⟨u, rfl, hu⟩ := hv1
      refine ⟨_, rfl, u, _, 0, .str "tick", rfl, rfl, SqT.of hu, rfl, rfl, _, rfl, iteT ?_⟩
      refine ⟨_, rfl, u, _, 1, .int m, rfl, rfl, SqT.of hu, rfl, _, rfl, a, A.c 64, dx, _, rfl, e1, T.cl_Table, T.n_Table_moment, by show 4 < 1000; decide, ?_⟩
      rw [p_mom]
      have k2 : Kp (fun b => b = a) G1 (upd G1 a (.ins (A.c 64) dx (tfl (t.num + 1) m r h))) := Kp.updI e1 rfl
      exact k _ r (.inl rfl) ⟨⟨dx, upd_same⟩, ((T1.rows.kt k2.t nr).later (hmo m rfl)).le (by omega), (T1.hands.kt k2.t nh).le (by omega), (T1.gone.kt k2.t ng).le (by omega), TA.rh⟩ ((k1.trans k2 fun _ z => .inl z).sub fun _ z => .inl z)
    | deal hd x ds =>
      obtain ⟨h0, h3, h4⟩ := hok
      obtain ⟨u, dv, rfl, hu, hds⟩ := hv1
      refine ⟨_, rfl, u, _, 0, .str "deal", rfl, rfl, SqT.of hu, rfl, rfl, _, rfl, iteF ?_⟩
      refine ⟨_, rfl, a, dx, _, rfl, e1, rfl, _, rfl, a, r, h, g, u, _, n, hd, x, dv, ds, rfl, T1, hu, hds, h0, h3, h4, hn, fun G r' hr' TG kG => ?_⟩
      refine k G r' (hr'.imp id fun z => k1.free z fun y => ?_) TG ((k1.sub fun _ z => .inl z).trans kG fun _ z => .inl z)
      rw [show r' = a from y, e1] at z
      cases z
/-! ### unlike -/
abbrev NscUn : List Str := ["self", "other", "page"]
theorem scUn : FnScope NscUn ["self", "other"] (defScope s_Table_unlike) := ⟨rfl, rfl, rfl, by decide +kernel, rfl, by decide +kernel, by decide +kernel⟩
def spUnlike (A : Ad) (tp : Nat → Addr) : Sp := fun vs H Q _ => ∃ (a r h g : Addr) (t : TT) (n : Nat) (a2 r2 h2 g2 : Addr) (t2 : TT) (n2 : Nat), vs = [.ref a, .ref a2] ∧ TabAt A H a r h g t n ∧ TabAt A H a2 r2 h2 g2 t2 n2 ∧ Tg (tL tp) H ∧
  ∀ G l xs, H l = none → Kg (tL tp) No H G → G l = some (.lst xs) → (∀ v ∈ xs, PcV G v) → xs.length ≤ 9 → Q (.ref l) G
theorem ok_unlike (T : Txt K mg A) (TB : TbsB base mg A tp) : ∃ fd, FnOk P w K mg base CX0 7 (A.m 64 11) fd ["self", "other"] (spUnlike A tp) ∧ Binds K fd ["self", "other"] [] := by
  obtain ⟨fd, F⟩ := T.m_Table_unlike.fn
  obtain ⟨fdK, Gk, bk⟩ := ok_kept (P := P) (w := w) (base := base) T TB
  refine ⟨fd, F.ok scUn (fun vs H Q E h => ?_) (fun cdv Ar outer s H vs Q E hr h => ?_), F.binds fun _ _ _ _ _ _ us hl => match us, hl with | [_, _], _ => rfl⟩
  · obtain ⟨a, r, h, g, t, n, a2, r2, h2, g2, t2, n2, rfl, _⟩ := h
    rfl
  · obtain ⟨a, r, h, g, t, n, a2, r2, h2, g2, t2, n2, rfl, TA, TA2, TG, k⟩ := h
    refine ⟨_, pss_one (ps_ret (pe_lc (own := [("page", 2)]) (g := gName 2) (tt := tTest (tOp (rNeD K) (tMeth (A.c 64) "kept" (spKept A tp) [] E0 (tVar 1) (tCons (tVar 2) tNil)) (tMeth (A.c 64) "kept" (spKept A tp) [] E0 (tVar 0) (tCons (tVar 2) tNil)))) (te := tTup (tCons (tVar 2) (tCons (tMeth (A.c 64) "kept" (spKept A tp) [] E0 (tVar 1) (tCons (tVar 2) tNil)) tNil))) (by rfl) scUn.nd (pi_range1 (by rfl) T.range (pa_cons (pe_glob (v := .int 9) rfl T.k_PAGES.choose_spec ⟨_, rfl⟩) pa_nil)) (blkOk_by (N := NscUn) (sc := defScope s_Table_unlike) (by decide +kernel)) (fun _ _ _ _ _ => pg_name (i := 2) scUn.nd rfl (Or.inl rfl))
      (fun _ _ _ _ _ => by exact pts_one (pt_cmpR (op_neD hr.units) (pe_meth (pv 1) T.cl_Table T.m_Table_kept.me Gk hr bk .nil pass0 (pa_cons (pv 2) pa_nil)) (pe_meth (pv 0) T.cl_Table T.m_Table_kept.me Gk hr bk .nil pass0 (pa_cons (pv 2) pa_nil)) (nomark _)))
      (fun _ _ _ _ _ => by exact pe_tup (pa_cons (pv 2) (pa_cons (pe_meth (pv 1) T.cl_Table T.m_Table_kept.me Gk hr bk .nil pass0 (pa_cons (pv 2) pa_nil)) pa_nil))))), ?_⟩
    have nfD : ∀ {D : Addr} {a r h g : Addr} {t : TT} {n : Nat}, TabAt A H a r h g t n → H D = none → ∀ b, b = D → ¬ tF a r h g b := fun {D a r h g t n} TA nD b z y => by
      obtain ⟨o, e⟩ := TA.there y
      rw [z, nD] at e
      cases e
    refine ⟨9, rfl, by decide, by decide, fun D nD => ?_⟩
    refine lc_range (lo := 0) (n := (9 : Int).toNat) (fun i J => Kg (tL tp) (fun b => b = D) H J ∧ ∃ xs, J D = some (.lst xs) ∧ xs.length ≤ i ∧ ∀ v ∈ xs, PcV J v) ⟨Kg.of (Kp.new nD), [], upd_same, Nat.le_refl _, fun _ z => by cases z⟩ ?_ ?_
    · rintro i J hi ⟨kJ, xs, hD, hl, hp⟩
      have hi9 : i < 9 := by simpa using hi
      have T2J := TA2.kt kJ.t (nfD TA2 nD)
      obtain ⟨dx2, e2⟩ := T2J.at_
      refine ⟨rfl, _, rfl, a2, dx2, _, rfl, e2, rfl, _, rfl, a2, r2, h2, g2, t2, n2, 0 + (i : Nat), rfl, T2J, TG.kg kJ, by omega, by omega, fun G1 b1 nb1 k1 q1 => ?_⟩
      have kG1 : Kg (tL tp) (fun b => b = D) H G1 := kJ.trans k1 fun _ z => False.elim z
      have T1J := TA.kt kG1.t (nfD TA nD)
      obtain ⟨dx1, e1⟩ := T1J.at_
      refine ⟨_, rfl, a, dx1, _, rfl, e1, rfl, _, rfl, a, r, h, g, t, n, 0 + (i : Nat), rfl, T1J, TG.kg kG1, by omega, by omega, fun G2 b2 nb2 k2 q2 => ?_⟩
      obtain ⟨d1, hd1⟩ := dt_kt (K := K) (q1.kt k2.t)
      obtain ⟨d2, hd2⟩ := dt_kt (K := K) q2
      have kG2 : Kg (tL tp) (fun b => b = D) H G2 := kG1.trans k2 fun _ z => False.elim z
      have kJ2 : Kg (tL tp) No J G2 := k1.trans k2 fun _ z => False.elim z
      refine ⟨d1, d2, hd1.1, hd2.1, hd1.shaped (by decide), hd2.shaped (by decide), _, rfl, ite2 (fun _ => ?_) (fun _ => ?_)⟩
      · have T3J := TA2.kt kG2.t (nfD TA2 nD)
        obtain ⟨dx3, e3⟩ := T3J.at_
        refine ⟨_, rfl, _, rfl, a2, dx3, _, rfl, e3, rfl, _, rfl, a2, r2, h2, g2, t2, n2, 0 + (i : Nat), rfl, T3J, TG.kg kG2, by omega, by omega, fun G3 b3 nb3 k3 q3 => ⟨sz 2 (by decide), fun u nu => ?_⟩⟩
        have kJ3 : Kg (tL tp) No J G3 := kJ2.trans k3 fun _ z => False.elim z
        have ku : Kp No G3 (upd G3 u (.tup [.int (0 + (i : Nat)), .ref b3])) := Kp.new nu
        have hDu := ku.t.lst (kJ3.t.lst hD fun z => z) fun z => z
        have kF : Kp (fun b => b = D) (upd G3 u (.tup [.int (0 + (i : Nat)), .ref b3])) _ := Kp.updL (o' := .lst (xs ++ [.ref u])) hDu rfl
        refine ⟨xs, hDu, szL (by omega), ((kG2.trans k3 fun _ z => False.elim z).trans (Kg.of ku) fun _ z => False.elim z).trans (Kg.of kF) (fun _ z => .inl z), xs ++ [.ref u], upd_same, by rw [List.length_append]; simp only [List.length_cons, List.length_nil]; omega, fun v hv => ?_⟩
        rcases List.mem_append.mp hv with z | z
        · exact (((hp v z).kt kJ3.t).kt ku.t).kt kF.t
        · rw [List.mem_singleton.mp z]
          exact PcV.kt kF.t ⟨u, 0 + (i : Nat), b3, rfl, upd_same, by omega, by omega, q3.kt ku.t⟩
      · exact ⟨kG2, xs, kJ2.t.lst hD (fun z => z), by omega, fun v hv => (hp v hv).kt kJ2.t⟩
    · rintro J ⟨kJ, xs, hD, hl, hp⟩
      exact k J D xs nD (kJ.fresh fun b z => by rw [z]; exact nD) hD hp hl
end
end S02

set_option Elab.async false
set_option linter.all false
set_option maxRecDepth 100000
set_option maxHeartbeats 4000000
/-! ### what is told of a page -/
namespace S02
open PySem PySem.Spec PyProof.Rows L2 K5 SupX GenX
inductive Pst where
  | rows (l : List (Int × Int × Int))
  | hands (m : Int) (l : List (Int × Int × Int × Bool))
def stOf (t : TT) (p : Int) : Pst := if p = 8 then .hands t.mom (hnRows t.hands) else .rows ((pgRows t.rows p).filter (shF t.mom))
def StV (H : Hp) (v : V) : Pst → Prop
  | .rows l => ∃ b, v = .ref b ∧ PgAt H b l
  | .hands m l => ∃ b c, v = .ref b ∧ H b = some (.tup [.int m, .ref c]) ∧ PhAt H c l
theorem StV.kt {F : Addr → Prop} {H G : Hp} (k : Kt F H G) {v : V} : ∀ {s : Pst}, StV H v s → StV G v s
  | .rows _, ⟨b, e, h⟩ => ⟨b, e, h.kt k⟩
  | .hands _ _, ⟨b, c, e, h1, h2⟩ => ⟨b, c, e, k.tup h1, h2.kt k⟩
def dRw (q : Int × Int × Int) : PyData := .tuple [.int q.1, .int q.2.1, .int q.2.2]
def dRh (q : Int × Int × Int × Bool) : PyData := .tuple [.int q.1, .int q.2.1, .int q.2.2.1, .bool q.2.2.2]
def dSt : Pst → PyData
  | .rows l => .tuple (l.map dRw)
  | .hands m l => .tuple [.int m, .tuple (l.map dRh)]
section
variable {K : PySem.W.Frag} {H : Hp}
theorem dt_rwD {v : V} {q : Int × Int × Int} (h : RwV H v q) : Dt K H 1 v (dRw q) := by
  obtain ⟨a, rfl, e⟩ := h
  exact Dt.tup e ((Dt.int 0 _).cons ((Dt.int 0 _).cons ((Dt.int 0 _).cons (DtA.nil 0))))
theorem dt_rhD {v : V} {q : Int × Int × Int × Bool} (h : RhV H v q) : Dt K H 1 v (dRh q) := by
  obtain ⟨a, rfl, e⟩ := h
  exact Dt.tup e ((Dt.int 0 _).cons ((Dt.int 0 _).cons ((Dt.int 0 _).cons ((Dt.bl 0 _).cons (DtA.nil 0)))))
theorem dt_map {α : Type} {R : V → α → Prop} {n : Nat} {f : α → PyData} (h : ∀ v a, R v a → Dt K H n v (f a)) {xs : List V} {ys : List α} (p : Paired R xs ys) : DtA K H n xs (ys.map f) := by
  induction p with
  | nil => exact DtA.nil n
  | cons r _ ih => exact (h _ _ r).cons ih
theorem dt_int_up (n : Nat) (i : Int) : Dt K H n (.int i) (.int i) := Dt.int n i
theorem dt_st {v : V} : ∀ {s : Pst}, StV H v s → Dt K H 3 v (dSt s)
  | .rows l, ⟨b, e, xs, h1, p⟩ => by
    subst e
    have h := Dt.tup h1 (dt_map (K := K) (fun _ _ z => dt_rwD z) p)
    exact ⟨h.1, h.2.1, Nat.le_trans h.2.2 (by decide)⟩
  | .hands m l, ⟨b, c, e, h1, xs, h2, p⟩ => by
    subst e
    exact Dt.tup h1 ((Dt.int 2 _).cons ((Dt.tup h2 (dt_map (K := K) (fun _ _ z => dt_rhD z) p)).cons (DtA.nil 2)))
end
/-! data that is equal is the same -/
theorem eqv_int {i j : Int} (h : PyData.eqv (.int i) (.int j) = true) : i = j := by
  simpa only [PyData.eqv, beq_iff_eq] using h
theorem eqv_bool {i j : Bool} (h : PyData.eqv (.bool i) (.bool j) = true) : i = j := by
  simpa only [PyData.eqv, beq_iff_eq] using h
theorem eqv_cons {x y : PyData} {xs ys : List PyData} (h : PyData.eqvAll (x :: xs) (y :: ys) = true) : PyData.eqv x y = true ∧ PyData.eqvAll xs ys = true := by
  simpa only [PyData.eqvAll, Bool.and_eq_true] using h
theorem eqv_tup {xs ys : List PyData} (h : PyData.eqv (.tuple xs) (.tuple ys) = true) : PyData.eqvAll xs ys = true := by
  simpa only [PyData.eqv] using h
theorem eqv_rw {a b : Int × Int × Int} (h : PyData.eqv (dRw a) (dRw b) = true) : a = b := by
  obtain ⟨a1, a2, a3⟩ := a
  obtain ⟨b1, b2, b3⟩ := b
  obtain ⟨h1, h⟩ := eqv_cons (eqv_tup h)
  obtain ⟨h2, h⟩ := eqv_cons h
  obtain ⟨h3, _⟩ := eqv_cons h
  have e1 : a1 = b1 := eqv_int h1
  have e2 : a2 = b2 := eqv_int h2
  have e3 : a3 = b3 := eqv_int h3
  rw [e1, e2, e3]
theorem eqv_rh {a b : Int × Int × Int × Bool} (h : PyData.eqv (dRh a) (dRh b) = true) : a = b := by
  obtain ⟨a1, a2, a3, a4⟩ := a
  obtain ⟨b1, b2, b3, b4⟩ := b
  obtain ⟨h1, h⟩ := eqv_cons (eqv_tup h)
  obtain ⟨h2, h⟩ := eqv_cons h
  obtain ⟨h3, h⟩ := eqv_cons h
  obtain ⟨h4, _⟩ := eqv_cons h
  have e1 : a1 = b1 := eqv_int h1
  have e2 : a2 = b2 := eqv_int h2
  have e3 : a3 = b3 := eqv_int h3
  have e4 : a4 = b4 := eqv_bool h4
  rw [e1, e2, e3, e4]
theorem eqv_list {α : Type} {f : α → PyData} (hf : ∀ {a b : α}, PyData.eqv (f a) (f b) = true → a = b) : ∀ {l m : List α}, PyData.eqvAll (l.map f) (m.map f) = true → l = m
  | [], [], _ => rfl
  | [], b :: m, h => by rw [List.map_cons, List.map_nil] at h; simp only [PyData.eqvAll] at h; cases h
  | a :: l, [], h => by rw [List.map_cons, List.map_nil] at h; simp only [PyData.eqvAll] at h; cases h
  | a :: l, b :: m, h => by
    obtain ⟨h1, h2⟩ := eqv_cons (show PyData.eqvAll (f a :: l.map f) (f b :: m.map f) = true from h)
    rw [hf h1, eqv_list hf h2]
/-- page states of the same page -/
def Like : Pst → Pst → Prop
  | .rows _, .rows _ => True
  | .hands _ _, .hands _ _ => True
  | _, _ => False
theorem like_st (t u : TT) (p : Int) : Like (stOf t p) (stOf u p) := by
  unfold stOf
  by_cases h : p = 8
  · rw [if_pos h, if_pos h]; exact trivial
  · rw [if_neg h, if_neg h]; exact trivial
theorem eqv_st : ∀ {a b : Pst}, Like a b → PyData.eqv (dSt a) (dSt b) = true → a = b
  | .rows l, .rows m, _, h => by rw [eqv_list eqv_rw (eqv_tup h)]
  | .hands i l, .hands j m, _, h => by
    obtain ⟨h1, h⟩ := eqv_cons (eqv_tup h)
    obtain ⟨h2, _⟩ := eqv_cons h
    rw [eqv_int h1, eqv_list eqv_rh (eqv_tup h2)]
  | .rows _, .hands _ _, k, _ => k.elim
  | .hands _ _, .rows _, k, _ => k.elim
section
variable {P : Program} {w : World} {K : PySem.W.Frag} {mg : Str → Option Value} {base : Heap} {A : Ad} {tp : Nat → Addr}
/-! ### kept, of the page of hands -/
def spKept8 (A : Ad) (tp : Nat → Addr) : Sp := fun vs H Q _ => ∃ (a r h g : Addr) (t : TT) (n : Nat), vs = [.ref a, .int 8] ∧ TabAt A H a r h g t n ∧ Tg (tL tp) H ∧
  ∀ G b c, H b = none → Kg (tL tp) No H G → G b = some (.tup [.int t.mom, .ref c]) → PhAt G c (hnRows t.hands) → Q (.ref b) G
theorem ok_kept8 (T : Txt K mg A) (TB : TbsB base mg A tp) : ∃ fd, FnOk P w K mg base CX0 6 (A.m 64 9) fd ["self", "page"] (spKept8 A tp) ∧ Binds K fd ["self", "page"] [] := by
  obtain ⟨fdP, G_Table_page_rows, b_Table_page_rows⟩ := ok_page_rows (P := P) (w := w) (base := base) T TB
  obtain ⟨fdH, G_Table_hand_rows, b_Table_hand_rows⟩ := ok_hand_rows (P := P) (w := w) (base := base) T TB
  obtain ⟨fd, F⟩ := T.m_Table_kept.fn
  refine ⟨fd, F.ok scKp (fun vs H Q E h => ?_) (fun cdv Ar outer s H vs Q E hr h => ?_), F.binds fun _ _ _ _ _ _ us hl => match us, hl with | [_, _], _ => rfl⟩
  · obtain ⟨a, r, h, g, t, n, rfl, _⟩ := h
    rfl
  · obtain ⟨a, r, h, g, t, n, rfl, TA, TG, k⟩ := h
    have hu := hu_of hr
    refine ⟨_, (pss_cons (ps_if (pt_cmpR op_eq (pv 1) (pe_glob (v := .int 8) rfl T.k_HANDS_PAGE.choose_spec ⟨_, rfl⟩) (nomark _))
        (pss_one (ps_ret (pe_tup (pa_cons (pe_fld (pv 0) rfl) (pa_cons (pe_meth0 (pv 0) T.cl_Table T.m_Table_hand_rows.me G_Table_hand_rows (hr.mono (by first | decide | omega)) b_Table_hand_rows .nil pass0) pa_nil)))))
        pss_nil)
      (pss_one (ps_ret (pe_meth (pv 0) T.cl_Table T.m_Table_page_rows.me G_Table_page_rows (hr.mono (by first | decide | omega)) b_Table_page_rows .nil pass0 (pa_cons (pv 1) pa_nil))))), ?_⟩
    obtain ⟨dx, ea⟩ := TA.at_
    refine ⟨_, rfl, rfl, _, rfl, ?_⟩
    rw [show decide (V.int 8 = V.int 8) = true from rfl]
    refine iteT ⟨_, rfl, a, A.c 64, dx, _, _, rfl, ea, T.cl_Table, T.n_Table_moment, l_mom .., _, rfl, a, dx, _, rfl, ea, rfl, a, r, h, g, t, n, rfl, TA, TG, fun G1 c nc kg hph => ⟨sz 2 (by decide), fun b nb => ?_⟩⟩
    exact k _ b c (kg.free nb fun z => False.elim z) (kg.trans (Kg.of (Kp.new nb)) fun _ z => False.elim z) upd_same (hph.kt (Kp.new (F := No) nb).t)
/-! ### shown, of every page -/
def spShownX (A : Ad) (tp : Nat → Addr) : Sp := fun vs H Q _ => ∃ (a r h g : Addr) (t : TT) (n : Nat) (p : Int), vs = [.ref a, .int p] ∧ TabAt A H a r h g t n ∧ Tg (tL tp) H ∧ 0 ≤ p ∧ p ≤ 8 ∧
  ∀ G v, Kg (tL tp) No H G → StV G v (stOf t p) → Q v G
theorem ok_shownX (T : Txt K mg A) (TB : TbsB base mg A tp) : ∃ fd, FnOk P w K mg base CX0 7 (A.m 64 10) fd ["self", "page"] (spShownX A tp) ∧ Binds K fd ["self", "page"] [] := by
  obtain ⟨fdP, Gpr, bpr⟩ := ok_page_rows (P := P) (w := w) (base := base) T TB
  obtain ⟨fdS, Gis, bis⟩ := ok_is_shown (P := P) (w := w) (base := base) T
  obtain ⟨fdK, Gk8, bk8⟩ := ok_kept8 (P := P) (w := w) (base := base) T TB
  refine okC T.C_Table_shown scSh (fun vs H Q E h => ?_) (fun Ar outer s H vs Q E hr h => ?_) (fun _ _ _ _ _ us hl => match us, hl with | [_, _], _ => rfl)
  · obtain ⟨a, r, h, g, t, n, p, rfl, _⟩ := h
    rfl
  · obtain ⟨a, r, h, g, t, n, p, rfl, TA, TG, p0, p7, k⟩ := h
    have hu := hu_of hr
    refine ⟨_, pss_cons (ps_if (pt_cmpR op_eq (pv 1) (pe_glob (v := .int 8) rfl T.k_HANDS_PAGE.choose_spec ⟨_, rfl⟩) (nomark _)) (pss_one (ps_ret (pe_meth (pv 0) T.cl_Table T.m_Table_kept.me Gk8 hr bk8 .nil pass0 (pa_cons (pv 1) pa_nil)))) pss_nil)
      (pss_one (ps_ret (pe_tupG (k := 2) (pgen_gex (k := 1) (own := [("row", 2)]) (g := gName 2) (tt := tB (tCall spShown [] E0 (tCons (tOp (rIxT K) (tVar 2) (tC (.int 2))) (tCons (tFld K (tVar 0) "moment") tNil)))) (te := tVar 2) hr.hd (by have := hr.dp; show (Ar.deeper _).depth < _; omega) TB.sh rfl (blkOk_by (N := NscSh) (sc := defScope s_Table_shown) (by decide +kernel)) scSh.nd (by decide +kernel) rfl rfl
        (pi_tup (pe_meth (pv 0) T.cl_Table T.m_Table_page_rows.me Gpr (hr.mono (by decide)) bpr .nil pass0 (pa_cons (pv 1) pa_nil))) (fun _ => rfl)
        (fun _ _ _ _ _ _ _ _ => pg_name (i := 2) scSh.nd rfl (Or.inl rfl)) (fun _ _ _ _ _ _ _ hr => by exact pts_one (pt_val (pe_call Gis hr rfl T.is_shown.at_ T.is_shown.kp bis .nil pass0 (pa_cons (pe_ix ix_tup (pv 2) pe_int (fun _ _ => rfl)) (pa_cons (pe_fld (pv 0) rfl) pa_nil))))) (fun _ _ _ _ _ _ _ hr => by exact pv 2)) (hr.mono (by decide)) rfl T.tuple))), ?_⟩
    have m10 : tp 10 ∈ tL tp := List.mem_cons_of_mem _ (List.mem_cons_of_mem _ List.mem_cons_self)
    obtain ⟨dx, ea⟩ := TA.at_
    refine ⟨_, rfl, rfl, _, rfl, ?_⟩
    by_cases e8 : p = 8
    · subst e8
      rw [show decide (V.int 8 = V.int 8) = true from rfl]
      refine iteT ⟨_, rfl, a, dx, _, rfl, ea, rfl, _, rfl, a, r, h, g, t, n, rfl, TA, TG, fun G b c nb kg hb hp => ?_⟩
      exact k G _ kg (by unfold stOf; rw [if_pos rfl]; exact ⟨b, c, rfl, hb, hp⟩)
    rw [show decide (V.int p = V.int 8) = false by simp; omega]
    refine iteF ⟨_, rfl, a, dx, _, rfl, ea, rfl, _, rfl, a, r, h, g, t, n, p, rfl, TA, TG, p0, by omega, fun G1 c f sf nc kg hpg _ => ?_⟩
    obtain ⟨xs, hc, pc⟩ := hpg
    obtain ⟨ps, hP, tri⟩ := (TG.kg kg) _ m10
    refine ⟨c, rfl, ⟨_, SqT.of hc⟩, ps, hP, tri, fun qs tq => ?_⟩
    have kt : Kg (tL tp) No H (upd G1 (tp 10) (.tbl qs)) := kg.trans (Kg.tab m10 hP tq) fun _ z => False.elim z
    have k1 : Kg (tL tp) No G1 (upd G1 (tp 10) (.tbl qs)) := Kg.tab m10 hP tq
    generalize upd G1 (tp 10) (.tbl qs) = G2 at kt k1 ⊢
    have hc2 := k1.t.tup hc
    have pc2 : Paired (RwV G2) xs (pgRows f p) := pc.mono fun _ _ z => z.kt k1.t
    refine gx_tup (K := K) (a := c) (xs := xs) (fun i zs J => Kg (tL tp) No G2 J ∧ zs.length ≤ i ∧ Paired (RwV J) zs (((pgRows f p).take i).filter (shF t.mom))) ⟨Kg.refl _ _ _, Nat.le_refl _, by rw [List.take_zero]; exact .nil⟩ (fun i zs J _ ⟨kJ, _⟩ => SqT.of (kJ.t.tup hc2)) ?_ ?_
    · rintro i x zs J hx ⟨kJ, hl, pJ⟩
      obtain ⟨y, hy, q, rfl, hq⟩ := paired_at pc2 hx
      have hqJ := kJ.t.tup hq
      have hi4 : i < 4 := by
        have h1 := (List.getElem?_eq_some_iff.mp hx).1
        have h2 := pg_len f p
        rw [← pc.length] at h2
        omega
      have tk1 : (((pgRows f p).take (i + 1)).filter (shF t.mom)) = ((pgRows f p).take i).filter (shF t.mom) ++ (if shF t.mom y = true then [y] else []) := by
        rw [take_snoc hy, List.filter_append, List.filter_cons]
        cases shF t.mom y <;> rfl
      have eJ := (kt.trans kJ fun _ z => False.elim z).t.ins ea fun z => z
      refine ⟨rfl, _, rfl, q, _, 2, .int y.2.2, rfl, rfl, SqT.of hqJ, rfl, _, rfl, a, A.c 64, dx, _, _, rfl, eJ, T.cl_Table, T.n_Table_moment, l_mom .., y.2.2, t.mom, rfl, _, rfl, ?_⟩
      refine ite2 (fun z => ⟨_, rfl, szL (by omega), kJ, by rw [List.length_append]; simp only [List.length_cons, List.length_nil]; omega, ?_⟩) (fun z => ⟨kJ, Nat.le_succ_of_le hl, ?_⟩)
      · rw [tk1, if_pos (show shF t.mom y = true from z)]
        exact pJ.snoc ⟨q, rfl, hqJ⟩
      · rw [tk1, if_neg (show ¬ shF t.mom y = true from z), List.append_nil]
        exact pJ
    · rintro zs J ⟨kJ, hl, pJ⟩
      intro b nb
      have kHJ : Kg (tL tp) No H J := kt.trans kJ fun _ z => False.elim z
      rw [pc.length, List.take_length, sf.page p] at pJ
      exact k _ _ (kHJ.trans (Kg.of (Kp.new nb)) fun _ z => False.elim z) (by unfold stOf; rw [if_neg e8]; exact ⟨b, rfl, zs, upd_same, pJ.mono fun _ _ z => z.kt (Kp.new (F := No) nb).t⟩)
end
end S02

set_option Elab.async false
set_option linter.all false
set_option maxRecDepth 100000
set_option maxHeartbeats 4000000
/-! ### a copy -/
namespace S02
open PySem PySem.Spec PyProof.Rows L2 K5 SupX GenX
structure Cp where
  nm : Int
  c : Addr
  wn : Addr
  as_ : Addr
  num : Int
  want : List Int
  t0 : TT
def cfl (n : Int) (wn as_ : Addr) : List (Str × V) := [("number", .int n), ("wanted", .ref wn), ("aside", .ref as_)]
theorem l_cnum (n : Int) (wn as_ : Addr) : (cfl n wn as_).lookup ("number" : Str) = some (.int n) := rfl
theorem l_cwan (n : Int) (wn as_ : Addr) : (cfl n wn as_).lookup ("wanted" : Str) = some (.ref wn) := rfl
theorem l_casd (n : Int) (wn as_ : Addr) : (cfl n wn as_).lookup ("aside" : Str) = some (.ref as_) := rfl
/-- the keys are pages of these, each once -/
def AsK (kvs : List (Key × V)) (want : List Int) : Prop := ∃ ks : List Int, kvs.map (·.1) = ks.map Sum.inl ∧ ks.Nodup ∧ ∀ k ∈ ks, k ∈ want
/-- how a page stands: told of the table, or kept aside; s0 is wanted, s is told -/
def AsO (H : Hp) (kvs : List (Key × V)) (p : Int) (s0 s : Pst) : Prop := (s = s0 ∧ valV kvs (.inl p : Key) = none) ∨ (s ≠ s0 ∧ ∃ v, valV kvs (.inl p : Key) = some v ∧ StV H v s0)
theorem AsO.kt {F : Addr → Prop} {H G : Hp} (k : Kt F H G) {kvs : List (Key × V)} {p : Int} {s0 s : Pst} : AsO H kvs p s0 s → AsO G kvs p s0 s
  | .inl h => .inl h
  | .inr ⟨h, v, e, q⟩ => .inr ⟨h, v, e, q.kt k⟩
theorem keys_drop {kvs : List (Key × V)} {ks : List Int} (j : Int) (h : kvs.map (·.1) = ks.map Sum.inl) : (dropK kvs (.inl j)).map (·.1) = (ks.filter (fun k => !decide (k = j))).map Sum.inl := by
  induction ks generalizing kvs with
  | nil =>
    have : kvs = [] := by simpa using h
    rw [this]
    rfl
  | cons k ks ih =>
    cases kvs with
    | nil => cases h
    | cons p kvs =>
      obtain ⟨e1, e2⟩ := List.cons.inj h
      obtain ⟨pk, pv⟩ := p
      have e1 : pk = Sum.inl k := e1
      subst e1
      have := ih e2
      unfold dropK at this ⊢
      rw [List.filter_cons, List.filter_cons]
      by_cases hk : k = j
      · rw [if_neg (by simp [hk]), if_neg (by simp [hk])]
        exact this
      · rw [if_pos (by simp [hk]), if_pos (by simp [hk]), List.map_cons, List.map_cons, this]
theorem AsK.put {kvs : List (Key × V)} {want : List Int} {j : Int} {v : V} (h : AsK kvs want) (hj : j ∈ want) : AsK (putK kvs (.inl j) v) want := by
  obtain ⟨ks, e1, nd, r⟩ := h
  unfold AsK
  rw [keys_put]
  split
  · exact ⟨ks, e1, nd, r⟩
  · rename_i hn
    have nj : j ∉ ks := fun z => hn (by rw [val_mem, e1]; exact List.mem_map.mpr ⟨j, z, rfl⟩)
    refine ⟨ks ++ [j], by rw [e1, List.map_append]; rfl, ?_, fun k hk => ?_⟩
    · rw [List.nodup_append]
      refine ⟨nd, by simp, fun x hx y hy z => ?_⟩
      rw [List.mem_singleton.mp hy] at z
      exact nj (z ▸ hx)
    · rcases List.mem_append.mp hk with z | z
      · exact r k z
      · rw [List.mem_singleton.mp z]; exact hj
theorem AsK.del {kvs : List (Key × V)} {want : List Int} (j : Int) (h : AsK kvs want) : AsK (dropK kvs (.inl j)) want := by
  obtain ⟨ks, e1, nd, r⟩ := h
  exact ⟨_, keys_drop j e1, nd.filter _, fun k hk => r k (List.mem_filter.mp hk).1⟩
theorem AsK.len {kvs : List (Key × V)} {want : List Int} (h : AsK kvs want) (h9 : ∀ p ∈ want, 0 ≤ p ∧ p ≤ 8) : kvs.length ≤ 9 := by
  obtain ⟨ks, e1, nd, r⟩ := h
  have e2 := congrArg List.length e1
  rw [List.length_map, List.length_map] at e2
  rw [e2]
  have := nodup_le (m := keysFrom 0 9) nd fun k hk => by
    have := h9 k (r k hk)
    unfold keysFrom
    exact List.mem_map.mpr ⟨k.toNat, List.mem_range.mpr (by omega), by omega⟩
  unfold keysFrom at this
  rw [List.length_map, List.length_range] at this
  exact this
theorem erase_at : ∀ {l : List Int} {j : Nat} {a : Int}, l.Nodup → l[j]? = some a → l.eraseIdx j = l.erase a ∧ ∀ m : Nat, m < j → l[m]? ≠ some a
  | [], _, _, _, h => by cases h
  | b :: l, 0, a, nd, h => by
    have e : b = a := Option.some.inj h
    subst e
    exact ⟨by rw [List.erase_cons_head]; rfl, fun m hm => absurd hm (Nat.not_lt_zero m)⟩
  | b :: l, j + 1, a, nd, h => by
    have h2 : l[j]? = some a := h
    obtain ⟨nb, nd2⟩ := List.nodup_cons.mp nd
    have ne : b ≠ a := fun e => nb (by rw [e]; exact List.mem_of_getElem? h2)
    obtain ⟨q1, q2⟩ := erase_at nd2 h2
    refine ⟨?_, fun m hm => ?_⟩
    · rw [List.erase_cons_tail (by simpa using ne)]
      show b :: l.eraseIdx j = _
      rw [q1]
    · cases m with
      | zero => exact fun e => ne (Option.some.inj e)
      | succ m => exact q2 m (by omega)
structure CpAt (A : Ad) (H : Hp) (x : Cp) (t : TT) : Prop where
  at_ : ∃ dx, H x.c = some (.ins (A.c 61) dx (cfl x.num x.wn x.as_))
  wan : H x.wn = some (.lst (x.want.map V.int))
  nd : x.want.Nodup
  in9 : ∀ p ∈ x.want, 0 ≤ p ∧ p ≤ 8
  asd : ∃ kvs, H x.as_ = some (.dK kvs) ∧ AsK kvs x.want ∧ ∀ p ∈ x.want, AsO H kvs p (stOf x.t0 p) (stOf t p)
def cF (x : Cp) : Addr → Prop := fun b => b = x.c ∨ b = x.wn ∨ b = x.as_
theorem CpAt.kt {A : Ad} {F : Addr → Prop} {H G : Hp} (k : Kt F H G) {x : Cp} {t : TT} (h : CpAt A H x t) (n : ∀ b, F b → ¬ cF x b) : CpAt A G x t := by
  obtain ⟨dx, e⟩ := h.at_
  obtain ⟨kvs, e2, hk, ho⟩ := h.asd
  exact ⟨⟨dx, k.ins e fun z => n _ z (.inl rfl)⟩, k.lst h.wan (fun z => n _ z (.inr (.inl rfl))), h.nd, h.in9, kvs, k.dK e2 (fun z => n _ z (.inr (.inr rfl))), hk, fun p hp => (ho p hp).kt k⟩
theorem CpAt.there {A : Ad} {H : Hp} {x : Cp} {t : TT} (h : CpAt A H x t) {b : Addr} (z : cF x b) : ∃ o, H b = some o := by
  obtain ⟨dx, e⟩ := h.at_
  obtain ⟨kvs, e2, _⟩ := h.asd
  rcases z with z | z | z <;> rw [z]
  · exact ⟨_, e⟩
  · exact ⟨_, h.wan⟩
  · exact ⟨_, e2⟩
section
variable {P : Program} {w : World} {K : PySem.W.Frag} {mg : Str → Option Value} {base : Heap} {A : Ad} {tp : Nat → Addr}
/-! ### page_of -/
theorem scPo : FnScope ["self", "table", "page"] ["self", "table", "page"] (defScope s_Copy_page_of) := ⟨rfl, rfl, rfl, by decide +kernel, rfl, by decide +kernel, by decide +kernel⟩
def spPageOf (A : Ad) (tp : Nat → Addr) : Sp := fun vs H Q _ => ∃ (c wn as_ dx : Addr) (num : Int) (kvs : List (Key × V)) (a r h g : Addr) (t : TT) (n : Nat) (p : Int) (s0 : Pst), vs = [.ref c, .ref a, .int p] ∧ H c = some (.ins (A.c 61) dx (cfl num wn as_)) ∧ H as_ = some (.dK kvs) ∧ AsO H kvs p s0 (stOf t p) ∧ TabAt A H a r h g t n ∧ Tg (tL tp) H ∧ 0 ≤ p ∧ p ≤ 8 ∧
  ∀ G v, Kg (tL tp) No H G → StV G v s0 → Q v G
theorem ok_page_of (T : Txt K mg A) (TB : TbsB base mg A tp) : ∃ fd, FnOk P w K mg base CX0 8 (A.m 61 1) fd ["self", "table", "page"] (spPageOf A tp) ∧ Binds K fd ["self", "table", "page"] [] := by
  obtain ⟨fd, F⟩ := T.m_Copy_page_of.fn
  obtain ⟨fdS, G_Table_shown, b_Table_shown⟩ := ok_shownX (P := P) (w := w) (base := base) T TB
  refine ⟨fd, F.ok scPo (fun vs H Q E h => ?_) (fun cdv Ar outer s H vs Q E hr h => ?_), F.binds fun _ _ _ _ _ _ us hl => match us, hl with | [_, _, _], _ => rfl⟩
  · obtain ⟨c, wn, as_, dx, num, kvs, a, r, h, g, t, n, p, s0, rfl, _⟩ := h
    rfl
  · obtain ⟨c, wn, as_, dx, num, kvs, a, r, h, g, t, n, p, s0, rfl, ec, ea, ho, TA, TG, p0, p8, k⟩ := h
    have hu := hu_of hr
    refine ⟨_, (pss_cons (ps_if (pt_cmp (pc_din hu (pv 2) (pe_fld (pv 0) rfl)))
        (pss_one (ps_ret (pe_dget hu (pe_fld (pv 0) rfl) (pv 2) (fun _ _ => rfl))))
        pss_nil)
      (pss_one (ps_ret (pe_meth (pv 1) T.cl_Table T.m_Table_shown.me G_Table_shown (hr.mono (by first | decide | omega)) b_Table_shown .nil pass0 (pa_cons (pv 2) pa_nil))))), ?_⟩
    obtain ⟨dxa, eat⟩ := TA.at_
    refine ⟨_, rfl, _, rfl, c, A.c 61, dx, _, _, rfl, ec, T.cl_Copy, T.n_Copy_aside, l_casd .., as_, _, rfl, DGet.k (k := Sum.inl p) ea, _, rfl, ?_⟩
    rcases ho with ⟨e1, e2⟩ | ⟨_, v, e2, hv⟩
    · rw [e2]
      refine iteF ⟨_, rfl, a, dxa, _, rfl, eat, rfl, _, rfl, a, r, h, g, t, n, p, rfl, TA, TG, p0, p8, fun G v kG hv => k G v kG (by rw [← e1]; exact hv)⟩
    · have dg : DGet H as_ (.int p) (some v) := by
        have := DGet.k (k := Sum.inl p) ea
        rw [e2] at this
        exact this
      rw [e2]
      exact iteT ⟨_, rfl, c, A.c 61, dx, _, _, rfl, ec, T.cl_Copy, T.n_Copy_aside, l_casd .., _, rfl, as_, v, rfl, dg, k H v (Kg.refl _ _ _) hv⟩
/-! ### __init__ -/
theorem scCi : FnScope ["self", "number"] ["self", "number"] (defScope s_Copy___init__) := ⟨rfl, rfl, rfl, by decide +kernel, rfl, by decide +kernel, by decide +kernel⟩
def spCInit (A : Ad) : Sp := fun vs H Q _ => ∃ (c dx : Addr) (num : Int), vs = [.ref c, .int num] ∧ H c = some (.ins (A.c 61) dx []) ∧
  ∀ G wn as_, H wn = none → H as_ = none → wn ≠ as_ → G c = some (.ins (A.c 61) dx (cfl num wn as_)) → G wn = some (.lst ((keysFrom 0 9).map V.int)) → G as_ = some (.dK []) → Kp (fun b => b = c) H G → Q .non G
theorem ok_cinit (T : Txt K mg A) : ∃ fd, FnOk P w K mg base CX0 1 (A.m 61 0) fd ["self", "number"] (spCInit A) ∧ Binds K fd ["self", "number"] [] := by
  obtain ⟨fd, F⟩ := T.m_Copy___init__.fn
  refine ⟨fd, F.ok scCi (fun vs H Q E h => ?_) (fun cdv Ar outer s H vs Q E hr h => ?_), F.binds fun _ _ _ _ _ _ us hl => match us, hl with | [_, _], _ => rfl⟩
  · obtain ⟨c, dx, num, rfl, _⟩ := h
    rfl
  · obtain ⟨c, dx, num, rfl, ec, k⟩ := h
    have hu := hu_of hr
    refine ⟨_, (pss_cons (ps_fld (pv 0) (pv 1) rfl)
      (pss_cons (ps_fld (pv 0) (pe_listRg rfl (by rfl) T.list (prg_1 (by rfl) T.range (pe_glob (v := .int 9) rfl T.k_PAGES.choose_spec ⟨_, rfl⟩))) rfl)
      (pss_one (ps_fld (pv 0) pe_dnewK rfl)))), ?_⟩
    have lt : ∀ n : Nat, n ≤ 5 → n < 1000 := fun n h => by omega
    refine ⟨_, rfl, _, rfl, c, A.c 61, dx, _, rfl, ec, T.cl_Copy, T.n_Copy_number, lt 0 (by decide), ?_⟩
    have k1 : Kp (fun b => b = c) H (upd H c (.ins (A.c 61) dx [("number", .int num)])) := Kp.updI ec rfl
    have e1 : upd H c (.ins (A.c 61) dx [("number", .int num)]) c = some (.ins (A.c 61) dx [("number", .int num)]) := upd_same
    show tSeq _ _ _ _ (upd H c (.ins (A.c 61) dx [("number", .int num)]))
    generalize upd H c (.ins (A.c 61) dx [("number", .int num)]) = H1 at k1 e1 ⊢
    refine ⟨9, rfl, RgOk.of_le (by decide) (by decide) (by decide) (by decide), fun wn nwn => ⟨_, rfl, c, A.c 61, dx, _, rfl, (upd_ne (ne_of_none e1 nwn)).trans e1, T.cl_Copy, T.n_Copy_wanted, lt 1 (by decide), ?_⟩⟩
    have k2 : Kp (fun b => b = c) H1 (upd (upd H1 wn (.lst (rgV 0 9))) c (.ins (A.c 61) dx [("number", .int num), ("wanted", .ref wn)])) := (Kp.new nwn).andI ((upd_ne (ne_of_none e1 nwn)).trans e1) rfl
    have e2 : upd (upd H1 wn (.lst (rgV 0 9))) c (.ins (A.c 61) dx [("number", .int num), ("wanted", .ref wn)]) c = some (.ins (A.c 61) dx [("number", .int num), ("wanted", .ref wn)]) := upd_same
    have w2 : upd (upd H1 wn (.lst (rgV 0 9))) c (.ins (A.c 61) dx [("number", .int num), ("wanted", .ref wn)]) wn = some (.lst ((keysFrom 0 9).map V.int)) := by rw [upd_ne (ne_of_none e1 nwn).symm, upd_same]; rfl
    rw [show putF "wanted" (V.ref wn) [("number", V.int num)] = ([("number", V.int num), ("wanted", V.ref wn)] : List (Str × V)) from rfl]
    generalize upd (upd H1 wn (.lst (rgV 0 9))) c (.ins (A.c 61) dx [("number", .int num), ("wanted", .ref wn)]) = H2 at k2 e2 w2 ⊢
    refine fun as_ nas => ⟨_, rfl, c, A.c 61, dx, _, rfl, (upd_ne (ne_of_none e2 nas)).trans e2, T.cl_Copy, T.n_Copy_aside, lt 2 (by decide), ?_⟩
    have k3 : Kp (fun b => b = c) H2 (upd (upd H2 as_ (.dK [])) c (.ins (A.c 61) dx (cfl num wn as_))) := (Kp.new nas).andI ((upd_ne (ne_of_none e2 nas)).trans e2) rfl
    have nwc : ¬ wn = c := (ne_of_none e1 nwn).symm
    have nac : ¬ as_ = c := (ne_of_none e2 nas).symm
    have hw0 : H wn = none := k1.free nwn fun z => absurd z nwc
    have ha0 : H as_ = none := (k1.trans k2 fun _ z => .inl z).free nas fun z => absurd z nac
    exact k _ wn as_ hw0 ha0 (ne_of_none w2 nas) upd_same (k3.t.lst w2 nwc) (by rw [upd_ne nac, upd_same]) ((k1.trans k2 fun _ z => .inl z).trans k3 fun _ z => .inl z)
/-! ### follow -/
theorem scCf : FnScope ["self", "old", "new", "page", "told"] ["self", "old", "new"] (defScope s_Copy_follow) := ⟨rfl, rfl, rfl, by decide +kernel, rfl, by decide +kernel, by decide +kernel⟩
def spCFollow (A : Ad) (tp : Nat → Addr) : Sp := fun vs H Q _ => ∃ (x : Cp) (a r h g : Addr) (t : TT) (n : Nat) (a2 r2 h2 g2 : Addr) (t2 : TT) (n2 : Nat), vs = [.ref x.c, .ref a, .ref a2] ∧ CpAt A H x t ∧ TabAt A H a r h g t n ∧ TabAt A H a2 r2 h2 g2 t2 n2 ∧ ¬ tF a r h g x.as_ ∧ ¬ tF a2 r2 h2 g2 x.as_ ∧ Tg (tL tp) H ∧
  ∀ G, CpAt A G x t2 → Kg (tL tp) (fun b => b = x.as_) H G → Q .non G
theorem ok_cfollow (T : Txt K mg A) (TB : TbsB base mg A tp) : ∃ fd, FnOk P w K mg base CX0 9 (A.m 61 2) fd ["self", "old", "new"] (spCFollow A tp) ∧ Binds K fd ["self", "old", "new"] [] := by
  obtain ⟨fd, F⟩ := T.m_Copy_follow.fn
  obtain ⟨fdP, G_Copy_page_of, b_Copy_page_of⟩ := ok_page_of (P := P) (w := w) (base := base) T TB
  obtain ⟨fdS, G_Table_shown, b_Table_shown⟩ := ok_shownX (P := P) (w := w) (base := base) T TB
  refine ⟨fd, F.ok scCf (fun vs H Q E h => ?_) (fun cdv Ar outer s H vs Q E hr h => ?_), F.binds fun _ _ _ _ _ _ us hl => match us, hl with | [_, _, _], _ => rfl⟩
  · obtain ⟨x, a, r, h, g, t, n, a2, r2, h2, g2, t2, n2, rfl, _⟩ := h
    rfl
  · obtain ⟨x, a, r, h, g, t, n, a2, r2, h2, g2, t2, n2, rfl, C, TA, TA2, na, na2, TG, k⟩ := h
    have hu := hu_of hr
    refine ⟨_, (pss_one (ps_for PassesOwn.never rfl (pi_list (pe_fld (pv 0) rfl)) (pg_name (i := 3) scCf.nd rfl (Or.inl rfl))
        (pss_cons (ps_set (i := 4) scCf.nd rfl (Or.inl rfl) (pe_meth (pv 0) T.cl_Copy T.m_Copy_page_of.me G_Copy_page_of (hr.mono (by first | decide | omega)) b_Copy_page_of .nil pass0 (pa_cons (pv 1) (pa_cons (pv 3) pa_nil))))
        (pss_one (ps_if (pt_cmpR (op_eqD hr.units) (pv 4) (pe_meth (pv 2) T.cl_Table T.m_Table_shown.me G_Table_shown (hr.mono (by first | decide | omega)) b_Table_shown .nil pass0 (pa_cons (pv 3) pa_nil)) (nomark _))
          (pss_one (ps_expr (pe_dpop2 (pe_fld (pv 0) rfl) (pv 3) pe_non ⟨rfl, rfl, rfl, rfl⟩)))
          (pss_one (ps_dput hu (pe_fld (pv 0) rfl) (pv 3) (pv 4) rfl))))))), ?_⟩
    obtain ⟨dx, ec⟩ := C.at_
    obtain ⟨kvs0, ea0, hk0, ho0⟩ := C.asd
    have nca : x.c ≠ x.as_ := ne_of ec ea0 (by intro z; cases z)
    have nwa : x.wn ≠ x.as_ := ne_of C.wan ea0 (by intro z; cases z)
    refine ⟨_, rfl, x.c, A.c 61, dx, _, _, rfl, ec, T.cl_Copy, T.n_Copy_wanted, l_cwan .., ?_⟩
    refine ⟨x.wn, rfl, ⟨_, SqL.of C.wan⟩, for_list (K := K) (a := x.wn) (xs := x.want.map V.int) (fun i σ J => (∃ o1 o2, σ = [some (.ref x.c), some (.ref a), some (.ref a2), o1, o2]) ∧ Kg (tL tp) (fun b => b = x.as_) H J ∧ ∃ kvs, J x.as_ = some (.dK kvs) ∧ AsK kvs x.want ∧ ∀ j p, x.want[j]? = some p → AsO J kvs p (stOf x.t0 p) (if j < i then stOf t2 p else stOf t p)) ⟨⟨_, _, rfl⟩, Kg.refl _ _ _, kvs0, ea0, hk0, fun j p hj => ?_⟩ (fun i σ J _ ⟨_, kJ, _⟩ => SqL.of (kJ.t.lst C.wan nwa)) ?_ ?_⟩
    · rw [if_neg (Nat.not_lt_zero j)]
      exact ho0 p (List.mem_of_getElem? hj)
    · rintro i y σ J hy ⟨⟨o1, o2, rfl⟩, kJ, kvs, ea, hk, ho⟩
      obtain ⟨p, hp, rfl⟩ : ∃ p, x.want[i]? = some p ∧ y = V.int p := by
        rw [List.getElem?_map] at hy
        cases e : x.want[i]? with
        | none => rw [e] at hy; cases hy
        | some p => rw [e] at hy; exact ⟨p, rfl, (Option.some.inj hy).symm⟩
      obtain ⟨p0, p8⟩ := C.in9 p (List.mem_of_getElem? hp)
      have hop := ho i p hp
      rw [if_neg (Nat.lt_irrefl i)] at hop
      have nF : ∀ {a r h g : Addr}, ¬ tF a r h g x.as_ → ∀ b, b = x.as_ → ¬ tF a r h g b := fun n b z y => n (by rw [← show b = x.as_ from z]; exact y)
      have TJ := TA.kt kJ.t (nF na)
      have TJ2 := TA2.kt kJ.t (nF na2)
      have ecJ := kJ.t.ins ec nca
      refine ⟨_, rfl, x.c, dx, _, rfl, ecJ, rfl, _, rfl, _, rfl, x.c, x.wn, x.as_, dx, x.num, kvs, a, r, h, g, t, n, p, stOf x.t0 p, rfl, ecJ, ea, hop, TJ, TG.kg kJ, p0, p8, fun G1 v k1 hv => ?_⟩
      have kJ1 := kJ.trans k1 fun _ z => False.elim z
      have T2G := TJ2.no k1.t
      obtain ⟨dx2, e2⟩ := T2G.at_
      refine ⟨_, rfl, _, rfl, a2, dx2, _, rfl, e2, rfl, _, rfl, a2, r2, h2, g2, t2, n2, p, rfl, T2G, TG.kg kJ1, p0, p8, fun G2 v2 k2 hv2 => ?_⟩
      have kJ2 := kJ1.trans k2 fun _ z => False.elim z
      have hv' := hv.kt k2.t
      have D1 := dt_st (K := K) hv'
      have D2 := dt_st (K := K) hv2
      have k12 : Kg (tL tp) No J G2 := k1.trans k2 fun _ z => False.elim z
      have ea2 := k12.t.dK ea fun z => z
      have ec2 := kJ2.t.ins ec nca
      have others : ∀ {kv' : List (Key × V)} {G3 : Hp}, Kt (fun b => b = x.as_) G2 G3 → (∀ p', p' ≠ p → valV kv' (.inl p' : Key) = valV kvs (.inl p' : Key)) → ∀ j p', x.want[j]? = some p' → j ≠ i → AsO G3 kv' p' (stOf x.t0 p') (if j < i + 1 then stOf t2 p' else stOf t p') := fun {kv' G3} k3 hv j p' hj hji => by
        have np : p' ≠ p := fun z => by
          rw [z] at hj
          exact hji ((List.getElem?_inj (List.getElem?_eq_some_iff.mp hj).1 C.nd).mp (hj.trans hp.symm))
        have h0 := ((ho j p' hj).kt k12.t).kt k3
        rw [show (if j < i + 1 then stOf t2 p' else stOf t p') = (if j < i then stOf t2 p' else stOf t p') by
          by_cases z : j < i
          · rw [if_pos z, if_pos (by omega)]
          · rw [if_neg z, if_neg (by omega)]]
        rcases h0 with ⟨q1, q2⟩ | ⟨q1, u, q2, q3⟩
        · exact .inl ⟨q1, by rw [hv p' np]; exact q2⟩
        · exact .inr ⟨q1, u, by rw [hv p' np]; exact q2, q3⟩
      refine ⟨_, _, D1.1, D2.1, D1.shaped (by decide), D2.shaped (by decide), _, rfl, ite2 (fun z => ?_) (fun z => ?_)⟩
      · -- it is told yet
        have es : stOf t2 p = stOf x.t0 p := (eqv_st (like_st _ _ _) z).symm
        refine ⟨_, rfl, x.c, A.c 61, dx, _, _, rfl, ec2, T.cl_Copy, T.n_Copy_aside, l_casd .., x.as_, rfl, .inl ⟨kvs, .inl ea2⟩, _, rfl, kvs, Sum.inl p, ea2, rfl, fun u hu => ?_, fun hu => ?_⟩
        · have k3 : Kg (tL tp) (fun b => b = x.as_) G2 (upd G2 x.as_ (.dK (dropK kvs (Sum.inl p)))) := Kg.of (Kp.updD ea2 rfl)
          refine ⟨⟨_, _, rfl⟩, kJ2.trans k3 fun _ z => .inl z, _, upd_same, hk.del p, fun j p' hj => ?_⟩
          by_cases hji : j = i
          · rw [hji, hp] at hj
            cases hj
            rw [if_pos (by omega)]
            exact .inl ⟨es, by rw [valV_drop, if_pos rfl]⟩
          · exact others k3.t (fun p' np => by rw [valV_drop, if_neg (fun z => np (Sum.inl.inj z))]) j p' hj hji
        · refine ⟨⟨_, _, rfl⟩, kJ2, _, ea2, hk, fun j p' hj => ?_⟩
          by_cases hji : j = i
          · rw [hji, hp] at hj
            cases hj
            rw [if_pos (by omega)]
            exact .inl ⟨es, hu⟩
          · exact others (Kt.refl _ _) (fun _ _ => rfl) j p' hj hji
      · -- it is kept aside
        have es : stOf t2 p ≠ stOf x.t0 p := fun e => by
          rw [e, D1.same] at z
          exact z rfl
        refine ⟨_, rfl, _, rfl, x.c, A.c 61, dx, _, _, rfl, ec2, T.cl_Copy, T.n_Copy_aside, l_casd .., _, rfl, x.as_, _, rfl, DPut.k (k := Sum.inl p) ea2 (szL (by have := hk.len C.in9; omega)), ?_⟩
        have k3 : Kg (tL tp) (fun b => b = x.as_) G2 (upd G2 x.as_ (.dK (putK kvs (Sum.inl p) v))) := Kg.of (Kp.updD ea2 rfl)
        refine ⟨⟨_, _, rfl⟩, kJ2.trans k3 fun _ z => .inl z, _, upd_same, hk.put (List.mem_of_getElem? hp), fun j p' hj => ?_⟩
        by_cases hji : j = i
        · rw [hji, hp] at hj
          cases hj
          rw [if_pos (by omega)]
          exact .inr ⟨es, v, by rw [valV_put, if_pos rfl], hv'.kt k3.t⟩
        · exact others k3.t (fun p' np => by rw [valV_put, if_neg (fun z => np (Sum.inl.inj z))]) j p' hj hji
    · rintro σ J ⟨⟨o1, o2, rfl⟩, kJ, kvs, ea, hk, ho⟩
      refine k J ⟨⟨dx, kJ.t.ins ec nca⟩, kJ.t.lst C.wan nwa, C.nd, C.in9, kvs, ea, hk, fun p hp => ?_⟩ kJ
      obtain ⟨j, hj⟩ := List.getElem?_of_mem hp
      have := ho j p hj
      rw [if_pos (by rw [List.length_map]; exact (List.getElem?_eq_some_iff.mp hj).1)] at this
      exact this
end
end S02

set_option Elab.async false
set_option linter.all false
set_option maxRecDepth 100000
set_option maxHeartbeats 4000000
/-! ### the disk as the store uses it: no deed fails -/
namespace S02
open PySem PySem.Spec PyProof.Rows L2 K5 SupX GenX
def dAd (A : Ad) : K5.Ad := ⟨A.d 27, A.d 57, A.d 58, A.c 59, fun j => A.m 59 j, A.c 11, A.c 14⟩
theorem dTx {K : PySem.W.Frag} {mg : Str → Option Value} {A : Ad} (T : Txt K mg A) : K5.Txt K mg (dAd A) :=
  ⟨⟨T.within.fn, T.within.at_⟩, ⟨T.is_too_heavy.fn, T.is_too_heavy.at_⟩, ⟨T.check_block.fn, T.check_block.at_⟩, T.k_BLOCKS, T.k_MOST_WEIGHT,
   ⟨T.x_BadBlock.at_, T.x_BadBlock.ex, T.x_BadBlock.kp, T.x_BadBlock.sb, T.x_BadBlock.ty⟩, ⟨T.x_Stopped.at_, T.x_Stopped.ex, T.x_Stopped.kp, T.x_Stopped.sb, T.x_Stopped.ty⟩,
   T.isinstance, T.int, T.bool, T.tuple, T.list, T.zip, T.cl_Disk, T.n_Disk_sure, T.n_Disk_unsure, T.n_Disk_deeds_left, T.n_Disk_armed_picks, T.n_Disk_running, T.n_Disk_stops,
   ⟨T.m_Disk___init__.fn, T.m_Disk___init__.me⟩, ⟨T.m_Disk_write.fn, T.m_Disk_write.me⟩, ⟨T.m_Disk_settle.fn, T.m_Disk_settle.me⟩, ⟨T.m_Disk_read.fn, T.m_Disk_read.me⟩, ⟨T.m_Disk_arm.fn, T.m_Disk_arm.me⟩, ⟨T.m_Disk_stop.fn, T.m_Disk_stop.me⟩, ⟨T.m_Disk_again.fn, T.m_Disk_again.me⟩, ⟨T.m_Disk_settled.fn, T.m_Disk_settled.me⟩, ⟨T.m_Disk_check_running.fn, T.m_Disk_check_running.me⟩, ⟨T.m_Disk_count_deed.fn, T.m_Disk_count_deed.me⟩⟩
/-- it runs, and k deeds may be done -/
def Enough (m : M) (k : Int) : Prop := m.run = true ∧ ∀ l, m.left = some l → k ≤ l
theorem Enough.le {m : M} {k j : Int} (h : Enough m k) (l : j ≤ k) : Enough m j := ⟨h.1, fun x e => Int.le_trans l (h.2 x e)⟩
theorem Enough.one {m : M} {k : Int} (h : Enough m k) (h1 : 1 ≤ k) : m.count.1 = true ∧ Enough m.count.2 (k - 1) := by
  obtain ⟨hr, hl⟩ := h
  have hc : m.count.1 = true := by
    unfold M.count
    rw [if_pos hr]
    cases e : m.left with
    | none => rfl
    | some l =>
      have := hl l e
      show (if l ≤ 0 then (false, m.stop m.picks) else _).1 = true
      rw [if_neg (by omega)]
  obtain ⟨_, _, e3, e4, _⟩ := count_true hc
  refine ⟨hc, e3, fun l e => ?_⟩
  rcases e4 with e4 | ⟨l', h0, h1, h2⟩
  · rw [e4] at e
    have := hl l e
    omega
  · rw [h2] at e
    cases e
    have := hl l' h1
    omega
section
variable {A : K5.Ad} {K : PySem.W.Frag} {H : Hp} {p ls lu : Addr} {m : M} {Q : VK}
theorem count_stops {m : M} (h : m.count.1 = true) : m.count.2.stops = m.stops := by
  unfold M.count at h ⊢
  by_cases hr : m.run = true
  · rw [if_pos hr] at h ⊢
    cases e : m.left with
    | none => rfl
    | some l =>
      rw [e] at h
      by_cases hl : l ≤ 0
      · have h : (if l ≤ 0 then (false, m.stop m.picks) else _).1 = true := h
        rw [if_pos hl] at h
        cases h
      · show (if l ≤ 0 then (false, m.stop m.picks) else _).2.stops = _
        rw [if_neg hl]
  · rw [if_neg hr] at h
    cases h
/-- a write that is done -/
theorem dk_write {n : Int} {v : V} {d x z : Nat} (D : DiskAt A H p ls lu m) (Gm : Good m) (hf : m.pend.length < 1000) (hd : DatK K H d v x z) (hz : z ≤ 10000) (f : Fits n x) (en : m.count.1 = true)
    (k : ∀ G, Kp (dF p ls lu) H G → DiskAt A G p ls lu (m.count.2.write n v) → Q .non G) : spDk1 A K [.ref p, .int n, v] H Q (fun _ _ _ => False) := by
  refine ⟨p, ls, lu, m, n, v, d, x, z, rfl, D, Gm, hf, hd, hz, fun G lu' hl kG => ⟨fun nf => absurd f nf, fun _ _ e DG => ?_, fun _ c => by rw [en] at c; cases c⟩⟩
  subst e
  exact k G kG DG
theorem dk_settle (D : DiskAt A H p ls lu m) (Gm : Good m) (en : m.count.1 = true)
    (k : ∀ G lu', (lu' = lu ∨ H lu' = none) → Kp (dF p ls lu) H G → DiskAt A G p ls lu' m.count.2.settle → Q .non G) : spDk2 A [.ref p] H Q (fun _ _ _ => False) := by
  refine ⟨p, ls, lu, m, rfl, D, Gm, fun G lu' hl kG => ⟨fun _ DG => k G lu' hl kG DG, fun c => by rw [en] at c; cases c⟩⟩
theorem dk_read {n : Int} (D : DiskAt A H p ls lu m) (Gm : Good m) (h0 : 0 ≤ n) (h1 : n ≤ 34) (hr : m.run = true) (hp : m.pend = [])
    (k : ∀ G, Kp No H G → Q (m.sure.getD n.toNat .non) G) : spDk3 A [.ref p, .int n] H Q (fun _ _ _ => False) := by
  refine ⟨p, ls, lu, m, n, rfl, D, Gm, fun G kG => ⟨fun z => absurd ⟨h0, h1⟩ z, (fun _ _ z => by rw [hr] at z; cases z), fun _ _ _ => ?_⟩⟩
  have := k G kG
  unfold M.get
  rw [hp]
  exact this
end
/-! the root and the store -/
def sfl (d : Addr) (st : Int) (r : V) : List (Str × V) := [("disk", .ref d), ("stops", .int st), ("root", r)]
section
variable (d : Addr) (st : Int) (r v : V)
theorem l_sdisk : (sfl d st r).lookup ("disk" : Str) = some (.ref d) := rfl
theorem l_sstops : (sfl d st r).lookup ("stops" : Str) = some (.int st) := rfl
theorem l_sroot : (sfl d st r).lookup ("root" : Str) = some r := rfl
theorem p_sroot : putF "root" v (sfl d st r) = sfl d st v := rfl
end
structure RtAt (K : PySem.W.Frag) (H : Hp) (r : Addr) (num : Int) : Prop where
  ex : ∃ (run : Int) (p : Addr) (pl : List Int), SqT K H r [.int run, .int num, .ref p] ∧ SqT K H p (pl.map V.int) ∧ pl.length = 9 ∧ ∀ i ∈ pl, i = 0 ∨ i = 1
theorem RtAt.kt {K : PySem.W.Frag} {F : Addr → Prop} {H G : Hp} (k : Kt F H G) {r : Addr} {num : Int} (h : RtAt K H r num) : RtAt K G r num := by
  obtain ⟨run, p, pl, h1, h2, h3⟩ := h.ex
  exact ⟨run, p, pl, SqT.kt k h1, SqT.kt k h2, h3⟩
theorem sumInts {K : PySem.W.Frag} {H : Hp} {n : Nat} : ∀ (pl : List Int), SumD (DatK K H (n + 1)) (pl.map V.int) pl.length pl.length
  | [] => ⟨rfl, rfl⟩
  | i :: pl => ⟨1, pl.length, 1, pl.length, DatK.leaf rfl, sumInts pl, by rw [List.length_cons]; omega, by rw [List.length_cons]; omega⟩
theorem RtAt.dat {K : PySem.W.Frag} {H : Hp} {r : Addr} {num : Int} (h : RtAt K H r num) : DatK K H 3 (.ref r) 11 13 := by
  obtain ⟨run, p, pl, h1, h2, h3, _⟩ := h.ex
  refine .inr ⟨r, _, 12, rfl, h1, ⟨1, 10, 1, 11, DatK.leaf rfl, ⟨1, 9, 1, 10, DatK.leaf rfl, ⟨9, 0, 10, 0, .inr ⟨p, _, 9, rfl, h2, ?_, rfl⟩, ⟨rfl, rfl⟩, rfl, rfl⟩, rfl, rfl⟩, rfl, rfl⟩, rfl⟩
  have := sumInts (K := K) (H := H) (n := 0) pl
  rw [h3] at this
  exact this
theorem RtAt.dp {K : PySem.W.Frag} {H : Hp} {r : Addr} {num : Int} (h : RtAt K H r num) : ∃ d, Dp K H (.ref r) d ∧ SeqAt.shaped d = true ∧ PyData.eqv d d = true := by
  obtain ⟨run, p, pl, h1, h2, h3, _⟩ := h.ex
  have hp : ∃ ds, DtA K H 0 (pl.map V.int) ds := by
    clear h3 h2
    induction pl with
    | nil => exact ⟨_, DtA.nil 0⟩
    | cons i pl ih =>
      obtain ⟨ds, hd⟩ := ih (fun j hj => by rename_i h; exact h j (List.mem_cons_of_mem _ hj))
      exact ⟨_, (Dt.int 0 i).cons hd⟩
  obtain ⟨ds, hd⟩ := hp
  have h4 : Dt K H 1 (.ref p) (.tuple ds) := ⟨.tup h2 hd.1, by simp only [PyData.canLay0]; exact hd.2.1, by simp only [PyData.depth]; have := hd.2.2; omega⟩
  have ha : DtA K H 1 [.int run, .int num, .ref p] _ := (Dt.int 1 run).cons ((Dt.int 1 num).cons (h4.cons (DtA.nil 1)))
  have h5 : Dt K H 2 (.ref r) (.tuple _) := ⟨.tup h1 ha.1, by simp only [PyData.canLay0]; exact ha.2.1, by simp only [PyData.depth]; have := ha.2.2; omega⟩
  exact ⟨_, h5.1, h5.shaped (by decide), h5.same⟩
/-- a store s of the disk d: it runs, nothing is unsettled, its root is r -/
structure StAt (A : Ad) (H : Hp) (s d ls lu r : Addr) (m : M) : Prop where
  at_ : ∃ dx, H s = some (.ins (A.c 72) dx (sfl d m.stops (.ref r)))
  dk : DiskAt (dAd A) H d ls lu m
  gd : Good m
  run : m.run = true
  pend : m.pend = []
def sF (s d ls lu : Addr) : Addr → Prop := fun b => b = s ∨ b = d ∨ b = ls ∨ b = lu
theorem StAt.kt {A : Ad} {F : Addr → Prop} {H G : Hp} {s d ls lu r : Addr} {m : M} (k : Kt F H G) (S : StAt A H s d ls lu r m) (n : ∀ b, F b → ¬ sF s d ls lu b) : StAt A G s d ls lu r m := by
  obtain ⟨dx, e⟩ := S.at_
  exact ⟨⟨dx, k.ins e fun z => n _ z (.inl rfl)⟩, S.dk.kt k fun b z y => n b z (.inr y), S.gd, S.run, S.pend⟩
theorem ne_sd {H : Hp} {C C2 dx dx2 s d d2 ls lu tp : Addr} {st st2 : Int} {r lf : V} {rn : Bool} (h1 : H s = some (.ins C dx (sfl d2 st r))) (h2 : H d = some (.ins C2 dx2 (dfl ls lu lf tp rn st2))) : s ≠ d := by
  intro z
  rw [z, h2] at h1
  cases h1
theorem StAt.nes {A : Ad} {H : Hp} {s d ls lu r : Addr} {m : M} (S : StAt A H s d ls lu r m) : ¬ dF d ls lu s := by
  obtain ⟨dx, e⟩ := S.at_
  obtain ⟨dx2, tp, st, h1, _⟩ := S.dk.ex
  obtain ⟨rs, h3, _⟩ := S.dk.uns
  rintro (z | z | z)
  · exact ne_sd e h1 z
  · exact ne_of e S.dk.sure (by intro z; cases z) z
  · exact ne_of e h3 (by intro z; cases z) z
end S02

set_option Elab.async false
set_option linter.all false
set_option maxRecDepth 100000
set_option maxHeartbeats 4000000
namespace S02
open PySem PySem.Spec PyProof.Rows L2 K5 SupX GenX
section
variable {P : Program} {w : World} {K : PySem.W.Frag} {mg : Str → Option Value} {base : Heap} {A : Ad}
/-! ### write_root -/
theorem scWr : FnScope ["self", "root"] ["self", "root"] (defScope s_Store_write_root) := ⟨rfl, rfl, rfl, by decide +kernel, rfl, by decide +kernel, by decide +kernel⟩
/-- the root is settled: what is there behind it -/
def WrQ (A : Ad) (s d ls lu r : Addr) (H : Hp) (m : M) (e : Int) (Q : Hp → Prop) : Prop := ∀ G lu' m', (lu' = lu ∨ H lu' = none) → Kp (sF s d ls lu) H G → StAt A G s d ls lu' r m' → m'.sure[0]? = some (.ref r) → m'.stops = m.stops → Enough m' e → Q G
def spWr (A : Ad) (K : PySem.W.Frag) : Sp := fun vs H Q _ => ∃ (s d ls lu r : Addr) (ro : V) (m : M) (e : Int) (dd x z : Nat), vs = [.ref s, .ref r] ∧ (∃ dx, H s = some (.ins (A.c 72) dx (sfl d m.stops ro))) ∧ DiskAt (dAd A) H d ls lu m ∧ Good m ∧ m.pend = [] ∧ Enough m (e + 2) ∧ 0 ≤ e ∧
  DatK K H dd (.ref r) x z ∧ x ≤ 40 ∧ z ≤ 10000 ∧ WrQ A s d ls lu r H m e (Q .non)
theorem ok_write_root (T : Txt K mg A) : ∃ fd, FnOk P w K mg base CX0 4 (A.m 72 4) fd ["self", "root"] (spWr A K) ∧ Binds K fd ["self", "root"] [] := by
  obtain ⟨fd, F⟩ := T.m_Store_write_root.fn
  obtain ⟨fd1, G_Disk_write, b_Disk_write⟩ := ok_dk1 (P := P) (w := w) (base := base) (dTx T)
  obtain ⟨fd2, G_Disk_settle, b_Disk_settle⟩ := ok_dk2 (P := P) (w := w) (base := base) (dTx T)
  refine ⟨fd, F.ok scWr (fun vs H Q E h => ?_) (fun cdv Ar outer s H vs Q E hr h => ?_), F.binds fun _ _ _ _ _ _ us hl => match us, hl with | [_, _], _ => rfl⟩
  · obtain ⟨s, d, ls, lu, r, ro, m, e, dd, x, z, rfl, _⟩ := h
    rfl
  · obtain ⟨s, d, ls, lu, r, ro, m, e, dd, x, z, rfl, ⟨dx, es⟩, D, Gm, hp, en, he, hd, hx, hz, k⟩ := h
    refine ⟨_, (pss_cons (ps_expr (pe_meth (E := fun _ _ _ => False) (pe_fld (pv 0) rfl) T.cl_Disk T.m_Disk_write.me G_Disk_write (hr.mono (by first | decide | omega)) b_Disk_write .nil (L2N.passes_call takesN0 fun _ _ _ _ h => h) (pa_cons (pe_glob (v := .int 0) rfl T.k_ROOT.choose_spec ⟨_, rfl⟩) (pa_cons (pv 1) pa_nil))))
      (pss_cons (ps_expr (pe_meth0 (E := fun _ _ _ => False) (pe_fld (pv 0) rfl) T.cl_Disk T.m_Disk_settle.me G_Disk_settle (hr.mono (by first | decide | omega)) b_Disk_settle .nil (L2N.passes_call takesN0 fun _ _ _ _ h => h)))
      (pss_one (ps_fld (pv 0) (pv 1) rfl)))), ?_⟩
    obtain ⟨ddx, tp, st, ed, _, _⟩ := D.ex
    obtain ⟨c1, en1⟩ := en.one (by omega)
    refine ⟨_, rfl, s, A.c 72, dx, _, _, rfl, es, T.cl_Store, T.n_Store_disk, l_sdisk .., d, ddx, _, rfl, ed, rfl, _, rfl, ?_⟩
    unfold tNil
    show spDk1 (dAd A) K [.ref d, .int 0, .ref r] H _ _
    refine dk_write (n := 0) D Gm (by rw [hp]; decide) hd hz ⟨by decide, by decide, hx⟩ c1 fun G kG DG => ?_
    have Gm1 : Good (m.count.2.write 0 (.ref r)) := by
      have g := Gm.count c1
      obtain ⟨_, e2, e3, _, _⟩ := count_true c1
      exact ⟨g.len, fun q hq => by
        rcases List.mem_append.mp hq with z | z
        · exact g.blk q z
        · rw [List.mem_singleton.mp z]
          exact ⟨Int.le_refl 0, (by decide : (0 : Int) ≤ 34)⟩, by show (m.count.2.pend ++ _).length ≤ 1000; rw [e2, hp, List.nil_append]; exact (by decide : 1 ≤ 1000), (fun z => by have z : m.count.2.run = false := z; rw [e3] at z; cases z), g.nat⟩
    have hs1 : (m.count.2.write 0 (.ref r)).stops = m.stops := count_stops c1
    have en1' : Enough (m.count.2.write 0 (.ref r)) (e + 2 - 1) := en1
    obtain ⟨c2, en2⟩ := en1'.one (by omega)
    obtain ⟨f1, f2, _, _, _⟩ := count_true c1
    obtain ⟨g1, g2, g3, _, _⟩ := count_true c2
    have hs2 := count_stops c2
    have nes : ¬ dF d ls lu s := by
      obtain ⟨rs, h3, _⟩ := D.uns
      rintro (z | z | z)
      · exact ne_sd es ed z
      · exact ne_of es D.sure (by intro z; cases z) z
      · exact ne_of es h3 (by intro z; cases z) z
    have esG := kG.t.ins es nes
    obtain ⟨ddx2, tp2, st2, ed2, _, _⟩ := DG.ex
    refine ⟨_, rfl, s, A.c 72, dx, _, _, rfl, esG, T.cl_Store, T.n_Store_disk, l_sdisk .., d, ddx2, _, rfl, ed2, rfl, ?_⟩
    show spDk2 (dAd A) [.ref d] G _ _
    refine dk_settle DG Gm1 c2 fun G2 lu' hl kG2 DG2 => ?_
    have esG2 := kG2.t.ins esG nes
    refine ⟨_, rfl, _, rfl, s, A.c 72, dx, _, rfl, esG2, T.cl_Store, T.n_Store_root, by show 3 < 1000; decide, ?_⟩
    rw [p_sroot]
    have k3 : Kp (fun b => b = s) G2 (upd G2 s (.ins (A.c 72) dx (sfl d m.stops (.ref r)))) := Kp.updI esG2 rfl
    have hlu : lu' = lu ∨ H lu' = none := hl.imp id fun z => kG.free z fun y => by
      rcases y with y | y | y
      · rw [y] at z; rw [ed2] at z; cases z
      · rw [y] at z; rw [DG.sure] at z; cases z
      · obtain ⟨rs, h3, _⟩ := DG.uns
        rw [y, h3] at z; cases z
    have hsd : s ≠ d := fun z => nes (.inl z)
    have nlu : lu' ≠ s := fun z => by
      obtain ⟨rs, h3, _⟩ := DG2.uns
      exact ne_of esG2 h3 (by intro z; cases z) z.symm
    have pd : m.count.2.pend = [] := by rw [f2, hp]
    have sure2 : (m.count.2.write 0 (.ref r)).count.2.settle.sure = m.sure.set 0 (.ref r) := by
      show K5.putAll _ _ = _
      rw [g1, g2]
      show K5.putAll m.count.2.sure (m.count.2.pend ++ [(0, V.ref r)]) = _
      rw [pd, f1]
      rfl
    have hst : (m.count.2.write 0 (.ref r)).count.2.settle.stops = m.stops := by
      show (m.count.2.write 0 (.ref r)).count.2.stops = _
      rw [hs2, hs1]
    have Gm2 : Good (m.count.2.write 0 (.ref r)).count.2.settle := by
      have g := Gm1.count c2
      exact ⟨by rw [sure2, List.length_set]; exact Gm.len, (fun q hq => nomatch hq), Nat.zero_le _, fun _ => rfl, g.nat⟩
    have kF : Kp (sF s d ls lu) H _ := ((kG.trans kG2 fun b z => .inl z).sub (F' := sF s d ls lu) fun b z => .inr z).trans k3 fun b z => .inl (.inl z)
    refine k _ lu' _ hlu kF ⟨⟨dx, by rw [hst]; exact upd_same⟩, DG2.kt k3.t ?_, Gm2, g3, rfl⟩ ?_ hst ?_
    · rintro b rfl (z | z | z)
      · exact hsd z
      · exact nes (.inr (.inl z))
      · exact nlu z.symm
    · rw [sure2, List.getElem?_set_self (by rw [Gm.len]; decide)]
    · exact ⟨g3, fun l e' => by have := en2.2 l e'; omega⟩
/-! ### claim -/
theorem scCl : FnScope ["self", "run", "number", "places"] ["self"] (defScope s_Store_claim) := ⟨rfl, rfl, rfl, by decide +kernel, rfl, by decide +kernel, by decide +kernel⟩
def spClaim (A : Ad) (K : PySem.W.Frag) : Sp := fun vs H Q _ => ∃ (s d ls lu r : Addr) (m : M) (num e : Int), vs = [.ref s] ∧ StAt A H s d ls lu r m ∧ RtAt K H r num ∧ Enough m (e + 2) ∧ 0 ≤ e ∧ ∀ r', WrQ A s d ls lu r' H m e fun G => RtAt K G r' num → Q .non G
theorem ok_claim (T : Txt K mg A) : ∃ fd, FnOk P w K mg base CX0 5 (A.m 72 1) fd ["self"] (spClaim A K) ∧ Binds K fd ["self"] [] := by
  obtain ⟨fd, F⟩ := T.m_Store_claim.fn
  obtain ⟨fd4, G_Store_write_root, b_Store_write_root⟩ := ok_write_root (P := P) (w := w) (base := base) T
  refine ⟨fd, F.ok scCl (fun vs H Q E h => ?_) (fun cdv Ar outer s H vs Q E hr h => ?_), F.binds fun _ _ _ _ _ _ us hl => match us, hl with | [_], _ => rfl⟩
  · obtain ⟨s, d, ls, lu, r, m, num, e, rfl, _⟩ := h
    rfl
  · obtain ⟨s, d, ls, lu, r, m, num, e, rfl, S, R, en, he, k⟩ := h
    refine ⟨_, (pss_cons (ps_asg (pe_fld (pv 0) rfl) (pg_tup rfl (pgs_cons (pg_name (i := 1) scCl.nd rfl (Or.inl rfl)) (pgs_cons (pg_name (i := 2) scCl.nd rfl (Or.inl rfl)) (pgs_cons (pg_name (i := 3) scCl.nd rfl (Or.inl rfl)) pgs_nil)))))
      (pss_one (ps_expr (pe_meth (pv 0) T.cl_Store T.m_Store_write_root.me G_Store_write_root (hr.mono (by first | decide | omega)) b_Store_write_root .nil pass0 (pa_cons (pe_tup (pa_cons (pe_op op_add (pv 1) pe_int) (pa_cons (pv 2) (pa_cons (pv 3) pa_nil)))) pa_nil))))), ?_⟩
    obtain ⟨dx, es⟩ := S.at_
    obtain ⟨run, p, pl, h1, h2, h3, h4⟩ := R.ex
    refine ⟨_, rfl, s, A.c 72, dx, _, _, rfl, es, T.cl_Store, T.n_Store_root, l_sroot .., r, _, rfl, h1, rfl, _, _, rfl, _, _, rfl, _, _, rfl, rfl, ?_⟩
    refine ⟨_, rfl, s, dx, _, rfl, es, rfl, _, rfl, _, _, rfl, rfl, _, rfl, _, rfl, sz 3 (by decide), fun r' nr' => ?_⟩
    unfold tNil
    show spWr A K [.ref s, .ref r'] (upd H r' (.tup [.int (run + 1), .int num, .ref p])) _ _
    have kn : Kp (sF s d ls lu) H (upd H r' (.tup [.int (run + 1), .int num, .ref p])) := Kp.new nr'
    have kN : Kp No H (upd H r' (.tup [.int (run + 1), .int num, .ref p])) := Kp.new nr'
    have S1 := S.kt kN.t fun _ z => False.elim z
    have R1 : RtAt K (upd H r' (.tup [.int (run + 1), .int num, .ref p])) r' num := ⟨_, p, pl, SqT.of upd_same, SqT.kt kN.t h2, h3, h4⟩
    refine ⟨s, d, ls, lu, r', _, m, e, 3, 11, 13, rfl, S1.at_, S1.dk, S1.gd, S1.pend, en, he, R1.dat, by decide, by decide, fun G lu' m' hl kG SG q1 q2 q3 => ?_⟩
    exact k r' G lu' m' (hl.imp id fun z => (upd_none z).2) (kn.trans kG fun b z => .inl z) SG q1 q2 q3 (R1.kt kG.t)
end
end S02

set_option Elab.async false
set_option linter.all false
set_option maxRecDepth 100000
set_option maxHeartbeats 4000000
namespace S02
open PySem PySem.Spec PyProof.Rows L2 K5 SupX GenX
/-! what pages and entries weigh -/
theorem sumB {K : PySem.W.Frag} {H : Hp} {n c e : Nat} {α : Type} {R : V → α → Prop} (h : ∀ v a, R v a → ∃ x z, DatK K H n v x z ∧ x ≤ c ∧ z ≤ e) {xs : List V} {ys : List α} (p : Paired R xs ys) : ∃ x z, SumD (DatK K H n) xs x z ∧ x ≤ c * ys.length ∧ z ≤ e * ys.length := by
  induction p with
  | nil => exact ⟨0, 0, ⟨rfl, rfl⟩, Nat.zero_le _, Nat.zero_le _⟩
  | cons r _ ih =>
    obtain ⟨x, z, h1, h2, h3⟩ := h _ _ r
    obtain ⟨x', z', g1, g2, g3⟩ := ih
    refine ⟨x + x', z + z', ⟨x, x', z, z', h1, g1, rfl, rfl⟩, ?_, ?_⟩
    · rw [List.length_cons, Nat.mul_succ]; omega
    · rw [List.length_cons, Nat.mul_succ]; omega
section
variable {K : PySem.W.Frag} {H : Hp}
theorem leaf1 {n : Nat} {v : V} {vs : List V} {w z : Nat} (h : leafV v = true) (r : SumD (DatK K H (n + 1)) vs w z) : SumD (DatK K H (n + 1)) (v :: vs) (1 + w) (1 + z) := ⟨1, w, 1, z, DatK.leaf h, r, rfl, rfl⟩
theorem leaf0 {n : Nat} : SumD (DatK K H (n + 1)) [] 0 0 := ⟨rfl, rfl⟩
theorem DatK.tup {n : Nat} {a : Addr} {xs : List V} {w z : Nat} (e : H a = some (.tup xs)) (s : SumD (DatK K H n) xs w z) : DatK K H (n + 1) (.ref a) w (z + 1) := .inr ⟨a, xs, z, rfl, SqT.of e, s, rfl⟩
theorem kt_dat {c : Addr} (h : KtAt H c) : ∃ x z, DatK K H 4 (.ref c) x z ∧ x ≤ 40 ∧ z ≤ 10000 := by
  rcases h with ⟨l, ⟨xs, e, p⟩, hl⟩ | ⟨m, c2, l, e, ⟨xs, e2, p⟩, hl⟩
  · obtain ⟨x, z, h1, h2, h3⟩ := sumB (K := K) (H := H) (n := 3) (c := 3) (e := 4) (fun v a r => by
      obtain ⟨t, rfl, q⟩ := r
      exact ⟨_, _, DatK.tup (n := 2) q (leaf1 rfl (leaf1 rfl (leaf1 rfl leaf0))), by decide, by decide⟩) p
    exact ⟨_, _, DatK.tup e h1, by omega, by omega⟩
  · obtain ⟨x, z, h1, h2, h3⟩ := sumB (K := K) (H := H) (n := 2) (c := 4) (e := 5) (fun v a r => by
      obtain ⟨t, rfl, q⟩ := r
      exact ⟨_, _, DatK.tup (n := 1) q (leaf1 rfl (leaf1 rfl (leaf1 rfl (leaf1 rfl leaf0)))), by decide, by decide⟩) p
    exact ⟨_, _, DatK.tup e (leaf1 rfl ⟨_, 0, _, 0, DatK.tup e2 h1, ⟨rfl, rfl⟩, rfl, rfl⟩), by omega, by omega⟩
theorem dd_dat {v : V} {d : Dd} (h : DdAt H v d) : ∃ x z, DatK K H 2 v x z ∧ x ≤ 4 ∧ z ≤ 5 := by
  obtain ⟨a, rfl, e⟩ := h
  cases d with
  | put k w l => exact ⟨_, _, DatK.tup (n := 1) e (leaf1 (show leafV (V.str "put") = true from by decide +kernel) (leaf1 rfl (leaf1 rfl (leaf1 rfl leaf0)))), by decide, by decide⟩
  | drop k => exact ⟨_, _, DatK.tup (n := 1) e (leaf1 (show leafV (V.str "drop") = true from by decide +kernel) (leaf1 rfl leaf0)), by decide, by decide⟩
  | add k m => exact ⟨_, _, DatK.tup (n := 1) e (leaf1 (show leafV (V.str "add") = true from by decide +kernel) (leaf1 rfl (leaf1 rfl leaf0))), by decide, by decide⟩
  | iff k w =>
    cases w with
    | none => exact ⟨_, _, DatK.tup (n := 1) e (leaf1 (show leafV (V.str "if") = true from by decide +kernel) (leaf1 rfl (leaf1 rfl leaf0))), by decide, by decide⟩
    | some w => exact ⟨_, _, DatK.tup (n := 1) e (leaf1 (show leafV (V.str "if") = true from by decide +kernel) (leaf1 rfl (leaf1 rfl leaf0))), by decide, by decide⟩
theorem ev_dat {v : V} {e : Ev} (h : EvAt H v e) (ok : e.ok) : ∃ x z, DatK K H 4 v x z ∧ x ≤ 20 ∧ z ≤ 1000 := by
  cases e with
  | tick m =>
    obtain ⟨u, rfl, q⟩ := h
    exact ⟨_, _, DatK.tup (n := 3) q (leaf1 (show leafV (V.str "tick") = true from by decide +kernel) (leaf1 rfl leaf0)), by decide, by decide⟩
  | deal hd x ds =>
    obtain ⟨u, dv, rfl, q, a, xs, rfl, e, p, _⟩ := h
    obtain ⟨x, z, h1, h2, h3⟩ := sumB (K := K) (H := H) (n := 2) (c := 4) (e := 5) (fun v a r => dd_dat r) p
    have := ok.2.2
    exact ⟨_, _, DatK.tup (n := 3) q (leaf1 (show leafV (V.str "deal") = true from by decide +kernel) (leaf1 rfl (leaf1 rfl ⟨_, 0, _, 0, DatK.tup (n := 2) e h1, ⟨rfl, rfl⟩, rfl, rfl⟩))), by omega, by omega⟩
end
/-- an entry with its number -/
def EnV (H : Hp) (v : V) : Prop := ∃ u at_ x e, v = .ref u ∧ H u = some (.tup [.int at_, x]) ∧ 0 ≤ at_ ∧ EvAt H x e ∧ e.ok
theorem EnV.kt {F : Addr → Prop} {H G : Hp} (k : Kt F H G) {v : V} (h : EnV H v) : EnV G v := let ⟨u, a, x, e, q, r, h0, z, o⟩ := h; ⟨u, a, x, e, q, k.tup r, h0, z.kt k, o⟩
section
variable {P : Program} {w : World} {K : PySem.W.Frag} {mg : Str → Option Value} {base : Heap} {A : Ad}
/-! ### check_held -/
theorem scCh : FnScope ["self"] ["self"] (defScope s_Store_check_held) := ⟨rfl, rfl, rfl, by decide +kernel, rfl, by decide +kernel, by decide +kernel⟩
def spHeld (A : Ad) (K : PySem.W.Frag) : Sp := fun vs H Q _ => ∃ (s d ls lu r : Addr) (m : M) (num : Int), vs = [.ref s] ∧ StAt A H s d ls lu r m ∧ RtAt K H r num ∧ m.sure[0]? = some (.ref r) ∧ ∀ G, Kp No H G → Q .non G
theorem ok_check_held (T : Txt K mg A) : ∃ fd, FnOk P w K mg base CX0 4 (A.m 72 3) fd ["self"] (spHeld A K) ∧ Binds K fd ["self"] [] := by
  obtain ⟨fd, F⟩ := T.m_Store_check_held.fn
  obtain ⟨fd3, G_Disk_read, b_Disk_read⟩ := ok_dk3 (P := P) (w := w) (base := base) (dTx T)
  refine ⟨fd, F.ok scCh (fun vs H Q E h => ?_) (fun cdv Ar outer s H vs Q E hr h => ?_), F.binds fun _ _ _ _ _ _ us hl => match us, hl with | [_], _ => rfl⟩
  · obtain ⟨s, d, ls, lu, r, m, num, rfl, _⟩ := h
    rfl
  · obtain ⟨s, d, ls, lu, r, m, num, rfl, S, R, h0, k⟩ := h
    refine ⟨_, (pss_one (ps_if (PW.pt (pw_or (pt_cmpR op_ne (pe_fld (pe_fld (pv 0) rfl) rfl) (pe_fld (pv 0) rfl) (nomark _)) (pw_or1 (pt_cmpR (op_neD hr.units) (pe_meth (E := fun _ _ _ => False) (pe_fld (pv 0) rfl) T.cl_Disk T.m_Disk_read.me G_Disk_read (hr.mono (by first | decide | omega)) b_Disk_read .nil (L2N.passes_call takesN0 fun _ _ _ _ h => h) (pa_cons (pe_glob (v := .int 0) rfl T.k_ROOT.choose_spec ⟨_, rfl⟩) pa_nil)) (pe_fld (pv 0) rfl) (nomark _)))))
        (pss_one ps_never)
        pss_nil)), ?_⟩
    obtain ⟨dx, es⟩ := S.at_
    obtain ⟨ddx, tp, st, ed, _, rfl⟩ := S.dk.ex
    refine ⟨_, rfl, s, A.c 72, dx, _, _, rfl, es, T.cl_Store, T.n_Store_disk, l_sdisk .., d, A.c 59, ddx, _, _, rfl, ed, T.cl_Disk, T.n_Disk_stops, K5.l_stops .., _, rfl, s, A.c 72, dx, _, _, rfl, es, T.cl_Store, T.n_Store_stops, l_sstops .., rfl, _, rfl, ite2 (fun z => absurd z (by simp)) (fun _ => ?_)⟩
    refine ⟨_, rfl, s, A.c 72, dx, _, _, rfl, es, T.cl_Store, T.n_Store_disk, l_sdisk .., d, ddx, _, rfl, ed, rfl, ?_⟩
    unfold tCons tC tNil
    show spDk3 (dAd A) [.ref d, .int 0] H _ _
    refine dk_read (n := 0) S.dk S.gd (by decide) (by decide) S.run S.pend fun G kG => ?_
    obtain ⟨dt, hd, h1, h2⟩ := (R.kt kG.t).dp
    have e0 : m.sure.getD (0 : Int).toNat .non = .ref r := by
      rw [List.getD_eq_getElem?_getD, show (0 : Int).toNat = 0 from rfl, h0]
      rfl
    rw [e0]
    refine ⟨_, rfl, s, A.c 72, dx, _, _, rfl, kG.t.ins es (fun z => z), T.cl_Store, T.n_Store_root, l_sroot .., dt, dt, hd, hd, h1, h1, _, rfl, ?_⟩
    rw [h2]
    exact iteF (k G kG)
end
end S02

set_option Elab.async false
set_option linter.all false
set_option maxRecDepth 100000
set_option maxHeartbeats 4000000
namespace S02
open PySem PySem.Spec PyProof.Rows L2 K5 SupX GenX
def PlAt (H : Hp) (D : Addr) : Prop := ∃ pl : List Int, H D = some (.lst (pl.map V.int)) ∧ pl.length = 9 ∧ ∀ i ∈ pl, i = 0 ∨ i = 1
theorem PlAt.kt {F : Addr → Prop} {H G : Hp} (k : Kt F H G) {D : Addr} (h : PlAt H D) (n : ¬ F D) : PlAt G D := let ⟨pl, e, q⟩ := h; ⟨pl, k.lst e n, q⟩
/-- the disk amid writes -/
structure DwAt (A : Ad) (H : Hp) (d ls lu : Addr) (m m1 : M) (n : Nat) (e : Int) : Prop where
  dk : DiskAt (dAd A) H d ls lu m1
  gd : Good m1
  few : m1.pend.length ≤ n
  en : Enough m1 e
  st : m1.stops = m.stops
theorem DwAt.kt {A : Ad} {F : Addr → Prop} {H G : Hp} {d ls lu : Addr} {m m1 : M} {n : Nat} {e : Int} (k : Kt F H G) (W : DwAt A H d ls lu m m1 n e) (nf : ∀ b, F b → ¬ dF d ls lu b) : DwAt A G d ls lu m m1 n e := ⟨W.dk.kt k nf, W.gd, W.few, W.en, W.st⟩
theorem DwAt.write {A : Ad} {K : PySem.W.Frag} {H : Hp} {d ls lu : Addr} {m m1 : M} {n : Nat} {e b : Int} {v : V} {dd x z : Nat} {Q : VK} (W : DwAt A H d ls lu m m1 n e) (h1 : 1 ≤ e) (hn : n < 1000) (hd : DatK K H dd v x z) (hz : z ≤ 10000) (f : Fits b x)
    (k : ∀ G m2, Kp (dF d ls lu) H G → DwAt A G d ls lu m m2 (n + 1) (e - 1) → Q .non G) : spDk1 (dAd A) K [.ref d, .int b, v] H Q (fun _ _ _ => False) := by
  obtain ⟨c, en⟩ := W.en.one h1
  obtain ⟨e1, e2, e3, _, _⟩ := count_true c
  have g := W.gd.count c
  have := W.few
  refine dk_write W.dk W.gd (by omega) hd hz f c fun G kG DG => k G _ kG ⟨DG, ⟨g.len, fun q hq => ?_, ?_, fun z => ?_, g.nat⟩, ?_, en, (count_stops c).trans W.st⟩
  · rcases List.mem_append.mp hq with z | z
    · exact g.blk q z
    · rw [List.mem_singleton.mp z]
      exact ⟨f.1, f.2.1⟩
  · show (m1.count.2.pend ++ _).length ≤ 1000
    rw [e2, List.length_append, List.length_singleton]
    omega
  · have z : m1.count.2.run = false := z
    rw [e3] at z
    cases z
  · show (m1.count.2.pend ++ _).length ≤ n + 1
    rw [e2, List.length_append, List.length_singleton]
    omega
section
variable {P : Program} {w : World} {K : PySem.W.Frag} {mg : Str → Option Value} {base : Heap} {A : Ad} {tp : Nat → Addr}
theorem scEb : FnScope ["number"] ["number"] (defScope s_entry_block) := ⟨rfl, rfl, rfl, by decide +kernel, rfl, by decide +kernel, by decide +kernel⟩
def spEb : Sp := fun vs H Q _ => ∃ n : Int, vs = [.int n] ∧ ∀ b : Int, 1 ≤ b → b ≤ 16 → Q (.int b) H
theorem ok_entry_block (T : Txt K mg A) : ∃ fd, FnOk P w K mg base CX0 1 (A.d 70) fd ["number"] spEb ∧ Binds K fd ["number"] [] := by
  obtain ⟨fd, F⟩ := T.entry_block.fn
  refine ⟨fd, F.ok scEb (fun vs H Q E h => ?_) (fun cdv Ar outer s H vs Q E hr h => ?_), F.binds fun _ _ _ _ _ _ us hl => match us, hl with | [_], _ => rfl⟩
  · obtain ⟨n, rfl, _⟩ := h
    rfl
  · obtain ⟨n, rfl, k⟩ := h
    refine ⟨_, (pss_one (ps_ret (pe_op op_add (pe_glob (v := .int 1) rfl T.k_FIRST_ENTRY.choose_spec ⟨_, rfl⟩) (pe_op op_mod (pv 0) (pe_glob (v := .int 16) rfl T.k_MOST_ENTRIES.choose_spec ⟨_, rfl⟩))))), ?_⟩
    refine ⟨_, rfl, _, _, rfl, rfl, (by decide : (0 : Int) < 16), _, _, rfl, rfl, k _ ?_ ?_⟩
    · have := Int.emod_nonneg n (show (16 : Int) ≠ 0 by decide)
      omega
    · have := Int.emod_lt_of_pos n (show (0 : Int) < 16 by decide)
      omega
theorem scPb : FnScope ["page", "place"] ["page", "place"] (defScope s_page_block) := ⟨rfl, rfl, rfl, by decide +kernel, rfl, by decide +kernel, by decide +kernel⟩
def spPb : Sp := fun vs H Q _ => ∃ p l : Int, vs = [.int p, .int l] ∧ Q (.int (17 + 2 * p + l)) H
theorem ok_page_block (T : Txt K mg A) : ∃ fd, FnOk P w K mg base CX0 1 (A.d 71) fd ["page", "place"] spPb ∧ Binds K fd ["page", "place"] [] := by
  obtain ⟨fd, F⟩ := T.page_block.fn
  refine ⟨fd, F.ok scPb (fun vs H Q E h => ?_) (fun cdv Ar outer s H vs Q E hr h => ?_), F.binds fun _ _ _ _ _ _ us hl => match us, hl with | [_, _], _ => rfl⟩
  · obtain ⟨p, l, rfl, _⟩ := h
    rfl
  · obtain ⟨p, l, rfl, k⟩ := h
    refine ⟨_, (pss_one (ps_ret (pe_op op_add (pe_op op_add (pe_glob (v := .int 17) rfl T.k_FIRST_PAGE.choose_spec ⟨_, rfl⟩) (pe_op op_mul pe_int (pv 0))) (pv 1)))), ?_⟩
    exact ⟨_, rfl, _, _, rfl, rfl, .inl ⟨by decide, by decide⟩, _, _, rfl, rfl, _, rfl, _, _, rfl, rfl, k⟩
/-! ### put -/
theorem scPut : FnScope ["self", "number", "pages", "entries", "places", "page", "content", "at", "entry"] ["self", "number", "pages", "entries"] (defScope s_Store_put) := ⟨rfl, rfl, rfl, by decide +kernel, rfl, by decide +kernel, by decide +kernel⟩
def spPut (A : Ad) (K : PySem.W.Frag) : Sp := fun vs H Q _ => ∃ (s d ls lu r : Addr) (m : M) (num num' e : Int) (lp le : Addr) (ps es : List V), vs = [.ref s, .int num', .ref lp, .ref le] ∧ StAt A H s d ls lu r m ∧ RtAt K H r num ∧ m.sure[0]? = some (.ref r) ∧
  H lp = some (.lst ps) ∧ (∀ v ∈ ps, PcV H v) ∧ ps.length ≤ 9 ∧ H le = some (.lst es) ∧ (∀ v ∈ es, EnV H v) ∧ es.length ≤ 4 ∧ Enough m (e + 16) ∧ 0 ≤ e ∧ lp ≠ ls ∧ lp ≠ lu ∧ le ≠ ls ∧ le ≠ lu ∧ ∀ r', WrQ A s d ls lu r' H m e fun G => RtAt K G r' num' → Q .non G
theorem ok_put (T : Txt K mg A) : ∃ fd, FnOk P w K mg base CX0 5 (A.m 72 2) fd ["self", "number", "pages", "entries"] (spPut A K) ∧ Binds K fd ["self", "number", "pages", "entries"] [] := by
  obtain ⟨fd, F⟩ := T.m_Store_put.fn
  obtain ⟨fd1, G_Disk_write, b_Disk_write⟩ := ok_dk1 (P := P) (w := w) (base := base) (dTx T)
  obtain ⟨fd2, G_Disk_settle, b_Disk_settle⟩ := ok_dk2 (P := P) (w := w) (base := base) (dTx T)
  obtain ⟨fd3, G_Store_check_held, b_Store_check_held⟩ := ok_check_held (P := P) (w := w) (base := base) T
  obtain ⟨fd4, G_Store_write_root, b_Store_write_root⟩ := ok_write_root (P := P) (w := w) (base := base) T
  obtain ⟨fd5, Gentry_block, bentry_block⟩ := ok_entry_block (P := P) (w := w) (base := base) T
  obtain ⟨fd6, Gpage_block, bpage_block⟩ := ok_page_block (P := P) (w := w) (base := base) T
  refine ⟨fd, F.ok scPut (fun vs H Q E h => ?_) (fun cdv Ar outer s H vs Q E hr h => ?_), F.binds fun _ _ _ _ _ _ us hl => match us, hl with | [_, _, _, _], _ => rfl⟩
  · obtain ⟨s, d, ls, lu, r, m, num, num', e, lp, le, ps, es, rfl, _⟩ := h
    rfl
  · obtain ⟨s, d, ls, lu, r, m, num, num', e, lp, le, ps, es, rfl, S, R, h0, hlp, hps, lps, hle, hes, les, en, he, d1, d2, d3, d4, k⟩ := h
    refine ⟨_, (pss_cons (ps_expr (pe_meth0 (pv 0) T.cl_Store T.m_Store_check_held.me G_Store_check_held (hr.mono (by first | decide | omega)) b_Store_check_held .nil pass0))
      (pss_cons (ps_set (i := 4) scPut.nd rfl (Or.inl rfl) (pe_callTy call_list_of (by rfl) T.list (by decide +kernel) (pa_cons (pe_ix ix_tup (pe_fld (pv 0) rfl) pe_int (fun _ _ => rfl)) pa_nil)))
      (C8.pss_cut (ps_for PassesOwn.never rfl (pi_list (pv 2)) (pg_tup rfl (pgs_cons (pg_name (i := 5) scPut.nd rfl (Or.inl rfl)) (pgs_cons (pg_name (i := 6) scPut.nd rfl (Or.inl rfl)) pgs_nil)))
        (pss_cons (ps_asg (pe_op op_sub pe_int (pe_ix ix_list (pv 4) (pv 5) (fun _ _ => rfl))) (pg_sub (pv 4) (pv 5) set_list))
        (pss_one (ps_expr (pe_meth (E := fun _ _ _ => False) (pe_fld (pv 0) rfl) T.cl_Disk T.m_Disk_write.me G_Disk_write (hr.mono (by first | decide | omega)) b_Disk_write .nil (L2N.passes_call takesN0 fun _ _ _ _ h => h) (pa_cons (pe_call Gpage_block (hr.mono (by first | decide | omega)) rfl T.page_block.at_ T.page_block.kp bpage_block .nil pass0 (pa_cons (pv 5) (pa_cons (pe_ix ix_list (pv 4) (pv 5) (fun _ _ => rfl)) pa_nil))) (pa_cons (pv 6) pa_nil)))))))
      (C8.pss_cut (ps_for PassesOwn.never rfl (pi_list (pv 3)) (pg_tup rfl (pgs_cons (pg_name (i := 7) scPut.nd rfl (Or.inl rfl)) (pgs_cons (pg_name (i := 8) scPut.nd rfl (Or.inl rfl)) pgs_nil)))
        (pss_one (ps_expr (pe_meth (E := fun _ _ _ => False) (pe_fld (pv 0) rfl) T.cl_Disk T.m_Disk_write.me G_Disk_write (hr.mono (by first | decide | omega)) b_Disk_write .nil (L2N.passes_call takesN0 fun _ _ _ _ h => h) (pa_cons (pe_call Gentry_block (hr.mono (by first | decide | omega)) rfl T.entry_block.at_ T.entry_block.kp bentry_block .nil pass0 (pa_cons (pv 7) pa_nil)) (pa_cons (pe_tup (pa_cons (pv 7) (pa_cons (pv 8) pa_nil))) pa_nil))))))
      (pss_cons (ps_expr (pe_meth0 (E := fun _ _ _ => False) (pe_fld (pv 0) rfl) T.cl_Disk T.m_Disk_settle.me G_Disk_settle (hr.mono (by first | decide | omega)) b_Disk_settle .nil (L2N.passes_call takesN0 fun _ _ _ _ h => h)))
      (pss_one (ps_expr (pe_meth (pv 0) T.cl_Store T.m_Store_write_root.me G_Store_write_root (hr.mono (by first | decide | omega)) b_Store_write_root .nil pass0 (pa_cons (pe_tup (pa_cons (pe_ix ix_tup (pe_fld (pv 0) rfl) pe_int (fun _ _ => rfl)) (pa_cons (pv 1) (pa_cons (pe_callTy call_tuple_of (by rfl) T.tuple (by decide +kernel) (pa_cons (pv 4) pa_nil)) pa_nil)))) pa_nil))))))))), ?_⟩
    obtain ⟨dx, es_⟩ := S.at_
    obtain ⟨run, p, pl, r1, r2, r3, r4⟩ := R.ex
    -- self.check_held()
    refine ⟨_, rfl, s, dx, _, rfl, es_, rfl, s, d, ls, lu, r, m, num, rfl, S, R, h0, fun G0 k0 => ?_⟩
    have S0 := S.kt k0.t fun _ z => False.elim z
    have es0 := k0.t.ins es_ fun z => z
    -- places = list(self.root[2])
    refine ⟨_, rfl, s, A.c 72, dx, _, _, rfl, es0, T.cl_Store, T.n_Store_root, l_sroot .., r, _, 2, .ref p, rfl, rfl, SqT.kt k0.t r1, rfl, p, pl.map V.int, rfl, .inr (SqT.kt k0.t r2), fun D nD => ?_⟩
    have kD : Kp No G0 (upd G0 D (.lst (pl.map V.int))) := Kp.new nD
    have eD : upd G0 D (.lst (pl.map V.int)) D = some (.lst (pl.map V.int)) := upd_same
    generalize upd G0 D (.lst (pl.map V.int)) = G1 at kD eD ⊢
    have k1 : Kp No H G1 := k0.trans kD fun _ z => False.elim z
    have S1 := S.kt k1.t fun _ z => False.elim z
    have nDH : H D = none := k0.free nD fun z => False.elim z
    have nDd : ¬ dF d ls lu D := by
      obtain ⟨ddx, tp, st, ed, _⟩ := S.dk.ex
      obtain ⟨rs, h3, _⟩ := S.dk.uns
      rintro (z | z | z)
      · rw [z, ed] at nDH; cases nDH
      · rw [z, S.dk.sure] at nDH; cases nDH
      · rw [z, h3] at nDH; cases nDH
    have nlp : ¬ (lp = D ∨ dF d ls lu lp) := by
      obtain ⟨ddx, tp, st, ed, _⟩ := S.dk.ex
      rintro (z | z | z | z)
      · rw [← z, hlp] at nDH; cases nDH
      · rw [z, ed] at hlp; cases hlp
      · exact d1 z
      · exact d2 z
    have nle : ¬ (le = D ∨ dF d ls lu le) := by
      obtain ⟨ddx, tp, st, ed, _⟩ := S.dk.ex
      rintro (z | z | z | z)
      · rw [← z, hle] at nDH; cases nDH
      · rw [z, ed] at hle; cases hle
      · exact d3 z
      · exact d4 z
    have nDs : s ≠ D := fun z => by rw [← z, es_] at nDH; cases nDH
    -- the pages
    refine ⟨fun σ J => ∃ o1 o2 m1, σ = [some (.ref s), some (.int num'), some (.ref lp), some (.ref le), some (.ref D), o1, o2, none, none] ∧ Kp (fun b => b = D ∨ dF d ls lu b) G1 J ∧ PlAt J D ∧ DwAt A J d ls lu m m1 9 (e + 7), ?_, ?_⟩
    · refine ⟨_, rfl, lp, rfl, ⟨_, SqL.of (k1.t.lst hlp fun z => z)⟩, for_list (K := K) (a := lp) (xs := ps) (fun i σ J => ∃ o1 o2 m1, σ = [some (.ref s), some (.int num'), some (.ref lp), some (.ref le), some (.ref D), o1, o2, none, none] ∧ Kp (fun b => b = D ∨ dF d ls lu b) G1 J ∧ PlAt J D ∧ DwAt A J d ls lu m m1 i (e + 16 - i))
        ⟨none, none, m, rfl, Kp.refl _ _, ⟨pl, eD, r3, r4⟩, S1.dk, S1.gd, by rw [S1.pend]; exact Nat.le_refl _, by rw [Int.ofNat_zero, Int.sub_zero]; exact en, rfl⟩ (fun i σ J _ ⟨_, _, _, _, kJ, _⟩ => SqL.of (kJ.t.lst (k1.t.lst hlp fun z => z) nlp)) ?_ ?_⟩
      · rintro i x σ J hx ⟨o1, o2, m1, rfl, kJ, ⟨pl', eD', l9, z1⟩, W⟩
        obtain ⟨u, pg, c, rfl, hu, p0, p8, hc⟩ := hps x (List.mem_of_getElem? hx)
        have hi : i < ps.length := (List.getElem?_eq_some_iff.mp hx).1
        have kHJ : Kp (fun b => b = D ∨ dF d ls lu b) H J := (k1.sub fun _ z => False.elim z).trans kJ fun b z => .inl z
        have hlt : pg.toNat < pl'.length := by rw [l9]; omega
        have eix : (pl'.map V.int)[pg.toNat]? = some (.int (pl'[pg.toNat])) := by rw [List.getElem?_map, List.getElem?_eq_getElem hlt]; rfl
        have hl2 : (pl'.map V.int).length = 9 := by rw [List.length_map]; exact l9
        have eat : atI (pl'.map V.int) pg = some (.int (pl'[pg.toNat])) := by unfold atI; rw [ixN_in p0 (by rw [hl2]; omega)]; exact eix
        refine ⟨u, _, rfl, SqT.of (kHJ.t.tup hu), rfl, _, _, rfl, _, _, rfl, rfl, ?_⟩
        -- places[page] = 1 - places[page]
        refine ⟨_, rfl, _, rfl, D, pl'.map V.int, pg, .int (pl'[pg.toNat]), rfl, rfl, SqL.of eD', eat, _, _, rfl, rfl, _, rfl, _, rfl, D, _, pg, pg.toNat, rfl, rfl, eD', ixN_in p0 (by rw [hl2]; omega), ?_⟩
        have kS : Kp (fun b => b = D) J (upd J D (.lst ((pl'.map V.int).set pg.toNat (.int (1 - pl'[pg.toNat]))))) := Kp.updL eD' rfl
        have eS : upd J D (.lst ((pl'.map V.int).set pg.toNat (.int (1 - pl'[pg.toNat])))) D = some (.lst ((pl'.set pg.toNat (1 - pl'[pg.toNat])).map V.int)) := by rw [upd_same, List.map_set]
        have hz1 : 1 - pl'[pg.toNat] = 0 ∨ 1 - pl'[pg.toNat] = 1 := by
          rcases z1 _ (List.getElem_mem hlt) with z | z <;> rw [z] <;> decide
        have zz : ∀ i ∈ pl'.set pg.toNat (1 - pl'[pg.toNat]), i = 0 ∨ i = 1 := fun i hi => by
          rcases List.mem_or_eq_of_mem_set hi with y | y
          · exact z1 i y
          · rw [y]; exact hz1
        have lS : (pl'.set pg.toNat (1 - pl'[pg.toNat])).length = 9 := by rw [List.length_set]; exact l9
        have eat2 : atI ((pl'.set pg.toNat (1 - pl'[pg.toNat])).map V.int) pg = some (.int (1 - pl'[pg.toNat])) := by
          unfold atI
          rw [ixN_in p0 (by rw [List.length_map, lS]; omega), Option.bind_some, List.getElem?_map, List.getElem?_set_self hlt]
          rfl
        generalize upd J D (.lst ((pl'.map V.int).set pg.toNat (.int (1 - pl'[pg.toNat])))) = J1 at kS eS ⊢
        generalize 1 - pl'[pg.toNat] = q at *
        have W1 := W.kt kS.t fun b z y => nDd (by rw [← show b = D from z]; exact y)
        have esJ : J1 s = _ := kS.t.ins (kJ.t.ins (kD.t.ins es0 fun z => z) fun z => z.elim nDs S.nes) nDs
        obtain ⟨ddx, tp, st, ed, _⟩ := W1.dk.ex
        have kH1 : Kp (fun b => b = D ∨ dF d ls lu b) H J1 := kHJ.trans kS fun b z => .inl (.inl z)
        obtain ⟨wx, wz, hd, hw, hz⟩ := kt_dat (K := K) (hc.kt kH1.t)
        -- self.disk.write(page_block(page, places[page]), content)
        refine ⟨_, rfl, s, A.c 72, dx, _, _, rfl, esJ, T.cl_Store, T.n_Store_disk, l_sdisk .., d, ddx, _, rfl, ed, rfl, _, rfl, _, rfl, _, rfl, D, _, pg, .int q, rfl, rfl, SqL.of eS, eat2, pg, q, rfl, _, rfl, ?_⟩
        unfold tNil
        show spDk1 (dAd A) K [.ref d, .int (17 + 2 * pg + q), .ref c] J1 _ _
        refine W1.write (by omega) (by omega) hd hz ⟨by omega, by omega, hw⟩ fun G m2 kG WG => ?_
        refine ⟨_, _, m2, rfl, (kJ.trans kS fun b z => .inl (.inl z)).trans (kG.sub (F' := fun b => b = D ∨ dF d ls lu b) fun b z => .inr z) fun b z => .inl z, ⟨_, kG.t.lst eS nDd, lS, zz⟩, WG.dk, WG.gd, WG.few, WG.en.le (by omega), WG.st⟩
      · rintro σ J ⟨o1, o2, m1, rfl, kJ, PJ, W⟩
        exact ⟨o1, o2, m1, rfl, kJ, PJ, W.dk, W.gd, Nat.le_trans W.few lps, W.en.le (by omega), W.st⟩
    · rintro σ J ⟨o1, o2, m1, rfl, kJ, PJ, W⟩
      -- the entries
      refine ⟨fun σ I => ∃ o3 o4 m2, σ = [some (.ref s), some (.int num'), some (.ref lp), some (.ref le), some (.ref D), o1, o2, o3, o4] ∧ Kp (fun b => b = D ∨ dF d ls lu b) G1 I ∧ PlAt I D ∧ DwAt A I d ls lu m m2 13 (e + 3), ?_, ?_⟩
      · refine ⟨_, rfl, le, rfl, ⟨_, SqL.of (kJ.t.lst (k1.t.lst hle fun z => z) nle)⟩, for_list (K := K) (a := le) (xs := es) (fun i σ I => ∃ o3 o4 m2, σ = [some (.ref s), some (.int num'), some (.ref lp), some (.ref le), some (.ref D), o1, o2, o3, o4] ∧ Kp (fun b => b = D ∨ dF d ls lu b) G1 I ∧ PlAt I D ∧ DwAt A I d ls lu m m2 (9 + i) (e + 7 - i))
          ⟨none, none, m1, rfl, kJ, PJ, by rw [Int.ofNat_zero, Int.sub_zero]; exact W⟩ (fun i σ I _ ⟨_, _, _, _, kI, _⟩ => SqL.of (kI.t.lst (k1.t.lst hle fun z => z) nle)) ?_ ?_⟩
        · rintro i x σ I hx ⟨o3, o4, m2, rfl, kI, PI, WI⟩
          obtain ⟨u, at_, y, ev, rfl, hu, a0, hev, hok⟩ := hes x (List.mem_of_getElem? hx)
          have hi : i < es.length := (List.getElem?_eq_some_iff.mp hx).1
          have kHI : Kp (fun b => b = D ∨ dF d ls lu b) H I := (k1.sub fun _ z => False.elim z).trans kI fun b z => .inl z
          have esI : I s = _ := kI.t.ins (kD.t.ins es0 fun z => z) fun z => z.elim nDs S.nes
          obtain ⟨ddx, tp, st, ed, _⟩ := WI.dk.ex
          refine ⟨u, _, rfl, SqT.of (kHI.t.tup hu), rfl, _, _, rfl, _, _, rfl, rfl, ?_⟩
          refine ⟨_, rfl, s, A.c 72, dx, _, _, rfl, esI, T.cl_Store, T.n_Store_disk, l_sdisk .., d, ddx, _, rfl, ed, rfl, _, rfl, at_, rfl, fun bk b1 b16 => ⟨_, rfl, _, rfl, sz 2 (by decide), fun q nq => ?_⟩⟩
          have kq : Kp No I (upd I q (.tup [.int at_, y])) := Kp.new nq
          obtain ⟨wx, wz, hd, hw, hz⟩ := ev_dat (K := K) ((hev.kt kHI.t).kt kq.t) hok
          have hd2 : DatK K (upd I q (.tup [.int at_, y])) 5 (.ref q) (1 + wx) (1 + wz + 1) := DatK.tup (n := 4) upd_same ⟨1, wx, 1, wz, DatK.leaf rfl, ⟨wx, 0, wz, 0, hd, ⟨rfl, rfl⟩, rfl, rfl⟩, rfl, rfl⟩
          generalize upd I q (.tup [.int at_, y]) = I1 at kq hd2 ⊢
          unfold tNil
          show spDk1 (dAd A) K [.ref d, .int bk, .ref q] I1 _ _
          refine (WI.kt kq.t fun _ z => False.elim z).write (by omega) (by omega) hd2 (by omega) ⟨by omega, by omega, by omega⟩ fun G m3 kG WG => ?_
          refine ⟨_, _, m3, rfl, (kI.trans (kq.sub fun _ z => False.elim z) fun b z => .inl z).trans (kG.sub (F' := fun b => b = D ∨ dF d ls lu b) fun b z => .inr z) fun b z => .inl z, (PI.kt kq.t fun z => z).kt kG.t nDd, WG.dk, WG.gd, WG.few, WG.en.le (by omega), WG.st⟩
        · rintro σ I ⟨o3, o4, m2, rfl, kI, PI, WI⟩
          exact ⟨o3, o4, m2, rfl, kI, PI, WI.dk, WI.gd, Nat.le_trans WI.few (by omega), WI.en.le (by omega), WI.st⟩
      · rintro σ I ⟨o3, o4, m2, rfl, kI, PI, WI⟩
        -- self.disk.settle()
        have esI : I s = _ := kI.t.ins (kD.t.ins es0 fun z => z) fun z => z.elim nDs S.nes
        obtain ⟨ddx, tp, st, ed, _⟩ := WI.dk.ex
        obtain ⟨c2, en2⟩ := WI.en.one (by omega)
        obtain ⟨g1, g2, g3, _, _⟩ := count_true c2
        refine ⟨_, rfl, s, A.c 72, dx, _, _, rfl, esI, T.cl_Store, T.n_Store_disk, l_sdisk .., d, ddx, _, rfl, ed, rfl, ?_⟩
        unfold tNil
        show spDk2 (dAd A) [.ref d] I _ _
        refine dk_settle WI.dk WI.gd c2 fun G lu1 hl kG DG => ?_
        have g := WI.gd.count c2
        have Gm2 : Good m2.count.2.settle := ⟨by show (K5.putAll _ _).length = 35; rw [putAll_len]; exact g.len, (fun q hq => nomatch hq), Nat.zero_le _, fun _ => rfl, g.nat⟩
        have kHG : Kp (fun b => b = D ∨ dF d ls lu b) H G := ((k1.sub fun _ z => False.elim z).trans kI fun b z => .inl z).trans (kG.sub (F' := fun b => b = D ∨ dF d ls lu b) fun b z => .inr z) fun b z => .inl z
        have hfd : Kp (dF d ls lu) H G := by
          intro b o e n
          by_cases z : b = D
          · rw [z, nDH] at e; cases e
          · exact kHG b o e fun mu y => y.elim z (n mu)
        have esG : G s = _ := kG.t.ins esI S.nes
        have hst : m2.count.2.settle.stops = m.stops := (count_stops c2).trans WI.st
        -- self.write_root((self.root[0], number, tuple(places)))
        obtain ⟨pl2, eP, l2, z2⟩ := PI.kt kG.t nDd
        refine ⟨_, rfl, s, dx, _, rfl, esG, rfl, _, rfl, s, A.c 72, dx, _, _, rfl, esG, T.cl_Store, T.n_Store_root, l_sroot .., r, _, 0, .int run, rfl, rfl, SqT.kt kHG.t r1, rfl, _, rfl, _, rfl, D, _, rfl, .inl ⟨SqL.of eP, fun t nt => ⟨sz 3 (by decide), fun r' nr' => ?_⟩⟩⟩
        have ht : upd (upd G t (.tup (pl2.map V.int))) r' (.tup [.int run, .int num', .ref t]) t = some (.tup (pl2.map V.int)) := by rw [upd_ne (upd_none nr').1.symm, upd_same]
        have R2 : RtAt K (upd (upd G t (.tup (pl2.map V.int))) r' (.tup [.int run, .int num', .ref t])) r' num' := ⟨run, t, pl2, SqT.of upd_same, SqT.of ht, l2, z2⟩
        have kn : Kp No G (upd (upd G t (.tup (pl2.map V.int))) r' (.tup [.int run, .int num', .ref t])) := (Kp.new nt).andN nr'
        generalize upd (upd G t (.tup (pl2.map V.int))) r' (.tup [.int run, .int num', .ref t]) = G2 at kn R2 ⊢
        show spWr A K [.ref s, .ref r'] G2 _ _
        refine ⟨s, d, ls, lu1, r', _, _, e, 3, 11, 13, rfl, ⟨dx, by rw [hst]; exact kn.t.ins esG fun z => z⟩, DG.kt kn.t fun _ z => False.elim z, Gm2, rfl, en2.le (by omega), he, R2.dat, by decide, by decide, fun G3 lu2 m4 hl2 kG3 SG q1 q2 q3 => ?_⟩
        obtain ⟨ddx2, tp2, st2, ed2, _⟩ := DG.ex
        have hl1 : lu1 = lu ∨ H lu1 = none := hl.imp id fun z => by
          have kHI : Kp (fun b => b = D ∨ dF d ls lu b) H I := (k1.sub fun _ z => False.elim z).trans kI fun b z => .inl z
          refine kHI.free z fun y => ?_
          obtain ⟨pl3, e3, _⟩ := PI
          rcases y with y | y | y | y
          · rw [y, e3] at z; cases z
          · rw [y, ed] at z; cases z
          · rw [y, WI.dk.sure] at z; cases z
          · obtain ⟨rs, h3, _⟩ := WI.dk.uns
            rw [y, h3] at z; cases z
        have hG : ∀ b, G b = none → b = lu ∨ H b = none := fun b z => by
          by_cases y : b = lu
          · exact .inl y
          · refine .inr (hfd.free z fun y' => ?_)
            rcases y' with y' | y' | y'
            · rw [y', ed2] at z; cases z
            · rw [y', DG.sure] at z; cases z
            · exact absurd y' y
        refine k r' G3 lu2 m4 ?_ ?_ SG q1 (q2.trans hst) q3 (R2.kt kG3.t)
        · rcases hl2 with z | z
          · rw [z]; exact hl1
          · exact hG _ (kn.free z fun y => False.elim y)
        · refine ((hfd.sub (F' := sF s d ls lu) fun b z => .inr z).trans kn fun b z => False.elim z).trans kG3 fun b z => ?_
          rcases z with z | z | z | z
          · exact .inl (.inl z)
          · exact .inl (.inr (.inl z))
          · exact .inl (.inr (.inr (.inl z)))
          · rw [z]
            exact hl1.imp (fun z => .inr (.inr (.inr z))) id
end
end S02

set_option Elab.async false
set_option linter.all false
set_option maxRecDepth 100000
set_option maxHeartbeats 2000000
/-! [][::-1]: an empty list turned about -/
namespace SupX
open PySem PySem.Spec PyProof.Rows L2
def tRev0 (K : PySem.W.Frag) (te : TE) (tl th ts : TO) : TE := fun σ H Q => te σ H fun x H1 => tl σ H1 fun l H2 => th σ H2 fun u H3 => ts σ H3 fun t H4 => l = none ∧ u = none ∧ t = some (-1) ∧ ∃ a, x = .ref a ∧ SqL K H4 a [] ∧ ∀ p, H4 p = none → Q (.ref p) (upd H4 p (.lst []))
theorem pe_rev0 {X : Cx} {e c : Expr} {te : TE} {tl th ts : TO} {pos p2 : Pos} (he : PE X e te) (hl : PO X none tl) (hu : PO X none th) (hs : PO X (some c) ts) : PE X (.Subscript e (.Slice none none (some c) p2) pos) (tRev0 X.K te tl th ts) := by
  refine ⟨fun pins s σ H Q I h => ?_⟩
  refine Subscript_ (thn (he.run pins s σ H _ I h) fun v s1 ⟨x, H1, I1, r1, q1⟩ => ?_)
  refine wpAny_Slice (thn (hl.run pins s1 σ H1 _ I1 q1) fun vl s2 ⟨l, H2, I2, pl, q2⟩ => thn (hu.run pins s2 σ H2 _ I2 q2) fun vu s3 ⟨u, H3, I3, pu, q3⟩ => thn (hs.run pins s3 σ H3 _ I3 q3) fun vt s4 ⟨t, H4, I4, pt, q4⟩ => ?_)
  obtain ⟨rfl, rfl, rfl, a, rfl, hx, q⟩ := q4
  have I5 : Inv X pins σ H4 { s4 with heap := s4.heap.push { cls := .type "slice", data := .fields #[vl, vu, vt] } } := I4.kept (t' := s4.toks) fun b ob q => Heap.get?_push_of_some _ q
  cases r1
  obtain ⟨its, r, ht, hz⟩ := I5.list hx
  cases r
  show wpAny (model X.prog X.w) X.A (subscriptTail e (.Slice none none (some c) p2) (.ref a) (.ref s4.heap.objs.size)) (EP X pins σ Q) X.xe { s4 with heap := s4.heap.push { cls := .type "slice", data := .fields #[vl, vu, vt] } }
  refine tail_any (T := "list") (ops := [.ref a, .ref s4.heap.objs.size]) ht.isList.typeIs slot_list_getitem.lookup ?_ (by with_unfolding_all rfl)
  refine wpAny_getItem_list_slice ht.isList (Heap.IsSliceOf.new ..) pl pu pt (by decide) ?_ (by rw [List.size_toArray]; exact Nat.zero_le _)
  refine ⟨.ref _, _, I5.laid (t' := s4.toks) (o := .lst []) (fun b ob q => Heap.get?_push_of_some _ q) (Nat.le_refl _) ?_, rfl, q _ (I5.hok.fresh (Nat.le_refl _))⟩
  exact ⟨Nat.zero_le _, _, 0, .nil, Heap.get?_push_size _ rfl⟩
end SupX

set_option Elab.async false
set_option linter.all false
set_option maxRecDepth 100000
set_option maxHeartbeats 4000000
namespace S02
open PySem PySem.Spec PyProof.Rows L2 K5 SupX GenX
/-- the root that a new disk has -/
structure NewRoot (K : PySem.W.Frag) (mg : Str → Option Value) (nr pl : Addr) : Prop where
  at_ : mg "NEW_ROOT" = some (.ref nr)
  t1 : ∀ H, SqT K H nr [.int 0, .int 0, .ref pl]
  t2 : ∀ H, SqT K H pl ((List.replicate 9 (0 : Int)).map V.int)
theorem NewRoot.rt {K : PySem.W.Frag} {mg : Str → Option Value} {nr pl : Addr} (N : NewRoot K mg nr pl) (H : Hp) : RtAt K H nr 0 := ⟨0, pl, List.replicate 9 0, N.t1 H, N.t2 H, rfl, fun i hi => .inl (List.eq_of_mem_replicate hi)⟩
section
variable {P : Program} {w : World} {K : PySem.W.Frag} {mg : Str → Option Value} {base : Heap} {A : Ad} {tp : Nat → Addr} {nr pl : Addr}
/-! ### __init__ -/
theorem scSi : FnScope ["self", "disk"] ["self", "disk"] (defScope s_Store___init__) := ⟨rfl, rfl, rfl, by decide +kernel, rfl, by decide +kernel, by decide +kernel⟩
def spSInit (A : Ad) (nr : Addr) : Sp := fun vs H Q _ => ∃ (s dx d ls lu : Addr) (m : M), vs = [.ref s, .ref d] ∧ H s = some (.ins (A.c 72) dx []) ∧ DiskAt (dAd A) H d ls lu m ∧ Good m ∧ m.run = true ∧ m.pend = [] ∧ m.sure[0]? = some .non ∧ ∀ G, Kp (fun b => b = s) H G → StAt A G s d ls lu nr m → Q .non G
theorem ok_sinit (T : Txt K mg A) (N : NewRoot K mg nr pl) : ∃ fd, FnOk P w K mg base CX0 4 (A.m 72 0) fd ["self", "disk"] (spSInit A nr) ∧ Binds K fd ["self", "disk"] [] := by
  obtain ⟨fd, F⟩ := T.m_Store___init__.fn
  obtain ⟨fd3, G_Disk_read, b_Disk_read⟩ := ok_dk3 (P := P) (w := w) (base := base) (dTx T)
  refine ⟨fd, F.ok scSi (fun vs H Q E h => ?_) (fun cdv Ar outer s H vs Q E hr h => ?_), F.binds fun _ _ _ _ _ _ us hl => match us, hl with | [_, _], _ => rfl⟩
  · obtain ⟨s, dx, d, ls, lu, m, rfl, _⟩ := h
    rfl
  · obtain ⟨s, dx, d, ls, lu, m, rfl, es, D, Gm, hr1, hp, h0, k⟩ := h
    refine ⟨_, (pss_cons (ps_fld (pv 0) (pv 1) rfl)
      (pss_cons (ps_fld (pv 0) (pe_fld (pv 1) rfl) rfl)
      (pss_one (ps_fld (pv 0) (pe_orT (pe_meth (E := fun _ _ _ => False) (pv 1) T.cl_Disk T.m_Disk_read.me G_Disk_read (hr.mono (by decide)) b_Disk_read .nil (L2N.passes_call takesN0 fun _ _ _ _ h => h) (pa_cons (pe_glob (v := .int 0) rfl T.k_ROOT.choose_spec ⟨_, rfl⟩) pa_nil)) (pe_one (pe_glob (v := .ref nr) rfl N.at_ rfl))) rfl)))), ?_⟩
    obtain ⟨ddx, tp, st, ed, _, rfl⟩ := D.ex
    have nsd : d ≠ s := fun z => by
      rw [z, es] at ed
      injection (Option.some.inj ed) with _ _ h3
      exact absurd h3 (by unfold dfl; intro z; cases z)
    have nfd : ∀ b, b = s → ¬ dF d ls lu b := fun b z y => by
      obtain ⟨rs, h3, _⟩ := D.uns
      rw [z] at y
      rcases y with y | y | y
      · exact nsd y.symm
      · exact ne_of es D.sure (by intro z; cases z) y
      · exact ne_of es h3 (by intro z; cases z) y
    refine ⟨_, rfl, _, rfl, s, A.c 72, dx, _, rfl, es, T.cl_Store, T.n_Store_disk, by show 0 < 1000; decide, ?_⟩
    have k1 : Kp (fun b => b = s) H (upd H s (.ins (A.c 72) dx [("disk", .ref d)])) := Kp.updI es rfl
    have e1 : upd H s (.ins (A.c 72) dx [("disk", .ref d)]) s = some (.ins (A.c 72) dx [("disk", .ref d)]) := upd_same
    show tSeq _ _ _ _ (upd H s (.ins (A.c 72) dx [("disk", .ref d)]))
    generalize upd H s (.ins (A.c 72) dx [("disk", .ref d)]) = H1 at k1 e1 ⊢
    have ed1 := k1.t.ins ed nsd
    refine ⟨_, rfl, d, A.c 59, ddx, _, _, rfl, ed1, T.cl_Disk, T.n_Disk_stops, K5.l_stops .., _, rfl, s, A.c 72, dx, _, rfl, e1, T.cl_Store, T.n_Store_stops, by show 1 < 1000; decide, ?_⟩
    have k2 : Kp (fun b => b = s) H1 (upd H1 s (.ins (A.c 72) dx [("disk", .ref d), ("stops", .int m.stops)])) := Kp.updI e1 rfl
    have e2 : upd H1 s (.ins (A.c 72) dx [("disk", .ref d), ("stops", .int m.stops)]) s = some (.ins (A.c 72) dx [("disk", .ref d), ("stops", .int m.stops)]) := upd_same
    rw [show putF "stops" (V.int m.stops) [("disk", V.ref d)] = ([("disk", V.ref d), ("stops", V.int m.stops)] : List (Str × V)) from rfl]
    generalize upd H1 s (.ins (A.c 72) dx [("disk", .ref d), ("stops", .int m.stops)]) = H2 at k2 e2 ⊢
    have kH2 : Kp (fun b => b = s) H H2 := k1.trans k2 fun b z => .inl z
    have D2 := D.kt kH2.t nfd
    refine ⟨_, rfl, d, ddx, _, rfl, k2.t.ins ed1 nsd, rfl, ?_⟩
    unfold tCons tC tNil
    show spDk3 (dAd A) [.ref d, .int 0] H2 _ _
    refine dk_read (n := 0) D2 Gm (by decide) (by decide) hr1 hp fun G kG => ?_
    have e0 : m.sure.getD (0 : Int).toNat .non = .non := by
      rw [List.getD_eq_getElem?_getD, show (0 : Int).toNat = 0 from rfl, h0]
      rfl
    rw [e0]
    refine ⟨false, rfl, iteF ⟨_, rfl, s, A.c 72, dx, _, rfl, kG.t.ins e2 (fun z => z), T.cl_Store, T.n_Store_root, by show 2 < 1000; decide, ?_⟩⟩
    have e3 := kG.t.ins e2 fun z => z
    have kF : Kp (fun b => b = s) H (upd G s (.ins (A.c 72) dx (sfl d m.stops (.ref nr)))) := (kH2.trans (kG.sub (F' := fun b => b = s) fun _ z => False.elim z) fun b z => .inl z).trans (Kp.updI (F := fun b => b = s) e3 rfl) fun b z => .inl z
    exact k _ kF ⟨⟨dx, upd_same⟩, D.kt kF.t nfd, Gm, hr1, hp⟩
/-! ### stored_table -/
theorem scStt : FnScope ["self", "run", "number", "places", "table", "page", "content"] ["self"] (defScope s_Store_stored_table) := ⟨rfl, rfl, rfl, by decide +kernel, rfl, by decide +kernel, by decide +kernel⟩
def spStored (A : Ad) (K : PySem.W.Frag) : Sp := fun vs H Q _ => ∃ (s d ls lu r : Addr) (m : M), vs = [.ref s] ∧ StAt A H s d ls lu r m ∧ RtAt K H r 0 ∧ m.sure = List.replicate 35 .non ∧ ∀ G a r' h g, H a = none → H r' = none → H h = none → H g = none → TabAt A G a r' h g TT.new 0 → Kp No H G → Q (.ref a) G
theorem ok_stored (T : Txt K mg A) : ∃ fd, FnOk P w K mg base CX0 4 (A.m 72 5) fd ["self"] (spStored A K) ∧ Binds K fd ["self"] [] := by
  obtain ⟨fd, F⟩ := T.m_Store_stored_table.fn
  obtain ⟨fd3, G_Disk_read, b_Disk_read⟩ := ok_dk3 (P := P) (w := w) (base := base) (dTx T)
  obtain ⟨fdI, G_Table___init__, b_Table___init__⟩ := ok_tinit (P := P) (w := w) (base := base) T
  obtain ⟨fd6, Gpage_block, bpage_block⟩ := ok_page_block (P := P) (w := w) (base := base) T
  refine ⟨fd, F.ok scStt (fun vs H Q E h => ?_) (fun cdv Ar outer s H vs Q E hr h => ?_), F.binds fun _ _ _ _ _ _ us hl => match us, hl with | [_], _ => rfl⟩
  · obtain ⟨s, d, ls, lu, r, m, rfl, _⟩ := h
    rfl
  · obtain ⟨s, d, ls, lu, r, m, rfl, S, R, hs, k⟩ := h
    refine ⟨_, (pss_cons (ps_asg (pe_fld (pv 0) rfl) (pg_tup rfl (pgs_cons (pg_name (i := 1) scStt.nd rfl (Or.inl rfl)) (pgs_cons (pg_name (i := 2) scStt.nd rfl (Or.inl rfl)) (pgs_cons (pg_name (i := 3) scStt.nd rfl (Or.inl rfl)) pgs_nil)))))
      (pss_cons (ps_set (i := 4) scStt.nd rfl (Or.inl rfl) (pe_make0 (E := E0) T.mk_Table G_Table___init__ (hr.mono (by first | decide | omega)) rfl T.c_Table b_Table___init__ .nil pass0))
      (pss_cons (ps_fld (pv 4) (pv 2) rfl)
      (C8.pss_cut (ps_for PassesOwn.never rfl (pi_range1 (by rfl) T.range (pa_cons (pe_glob (v := .int 9) rfl T.k_PAGES.choose_spec ⟨_, rfl⟩) pa_nil)) (pg_name (i := 5) scStt.nd rfl (Or.inl rfl))
        (pss_cons (ps_set (i := 6) scStt.nd rfl (Or.inl rfl) (pe_meth (E := fun _ _ _ => False) (pe_fld (pv 0) rfl) T.cl_Disk T.m_Disk_read.me G_Disk_read (hr.mono (by first | decide | omega)) b_Disk_read .nil (L2N.passes_call takesN0 fun _ _ _ _ h => h) (pa_cons (pe_call Gpage_block (hr.mono (by first | decide | omega)) rfl T.page_block.at_ T.page_block.kp bpage_block .nil pass0 (pa_cons (pv 5) (pa_cons (pe_ix ix_tup (pv 3) (pv 5) (fun _ _ => rfl)) pa_nil))) pa_nil)))
        (pss_one (ps_if (pt_cmp (pc_notN (pv 6)))
          (pss_one ps_never)
          pss_nil))))
      (pss_one (ps_ret (pv 4))))))), ?_⟩
    obtain ⟨dx, es⟩ := S.at_
    obtain ⟨run, p, pl, r1, r2, r3, r4⟩ := R.ex
    refine ⟨_, rfl, s, A.c 72, dx, _, _, rfl, es, T.cl_Store, T.n_Store_root, l_sroot .., r, _, rfl, r1, rfl, _, _, rfl, _, _, rfl, _, _, rfl, rfl, ?_⟩
    refine fun a dx' na ndx nex => ⟨a, dx', rfl, upd_same, fun G r0 h0 g0 nr nh ng TB kG => ?_⟩
    have na0 : upd H dx' (.own a) a = none := (upd_ne nex.symm).trans na
    have k0 : Kp (fun b => b = a) H G := (((Kp.new (F := fun b => b = a) ndx).andN na0).trans kG fun _ z => .inl z)
    obtain ⟨dx2, e0⟩ := TB.at_
    have nfa : ∀ {b o}, H b = some o → ¬ b = a := fun e z => by rw [z, na] at e; cases e
    refine ⟨rfl, _, rfl, _, rfl, a, A.c 64, dx2, _, rfl, e0, T.cl_Table, T.n_Table_number, by show 4 < 1000; decide, ?_⟩
    rw [p_num]
    have k1 : Kp (fun b => b = a) H (upd G a (.ins (A.c 64) dx2 (tfl 0 TT.new.mom r0 h0))) := k0.andI e0 rfl
    have kS : Kp (fun b => b = a) G (upd G a (.ins (A.c 64) dx2 (tfl 0 TT.new.mom r0 h0))) := Kp.updI e0 rfl
    have TB1 : TabAt A (upd G a (.ins (A.c 64) dx2 (tfl 0 TT.new.mom r0 h0))) a r0 h0 g0 TT.new 0 := by
      obtain ⟨_, q1⟩ := TB.rows.dc
      obtain ⟨_, q2⟩ := TB.hands.dc
      obtain ⟨_, q3⟩ := TB.gone.dc
      exact ⟨⟨dx2, upd_same⟩, TB.rows.kt kS.t (ne_of q1 e0 (by intro z; cases z)), TB.hands.kt kS.t (ne_of q2 e0 (by intro z; cases z)), TB.gone.kt kS.t (ne_of q3 e0 (by intro z; cases z)), TB.rh⟩
    generalize upd G a (.ins (A.c 64) dx2 (tfl 0 TT.new.mom r0 h0)) = G1 at k1 TB1 ⊢
    have S1 := S.kt k1.t fun b z y => by
      obtain ⟨ddx, tpx, st, ed, _⟩ := S.dk.ex
      obtain ⟨rs, h3, _⟩ := S.dk.uns
      rcases y with y | y | y | y
      · exact nfa es (y ▸ z)
      · exact nfa ed (y ▸ z)
      · exact nfa S.dk.sure (y ▸ z)
      · exact nfa h3 (y ▸ z)
    have R1 := SqT.kt k1.t r2
    obtain ⟨dx1, es1⟩ := S1.at_
    obtain ⟨ddx, tpx, st, ed, _⟩ := S1.dk.ex
    refine ⟨fun σ J => ∃ o1 o2, σ = [some (.ref s), some (.int run), some (.int 0), some (.ref p), some (.ref a), o1, o2] ∧ Kp No G1 J, ?_, ?_⟩
    · refine ⟨9, rfl, by decide, by decide, for_range (lo := 0) (n := (9 : Int).toNat) (fun i σ J => ∃ o1 o2, σ = [some (.ref s), some (.int run), some (.int 0), some (.ref p), some (.ref a), o1, o2] ∧ Kp No G1 J) ⟨_, _, rfl, Kp.refl _ _⟩ ?_ ?_⟩
      · rintro i σ J hi ⟨o1, o2, rfl, kJ⟩
        have hi9 : i < 9 := by simpa using hi
        have hlt : i < pl.length := by omega
        have eat : atI (pl.map V.int) (0 + (i : Nat)) = some (.int pl[i]) := by
          unfold atI
          rw [ixN_in (by omega) (by rw [List.length_map]; omega), Option.bind_some, List.getElem?_map, show (0 + (i : Int)).toNat = i by omega, List.getElem?_eq_getElem hlt]
          rfl
        have hz1 := r4 _ (List.getElem_mem hlt)
        refine ⟨_, rfl, s, A.c 72, dx1, _, _, rfl, kJ.t.ins es1 (fun z => z), T.cl_Store, T.n_Store_disk, l_sdisk .., d, ddx, _, rfl, kJ.t.ins ed (fun z => z), rfl, _, rfl, _, rfl, _, rfl, p, _, _, .int pl[i], rfl, rfl, SqT.kt kJ.t R1, eat, _, _, rfl, ?_⟩
        unfold tNil
        show spDk3 (dAd A) [.ref d, .int (17 + 2 * (0 + (i : Int)) + pl[i])] J _ _
        refine dk_read (S1.dk.kt kJ.t fun _ z => False.elim z) S1.gd (by omega) (by omega) S1.run S1.pend fun G2 kG2 => ?_
        have e1 : m.sure.getD (17 + 2 * (0 + (i : Int)) + pl[i]).toNat .non = .non := by
          rw [hs, List.getD_eq_getElem?_getD]
          cases e : (List.replicate 35 V.non)[(17 + 2 * (0 + (i : Int)) + pl[i]).toNat]? with
          | none => rfl
          | some v => exact List.eq_of_mem_replicate (List.mem_of_getElem? e)
        rw [e1]
        exact ⟨_, rfl, _, rfl, iteF ⟨_, _, rfl, kJ.trans kG2 fun _ z => False.elim z⟩⟩
      · rintro σ J ⟨o1, o2, rfl, kJ⟩
        exact ⟨o1, o2, rfl, kJ⟩
    · rintro σ J ⟨o1, o2, rfl, kJ⟩
      exact ⟨_, rfl, k J a r0 h0 g0 na (upd_none (upd_none nr).2).2 (upd_none (upd_none nh).2).2 (upd_none (upd_none ng).2).2 (TB1.no kJ.t) (kp_fresh (k1.trans (kJ.sub (F' := fun b => b = a) fun _ z => False.elim z) fun b z => .inl z) fun b z => by rw [z]; exact na)⟩
end
end S02

set_option Elab.async false
set_option linter.all false
set_option maxRecDepth 100000
set_option maxHeartbeats 4000000
namespace S02
open PySem PySem.Spec PyProof.Rows L2 K5 SupX GenX
section
variable {P : Program} {w : World} {K : PySem.W.Frag} {mg : Str → Option Value} {base : Heap} {A : Ad} {tp : Nat → Addr} {nr pl : Addr}
/-! ### last_entries -/
theorem scLe : FnScope ["self", "found", "last", "number", "block"] ["self"] (defScope s_Store_last_entries) := ⟨rfl, rfl, rfl, by decide +kernel, rfl, by decide +kernel, by decide +kernel⟩
def spLastE (A : Ad) (K : PySem.W.Frag) : Sp := fun vs H Q _ => ∃ (s d ls lu r : Addr) (m : M), vs = [.ref s] ∧ StAt A H s d ls lu r m ∧ RtAt K H r 0 ∧ ∀ G l, H l = none → Kp No H G → G l = some (.lst []) → Q (.ref l) G
theorem ok_last_entries (T : Txt K mg A) : ∃ fd, FnOk P w K mg base CX0 1 (A.m 72 6) fd ["self"] (spLastE A K) ∧ Binds K fd ["self"] [] := by
  obtain ⟨fd, F⟩ := T.m_Store_last_entries.fn
  refine ⟨fd, F.ok scLe (fun vs H Q E h => ?_) (fun cdv Ar outer s H vs Q E hr h => ?_), F.binds fun _ _ _ _ _ _ us hl => match us, hl with | [_], _ => rfl⟩
  · obtain ⟨s, d, ls, lu, r, m, rfl, _⟩ := h
    rfl
  · obtain ⟨s, d, ls, lu, r, m, rfl, S, R, k⟩ := h
    refine ⟨_, pss_cons (ps_set (i := 1) scLe.nd rfl (Or.inl rfl) (pe_lst pa_nil)) (pss_cons (ps_set (i := 2) scLe.nd rfl (Or.inl rfl) (pe_ix ix_tup (pe_fld (pv 0) rfl) pe_int (fun _ _ => rfl)))
      (pss_cons (ps_for PassesOwn.never rfl (pi_range3 (by rfl) T.range (pa_cons (pv 2) (pa_cons (pe_callB (call_max2 rfl) (by rfl) T.max (by decide +kernel) (pa_cons pe_int (pa_cons (pe_op op_sub (pv 2) (pe_glob (v := .int 16) rfl T.k_MOST_ENTRIES.choose_spec ⟨_, rfl⟩)) pa_nil))) (pa_cons (pe_un un_neg pe_int) pa_nil)))) (pg_name (i := 3) scLe.nd rfl (Or.inl rfl)) pss_never)
      (pss_one (ps_ret (pe_rev0 (pv 1) po_none po_none (po_some (pe_un un_neg pe_int))))))), ?_⟩
    obtain ⟨dx, es⟩ := S.at_
    obtain ⟨run, p, pl, r1, r2, r3, r4⟩ := R.ex
    refine ⟨Nat.zero_le _, fun l nl => ?_⟩
    have kl : Kp No H (upd H l (.lst [])) := Kp.new nl
    have el : upd H l (.lst []) l = some (.lst []) := upd_same
    generalize upd H l (.lst []) = H1 at kl el ⊢
    refine ⟨_, rfl, s, A.c 72, dx, _, _, rfl, kl.t.ins es (fun z => z), T.cl_Store, T.n_Store_root, l_sroot .., r, _, 1, .int 0, rfl, rfl, SqT.kt kl.t r1, rfl, ?_⟩
    refine ⟨_, rfl, _, rfl, _, _, rfl, rfl, _, _, rfl, ?_⟩
    rw [if_neg (show ¬ ((0 : Int) - 16 > 0) by decide)]
    refine ⟨_, rfl, 0, 0, -1, 0, rfl, RgC.neg (i := 0) (j := 0) (by decide) (by decide) (by decide) (by decide), for_rangeC (lo := 0) (c := -1) (n := 0) (fun i σ J => J = H1 ∧ ∃ o1 o2, σ = [some (.ref s), some (.ref l), some (.int 0), o1, o2]) ⟨rfl, _, _, rfl⟩ (fun i σ J hi => absurd hi (Nat.not_lt_zero _)) ?_⟩
    rintro σ J ⟨rfl, o1, o2, rfl⟩
    exact ⟨_, rfl, _, rfl, _, rfl, rfl, rfl, rfl, l, rfl, SqL.of el, fun q nq => k _ q (kl.free nq fun z => False.elim z) (kl.trans (Kp.new nq) fun _ z => False.elim z) upd_same⟩
end
end S02

set_option Elab.async false
set_option linter.all false
set_option maxRecDepth 100000
set_option maxHeartbeats 4000000
/-! ### the shelf -/
namespace S02
open PySem PySem.Spec PyProof.Rows L2 K5 SupX GenX
def hfl (n : Int) (c : Addr) : List (Str × V) := [("begun", .int n), ("copies", .ref c)]
theorem l_copies (n : Int) (c : Addr) : (hfl n c).lookup ("copies" : Str) = some (.ref c) := rfl
theorem l_begun (n : Int) (c : Addr) : (hfl n c).lookup ("begun" : Str) = some (.int n) := rfl
def csK (cs : List Cp) : List (Key × V) := cs.map fun x => ((.inl x.nm : Key), V.ref x.c)
theorem csK_none {cs : List Cp} {k : Int} (h : ∀ x ∈ cs, x.nm ≠ k) : valV (csK cs) (.inl k : Key) = none := by
  cases e : valV (csK cs) (.inl k : Key) with
  | none => rfl
  | some v =>
    have h1 := val_mem.mp (show (valV (csK cs) (.inl k : Key)).isSome = true by rw [e]; rfl)
    obtain ⟨p, hp, q⟩ := List.mem_map.mp h1
    obtain ⟨x, hx, rfl⟩ := List.mem_map.mp hp
    exact absurd (Sum.inl.inj q) (h x hx)
theorem valV_cons (k0 k : Key) (v0 : V) (r : List (Key × V)) : valV ((k0, v0) :: r) k = if k0 = k then some v0 else valV r k := by
  unfold valV
  rw [List.find?_cons]
  by_cases h : k0 = k
  · rw [decide_eq_true h, if_pos h]
    rfl
  · rw [decide_eq_false h, if_neg h]
theorem csK_some : ∀ {cs : List Cp} {x : Cp}, (cs.map Cp.nm).Nodup → x ∈ cs → valV (csK cs) (.inl x.nm : Key) = some (.ref x.c)
  | [], _, _, h => by cases h
  | y :: cs, x, nd, h => by
    obtain ⟨n1, nd2⟩ := List.nodup_cons.mp nd
    show valV (((.inl y.nm : Key), V.ref y.c) :: csK cs) (.inl x.nm : Key) = _
    rw [valV_cons]
    rcases List.mem_cons.mp h with e | e
    · rw [e, if_pos rfl]
    · have ne : y.nm ≠ x.nm := fun z => n1 (by rw [z]; exact List.mem_map.mpr ⟨x, e, rfl⟩)
      rw [if_neg (fun z => ne (Sum.inl.inj z))]
      exact csK_some nd2 e
theorem csK_find {cs : List Cp} {k : Int} {v : V} (h : valV (csK cs) (.inl k : Key) = some v) (nd : (cs.map Cp.nm).Nodup) : ∃ x ∈ cs, x.nm = k ∧ v = .ref x.c := by
  have h1 := val_mem.mp (show (valV (csK cs) (.inl k : Key)).isSome = true by rw [h]; rfl)
  obtain ⟨p, hp, q⟩ := List.mem_map.mp h1
  obtain ⟨x, hx, rfl⟩ := List.mem_map.mp hp
  have e : x.nm = k := Sum.inl.inj q
  have h2 := csK_some nd hx
  rw [e, h] at h2
  exact ⟨x, hx, e, Option.some.inj h2⟩
theorem csK_put {cs : List Cp} {k : Int} {v : V} (h : ∀ x ∈ cs, x.nm ≠ k) : putK (csK cs) (.inl k : Key) v = csK cs ++ [(.inl k, v)] := by
  unfold putK
  rw [valV_any, csK_none h]
  rfl
theorem csK_drop (cs : List Cp) (k : Int) : dropK (csK cs) (.inl k : Key) = csK (cs.filter fun x => decide (x.nm ≠ k)) := by
  unfold csK dropK
  induction cs with
  | nil => rfl
  | cons x cs ih =>
    rw [List.map_cons, List.filter_cons, List.filter_cons, ih]
    by_cases h : x.nm = k
    · rw [if_neg (by simp [h]), if_neg (by simp [h])]
    · rw [if_pos (by simp [h]), if_pos (by simp [h]), List.map_cons]
structure ShAt (A : Ad) (H : Hp) (f c : Addr) (bg : Int) (cs : List Cp) (t : TT) : Prop where
  at_ : ∃ dx, H f = some (.ins (A.c 62) dx (hfl bg c))
  dic : H c = some (.dK (csK cs))
  each : ∀ x ∈ cs, CpAt A H x t
  nms : (cs.map Cp.nm).Nodup
  bgs : ∀ x ∈ cs, 0 ≤ x.nm ∧ x.nm < bg
  few : cs.length ≤ 10000
  apart : ∀ x ∈ cs, ∀ y ∈ cs, ∀ b, cF x b → cF y b → x = y
  asc : ∀ x ∈ cs, x.as_ ≠ c
  bg0 : 0 ≤ bg
/-- all that the copies have -/
def csF (cs : List Cp) : Addr → Prop := fun b => ∃ x ∈ cs, cF x b
theorem ShAt.kt {A : Ad} {F : Addr → Prop} {H G : Hp} (k : Kt F H G) {f c : Addr} {bg : Int} {cs : List Cp} {t : TT} (S : ShAt A H f c bg cs t) (n1 : ¬ F f) (n2 : ¬ F c) (n3 : ∀ b, F b → ¬ csF cs b) : ShAt A G f c bg cs t := by
  obtain ⟨dx, e⟩ := S.at_
  exact ⟨⟨dx, k.ins e n1⟩, k.dK S.dic n2, fun x hx => (S.each x hx).kt k fun b z y => n3 b z ⟨x, hx, y⟩, S.nms, S.bgs, S.few, S.apart, S.asc, S.bg0⟩
theorem ShAt.there {A : Ad} {H : Hp} {f c : Addr} {bg : Int} {cs : List Cp} {t : TT} (S : ShAt A H f c bg cs t) {b : Addr} (z : csF cs b) : ∃ o, H b = some o := by
  obtain ⟨x, hx, y⟩ := z
  exact (S.each x hx).there y
theorem fld_ne' {H : Hp} {C C2 dx dx2 a b : Addr} {fs gs : List (Str × V)} (h1 : H a = some (.ins C dx fs)) (h2 : H b = some (.ins C2 dx2 gs)) (n : fs ≠ gs) : a ≠ b := fun z => by
  rw [z, h2] at h1
  injection (Option.some.inj h1) with _ _ h3
  exact n h3.symm
/-! what stays where a thing is unlocked -/
def Kz (H G : Hp) : Prop := ∀ b o, H b = some o → (∀ od u, o ≠ .frz od u) → G b = some o
theorem Kz.of {H : Hp} {c : Addr} {od : _} {u o' : HO} (h : H c = some (.frz od u)) : Kz H (upd H c o') := fun b o e n => by
  by_cases z : b = c
  · rw [z, h] at e
    cases e
    exact absurd rfl (n _ _)
  · rw [upd_ne z]; exact e
theorem StV.kz {H G : Hp} (k : Kz H G) {v : V} : ∀ {s : Pst}, StV H v s → StV G v s
  | .rows _, ⟨b, e, xs, h, p⟩ => ⟨b, e, xs, k _ _ h (fun _ _ z => by cases z), p.mono fun _ _ ⟨t, e, q⟩ => ⟨t, e, k _ _ q (fun _ _ z => by cases z)⟩⟩
  | .hands _ _, ⟨b, c, e, h1, xs, h2, p⟩ => ⟨b, c, e, k _ _ h1 (fun _ _ z => by cases z), xs, k _ _ h2 (fun _ _ z => by cases z), p.mono fun _ _ ⟨t, e, q⟩ => ⟨t, e, k _ _ q (fun _ _ z => by cases z)⟩⟩
theorem CpAt.kz {A : Ad} {H G : Hp} (k : Kz H G) {x : Cp} {t : TT} (h : CpAt A H x t) : CpAt A G x t := by
  obtain ⟨dx, e⟩ := h.at_
  obtain ⟨kvs, e2, hk, ho⟩ := h.asd
  refine ⟨⟨dx, k _ _ e (fun _ _ z => by cases z)⟩, k _ _ h.wan (fun _ _ z => by cases z), h.nd, h.in9, kvs, k _ _ e2 (fun _ _ z => by cases z), hk, fun p hp => ?_⟩
  rcases ho p hp with q | ⟨q1, v, q2, q3⟩
  · exact .inl q
  · exact .inr ⟨q1, v, q2, q3.kz k⟩
section
variable {P : Program} {w : World} {K : PySem.W.Frag} {mg : Str → Option Value} {base : Heap} {A : Ad} {tp : Nat → Addr}
theorem scHi : FnScope ["self"] ["self"] (defScope s_Shelf___init__) := ⟨rfl, rfl, rfl, by decide +kernel, rfl, by decide +kernel, by decide +kernel⟩
def spHInit (A : Ad) : Sp := fun vs H Q _ => ∃ (f dx : Addr) (t : TT), vs = [.ref f] ∧ H f = some (.ins (A.c 62) dx []) ∧ ∀ G c, H c = none → ShAt A G f c 0 [] t → Kp (fun b => b = f) H G → Q .non G
theorem ok_hinit (T : Txt K mg A) : ∃ fd, FnOk P w K mg base CX0 1 (A.m 62 0) fd ["self"] (spHInit A) ∧ Binds K fd ["self"] [] := by
  obtain ⟨fd, F⟩ := T.m_Shelf___init__.fn
  refine ⟨fd, F.ok scHi (fun vs H Q E h => ?_) (fun cdv Ar outer s H vs Q E hr h => ?_), F.binds fun _ _ _ _ _ _ us hl => match us, hl with | [_], _ => rfl⟩
  · obtain ⟨f, dx, t, rfl, _⟩ := h
    rfl
  · obtain ⟨f, dx, t, rfl, ef, k⟩ := h
    refine ⟨_, (pss_cons (ps_fld (pv 0) pe_int rfl)
      (pss_one (ps_fld (pv 0) pe_dnewK rfl))), ?_⟩
    refine ⟨_, rfl, f, A.c 62, dx, _, rfl, ef, T.cl_Shelf, T.n_Shelf_begun, by show 0 < 1000; decide, ?_⟩
    have k1 : Kp (fun b => b = f) H (upd H f (.ins (A.c 62) dx [("begun", .int 0)])) := Kp.updI ef rfl
    have e1 : upd H f (.ins (A.c 62) dx [("begun", .int 0)]) f = some (.ins (A.c 62) dx [("begun", .int 0)]) := upd_same
    rw [show putF "begun" (V.int 0) [] = ([("begun", V.int 0)] : List (Str × V)) from rfl]
    generalize upd H f (.ins (A.c 62) dx [("begun", .int 0)]) = H1 at k1 e1 ⊢
    refine fun c nc => ⟨_, rfl, f, A.c 62, dx, _, rfl, (upd_ne (ne_of_none e1 nc)).trans e1, T.cl_Shelf, T.n_Shelf_copies, by show 1 < 1000; decide, ?_⟩
    have k2 : Kp (fun b => b = f) H1 (upd (upd H1 c (.dK [])) f (.ins (A.c 62) dx (hfl 0 c))) := (Kp.new nc).andI ((upd_ne (ne_of_none e1 nc)).trans e1) rfl
    exact k _ c (k1.free nc fun z => by rw [show c = f from z, e1] at nc; cases nc) ⟨⟨dx, upd_same⟩, (by rw [upd_ne (ne_of_none e1 nc).symm, upd_same]; rfl), (fun _ z => by cases z), .nil, (fun _ z => by cases z), Nat.zero_le _, (fun _ z => by cases z), (fun _ z => by cases z), Int.le_refl _⟩ (k1.trans k2 fun b z => .inl z)
/-! ### follow, with copies -/
theorem scHf : FnScope ["self", "old", "new", "found"] ["self", "old", "new"] (defScope s_Shelf_follow) := ⟨rfl, rfl, rfl, by decide +kernel, rfl, by decide +kernel, by decide +kernel⟩
def spFollow (A : Ad) (tp : Nat → Addr) : Sp := fun vs H Q _ => ∃ (f c : Addr) (bg : Int) (cs : List Cp) (a r h g : Addr) (t : TT) (n : Nat) (a2 r2 h2 g2 : Addr) (t2 : TT) (n2 : Nat), vs = [.ref f, .ref a, .ref a2] ∧ ShAt A H f c bg cs t ∧ TabAt A H a r h g t n ∧ TabAt A H a2 r2 h2 g2 t2 n2 ∧
  (∀ b, b = c ∨ csF cs b → ¬ tF a r h g b) ∧ (∀ b, b = c ∨ csF cs b → ¬ tF a2 r2 h2 g2 b) ∧ Tg (tL tp) H ∧
  ∀ G, ShAt A G f c bg cs t2 → Kg (tL tp) (csF cs) H G → Q .non G
theorem ok_follow (T : Txt K mg A) (TB : TbsB base mg A tp) : ∃ fd, FnOk P w K mg base CX0 10 (A.m 62 5) fd ["self", "old", "new"] (spFollow A tp) ∧ Binds K fd ["self", "old", "new"] [] := by
  obtain ⟨fd, F⟩ := T.m_Shelf_follow.fn
  obtain ⟨fdC, Gcf, bcf⟩ := ok_cfollow (P := P) (w := w) (base := base) T TB
  refine ⟨fd, F.ok scHf (fun vs H Q E h => ?_) (fun cdv Ar outer s H vs Q E hr h => ?_), F.binds fun _ _ _ _ _ _ us hl => match us, hl with | [_, _, _], _ => rfl⟩
  · obtain ⟨f, c, bg, cs, a, r, h, g, t, n, a2, r2, h2, g2, t2, n2, rfl, _⟩ := h
    rfl
  · obtain ⟨f, c, bg, cs, a, r, h, g, t, n, a2, r2, h2, g2, t2, n2, rfl, S, TA, TA2, na, na2, TG, k⟩ := h
    have hu := hu_of hr
    refine ⟨_, pss_one (ps_lock (ps_for PassesOwn.never rfl (pi_values (pe_fld (pv 0) rfl)) (pg_name (i := 3) scHf.nd rfl (Or.inl rfl)) (pss_one (ps_expr (pe_meth (pv 3) T.cl_Copy T.m_Copy_follow.me Gcf hr bcf .nil pass0 (pa_cons (pv 1) (pa_cons (pv 2) pa_nil))))))), ?_⟩
    obtain ⟨dx, ef⟩ := S.at_
    have ec := S.dic
    have nfc : f ≠ c := ne_of ef ec (by intro z; cases z)
    refine ⟨c, _, ec, trivial, fun od => ?_⟩
    have e1 : upd H c (.frz od (.dK (csK cs))) c = some (.frz od (.dK (csK cs))) := upd_same
    have k1 : Kp (fun b => b = c) H (upd H c (.frz od (.dK (csK cs)))) := fun b o e n => by
      by_cases z : b = c
      · rw [z, ec] at e
        cases e
        exact absurd z (n trivial)
      · rw [upd_ne z]; exact e
    have back : ∀ G : Hp, Kg (tL tp) (csF cs) (upd H c (.frz od (.dK (csK cs)))) G → Kg (tL tp) (csF cs) H (upd G c (.dK (csK cs))) := fun G kG => by
      refine ⟨fun b o e nn => ?_, fun P m hT => ?_⟩
      · by_cases z : b = c
        · rw [z, ec] at e
          cases e
          rw [z]
          exact .inr upd_same
        · rcases kG.st b o (by rw [upd_ne z]; exact e) nn with ⟨m, h, qs, h3⟩ | h3
          · exact .inl ⟨m, h, qs, by rw [upd_ne z]; exact h3⟩
          · exact .inr (by rw [upd_ne z]; exact h3)
      · obtain ⟨ps, e, tri⟩ := hT
        have z : P ≠ c := ne_of e ec (by intro z; cases z)
        obtain ⟨qs, e', tri'⟩ := kG.tb P m ⟨ps, by rw [upd_ne z]; exact e, tri⟩
        exact ⟨qs, by rw [upd_ne z]; exact e', tri'⟩
    generalize upd H c (.frz od (.dK (csK cs))) = H1 at k1 e1 back ⊢
    refine ⟨_, rfl, f, A.c 62, dx, _, _, rfl, k1.t.ins ef nfc, T.cl_Shelf, T.n_Shelf_copies, l_copies .., c, od, csK cs, rfl, e1, for_it (walk_values (d := c) (o := od) (kvs := csK cs)) (fun i σ J => (∃ o, σ = [some (.ref f), some (.ref a), some (.ref a2), o]) ∧ Kg (tL tp) (csF cs) H1 J ∧ J c = some (.frz od (.dK (csK cs))) ∧ ∀ j x, cs[j]? = some x → CpAt A J x (if j < i then t2 else t)) ?_ (fun i σ J _ e => e.2.2.1) ?_ ?_⟩
    · have ncF : ∀ x ∈ cs, ∀ b, b = c → ¬ cF x b := fun x hx b z y => by
        obtain ⟨dxx, exx⟩ := (S.each x hx).at_
        rw [show b = c from z] at y
        rcases y with y | y | y
        · rw [y, exx] at ec; cases ec
        · rw [y, (S.each x hx).wan] at ec; cases ec
        · exact S.asc x hx y.symm
      refine ⟨⟨_, rfl⟩, Kg.refl _ _ _, e1, fun j x hj => ?_⟩
      rw [if_neg (Nat.not_lt_zero j)]
      exact (S.each x (List.mem_of_getElem? hj)).kt k1.t (ncF x (List.mem_of_getElem? hj))
    · rintro i y σ J J' hi ⟨⟨o, rfl⟩, kJ, hJ, hC⟩ ⟨rfl, kk, hkk⟩
      obtain ⟨x0, hx0, e0⟩ : ∃ x0, cs[i]? = some x0 ∧ ((.inl x0.nm : Key), V.ref x0.c) = (kk, y) := by
        unfold csK at hkk
        rw [List.getElem?_map] at hkk
        cases e : cs[i]? with
        | none => rw [e] at hkk; cases hkk
        | some x0 => rw [e] at hkk; exact ⟨x0, rfl, Option.some.inj hkk⟩
      obtain ⟨rfl, rfl⟩ := Prod.mk.inj e0
      have hm := List.mem_of_getElem? hx0
      have C0 := hC i x0 hx0
      rw [if_neg (Nat.lt_irrefl i)] at C0
      obtain ⟨dxc, exc⟩ := C0.at_
      have TJ := (TA.kt k1.t fun b z => na b (.inl z)).kt kJ.t fun b z => na b (.inr z)
      have TJ2 := (TA2.kt k1.t fun b z => na2 b (.inl z)).kt kJ.t fun b z => na2 b (.inr z)
      refine ⟨_, rfl, x0.c, dxc, _, rfl, exc, rfl, _, rfl, _, rfl, x0, a, r, h, g, t, n, a2, r2, h2, g2, t2, n2, rfl, C0, TJ, TJ2, na _ (.inr ⟨x0, hm, .inr (.inr rfl)⟩), na2 _ (.inr ⟨x0, hm, .inr (.inr rfl)⟩), (TG.kp k1).kg kJ, fun G CG kG => ?_⟩
      refine ⟨⟨_, rfl⟩, kJ.trans kG (fun b z => .inl ⟨x0, hm, .inr (.inr z)⟩), kG.t c _ hJ (fun _ z => by cases z) (fun m => False.elim m), fun j x hj => ?_⟩
      by_cases z : j = i
      · rw [z, hx0] at hj
        cases hj
        rw [z, if_pos (Nat.lt_succ_self i)]
        exact CG
      · rw [show (if j < i + 1 then t2 else t) = (if j < i then t2 else t) by
          by_cases y : j < i
          · rw [if_pos y, if_pos (by omega)]
          · rw [if_neg y, if_neg (by omega)]]
        refine (hC j x hj).kt kG.t fun b q y => z ?_
        have e := S.apart x (List.mem_of_getElem? hj) x0 hm b y (.inr (.inr q))
        rw [e] at hj
        have nd : cs.Nodup := by
          have := S.nms
          exact (List.pairwise_map.mp this).imp fun h e => h (by rw [e])
        exact (List.getElem?_inj (List.getElem?_eq_some_iff.mp hj).1 nd).mp (hj.trans hx0.symm)
    · rintro σ J ⟨⟨o, rfl⟩, kJ, hJ, hC⟩
      have nfF : ¬ csF cs f := fun ⟨x, hx, y⟩ => by
        obtain ⟨dxx, exx⟩ := (S.each x hx).at_
        obtain ⟨kvs, eas, _⟩ := (S.each x hx).asd
        rcases y with y | y | y
        · exact fld_ne' ef exx (by intro z; cases z) y
        · rw [y, (S.each x hx).wan] at ef; cases ef
        · rw [y, eas] at ef; cases ef
      refine ⟨hJ, k _ ⟨⟨dx, by rw [upd_ne nfc]; exact kJ.t.ins (k1.t.ins ef nfc) nfF⟩, upd_same, fun x hx => ?_, S.nms, S.bgs, S.few, S.apart, S.asc, S.bg0⟩ (back J kJ)⟩
      obtain ⟨j, hj⟩ := List.getElem?_of_mem hx
      have := hC j x hj
      rw [if_pos (by unfold csK; rw [List.length_map]; exact (List.getElem?_eq_some_iff.mp hj).1)] at this
      exact this.kz (Kz.of hJ)
end
end S02

set_option Elab.async false
set_option linter.all false
set_option maxRecDepth 100000
set_option maxHeartbeats 4000000
/-! ### the lead -/
namespace S02
open PySem PySem.Spec PyProof.Rows L2 K5 SupX GenX
/-- what a lead has -/
structure La where
  st : Addr
  d : Addr
  ls : Addr
  lu : Addr
  r : Addr
  tb : Addr
  rw : Addr
  hd : Addr
  gn : Addr
  en : Addr
  sh : Addr
  cp : Addr
  fo : Addr
  bg : Int
  cs : List Cp
def lfl (st : Addr) (hs : Int) (tb en sh fo : Addr) : List (Str × V) := [("store", .ref st), ("houses", .int hs), ("table", .ref tb), ("entries", .ref en), ("shelf", .ref sh), ("followers", .ref fo)]
section
variable (st tb en sh fo x : Addr) (hs : Int)
theorem l_store : (lfl st hs tb en sh fo).lookup ("store" : Str) = some (.ref st) := rfl
theorem l_table : (lfl st hs tb en sh fo).lookup ("table" : Str) = some (.ref tb) := rfl
theorem l_entries : (lfl st hs tb en sh fo).lookup ("entries" : Str) = some (.ref en) := rfl
theorem l_shelf : (lfl st hs tb en sh fo).lookup ("shelf" : Str) = some (.ref sh) := rfl
theorem p_table : putF "table" (.ref x) (lfl st hs tb en sh fo) = lfl st hs x en sh fo := rfl
theorem p_entries : putF "entries" (.ref x) (lfl st hs tb en sh fo) = lfl st hs tb x sh fo := rfl
end
/-- all of it but the copies -/
def lF0 (l : Addr) (a : La) : Addr → Prop := fun b => b = l ∨ sF a.st a.d a.ls a.lu b ∨ tF a.tb a.rw a.hd a.gn b ∨ b = a.en ∨ b = a.sh ∨ b = a.cp
structure LeadAt (A : Ad) (K : PySem.W.Frag) (H : Hp) (l : Addr) (a : La) (t : TT) (n : Nat) (m : M) : Prop where
  at_ : ∃ dx hs, H l = some (.ins (A.c 74) dx (lfl a.st hs a.tb a.en a.sh a.fo))
  sto : StAt A H a.st a.d a.ls a.lu a.r m
  rt : ∃ num, RtAt K H a.r num
  r0 : m.sure[0]? = some (.ref a.r)
  tab : TabAt A H a.tb a.rw a.hd a.gn t n
  ent : ∃ es, H a.en = some (.lst es) ∧ es.length ≤ 16
  shf : ShAt A H a.sh a.cp a.bg a.cs t
  n1 : a.en ≠ a.ls
  n2 : a.en ≠ a.lu
  n3 : ¬ tF a.tb a.rw a.hd a.gn a.cp
  ap : ∀ b, csF a.cs b → ¬ lF0 l a b
def lF (l : Addr) (a : La) : Addr → Prop := fun b => b = l ∨ sF a.st a.d a.ls a.lu b ∨ tF a.tb a.rw a.hd a.gn b ∨ b = a.en ∨ b = a.sh ∨ b = a.cp ∨ csF a.cs b
theorem LeadAt.kt {A : Ad} {K : PySem.W.Frag} {F : Addr → Prop} {H G : Hp} {l : Addr} {a : La} {t : TT} {n : Nat} {m : M} (k : Kt F H G) (L : LeadAt A K H l a t n m) (nf : ∀ b, F b → ¬ lF l a b) : LeadAt A K G l a t n m := by
  obtain ⟨dx, hs, e⟩ := L.at_
  obtain ⟨num, R⟩ := L.rt
  obtain ⟨es, ee, el⟩ := L.ent
  exact ⟨⟨dx, hs, k.ins e fun z => nf _ z (.inl rfl)⟩, L.sto.kt k fun b z y => nf b z (.inr (.inl y)), ⟨num, R.kt k⟩, L.r0, L.tab.kt k fun b z y => nf b z (.inr (.inr (.inl y))), ⟨es, k.lst ee fun z => nf _ z (.inr (.inr (.inr (.inl rfl)))), el⟩, L.shf.kt k (fun z => nf _ z (.inr (.inr (.inr (.inr (.inl rfl)))))) (fun z => nf _ z (.inr (.inr (.inr (.inr (.inr (.inl rfl))))))) (fun b z y => nf b z (.inr (.inr (.inr (.inr (.inr (.inr y))))))), L.n1, L.n2, L.n3, L.ap⟩
theorem LeadAt.there {A : Ad} {K : PySem.W.Frag} {H : Hp} {l : Addr} {a : La} {t : TT} {n : Nat} {m : M} (L : LeadAt A K H l a t n m) {b : Addr} (z : lF l a b) : ∃ o, H b = some o := by
  obtain ⟨dx, hs, e⟩ := L.at_
  obtain ⟨es, ee, el⟩ := L.ent
  obtain ⟨dx2, e2⟩ := L.sto.at_
  obtain ⟨ddx, tp, st, ed, _⟩ := L.sto.dk.ex
  obtain ⟨rs, h3, _⟩ := L.sto.dk.uns
  obtain ⟨dx4, e4⟩ := L.shf.at_
  rcases z with z | (z | z | z | z) | z | z | z | z | z
  · exact ⟨_, z ▸ e⟩
  · exact ⟨_, z ▸ e2⟩
  · exact ⟨_, z ▸ ed⟩
  · exact ⟨_, z ▸ L.sto.dk.sure⟩
  · exact ⟨_, z ▸ h3⟩
  · exact L.tab.there z
  · exact ⟨_, z ▸ ee⟩
  · exact ⟨_, z ▸ e4⟩
  · exact ⟨_, z ▸ L.shf.dic⟩
  · exact L.shf.there z
/-! what is of other kinds is elsewhere -/
theorem fld_ne {H : Hp} {C C2 dx dx2 a b : Addr} {fs gs : List (Str × V)} (h1 : H a = some (.ins C dx fs)) (h2 : H b = some (.ins C2 dx2 gs)) (n : fs ≠ gs) : a ≠ b := fun z => by
  rw [z, h2] at h1
  injection (Option.some.inj h1) with _ _ h3
  exact n h3.symm
theorem tab_sto {A : Ad} {H : Hp} {s d ls lu r a rw hd gn : Addr} {m : M} {t : TT} {n : Nat} (S : StAt A H s d ls lu r m) (T : TabAt A H a rw hd gn t n) : ∀ b, sF s d ls lu b → ¬ tF a rw hd gn b := by
  obtain ⟨dx2, e2⟩ := S.at_
  obtain ⟨ddx, tp, st, ed, _⟩ := S.dk.ex
  obtain ⟨rs, h3, _⟩ := S.dk.uns
  have h2 := S.dk.sure
  obtain ⟨dx, e⟩ := T.at_
  obtain ⟨_, q1⟩ := T.rows.dc
  obtain ⟨_, q2⟩ := T.hands.dc
  obtain ⟨_, q3⟩ := T.gone.dc
  intro b z y
  rcases z with z | z | z | z <;> rcases y with y | y | y | y <;> rw [z] at y
  · exact fld_ne e2 e (by intro z; cases z) y
  · exact ne_of e2 q1 (by intro z; cases z) y
  · exact ne_of e2 q2 (by intro z; cases z) y
  · exact ne_of e2 q3 (by intro z; cases z) y
  · exact fld_ne ed e (by intro z; cases z) y
  · exact ne_of ed q1 (by intro z; cases z) y
  · exact ne_of ed q2 (by intro z; cases z) y
  · exact ne_of ed q3 (by intro z; cases z) y
  · exact ne_of h2 e (by intro z; cases z) y
  · exact ne_of h2 q1 (by intro z; cases z) y
  · exact ne_of h2 q2 (by intro z; cases z) y
  · exact ne_of h2 q3 (by intro z; cases z) y
  · exact ne_of h3 e (by intro z; cases z) y
  · exact ne_of h3 q1 (by intro z; cases z) y
  · exact ne_of h3 q2 (by intro z; cases z) y
  · exact ne_of h3 q3 (by intro z; cases z) y
theorem tab_ins {A : Ad} {H : Hp} {a rw hd gn x C dx : Addr} {fs : List (Str × V)} {t : TT} {n : Nat} (h : H x = some (.ins C dx fs)) (hf : ∀ nu mo r h, fs ≠ tfl nu mo r h) (T : TabAt A H a rw hd gn t n) : ¬ tF a rw hd gn x := by
  obtain ⟨dx, e⟩ := T.at_
  obtain ⟨_, q1⟩ := T.rows.dc
  obtain ⟨_, q2⟩ := T.hands.dc
  obtain ⟨_, q3⟩ := T.gone.dc
  rintro (y | y | y | y)
  · exact fld_ne h e (hf _ _ _ _) y
  · exact ne_of h q1 (by intro z; cases z) y
  · exact ne_of h q2 (by intro z; cases z) y
  · exact ne_of h q3 (by intro z; cases z) y
theorem sto_ins {A : Ad} {H : Hp} {s d ls lu r x C dx : Addr} {fs : List (Str × V)} {m : M} (h : H x = some (.ins C dx fs)) (h1 : ∀ d st r, fs ≠ sfl d st r) (h2 : ∀ ls lu lf tp rn st, fs ≠ dfl ls lu lf tp rn st) (S : StAt A H s d ls lu r m) : ¬ sF s d ls lu x := by
  obtain ⟨dx2, e2⟩ := S.at_
  obtain ⟨ddx, tp, st, ed, _⟩ := S.dk.ex
  obtain ⟨rs, h3, _⟩ := S.dk.uns
  rintro (y | y | y | y)
  · exact fld_ne h e2 (h1 _ _ _) y
  · exact fld_ne h ed (h2 _ _ _ _ _ _) y
  · exact ne_of h S.dk.sure (by intro z; cases z) y
  · exact ne_of h h3 (by intro z; cases z) y
theorem sto_dK {A : Ad} {H : Hp} {s d ls lu r x : Addr} {kvs : List (Key × V)} {m : M} (h : H x = some (.dK kvs)) (S : StAt A H s d ls lu r m) : ¬ sF s d ls lu x := by
  obtain ⟨dx2, e2⟩ := S.at_
  obtain ⟨ddx, tp, st, ed, _⟩ := S.dk.ex
  obtain ⟨rs, h3, _⟩ := S.dk.uns
  rintro (y | y | y | y)
  · exact ne_of h e2 (by intro z; cases z) y
  · exact ne_of h ed (by intro z; cases z) y
  · exact ne_of h S.dk.sure (by intro z; cases z) y
  · exact ne_of h h3 (by intro z; cases z) y
section
variable {P : Program} {w : World} {K : PySem.W.Frag} {mg : Str → Option Value} {base : Heap} {A : Ad} {tp : Nat → Addr} {nr pl : Addr}
/-! ### change_over -/
theorem scCo : FnScope ["self", "trial", "pages", "entries"] ["self", "trial", "pages", "entries"] (defScope s_Lead_change_over) := ⟨rfl, rfl, rfl, by decide +kernel, rfl, by decide +kernel, by decide +kernel⟩
/-- behind a change: the same lead, its parts as before or new -/
def LdQ (A : Ad) (K : PySem.W.Frag) (tp : Nat → Addr) (H : Hp) (l : Addr) (a : La) (t : TT) (n : Nat) (e : Int) (Q : Hp → Prop) : Prop := ∀ G a' m', LeadAt A K G l a' t n m' → Enough m' e → a'.d = a.d → (∀ b, lF l a' b → lF l a b ∨ H b = none) → Kg (tL tp) (lF l a) H G → (a'.cs = a.cs ∧ a'.bg = a.bg ∧ a'.sh = a.sh) → Q G
def spChange (A : Ad) (K : PySem.W.Frag) (tp : Nat → Addr) : Sp := fun vs H Q _ => ∃ (l : Addr) (a : La) (t : TT) (n : Nat) (m : M) (tb rw hd gn : Addr) (t' : TT) (n' : Nat) (lp le : Addr) (ps es : List V) (e : Int), vs = [.ref l, .ref tb, .ref lp, .ref le] ∧ LeadAt A K H l a t n m ∧ TabAt A H tb rw hd gn t' n' ∧ Tg (tL tp) H ∧
  H lp = some (.lst ps) ∧ (∀ v ∈ ps, PcV H v) ∧ ps.length ≤ 9 ∧ H le = some (.lst es) ∧ (∀ v ∈ es, EnV H v) ∧ es.length ≤ 4 ∧ Enough m (e + 16) ∧ 0 ≤ e ∧ ¬ lF l a lp ∧ ¬ lF l a le ∧ (∀ b, tF tb rw hd gn b → ¬ lF l a b) ∧
  ∀ G a' m', LeadAt A K G l a' t' n' m' → Enough m' e → a'.d = a.d → a'.tb = tb → (∀ b, lF l a' b → lF l a b ∨ tF tb rw hd gn b ∨ H b = none) → Kg (tL tp) (lF l a) H G → a'.cs = a.cs → a'.bg = a.bg → a'.sh = a.sh → Q .non G
theorem ok_change_over (T : Txt K mg A) (TB9 : TbsB base mg A tp) : ∃ fd, FnOk P w K mg base CX0 11 (A.m 74 19) fd ["self", "trial", "pages", "entries"] (spChange A K tp) ∧ Binds K fd ["self", "trial", "pages", "entries"] [] := by
  obtain ⟨fd, F⟩ := T.m_Lead_change_over.fn
  obtain ⟨fd1, G_Store_put, b_Store_put⟩ := ok_put (P := P) (w := w) (base := base) T
  obtain ⟨fd2, G_Shelf_follow, b_Shelf_follow⟩ := ok_follow (P := P) (w := w) (base := base) T TB9
  refine ⟨fd, F.ok scCo (fun vs H Q E h => ?_) (fun cdv Ar outer s H vs Q E hr h => ?_), F.binds fun _ _ _ _ _ _ us hl => match us, hl with | [_, _, _, _], _ => rfl⟩
  · obtain ⟨l, a, t, n, m, tb, rw, hd, gn, t', n', lp, le, ps, es, e, rfl, _⟩ := h
    rfl
  · obtain ⟨l, a, t, n, m, tb, rw, hd, gn, t', n', lp, le, ps, es, e, rfl, L, TB, TG, hlp, hps, lps, hle, hes, les, en, he, d1, d2, dt, k⟩ := h
    refine ⟨_, (pss_cons (ps_expr (pe_meth (pe_fld (pv 0) rfl) T.cl_Store T.m_Store_put.me G_Store_put (hr.mono (by first | decide | omega)) b_Store_put .nil pass0 (pa_cons (pe_fld (pv 1) rfl) (pa_cons (pv 2) (pa_cons (pv 3) pa_nil)))))
      (pss_cons (ps_expr (pe_meth (pe_fld (pv 0) rfl) T.cl_Shelf T.m_Shelf_follow.me G_Shelf_follow (hr.mono (by first | decide | omega)) b_Shelf_follow .nil pass0 (pa_cons (pe_fld (pv 0) rfl) (pa_cons (pv 1) pa_nil))))
      (pss_cons (ps_fld (pv 0) (pv 1) rfl)
      (pss_one (ps_fld (pv 0) (pe_slice sl_list (pe_op op_cat (pe_fld (pv 0) rfl) (pv 3)) (po_some (pe_un un_neg (pe_glob (v := .int 16) rfl T.k_MOST_ENTRIES.choose_spec ⟨_, rfl⟩))) po_none) rfl))))), ?_⟩
    obtain ⟨dx, hs, el⟩ := L.at_
    obtain ⟨num, R⟩ := L.rt
    obtain ⟨dx2, e2⟩ := L.sto.at_
    obtain ⟨dx3, e3⟩ := TB.at_
    obtain ⟨eo, ee, eln⟩ := L.ent
    obtain ⟨dx4, e4⟩ := L.shf.at_
    have no1 : ¬ sF a.st a.d a.ls a.lu l := sto_ins el (by intro _ _ _ z; cases z) (by intro _ _ _ _ _ _ z; cases z) L.sto
    have no2 : ¬ sF a.st a.d a.ls a.lu a.sh := sto_ins e4 (by intro _ _ _ z; cases z) (by intro _ _ _ _ _ _ z; cases z) L.sto
    have no3 : ¬ sF a.st a.d a.ls a.lu a.cp := sto_dK L.shf.dic L.sto
    have no4 : ¬ sF a.st a.d a.ls a.lu a.en := by
      obtain ⟨ddx, tpx, st, ed, _⟩ := L.sto.dk.ex
      rintro (y | y | y | y)
      · exact ne_of ee e2 (by intro z; cases z) y
      · exact ne_of ee ed (by intro z; cases z) y
      · exact L.n1 y
      · exact L.n2 y
    have nsh : a.sh ≠ l := fld_ne e4 el (by intro z; cases z)
    have ncp : a.cp ≠ l := ne_of L.shf.dic el (by intro z; cases z)
    have nen : a.en ≠ l := ne_of ee el (by intro z; cases z)
    -- self.store.put(trial.number, pages, entries)
    refine ⟨_, rfl, l, A.c 74, dx, _, _, rfl, el, T.cl_Lead, T.n_Lead_store, l_store .., a.st, dx2, _, rfl, e2, rfl, _, rfl, tb, A.c 64, dx3, _, _, rfl, e3, T.cl_Table, T.n_Table_number, l_num .., _, rfl, _, rfl, ?_⟩
    refine ⟨a.st, a.d, a.ls, a.lu, a.r, m, num, _, e, lp, le, ps, es, rfl, L.sto, R, L.r0, hlp, hps, lps, hle, hes, les, en, he, fun z => d1 (.inr (.inl (.inr (.inr (.inl z))))), fun z => d1 (.inr (.inl (.inr (.inr (.inr z))))), fun z => d2 (.inr (.inl (.inr (.inr (.inl z))))), fun z => d2 (.inr (.inl (.inr (.inr (.inr z))))), fun r' G lu' m' hlu kG SG q1 q2 q3 RG => ?_⟩
    have elG := kG.t.ins el no1
    have ShG : ShAt A G a.sh a.cp a.bg a.cs t := L.shf.kt kG.t no2 no3 fun b z y => L.ap b y (.inr (.inl z))
    have TBG := TB.kt kG.t fun b z y => dt b y (.inr (.inl z))
    have TAG := L.tab.kt kG.t fun b z y => tab_sto L.sto L.tab b z y
    obtain ⟨dx5, e5⟩ := ShG.at_
    have ncsl : ¬ csF a.cs l := fun z => L.ap l z (.inl rfl)
    -- self.shelf.follow(self.table, trial)
    refine ⟨_, rfl, l, A.c 74, dx, _, _, rfl, elG, T.cl_Lead, T.n_Lead_shelf, l_shelf .., a.sh, dx5, _, rfl, e5, rfl, _, rfl, l, A.c 74, dx, _, _, rfl, elG, T.cl_Lead, T.n_Lead_table, l_table .., _, rfl, a.sh, a.cp, a.bg, a.cs, a.tb, a.rw, a.hd, a.gn, t, n, tb, rw, hd, gn, t', n', rfl, ShG, TAG, TBG, (fun b z => z.elim (fun y => by rw [y]; exact L.n3) fun y q => L.ap b y (.inr (.inr (.inl q)))), (fun b z q => dt b q (z.elim (fun y => .inr (.inr (.inr (.inr (.inr (.inl y)))))) fun y => .inr (.inr (.inr (.inr (.inr (.inr y))))))), TG.kp kG, fun G2 Sh2 k2 => ?_⟩
    have el2 := k2.t.ins elG ncsl
    -- self.table = trial
    refine ⟨_, rfl, _, rfl, l, A.c 74, dx, _, rfl, el2, T.cl_Lead, T.n_Lead_table, by show 6 < 1000; decide, ?_⟩
    rw [p_table]
    have k3 : Kp (fun b => b = l) G2 (upd G2 l (.ins (A.c 74) dx (lfl a.st hs tb a.en a.sh a.fo))) := Kp.updI el2 rfl
    have e6 : upd G2 l (.ins (A.c 74) dx (lfl a.st hs tb a.en a.sh a.fo)) l = some (.ins (A.c 74) dx (lfl a.st hs tb a.en a.sh a.fo)) := upd_same
    generalize upd G2 l (.ins (A.c 74) dx (lfl a.st hs tb a.en a.sh a.fo)) = G3 at k3 e6 ⊢
    have toL : ∀ b, (b = l ∨ sF a.st a.d a.ls a.lu b ∨ csF a.cs b) → lF l a b := fun b z => z.imp id fun y => y.imp id fun q => .inr (.inr (.inr (.inr q)))
    have k03 : Kg (tL tp) (fun b => b = l ∨ sF a.st a.d a.ls a.lu b ∨ csF a.cs b) H G3 := (((Kg.of kG).sub (F' := fun b => b = l ∨ sF a.st a.d a.ls a.lu b ∨ csF a.cs b) fun b z => .inr (.inl z)).trans k2 fun _ z => .inl (.inr (.inr z))).trans (Kg.of k3) fun b z => .inl (.inl z)
    have nle : ¬ (le = l ∨ sF a.st a.d a.ls a.lu le ∨ csF a.cs le) := fun z => d2 (toL _ z)
    have ee3 := k03.t.lst ee fun z => z.elim nen fun y => y.elim no4 fun q => L.ap _ q (.inr (.inr (.inr (.inl rfl))))
    have hle3 := k03.t.lst hle nle
    -- self.entries = (self.entries + entries)[-MOST_ENTRIES:]
    refine ⟨_, rfl, l, A.c 74, dx, _, _, rfl, e6, T.cl_Lead, T.n_Lead_entries, l_entries .., _, rfl, a.en, le, eo, es, rfl, rfl, ee3, hle3, sz (eo.length + es.length) (by omega), fun q nq => ⟨_, rfl, _, rfl, q, _, rfl, SqL.of upd_same, fun en' nen' => ⟨_, rfl, l, A.c 74, dx, _, rfl, (upd_ne (ne_of_none ((upd_ne (ne_of_none e6 nq)).trans e6) nen')).trans ((upd_ne (ne_of_none e6 nq)).trans e6), T.cl_Lead, T.n_Lead_entries, by show 6 < 1000; decide, ?_⟩⟩⟩
    rw [p_entries]
    have k4 : Kp No G3 (upd (upd G3 q (.lst (eo ++ es))) en' (.lst (cutV (eo ++ es) (some (-16)) none))) := (Kp.new nq).andN nen'
    have een : upd (upd G3 q (.lst (eo ++ es))) en' (.lst (cutV (eo ++ es) (some (-16)) none)) en' = some (.lst (cutV (eo ++ es) (some (-16)) none)) := upd_same
    have nen3 : G3 en' = none := (upd_none nen').2
    show Q V.non (upd (upd (upd G3 q (.lst (eo ++ es))) en' (.lst (cutV (eo ++ es) (some (-16)) none))) l _)
    generalize upd (upd G3 q (.lst (eo ++ es))) en' (.lst (cutV (eo ++ es) (some (-16)) none)) = G4 at k4 een ⊢
    have e7 := k4.t.ins e6 fun z => z
    have k5 : Kp (fun b => b = l) G4 (upd G4 l (.ins (A.c 74) dx (lfl a.st hs tb en' a.sh a.fo))) := Kp.updI e7 rfl
    have k35 : Kp (fun b => b = l) G3 (upd G4 l (.ins (A.c 74) dx (lfl a.st hs tb en' a.sh a.fo))) := (k4.sub fun _ z => False.elim z).trans k5 fun b z => .inl z
    have k25 : Kp (fun b => b = l) G2 (upd G4 l (.ins (A.c 74) dx (lfl a.st hs tb en' a.sh a.fo))) := k3.trans k35 fun b z => .inl z
    have kF : Kg (tL tp) (lF l a) H (upd G4 l (.ins (A.c 74) dx (lfl a.st hs tb en' a.sh a.fo))) := (k03.sub (F' := lF l a) toL).trans (Kg.of k35) fun b z => .inl (.inl z)
    have hl1 : ∀ b, b = l → ¬ sF a.st a.d a.ls lu' b := fun b z y => by
      rw [z] at y
      exact sto_ins elG (by intro _ _ _ z; cases z) (by intro _ _ _ _ _ _ z; cases z) SG y
    have hl2 : ∀ b, b = l → ¬ tF tb rw hd gn b := fun b z y => by
      rw [z] at y
      exact tab_ins el (by intro _ _ _ _ z; cases z) TB y
    have enH : lF l a en' ∨ H en' = none := by
      by_cases z : en' = l ∨ sF a.st a.d a.ls a.lu en' ∨ csF a.cs en'
      · exact .inl (toL _ z)
      · exact .inr (k03.free nen3 fun y => absurd y z)
    have nG : G2 en' = none := by
      by_cases z : en' = l
      · rw [z, e6] at nen3; cases nen3
      · exact k3.free nen3 fun y => absurd y z
    have ncsn : ¬ csF a.cs en' := fun z => by
      obtain ⟨o, eo⟩ := Sh2.there z
      rw [nG] at eo; cases eo
    have nG1 : G en' = none := k2.free nG fun z => absurd z ncsn
    have nsF : ∀ b, csF a.cs b → ¬ sF a.st a.d a.ls lu' b := fun b z y => by
      rcases y with y | y | y | y
      · exact L.ap b z (.inr (.inl (.inl y)))
      · exact L.ap b z (.inr (.inl (.inr (.inl y))))
      · exact L.ap b z (.inr (.inl (.inr (.inr (.inl y)))))
      · rcases hlu with q | q
        · exact L.ap b z (.inr (.inl (.inr (.inr (.inr (y.trans q))))))
        · obtain ⟨o, eo⟩ := L.shf.there z
          rw [y, q] at eo; cases eo
    have nsT : ∀ b, csF a.cs b → ¬ tF tb rw hd gn b := fun b z y => dt b y (.inr (.inr (.inr (.inr (.inr (.inr z))))))
    refine k _ ⟨a.st, a.d, a.ls, lu', r', tb, rw, hd, gn, en', a.sh, a.cp, a.fo, a.bg, a.cs⟩ m' ⟨⟨dx, hs, upd_same⟩, (SG.kt k2.t nsF).kt k25.t hl1, ⟨_, (RG.kt k2.t).kt k25.t⟩, q1, (TBG.kt k2.t nsT).kt k25.t hl2, ⟨_, k5.t.lst een ?_, ?_⟩, Sh2.kt k25.t nsh ncp (fun b z y => ncsl (by rw [← show b = l from z]; exact y)), ?_, ?_, (fun z => dt _ z (.inr (.inr (.inr (.inr (.inr (.inl rfl))))))), ?_⟩ q3 rfl rfl ?_ kF rfl rfl rfl
    · intro z
      rw [show en' = l from z, e6] at nen3; cases nen3
    · unfold cutV
      rw [List.length_take, List.length_drop]
      have : HT.sIx (eo ++ es).length (eo ++ es).length none = (eo ++ es).length := rfl
      have h2 : HT.sIx (eo ++ es).length 0 (some (-16)) = ((-16 : Int) + ((eo ++ es).length : Int)).toNat := rfl
      rw [this, h2]
      omega
    · intro z
      rw [show en' = a.ls from z, SG.dk.sure] at nG1; cases nG1
    · intro z
      obtain ⟨rs, h3, _⟩ := SG.dk.uns
      rw [show en' = lu' from z, h3] at nG1; cases nG1
    · rintro b zc (z | z | z | z | z | z)
      · exact L.ap b zc (.inl z)
      · exact nsF b zc z
      · exact nsT b zc z
      · exact ncsn (by rw [← show b = en' from z]; exact zc)
      · exact L.ap b zc (.inr (.inr (.inr (.inr (.inl z)))))
      · exact L.ap b zc (.inr (.inr (.inr (.inr (.inr z)))))
    · rintro b (z | (z | z | z | z) | z | z | z | z | z)
      · exact .inl (.inl z)
      · exact .inl (.inr (.inl (.inl z)))
      · exact .inl (.inr (.inl (.inr (.inl z))))
      · exact .inl (.inr (.inl (.inr (.inr (.inl z)))))
      · rw [show b = lu' from z]
        exact hlu.elim (fun y => .inl (.inr (.inl (.inr (.inr (.inr y)))))) fun y => .inr (.inr y)
      · exact .inr (.inl z)
      · rw [show b = en' from z]
        exact enH.imp id .inr
      · exact .inl (.inr (.inr (.inr (.inr (.inl z)))))
      · exact .inl (.inr (.inr (.inr (.inr (.inr (.inl z))))))
      · exact .inl (.inr (.inr (.inr (.inr (.inr (.inr z))))))
end
end S02

set_option Elab.async false
set_option linter.all false
set_option maxRecDepth 100000
set_option maxHeartbeats 4000000
namespace S02
open PySem PySem.Spec PyProof.Rows L2 K5 SupX GenX
section
variable {P : Program} {w : World} {K : PySem.W.Frag} {mg : Str → Option Value} {base : Heap} {A : Ad} {tp : Nat → Addr} {nr pl B C fI : Addr}
/-- a change is at its end: the trial's cells are new -/
theorem fin_change {H G5 G : Hp} {l tb rw hd gn : Addr} {a a' : La} {t' : TT} {n' : Nat} {m' : M} {e : Int} {Q : Hp → Prop} (k : LdQ A K tp H l a t' n' e Q) (kg : Kg (tL tp) No H G5) (nt : ∀ b, tF tb rw hd gn b → H b = none) (L : LeadAt A K G l a' t' n' m') (en : Enough m' e) (hd_ : a'.d = a.d) (hb : ∀ b, lF l a' b → lF l a b ∨ tF tb rw hd gn b ∨ G5 b = none) (kp : Kg (tL tp) (lF l a) G5 G) (hcs : a'.cs = a.cs ∧ a'.bg = a.bg ∧ a'.sh = a.sh) : Q G :=
  k G a' m' L en hd_ (fun b z => (hb b z).imp id fun y => y.elim (nt b) fun y => kg.free y fun z => False.elim z) ((kg.sub fun _ z => False.elim z).trans kp fun b z => .inl z) hcs
/-! ### known, clock, read, whole -/
theorem scRd : FnScope ["self", "key", "token"] ["self", "key", "token"] (defScope s_Lead_read) := ⟨rfl, rfl, rfl, by decide +kernel, rfl, by decide +kernel, by decide +kernel⟩
def spReadL (A : Ad) (K : PySem.W.Frag) : Sp := fun vs H Q _ => ∃ (l : Addr) (a : La) (t : TT) (n : Nat) (m : M) (j tk : Int), vs = [.ref l, .int j, .int tk] ∧ LeadAt A K H l a t n m ∧ inB 0 31 j = true ∧ tk ≤ t.num ∧ ∀ G b, H b = none → Kp No H G → G b = some (.tup [.int t.num, oV (seen t.mom t.rows j)]) → Q (.ref b) G
theorem ok_readL (T : Txt K mg A) : ∃ fd, FnOk P w K mg base CX0 4 (A.m 74 6) fd ["self", "key", "token"] (spReadL A K) ∧ Binds K fd ["self", "key", "token"] [] := by
  obtain ⟨fd, F⟩ := T.m_Lead_read.fn
  obtain ⟨fd1, G_Table_told_of, b_Table_told_of⟩ := ok_told_of (P := P) (w := w) (base := base) T
  refine ⟨fd, F.ok scRd (fun vs H Q E h => ?_) (fun cdv Ar outer s H vs Q E hr h => ?_), F.binds fun _ _ _ _ _ _ us hl => match us, hl with | [_, _, _], _ => rfl⟩
  · obtain ⟨l, a, t, n, m, j, tk, rfl, _⟩ := h
    rfl
  · obtain ⟨l, a, t, n, m, j, tk, rfl, L, hj, htk, k⟩ := h
    refine ⟨_, (pss_one (ps_ret (pe_meth (pe_fld (pv 0) rfl) T.cl_Table T.m_Table_told_of.me G_Table_told_of (hr.mono (by first | decide | omega)) b_Table_told_of .nil pass0 (pa_cons (pv 1) (pa_cons (pv 2) pa_nil))))), ?_⟩
    obtain ⟨dx, hs, el⟩ := L.at_
    obtain ⟨dx2, e2⟩ := L.tab.at_
    exact ⟨_, rfl, l, A.c 74, dx, _, _, rfl, el, T.cl_Lead, T.n_Lead_table, l_table .., a.tb, dx2, _, rfl, e2, rfl, _, rfl, _, rfl, a.tb, a.rw, a.hd, a.gn, t, n, j, tk, rfl, L.tab, hj, htk, k⟩
theorem scWl : FnScope ["self"] ["self"] (defScope s_Lead_whole) := ⟨rfl, rfl, rfl, by decide +kernel, rfl, by decide +kernel, by decide +kernel⟩
def spWholeL (A : Ad) (K : PySem.W.Frag) (tp : Nat → Addr) : Sp := fun vs H Q _ => ∃ (l : Addr) (a : La) (t : TT) (n : Nat) (m : M), vs = [.ref l] ∧ LeadAt A K H l a t n m ∧ Tg (tL tp) H ∧
  ∀ G b l1 l2 xs zs, H b = none → H l1 = none → H l2 = none → l1 ≠ l2 → Kg (tL tp) No H G → G b = some (.tup [.int t.mom, .ref l1, .ref l2]) → G l1 = some (.lst xs) → Paired (RwV G) xs (whRows t 8) → G l2 = some (.lst zs) → Paired (RhV G) zs (hnRows t.hands) → Q (.ref b) G
theorem ok_wholeL (T : Txt K mg A) (TB : TbsB base mg A tp) : ∃ fd, FnOk P w K mg base CX0 8 (A.m 74 7) fd ["self"] (spWholeL A K tp) ∧ Binds K fd ["self"] [] := by
  obtain ⟨fd, F⟩ := T.m_Lead_whole.fn
  obtain ⟨fd1, G_Table_told_whole, b_Table_told_whole⟩ := ok_told_whole (P := P) (w := w) (base := base) T TB
  refine ⟨fd, F.ok scWl (fun vs H Q E h => ?_) (fun cdv Ar outer s H vs Q E hr h => ?_), F.binds fun _ _ _ _ _ _ us hl => match us, hl with | [_], _ => rfl⟩
  · obtain ⟨l, a, t, n, m, rfl, _⟩ := h
    rfl
  · obtain ⟨l, a, t, n, m, rfl, L, TG, k⟩ := h
    refine ⟨_, (pss_one (ps_ret (pe_meth0 (pe_fld (pv 0) rfl) T.cl_Table T.m_Table_told_whole.me G_Table_told_whole (hr.mono (by first | decide | omega)) b_Table_told_whole .nil pass0))), ?_⟩
    obtain ⟨dx, hs, el⟩ := L.at_
    obtain ⟨dx2, e2⟩ := L.tab.at_
    exact ⟨_, rfl, l, A.c 74, dx, _, _, rfl, el, T.cl_Lead, T.n_Lead_table, l_table .., a.tb, dx2, _, rfl, e2, rfl, a.tb, a.rw, a.hd, a.gn, t, n, rfl, L.tab, TG, k⟩
/-! ### tick -/
theorem scTc : FnScope ["self", "moment", "trial", "entry"] ["self", "moment"] (defScope s_Lead_tick) := ⟨rfl, rfl, rfl, by decide +kernel, rfl, by decide +kernel, by decide +kernel⟩
def spTick (A : Ad) (K : PySem.W.Frag) (tp : Nat → Addr) : Sp := fun vs H Q _ => ∃ (l : Addr) (a : La) (t : TT) (n : Nat) (m : M) (mo e : Int), vs = [.ref l, .int mo] ∧ LeadAt A K H l a t n m ∧ Tg (tL tp) H ∧ t.mom + 1 ≤ mo ∧ mo ≤ 1000000 ∧ n ≤ 14000 ∧ 0 ≤ t.num ∧ Enough m (e + 16) ∧ 0 ≤ e ∧
  LdQ A K tp H l a (t.next (.tick mo)) (n + 5) e (Q (.int (t.num + 1)))
theorem ok_tick (T : Txt K mg A) (TB : TbsB base mg A tp) (X : Ex P w K mg A B C fI) : ∃ fd, FnOk P w K mg base CX0 12 (A.m 74 5) fd ["self", "moment"] (spTick A K tp) ∧ Binds K fd ["self", "moment"] [] := by
  obtain ⟨fd, F⟩ := T.m_Lead_tick.fn
  obtain ⟨fdW, Gwithin, bwithin⟩ := ok_within (P := P) (w := w) (base := base) T
  obtain ⟨fd1, G_Table_twin, b_Table_twin⟩ := ok_twin (P := P) (w := w) (base := base) T
  obtain ⟨fd2, G_Table_take, b_Table_take⟩ := ok_takeT (P := P) (w := w) (base := base) T X
  obtain ⟨fd3, G_Table_unlike, b_Table_unlike⟩ := ok_unlike (P := P) (w := w) (base := base) T TB
  obtain ⟨fd4, G_Lead_change_over, b_Lead_change_over⟩ := ok_change_over (P := P) (w := w) (base := base) (tp := tp) T TB
  refine ⟨fd, F.ok scTc (fun vs H Q E h => ?_) (fun cdv Ar outer s H vs Q E hr h => ?_), F.binds fun _ _ _ _ _ _ us hl => match us, hl with | [_, _], _ => rfl⟩
  · obtain ⟨l, a, t, n, m, mo, e, rfl, _⟩ := h
    rfl
  · obtain ⟨l, a, t, n, m, mo, e, rfl, L, TG, h1, h2, hn, hnu, en, he, k⟩ := h
    refine ⟨_, (pss_cons (ps_if (pt_not (pt_val (pe_call Gwithin (hr.mono (by first | decide | omega)) rfl T.within.at_ T.within.kp bwithin .nil pass0 (pa_cons (pv 1) (pa_cons (pe_op op_add (pe_fld (pe_fld (pv 0) rfl) rfl) pe_int) (pa_cons (pe_glob (v := .int 1000000) rfl T.k_LAST_MOMENT.choose_spec ⟨_, rfl⟩) pa_nil))))))
        (pss_one ps_never)
        pss_nil)
      (pss_cons (ps_set (i := 2) scTc.nd rfl (Or.inl rfl) (pe_meth0 (pe_fld (pv 0) rfl) T.cl_Table T.m_Table_twin.me G_Table_twin (hr.mono (by first | decide | omega)) b_Table_twin .nil pass0))
      (pss_cons (ps_set (i := 3) scTc.nd rfl (Or.inl rfl) (pe_tup (pa_cons pe_str (pa_cons (pv 1) pa_nil))))
      (pss_cons (ps_expr (pe_meth (pv 2) T.cl_Table T.m_Table_take.me G_Table_take (hr.mono (by first | decide | omega)) b_Table_take .nil pass0 (pa_cons (pv 3) pa_nil)))
      (pss_cons (ps_expr (pe_meth (pv 0) T.cl_Lead T.m_Lead_change_over.me G_Lead_change_over (hr.mono (by first | decide | omega)) b_Lead_change_over .nil pass0 (pa_cons (pv 2) (pa_cons (pe_meth (pe_fld (pv 0) rfl) T.cl_Table T.m_Table_unlike.me G_Table_unlike (hr.mono (by first | decide | omega)) b_Table_unlike .nil pass0 (pa_cons (pv 2) pa_nil)) (pa_cons (pe_lst (pa_cons (pe_tup (pa_cons (pe_fld (pv 2) rfl) (pa_cons (pv 3) pa_nil))) pa_nil)) pa_nil)))))
      (pss_one (ps_ret (pe_fld (pv 2) rfl)))))))), ?_⟩
    obtain ⟨dx, hs, el⟩ := L.at_
    obtain ⟨dx2, e2⟩ := L.tab.at_
    refine ⟨_, rfl, _, rfl, l, A.c 74, dx, _, _, rfl, el, T.cl_Lead, T.n_Lead_table, l_table .., a.tb, A.c 64, dx2, _, _, rfl, e2, T.cl_Table, T.n_Table_moment, l_mom .., _, _, rfl, rfl, _, _, _, rfl, .inl ⟨mo, rfl, _, rfl, ?_⟩⟩
    rw [show inB (t.mom + 1) 1000000 mo = true by unfold inB; rw [decide_eq_true h1, decide_eq_true h2]; rfl]
    refine iteF ?_
    -- trial = self.table.twin()
    refine ⟨_, rfl, l, A.c 74, dx, _, _, rfl, el, T.cl_Lead, T.n_Lead_table, l_table .., a.tb, dx2, _, rfl, e2, rfl, a.tb, a.rw, a.hd, a.gn, t, n, rfl, L.tab, fun G1 tb rw hd gn nt nr nh ng TB1 k1 => ?_⟩
    have L1 := L.kt k1.t fun _ z => False.elim z
    -- entry = ("tick", moment)
    refine ⟨_, rfl, sz 2 (by decide), fun q nq => ?_⟩
    have kq : Kp No G1 (upd G1 q (.tup [.str "tick", .int mo])) := Kp.new nq
    have hq : EvAt (upd G1 q (.tup [.str "tick", .int mo])) (.ref q) (.tick mo) := ⟨q, rfl, upd_same⟩
    generalize upd G1 q (.tup [.str "tick", .int mo]) = G2 at kq hq ⊢
    have TB2 := TB1.no kq.t
    obtain ⟨dx3, e3⟩ := TB2.at_
    have k12 : Kp No H G2 := k1.trans kq fun _ z => False.elim z
    have hnew : ∀ b, tF tb rw hd gn b → H b = none := fun b z => by
      rcases z with z | z | z | z <;> rw [z] <;> assumption
    -- trial.take(entry)
    refine ⟨_, rfl, tb, dx3, _, rfl, e3, rfl, _, rfl, tb, rw, hd, gn, t, n, .ref q, .tick mo, rfl, TB2, hq, trivial, (fun _ z => by cases z; omega), hn, fun G3 rw' hrw TB3 k3 => ?_⟩
    have hnew' : ∀ b, tF tb rw' hd gn b → H b = none := fun b z => by
      rcases z with z | z | z | z
      · rw [z]; exact nt
      · rw [z]; exact hrw.elim (fun y => by rw [y]; exact nr) fun y => k12.free y fun z => False.elim z
      · rw [z]; exact nh
      · rw [z]; exact ng
    have k13 : Kp No H G3 := kp_fresh (F := fun b => tF tb rw hd gn b) ((k12.sub fun _ z => False.elim z).trans k3 fun b z => .inl (z.elim .inl fun y => .inr (.inr (.inl y)))) hnew
    have L3 := L.kt k13.t fun _ z => False.elim z
    obtain ⟨dx4, hs4, el4⟩ := L3.at_
    obtain ⟨dx5, e5⟩ := L3.tab.at_
    obtain ⟨dx6, e6⟩ := TB3.at_
    -- self.change_over(trial, self.table.unlike(trial), [(trial.number, entry)])
    refine ⟨_, rfl, l, dx4, _, rfl, el4, rfl, _, rfl, _, rfl, l, A.c 74, dx4, _, _, rfl, el4, T.cl_Lead, T.n_Lead_table, l_table .., a.tb, dx5, _, rfl, e5, rfl, _, rfl, a.tb, a.rw, a.hd, a.gn, t, n, tb, rw', hd, gn, _, _, rfl, L3.tab, TB3, TG.kp k13, fun G4 lp ps nlp k4 hlp hps lps => ?_⟩
    have TB4 := TB3.no k4.t
    obtain ⟨dx7, e7⟩ := TB4.at_
    refine ⟨_, rfl, tb, A.c 64, dx7, _, _, rfl, e7, T.cl_Table, T.n_Table_number, l_num .., _, rfl, sz 2 (by decide), fun u nu => ⟨sz 1 (by decide), fun le nle => ?_⟩⟩
    have ku : Kp No G4 (upd (upd G4 u (.tup [.int (t.num + 1), .ref q])) le (.lst [.ref u])) := (Kp.new nu).andN nle
    have hu : upd (upd G4 u (.tup [.int (t.num + 1), .ref q])) le (.lst [.ref u]) u = some (.tup [.int (t.num + 1), .ref q]) := by rw [upd_ne (upd_none nle).1.symm, upd_same]
    have hle : upd (upd G4 u (.tup [.int (t.num + 1), .ref q])) le (.lst [.ref u]) le = some (.lst [.ref u]) := upd_same
    have nleG : G4 le = none := (upd_none nle).2
    unfold tNil
    show spChange A K tp [.ref l, .ref tb, .ref lp, .ref le] (upd (upd G4 u (.tup [.int (t.num + 1), .ref q])) le (.lst [.ref u])) _ _
    generalize upd (upd G4 u (.tup [.int (t.num + 1), .ref q])) le (.lst [.ref u]) = G5 at ku hu hle ⊢
    have k14 : Kg (tL tp) No H G4 := (Kg.of k13).trans k4 fun _ z => False.elim z
    have k15 : Kg (tL tp) No H G5 := k14.trans (Kg.of ku) fun _ z => False.elim z
    have L5 := L.kt k15.t fun _ z => False.elim z
    have hq5 : EvAt G5 (.ref q) (.tick mo) := ((hq.kt k3.t).kt k4.t).kt ku.t
    have nlF : ∀ b, H b = none → ¬ lF l a b := fun b z y => by
      obtain ⟨o, eo⟩ := L.there y
      rw [z] at eo; cases eo
    have nlp5 : ¬ lF l a lp := nlF _ (k13.free nlp fun z => False.elim z)
    have nle5 : ¬ lF l a le := nlF _ (k14.free nleG fun z => False.elim z)
    refine ⟨l, a, t, n, m, tb, rw', hd, gn, _, _, lp, le, ps, [.ref u], e, rfl, L5, TB4.no ku.t, TG.kg k15, ku.t.lst hlp (fun z => z), (fun v hv => (hps v hv).kt ku.t), lps, hle, (fun v hv => ?_), (by show 1 ≤ 4; decide), en, he, nlp5, nle5, (fun b z => nlF b (hnew' b z)), fun G a' m' LG q1 q2 q3 q4 kG qc qb qs => ?_⟩
    · rw [List.mem_singleton.mp hv]
      exact ⟨u, t.num + 1, .ref q, .tick mo, rfl, hu, (by omega), hq5, trivial⟩
    · obtain ⟨dx8, e8⟩ := LG.tab.at_
      rw [q3] at e8
      exact ⟨_, rfl, tb, A.c 64, dx8, _, _, rfl, e8, T.cl_Table, T.n_Table_number, l_num .., fin_change k k15 hnew' LG q1 q2 q4 kG ⟨qc, qb, qs⟩⟩
end
end S02

set_option Elab.async false
set_option linter.all false
set_option maxRecDepth 100000
set_option maxHeartbeats 4000000
namespace S02
open PySem PySem.Spec PyProof.Rows L2 K5 SupX GenX
theorem dc_rng {lo : Int} {n : Nat} {g : TG} {tt : L2.TT} {tk tv : TE} {vs : List Nat} {σ : L2.St} {H1 : Hp} {D : Addr} {Qd : Hp → Prop} (Pv : Nat → Hp → Prop) (h0 : Pv 0 (upd H1 D (.dK [])))
    (hs : ∀ i H, i < n → Pv i H → g (.int (lo + i)) (wipe σ vs) H fun σ2 H2 => wipe σ2 vs = wipe σ vs ∧ tt σ2 H2 fun b H3 =>
      if b = true then tk σ2 H3 fun y H4 => tv σ2 H4 fun z H5 => ∃ kvs k, y = kV k ∧ H5 D = some (.dK kvs) ∧ kvs.length < sizeLine ∧ Pv (i + 1) (upd H5 D (.dK (putK kvs k z))) else Pv (i + 1) H3) (hd : ∀ H, Pv n H → Qd H) :
    ∃ W : Nat → Nat → Hp → Prop, (∃ m, W 0 m (upd H1 D (.dK []))) ∧ ∀ i m H, W i m H →
      ((Itr lo n).stop i H ∧ Qd H) ∨ ((Itr lo n).go i H ∧ ∃ Nx : Hp → Prop, (∀ H', Nx H' → ∃ m', m' < m ∧ W (i + 1) m' H') ∧ ∀ x H', (Itr lo n).yld i H x H' → g x (wipe σ vs) H' fun σ2 H2 => wipe σ2 vs = wipe σ vs ∧ tt σ2 H2 fun b H3 =>
        if b = true then tk σ2 H3 fun y H4 => tv σ2 H4 fun z H5 => ∃ kvs k, y = kV k ∧ H5 D = some (.dK kvs) ∧ kvs.length < sizeLine ∧ Nx (upd H5 D (.dK (putK kvs k z))) else Nx H3) := by
  refine ⟨fun i m H => m = n - i ∧ i ≤ n ∧ Pv i H, ⟨n, by simp, Nat.zero_le _, h0⟩, ?_⟩
  rintro i m H ⟨rfl, hi, p⟩
  by_cases h : i < n
  · refine .inr ⟨h, Pv (i + 1), fun H' p' => ⟨n - (i + 1), by omega, rfl, h, p'⟩, fun x H' y => ?_⟩
    obtain ⟨e, y⟩ := y
    subst e y
    exact hs i _ h p
  · have e : i = n := by omega
    subst e
    exact .inl ⟨Nat.le_refl _, hd H p⟩
/-- a deal of a hand -/
structure Gd where
  hd : Int
  x : Int
  ds : List Dd
def GdAt (H : Hp) (v : V) (g : Gd) : Prop := ∃ u dv, v = .ref u ∧ H u = some (.tup [.int g.hd, .int g.x, dv]) ∧ DsAt H dv g.ds
theorem GdAt.kt {F : Addr → Prop} {H G : Hp} (k : Kt F H G) {v : V} {g : Gd} (h : GdAt H v g) : GdAt G v g := let ⟨u, dv, e, q, d⟩ := h; ⟨u, dv, e, k.tup q, d.kt k⟩
def setL (f : Int → Int) (h x : Int) : Int → Int := fun j => if j = h then x else f j
/-- the deals may be taken, one behind the other -/
def okG : (Int → Int) → List Gd → Prop
  | _, [] => True
  | f, g :: gs => 0 ≤ g.hd ∧ g.hd ≤ 3 ∧ 1 ≤ g.x ∧ f g.hd ≤ g.x ∧ g.x ≤ f g.hd + 1 ∧ dealBad g.ds = none ∧ g.ds.length ≤ 4 ∧ okG (setL f g.hd g.x) gs
theorem okG.drop {gs : List Gd} : ∀ {f : Int → Int}, okG f gs → ∀ i g, gs[i]? = some g → ∃ f', okG f' (g :: gs.drop (i + 1)) ∧ f' = (gs.take i).foldl (fun f g => setL f g.hd g.x) f := by
  induction gs with
  | nil => intro f _ i g h; cases h
  | cons a gs ih =>
    intro f h i g hg
    cases i with
    | zero =>
      cases hg
      exact ⟨f, h, rfl⟩
    | succ i => exact ih h.2.2.2.2.2.2.2 i g hg
end S02

set_option Elab.async false
set_option linter.all false
set_option maxRecDepth 100000
set_option maxHeartbeats 4000000
/-! ### deals written as rows of text -/
namespace S02
open PySem PySem.Spec PyProof.Rows L2 K5 SupX GenX TL
/-- a deal of a hand that can be written -/
structure GdW (g : Gd) : Prop where
  h0 : 0 ≤ g.hd
  h3 : g.hd ≤ 3
  x0 : 0 ≤ g.x
  x9 : g.x ≤ 9999
  ok : dealBad g.ds = none
theorem badFrom_all : ∀ {ds : List Dd} {i : Nat}, badFrom i ds = none → (∀ d ∈ ds, d.ok = true) ∧ (i ≤ 4 → i + ds.length ≤ 4)
  | [], _, _ => ⟨(fun _ z => by cases z), fun h => by simpa using h⟩
  | d :: ds, i, h => by
    unfold badFrom at h
    split at h
    · cases h
    · rename_i c
      obtain ⟨h1, h2⟩ := badFrom_all h
      simp only [Bool.or_eq_true, decide_eq_true_eq, Bool.not_eq_true', not_or] at c
      refine ⟨fun d' hd => ?_, fun hi => ?_⟩
      · rcases List.mem_cons.mp hd with rfl | hd
        · simpa using c.2
        · exact h1 d' hd
      · rw [List.length_cons]
        have := h2 (by omega)
        omega
theorem deal_all {ds : List Dd} (h : dealBad ds = none) : ds ≠ [] ∧ (∀ d ∈ ds, d.ok = true) ∧ ds.length ≤ 4 := by
  unfold dealBad at h
  split at h
  · cases h
  · rename_i c
    obtain ⟨h1, h2⟩ := badFrom_all h
    exact ⟨c, h1, by have := h2 (by decide); omega⟩
/-- the first of the deals that can't be -/
def badG (g : Gd) : Option Er := if inB 0 3 g.hd = true then (dealBad g.ds).map Er.deal else some .hand
def badGs : List Gd → Option Er
  | [] => none
  | g :: gs => match badG g with
    | some r => some r
    | none => badGs gs
theorem GdW.good {g : Gd} (h : GdW g) : badG g = none := by
  unfold badG
  rw [if_pos (by unfold inB; simp only [Bool.and_eq_true, decide_eq_true_eq]; exact ⟨h.h0, h.h3⟩), h.ok]
  rfl
theorem goods : ∀ {gs : List Gd}, (∀ g ∈ gs, GdW g) → badGs gs = none
  | [], _ => rfl
  | g :: gs, h => by
    unfold badGs
    rw [(h g List.mem_cons_self).good]
    exact goods fun g' hg => h g' (List.mem_cons_of_mem _ hg)
theorem badGs_app : ∀ {gs : List Gd} {g : Gd} {ks : List Gd} {r : Er}, (∀ g ∈ gs, GdW g) → badG g = some r → badGs (gs ++ g :: ks) = some r
  | [], g, ks, r, _, h => by
    show (match badG g with
      | some r => some r
      | none => badGs ks) = _
    rw [h]
  | a :: gs, g, ks, r, h, hb => by
    show (match badG a with
      | some r => some r
      | none => badGs (gs ++ g :: ks)) = _
    rw [(h a List.mem_cons_self).good]
    exact badGs_app (fun g' hg => h g' (List.mem_cons_of_mem _ hg)) hb
section
variable {P : Program} {w : World} {K : PySem.W.Frag} {mg : Str → Option Value} {base : Heap} {A : Ad} {tp : Nat → Addr} {nr pl B C fI : Addr}
theorem scwritten_row : FnScope ["hand", "letter", "deeds", "told", "deed"] ["hand", "letter", "deeds"] (defScope s_written_row) := ⟨rfl, rfl, rfl, by decide +kernel, rfl, by decide +kernel, by decide +kernel⟩
abbrev Nscwritten_row : List Str := ["hand", "letter", "deeds", "told", "deed"]
def spWrow : Sp := fun vs H Q _ => ∃ (h x : Int) (v : V) (ds : List Dd), vs = [.int h, .int x, v] ∧ DsAt H v ds ∧ (∀ d ∈ ds, d.ok = true) ∧ ds.length ≤ 4 ∧ 0 ≤ h ∧ h < 10000 ∧ 0 ≤ x ∧ x < 10000 ∧ ∀ G, Kp No H G → Q (.str (rowS h x ds)) G
theorem ok_wrow (T : Txt K mg A) : ∃ fd, FnOk P w K mg base CX0 2 (A.d 47) fd ["hand", "letter", "deeds"] spWrow ∧ Binds K fd ["hand", "letter", "deeds"] [] := by
  obtain ⟨fd, F⟩ := T.written_row.fn
  obtain ⟨fd1, Gwritten_deed, bwritten_deed⟩ := ok_wd (P := P) (w := w) (base := base) T
  refine ⟨fd, F.ok scwritten_row (fun vs H Q E h => ?_) (fun cdv Ar outer s0 H vs Q E hr h => ?_), F.binds fun _ _ _ _ _ _ us hl => match us, hl with | [_, _, _], _ => rfl⟩
  · obtain ⟨h, x, v, ds, rfl, _⟩ := h
    rfl
  · obtain ⟨h, x, v, ds, rfl, hv, hok, hl4, h0, h3, x0, x1, k⟩ := h
    have hu := hu_of hr
    refine ⟨_, (pss_cons (ps_set (i := 3) scwritten_row.nd rfl (Or.inl rfl) (pe_join pe_str (pe_lc (own := [("deed", 4)]) (g := (gName 4)) (by rfl) scwritten_row.nd (pi_tup (pv 2)) (blkOk_by (N := Nscwritten_row) (sc := defScope s_written_row) (by decide +kernel)) (fun _ _ _ _ _ => pg_name (i := 4) scwritten_row.nd rfl (Or.inl rfl)) (fun _ _ _ _ _ => pts_nil) (fun _ _ _ _ _ => (pe_call Gwritten_deed (hr.mono (by first | decide | omega)) rfl T.written_deed.at_ T.written_deed.kp bwritten_deed .nil pass0 (pa_cons (pv 4) pa_nil))))))
      (pss_one (ps_ret (pe_joined (.cons (pe_fmt (pv 0)) (.cons pe_str (.cons (pe_fmt (pv 1)) (.cons pe_str (.cons (pe_fmt (pv 3)) PJ.nil))))))))), ?_⟩
    obtain ⟨a, xs, rfl, e, pd, _⟩ := hv
    refine ⟨⟨_, rfl⟩, _, rfl, a, rfl, ⟨_, SqT.of e⟩, fun D nD => ?_⟩
    refine lc_tup (K := K) (a := a) (xs := xs) (fun i J => Kp (fun b => b = D) H J ∧ J D = some (.lst (((ds.take i).map deedS).map V.str))) ⟨Kp.new nD, upd_same⟩ (fun i J _ ⟨kJ, _⟩ => SqT.of (kJ.t.tup e)) ?_ ?_
    · rintro i y J hy ⟨kJ, eJ⟩
      obtain ⟨d, hd, hdd⟩ := paired_at pd hy
      have hi : i < ds.length := (List.getElem?_eq_some_iff.mp hd).1
      refine ⟨rfl, _, rfl, y, d, rfl, hdd.kt kJ.t, hok d (List.mem_of_getElem? hd), fun G kG => ?_⟩
      have eG := kG.t.lst eJ fun z => z
      refine ⟨_, eG, szL (by rw [List.length_map, List.length_map, List.length_take]; omega), (kJ.trans kG fun _ z => False.elim z).trans (show Kp (fun b => b = D) G _ from Kp.updL eG rfl) fun b z => .inl z, ?_⟩
      rw [upd_same, take_snoc hd, List.map_append, List.map_append]
      rfl
    · rintro J ⟨kJ, eJ⟩
      rw [show ds.take xs.length = ds by rw [pd.length]; exact List.take_length] at eJ
      have lens := sum_len (m := 24) (ys := ds.map deedS) fun y hy => by
        obtain ⟨d, hd, rfl⟩ := List.mem_map.mp hy
        exact deed_len (hok d hd)
      refine ⟨"; ", D, ds.map deedS, rfl, rfl, .inl (SqL.of eJ), ?_, ?_⟩
      · rw [List.length_map] at lens ⊢
        have h3 : ("; " : Str).length = 2 := by decide +kernel
        rw [h3]
        have h4 : ds.length * 24 ≤ 4 * 24 := Nat.mul_le_mul_right _ hl4
        omega
      · rw [join_eq]
        have tlen := tail_len hok hl4
        have hlen := head_len h0 h3 x0 x1
        have c1 := nS_len (i := h) (by omega) (by omega)
        have c2 := nS_len (i := x) (by omega) (by omega)
        have c3 : (tl (" " : Str)).length = 1 := by decide +kernel
        have c4 : (tl (": " : Str)).length = 2 := by decide +kernel
        have c5 : tl Str.empty = [] := rfl
        have big : ∀ {y : Str}, (tl y).length ≤ 200 → y.length ≤ sizeLine := fun {y} h => by rw [len_tl]; exact Nat.le_trans h (by decide)
        have ee : Str.empty ++ nS h ++ (" " : Str) ++ nS x ++ (": " : Str) ++ Str.join ("; " : Str) (ds.map deedS) = rowS h x ds := ext_tl (by
          unfold rowS headS tailS
          simp only [tl_append, c5, List.nil_append])
        have tlen : (tl (Str.join ("; " : Str) (ds.map deedS))).length ≤ 104 := tlen
        refine ⟨_, rfl, .inr ⟨h, rfl, small_log (by omega) (by omega), nS h, rfl, big (by rw [tl_append, c5]; simp only [List.nil_append]; omega), _, rfl, big (by simp only [tl_append, c5, List.nil_append, List.length_append]; omega), _, rfl, .inr ⟨x, rfl, small_log (by omega) (by omega), nS x, rfl, big (by simp only [tl_append, c5, List.nil_append, List.length_append]; omega), _, rfl, big (by simp only [tl_append, c5, List.nil_append, List.length_append]; omega), _, rfl, .inl ⟨_, rfl, big (by omega), _, rfl, big (by simp only [tl_append, c5, List.nil_append, List.length_append]; omega), ?_⟩⟩⟩⟩
        rw [← ee] at k
        exact k J (kp_fresh kJ fun b z => by rw [show b = D from z]; exact nD)
/-! check_deals -/
abbrev Nsccheck_deals : List Str := ["deals", "hand", "letter", "deeds"]
theorem sccheck_deals : FnScope Nsccheck_deals ["deals"] (defScope s_check_deals) := ⟨rfl, rfl, rfl, by decide +kernel, rfl, by decide +kernel, by decide +kernel⟩
def spCDs (A : Ad) : Sp := fun vs H Q E => ∃ (a : Addr) (xs : List V) (gs : List Gd), vs = [.ref a] ∧ H a = some (.lst xs) ∧ Paired (GdAt H) xs gs ∧ gs.length ≤ 100 ∧ ∀ G, Kp No H G → (badGs gs = none → Q .non G) ∧ ∀ r, badGs gs = some r → ErX A E G r
theorem ok_cds (T : Txt K mg A) (X : Ex P w K mg A B C fI) (htop : (P.main.scope.names.lookup ("super" : Str)).isSome = false) : ∃ fd, FnOk P w K mg base (L2N.CX P w) 4 (A.d 45) fd ["deals"] (spCDs A) ∧ Binds K fd ["deals"] [] := by
  obtain ⟨fd, F⟩ := T.check_deals.fn
  obtain ⟨fd1, Gcheck_hand, bcheck_hand⟩ := ok_check_hand (P := P) (w := w) (base := base) T
  obtain ⟨fd2, Gcheck_deal, bcheck_deal⟩ := ok_check_deal (P := P) (w := w) (base := base) T X htop
  refine ⟨fd, okN F sccheck_deals (fun vs H Q E h => ?_) (fun cdv Ar outer s0 H vs Q E hr h => ?_), F.binds fun _ _ _ _ _ _ us hl => match us, hl with | [_], _ => rfl⟩
  · obtain ⟨a, xs, gs, rfl, _⟩ := h
    rfl
  · obtain ⟨a, xs, gs, rfl, e, pg, hl, k⟩ := h
    have tk : L2N.Takes (cxOf (L2N.CX P w) P w K mg base Nsccheck_deals "check_deals" (defScope s_check_deals) (A.d 45) cdv Ar outer s0 H E) (fun cls d _ G => E cls d G) := L2N.takes_of rfl rfl rfl rfl
    refine ⟨_, (pss_one (ps_for PassesOwn.leaving rfl (pi_list (pv 0)) (pg_tup rfl (pgs_cons (pg_name (i := 1) sccheck_deals.nd rfl (Or.inl rfl)) (pgs_cons (pg_name (i := 2) sccheck_deals.nd rfl (Or.inl rfl)) (pgs_cons (pg_name (i := 3) sccheck_deals.nd rfl (Or.inl rfl)) pgs_nil))))
        (pss_cons (ps_expr (pe_call (E := E) Gcheck_hand (hr.mono (by first | decide | omega)) rfl T.check_hand.at_ T.check_hand.kp bcheck_hand .nil (L2N.passes_call tk fun _ _ _ _ h => h) (pa_cons (pv 1) pa_nil)))
        (pss_one (ps_expr (pe_call (E := E) Gcheck_deal (hr.mono (by first | decide | omega)) rfl T.check_deal.at_ T.check_deal.kp bcheck_deal .nil (L2N.passes_call tk fun _ _ _ _ h => h) (pa_cons (pv 3) pa_nil))))))), ?_⟩
    refine ⟨_, rfl, a, rfl, ⟨_, SqL.of e⟩, for_list (K := K) (a := a) (xs := xs) (fun i σ J => (∃ o1 o2 o3, σ = [some (.ref a), o1, o2, o3]) ∧ Kp No H J ∧ badGs gs = badGs (gs.drop i)) ⟨⟨_, _, _, rfl⟩, Kp.refl _ _, rfl⟩ (fun i σ J _ ⟨_, kJ, _⟩ => SqL.of (kJ.t.lst e fun z => z)) ?_ ?_⟩
    · rintro i y σ J hy ⟨⟨o1, o2, o3, rfl⟩, kJ, eb⟩
      obtain ⟨g, hg, u, dv, rfl, hu2, hds⟩ := paired_at pg hy
      have hd : gs.drop i = g :: gs.drop (i + 1) := by
        obtain ⟨hi, e9⟩ := List.getElem?_eq_some_iff.mp hg
        rw [List.drop_eq_getElem_cons hi, e9]
      rw [hd] at eb
      have eb : badGs gs = (match badG g with
        | some r => some r
        | none => badGs (gs.drop (i + 1))) := eb
      refine ⟨u, _, rfl, SqT.of (kJ.t.tup hu2), rfl, _, _, rfl, _, _, rfl, _, _, rfl, rfl, ?_⟩
      refine ⟨_, rfl, g.hd, rfl, fun hh => ?_, fun hh => (k J kJ).2 .hand ?_⟩
      · refine ⟨_, rfl, dv, g.ds, rfl, hds.kt kJ.t, fun G kG => ⟨fun hb => ?_, fun p hb => (k G (kJ.trans kG fun _ z => False.elim z)).2 (.deal p) ?_⟩⟩
        · refine ⟨⟨_, _, _, rfl⟩, kJ.trans kG fun _ z => False.elim z, ?_⟩
          rw [eb]
          unfold badG
          rw [if_pos hh, hb]
          rfl
        · rw [eb]
          unfold badG
          rw [if_pos hh, hb]
          rfl
      · rw [eb]
        unfold badG
        rw [if_neg (by rw [hh]; decide)]
    · rintro σ J ⟨⟨o1, o2, o3, rfl⟩, kJ, eb⟩
      rw [pg.length, List.drop_length] at eb
      exact (k J kJ).1 eb
/-! written -/
abbrev Nscwritten : List Str := ["deals", "hand", "letter", "deeds"]
theorem scwritten : FnScope Nscwritten ["deals"] (defScope s_written) := ⟨rfl, rfl, rfl, by decide +kernel, rfl, by decide +kernel, by decide +kernel⟩
def rowsS (gs : List Gd) : List Str := gs.map fun g => rowS g.hd g.x g.ds
def textS (gs : List Gd) : Str := Str.join "\n" (rowsS gs)
theorem rows_len {gs : List Gd} (h : ∀ g ∈ gs, GdW g) : ∀ y ∈ rowsS gs, (tl y).length ≤ 117 := fun y hy => by
  obtain ⟨g, hg, rfl⟩ := List.mem_map.mp hy
  have w := h g hg
  obtain ⟨_, h1, h2⟩ := deal_all w.ok
  exact row_len w.h0 (by have := w.h3; omega) w.x0 (by have := w.x9; omega) h1 h2
theorem text_len {gs : List Gd} (h : ∀ g ∈ gs, GdW g) (l : gs.length ≤ 100) : (tl (textS gs)).length ≤ 11800 := by
  unfold textS
  rw [tl_join]
  refine Nat.le_trans (joinL_len (m := 117) fun p hp => ?_) ?_
  · obtain ⟨y, hy, rfl⟩ := List.mem_map.mp hp
    exact rows_len h y hy
  · rw [List.length_map]
    unfold rowsS
    rw [List.length_map, show (tl ("\n" : Str)).length = 1 by decide +kernel]
    exact Nat.le_trans (Nat.mul_le_mul_right _ l) (by decide)
theorem rows_free {gs : List Gd} : ∀ r ∈ rowsS gs, 10 ∉ tl r := fun r hr hc => by
  obtain ⟨g, hg, rfl⟩ := List.mem_map.mp hr
  exact chC_row hc rfl
/-- the text of deals, or what is raised -/
def spWritten (A : Ad) : Sp := fun vs H Q E => ∃ (a : Addr) (xs : List V) (gs : List Gd), vs = [.ref a] ∧ H a = some (.lst xs) ∧ Paired (GdAt H) xs gs ∧ gs.length ≤ 100 ∧
  ((∀ g ∈ gs, GdW g) ∧ (∀ G, Kp No H G → Q (.str (textS gs)) G) ∨ ∃ r, badGs gs = some r ∧ ∀ G, Kp No H G → ErX A E G r)
theorem ok_written (T : Txt K mg A) (X : Ex P w K mg A B C fI) (htop : (P.main.scope.names.lookup ("super" : Str)).isSome = false) : ∃ fd, FnOk P w K mg base (L2N.CX P w) 5 (A.d 48) fd ["deals"] (spWritten A) ∧ Binds K fd ["deals"] [] := by
  obtain ⟨fd, F⟩ := T.written.fn
  obtain ⟨fd1, Gcheck_deals, bcheck_deals⟩ := ok_cds (P := P) (w := w) (base := base) T X htop
  obtain ⟨fd2, Gwritten_row, bwritten_row⟩ := ok_wrow (P := P) (w := w) (base := base) T
  refine ⟨fd, okN F scwritten (fun vs H Q E h => ?_) (fun cdv Ar outer s0 H vs Q E hr h => ?_), F.binds fun _ _ _ _ _ _ us hl => match us, hl with | [_], _ => rfl⟩
  · obtain ⟨a, xs, gs, rfl, _⟩ := h
    rfl
  · obtain ⟨a, xs, gs, rfl, e, pg, hl, k⟩ := h
    have tk : L2N.Takes (cxOf (L2N.CX P w) P w K mg base Nscwritten "written" (defScope s_written) (A.d 48) cdv Ar outer s0 H E) (fun cls d _ G => E cls d G) := L2N.takes_of rfl rfl rfl rfl
    refine ⟨_, (pss_cons (ps_expr (pe_call (E := E) Gcheck_deals (hr.mono (by first | decide | omega)) rfl T.check_deals.at_ T.check_deals.kp bcheck_deals .nil (L2N.passes_call tk fun _ _ _ _ h => h) (pa_cons (pv 0) pa_nil)))
      (pss_one (ps_ret (pe_join pe_str (pe_lc (own := [("hand", 1), ("letter", 2), ("deeds", 3)]) (g := (gTup K 3 (gCons (gName 1) (gCons (gName 2) (gCons (gName 3) gNil))))) (by rfl) scwritten.nd (pi_list (pv 0)) (blkOk_by (N := Nscwritten) (sc := defScope s_written) (by decide +kernel)) (fun _ _ _ _ _ => pg_tup rfl (pgs_cons (pg_name (i := 1) scwritten.nd rfl (Or.inl rfl)) (pgs_cons (pg_name (i := 2) scwritten.nd rfl (Or.inl rfl)) (pgs_cons (pg_name (i := 3) scwritten.nd rfl (Or.inl rfl)) pgs_nil)))) (fun _ _ _ _ _ => pts_nil) (fun _ _ _ _ _ => (pe_call Gwritten_row (hr.mono (by first | decide | omega)) rfl T.written_row.at_ T.written_row.kp bwritten_row .nil pass0 (pa_cons (pv 1) (pa_cons (pv 2) (pa_cons (pv 3) pa_nil)))))))))), ?_⟩
    refine ⟨_, rfl, a, xs, gs, rfl, e, pg, hl, fun G0 k0 => ⟨fun hb => ?_, fun r hb => ?_⟩⟩
    rotate_left
    · rcases k with ⟨hg, _⟩ | ⟨r', hr', k⟩
      · rw [goods hg] at hb; cases hb
      · rw [hr'] at hb; cases hb; exact k G0 k0
    rcases k with ⟨hg, k⟩ | ⟨r', hr', _⟩
    rotate_left
    · rw [hr'] at hb; cases hb
    have e0 := k0.t.lst e fun z => z
    refine ⟨⟨_, rfl⟩, _, rfl, a, rfl, ⟨_, SqL.of e0⟩, fun D nD => ?_⟩
    have nDa : ∀ {J : Hp}, Kp (fun b => b = D) G0 J → J a = some (.lst xs) := fun k => k.t.lst e0 fun z => by rw [show a = D from z, nD] at e0; cases e0
    refine lc_list (K := K) (a := a) (xs := xs) (fun i J => Kp (fun b => b = D) G0 J ∧ J D = some (.lst ((rowsS (gs.take i)).map V.str))) ⟨Kp.new nD, upd_same⟩ (fun i J _ ⟨kJ, _⟩ => SqL.of (nDa kJ)) ?_ ?_
    · rintro i y J hy ⟨kJ, eJ⟩
      obtain ⟨g, hgi, u, dv, rfl, hu2, hds⟩ := paired_at pg hy
      have hi : i < gs.length := (List.getElem?_eq_some_iff.mp hgi).1
      have w := hg g (List.mem_of_getElem? hgi)
      obtain ⟨_, w1, w2⟩ := deal_all w.ok
      have kHJ : Kp (fun b => b = D) H J := (k0.sub fun _ z => False.elim z).trans kJ fun b z => .inl z
      refine ⟨u, _, rfl, SqT.of (kHJ.t.tup hu2), rfl, _, _, rfl, _, _, rfl, _, _, rfl, rfl, ?_⟩
      refine ⟨rfl, _, rfl, _, rfl, _, rfl, g.hd, g.x, dv, g.ds, rfl, hds.kt kHJ.t, w1, w2, w.h0, (by have := w.h3; omega), w.x0, (by have := w.x9; omega), fun G kG => ?_⟩
      have eG := kG.t.lst eJ fun z => z
      refine ⟨_, eG, szL (by unfold rowsS; rw [List.length_map, List.length_map, List.length_take]; omega), (kJ.trans kG fun _ z => False.elim z).trans (show Kp (fun b => b = D) G _ from Kp.updL eG rfl) fun b z => .inl z, ?_⟩
      rw [upd_same, take_snoc hgi]
      unfold rowsS
      rw [List.map_append, List.map_append]
      rfl
    · rintro J ⟨kJ, eJ⟩
      rw [show gs.take xs.length = gs by rw [pg.length]; exact List.take_length] at eJ
      have lens := sum_len (m := 117) (ys := rowsS gs) (rows_len hg)
      refine ⟨"\n", D, rowsS gs, rfl, rfl, .inl (SqL.of eJ), ?_, ?_⟩
      · unfold rowsS at lens ⊢
        rw [List.length_map] at lens ⊢
        have h3 : ("\n" : Str).length = 1 := by decide +kernel
        rw [h3]
        have h4 : gs.length * 117 ≤ 100 * 117 := Nat.mul_le_mul_right _ hl
        omega
      · rw [join_eq]
        exact k J (kp_fresh ((k0.sub fun _ z => False.elim z).trans kJ fun b z => .inl z) fun b z => by rw [show b = D from z]; exact k0.free nD fun z => False.elim z)
end
end S02

set_option Elab.async false
set_option linter.all false
set_option maxRecDepth 100000
set_option maxHeartbeats 4000000
/-! ### numbers as texts: pure facts -/
namespace S02
open PySem PySem.Spec PyProof.Rows L2 K5 TL
theorem starts_of {x : Str} {c : Nat} {r : List Nat} (h : tl x = c :: r) : Txt.startswith x "-" = decide (c = 45) := by
  rw [← mk_tl x, h]
  unfold Txt.startswith Builtin.Str.subAt
  have e1 : ("-" : Str).length = 1 := by decide +kernel
  have e2 : ("-" : Str).cps = #[45] := by decide +kernel
  rw [e1, e2]
  have e3 : ((⟨(c :: r).toArray⟩ : Str).cps.extract 0 (0 + 1)) = #[c] := by
    apply Array.ext'
    simp
  rw [e3]
  have e4 : (⟨(c :: r).toArray⟩ : Str).length = r.length + 1 := by
    show ((c :: r).toArray).size = _
    simp
  rw [e4]
  by_cases z : c = 45
  · subst z; simp
  · simp [z]
theorem numL_cons (n : Nat) : ∃ c r, numL n = c :: r ∧ 48 ≤ c ∧ c ≤ 57 := by
  cases h : numL n with
  | nil => exact absurd h (numL_ne n)
  | cons c r =>
    refine ⟨c, r, rfl, ?_⟩
    by_cases a : c < 48 ∨ 57 < c
    · exact absurd (by rw [h]; exact List.mem_cons_self) (numL_free (n := n) a)
    · omega
theorem starts_minus (i : Int) : Txt.startswith (nS i) "-" = decide (i < 0) := by
  by_cases z : 0 ≤ i
  · obtain ⟨c, r, h, h1, h2⟩ := numL_cons i.toNat
    rw [starts_of ((nS_pos z).trans h), decide_eq_false (by omega), decide_eq_false (by omega)]
  · rw [starts_of (nS_neg (by omega)), decide_eq_true rfl, decide_eq_true (by omega)]
theorem numL_head : ∀ (n : Nat), 1 ≤ n → ∃ c r, numL n = c :: r ∧ c ≠ 48
  | n, h => by
    by_cases z : n < 10
    · exact ⟨48 + n, [], numL_lt z, by omega⟩
    · obtain ⟨c, r, e, hc⟩ := numL_head (n / 10) (by omega)
      exact ⟨c, r ++ [48 + n % 10], by rw [numL_step (by omega), e]; rfl, hc⟩
theorem numL_one {n : Nat} (h : 10 ≤ n) : 1 < (numL n).length := by
  rw [numL_step h, List.length_append]
  have := List.length_pos_iff.mpr (numL_ne (n / 10))
  simp
  omega
theorem minus_ne0 {i : Int} (h : i < 0) : nS i ≠ "-0" := fun e => by
  have e1 := congrArg tl e
  rw [nS_neg h, show tl ("-0" : Str) = [45, 48] by decide +kernel] at e1
  obtain ⟨c, r, e2, hc⟩ := numL_head (-i).toNat (by omega)
  rw [e2] at e1
  injection e1 with _ e1
  injection e1 with e1
  exact hc e1
theorem nS_ne {i : Int} : nS i ≠ "-" := fun e => by
  have e1 := congrArg tl e
  rw [show tl ("-" : Str) = [45] by decide +kernel] at e1
  by_cases z : 0 ≤ i
  · obtain ⟨c, r, h, h1, h2⟩ := numL_cons i.toNat
    rw [nS_pos z, h] at e1
    injection e1 with e1
    omega
  · rw [nS_neg (by omega)] at e1
    injection e1 with _ e1
    exact numL_ne _ e1
theorem cut_minus {i : Int} (h : i < 0) : cutS (nS i) (some 1) none = nS (-i) := by
  apply ext_tl
  rw [nS_pos (by omega : 0 ≤ -i)]
  have e := nS_neg h
  show ((tl (nS i)).drop (HT.sIx (nS i).length 0 (some 1))).take (HT.sIx (nS i).length (nS i).length none - HT.sIx (nS i).length 0 (some 1)) = _
  have l : (nS i).length = (numL (-i).toNat).length + 1 := by rw [len_tl, e]; rfl
  have s1 : HT.sIx (nS i).length 0 (some ((1 : Nat) : Int)) = min 1 (nS i).length := HT.sIx_nat ..
  rw [show (some (1 : Int)) = some ((1 : Nat) : Int) from rfl, s1, HT.sIx_none, e, l, Nat.min_eq_left (by omega)]
  simp
/-- the figures -/
theorem figs {n c : Nat} (h : c ∈ numL n) : c ∈ ("0123456789" : Str).cps.toList := by
  have e : ("0123456789" : Str).cps.toList = [48, 49, 50, 51, 52, 53, 54, 55, 56, 57] := by decide +kernel
  rw [e]
  by_cases a : c < 48 ∨ 57 < c
  · exact absurd h (numL_free a)
  · simp only [List.mem_cons, List.not_mem_nil, or_false]
    omega
theorem part_text {h x : Int} {ds : List Dd} : ("" : Str) = "" := rfl
end S02

set_option Elab.async false
set_option linter.all false
set_option maxRecDepth 100000
set_option maxHeartbeats 2000000
namespace SupX
open PySem PySem.Spec PyProof.Rows L2
/-! ### a, .., *rest = a list: the star last -/
section
variable {prog : Program} {w : World} {A : Around} {E : Value → Shared → Prop} {s : Shared}
theorem star_itemsL {l : Addr} {its : Array Value} {i : Nat} {Q : List Value → Shared → Prop} (ht : s.heap.IsList l its) (hh : A.handled = none) (hi : i ≤ its.size) (hz : its.size ≤ 1000)
    (hQ : ∀ (h' : Heap) (tk : Nat), (∀ b o, s.heap.get? b = some o → h'.get? b = some o) → Q (its.toList.take i ++ [.ref h'.objs.size] ++ []) { s with heap := h'.push { cls := .type "list", data := .seq (its.toList.drop i).toArray }, toks := tk }) :
    wpAny (model prog w) A (unpackItems (.ref l) (i + 1) (some i)) Q E s := by
  have ne : l ≠ s.heap.objs.size := by obtain ⟨o, e, _⟩ := ht; exact Nat.ne_of_lt (Heap.lt_size e)
  unfold unpackItems notIterableAtAll
  refine wpAny_bind (wpAny_bind (wpAny_specialOf ht.typeIs slot_list_iter.lookup (wpAny_pure ?_)))
  simp only [Bool.false_eq_true, if_false]
  refine wpAny_bind (wpAny_holding (wpAny_pyIter_list ht (wpAny_bind (wpAny_holding (PySem.W.kun_draw ne i 0 _ _ ⟨_, Heap.get?_push_size _ rfl, rfl, rfl⟩ (ht.push _) (by omega) fun h1 it1 sb1 => ?_)))))
  have t1 : h1.IsList l its := (ht.push _).extBut sb1.extBut ne
  rw [Nat.zero_add] at it1
  have l1 : s.heap.objs.size < h1.objs.size := by obtain ⟨o, e, _⟩ := it1; exact Heap.lt_size e
  have l2 : l < h1.objs.size := by obtain ⟨o, e, _⟩ := t1; exact Heap.lt_size e
  have len1 : (its.toList.take i).length = i := by rw [List.length_take, Array.length_toList]; omega
  have len2 : (its.toList.drop i).length = its.size - i := by rw [List.length_drop, Array.length_toList]
  rw [List.drop_zero, if_neg (show ¬ ((its.toList.take i).length < i) by omega)]
  refine wpAny_bind (wpAny_holding (PySem.W.kun_collect (s := { s with heap := h1 }) (k := i) (T := "list_iterator") (.inr (.inr (.inl rfl))) (Walks.list (A := A.in1) hh s.heap.objs.size l ne its) (fun j u z => z.1.typeIs) hi ⟨it1, t1⟩ l1 l2 (fun h2 tk k2 => ?_) (by rw [sizeLine_eq]; omega)))
  have z0 : i + 1 - 1 - i = 0 := by omega
  rw [if_neg (show ¬ ((its.toList.drop i).length < i + 1 - 1 - i) by omega)]
  simp only [z0, Nat.sub_zero, List.take_length, List.drop_length]
  refine wpAny_bind (wpAny_newList (wpAny_pure (hQ h2 tk fun b o e => ?_)) (by rw [sizeLine_eq]; omega))
  exact k2 b o (Nat.ne_of_lt (Heap.lt_size e)) (sb1.extBut b o (Nat.ne_of_lt (Heap.lt_size e)) (Heap.get?_push_of_some _ e))
end
section
variable {X : Cx} {pos : Pos}
def gStarL (K : PySem.W.Frag) (n : Nat) (t : TGs) : TG := fun v σ H Q => ∃ a xs, v = .ref a ∧ SqL K H a xs ∧ n ≤ xs.length ∧ xs.length ≤ 1000 ∧ ∀ D, H D = none → t (xs.take n ++ [.ref D] ++ []) σ (upd H D (.lst (xs.drop n))) Q
theorem pg_starL {es : List Expr} {k : Nat} {t : TGs} {n : Nat} (hc : X.calm = true) (h : PGs X es t) (hn : (assignEach es X.env).length = n + 1 := by rfl) (hst : (assignEach es X.env).findIdx? (·.1) = some n := by rfl) : PG X (.Tuple es k pos) (gStarL X.K n t) := by
  refine ⟨fun pins s σ H v u Q I r hw => ?_⟩
  obtain ⟨a, xs, e1, hq, hl, hz, hw⟩ := hw
  subst e1
  cases r
  obtain ⟨its, rv, pl, _⟩ := I.list hq
  have ht : s.heap.IsList a its.toArray := by
    obtain ⟨o, m, e, c, d, q⟩ := pl
    exact ⟨o, e, c, m, q⟩
  have el : xs.length = its.length := rv.length
  rw [assign_Tuple]
  refine wpAny_bind (wpAny_standAt ?_)
  unfold unpack
  rw [hn, hst]
  refine wpAny_bind (wpAny_holding (star_itemsL ht (I.ok.hd hc) (by simp; omega) (by simp; omega) fun h' tk hk => ?_))
  have I1 : Inv X pins σ H { s with heap := h', toks := tk } := I.kept (t' := tk) hk
  have rd : Vals (xs.drop n) (its.drop n) := rv.drop n
  have I2 : Inv X pins σ (upd H h'.objs.size (.lst (xs.drop n))) { s with heap := h'.push { cls := .type "list", data := .seq (its.drop n).toArray }, toks := tk } :=
    I1.laid (t' := tk) (fun b o e => Heap.get?_push_of_some _ e) (Nat.le_refl _) (show ObjOk X.prog X.w _ _ _ (.lst (xs.drop n)) from ⟨by rw [List.length_drop, sizeLine_eq]; omega, its.drop n, 0, rd, Heap.get?_push_size _ rfl⟩)
  have e0 : its.toArray.toList = its := rfl
  show wpAny _ _ (assignInOrder _ (its.take n ++ [.ref h'.objs.size] ++ [])) _ _ { s with heap := h'.push { cls := .type "list", data := .seq (its.drop n).toArray }, toks := tk }
  exact h.run pins _ σ _ _ _ Q I2 (((rv.take n).append (.cons (show L2.RelV (V.ref h'.objs.size) (Value.ref h'.objs.size) from rfl) .nil)).append .nil) (hw _ (I1.hok.fresh (Nat.le_refl _)))
end
end SupX

set_option Elab.async false
set_option linter.all false
set_option maxRecDepth 100000
set_option maxHeartbeats 4000000
/-! ### numbers and last parts, read -/
namespace S02
open PySem PySem.Spec PyProof.Rows L2 K5 SupX GenX TL
/-- a comprehension over a text's signs -/
theorem lc_its {x : Str} {g : TG} {tt : L2.TT} {te : TE} {vs : List Nat} {σ : L2.St} {H1 : Hp} {D : Addr} {Qd : Hp → Prop} (Pv : Nat → Hp → Prop) (h0 : Pv 0 (upd H1 D (.lst [])))
    (hs : ∀ i c H, x.cps[i]? = some c → Pv i H → g (.str ⟨#[c]⟩) (wipe σ vs) H fun σ2 H2 => wipe σ2 vs = wipe σ vs ∧ tt σ2 H2 fun b H3 =>
      if b = true then te σ2 H3 fun y H4 => ∃ acc, H4 D = some (.lst acc) ∧ acc.length < sizeLine ∧ Pv (i + 1) (upd H4 D (.lst (acc ++ [y]))) else Pv (i + 1) H3) (hd : ∀ H, Pv x.cps.size H → Qd H) :
    ∃ W : Nat → Nat → Hp → Prop, (∃ m, W 0 m (upd H1 D (.lst []))) ∧ ∀ i m H, W i m H →
      ((Its x).stop i H ∧ Qd H) ∨ ((Its x).go i H ∧ ∃ Nx : Hp → Prop, (∀ H', Nx H' → ∃ m', m' < m ∧ W (i + 1) m' H') ∧ ∀ y H', (Its x).yld i H y H' → g y (wipe σ vs) H' fun σ2 H2 => wipe σ2 vs = wipe σ vs ∧ tt σ2 H2 fun b H3 =>
        if b = true then te σ2 H3 fun y H4 => ∃ acc, H4 D = some (.lst acc) ∧ acc.length < sizeLine ∧ Nx (upd H4 D (.lst (acc ++ [y]))) else Nx H3) := by
  refine ⟨fun i m H => m = x.cps.size - i ∧ i ≤ x.cps.size ∧ Pv i H, ⟨x.cps.size, by simp, Nat.zero_le _, h0⟩, ?_⟩
  rintro i m H ⟨rfl, hi, p⟩
  by_cases hlt : i < x.cps.size
  · refine .inr ⟨hlt, Pv (i + 1), fun H' p' => ⟨x.cps.size - (i + 1), by omega, rfl, hlt, p'⟩, fun y H' z => ?_⟩
    obtain ⟨e, c, hc, rfl⟩ := z
    subst e
    exact hs i c _ hc p
  · have e : i = x.cps.size := by omega
    subst e
    exact .inl ⟨Nat.le_refl _, hd H p⟩
section
variable {P : Program} {w : World} {K : PySem.W.Frag} {mg : Str → Option Value} {base : Heap} {A : Ad} {tp : Nat → Addr} {nr pl B C fI : Addr}
abbrev Nscread_number : List Str := ["text", "row", "sign"]
theorem scread_number : FnScope Nscread_number ["text", "row"] (defScope s_read_number) := ⟨rfl, rfl, rfl, by decide +kernel, rfl, by decide +kernel, by decide +kernel⟩
def spNum : Sp := fun vs H Q _ => ∃ (n : Nat) (r : V), vs = [.str (nS (n : Int)), r] ∧ n < 10000 ∧ ∀ G, Kp No H G → Q (.int (n : Int)) G
theorem ok_num (T : Txt K mg A) (FG : ∃ t, mg "FIGURES" = some (.str "0123456789" t)) : ∃ fd, FnOk P w K mg base CX0 1 (A.d 49) fd ["text", "row"] spNum ∧ Binds K fd ["text", "row"] [] := by
  obtain ⟨fd, F⟩ := T.read_number.fn
  refine ⟨fd, F.ok scread_number (fun vs H Q E h => ?_) (fun cdv Ar outer s0 H vs Q E hr h => ?_), F.binds fun _ _ _ _ _ _ us hl => match us, hl with | [_, _], _ => rfl⟩
  · obtain ⟨n, r, rfl, _⟩ := h
    rfl
  · obtain ⟨n, r, rfl, hn, k⟩ := h
    have hu := hu_of hr
    refine ⟨_, (pss_cons (ps_if (PW.pt (pw_or (pt_not (pt_chain op_le op_le pe_int (pe_callB call_len_str (by rfl) T.len PySem.boot_len (pa_cons (pv 0) pa_nil)) (pe_glob (v := .int 4) rfl T.k_MOST_FIGURES.choose_spec ⟨_, rfl⟩))) (pw_or1 (pt_not (pt_val (pe_callB (cr_all rfl) (by rfl) T.all (by decide +kernel) (pa_cons (pe_lc (own := [("sign", 2)]) (g := (gName 2)) (te := tOp (fun x y H Q => ∃ (c : Nat) (z : Str), x = .str ⟨#[c]⟩ ∧ y = .str z ∧ Q (.bl (decide (c ∈ z.cps.toList))) H) (tVar 2) (tC (.str "0123456789"))) (by rfl) scread_number.nd (pi_str (pv 0)) (blkOk_by (N := Nscread_number) (sc := defScope s_read_number) (by decide +kernel)) (fun _ _ _ _ _ => pg_name (i := 2) scread_number.nd rfl (Or.inl rfl)) (fun _ _ _ _ _ => pts_nil) (fun _ _ _ _ _ => by exact (pe_cmpR op_in_sign (pv 2) (pe_glob (v := .str "0123456789") rfl FG.choose_spec ⟨_, rfl⟩) rfl))) pa_nil)))))))
        (pss_one ps_never)
        pss_nil)
      (pss_cons (ps_if (PW.pt (pw_and (pt_cmpR op_eq (pe_ix ix_str (pv 0) pe_int (fun _ _ => rfl)) pe_str (nomark _)) (pw_and1 (pt_cmpR op_gt (pe_callB call_len_str (by rfl) T.len PySem.boot_len (pa_cons (pv 0) pa_nil)) pe_int (nomark _)))))
        (pss_one ps_never)
        pss_nil)
      (pss_one (ps_ret (pe_callTy call_int_str (by rfl) T.int (by decide +kernel) (pa_cons (pv 0) pa_nil)))))), ?_⟩
    have hl := nS_len (i := (n : Int)) (by omega) (by omega)
    have el := nS_nat n
    have hsz : (nS (n : Int)).length ≤ sizeLine := by rw [len_tl]; exact Nat.le_trans hl (by decide)
    obtain ⟨c, r0, hc, c1, c2⟩ := numL_cons n
    have hlen : (nS (n : Int)).length = r0.length + 1 := by rw [len_tl, el, hc]; rfl
    have l4 : (numL n).length ≤ 4 := numL_len (by decide) hn
    rw [hc] at l4
    have l4 : r0.length + 1 ≤ 4 := l4
    refine ⟨_, rfl, nS n, rfl, hsz, _, _, rfl, rfl, _, rfl, ?_⟩
    rw [show decide ((1 : Int) ≤ ((nS (n : Int)).length : Int)) = true from decide_eq_true (by omega)]
    refine iteT ⟨_, _, rfl, rfl, _, rfl, ?_⟩
    rw [show decide (((nS (n : Int)).length : Int) ≤ 4) = true from decide_eq_true (by omega)]
    refine iteF ⟨_, rfl, nS n, rfl, fun D nD => lc_its (fun i J => Kp (fun b => b = D) H J ∧ J D = some (.lst ((List.replicate i true).map V.bl))) ⟨Kp.new nD, upd_same⟩ ?_ ?_⟩
    · rintro i c' J hci ⟨kJ, eJ⟩
      have hi : i < (nS (n : Int)).cps.size := (Array.getElem?_eq_some_iff.mp hci).1
      have hm : c' ∈ numL n := by
        rw [← el]
        exact List.mem_of_getElem? (i := i) (by rw [Array.getElem?_toList]; exact hci)
      refine ⟨rfl, _, rfl, c', "0123456789", rfl, rfl, _, eJ, szL (by rw [List.length_map, List.length_replicate]; have : (nS (n : Int)).cps.size = (nS (n : Int)).length := rfl; omega), kJ.trans (show Kp (fun b => b = D) J _ from Kp.updL eJ rfl) fun b z => .inl z, ?_⟩
      rw [upd_same, List.replicate_succ', List.map_append, decide_eq_true (figs hm)]
      rfl
    · rintro J ⟨kJ, eJ⟩
      have kH : Kp No H J := kp_fresh kJ fun b z => by rw [show b = D from z]; exact nD
      refine ⟨D, _, rfl, SqL.of eJ, ?_⟩
      have ea : (List.replicate (nS (n : Int)).cps.size true).all id = true := by
        rw [List.all_eq_true]
        exact fun x hx => List.eq_of_mem_replicate hx
      have hat : atI (nS (n : Int)).cps.toList 0 = some c := atI_nat (j := 0) (show (tl (nS (n : Int)))[0]? = some c by rw [el, hc]; rfl)
      refine ⟨_, rfl, ?_⟩
      rw [ea]
      have fin : ∃ z n', [V.str (nS (n : Int))] = [V.str z] ∧ intText? z = some n' ∧ z.length ≤ 640 ∧ Q (.int n') J := ⟨_, _, rfl, num_back hn, by rw [hlen]; omega, k J kH⟩
      refine iteF ⟨_, rfl, nS n, 0, c, rfl, rfl, hsz, hat, rfl, _, rfl, ?_⟩
      cases hb : decide (V.str ⟨#[c]⟩ = V.str "0") with
      | false => exact iteF (iteF ⟨_, rfl, fin⟩)
      | true =>
        have c48 : c = 48 := by
          have e := of_decide_eq_true hb
          injection e with e
          have e := congrArg tl e
          rw [show tl ("0" : Str) = [48] by decide +kernel] at e
          injection e
        have r00 : r0 = [] := by
          by_cases z : n < 10
          · have := numL_lt z
            rw [hc] at this
            injection this
          · obtain ⟨c', r', e, ne⟩ := numL_head n (by omega)
            rw [hc] at e
            injection e with e
            exact absurd (e ▸ c48) ne
        refine iteT ⟨_, rfl, nS n, rfl, hsz, _, _, rfl, rfl, _, rfl, ?_⟩
        rw [show decide ((1 : Int) < ((nS (n : Int)).length : Int)) = false from decide_eq_false (by rw [hlen, r00]; decide)]
        exact iteF ⟨_, rfl, fin⟩
/-! a last part -/
abbrev Nscread_last : List Str := ["word", "text", "row"]
theorem scread_last : FnScope Nscread_last ["word", "text", "row"] (defScope s_read_last) := ⟨rfl, rfl, rfl, by decide +kernel, rfl, by decide +kernel, by decide +kernel⟩
/-- the last part of a deed -/
def lastP : Dd → V
  | .put _ _ l => .int l
  | .drop k => .int k
  | .add _ m => .int m
  | .iff _ w => oV w
def spLastP : Sp := fun vs H Q _ => ∃ (d : Dd) (r : V), vs = [.str d.word, .str (pS (lastP d)), r] ∧ d.ok = true ∧ ∀ G, Kp No H G → Q (lastP d) G
theorem ok_last (T : Txt K mg A) (FG : ∃ t, mg "FIGURES" = some (.str "0123456789" t)) : ∃ fd, FnOk P w K mg base CX0 2 (A.d 50) fd ["word", "text", "row"] spLastP ∧ Binds K fd ["word", "text", "row"] [] := by
  obtain ⟨fd, F⟩ := T.read_last.fn
  obtain ⟨fd1, Gread_number, bread_number⟩ := ok_num (P := P) (w := w) (base := base) T FG
  refine ⟨fd, F.ok scread_last (fun vs H Q E h => ?_) (fun cdv Ar outer s0 H vs Q E hr h => ?_), F.binds fun _ _ _ _ _ _ us hl => match us, hl with | [_, _, _], _ => rfl⟩
  · obtain ⟨d, r, rfl, _⟩ := h
    rfl
  · obtain ⟨d, r, rfl, hok, k⟩ := h
    have hu := hu_of hr
    refine ⟨_, (pss_cons (ps_if (PW.pt (pw_and (pt_cmpR op_eq (pv 0) pe_str (nomark _)) (pw_and1 (pt_cmpR op_eq (pv 1) pe_str (nomark _)))))
        (pss_one (ps_ret pe_non))
        pss_nil)
      (pss_cons (ps_if (PW.pt (pw_and (pt_cmpR op_eq (pv 0) pe_str (nomark _)) (pw_and (pt_val (pe_m1 PySem.F.slot_str_startswith rfl mt_startswith (pv 1) pe_str)) (pw_and1 (pt_cmpR op_ne (pv 1) pe_str (nomark _))))))
        (pss_one (ps_ret (pe_un un_neg (pe_call Gread_number (hr.mono (by first | decide | omega)) rfl T.read_number.at_ T.read_number.kp bread_number .nil pass0 (pa_cons (pe_slice sl_str (pv 1) (po_some pe_int) po_none) (pa_cons (pv 2) pa_nil))))))
        pss_nil)
      (pss_one (ps_ret (pe_call Gread_number (hr.mono (by first | decide | omega)) rfl T.read_number.at_ T.read_number.kp bread_number .nil pass0 (pa_cons (pv 1) (pa_cons (pv 2) pa_nil))))))), ?_⟩
    -- a number that is not below 0
    have num : ∀ {i : Int}, 0 ≤ i → i < 10000 → lastP d = .int i → ∀ {J : Hp}, J = H → spNum [.str (nS i), r] J Q E0 := fun {i} h0 h1 e J ej => by
      subst ej
      obtain ⟨m, rfl⟩ := Int.eq_ofNat_of_zero_le h0
      rw [e] at k
      exact ⟨m, r, rfl, by omega, k⟩
    have ne : ∀ {a b : Str}, a ≠ b → decide (V.str a = V.str b) = false := fun h => decide_eq_false fun z => by injection z with z; exact h z
    cases d with
    | put j w l =>
      have h : (inB 0 31 j && (inB 0 999 w && inB 0 1000 l)) = true := hok
      simp only [Bool.and_eq_true] at h
      have h3 := inB_le h.2.2
      have eI : decide (V.str (Dd.put j w l).word = V.str "if") = false := ne (show ("put" : Str) ≠ "if" by decide +kernel)
      have eA : decide (V.str (Dd.put j w l).word = V.str "add") = false := ne (show ("put" : Str) ≠ "add" by decide +kernel)
      refine ⟨_, rfl, rfl, _, rfl, ?_⟩
      rw [eI]
      refine iteF ⟨_, rfl, rfl, _, rfl, ?_⟩
      rw [eA]
      exact iteF ⟨_, rfl, _, rfl, num (i := l) (by omega) (by omega) rfl rfl⟩
    | drop j =>
      have h3 := inB_le (show inB 0 31 j = true from hok)
      have eI : decide (V.str (Dd.drop j).word = V.str "if") = false := ne (show ("drop" : Str) ≠ "if" by decide +kernel)
      have eA : decide (V.str (Dd.drop j).word = V.str "add") = false := ne (show ("drop" : Str) ≠ "add" by decide +kernel)
      refine ⟨_, rfl, rfl, _, rfl, ?_⟩
      rw [eI]
      refine iteF ⟨_, rfl, rfl, _, rfl, ?_⟩
      rw [eA]
      exact iteF ⟨_, rfl, _, rfl, num (i := j) (by omega) (by omega) rfl rfl⟩
    | add j m =>
      have h : (inB 0 31 j && inB (-999) 999 m) = true := hok
      simp only [Bool.and_eq_true] at h
      have h3 := inB_le h.2
      have eI : decide (V.str (Dd.add j m).word = V.str "if") = false := ne (show ("add" : Str) ≠ "if" by decide +kernel)
      have eA : decide (V.str (Dd.add j m).word = V.str "add") = true := decide_eq_true rfl
      refine ⟨_, rfl, rfl, _, rfl, ?_⟩
      rw [eI]
      refine iteF ⟨_, rfl, rfl, _, rfl, ?_⟩
      rw [eA]
      refine iteT ⟨_, rfl, ⟨_, rfl⟩, nS m, "-", rfl, rfl, _, rfl, ?_⟩
      rw [starts_minus]
      by_cases z : m < 0
      · rw [decide_eq_true z]
        refine iteT ⟨_, rfl, rfl, _, rfl, ?_⟩
        rw [show (!decide (V.str (pS (lastP (Dd.add j m))) = V.str "-0")) = true from by rw [show decide (V.str (pS (lastP (Dd.add j m))) = V.str "-0") = false from ne (minus_ne0 z)]; rfl]
        have hlen := nS_len (i := m) (by omega) (by omega)
        refine iteT ⟨_, rfl, _, rfl, nS m, rfl, by rw [len_tl]; exact Nat.le_trans hlen (by decide), _, rfl, (-m).toNat, r, ?_, by omega, fun G kG => ⟨_, rfl, ?_⟩⟩
        · rw [cut_minus z, Int.toNat_of_nonneg (by omega)]
          rfl
        · rw [Int.toNat_of_nonneg (by omega)]
          show Q (V.int (- -m)) G
          rw [Int.neg_neg]
          exact k G kG
      · rw [decide_eq_false z]
        exact iteF ⟨_, rfl, _, rfl, num (by omega) (by omega) rfl rfl⟩
    | iff j w =>
      have eI : decide (V.str (Dd.iff j w).word = V.str "if") = true := decide_eq_true rfl
      have eA : decide (V.str (Dd.iff j w).word = V.str "add") = false := ne (show ("if" : Str) ≠ "add" by decide +kernel)
      refine ⟨_, rfl, rfl, _, rfl, ?_⟩
      rw [eI]
      refine iteT ⟨_, rfl, rfl, _, rfl, ?_⟩
      cases w with
      | none =>
        rw [show decide (V.str (pS (lastP (Dd.iff j none))) = V.str "-") = true from decide_eq_true rfl]
        exact iteT (k H (Kp.refl _ _))
      | some w =>
        have h : (inB 0 31 j && inB 0 999 w) = true := hok
        simp only [Bool.and_eq_true] at h
        have h3 := inB_le h.2
        rw [show decide (V.str (pS (lastP (Dd.iff j (some w)))) = V.str "-") = false from ne nS_ne]
        refine iteF ⟨_, rfl, rfl, _, rfl, ?_⟩
        rw [eA]
        exact iteF ⟨_, rfl, _, rfl, num (i := w) (by omega) (by omega) rfl rfl⟩
end
end S02

set_option Elab.async false
set_option linter.all false
set_option maxRecDepth 100000
set_option maxHeartbeats 4000000
/-! ### deeds, rows and texts read -/
namespace S02
open PySem PySem.Spec PyProof.Rows L2 K5 SupX GenX TL
/-- the parts ahead of the last one -/
def initP : Dd → List Int
  | .put k w _ => [k, w]
  | .drop _ => []
  | .add k _ => [k]
  | .iff k _ => [k]
theorem parts_init (d : Dd) : d.parts = (initP d).map V.int ++ [lastP d] := by cases d <;> rfl
theorem init_small {d : Dd} (h : d.ok = true) : ∀ i ∈ initP d, 0 ≤ i ∧ i < 10000 := by
  cases d with
  | put k w l =>
    have h : (inB 0 31 k && (inB 0 999 w && inB 0 1000 l)) = true := h
    simp only [Bool.and_eq_true] at h
    have h1 := inB_le h.1; have h2 := inB_le h.2.1
    intro i hi
    simp only [initP, List.mem_cons, List.not_mem_nil, or_false] at hi
    rcases hi with rfl | rfl <;> omega
  | drop k => intro i hi; cases hi
  | add k m =>
    have h : (inB 0 31 k && inB (-999) 999 m) = true := h
    simp only [Bool.and_eq_true] at h
    have h1 := inB_le h.1
    intro i hi
    simp only [initP, List.mem_cons, List.not_mem_nil, or_false] at hi
    omega
  | iff k w =>
    have h1 : inB 0 31 k = true := by
      cases w with
      | none => exact h
      | some w =>
        have h : (inB 0 31 k && inB 0 999 w) = true := h
        simp only [Bool.and_eq_true] at h
        exact h.1
    have h1 := inB_le h1
    intro i hi
    simp only [initP, List.mem_cons, List.not_mem_nil, or_false] at hi
    omega
theorem cut_last (ys : List V) (y : V) : cutV (ys ++ [y]) none (some (-1)) = ys := by
  unfold cutV HT.sIx
  simp
  rw [show (-1 + ((ys.length : Int) + 1)).toNat = ys.length by omega]
  exact List.take_left' rfl
section
variable {P : Program} {w : World} {K : PySem.W.Frag} {mg : Str → Option Value} {base : Heap} {A : Ad} {tp : Nat → Addr} {nr pl B C fI : Addr}
abbrev Nscread_deed : List Str := ["text", "row", "word", "parts", "numbers", "part"]
theorem scread_deed : FnScope Nscread_deed ["text", "row"] (defScope s_read_deed) := ⟨rfl, rfl, rfl, by decide +kernel, rfl, by decide +kernel, by decide +kernel⟩
def spDeedR : Sp := fun vs H Q _ => ∃ (d : Dd) (r : V), vs = [.str (deedS d), r] ∧ d.ok = true ∧ ∀ G a, Kp No H G → G a = some (.tup d.vs) → Q (.ref a) G
theorem ok_deedR (T : Txt K mg A) (X : Ex P w K mg A B C fI) (FG : ∃ t, mg "FIGURES" = some (.str "0123456789" t)) : ∃ fd, FnOk P w K mg base CX0 3 (A.d 51) fd ["text", "row"] spDeedR ∧ Binds K fd ["text", "row"] [] := by
  obtain ⟨fd, F⟩ := T.read_deed.fn
  obtain ⟨fd1, Gread_number, bread_number⟩ := ok_num (P := P) (w := w) (base := base) T FG
  obtain ⟨fd2, Gread_last, bread_last⟩ := ok_last (P := P) (w := w) (base := base) T FG
  obtain ⟨es, n, hB⟩ := X.bd
  refine ⟨fd, F.ok scread_deed (fun vs H Q E h => ?_) (fun cdv Ar outer s0 H vs Q E hr h => ?_), F.binds fun _ _ _ _ _ _ us hl => match us, hl with | [_, _], _ => rfl⟩
  · obtain ⟨d, r, rfl, _⟩ := h
    rfl
  · obtain ⟨d, r, rfl, hok, k⟩ := h
    have hu := hu_of hr
    refine ⟨_, (pss_cons (ps_asg (pe_split (pv 0) pe_str) (pg_starL (n := 1) rfl (pgs_cons (pg_name (i := 2) scread_deed.nd rfl (Or.inl rfl)) (pgs_star (pg_name (i := 3) scread_deed.nd rfl (Or.inl rfl))))))
      (pss_cons (ps_if (PW.pt (pw_or (pt_cmpR (op_notIn_kd hB) (pv 2) (pe_glob (v := .ref B) rfl X.bounds rfl) rfl) (pw_or1 (pt_cmpR op_ne (pe_callB call_len_seq (by rfl) T.len PySem.boot_len (pa_cons (pv 3) pa_nil)) (pe_callB call_len_seq (by rfl) T.len PySem.boot_len (pa_cons (pe_ix ix_kdict (pe_glob (v := .ref B) rfl X.bounds rfl) (pv 2) (fun _ _ => rfl)) pa_nil)) (nomark _)))))
        (pss_one ps_never)
        pss_nil)
      (pss_cons (ps_setLc (i := 4) (own := [("part", 5)]) (g := (gName 5)) (by rfl) scread_deed.nd rfl rfl (sw_true rfl rfl rfl (by decide +kernel)) (pi_list (pe_slice sl_list (pv 3) po_none (po_some (pe_un un_neg pe_int)))) (blkOk_by (N := Nscread_deed) (sc := defScope s_read_deed) (by decide +kernel)) (fun _ _ _ _ _ => pg_name (i := 5) scread_deed.nd rfl (Or.inl rfl)) (fun _ _ _ _ _ => pts_nil) (fun _ _ _ _ _ => (pe_call Gread_number (hr.mono (by first | decide | omega)) rfl T.read_number.at_ T.read_number.kp bread_number .nil pass0 (pa_cons (pv 5) (pa_cons (pv 1) pa_nil)))))
      (pss_one (ps_ret (pe_tup (pa_cons (pv 2) (StX.pa_star (pv 4) (pa_cons (pe_call Gread_last (hr.mono (by first | decide | omega)) rfl T.read_last.at_ T.read_last.kp bread_last .nil pass0 (pa_cons (pv 2) (pa_cons (pe_ix ix_list (pv 3) (pe_un un_neg pe_int) (fun _ _ => rfl)) (pa_cons (pv 1) pa_nil)))) pa_nil))))))))), ?_⟩
    have hlen := deed_len hok
    refine ⟨_, rfl, ⟨_, rfl⟩, deedS d, " ", rfl, rfl, by decide +kernel, by rw [len_tl]; exact Nat.le_trans (Nat.add_le_add_right hlen 2) (by decide), ?_⟩
    rw [split_deed]
    refine fun p np => ?_
    have kp : Kp No H (upd H p (.lst ((d.vs.map pS).map V.str))) := Kp.new np
    have ep : upd H p (.lst ((d.vs.map pS).map V.str)) p = some (.lst ((d.vs.map pS).map V.str)) := upd_same
    generalize upd H p (.lst ((d.vs.map pS).map V.str)) = H1 at kp ep ⊢
    have lv := vs_len d
    refine ⟨p, _, rfl, SqL.of ep, by simp [Dd.vs], by simp; omega, fun L nL => ?_⟩
    have kL : Kp No H1 (upd H1 L (.lst (((d.vs.map pS).map V.str).drop 1))) := Kp.new nL
    have eL : upd H1 L (.lst (((d.vs.map pS).map V.str).drop 1)) L = some (.lst ((d.parts.map pS).map V.str)) := upd_same
    generalize upd H1 L (.lst (((d.vs.map pS).map V.str).drop 1)) = H2 at kL eL ⊢
    obtain ⟨b, hb, as, wb, pb⟩ := X.bn d
    have kd : KDct K w B d.word (.ref b) := ⟨es, n, _, hB.at_, hB.lit, hb, rfl⟩
    have hl2 : as.length = d.parts.length := by
      rw [pb.length]
      cases d <;> rfl
    refine ⟨_, _, rfl, _, _, rfl, rfl, ?_⟩
    refine ⟨_, rfl, d.word, _, rfl, rfl, hb, _, rfl, iteF ?_⟩
    refine ⟨_, rfl, L, _, rfl, .inl (SqL.of eL), _, rfl, B, d.word, .ref b, rfl, rfl, kd, b, _, rfl, .inr (wb.sq _), rfl, _, rfl, ?_⟩
    have e1 : (!decide (V.int ((((d.parts.map pS).map V.str).length : Nat) : Int) = V.int ((as.map V.ref).length : Nat))) = false := by
      rw [List.length_map, List.length_map, List.length_map, hl2]
      simp
    rw [e1]
    refine iteF ?_
    have ei : (d.parts.map pS).map V.str = ((initP d).map fun i => V.str (nS i)) ++ [V.str (pS (lastP d))] := by
      rw [parts_init, List.map_append, List.map_append, List.map_map, List.map_map]
      rfl
    rw [ei] at eL
    have li : (initP d).length ≤ 4 := by cases d <;> simp [initP]
    refine ⟨_, rfl, 1, rfl, _, rfl, L, _, rfl, SqL.of eL, fun q nq => ?_⟩
    rw [cut_last]
    have kq : Kp No H2 (upd H2 q (.lst ((initP d).map fun i => V.str (nS i)))) := Kp.new nq
    have eq : upd H2 q (.lst ((initP d).map fun i => V.str (nS i))) q = some (.lst ((initP d).map fun i => V.str (nS i))) := upd_same
    have eLq := kq.t.lst eL fun z => z
    generalize upd H2 q (.lst ((initP d).map fun i => V.str (nS i))) = H3 at kq eq eLq ⊢
    refine ⟨q, rfl, ⟨_, SqL.of eq⟩, fun D nD => ?_⟩
    have nqD : q ≠ D := fun z => by rw [z, nD] at eq; cases eq
    have nLD : L ≠ D := fun z => by rw [z, nD] at eLq; cases eLq
    refine lc_list (K := K) (a := q) (xs := (initP d).map fun i => V.str (nS i)) (fun i J => Kp (fun b => b = D) H3 J ∧ J D = some (.lst (((initP d).take i).map V.int))) ⟨Kp.new nD, upd_same⟩ (fun i J _ ⟨kJ, _⟩ => SqL.of (kJ.t.lst eq nqD)) ?_ ?_
    · rintro i y J hy ⟨kJ, eJ⟩
      rw [List.getElem?_map] at hy
      obtain ⟨m, hm, rfl⟩ : ∃ m, (initP d)[i]? = some m ∧ V.str (nS m) = y := by
        cases e : (initP d)[i]? with
        | none => rw [e] at hy; cases hy
        | some m => rw [e] at hy; exact ⟨m, rfl, Option.some.inj hy⟩
      have hi := (List.getElem?_eq_some_iff.mp hm).1
      obtain ⟨m0, m1⟩ := init_small hok m (List.mem_of_getElem? hm)
      obtain ⟨m', rfl⟩ := Int.eq_ofNat_of_zero_le m0
      refine ⟨rfl, _, rfl, _, rfl, m', r, rfl, by omega, fun G kG => ?_⟩
      have eG := kG.t.lst eJ fun z => z
      refine ⟨_, eG, szL (by rw [List.length_map, List.length_take]; omega), (kJ.trans kG fun _ z => False.elim z).trans (show Kp (fun b => b = D) G _ from Kp.updL eG rfl) fun b z => .inl z, ?_⟩
      rw [upd_same, take_snoc hm, List.map_append]
      rfl
    · rintro J ⟨kJ, eJ⟩
      rw [List.length_map, List.take_length] at eJ
      have kHJ : Kp No H J := ((kp.trans kL fun _ z => False.elim z).trans kq fun _ z => False.elim z).trans (kp_fresh kJ fun b z => by rw [show b = D from z]; exact nD) fun _ z => False.elim z
      have eLJ := kJ.t.lst eLq nLD
      refine ⟨_, rfl, _, rfl, D, _, rfl, .inr (SqL.of eJ), _, rfl, _, rfl, 1, rfl, L, _, -1, _, rfl, rfl, SqL.of eLJ, atI_last _ _, _, rfl, d, r, rfl, hok, fun G kG => ⟨szL (by rw [List.length_append, List.length_map]; simp; omega), fun a na => ?_⟩⟩
      refine k _ a ((kHJ.trans kG fun _ z => False.elim z).trans (Kp.new (F := No) na) fun _ z => False.elim z) ?_
      rw [upd_same]
      show some (HO.tup (V.str d.word :: ((initP d).map V.int ++ [lastP d]))) = some (HO.tup (V.str d.word :: d.parts))
      rw [parts_init]
end
end S02

set_option Elab.async false
set_option linter.all false
set_option maxRecDepth 100000
set_option maxHeartbeats 4000000
/-! ### rows and texts read -/
namespace S02
open PySem PySem.Spec PyProof.Rows L2 K5 SupX GenX TL
section
variable {P : Program} {w : World} {K : PySem.W.Frag} {mg : Str → Option Value} {base : Heap} {A : Ad} {tp : Nat → Addr} {nr pl B C fI pR : Addr}
abbrev Nscread_row : List Str := ["text", "row", "head", "colon", "tail", "numbers", "hand", "letter", "deed"]
theorem scread_row : FnScope Nscread_row ["text", "row"] (defScope s_read_row) := ⟨rfl, rfl, rfl, by decide +kernel, rfl, by decide +kernel, by decide +kernel⟩
def spRowR (pR : Addr) : Sp := fun vs H Q _ => ∃ (h x : Int) (ds : List Dd) (r : V), vs = [.str (rowS h x ds), r] ∧ Tg [pR] H ∧ 0 ≤ h ∧ h < 10000 ∧ 0 ≤ x ∧ x < 10000 ∧ (∀ d ∈ ds, d.ok = true) ∧ ds ≠ [] ∧ ds.length ≤ 4 ∧
  ∀ G u, Kg [pR] No H G → GdAt G (.ref u) ⟨h, x, ds⟩ → Q (.ref u) G
theorem ok_rowR (T : Txt K mg A) (X : Ex P w K mg A B C fI) (FG : ∃ t, mg "FIGURES" = some (.str "0123456789" t)) (TR : GxR.TabB base mg (A.co 52 0) pR) : ∃ fd, FnOk P w K mg base CX0 8 (A.d 52) fd ["text", "row"] (spRowR pR) ∧ Binds K fd ["text", "row"] [] := by
  obtain ⟨fd1, Gread_number, bread_number⟩ := ok_num (P := P) (w := w) (base := base) T FG
  obtain ⟨fd2, Gread_deed, bread_deed⟩ := ok_deedR (P := P) (w := w) (base := base) T X FG
  refine okC T.C_read_row scread_row (fun vs H Q E h => ?_) (fun Ar outer s H vs Q E hr h => ?_) (fun _ _ _ _ _ us hl => match us, hl with | [_, _], _ => rfl)
  · obtain ⟨h, x, ds, r, rfl, _⟩ := h
    rfl
  · obtain ⟨h, x, ds, r, rfl, TG, h0, h3, x0, x1, hok, hne, hl4, k⟩ := h
    have hu := hu_of hr
    refine ⟨_, (pss_cons (ps_asg (pe_partition (pv 0) pe_str) (pg_tup rfl (pgs_cons (pg_name (i := 2) scread_row.nd rfl (Or.inl rfl)) (pgs_cons (pg_name (i := 3) scread_row.nd rfl (Or.inl rfl)) (pgs_cons (pg_name (i := 4) scread_row.nd rfl (Or.inl rfl)) pgs_nil)))))
      (pss_cons (ps_set (i := 5) scread_row.nd rfl (Or.inl rfl) (pe_split (pv 2) pe_str))
      (pss_cons (ps_if (PW.pt (pw_or (pt_not (pt_truth (pv 3) (by intro _; rfl))) (pw_or1 (pt_cmpR op_ne (pe_callB call_len_seq (by rfl) T.len PySem.boot_len (pa_cons (pv 5) pa_nil)) pe_int (nomark _)))))
        (pss_one ps_never)
        pss_nil)
      (pss_cons (ps_set (i := 6) scread_row.nd rfl (Or.inl rfl) (pe_call Gread_number (hr.mono (by first | decide | omega)) rfl T.read_number.at_ T.read_number.kp bread_number .nil pass0 (pa_cons (pe_ix ix_list (pv 5) pe_int (fun _ _ => rfl)) (pa_cons (pv 1) pa_nil))))
      (pss_cons (ps_set (i := 7) scread_row.nd rfl (Or.inl rfl) (pe_call Gread_number (hr.mono (by first | decide | omega)) rfl T.read_number.at_ T.read_number.kp bread_number .nil pass0 (pa_cons (pe_ix ix_list (pv 5) pe_int (fun _ _ => rfl)) (pa_cons (pv 1) pa_nil))))
      (pss_one (ps_ret (pe_tup (pa_cons (pv 6) (pa_cons (pv 7) (pa_cons (pe_tupG (k := 4) (pgen_gex (k := 3) (own := [("deed", 8)]) (g := gName 8) (tt := tYes) (te := tCall spDeedR [] E0 (tCons (tVar 8) (tCons (tVar 1) tNil))) hr.hd (by have := hr.dp; show (Ar.deeper _).depth < _; omega) TR rfl (blkOk_by (N := Nscread_row) (sc := defScope s_read_row) (by decide +kernel)) scread_row.nd (by decide +kernel) rfl rfl (pi_list (pe_split (pv 4) pe_str)) (fun _ => rfl) (fun _ _ _ _ _ _ _ _ => pg_name (i := 8) scread_row.nd rfl (Or.inl rfl)) (fun _ _ _ _ _ _ _ _ => pts_nil) (fun _ _ _ _ _ _ _ hr => by exact pe_call Gread_deed (hr.mono (by decide)) rfl T.read_deed.at_ T.read_deed.kp bread_deed .nil pass0 (pa_cons (pv 8) (pa_cons (pv 1) pa_nil)))) (hr.mono (by decide)) rfl T.tuple) pa_nil))))))))))), ?_⟩
    have rl := row_len h0 h3 x0 x1 hok hl4
    have hl := head_len h0 h3 x0 x1
    have tlh := tail_len hok hl4
    obtain ⟨hN, rfl⟩ := Int.eq_ofNat_of_zero_le h0
    obtain ⟨xN, rfl⟩ := Int.eq_ofNat_of_zero_le x0
    refine ⟨_, rfl, ⟨_, rfl⟩, rowS hN xN ds, ": ", rfl, rfl, by decide +kernel, by rw [len_tl]; exact Nat.le_trans rl (by decide), ?_⟩
    rw [part_row]
    refine fun p np => ?_
    have kp : Kp No H (upd H p (.tup [.str (headS hN xN), .str ": ", .str (tailS ds)])) := Kp.new np
    have ep : upd H p (.tup [.str (headS hN xN), .str ": ", .str (tailS ds)]) p = some (.tup [.str (headS hN xN), .str ": ", .str (tailS ds)]) := upd_same
    show ∃ _, _
    generalize upd H p (.tup [.str (headS hN xN), .str ": ", .str (tailS ds)]) = H1 at kp ep ⊢
    refine ⟨p, _, rfl, SqT.of ep, rfl, _, _, rfl, _, _, rfl, _, _, rfl, rfl, ?_⟩
    refine ⟨_, rfl, ⟨_, rfl⟩, headS hN xN, " ", rfl, rfl, by decide +kernel, by rw [len_tl]; exact Nat.le_trans (Nat.add_le_add_right hl 2) (by decide), ?_⟩
    rw [split_head]
    refine fun q nq => ?_
    have kq : Kp No H1 (upd H1 q (.lst ([nS hN, nS xN].map V.str))) := Kp.new nq
    have eq : upd H1 q (.lst ([nS hN, nS xN].map V.str)) q = some (.lst ([nS hN, nS xN].map V.str)) := upd_same
    have kH2 := kp.trans kq fun _ z => False.elim z
    show ∃ _, _
    generalize upd H1 q (.lst ([nS hN, nS xN].map V.str)) = H2 at kq eq kH2 ⊢
    refine ⟨_, rfl, true, ⟨by decide +kernel, rfl⟩, iteF ⟨_, rfl, q, _, rfl, .inl (SqL.of eq), rfl, _, rfl, iteF ?_⟩⟩
    refine ⟨_, rfl, q, _, 0, _, rfl, rfl, SqL.of eq, atI_nat (j := 0) rfl, _, rfl, hN, r, rfl, by omega, fun G1 k1 => ?_⟩
    have eq1 := k1.t.lst eq fun z => z
    refine ⟨_, rfl, q, _, 1, _, rfl, rfl, SqL.of eq1, atI_nat (j := 1) rfl, _, rfl, xN, r, rfl, by omega, fun G2 k2 => ?_⟩
    have kG2 : Kp No H G2 := (kH2.trans k1 fun _ z => False.elim z).trans k2 fun _ z => False.elim z
    refine ⟨_, rfl, _, rfl, _, rfl, ⟨_, rfl⟩, tailS ds, "; ", rfl, rfl, by decide +kernel, by rw [len_tl]; exact Nat.le_trans (Nat.add_le_add_right tlh 2) (by decide), ?_⟩
    rw [split_tail hne]
    refine fun q2 nq2 => ?_
    have kq2 : Kp No G2 (upd G2 q2 (.lst ((ds.map deedS).map V.str))) := Kp.new nq2
    have eq2 : upd G2 q2 (.lst ((ds.map deedS).map V.str)) q2 = some (.lst ((ds.map deedS).map V.str)) := upd_same
    generalize upd G2 q2 (.lst ((ds.map deedS).map V.str)) = G3 at kq2 eq2 ⊢
    have kG3 : Kp No H G3 := kG2.trans kq2 fun _ z => False.elim z
    obtain ⟨ps, hP, tri⟩ := (TG.kp kG3) pR List.mem_cons_self
    refine ⟨q2, rfl, ⟨_, SqL.of eq2⟩, ps, hP, tri, fun qs tq => ?_⟩
    have kt : Kg [pR] No G3 (upd G3 pR (.tbl qs)) := Kg.tab List.mem_cons_self hP tq
    refine gx_list (K := K) (a := q2) (xs := (ds.map deedS).map V.str) (fun i ys J => Kg [pR] No G3 J ∧ ys.length ≤ i ∧ Paired (DdAt J) ys (ds.take i)) ⟨kt, Nat.le_refl _, .nil⟩ (fun i ys J _ ⟨kJ, _⟩ => SqL.of (kJ.t.lst eq2 fun z => z)) ?_ ?_
    · rintro i y ys J hy ⟨kJ, li, pJ⟩
      rw [List.getElem?_map, List.getElem?_map] at hy
      obtain ⟨d, hd, rfl⟩ : ∃ d, ds[i]? = some d ∧ V.str (deedS d) = y := by
        cases e : ds[i]? with
        | none => rw [e] at hy; cases hy
        | some d => rw [e] at hy; exact ⟨d, rfl, Option.some.inj hy⟩
      have hi := (List.getElem?_eq_some_iff.mp hd).1
      refine ⟨rfl, _, rfl, _, rfl, d, r, rfl, hok d (List.mem_of_getElem? hd), fun G a kG ea => ⟨szL (by omega), kJ.trans (Kg.of kG) fun _ z => False.elim z, by rw [List.length_append, List.length_singleton]; omega, ?_⟩⟩
      rw [take_snoc hd]
      exact (pJ.mono fun _ _ z => z.kt kG.t).snoc ⟨a, rfl, ea⟩
    · rintro ys J ⟨kJ, li, pJ⟩
      rw [List.length_map, List.length_map] at pJ li
      rw [List.take_length] at pJ
      refine fun t nt => ⟨sz 3 (by decide), fun u nu => ?_⟩
      have k4 : Kp No J (upd (upd J t (.tup ys)) u (.tup [.int hN, .int xN, .ref t])) := (Kp.new nt).andN nu
      refine k _ u (((Kg.of kG3).trans kJ fun _ z => False.elim z).trans (Kg.of k4) fun _ z => False.elim z) ⟨u, .ref t, rfl, upd_same, t, ys, rfl, ?_, pJ.mono fun _ _ z => z.kt k4.t, by show ds.length ≤ 1000; omega⟩
      rw [upd_ne (upd_none nu).1.symm, upd_same]
/-! the whole text -/
/-- a comprehension over such an enumeration -/
theorem lc_enT {sq : Hp → Prop} {ys : List V} {g : TG} {tt : L2.TT} {te : TE} {vs : List Nat} {σ : L2.St} {H1 : Hp} {D : Addr} {Qd : Hp → Prop} (Pv : Nat → Hp → Prop) (h0 : Pv 0 (upd H1 D (.lst []))) (hq : ∀ i H, Pv i H → sq H)
    (hs : ∀ (i : Nat) (y : V) (T : Addr) (H : Hp), ys[i]? = some y → Pv i H → H T = none → g (.ref T) (wipe σ vs) (upd H T (.tup [.int (i : Nat), y])) fun σ2 H2 => wipe σ2 vs = wipe σ vs ∧ tt σ2 H2 fun b H3 =>
      if b = true then te σ2 H3 fun z H4 => ∃ acc, H4 D = some (.lst acc) ∧ acc.length < sizeLine ∧ Pv (i + 1) (upd H4 D (.lst (acc ++ [z]))) else Pv (i + 1) H3) (hd : ∀ H, Pv ys.length H → Qd H) :
    ∃ W : Nat → Nat → Hp → Prop, (∃ m, W 0 m (upd H1 D (.lst []))) ∧ ∀ i m H, W i m H →
      ((ItE sq ys).stop i H ∧ Qd H) ∨ ((ItE sq ys).go i H ∧ ∃ Nx : Hp → Prop, (∀ H', Nx H' → ∃ m', m' < m ∧ W (i + 1) m' H') ∧ ∀ x H', (ItE sq ys).yld i H x H' → g x (wipe σ vs) H' fun σ2 H2 => wipe σ2 vs = wipe σ vs ∧ tt σ2 H2 fun b H3 =>
        if b = true then te σ2 H3 fun y H4 => ∃ acc, H4 D = some (.lst acc) ∧ acc.length < sizeLine ∧ Nx (upd H4 D (.lst (acc ++ [y]))) else Nx H3) := by
  refine ⟨fun i m H => m = ys.length - i ∧ i ≤ ys.length ∧ Pv i H, ⟨_, rfl, Nat.zero_le _, h0⟩, ?_⟩
  rintro i m H ⟨rfl, hi, p⟩
  by_cases lt : i < ys.length
  · refine .inr ⟨⟨hq i H p, lt⟩, Pv (i + 1), fun G p' => ⟨ys.length - (i + 1), by omega, rfl, by omega, p'⟩, fun v G yl => ?_⟩
    obtain ⟨T, y, rfl, hT, rfl, e2⟩ := yl
    exact hs i y T H e2 p hT
  · have e : i = ys.length := by omega
    subst e
    exact .inl ⟨⟨hq _ H p, rfl⟩, hd H p⟩
theorem row_pos {h x : Int} {ds : List Dd} : 2 ≤ (tl (rowS h x ds)).length := by
  unfold rowS
  rw [tl_append, tl_append, List.length_append, List.length_append, show (tl (": " : Str)).length = 2 by decide +kernel]
  omega
theorem text_pos {gs : List Gd} (h : gs ≠ []) : (textS gs).length ≠ 0 := by
  rw [len_tl]
  unfold textS rowsS
  rw [tl_join]
  match gs, h with
  | [g], _ => have := row_pos (h := g.hd) (x := g.x) (ds := g.ds); show (tl (rowS g.hd g.x g.ds)).length ≠ 0; omega
  | g :: g2 :: gs, _ =>
    have := row_pos (h := g.hd) (x := g.x) (ds := g.ds)
    show (tl (rowS g.hd g.x g.ds) ++ _).length ≠ 0
    rw [List.length_append]
    omega
abbrev Nscread_deals : List Str := ["text", "deals", "row", "told"]
theorem scread_deals : FnScope Nscread_deals ["text"] (defScope s_read_deals) := ⟨rfl, rfl, rfl, by decide +kernel, rfl, by decide +kernel, by decide +kernel⟩
def spReadDeals (A : Ad) (pR : Addr) : Sp := fun vs H Q _ => ∃ (gs : List Gd), vs = [.str (textS gs)] ∧ Tg [pR] H ∧ (∀ g ∈ gs, GdW g) ∧ gs.length ≤ 100 ∧
  ∀ G l xs, H l = none → Kg [pR] No H G → G l = some (.lst xs) → Paired (GdAt G) xs gs → Q (.ref l) G
theorem ok_readDeals (T : Txt K mg A) (X : Ex P w K mg A B C fI) (htop : (P.main.scope.names.lookup ("super" : Str)).isSome = false) (FG : ∃ t, mg "FIGURES" = some (.str "0123456789" t)) (TR : GxR.TabB base mg (A.co 52 0) pR) : ∃ fd, FnOk P w K mg base CX0 9 (A.d 53) fd ["text"] (spReadDeals A pR) ∧ Binds K fd ["text"] [] := by
  obtain ⟨fd, F⟩ := T.read_deals.fn
  obtain ⟨fd1, Gread_row, bread_row⟩ := ok_rowR (P := P) (w := w) (base := base) T X FG TR
  obtain ⟨fd2, Gcheck_deals, bcheck_deals⟩ := ok_cds (P := P) (w := w) (base := base) T X htop
  refine ⟨fd, F.ok scread_deals (fun vs H Q E h => ?_) (fun cdv Ar outer s0 H vs Q E hr h => ?_), F.binds fun _ _ _ _ _ _ us hl => match us, hl with | [_], _ => rfl⟩
  · obtain ⟨gs, rfl, _⟩ := h
    rfl
  · obtain ⟨gs, rfl, TG, hg, hl, k⟩ := h
    have hu := hu_of hr
    refine ⟨_, (pss_cons (ps_if (pt_not (pt_truth (pv 0) (by intro _; rfl)))
        (pss_one (ps_ret (pe_lst pa_nil)))
        pss_nil)
      (pss_cons (ps_setLc (i := 1) (own := [("row", 2), ("told", 3)]) (g := (gTup K 2 (gCons (gName 2) (gCons (gName 3) gNil)))) (by rfl) scread_deals.nd rfl rfl (sw_true rfl rfl rfl (by decide +kernel)) (pi_enT (by rfl) T.enumerate (pa_cons (pe_split (pv 0) pe_str) pa_nil)) (blkOk_by (N := Nscread_deals) (sc := defScope s_read_deals) (by decide +kernel)) (fun _ _ _ _ _ => pg_tup rfl (pgs_cons (pg_name (i := 2) scread_deals.nd rfl (Or.inl rfl)) (pgs_cons (pg_name (i := 3) scread_deals.nd rfl (Or.inl rfl)) pgs_nil))) (fun _ _ _ _ _ => pts_nil) (fun _ _ _ _ _ => (pe_call Gread_row (hr.mono (by first | decide | omega)) rfl T.read_row.at_ T.read_row.kp bread_row .nil pass0 (pa_cons (pv 3) (pa_cons (pv 2) pa_nil)))))
      (pss_cons (ps_expr (pe_call (E := fun _ _ _ => False) Gcheck_deals (hr.mono (by first | decide | omega)) rfl T.check_deals.at_ T.check_deals.kp bcheck_deals .nil (L2N.passes_call takesN0 fun _ _ _ _ h => h) (pa_cons (pv 1) pa_nil)))
      (pss_one (ps_ret (pv 1)))))), ?_⟩
    have tlen := text_len hg hl
    have tsz : (textS gs).length ≤ sizeLine := by rw [len_tl]; exact Nat.le_trans tlen (by decide)
    by_cases hne : gs = []
    · subst hne
      refine ⟨_, rfl, false, ⟨tsz, rfl⟩, iteT ⟨sz 0 (by decide), fun l nl => ?_⟩⟩
      exact k _ l [] nl (Kg.of (Kp.new nl)) upd_same .nil
    refine ⟨_, rfl, true, ⟨tsz, by simpa using text_pos hne⟩, iteF ?_⟩
    refine ⟨_, rfl, ⟨_, rfl⟩, textS gs, "\n", rfl, rfl, by decide +kernel, by rw [len_tl]; exact Nat.le_trans (Nat.add_le_add_right tlen 2) (by decide), ?_⟩
    have hrne : rowsS gs ≠ [] := by unfold rowsS; simpa using hne
    rw [show Txt.split (textS gs) "\n" = rowsS gs from split_rows hrne rows_free]
    refine fun q nq => ?_
    have kq : Kp No H (upd H q (.lst ((rowsS gs).map V.str))) := Kp.new nq
    have eq : upd H q (.lst ((rowsS gs).map V.str)) q = some (.lst ((rowsS gs).map V.str)) := upd_same
    generalize upd H q (.lst ((rowsS gs).map V.str)) = H1 at kq eq ⊢
    refine ⟨q, (rowsS gs).map V.str, rfl, .inl ⟨SqL.of eq, fun D nD => ?_⟩⟩
    have nqD : q ≠ D := fun z => by rw [z, nD] at eq; cases eq
    have kD : Kp (fun b => b = D) H1 (upd H1 D (.lst [])) := Kp.new nD
    refine lc_enT (fun i J => Kg [pR] (fun b => b = D) H1 J ∧ ∃ acc, J D = some (.lst acc) ∧ Paired (GdAt J) acc (gs.take i)) ⟨Kg.of kD, [], upd_same, .nil⟩ (fun i J ⟨kJ, _⟩ => SqL.of (kJ.t.lst eq nqD)) ?_ ?_
    · rintro i y t J hy ⟨kJ, acc, eJ, pJ⟩ nt
      rw [List.getElem?_map] at hy
      unfold rowsS at hy
      rw [List.getElem?_map] at hy
      obtain ⟨g, hgi, rfl⟩ : ∃ g, gs[i]? = some g ∧ V.str (rowS g.hd g.x g.ds) = y := by
        cases e : gs[i]? with
        | none => rw [e] at hy; cases hy
        | some g => rw [e] at hy; exact ⟨g, rfl, Option.some.inj hy⟩
      have hi := (List.getElem?_eq_some_iff.mp hgi).1
      have w9 := hg g (List.mem_of_getElem? hgi)
      obtain ⟨w0, w1, w2⟩ := deal_all w9.ok
      have kt : Kp No J (upd J t (.tup [.int (i : Nat), .str (rowS g.hd g.x g.ds)])) := Kp.new nt
      have et : upd J t (.tup [.int (i : Nat), .str (rowS g.hd g.x g.ds)]) t = some (.tup [.int (i : Nat), .str (rowS g.hd g.x g.ds)]) := upd_same
      generalize upd J t (.tup [.int (i : Nat), .str (rowS g.hd g.x g.ds)]) = J1 at kt et ⊢
      refine ⟨t, _, rfl, SqT.of et, rfl, _, _, rfl, _, _, rfl, rfl, ?_⟩
      refine ⟨rfl, _, rfl, _, rfl, g.hd, g.x, g.ds, .int (i : Nat), rfl, ((TG.kp kq).kg kJ).kp kt, w9.h0, (by have := w9.h3; omega), w9.x0, (by have := w9.x9; omega), w1, w0, w2, fun G u kG gd => ?_⟩
      have eG := kG.t.lst (kt.t.lst eJ fun z => z) fun z => z
      have kU : Kp (fun b => b = D) G (upd G D (.lst (acc ++ [.ref u]))) := Kp.updL eG rfl
      refine ⟨acc, eG, szL (by rw [pJ.length, List.length_take]; omega), ((kJ.trans (Kg.of kt) fun _ z => False.elim z).trans kG fun _ z => False.elim z).trans (Kg.of kU) fun b z => .inl z, _, upd_same, ?_⟩
      rw [take_snoc hgi]
      exact (pJ.mono fun _ _ z => ((z.kt kt.t).kt kG.t).kt kU.t).snoc (gd.kt kU.t)
    · rintro J ⟨kJ, acc, eJ, pJ⟩
      rw [List.length_map] at pJ
      unfold rowsS at pJ
      rw [List.length_map, List.take_length] at pJ
      have nDH : H D = none := kq.free nD fun z => False.elim z
      have kH : Kg [pR] No H J := ((Kg.of kq).trans (kJ.fresh fun b z => by rw [show b = D from z]; exact nD) fun _ z => False.elim z)
      refine ⟨_, rfl, D, acc, gs, rfl, eJ, pJ, hl, fun G kG => ⟨fun _ => ?_, fun r hb => by rw [goods hg] at hb; cases hb⟩⟩
      exact ⟨_, rfl, k G D acc nDH (kH.trans (Kg.of kG) fun _ z => False.elim z) (kG.t.lst eJ fun z => z) (pJ.mono fun _ _ z => z.kt kG.t)⟩
end
end S02

set_option Elab.async false
set_option linter.all false
set_option maxRecDepth 100000
set_option maxHeartbeats 2000000
/-! name = {k: v for ..} on one line, the name a local -/
namespace SupX
open PySem PySem.Spec PyProof.Rows L2
theorem sw_trueD {kx vx : Expr} {gs : List Comprehension} {scope : Scope} {pos py : Pos} {y : Str} {l : Nat} {env : Env} (hk : env.scope.kind = .function) (hy : env.scope.names.lookup y = some .local) (hl : (py.line == pos.line) = true)
    (ha : (scope.names.any fun (n, k) => n == y && (k == .local || k == .cell)) = false) : swapsWith (.DictComp kx vx gs scope pos) (some (.Name y py)) l env = pure true := by
  have kindY : env.kindOf y = some .local := hy
  have blkF : env.blockKind = .function := by unfold Env.blockKind; rw [hk]; rfl
  unfold swapsWith
  simp only [blkF, kindY, ha, Expr.pos, hl]
  rfl
theorem ps_setDc {X : Cx} {i : Nat} {y : Str} {py : Pos} {kx vx tg iter : Expr} {ifs : List Expr} {scope : Scope} {own : List (Str × Nat)} {pos spos : Pos} {wi : TI} {g : TG} {tt : L2.TT} {tk tv : TE} (hc : X.calm = true) (hN : X.N.Nodup) (hy : X.N[i]? = some y) (hLoc : X.env.scope.names.lookup y = some .local)
    (hsw : swapsWith (.DictComp kx vx [⟨tg, iter, ifs, 0⟩] scope pos) (some (.Name y py)) spos.line X.env = pure true) (hi : PI X tg iter wi) (ok : BlkOk X.N X.env.scope scope own)
    (hg : ∀ (s : Shared) (H : Hp) (C : Addr) (clo : List (Str × Addr)) (fps : List Addr), PG (X.blk s H scope (compEnvC scope clo C X.env) fps) tg g) (ht : ∀ (s : Shared) (H : Hp) (C : Addr) (clo : List (Str × Addr)) (fps : List Addr), PTs (X.blk s H scope (compEnvC scope clo C X.env) fps) ifs tt)
    (hk : ∀ (s : Shared) (H : Hp) (C : Addr) (clo : List (Str × Addr)) (fps : List Addr), PE (X.blk s H scope (compEnvC scope clo C X.env) fps) kx tk)
    (he : ∀ (s : Shared) (H : Hp) (C : Addr) (clo : List (Str × Addr)) (fps : List Addr), PE (X.blk s H scope (compEnvC scope clo C X.env) fps) vx tv) (hs : ∀ x, foldedSetIterable iter X.env x = pure x := by intro _; rfl) :
    PS X (.Assign [.Name y py] (.DictComp kx vx [⟨tg, iter, ifs, 0⟩] scope pos) spos) (tAsg (tDc wi g tt tk tv (own.map (·.2))) (gName i)) := by
  refine ⟨fun pn s σ H D I h => ?_⟩
  rw [exec_Assign_Name_used _ _ _ _ hsw]
  refine wpAny_bind (wpAny_standAt (wpAny_bind ?_))
  show wpAny _ X.A (do let _ ← comprehension (.DictComp kx vx [⟨tg, iter, ifs, 0⟩] scope pos) scope X.env (firstIterPos [⟨tg, iter, ifs, 0⟩] pos) newDict false (eval iter X.env) (some (assign (.Name y py) X.env))) _ _ s
  have h : tDc wi g tt tk tv (own.map (·.2)) σ H (fun x H1 => gName i x σ H1 D.nx) := h
  refine wpAny_bind (thn (dc_core (Qf := fun _ s' => SP X pn D .next s') hc hN I hi ok hg ht hk he hs h fun L C s' m H' I' q hn f => ?_) fun _ s' hq => wpAny_pure (wpAny_pure hq))
  show wpAny _ _ (assign (.Name y py) X.env (.ref L)) _ _ _
  refine wpAny_assign_Name (store_ok2 (v := V.ref L) I' hN hy (.inl hLoc) rfl (fun sw Iw ⟨a, sb, ha⟩ => ?_) (.inr hLoc))
  obtain ⟨z0, z1, z2, z3, z4, z5⟩ := f
  have neC : C ≠ a := by
    rcases ha with z | z
    · rw [z]; exact z1
    · exact fun e => z4 y a z e.symm
  refine ⟨m, hn.sameBut sb neC, fun hw sbw => ?_⟩
  exact ⟨_, H', Iw.turned (t' := sw.toks) (fun b o blkF e => (sbw.2 b blkF).trans e) z0 z1 z3 z4 z5, q⟩
end SupX

set_option Elab.async false
set_option linter.all false
set_option maxRecDepth 100000
set_option maxHeartbeats 4000000
namespace S02
open PySem PySem.Spec PyProof.Rows L2 K5 SupX GenX
/-- a dict of the four hands' last letters -/
def AhAt (H : Hp) (D : Addr) (f : Int → Int) (n : Nat) : Prop := ∃ kvs, H D = some (.dK kvs) ∧ kvs.length ≤ n ∧ ∀ j : Int, 0 ≤ j → j ≤ 3 → valV kvs (.inl j : Key) = some (.int (f j))
theorem AhAt.put {H : Hp} {D : Addr} {f : Int → Int} {n : Nat} {kvs : List (Key × V)} {j x : Int} (h : AhAt H D f n) (hd : H D = some (.dK kvs)) : AhAt (upd H D (.dK (putK kvs (.inl j) (.int x)))) D (setL f j x) (n + 1) := by
  obtain ⟨kv2, e1, l, q⟩ := h
  obtain rfl : kvs = kv2 := by rw [e1] at hd; cases hd; rfl
  refine ⟨_, upd_same, Nat.le_trans (length_putK _ _ _) (by omega), fun i h0 h3 => ?_⟩
  rw [valV_put]
  unfold setL
  by_cases hj : i = j
  · rw [if_pos hj, if_pos (by rw [hj])]
  · rw [if_neg hj, if_neg (fun z => hj (Sum.inl.inj z))]
    exact q i h0 h3
section
variable {P : Program} {w : World} {K : PySem.W.Frag} {mg : Str → Option Value} {base : Heap} {A : Ad} {tp : Nat → Addr} {nr pl B C fI : Addr}
abbrev NscGr : List Str := ["self", "group", "hand", "ahead", "letter", "deeds"]
theorem scGr : FnScope NscGr ["self", "group"] (defScope s_Lead_check_group) := ⟨rfl, rfl, rfl, by decide +kernel, rfl, by decide +kernel, by decide +kernel⟩
def spGroup (A : Ad) (K : PySem.W.Frag) : Sp := fun vs H Q _ => ∃ (l : Addr) (a : La) (t : TT) (n : Nat) (m : M) (gp : Addr) (xs : List V) (gs : List Gd), vs = [.ref l, .ref gp] ∧ LeadAt A K H l a t n m ∧ H gp = some (.lst xs) ∧ Paired (GdAt H) xs gs ∧ gs.length ≤ 4 ∧ okG (lastL t.hands) gs ∧ ∀ G, Kp No H G → Q .non G
theorem ok_check_group (T : Txt K mg A) (X : Ex P w K mg A B C fI) (htop : (P.main.scope.names.lookup ("super" : Str)).isSome = false) : ∃ fd, FnOk P w K mg base CX0 4 (A.m 74 18) fd ["self", "group"] (spGroup A K) ∧ Binds K fd ["self", "group"] [] := by
  obtain ⟨fd, F⟩ := T.m_Lead_check_group.fn
  obtain ⟨fdW, Gwithin, bwithin⟩ := ok_within (P := P) (w := w) (base := base) T
  obtain ⟨fdH, Gcheck_hand, bcheck_hand⟩ := ok_check_hand (P := P) (w := w) (base := base) T
  obtain ⟨fdD, Gcheck_deal, bcheck_deal⟩ := ok_check_deal (P := P) (w := w) (base := base) T X htop
  obtain ⟨fdL, G_Table_last_letter, b_Table_last_letter⟩ := ok_last_letter (P := P) (w := w) (base := base) T
  refine ⟨fd, F.ok scGr (fun vs H Q E h => ?_) (fun cdv Ar outer s H vs Q E hr h => ?_), F.binds fun _ _ _ _ _ _ us hl => match us, hl with | [_, _], _ => rfl⟩
  · obtain ⟨l, a, t, n, m, gp, xs, gs, rfl, _⟩ := h
    rfl
  · obtain ⟨l, a, t, n, m, gp, xs, gs, rfl, L, hgp, hgs, l4, hok, k⟩ := h
    have hu := hu_of hr
    refine ⟨_, (pss_cons (ps_if (pt_cmpR op_gt (pe_callB call_len_seq (by rfl) T.len PySem.boot_len (pa_cons (pv 1) pa_nil)) (pe_glob (v := .int 4) rfl T.k_MOST_DEALS.choose_spec ⟨_, rfl⟩) (nomark _))
        (pss_one ps_never)
        pss_nil)
      (pss_cons (ps_setDc (i := 3) (own := [("hand", 2)]) (g := gName 2) (tt := tYes) (tk := tVar 2) (tv := tMeth (A.c 64) "last_letter" (spLast A) [] E0 (tFld K (tVar 0) "table") (tCons (tVar 2) tNil)) (by rfl) scGr.nd rfl rfl (sw_trueD rfl rfl rfl (by decide +kernel)) (pi_range1 (by rfl) T.range (pa_cons (pe_op op_add (pe_glob (v := .int 3) rfl T.k_LAST_HAND.choose_spec ⟨_, rfl⟩) pe_int) pa_nil)) (blkOk_by (N := NscGr) (sc := defScope s_Lead_check_group) (by decide +kernel)) (fun _ _ _ _ _ => pg_name (i := 2) scGr.nd rfl (Or.inl rfl)) (fun _ _ _ _ _ => pts_nil) (fun _ _ _ _ _ => pv 2) (fun _ _ _ _ _ => by exact pe_meth (pe_fld (pv 0) rfl) T.cl_Table T.m_Table_last_letter.me G_Table_last_letter (hr.mono (by decide)) b_Table_last_letter .nil pass0 (pa_cons (pv 2) pa_nil)))
      (pss_one (ps_for PassesOwn.never rfl (pi_list (pv 1)) (pg_tup rfl (pgs_cons (pg_name (i := 2) scGr.nd rfl (Or.inl rfl)) (pgs_cons (pg_name (i := 4) scGr.nd rfl (Or.inl rfl)) (pgs_cons (pg_name (i := 5) scGr.nd rfl (Or.inl rfl)) pgs_nil))))
        (pss_cons (ps_expr (pe_call (E := fun _ _ _ => False) Gcheck_hand (hr.mono (by first | decide | omega)) rfl T.check_hand.at_ T.check_hand.kp bcheck_hand .nil (L2N.passes_call takesN0 fun _ _ _ _ h => h) (pa_cons (pv 2) pa_nil)))
        (pss_cons (ps_if (pt_not (pt_val (pe_call Gwithin (hr.mono (by first | decide | omega)) rfl T.within.at_ T.within.kp bwithin .nil pass0 (pa_cons (pv 4) (pa_cons (pe_callB (call_max2 rfl) (by rfl) T.max (by decide +kernel) (pa_cons pe_int (pa_cons (pe_dget hu (pv 3) (pv 2) (fun _ _ => rfl)) pa_nil))) (pa_cons (pe_op op_add (pe_dget hu (pv 3) (pv 2) (fun _ _ => rfl)) pe_int) pa_nil))))))
          (pss_one ps_never)
          pss_nil)
        (pss_cons (ps_expr (pe_call (E := fun _ _ _ => False) Gcheck_deal (hr.mono (by first | decide | omega)) rfl T.check_deal.at_ T.check_deal.kp bcheck_deal .nil (L2N.passes_call takesN0 fun _ _ _ _ h => h) (pa_cons (pv 5) pa_nil)))
        (pss_one (ps_dput hu (pv 3) (pv 2) (pv 4) rfl))))))))), ?_⟩
    obtain ⟨dx, hs, el⟩ := L.at_
    obtain ⟨dx2, e2⟩ := L.tab.at_
    have hxl : xs.length ≤ 4 := by rw [hgs.length]; exact l4
    refine ⟨_, rfl, gp, xs, rfl, .inl (SqL.of hgp), _, _, rfl, rfl, _, rfl, ?_⟩
    rw [decide_eq_false (show ¬ (4 : Int) < (xs.length : Int) by omega)]
    refine iteF ⟨_, _, rfl, rfl, 4, rfl, by decide, by decide, fun D nD => ?_⟩
    have nfD : ∀ b, b = D → ¬ lF l a b := fun b z y => by
      obtain ⟨o, eo⟩ := L.there y
      rw [z, nD] at eo; cases eo
    refine dc_rng (lo := 0) (n := (4 : Int).toNat) (fun i J => Kp (fun b => b = D) H J ∧ ∃ kvs, J D = some (.dK kvs) ∧ kvs.length ≤ i ∧ ∀ j : Int, 0 ≤ j → j < i → valV kvs (.inl j : Key) = some (.int (lastL t.hands j))) ⟨Kp.new nD, [], upd_same, Nat.le_refl _, fun j h0 h1 => by omega⟩ ?_ ?_
    · rintro i J hi ⟨kJ, kvs, hD, hl, hv⟩
      have LJ := L.kt kJ.t nfD
      obtain ⟨dxJ, hsJ, eJ⟩ := LJ.at_
      obtain ⟨dx2J, e2J⟩ := LJ.tab.at_
      refine ⟨rfl, _, rfl, _, rfl, l, A.c 74, dxJ, _, _, rfl, eJ, T.cl_Lead, T.n_Lead_table, l_table .., a.tb, dx2J, _, rfl, e2J, rfl, _, rfl, a.tb, a.rw, a.hd, a.gn, t, n, 0 + (i : Nat), rfl, LJ.tab, kvs, .inl (0 + (i : Int)), rfl, hD, szL (by omega), kJ.andD hD rfl, _, upd_same, Nat.le_trans (length_putK _ _ _) (by omega), fun j h0 h1 => ?_⟩
      rw [valV_put]
      by_cases hj : (.inl j : Key) = .inl (0 + (i : Int))
      · rw [if_pos hj]
        have := Sum.inl.inj hj
        rw [this]
      · rw [if_neg hj]
        have hj' : j ≠ 0 + (i : Int) := fun z => hj (by rw [z])
        exact hv j h0 (by omega)
    · rintro J ⟨kJ, kvs, hD, hl, hv⟩
      have AJ : AhAt J D (lastL t.hands) 4 := ⟨kvs, hD, hl, fun j h0 h3 => hv j h0 (by show j < ((4 : Nat) : Int); omega)⟩
      have ngD : gp ≠ D := fun z => by rw [z, nD] at hgp; cases hgp
      refine ⟨_, rfl, gp, rfl, ⟨_, SqL.of (kJ.t.lst hgp ngD)⟩, for_list (K := K) (a := gp) (xs := xs) (fun i σ I => ∃ o1 o2 o3, σ = [some (.ref l), some (.ref gp), o1, some (.ref D), o2, o3] ∧ Kp (fun b => b = D) H I ∧ AhAt I D ((gs.take i).foldl (fun f g => setL f g.hd g.x) (lastL t.hands)) (4 + i)) ⟨_, _, _, rfl, kJ, AJ⟩ (fun i σ I _ ⟨_, _, _, _, kI, _⟩ => SqL.of (kI.t.lst hgp ngD)) ?_ ?_⟩
      · rintro i x σ I hx ⟨o1, o2, o3, rfl, kI, AI⟩
        obtain ⟨g, hg, u, dv, rfl, hu2, hds⟩ := paired_at hgs hx
        obtain ⟨f', okf, ef⟩ := hok.drop i g hg
        rw [← ef] at AI
        have hi : i < xs.length := (List.getElem?_eq_some_iff.mp hx).1
        obtain ⟨g0, g3, x1, x2, x3, gb, g4, _⟩ := okf
        have AI' := AI
        obtain ⟨kv, hDI, lI, vI⟩ := AI'
        have dg : DGet I D (.int g.hd) (some (.int (f' g.hd))) := by
          have := DGet.k (k := Sum.inl g.hd) hDI
          rw [vI _ g0 g3] at this
          exact this
        refine ⟨u, _, rfl, SqT.of (kI.t.tup hu2), rfl, _, _, rfl, _, _, rfl, _, _, rfl, rfl, ?_⟩
        refine ⟨_, rfl, g.hd, rfl, fun _ => ?_, fun z => ?_⟩
        · refine ⟨_, rfl, _, rfl, _, rfl, D, _, rfl, dg, _, _, rfl, _, rfl, _, rfl, D, _, rfl, dg, _, _, rfl, rfl, _, _, _, rfl, .inl ⟨g.x, rfl, _, rfl, ?_⟩⟩
          have hin : inB (if f' g.hd > 1 then f' g.hd else 1) (f' g.hd + 1) g.x = true := by
            unfold inB
            rw [decide_eq_true (show g.x ≤ f' g.hd + 1 from x3), Bool.and_true, decide_eq_true_eq]
            split <;> omega
          rw [hin]
          refine iteF ⟨_, rfl, dv, g.ds, rfl, hds.kt kI.t, fun I2 k2 => ⟨fun _ => ?_, fun p z => by rw [gb] at z; cases z⟩⟩
          have hD2 := k2.t.dK hDI fun z => z
          have A2 : AhAt I2 D f' (4 + i) := ⟨kv, hD2, lI, vI⟩
          refine ⟨_, rfl, _, rfl, _, rfl, D, _, rfl, DPut.k (k := Sum.inl g.hd) hD2 (szL (by omega)), _, _, _, rfl, ((kI.trans k2 fun _ z => False.elim z).andD hD2 rfl), ?_⟩
          have e1 : (gs.take (i + 1)).foldl (fun f g => setL f g.hd g.x) (lastL t.hands) = setL f' g.hd g.x := by
            rw [take_snoc hg, List.foldl_append, ← ef]
            rfl
          rw [e1]
          exact A2.put hD2
        · have : inB 0 3 g.hd = true := by unfold inB; rw [decide_eq_true g0, decide_eq_true g3]; rfl
          rw [this] at z; cases z
      · rintro σ I ⟨o1, o2, o3, rfl, kI, _⟩
        exact k I (kp_fresh kI fun b z => by rw [z]; exact nD)
end
end S02

set_option Elab.async false
set_option linter.all false
set_option maxRecDepth 100000
set_option maxHeartbeats 4000000
namespace S02
open PySem PySem.Spec PyProof.Rows L2 K5 SupX GenX
def dl1 (t : TT) (g : Gd) : TT := if g.x = lastL t.hands g.hd then t else t.next (.deal g.hd g.x g.ds)
def dlT (t : TT) (gs : List Gd) : TT := gs.foldl dl1 t
def toldOf (t : TT) (h : Int) : Int × Bool := match t.hands h with
  | some x => x.2
  | none => (0, false)
def tolds : TT → List Gd → List (Int × Bool)
  | _, [] => []
  | t, g :: gs => toldOf (dl1 t g) g.hd :: tolds (dl1 t g) gs
theorem tolds_snoc : ∀ (gs : List Gd) (t : TT) (g : Gd), tolds t (gs ++ [g]) = tolds t gs ++ [toldOf (dl1 (dlT t gs) g) g.hd]
  | [], _, _ => rfl
  | a :: gs, t, g => congrArg (toldOf (dl1 t a) a.hd :: ·) (tolds_snoc gs (dl1 t a) g)
theorem tolds_len : ∀ (gs : List Gd) (t : TT), (tolds t gs).length = gs.length
  | [], _ => rfl
  | a :: gs, t => by rw [tolds, List.length_cons, List.length_cons, tolds_len gs]
theorem dlT_snoc (t : TT) (gs : List Gd) (g : Gd) : dlT t (gs ++ [g]) = dl1 (dlT t gs) g := by
  unfold dlT
  rw [List.foldl_append]
  rfl
theorem dl1_last (t : TT) (g : Gd) : ∀ j, lastL (dl1 t g).hands j = if j = g.hd then g.x else lastL t.hands j := by
  intro j
  unfold dl1
  by_cases h : g.x = lastL t.hands g.hd
  · rw [if_pos h]
    by_cases hj : j = g.hd
    · rw [if_pos hj, hj, h]
    · rw [if_neg hj]
  · rw [if_neg h]
    unfold TT.next lastL Hn.set
    dsimp only
    by_cases hj : j = g.hd
    · rw [if_pos hj, if_pos hj]
    · rw [if_neg hj, if_neg hj]
theorem dlT_last (gs : List Gd) : ∀ t : TT, lastL (dlT t gs).hands = gs.foldl (fun f g => setL f g.hd g.x) (lastL t.hands) := by
  induction gs with
  | nil => intro t; rfl
  | cons g gs ih =>
    intro t
    show lastL (dlT (dl1 t g) gs).hands = gs.foldl _ (setL (lastL t.hands) g.hd g.x)
    rw [ih]
    congr 1
    funext j
    exact dl1_last t g j
theorem dl1_hand (t : TT) (g : Gd) (h1 : 1 ≤ g.x) : ∃ num b, (dl1 t g).hands g.hd = some (g.x, num, b) := by
  unfold dl1
  by_cases h : g.x = lastL t.hands g.hd
  · rw [if_pos h]
    unfold lastL at h
    cases e : t.hands g.hd with
    | none => rw [e] at h; have h : g.x = 0 := h; omega
    | some y =>
      rw [e] at h
      exact ⟨y.2.1, y.2.2, by rw [h]⟩
  · rw [if_neg h]
    refine ⟨t.num + 1, (steps t.mom t.rows g.ds).isSome, ?_⟩
    unfold TT.next Hn.set
    exact if_pos rfl
theorem dl1_num (t : TT) (g : Gd) : t.num ≤ (dl1 t g).num := by
  unfold dl1
  split
  · exact Int.le_refl _
  · show t.num ≤ t.num + 1
    omega
/-- a told number, and whether it was done -/
def TpAt (H : Hp) (v : V) (x : Int × Bool) : Prop := ∃ u, v = .ref u ∧ H u = some (.tup [.int x.1, .bl x.2])
theorem TpAt.kt {F : Addr → Prop} {H G : Hp} (k : Kt F H G) {v : V} {x : Int × Bool} (h : TpAt H v x) : TpAt G v x := let ⟨u, e, q⟩ := h; ⟨u, e, k.tup q⟩
structure DsI (A : Ad) (H J : Hp) (t : TT) (n : Nat) (tb hd gn en to : Addr) (tt : TT) (c : Nat) (tl : List (Int × Bool)) : Prop where
  ex : ∃ rw es vs, H rw = none ∧ TabAt A J tb rw hd gn tt (n + 5 * c) ∧ J en = some (.lst es) ∧ (∀ v ∈ es, EnV J v) ∧ es.length ≤ c ∧ (es = [] → tt = t) ∧ J to = some (.lst vs) ∧ Paired (TpAt J) vs tl
  kp : Kp No H J
  num : 0 ≤ tt.num
theorem DsI.le {A : Ad} {H J : Hp} {t : TT} {n : Nat} {tb hd gn en to : Addr} {tt : TT} {c d : Nat} {tl : List (Int × Bool)} (h : DsI A H J t n tb hd gn en to tt c tl) (l : c ≤ d) : DsI A H J t n tb hd gn en to tt d tl := by
  obtain ⟨rw, es, vs, h1, h2, h3, h4, h5, h6, h7, h8⟩ := h.ex
  exact ⟨⟨rw, es, vs, h1, h2.le (by omega), h3, h4, Nat.le_trans h5 l, h6, h7, h8⟩, h.kp, h.num⟩
section
variable {P : Program} {w : World} {K : PySem.W.Frag} {mg : Str → Option Value} {base : Heap} {A : Ad} {tp : Nat → Addr} {nr pl B C fI : Addr}
theorem scDs : FnScope ["self", "group", "trial", "entries", "told", "hand", "letter", "deeds", "entry"] ["self", "group"] (defScope s_Lead_deals) := ⟨rfl, rfl, rfl, by decide +kernel, rfl, by decide +kernel, by decide +kernel⟩
def spDeals (A : Ad) (K : PySem.W.Frag) (tp : Nat → Addr) : Sp := fun vs H Q _ => ∃ (l : Addr) (a : La) (t : TT) (n : Nat) (m : M) (gp : Addr) (xs : List V) (gs : List Gd) (e : Int), vs = [.ref l, .ref gp] ∧ LeadAt A K H l a t n m ∧ Tg (tL tp) H ∧ H gp = some (.lst xs) ∧ Paired (GdAt H) xs gs ∧ gs.length ≤ 4 ∧ okG (lastL t.hands) gs ∧ n ≤ 13000 ∧ 0 ≤ t.num ∧ (gs = [] ∨ Enough m (e + 16)) ∧ (gs = [] → Enough m e) ∧ 0 ≤ e ∧
  ∀ G a' m' to vs, LeadAt A K G l a' (dlT t gs) (n + 20) m' → Enough m' e → a'.d = a.d → (∀ b, lF l a' b → lF l a b ∨ H b = none) → Kg (tL tp) (lF l a) H G → (a'.cs = a.cs ∧ a'.bg = a.bg ∧ a'.sh = a.sh) → H to = none → ¬ lF l a' to → G to = some (.lst vs) → Paired (TpAt G) vs (tolds t gs) → Q (.ref to) G
theorem ok_deals (T : Txt K mg A) (TB : TbsB base mg A tp) (X : Ex P w K mg A B C fI) (htop : (P.main.scope.names.lookup ("super" : Str)).isSome = false) : ∃ fd, FnOk P w K mg base CX0 12 (A.m 74 3) fd ["self", "group"] (spDeals A K tp) ∧ Binds K fd ["self", "group"] [] := by
  obtain ⟨fd, F⟩ := T.m_Lead_deals.fn
  obtain ⟨fd0, G_Lead_check_group, b_Lead_check_group⟩ := ok_check_group (P := P) (w := w) (base := base) T X htop
  obtain ⟨fd1, G_Table_twin, b_Table_twin⟩ := ok_twin (P := P) (w := w) (base := base) T
  obtain ⟨fd2, G_Table_take, b_Table_take⟩ := ok_takeT (P := P) (w := w) (base := base) T X
  obtain ⟨fd3, G_Table_unlike, b_Table_unlike⟩ := ok_unlike (P := P) (w := w) (base := base) T TB
  obtain ⟨fdL, G_Table_last_letter, b_Table_last_letter⟩ := ok_last_letter (P := P) (w := w) (base := base) T
  obtain ⟨fd4, G_Lead_change_over, b_Lead_change_over⟩ := ok_change_over (P := P) (w := w) (base := base) (tp := tp) T TB
  refine ⟨fd, F.ok scDs (fun vs H Q E h => ?_) (fun cdv Ar outer s H vs Q E hr h => ?_), F.binds fun _ _ _ _ _ _ us hl => match us, hl with | [_, _], _ => rfl⟩
  · obtain ⟨l, a, t, n, m, gp, xs, gs, e, rfl, _⟩ := h
    rfl
  · obtain ⟨l, a, t, n, m, gp, xs, gs, e, rfl, L, TG, hgp, hgs, l4, hok, hn, hnu, hen, hen0, he, k⟩ := h
    have hu := hu_of hr
    refine ⟨_, (pss_cons (ps_expr (pe_meth (pv 0) T.cl_Lead T.m_Lead_check_group.me G_Lead_check_group (hr.mono (by first | decide | omega)) b_Lead_check_group .nil pass0 (pa_cons (pv 1) pa_nil)))
      (pss_cons (ps_set (i := 2) scDs.nd rfl (Or.inl rfl) (pe_meth0 (pe_fld (pv 0) rfl) T.cl_Table T.m_Table_twin.me G_Table_twin (hr.mono (by first | decide | omega)) b_Table_twin .nil pass0))
      (pss_cons (ps_set (i := 3) scDs.nd rfl (Or.inl rfl) (pe_lst pa_nil))
      (pss_cons (ps_set (i := 4) scDs.nd rfl (Or.inl rfl) (pe_lst pa_nil))
      (C8.pss_cut (ps_for PassesOwn.never rfl (pi_list (pv 1)) (pg_tup rfl (pgs_cons (pg_name (i := 5) scDs.nd rfl (Or.inl rfl)) (pgs_cons (pg_name (i := 6) scDs.nd rfl (Or.inl rfl)) (pgs_cons (pg_name (i := 7) scDs.nd rfl (Or.inl rfl)) pgs_nil))))
        (C8.pss_cut (ps_if (pt_cmpR op_ne (pv 6) (pe_meth (pv 2) T.cl_Table T.m_Table_last_letter.me G_Table_last_letter (hr.mono (by first | decide | omega)) b_Table_last_letter .nil pass0 (pa_cons (pv 5) pa_nil)) (nomark _))
          (pss_cons (ps_set (i := 8) scDs.nd rfl (Or.inl rfl) (pe_tup (pa_cons pe_str (pa_cons (pv 5) (pa_cons (pv 6) (pa_cons (pv 7) pa_nil))))))
          (pss_cons (ps_expr (pe_meth (pv 2) T.cl_Table T.m_Table_take.me G_Table_take (hr.mono (by first | decide | omega)) b_Table_take .nil pass0 (pa_cons (pv 8) pa_nil)))
          (pss_one (ps_expr (pe_bm PySem.F.plainAttrs_list PySem.F.slot_list_append PySem.F.type_list_append mt_append (pv 3) (pa_cons (pe_tup (pa_cons (pe_fld (pv 2) rfl) (pa_cons (pv 8) pa_nil))) pa_nil))))))
          pss_nil)
        (pss_one (ps_expr (pe_bm PySem.F.plainAttrs_list PySem.F.slot_list_append PySem.F.type_list_append mt_append (pv 4) (pa_cons (pe_slice sl_tup (pe_dget hu (pe_fld (pv 2) rfl) (pv 5) (fun _ _ => rfl)) (po_some pe_int) po_none) pa_nil))))))
      (C8.pss_cut (ps_if (pt_truth (pv 3) (by intro _; rfl))
        (pss_one (ps_expr (pe_meth (pv 0) T.cl_Lead T.m_Lead_change_over.me G_Lead_change_over (hr.mono (by first | decide | omega)) b_Lead_change_over .nil pass0 (pa_cons (pv 2) (pa_cons (pe_meth (pe_fld (pv 0) rfl) T.cl_Table T.m_Table_unlike.me G_Table_unlike (hr.mono (by first | decide | omega)) b_Table_unlike .nil pass0 (pa_cons (pv 2) pa_nil)) (pa_cons (pv 3) pa_nil))))))
        pss_nil)
      (pss_one (ps_ret (pv 4))))))))), ?_⟩
    obtain ⟨dx, hs, el⟩ := L.at_
    refine ⟨_, rfl, l, dx, _, rfl, el, rfl, _, rfl, l, a, t, n, m, gp, xs, gs, rfl, L, hgp, hgs, l4, hok, fun G0 k0 => ?_⟩
    have L0 := L.kt k0.t fun _ z => False.elim z
    obtain ⟨dx0, hs0, el0⟩ := L0.at_
    obtain ⟨dx2, e2⟩ := L0.tab.at_
    -- trial = self.table.twin()
    refine ⟨_, rfl, l, A.c 74, dx0, _, _, rfl, el0, T.cl_Lead, T.n_Lead_table, l_table .., a.tb, dx2, _, rfl, e2, rfl, a.tb, a.rw, a.hd, a.gn, t, n, rfl, L0.tab, fun G1 tb rw hd gn nt nr nh ng TB1 k1 => ?_⟩
    have k01 : Kp No H G1 := k0.trans k1 fun _ z => False.elim z
    refine ⟨sz 0 (by decide), fun en nen => ⟨sz 0 (by decide), fun to nto => ?_⟩⟩
    have kl : Kp No G1 (upd (upd G1 en (.lst [])) to (.lst [])) := (Kp.new nen).andN nto
    have hen1 : upd (upd G1 en (.lst [])) to (.lst []) en = some (.lst []) := by rw [upd_ne (upd_none nto).1.symm, upd_same]
    have hto1 : upd (upd G1 en (.lst [])) to (.lst []) to = some (.lst []) := upd_same
    have nte : to ≠ en := (upd_none nto).1
    show C8.tCut _ _ _ _ (upd (upd G1 en (.lst [])) to (.lst []))
    generalize upd (upd G1 en (.lst [])) to (.lst []) = G2 at kl hen1 hto1 ⊢
    have k02 : Kp No H G2 := k01.trans kl fun _ z => False.elim z
    have ntbH : H tb = none := k0.free nt fun z => False.elim z
    have nrwH : H rw = none := k0.free nr fun z => False.elim z
    have nhdH : H hd = none := k0.free nh fun z => False.elim z
    have ngnH : H gn = none := k0.free ng fun z => False.elim z
    have nenH : H en = none := k01.free nen fun z => False.elim z
    have ntoH : H to = none := k01.free (upd_none nto).2 fun z => False.elim z
    have B0 : DsI A H G2 t n tb hd gn en to t 0 [] := ⟨⟨rw, [], [], nrwH, TB1.no kl.t, hen1, (fun v hv => nomatch hv), Nat.le_refl _, fun _ => rfl, hto1, .nil⟩, k02, hnu⟩
    refine ⟨fun σ J => ∃ o1 o2 o3 o4, σ = [some (.ref l), some (.ref gp), some (.ref tb), some (.ref en), some (.ref to), o1, o2, o3, o4] ∧ DsI A H J t n tb hd gn en to (dlT t gs) gs.length (tolds t gs), ?_, ?_⟩
    · refine ⟨_, rfl, gp, rfl, ⟨_, SqL.of (k02.t.lst hgp fun z => z)⟩, for_list (K := K) (a := gp) (xs := xs) (fun i σ J => ∃ o1 o2 o3 o4, σ = [some (.ref l), some (.ref gp), some (.ref tb), some (.ref en), some (.ref to), o1, o2, o3, o4] ∧ DsI A H J t n tb hd gn en to (dlT t (gs.take i)) i (tolds t (gs.take i))) ⟨_, _, _, _, rfl, by rw [List.take_zero]; exact B0⟩ (fun i σ J _ ⟨_, _, _, _, _, I⟩ => SqL.of (I.kp.t.lst hgp fun z => z)) ?_ ?_⟩
      · rintro i x σ J hx ⟨o1, o2, o3, o4, rfl, I⟩
        obtain ⟨g, hg, u, dv, rfl, hu2, hds⟩ := paired_at hgs hx
        obtain ⟨f', okf, ef⟩ := hok.drop i g hg
        obtain ⟨g0, g3, x1, x2, x3, gb, g4, _⟩ := okf
        have hi : i < 4 := by
          have := (List.getElem?_eq_some_iff.mp hx).1
          rw [hgs.length] at this
          omega
        obtain ⟨rw1, es, vs, nrw1, TJ, eJ, hes, les, hes0, tJ, pJ⟩ := I.ex
        have kJ := I.kp
        refine ⟨u, _, rfl, SqT.of (kJ.t.tup hu2), rfl, _, _, rfl, _, _, rfl, _, _, rfl, rfl, ?_⟩
        -- if letter != trial.last_letter(hand)
        refine ⟨fun σ J' => ∃ o4, σ = [some (.ref l), some (.ref gp), some (.ref tb), some (.ref en), some (.ref to), some (.int g.hd), some (.int g.x), some dv, o4] ∧ DsI A H J' t n tb hd gn en to (dl1 (dlT t (gs.take i)) g) (i + 1) (tolds t (gs.take i)), ?_, ?_⟩
        · obtain ⟨dxJ, eTJ⟩ := TJ.at_
          refine ⟨_, rfl, _, rfl, tb, dxJ, _, rfl, eTJ, rfl, _, rfl, tb, rw1, hd, gn, _, _, g.hd, rfl, TJ, rfl, _, rfl, ite2 (fun z => ?_) (fun z => ?_)⟩
          · have hne : ¬ g.x = lastL (dlT t (gs.take i)).hands g.hd := by
              intro y
              rw [y] at z
              simp at z
            have ed : dl1 (dlT t (gs.take i)) g = (dlT t (gs.take i)).next (.deal g.hd g.x g.ds) := if_neg hne
            refine ⟨_, rfl, _, rfl, _, rfl, sz 4 (by decide), fun q nq => ?_⟩
            have kq : Kp No J (upd J q (.tup [.str "deal", .int g.hd, .int g.x, dv])) := Kp.new nq
            have hq : upd J q (.tup [.str "deal", .int g.hd, .int g.x, dv]) q = some (.tup [.str "deal", .int g.hd, .int g.x, dv]) := upd_same
            have hev : EvAt (upd J q (.tup [.str "deal", .int g.hd, .int g.x, dv])) (.ref q) (.deal g.hd g.x g.ds) := ⟨q, dv, rfl, hq, (hds.kt kJ.t).kt kq.t⟩
            generalize upd J q (.tup [.str "deal", .int g.hd, .int g.x, dv]) = J1 at kq hev ⊢
            have T1 := TJ.no kq.t
            obtain ⟨dx1, e1⟩ := T1.at_
            refine ⟨_, rfl, tb, dx1, _, rfl, e1, rfl, _, rfl, tb, rw1, hd, gn, _, _, .ref q, .deal g.hd g.x g.ds, rfl, T1, hev, ⟨g0, g3, g4⟩, (fun _ z => by cases z), by omega, fun J2 rw2 hrw2 T2 k2 => ?_⟩
            have n_l : ∀ {c : Addr} {ys : List V}, J c = some (.lst ys) → ¬ (c = tb ∨ c = hd) := fun e y => by
              obtain ⟨_, q2⟩ := TJ.hands.dc
              rcases y with y | y
              · exact ne_of e eTJ (by intro z; cases z) y
              · exact ne_of e q2 (by intro z; cases z) y
            have kJ2 : Kp (fun b => b = tb ∨ b = hd) J J2 := (kq.sub fun _ z => False.elim z).trans k2 fun b z => .inl z
            have e2 := kJ2.t.lst eJ (n_l eJ)
            have to2 := kJ2.t.lst tJ (n_l tJ)
            obtain ⟨dx3, e3⟩ := T2.at_
            refine ⟨_, rfl, .inl ⟨rfl, _, SqL.of e2⟩, _, rfl, tb, A.c 64, dx3, _, _, rfl, e3, T.cl_Table, T.n_Table_number, l_num .., _, rfl, sz 2 (by decide), fun u2 nu2 => ⟨en, es, _, rfl, rfl, by rw [upd_ne (ne_of_none e2 nu2)]; exact e2, szL (by omega), ?_⟩⟩
            have ku : Kp No J2 (upd J2 u2 (.tup [.int ((dlT t (gs.take i)).next (.deal g.hd g.x g.ds)).num, .ref q])) := Kp.new nu2
            have hu3 : upd J2 u2 (.tup [.int ((dlT t (gs.take i)).next (.deal g.hd g.x g.ds)).num, .ref q]) u2 = some (.tup [.int ((dlT t (gs.take i)).next (.deal g.hd g.x g.ds)).num, .ref q]) := upd_same
            refine ⟨_, rfl, ?_⟩
            have e2u : upd J2 u2 (.tup [.int ((dlT t (gs.take i)).next (.deal g.hd g.x g.ds)).num, .ref q]) en = some (.lst es) := ku.t.lst e2 fun z => z
            show DsI A H (upd (upd J2 u2 (.tup [.int ((dlT t (gs.take i)).next (.deal g.hd g.x g.ds)).num, .ref q])) en (.lst (es ++ [.ref u2]))) t n tb hd gn en to _ _ _
            generalize upd J2 u2 (.tup [.int ((dlT t (gs.take i)).next (.deal g.hd g.x g.ds)).num, .ref q]) = J3 at ku hu3 e2u ⊢
            have ka : Kp (fun b => b = en) J3 (upd J3 en (.lst (es ++ [.ref u2]))) := Kp.updL e2u rfl
            have hev3 := (hev.kt k2.t).kt ku.t
            have T3 := T2.no ku.t
            have nen : ∀ b, b = en → ¬ tF tb rw2 hd gn b := fun b z y => by
              obtain ⟨dx9, e9⟩ := T3.at_
              obtain ⟨_, q1⟩ := T3.rows.dc
              obtain ⟨_, q2⟩ := T3.hands.dc
              obtain ⟨_, q3⟩ := T3.gone.dc
              rw [z] at y
              rcases y with y | y | y | y
              · exact ne_of e2u e9 (by intro z; cases z) y
              · exact ne_of e2u q1 (by intro z; cases z) y
              · exact ne_of e2u q2 (by intro z; cases z) y
              · exact ne_of e2u q3 (by intro z; cases z) y
            have kJ4 : Kp (fun b => b = tb ∨ b = hd ∨ b = en) J (upd J3 en (.lst (es ++ [.ref u2]))) := ((kJ2.sub (F' := fun b => b = tb ∨ b = hd ∨ b = en) fun b z => z.imp id .inl).trans ku fun _ z => False.elim z).trans ka fun b z => .inl (.inr (.inr z))
            have nrw2 : H rw2 = none := hrw2.elim (fun y => by rw [y]; exact nrw1) fun y => (kJ.trans kq fun _ z => False.elim z).free y fun z => False.elim z
            rw [ed]
            refine ⟨⟨rw2, es ++ [.ref u2], vs, nrw2, (T3.kt ka.t nen).le (by omega), upd_same, fun v hv => ?_, by rw [List.length_append, List.length_singleton]; omega, fun z => by simp at z, kJ4.t.lst tJ ?_, pJ.mono fun _ _ z => z.kt kJ4.t⟩, ?_, ?_⟩
            · rcases List.mem_append.mp hv with z | z
              · exact (hes v z).kt kJ4.t
              · rw [List.mem_singleton.mp z]
                exact ⟨u2, _, .ref q, .deal g.hd g.x g.ds, rfl, ka.t.tup hu3, (by have := I.num; show 0 ≤ (dlT t (gs.take i)).num + 1; omega), hev3.kt ka.t, ⟨g0, g3, g4⟩⟩
            · rintro (z | z | z)
              · exact n_l tJ (.inl z)
              · exact n_l tJ (.inr z)
              · exact nte z
            · refine kp_fresh ((kJ.sub (F' := fun b => b = tb ∨ b = hd ∨ b = en) fun _ z => False.elim z).trans kJ4 fun b z => .inl z) fun b z => ?_
              rcases z with z | z | z <;> rw [z] <;> assumption
            · have := I.num
              show 0 ≤ (dlT t (gs.take i)).num + 1
              omega
          · have heq : g.x = lastL (dlT t (gs.take i)).hands g.hd := by simpa using z
            have ed : dl1 (dlT t (gs.take i)) g = dlT t (gs.take i) := if_pos heq
            refine ⟨_, rfl, ?_⟩
            rw [ed]
            exact I.le (Nat.le_succ i)
        · rintro σ J' ⟨o4', rfl, I'⟩
          obtain ⟨rw2, es2, vs2, nrw2, T2, e2J, hes2, les2, hes02, t2J, p2J⟩ := I'.ex
          have lvs : vs2.length ≤ 4 := by rw [p2J.length, tolds_len, List.length_take]; omega
          obtain ⟨num, b, hh⟩ := dl1_hand (dlT t (gs.take i)) g x1
          obtain ⟨dx4, e4⟩ := T2.at_
          obtain ⟨kvs, hdk, hkl, hk, hv⟩ := T2.hands
          have q := hv g.hd
          rw [hh] at q
          obtain ⟨u4, q1, q2⟩ := q
          have dg : DGet J' hd (.int g.hd) (some (.ref u4)) := by
            have := DGet.k (k := Sum.inl g.hd) hdk
            rw [q1] at this
            exact this
          refine ⟨_, rfl, .inl ⟨rfl, _, SqL.of t2J⟩, _, rfl, tb, A.c 64, dx4, _, _, rfl, e4, T.cl_Table, T.n_Table_hands, l_hands .., _, rfl, hd, .ref u4, rfl, dg, 1, rfl, u4, _, rfl, SqT.of q2, (fun z => absurd z.1 (by show ¬ HT.sIx 3 0 (some 1) = 0; decide)), fun p np => ⟨to, vs2, _, rfl, rfl, by rw [upd_ne (ne_of_none t2J np)]; exact t2J, szL (by omega), ?_⟩⟩
          have kp : Kp No J' (upd J' p (.tup [.int num, .bl b])) := Kp.new np
          have hp : upd J' p (.tup [.int num, .bl b]) p = some (.tup [.int num, .bl b]) := upd_same
          have tp2 : upd J' p (.tup [.int num, .bl b]) to = some (.lst vs2) := kp.t.lst t2J fun z => z
          refine ⟨_, _, _, _, rfl, ?_⟩
          show DsI A H (upd (upd J' p (.tup [.int num, .bl b])) to (.lst (vs2 ++ [.ref p]))) t n tb hd gn en to _ _ _
          generalize upd J' p (.tup [.int num, .bl b]) = J3 at kp hp tp2 ⊢
          have ka : Kp (fun b => b = to) J3 (upd J3 to (.lst (vs2 ++ [.ref p]))) := Kp.updL tp2 rfl
          have T3 := T2.no kp.t
          have nto3 : ∀ b, b = to → ¬ tF tb rw2 hd gn b := fun b z y => by
            obtain ⟨dx9, e9⟩ := T3.at_
            obtain ⟨_, q1⟩ := T3.rows.dc
            obtain ⟨_, q2⟩ := T3.hands.dc
            obtain ⟨_, q3⟩ := T3.gone.dc
            rw [z] at y
            rcases y with y | y | y | y
            · exact ne_of tp2 e9 (by intro z; cases z) y
            · exact ne_of tp2 q1 (by intro z; cases z) y
            · exact ne_of tp2 q2 (by intro z; cases z) y
            · exact ne_of tp2 q3 (by intro z; cases z) y
          have kJ4 : Kp (fun b => b = to) J' (upd J3 to (.lst (vs2 ++ [.ref p]))) := (kp.sub fun _ z => False.elim z).trans ka fun b z => .inl z
          have et : dlT t (gs.take (i + 1)) = dl1 (dlT t (gs.take i)) g := by rw [take_snoc hg, dlT_snoc]
          have eo : tolds t (gs.take (i + 1)) = tolds t (gs.take i) ++ [(num, b)] := by
            rw [take_snoc hg, tolds_snoc]
            unfold toldOf
            rw [hh]
          rw [et, eo]
          refine ⟨⟨rw2, es2, vs2 ++ [.ref p], nrw2, T3.kt ka.t nto3, kJ4.t.lst e2J (fun z => nte z.symm), (fun v hv => (hes2 v hv).kt kJ4.t), les2, hes02, upd_same, paired_app (p2J.mono fun _ _ z => z.kt kJ4.t) (.cons ⟨p, rfl, ka.t.tup hp⟩ .nil)⟩, ?_, I'.num⟩
          exact kp_fresh ((I'.kp.sub (F' := fun b => b = to) fun _ z => False.elim z).trans kJ4 fun b z => .inl z) fun b z => by rw [z]; exact ntoH
      · rintro σ J ⟨o1, o2, o3, o4, rfl, I⟩
        rw [hgs.length, List.take_length] at I
        exact ⟨o1, o2, o3, o4, rfl, I⟩
    · rintro σ J ⟨o1, o2, o3, o4, rfl, I⟩
      obtain ⟨rw1, es, vs, nrw1, TJ, eJ, hes, les, hes0, tJ, pJ⟩ := I.ex
      have hnew : ∀ b, tF tb rw1 hd gn b → H b = none := fun b z => by
        rcases z with z | z | z | z <;> rw [z] <;> assumption
      have LJ := L.kt I.kp.t fun _ z => False.elim z
      have nlF : ∀ b, H b = none → ¬ lF l a b := fun b z y => by
        obtain ⟨o, eo⟩ := L.there y
        rw [z] at eo; cases eo
      refine ⟨fun σ G => σ = [some (.ref l), some (.ref gp), some (.ref tb), some (.ref en), some (.ref to), o1, o2, o3, o4] ∧ ∃ a' m' vs, LeadAt A K G l a' (dlT t gs) (n + 20) m' ∧ Enough m' e ∧ a'.d = a.d ∧ (∀ b, lF l a' b → lF l a b ∨ H b = none) ∧ Kg (tL tp) (lF l a) H G ∧ (a'.cs = a.cs ∧ a'.bg = a.bg ∧ a'.sh = a.sh) ∧ ¬ lF l a' to ∧ G to = some (.lst vs) ∧ Paired (TpAt G) vs (tolds t gs), ?_, ?_⟩
      · refine ⟨_, rfl, !es.isEmpty, .inl ⟨es, SqL.of eJ, rfl⟩, ?_⟩
        cases es with
        | nil =>
          refine iteF ⟨rfl, a, m, vs, ?_, ?_, rfl, fun b z => .inl z, (Kg.of I.kp).sub fun _ z => False.elim z, ⟨rfl, rfl, rfl⟩, nlF _ ntoH, tJ, pJ⟩
          · rw [hes0 rfl]
            exact ⟨LJ.at_, LJ.sto, LJ.rt, LJ.r0, LJ.tab.le (by omega), LJ.ent, LJ.shf, LJ.n1, LJ.n2, LJ.n3, LJ.ap⟩
          · rcases hen with z | z
            · exact hen0 z
            · exact z.le (by omega)
        | cons v0 es' =>
          have hne : gs ≠ [] := by
            intro z
            rw [z] at les
            exact absurd les (by simp)
          have hen' : Enough m (e + 16) := hen.resolve_left hne
          obtain ⟨dx5, hs5, e5⟩ := LJ.at_
          obtain ⟨dx6, e6⟩ := LJ.tab.at_
          refine iteT ⟨_, rfl, l, dx5, _, rfl, e5, rfl, _, rfl, _, rfl, l, A.c 74, dx5, _, _, rfl, e5, T.cl_Lead, T.n_Lead_table, l_table .., a.tb, dx6, _, rfl, e6, rfl, _, rfl, a.tb, a.rw, a.hd, a.gn, t, n, tb, rw1, hd, gn, _, _, rfl, LJ.tab, TJ, TG.kp I.kp, fun G4 lp ps nlp k4 hlp hps lps => ⟨_, rfl, ?_⟩⟩
          unfold tNil
          show spChange A K tp [.ref l, .ref tb, .ref lp, .ref en] G4 _ _
          have k14 : Kg (tL tp) No H G4 := (Kg.of I.kp).trans k4 fun _ z => False.elim z
          refine ⟨l, a, t, n, m, tb, rw1, hd, gn, _, _, lp, en, ps, v0 :: es', e, rfl, L.kt k14.t (fun _ z => False.elim z), TJ.no k4.t, TG.kg k14, hlp, hps, lps, k4.t.lst eJ (fun z => z), (fun v hv => (hes v hv).kt k4.t), Nat.le_trans les l4, hen', he, nlF _ (I.kp.free nlp fun z => False.elim z), nlF _ nenH, (fun b z => nlF b (hnew b z)), fun G a' m' LG q1 q2 q3 q4 kG qc qb qs => ?_⟩
          have to4 : G4 to = some (.lst vs) := k4.t.lst tJ fun z => z
          have LG' : LeadAt A K G l a' (dlT t gs) (n + 20) m' := ⟨LG.at_, LG.sto, LG.rt, LG.r0, LG.tab.le (by omega), LG.ent, LG.shf, LG.n1, LG.n2, LG.n3, LG.ap⟩
          refine ⟨rfl, a', m', vs, LG', q1, q2, fun b z => (q4 b z).imp id fun y => y.elim (hnew b) fun y => k14.free y fun z => False.elim z, (k14.sub fun _ z => False.elim z).trans kG fun b z => .inl z, ⟨qc, qb, qs⟩, fun z => ?_, kG.t.lst to4 (nlF _ ntoH), pJ.mono fun _ _ z => (z.kt k4.t).kt kG.t⟩
          rcases q4 to z with y | y | y
          · exact nlF _ ntoH y
          · obtain ⟨dx9, e9⟩ := TJ.at_
            obtain ⟨_, r1⟩ := TJ.rows.dc
            obtain ⟨_, r2⟩ := TJ.hands.dc
            obtain ⟨_, r3⟩ := TJ.gone.dc
            rcases y with y | y | y | y
            · exact ne_of tJ e9 (by intro z; cases z) y
            · exact ne_of tJ r1 (by intro z; cases z) y
            · exact ne_of tJ r2 (by intro z; cases z) y
            · exact ne_of tJ r3 (by intro z; cases z) y
          · rw [to4] at y; cases y
      · rintro σ G ⟨rfl, a', m', vs', q1, q2, q3, q4, q5, qc, q6, q7, q8⟩
        exact ⟨_, rfl, k G a' m' to vs' q1 q2 q3 q4 q5 qc ntoH q6 q7 q8⟩
end
end S02

set_option Elab.async false
set_option linter.all false
set_option maxRecDepth 100000
set_option maxHeartbeats 4000000
namespace S02
open PySem PySem.Spec PyProof.Rows L2 K5 SupX GenX
section
variable {P : Program} {w : World} {K : PySem.W.Frag} {mg : Str → Option Value} {base : Heap} {A : Ad} {tp : Nat → Addr} {nr pl B C fI : Addr}
/-! ### Lead() -/
theorem scLi : FnScope ["self", "disk", "houses"] ["self", "disk", "houses"] (defScope s_Lead___init__) := ⟨rfl, rfl, rfl, by decide +kernel, rfl, by decide +kernel, by decide +kernel⟩
def spLInit (A : Ad) (K : PySem.W.Frag) : Sp := fun vs H Q _ => ∃ (l dx d ls lu : Addr) (m : M) (e : Int), vs = [.ref l, .ref d, .int 0] ∧ H l = some (.ins (A.c 74) dx []) ∧ DiskAt (dAd A) H d ls lu m ∧ Good m ∧ m.run = true ∧ m.pend = [] ∧ m.sure = List.replicate 35 .non ∧ m.left = none ∧ 0 ≤ e ∧
  ∀ G a m', Enough m' e → LeadAt A K G l a TT.new 0 m' → a.d = d → (∀ b, lF l a b → b = l ∨ dF d ls lu b ∨ H b = none) → Kp (fun b => b = l ∨ dF d ls lu b) H G → a.cs = [] → a.bg = 0 → Q .non G
theorem ok_linit (T : Txt K mg A) (N : NewRoot K mg nr pl) : ∃ fd, FnOk P w K mg base CX0 6 (A.m 74 0) fd ["self", "disk", "houses"] (spLInit A K) ∧ Binds K fd ["self", "disk", "houses"] [] := by
  obtain ⟨fd, F⟩ := T.m_Lead___init__.fn
  obtain ⟨fdW, Gwithin, bwithin⟩ := ok_within (P := P) (w := w) (base := base) T
  obtain ⟨fd1, G_Store___init__, b_Store___init__⟩ := ok_sinit (P := P) (w := w) (base := base) T N
  obtain ⟨fd2, G_Store_stored_table, b_Store_stored_table⟩ := ok_stored (P := P) (w := w) (base := base) T
  obtain ⟨fd3, G_Store_last_entries, b_Store_last_entries⟩ := ok_last_entries (P := P) (w := w) (base := base) T
  obtain ⟨fd4, G_Shelf___init__, b_Shelf___init__⟩ := ok_hinit (P := P) (w := w) (base := base) T
  obtain ⟨fd5, G_Store_claim, b_Store_claim⟩ := ok_claim (P := P) (w := w) (base := base) T
  refine ⟨fd, F.ok scLi (fun vs H Q E h => ?_) (fun cdv Ar outer s H vs Q E hr h => ?_), F.binds fun _ _ _ _ _ _ us hl => match us, hl with | [_, _, _], _ => rfl⟩
  · obtain ⟨l, dx, d, ls, lu, m, e0, rfl, _⟩ := h
    rfl
  · obtain ⟨l, dx, d, ls, lu, m, e0, rfl, el, D, Gm, hrun, hp, hs, hlf, he0, k⟩ := h
    refine ⟨_, (pss_cons (ps_fld (pv 0) (pe_make (E := E0) T.mk_Store G_Store___init__ (hr.mono (by first | decide | omega)) rfl T.c_Store b_Store___init__ .nil pass0 (pa_cons (pv 1) pa_nil)) rfl)
      (pss_cons (ps_if (pt_not (pt_val (pe_call Gwithin (hr.mono (by first | decide | omega)) rfl T.within.at_ T.within.kp bwithin .nil pass0 (pa_cons (pv 2) (pa_cons pe_int (pa_cons (pe_glob (v := .int 3) rfl T.k_MOST_HOUSES.choose_spec ⟨_, rfl⟩) pa_nil))))))
        (pss_one ps_never)
        pss_nil)
      (pss_cons (ps_fld (pv 0) (pv 2) rfl)
      (pss_cons (ps_fld (pv 0) (pe_meth0 (pe_fld (pv 0) rfl) T.cl_Store T.m_Store_stored_table.me G_Store_stored_table (hr.mono (by first | decide | omega)) b_Store_stored_table .nil pass0) rfl)
      (pss_cons (ps_fld (pv 0) (pe_meth0 (pe_fld (pv 0) rfl) T.cl_Store T.m_Store_last_entries.me G_Store_last_entries (hr.mono (by first | decide | omega)) b_Store_last_entries .nil pass0) rfl)
      (pss_cons (ps_fld (pv 0) (pe_make0 (E := E0) T.mk_Shelf G_Shelf___init__ (hr.mono (by first | decide | omega)) rfl T.c_Shelf b_Shelf___init__ .nil pass0) rfl)
      (pss_cons (ps_fld (pv 0) pe_dnewK rfl)
      (pss_one (ps_expr (pe_meth0 (pe_fld (pv 0) rfl) T.cl_Store T.m_Store_claim.me G_Store_claim (hr.mono (by first | decide | omega)) b_Store_claim .nil pass0)))))))))), ?_⟩
    have lt : ∀ n : Nat, n ≤ 6 → n < 1000 := fun n h => by omega
    -- self.store = Store(disk)
    refine ⟨_, rfl, fun st dx' nst ndx nex => ?_⟩
    have nst0 : upd H dx' (.own st) st = none := (upd_ne nex.symm).trans nst
    have kA : Kp No H (upd (upd H dx' (.own st)) st (.ins (A.c 72) dx' [])) := (Kp.new ndx).andN nst0
    have eA : upd (upd H dx' (.own st)) st (.ins (A.c 72) dx' []) st = some (.ins (A.c 72) dx' []) := upd_same
    unfold tNil
    show spSInit A nr [.ref st, .ref d] (upd (upd H dx' (.own st)) st (.ins (A.c 72) dx' [])) _ _
    generalize upd (upd H dx' (.own st)) st (.ins (A.c 72) dx' []) = HA at kA eA ⊢
    have nld : ¬ dF d ls lu l := by
      obtain ⟨ddx, tpx, sx, ed, _⟩ := D.ex
      obtain ⟨rs, h3, _⟩ := D.uns
      rintro (z | z | z)
      · exact fld_ne el ed (by unfold dfl; intro z; cases z) z
      · exact ne_of el D.sure (by intro z; cases z) z
      · exact ne_of el h3 (by intro z; cases z) z
    refine ⟨st, dx', d, ls, lu, m, rfl, eA, D.kt kA.t (fun _ z => False.elim z), Gm, hrun, hp, by rw [hs]; rfl, fun G0 k0 S0 => ?_⟩
    have nls : l ≠ st := fun z => by rw [z, nst] at el; cases el
    have el0 := k0.t.ins (kA.t.ins el fun z => z) nls
    have kH0 : Kp No H G0 := kp_fresh ((kA.sub (F' := fun b => b = st) fun _ z => False.elim z).trans k0 fun b z => .inl z) fun b z => by rw [z]; exact nst
    refine ⟨rfl, _, rfl, l, A.c 74, dx, _, rfl, el0, T.cl_Lead, T.n_Lead_store, lt 0 (by decide), ?_⟩
    rw [show putF "store" (V.ref st) [] = ([("store", V.ref st)] : List (Str × V)) from rfl]
    have k1 : Kp (fun b => b = l) G0 (upd G0 l (.ins (A.c 74) dx [("store", .ref st)])) := Kp.updI el0 rfl
    have e1 : upd G0 l (.ins (A.c 74) dx [("store", .ref st)]) l = some (.ins (A.c 74) dx [("store", .ref st)]) := upd_same
    generalize upd G0 l (.ins (A.c 74) dx [("store", .ref st)]) = G1 at k1 e1 ⊢
    have nlS : ∀ b, b = l → ¬ sF st d ls lu b := fun b z y => by
      rw [z] at y
      exact y.elim nls nld
    have S1 := S0.kt k1.t nlS
    have kH1 : Kp (fun b => b = l) H G1 := (kH0.sub fun _ z => False.elim z).trans k1 fun b z => .inl z
    -- if not within(houses, 0, MOST_HOUSES)
    refine ⟨_, rfl, _, _, _, rfl, .inl ⟨0, rfl, _, rfl, ?_⟩⟩
    rw [show inB 0 3 0 = true from rfl]
    refine iteF ⟨_, rfl, _, rfl, l, A.c 74, dx, _, rfl, e1, T.cl_Lead, T.n_Lead_houses, lt 1 (by decide), ?_⟩
    rw [show putF "houses" (V.int 0) [("store", V.ref st)] = ([("store", V.ref st), ("houses", V.int 0)] : List (Str × V)) from rfl]
    have k2 : Kp (fun b => b = l) G1 (upd G1 l (.ins (A.c 74) dx [("store", .ref st), ("houses", .int 0)])) := Kp.updI e1 rfl
    have e2 : upd G1 l (.ins (A.c 74) dx [("store", .ref st), ("houses", .int 0)]) l = some (.ins (A.c 74) dx [("store", .ref st), ("houses", .int 0)]) := upd_same
    generalize upd G1 l (.ins (A.c 74) dx [("store", .ref st), ("houses", .int 0)]) = G2 at k2 e2 ⊢
    have S2 := S1.kt k2.t nlS
    have kH2 := kH1.trans k2 fun b z => .inl z
    obtain ⟨dxs, es2⟩ := S2.at_
    -- self.table = self.store.stored_table()
    refine ⟨_, rfl, l, A.c 74, dx, _, _, rfl, e2, T.cl_Lead, T.n_Lead_store, rfl, st, dxs, _, rfl, es2, rfl, st, d, ls, lu, nr, m, rfl, S2, N.rt _, hs, fun G3 tb rw hd gn ntb nrw nhd ngn TB k3 => ?_⟩
    have e3 := k3.t.ins e2 fun z => z
    have S3 := S2.kt k3.t fun _ z => False.elim z
    refine ⟨_, rfl, l, A.c 74, dx, _, rfl, e3, T.cl_Lead, T.n_Lead_table, lt 2 (by decide), ?_⟩
    rw [show putF "table" (V.ref tb) [("store", V.ref st), ("houses", V.int 0)] = ([("store", V.ref st), ("houses", V.int 0), ("table", V.ref tb)] : List (Str × V)) from rfl]
    have k4 : Kp (fun b => b = l) G3 (upd G3 l (.ins (A.c 74) dx [("store", .ref st), ("houses", .int 0), ("table", .ref tb)])) := Kp.updI e3 rfl
    have e4 : upd G3 l (.ins (A.c 74) dx [("store", .ref st), ("houses", .int 0), ("table", .ref tb)]) l = some (.ins (A.c 74) dx [("store", .ref st), ("houses", .int 0), ("table", .ref tb)]) := upd_same
    generalize upd G3 l (.ins (A.c 74) dx [("store", .ref st), ("houses", .int 0), ("table", .ref tb)]) = G4 at k4 e4 ⊢
    have nlT : ∀ b, b = l → ¬ tF tb rw hd gn b := fun b z y => by
      rw [z] at y
      exact tab_ins e3 (by unfold tfl; intro _ _ _ _ z; cases z) TB y
    have TB4 := TB.kt k4.t nlT
    have S4 := S3.kt k4.t nlS
    have kH3 : Kp (fun b => b = l) H G3 := kH2.trans k3 fun _ z => False.elim z
    have kH4 : Kp (fun b => b = l) H G4 := kH3.trans k4 fun b z => .inl z
    obtain ⟨dxs4, es4⟩ := S4.at_
    -- self.entries = self.store.last_entries()
    refine ⟨_, rfl, l, A.c 74, dx, _, _, rfl, e4, T.cl_Lead, T.n_Lead_store, rfl, st, dxs4, _, rfl, es4, rfl, st, d, ls, lu, nr, m, rfl, S4, N.rt _, fun G5 en nen k5 een => ?_⟩
    have e5 := k5.t.ins e4 fun z => z
    refine ⟨_, rfl, l, A.c 74, dx, _, rfl, e5, T.cl_Lead, T.n_Lead_entries, lt 3 (by decide), ?_⟩
    rw [show putF "entries" (V.ref en) [("store", V.ref st), ("houses", V.int 0), ("table", V.ref tb)] = ([("store", V.ref st), ("houses", V.int 0), ("table", V.ref tb), ("entries", V.ref en)] : List (Str × V)) from rfl]
    have k6 : Kp (fun b => b = l) G5 (upd G5 l (.ins (A.c 74) dx [("store", .ref st), ("houses", .int 0), ("table", .ref tb), ("entries", .ref en)])) := Kp.updI e5 rfl
    have e6 : upd G5 l (.ins (A.c 74) dx [("store", .ref st), ("houses", .int 0), ("table", .ref tb), ("entries", .ref en)]) l = some (.ins (A.c 74) dx [("store", .ref st), ("houses", .int 0), ("table", .ref tb), ("entries", .ref en)]) := upd_same
    generalize upd G5 l (.ins (A.c 74) dx [("store", .ref st), ("houses", .int 0), ("table", .ref tb), ("entries", .ref en)]) = G6 at k6 e6 ⊢
    have nel : en ≠ l := ne_of een e5 (by intro z; cases z)
    have een6 := k6.t.lst een nel
    have TB6 := (TB4.no k5.t).kt k6.t nlT
    have S6 := (S4.kt k5.t fun _ z => False.elim z).kt k6.t nlS
    have kH5 : Kp (fun b => b = l) H G5 := kH4.trans k5 fun _ z => False.elim z
    have kH6 : Kp (fun b => b = l) H G6 := kH5.trans k6 fun b z => .inl z
    -- self.shelf = Shelf()
    refine fun sh dxh nsh ndh nxh => ⟨sh, dxh, TT.new, rfl, upd_same, fun G7 cp ncp SH k7 => ?_⟩
    have nsh0 : upd G6 dxh (.own sh) sh = none := (upd_ne nxh.symm).trans nsh
    have k67 : Kp (fun b => b = sh) G6 G7 := ((Kp.new (F := fun b => b = sh) ndh).andN nsh0).trans k7 fun b z => .inl z
    have nshl : l ≠ sh := fun z => by rw [← z, e6] at nsh; cases nsh
    have nshH : H sh = none := kH6.free nsh fun z => absurd z.symm nshl
    have e7 := k67.t.ins e6 nshl
    have nfS : ∀ b, b = sh → ¬ sF st d ls lu b := fun b z y => by
      obtain ⟨dxs6, es6⟩ := S6.at_
      obtain ⟨ddx, tpx, sx, ed, _⟩ := S6.dk.ex
      obtain ⟨rs, h3, _⟩ := S6.dk.uns
      rw [z] at y
      rcases y with y | y | y | y
      · rw [y, es6] at nsh; cases nsh
      · rw [y, ed] at nsh; cases nsh
      · rw [y, S6.dk.sure] at nsh; cases nsh
      · rw [y, h3] at nsh; cases nsh
    have nfT : ∀ b, b = sh → ¬ tF tb rw hd gn b := fun b z y => by
      rw [z] at y
      obtain ⟨o, eo⟩ := TB6.there y
      rw [nsh] at eo; cases eo
    have nfe : ¬ en = sh := fun z => by rw [← z, een6] at nsh; cases nsh
    have S7 := S6.kt k67.t nfS
    have TB7 := TB6.kt k67.t nfT
    have een7 := k67.t.lst een6 nfe
    have ncl : cp ≠ l := fun z => by
      have := (upd_none ncp).2
      have := (upd_none this).2
      rw [z, e6] at this; cases this
    have ncpG : G6 cp = none := (upd_none (upd_none ncp).2).2
    refine ⟨rfl, _, rfl, l, A.c 74, dx, _, rfl, e7, T.cl_Lead, T.n_Lead_shelf, lt 4 (by decide), ?_⟩
    rw [show putF "shelf" (V.ref sh) [("store", V.ref st), ("houses", V.int 0), ("table", V.ref tb), ("entries", V.ref en)] = ([("store", V.ref st), ("houses", V.int 0), ("table", V.ref tb), ("entries", V.ref en), ("shelf", V.ref sh)] : List (Str × V)) from rfl]
    have k8 : Kp (fun b => b = l) G7 (upd G7 l (.ins (A.c 74) dx [("store", .ref st), ("houses", .int 0), ("table", .ref tb), ("entries", .ref en), ("shelf", .ref sh)])) := Kp.updI e7 rfl
    have e8 : upd G7 l (.ins (A.c 74) dx [("store", .ref st), ("houses", .int 0), ("table", .ref tb), ("entries", .ref en), ("shelf", .ref sh)]) l = some (.ins (A.c 74) dx [("store", .ref st), ("houses", .int 0), ("table", .ref tb), ("entries", .ref en), ("shelf", .ref sh)]) := upd_same
    generalize upd G7 l (.ins (A.c 74) dx [("store", .ref st), ("houses", .int 0), ("table", .ref tb), ("entries", .ref en), ("shelf", .ref sh)]) = G8 at k8 e8 ⊢
    -- self.followers = {}
    refine fun fo nfo => ⟨_, rfl, l, A.c 74, dx, _, rfl, (upd_ne (ne_of_none e8 nfo)).trans e8, T.cl_Lead, T.n_Lead_followers, lt 5 (by decide), ?_⟩
    rw [show putF "followers" (V.ref fo) [("store", V.ref st), ("houses", V.int 0), ("table", V.ref tb), ("entries", V.ref en), ("shelf", V.ref sh)] = lfl st 0 tb en sh fo from rfl]
    have k9 : Kp (fun b => b = l) G8 (upd (upd G8 fo (.dK [])) l (.ins (A.c 74) dx (lfl st 0 tb en sh fo))) := (Kp.new nfo).andI ((upd_ne (ne_of_none e8 nfo)).trans e8) rfl
    have e9 : upd (upd G8 fo (.dK [])) l (.ins (A.c 74) dx (lfl st 0 tb en sh fo)) l = some (.ins (A.c 74) dx (lfl st 0 tb en sh fo)) := upd_same
    generalize upd (upd G8 fo (.dK [])) l (.ins (A.c 74) dx (lfl st 0 tb en sh fo)) = G9 at k9 e9 ⊢
    have k79 : Kp (fun b => b = l) G7 G9 := k8.trans k9 fun b z => .inl z
    have S9 := S7.kt k79.t nlS
    have TB9 := TB7.kt k79.t nlT
    have een9 := k79.t.lst een7 nel
    have no0 : ∀ b, ¬ csF ([] : List Cp) b := fun b ⟨x, hx, _⟩ => by cases hx
    have SH9 : ShAt A G9 sh cp 0 [] TT.new := SH.kt k79.t nshl.symm ncl fun b _ y => no0 b y
    have k69 : Kp (fun b => b = l ∨ b = sh) G6 G9 := (k67.sub (F' := fun b => b = l ∨ b = sh) fun b z => .inr z).trans k79 fun b z => .inl (.inl z)
    have kH9 : Kp (fun b => b = l) H G9 := by
      have : Kp (fun b => b = l ∨ b = sh) H G9 := (kH6.sub (F' := fun b => b = l ∨ b = sh) fun b z => .inl z).trans k69 fun b z => .inl z
      intro b o e n
      by_cases y : b = sh
      · rw [y, nshH] at e; cases e
      · exact this b o e fun mu z => z.elim (n mu) y
    obtain ⟨dxs9, es9⟩ := S9.at_
    -- self.store.claim()
    refine ⟨_, rfl, l, A.c 74, dx, _, _, rfl, e9, T.cl_Lead, T.n_Lead_store, l_store .., st, dxs9, _, rfl, es9, rfl, ?_⟩
    show spClaim A K [.ref st] G9 _ _
    refine ⟨st, d, ls, lu, nr, m, 0, e0, rfl, S9, N.rt _, ⟨hrun, fun x e => by rw [hlf] at e; cases e⟩, he0, fun r' G lu' m' hlu kG SG q1 q2 q3 RG => ?_⟩
    have nlS9 : ∀ b, sF st d ls lu b → ¬ tF tb rw hd gn b := tab_sto S9 TB9
    have nle9 : ¬ sF st d ls lu en := by
      obtain ⟨ddx, tpx, sx, ed, _⟩ := S9.dk.ex
      rintro (y | y | y | y)
      · exact ne_of een9 es9 (by intro z; cases z) y
      · exact ne_of een9 ed (by intro z; cases z) y
      · have nenS := S4.dk.sure
        rw [y] at nen
        rw [nen] at nenS; cases nenS
      · obtain ⟨rs, h3, _⟩ := S4.dk.uns
        rw [y] at nen
        rw [nen] at h3; cases h3
    have kF9 : Kp (fun b => b = l ∨ dF d ls lu b) H G := by
      have nstH : H st = none := nst
      have := (kH9.sub (F' := fun b => b = l ∨ sF st d ls lu b) fun b z => .inl z).trans (kG.sub (F' := fun b => b = l ∨ sF st d ls lu b) fun b z => .inr z) fun b z => .inl z
      intro b o e n
      refine this b o e fun mu z => ?_
      rcases z with z | z | z
      · exact n mu (.inl z)
      · rw [z, nst] at e; cases e
      · exact n mu (.inr z)
    have nsF : ∀ {b : Addr}, G9 b = none → b = l ∨ dF d ls lu b ∨ H b = none := fun {b} z => by
      by_cases y : b = l
      · exact .inl y
      · exact .inr (.inr (kH9.free z fun y' => absurd y' y))
    have elG := kG.t.ins e9 (nlS l rfl)
    have shS : ¬ sF st d ls lu sh := nfS sh rfl
    have cpS : ¬ sF st d ls lu cp := sto_dK SH9.dic S9
    have hcpH : H cp = none := kH6.free ncpG fun z => absurd z ncl
    have enH : H en = none := kH4.free nen fun z => absurd z nel
    refine k G ⟨st, d, ls, lu', r', tb, rw, hd, gn, en, sh, cp, fo, 0, []⟩ m' q3 ⟨⟨dx, 0, elG⟩, SG, ⟨0, RG⟩, q1, TB9.kt kG.t nlS9, ⟨[], kG.t.lst een9 nle9, Nat.zero_le _⟩, SH9.kt kG.t shS cpS (fun b _ y => no0 b y), ?_, ?_, ?_, fun b z => absurd z (no0 b)⟩ rfl ?_ kF9 rfl rfl
    · intro z
      exact nle9 (.inr (.inr (.inl z)))
    · intro z
      rcases hlu with y | y
      · exact nle9 (.inr (.inr (.inr (z.trans y))))
      · rw [← show en = lu' from z, een9] at y; cases y
    · intro z
      obtain ⟨o, eo⟩ := TB6.there z
      rw [ncpG] at eo; cases eo
    · have hT : ∀ b, tF tb rw hd gn b → H b = none := fun b z => by
        have nn : ∀ {c : Addr}, G2 c = none → ¬ c = l → H c = none := fun h n => kH2.free h fun z => absurd z n
        have nl2 : ∀ {c : Addr}, G2 c = none → ¬ c = l := fun h z => by rw [z, e2] at h; cases h
        rcases z with z | z | z | z <;> rw [z]
        · exact nn ntb (nl2 ntb)
        · exact nn nrw (nl2 nrw)
        · exact nn nhd (nl2 nhd)
        · exact nn ngn (nl2 ngn)
      rintro b (z | (z | z | z | z) | z | z | z | z | z)
      · exact .inl z
      · rw [show b = st from z]; exact .inr (.inr nst)
      · exact .inr (.inl (.inl z))
      · exact .inr (.inl (.inr (.inl z)))
      · rw [show b = lu' from z]
        exact hlu.elim (fun y => .inr (.inl (.inr (.inr y)))) nsF
      · exact .inr (.inr (hT b z))
      · rw [show b = en from z]; exact .inr (.inr enH)
      · rw [show b = sh from z]; exact .inr (.inr nshH)
      · rw [show b = cp from z]; exact .inr (.inr hcpH)
      · exact absurd z (no0 b)
end
end S02

set_option Elab.async false
set_option linter.all false
set_option maxRecDepth 100000
set_option maxHeartbeats 1000000
namespace S02
open PySem PySem.Spec PyProof.Rows L2 K5 SupX
theorem lay_ints : ∀ ns : List Int, PyData.canLayAll0 (ns.map PyData.int) = true ∧ PyData.depthAll (ns.map PyData.int) = 0
  | [] => ⟨by simp only [List.map_nil, PyData.canLayAll0], by simp only [List.map_nil, PyData.depthAll]⟩
  | n :: ns => by
    obtain ⟨h1, h2⟩ := lay_ints ns
    exact ⟨by simp only [List.map_cons, PyData.canLayAll0, PyData.canLay0, h1, Bool.and_self], by simp only [List.map_cons, PyData.depthAll, PyData.depth, h2]; rfl⟩
theorem dp_ints {K : PySem.W.Frag} {H : Hp} : ∀ ns : List Int, DpAll K H (ns.map V.int) (ns.map PyData.int)
  | [] => .nil
  | n :: ns => .cons (.int n) (dp_ints ns)
theorem shaped_ints (ns : List Int) : SeqAt.shaped (.list (ns.map PyData.int)) = true := by
  obtain ⟨h1, h2⟩ := lay_ints ns
  exact shaped_of (by simp only [PyData.canLay0]; exact h1) (by simp only [PyData.depth, h2]; omega)
theorem shaped_nil : SeqAt.shaped (.list []) = true := shaped_ints []
theorem eqv_nil (ds : List PyData) : PyData.eqv (.list ds) (.list []) = ds.isEmpty := by
  cases ds with
  | nil => simp only [PyData.eqv, PyData.eqvAll, List.isEmpty_nil]
  | cons d ds => simp only [PyData.eqv, PyData.eqvAll, List.isEmpty_cons]
/-- the numbers that the law draws from: the rest of the script at bi, a number -/
structure BoxAt (H : Hp) (bx bi : Addr) : Prop where
  ex : ∃ (ns : List Int) (st : Int), H bx = some (.lst [.ref bi, .int st]) ∧ H bi = some (.lst (ns.map V.int)) ∧ ns.length ≤ 63
  ne : bx ≠ bi
def bF (bx bi : Addr) : Addr → Prop := fun b => b = bx ∨ b = bi
theorem BoxAt.kt {F : Addr → Prop} {H G : Hp} {bx bi : Addr} (k : Kt F H G) (b : BoxAt H bx bi) (n : ∀ a, F a → ¬ bF bx bi a) : BoxAt G bx bi := by
  obtain ⟨ns, st, h1, h2, h3⟩ := b.ex
  exact ⟨⟨ns, st, k.lst h1 fun z => n _ z (.inl rfl), k.lst h2 fun z => n _ z (.inr rfl), h3⟩, b.ne⟩
section
variable {P : Program} {w : World} {K : PySem.W.Frag} {mg : Str → Option Value} {base : Heap} {A : Ad}
theorem sctake : FnScope ["_law_box", "_law_many", "_law_number"] ["_law_box", "_law_many"] (defScope s_take) := ⟨rfl, rfl, rfl, by decide +kernel, rfl, by decide +kernel, by decide +kernel⟩
def spTake : Sp := fun vs H Q _ => ∃ bx bi n, vs = [.ref bx, .int n] ∧ BoxAt H bx bi ∧ 0 < n ∧ n.natAbs < 2 ^ 90 ∧ ∀ r G, 0 ≤ r → r < n → BoxAt G bx bi → Kp (bF bx bi) H G → Q (.int r) G
theorem ok_take (T : Txt K mg A) : ∃ fd, FnOk P w K mg base CX0 1 (A.d 77) fd ["_law_box", "_law_many"] spTake ∧ Binds K fd ["_law_box", "_law_many"] [] := by
  obtain ⟨fd, F⟩ := T.take.fn
  refine ⟨fd, F.ok sctake (fun vs H Q E h => ?_) (fun cdv Ar outer s H vs Q E hr h => ?_), F.binds fun _ _ _ _ _ _ us hl => match us, hl with | [_, _], _ => rfl⟩
  · obtain ⟨bx, bi, n, rfl, _⟩ := h
    rfl
  · obtain ⟨bx, bi, n, rfl, B, hn, hw, k⟩ := h
    obtain ⟨ns, st, h1, h2, h3⟩ := B.ex
    refine ⟨_, (pss_cons (ps_if (pt_cmpR (op_eqD hr.units) (pe_ix ix_list (pv 0) pe_int (fun _ _ => rfl)) (pe_lst pa_nil) (nomark _))
        (pss_cons (ps_asg (pe_op op_mod (pe_op op_mul (pe_ix ix_list (pv 0) pe_int (fun _ _ => rfl)) pe_int) pe_int) (pg_sub (pv 0) pe_int set_list))
        (pss_one (ps_ret (pe_op op_mod (pe_op op_fdiv (pe_ix ix_list (pv 0) pe_int (fun _ _ => rfl)) pe_int) (pv 1)))))
        pss_nil)
      (pss_cons (ps_set (i := 2) sctake.nd rfl (Or.inl rfl) (pe_ix ix_list (pe_ix ix_list (pv 0) pe_int (fun _ _ => rfl)) pe_int (fun _ _ => rfl)))
      (pss_cons (ps_asg (pe_op op_fdivW (pv 2) (pv 1)) (pg_sub (pe_ix ix_list (pv 0) pe_int (fun _ _ => rfl)) pe_int set_list))
      (pss_cons (ps_if (PW.pt (pw_or (pt_cmpR op_eq (pe_ix ix_list (pe_ix ix_list (pv 0) pe_int (fun _ _ => rfl)) pe_int (fun _ _ => rfl)) pe_int (nomark _)) (pw_or1 (pt_cmpR op_eq (pe_ix ix_list (pe_ix ix_list (pv 0) pe_int (fun _ _ => rfl)) pe_int (fun _ _ => rfl)) (pe_un un_neg pe_int) (nomark _)))))
        (pss_one (ps_expr (pe_bm PySem.F.plainAttrs_list PySem.F.slot_list_pop PySem.F.type_list_pop mt_popAt (pe_ix ix_list (pv 0) pe_int (fun _ _ => rfl)) (pa_cons pe_int pa_nil))))
        pss_nil)
      (pss_one (ps_ret (pe_op op_mod (pv 2) (pv 1)))))))), ?_⟩
    -- if _law_box[0] == []
    refine ⟨_, rfl, bx, _, 0, .ref bi, rfl, rfl, SqL.of h1, rfl, Nat.zero_le _, fun e ne => ?_⟩
    have g1 : upd H e (.lst []) bx = some (.lst [.ref bi, .int st]) := by rw [upd_ne (ne_of_none h1 ne)]; exact h1
    have g2 : upd H e (.lst []) bi = some (.lst (ns.map V.int)) := by rw [upd_ne (ne_of_none h2 ne)]; exact h2
    have k0 : Kp (bF bx bi) H (upd H e (.lst [])) := Kp.new ne
    refine ⟨_, _, .lst (SqL.of g2) (dp_ints ns), .lst (SqL.of upd_same) .nil, shaped_ints ns, shaped_nil, _, rfl, ?_⟩
    rw [eqv_nil]
    cases ns with
    | nil =>
      refine iteT ?_
      refine ⟨_, rfl, bx, _, 1, .int st, rfl, rfl, SqL.of g1, rfl, _, _, rfl, rfl, .inr (by decide), _, _, rfl, rfl, by show (0 : Int) < 2147483647; decide, _, rfl, bx, _, 1, 1, rfl, rfl, g1, rfl, ?_⟩
      refine ⟨_, rfl, bx, _, 1, _, rfl, rfl, SqL.of upd_same, rfl, _, _, rfl, rfl, ⟨by decide, by decide⟩, _, rfl, _, _, rfl, rfl, hn, ?_⟩
      refine k _ _ (Int.emod_nonneg _ (by omega)) (Int.emod_lt_of_pos _ hn) ⟨⟨[], _, upd_same, by rw [upd_ne B.ne.symm]; exact g2, Nat.zero_le _⟩, B.ne⟩ (k0.andL g1 (.inl rfl))
    | cons n0 ns =>
      refine iteF ?_
      have hf : ∀ a : Int, 0 ≤ a % n ∧ a % n < n := fun a => ⟨Int.emod_nonneg _ (by omega), Int.emod_lt_of_pos _ hn⟩
      refine ⟨_, rfl, bx, _, 0, .ref bi, rfl, rfl, SqL.of g1, rfl, bi, _, 0, .int n0, rfl, rfl, SqL.of g2, atI_nat (j := 0) rfl, ?_⟩
      refine ⟨_, rfl, _, rfl, _, _, rfl, rfl, wide_div hn hw (by decide) (by decide), _, rfl, bx, _, 0, .ref bi, rfl, rfl, SqL.of g1, rfl, bi, _, 0, 0, rfl, rfl, g2, ixN_in (by decide) (by simp only [List.length_map, List.length_cons]; omega), ?_⟩
      have k1 := k0.andL (o' := .lst (V.int (n0 / n) :: ns.map V.int)) g2 (.inr rfl)
      have j1 : upd (upd H e (.lst [])) bi (.lst (V.int (n0 / n) :: ns.map V.int)) bx = some (.lst [.ref bi, .int st]) := by rw [upd_ne B.ne]; exact g1
      have fin1 : BoxAt (upd (upd H e (.lst [])) bi (.lst (V.int (n0 / n) :: ns.map V.int))) bx bi := ⟨⟨n0 / n :: ns, st, j1, upd_same, h3⟩, B.ne⟩
      have last : ∀ (σ : L2.St) (J : Hp), σ = [some (.ref bx), some (.int n), some (.int n0)] → BoxAt J bx bi → Kp (bF bx bi) H J → tRet (tOp (rI (fun _ j => 0 < j) fun i j => .int (i % j)) (tVar 2) (tVar 1)) { nx := fun _ G => Q .non G, rt := Q } σ J := fun σ J e b kj => by
        subst e
        exact ⟨_, rfl, _, rfl, _, _, rfl, rfl, hn, k _ _ (hf n0).1 (hf n0).2 b kj⟩
      have pop : tDrop (tBM K "list" rPopAt (tOp (rIxL K) (tVar 0) (tC (.int 0))) (tCons (tC (.int 0)) tNil)) { nx := tRet (tOp (rI (fun _ j => 0 < j) fun i j => .int (i % j)) (tVar 2) (tVar 1)) { nx := fun _ G => Q .non G, rt := Q }, rt := Q } [some (.ref bx), some (.int n), some (.int n0)] (upd (upd H e (.lst [])) bi (.lst (V.int (n0 / n) :: ns.map V.int))) := by
        refine ⟨_, rfl, bx, _, 0, .ref bi, rfl, rfl, SqL.of j1, rfl, .inl ⟨rfl, _, SqL.of upd_same⟩, bi, _, 0, 0, V.int (n0 / n), rfl, rfl, upd_same, by decide, by decide, ?_, rfl, ?_⟩
        · exact (ixN_seq (ixN_in (by decide) (by simp only [List.length_map, List.length_cons]; omega))).1
        · refine last _ _ rfl ⟨⟨ns, st, by rw [upd_ne B.ne]; exact j1, upd_same, by rw [List.length_cons] at h3; omega⟩, B.ne⟩ (k1.andL upd_same (.inr rfl))
      refine ⟨_, rfl, bx, _, 0, .ref bi, rfl, rfl, SqL.of j1, rfl, bi, _, 0, .int (n0 / n), rfl, rfl, SqL.of upd_same, atI_nat (j := 0) rfl, rfl, _, rfl, ?_⟩
      refine ite2 (fun _ => iteT pop) (fun _ => ?_)
      refine ⟨_, rfl, bx, _, 0, .ref bi, rfl, rfl, SqL.of j1, rfl, bi, _, 0, .int (n0 / n), rfl, rfl, SqL.of upd_same, atI_nat (j := 0) rfl, 1, rfl, rfl, _, rfl, ?_⟩
      exact ite2 (fun _ => pop) (fun _ => last _ _ rfl fin1 k1)
/-! ### begun -/
theorem scbegun : FnScope ["_law_script", "_law_stirred", "_law_cell"] ["_law_script"] (defScope s_begun) := ⟨rfl, rfl, rfl, by decide +kernel, rfl, by decide +kernel, by decide +kernel⟩
def spBegun (K : PySem.W.Frag) : Sp := fun vs H Q _ => ∃ (a : Addr) (ns : List Int), vs = [.ref a] ∧ SqL K H a (ns.map V.int) ∧ ns.length ≤ 63 ∧ ∀ G bx bi, H bx = none → H bi = none → BoxAt G bx bi → Kp No H G → Q (.ref bx) G
theorem ok_begun (T : Txt K mg A) : ∃ fd, FnOk P w K mg base CX0 1 (A.d 76) fd ["_law_script"] (spBegun K) ∧ Binds K fd ["_law_script"] [] := by
  obtain ⟨fd, F⟩ := T.begun.fn
  refine ⟨fd, F.ok scbegun (fun vs H Q E h => ?_) (fun cdv Ar outer s H vs Q E hr h => ?_), F.binds fun _ _ _ _ _ _ us hl => match us, hl with | [_], _ => rfl⟩
  · obtain ⟨a, ns, rfl, _⟩ := h
    rfl
  · obtain ⟨a, ns, rfl, hS, hl, k⟩ := h
    refine ⟨_, (pss_cons (ps_set (i := 1) scbegun.nd rfl (Or.inl rfl) pe_int)
      (pss_cons (ps_for PassesOwn.never rfl (pi_list (pv 0)) (pg_name (i := 2) scbegun.nd rfl (Or.inl rfl))
        (pss_one (ps_set (i := 1) scbegun.nd rfl (Or.inl rfl) (pe_op op_mod (pe_op op_add (pe_op op_add (pe_op op_mul (pv 1) pe_int) (pe_op op_mul (pv 2) pe_int)) pe_int) pe_int))))
      (pss_one (ps_ret (pe_lst (pa_cons (pe_callTy call_list_of (by rfl) T.list (by decide +kernel) (pa_cons (pv 0) pa_nil)) (pa_cons (pe_op op_mul (pv 1) (pe_callTy call_int1 (by rfl) T.int (by decide +kernel) (pa_cons (pe_cmpR op_gt (pe_callB call_len_seq (by rfl) T.len PySem.boot_len (pa_cons (pv 0) pa_nil)) pe_int (nomark _)) pa_nil))) pa_nil))))))), ?_⟩
    refine ⟨_, rfl, a, rfl, ⟨_, hS⟩, for_list (K := K) (a := a) (xs := ns.map V.int) (fun i σ G => G = H ∧ ∃ st o, σ = [some (.ref a), some (.int st), o] ∧ 0 ≤ st ∧ st < 2147483647) ⟨rfl, 0, none, rfl, by decide, by decide⟩ (fun i σ G _ ⟨e, _⟩ => by rw [e]; exact hS) ?_ ?_⟩
    · rintro i y σ G hi ⟨rfl, st, o, rfl, h0, h1⟩
      obtain ⟨z, rfl⟩ : ∃ z, y = V.int z := by
        rw [List.getElem?_map] at hi
        cases e : ns[i]? with
        | none =>
          rw [e] at hi
          cases hi
        | some z =>
          rw [e] at hi
          exact ⟨z, (Option.some.inj hi).symm⟩
      refine ⟨_, rfl, _, _, rfl, rfl, .inr (by decide), _, rfl, _, _, rfl, rfl, .inr (by decide), _, _, rfl, rfl, _, _, rfl, rfl, _, _, rfl, rfl, by show (0 : Int) < 2147483647; decide, ?_⟩
      exact ⟨rfl, _, _, rfl, Int.emod_nonneg _ (by decide), Int.emod_lt_of_pos _ (by decide)⟩
    · rintro σ G ⟨rfl, st, o, rfl, h0, h1⟩
      refine ⟨_, rfl, a, _, rfl, .inl hS, fun bi nbi => ?_⟩
      have hS2 : SqL K (upd G bi (.lst (ns.map V.int))) a (ns.map V.int) := Same.seq (fun b o e => by rw [upd_ne (ne_of_none e nbi)]; exact e) hS
      refine ⟨_, rfl, _, rfl, a, _, rfl, .inl hS2, _, _, rfl, rfl, .inr ⟨_, rfl, _, _, rfl, rfl, .inl ⟨by omega, by omega⟩, sz 2 (by decide), fun bx nbx => ?_⟩⟩
      obtain ⟨nxi, nbx'⟩ := upd_none nbx
      exact k _ bx bi nbx' nbi ⟨⟨ns, _, upd_same, by rw [upd_ne nxi.symm, upd_same], hl⟩, nxi⟩ ((Kp.new (F := No) nbi).andN nbx)
end
end S02

set_option Elab.async false
set_option linter.all false
set_option maxRecDepth 100000
set_option maxHeartbeats 1000000
/-! ### the law's own tables -/
namespace S02
open PySem PySem.Spec PyProof.Rows L2 K5 SupX GenX
def ofs (r h : Addr) (m num : Int) : List (Key × V) := [(.inr "rows", .ref r), (.inr "hands", .ref h), (.inr "moment", .int m), (.inr "number", .int num)]
/-- the keys are 0 to 31, each once -/
def RkAt (H : Hp) (a : Addr) : Prop := ∃ kvs, H a = some (.dK kvs) ∧ ∃ ks : List Int, kvs.map (·.1) = ks.map Sum.inl ∧ ks.Nodup ∧ ∀ k ∈ ks, 0 ≤ k ∧ k ≤ 31
theorem RkAt.kt {F : Addr → Prop} {H G : Hp} (k : Kt F H G) {a : Addr} (h : RkAt H a) (n : ¬ F a) : RkAt G a := let ⟨kvs, e, q⟩ := h; ⟨kvs, k.dK e n, q⟩
theorem RkAt.copy {H G : Hp} {a b : Addr} {kvs : List (Key × V)} (h : RkAt H a) (hd : H a = some (.dK kvs)) (hb : G b = some (.dK kvs)) : RkAt G b := by
  obtain ⟨kv2, e, q⟩ := h
  obtain rfl : kvs = kv2 := by rw [e] at hd; cases hd; rfl
  exact ⟨kvs, hb, q⟩
theorem RkAt.put {H : Hp} {a : Addr} {kvs : List (Key × V)} {j : Int} {v : V} (h : RkAt H a) (hd : H a = some (.dK kvs)) (h0 : 0 ≤ j) (h1 : j ≤ 31) : RkAt (upd H a (.dK (putK kvs (.inl j) v))) a := by
  obtain ⟨kv2, e, ks, e1, nd, r⟩ := h
  obtain rfl : kvs = kv2 := by rw [e] at hd; cases hd; rfl
  refine ⟨_, upd_same, ?_⟩
  rw [keys_put]
  split
  · exact ⟨ks, e1, nd, r⟩
  · rename_i hn
    have nj : j ∉ ks := fun z => hn (by rw [val_mem, e1]; exact List.mem_map.mpr ⟨j, z, rfl⟩)
    refine ⟨ks ++ [j], by rw [e1, List.map_append]; rfl, ?_, fun k hk => ?_⟩
    · rw [List.nodup_append]
      refine ⟨nd, by simp, fun x hx y hy z => ?_⟩
      rw [List.mem_singleton.mp hy] at z
      exact nj (z ▸ hx)
    · rcases List.mem_append.mp hk with z | z
      · exact r k z
      · rw [List.mem_singleton.mp z]; exact ⟨h0, h1⟩
theorem RkAt.del {H : Hp} {a : Addr} {kvs : List (Key × V)} {j : Int} (h : RkAt H a) (hd : H a = some (.dK kvs)) : RkAt (upd H a (.dK (dropK kvs (.inl j)))) a := by
  obtain ⟨kv2, e, ks, e1, nd, r⟩ := h
  obtain rfl : kvs = kv2 := by rw [e] at hd; cases hd; rfl
  refine ⟨_, upd_same, ks.filter (fun k => !decide (k = j)), ?_, nd.filter _, fun k hk => r k (List.mem_filter.mp hk).1⟩
  have : ∀ (ks : List Int) (kvs : List (Key × V)), kvs.map (·.1) = ks.map Sum.inl → (dropK kvs (.inl j)).map (·.1) = (ks.filter (fun k => !decide (k = j))).map Sum.inl := by
    intro ks
    induction ks with
    | nil =>
      intro kvs e
      have : kvs = [] := by simpa using e
      rw [this]
      rfl
    | cons k ks ih =>
      intro kvs e
      cases kvs with
      | nil => cases e
      | cons p kvs =>
        obtain ⟨e1, e2⟩ := List.cons.inj e
        obtain ⟨pk, pv⟩ := p
        have e1 : pk = Sum.inl k := e1
        subst e1
        have := ih kvs e2
        unfold dropK at this ⊢
        rw [List.filter_cons, List.filter_cons]
        by_cases hk : k = j
        · rw [if_neg (by simp [hk]), if_neg (by simp [hk])]
          exact this
        · rw [if_pos (by simp [hk]), if_pos (by simp [hk]), List.map_cons, List.map_cons, this]
  exact this ks kvs e1
structure StL (H : Hp) (s r h : Addr) (t : TT) (n : Nat) : Prop where
  dc : H s = some (.dK (ofs r h t.mom t.num))
  rows : RwAt H r t.rows n
  hands : HnAt H h t.hands n
  sr : s ≠ r
  sh : s ≠ h
  rh : r ≠ h
  rk : RkAt H r
theorem StL.kt {F : Addr → Prop} {H G : Hp} (k : Kt F H G) {s r h : Addr} {t : TT} {n : Nat} (S : StL H s r h t n) (nf : ∀ b kvs, H b = some (.dK kvs) → (b = s ∨ b = r ∨ b = h) → ¬ F b) : StL G s r h t n := by
  obtain ⟨k1, e1⟩ := S.rows.dc
  obtain ⟨k2, e2⟩ := S.hands.dc
  exact ⟨k.dK S.dc (nf _ _ S.dc (.inl rfl)), S.rows.kt k (nf _ _ e1 (.inr (.inl rfl))), S.hands.kt k (nf _ _ e2 (.inr (.inr rfl))), S.sr, S.sh, S.rh, S.rk.kt k (nf _ _ e1 (.inr (.inl rfl)))⟩
theorem StL.no {H G : Hp} {s r h : Addr} {t : TT} {n : Nat} (S : StL H s r h t n) (k : Kp No H G) : StL G s r h t n := S.kt k.t fun _ _ _ _ z => z
theorem StL.le {H : Hp} {s r h : Addr} {t : TT} {n m : Nat} (S : StL H s r h t n) (l : n ≤ m) : StL H s r h t m := ⟨S.dc, S.rows.le l, S.hands.le l, S.sr, S.sh, S.rh, S.rk⟩
theorem o_rows {r h : Addr} {m num : Int} : valV (ofs r h m num) (.inr "rows" : Key) = some (.ref r) := rfl
theorem o_hands {r h : Addr} {m num : Int} : valV (ofs r h m num) (.inr "hands" : Key) = some (.ref h) := rfl
theorem o_moment {r h : Addr} {m num : Int} : valV (ofs r h m num) (.inr "moment" : Key) = some (.int m) := rfl
theorem o_number {r h : Addr} {m num : Int} : valV (ofs r h m num) (.inr "number" : Key) = some (.int num) := rfl
theorem q_rows {r h x : Addr} {m num : Int} : putK (ofs r h m num) (.inr "rows" : Key) (.ref x) = ofs x h m num := rfl
theorem q_moment {r h : Addr} {m num x : Int} : putK (ofs r h m num) (.inr "moment" : Key) (.int x) = ofs r h x num := rfl
theorem q_number {r h : Addr} {m num x : Int} : putK (ofs r h m num) (.inr "number" : Key) (.int x) = ofs r h m x := rfl
/-- an item of a dict with text keys is read -/
theorem dgS {H : Hp} {a : Addr} {kvs : List (Key × V)} {k : Str} {v : V} (h : H a = some (.dK kvs)) (e : valV kvs (.inr k : Key) = some v) : DGet H a (.str k) (some v) := by
  have := DGet.k (k := Sum.inr k) h
  rw [e] at this
  exact this
section
variable {P : Program} {w : World} {K : PySem.W.Frag} {mg : Str → Option Value} {base : Heap} {A : Ad}
theorem scstore : FnScope [] [] (defScope s_store) := ⟨rfl, rfl, rfl, by decide +kernel, rfl, by decide +kernel, by decide +kernel⟩
def spStore : Sp := fun vs H Q _ => vs = [] ∧ ∀ G s r h, H s = none → H r = none → H h = none → StL G s r h TT.new 0 → Kp No H G → Q (.ref s) G
theorem ok_store (T : Txt K mg A) : ∃ fd, FnOk P w K mg base CX0 1 (A.d 82) fd [] spStore ∧ Binds K fd [] [] := by
  obtain ⟨fd, F⟩ := T.store.fn
  refine ⟨fd, F.ok scstore (fun vs H Q E h => ?_) (fun cdv Ar outer s H vs Q E hr h => ?_), F.binds fun _ _ _ _ _ _ us hl => match us, hl with | [], _ => rfl⟩
  · obtain ⟨rfl, _⟩ := h
    rfl
  · obtain ⟨rfl, k⟩ := h
    refine ⟨_, (pss_one (ps_ret (pe_disp (pps_cons pe_str pe_dnewK (pps_cons pe_str pe_dnewK (pps_cons pe_str pe_int (pps_cons pe_str pe_int pps_nil)))) (by rfl) (by rfl) (fun z => by cases z) (by decide)))), ?_⟩
    refine fun s ns r nr h nh => ?_
    obtain ⟨a1, nr'⟩ := upd_none nr
    obtain ⟨b1, nh'⟩ := upd_none nh
    obtain ⟨b2, nh'⟩ := upd_none nh'
    refine ⟨by rw [upd_ne b2.symm, upd_ne a1.symm, upd_same], ofs r h 0 0, rfl, by show 4 ≤ 15; decide, ?_⟩
    have e0 : mergeK [] (ofs r h 0 0) = ofs r h 0 0 := rfl
    rw [e0]
    refine k _ s r h ns nr' nh' ⟨upd_same, ⟨[], ?_, Nat.le_refl _, fun j => rfl⟩, ⟨[], ?_, Nat.le_refl _, ⟨⟨[], rfl, .nil⟩, fun _ z => absurd rfl z⟩, fun j => rfl⟩, a1.symm, b2.symm, b1.symm, ⟨[], ?_, [], rfl, .nil, fun _ z => nomatch z⟩⟩ ?_
    · rw [upd_ne a1, upd_ne b1.symm, upd_same]
    · rw [upd_ne b2, upd_same]
    · rw [upd_ne a1, upd_ne b1.symm, upd_same]
    · have kd : Kp (fun b => b = s) H _ := ((Kp.new (o := .dK []) ns).andN (o' := .dK []) nr).andN (o' := .dK []) nh
      exact kp_fresh (kd.andD (by rw [upd_ne b2.symm, upd_ne a1.symm, upd_same]) rfl) fun b z => by rw [z]; exact ns
theorem scseen : FnScope ["_law_store_here", "_law_key", "_law_row"] ["_law_store_here", "_law_key"] (defScope s_seen) := ⟨rfl, rfl, rfl, by decide +kernel, rfl, by decide +kernel, by decide +kernel⟩
def spSeen : Sp := fun vs H Q _ => ∃ (s r h : Addr) (j : Int) (t : TT) (n : Nat), vs = [.ref s, .int j] ∧ StL H s r h t n ∧ ∀ G, Kp No H G → Q (oV (seen t.mom t.rows j)) G
theorem ok_seen (T : Txt K mg A) : ∃ fd, FnOk P w K mg base CX0 1 (A.d 84) fd ["_law_store_here", "_law_key"] spSeen ∧ Binds K fd ["_law_store_here", "_law_key"] [] := by
  obtain ⟨fd, F⟩ := T.seen.fn
  refine ⟨fd, F.ok scseen (fun vs H Q E h => ?_) (fun cdv Ar outer s0 H vs Q E hr h => ?_), F.binds fun _ _ _ _ _ _ us hl => match us, hl with | [_, _], _ => rfl⟩
  · obtain ⟨s, r, h, j, t, n, rfl, _⟩ := h
    rfl
  · obtain ⟨s, r, h, j, t, n, rfl, S, k⟩ := h
    have hu := hu_of hr
    refine ⟨_, (pss_cons (ps_set (i := 2) scseen.nd rfl (Or.inl rfl) (pe_dget2 hu (pe_dget hu (pv 0) pe_str (fun _ _ => rfl)) (pv 1) (pe_tup (pa_cons pe_non (pa_cons pe_int pa_nil))) ⟨rfl, rfl, rfl, rfl⟩))
      (pss_one (ps_ret (pe_ifExp (PW.pt (pw_or (pt_cmpR op_eq (pe_ix ix_tup (pv 2) pe_int (fun _ _ => rfl)) pe_int (nomark _)) (pw_or1 (pt_cmpR op_gt (pe_ix ix_tup (pv 2) pe_int (fun _ _ => rfl)) (pe_dget hu (pv 0) pe_str (fun _ _ => rfl)) (nomark _))))) (pe_ix ix_tup (pv 2) pe_int (fun _ _ => rfl)) pe_non)))), ?_⟩
    obtain ⟨kvs, hd, hl, hf⟩ := S.rows
    refine ⟨_, rfl, s, _, rfl, dgS S.dc o_rows, r, rfl, .inl ⟨kvs, .inl hd⟩, _, rfl, sz 2 (by decide), fun u nu => ?_⟩
    have ku : Kp No H (upd H u (.tup [.non, .int 0])) := Kp.new nu
    have hd2 := (upd_ne (o := .tup [V.non, .int 0]) (ne_of_none hd nu)).trans hd
    have hs2 := (upd_ne (o := .tup [V.non, .int 0]) (ne_of_none S.dc nu)).trans S.dc
    have q := hf j
    have kk := k _ ku
    unfold seen at kk
    refine ⟨_, DGet.k (k := Sum.inl j) hd2, ?_⟩
    cases e : t.rows j with
    | none =>
      rw [e] at q kk
      rw [q]
      refine ⟨_, rfl, u, _, 1, _, rfl, rfl, SqT.of upd_same, rfl, rfl, _, rfl, iteT (iteT ?_)⟩
      exact ⟨_, rfl, u, _, 0, _, rfl, rfl, SqT.of upd_same, rfl, kk⟩
    | some p =>
      obtain ⟨wt, en⟩ := p
      rw [e] at q kk
      obtain ⟨t1, q1, q2⟩ := q
      rw [q1]
      have ht := (upd_ne (o := .tup [V.non, .int 0]) (ne_of_none q2 nu)).trans q2
      have kk : Q (oV (if shB en t.mom = true then some wt else none)) _ := kk
      unfold shB at kk
      refine ⟨_, rfl, t1, _, 1, _, rfl, rfl, SqT.of ht, rfl, rfl, _, rfl, ?_⟩
      have yes : ∀ G, G = upd H u (.tup [V.non, .int 0]) → Q (oV (some wt)) G → tRet (tOp (rIxT K) (tVar 2) (tC (.int 0))) { nx := fun _ G => Q .non G, rt := Q } [some (.ref s), some (.int j), some (.ref t1)] G := fun G e q => by
        subst e
        exact ⟨_, rfl, t1, _, 0, _, rfl, rfl, SqT.of ht, rfl, q⟩
      by_cases h1 : en = 0
      · have : decide (V.int en = V.int 0) = true := by rw [h1]; rfl
        rw [this]
        rw [decide_eq_true h1, Bool.true_or, if_pos rfl] at kk
        exact iteT (iteT (yes _ rfl kk))
      · have : decide (V.int en = V.int 0) = false := by simpa using h1
        rw [this]
        rw [decide_eq_false h1, Bool.false_or] at kk
        refine iteF ⟨_, rfl, t1, _, 1, _, rfl, rfl, SqT.of ht, rfl, _, rfl, s, _, rfl, dgS hs2 o_moment, _, _, rfl, rfl, _, rfl, ?_⟩
        by_cases h2 : t.mom < en
        · rw [decide_eq_true h2, if_pos rfl] at kk
          rw [decide_eq_true h2]
          exact iteT (yes _ rfl kk)
        · rw [decide_eq_false h2] at kk
          rw [decide_eq_false h2]
          exact iteF kk
end
end S02

set_option Elab.async false
set_option linter.all false
set_option maxRecDepth 100000
set_option maxHeartbeats 2000000
namespace S02
open PySem PySem.Spec PyProof.Rows L2 K5 SupX GenX
section
variable {P : Program} {w : World} {K : PySem.W.Frag} {mg : Str → Option Value} {base : Heap} {A : Ad}
theorem scagain : FnScope ["_law_store_here", "_law_found"] ["_law_store_here"] (defScope s_again) := ⟨rfl, rfl, rfl, by decide +kernel, rfl, by decide +kernel, by decide +kernel⟩
def spAgain : Sp := fun vs H Q _ => ∃ (s r h : Addr) (t : TT) (n : Nat), vs = [.ref s] ∧ StL H s r h t n ∧ ∀ G s' r' h', H s' = none → H r' = none → H h' = none → StL G s' r' h' t n → Kp No H G → Q (.ref s') G
theorem ok_again (T : Txt K mg A) : ∃ fd, FnOk P w K mg base CX0 1 (A.d 83) fd ["_law_store_here"] spAgain ∧ Binds K fd ["_law_store_here"] [] := by
  obtain ⟨fd, F⟩ := T.again.fn
  refine ⟨fd, F.ok scagain (fun vs H Q E h => ?_) (fun cdv Ar outer s0 H vs Q E hr h => ?_), F.binds fun _ _ _ _ _ _ us hl => match us, hl with | [_], _ => rfl⟩
  · obtain ⟨s, r, h, t, n, rfl, _⟩ := h
    rfl
  · obtain ⟨s, r, h, t, n, rfl, S, k⟩ := h
    have hu := hu_of hr
    refine ⟨_, (pss_cons (ps_set (i := 1) scagain.nd rfl (Or.inl rfl) (pe_disp (pps_cons pe_str (pe_callTy call_dictD (by rfl) T.dict (by decide +kernel) (pa_cons (pe_dget hu (pv 0) pe_str (fun _ _ => rfl)) pa_nil)) (pps_cons pe_str (pe_callTy call_dictD (by rfl) T.dict (by decide +kernel) (pa_cons (pe_dget hu (pv 0) pe_str (fun _ _ => rfl)) pa_nil)) pps_nil)) (by rfl) (by rfl) (fun z => by cases z) (by decide)))
      (pss_cons (ps_expr (pe_bm PySem.F.plainAttrs_dict PySem.F.slot_dict_update PySem.F.type_dict_update (mt_updP rfl) (pv 1) (pa_cons (pe_lst (pa_cons (pe_tup (pa_cons pe_str (pa_cons (pe_dget hu (pv 0) pe_str (fun _ _ => rfl)) pa_nil))) (pa_cons (pe_tup (pa_cons pe_str (pa_cons (pe_dget hu (pv 0) pe_str (fun _ _ => rfl)) pa_nil))) pa_nil))) pa_nil)))
      (pss_one (ps_ret (pv 1))))), ?_⟩
    obtain ⟨kr, hdr⟩ := S.rows.dc
    obtain ⟨kh, hdh⟩ := S.hands.dc
    refine fun d nd => ?_
    have k1 : Kp No H (upd H d (.dK [])) := Kp.new nd
    have ks1 := k1.t.dK S.dc fun z => z
    have kr1 := k1.t.dK hdr fun z => z
    refine ⟨_, rfl, s, _, rfl, dgS ks1 o_rows, r, kr, rfl, .inl kr1, fun r' nr => ?_⟩
    have k2 := k1.andN (o' := .dK kr) nr
    refine ⟨_, rfl, s, _, rfl, dgS (k2.t.dK S.dc fun z => z) o_hands, h, kh, rfl, .inl (k2.t.dK hdh fun z => z), fun h' nh => ?_⟩
    have k3 := k2.andN (o' := .dK kh) nh
    obtain ⟨a1, nr'⟩ := upd_none nr
    obtain ⟨b1, nh'⟩ := upd_none nh
    obtain ⟨b2, nh'⟩ := upd_none nh'
    have hd3 : upd (upd (upd H d (.dK [])) r' (.dK kr)) h' (.dK kh) d = some (.dK []) := by rw [upd_ne b2.symm, upd_ne a1.symm, upd_same]
    refine ⟨hd3, [(.inr "rows", .ref r'), (.inr "hands", .ref h')], rfl, by show 2 ≤ 15; decide, ?_⟩
    have e0 : mergeK [] [((.inr "rows" : Key), V.ref r'), (.inr "hands", .ref h')] = [(.inr "rows", .ref r'), (.inr "hands", .ref h')] := rfl
    rw [e0]
    have kd : Kp (fun b => b = d) H (upd (upd (upd H d (.dK [])) r' (.dK kr)) h' (.dK kh)) := (((Kp.new (o := .dK []) nd).andN (o' := .dK kr) nr).andN (o' := .dK kh) nh)
    have kd4 : Kp (fun b => b = d) H (upd (upd (upd (upd H d (.dK [])) r' (.dK kr)) h' (.dK kh)) d (.dK [(.inr "rows", .ref r'), (.inr "hands", .ref h')])) := kd.andD hd3 rfl
    have k4 : Kp No H _ := kp_fresh kd4 fun b z => by rw [z]; exact nd
    generalize hG4 : upd (upd (upd (upd H d (.dK [])) r' (.dK kr)) h' (.dK kh)) d (.dK [(.inr "rows", .ref r'), (.inr "hands", .ref h')]) = G4 at kd4 k4 ⊢
    have g4d : G4 d = some (.dK [(.inr "rows", .ref r'), (.inr "hands", .ref h')]) := by rw [← hG4, upd_same]
    have g4r : G4 r' = some (.dK kr) := by rw [← hG4, upd_ne a1, upd_ne b1.symm, upd_same]
    have g4h : G4 h' = some (.dK kh) := by rw [← hG4, upd_ne b2, upd_same]
    refine ⟨_, rfl, .inr (.inr (.inl ⟨rfl, .inl ⟨_, g4d⟩⟩)), _, rfl, s, _, rfl, dgS (k4.t.dK S.dc fun z => z) o_moment, sz 2 (by decide), fun p1 n1 => ?_⟩
    have k5 := k4.andN (o' := .tup [.str "moment", .int t.mom]) n1
    refine ⟨_, rfl, s, _, rfl, dgS (k5.t.dK S.dc fun z => z) o_number, sz 2 (by decide), fun p2 n2 => ?_⟩
    have k6 := k5.andN (o' := .tup [.str "number", .int t.num]) n2
    refine ⟨sz 2 (by decide), fun l nl => ?_⟩
    have q4 : Kp No G4 (upd (upd (upd G4 p1 (.tup [.str "moment", .int t.mom])) p2 (.tup [.str "number", .int t.num])) l (.lst [.ref p1, .ref p2])) := ((Kp.new n1).andN n2).andN nl
    have g7d := q4.t.dK g4d fun z => z
    obtain ⟨c1, _⟩ := upd_none n2
    obtain ⟨c2, nl2⟩ := upd_none nl
    obtain ⟨c3, _⟩ := upd_none nl2
    refine ⟨d, l, [p1, p2], [(.inr "rows", .ref r'), (.inr "hands", .ref h')], [(.inr "moment", .int t.mom), (.inr "number", .int t.num)], rfl, rfl, g7d, SqL.of upd_same, .cons (SqT.of (by rw [upd_ne c3.symm, upd_ne c1.symm, upd_same]; rfl)) (.cons (SqT.of (by rw [upd_ne c2.symm, upd_same]; rfl)) .nil), sz 4 (by decide), ?_⟩
    have e1 : mergeK [((.inr "rows" : Key), V.ref r'), (.inr "hands", .ref h')] [(.inr "moment", .int t.mom), (.inr "number", .int t.num)] = ofs r' h' t.mom t.num := rfl
    rw [e1]
    have k7 : Kp (fun b => b = d) H _ := (kd4.trans (F' := No) q4 fun _ z => False.elim z).andD (o' := .dK (ofs r' h' t.mom t.num)) g7d rfl
    have k8 : Kp No H _ := kp_fresh k7 fun b z => by rw [z]; exact nd
    have g8r : upd (upd (upd (upd G4 p1 (.tup [.str "moment", .int t.mom])) p2 (.tup [.str "number", .int t.num])) l (.lst [.ref p1, .ref p2])) d (.dK (ofs r' h' t.mom t.num)) r' = some (.dK kr) := by rw [upd_ne a1]; exact q4.t.dK g4r fun z => z
    have g8h : upd (upd (upd (upd G4 p1 (.tup [.str "moment", .int t.mom])) p2 (.tup [.str "number", .int t.num])) l (.lst [.ref p1, .ref p2])) d (.dK (ofs r' h' t.mom t.num)) h' = some (.dK kh) := by rw [upd_ne b2]; exact q4.t.dK g4h fun z => z
    exact ⟨_, rfl, k _ d r' h' nd nr' nh' ⟨upd_same, S.rows.copy hdr g8r k8.t, S.hands.copy hdh g8h k8.t, a1.symm, b2.symm, b1.symm, S.rk.copy hdr g8r⟩ k8⟩
end
end S02

set_option Elab.async false
set_option linter.all false
set_option maxRecDepth 100000
set_option maxHeartbeats 2000000
namespace S02
open PySem PySem.Spec PyProof.Rows L2 K5 SupX GenX
theorem split_at {α : Type} {xs : List α} {i : Nat} {x : α} (h : xs[i]? = some x) : xs = xs.take i ++ x :: xs.drop (i + 1) := by
  obtain ⟨h1, h2⟩ := List.getElem?_eq_some_iff.mp h
  conv => lhs; rw [← List.take_append_drop i xs]
  rw [List.drop_eq_getElem_cons h1, h2]
theorem scal_oV (a b : Option Int) : scal (oV a) (oV b) = true := by cases a <;> cases b <;> rfl
section
variable {P : Program} {w : World} {K : PySem.W.Frag} {mg : Str → Option Value} {base : Heap} {A : Ad}
theorem sctried : FnScope ["_law_store_here", "_law_deal_here", "_law_trial", "_law_deed_here", "_law_key", "_law_worth"] ["_law_store_here", "_law_deal_here"] (defScope s_tried) := ⟨rfl, rfl, rfl, by decide +kernel, rfl, by decide +kernel, by decide +kernel⟩
def spTried : Sp := fun vs H Q _ => ∃ (s r h : Addr) (v : V) (t : TT) (n : Nat) (ds : List Dd), vs = [.ref s, v] ∧ StL H s r h t n ∧ DsAt H v ds ∧ (∀ d ∈ ds, d.ok = true) ∧ n + ds.length ≤ 15000 ∧
  ∀ G, Kp No H G → (steps t.mom t.rows ds = none → Q .non G) ∧ ∀ f b, steps t.mom t.rows ds = some f → H b = none → RwAt G b f (n + ds.length) → RkAt G b → Q (.ref b) G
theorem ok_tried (T : Txt K mg A) : ∃ fd, FnOk P w K mg base CX0 2 (A.d 85) fd ["_law_store_here", "_law_deal_here"] spTried ∧ Binds K fd ["_law_store_here", "_law_deal_here"] [] := by
  obtain ⟨fd, F⟩ := T.tried.fn
  obtain ⟨fdA, Gagain, bagain⟩ := ok_again (P := P) (w := w) (base := base) T
  obtain ⟨fdS, Gseen, bseen⟩ := ok_seen (P := P) (w := w) (base := base) T
  refine ⟨fd, F.ok sctried (fun vs H Q E h => ?_) (fun cdv Ar outer s0 H vs Q E hr h => ?_), F.binds fun _ _ _ _ _ _ us hl => match us, hl with | [_, _], _ => rfl⟩
  · obtain ⟨s, r, h, v, t, n, ds, rfl, _⟩ := h
    rfl
  · obtain ⟨s, r, h, v, t, n, ds, rfl, S, ⟨u, xs, rfl, hu2, pa, hl⟩, hdok, hn, k⟩ := h
    have hu := hu_of hr
    refine ⟨_, (pss_cons (ps_set (i := 2) sctried.nd rfl (Or.inl rfl) (pe_call Gagain (hr.mono (by first | decide | omega)) rfl T.again.at_ T.again.kp bagain .nil pass0 (pa_cons (pv 0) pa_nil)))
      (pss_cons (ps_for PassesOwn.never rfl (pi_tup (pv 1)) (pg_name (i := 3) sctried.nd rfl (Or.inl rfl))
        (pss_cons (ps_set (i := 4) sctried.nd rfl (Or.inl rfl) (pe_ix ix_tup (pv 3) pe_int (fun _ _ => rfl)))
        (pss_cons (ps_set (i := 5) sctried.nd rfl (Or.inl rfl) (pe_call Gseen (hr.mono (by first | decide | omega)) rfl T.seen.at_ T.seen.kp bseen .nil pass0 (pa_cons (pv 2) (pa_cons (pv 4) pa_nil))))
        (pss_one (ps_if (pt_cmpR op_eq (pe_ix ix_tup (pv 3) pe_int (fun _ _ => rfl)) pe_str (nomark _))
          (pss_one (ps_dput hu (pe_dget hu (pv 2) pe_str (fun _ _ => rfl)) (pv 4) (pe_tup (pa_cons (pe_ix ix_tup (pv 3) pe_int (fun _ _ => rfl)) (pa_cons (pe_ifExp (pt_cmpR op_eq (pe_ix ix_tup (pv 3) pe_int (fun _ _ => rfl)) pe_int (nomark _)) pe_int (pe_op op_add (pe_dget hu (pv 0) pe_str (fun _ _ => rfl)) (pe_ix ix_tup (pv 3) pe_int (fun _ _ => rfl)))) pa_nil))) rfl))
          (pss_one (ps_if (pt_cmpR op_eq (pe_ix ix_tup (pv 3) pe_int (fun _ _ => rfl)) pe_str (nomark _))
            (pss_one (ps_expr (pe_dpop2 (pe_dget hu (pv 2) pe_str (fun _ _ => rfl)) (pv 4) pe_non ⟨rfl, rfl, rfl, rfl⟩)))
            (pss_one (ps_if (pt_cmpR op_eq (pe_ix ix_tup (pv 3) pe_int (fun _ _ => rfl)) pe_str (nomark _))
              (pss_one (ps_if (pt_cmpR op_ne (pv 5) (pe_ix ix_tup (pv 3) pe_int (fun _ _ => rfl)) (nomark _))
                (pss_one (ps_ret pe_non))
                pss_nil))
              (pss_one (ps_if (PW.pt (pw_or (pt_cmp (pc_isN (pv 5))) (pw_or1 (pt_not (pt_chain op_le op_le pe_int (pe_op op_add (pv 5) (pe_ix ix_tup (pv 3) pe_int (fun _ _ => rfl))) pe_int)))))
                (pss_one (ps_ret pe_non))
                (pss_one (ps_dput hu (pe_dget hu (pv 2) pe_str (fun _ _ => rfl)) (pv 4) (pe_tup (pa_cons (pe_op op_add (pv 5) (pe_ix ix_tup (pv 3) pe_int (fun _ _ => rfl))) (pa_cons (pe_ix ix_tup (pe_dget hu (pe_dget hu (pv 2) pe_str (fun _ _ => rfl)) (pv 4) (fun _ _ => rfl)) pe_int (fun _ _ => rfl)) pa_nil))) rfl)))))))))))))
      (pss_one (ps_ret (pe_dget hu (pv 2) pe_str (fun _ _ => rfl)))))), ?_⟩
    refine ⟨_, rfl, s, r, h, t, n, rfl, S, fun G0 s' r' h' ns nr nh S' k0 => ?_⟩
    have frz : ∀ {G}, Kp (fun b => b = r') G0 G → Kp No H G := fun kp => k0.trans kp fun b z => .inr (by rw [z]; exact nr)
    refine ⟨_, rfl, u, rfl, ⟨_, SqT.of (k0.t.tup hu2)⟩, for_tup (K := K) (a := u) (xs := xs) (fun i σ G => Kp (fun b => b = r') G0 G ∧ (∃ o1 o2 o3, σ = [some (.ref s), some (.ref u), some (.ref s'), o1, o2, o3]) ∧ ∃ f, steps t.mom t.rows (ds.take i) = some f ∧ RwAt G r' f (n + i) ∧ RkAt G r') ⟨Kp.refl _ _, ⟨none, none, none, rfl⟩, t.rows, rfl, S'.rows, S'.rk⟩ (fun i σ G _ ⟨kp, _⟩ => SqT.of ((frz kp).t.tup hu2)) ?_ ?_⟩
    · rintro i x σ G hx ⟨kp, ⟨o1, o2, o3, rfl⟩, f, hf, R, RK⟩
      obtain ⟨d, hd, e, rfl, he⟩ := paired_at pa hx
      have hil : i < ds.length := (List.getElem?_eq_some_iff.mp hd).1
      have sp1 : ds = ds.take i ++ d :: ds.drop (i + 1) := split_at hd
      have heG : G e = some (.tup d.vs) := (frz kp).t.tup he
      have S2 : StL G s' r' h' ⟨f, t.mom, t.num, t.hands⟩ (n + i) := by
        have dh := S'.hands.dc
        obtain ⟨kh, hkh⟩ := dh
        exact ⟨kp.t.dK S'.dc S'.sr, R, (S'.hands.kt kp.t S'.rh.symm).le (by omega), S'.sr, S'.sh, S'.rh, RK⟩
      have none_ : step t.mom f d = none → ∀ G3, Kp No G G3 → Q .non G3 := fun s0 G3 k3 => (k G3 ((frz kp).trans k3 fun _ z => False.elim z)).1 (by rw [sp1, steps_app hf]; simp only [steps, s0])
      have some_ : ∀ f2, step t.mom f d = some f2 → steps t.mom t.rows (ds.take (i + 1)) = some f2 := fun f2 s2 => by rw [take_snoc hd, steps_app hf]; simp only [steps, s2]
      refine ⟨_, rfl, e, _, 1, .int d.key, rfl, rfl, SqT.of heG, (by cases d <;> rfl), ?_⟩
      refine ⟨_, rfl, _, rfl, s', r', h', d.key, ⟨f, t.mom, t.num, t.hands⟩, n + i, rfl, S2, fun G2 k2 => ?_⟩
      have he2 : G2 e = some (.tup d.vs) := k2.t.tup heG
      have R2 : RwAt G2 r' f (n + i) := R.kt k2.t fun z => z
      have s2dc : G2 s' = some (.dK (ofs r' h' t.mom t.num)) := k2.t.dK S2.dc fun z => z
      have sdc : G2 s = some (.dK (ofs r h t.mom t.num)) := ((frz kp).trans k2 fun _ z => False.elim z).t.dK S.dc fun z => z
      have RK2 : RkAt G2 r' := RK.kt k2.t fun z => z
      have hdk := hdok d (List.mem_of_getElem? hd)
      have R2' := R2
      obtain ⟨kvs, hdr, hkl, hfk⟩ := R2'
      have kp2 : Kp (fun b => b = r') G0 G2 := kp.trans (F' := No) k2 fun _ z => False.elim z
      cases d with
      | put j wt l =>
        have hj : 0 ≤ j ∧ j ≤ 31 := by simp only [Dd.ok, Bool.and_eq_true, inB_t] at hdk; omega
        refine ⟨_, rfl, e, _, 0, .str "put", rfl, rfl, SqT.of he2, rfl, rfl, _, rfl, iteT ?_⟩
        refine ⟨_, rfl, e, _, 2, .int wt, rfl, rfl, SqT.of he2, rfl, ?_⟩
        refine ⟨_, rfl, e, _, 3, .int l, rfl, rfl, SqT.of he2, rfl, rfl, _, rfl, ?_⟩
        refine ite2 (fun h0 => ?_) (fun h0 => ⟨_, rfl, s, _, rfl, dgS sdc o_moment, _, rfl, e, _, 3, .int l, rfl, rfl, SqT.of he2, rfl, _, _, rfl, rfl, ?_⟩)
        all_goals
          refine ⟨sz 2 (by decide), fun q nq => ?_⟩
          refine ⟨_, rfl, s', _, rfl, dgS ((upd_ne (ne_of_none s2dc nq)).trans s2dc) o_rows, _, rfl, r', _, rfl, DPut.k (k := Sum.inl j) ((upd_ne (ne_of_none hdr nq)).trans hdr) (szL (by omega)), ?_⟩
          refine ⟨(kp2.andN nq).andD ((upd_ne (ne_of_none hdr nq)).trans hdr) rfl, ⟨_, _, _, rfl⟩, _, some_ _ ?_, (R2.kt (Kp.new (F := No) nq).t fun z => z).put (k := j) ((upd_ne (ne_of_none hdr nq)).trans hdr) upd_same, (RK2.kt (Kp.new (F := No) nq).t fun z => z).put (j := j) ((upd_ne (ne_of_none hdr nq)).trans hdr) hj.1 hj.2⟩
          simp only [step]
          first
            | rw [if_pos (by simpa using h0)]
            | rw [if_neg (by simpa using h0)]
      | drop j =>
        refine ⟨_, rfl, e, _, 0, .str "drop", rfl, rfl, SqT.of he2, rfl, rfl, _, rfl, iteF ?_⟩
        refine ⟨_, rfl, e, _, 0, .str "drop", rfl, rfl, SqT.of he2, rfl, rfl, _, rfl, iteT ?_⟩
        refine ⟨_, rfl, s', _, rfl, dgS s2dc o_rows, r', rfl, .inl ⟨kvs, .inl hdr⟩, _, rfl, kvs, Sum.inl j, hdr, rfl, fun v hv => ?_, fun hv => ?_⟩
        · exact ⟨kp2.andD hdr rfl, ⟨_, _, _, rfl⟩, _, some_ _ rfl, (R2.del (k := j) hdr).le (by omega), RK2.del (j := j) hdr⟩
        · have ef : f.set j none = f := set_none (by
            have := hfk j
            cases e : f j with
            | none => rfl
            | some q =>
              obtain ⟨w', e'⟩ := q
              rw [e] at this
              obtain ⟨t', h1, _⟩ := this
              rw [hv] at h1
              cases h1)
          exact ⟨kp2, ⟨_, _, _, rfl⟩, _, some_ _ rfl, by rw [ef]; exact R2.le (by omega), RK2⟩
      | iff j x =>
        refine ⟨_, rfl, e, _, 0, .str "if", rfl, rfl, SqT.of he2, rfl, rfl, _, rfl, iteF ?_⟩
        refine ⟨_, rfl, e, _, 0, .str "if", rfl, rfl, SqT.of he2, rfl, rfl, _, rfl, iteF ?_⟩
        refine ⟨_, rfl, e, _, 0, .str "if", rfl, rfl, SqT.of he2, rfl, rfl, _, rfl, iteT ?_⟩
        refine ⟨_, rfl, _, rfl, e, _, 2, oV x, rfl, rfl, SqT.of he2, rfl, ?_, _, rfl, ?_⟩
        · exact scal_oV _ _
        · show (if (!decide (oV (seen t.mom f j) = oV x)) = true then _ else _)
          rw [oV_eq]
          by_cases hs : seen t.mom f j = x
          · rw [decide_eq_true hs]
            exact iteF ⟨kp2, ⟨_, _, _, rfl⟩, f, some_ _ (by simp only [step, hs, if_true]), R2.le (by omega), RK2⟩
          · rw [decide_eq_false hs]
            exact iteT (none_ (by simp only [step, hs, if_false]) _ k2)
      | add j x =>
        have hj : 0 ≤ j ∧ j ≤ 31 := by simp only [Dd.ok, Bool.and_eq_true, inB_t] at hdk; omega
        refine ⟨_, rfl, e, _, 0, .str "add", rfl, rfl, SqT.of he2, rfl, rfl, _, rfl, iteF ?_⟩
        refine ⟨_, rfl, e, _, 0, .str "add", rfl, rfl, SqT.of he2, rfl, rfl, _, rfl, iteF ?_⟩
        refine ⟨_, rfl, e, _, 0, .str "add", rfl, rfl, SqT.of he2, rfl, rfl, _, rfl, iteF ?_⟩
        have q := hfk j
        cases ef : f j with
        | none =>
          have z0 : seen t.mom f j = none := by simp only [seen, ef]
          have s0 : step t.mom f (.add j x) = none := by simp only [step, ef]
          show tIfS _ _ _ _ [some (.ref s), some (.ref u), some (.ref s'), some (.ref e), some (.int j), some (oV (seen t.mom f j))] G2
          rw [z0]
          exact ⟨_, rfl, _, rfl, iteT (iteT (none_ s0 _ k2))⟩
        | some p =>
          obtain ⟨wt, en⟩ := p
          rw [ef] at q
          obtain ⟨t1, q1, q2⟩ := q
          show tIfS _ _ _ _ [some (.ref s), some (.ref u), some (.ref s'), some (.ref e), some (.int j), some (oV (seen t.mom f j))] G2
          by_cases hs : shB en t.mom = true
          · have z0 : seen t.mom f j = some wt := by simp only [seen, ef, hs, if_true]
            rw [z0]
            refine ⟨_, rfl, _, rfl, iteF ?_⟩
            refine ⟨_, rfl, _, rfl, e, _, 2, .int x, rfl, rfl, SqT.of he2, rfl, _, _, rfl, rfl, _, _, rfl, rfl, _, rfl, ?_⟩
            have no : inB 0 999 (wt + x) = false → ∀ G3, Kp No G G3 → Q .non G3 := fun hb => none_ (by simp only [step, ef, hs, hb]; rfl)
            have go : inB 0 999 (wt + x) = true → step t.mom f (.add j x) = some (f.set j (some (wt + x, en))) := fun hb => by simp only [step, ef, hs, hb]; rfl
            by_cases h1 : 0 ≤ wt + x
            · rw [decide_eq_true h1]
              refine iteT ⟨_, _, rfl, rfl, _, rfl, ?_⟩
              by_cases h2 : wt + x ≤ 999
              · rw [decide_eq_true h2]
                refine iteF ?_
                refine ⟨_, rfl, _, rfl, e, _, 2, .int x, rfl, rfl, SqT.of he2, rfl, _, _, rfl, rfl, _, rfl, s', _, rfl, dgS s2dc o_rows, _, rfl, r', _, rfl, (by have := DGet.k (k := Sum.inl j) hdr; rw [q1] at this; exact this), t1, _, 1, .int en, rfl, rfl, SqT.of q2, rfl, sz 2 (by decide), fun q nq => ?_⟩
                refine ⟨_, rfl, s', _, rfl, dgS ((upd_ne (ne_of_none s2dc nq)).trans s2dc) o_rows, _, rfl, r', _, rfl, DPut.k (k := Sum.inl j) ((upd_ne (ne_of_none hdr nq)).trans hdr) (szL (by omega)), ?_⟩
                exact ⟨(kp2.andN nq).andD ((upd_ne (ne_of_none hdr nq)).trans hdr) rfl, ⟨_, _, _, rfl⟩, _, some_ _ (go (inB_t.mpr ⟨h1, h2⟩)), (R2.kt (Kp.new (F := No) nq).t fun z => z).put (k := j) ((upd_ne (ne_of_none hdr nq)).trans hdr) upd_same, (RK2.kt (Kp.new (F := No) nq).t fun z => z).put (j := j) ((upd_ne (ne_of_none hdr nq)).trans hdr) hj.1 hj.2⟩
              · rw [decide_eq_false h2]
                exact iteT (no (by simp [inB, h2]) _ k2)
            · rw [decide_eq_false h1]
              exact iteF ⟨_, rfl, iteT (no (by simp [inB, h1]) _ k2)⟩
          · have z0 : seen t.mom f j = none := by simp only [seen, ef, hs, if_false]; rfl
            have s0 : step t.mom f (.add j x) = none := by simp only [step, ef, hs, false_and, if_false]; rfl
            rw [z0]
            exact ⟨_, rfl, _, rfl, iteT (iteT (none_ s0 _ k2))⟩
    · rintro σ G ⟨kp, ⟨o1, o2, o3, rfl⟩, f, hf, R, RK⟩
      rw [pa.length, List.take_length] at hf
      rw [pa.length] at R
      exact ⟨_, rfl, s', _, rfl, dgS (kp.t.dK S'.dc S'.sr) o_rows, (k G (frz kp)).2 f r' hf nr R RK⟩
end
end S02

set_option Elab.async false
set_option linter.all false
set_option maxRecDepth 100000
set_option maxHeartbeats 2000000
namespace S02
open PySem PySem.Spec PyProof.Rows L2 K5 SupX GenX
def oR : Option Addr → V
  | none => .non
  | some b => .ref b
section
variable {P : Program} {w : World} {K : PySem.W.Frag} {mg : Str → Option Value} {base : Heap} {A : Ad}
theorem scdeal : FnScope ["_law_store_here", "_law_hand", "_law_letter", "_law_deal_here", "_law_rows"] ["_law_store_here", "_law_hand", "_law_letter", "_law_deal_here"] (defScope s_deal) := ⟨rfl, rfl, rfl, by decide +kernel, rfl, by decide +kernel, by decide +kernel⟩
def spDeal : Sp := fun vs H Q _ => ∃ (s r h : Addr) (hand x : Int) (v : V) (t : TT) (n : Nat) (ds : List Dd), vs = [.ref s, .int hand, .int x, v] ∧ StL H s r h t n ∧ DsAt H v ds ∧ (∀ d ∈ ds, d.ok = true) ∧ n + ds.length ≤ 14000 ∧ 0 ≤ hand ∧ hand ≤ 3 ∧ 1 ≤ x ∧
  ∀ G r' u, (r' = r ∨ H r' = none) → Kp (fun b => b = s ∨ b = h) H G → StL G s r' h (dl1 t ⟨hand, x, ds⟩) (n + ds.length + 1) → G u = some (.tup [.int (toldOf (dl1 t ⟨hand, x, ds⟩) hand).1, .bl (toldOf (dl1 t ⟨hand, x, ds⟩) hand).2]) → Q (.ref u) G
theorem ok_deal (T : Txt K mg A) : ∃ fd, FnOk P w K mg base CX0 3 (A.d 86) fd ["_law_store_here", "_law_hand", "_law_letter", "_law_deal_here"] spDeal ∧ Binds K fd ["_law_store_here", "_law_hand", "_law_letter", "_law_deal_here"] [] := by
  obtain ⟨fd, F⟩ := T.deal.fn
  obtain ⟨fdT, Gtried, btried⟩ := ok_tried (P := P) (w := w) (base := base) T
  refine ⟨fd, F.ok scdeal (fun vs H Q E h => ?_) (fun cdv Ar outer s0 H vs Q E hr h => ?_), F.binds fun _ _ _ _ _ _ us hl => match us, hl with | [_, _, _, _], _ => rfl⟩
  · obtain ⟨s, r, h, hand, x, v, t, n, ds, rfl, _⟩ := h
    rfl
  · obtain ⟨s, r, h, hand, x, v, t, n, ds, rfl, S, hds, hdok, hn, g0, g3, hx1, k⟩ := h
    have hu := hu_of hr
    refine ⟨_, (pss_cons (ps_if (pt_cmpR op_ne (pe_ix ix_tup (pe_dget2 hu (pe_dget hu (pv 0) pe_str (fun _ _ => rfl)) (pv 1) (pe_tup (pa_cons pe_int pa_nil)) ⟨rfl, rfl, rfl, rfl⟩) pe_int (fun _ _ => rfl)) (pv 2) (nomark _))
        (C8.pss_cut (ps_set (i := 4) scdeal.nd rfl (Or.inl rfl) (pe_call Gtried (hr.mono (by first | decide | omega)) rfl T.tried.at_ T.tried.kp btried .nil pass0 (pa_cons (pv 0) (pa_cons (pv 3) pa_nil))))
        (pss_cons (ps_dput hu (pv 0) pe_str (pe_op op_add (pe_dget hu (pv 0) pe_str (fun _ _ => rfl)) pe_int) rfl)
        (C8.pss_cut (ps_if (pt_cmp (pc_notN (pv 4)))
          (pss_one (ps_dput hu (pv 0) pe_str (pv 4) rfl))
          pss_nil)
        (pss_one (ps_dput hu (pe_dget hu (pv 0) pe_str (fun _ _ => rfl)) (pv 1) (pe_tup (pa_cons (pv 2) (pa_cons (pe_dget hu (pv 0) pe_str (fun _ _ => rfl)) (pa_cons (pe_cmp (pc_notN (pv 4))) pa_nil)))) rfl)))))
        pss_nil)
      (pss_one (ps_ret (pe_slice sl_tup (pe_dget hu (pe_dget hu (pv 0) pe_str (fun _ _ => rfl)) (pv 1) (fun _ _ => rfl)) (po_some pe_int) po_none)))), ?_⟩
    obtain ⟨kh, hdh, hkl, hk, hf⟩ := S.hands
    have q := hf hand
    refine ⟨_, rfl, s, _, rfl, dgS S.dc o_hands, h, rfl, .inl ⟨kh, .inl hdh⟩, _, rfl, sz 1 (by decide), fun u nu => ?_⟩
    have ku : Kp No H (upd H u (.tup [.int 0])) := Kp.new nu
    have hdh2 := ku.t.dK hdh fun z => z
    refine ⟨_, DGet.k (k := Sum.inl hand) hdh2, ?_⟩
    have first : ∃ t1 rest, (valV kh (Sum.inl hand)).getD (.ref u) = .ref t1 ∧ upd H u (.tup [.int 0]) t1 = some (.tup (.int (lastL t.hands hand) :: rest)) := by
      unfold lastL
      cases e : t.hands hand with
      | none =>
        rw [e] at q
        have q : valV kh (.inl hand : Key) = none := q
        rw [q]
        exact ⟨u, [], rfl, upd_same⟩
      | some y =>
        obtain ⟨x1, num1, b1⟩ := y
        rw [e] at q
        obtain ⟨t1, h1, h2⟩ := q
        rw [h1]
        exact ⟨t1, [.int num1, .bl b1], rfl, ku.t.tup h2⟩
    obtain ⟨t1, rest, e1, ht1⟩ := first
    refine ⟨t1, _, 0, .int (lastL t.hands hand), e1, rfl, SqT.of ht1, atI_nat (j := 0) rfl, _, rfl, rfl, _, rfl, ?_⟩
    -- the last row: what is told
    have fin : ∀ (L : Hp) (r' : Addr) (t' : TT) (n' : Nat) (o : Option V), (r' = r ∨ H r' = none) → Kp (fun b => b = s ∨ b = h) H L → StL L s r' h t' n' → n' ≤ n + ds.length + 1 → t' = dl1 t ⟨hand, x, ds⟩ → tRet (tSl (rSlT K) (tDGet (tDGet (tVar 0) (tC (.str "hands"))) (tVar 1)) (tPart (tC (.int 1))) tNoPart) { nx := fun _ G => Q .non G, rt := Q } [some (.ref s), some (.int hand), some (.int x), some v, o] L := fun L r' t' n' o hr' kL SL hle et => by
      obtain ⟨num, b, hh⟩ := dl1_hand t ⟨hand, x, ds⟩ hx1
      have hh : (dl1 t ⟨hand, x, ds⟩).hands hand = some (x, num, b) := hh
      subst et
      obtain ⟨kvs, hdk, _, _, hv⟩ := SL.hands
      have q := hv hand
      rw [hh] at q
      obtain ⟨u4, q1, q2⟩ := q
      have dg : DGet L h (.int hand) (some (.ref u4)) := by
        have := DGet.k (k := Sum.inl hand) hdk
        rw [q1] at this
        exact this
      refine ⟨_, rfl, s, _, rfl, dgS SL.dc o_hands, _, rfl, h, _, rfl, dg, _, rfl, u4, _, rfl, SqT.of q2, (fun z => absurd z.1 (by show ¬ HT.sIx 3 0 (some 1) = 0; decide)), fun p np => ?_⟩
      have kp : Kp No L (upd L p (.tup [.int num, .bl b])) := Kp.new np
      refine k _ r' p hr' (kL.trans (F' := No) kp fun _ z => False.elim z) ((SL.no kp).le hle) ?_
      have : toldOf (dl1 t ⟨hand, x, ds⟩) hand = (num, b) := by unfold toldOf; rw [hh]
      rw [this]
      exact upd_same
    refine ite2 (fun z => ?_) (fun z => ?_)
    rotate_left
    · have heq : x = lastL t.hands hand := by
        have : lastL t.hands hand = x := by simpa using z
        exact this.symm
      have ed : dl1 t ⟨hand, x, ds⟩ = t := if_pos heq
      exact fin _ r t n none (.inl rfl) ((ku.sub fun _ z => False.elim z)) (S.no ku) (by omega) ed.symm
    have hne : ¬ x = lastL t.hands hand := fun y => by
      rw [y] at z
      simp at z
    have ed : dl1 t ⟨hand, x, ds⟩ = t.next (.deal hand x ds) := if_neg hne
    refine ⟨fun σ G => ∃ o r', σ = [some (.ref s), some (.int hand), some (.int x), some v, some (oR o)] ∧ Kp No H G ∧ (r' = r ∨ H r' = none) ∧ RwAt G r' (rowsBe t ds) (n + ds.length) ∧ RkAt G r' ∧ (o = none → r' = r) ∧ (∀ b, o = some b → r' = b) ∧ (!decide (oR o = V.non)) = (steps t.mom t.rows ds).isSome, ?_, ?_⟩
    · refine ⟨_, rfl, _, rfl, s, r, h, v, t, n, ds, rfl, S.no ku, hds.kt ku.t, hdok, by omega, fun G k2 => ⟨fun q => ?_, fun f b q nb R RK => ?_⟩⟩
      · refine ⟨none, r, rfl, ku.trans k2 fun _ z => False.elim z, .inl rfl, ?_, S.rk.kt (ku.trans k2 fun _ z => False.elim z).t (fun z => z), fun _ => rfl, (fun b z => by cases z), by rw [q]; rfl⟩
        unfold rowsBe; rw [q]
        exact (S.rows.kt (ku.trans k2 fun _ z => False.elim z).t fun z => z).le (by omega)
      · refine ⟨some b, b, rfl, ku.trans k2 fun _ z => False.elim z, .inr (ku.free nb fun z => False.elim z), ?_, RK, (fun z => by cases z), (fun b z => by cases z; rfl), by rw [q]; rfl⟩
        unfold rowsBe; rw [q]
        exact R
    · rintro σ G ⟨o, r', rfl, kG, hr', R, RK, ho1, ho2, hso⟩
      have hs : G s = some (.dK (ofs r h t.mom t.num)) := kG.t.dK S.dc fun z => z
      have hh : G h = some (.dK kh) := kG.t.dK hdh fun z => z
      have Hd : HnAt G h t.hands n := S.hands.kt kG.t fun z => z
      have sr' : s ≠ r' := by
        rcases hr' with z | z
        · rw [z]; exact S.sr
        · exact ne_of_none S.dc z
      have rh' : r' ≠ h := by
        rcases hr' with z | z
        · rw [z]; exact S.rh
        · exact (ne_of_none hdh z).symm
      refine ⟨_, rfl, s, _, rfl, dgS hs o_number, _, _, rfl, rfl, _, rfl, s, _, rfl, DPut.k (k := Sum.inr "number") hs (szL (by show 4 ≤ 16000; decide)), ?_⟩
      rw [q_number]
      have k2 : Kp (fun b => b = s ∨ b = h) H (upd G s (.dK (ofs r h t.mom (t.num + 1)))) := (kG.sub fun _ z => False.elim z).andD hs (.inl rfl)
      refine ⟨fun σ J => σ = [some (.ref s), some (.int hand), some (.int x), some v, some (oR o)] ∧ J = upd G s (.dK (ofs r' h t.mom (t.num + 1))), ?_, ?_⟩
      · cases o with
        | none =>
          have e := ho1 rfl
          refine ⟨_, rfl, _, rfl, iteF ⟨rfl, ?_⟩⟩
          rw [e]
        | some b =>
          have e := ho2 b rfl
          refine ⟨_, rfl, _, rfl, iteT ⟨_, rfl, _, rfl, s, _, rfl, DPut.k (k := Sum.inr "rows") upd_same (szL (by show 4 ≤ 16000; decide)), ?_⟩⟩
          refine ⟨rfl, ?_⟩
          show upd (upd G s (.dK (ofs r h t.mom (t.num + 1)))) s (.dK (ofs b h t.mom (t.num + 1))) = _
          rw [upd_upd, e]
      · rintro σ J ⟨rfl, rfl⟩
        have k3 : Kp (fun b => b = s ∨ b = h) H (upd G s (.dK (ofs r' h t.mom (t.num + 1)))) := (kG.sub fun _ z => False.elim z).andD hs (.inl rfl)
        have ks : Kp (fun b => b = s) G (upd G s (.dK (ofs r' h t.mom (t.num + 1)))) := Kp.updD hs rfl
        have hJs : upd G s (.dK (ofs r' h t.mom (t.num + 1))) s = some (.dK (ofs r' h t.mom (t.num + 1))) := upd_same
        generalize upd G s (.dK (ofs r' h t.mom (t.num + 1))) = J at k3 ks hJs ⊢
        have hJh : J h = some (.dK kh) := ks.t.dK hh S.sh.symm
        have HdJ : HnAt J h t.hands n := Hd.kt ks.t S.sh.symm
        have RJ : RwAt J r' (rowsBe t ds) (n + ds.length) := R.kt ks.t sr'.symm
        refine ⟨_, rfl, _, rfl, s, _, rfl, dgS hJs o_number, _, rfl, sz 3 (by decide), fun q nq => ?_⟩
        have kq : Kp No J (upd J q (.tup [.int x, .int (t.num + 1), .bl (!decide (oR o = V.non))])) := Kp.new nq
        have h2 := kq.t.dK hJh fun z => z
        have s2 := kq.t.dK hJs fun z => z
        refine ⟨_, rfl, s, _, rfl, dgS s2 o_hands, _, rfl, h, _, rfl, DPut.k (k := Sum.inl hand) h2 (szL (by omega)), ?_⟩
        have Hd3 := (HdJ.kt kq.t fun z => z).put (j := hand) h2 g0 g3 upd_same
        have k4 : Kp (fun b => b = h) J _ := (kq.sub (F' := fun b => b = h) fun _ z => False.elim z).andD (o' := .dK (putK kh (Sum.inl hand) (.ref q))) h2 rfl
        generalize hL : upd (upd J q (.tup [.int x, .int (t.num + 1), .bl (!decide (oR o = V.non))])) h (.dK (putK kh (Sum.inl hand) (.ref q))) = L at Hd3 k4 ⊢
        have L1 : L s = some (.dK (ofs r' h t.mom (t.num + 1))) := k4.t.dK hJs S.sh
        have L2 : L h = some (.dK (putK kh (Sum.inl hand) (.ref q))) := by rw [← hL, upd_same]
        have nqh : q ≠ h := (ne_of_none hJh nq).symm
        have L3 : L q = some (.tup [.int x, .int (t.num + 1), .bl (!decide (oR o = V.non))]) := by rw [← hL, upd_ne nqh, upd_same]
        have L4 := RJ.kt k4.t rh'
        have k5 : Kp (fun b => b = s ∨ b = h) H L := k3.trans k4 fun b z => .inl (.inr z)
        have eb : (!decide (oR o = V.non)) = (steps t.mom t.rows ds).isSome := hso
        rw [eb] at Hd3
        exact fin L r' _ _ _ hr' k5 ⟨L1, L4.le (by omega), Hd3.le (by omega), sr', S.sh, rh', (RK.kt ks.t sr'.symm).kt k4.t rh'⟩ (Nat.le_refl _) ed.symm
end
end S02

set_option Elab.async false
set_option linter.all false
set_option maxRecDepth 100000
set_option maxHeartbeats 2000000
namespace S02
open PySem PySem.Spec PyProof.Rows L2 K5 SupX GenX
theorem pickM {α : Type} (f : α → V) (l : List α) {r : Int} (h0 : 0 ≤ r) (h1 : r < l.length) : ∃ a, a ∈ l ∧ atI (l.map f) r = some (f a) := by
  have hl : r.toNat < l.length := by omega
  refine ⟨l[r.toNat], List.getElem_mem _, ?_⟩
  unfold atI
  rw [ixN_in h0 (by rw [List.length_map]; exact h1)]
  show (l.map f)[r.toNat]? = _
  rw [List.getElem?_map, List.getElem?_eq_getElem hl]
  rfl
theorem box_nf {H : Hp} {bx bi : Addr} (B : BoxAt H bx bi) {p : Addr → Prop} : ∀ b kvs, H b = some (.dK kvs) → p b → ¬ bF bx bi b := fun b kvs e _ z => by
  obtain ⟨ns, st, h1, h2, _⟩ := B.ex
  rcases z with z | z
  · rw [z, h1] at e; cases e
  · rw [z, h2] at e; cases e
theorem BoxAt.no {H G : Hp} {bx bi : Addr} (B : BoxAt H bx bi) (k : Kp No H G) : BoxAt G bx bi := B.kt k.t fun _ z => False.elim z
theorem BoxAt.new {H : Hp} {bx bi p : Addr} {o : HO} (B : BoxAt H bx bi) (n : H p = none) : BoxAt (upd H p o) bx bi := B.no (Kp.new n)
theorem new_nb {H : Hp} {bx bi p : Addr} (B : BoxAt H bx bi) (n : H p = none) : ¬ bF bx bi p := fun z => by
  obtain ⟨ns, st, h1, h2, _⟩ := B.ex
  rcases z with z | z
  · rw [z, h1] at n; cases n
  · rw [z, h2] at n; cases n
/-- a list that was made ahead of a draw is read behind it -/
theorem pickL {K : PySem.W.Frag} {H G : Hp} {bx bi p : Addr} {α : Type} (f : α → V) (l : List α) {r : Int} (B : BoxAt H bx bi) (n : H p = none) (k : Kp (bF bx bi) (upd H p (.lst (l.map f))) G) (h0 : 0 ≤ r) (h1 : r < l.length) :
    ∃ a, a ∈ l ∧ SqL K G p (l.map f) ∧ atI (l.map f) r = some (f a) := by
  obtain ⟨a, ha, e⟩ := pickM f l h0 h1
  exact ⟨a, ha, SqL.of (k.t.lst upd_same (new_nb B n)), e⟩
def RowsOk (f : Rw) : Prop := ∀ k w e, f k = some (w, e) → inB 0 999 w = true
theorem seen_ok {f : Rw} (h : RowsOk f) (m j : Int) : okW (seen m f j) = true := by
  unfold seen
  cases e : f j with
  | none => rfl
  | some p =>
    obtain ⟨wt, en⟩ := p
    show okW (if shB en m = true then some wt else none) = true
    split
    · exact h j wt en e
    · rfl
theorem rows_set {f : Rw} {j wt e : Int} (h : RowsOk f) (hw : inB 0 999 wt = true) : RowsOk (f.set j (some (wt, e))) := fun k w' e' q => by
  unfold Rw.set at q
  split at q
  · cases q
    exact hw
  · exact h k w' e' q
theorem rows_step {m : Int} {f g : Rw} {d : Dd} (h : RowsOk f) (hd : d.ok = true) (s : step m f d = some g) : RowsOk g := by
  cases d with
  | put j wt l =>
    cases s
    simp only [Dd.ok, Bool.and_eq_true] at hd
    exact rows_set h hd.2.1
  | drop j =>
    cases s
    intro k w' e' q
    unfold Rw.set at q
    split at q
    · cases q
    · exact h k w' e' q
  | add j x =>
    simp only [step] at s
    cases e : f j with
    | none => rw [e] at s; cases s
    | some p =>
      obtain ⟨wt, en⟩ := p
      rw [e] at s
      simp only at s
      split at s
      · rename_i q
        cases s
        exact rows_set h q.2
      · cases s
  | iff j x =>
    simp only [step] at s
    split at s
    · cases s
      exact h
    · cases s
theorem rows_steps {m : Int} : ∀ {ds : List Dd} {f g : Rw}, RowsOk f → (∀ d ∈ ds, d.ok = true) → steps m f ds = some g → RowsOk g
  | [], _, _, h, _, s => by
    cases s
    exact h
  | d :: ds, f, g, h, hd, s => by
    unfold steps at s
    cases q : step m f d with
    | none => rw [q] at s; cases s
    | some f2 =>
      rw [q] at s
      exact rows_steps (rows_step h (hd d List.mem_cons_self) q) (fun e he => hd e (List.mem_cons_of_mem _ he)) s
section
variable {P : Program} {w : World} {K : PySem.W.Frag} {mg : Str → Option Value} {base : Heap} {A : Ad}
theorem scdeed : FnScope ["_law_box", "_law_store_here", "_law_key", "_law_worth", "_law_way", "_law_life"] ["_law_box", "_law_store_here"] (defScope s_deed) := ⟨rfl, rfl, rfl, by decide +kernel, rfl, by decide +kernel, by decide +kernel⟩
def spDeedL : Sp := fun vs H Q _ => ∃ (bx bi s r h : Addr) (t : TT) (n : Nat), vs = [.ref bx, .ref s] ∧ BoxAt H bx bi ∧ StL H s r h t n ∧ RowsOk t.rows ∧
  ∀ G v d, BoxAt G bx bi → Kp (bF bx bi) H G → DdAt G v d → d.ok = true → Q v G
theorem ok_deed (T : Txt K mg A) : ∃ fd, FnOk P w K mg base CX0 2 (A.d 88) fd ["_law_box", "_law_store_here"] spDeedL ∧ Binds K fd ["_law_box", "_law_store_here"] [] := by
  obtain ⟨fd, F⟩ := T.deed.fn
  obtain ⟨fdT, Gtake, btake⟩ := ok_take (P := P) (w := w) (base := base) T
  obtain ⟨fdS, Gseen, bseen⟩ := ok_seen (P := P) (w := w) (base := base) T
  refine ⟨fd, F.ok scdeed (fun vs H Q E h => ?_) (fun cdv Ar outer s0 H vs Q E hr h => ?_), F.binds fun _ _ _ _ _ _ us hl => match us, hl with | [_, _], _ => rfl⟩
  · obtain ⟨bx, bi, s, r, h, t, n, rfl, _⟩ := h
    rfl
  · obtain ⟨bx, bi, s, r, h, t, n, rfl, B, S, ok, k⟩ := h
    have hu := hu_of hr
    refine ⟨_, (pss_cons (ps_set (i := 2) scdeed.nd rfl (Or.inl rfl) (pe_call Gtake (hr.mono (by first | decide | omega)) rfl T.take.at_ T.take.kp btake .nil pass0 (pa_cons (pv 0) (pa_cons (pe_ix ix_list (pe_lst (pa_cons pe_int (pa_cons pe_int (pa_cons pe_int pa_nil)))) (pe_call Gtake (hr.mono (by first | decide | omega)) rfl T.take.at_ T.take.kp btake .nil pass0 (pa_cons (pv 0) (pa_cons pe_int pa_nil))) (fun _ _ => rfl)) pa_nil))))
      (pss_cons (ps_set (i := 3) scdeed.nd rfl (Or.inl rfl) (pe_call Gseen (hr.mono (by first | decide | omega)) rfl T.seen.at_ T.seen.kp bseen .nil pass0 (pa_cons (pv 1) (pa_cons (pv 2) pa_nil))))
      (pss_cons (ps_set (i := 4) scdeed.nd rfl (Or.inl rfl) (pe_call Gtake (hr.mono (by first | decide | omega)) rfl T.take.at_ T.take.kp btake .nil pass0 (pa_cons (pv 0) (pa_cons pe_int pa_nil))))
      (pss_cons (ps_if (pt_cmpR op_lt (pv 4) pe_int (nomark _))
        (pss_cons (ps_set (i := 5) scdeed.nd rfl (Or.inl rfl) (pe_ix ix_list (pe_lst (pa_cons pe_int (pa_cons (pe_op op_add pe_int (pe_call Gtake (hr.mono (by first | decide | omega)) rfl T.take.at_ T.take.kp btake .nil pass0 (pa_cons (pv 0) (pa_cons pe_int pa_nil)))) (pa_cons (pe_op op_add pe_int (pe_call Gtake (hr.mono (by first | decide | omega)) rfl T.take.at_ T.take.kp btake .nil pass0 (pa_cons (pv 0) (pa_cons pe_int pa_nil)))) pa_nil)))) (pe_call Gtake (hr.mono (by first | decide | omega)) rfl T.take.at_ T.take.kp btake .nil pass0 (pa_cons (pv 0) (pa_cons pe_int pa_nil))) (fun _ _ => rfl)))
        (pss_one (ps_ret (pe_tup (pa_cons pe_str (pa_cons (pv 2) (pa_cons (pe_ix ix_list (pe_lst (pa_cons (pe_call Gtake (hr.mono (by first | decide | omega)) rfl T.take.at_ T.take.kp btake .nil pass0 (pa_cons (pv 0) (pa_cons pe_int pa_nil))) (pa_cons pe_int (pa_cons pe_int pa_nil)))) (pe_call Gtake (hr.mono (by first | decide | omega)) rfl T.take.at_ T.take.kp btake .nil pass0 (pa_cons (pv 0) (pa_cons pe_int pa_nil))) (fun _ _ => rfl)) (pa_cons (pv 5) pa_nil))))))))
        pss_nil)
      (pss_cons (ps_if (pt_cmpR op_eq (pv 4) pe_int (nomark _))
        (pss_one (ps_ret (pe_tup (pa_cons pe_str (pa_cons (pv 2) pa_nil)))))
        pss_nil)
      (pss_cons (ps_if (pt_cmpR op_lt (pv 4) pe_int (nomark _))
        (pss_one (ps_ret (pe_tup (pa_cons pe_str (pa_cons (pv 2) (pa_cons (pe_ix ix_list (pe_lst (pa_cons (pe_op op_sub (pe_call Gtake (hr.mono (by first | decide | omega)) rfl T.take.at_ T.take.kp btake .nil pass0 (pa_cons (pv 0) (pa_cons pe_int pa_nil))) pe_int) (pa_cons (pe_op op_sub (pe_call Gtake (hr.mono (by first | decide | omega)) rfl T.take.at_ T.take.kp btake .nil pass0 (pa_cons (pv 0) (pa_cons pe_int pa_nil))) pe_int) pa_nil))) (pe_call Gtake (hr.mono (by first | decide | omega)) rfl T.take.at_ T.take.kp btake .nil pass0 (pa_cons (pv 0) (pa_cons pe_int pa_nil))) (fun _ _ => rfl)) pa_nil))))))
        pss_nil)
      (pss_one (ps_ret (pe_tup (pa_cons pe_str (pa_cons (pv 2) (pa_cons (pe_ix ix_list (pe_lst (pa_cons (pv 3) (pa_cons (pv 3) (pa_cons (pv 3) (pa_cons pe_non (pa_cons (pe_call Gtake (hr.mono (by first | decide | omega)) rfl T.take.at_ T.take.kp btake .nil pass0 (pa_cons (pv 0) (pa_cons pe_int pa_nil))) pa_nil)))))) (pe_call Gtake (hr.mono (by first | decide | omega)) rfl T.take.at_ T.take.kp btake .nil pass0 (pa_cons (pv 0) (pa_cons pe_int pa_nil))) (fun _ _ => rfl)) pa_nil)))))))))))), ?_⟩
    have big : ∀ m : Int, 0 < m → m ≤ 2000 → m.natAbs < 2 ^ 90 := fun m h1 h2 => Nat.lt_of_le_of_lt (by omega : m.natAbs ≤ 2000) (by decide)
    -- the key
    refine ⟨_, rfl, sz 3 (by decide), fun p1 n1 => ⟨_, rfl, bx, bi, 3, rfl, B.new n1, by decide, by decide, fun r1 G1 a1 b1 B1 k1 => ?_⟩⟩
    obtain ⟨m1, hm1, e1⟩ := pickM V.int [2, 6, 32] a1 b1
    have g1 : 2 ≤ m1 ∧ m1 ≤ 32 := by
      simp only [List.mem_cons, List.not_mem_nil, or_false] at hm1
      omega
    have l1 : upd H p1 (.lst [.int 2, .int 6, .int 32]) p1 = some (.lst [.int 2, .int 6, .int 32]) := upd_same
    have nb1 : ¬ bF bx bi p1 := fun z => by
      obtain ⟨ns, st, h1, h2, _⟩ := B.ex
      rcases z with z | z
      · rw [z, h1] at n1; cases n1
      · rw [z, h2] at n1; cases n1
    refine ⟨p1, _, r1, .int m1, rfl, rfl, SqL.of (k1.t.lst l1 nb1), e1, bx, bi, m1, rfl, B1, by omega, big m1 (by omega) (by omega), fun key G2 a2 b2 B2 k2 => ?_⟩
    have K2 : Kp (bF bx bi) H G2 := ((Kp.new n1).trans k1 fun _ z => .inl z).trans k2 fun _ z => .inl z
    -- the worth
    refine ⟨_, rfl, _, rfl, s, r, h, key, t, n, rfl, S.kt K2.t (box_nf B), fun G3 k3 => ?_⟩
    have K3 : Kp (bF bx bi) H G3 := K2.trans k3 fun _ z => False.elim z
    have B3 := B2.no k3
    have okw := seen_ok ok t.mom key
    generalize seen t.mom t.rows key = x at okw ⊢
    -- the way
    refine ⟨_, rfl, bx, bi, 10, rfl, B3, by decide, by decide, fun way G4 a4 b4 B4 k4 => ?_⟩
    have K4 : Kp (bF bx bi) H G4 := K3.trans k4 fun _ z => .inl z
    refine ⟨_, rfl, _, _, rfl, rfl, _, rfl, ite2 (fun w5 => ?_) (fun w5 => ?_)⟩
    · -- a put
      refine ⟨_, rfl, bx, bi, 9, rfl, B4, by decide, by decide, fun x1 G5 a5 b5 B5 k5 => ⟨_, _, rfl, rfl, ?_⟩⟩
      refine ⟨_, rfl, bx, bi, 1000, rfl, B5, by decide, by decide, fun x2 G6 a6 b6 B6 k6 => ⟨_, _, rfl, rfl, sz 3 (by decide), fun p2 n2 => ?_⟩⟩
      refine ⟨_, rfl, bx, bi, 3, rfl, B6.new n2, by decide, by decide, fun r2 G7 a7 b7 B7 k7 => ?_⟩
      obtain ⟨l, hl, sl, el⟩ := pickL (K := K) V.int [0, 1 + x1, 1 + x2] B6 n2 k7 a7 b7
      have hl2 : 0 ≤ l ∧ l ≤ 1000 := by
        simp only [List.mem_cons, List.not_mem_nil, or_false] at hl
        omega
      have K7 : Kp (bF bx bi) H G7 := ((((K4.trans k5 fun _ z => .inl z).trans k6 fun _ z => .inl z).andN n2).trans k7 fun _ z => .inl z)
      refine ⟨p2, _, r2, .int l, rfl, rfl, sl, el, ?_⟩
      refine ⟨_, rfl, _, rfl, bx, bi, 1000, rfl, B7, by decide, by decide, fun x3 G8 a8 b8 B8 k8 => ⟨sz 3 (by decide), fun p3 n3 => ?_⟩⟩
      refine ⟨_, rfl, bx, bi, 3, rfl, B8.new n3, by decide, by decide, fun r3 G9 a9 b9 B9 k9 => ?_⟩
      obtain ⟨wt, hwt, sw, ew⟩ := pickL (K := K) V.int [x3, 999, 0] B8 n3 k9 a9 b9
      have hw2 : 0 ≤ wt ∧ wt ≤ 999 := by
        simp only [List.mem_cons, List.not_mem_nil, or_false] at hwt
        omega
      have K9 : Kp (bF bx bi) H G9 := ((K7.trans k8 fun _ z => .inl z).andN n3).trans k9 fun _ z => .inl z
      refine ⟨p3, _, r3, .int wt, rfl, rfl, sw, ew, _, rfl, sz 4 (by decide), fun u nu => ?_⟩
      exact k _ _ (.put key wt l) (B9.new nu) (K9.andN nu) ⟨u, rfl, upd_same⟩ (by simp only [Dd.ok, Bool.and_eq_true, inB_t]; omega)
    · refine ⟨_, rfl, rfl, _, rfl, ite2 (fun w6 => ?_) (fun w6 => ?_)⟩
      · -- a drop
        refine ⟨_, rfl, sz 2 (by decide), fun u nu => ?_⟩
        exact k _ _ (.drop key) (B4.new nu) (K4.andN nu) ⟨u, rfl, upd_same⟩ (by simp only [Dd.ok, inB_t]; omega)
      · refine ⟨_, rfl, _, _, rfl, rfl, _, rfl, ite2 (fun w8 => ?_) (fun w8 => ?_)⟩
        · -- an add
          refine ⟨_, rfl, _, rfl, bx, bi, 9, rfl, B4, by decide, by decide, fun x1 G5 a5 b5 B5 k5 => ⟨_, _, rfl, rfl, ?_⟩⟩
          refine ⟨_, rfl, bx, bi, 1999, rfl, B5, by decide, by decide, fun x2 G6 a6 b6 B6 k6 => ⟨_, _, rfl, rfl, sz 2 (by decide), fun p2 n2 => ?_⟩⟩
          refine ⟨_, rfl, bx, bi, 2, rfl, B6.new n2, by decide, by decide, fun r2 G7 a7 b7 B7 k7 => ?_⟩
          obtain ⟨l, hl, sl, el⟩ := pickL (K := K) V.int [x1 - 4, x2 - 999] B6 n2 k7 a7 b7
          have hl2 : -999 ≤ l ∧ l ≤ 999 := by
            simp only [List.mem_cons, List.not_mem_nil, or_false] at hl
            omega
          have K7 : Kp (bF bx bi) H G7 := ((((K4.trans k5 fun _ z => .inl z).trans k6 fun _ z => .inl z).andN n2).trans k7 fun _ z => .inl z)
          refine ⟨p2, _, r2, .int l, rfl, rfl, sl, el, sz 3 (by decide), fun u nu => ?_⟩
          exact k _ _ (.add key l) (B7.new nu) (K7.andN nu) ⟨u, rfl, upd_same⟩ (by simp only [Dd.ok, Bool.and_eq_true, inB_t]; omega)
        · -- an if
          refine ⟨_, rfl, _, rfl, _, rfl, _, rfl, _, rfl, bx, bi, 1000, rfl, B4, by decide, by decide, fun x1 G5 a5 b5 B5 k5 => ⟨sz 5 (by decide), fun p2 n2 => ?_⟩⟩
          refine ⟨_, rfl, bx, bi, 5, rfl, B5.new n2, by decide, by decide, fun r2 G7 a7 b7 B7 k7 => ?_⟩
          obtain ⟨y, hy, sy, ey⟩ := pickL (K := K) oV [x, x, x, none, some x1] B5 n2 k7 a7 b7
          have oky : okW y = true := by
            simp only [List.mem_cons, List.not_mem_nil, or_false] at hy
            rcases hy with rfl | rfl | rfl | rfl | rfl
            · exact okw
            · exact okw
            · exact okw
            · rfl
            · exact inB_t.mpr ⟨a5, by omega⟩
          have K7 : Kp (bF bx bi) H G7 := ((K4.trans k5 fun _ z => .inl z).andN n2).trans k7 fun _ z => .inl z
          refine ⟨p2, _, r2, oV y, rfl, rfl, sy, ey, sz 3 (by decide), fun u nu => ?_⟩
          refine k _ _ (.iff key y) (B7.new nu) (K7.andN nu) ⟨u, rfl, upd_same⟩ ?_
          have ik : inB 0 31 key = true := inB_t.mpr ⟨a2, by omega⟩
          cases y with
          | none => exact ik
          | some y =>
            show (inB 0 31 key && inB 0 999 y) = true
            rw [ik]
            exact oky
end
end S02

set_option Elab.async false
set_option linter.all false
set_option maxRecDepth 100000
set_option maxHeartbeats 2000000
namespace S02
open PySem PySem.Spec PyProof.Rows L2 K5 SupX GenX
section
variable {P : Program} {w : World} {K : PySem.W.Frag} {mg : Str → Option Value} {base : Heap} {A : Ad}
abbrev Nscdrawn : List Str := ["_law_box", "_law_store_here", "_law_turn"]
theorem scdrawn : FnScope Nscdrawn ["_law_box", "_law_store_here"] (defScope s_drawn) := ⟨rfl, rfl, rfl, by decide +kernel, rfl, by decide +kernel, by decide +kernel⟩
def spDrawn : Sp := fun vs H Q _ => ∃ (bx bi s r h : Addr) (t : TT) (n : Nat), vs = [.ref bx, .ref s] ∧ BoxAt H bx bi ∧ StL H s r h t n ∧ RowsOk t.rows ∧
  ∀ G v ds, BoxAt G bx bi → Kp (bF bx bi) H G → DsAt G v ds → (∀ d ∈ ds, d.ok = true) → 1 ≤ ds.length → ds.length ≤ 4 → Q v G
theorem ok_drawn (T : Txt K mg A) : ∃ fd, FnOk P w K mg base CX0 3 (A.d 89) fd ["_law_box", "_law_store_here"] spDrawn ∧ Binds K fd ["_law_box", "_law_store_here"] [] := by
  obtain ⟨fd, F⟩ := T.drawn.fn
  obtain ⟨fdT, Gtake, btake⟩ := ok_take (P := P) (w := w) (base := base) T
  obtain ⟨fdS, Gdeed, bdeed⟩ := ok_deed (P := P) (w := w) (base := base) T
  refine ⟨fd, F.ok scdrawn (fun vs H Q E h => ?_) (fun cdv Ar outer s0 H vs Q E hr h => ?_), F.binds fun _ _ _ _ _ _ us hl => match us, hl with | [_, _], _ => rfl⟩
  · obtain ⟨bx, bi, s, r, h, t, n, rfl, _⟩ := h
    rfl
  · obtain ⟨bx, bi, s, r, h, t, n, rfl, B, S, ok, k⟩ := h
    have hu := hu_of hr
    refine ⟨_, (pss_one (ps_ret (pe_callTy call_tuple_of (by rfl) T.tuple (by decide +kernel) (pa_cons (pe_lc (own := [("_law_turn", 2)]) (g := (gName 2)) (by rfl) scdrawn.nd (pi_range1 (by rfl) T.range (pa_cons (pe_op op_add pe_int (pe_call Gtake (hr.mono (by first | decide | omega)) rfl T.take.at_ T.take.kp btake .nil pass0 (pa_cons (pv 0) (pa_cons (pe_ix ix_list (pe_lst (pa_cons pe_int (pa_cons pe_int (pa_cons pe_int pa_nil)))) (pe_call Gtake (hr.mono (by first | decide | omega)) rfl T.take.at_ T.take.kp btake .nil pass0 (pa_cons (pv 0) (pa_cons pe_int pa_nil))) (fun _ _ => rfl)) pa_nil)))) pa_nil)) (blkOk_by (N := Nscdrawn) (sc := defScope s_drawn) (by decide +kernel)) (fun _ _ _ _ _ => pg_name (i := 2) scdrawn.nd rfl (Or.inl rfl)) (fun _ _ _ _ _ => pts_nil) (fun _ _ _ _ _ => (pe_call Gdeed (hr.mono (by first | decide | omega)) rfl T.deed.at_ T.deed.kp bdeed .nil pass0 (pa_cons (pv 0) (pa_cons (pv 1) pa_nil))))) pa_nil)))), ?_⟩
    refine ⟨_, rfl, sz 3 (by decide), fun p1 n1 => ⟨_, rfl, bx, bi, 3, rfl, B.new n1, by decide, by decide, fun r1 G1 a1 b1 B1 k1 => ?_⟩⟩
    obtain ⟨m1, hm1, s1, e1⟩ := pickL (K := K) V.int [1, 2, 4] B n1 k1 a1 b1
    have g1 : 1 ≤ m1 ∧ m1 ≤ 4 := by
      simp only [List.mem_cons, List.not_mem_nil, or_false] at hm1
      omega
    refine ⟨p1, _, r1, .int m1, rfl, rfl, s1, e1, bx, bi, m1, rfl, B1, by omega, Nat.lt_of_le_of_lt (by omega : m1.natAbs ≤ 2000) (by decide), fun c G2 a2 b2 B2 k2 => ?_⟩
    have K2 : Kp (bF bx bi) H G2 := ((Kp.new n1).trans k1 fun _ z => .inl z).trans k2 fun _ z => .inl z
    refine ⟨_, _, rfl, rfl, 1 + c, rfl, by omega, by omega, fun D nD => ?_⟩
    have KD : Kp (fun b => bF bx bi b ∨ b = D) H (upd G2 D (.lst [])) := (K2.sub fun _ z => .inl z).andN nD
    have nbD : ¬ bF bx bi D := new_nb B2 nD
    have HD : H D = none := K2.free nD fun z => absurd z nbD
    refine lc_range (lo := 0) (n := (1 + c).toNat) (fun i G => Kp (fun b => bF bx bi b ∨ b = D) H G ∧ BoxAt G bx bi ∧ ∃ acc ds, G D = some (.lst acc) ∧ Paired (DdAt G) acc ds ∧ ds.length = i ∧ ∀ d ∈ ds, d.ok = true) ⟨KD, B2.new nD, [], [], upd_same, .nil, rfl, fun _ z => by cases z⟩ ?_ ?_
    · rintro i G hi ⟨kp, BG, acc, ds, hD, pd, hl, hok⟩
      have nfS : ∀ b kvs, H b = some (.dK kvs) → (b = s ∨ b = r ∨ b = h) → ¬ (bF bx bi b ∨ b = D) := fun b kvs e pz z => by
        rcases z with z | z
        · exact box_nf B (p := fun b => b = s ∨ b = r ∨ b = h) b kvs e pz z
        · rw [z, HD] at e; cases e
      refine ⟨rfl, _, rfl, _, rfl, bx, bi, s, r, h, t, n, rfl, BG, S.kt kp.t nfS, ok, fun G3 v d B3 k3 hv hd => ?_⟩
      have hD3 : G3 D = some (.lst acc) := k3.t.lst hD nbD
      have k4 : Kp (fun b => b = D) G3 (upd G3 D (.lst (acc ++ [v]))) := Kp.updL hD3 rfl
      refine ⟨acc, hD3, szL (by rw [pd.length, hl]; omega), (kp.trans k3 fun _ z => .inl (.inl z)).trans k4 (fun b z => .inl (.inr z)), B3.kt k4.t (fun a z => by rw [z]; exact nbD), acc ++ [v], ds ++ [d], upd_same, ?_, by simp [hl], fun e he => ?_⟩
      · exact (pd.mono fun _ _ z => (z.kt k3.t).kt k4.t).snoc (hv.kt k4.t)
      · rcases List.mem_append.mp he with he | he
        · exact hok e he
        · rw [List.mem_singleton.mp he]; exact hd
    · rintro G ⟨kp, BG, acc, ds, hD, pd, hl, hok⟩
      refine ⟨D, acc, rfl, .inl ⟨SqL.of hD, fun q nq => ?_⟩⟩
      have kq : Kp No G (upd G q (.tup acc)) := Kp.new nq
      refine k _ _ ds (BG.no kq) ?_ ⟨q, acc, rfl, upd_same, pd.mono fun _ _ z => z.kt kq.t, by omega⟩ hok (by omega) (by omega)
      exact fun b o e n => (kp.andN nq) b o e fun m z => by
        rcases z with z | z
        · exact n m z
        · rw [z, HD] at e; cases e
end
end S02

set_option Elab.async false
set_option linter.all false
set_option maxRecDepth 100000
set_option maxHeartbeats 4000000
namespace S02
open PySem PySem.Spec PyProof.Rows L2 K5 SupX GenX
section
variable {P : Program} {w : World} {K : PySem.W.Frag} {mg : Str → Option Value} {base : Heap} {A : Ad}
/-! ### alike -/
theorem scalike : FnScope ["_law_found", "_law_due", "_law_k"] ["_law_found", "_law_due"] (defScope s_alike) := ⟨rfl, rfl, rfl, by decide +kernel, rfl, by decide +kernel, by decide +kernel⟩
def spAlike (n : Nat) : Sp := fun vs H Q _ => ∃ x y, vs = [x, y] ∧ Al H n x y ∧ Q (.bl true) H
theorem no_fn {CX : CXT} {f : Addr} {fd : FuncData} {ps : List Str} {k : Nat} : FnOk P w K mg base CX k f fd ps (fun _ _ _ _ => False) := ⟨fun _ _ _ _ h => h.elim, fun _ _ _ _ _ _ _ _ _ _ _ _ _ h => h.elim⟩
theorem sp_len {vs : List V} {H : Hp} {Q : VK} {E : XK} {n : Nat} (h : spAlike n vs H Q E) : vs.length = 2 := by
  obtain ⟨x, y, rfl, _⟩ := h
  rfl
theorem ok_alike (T : Txt K mg A) : ∃ fd, Binds K fd ["_law_found", "_law_due"] [] ∧ ∀ n, FnOk P w K mg base CX0 (n + 1) (A.d 78) fd ["_law_found", "_law_due"] (spAlike n) := by
  obtain ⟨fd, F⟩ := T.alike.fn
  have balike : Binds K fd ["_law_found", "_law_due"] [] := F.binds fun _ _ _ _ _ _ us hl => match us, hl with | [_, _], _ => rfl
  refine ⟨fd, balike, fun n => ?_⟩
  induction n with
  | zero => exact ⟨fun vs H Q E h => sp_len h, fun _ _ _ _ _ _ _ _ _ _ _ _ _ h => by obtain ⟨x, y, _, z, _⟩ := h; exact z.elim⟩
  | succ n Galike =>
    refine F.ok scalike (fun vs H Q E h => sp_len h) (fun cdv Ar outer s H vs Q E hr h => ?_)
    obtain ⟨x, y, rfl, al, k⟩ := h
    refine ⟨_, (pss_cons (ps_if (pt_cmp (pc_isN (pv 1)))
        (pss_one (ps_ret (pe_cmp (pc_isN (pv 0)))))
        pss_nil)
      (pss_cons (ps_if (pt_val (pe_callB call_isi (by rfl) T.isinstance (by decide +kernel) (pa_cons (pv 1) (pa_cons (pe_bltn (v := .ty "bool") (by rfl) T.bool (by decide +kernel) rfl) pa_nil))))
        (pss_one (ps_ret (pe_and (pe_callB call_isi (by rfl) T.isinstance (by decide +kernel) (pa_cons (pv 0) (pa_cons (pe_bltn (v := .ty "bool") (by rfl) T.bool (by decide +kernel) rfl) pa_nil))) (pe_one (pe_cmpR op_eq (pv 0) (pv 1) (nomark _))))))
        pss_nil)
      (pss_cons (ps_if (pt_val (pe_callB call_isi (by rfl) T.isinstance (by decide +kernel) (pa_cons (pv 1) (pa_cons (pe_bltn (v := .ty "int") (by rfl) T.int (by decide +kernel) rfl) pa_nil))))
        (pss_one (ps_ret (pe_and (pe_callB call_isi (by rfl) T.isinstance (by decide +kernel) (pa_cons (pv 0) (pa_cons (pe_bltn (v := .ty "int") (by rfl) T.int (by decide +kernel) rfl) pa_nil))) (pe_and (pe_not (pe_callB call_isi (by rfl) T.isinstance (by decide +kernel) (pa_cons (pv 0) (pa_cons (pe_bltn (v := .ty "bool") (by rfl) T.bool (by decide +kernel) rfl) pa_nil)))) (pe_one (pe_cmpR op_eq (pv 0) (pv 1) (nomark _)))))))
        pss_nil)
      (pss_cons (ps_if (pt_val (pe_callB call_isi (by rfl) T.isinstance (by decide +kernel) (pa_cons (pv 1) (pa_cons (pe_bltn (v := .ty "str") (by rfl) T.str (by decide +kernel) rfl) pa_nil))))
        (pss_one (ps_ret (pe_and (pe_callB call_isi (by rfl) T.isinstance (by decide +kernel) (pa_cons (pv 0) (pa_cons (pe_bltn (v := .ty "str") (by rfl) T.str (by decide +kernel) rfl) pa_nil))) (pe_one (pe_cmpR op_eq (pv 0) (pv 1) (nomark _))))))
        pss_nil)
      (pss_cons (ps_if (PW.pt (pw_or (pt_cmpR op_ne (pe_callB call_isi (by rfl) T.isinstance (by decide +kernel) (pa_cons (pv 1) (pa_cons (pe_bltn (v := .ty "tuple") (by rfl) T.tuple (by decide +kernel) rfl) pa_nil))) (pe_callB call_isi (by rfl) T.isinstance (by decide +kernel) (pa_cons (pv 0) (pa_cons (pe_bltn (v := .ty "tuple") (by rfl) T.tuple (by decide +kernel) rfl) pa_nil))) (nomark _)) (pw_or1 (pt_cmpR op_ne (pe_callB call_isi (by rfl) T.isinstance (by decide +kernel) (pa_cons (pv 1) (pa_cons (pe_bltn (v := .ty "list") (by rfl) T.list (by decide +kernel) rfl) pa_nil))) (pe_callB call_isi (by rfl) T.isinstance (by decide +kernel) (pa_cons (pv 0) (pa_cons (pe_bltn (v := .ty "list") (by rfl) T.list (by decide +kernel) rfl) pa_nil))) (nomark _)))))
        (pss_one (ps_ret pe_bl))
        pss_nil)
      (pss_cons (ps_if (pt_cmpR op_ne (pe_callB call_len_seq (by rfl) T.len PySem.boot_len (pa_cons (pv 0) pa_nil)) (pe_callB call_len_seq (by rfl) T.len PySem.boot_len (pa_cons (pv 1) pa_nil)) (nomark _))
        (pss_one (ps_ret pe_bl))
        pss_nil)
      (pss_cons (ps_for PassesOwn.never rfl (pi_range1 (by rfl) T.range (pa_cons (pe_callB call_len_seq (by rfl) T.len PySem.boot_len (pa_cons (pv 1) pa_nil)) pa_nil)) (pg_name (i := 2) scalike.nd rfl (Or.inl rfl))
        (pss_one (ps_if (pt_not (pt_val (pe_call Galike (hr.mono (by first | decide | omega)) rfl T.alike.at_ T.alike.kp balike .nil pass0 (pa_cons (pe_ix ix_seq (pv 0) (pv 2) (fun _ _ => rfl)) (pa_cons (pe_ix ix_seq (pv 1) (pv 2) (fun _ _ => rfl)) pa_nil)))))
          (pss_one (ps_ret pe_bl))
          pss_nil)))
      (pss_one (ps_ret pe_bl))))))))), ?_⟩
    have ki : ∀ {a b : String} {r : Bool}, kitB a b = some r → PySem.W.kitOne K (.type a) (.type b) = some r := fun h => h
    rcases al with ⟨lf, rfl⟩ | ⟨a, b, xs, ys, rfl, rfl, hab, hl, hyl, hal⟩
    · -- a leaf
      cases x with
      | non => exact ⟨_, rfl, _, rfl, iteT ⟨_, rfl, k⟩⟩
      | bl v =>
        refine ⟨_, rfl, _, rfl, iteF ⟨_, rfl, _, _, _, _, true, rfl, .ty "bool", .base (.bl v), by rfl, _, rfl, iteT ⟨_, rfl, _, _, _, _, true, rfl, .ty "bool", .base (.bl v), by rfl, true, rfl, iteT ⟨_, rfl, _, rfl, rfl, ?_⟩⟩⟩⟩
        rw [decide_eq_true rfl]
        exact k
      | int v =>
        refine ⟨_, rfl, _, rfl, iteF ⟨_, rfl, _, _, _, _, false, rfl, .ty "bool", .base (.int v), by rfl, _, rfl, iteF ⟨_, rfl, _, _, _, _, true, rfl, .ty "int", .base (.int v), by rfl, _, rfl, iteT ?_⟩⟩⟩
        refine ⟨_, rfl, _, _, _, _, true, rfl, .ty "int", .base (.int v), by rfl, true, rfl, iteT ⟨_, rfl, _, _, _, _, false, rfl, .ty "bool", .base (.int v), by rfl, false, rfl, true, rfl, iteT ⟨_, rfl, _, rfl, rfl, ?_⟩⟩⟩
        rw [decide_eq_true rfl]
        exact k
      | str v =>
        refine ⟨_, rfl, _, rfl, iteF ⟨_, rfl, _, _, _, _, false, rfl, .ty "bool", .base (.str v), by rfl, _, rfl, iteF ⟨_, rfl, _, _, _, _, false, rfl, .ty "int", .base (.str v), by rfl, _, rfl, iteF ⟨_, rfl, _, _, _, _, true, rfl, .ty "str", .base (.str v), by rfl, _, rfl, iteT ?_⟩⟩⟩⟩
        refine ⟨_, rfl, _, _, _, _, true, rfl, .ty "str", .base (.str v), by rfl, true, rfl, iteT ⟨_, rfl, _, rfl, rfl, ?_⟩⟩
        rw [decide_eq_true rfl]
        exact k
      | byt _ => cases lf
      | flt _ => cases lf
      | ref _ => cases lf
      | ty _ => cases lf
    · -- tuples or lists
      have hbig : (ys.length : Int) < 2 ^ 62 := hyl
      rcases hab with ⟨ha, hb⟩ | ⟨ha, hb⟩
      · have ta : TyX K H (.ref a) (.type "tuple") := .base (.tup ha)
        have tb : TyX K H (.ref b) (.type "tuple") := .base (.tup hb)
        refine ⟨_, rfl, _, rfl, iteF ⟨_, rfl, _, _, _, _, false, rfl, .ty "bool", tb, by rfl, _, rfl, iteF ⟨_, rfl, _, _, _, _, false, rfl, .ty "int", tb, by rfl, _, rfl, iteF ⟨_, rfl, _, _, _, _, false, rfl, .ty "str", tb, by rfl, _, rfl, iteF ?_⟩⟩⟩⟩
        refine ⟨_, rfl, _, _, _, _, true, rfl, .ty "tuple", tb, by rfl, _, rfl, _, _, _, _, true, rfl, .ty "tuple", ta, by rfl, rfl, false, by rfl, iteF ?_⟩
        refine ⟨_, rfl, _, _, _, _, false, rfl, .ty "list", tb, by rfl, _, rfl, _, _, _, _, false, rfl, .ty "list", ta, by rfl, rfl, false, by rfl, iteF ?_⟩
        refine ⟨_, rfl, a, xs, rfl, .inr (SqT.of ha), _, rfl, b, ys, rfl, .inr (SqT.of hb), rfl, false, ?_, iteF ?_⟩
        · rw [hl, decide_eq_true rfl]
          rfl
        refine ⟨_, rfl, b, ys, rfl, .inr (SqT.of hb), (ys.length : Int), rfl, by omega, hbig, for_range (lo := 0) (n := (ys.length : Int).toNat) (fun i σ G => G = H ∧ ∃ o, σ = [some (.ref a), some (.ref b), o]) ⟨rfl, none, rfl⟩ ?_ ?_⟩
        · rintro i σ G hi ⟨rfl, o, rfl⟩
          rw [Int.toNat_natCast] at hi
          have hx : xs[i]? = some xs[i] := List.getElem?_eq_getElem (by omega)
          have hy : ys[i]? = some ys[i] := List.getElem?_eq_getElem hi
          refine ⟨_, rfl, _, rfl, Or.inr (Or.inl ⟨a, xs, ((0 : Int) + i), xs[i], rfl, rfl, SqT.of ha, by rw [Int.zero_add]; exact atI_nat hx, ?_⟩)⟩
          refine ⟨_, rfl, _, rfl, Or.inr (Or.inl ⟨b, ys, ((0 : Int) + i), ys[i], rfl, rfl, SqT.of hb, by rw [Int.zero_add]; exact atI_nat hy, ?_⟩)⟩
          exact ⟨_, _, rfl, hal i _ _ hx hy, true, rfl, iteF ⟨rfl, _, rfl⟩⟩
        · rintro σ G ⟨rfl, o, rfl⟩
          exact k
      · have ta : TyX K H (.ref a) (.type "list") := .base (.lst ha)
        have tb : TyX K H (.ref b) (.type "list") := .base (.lst hb)
        refine ⟨_, rfl, _, rfl, iteF ⟨_, rfl, _, _, _, _, false, rfl, .ty "bool", tb, by rfl, _, rfl, iteF ⟨_, rfl, _, _, _, _, false, rfl, .ty "int", tb, by rfl, _, rfl, iteF ⟨_, rfl, _, _, _, _, false, rfl, .ty "str", tb, by rfl, _, rfl, iteF ?_⟩⟩⟩⟩
        refine ⟨_, rfl, _, _, _, _, false, rfl, .ty "tuple", tb, by rfl, _, rfl, _, _, _, _, false, rfl, .ty "tuple", ta, by rfl, rfl, false, by rfl, iteF ?_⟩
        refine ⟨_, rfl, _, _, _, _, true, rfl, .ty "list", tb, by rfl, _, rfl, _, _, _, _, true, rfl, .ty "list", ta, by rfl, rfl, false, by rfl, iteF ?_⟩
        refine ⟨_, rfl, a, xs, rfl, .inl (SqL.of ha), _, rfl, b, ys, rfl, .inl (SqL.of hb), rfl, false, ?_, iteF ?_⟩
        · rw [hl, decide_eq_true rfl]
          rfl
        refine ⟨_, rfl, b, ys, rfl, .inl (SqL.of hb), (ys.length : Int), rfl, by omega, hbig, for_range (lo := 0) (n := (ys.length : Int).toNat) (fun i σ G => G = H ∧ ∃ o, σ = [some (.ref a), some (.ref b), o]) ⟨rfl, none, rfl⟩ ?_ ?_⟩
        · rintro i σ G hi ⟨rfl, o, rfl⟩
          rw [Int.toNat_natCast] at hi
          have hx : xs[i]? = some xs[i] := List.getElem?_eq_getElem (by omega)
          have hy : ys[i]? = some ys[i] := List.getElem?_eq_getElem hi
          refine ⟨_, rfl, _, rfl, Or.inl ⟨a, xs, ((0 : Int) + i), xs[i], rfl, rfl, SqL.of ha, by rw [Int.zero_add]; exact atI_nat hx, ?_⟩⟩
          refine ⟨_, rfl, _, rfl, Or.inl ⟨b, ys, ((0 : Int) + i), ys[i], rfl, rfl, SqL.of hb, by rw [Int.zero_add]; exact atI_nat hy, ?_⟩⟩
          exact ⟨_, _, rfl, hal i _ _ hx hy, true, rfl, iteF ⟨rfl, _, rfl⟩⟩
        · rintro σ G ⟨rfl, o, rfl⟩
          exact k
end
end S02

set_option Elab.async false
set_option linter.all false
set_option maxRecDepth 100000
set_option maxHeartbeats 4000000
namespace S02
open PySem PySem.Spec PyProof.Rows L2 K5 SupX GenX
/-- the sorted keys of rows -/
theorem rk_keys {H : Hp} {a : Addr} {f : Rw} {n : Nat} {kvs : List (Key × V)} {ks ys : List Int} (R : RwAt H a f n) (RK : RkAt H a) (hd : H a = some (.dK kvs)) (e : kvs.map (·.1) = ks.map Sum.inl) (p : ys.Perm ks) (s : ys.Pairwise (· ≤ ·)) : ys = (keysFrom 0 32).filter fun j => (f j).isSome := by
  obtain ⟨kv2, e2, _, q⟩ := R
  obtain rfl : kvs = kv2 := by rw [e2] at hd; cases hd; rfl
  obtain ⟨kv3, e3, ks', e', nd, r⟩ := RK
  obtain rfl : kvs = kv3 := by rw [e3] at hd; cases hd; rfl
  have ek : ks' = ks := inl_inj (e'.symm.trans e)
  subst ek
  have ndy : ys.Nodup := p.nodup_iff.mpr nd
  have mem : ∀ j : Int, (f j).isSome = true ↔ j ∈ ks' := fun j => by
    have h1 : (valV kvs (.inl j : Key)).isSome = true ↔ j ∈ ks' := by
      rw [val_mem, e]
      constructor
      · intro h
        obtain ⟨a, ha, q⟩ := List.mem_map.mp h
        rw [← Sum.inl.inj q]
        exact ha
      · intro h
        exact List.mem_map.mpr ⟨j, h, rfl⟩
    rw [← h1]
    have := q j
    cases hf : f j with
    | none =>
      rw [hf] at this
      have this : valV kvs (.inl j : Key) = none := this
      rw [this] <;> simp
    | some x =>
      obtain ⟨x, num⟩ := x
      rw [hf] at this
      obtain ⟨t, h2, _⟩ := this
      rw [h2] <;> simp
  refine sorted_eq ?_ (List.Pairwise.filter _ (by decide +kernel)) fun j => ?_
  · exact (List.pairwise_and_iff.mpr ⟨s, ndy⟩).imp fun {a b} z => by omega
  · rw [p.mem_iff, ← mem, List.mem_filter]
    constructor
    · intro h
      obtain ⟨h0, h1⟩ := r j ((mem j).mp h)
      refine ⟨?_, h⟩
      unfold keysFrom
      exact List.mem_map.mpr ⟨j.toNat, List.mem_range.mpr (by omega), by omega⟩
    · exact fun h => h.2
theorem whRows_eq (t : TT) : whRows t 8 = ((keysFrom 0 32).filterMap (rowOf t.rows)).filter (shF t.mom) := by
  have e : keysFrom 0 32 = (keysFrom 0 8).flatMap fun p => keysFrom (p * 4) 4 := by decide +kernel
  unfold whRows pgRows
  rw [e, List.filterMap_flatMap, List.filter_flatMap]
/-- a row that is shown -/
def shR (t : TT) (j : Int) : Option (Int × Int × Int) := (rowOf t.rows j).filter (shF t.mom)
theorem whRows_shR (t : TT) : whRows t 8 = (keysFrom 0 32).filterMap (shR t) := by
  rw [whRows_eq, List.filter_filterMap]
  rfl
theorem filterMap_shR (t : TT) (l : List Int) : (l.filter fun j => (t.rows j).isSome).filterMap (shR t) = l.filterMap (shR t) := by
  induction l with
  | nil => rfl
  | cons x l ih =>
    cases e : t.rows x with
    | none =>
      have e2 : shR t x = none := by unfold shR rowOf; rw [e]; rfl
      rw [List.filter_cons, e, if_neg (by simp), List.filterMap_cons, e2, ih]
    | some y => rw [List.filter_cons, e, if_pos (show (some y).isSome = true from rfl), List.filterMap_cons, List.filterMap_cons, ih]
section
variable {P : Program} {w : World} {K : PySem.W.Frag} {mg : Str → Option Value} {base : Heap} {A : Ad}
abbrev Nscwhole : List Str := ["_law_store_here", "_law_rows", "_law_key", "_law_hand"]
theorem scwhole : FnScope Nscwhole ["_law_store_here"] (defScope s_whole) := ⟨rfl, rfl, rfl, by decide +kernel, rfl, by decide +kernel, by decide +kernel⟩
def spWholeW : Sp := fun vs H Q _ => ∃ (s r h : Addr) (t : TT) (n : Nat), vs = [.ref s] ∧ StL H s r h t n ∧
  ∀ G b l1 l2 xs zs, H b = none → Kp No H G → G b = some (.tup [.int t.mom, .ref l1, .ref l2]) → G l1 = some (.lst xs) → Paired (RwV G) xs (whRows t 8) → G l2 = some (.lst zs) → Paired (RhV G) zs (hnRows t.hands) → Q (.ref b) G
theorem ok_whole (T : Txt K mg A) : ∃ fd, FnOk P w K mg base CX0 2 (A.d 87) fd ["_law_store_here"] spWholeW ∧ Binds K fd ["_law_store_here"] [] := by
  obtain ⟨fd, F⟩ := T.whole.fn
  obtain ⟨fdS, Gseen, bseen⟩ := ok_seen (P := P) (w := w) (base := base) T
  refine ⟨fd, F.ok scwhole (fun vs H Q E h => ?_) (fun cdv Ar outer s0 H vs Q E hr h => ?_), F.binds fun _ _ _ _ _ _ us hl => match us, hl with | [_], _ => rfl⟩
  · obtain ⟨s, r, h, t, n, rfl, _⟩ := h
    rfl
  · obtain ⟨s, r, h, t, n, rfl, S, k⟩ := h
    have hu := hu_of hr
    refine ⟨_, (pss_cons (ps_setLc (i := 1) (own := [("_law_key", 2)]) (g := (gName 2)) (tt := tTest (tNotN (tCall spSeen [] E0 (tCons (tVar 0) (tCons (tVar 2) tNil))))) (te := tOp (rCatT K) (tTup (tCons (tVar 2) tNil)) (tDGet (tDGet (tVar 0) (tC (.str "rows"))) (tVar 2))) (by rfl) scwhole.nd rfl rfl (sw_true rfl rfl rfl (by decide +kernel)) (pi_list (pe_callB (call_sortedDI (by rfl)) (by rfl) T.sorted (by decide +kernel) (pa_cons (pe_dget hu (pv 0) pe_str (fun _ _ => rfl)) pa_nil))) (blkOk_by (N := Nscwhole) (sc := defScope s_whole) (by decide +kernel)) (fun _ _ _ _ _ => pg_name (i := 2) scwhole.nd rfl (Or.inl rfl)) (fun _ _ _ _ _ => by exact (pts_one (pt_cmp (pc_notN (pe_call Gseen hr rfl T.seen.at_ T.seen.kp bseen .nil pass0 (pa_cons (pv 0) (pa_cons (pv 2) pa_nil))))))) (fun _ _ _ _ _ => by exact (pe_op op_catT (pe_tup (pa_cons (pv 2) pa_nil)) (pe_dget hu (pe_dget hu (pv 0) pe_str (fun _ _ => rfl)) (pv 2) (fun _ _ => rfl)))))
      (pss_one (ps_ret (pe_tup (pa_cons (pe_dget hu (pv 0) pe_str (fun _ _ => rfl)) (pa_cons (pv 1) (pa_cons (pe_lc (own := [("_law_hand", 3)]) (g := (gName 3)) (tt := tYes) (te := tOp (rCatT K) (tTup (tCons (tVar 3) tNil)) (tDGet (tDGet (tVar 0) (tC (.str "hands"))) (tVar 3))) (by rfl) scwhole.nd (pi_list (pe_callB (call_sortedDI (by rfl)) (by rfl) T.sorted (by decide +kernel) (pa_cons (pe_dget hu (pv 0) pe_str (fun _ _ => rfl)) pa_nil))) (blkOk_by (N := Nscwhole) (sc := defScope s_whole) (by decide +kernel)) (fun _ _ _ _ _ => pg_name (i := 3) scwhole.nd rfl (Or.inl rfl)) (fun _ _ _ _ _ => pts_nil) (fun _ _ _ _ _ => by exact (pe_op op_catT (pe_tup (pa_cons (pv 3) pa_nil)) (pe_dget hu (pe_dget hu (pv 0) pe_str (fun _ _ => rfl)) (pv 3) (fun _ _ => rfl))))) pa_nil))))))), ?_⟩
    obtain ⟨kr, hdr, hkl, hfk⟩ := S.rows
    obtain ⟨kr2, hdr2, ks, eks, nds, rks⟩ := S.rk
    obtain rfl : kr = kr2 := by rw [hdr2] at hdr; cases hdr; rfl
    have hks : ks.length ≤ 32 := nodup_le (m := keysFrom 0 32) nds fun j hj => by
      obtain ⟨h0, h1⟩ := rks j hj
      unfold keysFrom
      exact List.mem_map.mpr ⟨j.toNat, List.mem_range.mpr (by omega), by omega⟩
    refine ⟨_, rfl, s, _, rfl, dgS S.dc o_rows, r, kr, ks, rfl, .inl hdr, eks, by omega, fun ys q perm srt nq => ?_⟩
    have eys := rk_keys S.rows S.rk hdr eks perm srt
    have hyl : ys.length ≤ 32 := by rw [perm.length_eq]; exact hks
    have kq : Kp No H (upd H q (.lst (ys.map V.int))) := Kp.new nq
    have hq : upd H q (.lst (ys.map V.int)) q = some (.lst (ys.map V.int)) := upd_same
    generalize upd H q (.lst (ys.map V.int)) = G1 at kq hq ⊢
    refine ⟨q, rfl, ⟨_, SqL.of hq⟩, fun D nD => ?_⟩
    have nDH : H D = none := kq.free nD fun z => False.elim z
    refine lc_list (K := K) (a := q) (xs := ys.map V.int) (fun i J => Kp (fun b => b = D) G1 J ∧ ∃ acc, J D = some (.lst acc) ∧ acc.length ≤ i ∧ Paired (RwV J) acc ((ys.take i).filterMap (shR t))) ⟨Kp.new nD, [], upd_same, Nat.le_refl _, by rw [List.take_zero]; exact .nil⟩ (fun i J _ ⟨kJ, _⟩ => SqL.of (kJ.t.lst hq (ne_of_none hq nD))) ?_ ?_
    · rintro i x J hx ⟨kJ, acc, hD, hal, pJ⟩
      obtain ⟨j, hj, rfl⟩ : ∃ j, ys[i]? = some j ∧ x = V.int j := by
        rw [List.getElem?_map] at hx
        cases e : ys[i]? with
        | none => rw [e] at hx; cases hx
        | some j => rw [e] at hx; exact ⟨j, rfl, (Option.some.inj hx).symm⟩
      have hi : i < 32 := by
        have := (List.getElem?_eq_some_iff.mp hj).1
        omega
      have kHJ : Kp (fun b => b = D) H J := (kq.sub fun _ z => False.elim z).trans kJ fun b z => .inl z
      have SJ : StL J s r h t n := S.kt kHJ.t fun b kvs e _ z => by rw [show b = D from z, nDH] at e; cases e
      refine ⟨rfl, _, rfl, _, rfl, s, r, h, j, t, n, rfl, SJ, fun J2 k2 => ?_⟩
      have S2 := SJ.no k2
      obtain ⟨k2r, hd2, _, hf2⟩ := S2.rows
      have q2 := hf2 j
      have hD2 := k2.t.lst hD fun z => z
      have kJ2 : Kp (fun b => b = D) G1 J2 := kJ.trans k2 fun _ z => False.elim z
      cases er : t.rows j with
      | none =>
        have e1 : seen t.mom t.rows j = none := by unfold seen; rw [er]
        have e2 : shR t j = none := by unfold shR rowOf; rw [er]; rfl
        rw [e1]
        refine ⟨_, rfl, iteF ⟨kJ2, acc, hD2, by omega, ?_⟩⟩
        rw [filterMap_take _ hj, e2, List.append_nil]
        exact pJ.mono fun _ _ z => z.kt k2.t
      | some y =>
        obtain ⟨wt, en⟩ := y
        rw [er] at q2
        obtain ⟨u, q3, q4⟩ := q2
        by_cases hsh : shB en t.mom = true
        · have e1 : seen t.mom t.rows j = some wt := by unfold seen; rw [er]; exact if_pos hsh
          have e2 : shR t j = some (j, wt, en) := by
            unfold shR rowOf
            rw [er]
            show Option.filter (shF t.mom) (some (j, wt, en)) = _
            rw [Option.filter_some, if_pos (show shF t.mom (j, wt, en) = true from hsh)]
          rw [e1]
          refine ⟨_, rfl, iteT ⟨_, rfl, sz 1 (by decide), fun v nv => ?_⟩⟩
          have kv : Kp No J2 (upd J2 v (.tup [.int j])) := Kp.new nv
          have dg : DGet (upd J2 v (.tup [.int j])) r (.int j) (some (.ref u)) := by
            have := DGet.k (k := Sum.inl j) (kv.t.dK hd2 fun z => z)
            rw [q3] at this
            exact this
          refine ⟨_, rfl, s, _, rfl, dgS (kv.t.dK S2.dc fun z => z) o_rows, _, rfl, r, .ref u, rfl, dg, v, u, [.int j], [.int wt, .int en], rfl, rfl, SqT.of upd_same, SqT.of (kv.t.tup q4), (by simp), sz 3 (by decide), (fun z => by cases z), fun _ p np => ?_⟩
          have kp : Kp No J2 (upd (upd J2 v (.tup [.int j])) p (.tup [.int j, .int wt, .int en])) := kv.andN np
          refine ⟨acc, kp.t.lst hD2 (fun z => z), szL (by omega), (kJ2.trans kp fun _ z => False.elim z).andL (kp.t.lst hD2 fun z => z) rfl, _, upd_same, by rw [List.length_append]; simp only [List.length_cons, List.length_nil]; omega, ?_⟩
          rw [filterMap_take _ hj, e2]
          have ka : Kp (fun b => b = D) J2 _ := (kp.sub fun _ z => False.elim z).andL (o' := .lst (acc ++ [.ref p])) (kp.t.lst hD2 fun z => z) rfl
          refine (pJ.mono fun _ _ z => (z.kt k2.t).kt ka.t).snoc ⟨p, rfl, ?_⟩
          have npD : p ≠ D := fun z => by rw [z] at np; rw [kv.t.lst hD2 fun z => z] at np; cases np
          show upd (upd (upd J2 v (.tup [.int j])) p (.tup [.int j, .int wt, .int en])) D (.lst (acc ++ [.ref p])) p = _
          rw [upd_ne npD, upd_same]
        · have e1 : seen t.mom t.rows j = none := by unfold seen; rw [er]; exact if_neg hsh
          have e2 : shR t j = none := by
            unfold shR rowOf
            rw [er]
            show Option.filter (shF t.mom) (some (j, wt, en)) = _
            rw [Option.filter_some, if_neg (show ¬ shF t.mom (j, wt, en) = true from hsh)]
          rw [e1]
          refine ⟨_, rfl, iteF ⟨kJ2, acc, hD2, by omega, ?_⟩⟩
          rw [filterMap_take _ hj, e2, List.append_nil]
          exact pJ.mono fun _ _ z => z.kt k2.t
    · rintro J ⟨kJ, acc, hD, hal, pJ⟩
      rw [List.length_map, List.take_length] at pJ
      have eR : ys.filterMap (shR t) = whRows t 8 := by rw [whRows_shR, eys, filterMap_shR]
      rw [eR] at pJ
      have kHJ : Kp (fun b => b = D) H J := (kq.sub fun _ z => False.elim z).trans kJ fun b z => .inl z
      have SJ : StL J s r h t n := S.kt kHJ.t fun b kvs e _ z => by rw [show b = D from z, nDH] at e; cases e
      obtain ⟨kh, hdh, hkl2, hkh, hvh⟩ := SJ.hands
      have hkh' := hkh
      obtain ⟨⟨ks2, e2, nd2⟩, hr3⟩ := hkh'
      have hks2 : ks2.length ≤ 4 := nodup_le (m := [0, 1, 2, 3]) nd2 fun j hj => by
        have h1 : (valV kh (.inl j : Key)).isSome = true := by
          rw [val_mem, e2]
          exact List.mem_map.mpr ⟨j, hj, rfl⟩
        have h2 := hr3 j fun z => by
          have := hvh j
          rw [z] at this
          have this : valV kh (.inl j : Key) = none := this
          rw [this] at h1
          cases h1
        simp only [List.mem_cons, List.not_mem_nil, or_false]
        omega
      refine ⟨_, rfl, s, _, rfl, dgS SJ.dc o_moment, _, rfl, _, rfl, s, _, rfl, dgS SJ.dc o_hands, h, kh, ks2, rfl, .inl hdh, e2, by omega, fun zs q2 perm2 srt2 nq2 => ?_⟩
      have ezs := hn_keys hkh hvh e2 perm2 srt2
      have hzl : zs.length ≤ 4 := by rw [perm2.length_eq]; exact hks2
      have kq2 : Kp No J (upd J q2 (.lst (zs.map V.int))) := Kp.new nq2
      have hq2 : upd J q2 (.lst (zs.map V.int)) q2 = some (.lst (zs.map V.int)) := upd_same
      generalize upd J q2 (.lst (zs.map V.int)) = J1 at kq2 hq2 ⊢
      refine ⟨q2, rfl, ⟨_, SqL.of hq2⟩, fun D2 nD2 => ?_⟩
      have hD1 := kq2.t.lst hD fun z => z
      have nDD : D ≠ D2 := ne_of_none hD1 nD2
      refine lc_list (K := K) (a := q2) (xs := zs.map V.int) (fun i I => Kp (fun b => b = D2) J1 I ∧ ∃ acc2, I D2 = some (.lst acc2) ∧ acc2.length ≤ i ∧ Paired (RhV I) acc2 ((zs.take i).filterMap (handOf t.hands))) ⟨Kp.new nD2, [], upd_same, Nat.le_refl _, by rw [List.take_zero]; exact .nil⟩ (fun i I _ ⟨kI, _⟩ => SqL.of (kI.t.lst hq2 (ne_of_none hq2 nD2))) ?_ ?_
      · rintro i x I hx ⟨kI, acc2, hD2, hal2, pI⟩
        obtain ⟨j, hj, rfl⟩ : ∃ j, zs[i]? = some j ∧ x = V.int j := by
          rw [List.getElem?_map] at hx
          cases e : zs[i]? with
          | none => rw [e] at hx; cases hx
          | some j => rw [e] at hx; exact ⟨j, rfl, (Option.some.inj hx).symm⟩
        have hi : i < 4 := by
          have := (List.getElem?_eq_some_iff.mp hj).1
          omega
        have nJ2 : J D2 = none := kq2.free nD2 fun z => False.elim z
        have kJI : Kp (fun b => b = D2) J I := (kq2.sub fun _ z => False.elim z).trans kI fun b z => .inl z
        have SI : StL I s r h t n := SJ.kt kJI.t fun b kvs e _ z => by rw [show b = D2 from z, nJ2] at e; cases e
        obtain ⟨kvI, hdI, _, _, hvI⟩ := SI.hands
        have hjs : (t.hands j).isSome = true := by
          have := List.mem_of_getElem? hj
          rw [ezs] at this
          exact (List.mem_filter.mp this).2
        have qq := hvI j
        cases ef : t.hands j with
        | none => rw [ef] at hjs; cases hjs
        | some z =>
          obtain ⟨x, num, b⟩ := z
          rw [ef] at qq
          obtain ⟨u, q3, q4⟩ := qq
          refine ⟨rfl, _, rfl, sz 1 (by decide), fun v nv => ?_⟩
          have kv : Kp No I (upd I v (.tup [.int j])) := Kp.new nv
          have dg : DGet (upd I v (.tup [.int j])) h (.int j) (some (.ref u)) := by
            have := DGet.k (k := Sum.inl j) (kv.t.dK hdI fun z => z)
            rw [q3] at this
            exact this
          refine ⟨_, rfl, s, _, rfl, dgS (kv.t.dK SI.dc fun z => z) o_hands, _, rfl, h, .ref u, rfl, dg, v, u, [.int j], [.int x, .int num, .bl b], rfl, rfl, SqT.of upd_same, SqT.of (kv.t.tup q4), (by simp), sz 4 (by decide), (fun z => by cases z), fun _ p np => ?_⟩
          have kp : Kp No I (upd (upd I v (.tup [.int j])) p (.tup [.int j, .int x, .int num, .bl b])) := kv.andN np
          refine ⟨acc2, kp.t.lst hD2 (fun z => z), szL (by omega), (kI.trans kp fun _ z => False.elim z).andL (kp.t.lst hD2 fun z => z) rfl, _, upd_same, by rw [List.length_append]; simp only [List.length_cons, List.length_nil]; omega, ?_⟩
          have : handOf t.hands j = some (j, x, num, b) := by unfold handOf; rw [ef]; rfl
          rw [filterMap_take _ hj, this]
          have ka : Kp (fun b => b = D2) I _ := (kp.sub fun _ z => False.elim z).andL (o' := .lst (acc2 ++ [.ref p])) (kp.t.lst hD2 fun z => z) rfl
          refine (pI.mono fun _ _ z => z.kt ka.t).snoc ⟨p, rfl, ?_⟩
          have npD : p ≠ D2 := fun z => by rw [z] at np; rw [kv.t.lst hD2 fun z => z] at np; cases np
          show upd (upd (upd I v (.tup [.int j])) p (.tup [.int j, .int x, .int num, .bl b])) D2 (.lst (acc2 ++ [.ref p])) p = _
          rw [upd_ne npD, upd_same]
      · rintro I ⟨kI, acc2, hD2, hal2, pI⟩
        rw [List.length_map, List.take_length, ezs, filterMap_filter] at pI
        refine ⟨sz 3 (by decide), fun b nb => ?_⟩
        have kJI : Kp (fun b => b = D2) J I := (kq2.sub fun _ z => False.elim z).trans kI fun b z => .inl z
        have nD2H : H D2 = none := by
          have n1 : J D2 = none := kq2.free nD2 fun z => False.elim z
          exact kHJ.free n1 fun z => absurd z.symm nDD
        have kb : Kp No I (upd I b (.tup [.int t.mom, .ref D, .ref D2])) := Kp.new nb
        have kHI : Kp (fun b => b = D ∨ b = D2) H (upd I b (.tup [.int t.mom, .ref D, .ref D2])) := ((kHJ.sub fun _ z => .inl z).trans (kJI.sub (F' := fun b => b = D ∨ b = D2) fun _ z => .inr z) fun b z => .inl z).trans kb fun _ z => False.elim z
        have kF : Kp No H _ := kp_fresh kHI fun b z => by rcases z with z | z <;> rw [z] <;> assumption
        have hDI := kJI.t.lst hD nDD
        have nbH : H b = none := by
          by_cases y : b = D ∨ b = D2
          · rcases y with y | y
            · rw [y, hDI] at nb; cases nb
            · rw [y, hD2] at nb; cases nb
          · exact ((kHJ.sub (F' := fun b => b = D ∨ b = D2) fun _ z => .inl z).trans (kJI.sub (F' := fun b => b = D ∨ b = D2) fun _ z => .inr z) fun b z => .inl z).free nb fun z => absurd z y
        exact k _ b D D2 _ _ nbH kF upd_same (kb.t.lst hDI fun z => z) (pJ.mono fun _ _ z => (z.kt kJI.t).kt kb.t) (kb.t.lst hD2 fun z => z) (pI.mono fun _ _ z => z.kt kb.t)
end
end S02

set_option Elab.async false
set_option linter.all false
set_option maxRecDepth 100000
set_option maxHeartbeats 4000000
namespace S02
open PySem PySem.Spec PyProof.Rows L2 K5 SupX GenX
section
variable {P : Program} {w : World} {K : PySem.W.Frag} {mg : Str → Option Value} {base : Heap} {A : Ad} {tp : Nat → Addr} {nr pl B C fI : Addr}
/-! ### one deal -/
theorem scDe : FnScope ["self", "hand", "letter", "deeds"] ["self", "hand", "letter", "deeds"] (defScope s_Lead_deal) := ⟨rfl, rfl, rfl, by decide +kernel, rfl, by decide +kernel, by decide +kernel⟩
def spDealM (A : Ad) (K : PySem.W.Frag) (tp : Nat → Addr) : Sp := fun vs H Q _ => ∃ (l : Addr) (a : La) (t : TT) (n : Nat) (m : M) (dv : V) (g : Gd) (e : Int), vs = [.ref l, .int g.hd, .int g.x, dv] ∧ LeadAt A K H l a t n m ∧ Tg (tL tp) H ∧ DsAt H dv g.ds ∧ okG (lastL t.hands) [g] ∧ n ≤ 13000 ∧ 0 ≤ t.num ∧ Enough m (e + 16) ∧ 0 ≤ e ∧
  ∀ G a' m' v, LeadAt A K G l a' (dl1 t g) (n + 20) m' → Enough m' e → a'.d = a.d → (∀ b, lF l a' b → lF l a b ∨ H b = none) → Kg (tL tp) (lF l a) H G → TpAt G v (toldOf (dl1 t g) g.hd) → Q v G
theorem ok_deal1 (T : Txt K mg A) (TB : TbsB base mg A tp) (X : Ex P w K mg A B C fI) (htop : (P.main.scope.names.lookup ("super" : Str)).isSome = false) : ∃ fd, FnOk P w K mg base CX0 13 (A.m 74 4) fd ["self", "hand", "letter", "deeds"] (spDealM A K tp) ∧ Binds K fd ["self", "hand", "letter", "deeds"] [] := by
  obtain ⟨fd, F⟩ := T.m_Lead_deal.fn
  obtain ⟨fd1, G_Lead_deals, b_Lead_deals⟩ := ok_deals (P := P) (w := w) (base := base) T TB X htop
  refine ⟨fd, F.ok scDe (fun vs H Q E h => ?_) (fun cdv Ar outer s0 H vs Q E hr h => ?_), F.binds fun _ _ _ _ _ _ us hl => match us, hl with | [_, _, _, _], _ => rfl⟩
  · obtain ⟨l, a, t, n, m, dv, g, e, rfl, _⟩ := h
    rfl
  · obtain ⟨l, a, t, n, m, dv, g, e, rfl, L, TG, hds, okg, hn, hnu, en, he, k⟩ := h
    have hu := hu_of hr
    refine ⟨_, (pss_one (ps_ret (pe_ix ix_list (pe_meth (pv 0) T.cl_Lead T.m_Lead_deals.me G_Lead_deals (hr.mono (by first | decide | omega)) b_Lead_deals .nil pass0 (pa_cons (pe_lst (pa_cons (pe_tup (pa_cons (pv 1) (pa_cons (pv 2) (pa_cons (pv 3) pa_nil)))) pa_nil)) pa_nil)) pe_int (fun _ _ => rfl)))), ?_⟩
    obtain ⟨dx, hs, el⟩ := L.at_
    refine ⟨_, rfl, l, dx, _, rfl, el, rfl, _, rfl, _, rfl, _, rfl, sz 3 (by decide), fun u nu => ⟨sz 1 (by decide), fun gp ngp => ?_⟩⟩
    have ku : Kp No H (upd (upd H u (.tup [.int g.hd, .int g.x, dv])) gp (.lst [.ref u])) := (Kp.new nu).andN ngp
    have hu2 : upd (upd H u (.tup [.int g.hd, .int g.x, dv])) gp (.lst [.ref u]) u = some (.tup [.int g.hd, .int g.x, dv]) := by rw [upd_ne (upd_none ngp).1.symm, upd_same]
    have hgp : upd (upd H u (.tup [.int g.hd, .int g.x, dv])) gp (.lst [.ref u]) gp = some (.lst [.ref u]) := upd_same
    unfold tNil
    show spDeals A K tp [.ref l, .ref gp] (upd (upd H u (.tup [.int g.hd, .int g.x, dv])) gp (.lst [.ref u])) _ _
    generalize upd (upd H u (.tup [.int g.hd, .int g.x, dv])) gp (.lst [.ref u]) = G1 at ku hu2 hgp ⊢
    refine ⟨l, a, t, n, m, gp, [.ref u], [g], e, rfl, L.kt ku.t (fun _ z => False.elim z), TG.kp ku, hgp, .cons ⟨u, dv, rfl, hu2, hds.kt ku.t⟩ .nil, (by show 1 ≤ 4; decide), okg, hn, hnu, .inr en, (fun _ => en.le (by omega)), he, fun G a' m' to vs q1 q2 q3 q4 q5 _ q6 q7 q8 q9 => ?_⟩
    cases q9 with
    | cons r nl =>
      cases nl
      refine ⟨to, _, 0, _, rfl, rfl, SqL.of q8, rfl, ?_⟩
      refine k G a' m' _ q1 q2 q3 (fun b z => (q4 b z).imp id fun y => ku.free y fun z => False.elim z) (((Kg.of ku).sub fun _ z => False.elim z).trans q5 fun _ z => .inl z) r
end
end S02

set_option Elab.async false
set_option linter.all false
set_option maxRecDepth 100000
set_option maxHeartbeats 8000000
/-! ### the law's helpers -/
namespace S02
open PySem PySem.Spec PyProof.Rows L2 K5 SupX GenX TL
theorem badFrom_ok : ∀ {ds : List Dd} {i : Nat}, (∀ d ∈ ds, d.ok = true) → i + ds.length ≤ 4 → badFrom i ds = none
  | [], _, _, _ => rfl
  | d :: ds, i, h, l => by
    rw [List.length_cons] at l
    unfold badFrom
    rw [if_neg]
    · exact badFrom_ok (fun d' hd => h d' (List.mem_cons_of_mem _ hd)) (by omega)
    · rw [h d List.mem_cons_self]
      simp
      omega
theorem deal_ok {ds : List Dd} (h : ∀ d ∈ ds, d.ok = true) (l1 : 1 ≤ ds.length) (l4 : ds.length ≤ 4) : dealBad ds = none := by
  unfold dealBad
  rw [if_neg (fun z => by rw [z] at l1; simp at l1)]
  exact badFrom_ok h (by omega)
section
variable {P : Program} {w : World} {K : PySem.W.Frag} {mg : Str → Option Value} {base : Heap} {A : Ad} {tp : Nat → Addr} {nr pl B C fI pR : Addr}
abbrev Nscdeals : List Str := ["_law_box", "_law_found", "_law_turn", "_law_letter"]
theorem scdeals : FnScope Nscdeals ["_law_box"] (defScope s_deals) := ⟨rfl, rfl, rfl, by decide +kernel, rfl, by decide +kernel, by decide +kernel⟩
def spLDeals : Sp := fun vs H Q _ => ∃ (bx bi : Addr), vs = [.ref bx] ∧ BoxAt H bx bi ∧ ∀ G l xs gs, BoxAt G bx bi → Kp (bF bx bi) H G → H l = none → G l = some (.lst xs) → Paired (GdAt G) xs gs → (∀ g ∈ gs, GdW g) → gs.length ≤ 12 → Q (.ref l) G
theorem ok_ldeals (T : Txt K mg A) : ∃ fd, FnOk P w K mg base CX0 4 (A.d 90) fd ["_law_box"] spLDeals ∧ Binds K fd ["_law_box"] [] := by
  obtain ⟨fd, F⟩ := T.deals.fn
  obtain ⟨fd1, Gtake, btake⟩ := ok_take (P := P) (w := w) (base := base) T
  obtain ⟨fd2, Gdrawn, bdrawn⟩ := ok_drawn (P := P) (w := w) (base := base) T
  obtain ⟨fd3, Gstore, bstore⟩ := ok_store (P := P) (w := w) (base := base) T
  refine ⟨fd, F.ok scdeals (fun vs H Q E h => ?_) (fun cdv Ar outer s0 H vs Q E hr h => ?_), F.binds fun _ _ _ _ _ _ us hl => match us, hl with | [_], _ => rfl⟩
  · obtain ⟨bx, bi, rfl, _⟩ := h
    rfl
  · obtain ⟨bx, bi, rfl, BX, k⟩ := h
    have hu := hu_of hr
    refine ⟨_, (pss_cons (ps_set (i := 1) scdeals.nd rfl (Or.inl rfl) (pe_lst pa_nil))
      (pss_cons (ps_for PassesOwn.never rfl (pi_range1 (by rfl) T.range (pa_cons (pe_call Gtake (hr.mono (by first | decide | omega)) rfl T.take.at_ T.take.kp btake .nil pass0 (pa_cons (pv 0) (pa_cons pe_int pa_nil))) pa_nil)) (pg_name (i := 2) scdeals.nd rfl (Or.inl rfl))
        (pss_cons (ps_set (i := 3) scdeals.nd rfl (Or.inl rfl) (pe_ix ix_list (pe_lst (pa_cons (pe_op op_add pe_int (pe_call Gtake (hr.mono (by first | decide | omega)) rfl T.take.at_ T.take.kp btake .nil pass0 (pa_cons (pv 0) (pa_cons pe_int pa_nil)))) (pa_cons (pe_call Gtake (hr.mono (by first | decide | omega)) rfl T.take.at_ T.take.kp btake .nil pass0 (pa_cons (pv 0) (pa_cons pe_int pa_nil))) pa_nil))) (pe_call Gtake (hr.mono (by first | decide | omega)) rfl T.take.at_ T.take.kp btake .nil pass0 (pa_cons (pv 0) (pa_cons pe_int pa_nil))) (fun _ _ => rfl)))
        (pss_one (ps_expr (pe_bm PySem.F.plainAttrs_list PySem.F.slot_list_append PySem.F.type_list_append mt_append (pv 1) (pa_cons (pe_tup (pa_cons (pe_call Gtake (hr.mono (by first | decide | omega)) rfl T.take.at_ T.take.kp btake .nil pass0 (pa_cons (pv 0) (pa_cons pe_int pa_nil))) (pa_cons (pv 3) (pa_cons (pe_call Gdrawn (hr.mono (by first | decide | omega)) rfl T.drawn.at_ T.drawn.kp bdrawn .nil pass0 (pa_cons (pv 0) (pa_cons (pe_call0 Gstore (hr.mono (by first | decide | omega)) rfl T.store.at_ T.store.kp bstore .nil pass0) pa_nil))) pa_nil)))) pa_nil))))))
      (pss_one (ps_ret (pv 1))))), ?_⟩
    refine ⟨sz 0 (by decide), fun l nl => ?_⟩
    have kl : Kp No H (upd H l (.lst [])) := Kp.new nl
    have el : upd H l (.lst []) l = some (.lst []) := upd_same
    have B0 := BX.no kl
    have nlb : ¬ bF bx bi l := new_nb BX nl
    generalize upd H l (.lst []) = H1 at kl el B0 ⊢
    refine ⟨_, rfl, bx, bi, 13, rfl, B0, by decide, by decide, fun n G1 n0 n1 B1 k1 => ⟨n, rfl, by omega, by omega, for_range (lo := 0) (n := n.toNat) (fun i σ J => ∃ o2 o3 xs gs, σ = [some (.ref bx), some (.ref l), o2, o3] ∧ BoxAt J bx bi ∧ Kp (bF bx bi) H J ∧ J l = some (.lst xs) ∧ Paired (GdAt J) xs gs ∧ (∀ g ∈ gs, GdW g) ∧ gs.length = i) ⟨none, none, [], [], rfl, B1, (kl.sub fun _ z => False.elim z).trans k1 fun b z => .inl z, k1.t.lst el nlb, .nil, (fun _ z => by cases z), rfl⟩ ?_ ?_⟩⟩
    · rintro i σ J hi ⟨o2, o3, xs, gs, rfl, BJ, kJ, eJ, pJ, hg, hlen⟩
      have hi12 : i < 12 := by omega
      refine ⟨_, rfl, bx, bi, 9, rfl, BJ, by decide, by decide, fun a1 J1 a10 a11 B2 k2 => ⟨_, _, rfl, rfl, _, rfl, bx, bi, 10000, rfl, B2, by decide, by decide, fun a2 J2 a20 a21 B3 k3 => ⟨sz 2 (by decide), fun p1 np1 => ?_⟩⟩⟩
      refine ⟨_, rfl, bx, bi, 2, rfl, B3.new np1, by decide, by decide, fun a3 J3 a30 a31 B4 k4 => ?_⟩
      obtain ⟨x, hx, s1, e1⟩ := pickL (K := K) V.int [1 + a1, a2] B3 np1 k4 a30 a31
      refine ⟨p1, _, a3, .int x, rfl, rfl, s1, e1, ?_⟩
      have hx2 : 0 ≤ x ∧ x ≤ 9999 := by
        simp only [List.mem_cons, List.not_mem_nil, or_false] at hx
        omega
      have k24 : Kp (bF bx bi) J J3 := ((k2.trans k3 fun _ z => .inl z).trans (Kp.new (F := bF bx bi) np1) fun _ z => .inl z).trans k4 fun _ z => .inl z
      refine ⟨_, rfl, .inl ⟨rfl, _, SqL.of (k24.t.lst eJ nlb)⟩, _, rfl, bx, bi, 4, rfl, B4, by decide, by decide, fun hd J4 h0 h3 B5 k5 => ⟨_, rfl, _, rfl, rfl, fun J5 s r h ns nr nh S5 k6 => ?_⟩⟩
      refine ⟨bx, bi, s, r, h, TT.new, 0, rfl, B5.no k6, S5, (fun k w e z => by cases z), fun J6 dv ds B6 k7 hds hok l1 l4 => ⟨sz 3 (by decide), fun u nu => ?_⟩⟩
      have kU : Kp No J6 (upd J6 u (.tup [.int hd, .int x, dv])) := Kp.new nu
      have eU : upd J6 u (.tup [.int hd, .int x, dv]) u = some (.tup [.int hd, .int x, dv]) := upd_same
      generalize upd J6 u (.tup [.int hd, .int x, dv]) = J7 at kU eU ⊢
      have kJ7 : Kp (bF bx bi) J J7 := (((k24.trans k5 fun _ z => .inl z).trans k6 fun _ z => False.elim z).trans k7 fun _ z => .inl z).trans kU fun _ z => False.elim z
      have eJ7 := kJ7.t.lst eJ nlb
      refine ⟨l, xs, _, rfl, rfl, eJ7, szL (by rw [pJ.length]; omega), ?_⟩
      have kA : Kp (fun b => b = l) J7 (upd J7 l (.lst (xs ++ [.ref u]))) := Kp.updL eJ7 rfl
      have w9 : GdW ⟨hd, x, ds⟩ := ⟨h0, (by show hd ≤ 3; omega), hx2.1, hx2.2, deal_ok hok l1 l4⟩
      refine ⟨_, _, _, gs ++ [⟨hd, x, ds⟩], rfl, (B6.no kU).kt kA.t (fun b z y => nlb (by rw [← show b = l from z]; exact y)), ?_, upd_same, ?_, fun g hg' => ?_, by rw [List.length_append, hlen]; rfl⟩
      · intro b o e n
        by_cases z : b = l
        · rw [z, nl] at e; cases e
        · exact kA b o (kJ7 b o (kJ b o e n) n) fun _ => z
      · exact (pJ.mono fun _ _ z => (z.kt kJ7.t).kt kA.t).snoc ⟨u, dv, rfl, kA.t.tup eU, (hds.kt kU.t).kt kA.t⟩
      · rcases List.mem_append.mp hg' with z | z
        · exact hg g z
        · rw [List.mem_singleton.mp z]; exact w9
    · rintro σ J ⟨o2, o3, xs, gs, rfl, BJ, kJ, eJ, pJ, hg, hlen⟩
      exact ⟨_, rfl, k J l xs gs BJ kJ nl eJ pJ hg (by omega)⟩
end
end S02

set_option Elab.async false
set_option linter.all false
set_option maxRecDepth 100000
set_option maxHeartbeats 8000000
/-! ### the law's helpers: the text of deals; what a lead tells of them -/
namespace S02
open PySem PySem.Spec PyProof.Rows L2 K5 SupX GenX TL
abbrev rJoinS (K : PySem.W.Frag) : V → List V → Hp → VK → Prop := fun x xs H Q => ∃ a p, ∃ ys : List Str, x = .str a ∧ xs = [.ref p] ∧ (SqL K H p (ys.map V.str) ∨ SqT K H p (ys.map V.str)) ∧ (ys.map (·.length)).sum + ys.length * a.length ≤ 16777216 ∧ Q (.str (Txt.join a ys)) H
abbrev rStrB : List V → Hp → VK → Prop := fun xs H Q => (∃ i, xs = [.int i] ∧ i.natAbs.log2 < 1920 ∧ Q (.str (nS i)) H) ∨ ∃ a, xs = [.str a] ∧ Q (.str a) H
section
variable {P : Program} {w : World} {K : PySem.W.Frag} {mg : Str → Option Value} {base : Heap} {A : Ad} {tp : Nat → Addr} {nr pl B C fI pR : Addr}
/-- a deed's text, the deed in slot 6, its parts in slot 7 -/
theorem deed_text {K : PySem.W.Frag} {J : Hp} {v : V} {d : Dd} {s0 s1 s2 s3 s4 s5 s7 : Option V} {Q : VK} (hv : DdAt J v d) (hok : d.ok = true) (hQ : ∀ G, Kp No J G → Q (.str (deedS d)) G) :
    (tM1 (rJoinS K) (tC (.str " ")) (tLc (iTup K (tVar 6)) (gName 7) tYes (tIf (tB (tIsN (tVar 7))) (tC (.str "-")) (tCB rStrB (tCons (tVar 7) tNil))) [7])) [s0, s1, s2, s3, s4, s5, some v, s7] J Q := by
  obtain ⟨a, rfl, e⟩ := hv
  refine ⟨⟨_, rfl⟩, _, rfl, a, rfl, ⟨_, SqT.of e⟩, fun D nD => ?_⟩
  refine lc_tup (K := K) (a := a) (xs := d.vs) (fun i G => Kp (fun b => b = D) J G ∧ G D = some (.lst (((d.vs.take i).map pS).map V.str))) ⟨Kp.new nD, upd_same⟩ (fun i G _ ⟨kG, _⟩ => SqT.of (kG.t.tup e)) ?_ ?_
  · rintro i x G hx ⟨kG, eG⟩
    have hm := List.mem_of_getElem? hx
    have hl : i < 4 := Nat.lt_of_lt_of_le (List.getElem?_eq_some_iff.mp hx).1 (vs_len d)
    have fin : ∀ {y : V}, y = .str (pS x) → ∃ acc, G D = some (.lst acc) ∧ acc.length < sizeLine ∧ Kp (fun b => b = D) J (upd G D (.lst (acc ++ [y]))) ∧ (upd G D (.lst (acc ++ [y]))) D = some (.lst (((d.vs.take (i + 1)).map pS).map V.str)) := fun {y} hy => by
      subst hy
      refine ⟨_, eG, szL (by rw [List.length_map, List.length_map, List.length_take]; omega), kG.trans (show Kp (fun b => b = D) G _ from Kp.updL eG rfl) fun b z => .inl z, ?_⟩
      rw [upd_same, take_snoc hx, List.map_append, List.map_append]
      rfl
    refine ⟨rfl, _, rfl, ?_⟩
    rcases List.mem_cons.mp hm with rfl | hp
    · exact ⟨_, rfl, iteF ⟨_, rfl, .inr ⟨_, rfl, fin rfl⟩⟩⟩
    · rcases parts_small hok x hp with ⟨n, rfl, n1, n2⟩ | rfl
      · exact ⟨_, rfl, iteF ⟨_, rfl, .inl ⟨n, rfl, small_log (by omega) (by omega), fin rfl⟩⟩⟩
      · exact ⟨_, rfl, iteT (fin rfl)⟩
  · rintro G ⟨kG, eG⟩
    rw [List.take_length] at eG
    refine ⟨" ", D, d.vs.map pS, rfl, rfl, .inl (SqL.of eG), ?_, ?_⟩
    · have h1 := sum_len (m := 5) (ys := d.vs.map pS) fun y hy => by
        obtain ⟨v, hv, rfl⟩ := List.mem_map.mp hy
        exact part_len hok v hv
      rw [List.length_map] at h1 ⊢
      have h2 := vs_len d
      have h3 : (" " : Str).length = 1 := by decide +kernel
      rw [h3]
      have h4 : d.vs.length * 5 ≤ 4 * 5 := Nat.mul_le_mul_right _ h2
      omega
    · rw [join_eq]
      exact hQ G (kp_fresh kG fun b z => by rw [show b = D from z]; exact nD)
abbrev Nsctext : List Str := ["_law_deals_here", "_law_rows", "_law_hand", "_law_letter", "_law_deal_here", "_law_deeds", "_law_deed_here", "_law_part"]
theorem sctext : FnScope Nsctext ["_law_deals_here"] (defScope s_text) := ⟨rfl, rfl, rfl, by decide +kernel, rfl, by decide +kernel, by decide +kernel⟩
def spText : Sp := fun vs H Q _ => ∃ (a : Addr) (xs : List V) (gs : List Gd), vs = [.ref a] ∧ H a = some (.lst xs) ∧ Paired (GdAt H) xs gs ∧ (∀ g ∈ gs, GdW g) ∧ gs.length ≤ 12 ∧ ∀ G, Kp No H G → Q (.str (textS gs)) G
theorem ok_text (T : Txt K mg A) : ∃ fd, FnOk P w K mg base CX0 1 (A.d 91) fd ["_law_deals_here"] spText ∧ Binds K fd ["_law_deals_here"] [] := by
  obtain ⟨fd, F⟩ := T.text.fn
  refine ⟨fd, F.ok sctext (fun vs H Q E h => ?_) (fun cdv Ar outer s0 H vs Q E hr h => ?_), F.binds fun _ _ _ _ _ _ us hl => match us, hl with | [_], _ => rfl⟩
  · obtain ⟨a, xs, gs, rfl, _⟩ := h
    rfl
  · obtain ⟨a, xs, gs, rfl, e, pg, hg, hl, k⟩ := h
    have hu := hu_of hr
    refine ⟨_, (pss_cons (ps_set (i := 1) sctext.nd rfl (Or.inl rfl) (pe_lst pa_nil))
      (pss_cons (ps_for PassesOwn.never rfl (pi_list (pv 0)) (pg_tup rfl (pgs_cons (pg_name (i := 2) sctext.nd rfl (Or.inl rfl)) (pgs_cons (pg_name (i := 3) sctext.nd rfl (Or.inl rfl)) (pgs_cons (pg_name (i := 4) sctext.nd rfl (Or.inl rfl)) pgs_nil))))
        (pss_cons (ps_setLc (i := 5) (own := [("_law_deed_here", 6)]) (g := (gName 6)) (te := tM1 (rJoinS K) (tC (.str " ")) (tLc (iTup K (tVar 6)) (gName 7) tYes (tIf (tB (tIsN (tVar 7))) (tC (.str "-")) (tCB rStrB (tCons (tVar 7) tNil))) [7])) (by rfl) sctext.nd rfl rfl (sw_true rfl rfl rfl (by decide +kernel)) (pi_tup (pv 4)) (blkOk_by (N := Nsctext) (sc := defScope s_text) (by decide +kernel)) (fun _ _ _ _ _ => pg_name (i := 6) sctext.nd rfl (Or.inl rfl)) (fun _ _ _ _ _ => pts_nil) (fun _ _ _ _ _ => by exact (pe_join pe_str (pe_lc (own := [("_law_part", 7)]) (g := (gName 7)) (by rfl) sctext.nd (pi_tup (pv 6)) (blkOk_by (N := Nsctext) (sc := { kind := .function, names := [(".0", .local), ("_law_deed_here", .local)], isGenerator := false, isCoroutine := false }) (by decide +kernel)) (fun _ _ _ _ _ => pg_name (i := 7) sctext.nd rfl (Or.inl rfl)) (fun _ _ _ _ _ => pts_nil) (fun _ _ _ _ _ => (pe_ifExp (pt_cmp (pc_isN (pv 7))) pe_str (pe_callTy call_strB (by rfl) T.str (by decide +kernel) (pa_cons (pv 7) pa_nil))))))))
        (pss_one (ps_expr (pe_bm PySem.F.plainAttrs_list PySem.F.slot_list_append PySem.F.type_list_append mt_append (pv 1) (pa_cons (pe_op op_add_str (pe_op op_add_str (pe_op op_add_str (pe_op op_add_str (pe_callTy call_str_int (by rfl) T.str (by decide +kernel) (pa_cons (pv 2) pa_nil)) pe_str) (pe_callTy call_str_int (by rfl) T.str (by decide +kernel) (pa_cons (pv 3) pa_nil))) pe_str) (pe_join pe_str (pv 5))) pa_nil))))))
      (pss_one (ps_ret (pe_join pe_str (pv 1)))))), ?_⟩
    refine ⟨sz 0 (by decide), fun rw_ nrw => ?_⟩
    have k0 : Kp (fun b => b = rw_) H (upd H rw_ (.lst [])) := Kp.new nrw
    have ra : a ≠ rw_ := fun z => by rw [← z, e] at nrw; cases nrw
    refine ⟨_, rfl, a, rfl, ⟨_, SqL.of (k0.t.lst e ra)⟩, for_list (K := K) (a := a) (xs := xs) (fun i σ J => ∃ o2 o3 o4 o5 o6 o7, σ = [some (.ref a), some (.ref rw_), o2, o3, o4, o5, o6, o7] ∧ Kp (fun b => b = rw_) H J ∧ J rw_ = some (.lst ((rowsS (gs.take i)).map V.str))) ⟨_, _, _, _, _, _, rfl, k0, upd_same⟩ (fun i σ J _ ⟨_, _, _, _, _, _, _, kJ, _⟩ => SqL.of (kJ.t.lst e ra)) ?_ ?_⟩
    · rintro i y σ J hy ⟨o2, o3, o4, o5, o6, o7, rfl, kJ, eJ⟩
      obtain ⟨g, hgi, u, dv, rfl, hu2, hds⟩ := paired_at pg hy
      have hi := (List.getElem?_eq_some_iff.mp hgi).1
      have w9 := hg g (List.mem_of_getElem? hgi)
      obtain ⟨w0, w1, w2⟩ := deal_all w9.ok
      obtain ⟨b, ys, rfl, eb, pd, _⟩ := hds
      refine ⟨u, _, rfl, SqT.of (kJ.t.tup hu2), rfl, _, _, rfl, _, _, rfl, _, _, rfl, rfl, ?_⟩
      refine ⟨_, rfl, b, rfl, ⟨_, SqT.of (kJ.t.tup eb)⟩, fun D nD => ?_⟩
      have nDr : rw_ ≠ D := fun z => by rw [← z, eJ] at nD; cases nD
      refine lc_tup (K := K) (a := b) (xs := ys) (fun i I => Kp (fun c => c = D) J I ∧ I D = some (.lst (((g.ds.take i).map deedS).map V.str))) ⟨Kp.new nD, upd_same⟩ (fun i I _ ⟨kI, _⟩ => SqT.of (kI.t.tup (kJ.t.tup eb))) ?_ ?_
      · rintro i2 z I hz ⟨kI, eI⟩
        obtain ⟨d, hd, hdd⟩ := paired_at pd hz
        have hi2 := (List.getElem?_eq_some_iff.mp hd).1
        refine ⟨rfl, deed_text ((hdd.kt kJ.t).kt kI.t) (w1 d (List.mem_of_getElem? hd)) fun G kG => ?_⟩
        have eG := kG.t.lst eI fun z => z
        refine ⟨_, eG, szL (by rw [List.length_map, List.length_map, List.length_take]; omega), (kI.trans kG fun _ z => False.elim z).trans (show Kp (fun c => c = D) G _ from Kp.updL eG rfl) fun b z => .inl z, ?_⟩
        rw [upd_same, take_snoc hd, List.map_append, List.map_append]
        rfl
      · rintro I ⟨kI, eI⟩
        rw [show g.ds.take ys.length = g.ds by rw [pd.length]; exact List.take_length] at eI
        have kHI : Kp (fun b => b = rw_) H I := kJ.trans (kp_fresh kI fun c z => by rw [show c = D from z]; exact nD) fun _ z => False.elim z
        have eR : I rw_ = some (.lst ((rowsS (gs.take i)).map V.str)) := kI.t.lst eJ nDr
        have c1 := nS_len (i := g.hd) (by have := w9.h0; omega) (by have := w9.h3; omega)
        have c2 := nS_len (i := g.x) (by have := w9.x0; omega) (by have := w9.x9; omega)
        have c3 : (tl (" " : Str)).length = 1 := by decide +kernel
        have c4 : (tl (": " : Str)).length = 2 := by decide +kernel
        have tlen : (tl (Str.join ("; " : Str) (g.ds.map deedS))).length ≤ 104 := tail_len w1 w2
        have big : ∀ {y z : Str}, (tl y).length + (tl z).length ≤ 400 → y.length + z.length ≤ sizeLine := fun {y z} h => by rw [len_tl, len_tl]; exact Nat.le_trans h (by decide)
        have lens := sum_len (m := 24) (ys := g.ds.map deedS) fun y hy => by
          obtain ⟨d, hd, rfl⟩ := List.mem_map.mp hy
          exact deed_len (w1 d hd)
        rw [List.length_map] at lens
        have l4 : g.ds.length * 24 ≤ 4 * 24 := Nat.mul_le_mul_right _ w2
        have tlen2 : (tl (Txt.join ("; " : Str) (g.ds.map deedS))).length ≤ 104 := by rw [join_eq]; exact tlen
        have sums : ((g.ds.map deedS).map (·.length)).sum + (g.ds.map deedS).length * ("; " : Str).length ≤ 16777216 := by
          rw [List.length_map, show ("; " : Str).length = 2 by decide +kernel]
          omega
        refine ⟨_, rfl, .inl ⟨rfl, _, SqL.of eR⟩, _, rfl, g.hd, rfl, small_log (by have := w9.h0; omega) (by have := w9.h3; omega), nS g.hd, " ", rfl, rfl, big (by omega), _, rfl, g.x, rfl, small_log (by have := w9.x0; omega) (by have := w9.x9; omega), nS g.hd ++ " ", nS g.x, rfl, rfl, big (by simp only [tl_append, List.length_append]; omega), nS g.hd ++ " " ++ nS g.x, ": ", rfl, rfl, big (by simp only [tl_append, List.length_append]; omega), ⟨_, rfl⟩, _, rfl, "; ", D, g.ds.map deedS, rfl, rfl, .inl (SqL.of eI), sums, nS g.hd ++ " " ++ nS g.x ++ ": ", _, rfl, rfl, big (by simp only [tl_append, List.length_append]; omega), rw_, _, _, rfl, rfl, eR, szL (by unfold rowsS; rw [List.length_map, List.length_map, List.length_take]; omega), ?_⟩
        refine ⟨_, _, _, _, _, _, rfl, kHI.trans (show Kp (fun b => b = rw_) I _ from Kp.updL eR rfl) fun b z => .inl z, ?_⟩
        rw [upd_same, take_snoc hgi, join_eq]
        unfold rowsS
        rw [List.map_append, List.map_append]
        rfl
    · rintro σ J ⟨o2, o3, o4, o5, o6, o7, rfl, kJ, eJ⟩
      rw [show gs.take xs.length = gs by rw [pg.length]; exact List.take_length] at eJ
      have lens := sum_len (m := 117) (ys := rowsS gs) (rows_len hg)
      refine ⟨⟨_, rfl⟩, _, rfl, "\n", rw_, rowsS gs, rfl, rfl, .inl (SqL.of eJ), ?_, ?_⟩
      · unfold rowsS at lens ⊢
        rw [List.length_map] at lens ⊢
        have h3 : ("\n" : Str).length = 1 := by decide +kernel
        rw [h3]
        have h4 : gs.length * 117 ≤ 12 * 117 := Nat.mul_le_mul_right _ hl
        omega
      · rw [join_eq]
        exact k J (kp_fresh kJ fun b z => by rw [show b = rw_ from z]; exact nrw)
end
end S02

set_option Elab.async false
set_option linter.all false
set_option maxRecDepth 100000
set_option maxHeartbeats 8000000
/-! ### what a lead tells of deals, their letters numbered anew -/
namespace S02
open PySem PySem.Spec PyProof.Rows L2 K5 SupX GenX TL
def renum (t : TT) (g : Gd) : Gd := ⟨g.hd, lastL t.hands g.hd + 1, g.ds⟩
def dealtT (t : TT) (gs : List Gd) : TT := gs.foldl (fun t g => dl1 t (renum t g)) t
theorem dealtT_snoc {t : TT} {gs : List Gd} {g : Gd} : dealtT t (gs ++ [g]) = dl1 (dealtT t gs) (renum (dealtT t gs) g) := by
  unfold dealtT
  rw [List.foldl_append]
  rfl
/-- the letters, as a list of four -/
def letV (t : TT) : List V := [.int (lastL t.hands 0), .int (lastL t.hands 1), .int (lastL t.hands 2), .int (lastL t.hands 3)]
theorem letV_at {t : TT} {h : Int} (h0 : 0 ≤ h) (h3 : h ≤ 3) : atI (letV t) h = some (.int (lastL t.hands h)) := by
  have : h = 0 ∨ h = 1 ∨ h = 2 ∨ h = 3 := by omega
  rcases this with rfl | rfl | rfl | rfl <;> rfl
theorem letV_set {t : TT} {g : Gd} (h0 : 0 ≤ g.hd) (h3 : g.hd ≤ 3) : ∃ k, ixN 4 g.hd = some k ∧ (letV t).set k (.int (lastL t.hands g.hd + 1)) = letV (dl1 t (renum t g)) := by
  obtain ⟨h, x, ds⟩ := g
  have : h = 0 ∨ h = 1 ∨ h = 2 ∨ h = 3 := by have h0 : 0 ≤ h := h0; have h3 : h ≤ 3 := h3; omega
  have e := dl1_last t (renum t ⟨h, x, ds⟩)
  unfold letV
  rcases this with rfl | rfl | rfl | rfl
  · exact ⟨0, rfl, by rw [e, e, e, e]; rfl⟩
  · exact ⟨1, rfl, by rw [e, e, e, e]; rfl⟩
  · exact ⟨2, rfl, by rw [e, e, e, e]; rfl⟩
  · exact ⟨3, rfl, by rw [e, e, e, e]; rfl⟩
section
variable {P : Program} {w : World} {K : PySem.W.Frag} {mg : Str → Option Value} {base : Heap} {A : Ad} {tp : Nat → Addr} {nr pl B C fI pR : Addr}
abbrev Nscdealt : List Str := ["_law_deals_here", "_law_lead", "_law_letters", "_law_hand", "_law_letter", "_law_deal_here"]
theorem scdealt : FnScope Nscdealt ["_law_deals_here"] (defScope s_dealt) := ⟨rfl, rfl, rfl, by decide +kernel, rfl, by decide +kernel, by decide +kernel⟩
def spDealt (tp : Nat → Addr) : Sp := fun vs H Q _ => ∃ (a : Addr) (xs : List V) (gs : List Gd), vs = [.ref a] ∧ H a = some (.lst xs) ∧ Paired (GdAt H) xs gs ∧ (∀ g ∈ gs, GdW g) ∧ gs.length ≤ 12 ∧ Tg (tL tp) H ∧
  ∀ G b l1 l2 xs zs, Kg (tL tp) No H G → G b = some (.tup [.int (dealtT TT.new gs).mom, .ref l1, .ref l2]) → G l1 = some (.lst xs) → Paired (RwV G) xs (whRows (dealtT TT.new gs) 8) → G l2 = some (.lst zs) → Paired (RhV G) zs (hnRows (dealtT TT.new gs).hands) → Q (.ref b) G
theorem ok_dealt (T : Txt K mg A) (TB : TbsB base mg A tp) (X : Ex P w K mg A B C fI) (N : NewRoot K mg nr pl) (htop : (P.main.scope.names.lookup ("super" : Str)).isSome = false) : ∃ fd, FnOk P w K mg base CX0 14 (A.d 92) fd ["_law_deals_here"] (spDealt tp) ∧ Binds K fd ["_law_deals_here"] [] := by
  obtain ⟨fd, F⟩ := T.dealt.fn
  obtain ⟨fda, G_Disk___init__, b_Disk___init__⟩ := ok_dk0 (P := P) (w := w) (base := base) (dTx T)
  obtain ⟨fdc, G_Lead___init__, b_Lead___init__⟩ := ok_linit (P := P) (w := w) (base := base) T N
  obtain ⟨fdd, G_Lead_deal, b_Lead_deal⟩ := ok_deal1 (P := P) (w := w) (base := base) T TB X htop
  obtain ⟨fdw, G_Lead_whole, b_Lead_whole⟩ := ok_wholeL (P := P) (w := w) (base := base) T TB
  refine ⟨fd, F.ok scdealt (fun vs H Q E h => ?_) (fun cdv Ar outer s0 H vs Q E hr h => ?_), F.binds fun _ _ _ _ _ _ us hl => match us, hl with | [_], _ => rfl⟩
  · obtain ⟨a, xs, gs, rfl, _⟩ := h
    rfl
  · obtain ⟨a, xs, gs, rfl, e, pg, hg, hl, TG, k⟩ := h
    have hu := hu_of hr
    refine ⟨_, (pss_cons (ps_set (i := 1) scdealt.nd rfl (Or.inl rfl) (pe_make (E := E0) T.mk_Lead G_Lead___init__ (hr.mono (by first | decide | omega)) rfl T.c_Lead b_Lead___init__ .nil pass0 (pa_cons (pe_make0 (E := E0) T.mk_Disk G_Disk___init__ (hr.mono (by first | decide | omega)) rfl T.c_Disk b_Disk___init__ .nil pass0) (pa_cons pe_int pa_nil))))
      (pss_cons (ps_set (i := 2) scdealt.nd rfl (Or.inl rfl) (pe_lst (pa_cons pe_int (pa_cons pe_int (pa_cons pe_int (pa_cons pe_int pa_nil))))))
      (pss_cons (ps_for PassesOwn.never rfl (pi_list (pv 0)) (pg_tup rfl (pgs_cons (pg_name (i := 3) scdealt.nd rfl (Or.inl rfl)) (pgs_cons (pg_name (i := 4) scdealt.nd rfl (Or.inl rfl)) (pgs_cons (pg_name (i := 5) scdealt.nd rfl (Or.inl rfl)) pgs_nil))))
        (pss_cons (ps_asg (pe_op op_add (pe_ix ix_list (pv 2) (pv 3) (fun _ _ => rfl)) pe_int) (pg_sub (pv 2) (pv 3) set_list))
        (pss_one (ps_expr (pe_meth (pv 1) T.cl_Lead T.m_Lead_deal.me G_Lead_deal (hr.mono (by first | decide | omega)) b_Lead_deal .nil pass0 (pa_cons (pv 3) (pa_cons (pe_ix ix_list (pv 2) (pv 3) (fun _ _ => rfl)) (pa_cons (pv 5) pa_nil))))))))
      (pss_one (ps_ret (pe_meth0 (pv 1) T.cl_Lead T.m_Lead_whole.me G_Lead_whole (hr.mono (by first | decide | omega)) b_Lead_whole .nil pass0)))))), ?_⟩
    have gnew : Good M.new := ⟨rfl, (fun q hq => nomatch hq), Nat.zero_le _, (fun z => by cases z), (fun l z => by cases z)⟩
    -- Lead(Disk(), 0)
    refine fun d ddx nd ndx nex => ⟨d, ddx, rfl, upd_same, fun G2 ls lu nls nlu D2 k2 => ⟨rfl, ?_⟩⟩
    have nd0 : upd H ddx (.own d) d = none := (upd_ne nex.symm).trans nd
    have k12 : Kp No H G2 := kp_fresh (((Kp.new (F := fun b => b = d) ndx).andN nd0).trans k2 fun b z => .inl z) fun b z => by rw [z]; exact nd
    have frd : ∀ b, dF d ls lu b → H b = none := fun b z => by
      rcases z with z | z | z <;> rw [z]
      · exact nd
      · exact (upd_none (upd_none nls).2).2
      · exact (upd_none (upd_none nlu).2).2
    refine fun l ldx nl nldx nlx => ?_
    have nl0 : upd G2 ldx (.own l) l = none := (upd_ne nlx.symm).trans nl
    have kL : Kp No G2 (upd (upd G2 ldx (.own l)) l (.ins (A.c 74) ldx [])) := (Kp.new nldx).andN nl0
    have eL : upd (upd G2 ldx (.own l)) l (.ins (A.c 74) ldx []) l = some (.ins (A.c 74) ldx []) := upd_same
    unfold tNil
    show spLInit A K [.ref l, .ref d, .int 0] (upd (upd G2 ldx (.own l)) l (.ins (A.c 74) ldx [])) _ _
    generalize upd (upd G2 ldx (.own l)) l (.ins (A.c 74) ldx []) = G3 at kL eL ⊢
    refine ⟨l, ldx, d, ls, lu, M.new, 16 * 12, rfl, eL, D2.kt kL.t (fun _ z => False.elim z), gnew, rfl, rfl, rfl, rfl, by decide, fun G4 a4 m4 en4 L4 ad4 fa4 k4 _ _ => ⟨rfl, ?_⟩⟩
    have k13 : Kp No H G3 := k12.trans kL fun _ z => False.elim z
    have frl : H l = none := k12.free nl fun z => False.elim z
    have fr4 : ∀ b, lF l a4 b → H b = none := fun b z => by
      rcases fa4 b z with y | y | y
      · rw [y]; exact frl
      · exact frd b y
      · exact k13.free y fun z => False.elim z
    have k14 : Kp No H G4 := kp_fresh ((k13.sub (F' := fun b => b = l ∨ dF d ls lu b) fun _ z => False.elim z).trans k4 fun b z => .inl z) fun b z => by
      rcases z with z | z
      · rw [z]; exact frl
      · exact frd b z
    -- the letters
    refine ⟨sz 4 (by decide), fun lt nlt => ?_⟩
    have klt : Kp No G4 (upd G4 lt (.lst (letV TT.new))) := Kp.new nlt
    have elt : upd G4 lt (.lst (letV TT.new)) lt = some (.lst (letV TT.new)) := upd_same
    show tSeq _ _ _ _ (upd G4 lt (.lst (letV TT.new)))
    generalize upd G4 lt (.lst (letV TT.new)) = G5 at klt elt ⊢
    have k15 : Kp No H G5 := k14.trans klt fun _ z => False.elim z
    have L5 := L4.kt klt.t fun _ z => False.elim z
    have nltL : ¬ lF l a4 lt := fun z => by obtain ⟨o, eo⟩ := L4.there z; rw [nlt] at eo; cases eo
    have nltH : H lt = none := k14.free nlt fun z => False.elim z
    obtain ⟨aD, eaD⟩ : ∃ x, x = a := ⟨_, rfl⟩
    subst eaD
    refine ⟨_, rfl, aD, rfl, ⟨_, SqL.of (k15.t.lst e fun z => z)⟩, for_list (K := K) (a := aD) (xs := xs) (fun i σ J => ∃ o3 o4 o5 a m, σ = [some (.ref aD), some (.ref l), some (.ref lt), o3, o4, o5] ∧ LeadAt A K J l a (dealtT TT.new (gs.take i)) (20 * i) m ∧ Enough m (16 * (12 - (i : Nat))) ∧ 0 ≤ (dealtT TT.new (gs.take i)).num ∧ (∀ j, 0 ≤ lastL (dealtT TT.new (gs.take i)).hands j) ∧ (∀ b, lF l a b → H b = none) ∧ ¬ lF l a lt ∧ J lt = some (.lst (letV (dealtT TT.new (gs.take i)))) ∧ Kg (tL tp) No H J) ?_ ?_ ?_ ?_⟩
    · exact ⟨none, none, none, a4, m4, rfl, by rw [List.take_zero]; exact L5, en4, by rw [List.take_zero]; exact Int.le_refl _, (fun j => by rw [List.take_zero]; exact Int.le_refl _), fr4, nltL, by rw [List.take_zero]; exact elt, Kg.of k15⟩
    · rintro i σ J _ ⟨_, _, _, _, _, _, _, _, _, _, _, _, _, kJ⟩
      exact SqL.of (kJ.t.lst e fun z => z)
    · rintro i y σ J hy ⟨o3, o4, o5, a, m, rfl, L, en, hnu, hla, fr, nlt', eJ, kJ⟩
      obtain ⟨g, hgi, u, dv, rfl, hu2, hds⟩ := paired_at pg hy
      have hi := (List.getElem?_eq_some_iff.mp hgi).1
      have w9 := hg g (List.mem_of_getElem? hgi)
      obtain ⟨w0, w1, w2⟩ := deal_all w9.ok
      have hds2 : DsAt J dv g.ds := hds.kt kJ.t
      obtain ⟨t, et⟩ : ∃ t, t = dealtT TT.new (gs.take i) := ⟨_, rfl⟩
      rw [← et] at L hnu hla eJ
      have est : dealtT TT.new (gs.take (i + 1)) = dl1 t (renum t g) := by rw [take_snoc hgi, dealtT_snoc, ← et]
      refine ⟨u, _, rfl, SqT.of (kJ.t.tup hu2), rfl, _, _, rfl, _, _, rfl, _, _, rfl, rfl, ?_⟩
      -- letters[hand] = letters[hand] + 1
      obtain ⟨kx, ek, es⟩ := letV_set (t := t) w9.h0 w9.h3
      refine ⟨_, rfl, _, rfl, lt, _, g.hd, _, rfl, rfl, SqL.of eJ, letV_at w9.h0 w9.h3, _, _, rfl, rfl, _, rfl, _, rfl, lt, _, g.hd, kx, rfl, rfl, eJ, ek, ?_⟩
      rw [es]
      have kS : Kp (fun b => b = lt) J (upd J lt (.lst (letV (dl1 t (renum t g))))) := Kp.updL eJ rfl
      have eS : upd J lt (.lst (letV (dl1 t (renum t g)))) lt = some (.lst (letV (dl1 t (renum t g)))) := upd_same
      generalize upd J lt (.lst (letV (dl1 t (renum t g)))) = J1 at kS eS ⊢
      have L1 := L.kt kS.t fun b z y => nlt' (by rw [← show b = lt from z]; exact y)
      have kJ1 : Kg (tL tp) No H J1 := (kJ.trans (F' := fun b => b = lt) (Kg.of kS) fun b z => .inr (by rw [show b = lt from z]; exact nltH))
      have eat : atI (letV (dl1 t (renum t g))) g.hd = some (.int (lastL t.hands g.hd + 1)) := by
        rw [letV_at w9.h0 w9.h3, dl1_last]
        show some (V.int (if g.hd = g.hd then lastL t.hands g.hd + 1 else _)) = _
        rw [if_pos rfl]
      obtain ⟨dx, hs, el⟩ := L1.at_
      have la := hla g.hd
      refine ⟨_, rfl, l, dx, _, rfl, el, rfl, _, rfl, _, rfl, _, rfl, lt, _, g.hd, _, rfl, rfl, SqL.of eS, eat, _, rfl, l, a, t, 20 * i, m, dv, renum t g, 16 * (12 - ((i + 1 : Nat) : Int)), rfl, L1, TG.kg kJ1, hds2.kt kS.t, ⟨w9.h0, w9.h3, (by show 1 ≤ lastL t.hands g.hd + 1; omega), (by show lastL t.hands g.hd ≤ lastL t.hands g.hd + 1; omega), Int.le_refl _, w9.ok, w2, trivial⟩, by omega, hnu, en.le (by omega), by omega, fun G a' m' v L2 en2 ad2 hb2 q2 _ => ?_⟩
      rw [est]
      have frJ : ∀ {b : Addr}, J1 b = none → H b = none := fun z => kJ1.free z fun z => False.elim z
      have hb3 : ∀ b, lF l a' b → H b = none := fun b z => (hb2 b z).elim (fr b) frJ
      have nl2 : ¬ lF l a' lt := fun z => (hb2 lt z).elim nlt' fun z => by rw [eS] at z; cases z
      refine ⟨_, _, _, a', m', rfl, L2, en2, Int.le_trans hnu (dl1_num _ _), fun j => ?_, hb3, nl2, q2.t.lst eS nlt', (kJ1.sub (F' := lF l a) fun _ z => False.elim z).trans q2 (fun b z => .inl z) |>.fresh fr⟩
      rw [dl1_last]
      split
      · show 0 ≤ lastL t.hands g.hd + 1
        omega
      · exact hla j
    · rintro σ J ⟨o3, o4, o5, a, m, rfl, L, en, hnu, hla, fr, nlt', eJ, kJ⟩
      rw [show gs.take xs.length = gs by rw [pg.length]; exact List.take_length] at L
      obtain ⟨dx, hs, el⟩ := L.at_
      refine ⟨_, rfl, l, dx, _, rfl, el, rfl, l, a, _, _, m, rfl, L, TG.kg kJ, fun G b l1 l2 ys zs nb nl1 nl2 nl12 k9 eb e1 p1 e2 p2 => ?_⟩
      exact k G b l1 l2 ys zs (kJ.trans k9 fun _ z => False.elim z) eb e1 p1 e2 p2
end
end S02

set_option Elab.async false
set_option linter.all false
set_option maxRecDepth 100000
set_option maxHeartbeats 8000000
namespace S02
open PySem PySem.Spec PyProof.Rows L2 K5 SupX GenX
section
variable {K : PySem.W.Frag} {H : Hp}
theorem dt_dd {v : V} {d : Dd} (h : DdAt H v d) : ∃ x, Dt K H 1 v x := by
  obtain ⟨a, rfl, e⟩ := h
  have dv : ∀ o : Option Int, ∃ x, Dt K H 0 (oV o) x := fun o => by
    cases o with
    | none => exact ⟨_, Dt.non 0⟩
    | some i => exact ⟨_, Dt.int 0 i⟩
  cases d with
  | put k w l => exact ⟨_, Dt.tup e ((Dt.str 0 "put" (by decide +kernel)).cons ((Dt.int 0 _).cons ((Dt.int 0 _).cons ((Dt.int 0 _).cons (DtA.nil 0)))))⟩
  | drop k => exact ⟨_, Dt.tup e ((Dt.str 0 "drop" (by decide +kernel)).cons ((Dt.int 0 _).cons (DtA.nil 0)))⟩
  | add k m => exact ⟨_, Dt.tup e ((Dt.str 0 "add" (by decide +kernel)).cons ((Dt.int 0 _).cons ((Dt.int 0 _).cons (DtA.nil 0))))⟩
  | iff k w =>
    obtain ⟨x, hx⟩ := dv w
    exact ⟨_, Dt.tup e ((Dt.str 0 "if" (by decide +kernel)).cons ((Dt.int 0 _).cons (hx.cons (DtA.nil 0))))⟩
theorem dt_gd {v : V} {g : Gd} (h : GdAt H v g) : ∃ x, Dt K H 3 v x := by
  obtain ⟨u, dv, rfl, e, a, xs, rfl, ea, p, _⟩ := h
  obtain ⟨ds, hd⟩ := dt_all (K := K) (fun v a z => dt_dd z) p
  exact ⟨_, Dt.tup e ((Dt.int 2 _).cons ((Dt.int 2 _).cons ((Dt.tup ea hd).cons (DtA.nil 2))))⟩
/-- what is told by both is alike -/
theorem al_tp {x y : V} {q : Int × Bool} (h1 : TpAt H x q) (h2 : TpAt H y q) (n : Nat) : Al H (n + 2) x y := by
  obtain ⟨a, rfl, e1⟩ := h1
  obtain ⟨b, rfl, e2⟩ := h2
  refine .inr ⟨a, b, _, _, rfl, rfl, .inl ⟨e1, e2⟩, rfl, (by show ((2 : Nat) : Int) < 2 ^ 62; decide), fun j x y hx hy => ?_⟩
  rw [hx] at hy
  cases hy
  match j, hx with
  | 0, hx => cases hx; exact Al.leaf rfl
  | 1, hx => cases hx; exact Al.leaf rfl
theorem al_rw {x y : V} {q : Int × Int × Int} (h1 : RwV H x q) (h2 : RwV H y q) (n : Nat) : Al H (n + 2) x y := by
  obtain ⟨a, rfl, e1⟩ := h1
  obtain ⟨b, rfl, e2⟩ := h2
  refine .inr ⟨a, b, _, _, rfl, rfl, .inl ⟨e1, e2⟩, rfl, (by show ((3 : Nat) : Int) < 2 ^ 62; decide), fun j x y hx hy => ?_⟩
  rw [hx] at hy
  cases hy
  match j, hx with
  | 0, hx => cases hx; exact Al.leaf rfl
  | 1, hx => cases hx; exact Al.leaf rfl
  | 2, hx => cases hx; exact Al.leaf rfl
theorem al_rh {x y : V} {q : Int × Int × Int × Bool} (h1 : RhV H x q) (h2 : RhV H y q) (n : Nat) : Al H (n + 2) x y := by
  obtain ⟨a, rfl, e1⟩ := h1
  obtain ⟨b, rfl, e2⟩ := h2
  refine .inr ⟨a, b, _, _, rfl, rfl, .inl ⟨e1, e2⟩, rfl, (by show ((4 : Nat) : Int) < 2 ^ 62; decide), fun j x y hx hy => ?_⟩
  rw [hx] at hy
  cases hy
  match j, hx with
  | 0, hx => cases hx; exact Al.leaf rfl
  | 1, hx => cases hx; exact Al.leaf rfl
  | 2, hx => cases hx; exact Al.leaf rfl
  | 3, hx => cases hx; exact Al.leaf rfl
theorem al_lst {α : Type} {R : V → α → Prop} {n : Nat} (hR : ∀ x y q, R x q → R y q → Al H n x y) {a b : Addr} {xs ys : List V} {qs : List α} (e1 : H a = some (.lst xs)) (e2 : H b = some (.lst ys)) (p1 : Paired R xs qs) (p2 : Paired R ys qs) (hl : qs.length ≤ 1000) : Al H (n + 1) (.ref a) (.ref b) := by
  refine .inr ⟨a, b, xs, ys, rfl, rfl, .inr ⟨e1, e2⟩, by rw [p1.length, p2.length], Int.lt_of_le_of_lt (by rw [p2.length]; omega : (ys.length : Int) ≤ 1000) (by decide), fun j x y hx hy => ?_⟩
  obtain ⟨q, hq, h1⟩ := paired_at p1 hx
  obtain ⟨q2, hq2, h2⟩ := paired_at p2 hy
  rw [hq] at hq2
  cases hq2
  exact hR x y q h1 h2
end
end S02

set_option Elab.async false
set_option linter.all false
set_option maxRecDepth 100000
set_option maxHeartbeats 2000000
/-! ### 7. A lambda that may raise, handed to a def that catches it: the exceptions' contexts are None -/
namespace K5
open PySem PySem.Spec PyProof.Rows L2 LamX
/-- what is wanted of an exception that leaves the lambda -/
def lamXe (X : Cx) (Ar : Around) (outer : List Env) (s : Shared) (H : Hp) (E : XK) (scope : Scope) (f c' : Addr) : Value → Shared → Prop := fun e s' =>
  wpAny (model X.prog X.w) (Ar.deeper (lamEnv X scope s.heap.objs.size f c')) (leaving (lamEnv X scope s.heap.objs.size f c') e) (fun _ t => L2N.CX X.prog X.w outer H s E e t) (fun e' t => L2N.CX X.prog X.w outer H s E e' t) s'
/-- the context of the lambda's body -/
abbrev lamN (X : Cx) (Ar : Around) (outer : List Env) (s : Shared) (H : Hp) (E : XK) (scope : Scope) (f c' : Addr) : Cx := (lamCx X Ar outer s H E scope f c').wish (lamXe X Ar outer s H E scope f c')
section
variable {X : Cx} {pins : List (Addr × Obj)} {σ : L2.St} {H HZ : Hp} {s s1 : Shared}
abbrev cxG (X : Cx) (Ng : List Str) (qg : Str) (sg : Scope) (g : Addr) (cdg : Value) (s : Shared) (H : Hp) : Cx := cxOf C8.CX0 X.prog X.w X.K X.mg X.base Ng qg sg g cdg X.A X.stack s H C8.E0
/-- x(), within the def that got the lambda -/
theorem actN {Ng : List Str} {qg : Str} {sg : Scope} {g f c' : Addr} {cdg pm ctv : Value} {params : Arguments} {body : Expr} {scope : Scope} {k i : Nat} {a : Str} {pn : List (Addr × Obj)} {xe : Value → Shared → Prop} {W : WX} {E : XK} {tb : TE} {p1 p2 : Pos}
    (I : Inv X pins σ H s) (Ls : LamS X.env.scope scope) (hf : s.heap.get? f = some (PySem.W.kla_obj "<lambda>" (X.env.qual ++ "<lambda>") params body scope (cloFrom X.env.cells scope.names []) pm c' ctv)) (hfn : H f = none) (hfr : f ∉ frs X.stack)
    (hb0 : bindArgs (PySem.W.kla_fn "<lambda>" (X.env.qual ++ "<lambda>") params body scope (cloFrom X.env.cells scope.names []) pm (.ref c') ctv) ⟨[], []⟩ = pure [])
    (tk : L2N.Takes ((cxG X Ng qg sg g cdg s H).tr pn xe) W) (hW : ∀ cls d τ G, E cls d G → W cls d τ G) (hr : Room (k + 1) (X.A.deeper (envOfC qg sg s.heap.objs.size g cdg)))
    (hbody : ∀ (Ar : Around) (outer : List Env) (t : Shared) (G : Hp), Room k (Ar.deeper (lamEnv X scope t.heap.objs.size f c')) → PE (lamN X Ar outer t G E scope f c') body tb)
    (hN : Ng[i]? = some a) (hv : Vis sg a) (hd : (a == ("__debug__" : Str)) = false := by decide) (hcd : (a == ("__classdict__" : Str)) = false := by decide) :
    PE ((cxG X Ng qg sg g cdg s H).tr pn xe) (.Call (.Name a p1) [] [] p2) (fun τ G Q => τ[i]? = some (some (.ref f)) ∧ G c' = some (CodeO c' (X.env.qual ++ "<lambda>")) ∧ tb σ G Q) := by
  refine ⟨fun pz sz τ G Q IZ ⟨hs, hc, ht⟩ => wpAny_Call_Name_kw (thn ((pe_var (pos := p1) (i := i) hN hv hd hcd).run pz sz τ G (fun v J => v = .ref f ∧ J = G) IZ ⟨.ref f, hs, rfl, rfl⟩) fun u s1 ⟨v, J, I1, r1, ev, eJ⟩ => ?_)⟩
  subst ev eJ
  cases (show u = Value.ref f from r1)
  have of1 : s1.heap.get? f = some _ := I1.base.keep f _ hf hfn hfr nofun
  refine PySem.W.callWith_F0 ⟨_, _, _, _, of1⟩ ?_
  obtain ⟨⟨oc, vs, t, hoc, hdc, hvc⟩, _, _⟩ := I1.hok c' _ hc
  have key : codeAny (model X.prog X.w) (X.A.deeper (envOfC qg sg s.heap.objs.size g cdg)) (.call (.ref f) ⟨[], []⟩) (CR (L2N.CX X.prog X.w) (envOfC qg sg s.heap.objs.size g cdg :: X.stack) X.prog X.w J s1 Q E) s1 := by
    refine PySem.W.kla_callFunE hr.depth of1 rfl Ls.co Ls.gen rfl ⟨c', oc, vs, t, rfl, hoc, hdc, hvc⟩ ?_
    rw [hb0]
    refine wpAny_pure (wpAny_newFunctionEnv (fun y hy => (Ls.own y hy).2) (fun y hy => absurd hy (by simp)) (fun h₁ hns hsb => ⟨I1.nolimit.fresh _ hsb, ?_⟩) Ls.kind)
    have kp : ∀ b o, s1.heap.get? b = some o → h₁.get? b = some o := fun b o e => hsb.extBut b o (Nat.ne_of_lt (Heap.lt_size e)) (Heap.get?_push_of_some _ e)
    have J0 := lam_start2 (E := E) (tk := s1.toks + ([] : List (Str × Value)).length) (f := f) (c' := c') I Ls I1.env0 hr.hd (show Un (frs X.stack) [] H J s.heap s1.heap from I1.base) hns kp
    have J1 : Inv (lamN X (X.A.deeper (envOfC qg sg s.heap.objs.size g cdg)) (envOfC qg sg s.heap.objs.size g cdg :: X.stack) s1 J E scope f c') [] σ J _ := J0.wish _
    show codeAny _ _ (.expr body (lamEnv X scope s1.heap.objs.size f c')) _ _
    refine PySem.W.kla_codeExpr (wpAny_mono ((hbody _ _ s1 J (hr.deeper _)).run [] _ _ J Q J1 ht) (fun v s' ⟨w', G', J', rv, q⟩ => ?_) fun e s' hq => hq)
    exact ⟨w', G', J'.os, J'.bare, J'.base, J'.hok, rv, q⟩
  refine wpAny_call (codeAny_mono key fun r s' hq => ?_)
  match r, hq with
  | .error e, hq => exact L2N.passes_call tk hW pz τ J s1 e s' I1 hq
  | .ok (.ret u), hq => exact I1.after hq
  | .ok .next, hq => exact False.elim hq
  | .ok .brk, hq => exact False.elim hq
  | .ok .cont, hq => exact False.elim hq
end
/-- the def at g, called with a lambda, makes TT of the lambda's reading -/
def GivesN (X : Cx) (Ng : List Str) (x : Str) (sg : Scope) (g : Addr) (cdg : Value) (bg : List Stmt) (a q : Str) (TT : (XK → Hp → VK → Prop) → Hp → VK → Prop) : Prop :=
  ∀ (f c' : Addr) (s : Shared) (H : Hp) (Q : VK) (tl : XK → Hp → VK → Prop), Room 3 (X.A.deeper (envOfC x sg s.heap.objs.size g cdg)) →
    (∀ (W : WX) (pn : List (Addr × Obj)) (xe : Value → Shared → Prop) (E : XK) (p1 p2 : Pos), L2N.Takes ((cxG X Ng x sg g cdg s H).tr pn xe) W → (∀ cls d τ G, E cls d G → W cls d τ G) →
      PE ((cxG X Ng x sg g cdg s H).tr pn xe) (.Call (.Name a p1) [] [] p2) (fun τ G Q => τ[0]? = some (some (.ref f)) ∧ G c' = some (CodeO c' q) ∧ tl E G Q)) →
    H c' = some (CodeO c' q) → TT tl H Q →
    ∃ t, PSs (cxG X Ng x sg g cdg s H).nox bg t ∧ t { nx := fun _ G => Q .non G, rt := Q } (L2.start Ng [.ref f]) H
def tLamN (T : List (Addr × Str)) (TT : (XK → Hp → VK → Prop) → Hp → VK → Prop) (t : XK → TE) : TE := fun σ H Q => Tabs T H ∧ ∀ G, ExtN H G → Tabs T G → TT (fun E J R => t E σ J R) G Q
section
variable {X : Cx}
/-- x(lambda: body) -/
theorem lamcallN {T : List (Addr × Str)} {TT : (XK → Hp → VK → Prop) → Hp → VK → Prop} {x a : Str} {g c P : Addr} {k : Nat} {pg : Arguments} {bg : List Stmt} {sg : Scope} {dV kV doc pm cdv ct oc : Value} {an od : Option Addr} {osl : Array (Option Value)} {Ng : List Str}
    {params : Arguments} {body : Expr} {scope : Scope} {t : XK → TE} {p lpos pos : Pos} (hg : Gl X x) (hm : X.mg x = some (.ref g)) (hk : PySem.W.keepIn X.K (.ref g) = true)
    (lk : X.K.lookup g = some ⟨oc, od, .func (PySem.W.fnOf x x pg bg sg dV kV doc pm an cdv ct), osl⟩) (hcg : PySem.W.codeIn X.K cdv x = true) (hb : L2.Binds X.K (PySem.W.fnOf x x pg bg sg dV kV doc pm an cdv ct) [a] []) (Sg : FnScope Ng [a] sg) (hNg : Ng[0]? = some a) (hva : Vis sg a)
    (hG : GivesN X Ng x sg g cdv bg a (X.env.qual ++ "<lambda>") TT) (k3 : 2 ≤ k)
    (TB : TabB X.base X.mg c P) (hcode : X.env.code = .ref c) (hmT : (P, X.env.qual ++ "<lambda>") ∈ T) (hu : ∀ p ∈ T, p.1 = P → p.2 = X.env.qual ++ "<lambda>") (hr : Room (k + 2) X.A) (Ls : LamS X.env.scope scope) (hdef : defaultsOf params X.env = ([], []))
    (hbind : ∀ (q : Str) (cl : List (Str × Addr)) (pm cv ctv : Value), bindArgs (PySem.W.kla_fn "<lambda>" q params body scope cl pm cv ctv) ⟨[], []⟩ = pure [])
    (hbody : ∀ (Ar : Around) (outer : List Env) (s : Shared) (H : Hp) (E : XK) (f c' : Addr), Room k (Ar.deeper (lamEnv X scope s.heap.objs.size f c')) → PE (lamN X Ar outer s H E scope f c') body (t E))
    (hdb : (x == ("__debug__" : Str)) = false := by decide) (hd : (a == ("__debug__" : Str)) = false := by decide) (hcd : (a == ("__classdict__" : Str)) = false := by decide) :
    PE X (.Call (.Name x p) [.Lambda params body scope lpos] [] pos) (tLamN T TT t) := by
  refine ⟨fun pins s σ H Q I ⟨hT, h⟩ => wpAny_Call_Name_kw (ld_glob I hg hm (PySem.W.callWith_K (h₀ := X.base) I.ok.mod.kin hk ?_ (by rfl) (by rfl)) hdb)⟩
  show wpAny _ _ (spliced ((false, eval (.Lambda params body scope lpos) X.env) :: backTo pos (starEach [] X.env))) _ _ s
  refine Calls.spliced_cons (lam_make2 I TB hcode hmT hu hT hdef (Ls.has I.ok) fun f c' pm' ctv G s1 I1 eN T1 hf hfn hfr hco => Calls.spliced_nil ⟨I1.kIn, ?_⟩)
  have key : codeAny (model X.prog X.w) X.A (.call (.ref g) ⟨[.ref f], []⟩) (CR C8.CX0 X.stack X.prog X.w G s1 Q C8.E0) s1 := by
    refine run_ofS (N := Ng) (ps := [a]) (us := [.ref f]) (vs := [.ref f]) lk hcg Sg hr I1.env0 (hb s1 [.ref f] I1.kIn rfl) (.cons rfl .nil) rfl fun hr2 => ?_
    obtain ⟨u, hu1, hu2⟩ := hG f c' s1 G Q (fun E J R => t E σ J R) (hr2.mono (by omega)) (fun W pn xe E p1 p2 tk hW => actN (i := 0) I1 Ls hf hfn hfr (hbind _ _ _ _ _) tk hW hr2 (fun Ar outer s H q => hbody Ar outer s H E f c' q) hNg hva hd hcd) hco (h G eN T1)
    exact ⟨u, hu1.nox, hu2⟩
  refine wpAny_call (codeAny_mono key fun r s' hq => ?_)
  match r, hq with
  | .error e, hq => exact (show False from hq).elim
  | .ok (.ret u), hq => exact I1.after hq
  | .ok .next, hq => exact False.elim hq
  | .ok .brk, hq => exact False.elim hq
  | .ok .cont, hq => exact False.elim hq
end
end K5

set_option Elab.async false
set_option linter.all false
set_option maxRecDepth 100000
set_option maxHeartbeats 2000000
/-! ### A lambda that is kept: tracked as an object of its own, handed on in a list, and called by a def that a def calls -/
namespace K5
open PySem PySem.Spec PyProof.Rows L2 LamX
/-- the lambda at f -/
def LamO (q : Str) (ar : Arguments) (bd : Expr) (sc : Scope) (cl : List (Str × Addr)) (f c' : Addr) : HO :=
  .ext fun h => ∃ pm ctv, h.get? f = some (PySem.W.kla_obj "<lambda>" q ar bd sc cl pm c' ctv)
theorem LamO.ok {P : Program} {w : World} {H : Hp} {h : Heap} {q : Str} {ar : Arguments} {bd : Expr} {sc : Scope} {cl : List (Str × Addr)} {f c' : Addr} {pm ctv : Value} (e : h.get? f = some (PySem.W.kla_obj "<lambda>" q ar bd sc cl pm c' ctv)) : ObjOk P w H h f (LamO q ar bd sc cl f c') :=
  ⟨⟨pm, ctv, e⟩, ⟨_, e⟩, fun h1 h2 ⟨a, b, z⟩ st => ⟨a, b, st _ z⟩⟩
theorem tabs_more {Tb : List (Addr × Str)} {G : Hp} {f : Addr} {o : HO} (t : Tabs Tb G) (n : G f = none) : Tabs Tb (upd G f o) := t.ext fun b u e => by rw [upd_ne (ne_of_none e n)]; exact e
section
variable {X : Cx} {pins : List (Addr × Obj)} {σ : L2.St} {H : Hp} {s : Shared}
/-- the lambda is made, and tracked -/
theorem lam_kept {Tb : List (Addr × Str)} {c P : Addr} {ar : Arguments} {bd : Expr} {sc : Scope} {pos : Pos} {E : Value → Shared → Prop} {Q : Value → Shared → Prop} (TB : TabB X.base X.mg c P) (hcode : X.env.code = .ref c) (hmT : (P, X.env.qual ++ "<lambda>") ∈ Tb)
    (one : ∀ p ∈ Tb, p.1 = P → p.2 = X.env.qual ++ "<lambda>") (nodef : defaultsOf ar X.env = ([], [])) (fr : ∀ y ∈ sc.names, y.2 = .free → ∃ c, X.env.cells.lookup y.1 = some c) (I : Inv X pins σ H s) (hT : Tabs Tb H)
    (k : ∀ (f c' : Addr) (G : Hp) (s' : Shared), Inv X pins σ (upd G f (LamO (X.env.qual ++ "<lambda>") ar bd sc (cloFrom X.env.cells sc.names []) f c')) s' → (∀ b o, b ≠ P → H b = some o → G b = some o) → Tabs Tb G → G f = none → G c' = some (CodeO c' (X.env.qual ++ "<lambda>")) → Q (.ref f) s') :
    wpAny (model X.prog X.w) X.A (eval (.Lambda ar bd sc pos) X.env) Q E s := by
  obtain ⟨ps, hP, trip, amg⟩ := hT _ hmT
  have bI : s.heap.BuiltinsAt X.mg P := TB.bm.keeps I.bk
  have gP : s.heap.get? P = some { cls := .none, data := .fields ps } := I.hok P _ hP
  apply PySem.W.kla_eval nodef
  cases am : codeAmong pos ps.toList with
  | some cv =>
    obtain ⟨c', e, hco⟩ := amg pos cv am
    subst e
    apply PySem.W.kla_makeFunctionHit (closure_ok fr) I.ok.glob (I.mod.glob.keeps I.bk) hcode (TB.code.keeps I.bk) gP trip am bI
    intro ctv h' tk hx hsz
    have I1 : Inv X pins σ H { s with heap := h', toks := tk } := I.kept hx
    have nf : H h'.objs.size = none := I1.hok.fresh (Nat.le_refl _)
    exact k _ c' H _ (I1.laid (t' := tk) (fun b o e => Heap.get?_push_of_some _ e) (Nat.le_refl _) (LamO.ok (Heap.get?_push_size _ rfl))) (fun _ _ _ e => e) hT nf hco
  | none =>
    apply PySem.W.kla_makeFunction (closure_ok fr) I.ok.glob (I.mod.glob.keeps I.bk) hcode (TB.code.keeps I.bk) gP trip am TB.gP bI
    intro c' ctv h' tk hx ge lt rec_ tb_
    obtain ⟨c2, oc, vs, t, e2, r1, r2, r3⟩ := rec_
    cases e2
    have nC : H c' = none := I.hok.fresh ge
    have I1 := inv_table (t' := tk) (more := #[rawInt pos.line, rawInt pos.col, .ref c']) (h' := h') I hP hx tb_ ge ⟨oc, vs, t, r1, r2, r3⟩
    have hE : ExtN H (upd (upd H P (.tbl (ps ++ #[rawInt pos.line, rawInt pos.col, .ref c']))) c' (CodeO c' (X.env.qual ++ "<lambda>"))) := fun b o e n => by
      have n1 : b ≠ c' := ne_of_none e nC
      have n2 : b ≠ P := fun z => n ps (by rw [z, hP] at e; exact (Option.some.inj e).symm)
      rw [upd_ne n1, upd_ne n2]
      exact e
    have nf := I1.hok.fresh (Nat.le_refl h'.objs.size)
    have eL : (ps ++ #[rawInt pos.line, rawInt pos.col, .ref c']).toList = ps.toList ++ [rawInt pos.line, rawInt pos.col, .ref c'] := by simp
    refine k _ c' _ _ (I1.laid (t' := tk) (fun b o e => Heap.get?_push_of_some _ e) (Nat.le_refl _) (LamO.ok (Heap.get?_push_size _ rfl))) (fun b o nb e => by rw [upd_ne (ne_of_none e nC), upd_ne nb]; exact e) (fun p hp => ?_) nf upd_same
    by_cases eP : p.1 = P
    · rw [one p hp eP, eP]
      refine ⟨_, by rw [upd_ne (ne_of_none hP nC), upd_same], by rw [eL]; exact PySem.TriplesOk_snoc _ _ _ _ trip, fun p' cv hcv => ?_⟩
      rw [eL] at hcv
      rcases among_app _ trip hcv with z | z
      · obtain ⟨c0, e1, e2⟩ := amg p' cv z
        exact ⟨c0, e1, hE _ _ e2 codeO_ne⟩
      · exact ⟨c', z, upd_same⟩
    · obtain ⟨qs, a1, a2, a3⟩ := hT p hp
      refine ⟨qs, by rw [upd_ne (ne_of_none a1 nC), upd_ne eP]; exact a1, a2, fun p' cv hcv => ?_⟩
      obtain ⟨c0, e1, e2⟩ := a3 p' cv hcv
      exact ⟨c0, e1, hE _ _ e2 codeO_ne⟩
end
/-- lambda: .. -/
def tLamK (P : Addr) (Tb : List (Addr × Str)) (q : Str) (ar : Arguments) (bd : Expr) (sc : Scope) (cl : List (Str × Addr)) : TE := fun _ H Q => Tabs Tb H ∧ ∀ f c' G, (∀ b o, b ≠ P → H b = some o → G b = some o) → Tabs Tb G → G f = none → G c' = some (CodeO c' q) → Q (.ref f) (upd G f (LamO q ar bd sc cl f c'))
theorem pe_lamK {X : Cx} {Tb : List (Addr × Str)} {c P : Addr} {ar : Arguments} {bd : Expr} {sc : Scope} {pos : Pos} (TB : TabB X.base X.mg c P) (hcode : X.env.code = .ref c) (hmT : (P, X.env.qual ++ "<lambda>") ∈ Tb)
    (one : ∀ p ∈ Tb, p.1 = P → p.2 = X.env.qual ++ "<lambda>") (nodef : defaultsOf ar X.env = ([], [])) (Ls : LamS X.env.scope sc) :
    PE X (.Lambda ar bd sc pos) (tLamK P Tb (X.env.qual ++ "<lambda>") ar bd sc (cloFrom X.env.cells sc.names [])) := by
  refine ⟨fun pins s σ H Q I ⟨hT, h⟩ => lam_kept TB hcode hmT one nodef (Ls.has I.ok) I hT fun f c' G s' I1 eN T1 nf hc => ?_⟩
  exact ⟨.ref f, _, I1, rfl, h f c' G eN T1 nf hc⟩
/-! the base, grown by a frame's cells: who is called from the frame leaves them -/
open Classical in
/-- what is not to be in it -/
noncomputable def offB (X : Cx) : Hp := fun b => if (∃ o, X.base.get? b = some o) ∨ ∃ y, X.env.cells.lookup y = some b then none else some (.lst [])
noncomputable def growB (X : Cx) (h : Heap) : Heap := hidT h (offB X)
/-- base, and the frame's cells as they are at s -/
structure Grown (X : Cx) (s : Shared) (B : Heap) : Prop where
  bs : ∀ b o, X.base.get? b = some o → B.get? b = some o
  cells : ∀ y c o, X.env.cells.lookup y = some c → s.heap.get? c = some o → B.get? c = some o
section
variable {X : Cx} {pins : List (Addr × Obj)} {σ : L2.St} {H : Hp} {s : Shared}
theorem grown (I : Inv X pins σ H s) : Grown X s (growB X s.heap) := by
  refine ⟨fun b o e => hidT_get (I.bk b o e) ?_, fun y c o e h => hidT_get h ?_⟩
  · exact if_pos (.inl ⟨o, e⟩)
  · exact if_pos (.inr ⟨y, e⟩)
theorem grown_env0 (I : Inv X pins σ H s) (own : ∀ y, X.fn y = true) : Env0 X.prog X.w X.K X.mg (growB X s.heap) X.A X.stack s H := by
  have e0 := I.env0
  have gr := grown I
  have back : ∀ b o, (growB X s.heap).get? b = some o → s.heap.get? b = some o ∧ ((∃ o, X.base.get? b = some o) ∨ ∃ y, X.env.cells.lookup y = some b) := fun b o e => by
    obtain ⟨e1, n⟩ := of_hidT e
    refine ⟨e1, ?_⟩
    by_cases z : (∃ o, X.base.get? b = some o) ∨ ∃ y, X.env.cells.lookup y = some b
    · exact z
    · have : offB X b = some (.lst []) := if_neg z
      rw [this] at n
      cases n
  obtain ⟨mb, hb, hx⟩ := e0.mod.blt
  refine ⟨e0.frames, ⟨e0.mod.kin.keeps gr.bs, e0.mod.glob.keeps gr.bs, ⟨mb, hb.keeps gr.bs, hx⟩, e0.mod.nolimit.keeps gr.bs⟩, fun b o e => ?_, by unfold growB; rw [hidT_size]; exact Nat.le_refl _, ?_, e0.frf, e0.hok, e0.bare⟩
  · obtain ⟨e1, ⟨o', e2⟩ | ⟨y, e2⟩⟩ := back b o e
    · exact ⟨e1, (e0.bs b o' e2).2⟩
    · exact ⟨e1, I.freeC y b e2⟩
  · -- frames are neither of the base nor cells
    have nocell : ∀ y c, X.env.cells.lookup y = some c → c ∉ frs X.stack := fun y c e z => by
      rcases List.mem_cons.mp (I.stkSub c z) with q | q
      · exact I.cne y c e q
      · have h1 := I.ok.cab y c (own y) e
        obtain ⟨_, o, ho, _⟩ := I.ok.funs.mem q
        exact absurd (Nat.lt_of_lt_of_le (Heap.lt_size ho) h1) (Nat.lt_irrefl _)
    have all : ∀ l : List Env, (∀ b ∈ frs l, b ∈ frs X.stack) → s.heap.FunFrames X.base l → s.heap.FunFrames (growB X s.heap) l := by
      intro l
      induction l with
      | nil => intro _ _; trivial
      | cons e r ih =>
        rintro sub ⟨hk, ⟨L, o, hf, hn, ho, hd⟩, hr⟩
        have mem : frs (e :: r) = L :: frs r := by unfold frs; rw [List.filterMap_cons, hf]
        refine ⟨hk, ⟨L, o, hf, ?_, ho, hd⟩, ih (fun b hb => sub b (by rw [mem]; exact List.mem_cons_of_mem _ hb)) hr⟩
        cases q : (growB X s.heap).get? L with
        | none => rfl
        | some o' =>
          exfalso
          obtain ⟨_, ⟨o2, e2⟩ | ⟨y, e2⟩⟩ := back L o' q
          · rw [hn] at e2; cases e2
          · exact nocell y L e2 (sub L (by rw [mem]; exact List.mem_cons_self))
    exact all X.stack (fun _ h => h) e0.funs
end
/-- the frame X over another base -/
abbrev onB (X : Cx) (B : Heap) : Cx := { X with base := B }
/-- what calling the lambda at f comes to -/
def Acts (P : Program) (w : World) (K : PySem.W.Frag) (mg : Str → Option Value) (B : Heap) (f c' : Addr) (q : Str) (k : Nat) (O : HO) (tl : XK → Hp → VK → Prop) : Prop :=
  ∀ (Ar : Around) (outer : List Env) (s1 : Shared) (J : Hp) (Q : VK) (E : XK), Room (k + 1) Ar → Env0 P w K mg B Ar outer s1 J → J f = some O → J c' = some (CodeO c' q) → tl E J Q →
    codeAny (model P w) Ar (.call (.ref f) ⟨[], []⟩) (CR (L2N.CX P w) outer P w J s1 Q E) s1
/-- the lambda's frame begins: the cells are as they were -/
theorem lam_begin {X : Cx} {pins : List (Addr × Obj)} {σ : L2.St} {H J : Hp} {s s1 : Shared} {B : Heap} {Ar : Around} {outer : List Env} {E : XK} {sc : Scope} {f c' : Addr} {h₁ : Heap} {tk : Nat} (I : Inv X pins σ H s) (gr : Grown X s B) (Ls : LamS X.env.scope sc)
    (e0 : Env0 X.prog X.w X.K X.mg B Ar outer s1 J) (hh : Ar.handled = none) (hns : h₁.Ns s1.heap.objs.size fun y => ([] : List (Str × Value)).reverse.lookup y) (kp : ∀ b o, s1.heap.get? b = some o → h₁.get? b = some o) :
    Inv (lamCx (onB X B) Ar outer s1 J E sc f c') [] σ J { s1 with heap := h₁, toks := tk } := by
  have fr := Ls.has I.ok
  have toX : ∀ {y c}, (cloFrom X.env.cells sc.names []).lookup y = some c → X.env.cells.lookup y = some c := fun {y c} e => by
    rcases cloFrom_mem (PySem.mem_of_lookup e) with z | ⟨z1, z2⟩
    · cases z
    · obtain ⟨c1, hc⟩ := fr _ z1 rfl
      have hc : X.env.cells.lookup y = some c1 := hc
      rw [z2, hc]
      simp
  have ofX : ∀ {y}, sc.names.lookup y = some .free → ∃ c, (cloFrom X.env.cells sc.names []).lookup y = some c := fun {y} e => mem_lookup (cloFrom_has (cells := X.env.cells) (acc := []) (PySem.mem_of_lookup e))
  have stay : ∀ {y c} {v : Option Value}, X.env.cells.lookup y = some c → s.heap.IsCell c v → h₁.IsCell c v ∧ J c = none := fun {y c v} e ⟨o, ho, hd⟩ => by
    obtain ⟨h1, h2⟩ := e0.bs c o (gr.cells y c o e ho)
    exact ⟨⟨o, kp _ _ h1, hd⟩, h2⟩
  have noX : ∀ b : Addr, b ∉ ([] : List Addr) := fun b z => nomatch z
  refine ⟨⟨e0.mod, Ls.kind, rfl, rfl, Nat.le_refl _, fun x y c h1 h2 => I.ok.inj x y c (toX h1) (toX h2), fun y hy => ?_, (fun y c z _ => by cases (show false = true from z)), fun _ => hh, Around.frames_deeper e0.frames, .inr ⟨rfl, rfl⟩, fun b z => absurd z (noX b), e0.bs, e0.bsz, fun b _ _ => noX b, fun b z => absurd z (noX b), e0.funs, e0.frf⟩,
    rfl, e0.bare, Un.kept kp, ⟨_, hns, fun i y v h1 h2 h3 => ?_⟩, fun y c e => ?_, e0.hok.fresh (Nat.le_refl _), fun y c e => ?_, fun q hq => absurd (show q ∈ ([] : List (Addr × Obj)) from hq) (fun z => nomatch z), e0.hok.kept kp, I.len⟩
  · have hy : sc.names.lookup y = some .cell ∨ sc.names.lookup y = some .free := hy
    exact hy.elim (fun z => absurd rfl (Ls.own _ (PySem.mem_of_lookup z)).2) ofX
  · have h3 : Vis sc y := h3
    rcases h3 with z | z | z
    · exact absurd rfl (Ls.own _ (PySem.mem_of_lookup z)).1
    · exact absurd rfl (Ls.own _ (PySem.mem_of_lookup z)).2
    · have z0 := Ls.free _ (PySem.mem_of_lookup z) rfl
      obtain ⟨m, hn, hl⟩ := I.loc
      obtain ⟨u, r, q⟩ := hl i y v h1 h2 (z0.elim (fun k => .inr (.inl k)) fun k => .inr (.inr k))
      obtain ⟨c2, e2⟩ := ofX z
      refine ⟨u, r, .inr ⟨.inr z, c2, e2, ?_⟩⟩
      rcases q with ⟨q, _⟩ | ⟨_, c3, e3, q⟩
      · have q : X.env.scope.names.lookup y = some .local := q
        rcases z0 with z0 | z0 <;> rw [show X.env.scope.names.lookup y = _ from z0] at q <;> cases q
      · have := toX e2
        rw [e3] at this
        cases this
        exact (stay e3 q).1
  · obtain ⟨v, z⟩ := I.cell y c (toX e)
    exact ⟨v, (stay (toX e) z).1⟩
  · obtain ⟨v, z⟩ := I.cell y c (toX e)
    exact (stay (toX e) z).2
theorem acts_of {X : Cx} {pins : List (Addr × Obj)} {σ : L2.St} {H : Hp} {s : Shared} {B : Heap} {f c' : Addr} {ar : Arguments} {bd : Expr} {sc : Scope} {k : Nat} {tb : XK → TE} (I : Inv X pins σ H s) (gr : Grown X s B) (Ls : LamS X.env.scope sc)
    (hb0 : ∀ (q : Str) (cl : List (Str × Addr)) (pm cv ctv : Value), bindArgs (PySem.W.kla_fn "<lambda>" q ar bd sc cl pm cv ctv) ⟨[], []⟩ = pure [])
    (hbody : ∀ (Ar : Around) (outer : List Env) (t : Shared) (G : Hp) (E : XK), Room k (Ar.deeper (lamEnv X sc t.heap.objs.size f c')) → PE (lamN (onB X B) Ar outer t G E sc f c') bd (tb E)) :
    Acts X.prog X.w X.K X.mg B f c' (X.env.qual ++ "<lambda>") k (LamO (X.env.qual ++ "<lambda>") ar bd sc (cloFrom X.env.cells sc.names []) f c') (fun E J R => tb E σ J R) := by
  intro Ar outer s1 J Q E hr e0 hf hc ht
  obtain ⟨⟨pm, ctv, of1⟩, _, _⟩ := e0.hok f _ hf
  obtain ⟨⟨oc, vs, t, a1, a2, a3⟩, _, _⟩ := e0.hok c' _ hc
  have lim : s1.heap.NoLimit := e0.mod.nolimit.keeps fun b o e => (e0.bs b o e).1
  apply PySem.W.kla_callFunE hr.depth of1 rfl Ls.co Ls.gen rfl ⟨c', oc, vs, t, rfl, a1, a2, a3⟩
  rw [hb0]
  refine wpAny_pure (wpAny_newFunctionEnv (fun y hy => (Ls.own y hy).2) (fun y hy => absurd hy (by simp)) (fun h₁ hns hsb => ⟨lim.fresh _ hsb, ?_⟩) Ls.kind)
  have kp : ∀ b o, s1.heap.get? b = some o → h₁.get? b = some o := fun b o e => hsb.extBut b o (Nat.ne_of_lt (Heap.lt_size e)) (Heap.get?_push_of_some _ e)
  have J0 := lam_begin (E := E) (tk := s1.toks + ([] : List (Str × Value)).length) (f := f) (c' := c') I gr Ls e0 hr.hd hns kp
  have J1 : Inv (lamN (onB X B) Ar outer s1 J E sc f c') [] σ J _ := J0.wish _
  show codeAny _ _ (.expr bd (lamEnv X sc s1.heap.objs.size f c')) _ _
  refine PySem.W.kla_codeExpr (wpAny_mono ((hbody _ _ s1 J E (hr.deeper _)).run [] _ _ J Q J1 ht) (fun v s' ⟨w', G', J', rv, q⟩ => ?_) fun e s' hq => hq)
  exact ⟨w', G', J'.os, J'.bare, J'.base, J'.hok, rv, q⟩
/-- what a lambda of the frame X, by its text, comes to -/
def LamOk (X : Cx) (k : Nat) (ar : Arguments) (bd : Expr) (sc : Scope) (tb : XK → TE) : Prop :=
  LamS X.env.scope sc ∧ (∀ (q : Str) (cl : List (Str × Addr)) (pm cv ctv : Value), bindArgs (PySem.W.kla_fn "<lambda>" q ar bd sc cl pm cv ctv) ⟨[], []⟩ = pure []) ∧
  ∀ B, (∀ b o, X.base.get? b = some o → B.get? b = some o) → ∀ (Ar : Around) (outer : List Env) (t : Shared) (G : Hp) (E : XK) (f c' : Addr), Room k (Ar.deeper (lamEnv X sc t.heap.objs.size f c')) → PE (lamN (onB X B) Ar outer t G E sc f c') bd (tb E)
/-- at f is a lambda of the frame X, that comes to tb -/
def WorkAt (X : Cx) (k : Nat) (tb : XK → TE) (H : Hp) (f : Addr) : Prop := ∃ c' ar bd sc, H c' = some (CodeO c' (X.env.qual ++ "<lambda>")) ∧ H f = some (LamO (X.env.qual ++ "<lambda>") ar bd sc (cloFrom X.env.cells sc.names []) f c') ∧ LamOk X k ar bd sc tb
def tWork (X : Cx) (P : Addr) (Tb : List (Addr × Str)) (k : Nat) (tb : XK → TE) : TE := fun _ H Q => Tabs Tb H ∧ ∀ f G, (∀ b o, b ≠ P → H b = some o → G b = some o) → Tabs Tb G → WorkAt X k tb G f → Q (.ref f) G
theorem pe_work {X : Cx} {Tb : List (Addr × Str)} {c P : Addr} {k : Nat} {ar : Arguments} {bd : Expr} {sc : Scope} {tb : XK → TE} {pos : Pos} (TB : TabB X.base X.mg c P) (hcode : X.env.code = .ref c) (hmT : (P, X.env.qual ++ "<lambda>") ∈ Tb)
    (one : ∀ p ∈ Tb, p.1 = P → p.2 = X.env.qual ++ "<lambda>") (nodef : defaultsOf ar X.env = ([], [])) (ok : LamOk X k ar bd sc tb) : PE X (.Lambda ar bd sc pos) (tWork X P Tb k tb) := by
  refine ⟨fun pins s σ H Q I ⟨hT, h⟩ => (pe_lamK TB hcode hmT one nodef ok.1).run pins s σ H Q I ⟨hT, fun f c' G eN T1 nf hc => ?_⟩⟩
  refine h f _ (fun b o nb e => ?_) (tabs_more T1 nf) ⟨c', ar, bd, sc, ?_, upd_same, ok⟩
  · rw [upd_ne (ne_of_none (eN b o nb e) nf)]
    exact eN b o nb e
  · rw [upd_ne (ne_of_none hc nf)]
    exact hc
/-- x(): x is a name that holds the lambda -/
theorem pe_act {X : Cx} {i k : Nat} {a : Str} {W : WX} {E : XK} {p1 p2 : Pos} (tk : L2N.Takes X W) (hW : ∀ cls d τ G, E cls d G → W cls d τ G) (hr : Room (k + 1) X.A)
    (hN : X.N[i]? = some a) (hv : Vis X.env.scope a) (hd : (a == ("__debug__" : Str)) = false := by decide) (hcd : (a == ("__classdict__" : Str)) = false := by decide) :
    PE X (.Call (.Name a p1) [] [] p2) (fun τ G Q => ∃ f c' q q' ar bd sc cl tl, τ[i]? = some (some (.ref f)) ∧ G c' = some (CodeO c' q) ∧ G f = some (LamO q' ar bd sc cl f c') ∧ Acts X.prog X.w X.K X.mg X.base f c' q k (LamO q' ar bd sc cl f c') tl ∧ tl E G Q) := by
  refine ⟨fun pz sz τ G Q IZ ⟨f, c', q, q', ar, bd, sc, cl, tl, hs, hc, hf, ac, ht⟩ => wpAny_Call_Name_kw (thn ((pe_var (pos := p1) (i := i) hN hv hd hcd).run pz sz τ G (fun v J => v = .ref f ∧ J = G) IZ ⟨.ref f, hs, rfl, rfl⟩) fun u s1 ⟨v, J, I1, r1, ev, eJ⟩ => ?_)⟩
  subst ev eJ
  cases (show u = Value.ref f from r1)
  obtain ⟨pm, ctv, of1⟩ : ∃ pm ctv, s1.heap.get? f = some (PySem.W.kla_obj "<lambda>" q' ar bd sc cl pm c' ctv) := (I1.hok f _ hf).1
  refine PySem.W.callWith_F0 ⟨_, _, _, _, of1⟩ ?_
  refine wpAny_call (codeAny_mono (ac _ _ s1 J Q E hr I1.env0 hf hc ht) fun r s' hq => ?_)
  match r, hq with
  | .error e, hq => exact L2N.passes_call tk hW pz τ J s1 e s' I1 hq
  | .ok (.ret u), hq => exact I1.after hq
  | .ok .next, hq => exact False.elim hq
  | .ok .brk, hq => exact False.elim hq
  | .ok .cont, hq => exact False.elim hq
/-- x(e, ..) where x's promise is wanted over the base that has this frame's cells -/
theorem pe_callG {X : Cx} {k : Nat} {f : Addr} {ps : List Str} {sp : Heap → Sp} {x : Str} {p pos : Pos} {e : Expr} {es : List Expr} {t : TA} {R : L2.St → List V → Hp → VK → Prop}
    (F : ∀ B, (∀ b o, X.base.get? b = some o → B.get? b = some o) → ∃ fd, FnOk X.prog X.w X.K X.mg B CX0 k f fd ps (sp B) ∧ Binds X.K fd ps [])
    (own : ∀ y, X.fn y = true) (hr : Room k X.A) (hg : Gl X x) (hm : X.mg x = some (.ref f)) (hk : PySem.W.keepIn X.K (.ref f) = true)
    (ha : PA X (e :: es) t) (hR : ∀ pins σ H s B vs Q, Inv X pins σ H s → Grown X s B → R σ vs H Q → sp B vs H Q E0)
    (hdb : (x == ("__debug__" : Str)) = false := by decide) (he : starEach (e :: es) X.env = (false, eval e X.env) :: starEach es X.env := by rfl) (hpl : (backTo pos (starEach es X.env)).any (·.1) = false := by rfl) :
    PE X (.Call (.Name x p) (e :: es) [] pos) (fun σ H Q => t σ H fun vs G => R σ vs G Q) := by
  refine ⟨fun pins s σ H Q I h => wpAny_Call_Name_kw (ld_glob I hg hm (PySem.W.callWith_K (h₀ := X.base) I.ok.mod.kin hk (thn (ha.run pos pins s σ H _ I h) fun us s1 ⟨vs, H1, I1, r, q⟩ => ⟨I1.kIn, ?_⟩) he hpl) hdb)⟩
  have gr := grown I1
  obtain ⟨fd, Fk, bk⟩ := F _ gr.bs
  have hs := hR _ _ _ _ _ _ _ I1 gr q
  have hl : us.length = ps.length := by rw [← r.length]; exact Fk.len _ _ _ _ hs
  have b := bk s1 us I1.kIn (by rw [List.append_nil]; exact hl)
  rw [List.append_nil] at b
  refine wpAny_call (codeAny_mono (Fk.run X.A X.stack s1 H1 ⟨us, []⟩ us vs Q E0 hr (grown_env0 I1 own) b r hs) fun r s' hq => ?_)
  match r, hq with
  | .error e, hq => exact (show False from hq).elim
  | .ok (.ret u), hq => exact I1.after hq
  | .ok .next, hq => exact False.elim hq
  | .ok .brk, hq => exact False.elim hq
  | .ok .cont, hq => exact False.elim hq
end K5

set_option Elab.async false
set_option linter.all false
set_option maxRecDepth 100000
set_option maxHeartbeats 4000000
namespace S02
open PySem PySem.Spec PyProof.Rows L2 L2H LamX K5 SupX GenX
/-! ### the class of a refusal -/
/-- D is just the j-th of the twelve classes -/
structure Cis (K : PySem.W.Frag) (A : Ad) (D : Addr) (j : Nat) : Prop where
  ex : ExcC K D
  lt : j < 12
  is : ∀ i, i < 12 → PySem.W.kitOne K (.ref D) (.ref (A.c (i + 3))) = some (decide (i = j))
  ve : PySem.W.kitOne K (.ref D) (.type "ValueError") = some true
def clsW : List Str := ["BadDeal", "BadHand", "BadLetter", "BadTime", "BadKey", "BadHouse", "NoCopy", "Behind", "BadBlock", "BadEntry", "BadText", "Stopped"]
def bsJ (j : Nat) : List Bool := [decide (0 = j), decide (1 = j), decide (2 = j), decide (3 = j), decide (4 = j), decide (5 = j), decide (6 = j), decide (7 = j), decide (8 = j), decide (9 = j), decide (10 = j), decide (11 = j)]
theorem bsJ_count : ∀ j, j < 12 → decide (V.int ((bsJ j).count true : Nat) = V.int 1) = true := by decide
theorem bsJ_at : ∀ j, j < 12 → (bsJ j)[j]? = some true ∧ ∀ m, m < j → (bsJ j)[m]? = some false := by decide
/-- isinstance(e, c): e is the pinned exception, with a dict or without -/
def rIsE2 (K : PySem.W.Frag) (D : Addr) (d : Option Addr) (a : Addr) : List V → Hp → VK → Prop := fun xs H Q => ∃ (c : V) (cv : Value) (b : Bool), xs = [.ref a, c] ∧ (∀ u, RelV c u → u = cv) ∧ PySem.W.kitOne K (.ref D) cv = some b ∧ (∀ dd, d = some dd → ∃ fs, H dd = some (.xd fs)) ∧ Q (.bl b) H
theorem isE2 {X : Cx} {p : Addr × Obj} {D : Addr} {d : Option Addr} (C : ExcC X.K D) (hp : p ∈ X.pn) (hz : Zc (.ref D) d p.2) (hf : ∃ vs, p.2.data = .fields vs) : CallR X (.builtin "isinstance") (rIsE2 X.K D d p.1) := by
  intro pins s σ H xs us Q I r ⟨c, cv, b, ex, hcv, e, hd, q⟩
  subst ex
  obtain ⟨u1, u2, eu, r1, r2⟩ := vals2 r
  subst eu
  cases r1
  cases hcv _ r2
  obtain ⟨vs, hv⟩ := hf
  have hget := (I.pin p (List.mem_append_left _ hp)).1
  obtain ⟨od, J⟩ : ∃ od, PySem.W.InstAt s.heap p.1 p.2 D od := by
    cases d with
    | none => exact ⟨none, hget, hz.1, by unfold PySem.W.notCls; rw [hv] <;> rfl, by rw [hz.2]; trivial⟩
    | some dd =>
      obtain ⟨fs, ea⟩ := hd dd rfl
      have hx : ObjOk X.prog X.w H s.heap dd (.xd fs) := I.hok dd _ ea
      obtain ⟨mA, hns, hr⟩ := hx
      obtain ⟨od, ho, hl⟩ := lookIn_ns hns
      exact ⟨some od, hget, hz.1, by unfold PySem.W.notCls; rw [hv] <;> rfl, by rw [hz.2]; exact ho⟩
  obtain ⟨cdD, hcD, _⟩ := PySem.W.any_some C.hd
  exact PySem.W.kia_one (PySem.W.kitx_exc (by rw [hcD]; rfl) C.hg C.hk C.hs C.ha C.hn C.ht C.hm) I.kIn J e nofun fun tk => ⟨.bl b, H, I.tok tk, rfl, q⟩
section
variable {P : Program} {w : World} {K : PySem.W.Frag} {mg : Str → Option Value} {base : Heap} {A : Ad}
theorem scclass : FnScope ["_law_e", "_law_kinds", "_law_words"] ["_law_e"] (defScope s_class) := ⟨rfl, rfl, rfl, by decide +kernel, rfl, by decide +kernel, by decide +kernel⟩
theorem class_body (T : Txt K mg A) {cdv : Value} {Ar : Around} {outer : List Env} {s : Shared} {H : Hp} {E : XK} {p : Addr × Obj} {D : Addr} {j : Nat} {Q : VK} (C : Cis K A D j) {d : Option Addr} (hz : Zc (.ref D) d p.2) (hf : ∃ vs, p.2.data = .fields vs) (hdF : ∀ G, Kp No H G → ∀ dd, d = some dd → ∃ fs, G dd = some (.xd fs)) (hu : Ar.units + 64 < cLine)
    (k : ∀ (x : Str) (G : Hp), clsW[j]? = some x → Kp No H G → Q (.str x) G) :
    ∃ t, PSs (L2H.cxH L2.CX0 P w K mg base ["_law_e", "_law_kinds", "_law_words"] "_law_class" (defScope s_class) (A.d 79) cdv Ar outer s H E p) (defBody s_class) t ∧ t { nx := fun _ G => Q .non G, rt := Q } (L2.start ["_law_e", "_law_kinds", "_law_words"] [.ref p.1]) H := by
  have IS : CallR (L2H.cxH L2.CX0 P w K mg base ["_law_e", "_law_kinds", "_law_words"] "_law_class" (defScope s_class) (A.d 79) cdv Ar outer s H E p) (.builtin "isinstance") (rIsE2 K D d p.1) := isE2 C.ex (List.mem_singleton.mpr rfl) hz hf
  refine ⟨_, (pss_cons (ps_set (i := 1) scclass.nd rfl (Or.inl rfl) (pe_lst (pa_cons (pe_callB IS (by rfl) T.isinstance (by decide +kernel) (pa_cons (pv 0) (pa_cons (pe_glob (v := .ref (A.c 3)) rfl T.c_BadDeal rfl) pa_nil))) (pa_cons (pe_callB IS (by rfl) T.isinstance (by decide +kernel) (pa_cons (pv 0) (pa_cons (pe_glob (v := .ref (A.c 4)) rfl T.x_BadHand.at_ rfl) pa_nil))) (pa_cons (pe_callB IS (by rfl) T.isinstance (by decide +kernel) (pa_cons (pv 0) (pa_cons (pe_glob (v := .ref (A.c 5)) rfl T.x_BadLetter.at_ rfl) pa_nil))) (pa_cons (pe_callB IS (by rfl) T.isinstance (by decide +kernel) (pa_cons (pv 0) (pa_cons (pe_glob (v := .ref (A.c 6)) rfl T.x_BadTime.at_ rfl) pa_nil))) pa_nil))))))
      (pss_cons (ps_set (i := 1) scclass.nd rfl (Or.inl rfl) (pe_op op_cat (pv 1) (pe_lst (pa_cons (pe_callB IS (by rfl) T.isinstance (by decide +kernel) (pa_cons (pv 0) (pa_cons (pe_glob (v := .ref (A.c 7)) rfl T.x_BadKey.at_ rfl) pa_nil))) (pa_cons (pe_callB IS (by rfl) T.isinstance (by decide +kernel) (pa_cons (pv 0) (pa_cons (pe_glob (v := .ref (A.c 8)) rfl T.x_BadHouse.at_ rfl) pa_nil))) (pa_cons (pe_callB IS (by rfl) T.isinstance (by decide +kernel) (pa_cons (pv 0) (pa_cons (pe_glob (v := .ref (A.c 9)) rfl T.x_NoCopy.at_ rfl) pa_nil))) (pa_cons (pe_callB IS (by rfl) T.isinstance (by decide +kernel) (pa_cons (pv 0) (pa_cons (pe_glob (v := .ref (A.c 10)) rfl T.c_Behind rfl) pa_nil))) pa_nil)))))))
      (pss_cons (ps_set (i := 1) scclass.nd rfl (Or.inl rfl) (pe_op op_cat (pv 1) (pe_lst (pa_cons (pe_callB IS (by rfl) T.isinstance (by decide +kernel) (pa_cons (pv 0) (pa_cons (pe_glob (v := .ref (A.c 11)) rfl T.x_BadBlock.at_ rfl) pa_nil))) (pa_cons (pe_callB IS (by rfl) T.isinstance (by decide +kernel) (pa_cons (pv 0) (pa_cons (pe_glob (v := .ref (A.c 12)) rfl T.x_BadEntry.at_ rfl) pa_nil))) (pa_cons (pe_callB IS (by rfl) T.isinstance (by decide +kernel) (pa_cons (pv 0) (pa_cons (pe_glob (v := .ref (A.c 13)) rfl T.c_BadText rfl) pa_nil))) (pa_cons (pe_callB IS (by rfl) T.isinstance (by decide +kernel) (pa_cons (pv 0) (pa_cons (pe_glob (v := .ref (A.c 14)) rfl T.x_Stopped.at_ rfl) pa_nil))) pa_nil)))))))
      (pss_cons (ps_set (i := 2) scclass.nd rfl (Or.inl rfl) (pe_lst (pa_cons pe_str (pa_cons pe_str (pa_cons pe_str (pa_cons pe_str (pa_cons pe_str (pa_cons pe_str (pa_cons pe_str (pa_cons pe_str (pa_cons pe_str pa_nil)))))))))))
      (pss_cons (ps_set (i := 2) scclass.nd rfl (Or.inl rfl) (pe_op op_cat (pv 2) (pe_lst (pa_cons pe_str (pa_cons pe_str (pa_cons pe_str pa_nil))))))
      (pss_one (ps_ret (pe_ifExp (PW.pt (pw_and (pt_cmpR op_eq (pe_bm PySem.F.plainAttrs_list PySem.F.slot_list_count PySem.F.type_list_count mt_cntB (pv 1) (pa_cons pe_bl pa_nil)) pe_int (nomark _)) (pw_and1 (pt_val (pe_callB IS (by rfl) T.isinstance (by decide +kernel) (pa_cons (pv 0) (pa_cons (pe_bltn (v := .ty "ValueError") (by rfl) T.ValueError (by decide +kernel) rfl) pa_nil))))))) (pe_ix ix_list (pv 2) (pe_bm PySem.F.plainAttrs_list PySem.F.slot_list_index PySem.F.type_list_index mt_index (pv 1) (pa_cons pe_bl pa_nil)) (fun _ _ => rfl)) pe_str)))))))), ?_⟩
  refine ⟨_, rfl, .ref (A.c 3), .ref (A.c 3), _, rfl, (fun u e => e), C.is 0 (by decide), (hdF _ (Kp.refl _ _)), _, rfl, .ref (A.c 4), .ref (A.c 4), _, rfl, (fun u e => e), C.is 1 (by decide), (hdF _ (Kp.refl _ _)), _, rfl, .ref (A.c 5), .ref (A.c 5), _, rfl, (fun u e => e), C.is 2 (by decide), (hdF _ (Kp.refl _ _)), _, rfl, .ref (A.c 6), .ref (A.c 6), _, rfl, (fun u e => e), C.is 3 (by decide), (hdF _ (Kp.refl _ _)), sz 4 (by decide), fun l1 n1 => ?_⟩
  refine ⟨_, rfl, _, rfl, .ref (A.c 7), .ref (A.c 7), _, rfl, (fun u e => e), C.is 4 (by decide), (hdF _ (Kp.new n1)), _, rfl, .ref (A.c 8), .ref (A.c 8), _, rfl, (fun u e => e), C.is 5 (by decide), (hdF _ (Kp.new n1)), _, rfl, .ref (A.c 9), .ref (A.c 9), _, rfl, (fun u e => e), C.is 6 (by decide), (hdF _ (Kp.new n1)), _, rfl, .ref (A.c 10), .ref (A.c 10), _, rfl, (fun u e => e), C.is 7 (by decide), (hdF _ (Kp.new n1)), sz 4 (by decide), fun l2 n2 => ?_⟩
  refine ⟨l1, l2, _, _, rfl, rfl, (upd_ne (ne_of_none upd_same n2)).trans upd_same, upd_same, sz 8 (by decide), fun l3 n3 => ?_⟩
  refine ⟨_, rfl, _, rfl, .ref (A.c 11), .ref (A.c 11), _, rfl, (fun u e => e), C.is 8 (by decide), (hdF _ (((Kp.new n1).andN n2).andN n3)), _, rfl, .ref (A.c 12), .ref (A.c 12), _, rfl, (fun u e => e), C.is 9 (by decide), (hdF _ (((Kp.new n1).andN n2).andN n3)), _, rfl, .ref (A.c 13), .ref (A.c 13), _, rfl, (fun u e => e), C.is 10 (by decide), (hdF _ (((Kp.new n1).andN n2).andN n3)), _, rfl, .ref (A.c 14), .ref (A.c 14), _, rfl, (fun u e => e), C.is 11 (by decide), (hdF _ (((Kp.new n1).andN n2).andN n3)), sz 4 (by decide), fun l4 n4 => ?_⟩
  refine ⟨l3, l4, _, _, rfl, rfl, (upd_ne (ne_of_none upd_same n4)).trans upd_same, upd_same, sz 12 (by decide), fun l5 n5 => ?_⟩
  refine ⟨sz 9 (by decide), fun w1 m1 => ?_⟩
  refine ⟨_, rfl, sz 3 (by decide), fun w2 m2 => ?_⟩
  refine ⟨w1, w2, _, _, rfl, rfl, (upd_ne (ne_of_none upd_same m2)).trans upd_same, upd_same, sz 12 (by decide), fun w3 m3 => ?_⟩
  have b0 : Kp No (upd _ l5 (.lst ((bsJ j).map V.bl))) _ := ((Kp.new (F := No) m1).andN m2).andN (o' := .lst (clsW.map V.str)) m3
  have hk := b0.t.lst upd_same fun z => z
  have kp : Kp No H _ := (((((((Kp.new (F := No) n1).andN n2).andN n3).andN n4).andN n5).andN m1).andN m2).andN (o' := .lst (clsW.map V.str)) m3
  have hj := C.lt
  have fl : ((bsJ j).map V.bl).all flatV = true := flat_bools _
  refine ⟨_, rfl, .inl ⟨rfl, _, SqL.of hk⟩, l5, bsJ j, rfl, rfl, SqL.of hk, rfl, _, rfl, ?_⟩
  rw [bsJ_count j hj]
  refine iteT ⟨_, rfl, ⟨.ty "ValueError", .type "ValueError", true, rfl, (fun u e => e), C.ve, (hdF _ kp), true, rfl, iteT ?_⟩⟩
  refine ⟨_, rfl, _, rfl, .inl ⟨rfl, _, SqL.of hk⟩, l5, _, .bl true, j, .bl true, rfl, rfl, SqL.of hk, rfl, fl, by rw [List.getElem?_map, (bsJ_at j hj).1]; rfl, rfl, fun m z' hm e => ?_, ?_⟩
  · rw [List.getElem?_map, (bsJ_at j hj).2 m hm] at e
    cases e
    rfl
  · obtain ⟨x, hx⟩ : ∃ x, clsW[j]? = some x := ⟨_, List.getElem?_eq_getElem hj⟩
    refine ⟨w3, clsW.map V.str, (j : Nat), .str x, rfl, rfl, SqL.of upd_same, atI_nat (by rw [List.getElem?_map, hx]; rfl), k x _ hx kp⟩
end
/-- a def called where the exception p is handled: its promise may speak of p -/
theorem run_ofP {CX : CXT} {P : Program} {w : World} {K : PySem.W.Frag} {mg : Str → Option Value} {base : Heap} {k : Nat} {f : Addr} {name qual : Str} {params : Arguments} {body : List Stmt} {scope : Scope} {dV kV doc pm cdv ct oc : Value} {an od : Option Addr} {osl : Array (Option Value)} {N ps : List Str}
    (lk : K.lookup f = some ⟨oc, od, .func (PySem.W.fnOf name qual params body scope dV kV doc pm an cdv ct), osl⟩) (hcd : PySem.W.codeIn K cdv qual = true) (S : FnScope N ps scope) {Ar : Around} {outer : List Env} {s : Shared} {H : Hp} {args : Args} {us : List Value} {vs : List V} {Q : VK} {E : XK} {p : Addr × Obj}
    (hr : RoomH (k + 1) Ar) (hpin : PinOk outer H s p) (e0 : Env0 P w K mg base Ar outer s H) (hb : BindsTo s (PySem.W.fnOf name qual params body scope dV kV doc pm an cdv ct) args (ps.zip us)) (r : Vals vs us) (hl : vs.length = ps.length)
    (hbody : RoomH k (Ar.deeper (envOfC qual scope s.heap.objs.size f cdv)) → ∃ t, PSs (cxH CX P w K mg base N qual scope f cdv Ar outer s H E p) body t ∧ t { nx := fun _ G => Q .non G, rt := Q } (L2.start N vs) H) :
    codeAny (model P w) Ar (.call (.ref f) args) (CR CX outer P w H s Q E) s := by
  have KX : K.In s.heap := e0.mod.kin.keeps fun b o e => (e0.bs b o e).1
  have lim : s.heap.NoLimit := e0.mod.nolimit.keeps fun b o e => (e0.bs b o e).1
  have kinds : ∀ y ∈ ps.zip us, scope.names.lookup y.1 = some .local ∨ (scope.names.lookup y.1 = some .cell ∧ ((cellsFrom (s.heap.objs.size + 1) scope.names []).lookup y.1).isSome = true) := fun ⟨n, v⟩ hy =>
    (S.par n (List.of_mem_zip hy).1).imp id fun q => ⟨q, PySem.W.cellsFrom_some _ _ _ (.inl q)⟩
  refine codeAny_call_function hr.depth (KX _ _ lk) rfl S.co S.gen rfl (PySem.W.codeRec_of KX hcd) (hb _ _ _ _ (wpAny_newFunctionEnv_cells S.kind kinds fun env he s1 x => ?_))
  subst he
  obtain ⟨t, ht, hq⟩ := hbody (hr.deeper _)
  refine ⟨lim.keeps x.toInCall.keep, codeAny_func (wpAny_mono (ht.run [] s1 (L2.start N vs) H _ (inv_startH S hpin e0 hl r x) hq) (fun fl s' hs => ?_) fun e s' hs => hs)⟩
  match fl, hs with
  | .ret u, ⟨v, σ', G, J, rv, q⟩ => exact ⟨v, G, J.os, J.bare, J.base, J.hok, rv, q⟩
  | .next, ⟨σ', G, J, q⟩ => exact (⟨V.non, G, J.os, J.bare, J.base, J.hok, rfl, q⟩ : CE outer P w H s Q Value.none s')
  | .brk, ⟨_, _, _, q⟩ => exact q.elim
  | .cont, ⟨_, _, _, q⟩ => exact q.elim
section
variable {P : Program} {w : World} {K : PySem.W.Frag} {mg : Str → Option Value} {base : Heap} {A : Ad}
/-- _law_class(_law_e), within the suite -/
theorem suite_class {X : Cx} {a : Addr} {oe : Obj} {pn : List (Addr × Obj)} {D : Addr} {d : Option Addr} {j : Nat} {p1 p2 pos : Pos} (T : Txt X.K X.mg A) (hg : Gl X "_law_class") (hN : X.N[1]? = some ("_law_e" : Str)) (hv : Vis X.env.scope "_law_e") (hr : Room 2 X.A)
    (C : Cis X.K A D j) (hz : L2N.Zn (.ref D) d oe) (hf : ∃ vs, oe.data = .fields vs)
    (he : starEach [.Name "_law_e" p2] X.env = (false, eval (.Name "_law_e" p2) X.env) :: starEach [] X.env := by rfl) (hpl : (backTo pos (starEach [] X.env)).any (·.1) = false := by rfl) :
    PE (X.suite a ((a, oe) :: pn)) (.Call (.Name "_law_class" p1) [.Name "_law_e" p2] [] pos) (fun σ H Q => σ[1]? = some (some (.ref a)) ∧ (∀ G, Kp No H G → ∀ dd, d = some dd → ∃ fs, G dd = some (.xd fs)) ∧ ∀ (x : Str) (G : Hp), clsW[j]? = some x → Kp No H G → Q (.str x) G) := by
  refine ⟨fun pins s σ H Q I ⟨hσ, hdF, h⟩ => wpAny_Call_Name_kw (ld_glob I hg T.class_.at_ (PySem.W.callWith_K (h₀ := X.base) I.ok.mod.kin T.class_.kp (thn ((pa_cons (pe_var (X := X.suite a ((a, oe) :: pn)) (i := 1) hN hv) pa_nil).run pos pins s σ H (fun vs G => vs = [.ref a] ∧ G = H) I ⟨_, hσ, rfl, rfl⟩) fun us s1 ⟨vs, G, I1, r, ev, eG⟩ => ⟨I1.kIn, ?_⟩) he hpl))⟩
  subst ev eG
  obtain ⟨fd, F⟩ := T.class_.fn
  have bC : Binds X.K fd ["_law_e"] [] := F.binds fun _ _ _ _ _ _ us hl => match us, hl with | [_], _ => rfl
  obtain ⟨oc, od, kV, doc, pm, an, cdv, ct, osl, rfl, lk, hcd⟩ := F.ex
  have P1 := I1.pin (a, oe) (List.mem_append_left _ List.mem_cons_self)
  have pin : PinOk X.stack G s1 (a, oe) := ⟨P1.1, P1.2.1, fun hm => (List.mem_cons.mp (I1.stkSub a hm)).elim P1.2.2.1 P1.2.2.2.1, P1.2.2.2.2⟩
  have hl : us.length = 1 := by rw [← r.length]; rfl
  have b := bC s1 us I1.kIn (by rw [List.append_nil]; exact hl)
  rw [List.append_nil] at b
  have hr1 : RoomH 2 (X.A.mark (some (.ref a))) := ⟨hr.dp, hr.un⟩
  have key : codeAny (model X.prog X.w) (X.A.mark (some (.ref a))) (.call (.ref (A.d 79)) ⟨us, []⟩) (CR L2.CX0 X.stack X.prog X.w G s1 Q L2.E0) s1 := by
    refine run_ofP (N := ["_law_e", "_law_kinds", "_law_words"]) (ps := ["_law_e"]) (p := (a, oe)) lk hcd scclass hr1 pin I1.env0 b r rfl fun hr2 => ?_
    exact class_body T C hz.zc hf hdF (by have := hr1.un; omega) h
  refine wpAny_call (codeAny_mono key fun r s' hq => ?_)
  match r, hq with
  | .error e, hq => exact (show False from hq).elim
  | .ok (.ret u), hq => exact I1.after hq
  | .ok .next, hq => exact False.elim hq
  | .ok .brk, hq => exact False.elim hq
  | .ok .cont, hq => exact False.elim hq

/-- a class of refusals by its word, and its field if it has one -/
structure Rfd (K : PySem.W.Frag) (A : Ad) (D : Addr) (wd : Str) (fd : Option Str) : Prop where
  cis : ∃ j, Cis K A D j ∧ clsW[j]? = some wd
  sk : PyData.strOk wd = true
  xm : PySem.W.exmOne K (.ref D) (.ref (A.c 2)) = some true
  no : fd = none → wd ≠ "BadDeal" ∧ wd ≠ "Behind" ∧ wd ≠ "BadText"
  fl : ∀ f, fd = some f → (wd = "BadDeal" ∧ f = "place" ∨ wd = "Behind" ∧ f = "number" ∨ wd = "BadText" ∧ f = "row") ∧ XfC K D ∧ PySem.W.findIn K (.ref D) f = some none
/-- what it holds -/
def XdAt (fd : Option Str) (v : Int) (d : Option Addr) (G : Hp) : Prop := match fd with
  | none => d = none ∧ v = 0
  | some f => ∃ dd, d = some dd ∧ G dd = some (.xd [(f, .int v)])
/-- told: the class's word, and its value -/
def TTr (D : Addr) (wd : Str) (fd : Option Str) (v : Int) : (XK → Hp → VK → Prop) → Hp → VK → Prop := fun tl H Q =>
  tl (fun cls d G => cls = .ref D ∧ XdAt fd v d G ∧ ∀ (p : Addr) (J : Hp), Kp No G J → J p = some (.tup [.str wd, .int v]) → Q (.ref p) J) H (fun _ G => Q .non G)
abbrev Nscref : List Str := ["_law_work", "_law_e", "_law_word"]
theorem scref : FnScope Nscref ["_law_work"] (defScope s_refused) := ⟨rfl, rfl, rfl, by decide +kernel, rfl, by decide +kernel, by decide +kernel⟩
def spRef (P : Program) (w : World) (K : PySem.W.Frag) (mg : Str → Option Value) (A : Ad) (kk : Nat) (B : Heap) : Sp := fun vs H Q _ => ∃ D wd fld v, Rfd K A D wd fld ∧ ∃ f c' q q' ar bd sc cl tl, vs = [.ref f] ∧ H c' = some (CodeO c' q) ∧ H f = some (LamO q' ar bd sc cl f c') ∧ Acts P w K mg B f c' q kk (LamO q' ar bd sc cl f c') tl ∧ TTr D wd fld v tl H Q
theorem ok_refused (T : Txt K mg A) {kk : Nat} (h3 : 3 ≤ kk) : ∃ fd, FnOk P w K mg base CX0 (kk + 2) (A.d 80) fd ["_law_work"] (spRef P w K mg A kk base) ∧ Binds K fd ["_law_work"] [] := by
  obtain ⟨fd, F⟩ := T.refused.fn
  refine ⟨fd, F.ok scref (fun vs H Q E h => ?_) (fun cdv Ar outer s0 H vs Q E hr h => ?_), F.binds fun _ _ _ _ _ _ us hl => match us, hl with | [_], _ => rfl⟩
  · obtain ⟨D, wd, fld, v, R, f, c', q, q', ar, bd, sc, cl, tl, rfl, _⟩ := h
    rfl
  · obtain ⟨D, wd, fld, v, R, f, c', q, q', ar, bd, sc, cl, tl, rfl, hc, hf, ac, h⟩ := h
    obtain ⟨j, C, hw⟩ := R.cis
    refine ⟨_, pss_cons (L2N.ps_try_as (i := 1) (c := .ref (A.c 2)) (Wout := fun _ _ _ _ => False)
      (tb := fun W D' σ G => ∃ Ech : XK, (∀ cls d τ J, Ech cls d J → W cls d τ J) ∧ σ[0]? = some (some (.ref f)) ∧ G c' = some (CodeO c' q) ∧ G f = some (LamO q' ar bd sc cl f c') ∧ tl Ech G (fun _ J => D'.nx σ J))
      (ts := fun a cls d D' σ G => (∃ τ : L2.St, σ = τ.set 1 (some (.ref a))) ∧ cls = .ref D ∧ XdAt fld v d G ∧ ∀ (p : Addr) (J : Hp), Kp No G J → J p = some (.tup [.str wd, .int v]) → D'.rt (.ref p) J)
      rfl rfl scref.nd rfl rfl ⟨rfl, by decide, .inl T.c_StillError⟩ takesN0 (fun W pn xe tk _ => ?_) (fun a oe cls d pn hz hf => ?_)) (pss_one (ps_ret pe_non)), ?_⟩
    · exact ⟨fun pins s' σ G D' I ⟨Ech, hW, h1, h2, h3, h4⟩ => (pss_one (ps_expr (pe_act (i := 0) (k := kk) tk hW hr rfl (.inl rfl)))).run pins s' σ G D' I ⟨f, c', q, q', ar, bd, sc, cl, tl, h1, h2, h3, ac, h4⟩⟩
    · refine ⟨fun pins s' σ G D' I ⟨⟨τ, eτ⟩, e1, e2, k⟩ => ?_⟩
      have hl : σ.length = 3 := I.len
      have hσ : σ[1]? = some (some (.ref a)) := by
        rw [eτ, List.length_set] at hl
        rw [eτ, List.getElem?_set_self (by omega)]
      obtain ⟨x0, x2, rfl⟩ : ∃ x0 x2, σ = [x0, some (.ref a), x2] := by
        match σ, hl, hσ with
        | [x0, x1, x2], _, e => exact ⟨x0, x2, by cases e; rfl⟩
      subst e1
      cases fld with
      | none =>
        obtain ⟨n1, n2, n3⟩ := R.no rfl
        obtain ⟨rfl, rfl⟩ := e2
        refine (pss_cons (ps_set (i := 2) scref.nd rfl (Or.inl rfl) (suite_class (X := (cxOf CX0 P w K mg base Nscref "_law_refused" (defScope s_refused) (A.d 80) cdv Ar outer s0 H E).nox) T rfl rfl (.inl rfl) (hr.mono (by omega)) C hz hf))
          (pss_cons (ps_if (pt_cmpR op_eq (pv 2) pe_str (nomark _)) (pss_one (ps_ret pe_never)) pss_nil)
          (pss_cons (ps_if (pt_cmpR op_eq (pv 2) pe_str (nomark _)) (pss_one (ps_ret pe_never)) pss_nil)
          (pss_one (ps_ret (pe_tup (pa_cons (pv 2) (pa_cons (pe_ifExp (pt_cmpR op_eq (pv 2) pe_str (nomark _)) pe_never pe_int) pa_nil)))))))).run pins s' _ G D' I ?_
        refine ⟨rfl, (fun _ _ _ z => by cases z), fun x J hx kJ => ?_⟩
        obtain rfl : wd = x := by rw [hw] at hx; exact Option.some.inj hx
        refine ⟨_, rfl, rfl, _, rfl, ?_⟩
        rw [show decide (V.str wd = V.str "BadDeal") = false by simpa using n1]
        refine iteF ⟨_, rfl, rfl, _, rfl, ?_⟩
        rw [show decide (V.str wd = V.str "Behind") = false by simpa using n2]
        refine iteF ⟨_, rfl, _, rfl, rfl, _, rfl, ?_⟩
        rw [show decide (V.str wd = V.str "BadText") = false by simpa using n3]
        exact iteF ⟨sz 2 (by decide), fun p np => k p _ (kJ.andN np) upd_same⟩
      | some f1 =>
        obtain ⟨wf, xf, nof⟩ := R.fl f1 rfl
        obtain ⟨dd, rfl, hdd⟩ := e2
        rcases wf with ⟨rfl, rfl⟩ | ⟨rfl, rfl⟩ | ⟨rfl, rfl⟩
        · refine (pss_cons (ps_set (i := 2) scref.nd rfl (Or.inl rfl) (suite_class (X := (cxOf CX0 P w K mg base Nscref "_law_refused" (defScope s_refused) (A.d 80) cdv Ar outer s0 H E).nox) T rfl rfl (.inl rfl) (hr.mono (by omega)) C hz hf))
            (pss_cons (ps_if (pt_cmpR op_eq (pv 2) pe_str (nomark _)) (pss_one (ps_ret (pe_tup (pa_cons (pv 2) (pa_cons (pe_xf xf nof hz.zc hf (pv 1)) pa_nil))))) pss_nil)
            (pss_cons (ps_if (pt_cmpR op_eq (pv 2) pe_str (nomark _)) (pss_one (ps_ret pe_never)) pss_nil)
            (pss_one (ps_ret pe_never))))).run pins s' _ G D' I ?_
          refine ⟨rfl, (fun J kJ d2 z => by cases z; exact ⟨_, kJ _ _ hdd fun m => nomatch m⟩), fun x J hx kJ => ?_⟩
          obtain rfl : ("BadDeal" : Str) = x := by rw [hw] at hx; exact Option.some.inj hx
          refine ⟨_, rfl, rfl, _, rfl, iteT ⟨_, rfl, _, rfl, rfl, rfl, dd, _, .int v, rfl, kJ _ _ hdd (fun m => nomatch m), rfl, sz 2 (by decide), fun t nt => ?_⟩⟩
          exact k t _ (kJ.andN nt) upd_same
        · refine (pss_cons (ps_set (i := 2) scref.nd rfl (Or.inl rfl) (suite_class (X := (cxOf CX0 P w K mg base Nscref "_law_refused" (defScope s_refused) (A.d 80) cdv Ar outer s0 H E).nox) T rfl rfl (.inl rfl) (hr.mono (by omega)) C hz hf))
            (pss_cons (ps_if (pt_cmpR op_eq (pv 2) pe_str (nomark _)) (pss_one (ps_ret pe_never)) pss_nil)
            (pss_cons (ps_if (pt_cmpR op_eq (pv 2) pe_str (nomark _)) (pss_one (ps_ret (pe_tup (pa_cons (pv 2) (pa_cons (pe_xf xf nof hz.zc hf (pv 1)) pa_nil))))) pss_nil)
            (pss_one (ps_ret pe_never))))).run pins s' _ G D' I ?_
          refine ⟨rfl, (fun J kJ d2 z => by cases z; exact ⟨_, kJ _ _ hdd fun m => nomatch m⟩), fun x J hx kJ => ?_⟩
          obtain rfl : ("Behind" : Str) = x := by rw [hw] at hx; exact Option.some.inj hx
          refine ⟨_, rfl, rfl, _, rfl, iteF ⟨_, rfl, rfl, _, rfl, iteT ⟨_, rfl, _, rfl, rfl, rfl, dd, _, .int v, rfl, kJ _ _ hdd (fun m => nomatch m), rfl, sz 2 (by decide), fun t nt => ?_⟩⟩⟩
          exact k t _ (kJ.andN nt) upd_same
        · refine (pss_cons (ps_set (i := 2) scref.nd rfl (Or.inl rfl) (suite_class (X := (cxOf CX0 P w K mg base Nscref "_law_refused" (defScope s_refused) (A.d 80) cdv Ar outer s0 H E).nox) T rfl rfl (.inl rfl) (hr.mono (by omega)) C hz hf))
            (pss_cons (ps_if (pt_cmpR op_eq (pv 2) pe_str (nomark _)) (pss_one (ps_ret pe_never)) pss_nil)
            (pss_cons (ps_if (pt_cmpR op_eq (pv 2) pe_str (nomark _)) (pss_one (ps_ret pe_never)) pss_nil)
            (pss_one (ps_ret (pe_tup (pa_cons (pv 2) (pa_cons (pe_ifExp (pt_cmpR op_eq (pv 2) pe_str (nomark _)) (pe_xf xf nof hz.zc hf (pv 1)) pe_int) pa_nil)))))))).run pins s' _ G D' I ?_
          refine ⟨rfl, (fun J kJ d2 z => by cases z; exact ⟨_, kJ _ _ hdd fun m => nomatch m⟩), fun x J hx kJ => ?_⟩
          obtain rfl : ("BadText" : Str) = x := by rw [hw] at hx; exact Option.some.inj hx
          refine ⟨_, rfl, rfl, _, rfl, iteF ⟨_, rfl, rfl, _, rfl, iteF ⟨_, rfl, _, rfl, rfl, _, rfl, iteT ⟨_, rfl, rfl, rfl, dd, _, .int v, rfl, kJ _ _ hdd (fun m => nomatch m), rfl, sz 2 (by decide), fun t nt => ?_⟩⟩⟩⟩
          exact k t _ (kJ.andN nt) upd_same
    · refine ⟨_, fun cls d τ J hx => ?_, rfl, hc, hf, h⟩
      obtain ⟨e1, e2, k⟩ := hx
      subst e1
      exact ⟨true, R.xm, fun _ a _ => ⟨⟨τ, rfl⟩, rfl, e2, k⟩, fun z => by cases z⟩
end
/-- a refusal of a frame's lambda -/
def RRef (X : Cx) (A : Ad) (kk : Nat) : L2.St → List V → Hp → VK → Prop := fun σ vs H Q => ∃ D wd fld v f tb, Rfd X.K A D wd fld ∧ vs = [.ref f] ∧ WorkAt X kk tb H f ∧ TTr D wd fld v (fun E J R => tb E σ J R) H Q
theorem pe_ref {X : Cx} {A : Ad} (T : Txt X.K X.mg A) {kk : Nat} (h3 : 3 ≤ kk) {p pos : Pos} {e : Expr} {es : List Expr} {t : TA} (own : ∀ y, X.fn y = true) (hr : Room (kk + 2) X.A) (hg : Gl X "_law_refused") (ha : PA X (e :: es) t)
    (he : starEach (e :: es) X.env = (false, eval e X.env) :: starEach es X.env := by rfl) (hpl : (backTo pos (starEach es X.env)).any (·.1) = false := by rfl) :
    PE X (.Call (.Name "_law_refused" p) (e :: es) [] pos) (fun σ H Q => t σ H fun vs G => RRef X A kk σ vs G Q) := by
  refine pe_callG (k := kk + 2) (f := A.d 80) (ps := ["_law_work"]) (sp := fun B => spRef X.prog X.w X.K X.mg A kk B) (R := RRef X A kk) (fun B sub => ok_refused (base := B) T h3) own hr hg T.refused.at_ T.refused.kp ha (fun pins σ H s B vs Q I gr h => ?_) (by decide) he hpl
  obtain ⟨D, wd, fld, v, f, tb, R, rfl, ⟨c', ar, bd, sc, e1, e2, Ls, b0, body⟩, h4⟩ := h
  exact ⟨D, wd, fld, v, R, f, c', _, _, ar, bd, sc, _, _, rfl, e1, e2, acts_of I gr Ls b0 (fun Ar outer t G E hr => body B gr.bs Ar outer t G E f c' hr), h4⟩
end S02

set_option Elab.async false
set_option linter.all false
set_option maxRecDepth 100000
set_option maxHeartbeats 4000000
/-! ### deals, alike and as data; bad deals -/
namespace S02
open PySem PySem.Spec PyProof.Rows L2 LamX K5 SupX GenX TL
theorem chC_lt {c : Nat} (h : chC c ∨ c = 32) : c < 1114112 := by
  unfold chC at h
  omega
theorem row_lt {h x : Int} {ds : List Dd} {c : Nat} (hc : c ∈ tl (rowS h x ds)) : c < 1114112 := by
  unfold rowS at hc
  rw [tl_append, tl_append] at hc
  rcases List.mem_append.mp hc with hc | hc
  · rcases List.mem_append.mp hc with hc | hc
    · exact chC_lt (chC_head hc)
    · have : c ∈ [58, 32] := hc
      simp only [List.mem_cons, List.not_mem_nil, or_false] at this
      omega
  · unfold tailS at hc
    rw [tl_join] at hc
    rcases joinL_mem hc with hc | ⟨p, hp, hc⟩
    · have : c ∈ [59, 32] := hc
      simp only [List.mem_cons, List.not_mem_nil, or_false] at this
      omega
    · rw [List.map_map] at hp
      obtain ⟨d, _, rfl⟩ := List.mem_map.mp hp
      exact chC_lt (chC_deed hc)
theorem text_ok (gs : List Gd) : PyData.strOk (textS gs) = true := by
  have h : ∀ c ∈ tl (textS gs), c < 1114112 := fun c hc => by
    unfold textS at hc
    rw [tl_join] at hc
    rcases joinL_mem hc with hc | ⟨p, hp, hc⟩
    · have : c ∈ [10] := hc
      rw [List.mem_singleton.mp this]
      decide
    · unfold rowsS at hp
      rw [List.map_map] at hp
      obtain ⟨g, _, rfl⟩ := List.mem_map.mp hp
      exact row_lt hc
  unfold PyData.strOk
  rw [Array.all_eq_true']
  intro c hc
  exact decide_eq_true (h c (Array.mem_toList_iff.mpr hc))
section
variable {K : PySem.W.Frag} {H : Hp}
theorem leaf_dd (d : Dd) : ∀ v ∈ d.vs, leafV v = true := by
  have w : ∀ x : Option Int, leafV (oV x) = true := fun x => by cases x <;> rfl
  intro v hv
  cases d with
  | put k a l =>
    rcases List.mem_cons.mp hv with rfl | hv
    · exact (by decide +kernel : PyData.strOk "put" = true)
    rcases List.mem_cons.mp hv with rfl | hv
    · rfl
    rcases List.mem_cons.mp hv with rfl | hv
    · rfl
    rw [List.mem_singleton.mp hv]
    rfl
  | drop k =>
    rcases List.mem_cons.mp hv with rfl | hv
    · exact (by decide +kernel : PyData.strOk "drop" = true)
    rw [List.mem_singleton.mp hv]
    rfl
  | add k m =>
    rcases List.mem_cons.mp hv with rfl | hv
    · exact (by decide +kernel : PyData.strOk "add" = true)
    rcases List.mem_cons.mp hv with rfl | hv
    · rfl
    rw [List.mem_singleton.mp hv]
    rfl
  | iff k x =>
    rcases List.mem_cons.mp hv with rfl | hv
    · exact (by decide +kernel : PyData.strOk "if" = true)
    rcases List.mem_cons.mp hv with rfl | hv
    · rfl
    rw [List.mem_singleton.mp hv]
    exact w x
theorem len_dd (d : Dd) : d.vs.length ≤ 4 := by
  cases d with
  | put k w l => exact Nat.le_refl 4
  | drop k => exact (by decide : 2 ≤ 4)
  | add k m => exact (by decide : 3 ≤ 4)
  | iff k w => exact (by decide : 3 ≤ 4)
theorem al_dd {x y : V} {d : Dd} (h1 : DdAt H x d) (h2 : DdAt H y d) (n : Nat) : Al H (n + 2) x y := by
  obtain ⟨a, rfl, e1⟩ := h1
  obtain ⟨b, rfl, e2⟩ := h2
  refine .inr ⟨a, b, _, _, rfl, rfl, .inl ⟨e1, e2⟩, rfl, Int.lt_of_le_of_lt (by have := len_dd d; omega : (d.vs.length : Int) ≤ 4) (by decide), fun j x y hx hy => ?_⟩
  rw [hx] at hy
  cases hy
  exact Al.leaf (leaf_dd d _ (List.mem_of_getElem? hx))
theorem al_ds {x y : V} {ds : List Dd} (h1 : DsAt H x ds) (h2 : DsAt H y ds) (n : Nat) : Al H (n + 3) x y := by
  obtain ⟨a, xs, rfl, e1, p1, l1⟩ := h1
  obtain ⟨b, ys, rfl, e2, p2, _⟩ := h2
  refine .inr ⟨a, b, _, _, rfl, rfl, .inl ⟨e1, e2⟩, by rw [p1.length, p2.length], Int.lt_of_le_of_lt (by rw [p2.length]; omega : (ys.length : Int) ≤ 1000) (by decide), fun j x y hx hy => ?_⟩
  obtain ⟨q, hq, g1⟩ := paired_at p1 hx
  obtain ⟨q2, hq2, g2⟩ := paired_at p2 hy
  rw [hq] at hq2
  cases hq2
  exact al_dd g1 g2 n
theorem al_gd {x y : V} {g : Gd} (h1 : GdAt H x g) (h2 : GdAt H y g) (n : Nat) : Al H (n + 4) x y := by
  obtain ⟨a, dv, rfl, e1, d1⟩ := h1
  obtain ⟨b, dw, rfl, e2, d2⟩ := h2
  refine .inr ⟨a, b, _, _, rfl, rfl, .inl ⟨e1, e2⟩, rfl, (by show ((3 : Nat) : Int) < 2 ^ 62; decide), fun j x y hx hy => ?_⟩
  match j, hx, hy with
  | 0, hx, hy => cases hx; cases hy; exact Al.leaf rfl
  | 1, hx, hy => cases hx; cases hy; exact Al.leaf rfl
  | 2, hx, hy => cases hx; cases hy; exact al_ds d1 d2 n
  | j + 3, hx, hy => simp at hx
def dWhX (t : TT) : PyData := .tuple [.int t.mom, .list ((whRows t 8).map dRw), .list ((hnRows t.hands).map dRh)]
theorem dt_whX {t : TT} {b l1 l2 : Addr} {xs zs : List V} (h : H b = some (.tup [.int t.mom, .ref l1, .ref l2])) (h1 : H l1 = some (.lst xs)) (p1 : Paired (RwV H) xs (whRows t 8)) (h2 : H l2 = some (.lst zs)) (p2 : Paired (RhV H) zs (hnRows t.hands)) : Dt K H 3 (.ref b) (dWhX t) :=
  Dt.tup h ((Dt.int 2 _).cons ((Dt.lst h1 (dt_map (fun _ _ z => dt_rwD z) p1)).cons ((Dt.lst h2 (dt_map (fun _ _ z => dt_rhD z) p2)).cons (DtA.nil 2))))
theorem DsAt.snocs {H : Hp} {a : Addr} {xs : List V} {ds : List Dd} (e : H a = some (.tup xs)) (p : Paired (DdAt H) xs ds) (l : ds.length ≤ 1000) : DsAt H (.ref a) ds := ⟨a, xs, rfl, e, p, l⟩
end
/-- the four bad deals, and what is told of them -/
def bdG : Nat → Gd
  | 0 => ⟨4, 1, []⟩
  | 1 => ⟨-1, 1, [.drop 32]⟩
  | 2 => ⟨0, 1, []⟩
  | _ => ⟨3, 1, [.drop 0, .drop (-1)]⟩
def bdE : Nat → Er
  | 0 => .hand
  | 1 => .hand
  | 2 => .deal 0
  | _ => .deal 1
theorem bd_bad : ∀ k, k < 4 → badG (bdG k) = some (bdE k)
  | 0, _ => rfl
  | 1, _ => rfl
  | 2, _ => rfl
  | 3, _ => rfl
  | n + 4, h => absurd h (by omega)
def bdW (k : Nat) : Str := if k < 2 then "BadHand" else "BadDeal"
def bdV (k : Nat) : Int := if k = 3 then 1 else 0
end S02

set_option Elab.async false
set_option linter.all false
set_option maxRecDepth 100000
set_option maxHeartbeats 8000000
/-! ### the law -/
namespace S02
open PySem PySem.Spec PyProof.Rows L2 LamX K5 SupX GenX TL
theorem Kg.tabs {L : List Addr} {F : Addr → Prop} {H G : Hp} {Tb : List (Addr × Str)} (k : Kg L F H G) (n : ∀ p ∈ Tb, p.1 ∉ L) (t : Tabs Tb H) : Tabs Tb G := fun p hp => by
  obtain ⟨ps, h1, h2, h3⟩ := t p hp
  have st : ∀ b o, H b = some o → ¬ Mu o → (b ∉ L ∨ ∀ ps, o ≠ .tbl ps) → G b = some o := fun b o e m q => (k.st b o e fun z => absurd z m).elim (fun ⟨z1, ⟨ps, z2⟩, _⟩ => q.elim (fun q => absurd z1 q) fun q => absurd z2 (q ps)) id
  refine ⟨ps, st _ _ h1 (fun z => z) (.inl (n p hp)), h2, fun pos cv hcv => ?_⟩
  obtain ⟨c, e1, e2⟩ := h3 pos cv hcv
  exact ⟨c, e1, st _ _ e2 (fun z => z) (.inr codeO_ne)⟩
abbrev Nsclaw : List Str := ["_law_script", "_law_box", "_law_turn", "_law_deals_here", "_law_handed", "_law_text_here", "_law_again_here", "_law_found", "_law_at", "_law_bad", "_law_due", "_law_k", "_law_odd"]
theorem sclaw : FnScope Nsclaw ["_law_script"] (defScope s_law) := ⟨rfl, rfl, rfl, by decide +kernel, rfl, by decide +kernel, by decide +kernel⟩
def lamL : Str := (envOfC "law" { kind := .function, names := [], isGenerator := false, isCoroutine := false } 0 0 .none).qual ++ "<lambda>"
abbrev tbL (pL : Addr) : List (Addr × Str) := [(pL, lamL)]
theorem Tg.other {L M : List Addr} {F : Addr → Prop} {H G : Hp} (t : Tg L H) (k : Kg M F H G) (n : ∀ p ∈ L, p ∉ M) : Tg L G := fun p hp => by
  obtain ⟨ps, e, q⟩ := t p hp
  exact ⟨ps, (k.st p _ e fun m => nomatch m).elim (fun ⟨z, _⟩ => absurd z (n p hp)) id, q⟩
theorem lam_ktL {pL : Addr} {H G : Hp} (T : Tabs (tbL pL) H) (k : ∀ b o, b ≠ pL → H b = some o → G b = some o) : Kt No H G := fun b o e t _ => by
  refine k b o (fun z => ?_) e
  obtain ⟨q, e1, _⟩ := T (pL, lamL) List.mem_cons_self
  rw [z] at e
  rw [e1] at e
  exact t q (Option.some.inj e).symm
theorem tg_lam {L : List Addr} {pL : Addr} {H G : Hp} (T : Tg L H) (nP : pL ∉ L) (k : ∀ b o, b ≠ pL → H b = some o → G b = some o) : Tg L G := fun Q hQ => by
  obtain ⟨ps, e, q⟩ := T Q hQ
  exact ⟨ps, k Q _ (fun z => nP (z ▸ hQ)) e, q⟩
theorem bdW_ok (k : Nat) : PyData.strOk (bdW k) = true := by
  unfold bdW
  split
  · exact (by decide +kernel : PyData.strOk "BadHand" = true)
  · exact (by decide +kernel : PyData.strOk "BadDeal" = true)
theorem cut_to (xs : List V) (q : Nat) : cutV xs none (some (q : Int)) = xs.take q := by
  unfold cutV
  rw [HT.sIx_none, HT.sIx_nat, List.drop_zero, Nat.sub_zero]
  by_cases c : q ≤ xs.length
  · rw [Nat.min_eq_left c]
  · rw [Nat.min_eq_right (by omega), List.take_length, List.take_of_length_le (by omega)]
theorem cut_at (xs : List V) (q : Nat) : cutV xs (some (q : Int)) none = xs.drop q := by
  unfold cutV
  rw [HT.sIx_none, HT.sIx_nat]
  by_cases c : q ≤ xs.length
  · rw [Nat.min_eq_left c]
    exact List.take_of_length_le (by rw [List.length_drop]; exact Nat.le_refl _)
  · rw [Nat.min_eq_right (by omega), Nat.sub_self, List.take_zero, List.drop_of_length_le (by omega)]
theorem pr_take {α β : Type} {R : α → β → Prop} : ∀ {xs : List α} {ys : List β}, Paired R xs ys → ∀ n, Paired R (xs.take n) (ys.take n)
  | _, _, _, 0 => .nil
  | _, _, .nil, _ + 1 => .nil
  | _, _, .cons h t, n + 1 => .cons h (pr_take t n)
theorem pr_drop {α β : Type} {R : α → β → Prop} : ∀ {xs : List α} {ys : List β}, Paired R xs ys → ∀ n, Paired R (xs.drop n) (ys.drop n)
  | _, _, h, 0 => h
  | _, _, .nil, _ + 1 => .nil
  | _, _, .cons h t, n + 1 => pr_drop t n
theorem pr_app {α β : Type} {R : α → β → Prop} : ∀ {xs zs : List α} {ys ws : List β}, Paired R xs ys → Paired R zs ws → Paired R (xs ++ zs) (ys ++ ws)
  | _, _, _, _, .nil, h => h
  | _, _, _, _, .cons a t, h => .cons a (pr_app t h)
theorem bd_rf {K : PySem.W.Frag} {A : Ad} (RH : Rfd K A (A.c 4) "BadHand" none) (RD : Rfd K A (A.c 3) "BadDeal" (some "place")) : ∀ k, k < 4 → ∃ D fld, Rfd K A D (bdW k) fld ∧ ∀ (E : XK) (G : Hp), (∀ d J, Kp No G J → XdAt fld (bdV k) d J → E (.ref D) d J) → ErX A E G (bdE k)
  | 0, _ => ⟨A.c 4, none, RH, fun E G h => h none G (Kp.refl _ _) ⟨rfl, rfl⟩⟩
  | 1, _ => ⟨A.c 4, none, RH, fun E G h => h none G (Kp.refl _ _) ⟨rfl, rfl⟩⟩
  | 2, _ => ⟨A.c 3, some "place", RD, fun E G h d nd => h (some d) _ (Kp.new nd) ⟨d, rfl, upd_same⟩⟩
  | 3, _ => ⟨A.c 3, some "place", RD, fun E G h d nd => h (some d) _ (Kp.new nd) ⟨d, rfl, upd_same⟩⟩
  | n + 4, h => absurd h (by omega)
/-- what a turn keeps: the box, the deals, the tables -/
structure LS (bx bi l : Addr) (xs : List V) (gs : List Gd) (tp : Nat → Addr) (pR pL : Addr) (J : Hp) : Prop where
  B : BoxAt J bx bi
  el : J l = some (.lst xs)
  nl : ¬ bF bx bi l
  pg : Paired (GdAt J) xs gs
  tg : Tg (tL tp) J
  tr : Tg [pR] J
  tt : Tabs (tbL pL) J
section
variable {bx bi l : Addr} {xs : List V} {gs : List Gd} {tp : Nat → Addr} {pR pL : Addr} {J G : Hp}
theorem LS.no (S : LS bx bi l xs gs tp pR pL J) (k : Kp No J G) : LS bx bi l xs gs tp pR pL G :=
  ⟨S.B.no k, k.t.lst S.el (fun z => z), S.nl, S.pg.mono fun _ _ z => z.kt k.t, S.tg.kp k, S.tr.kp k, (Kg.of (L := []) k).tabs (fun _ _ z => nomatch z) S.tt⟩
theorem LS.box (S : LS bx bi l xs gs tp pR pL J) (B : BoxAt G bx bi) (k : Kp (bF bx bi) J G) : LS bx bi l xs gs tp pR pL G :=
  ⟨B, k.t.lst S.el S.nl, S.nl, S.pg.mono fun _ _ z => z.kt k.t, S.tg.kp k, S.tr.kp k, (Kg.of (L := []) k).tabs (fun _ _ z => nomatch z) S.tt⟩
theorem LS.kgR (S : LS bx bi l xs gs tp pR pL J) (k : Kg [pR] No J G) (nR : pR ∉ tL tp) (nLR : pL ≠ pR) : LS bx bi l xs gs tp pR pL G :=
  ⟨S.B.kt k.t (fun _ z => False.elim z), k.t.lst S.el (fun z => z), S.nl, S.pg.mono fun _ _ z => z.kt k.t, S.tg.other k (fun p hp z => nR (by rw [← List.mem_singleton.mp z]; exact hp)), S.tr.kg k, k.tabs (fun p hp z => nLR (by rw [List.mem_singleton.mp hp] at z; exact List.mem_singleton.mp z)) S.tt⟩
theorem LS.kgT (S : LS bx bi l xs gs tp pR pL J) (k : Kg (tL tp) No J G) (nR : pR ∉ tL tp) (nL : pL ∉ tL tp) : LS bx bi l xs gs tp pR pL G :=
  ⟨S.B.kt k.t (fun _ z => False.elim z), k.t.lst S.el (fun z => z), S.nl, S.pg.mono fun _ _ z => z.kt k.t, S.tg.kg k, S.tr.other k (fun p hp => by rw [List.mem_singleton.mp hp]; exact nR), k.tabs (fun p hp => by rw [List.mem_singleton.mp hp]; exact nL) S.tt⟩
end
section
variable {P : Program} {w : World} {K : PySem.W.Frag} {mg : Str → Option Value} {base : Heap} {A : Ad} {tp : Nat → Addr} {nr pl B C fI pR pL : Addr}
theorem tbL_one {X : Cx} (e : X.env.qual ++ "<lambda>" = lamL) : ∀ p ∈ tbL pL, p.1 = pL → p.2 = X.env.qual ++ "<lambda>" := fun p hp z => by
  rw [List.mem_singleton.mp hp, e]
def spLaw (K : PySem.W.Frag) (tp : Nat → Addr) (pR pL : Addr) : Sp := fun vs H Q _ => ∃ (a : Addr) (ns : List Int), vs = [.ref a] ∧ SqL K H a (ns.map V.int) ∧ ns.length ≤ 63 ∧ Tg (tL tp) H ∧ Tg [pR] H ∧ Tabs (tbL pL) H ∧ ∀ G, Q (.bl true) G
theorem ok_law (T : Txt K mg A) (TB : TbsB base mg A tp) (X : Ex P w K mg A B C fI) (N : NewRoot K mg nr pl) (htop : (P.main.scope.names.lookup ("super" : Str)).isSome = false) (FG : ∃ t, mg "FIGURES" = some (.str "0123456789" t)) (TR : GxR.TabB base mg (A.co 52 0) pR) (TL : LamX.TabB base mg (A.co 93 0) pL) (nR : pR ∉ tL tp) (nL : pL ∉ tL tp) (nLR : pL ≠ pR) (RH : Rfd K A (A.c 4) "BadHand" none) (RD : Rfd K A (A.c 3) "BadDeal" (some "place"))
    {oc kV doc pm ct : Value} {od an : Option Addr} {osl : Array (Option Value)} (lk : K.lookup (A.d 93) = some ⟨oc, od, .func (PySem.W.fnOf "law" "law" (defArgs s_law) (defBody s_law) (defScope s_law) .none kV doc pm an (.ref (A.co 93 0)) ct), osl⟩) (hcd : PySem.W.codeIn K (.ref (A.co 93 0)) "law" = true) : FnOk P w K mg base CX0 15 (A.d 93) (PySem.W.fnOf "law" "law" (defArgs s_law) (defBody s_law) (defScope s_law) .none kV doc pm an (.ref (A.co 93 0)) ct) ["_law_script"] (spLaw K tp pR pL) := by
  obtain ⟨fd1, Gbegun, bbegun⟩ := ok_begun (P := P) (w := w) (base := base) T
  obtain ⟨fd2, Gtake, btake⟩ := ok_take (P := P) (w := w) (base := base) T
  obtain ⟨fd3, Gdeals, bdeals⟩ := ok_ldeals (P := P) (w := w) (base := base) T
  obtain ⟨fd4, Gtext, btext⟩ := ok_text (P := P) (w := w) (base := base) T
  obtain ⟨fd5, Gread_deals, bread_deals⟩ := ok_readDeals (P := P) (w := w) (base := base) T X htop FG TR
  obtain ⟨fd6, balike, GA⟩ := ok_alike (P := P) (w := w) (base := base) T
  have Galike := GA 5
  obtain ⟨fd7, Gdealt, bdealt⟩ := ok_dealt (P := P) (w := w) (base := base) T TB X N htop
  obtain ⟨fd8, Gwritten, bwritten⟩ := ok_written (P := P) (w := w) (base := base) T X htop
  refine fn_of lk hcd sclaw (fun vs H Q E h => ?_) fun Ar outer s0 H vs Q E hr h => ?_
  · obtain ⟨a, ns, rfl, _⟩ := h
    rfl
  · obtain ⟨a, ns, rfl, hS, hns, TG, TGR, TT0, k⟩ := h
    have hu := hu_of hr
    suffices hx : ∃ t, PSs (cxOf CX0 P w K mg base Nsclaw "law" (defScope s_law) (A.d 93) (.ref (A.co 93 0)) Ar outer s0 H E).nox (defBody s_law) t ∧ t { nx := fun _ G => Q .non G, rt := Q } (L2.start Nsclaw [.ref a]) H by
      obtain ⟨t, ht, q⟩ := hx
      exact ⟨t, ht.nox, q⟩
    refine ⟨_, (pss_cons (ps_set (i := 1) sclaw.nd rfl (Or.inl rfl) (pe_call Gbegun (hr.mono (by first | decide | omega)) rfl T.begun.at_ T.begun.kp bbegun .nil pass0 (pa_cons (pv 0) pa_nil)))
      (pss_cons (ps_for PassesOwn.never rfl (pi_range1 (by rfl) T.range (pa_cons pe_int pa_nil)) (pg_name (i := 2) sclaw.nd rfl (Or.inl rfl))
        (pss_cons (ps_set (i := 3) sclaw.nd rfl (Or.inl rfl) (pe_call Gdeals (hr.mono (by first | decide | omega)) rfl T.deals.at_ T.deals.kp bdeals .nil pass0 (pa_cons (pv 1) pa_nil)))
        (pss_cons (ps_set (i := 4) sclaw.nd rfl (Or.inl rfl) (pe_callTy call_list_of (by rfl) T.list (by decide +kernel) (pa_cons (pv 3) pa_nil)))
        (pss_cons (ps_set (i := 5) sclaw.nd rfl (Or.inl rfl) (pe_call Gtext (hr.mono (by first | decide | omega)) rfl T.text.at_ T.text.kp btext .nil pass0 (pa_cons (pv 3) pa_nil)))
        (pss_cons (ps_for PassesOwn.never rfl (pi_range1 (by rfl) T.range (pa_cons pe_int pa_nil)) (pg_name (i := 6) sclaw.nd rfl (Or.inl rfl))
          (pss_cons (ps_set (i := 7) sclaw.nd rfl (Or.inl rfl) (pe_call Gread_deals (hr.mono (by first | decide | omega)) rfl T.read_deals.at_ T.read_deals.kp bread_deals .nil pass0 (pa_cons (pv 5) pa_nil)))
          (pss_cons (ps_if (PW.pt (pw_or (pt_not (pt_val (pe_call Galike (hr.mono (by first | decide | omega)) rfl T.alike.at_ T.alike.kp balike .nil pass0 (pa_cons (pe_call (E := fun _ _ _ => False) Gwritten (hr.mono (by first | decide | omega)) rfl T.written.at_ T.written.kp bwritten .nil (L2N.passes_call takesN0 fun _ _ _ _ h => h) (pa_cons (pv 4) pa_nil)) (pa_cons (pv 5) pa_nil))))) (pw_or (pt_not (pt_val (pe_call Galike (hr.mono (by first | decide | omega)) rfl T.alike.at_ T.alike.kp balike .nil pass0 (pa_cons (pv 7) (pa_cons (pv 3) pa_nil))))) (pw_or1 (pt_cmpR (op_neD hr.units) (pv 4) (pv 3) (nomark _))))))
            (pss_one (ps_ret pe_bl))
            pss_nil)
          (pss_one (ps_expr (pe_bm PySem.F.plainAttrs_list PySem.F.slot_list_append PySem.F.type_list_append mt_append (pv 7) (pa_cons (pe_tup pa_nil) pa_nil)))))))
        (pss_cons (ps_if (pt_cmpR (op_neD hr.units) (pe_call Gdealt (hr.mono (by first | decide | omega)) rfl T.dealt.at_ T.dealt.kp bdealt .nil pass0 (pa_cons (pe_call Gread_deals (hr.mono (by first | decide | omega)) rfl T.read_deals.at_ T.read_deals.kp bread_deals .nil pass0 (pa_cons (pv 5) pa_nil)) pa_nil)) (pe_call Gdealt (hr.mono (by first | decide | omega)) rfl T.dealt.at_ T.dealt.kp bdealt .nil pass0 (pa_cons (pv 3) pa_nil)) (nomark _))
          (pss_one (ps_ret pe_bl))
          pss_nil)
        (pss_cons (ps_set (i := 8) sclaw.nd rfl (Or.inl rfl) (pe_call Gtake (hr.mono (by first | decide | omega)) rfl T.take.at_ T.take.kp btake .nil pass0 (pa_cons (pv 1) (pa_cons (pe_op op_add (pe_callB call_len_seq (by rfl) T.len PySem.boot_len (pa_cons (pv 3) pa_nil)) pe_int) pa_nil))))
        (pss_cons (ps_set (i := 9) sclaw.nd rfl (Or.inl rfl) (pe_lst (pa_cons (pe_tup (pa_cons pe_int (pa_cons pe_int (pa_cons (pe_tup pa_nil) pa_nil)))) (pa_cons (pe_tup (pa_cons (pe_un un_neg pe_int) (pa_cons pe_int (pa_cons (pe_tup (pa_cons (pe_tup (pa_cons pe_str (pa_cons pe_int pa_nil))) pa_nil)) pa_nil)))) (pa_cons (pe_tup (pa_cons pe_int (pa_cons pe_int (pa_cons (pe_tup pa_nil) pa_nil)))) (pa_cons (pe_tup (pa_cons pe_int (pa_cons pe_int (pa_cons (pe_tup (pa_cons (pe_tup (pa_cons pe_str (pa_cons pe_int pa_nil))) (pa_cons (pe_tup (pa_cons pe_str (pa_cons (pe_un un_neg pe_int) pa_nil))) pa_nil))) pa_nil)))) pa_nil))))))
        (pss_cons (ps_set (i := 10) sclaw.nd rfl (Or.inl rfl) (pe_lst (pa_cons (pe_tup (pa_cons pe_str (pa_cons pe_int pa_nil))) (pa_cons (pe_tup (pa_cons pe_str (pa_cons pe_int pa_nil))) (pa_cons (pe_tup (pa_cons pe_str (pa_cons pe_int pa_nil))) (pa_cons (pe_tup (pa_cons pe_str (pa_cons pe_int pa_nil))) pa_nil))))))
        (pss_cons (ps_set (i := 11) sclaw.nd rfl (Or.inl rfl) (pe_call Gtake (hr.mono (by first | decide | omega)) rfl T.take.at_ T.take.kp btake .nil pass0 (pa_cons (pv 1) (pa_cons pe_int pa_nil))))
        (pss_cons (ps_set (i := 12) sclaw.nd rfl (Or.inr rfl) (pe_op op_cat (pe_op op_cat (pe_op op_cat (pe_slice sl_list (pv 3) po_none (po_some (pv 8))) (pe_lst (pa_cons (pe_ix ix_list (pv 9) (pv 11) (fun _ _ => rfl)) pa_nil))) (pe_slice sl_list (pv 3) (po_some (pv 8)) po_none)) (pe_lst (pa_cons (pe_tup (pa_cons pe_int (pa_cons pe_int (pa_cons (pe_tup pa_nil) pa_nil)))) pa_nil))))
        (pss_one (ps_if (pt_not (pt_val (pe_call Galike (hr.mono (by first | decide | omega)) rfl T.alike.at_ T.alike.kp balike .nil pass0 (pa_cons (pe_ref (kk := 6) T (by decide) (fun _ => rfl) (hr.mono (by decide)) rfl (pa_cons (pe_work (P := pL) (Tb := tbL pL) (k := 6) (tb := fun E => tCall (spWritten A) [] E (tCons (tVar 12) tNil)) TL rfl List.mem_cons_self (tbL_one rfl) rfl ⟨lamS_by (by show lamSB (defScope s_law) _ = true; decide +kernel), fun _ _ _ _ _ => rfl, fun B sub Ar outer t G E f c' hr => by obtain ⟨_, G9, b9⟩ := ok_written (P := P) (w := w) (base := B) T X htop; exact pe_call (E := E) G9 (hr.mono (by decide)) rfl T.written.at_ T.written.kp b9 .nil (L2N.passes_call (L2N.takes_of rfl rfl rfl rfl) fun _ _ _ _ h => h) (pa_cons (pv 12) pa_nil)⟩) pa_nil)) (pa_cons (pe_ix ix_list (pv 10) (pv 11) (fun _ _ => rfl)) pa_nil)))))
          (pss_one (ps_ret pe_bl))
          pss_nil)))))))))))))
      (pss_one (ps_ret pe_bl)))), ?_⟩
    refine ⟨_, rfl, a, ns, rfl, hS, hns, fun G1 bx bi nbx nbi B1 k1 => ?_⟩
    refine ⟨4, rfl, by decide, by decide, for_range (lo := 0) (n := (4 : Int).toNat) (fun i σ G => (∃ o2 o3 o4 o5 o6 o7 o8 o9 o10 o11 o12, σ = [some (.ref a), some (.ref bx), o2, o3, o4, o5, o6, o7, o8, o9, o10, o11, o12]) ∧ BoxAt G bx bi ∧ Tg (tL tp) G ∧ Tg [pR] G ∧ Tabs (tbL pL) G)
      ⟨⟨_, _, _, _, _, _, _, _, _, _, _, rfl⟩, B1, TG.kp k1, TGR.kp k1, (Kg.of (L := []) k1).tabs (fun _ _ z => nomatch z) TT0⟩ ?_ fun σ G _ => k G⟩
    rintro i σ G hi ⟨⟨o2, o3, o4, o5, o6, o7, o8, o9, o10, o11, o12, rfl⟩, BG, TG1, TR1, TT1⟩
    refine ⟨_, rfl, bx, bi, rfl, BG, fun G2 l xs gs B2 k2 nl el pg hg hl => ?_⟩
    have nbl := new_nb BG nl
    have S2 : LS bx bi l xs gs tp pR pL G2 := ⟨B2, el, nbl, pg, TG1.kp k2, TR1.kp k2, (Kg.of (L := []) k2).tabs (fun _ _ z => nomatch z) TT1⟩
    have hxl : xs.length = gs.length := pg.length
    clear B2 k2 el pg BG TG1 TR1 TT1
    -- list(deals)
    refine ⟨_, rfl, l, xs, rfl, .inl (SqL.of S2.el), fun c nc => ?_⟩
    have kc : Kp No G2 (upd G2 c (.lst xs)) := Kp.new nc
    have ec : upd G2 c (.lst xs) c = some (.lst xs) := upd_same
    show tSeq _ _ _ _ (upd G2 c (.lst xs))
    generalize upd G2 c (.lst xs) = G3 at kc ec ⊢
    have S3 := S2.no kc
    refine ⟨_, rfl, l, xs, gs, rfl, S3.el, S3.pg, hg, hl, fun G4 k4 => ?_⟩
    have S4 := S3.no k4
    have ec4 := k4.t.lst ec fun z => z
    clear S3 S2 kc ec k4
    -- twice
    refine ⟨2, rfl, by decide, by decide, for_range (lo := 0) (n := (2 : Int).toNat) (fun j σ J => (∃ o6 o7, σ = [some (.ref a), some (.ref bx), some (.int (0 + (i : Nat))), some (.ref l), some (.ref c), some (.str (textS gs)), o6, o7, o8, o9, o10, o11, o12]) ∧ Kg [pR] No G4 J)
      ⟨⟨_, _, rfl⟩, Kg.refl _ _ _⟩ ?_ ?_⟩
    · rintro j σ J hj ⟨⟨o6', o7', rfl⟩, kJ⟩
      have SJ := S4.kgR kJ nR nLR
      refine ⟨_, rfl, gs, rfl, SJ.tr, hg, by omega, fun J1 lf xf nlf k1 ef pf => ?_⟩
      have kJ1 := kJ.trans k1 fun _ z => False.elim z
      refine ⟨_, rfl, c, xs, gs, rfl, kJ1.t.lst ec4 (fun z => z), S4.pg.mono (fun _ _ z => z.kt kJ1.t), by omega, .inl ⟨hg, fun J2 k2 => ?_⟩⟩
      refine ⟨_, rfl, _, _, rfl, Al.leaf (text_ok gs), true, rfl, iteF ?_⟩
      have kJ2 := kJ1.trans (Kg.of k2) fun _ z => False.elim z
      have S2 := S4.kgR kJ2 nR nLR
      have ef2 := k2.t.lst ef fun z => z
      have pf2 := pf.mono fun _ _ z => GdAt.kt k2.t z
      refine ⟨_, rfl, _, rfl, _, _, rfl, al_lst (R := GdAt J2) (n := 4) (fun x y q h1 h2 => al_gd h1 h2 0) ef2 S2.el pf2 S2.pg (by omega), true, rfl, iteF ?_⟩
      obtain ⟨ds, hd⟩ := dt_all (K := K) (H := J2) (n := 3) (fun v a z => dt_gd z) S2.pg
      have q1 : Dt K J2 4 (.ref c) (.list ds) := Dt.lst (kJ2.t.lst ec4 fun z => z) hd
      have q2 : Dt K J2 4 (.ref l) (.list ds) := Dt.lst S2.el hd
      have eq := q1.same
      have sh := shaped_of q1.2.1 (Nat.le_trans q1.2.2 (by decide))
      refine ⟨_, rfl, _, rfl, _, _, q1.1, q2.1, sh, sh, _, rfl, ?_⟩
      rw [eq]
      refine iteF ⟨_, rfl, .inl ⟨rfl, _, SqL.of ef2⟩, sz 0 (by decide), fun e ne => ?_⟩
      have ke : Kp No J2 (upd J2 e (.tup [])) := Kp.new ne
      have ef3 := ke.t.lst ef2 fun z => z
      refine ⟨lf, xf, _, rfl, rfl, ef3, szL (by rw [pf.length]; omega), ⟨_, _, rfl⟩, ?_⟩
      have nlG : G4 lf = none := kJ.free nlf fun z => False.elim z
      exact (kJ2.trans (Kg.of ke) fun _ z => False.elim z).trans (F' := fun b => b = lf) (Kg.of (Kp.updL ef3 rfl)) fun b z => .inr (by rw [show b = lf from z]; exact nlG)
    rintro σ J ⟨⟨o6', o7', rfl⟩, kJ⟩
    have SJ := S4.kgR kJ nR nLR
    clear S4 kJ ec4 nc
    -- a lead deals alike by both
    refine ⟨_, rfl, gs, rfl, SJ.tr, hg, by omega, fun J1 lf xf nlf k1 ef pf => ?_⟩
    have S1 := SJ.kgR k1 nR nLR
    refine ⟨lf, xf, gs, rfl, ef, pf, hg, hl, S1.tg, fun J2 b l1 l2 ys zs k2 eb e1 p1 e2 p2 => ?_⟩
    have S2 := S1.kgT k2 nR nL
    refine ⟨_, rfl, l, xs, gs, rfl, S2.el, S2.pg, hg, hl, S2.tg, fun J3 b' l1' l2' ys' zs' k3 eb' e1' p1' e2' p2' => ?_⟩
    have S3 := S2.kgT k3 nR nL
    have q1 : Dt K J3 3 (.ref b) _ := dt_whX (k3.t.tup eb) (k3.t.lst e1 fun z => z) (p1.mono fun _ _ z => z.kt k3.t) (k3.t.lst e2 fun z => z) (p2.mono fun _ _ z => z.kt k3.t)
    have q2 : Dt K J3 3 (.ref b') _ := dt_whX eb' e1' p1' e2' p2'
    have eq := q1.same
    have sh := shaped_of q1.2.1 (Nat.le_trans q1.2.2 (by decide))
    refine ⟨_, _, q1.1, q2.1, sh, sh, _, rfl, ?_⟩
    rw [eq]
    refine iteF ?_
    clear q1 q2 sh eq eb e1 p1 e2 p2 eb' e1' p1' e2' p2' k2 k3 S1 S2 ef pf k1 nlf SJ
    -- where the bad one stands
    refine ⟨_, rfl, _, rfl, l, xs, rfl, .inl (SqL.of S3.el), _, _, rfl, rfl, bx, bi, _, rfl, S3.B, by omega, Nat.lt_of_le_of_lt (by omega : ((xs.length : Int) + 1).natAbs ≤ 2000) (by decide), fun q J4 q0 q1 B4 k4 => ?_⟩
    have S4 := S3.box B4 k4
    obtain ⟨qn, rfl⟩ := Int.eq_ofNat_of_zero_le q0
    clear S3 k4 B4
    -- the bad deals
    refine ⟨sz 0 (by decide), fun e1 n1 => ⟨sz 3 (by decide), fun p1 m1 => ?_⟩⟩
    obtain ⟨kA, dA⟩ : Kp No J4 (upd (upd J4 e1 (.tup [])) p1 (.tup [.int 4, .int 1, .ref e1])) ∧ GdAt (upd (upd J4 e1 (.tup [])) p1 (.tup [.int 4, .int 1, .ref e1])) (.ref p1) (bdG 0) := ⟨(Kp.new n1).andN m1, p1, _, rfl, upd_same, e1, [], rfl, (upd_ne (ne_of_none upd_same m1)).trans upd_same, .nil, by decide⟩
    generalize upd (upd J4 e1 (.tup [])) p1 (.tup [.int 4, .int 1, .ref e1]) = A1 at kA dA ⊢
    refine ⟨_, rfl, sz 2 (by decide), fun x2 y2 => ⟨sz 1 (by decide), fun e2 n2 => ⟨sz 3 (by decide), fun p2 m2 => ?_⟩⟩⟩
    obtain ⟨kB, dB⟩ : Kp No A1 (upd (upd (upd A1 x2 (.tup [.str "drop", .int 32])) e2 (.tup [.ref x2])) p2 (.tup [.int (-1), .int 1, .ref e2])) ∧ GdAt (upd (upd (upd A1 x2 (.tup [.str "drop", .int 32])) e2 (.tup [.ref x2])) p2 (.tup [.int (-1), .int 1, .ref e2])) (.ref p2) (bdG 1) :=
      ⟨((Kp.new y2).andN n2).andN m2, p2, _, rfl, upd_same, e2, [.ref x2], rfl, (upd_ne (ne_of_none upd_same m2)).trans upd_same, .cons ⟨x2, rfl, ((Kp.new (F := No) n2).andN m2).t.tup upd_same⟩ .nil, by decide⟩
    show tCons _ _ _ (upd (upd (upd A1 x2 (.tup [.str "drop", .int 32])) e2 (.tup [.ref x2])) p2 (.tup [.int (-1), .int 1, .ref e2])) _
    generalize upd (upd (upd A1 x2 (.tup [.str "drop", .int 32])) e2 (.tup [.ref x2])) p2 (.tup [.int (-1), .int 1, .ref e2]) = A2 at kB dB ⊢
    refine ⟨sz 0 (by decide), fun e3 n3 => ⟨sz 3 (by decide), fun p3 m3 => ?_⟩⟩
    obtain ⟨kC, dC⟩ : Kp No A2 (upd (upd A2 e3 (.tup [])) p3 (.tup [.int 0, .int 1, .ref e3])) ∧ GdAt (upd (upd A2 e3 (.tup [])) p3 (.tup [.int 0, .int 1, .ref e3])) (.ref p3) (bdG 2) := ⟨(Kp.new n3).andN m3, p3, _, rfl, upd_same, e3, [], rfl, (upd_ne (ne_of_none upd_same m3)).trans upd_same, .nil, by decide⟩
    show tCons _ _ _ (upd (upd A2 e3 (.tup [])) p3 (.tup [.int 0, .int 1, .ref e3])) _
    generalize upd (upd A2 e3 (.tup [])) p3 (.tup [.int 0, .int 1, .ref e3]) = A3 at kC dC ⊢
    refine ⟨sz 2 (by decide), fun x4 y4 => ⟨_, rfl, sz 2 (by decide), fun x5 y5 => ⟨sz 2 (by decide), fun e4 n4 => ⟨sz 3 (by decide), fun p4 m4 => ?_⟩⟩⟩⟩
    obtain ⟨kD, dD⟩ : Kp No A3 (upd (upd (upd (upd A3 x4 (.tup [.str "drop", .int 0])) x5 (.tup [.str "drop", .int (-1)])) e4 (.tup [.ref x4, .ref x5])) p4 (.tup [.int 3, .int 1, .ref e4])) ∧ GdAt (upd (upd (upd (upd A3 x4 (.tup [.str "drop", .int 0])) x5 (.tup [.str "drop", .int (-1)])) e4 (.tup [.ref x4, .ref x5])) p4 (.tup [.int 3, .int 1, .ref e4])) (.ref p4) (bdG 3) :=
      ⟨(((Kp.new y4).andN y5).andN n4).andN m4, p4, _, rfl, upd_same, e4, [.ref x4, .ref x5], rfl, (upd_ne (ne_of_none upd_same m4)).trans upd_same, .cons ⟨x4, rfl, (((Kp.new (F := No) y5).andN n4).andN m4).t.tup upd_same⟩ (.cons ⟨x5, rfl, ((Kp.new (F := No) n4).andN m4).t.tup upd_same⟩ .nil), by decide⟩
    show tNil _ (upd (upd (upd (upd A3 x4 (.tup [.str "drop", .int 0])) x5 (.tup [.str "drop", .int (-1)])) e4 (.tup [.ref x4, .ref x5])) p4 (.tup [.int 3, .int 1, .ref e4])) _
    generalize upd (upd (upd (upd A3 x4 (.tup [.str "drop", .int 0])) x5 (.tup [.str "drop", .int (-1)])) e4 (.tup [.ref x4, .ref x5])) p4 (.tup [.int 3, .int 1, .ref e4]) = A4 at kD dD ⊢
    refine ⟨sz 4 (by decide), fun bl nb => ?_⟩
    obtain ⟨kE, eE⟩ : Kp No A4 (upd A4 bl (.lst [.ref p1, .ref p2, .ref p3, .ref p4])) ∧ upd A4 bl (.lst [.ref p1, .ref p2, .ref p3, .ref p4]) bl = some (.lst [.ref p1, .ref p2, .ref p3, .ref p4]) := ⟨Kp.new nb, upd_same⟩
    show tSeq _ _ _ _ (upd A4 bl (.lst [.ref p1, .ref p2, .ref p3, .ref p4]))
    generalize upd A4 bl (.lst [.ref p1, .ref p2, .ref p3, .ref p4]) = A5 at kE eE ⊢
    have bad : ∀ z, z < 4 → ∃ u, ([.ref p1, .ref p2, .ref p3, .ref p4] : List V)[z]? = some (.ref u) ∧ GdAt A5 (.ref u) (bdG z)
      | 0, _ => ⟨p1, rfl, (((dA.kt kB.t).kt kC.t).kt kD.t).kt kE.t⟩
      | 1, _ => ⟨p2, rfl, ((dB.kt kC.t).kt kD.t).kt kE.t⟩
      | 2, _ => ⟨p3, rfl, (dC.kt kD.t).kt kE.t⟩
      | 3, _ => ⟨p4, rfl, dD.kt kE.t⟩
      | n + 4, h => absurd h (by omega)
    have S5 := ((((S4.no kA).no kB).no kC).no kD).no kE
    clear S4 kA kB kC kD kE dA dB dC dD nb n1 m1 y2 n2 m2 n3 m3 y4 y5 n4 m4
    -- what is due
    refine ⟨sz 2 (by decide), fun t1 n1 => ⟨sz 2 (by decide), fun t2 n2 => ⟨sz 2 (by decide), fun t3 n3 => ⟨sz 2 (by decide), fun t4 n4 => ⟨sz 4 (by decide), fun dl nd => ?_⟩⟩⟩⟩⟩
    obtain ⟨kF, eF, due⟩ : Kp No A5 (upd (upd (upd (upd (upd A5 t1 (.tup [.str "BadHand", .int 0])) t2 (.tup [.str "BadHand", .int 0])) t3 (.tup [.str "BadDeal", .int 0])) t4 (.tup [.str "BadDeal", .int 1])) dl (.lst [.ref t1, .ref t2, .ref t3, .ref t4]))
        ∧ (upd (upd (upd (upd (upd A5 t1 (.tup [.str "BadHand", .int 0])) t2 (.tup [.str "BadHand", .int 0])) t3 (.tup [.str "BadDeal", .int 0])) t4 (.tup [.str "BadDeal", .int 1])) dl (.lst [.ref t1, .ref t2, .ref t3, .ref t4])) dl = some (.lst [.ref t1, .ref t2, .ref t3, .ref t4])
        ∧ ∀ z, z < 4 → ∃ u, ([.ref t1, .ref t2, .ref t3, .ref t4] : List V)[z]? = some (.ref u) ∧ (upd (upd (upd (upd (upd A5 t1 (.tup [.str "BadHand", .int 0])) t2 (.tup [.str "BadHand", .int 0])) t3 (.tup [.str "BadDeal", .int 0])) t4 (.tup [.str "BadDeal", .int 1])) dl (.lst [.ref t1, .ref t2, .ref t3, .ref t4])) u = some (.tup [.str (bdW z), .int (bdV z)]) := by
      refine ⟨((((Kp.new n1).andN n2).andN n3).andN n4).andN nd, upd_same, fun z hz => ?_⟩
      have : z = 0 ∨ z = 1 ∨ z = 2 ∨ z = 3 := by omega
      rcases this with rfl | rfl | rfl | rfl
      · exact ⟨t1, rfl, ((((Kp.new (F := No) n2).andN n3).andN n4).andN nd).t.tup upd_same⟩
      · exact ⟨t2, rfl, (((Kp.new (F := No) n3).andN n4).andN nd).t.tup upd_same⟩
      · exact ⟨t3, rfl, ((Kp.new (F := No) n4).andN nd).t.tup upd_same⟩
      · exact ⟨t4, rfl, (Kp.new (F := No) nd).t.tup upd_same⟩
    show tSeq _ _ _ _ (upd (upd (upd (upd (upd A5 t1 (.tup [.str "BadHand", .int 0])) t2 (.tup [.str "BadHand", .int 0])) t3 (.tup [.str "BadDeal", .int 0])) t4 (.tup [.str "BadDeal", .int 1])) dl (.lst [.ref t1, .ref t2, .ref t3, .ref t4]))
    generalize upd (upd (upd (upd (upd A5 t1 (.tup [.str "BadHand", .int 0])) t2 (.tup [.str "BadHand", .int 0])) t3 (.tup [.str "BadDeal", .int 0])) t4 (.tup [.str "BadDeal", .int 1])) dl (.lst [.ref t1, .ref t2, .ref t3, .ref t4]) = A6 at kF eF due ⊢
    have S6 := S5.no kF
    have nbB : ¬ bF bx bi bl := fun z => by
      obtain ⟨ns', st', h1, h2, _⟩ := S5.B.ex
      rcases z with z | z
      · rw [z, h1] at eE; cases eE
      · rw [z, h2] at eE
        match ns', eE with
        | [], eE => cases eE
        | _ :: _, eE => cases eE
    have nbD : ¬ bF bx bi dl := new_nb (S5.B.no (Kp.new n1 |>.andN n2 |>.andN n3 |>.andN n4)) nd
    have bad6 : ∀ z, z < 4 → ∃ u, ([.ref p1, .ref p2, .ref p3, .ref p4] : List V)[z]? = some (.ref u) ∧ GdAt A6 (.ref u) (bdG z) := fun z hz => by
      obtain ⟨u, h1, h2⟩ := bad z hz
      exact ⟨u, h1, h2.kt kF.t⟩
    have eE6 := kF.t.lst eE fun z => z
    clear S5 bad eE kF n1 n2 n3 n4 nd
    refine ⟨_, rfl, bx, bi, 4, rfl, S6.B, by decide, by decide, fun kz J5 k0 k3 B5 k5 => ?_⟩
    have S7 := S6.box B5 k5
    obtain ⟨kn, rfl⟩ := Int.eq_ofNat_of_zero_le k0
    have hkn : kn < 4 := by omega
    obtain ⟨u, hu1, hu2⟩ := bad6 kn hkn
    obtain ⟨v, hv1, hv2⟩ := due kn hkn
    have hu2 := hu2.kt k5.t
    have hv2 := k5.t.tup hv2
    have ebl := k5.t.lst eE6 nbB
    have edl := k5.t.lst eF nbD
    clear bad6 due S6 B5 k5 eE6 eF
    -- the odd deals
    refine ⟨_, rfl, _, rfl, (qn : Int), rfl, l, xs, rfl, SqL.of S7.el, fun s1 ns1 => ?_⟩
    rw [cut_to]
    have ks1 : Kp No J5 (upd J5 s1 (.lst (xs.take qn))) := Kp.new ns1
    have es1 : upd J5 s1 (.lst (xs.take qn)) s1 = some (.lst (xs.take qn)) := upd_same
    show tLst _ _ (upd J5 s1 (.lst (xs.take qn))) _
    generalize upd J5 s1 (.lst (xs.take qn)) = B1 at ks1 es1 ⊢
    refine ⟨_, rfl, _, rfl, bl, _, (kn : Int), .ref u, rfl, rfl, SqL.of (ks1.t.lst ebl fun z => z), atI_nat hu1, sz 1 (by decide), fun s2 ns2 => ?_⟩
    have ks2 : Kp No B1 (upd B1 s2 (.lst [.ref u])) := Kp.new ns2
    have es2 : upd B1 s2 (.lst [.ref u]) s2 = some (.lst [.ref u]) := upd_same
    show ∃ _, _
    generalize upd B1 s2 (.lst [.ref u]) = B2 at ks2 es2 ⊢
    refine ⟨s1, s2, _, _, rfl, rfl, ks2.t.lst es1 (fun z => z), es2, ?_, fun s3 ns3 => ?_⟩
    · rw [sizeLine_eq, List.length_take]
      show min _ _ + 1 ≤ _
      omega
    have ks3 : Kp No B2 (upd B2 s3 (.lst (xs.take qn ++ [.ref u]))) := Kp.new ns3
    have es3 : upd B2 s3 (.lst (xs.take qn ++ [.ref u])) s3 = some (.lst (xs.take qn ++ [.ref u])) := upd_same
    show tSl _ _ _ _ _ (upd B2 s3 (.lst (xs.take qn ++ [.ref u]))) _
    generalize upd B2 s3 (.lst (xs.take qn ++ [.ref u])) = B3 at ks3 es3 ⊢
    have k13 : Kp No J5 B3 := (ks1.trans ks2 fun _ z => False.elim z).trans ks3 fun _ z => False.elim z
    refine ⟨_, rfl, _, rfl, (qn : Int), rfl, l, xs, rfl, SqL.of (k13.t.lst S7.el fun z => z), fun s4 ns4 => ?_⟩
    rw [cut_at]
    have ks4 : Kp No B3 (upd B3 s4 (.lst (xs.drop qn))) := Kp.new ns4
    have es4 : upd B3 s4 (.lst (xs.drop qn)) s4 = some (.lst (xs.drop qn)) := upd_same
    show ∃ _, _
    generalize upd B3 s4 (.lst (xs.drop qn)) = B4 at ks4 es4 ⊢
    refine ⟨s3, s4, _, _, rfl, rfl, ks4.t.lst es3 (fun z => z), es4, ?_, fun s5 ns5 => ?_⟩
    · rw [sizeLine_eq, List.length_append, List.length_take, List.length_drop, List.length_singleton]
      omega
    have ks5 : Kp No B4 (upd B4 s5 (.lst (xs.take qn ++ [.ref u] ++ xs.drop qn))) := Kp.new ns5
    have es5 : upd B4 s5 (.lst (xs.take qn ++ [.ref u] ++ xs.drop qn)) s5 = some (.lst (xs.take qn ++ [.ref u] ++ xs.drop qn)) := upd_same
    show tLst _ _ (upd B4 s5 (.lst (xs.take qn ++ [.ref u] ++ xs.drop qn))) _
    generalize upd B4 s5 (.lst (xs.take qn ++ [.ref u] ++ xs.drop qn)) = B5 at ks5 es5 ⊢
    refine ⟨sz 0 (by decide), fun e9 n9 => ⟨sz 3 (by decide), fun p9 m9 => ⟨sz 1 (by decide), fun s6 ns6 => ?_⟩⟩⟩
    obtain ⟨k6, d6, es6⟩ : Kp No B5 (upd (upd (upd B5 e9 (.tup [])) p9 (.tup [.int 9, .int 1, .ref e9])) s6 (.lst [.ref p9])) ∧ GdAt (upd (upd (upd B5 e9 (.tup [])) p9 (.tup [.int 9, .int 1, .ref e9])) s6 (.lst [.ref p9])) (.ref p9) ⟨9, 1, []⟩ ∧ upd (upd (upd B5 e9 (.tup [])) p9 (.tup [.int 9, .int 1, .ref e9])) s6 (.lst [.ref p9]) s6 = some (.lst [.ref p9]) :=
      ⟨((Kp.new n9).andN m9).andN ns6, ⟨p9, _, rfl, (Kp.new (F := No) ns6).t.tup upd_same, e9, [], rfl, ((Kp.new (F := No) m9).andN ns6).t.tup upd_same, .nil, by decide⟩, upd_same⟩
    show ∃ _, _
    generalize upd (upd (upd B5 e9 (.tup [])) p9 (.tup [.int 9, .int 1, .ref e9])) s6 (.lst [.ref p9]) = B6 at k6 d6 es6 ⊢
    refine ⟨s5, s6, _, _, rfl, rfl, k6.t.lst es5 (fun z => z), es6, ?_, fun s7 ns7 => ?_⟩
    · rw [sizeLine_eq, List.length_append, List.length_append, List.length_take, List.length_drop, List.length_singleton, List.length_singleton]
      omega
    have ks7 : Kp No B6 (upd B6 s7 (.lst (xs.take qn ++ [.ref u] ++ xs.drop qn ++ [.ref p9]))) := Kp.new ns7
    have es7 : upd B6 s7 (.lst (xs.take qn ++ [.ref u] ++ xs.drop qn ++ [.ref p9])) s7 = some (.lst (xs.take qn ++ [.ref u] ++ xs.drop qn ++ [.ref p9])) := upd_same
    generalize upd B6 s7 (.lst (xs.take qn ++ [.ref u] ++ xs.drop qn ++ [.ref p9])) = B7 at ks7 es7 ⊢
    have k57 : Kp No J5 B7 := (((k13.trans ks4 fun _ z => False.elim z).trans ks5 fun _ z => False.elim z).trans k6 fun _ z => False.elim z).trans ks7 fun _ z => False.elim z
    have S8 := S7.no k57
    have pall : Paired (GdAt B7) (xs.take qn ++ [.ref u] ++ xs.drop qn ++ [.ref p9]) (gs.take qn ++ [bdG kn] ++ gs.drop qn ++ [(⟨9, 1, []⟩ : Gd)]) := pr_app (pr_app (pr_app (pr_take S8.pg qn) (.cons (hu2.kt k57.t) .nil)) (pr_drop S8.pg qn)) (.cons (d6.kt ks7.t) .nil)
    have hbad : badGs (gs.take qn ++ [bdG kn] ++ gs.drop qn ++ [(⟨9, 1, []⟩ : Gd)]) = some (bdE kn) := by
      rw [List.append_assoc, List.append_assoc, List.singleton_append]
      exact badGs_app (fun g hg' => hg g (List.mem_of_mem_take hg')) (bd_bad kn hkn)
    have hlen : (gs.take qn ++ [bdG kn] ++ gs.drop qn ++ [(⟨9, 1, []⟩ : Gd)]).length ≤ 100 := by
      rw [List.length_append, List.length_append, List.length_append, List.length_take, List.length_drop, List.length_singleton, List.length_singleton]
      omega
    have ev7 := k57.t.tup hv2
    have ed7 := k57.t.lst edl fun z => z
    clear ks1 es1 ks2 es2 ks3 es3 ks4 es4 ks5 es5 k6 es6 ks7 k13 k57 d6 hu2 hv2 ebl edl S7
    generalize (xs.take qn ++ [.ref u] ++ xs.drop qn ++ [.ref p9]) = ox at es7 pall ⊢
    generalize (gs.take qn ++ [bdG kn] ++ gs.drop qn ++ [(⟨9, 1, []⟩ : Gd)]) = og at pall hbad hlen ⊢
    -- it is refused
    refine ⟨S8.tt, fun f1 C1 e1' t1' wk1 => ?_⟩
    obtain ⟨D, fld, RR, hER⟩ := bd_rf RH RD kn hkn
    have t5 : Kt No B7 C1 := lam_ktL S8.tt e1'
    refine ⟨D, bdW kn, fld, bdV kn, f1, _, RR, rfl, wk1, ?_⟩
    refine ⟨_, rfl, s7, ox, og, rfl, t5.lst es7 (fun z => z), pall.mono (fun _ _ z => GdAt.kt t5 z), hlen, .inr ⟨bdE kn, hbad, fun C2 k2 => hER _ _ fun d C3 k3 hx => ⟨rfl, hx, fun p C4 k4 hp => ?_⟩⟩⟩
    have k14 : Kp No C1 C4 := (k2.trans k3 fun _ z => False.elim z).trans k4 fun _ z => False.elim z
    have t7 : Kt No B7 C4 := t5.trans k14.t fun _ z => False.elim z
    refine ⟨_, rfl, _, rfl, dl, _, (kn : Int), .ref v, rfl, rfl, SqL.of (t7.lst ed7 fun z => z), atI_nat hv1, _, _, rfl, .inr ⟨p, v, _, _, rfl, rfl, .inl ⟨hp, t7.tup ev7⟩, rfl, by show (2 : Int) < 2 ^ 62; decide, fun n x y hx hy => ?_⟩, true, rfl, iteF ?_⟩
    · match n, hx, hy with
      | 0, hx, hy =>
        cases hx
        cases hy
        exact Al.leaf (bdW_ok kn)
      | 1, hx, hy =>
        cases hx
        cases hy
        exact Al.leaf rfl
      | n + 2, hx, hy => simp at hx
    · exact ⟨⟨_, _, _, _, _, _, _, _, _, _, _, rfl⟩, S8.B.kt t7 (fun _ z => False.elim z), (tg_lam S8.tg nL e1').kp k14, (tg_lam S8.tr (fun z => nLR (List.mem_singleton.mp z)) e1').kp k14, (Kg.of (L := []) k14).tabs (fun _ _ z => nomatch z) t1'⟩
end
end S02

set_option Elab.async false
set_option linter.all false
set_option maxRecDepth 100000
set_option maxHeartbeats 8000000
namespace S02
open PySem PySem.Spec PyProof.Rows L2 LamX K5 SupX
section
variable {K : PySem.W.Frag} {x q : Str} {st : Stmt} {f : Addr}
theorem fun_ofD (F : ∃ fd, FunD K x q (defArgs st) (defBody st) (defScope st) [] [] f fd) : ∃ fd, Fun K x q st f fd := by
  obtain ⟨fd, F⟩ := F
  obtain ⟨oc, od, dV, kV, doc, pm, an, cdv, ct, osl, rfl, lk, hcd, hD, _⟩ := F.ex
  rcases hD with ⟨_, rfl⟩ | ⟨e, _⟩
  · exact ⟨_, fun_mk lk hcd F.kp⟩
  · exact absurd rfl e
theorem fnC_ofD {p : Str × Option Str} (F : ∃ fd, FunD K x q (defArgs st) (defBody st) (defScope st) [] [] (He.fAd K p) fd) : FnC K x q st (He.fAd K p) (He.cT K p).1 := by
  obtain ⟨fd, F⟩ := F
  obtain ⟨oc, od, dV, kV, doc, pm, an, cdv, ct, osl, rfl, lk, hcd, hD, _⟩ := F.ex
  rcases hD with ⟨_, rfl⟩ | ⟨e, _⟩
  · obtain ⟨c, rfl⟩ := He.codeIn_ref hcd
    have e : He.codeOf K p = c := He.codeOf_eq lk rfl
    subst e
    exact ⟨⟨_, _, _, _, _, _, _, _, lk, hcd⟩, F.kp⟩
  · exact absurd rfl e
theorem mk_meth {C : Addr} (M : Mk K C f) (F : ∃ fd, Fun K "__init__" q st f fd) : Meth K C "__init__" f := by
  obtain ⟨_, F⟩ := F
  exact ⟨M.init, M.fn, F.kp⟩
end
def adOf (K : PySem.W.Frag) : Ad := ⟨(fun i => match i with | 27 => He.ga K "within" | 30 => He.ga K "check_hand" | 31 => He.ga K "check_key" | 32 => He.ga K "is_deed" | 33 => He.ga K "check_deal" | 34 => He.ga K "is_shown" | 35 => He.ga K "shown_worth" | 36 => He.ga K "put_row" | 37 => He.ga K "drop_row" | 38 => He.ga K "add_to_row" | 39 => He.ga K "does_show" | 41 => He.ga K "rows_behind" | 45 => He.ga K "check_deals" | 46 => He.ga K "written_deed" | 47 => He.ga K "written_row" | 48 => He.ga K "written" | 49 => He.ga K "read_number" | 50 => He.ga K "read_last" | 51 => He.ga K "read_deed" | 52 => He.ga K "read_row" | 53 => He.ga K "read_deals" | 57 => He.ga K "is_too_heavy" | 58 => He.ga K "check_block" | 70 => He.ga K "entry_block" | 71 => He.ga K "page_block" | 76 => He.ga K "_law_begun" | 77 => He.ga K "_law_take" | 78 => He.ga K "_law_alike" | 79 => He.ga K "_law_class" | 80 => He.ga K "_law_refused" | 81 => He.ga K "_law_all" | 82 => He.ga K "_law_store" | 83 => He.ga K "_law_again" | 84 => He.ga K "_law_seen" | 85 => He.ga K "_law_tried" | 86 => He.ga K "_law_deal" | 87 => He.ga K "_law_whole" | 88 => He.ga K "_law_deed" | 89 => He.ga K "_law_drawn" | 90 => He.ga K "_law_deals" | 91 => He.ga K "_law_text" | 92 => He.ga K "_law_dealt" | 93 => He.ga K "law" | _ => 0), (fun i => match i with | 2 => He.ga K "StillError" | 3 => He.ga K "BadDeal" | 4 => He.ga K "BadHand" | 5 => He.ga K "BadLetter" | 6 => He.ga K "BadTime" | 7 => He.ga K "BadKey" | 8 => He.ga K "BadHouse" | 9 => He.ga K "NoCopy" | 10 => He.ga K "Behind" | 11 => He.ga K "BadBlock" | 12 => He.ga K "BadEntry" | 13 => He.ga K "BadText" | 14 => He.ga K "Stopped" | 59 => He.ga K "Disk" | 61 => He.ga K "Copy" | 62 => He.ga K "Shelf" | 64 => He.ga K "Table" | 72 => He.ga K "Store" | 74 => He.ga K "Lead" | _ => 0), (fun i j => match i, j with | 59, 0 => He.ma K (He.ga K "Disk") "__init__" | 59, 1 => He.ma K (He.ga K "Disk") "write" | 59, 2 => He.ma K (He.ga K "Disk") "settle" | 59, 3 => He.ma K (He.ga K "Disk") "read" | 59, 4 => He.ma K (He.ga K "Disk") "arm" | 59, 5 => He.ma K (He.ga K "Disk") "stop" | 59, 6 => He.ma K (He.ga K "Disk") "again" | 59, 7 => He.ma K (He.ga K "Disk") "settled" | 59, 8 => He.ma K (He.ga K "Disk") "check_running" | 59, 9 => He.ma K (He.ga K "Disk") "count_deed" | 61, 0 => He.ma K (He.ga K "Copy") "__init__" | 61, 1 => He.ma K (He.ga K "Copy") "page_of" | 61, 2 => He.ma K (He.ga K "Copy") "follow" | 61, 3 => He.ma K (He.ga K "Copy") "let_go" | 62, 0 => He.ma K (He.ga K "Shelf") "__init__" | 62, 1 => He.ma K (He.ga K "Shelf") "begin" | 62, 2 => He.ma K (He.ga K "Shelf") "find_copy" | 62, 3 => He.ma K (He.ga K "Shelf") "read_out" | 62, 4 => He.ma K (He.ga K "Shelf") "give_up" | 62, 5 => He.ma K (He.ga K "Shelf") "follow" | 62, 6 => He.ma K (He.ga K "Shelf") "listed" | 62, 7 => He.ma K (He.ga K "Shelf") "count_aside" | 64, 0 => He.ma K (He.ga K "Table") "__init__" | 64, 1 => He.ma K (He.ga K "Table") "twin" | 64, 2 => He.ma K (He.ga K "Table") "take" | 64, 3 => He.ma K (He.ga K "Table") "take_deal" | 64, 4 => He.ma K (He.ga K "Table") "told_of" | 64, 5 => He.ma K (He.ga K "Table") "told_whole" | 64, 6 => He.ma K (He.ga K "Table") "last_letter" | 64, 7 => He.ma K (He.ga K "Table") "page_rows" | 64, 8 => He.ma K (He.ga K "Table") "hand_rows" | 64, 9 => He.ma K (He.ga K "Table") "kept" | 64, 10 => He.ma K (He.ga K "Table") "shown" | 64, 11 => He.ma K (He.ga K "Table") "unlike" | 64, 12 => He.ma K (He.ga K "Table") "fill" | 64, 13 => He.ma K (He.ga K "Table") "shed" | 72, 0 => He.ma K (He.ga K "Store") "__init__" | 72, 1 => He.ma K (He.ga K "Store") "claim" | 72, 2 => He.ma K (He.ga K "Store") "put" | 72, 3 => He.ma K (He.ga K "Store") "check_held" | 72, 4 => He.ma K (He.ga K "Store") "write_root" | 72, 5 => He.ma K (He.ga K "Store") "stored_table" | 72, 6 => He.ma K (He.ga K "Store") "last_entries" | 72, 7 => He.ma K (He.ga K "Store") "put_aside" | 72, 8 => He.ma K (He.ga K "Store") "gathered_pages" | 74, 0 => He.ma K (He.ga K "Lead") "__init__" | 74, 1 => He.ma K (He.ga K "Lead") "known" | 74, 2 => He.ma K (He.ga K "Lead") "clock" | 74, 3 => He.ma K (He.ga K "Lead") "deals" | 74, 4 => He.ma K (He.ga K "Lead") "deal" | 74, 5 => He.ma K (He.ga K "Lead") "tick" | 74, 6 => He.ma K (He.ga K "Lead") "read" | 74, 7 => He.ma K (He.ga K "Lead") "whole" | 74, 8 => He.ma K (He.ga K "Lead") "tidy" | 74, 9 => He.ma K (He.ga K "Lead") "kept_rows" | 74, 10 => He.ma K (He.ga K "Lead") "copy" | 74, 11 => He.ma K (He.ga K "Lead") "read_page" | 74, 12 => He.ma K (He.ga K "Lead") "close" | 74, 13 => He.ma K (He.ga K "Lead") "open_copies" | 74, 14 => He.ma K (He.ga K "Lead") "room" | 74, 15 => He.ma K (He.ga K "Lead") "letters" | 74, 16 => He.ma K (He.ga K "Lead") "heard" | 74, 17 => He.ma K (He.ga K "Lead") "check_house" | 74, 18 => He.ma K (He.ga K "Lead") "check_group" | 74, 19 => He.ma K (He.ga K "Lead") "change_over" | _, _ => 0), (fun i j => match i, j with | 52, 0 => (He.cT K ("read_row", none)).1 | 93, 0 => (He.cT K ("law", none)).1 | 64, 7 => (He.cT K ("Table", some "page_rows")).1 | 64, 8 => (He.cT K ("Table", some "hand_rows")).1 | 64, 10 => (He.cT K ("Table", some "shown")).1 | _, _ => 0)⟩
theorem txt_of {w : World} {K : PySem.W.Frag} {h : Heap} {mg : Str → Option Value} (X : K.In h) (G : h.Ns mainGlobals mg) (c : SaysY fa fn ts tf exB fy w h K) : Txt K mg (adOf K) :=
  let d := c.x.t.d
  {
    within := ⟨fun_ofD (d.def_ 0 rfl), He.glo_ok X G (d.fact 0 (f := .glo "within") rfl)⟩,
    check_hand := ⟨fun_ofD (d.def_ 1 rfl), He.glo_ok X G (d.fact 1 (f := .glo "check_hand") rfl)⟩,
    check_key := ⟨fun_ofD (d.def_ 2 rfl), He.glo_ok X G (d.fact 2 (f := .glo "check_key") rfl)⟩,
    is_deed := ⟨fun_ofD (d.def_ 3 rfl), He.glo_ok X G (d.fact 3 (f := .glo "is_deed") rfl)⟩,
    check_deal := ⟨fun_ofD (d.def_ 4 rfl), He.glo_ok X G (d.fact 4 (f := .glo "check_deal") rfl)⟩,
    is_shown := ⟨fun_ofD (d.def_ 5 rfl), He.glo_ok X G (d.fact 5 (f := .glo "is_shown") rfl)⟩,
    shown_worth := ⟨fun_ofD (d.def_ 6 rfl), He.glo_ok X G (d.fact 6 (f := .glo "shown_worth") rfl)⟩,
    put_row := ⟨fun_ofD (d.def_ 7 rfl), He.glo_ok X G (d.fact 7 (f := .glo "put_row") rfl)⟩,
    drop_row := ⟨fun_ofD (d.def_ 8 rfl), He.glo_ok X G (d.fact 8 (f := .glo "drop_row") rfl)⟩,
    add_to_row := ⟨fun_ofD (d.def_ 9 rfl), He.glo_ok X G (d.fact 9 (f := .glo "add_to_row") rfl)⟩,
    does_show := ⟨fun_ofD (d.def_ 10 rfl), He.glo_ok X G (d.fact 10 (f := .glo "does_show") rfl)⟩,
    rows_behind := ⟨fun_ofD (d.def_ 11 rfl), He.glo_ok X G (d.fact 11 (f := .glo "rows_behind") rfl)⟩,
    check_deals := ⟨fun_ofD (d.def_ 12 rfl), He.glo_ok X G (d.fact 12 (f := .glo "check_deals") rfl)⟩,
    written_deed := ⟨fun_ofD (d.def_ 13 rfl), He.glo_ok X G (d.fact 13 (f := .glo "written_deed") rfl)⟩,
    written_row := ⟨fun_ofD (d.def_ 14 rfl), He.glo_ok X G (d.fact 14 (f := .glo "written_row") rfl)⟩,
    written := ⟨fun_ofD (d.def_ 15 rfl), He.glo_ok X G (d.fact 15 (f := .glo "written") rfl)⟩,
    read_number := ⟨fun_ofD (d.def_ 16 rfl), He.glo_ok X G (d.fact 16 (f := .glo "read_number") rfl)⟩,
    read_last := ⟨fun_ofD (d.def_ 17 rfl), He.glo_ok X G (d.fact 17 (f := .glo "read_last") rfl)⟩,
    read_deed := ⟨fun_ofD (d.def_ 18 rfl), He.glo_ok X G (d.fact 18 (f := .glo "read_deed") rfl)⟩,
    read_row := ⟨fun_ofD (d.def_ 19 rfl), He.glo_ok X G (d.fact 19 (f := .glo "read_row") rfl)⟩,
    C_read_row := fnC_ofD (p := ("read_row", none)) (d.def_ 19 rfl),
    read_deals := ⟨fun_ofD (d.def_ 20 rfl), He.glo_ok X G (d.fact 20 (f := .glo "read_deals") rfl)⟩,
    is_too_heavy := ⟨fun_ofD (d.def_ 21 rfl), He.glo_ok X G (d.fact 21 (f := .glo "is_too_heavy") rfl)⟩,
    check_block := ⟨fun_ofD (d.def_ 22 rfl), He.glo_ok X G (d.fact 22 (f := .glo "check_block") rfl)⟩,
    entry_block := ⟨fun_ofD (d.def_ 23 rfl), He.glo_ok X G (d.fact 23 (f := .glo "entry_block") rfl)⟩,
    page_block := ⟨fun_ofD (d.def_ 24 rfl), He.glo_ok X G (d.fact 24 (f := .glo "page_block") rfl)⟩,
    begun := ⟨fun_ofD (d.def_ 25 rfl), He.glo_ok X G (d.fact 25 (f := .glo "_law_begun") rfl)⟩,
    take := ⟨fun_ofD (d.def_ 26 rfl), He.glo_ok X G (d.fact 26 (f := .glo "_law_take") rfl)⟩,
    alike := ⟨fun_ofD (d.def_ 27 rfl), He.glo_ok X G (d.fact 27 (f := .glo "_law_alike") rfl)⟩,
    class_ := ⟨fun_ofD (d.def_ 28 rfl), He.glo_ok X G (d.fact 28 (f := .glo "_law_class") rfl)⟩,
    refused := ⟨fun_ofD (d.def_ 29 rfl), He.glo_ok X G (d.fact 29 (f := .glo "_law_refused") rfl)⟩,
    lall := ⟨fun_ofD (d.def_ 30 rfl), He.glo_ok X G (d.fact 30 (f := .glo "_law_all") rfl)⟩,
    store := ⟨fun_ofD (d.def_ 31 rfl), He.glo_ok X G (d.fact 31 (f := .glo "_law_store") rfl)⟩,
    again := ⟨fun_ofD (d.def_ 32 rfl), He.glo_ok X G (d.fact 32 (f := .glo "_law_again") rfl)⟩,
    seen := ⟨fun_ofD (d.def_ 33 rfl), He.glo_ok X G (d.fact 33 (f := .glo "_law_seen") rfl)⟩,
    tried := ⟨fun_ofD (d.def_ 34 rfl), He.glo_ok X G (d.fact 34 (f := .glo "_law_tried") rfl)⟩,
    deal := ⟨fun_ofD (d.def_ 35 rfl), He.glo_ok X G (d.fact 35 (f := .glo "_law_deal") rfl)⟩,
    whole := ⟨fun_ofD (d.def_ 36 rfl), He.glo_ok X G (d.fact 36 (f := .glo "_law_whole") rfl)⟩,
    deed := ⟨fun_ofD (d.def_ 37 rfl), He.glo_ok X G (d.fact 37 (f := .glo "_law_deed") rfl)⟩,
    drawn := ⟨fun_ofD (d.def_ 38 rfl), He.glo_ok X G (d.fact 38 (f := .glo "_law_drawn") rfl)⟩,
    deals := ⟨fun_ofD (d.def_ 39 rfl), He.glo_ok X G (d.fact 39 (f := .glo "_law_deals") rfl)⟩,
    text := ⟨fun_ofD (d.def_ 40 rfl), He.glo_ok X G (d.fact 40 (f := .glo "_law_text") rfl)⟩,
    dealt := ⟨fun_ofD (d.def_ 41 rfl), He.glo_ok X G (d.fact 41 (f := .glo "_law_dealt") rfl)⟩,
    law := ⟨fun_ofD (d.def_ 42 rfl), He.glo_ok X G (d.fact 42 (f := .glo "law") rfl)⟩,
    C_law := fnC_ofD (p := ("law", none)) (d.def_ 42 rfl),
    c_StillError := He.glo_ok X G (d.fact 43 (f := .glo "StillError") rfl),
    c_BadDeal := He.glo_ok X G (d.fact 44 (f := .glo "BadDeal") rfl),
    x_BadHand := ⟨He.glo_ok X G (d.fact 45 (f := .glo "BadHand") rfl), (He.exc_ok (d.fact 62 (f := .exc "BadHand") rfl)).1, (He.exc_ok (d.fact 62 (f := .exc "BadHand") rfl)).2.1, (He.exc_ok (d.fact 62 (f := .exc "BadHand") rfl)).2.2.1, (He.exc_ok (d.fact 62 (f := .exc "BadHand") rfl)).2.2.2⟩,
    x_BadLetter := ⟨He.glo_ok X G (d.fact 46 (f := .glo "BadLetter") rfl), (He.exc_ok (d.fact 64 (f := .exc "BadLetter") rfl)).1, (He.exc_ok (d.fact 64 (f := .exc "BadLetter") rfl)).2.1, (He.exc_ok (d.fact 64 (f := .exc "BadLetter") rfl)).2.2.1, (He.exc_ok (d.fact 64 (f := .exc "BadLetter") rfl)).2.2.2⟩,
    x_BadTime := ⟨He.glo_ok X G (d.fact 47 (f := .glo "BadTime") rfl), (He.exc_ok (d.fact 66 (f := .exc "BadTime") rfl)).1, (He.exc_ok (d.fact 66 (f := .exc "BadTime") rfl)).2.1, (He.exc_ok (d.fact 66 (f := .exc "BadTime") rfl)).2.2.1, (He.exc_ok (d.fact 66 (f := .exc "BadTime") rfl)).2.2.2⟩,
    x_BadKey := ⟨He.glo_ok X G (d.fact 48 (f := .glo "BadKey") rfl), (He.exc_ok (d.fact 68 (f := .exc "BadKey") rfl)).1, (He.exc_ok (d.fact 68 (f := .exc "BadKey") rfl)).2.1, (He.exc_ok (d.fact 68 (f := .exc "BadKey") rfl)).2.2.1, (He.exc_ok (d.fact 68 (f := .exc "BadKey") rfl)).2.2.2⟩,
    x_BadHouse := ⟨He.glo_ok X G (d.fact 49 (f := .glo "BadHouse") rfl), (He.exc_ok (d.fact 70 (f := .exc "BadHouse") rfl)).1, (He.exc_ok (d.fact 70 (f := .exc "BadHouse") rfl)).2.1, (He.exc_ok (d.fact 70 (f := .exc "BadHouse") rfl)).2.2.1, (He.exc_ok (d.fact 70 (f := .exc "BadHouse") rfl)).2.2.2⟩,
    x_NoCopy := ⟨He.glo_ok X G (d.fact 50 (f := .glo "NoCopy") rfl), (He.exc_ok (d.fact 72 (f := .exc "NoCopy") rfl)).1, (He.exc_ok (d.fact 72 (f := .exc "NoCopy") rfl)).2.1, (He.exc_ok (d.fact 72 (f := .exc "NoCopy") rfl)).2.2.1, (He.exc_ok (d.fact 72 (f := .exc "NoCopy") rfl)).2.2.2⟩,
    c_Behind := He.glo_ok X G (d.fact 51 (f := .glo "Behind") rfl),
    x_BadBlock := ⟨He.glo_ok X G (d.fact 52 (f := .glo "BadBlock") rfl), (He.exc_ok (d.fact 74 (f := .exc "BadBlock") rfl)).1, (He.exc_ok (d.fact 74 (f := .exc "BadBlock") rfl)).2.1, (He.exc_ok (d.fact 74 (f := .exc "BadBlock") rfl)).2.2.1, (He.exc_ok (d.fact 74 (f := .exc "BadBlock") rfl)).2.2.2⟩,
    x_BadEntry := ⟨He.glo_ok X G (d.fact 53 (f := .glo "BadEntry") rfl), (He.exc_ok (d.fact 76 (f := .exc "BadEntry") rfl)).1, (He.exc_ok (d.fact 76 (f := .exc "BadEntry") rfl)).2.1, (He.exc_ok (d.fact 76 (f := .exc "BadEntry") rfl)).2.2.1, (He.exc_ok (d.fact 76 (f := .exc "BadEntry") rfl)).2.2.2⟩,
    c_BadText := He.glo_ok X G (d.fact 54 (f := .glo "BadText") rfl),
    x_Stopped := ⟨He.glo_ok X G (d.fact 55 (f := .glo "Stopped") rfl), (He.exc_ok (d.fact 78 (f := .exc "Stopped") rfl)).1, (He.exc_ok (d.fact 78 (f := .exc "Stopped") rfl)).2.1, (He.exc_ok (d.fact 78 (f := .exc "Stopped") rfl)).2.2.1, (He.exc_ok (d.fact 78 (f := .exc "Stopped") rfl)).2.2.2⟩,
    c_Disk := He.glo_ok X G (d.fact 56 (f := .glo "Disk") rfl),
    cl_Disk := He.cls_ok (d.fact 80 (f := .cls "Disk") rfl),
    n_Disk_armed_picks := He.noat_ok (d.fact 81 (f := .noat "Disk" "armed_picks") rfl),
    n_Disk_deeds_left := He.noat_ok (d.fact 82 (f := .noat "Disk" "deeds_left") rfl),
    n_Disk_running := He.noat_ok (d.fact 83 (f := .noat "Disk" "running") rfl),
    n_Disk_stops := He.noat_ok (d.fact 84 (f := .noat "Disk" "stops") rfl),
    n_Disk_sure := He.noat_ok (d.fact 85 (f := .noat "Disk" "sure") rfl),
    n_Disk_unsure := He.noat_ok (d.fact 86 (f := .noat "Disk" "unsure") rfl),
    m_Disk___init__ := ⟨fun_ofD (d.def_ 43 rfl), (mk_meth (q := "Disk.__init__") (st := s_Disk___init__) (He.mkr_ok (d.fact 87 (f := .mkr "Disk") rfl)) (fun_ofD (d.def_ 43 rfl)))⟩,
    mk_Disk := He.mkr_ok (d.fact 87 (f := .mkr "Disk") rfl),
    m_Disk_write := ⟨fun_ofD (d.def_ 44 rfl), (He.meth_ok (d.fact 88 (f := .meth "Disk" "write") rfl))⟩,
    m_Disk_settle := ⟨fun_ofD (d.def_ 45 rfl), (He.meth_ok (d.fact 89 (f := .meth "Disk" "settle") rfl))⟩,
    m_Disk_read := ⟨fun_ofD (d.def_ 46 rfl), (He.meth_ok (d.fact 90 (f := .meth "Disk" "read") rfl))⟩,
    m_Disk_arm := ⟨fun_ofD (d.def_ 47 rfl), (He.meth_ok (d.fact 91 (f := .meth "Disk" "arm") rfl))⟩,
    m_Disk_stop := ⟨fun_ofD (d.def_ 48 rfl), (He.meth_ok (d.fact 92 (f := .meth "Disk" "stop") rfl))⟩,
    m_Disk_again := ⟨fun_ofD (d.def_ 49 rfl), (He.meth_ok (d.fact 93 (f := .meth "Disk" "again") rfl))⟩,
    m_Disk_settled := ⟨fun_ofD (d.def_ 50 rfl), (He.meth_ok (d.fact 94 (f := .meth "Disk" "settled") rfl))⟩,
    m_Disk_check_running := ⟨fun_ofD (d.def_ 51 rfl), (He.meth_ok (d.fact 95 (f := .meth "Disk" "check_running") rfl))⟩,
    m_Disk_count_deed := ⟨fun_ofD (d.def_ 52 rfl), (He.meth_ok (d.fact 96 (f := .meth "Disk" "count_deed") rfl))⟩,
    c_Copy := He.glo_ok X G (d.fact 57 (f := .glo "Copy") rfl),
    cl_Copy := He.cls_ok (d.fact 97 (f := .cls "Copy") rfl),
    n_Copy_aside := He.noat_ok (d.fact 98 (f := .noat "Copy" "aside") rfl),
    n_Copy_number := He.noat_ok (d.fact 99 (f := .noat "Copy" "number") rfl),
    n_Copy_wanted := He.noat_ok (d.fact 100 (f := .noat "Copy" "wanted") rfl),
    m_Copy___init__ := ⟨fun_ofD (d.def_ 53 rfl), (mk_meth (q := "Copy.__init__") (st := s_Copy___init__) (He.mkr_ok (d.fact 101 (f := .mkr "Copy") rfl)) (fun_ofD (d.def_ 53 rfl)))⟩,
    mk_Copy := He.mkr_ok (d.fact 101 (f := .mkr "Copy") rfl),
    m_Copy_page_of := ⟨fun_ofD (d.def_ 54 rfl), (He.meth_ok (d.fact 102 (f := .meth "Copy" "page_of") rfl))⟩,
    m_Copy_follow := ⟨fun_ofD (d.def_ 55 rfl), (He.meth_ok (d.fact 103 (f := .meth "Copy" "follow") rfl))⟩,
    m_Copy_let_go := ⟨fun_ofD (d.def_ 56 rfl), (He.meth_ok (d.fact 104 (f := .meth "Copy" "let_go") rfl))⟩,
    c_Shelf := He.glo_ok X G (d.fact 58 (f := .glo "Shelf") rfl),
    cl_Shelf := He.cls_ok (d.fact 105 (f := .cls "Shelf") rfl),
    n_Shelf_begun := He.noat_ok (d.fact 106 (f := .noat "Shelf" "begun") rfl),
    n_Shelf_copies := He.noat_ok (d.fact 107 (f := .noat "Shelf" "copies") rfl),
    m_Shelf___init__ := ⟨fun_ofD (d.def_ 57 rfl), (mk_meth (q := "Shelf.__init__") (st := s_Shelf___init__) (He.mkr_ok (d.fact 108 (f := .mkr "Shelf") rfl)) (fun_ofD (d.def_ 57 rfl)))⟩,
    mk_Shelf := He.mkr_ok (d.fact 108 (f := .mkr "Shelf") rfl),
    m_Shelf_begin := ⟨fun_ofD (d.def_ 58 rfl), (He.meth_ok (d.fact 109 (f := .meth "Shelf" "begin") rfl))⟩,
    m_Shelf_find_copy := ⟨fun_ofD (d.def_ 59 rfl), (He.meth_ok (d.fact 110 (f := .meth "Shelf" "find_copy") rfl))⟩,
    m_Shelf_read_out := ⟨fun_ofD (d.def_ 60 rfl), (He.meth_ok (d.fact 111 (f := .meth "Shelf" "read_out") rfl))⟩,
    m_Shelf_give_up := ⟨fun_ofD (d.def_ 61 rfl), (He.meth_ok (d.fact 112 (f := .meth "Shelf" "give_up") rfl))⟩,
    m_Shelf_follow := ⟨fun_ofD (d.def_ 62 rfl), (He.meth_ok (d.fact 113 (f := .meth "Shelf" "follow") rfl))⟩,
    m_Shelf_listed := ⟨fun_ofD (d.def_ 63 rfl), (He.meth_ok (d.fact 114 (f := .meth "Shelf" "listed") rfl))⟩,
    m_Shelf_count_aside := ⟨fun_ofD (d.def_ 64 rfl), (He.meth_ok (d.fact 115 (f := .meth "Shelf" "count_aside") rfl))⟩,
    c_Table := He.glo_ok X G (d.fact 59 (f := .glo "Table") rfl),
    cl_Table := He.cls_ok (d.fact 116 (f := .cls "Table") rfl),
    n_Table_hands := He.noat_ok (d.fact 117 (f := .noat "Table" "hands") rfl),
    n_Table_moment := He.noat_ok (d.fact 118 (f := .noat "Table" "moment") rfl),
    n_Table_number := He.noat_ok (d.fact 119 (f := .noat "Table" "number") rfl),
    n_Table_rows := He.noat_ok (d.fact 120 (f := .noat "Table" "rows") rfl),
    m_Table___init__ := ⟨fun_ofD (d.def_ 65 rfl), (mk_meth (q := "Table.__init__") (st := s_Table___init__) (He.mkr_ok (d.fact 121 (f := .mkr "Table") rfl)) (fun_ofD (d.def_ 65 rfl)))⟩,
    mk_Table := He.mkr_ok (d.fact 121 (f := .mkr "Table") rfl),
    m_Table_twin := ⟨fun_ofD (d.def_ 66 rfl), (He.meth_ok (d.fact 122 (f := .meth "Table" "twin") rfl))⟩,
    m_Table_take := ⟨fun_ofD (d.def_ 67 rfl), (He.meth_ok (d.fact 123 (f := .meth "Table" "take") rfl))⟩,
    m_Table_take_deal := ⟨fun_ofD (d.def_ 68 rfl), (He.meth_ok (d.fact 124 (f := .meth "Table" "take_deal") rfl))⟩,
    m_Table_told_of := ⟨fun_ofD (d.def_ 69 rfl), (He.meth_ok (d.fact 125 (f := .meth "Table" "told_of") rfl))⟩,
    m_Table_told_whole := ⟨fun_ofD (d.def_ 70 rfl), (He.meth_ok (d.fact 126 (f := .meth "Table" "told_whole") rfl))⟩,
    m_Table_last_letter := ⟨fun_ofD (d.def_ 71 rfl), (He.meth_ok (d.fact 127 (f := .meth "Table" "last_letter") rfl))⟩,
    m_Table_page_rows := ⟨fun_ofD (d.def_ 72 rfl), (He.meth_ok (d.fact 128 (f := .meth "Table" "page_rows") rfl))⟩,
    C_Table_page_rows := fnC_ofD (p := ("Table", some "page_rows")) (d.def_ 72 rfl),
    m_Table_hand_rows := ⟨fun_ofD (d.def_ 73 rfl), (He.meth_ok (d.fact 129 (f := .meth "Table" "hand_rows") rfl))⟩,
    C_Table_hand_rows := fnC_ofD (p := ("Table", some "hand_rows")) (d.def_ 73 rfl),
    m_Table_kept := ⟨fun_ofD (d.def_ 74 rfl), (He.meth_ok (d.fact 130 (f := .meth "Table" "kept") rfl))⟩,
    m_Table_shown := ⟨fun_ofD (d.def_ 75 rfl), (He.meth_ok (d.fact 131 (f := .meth "Table" "shown") rfl))⟩,
    C_Table_shown := fnC_ofD (p := ("Table", some "shown")) (d.def_ 75 rfl),
    m_Table_unlike := ⟨fun_ofD (d.def_ 76 rfl), (He.meth_ok (d.fact 132 (f := .meth "Table" "unlike") rfl))⟩,
    m_Table_fill := ⟨fun_ofD (d.def_ 77 rfl), (He.meth_ok (d.fact 133 (f := .meth "Table" "fill") rfl))⟩,
    m_Table_shed := ⟨fun_ofD (d.def_ 78 rfl), (He.meth_ok (d.fact 134 (f := .meth "Table" "shed") rfl))⟩,
    c_Store := He.glo_ok X G (d.fact 60 (f := .glo "Store") rfl),
    cl_Store := He.cls_ok (d.fact 135 (f := .cls "Store") rfl),
    n_Store_disk := He.noat_ok (d.fact 136 (f := .noat "Store" "disk") rfl),
    n_Store_root := He.noat_ok (d.fact 137 (f := .noat "Store" "root") rfl),
    n_Store_stops := He.noat_ok (d.fact 138 (f := .noat "Store" "stops") rfl),
    m_Store___init__ := ⟨fun_ofD (d.def_ 79 rfl), (mk_meth (q := "Store.__init__") (st := s_Store___init__) (He.mkr_ok (d.fact 139 (f := .mkr "Store") rfl)) (fun_ofD (d.def_ 79 rfl)))⟩,
    mk_Store := He.mkr_ok (d.fact 139 (f := .mkr "Store") rfl),
    m_Store_claim := ⟨fun_ofD (d.def_ 80 rfl), (He.meth_ok (d.fact 140 (f := .meth "Store" "claim") rfl))⟩,
    m_Store_put := ⟨fun_ofD (d.def_ 81 rfl), (He.meth_ok (d.fact 141 (f := .meth "Store" "put") rfl))⟩,
    m_Store_check_held := ⟨fun_ofD (d.def_ 82 rfl), (He.meth_ok (d.fact 142 (f := .meth "Store" "check_held") rfl))⟩,
    m_Store_write_root := ⟨fun_ofD (d.def_ 83 rfl), (He.meth_ok (d.fact 143 (f := .meth "Store" "write_root") rfl))⟩,
    m_Store_stored_table := ⟨fun_ofD (d.def_ 84 rfl), (He.meth_ok (d.fact 144 (f := .meth "Store" "stored_table") rfl))⟩,
    m_Store_last_entries := ⟨fun_ofD (d.def_ 85 rfl), (He.meth_ok (d.fact 145 (f := .meth "Store" "last_entries") rfl))⟩,
    m_Store_put_aside := ⟨fun_ofD (d.def_ 86 rfl), (He.meth_ok (d.fact 146 (f := .meth "Store" "put_aside") rfl))⟩,
    m_Store_gathered_pages := ⟨fun_ofD (d.def_ 87 rfl), (He.meth_ok (d.fact 147 (f := .meth "Store" "gathered_pages") rfl))⟩,
    c_Lead := He.glo_ok X G (d.fact 61 (f := .glo "Lead") rfl),
    cl_Lead := He.cls_ok (d.fact 148 (f := .cls "Lead") rfl),
    n_Lead_entries := He.noat_ok (d.fact 149 (f := .noat "Lead" "entries") rfl),
    n_Lead_followers := He.noat_ok (d.fact 150 (f := .noat "Lead" "followers") rfl),
    n_Lead_houses := He.noat_ok (d.fact 151 (f := .noat "Lead" "houses") rfl),
    n_Lead_shelf := He.noat_ok (d.fact 152 (f := .noat "Lead" "shelf") rfl),
    n_Lead_store := He.noat_ok (d.fact 153 (f := .noat "Lead" "store") rfl),
    n_Lead_table := He.noat_ok (d.fact 154 (f := .noat "Lead" "table") rfl),
    m_Lead___init__ := ⟨fun_ofD (d.def_ 88 rfl), (mk_meth (q := "Lead.__init__") (st := s_Lead___init__) (He.mkr_ok (d.fact 155 (f := .mkr "Lead") rfl)) (fun_ofD (d.def_ 88 rfl)))⟩,
    mk_Lead := He.mkr_ok (d.fact 155 (f := .mkr "Lead") rfl),
    m_Lead_known := ⟨fun_ofD (d.def_ 89 rfl), (He.meth_ok (d.fact 156 (f := .meth "Lead" "known") rfl))⟩,
    m_Lead_clock := ⟨fun_ofD (d.def_ 90 rfl), (He.meth_ok (d.fact 157 (f := .meth "Lead" "clock") rfl))⟩,
    m_Lead_deals := ⟨fun_ofD (d.def_ 91 rfl), (He.meth_ok (d.fact 158 (f := .meth "Lead" "deals") rfl))⟩,
    m_Lead_deal := ⟨fun_ofD (d.def_ 92 rfl), (He.meth_ok (d.fact 159 (f := .meth "Lead" "deal") rfl))⟩,
    m_Lead_tick := ⟨fun_ofD (d.def_ 93 rfl), (He.meth_ok (d.fact 160 (f := .meth "Lead" "tick") rfl))⟩,
    m_Lead_read := ⟨fun_ofD (d.def_ 94 rfl), (He.meth_ok (d.fact 161 (f := .meth "Lead" "read") rfl))⟩,
    m_Lead_whole := ⟨fun_ofD (d.def_ 95 rfl), (He.meth_ok (d.fact 162 (f := .meth "Lead" "whole") rfl))⟩,
    m_Lead_tidy := ⟨fun_ofD (d.def_ 96 rfl), (He.meth_ok (d.fact 163 (f := .meth "Lead" "tidy") rfl))⟩,
    m_Lead_kept_rows := ⟨fun_ofD (d.def_ 97 rfl), (He.meth_ok (d.fact 164 (f := .meth "Lead" "kept_rows") rfl))⟩,
    m_Lead_copy := ⟨fun_ofD (d.def_ 98 rfl), (He.meth_ok (d.fact 165 (f := .meth "Lead" "copy") rfl))⟩,
    m_Lead_read_page := ⟨fun_ofD (d.def_ 99 rfl), (He.meth_ok (d.fact 166 (f := .meth "Lead" "read_page") rfl))⟩,
    m_Lead_close := ⟨fun_ofD (d.def_ 100 rfl), (He.meth_ok (d.fact 167 (f := .meth "Lead" "close") rfl))⟩,
    m_Lead_open_copies := ⟨fun_ofD (d.def_ 101 rfl), (He.meth_ok (d.fact 168 (f := .meth "Lead" "open_copies") rfl))⟩,
    m_Lead_room := ⟨fun_ofD (d.def_ 102 rfl), (He.meth_ok (d.fact 169 (f := .meth "Lead" "room") rfl))⟩,
    m_Lead_letters := ⟨fun_ofD (d.def_ 103 rfl), (He.meth_ok (d.fact 170 (f := .meth "Lead" "letters") rfl))⟩,
    m_Lead_heard := ⟨fun_ofD (d.def_ 104 rfl), (He.meth_ok (d.fact 171 (f := .meth "Lead" "heard") rfl))⟩,
    m_Lead_check_house := ⟨fun_ofD (d.def_ 105 rfl), (He.meth_ok (d.fact 172 (f := .meth "Lead" "check_house") rfl))⟩,
    m_Lead_check_group := ⟨fun_ofD (d.def_ 106 rfl), (He.meth_ok (d.fact 173 (f := .meth "Lead" "check_group") rfl))⟩,
    m_Lead_change_over := ⟨fun_ofD (d.def_ 107 rfl), (He.meth_ok (d.fact 174 (f := .meth "Lead" "change_over") rfl))⟩,
    k_LAST_KEY := He.int_ok X G (d.fact 175 (f := .int "LAST_KEY" 31) rfl),
    k_LAST_HAND := He.int_ok X G (d.fact 176 (f := .int "LAST_HAND" 3) rfl),
    k_LAST_WORTH := He.int_ok X G (d.fact 177 (f := .int "LAST_WORTH" 999) rfl),
    k_LAST_MOMENT := He.int_ok X G (d.fact 178 (f := .int "LAST_MOMENT" 1000000) rfl),
    k_PAGES := He.int_ok X G (d.fact 179 (f := .int "PAGES" 9) rfl),
    k_KEYS_OF_A_PAGE := He.int_ok X G (d.fact 180 (f := .int "KEYS_OF_A_PAGE" 4) rfl),
    k_HANDS_PAGE := He.int_ok X G (d.fact 181 (f := .int "HANDS_PAGE" 8) rfl),
    k_MOST_DEEDS := He.int_ok X G (d.fact 182 (f := .int "MOST_DEEDS" 4) rfl),
    k_MOST_DEALS := He.int_ok X G (d.fact 183 (f := .int "MOST_DEALS" 4) rfl),
    k_MOST_HOUSES := He.int_ok X G (d.fact 184 (f := .int "MOST_HOUSES" 3) rfl),
    k_MOST_ENTRIES := He.int_ok X G (d.fact 185 (f := .int "MOST_ENTRIES" 16) rfl),
    k_MOST_FIGURES := He.int_ok X G (d.fact 186 (f := .int "MOST_FIGURES" 4) rfl),
    k_BLOCKS := He.int_ok X G (d.fact 187 (f := .int "BLOCKS" 35) rfl),
    k_MOST_WEIGHT := He.int_ok X G (d.fact 188 (f := .int "MOST_WEIGHT" 40) rfl),
    k_ROOT := He.int_ok X G (d.fact 189 (f := .int "ROOT" 0) rfl),
    k_FIRST_ENTRY := He.int_ok X G (d.fact 190 (f := .int "FIRST_ENTRY" 1) rfl),
    k_FIRST_PAGE := He.int_ok X G (d.fact 191 (f := .int "FIRST_PAGE" 17) rfl),
    ValueError := He.free_ok X G (d.fact 192 (f := .free "ValueError") rfl),
    all := He.free_ok X G (d.fact 193 (f := .free "all") rfl),
    bool := He.free_ok X G (d.fact 194 (f := .free "bool") rfl),
    dict := He.free_ok X G (d.fact 195 (f := .free "dict") rfl),
    enumerate := He.free_ok X G (d.fact 196 (f := .free "enumerate") rfl),
    int := He.free_ok X G (d.fact 197 (f := .free "int") rfl),
    isinstance := He.free_ok X G (d.fact 198 (f := .free "isinstance") rfl),
    len := He.free_ok X G (d.fact 199 (f := .free "len") rfl),
    list := He.free_ok X G (d.fact 200 (f := .free "list") rfl),
    max := He.free_ok X G (d.fact 201 (f := .free "max") rfl),
    range := He.free_ok X G (d.fact 202 (f := .free "range") rfl),
    sorted := He.free_ok X G (d.fact 203 (f := .free "sorted") rfl),
    str := He.free_ok X G (d.fact 204 (f := .free "str") rfl),
    tuple := He.free_ok X G (d.fact 205 (f := .free "tuple") rfl),
    zip := He.free_ok X G (d.fact 206 (f := .free "zip") rfl) }
end S02

set_option Elab.async false
set_option linter.all false
set_option maxRecDepth 100000
set_option maxHeartbeats 2000000
/-! ### what these facts say -/
namespace S02
open PySem PySem.Spec PyProof.Rows L2 K5 SupX
section
variable {K : PySem.W.Frag}
theorem itsOf_ok {a : Addr} {vs : List Value} (h : itsOf K a = some vs) {xs : List V} (r : Vals xs vs) : WT K a xs := by
  unfold itsOf at h
  split at h
  · rename_i c d its n sl e
    split at h
    · rename_i z
      cases h
      refine ⟨_, its, n, e, congrArg Value.type z.1, rfl, ?_, r⟩
      have := z.2
      rw [sizeLine_eq]
      omega
    · cases h
  · cases h
theorem prB_ok {v : Value} {p : Int × Int} (h : prB K v p = true) : ∃ a, v = .ref a ∧ WT K a [.int p.1, .int p.2] := by
  unfold prB at h
  split at h
  · rename_i a
    split at h
    · rename_i i ti j tj e
      obtain ⟨h1, h2⟩ := Bool.and_eq_true_iff.mp h
      rw [← of_decide_eq_true h1, ← of_decide_eq_true h2]
      exact ⟨a, rfl, itsOf_ok e (.cons ⟨ti, rfl⟩ (.cons ⟨tj, rfl⟩ .nil))⟩
    · cases h
  · cases h
theorem prsB_ok : ∀ {vs : List Value} {ps : List (Int × Int)}, prsB K vs ps = true → ∃ as : List Addr, vs = as.map Value.ref ∧ Paired (fun a p => WT K a [.int p.1, .int p.2]) as ps
  | [], [], _ => ⟨[], rfl, .nil⟩
  | [], _ :: _, h => by cases h
  | _ :: _, [], h => by cases h
  | v :: vs, p :: ps, h => by
    obtain ⟨h1, h2⟩ := Bool.and_eq_true_iff.mp (show (prB K v p && prsB K vs ps) = true from h)
    obtain ⟨a, e, w⟩ := prB_ok h1
    obtain ⟨as, e2, w2⟩ := prsB_ok h2
    exact ⟨a :: as, by rw [e, e2]; rfl, .cons w w2⟩
theorem vals_refs : ∀ as : List Addr, Vals (as.map V.ref) (as.map Value.ref)
  | [] => .nil
  | _ :: as => .cons rfl (vals_refs as)
theorem bdB_ok {b : Addr} {l : List (Int × Int)} (h : bdB K b l = true) : BndAt K b l := by
  unfold bdB at h
  split at h
  · rename_i vs e
    obtain ⟨as, e2, w⟩ := prsB_ok h
    exact ⟨as, itsOf_ok e (by rw [e2]; exact vals_refs as), w⟩
  · cases h
theorem boundsB_ok {x : Str} {l : List (Int × Int)} (h : boundsB K x l = true) : ∃ b, PySem.W.nsIn K (gB K) x = some (some (.ref b)) ∧ BndAt K b l := by
  obtain ⟨h1, h2⟩ := Bool.and_eq_true_iff.mp (show (isA K (gB K) x (vA K (gB K) x) && bdB K (vA K (gB K) x) l) = true from h)
  exact ⟨_, of_decide_eq_true h1, bdB_ok h2⟩
theorem initB_ok {P : Program} {st : Stmt} {cn q : Str} (hf : P.main.file = ("/claim/cut.py" : Str)) (e : fnY1 K cn = (some ("__init__", q, defArgs st, .stmts (defBody st), defScope st, mainGlobals, ["__class__"], .none, builtinsNs) : FnY1)) (h : initB K cn q = true) :
    InitAt P K (gX K cn) (gI K cn) q st := by
  obtain ⟨h1, h⟩ := Bool.and_eq_true_iff.mp h
  obtain ⟨h2, h3⟩ := Bool.and_eq_true_iff.mp h
  refine ⟨?_, of_decide_eq_true h2, of_decide_eq_true h3⟩
  unfold fnY1 at e
  unfold funB at h1
  split at h1
  · rename_i oc od fd osl lk
    rw [lk] at e
    obtain ⟨c1, h1⟩ := Bool.and_eq_true_iff.mp h1
    obtain ⟨c2, c3⟩ := Bool.and_eq_true_iff.mp h1
    obtain ⟨n1, n2, n3, n4, n5, n6, n7, n8, n9, n10, n11, n12, n13, n14, n15⟩ := fd
    have e2 := Option.some.inj e
    simp only [Prod.mk.injEq] at e2
    obtain ⟨q1, q2, q3, q4, q5, q6, q7, q8, q9⟩ := e2
    subst q1 q2 q3 q4 q5 q6 q8 q9
    unfold cellB at c1
    split at c1
    · rename_i x cc lc
      split at c1
      · rename_i cl cld D csl e4
        have eD : D = gX K cn := of_decide_eq_true c1
        subst eD
        dsimp only at lc
        rw [lc] at q7
        have ex : x = "__class__" := List.head_eq_of_cons_eq (show [x] = [("__class__" : Str)] from q7)
        unfold fileB at c3
        split at c3
        · rename_i cda ecd
          split at c3
          · rename_i ccl cdd vs ccs e5
            split at c3
            · rename_i file tf e6
              dsimp only at c2 ecd
              subst lc ecd ex
              exact ⟨oc, od, n9, n10, n11, n12, cda, cc, n14, osl, ccl, cdd, vs, ccs, file, tf, cl, cld, csl, lk, c2, e5, e6, by rw [hf]; exact c3, e4⟩
            · cases c3
          · cases c3
        · cases c3
      · cases c1
    · cases c1
  · cases h1
theorem slB_ok {l : List (Option Value)} (h : slB l = true) : ∃ k0 k1 k2 k3 k5, l = [k0, k1, k2, k3, some (Value.builtin "ValueError.__new__"), k5] := by
  unfold slB at h
  split at h
  · rename_i k0 k1 k2 k3 n k5
    rw [of_decide_eq_true h]
    exact ⟨k0, k1, k2, k3, k5, rfl⟩
  · cases h
theorem mroB_ok {C : Addr} {l : List Value} (h : mroB C l = true) : ∃ bm, l = .ref C :: bm ∧ PySem.HandSPX.refsVE bm = true := by
  unfold mroB at h
  split at h
  · rename_i D bm
    obtain ⟨h1, h2⟩ := Bool.and_eq_true_iff.mp h
    rw [of_decide_eq_true h1]
    exact ⟨bm, rfl, h2⟩
  · cases h
theorem cdB_ok {C : Addr} {cd : ClassData} {sl : Array (Option Value)} {dd : Option Addr} (h : cdB C cd sl = true) :
    ∃ nm q N bs bm sn sub ab col k0 k1 k2 k3 k5, (⟨.type "type", dd, .cls cd, sl⟩ : Obj) = excClassObj nm q C N bs bm true sn sub ab col dd k0 k1 k2 k3 k5 "ValueError.__new__" ∧ PySem.HandSPX.refsVE bm = true := by
  obtain ⟨z1, h⟩ := Bool.and_eq_true_iff.mp h
  obtain ⟨z2, h⟩ := Bool.and_eq_true_iff.mp h
  obtain ⟨z3, z4⟩ := Bool.and_eq_true_iff.mp h
  obtain ⟨bm, hm, hv⟩ := mroB_ok z1
  obtain ⟨k0, k1, k2, k3, k5, hs⟩ := slB_ok z4
  obtain ⟨nm, bs, mro, ns, qn, hd, sn, sub, ab, col, del⟩ := cd
  dsimp only at hm z2 z3
  subst hm z2
  have ed : del = false := by
    cases del
    · rfl
    · cases z3
  subst ed
  obtain ⟨l⟩ := sl
  dsimp only at hs
  subst hs
  exact ⟨nm, qn, ns, bs, bm, sn, sub, ab, col, k0, k1, k2, k3, k5, rfl, hv⟩
theorem clO_ok {K : PySem.W.Frag} {C : Addr} (h : clO K C = true) : ∃ nm q N bs bm sn sub ab col dd k0 k1 k2 k3 k5, K.lookup C = some (excClassObj nm q C N bs bm true sn sub ab col dd k0 k1 k2 k3 k5 "ValueError.__new__") ∧ PySem.HandSPX.refsVE bm = true := by
  unfold clO at h
  split at h
  · rename_i t dd cd sl lk
    obtain ⟨h1, h2⟩ := Bool.and_eq_true_iff.mp h
    rw [of_decide_eq_true h1] at lk
    obtain ⟨nm, q, N, bs, bm, sn, sub, ab, col, k0, k1, k2, k3, k5, e, hv⟩ := cdB_ok (dd := dd) h2
    exact ⟨nm, q, N, bs, bm, sn, sub, ab, col, dd, k0, k1, k2, k3, k5, lk.trans (congrArg some e), hv⟩
  · cases h
theorem oexB_ok {K : PySem.W.Frag} {C : Addr} (h : oexB K C = true) : OexC K C := by
  obtain ⟨h1, h⟩ := Bool.and_eq_true_iff.mp h
  obtain ⟨h2, h⟩ := Bool.and_eq_true_iff.mp h
  obtain ⟨h3, h⟩ := Bool.and_eq_true_iff.mp h
  obtain ⟨h4, h5⟩ := Bool.and_eq_true_iff.mp h
  obtain ⟨nm, q, N, bs, bm, sn, sub, ab, col, dd, k0, k1, k2, k3, k5, lk, hv⟩ := clO_ok h1
  exact ⟨⟨nm, q, N, bs, bm, sn, sub, ab, col, dd, k0, k1, k2, k3, k5, lk, hv⟩, of_decide_eq_true h2, of_decide_eq_true h3, of_decide_eq_true h4, h5⟩
theorem clsB_ok {mg : Str → Option Value} {c n : Str} (hs : mg "super" = none) (h : clsB K c n = true) : ClsAt K mg (gX K c) n := by
  obtain ⟨h1, h⟩ := Bool.and_eq_true_iff.mp h
  obtain ⟨h2, h⟩ := Bool.and_eq_true_iff.mp h
  obtain ⟨h3, h⟩ := Bool.and_eq_true_iff.mp h
  obtain ⟨h4, h⟩ := Bool.and_eq_true_iff.mp h
  obtain ⟨h5, h6⟩ := Bool.and_eq_true_iff.mp h
  exact ⟨oexB_ok h1, of_decide_eq_true h2, of_decide_eq_true h3, of_decide_eq_true h4, of_decide_eq_true h5, of_decide_eq_true h6, hs⟩
theorem z9B_ok : ∀ {vs : List Value} {n : Nat}, z9B vs n = true → Vals ((List.replicate n (0 : Int)).map V.int) vs
  | [], 0, _ => .nil
  | .int i t :: vs, n + 1, h => by
    obtain ⟨h1, h2⟩ := Bool.and_eq_true_iff.mp (show (decide (i = 0) && z9B vs n) = true from h)
    have e := of_decide_eq_true h1
    subst e
    exact .cons ⟨t, rfl⟩ (z9B_ok h2)
theorem plB_ok {p : Addr} (h : plB K p = true) : WT K p ((List.replicate 9 (0 : Int)).map V.int) := by
  unfold plB at h
  split at h
  · rename_i vs e
    exact itsOf_ok e (z9B_ok h)
  · cases h
theorem rtB_ok (h : rtB K = true) : WT K (gN K) [.int 0, .int 0, .ref (pAt K)] := by
  unfold rtB at h
  split at h
  · rename_i i ti j tj p e
    obtain ⟨h1, h⟩ := Bool.and_eq_true_iff.mp h
    obtain ⟨h2, h3⟩ := Bool.and_eq_true_iff.mp h
    have e3 := of_decide_eq_true h3
    have e1 := of_decide_eq_true h1
    have e2 := of_decide_eq_true h2
    subst e1 e2
    rw [← e3]
    exact itsOf_ok e (.cons ⟨ti, rfl⟩ (.cons ⟨tj, rfl⟩ (.cons rfl .nil)))
  · cases h
theorem excB_ok {D : Addr} (h : excB K D = true) : ExcC K D := by
  obtain ⟨h1, h⟩ := Bool.and_eq_true_iff.mp h
  obtain ⟨h2, h⟩ := Bool.and_eq_true_iff.mp h
  obtain ⟨h3, h⟩ := Bool.and_eq_true_iff.mp h
  obtain ⟨h4, h⟩ := Bool.and_eq_true_iff.mp h
  obtain ⟨h5, h⟩ := Bool.and_eq_true_iff.mp h
  obtain ⟨h6, h⟩ := Bool.and_eq_true_iff.mp h
  obtain ⟨h7, h8⟩ := Bool.and_eq_true_iff.mp h
  exact ⟨of_decide_eq_true h1, of_decide_eq_true h2, of_decide_eq_true h3, h4, of_decide_eq_true h5, of_decide_eq_true h6, of_decide_eq_true h7, of_decide_eq_true h8⟩
structure CisN (K : PySem.W.Frag) (j : Nat) : Prop where
  ex : ExcC K (He.ga K (clsN j))
  is : ∀ i, i < 12 → PySem.W.kitOne K (.ref (He.ga K (clsN j))) (.ref (He.ga K (clsN i))) = some (decide (i = j))
  ve : PySem.W.kitOne K (.ref (He.ga K (clsN j))) (.type "ValueError") = some true
  still : PySem.W.exmOne K (.ref (He.ga K (clsN j))) (.ref (He.ga K "StillError")) = some true
theorem cisB_ok {j : Nat} (h : cisB K j = true) : CisN K j := by
  obtain ⟨h1, h⟩ := Bool.and_eq_true_iff.mp h
  obtain ⟨h2, h⟩ := Bool.and_eq_true_iff.mp h
  obtain ⟨h3, h4⟩ := Bool.and_eq_true_iff.mp h
  exact ⟨excB_ok h1, fun i hi => of_decide_eq_true (List.all_eq_true.mp h2 i (List.mem_range.mpr hi)), of_decide_eq_true h3, of_decide_eq_true h4⟩
theorem ndB_ok : ∀ {l : List Addr}, ndB l = true → l.Nodup
  | [], _ => List.nodup_nil
  | a :: l, h => by
    obtain ⟨h1, h2⟩ := Bool.and_eq_true_iff.mp (show ((l.all fun b => decide (a ≠ b)) && ndB l) = true from h)
    exact List.nodup_cons.mpr ⟨fun m => of_decide_eq_true (List.all_eq_true.mp h1 a m) rfl, ndB_ok h2⟩
end
end S02

set_option Elab.async false
set_option linter.all false
set_option maxRecDepth 100000
set_option maxHeartbeats 4000000
/-! ### the end -/
namespace S02
open PySem PySem.Spec PyProof.Rows L2 LamX K5 SupX
section
variable {P : Program} {w : World} {K : PySem.W.Frag} {h : Heap} {mg : Str → Option Value}
theorem cls_at : ∀ i, i < 12 → (adOf K).c (i + 3) = He.ga K (clsN i)
  | 0, _ => rfl
  | 1, _ => rfl
  | 2, _ => rfl
  | 3, _ => rfl
  | 4, _ => rfl
  | 5, _ => rfl
  | 6, _ => rfl
  | 7, _ => rfl
  | 8, _ => rfl
  | 9, _ => rfl
  | 10, _ => rfl
  | 11, _ => rfl
  | n + 12, h => absurd h (by omega)
theorem cis_of {j : Nat} (hj : j < 12) (c : CisN K j) : Cis K (adOf K) ((adOf K).c (j + 3)) j := by
  rw [cls_at j hj]
  exact ⟨c.ex, hj, fun i hi => by rw [cls_at i hi]; exact c.is i hi, c.ve⟩
theorem still_of {j : Nat} (hj : j < 12) (c : CisN K j) : PySem.W.exmOne K (.ref ((adOf K).c (j + 3))) (.ref ((adOf K).c 2)) = some true := by
  rw [cls_at j hj]
  exact c.still
theorem ex_of (hf : P.main.file = ("/claim/cut.py" : Str)) (X : K.In h) (G : h.Ns mainGlobals mg) (c : SaysY fa fn ts tf exB fy w h K) : Ex P w K mg (adOf K) (gB K) (gC K) (gI K "BadDeal") ∧ NewRoot K mg (gN K) (pAt K) ∧ (∃ t, mg "FIGURES" = some (.str "0123456789" t)) ∧ Rfd K (adOf K) ((adOf K).c 4) "BadHand" none ∧ Rfd K (adOf K) ((adOf K).c 3) "BadDeal" (some "place") ∧ (tfL.map fun p => (He.cT K p).2).Nodup := by
  obtain ⟨m1, m⟩ := Bool.and_eq_true_iff.mp c.x.more
  obtain ⟨b1, m1⟩ := Bool.and_eq_true_iff.mp m1
  obtain ⟨b2, m1⟩ := Bool.and_eq_true_iff.mp m1
  obtain ⟨b3, b4⟩ := Bool.and_eq_true_iff.mp m1
  obtain ⟨m2, m⟩ := Bool.and_eq_true_iff.mp m
  obtain ⟨a1, m2⟩ := Bool.and_eq_true_iff.mp m2
  obtain ⟨a2, m2⟩ := Bool.and_eq_true_iff.mp m2
  obtain ⟨a3, a4⟩ := Bool.and_eq_true_iff.mp m2
  obtain ⟨ini, m⟩ := Bool.and_eq_true_iff.mp m
  obtain ⟨e, m⟩ := Bool.and_eq_true_iff.mp m
  obtain ⟨m, et⟩ := Bool.and_eq_true_iff.mp m
  obtain ⟨ec0, ec1⟩ := Bool.and_eq_true_iff.mp m
  have ini2 : ∀ p ∈ icl, initB K p.1 p.2.1 = true ∧ clsB K p.1 p.2.2 = true := fun p hp => Bool.and_eq_true_iff.mp (List.all_eq_true.mp ini p hp)
  obtain ⟨i1, k1⟩ := ini2 ("BadDeal", "BadDeal.__init__", "place") List.mem_cons_self
  have cy : [fnY1 K "BadDeal"] = fy := c.y
  obtain ⟨y1, _⟩ := List.cons.inj cy
  obtain ⟨e0, e1⟩ := Bool.and_eq_true_iff.mp e
  have d := c.x.t.d
  obtain ⟨es1, n1, D1⟩ := c.x.t.tab 0 (t := ((fun K => He.ga K "BOUNDS"), ["put", "drop", "add", "if"])) rfl
  obtain ⟨es2, n2, D2⟩ := c.x.t.tab 1 (t := ((fun K => He.ga K "ACTIONS"), ["put", "drop", "add", "if"])) rfl
  have hsup := He.free_ok X G (d.fact _ (f := .free "super") fact_super)
  have C := clsB_ok (mg := mg) hsup k1
  have c0 := cisB_ok ec0
  have c1 := cisB_ok ec1
  refine ⟨⟨He.glo_ok X G (d.fact _ (f := .glo "BOUNDS") fact_bounds), ⟨es1, n1, D1⟩, fun q => ?_, He.glo_ok X G (d.fact _ (f := .glo "ACTIONS") fact_actions), ⟨es2, n2, D2.at_, D2.lit⟩, of_decide_eq_true a1, of_decide_eq_true a2, of_decide_eq_true a3, of_decide_eq_true a4, initB_ok hf y1 i1, C⟩,
    ⟨He.glo_ok X G (d.fact _ (f := .glo "NEW_ROOT") fact_root), fun H => ?_, fun H => ?_⟩, He.str_ok X G (d.fact _ (f := .str "FIGURES" "0123456789") fact_fig), ⟨⟨1, cis_of (by decide) c1, rfl⟩, by decide +kernel, still_of (by decide) c1, (fun _ => by decide), fun f z => by cases z⟩,
    ⟨⟨0, cis_of (by decide) c0, rfl⟩, by decide +kernel, still_of (by decide) c0, (fun z => by cases z), fun f z => by cases z; exact ⟨.inl ⟨rfl, rfl⟩, ⟨c0.ex.hg, c0.ex.hk, c0.ex.hs, c0.ex.hd⟩, C.no⟩⟩, ndB_ok et⟩
  · cases q with
    | put => exact boundsB_ok b1
    | drop => exact boundsB_ok b2
    | add => exact boundsB_ok b3
    | iff => exact boundsB_ok b4
  · exact .inr (rtB_ok e0)
  · exact .inr (plB_ok e1)
end
def tpOf (K : PySem.W.Frag) : Nat → Addr
  | 7 => (He.cT K ("Table", some "page_rows")).2
  | 8 => (He.cT K ("Table", some "hand_rows")).2
  | _ => (He.cT K ("Table", some "shown")).2
theorem law_end {w : World} {K : PySem.W.Frag} {mg : Str → Option Value} {fa' : Addr} {h : Heap} (X : K.In h) (G : h.Ns mainGlobals mg) (c : SaysY fa fn ts tf exB fy w h K) (hfa : mg "law" = some (.ref fa')) :
    LawAtS PySem.Challenge.rw_stillcopy_k18_written_and_read w K CX0 15 63 "_law_script" mg fa' h := by
  have T := txt_of X G c
  obtain ⟨EX, NR, FG, RH, RD, nd⟩ := ex_of (P := PySem.Challenge.rw_stillcopy_k18_written_and_read.prog) (by rfl) X G c
  have e := hfa.symm.trans T.law.at_
  cases e
  obtain ⟨oc, od, kV, doc, pm, an, ct, osl, lk, hcd⟩ := T.C_law.ex
  have mem : ∀ {p : Addr × Addr} {Y : Addr × Addr → Prop}, (∀ q ∈ tf, Y (He.cT K q)) → p ∈ tf.map (He.cT K) → Y p := fun y hp => by
    obtain ⟨q, hq, e⟩ := List.mem_map.mp hp
    rw [← e]
    exact y q hq
  have nds : [(He.cT K ("Table", some "page_rows")).2, (He.cT K ("Table", some "hand_rows")).2, (He.cT K ("Table", some "shown")).2, (He.cT K ("read_row", none)).2, (He.cT K ("law", none)).2].Nodup := nd
  obtain ⟨n1, nds⟩ := List.nodup_cons.mp nds
  obtain ⟨n2, nds⟩ := List.nodup_cons.mp nds
  obtain ⟨n3, nds⟩ := List.nodup_cons.mp nds
  obtain ⟨n4, nds⟩ := List.nodup_cons.mp nds
  simp only [List.mem_cons, List.not_mem_nil, or_false, not_or] at n1 n2 n3 n4
  refine ⟨PySem.W.fnOf "law" "law" (defArgs s_law) (defBody s_law) (defScope s_law) .none kV doc pm an (.ref ((adOf K).co 93 0)) ct, tf.map (He.cT K), spLaw K (tpOf K) (He.cT K ("read_row", none)).2 (He.cT K ("law", none)).2, fun p hp => mem (Y := fun p => h.get? p.2 = some { cls := .none, data := .fields #[] }) (fun q hq => c.x.empty q hq) hp,
    fun p hp => mem (Y := fun p => K.lookup p.2 = none) (fun q hq => c.x.out q hq) hp, fun p hp => mem (Y := fun p => PySem.W.CodeHd h p.1 p.2) (fun q hq => PySem.W.codeHd_of_K X (c.x.hd q hq)) hp, fun s u => .of_eq rfl, fun H a ns hl _ hT hS => ?_, fun base KX G hTB => ?_⟩
  · have emp : ∀ q ∈ tf, H (He.cT K q).2 = some (.tbl #[]) := fun q hq => hT _ (List.mem_map.mpr ⟨q, hq, rfl⟩)
    have tab : ∀ {q : He.Defn} {s : Str}, q ∈ tf → TabS H (He.cT K q).2 s := fun hq => ⟨#[], emp _ hq, (by simp only [PySem.TriplesOk]), fun pos cv hc => by cases hc⟩
    refine ⟨a, ns, rfl, hS, hl, fun P hP => ?_, fun P hP => ?_, fun p hp => ?_, fun _ => rfl⟩
    · have : ∃ q ∈ tf, P = (He.cT K q).2 := by
        unfold tL at hP
        simp only [List.mem_cons, List.not_mem_nil, or_false] at hP
        rcases hP with z | z | z
        · exact ⟨("Table", some "page_rows"), by decide, z⟩
        · exact ⟨("Table", some "hand_rows"), by decide, z⟩
        · exact ⟨("Table", some "shown"), by decide, z⟩
      obtain ⟨q, hq, e⟩ := this
      rw [e]
      exact ⟨#[], emp q hq, by simp only [PySem.TriplesOk]⟩
    · rw [List.mem_singleton.mp hP]
      exact ⟨#[], emp ("read_row", none) (by decide), by simp only [PySem.TriplesOk]⟩
    · rw [List.mem_singleton.mp hp]
      exact tab (q := ("law", none)) (by decide)
  · have tb : ∀ q ∈ tf, LamX.TabB base mg (He.cT K q).1 (He.cT K q).2 := fun q hq => hTB _ (List.mem_map.mpr ⟨q, hq, rfl⟩)
    have tg : ∀ q ∈ tf, GxR.TabB base mg (He.cT K q).1 (He.cT K q).2 := fun q hq => ⟨(tb q hq).code, (tb q hq).bm, (tb q hq).gP⟩
    have nR : (He.cT K ("read_row", none)).2 ∉ tL (tpOf K) := by
      unfold tL
      simp only [List.mem_cons, List.not_mem_nil, or_false, not_or]
      exact ⟨fun z => n1.2.2.1 z.symm, fun z => n2.2.1 z.symm, fun z => n3.1 z.symm⟩
    have nL : (He.cT K ("law", none)).2 ∉ tL (tpOf K) := by
      unfold tL
      simp only [List.mem_cons, List.not_mem_nil, or_false, not_or]
      exact ⟨fun z => n1.2.2.2 z.symm, fun z => n2.2.2 z.symm, fun z => n3.2 z.symm⟩
    exact ok_law (P := PySem.Challenge.rw_stillcopy_k18_written_and_read.prog) (w := w) (base := base) (tp := tpOf K) T ⟨tg ("Table", some "page_rows") (by decide), tg ("Table", some "hand_rows") (by decide), tg ("Table", some "shown") (by decide)⟩ EX NR (by decide +kernel) FG (tg ("read_row", none) (by decide)) (tb ("law", none) (by decide)) nR nL (fun z => n4 z.symm) RH RD lk hcd
end S02

set_option Elab.async false
set_option maxRecDepth 100000
open PySem PySem.W PySem.Calls PyProof.Rows
set_option maxHeartbeats 0 in
theorem PySem.Challenge.cw_stillcopy_k18_written_and_read_holds : PySem.Challenge.rw_stillcopy_k18_written_and_read.Holds := by
  w_on; o_law
  refine HandSHeadRun.head_any (r := (PySem.W.OpenLaw.row PySem.Challenge.rw_stillcopy_k18_written_and_read)) (q := PySem.W.view (PySem.W.OpenLaw.row PySem.Challenge.rw_stillcopy_k18_written_and_read).prog [93]) (H := S02.hk) (ob := S02.ob) (M := 12000) (loose := S02.loose) (d := HandSHeadRun.topDef (PySem.W.OpenLaw.row PySem.Challenge.rw_stillcopy_k18_written_and_read).prog 93) (kwd := []) S02.ob_eq
    (by kernel_rfl) (fun s => by kernel_rfl) S02.run (by kernel_rfl) (by kernel_rfl) (by kernel_rfl) (by rfl) (by first | assumption | decide +kernel) (by decide +kernel) ⟨rfl, rfl, rfl, rfl, rfl, by decide +kernel⟩ ?hw ?hc
  case hw => w_witness2
  case hc =>
    refine LamX.walk_ofTsE (l := PySem.Challenge.rw_stillcopy_k18_written_and_read) (n := 63) (k := 15) (x := "_law_script") (CX := fun _ => L2.CX0) rfl (by decide) (by kernel_rfl) ⟨rfl, by decide, by decide⟩ ?F (fun _ _ _ _ _ z => z)
    intro w mg fa h Y G hmg0
    obtain ⟨K, KX, c⟩ := Y
    have hmg : mg ("law" : PySem.Str) = some (.ref fa) := by
      have e : (HandSHeadRun.topDef (PySem.W.OpenLaw.row PySem.Challenge.rw_stillcopy_k18_written_and_read).prog 93).name = ("law" : PySem.Str) := by kernel_rfl
      rw [← e]
      exact hmg0
    exact ⟨K, KX, S02.law_end KX G c hmg⟩
