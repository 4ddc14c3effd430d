import Derived.Test.YteniahoehoncjaaGreatDoorQAD
set_option maxHeartbeats 99999999
set_option maxRecDepth 100000
namespace Go.Proofs.YteniahoehoncjaaGreatDoor
open Go.RowKit
theorem Ti (l r:aL)(w:World):Calls Tryz.prog 269 #[jx l,jx r] w λe w'=>e=.returned (.int .i64 (Sv l r))/\Below w.heap.size w w':=by
 obtain ⟨W,hW⟩:∃W,W=(w.alloc (.cells #[.bool l.null,.int .i64 l.n,.string l.s] 214)).alloc (.cells #[.bool r.null,.int .i64 r.n,.string r.s] 214):=⟨_,rfl⟩;have hb:Below w.heap.size w W:=by rw [hW];exact ((ag _ _).alloc (af _) _).alloc (by simp) _
 have hL:W.heap[w.heap.size]?=some (.cells #[.bool l.null,.int .i64 l.n,.string l.s] 214 (0,0)):=by rw [hW];exact (bA _ _ _ (by simp)).trans (ai w _)
 have hR:W.heap[w.heap.size+1]?=some (.cells #[.bool r.null,.int .i64 r.n,.string r.s] 214 (0,0)):=by rw [hW];have:=ai (w.alloc (.cells #[.bool l.null,.int .i64 l.n,.string l.s] 214)) (.cells #[.bool r.null,.int .i64 r.n,.string r.s] 214);simpa using this
 obtain ⟨l0,l1,l2⟩:=kG hL;obtain ⟨r0,r1,r2⟩:=kG hR;have HB:=hide hb;have HW:=hide hW;unfold jx;clear hb hW hL hR;go_enter Tryz.func269,Tryz.ntmps269;go_wp2_with fail;rw [<- ae HW];have hN:=ez (ai W (.cells #[.int .i64 (LO l.n r.n),.int .i64 (Cu l.s.toList r.s.toList)] 3));have HO:=hide (adr (LO l.n r.n) (Cu l.s.toList r.s.toList) W.heap.size 2 (W.alloc (.cells #[.int .i64 (LO l.n r.n),.int .i64 (Cu l.s.toList r.s.toList)] 3)).drew hN.1 hN.2);clear hN;go_region_with (first
  | (go_at_call 279;refine (VW _ _ _).mono ?_;rintro e w' ⟨rfl,rfl⟩)
  | (go_at_call 280;refine (VX _ _ _).mono ?_;rintro e w' ⟨rfl,rfl⟩)
  | (go_at_call 278;refine (ae HO).mono ?_;rintro e w' ⟨rfl,bL⟩;have eI:=hide bL;clear bL))
 all_goals
  (try go_wp2_with fail)
  go_ret;exact ⟨rfl,(ae HB).trans (((aJ ((ag W.heap.size W).alloc (af _) _)).trans ((ae eI).mono (by simp))).mono (ae HB).size)⟩
end Go.Proofs.YteniahoehoncjaaGreatDoor
