import Derived.Test.YteniahoehoncjaaGreatDoorQAS
import Derived.Test.YteniahoehoncjaaGreatDoorQBO
set_option maxHeartbeats 99999999
set_option maxRecDepth 100000
namespace Go.Proofs.YteniahoehoncjaaGreatDoor
open Go.RowKit
theorem sq (S:ByteArray)(w:World)(hl:Laid w)(h0:0<w.heap.size):Calls Tryz.prog 8 #[.string S] w λr w'=>r=.returned (.bool (D9 S))/\Below w.heap.size w w':=by
 have HR:=hide (JE S w hl h0);clear hl h0;go_enter Tryz.func8,Tryz.ntmps8;go_wp2_with fail;refine (ae HR).mono ?_;rintro r w1 ⟨⟨a0,a1,a2,a3,a4,p5,n5,c5,p6,n6,c6,p7,n7,c7,a8,p9,n9,c9,U8,U9,Va,e,b,rfl,hq,kH⟩,hb⟩;have bL:=hb.alloc hb.size (.cells #[.string a0,.string a1,.int .i64 a2,.string a3,.int .i64 a4,.slice p5 n5 c5,.slice p6 n6 c6,.slice p7 n7 c7,.int .i64 a8,.slice p9 n9 c9,.slice U8 U9 Va] 41);have HB:=hide bL;have YG:(a0.toList==[102,114,111,109])=D9 S:=by rw [dx];exact hq
 by_cases he:e=0
 . subst he
   cases hS:D9 S with
   |true=>
     rw [hS] at YG;clear hb hq kH bL;go_wp2_with fail
     all_goals
      go_ret;exact ⟨qd (by first|rfl|exact hS.symm|exact YG|simp_all),ae HB⟩
   |false=>
     rw [hS] at YG;clear hb hq kH bL;go_wp2_with fail
     all_goals
      go_ret;exact ⟨qd (by first|rfl|exact hS.symm|exact YG|simp_all),ae HB⟩
 . have zT:((e:Int)==0)=false:=by rw [aj];omega
   have hS:D9 S=false:=by
    rcases kH with ⟨c,h1,h2⟩|h1
    . exact absurd h2 he
    . unfold D9;rw [h1]
   clear hb hq kH bL YG;go_wp2_with fail
   all_goals
    go_ret;exact ⟨qd (by first|rfl|exact hS.symm|exact YG|simp_all),ae HB⟩
end Go.Proofs.YteniahoehoncjaaGreatDoor
