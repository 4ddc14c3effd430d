import Derived.Test.YteniahoehoncjaaGreatDoorQBM
set_option maxHeartbeats 99999999
set_option maxRecDepth 100000
namespace Go.Proofs.YteniahoehoncjaaGreatDoor
open Go.RowKit
def oE (t:ByteArray)(i:Int):SV:=⟨t,i,⟨#[]⟩,0,(none,0,0),(none,0,0),⟨#[]⟩,0,⟨#[]⟩,0,0,(none,0,0),(none,0,0),0⟩
theorem lG {w:World}{b:Nat}{a:SV}{t:TypeId}(h:w.heap[b]?=some (.cells (oS a) t (0,0))):w.cell? ⟨b,0,none⟩=some (.string a.w)/\w.cell? ⟨b,1,none⟩=some (.int .i64 a.i)/\w.cell? ⟨b,2,none⟩=some (.string a.t)/\w.cell? ⟨b,3,none⟩=some (.int .i64 a.j)/\w.cell? ⟨b,4,none⟩=some (.slice a.n.1 a.n.2.1 a.n.2.2)/\w.cell? ⟨b,5,none⟩=some (.slice a.e.1 a.e.2.1 a.e.2.2)/\w.cell? ⟨b,6,none⟩=some (.string a.l)/\w.cell? ⟨b,7,none⟩=some (.int .i64 a.li)/\w.cell? ⟨b,8,none⟩=some (.string a.r)/\w.cell? ⟨b,9,none⟩=some (.int .i64 a.ri)/\w.cell? ⟨b,10,none⟩=some (.int .i64 a.eq)/\w.cell? ⟨b,11,none⟩=some (.slice a.k.1 a.k.2.1 a.k.2.2)/\w.cell? ⟨b,12,none⟩=some (.slice a.d.1 a.d.2.1 a.d.2.2)/\w.cell? ⟨b,13,none⟩=some (.int .i64 a.x):=
 ⟨cG h 0,cG h 1,cG h 2,cG h 3,cG h 4,cG h 5,cG h 6,cG h 7,cG h 8,cG h 9,cG h 10,cG h 11,cG h 12,cG h 13⟩
theorem tV {w:World}{b:Nat}{cs:Array Value}{t:TypeId}(h:w.heap[b]?=some (.cells cs t (0,0))):w.frozen? ⟨b,0,none⟩=false/\w.frozen? ⟨b,1,none⟩=false/\w.frozen? ⟨b,2,none⟩=false/\w.frozen? ⟨b,3,none⟩=false/\w.frozen? ⟨b,4,none⟩=false/\w.frozen? ⟨b,5,none⟩=false/\w.frozen? ⟨b,6,none⟩=false/\w.frozen? ⟨b,7,none⟩=false/\w.frozen? ⟨b,8,none⟩=false/\w.frozen? ⟨b,9,none⟩=false/\w.frozen? ⟨b,10,none⟩=false/\w.frozen? ⟨b,11,none⟩=false/\w.frozen? ⟨b,12,none⟩=false/\w.frozen? ⟨b,13,none⟩=false:=
 have f:=bf h
 ⟨f 0,f 1,f 2,f 3,f 4,f 5,f 6,f 7,f 8,f 9,f 10,f 11,f 12,f 13⟩
theorem or5 (a b c d e:Bool):(a=false/\b=false/\c=false/\d=false/\e=false)\/a=true\/(a=false/\b=true)\/(a=false/\b=false/\c=true)\/(a=false/\b=false/\c=false/\d=true)\/(a=false/\b=false/\c=false/\d=false/\e=true):=by
 cases a<;>cases b<;>cases c<;>cases d<;>cases e<;>simp
section
variable {m:Mode}
theorem aa1 (i0:m.is (ByteArray.mk #[119,104,101,114,101])=true):(dh m).2=(j9 (lvl 8) m.next).2:=by unfold dh;rw [aH (show m.is kP=true from i0)];rfl
theorem aa2 (i0:m.is (ByteArray.mk #[119,104,101,114,101])=false)(i1:m.is (ByteArray.mk #[109,97,112])=true):(dh m).2=(cC eL m.next).2:=by unfold dh;rw [aA (show ¬m.is kP=true from by rw [show m.is kP=false from i0];decide)];rw [aH (show m.is C9=true from i1)]
theorem aa3 (i0:m.is (ByteArray.mk #[119,104,101,114,101])=false)(i1:m.is (ByteArray.mk #[109,97,112])=false)(i2:m.is (ByteArray.mk #[106,111,105,110])=true):(dh m).2=((m.next.name.2.take wy).name.2.take vJ).name.2:=by unfold dh;rw [aA (show ¬m.is kP=true from by rw [show m.is kP=false from i0];decide)];rw [aA (show ¬m.is C9=true from by rw [show m.is C9=false from i1];decide)];rw [aH (show m.is yt=true from i2)]
theorem aa4 (i0:m.is (ByteArray.mk #[119,104,101,114,101])=false)(i1:m.is (ByteArray.mk #[109,97,112])=false)(i2:m.is (ByteArray.mk #[106,111,105,110])=false)(i3:m.is (ByteArray.mk #[103,114,111,117,112])=true):(dh m).2=(cC jO ((xd m.next).2.take gW)).2:=by unfold dh;rw [aA (show ¬m.is kP=true from by rw [show m.is kP=false from i0];decide)];rw [aA (show ¬m.is C9=true from by rw [show m.is C9=false from i1];decide)];rw [aA (show ¬m.is yt=true from by rw [show m.is yt=false from i2];decide)];rw [aH (show m.is wz=true from i3)];rfl
theorem aa5 (i0:m.is (ByteArray.mk #[119,104,101,114,101])=false)(i1:m.is (ByteArray.mk #[109,97,112])=false)(i2:m.is (ByteArray.mk #[106,111,105,110])=false)(i3:m.is (ByteArray.mk #[103,114,111,117,112])=false)(i4:m.is (ByteArray.mk #[111,114,100,101,114])=true):(dh m).2=(cC dC m.next).2:=by unfold dh;rw [aA (show ¬m.is kP=true from by rw [show m.is kP=false from i0];decide)];rw [aA (show ¬m.is C9=true from by rw [show m.is C9=false from i1];decide)];rw [aA (show ¬m.is yt=true from by rw [show m.is yt=false from i2];decide)];rw [aA (show ¬m.is wz=true from by rw [show m.is wz=false from i3];decide)];rw [aH (show m.is Bu=true from i4)]
theorem aa6 (i0:m.is (ByteArray.mk #[119,104,101,114,101])=false)(i1:m.is (ByteArray.mk #[109,97,112])=false)(i2:m.is (ByteArray.mk #[106,111,105,110])=false)(i3:m.is (ByteArray.mk #[103,114,111,117,112])=false)(i4:m.is (ByteArray.mk #[111,114,100,101,114])=false){k:Nat}{t:ByteArray}{j:Int}(h:(m.take fl).alive->lN k t j (m.take fl).tk) :
 (((k:Int)==110)=true/\(dh m).2=(m.take fl).next/\∀t ts,m.take fl=.live t ts->t.k.ends=false)\/(((k:Int)==110)=false/\(dh m).2=(m.take fl).wrong 2):=by
 have hs:dh m=(match (m.take fl).tk with
  |.num n=>({ bare fl m.place with n:=n },(m.take fl).next)
  |_=>(bare fl m.place,(m.take fl).wrong 2)):=by
  unfold dh;rw [aA (show ¬m.is kP=true from by rw [show m.is kP=false from i0];decide)];rw [aA (show ¬m.is C9=true from by rw [show m.is C9=false from i1];decide)];rw [aA (show ¬m.is yt=true from by rw [show m.is yt=false from i2];decide)];rw [aA (show ¬m.is wz=true from by rw [show m.is wz=false from i3];decide)];rw [aA (show ¬m.is Bu=true from by rw [show m.is Bu=false from i4];decide)];rfl
 rw [hs];generalize m.take fl=m1 at h
 cases m1 with
 |dead e b=>
   by_cases k1:(k:Int)=110
   . exact .inl ⟨by rw [bz];exact k1,rfl,λ_ _ e=>by cases e⟩
   . exact .inr ⟨by rw [aj];exact k1,rfl⟩
 |live tk ts=>
   have ht:=h trivial;obtain ⟨kk,pl⟩:=tk
   cases kk<;>simp only [lN,Mode.tk] at ht
   case num=>exact .inl ⟨by rw [bz];omega,rfl,λ_ _ e=>by cases e;rfl⟩
   all_goals exact .inr ⟨by rw [aj];omega,rfl⟩
theorem JD {α:Type}{one:Mode->α×Mode}(h:∀m,(one m).2.len<=m.len)(m:Mode):(cC one m).2.len<=m.len:=by
 have more:∀(f:Nat) (l:List α) (q:Mode),(fm one f l q).2.len<=q.len:=by
  intro f
  induction f with
  |zero=>intro l q;exact af _
  |succ f ih=>
    intro l q;rw [fm];split
    . exact aw (ih _ _) (aw (h q.next) bG)
    . exact af _
 exact aw (more _ _ _) (h m)
end
section
variable {o:World×Value} {w w':World} {p:Nat} {c:eT} {v:Value} {m:Mode} {n:Nat}
def tW (o:World×Value)(w:World)(p:Nat)(c:eT)(v:Value)(m:Mode)(n:Nat)(r:Ending)(w':World):Prop:=
 ∃(a:SV) (v':Value) (n':Nat),r=.returned (.agg (oS a))/\(Rd o w' p c v' (dh m).2 n'/\Fq p v v' w w')/\n<=n'/\n'+(dh m).2.len<=n+m.len+(dh m).2.due/\(dh m).2.len<=m.len
theorem ajy (h:Rd o w p c v m n)(hd:c.deep=0)(hm:n+m.len<=600)(i0:m.is (ByteArray.mk #[119,104,101,114,101])=true):Calls Tryz.prog 36 #[.pointer (some ⟨p,0,none⟩)] w (tW o w p c v m n):=by
 obtain ⟨k,t,i,j,c2,c3,c4,c5,hi,_,_,_⟩:=h.tok;have cF:=h.lt;go_enter Tryz.func36,Tryz.ntmps36;go_wp2_with fail;go_region;go_wp2_with fail;generalize hW:World.drew _=W;have S:St (w,v) W p c v m n [.box (w.heap.size+1) (oS (oE t i)) 91,.box w.heap.size (oS (oE ⟨#[]⟩ 0)) 91]:=by
  rw [<- hW];exact (h.start.qN _ _ _ _).drew
 clear hW c2 c3 c4 c5;have Gl:=((S.ok _ (.head _)).2 _ rfl).1;have NF:=λe=>Gl (Eq.symm e);have hnx:=bG (m:=m);have hdu:=mM m;have HM:=hide (aa1 i0);go_wp2_with (go_at_call 30;refine (S.rd.is _).mono ?_;rintro r' w' ⟨rfl,rfl⟩);refine (S.rd.next (S.rd.live i0).2.1).mono ?_;rintro r wa ⟨rfl,ha,fa⟩;go_wp2_with fail;refine (K4 _ wa p c v m.next n ha (by omega) (by omega)).mono ?_;rintro r wb ⟨vb,nb,kb,rfl,bL,fb,bb⟩;have S2:=((S.call ha fa).call bL fb);have Sf:=S2.alloc (.cells #[.int .i64 kb] 3);obtain ⟨aq,Y5⟩:∃aq,aq={ oE t i with e:=(some ⟨wb.heap.size,0,none⟩,1,1) }:=⟨_,rfl⟩;have Sq:St (w,v) ((wb.alloc (.cells #[.int .i64 kb] 3)).setCell ⟨w.heap.size+1,5,none⟩ (.slice (some ⟨wb.heap.size,0,none⟩) 1 1)) p c vb (j9 (lvl 8) m.next).2 nb [.box (w.heap.size+1) (oS aq) 91,.box w.heap.size (oS (oE ⟨#[]⟩ 0)) 91]:=by rw [Y5];exact Sf.put 5 (.slice (some ⟨wb.heap.size,0,none⟩) 1 1)
 have HQ:=hide Y5;clear Y5;have hlq:=bb.len;have hbu:=bb.bud;have iu:=eH bb.gr;have DW:(j9 (lvl 8) m.next).2.len<=m.len:=by omega
 have rH:nb+(j9 (lvl 8) m.next).2.len<=n+m.len+(j9 (lvl 8) m.next).2.due:=by omega
 obtain ⟨g0,g1,g2,g3,g4,g5,g6,g7,g8,g9,g10,g11,g12,g13⟩:=lG Sf.box;obtain ⟨d0,d1,d2,d3,d4,d5,d6,d7,d8,d9,d10,d11,d12,d13⟩:=lG Sf.drop.box;obtain ⟨z0,z1,z2,z3,z4,z5,z6,z7,z8,z9,z10,z11,z12,z13⟩:=tV Sf.drop.box;have y5:=bf Sf.box 5;have y8:=bf Sf.box 8;have y9:=bf Sf.box 9;simp only [oE] at d0 d1 d2 d3 d4 d5 d6 d7 d8 d9 d10 d11 d12 d13;have HB:=hide (And.intro iu (And.intro rH DW));clear iu rH DW;go_wp2_with fail
 (try simp only [Exit.inBlock,Exit.then])
 refine ay (v:=_) (by simp [results,Tryz.results36,go_sem,d0,d1,d2,d3,d4,d5,d6,d7,d8,d9,d10,d11,d12,d13];rfl) rfl ?_;unfold tW;rw [ae HM];refine ⟨aq,_,_,?_,((((((((((((((Sq.jG.put 0 _).put 1 _).put 2 _).put 3 _).put 4 _).put 5 _).put 6 _).put 7 _).put 8 _).put 9 _).put 10 _).put 11 _).put 12 _).put 13 _).fin h,ae HB⟩
 first|rfl|(rw [ae HQ];rfl)
theorem ajB (h:Rd o w p c v m n)(hd:c.deep=0)(hm:n+m.len<=600)(i0:m.is (ByteArray.mk #[119,104,101,114,101])=false)(i1:m.is (ByteArray.mk #[109,97,112])=true):Calls Tryz.prog 36 #[.pointer (some ⟨p,0,none⟩)] w (tW o w p c v m n):=by
 obtain ⟨k,t,i,j,c2,c3,c4,c5,hi,_,_,_⟩:=h.tok;have cF:=h.lt;go_enter Tryz.func36,Tryz.ntmps36;go_wp2_with fail;go_region;go_wp2_with fail;generalize hW:World.drew _=W;have S:St (w,v) W p c v m n [.box (w.heap.size+1) (oS (oE t i)) 91,.box w.heap.size (oS (oE ⟨#[]⟩ 0)) 91]:=by
  rw [<- hW];exact (h.start.qN _ _ _ _).drew
 clear hW c2 c3 c4 c5;have Gl:=((S.ok _ (.head _)).2 _ rfl).1;have NF:=λe=>Gl (Eq.symm e);have hnx:=bG (m:=m);have hdu:=mM m;have HM:=hide (aa2 i0 i1);go_wp2_with (go_at_call 30;refine (S.rd.is _).mono ?_;rintro r' w' ⟨rfl,rfl⟩);refine (S.rd.next (S.rd.live i1).2.1).mono ?_;rintro r wa ⟨rfl,ha,fa⟩;go_wp2_with fail;refine ((S.call ha fa).mapped hd (by omega) rfl rfl).mono ?_;rintro r wb ⟨rfl,vb,nb,aq,Sq,iu,hbu⟩;have Sf:=Sq;have HQ:=hide (Eq.refl aq);have hlq:(cC eL m.next).2.len<=m.next.len:=by
  by_cases hx:(cC eL m.next).2.alive
  . rw [mL hx] at hbu;omega
  . rw [(lj hx).1];omega
 have DW:(cC eL m.next).2.len<=m.len:=by omega
 have rH:nb+(cC eL m.next).2.len<=n+m.len+(cC eL m.next).2.due:=by omega
 obtain ⟨g0,g1,g2,g3,g4,g5,g6,g7,g8,g9,g10,g11,g12,g13⟩:=lG Sf.box;obtain ⟨d0,d1,d2,d3,d4,d5,d6,d7,d8,d9,d10,d11,d12,d13⟩:=lG Sf.drop.box;obtain ⟨z0,z1,z2,z3,z4,z5,z6,z7,z8,z9,z10,z11,z12,z13⟩:=tV Sf.drop.box;have y5:=bf Sf.box 5;have y8:=bf Sf.box 8;have y9:=bf Sf.box 9;simp only [oE] at d0 d1 d2 d3 d4 d5 d6 d7 d8 d9 d10 d11 d12 d13;have HB:=hide (And.intro iu (And.intro rH DW));clear iu rH DW;go_wp2_with fail
 (try simp only [Exit.inBlock,Exit.then])
 refine ay (v:=_) (by simp [results,Tryz.results36,go_sem,d0,d1,d2,d3,d4,d5,d6,d7,d8,d9,d10,d11,d12,d13];rfl) rfl ?_;unfold tW;rw [ae HM];refine ⟨aq,_,_,?_,((((((((((((((Sq.jG.put 0 _).put 1 _).put 2 _).put 3 _).put 4 _).put 5 _).put 6 _).put 7 _).put 8 _).put 9 _).put 10 _).put 11 _).put 12 _).put 13 _).fin h,ae HB⟩
 first|rfl|(rw [ae HQ];rfl)
theorem ajC (h:Rd o w p c v m n)(i0:m.is (ByteArray.mk #[119,104,101,114,101])=false)(i1:m.is (ByteArray.mk #[109,97,112])=false)(i2:m.is (ByteArray.mk #[106,111,105,110])=true):Calls Tryz.prog 36 #[.pointer (some ⟨p,0,none⟩)] w (tW o w p c v m n):=by
 obtain ⟨k,t,i,j,c2,c3,c4,c5,hi,_,_,_⟩:=h.tok;have cF:=h.lt;go_enter Tryz.func36,Tryz.ntmps36;go_wp2_with fail;go_region;go_wp2_with fail;generalize hW:World.drew _=W;have S:St (w,v) W p c v m n [.box (w.heap.size+1) (oS (oE t i)) 91,.box w.heap.size (oS (oE ⟨#[]⟩ 0)) 91]:=by
  rw [<- hW];exact (h.start.qN _ _ _ _).drew
 clear hW c2 c3 c4 c5;have Gl:=((S.ok _ (.head _)).2 _ rfl).1;have NF:=λe=>Gl (Eq.symm e);have hnx:=bG (m:=m);have hdu:=mM m;have HM:=hide (aa3 i0 i1 i2);go_wp2_with (go_at_call 30;refine (S.rd.is _).mono ?_;rintro r' w' ⟨rfl,rfl⟩);refine (S.rd.next (S.rd.live i2).2.1).mono ?_;rintro r wa ⟨rfl,ha,fa⟩;go_wp2_with fail;refine (ha.name).mono ?_;rintro r wb ⟨s1,j1,rfl,bL,fb⟩;have S1:=(S.call ha fa).call bL fb;obtain ⟨_,_,e2,e3,_⟩:=lG S1.box;have f2:=bf S1.box 2;have f3:=bf S1.box 3;have S2:=(S1.put 2 (.string s1)).put 3 (.int .i64 j1);go_wp2_with fail;refine (S2.rd.take _).mono ?_;rintro r wc ⟨_,rfl,NR,fc⟩;go_wp2_with fail;refine (NR.name).mono ?_;rintro r wd ⟨s2,j2,rfl,sM,fd⟩;have S3:St (w,v) wd p c v (m.next.name.2.take wy).name.2 n [.box (w.heap.size+1) (oS { oE t i with t:=s1,j:=j1 }) 91,.box w.heap.size (oS (oE ⟨#[]⟩ 0)) 91]:=(S2.call NR fc).call sM fd;obtain ⟨_,_,_,_,_,_,e6,e7,_⟩:=lG S3.box;have f6:=bf S3.box 6;have f7:=bf S3.box 7;have S4:St (w,v) ((wd.setCell ⟨w.heap.size+1,6,none⟩ (.string s2)).setCell ⟨w.heap.size+1,7,none⟩ (.int .i64 j2)) p c v (m.next.name.2.take wy).name.2 n [.box (w.heap.size+1) (oS { oE t i with t:=s1,j:=j1,l:=s2,li:=j2 }) 91,.box w.heap.size (oS (oE ⟨#[]⟩ 0)) 91]:=(S3.put 6 (.string s2)).put 7 (.int .i64 j2);clear e2 e3 f2 f3;go_wp2_with fail;refine (S4.rd.take _).mono ?_;rintro r we ⟨j3,rfl,YM,fe⟩;have S5:=S4.call YM fe;have e10:we.cell? ⟨w.heap.size+1,10,none⟩=some (.int .i64 0):=cG S5.box 10;have f10:=bf S5.box 10;have S6:St (w,v) (we.setCell ⟨w.heap.size+1,10,none⟩ (.int .i64 j3)) p c v ((m.next.name.2.take wy).name.2.take vJ) n [.box (w.heap.size+1) (oS { oE t i with t:=s1,j:=j1,l:=s2,li:=j2,eq:=j3 }) 91,.box w.heap.size (oS (oE ⟨#[]⟩ 0)) 91]:=S5.put 10 (.int .i64 j3);clear e6 e7 f6 f7;go_wp2_with fail;refine (S6.rd.name).mono ?_;rintro r wf ⟨s4,j4,rfl,Ju,ff⟩;have Sf:=S6.call Ju ff;obtain ⟨aq,Y5⟩:∃aq,aq={ oE t i with t:=s1,j:=j1,l:=s2,li:=j2,eq:=j3,r:=s4,ri:=j4 }:=⟨_,rfl⟩;have Sq:St (w,v) ((wf.setCell ⟨w.heap.size+1,8,none⟩ (.string s4)).setCell ⟨w.heap.size+1,9,none⟩ (.int .i64 j4)) p c v ((m.next.name.2.take wy).name.2.take vJ).name.2 n [.box (w.heap.size+1) (oS aq) 91,.box w.heap.size (oS (oE ⟨#[]⟩ 0)) 91]:=by rw [Y5];exact (Sf.put 8 (.string s4)).put 9 (.int .i64 j4)
 have HQ:=hide Y5;clear Y5 e10 f10;have l1:=cP m.next;have l2:=take_len m.next.name.2 wy;have l3:=cP (m.next.name.2.take wy);have l4:=take_len (m.next.name.2.take wy).name.2 vJ;have l5:=cP ((m.next.name.2.take wy).name.2.take vJ);have iu:=af n;have DW:((m.next.name.2.take wy).name.2.take vJ).name.2.len<=m.len:=by omega
 have rH:n+((m.next.name.2.take wy).name.2.take vJ).name.2.len<=n+m.len+((m.next.name.2.take wy).name.2.take vJ).name.2.due:=by omega
 clear l1 l2 l3 l4 l5;obtain ⟨g0,g1,g2,g3,g4,g5,g6,g7,g8,g9,g10,g11,g12,g13⟩:=lG Sf.box;obtain ⟨d0,d1,d2,d3,d4,d5,d6,d7,d8,d9,d10,d11,d12,d13⟩:=lG Sf.drop.box;obtain ⟨z0,z1,z2,z3,z4,z5,z6,z7,z8,z9,z10,z11,z12,z13⟩:=tV Sf.drop.box;have y5:=bf Sf.box 5;have y8:=bf Sf.box 8;have y9:=bf Sf.box 9;simp only [oE] at d0 d1 d2 d3 d4 d5 d6 d7 d8 d9 d10 d11 d12 d13;have HB:=hide (And.intro iu (And.intro rH DW));clear iu rH DW;go_wp2_with fail
 (try simp only [Exit.inBlock,Exit.then])
 refine ay (v:=_) (by simp [results,Tryz.results36,go_sem,d0,d1,d2,d3,d4,d5,d6,d7,d8,d9,d10,d11,d12,d13];rfl) rfl ?_;unfold tW;rw [ae HM];refine ⟨aq,_,_,?_,((((((((((((((Sq.jG.put 0 _).put 1 _).put 2 _).put 3 _).put 4 _).put 5 _).put 6 _).put 7 _).put 8 _).put 9 _).put 10 _).put 11 _).put 12 _).put 13 _).fin h,ae HB⟩
 first|rfl|(rw [ae HQ];rfl)
theorem ajD (h:Rd o w p c v m n)(hm:n+m.len<=600)(i0:m.is (ByteArray.mk #[119,104,101,114,101])=false)(i1:m.is (ByteArray.mk #[109,97,112])=false)(i2:m.is (ByteArray.mk #[106,111,105,110])=false)(i3:m.is (ByteArray.mk #[103,114,111,117,112])=true):Calls Tryz.prog 36 #[.pointer (some ⟨p,0,none⟩)] w (tW o w p c v m n):=by
 obtain ⟨k,t,i,j,c2,c3,c4,c5,hi,_,_,_⟩:=h.tok;have cF:=h.lt;go_enter Tryz.func36,Tryz.ntmps36;go_wp2_with fail;go_region;go_wp2_with fail;generalize hW:World.drew _=W;have S:St (w,v) W p c v m n [.box (w.heap.size+1) (oS (oE t i)) 91,.box w.heap.size (oS (oE ⟨#[]⟩ 0)) 91]:=by
  rw [<- hW];exact (h.start.qN _ _ _ _).drew
 clear hW c2 c3 c4 c5;have Gl:=((S.ok _ (.head _)).2 _ rfl).1;have NF:=λe=>Gl (Eq.symm e);have hnx:=bG (m:=m);have hdu:=mM m;have HM:=hide (aa4 i0 i1 i2 i3);go_wp2_with (go_at_call 30;refine (S.rd.is _).mono ?_;rintro r' w' ⟨rfl,rfl⟩);refine (S.rd.next (S.rd.live i3).2.1).mono ?_;rintro r wa ⟨rfl,ha,fa⟩;go_wp2_with fail;refine ((S.call ha fa).grouped (by omega) rfl).mono ?_;rintro r wb ⟨rfl,aq,Sq⟩;have Sf:=Sq;have HQ:=hide (Eq.refl aq);have iu:=af n;have hlq:(cC jO ((xd m.next).2.take gW)).2.len<=m.next.len:=by
  refine aw (JD Gj _) (aw (take_len _ _) ?_);unfold xd;split
  . exact JC _
  . exact af _
 have DW:(cC jO ((xd m.next).2.take gW)).2.len<=m.len:=by omega
 have rH:n+(cC jO ((xd m.next).2.take gW)).2.len<=n+m.len+(cC jO ((xd m.next).2.take gW)).2.due:=by omega
 obtain ⟨g0,g1,g2,g3,g4,g5,g6,g7,g8,g9,g10,g11,g12,g13⟩:=lG Sf.box;obtain ⟨d0,d1,d2,d3,d4,d5,d6,d7,d8,d9,d10,d11,d12,d13⟩:=lG Sf.drop.box;obtain ⟨z0,z1,z2,z3,z4,z5,z6,z7,z8,z9,z10,z11,z12,z13⟩:=tV Sf.drop.box;have y5:=bf Sf.box 5;have y8:=bf Sf.box 8;have y9:=bf Sf.box 9;simp only [oE] at d0 d1 d2 d3 d4 d5 d6 d7 d8 d9 d10 d11 d12 d13;have HB:=hide (And.intro iu (And.intro rH DW));clear iu rH DW;go_wp2_with fail
 (try simp only [Exit.inBlock,Exit.then])
 refine ay (v:=_) (by simp [results,Tryz.results36,go_sem,d0,d1,d2,d3,d4,d5,d6,d7,d8,d9,d10,d11,d12,d13];rfl) rfl ?_;unfold tW;rw [ae HM];refine ⟨aq,_,_,?_,((((((((((((((Sq.jG.put 0 _).put 1 _).put 2 _).put 3 _).put 4 _).put 5 _).put 6 _).put 7 _).put 8 _).put 9 _).put 10 _).put 11 _).put 12 _).put 13 _).fin h,ae HB⟩
 first|rfl|(rw [ae HQ];rfl)
theorem ajE (h:Rd o w p c v m n)(hm:n+m.len<=600)(i0:m.is (ByteArray.mk #[119,104,101,114,101])=false)(i1:m.is (ByteArray.mk #[109,97,112])=false)(i2:m.is (ByteArray.mk #[106,111,105,110])=false)(i3:m.is (ByteArray.mk #[103,114,111,117,112])=false)(i4:m.is (ByteArray.mk #[111,114,100,101,114])=true):Calls Tryz.prog 36 #[.pointer (some ⟨p,0,none⟩)] w (tW o w p c v m n):=by
 obtain ⟨k,t,i,j,c2,c3,c4,c5,hi,_,_,_⟩:=h.tok;have cF:=h.lt;go_enter Tryz.func36,Tryz.ntmps36;go_wp2_with fail;go_region;go_wp2_with fail;generalize hW:World.drew _=W;have S:St (w,v) W p c v m n [.box (w.heap.size+1) (oS (oE t i)) 91,.box w.heap.size (oS (oE ⟨#[]⟩ 0)) 91]:=by
  rw [<- hW];exact (h.start.qN _ _ _ _).drew
 clear hW c2 c3 c4 c5;have Gl:=((S.ok _ (.head _)).2 _ rfl).1;have NF:=λe=>Gl (Eq.symm e);have hnx:=bG (m:=m);have hdu:=mM m;have HM:=hide (aa5 i0 i1 i2 i3 i4);go_wp2_with (go_at_call 30;refine (S.rd.is _).mono ?_;rintro r' w' ⟨rfl,rfl⟩);refine (S.rd.next (S.rd.live i4).2.1).mono ?_;rintro r wa ⟨rfl,ha,fa⟩;go_wp2_with fail;refine ((S.call ha fa).ordered (by omega) rfl rfl).mono ?_;rintro r wb ⟨rfl,aq,Sq⟩;have Sf:=Sq;have HQ:=hide (Eq.refl aq);have iu:=af n;have hlq:=JD CY m.next;have DW:(cC dC m.next).2.len<=m.len:=by omega
 have rH:n+(cC dC m.next).2.len<=n+m.len+(cC dC m.next).2.due:=by omega
 obtain ⟨g0,g1,g2,g3,g4,g5,g6,g7,g8,g9,g10,g11,g12,g13⟩:=lG Sf.box;obtain ⟨d0,d1,d2,d3,d4,d5,d6,d7,d8,d9,d10,d11,d12,d13⟩:=lG Sf.drop.box;obtain ⟨z0,z1,z2,z3,z4,z5,z6,z7,z8,z9,z10,z11,z12,z13⟩:=tV Sf.drop.box;have y5:=bf Sf.box 5;have y8:=bf Sf.box 8;have y9:=bf Sf.box 9;simp only [oE] at d0 d1 d2 d3 d4 d5 d6 d7 d8 d9 d10 d11 d12 d13;have HB:=hide (And.intro iu (And.intro rH DW));clear iu rH DW;go_wp2_with fail
 (try simp only [Exit.inBlock,Exit.then])
 refine ay (v:=_) (by simp [results,Tryz.results36,go_sem,d0,d1,d2,d3,d4,d5,d6,d7,d8,d9,d10,d11,d12,d13];rfl) rfl ?_;unfold tW;rw [ae HM];refine ⟨aq,_,_,?_,((((((((((((((Sq.jG.put 0 _).put 1 _).put 2 _).put 3 _).put 4 _).put 5 _).put 6 _).put 7 _).put 8 _).put 9 _).put 10 _).put 11 _).put 12 _).put 13 _).fin h,ae HB⟩
 first|rfl|(rw [ae HQ];rfl)
theorem ajF (h:Rd o w p c v m n)(i0:m.is (ByteArray.mk #[119,104,101,114,101])=false)(i1:m.is (ByteArray.mk #[109,97,112])=false)(i2:m.is (ByteArray.mk #[106,111,105,110])=false)(i3:m.is (ByteArray.mk #[103,114,111,117,112])=false)(i4:m.is (ByteArray.mk #[111,114,100,101,114])=false):Calls Tryz.prog 36 #[.pointer (some ⟨p,0,none⟩)] w (tW o w p c v m n):=by
 obtain ⟨k,t,i,j,c2,c3,c4,c5,hi,_,_,_⟩:=h.tok;have cF:=h.lt;go_enter Tryz.func36,Tryz.ntmps36;go_wp2_with fail;go_region;go_wp2_with fail;generalize hW:World.drew _=W;have S:St (w,v) W p c v m n [.box (w.heap.size+1) (oS (oE t i)) 91,.box w.heap.size (oS (oE ⟨#[]⟩ 0)) 91]:=by
  rw [<- hW];exact (h.start.qN _ _ _ _).drew
 clear hW c2 c3 c4 c5;have Gl:=((S.ok _ (.head _)).2 _ rfl).1;have NF:=λe=>Gl (Eq.symm e);have hnx:=bG (m:=m);have hdu:=mM m;go_wp2_with (go_at_call 30;refine (S.rd.is _).mono ?_;rintro r' w' ⟨rfl,rfl⟩);refine (S.rd.take _).mono ?_;rintro r wa ⟨_,rfl,ha',fa⟩;have ha:Rd (w,v) wa p c v (m.take fl) n:=ha';have Sa:=S.call ha fa;obtain ⟨k',t',i',j',b2,b3,b4,b5,Ot,_,ht',_⟩:=ha.tok;have q13:wa.cell? ⟨w.heap.size+1,13,none⟩=some (.int .i64 0):=cG Sa.box 13;have qf:=bf Sa.box 13;have Sb:St (w,v) (wa.setCell ⟨w.heap.size+1,13,none⟩ (.int .i64 j')) p c v (m.take fl) n [.box (w.heap.size+1) (oS { oE t i with x:=j' }) 91,.box w.heap.size (oS (oE ⟨#[]⟩ 0)) 91]:=Sa.put 13 _;have SK:=take_len m fl;clear ha';obtain ⟨aq,Y5⟩:∃aq,aq={ oE t i with x:=j' }:=⟨_,rfl⟩;rw [<- Y5] at Sb;clear Y5;rcases aa6 i0 i1 i2 i3 i4 (ae ht') with ⟨k1,hs,he⟩|⟨k1,hs⟩
 case' inl=>
  have k2:((k':Int) != 110)=false:=by rw [bne,k1];rfl
  have HM:=hide hs;clear hs;go_wp2_with fail;refine (Sb.rd.next he).mono ?_;rintro r wb ⟨rfl,bL,fb⟩;have Sq:=Sb.call bL fb;have Sf:=Sq;have HQ:=hide (Eq.refl aq);have hlq:=bG (m:=m.take fl);have iu:=af n;have DW:(m.take fl).next.len<=m.len:=by omega
  have rH:n+(m.take fl).next.len<=n+m.len+(m.take fl).next.due:=by omega
  clear b2 b3 b4 b5 q13 qf
 case' inr=>
  have k2:((k':Int) != 110)=true:=by rw [bne,k1];rfl
  have HM:=hide (hs.trans (zD (m.take fl) 2).symm);clear hs;go_wp2_with fail;refine (Sb.rd.fail 2 i' (by decide) Ot).mono ?_;rintro r wb ⟨rfl,bL,fb⟩;go_wp2_with fail;refine (bL.next (Cg (cj (m.take fl) 2))).mono ?_;rintro r wc ⟨rfl,NR,fc⟩;have Sq:=(Sb.call bL fb).call NR fc;have Sf:=Sq;have HQ:=hide (Eq.refl aq);have hlq:=bG (m:=(m.take fl).wrong 2);have avo:=(lj (cj (m.take fl) 2)).1;have iu:=af n;have DW:((m.take fl).wrong 2).next.len<=m.len:=by omega
  have rH:n+((m.take fl).wrong 2).next.len<=n+m.len+((m.take fl).wrong 2).next.due:=by omega
  clear b2 b3 b4 b5 q13 qf
 all_goals
  obtain ⟨g0,g1,g2,g3,g4,g5,g6,g7,g8,g9,g10,g11,g12,g13⟩:=lG Sf.box;obtain ⟨d0,d1,d2,d3,d4,d5,d6,d7,d8,d9,d10,d11,d12,d13⟩:=lG Sf.drop.box;obtain ⟨z0,z1,z2,z3,z4,z5,z6,z7,z8,z9,z10,z11,z12,z13⟩:=tV Sf.drop.box;have y5:=bf Sf.box 5;have y8:=bf Sf.box 8;have y9:=bf Sf.box 9;simp only [oE] at d0 d1 d2 d3 d4 d5 d6 d7 d8 d9 d10 d11 d12 d13;have HB:=hide (And.intro iu (And.intro rH DW));clear iu rH DW;go_wp2_with fail
  (try simp only [Exit.inBlock,Exit.then])
  refine ay (v:=_) (by simp [results,Tryz.results36,go_sem,d0,d1,d2,d3,d4,d5,d6,d7,d8,d9,d10,d11,d12,d13];rfl) rfl ?_;unfold tW;rw [ae HM];refine ⟨aq,_,_,?_,((((((((((((((Sq.jG.put 0 _).put 1 _).put 2 _).put 3 _).put 4 _).put 5 _).put 6 _).put 7 _).put 8 _).put 9 _).put 10 _).put 11 _).put 12 _).put 13 _).fin h,ae HB⟩
  first|rfl|(rw [ae HQ];rfl)
theorem Rd.stage (h:Rd o w p c v m n)(hd:c.deep=0)(hm:n+m.len<=600):Calls Tryz.prog 36 #[.pointer (some ⟨p,0,none⟩)] w (tW o w p c v m n):=by
 rcases or5 (m.is (ByteArray.mk #[119,104,101,114,101])) (m.is (ByteArray.mk #[109,97,112])) (m.is (ByteArray.mk #[106,111,105,110])) (m.is (ByteArray.mk #[103,114,111,117,112])) (m.is (ByteArray.mk #[111,114,100,101,114])) with ⟨i0,i1,i2,i3,i4⟩|i0|⟨i0,i1⟩|⟨i0,i1,i2⟩|⟨i0,i1,i2,i3⟩|⟨i0,i1,i2,i3,i4⟩
 . exact ajF h i0 i1 i2 i3 i4
 . exact ajy h hd hm i0
 . exact ajB h hd hm i0 i1
 . exact ajC h i0 i1 i2
 . exact ajD h hm i0 i1 i2 i3
 . exact ajE h hm i0 i1 i2 i3 i4
end
end Go.Proofs.YteniahoehoncjaaGreatDoor
