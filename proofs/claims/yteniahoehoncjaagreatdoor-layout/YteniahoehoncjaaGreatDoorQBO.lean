import Derived.Test.YteniahoehoncjaaGreatDoorQBN
set_option maxHeartbeats 99999999
set_option maxRecDepth 100000
namespace Go.Proofs.YteniahoehoncjaaGreatDoor
open Go.RowKit
theorem Tryz.Up:(Tryz.prog.info? 91).map (λi=>(i.zero,i.size,i.bytes))=some (some (.agg (oS (oE ⟨#[]⟩ 0))),14,208):=by kernel_rfl
theorem NG {f:Nat}{l:List gV}{m:Mode}{r:List gV×Mode}(h:eC (f+1) l m=r)(hc:m.is EK=true):eC f (l++[(dh m.next).1]) (dh m.next).2=r:=by
 rw [eC,aH hc] at h;exact h
theorem CZ {f:Nat}{l:List gV}{m:Mode}(hc:m.is EK=false):eC f l m=(l,m):=by
 cases f with
 |zero=>rfl
 |succ f=>rw [eC,aA (by rw [hc];decide)]
theorem acC (a:SV):∀u∈(oS a).toList,u.oneCell'=true:=by
 intro u hu;simp [oS] at hu;rcases hu with rfl|rfl|rfl|rfl|rfl|rfl|rfl|rfl|rfl|rfl|rfl|rfl|rfl|rfl<;>rfl
section
variable {o:World×Value} {w w':World} {p:Nat} {c:eT} {v:Value} {m:Mode} {n:Nat}
theorem ajM (h:Rd o w p c v m n)(hc:Be c)(hm:n+m.len<=600){t:ByteArray}(c3:w.cell? ⟨p,3,none⟩=some (.string t))(i0:m.is (ByteArray.mk #[99,114,101,97,116,101])=false)(i1:m.is (ByteArray.mk #[100,114,111,112])=false)(i2:m.is (ByteArray.mk #[108,111,97,100])=false)(i3:m.is (ByteArray.mk #[103,114,97,110,116])=false)(i4:m.is (ByteArray.mk #[114,101,118,111,107,101])=false):Calls Tryz.prog 18 #[.pointer (some ⟨p,0,none⟩)] w (zE o w p v m t):=by
 obtain ⟨x0,hi,jS,jD,jv⟩:=info_parts Tryz.Up;obtain ⟨_,_,_,_,_,_,_,_,_,_,_,c9⟩:=h.oR;have z9:=h.j8.2.2.2.2 9;have S:=h.start.Ui (.string t);have hs:(aV m).2=(eC (m.take kc).name.2.len [{ bare kc m.place with table:=(m.take kc).name.1 }] (m.take kc).name.2).2:=by unfold aV;rw [aA (show ¬m.is mq=true from by rw [show m.is mq=false from i0];decide),aA (show ¬m.is vu=true from by rw [show m.is vu=false from i1];decide),aA (show ¬m.is yu=true from by rw [show m.is yu=false from i2];decide),aA (show ¬m.is wB=true from by rw [show m.is wB=false from i3];decide),aA (show ¬m.is xB=true from by rw [show m.is xB=false from i4];decide)]
 have Pd:=hide hs;clear hs;go_enter Tryz.func18,Tryz.ntmps18;go_wp2_with (go_at_call 30;refine (S.rd.is _).mono ?_;rintro r' w' ⟨rfl,rfl⟩);refine (S.rd.take _).mono ?_;rintro r w1 ⟨j1,rfl,sT,f1⟩;have h1:Rd (w,v) w1 p { c with word:=.string t } v (m.take kc) n:=sT;have SK:=take_len m kc;clear c3 c9 z9 sT;go_wp2_with fail;refine (h1.name).mono ?_;rintro r wb ⟨s2,j2,rfl,h2,f2⟩;have Ip:=cP (m.take kc);have Sb:St (w,v) (wb.alloc (.cells #[.string s2,.int .i64 j2] 34)) p { c with word:=.string t,dU:=.slice none 0 0 } v (m.take kc).name.2 n [.box wb.heap.size #[.string s2,.int .i64 j2] 34,.row (.slice none 0 0) 91 14 0]:=by
  have e:{ c with word:=.string t,dU:=.slice none 0 0 }={ c with word:=.string t }:=by cases c;cases hc.dU;rfl
  rw [e];exact (((S.call h1 f1).call h2 f2).nil 91 14).new _ _
 obtain ⟨wd,Ct⟩:∃wd,wd=wb.alloc (.cells #[.string s2,.int .i64 j2] 34 (0,0)):=⟨_,rfl⟩;rw [<- Ct] at Sb;obtain ⟨u0,u1⟩:=jl Sb.box;have c18:=Sb.rd.j8.2.2.2.1;have afc:=Sb.rd.lt;have Sw:=((Sb.alloc (.cells (oS { oE ⟨#[102,114,111,109]⟩ j1 with t:=s2,j:=j2 }) 91)).drew).jG;obtain ⟨xs,own⟩:=Sw.row;have xD:=hide own;have yU:=hide (World.news_of_block (w:=(wd.alloc (.cells (oS { oE ⟨#[102,114,111,109]⟩ j1 with t:=s2,j:=j2 }) 91 (0,0))).drew) (B:=wd.heap.size) (ai wd (.cells (oS { oE ⟨#[102,114,111,109]⟩ j1 with t:=s2,j:=j2 }) 91 (0,0))));have sU:=hide (show (wd.alloc (.cells (oS { oE ⟨#[102,114,111,109]⟩ j1 with t:=s2,j:=j2 }) 91 (0,0))).drew.heap.size=wd.heap.size+1 by show (wd.heap.push _).size=_;rw [dq]);have ym:=hide Sw.rd.fr.keeps.size;have H1:=hide (acC { oE ⟨#[102,114,111,109]⟩ j1 with t:=s2,j:=j2 });have Ul:=hide Ct;clear own Ct;go_wp2_with fail;rw [<- ae Ul];go_region_law (refine step_append_lies _ rfl (.tmp 92) (.tmp 96) 38 rfl w.heap.size 91 x0 _ 14 208 Tryz.underlying38 hi jS jD jv rfl (by decide) _ _ _ (by simp [Act.eval]) (ae xD) ⟨wd.heap.size,0,none⟩ 1 1 (oS { oE ⟨#[102,114,111,109]⟩ j1 with t:=s2,j:=j2 }).toList (by simp [Act.eval]) rfl (ae yU) (ae H1) (by decide) (by unfold maxLen;omega) (by omega) (ae ym) (wd.heap.size+1) (ae sU) ?_;intro g gcap we ke qF tu _;have Sd:=Sw.app ke qF (by rw [ae sU];rcases tu with h|h;exact .inl h;exact .inr (by omega));have k18:=Sd.rd.j8.2.2.2.1;have kf:=Sd.rd.j8.2.2.2.2 18;clear ke qF tu)
 all_goals
  have Se:=Sd.acA (.slice (some ⟨g,0,none⟩) (0+1) gcap);clear u0 u1 c18;go_wp2_with fail;clear k18 kf;go_loopw [] (λwr=>∃(m':Mode) (v':Value) (n':Nat) (sa:Option Addr) (q sk f:Nat) (l:List gV),St (w,v) wr p { c with word:=.string t,dU:=.slice sa q sk } v' m' n' [.row (.slice sa q sk) 91 14 q]/\m'.len<=f/\q+m'.len<=m.len+1/\n'+m'.len<=n+m.len+m'.due/\Hid (eC f l m'=eC (m.take kc).name.2.len [{ bare kc m.place with table:=(m.take kc).name.1 }] (m.take kc).name.2)) (λwr=>2000 - lenOf ((wr.cell? ⟨p,18,none⟩).getD undef))
  case atStart=>exact ⟨(m.take kc).name.2,v,n,_,0+1,_,_,_,Se.jG.drop,af _,by omega,by omega,hide rfl⟩
  case round=>
   clear xD yU sU Ul ym H1 Se Sd Sw Sb;obtain ⟨m',v',n',sa,q,sk,f,l,S,hfu,yX,rH,HC⟩:=hrel;have M0:lenOf ((wr.cell? ⟨p,18,none⟩).getD undef)=q:=by rw [S.rd.j8.2.2.2.1];rfl
   cases ic:m'.is (ByteArray.mk #[124])
   . have HF:=hide (show (aV m).2=m' by rw [ae Pd,<- ae HC,CZ (show m'.is EK=false from ic)])
     go_wp2_with (go_at_call 30;refine (S.rd.is _).mono ?_;rintro r' w' ⟨rfl,rfl⟩);go_end0;obtain ⟨h9,f9⟩:=S.fin h;rw [<- ae HF] at h9;exact ⟨rfl,_,_,n',⟨h9,f9⟩,rfl,hc.shaped.names,hc.shaped.kinds,hc.shaped.rows,⟨_,_,_,rfl⟩⟩
   . obtain ⟨e3,e4,e5⟩:=S.rd.live ic
     rw [mL e3] at rH;obtain ⟨f,rfl⟩:∃g,f=g+1:=⟨f - 1,by omega⟩;have o8:=hide (NG (ae HC) (show m'.is EK=true from ic));go_wp2_with (go_at_call 30;refine (S.rd.is _).mono ?_;rintro r' w' ⟨rfl,rfl⟩);refine (S.rd.next e4).mono ?_;rintro r w3 ⟨rfl,h3,f3⟩;go_wp2_with fail;refine (h3.stage hc.deep (by omega)).mono ?_;rintro r wc ⟨a,vc,nc,rfl,⟨h4,f4⟩,b1,b2,b3⟩;have Sb:=((S.call h3 f3).call h4 f4).new (oS a) 91;obtain ⟨wd,Ct⟩:∃wd,wd=wc.alloc (.cells (oS a) 91 (0,0)):=⟨_,rfl⟩;rw [<- Ct] at Sb;obtain ⟨g0,g1,g2,g3,g4,g5,g6,g7,g8,g9,g10,g11,g12,g13⟩:=lG Sb.box;have c18:=Sb.rd.j8.2.2.2.1;have afc:=Sb.rd.lt;have Sw:=((Sb.alloc (.cells (oS a) 91)).drew).jG;obtain ⟨xs,own⟩:=Sw.row;have xD:=hide own;have yU:=hide (World.news_of_block (w:=(wd.alloc (.cells (oS a) 91 (0,0))).drew) (B:=wd.heap.size) (ai wd (.cells (oS a) 91 (0,0))));have sU:=hide (show (wd.alloc (.cells (oS a) 91 (0,0))).drew.heap.size=wd.heap.size+1 by show (wd.heap.push _).size=_;rw [dq]);have ym:=hide Sw.rd.fr.keeps.size;have H1:=hide (acC a);simp only [oS] at Ct;have Ul:=hide Ct;clear own Ct;simp only [oS];go_wp2_with fail;rw [<- ae Ul];go_region_law (refine step_append_lies _ rfl (.tmp 112) (.tmp 114) 38 rfl w.heap.size 91 x0 _ 14 208 Tryz.underlying38 hi jS jD jv rfl (by decide) _ _ _ (by simp [Act.eval]) (ae xD) ⟨wd.heap.size,0,none⟩ 1 1 (oS a).toList (by simp [Act.eval]) rfl (ae yU) (ae H1) (by decide) (by unfold maxLen;omega) (by omega) (ae ym) (wd.heap.size+1) (ae sU) ?_;intro g' acD we' ke qF tu _;have Sd:=Sw.app ke qF (by rw [ae sU];rcases tu with h|h;exact .inl h;exact .inr (by omega));have k18:=Sd.rd.j8.2.2.2.1;have kf:=Sd.rd.j8.2.2.2.2 18;clear ke qF tu)
     all_goals
      have Se:=Sd.acA (.slice (some ⟨g',0,none⟩) (q+1) acD);have Uk:lenOf (((we'.setCell ⟨p,18,none⟩ (.slice (some ⟨g',0,none⟩) (q+1) acD)).cell? ⟨p,18,none⟩).getD undef)=q+1:=by rw [Se.rd.j8.2.2.2.1];rfl
      go_wp2_with fail;go_roundw
      case rel=>exact ⟨_,_,nc,_,q+1,_,f,_,Se.jG.drop,by omega,by omega,by omega,o8⟩
      case measure=>rw [Uk,M0];omega
end
section
variable {o:World×Value} {w w':World} {p:Nat} {c:eT} {v:Value} {m:Mode} {n:Nat}
theorem Rd.command (h:Rd o w p c v m n)(hc:Be c)(hm:n+m.len<=600){t:ByteArray}(c3:w.cell? ⟨p,3,none⟩=some (.string t)):Calls Tryz.prog 18 #[.pointer (some ⟨p,0,none⟩)] w (zE o w p v m t):=by
 rcases or5 (m.is (ByteArray.mk #[99,114,101,97,116,101])) (m.is (ByteArray.mk #[100,114,111,112])) (m.is (ByteArray.mk #[108,111,97,100])) (m.is (ByteArray.mk #[103,114,97,110,116])) (m.is (ByteArray.mk #[114,101,118,111,107,101])) with ⟨i0,i1,i2,i3,i4⟩|i0|⟨i0,i1⟩|⟨i0,i1,i2⟩|⟨i0,i1,i2,i3⟩|⟨i0,i1,i2,i3,i4⟩
 . exact ajM h hc hm c3 i0 i1 i2 i3 i4
 . exact ajH h hc hm c3 i0
 . exact ajI h hc c3 i0 i1
 . exact ajL h hc hm c3 i0 i1 i2
 . exact ajJ h hc hm c3 i0 i1 i2 i3
 . exact ajK h hc c3 i0 i1 i2 i3 i4
theorem Rd.ajN (h:Rd o w p c v m n):∃e b:Nat,w.cell? ⟨p,6,none⟩=some (.int .i64 e)/\w.cell? ⟨p,7,none⟩=some (.int .i64 b)/\((m=.dead e b/\((e:Int) != 0)=true)\/(m.alive/\((e:Int) != 0)=false)):=by
 obtain ⟨x,ns,q,_⟩:=h.ex;refine ⟨x.e,x.bad,q.pen.cell 6,q.pen.cell 7,?_⟩;have:=q.mode
 cases m with
 |dead _ _=>obtain ⟨h1,h2,h3⟩:=this;exact .inl ⟨by rw [h1,h2],by rw [gy];omega⟩
 |live t ts=>exact .inr ⟨trivial,by have h1:=this.1;rw [h1];rfl⟩
theorem Rd.Yg (h:Rd o w p c v m n)(hs:Shaped c){t:ByteArray}(hw:c.word=.string t):∃(a1:ByteArray) (a2:Int) (a3:ByteArray) (a4:Int) (p5:Option Addr) (n5 c5:Nat) (p6:Option Addr) (n6 c6:Nat) (p7:Option Addr) (n7 c7:Nat) (a8:Int) (p9:Option Addr) (n9 c9:Nat) (U8:Option Addr) (U9 Va:Nat),
 w.cell? ⟨p,9,none⟩=some (.string t)/\w.cell? ⟨p,10,none⟩=some (.string a1)/\w.cell? ⟨p,11,none⟩=some (.int .i64 a2)/\w.cell? ⟨p,12,none⟩=some (.string a3)/\w.cell? ⟨p,13,none⟩=some (.int .i64 a4)/\w.cell? ⟨p,14,none⟩=some (.slice p5 n5 c5)/\w.cell? ⟨p,15,none⟩=some (.slice p6 n6 c6)/\w.cell? ⟨p,16,none⟩=some (.slice p7 n7 c7)/\w.cell? ⟨p,17,none⟩=some (.int .i64 a8)/\w.cell? ⟨p,18,none⟩=some (.slice p9 n9 c9)/\w.cell? ⟨p,19,none⟩=some (.slice U8 U9 Va):=by
 obtain ⟨x,ns,q,k,_⟩:=h.ex;obtain ⟨⟨a1,e1⟩,⟨a2,e2⟩,⟨a3,e3⟩,⟨a4,e4⟩,⟨a8,e8⟩⟩:=k.form;obtain ⟨⟨p5,n5,c5,e5⟩,⟨p6,n6,c6,e6⟩,⟨p7,n7,c7,e7⟩,⟨p9,n9,c9,e9⟩⟩:=hs;have hsl:∃a b d,x.nodes=.slice a b d:=by
  rcases q.own.2 with ⟨h1,_⟩|⟨g,cap,_,hv,_⟩
  . exact ⟨_,_,_,h1⟩
  . exact ⟨_,_,_,hv⟩
 obtain ⟨U8,U9,Va,e10⟩:=hsl;exact ⟨a1,a2,a3,a4,p5,n5,c5,p6,n6,c6,p7,n7,c7,a8,p9,n9,c9,U8,U9,Va,(q.pen.cell 9).trans (aU some (k.word.trans hw)),(q.pen.cell 10).trans (aU some e1),(q.pen.cell 11).trans (aU some e2),(q.pen.cell 12).trans (aU some e3),(q.pen.cell 13).trans (aU some e4),(q.pen.cell 14).trans (aU some (k.names.trans e5)),(q.pen.cell 15).trans (aU some (k.kinds.trans e6)),(q.pen.cell 16).trans (aU some (k.rows.trans e7)),(q.pen.cell 17).trans (aU some e8),(q.pen.cell 18).trans (aU some (k.dU.trans e9)),(q.pen.cell 19).trans (aU some e10)⟩
end
theorem Yh {K:Nat->Prop}{w:World}{p:Nat}{x:eT}(hP0:qw w p x)(hl:Laid w)(NU:0<p)(h3:x.S.size<=300)(h4:x.pos=0)(OJ:x.e=0)(US:x.nodes=.slice none 0 0)(QK:K 0)(Yy:¬K p)(hold:∀k,K k->k<w.heap.size) :
 Calls Tryz.prog 17 #[.pointer (some ⟨p,0,none⟩)] w λr w'=>
 r=.returned (.tuple #[])/\∃x',fX K w' p x' (Mode.of (dB x.S 0)) []/\Rest x x'/\x'.nodes=.slice none 0 0/\aQ K w w':=by
 refine (Mi p x w hP0 hl NU h3 (by omega)).mono ?_;rintro r w' ⟨rfl,x',hP,hN,hK⟩;have hK':aQ K w w':=hK.mono (λk hk=>⟨λe=>Yy (e ▸ hk),hold k hk⟩);refine ⟨rfl,x',?_,?_,by rw [hN.same];exact US,hK'⟩
 . have hS:x'.S=x.S:=by rw [hN.same]
   have he:x'.e=x.e:=by rw [hN.same]
   have YP:x'.nodes=.slice none 0 0:=by rw [hN.same];exact US
   have EV:x'.pos<=x.S.size+1/\x'.tp<=x.S.size:=by
    by_cases hj:aM x.S bU x.pos<x.S.size
    . obtain ⟨h1,h2,h3⟩:=hN.tok hj
      rw [h2,h3];refine ⟨Mt x.S _ hj,by omega⟩
    . obtain ⟨h1,h2,h3⟩:=hN.fin hj
      rw [h2,h3];have:=fj x.S bU x.pos (by omega);exact ⟨by omega,af _⟩
   refine ⟨hP,hl.keeps hK NU,NU,by rw [hS];exact h3,by rw [hS];exact EV.1,hN.k,hN.n,by rw [hS];exact EV.2,?_,?_,by rw [YP];simp [Value.ownBlock],QK,Yy,λg hg=>by rw [YP] at hg;simp [Value.ownBlock] at hg,λk hk=>aF (hold k hk) hK.size⟩
   . rw [<- h4]
     by_cases hj:aM x.S bU x.pos<x.S.size
     . obtain ⟨k1,k2,k3⟩:=hN.tok hj
       by_cases jz:(eV x.S (aM x.S bU x.pos) hj).1.ends=true
       . have nS:dB x.S x.pos=[⟨.bad,aM x.S bU x.pos⟩]:=by
          rw [dB];simp only [dif_pos hj,dif_pos jz]
         rw [nS];have hb:(eV x.S (aM x.S bU x.pos) hj).1=.bad:=Fm x.S _ hj jz;rw [hb] at k1;exact ⟨by rw [he];exact OJ,k1,k2,λh=>by simp [Tk.ends] at h,λ_=>rfl⟩
       . have nS:dB x.S x.pos=⟨(eV x.S (aM x.S bU x.pos) hj).1,aM x.S bU x.pos⟩::dB x.S (eV x.S (aM x.S bU x.pos) hj).2:=by
          rw [dB];simp only [dif_pos hj,dif_neg jz]
         rw [nS];exact ⟨by rw [he];exact OJ,k1,k2,λ_=>by rw [hS,k3],λh=>absurd h jz⟩
     . obtain ⟨k1,k2,k3⟩:=hN.fin hj
       have nS:dB x.S x.pos=[⟨.stop,x.S.size⟩]:=by
        rw [dB];simp only [dif_neg hj]
       rw [nS];exact ⟨by rw [he];exact OJ,k1,k2,λh=>by simp [Tk.ends] at h,λ_=>rfl⟩
   . rw [YP];exact ia _ _ _ _
 . rw [hN.same];exact ⟨rfl,rfl,rfl,rfl,rfl,rfl,rfl,rfl,rfl,rfl,rfl,rfl⟩
def afg (S:ByteArray):eT:=⟨S,0,0,⟨#[]⟩,0,0,0,0,0,.string ⟨#[]⟩,.string ⟨#[]⟩,.int .i64 0,.string ⟨#[]⟩,.int .i64 0,.slice none 0 0,.slice none 0 0,.slice none 0 0,.int .i64 0,.slice none 0 0,.slice none 0 0⟩
theorem Gm {S:ByteArray}(h:S.size<=300){e b:Nat}(hq:(aV (Mode.of (dB S 0))).2=.dead e b):gP S=.inr (e,b):=by
 unfold gP;rw [aA (by omega)];simp only [hq]
theorem Qu {S:ByteArray}(h:S.size<=300){pl:Nat}{ts:List Tok}(hq:(aV (Mode.of (dB S 0))).2=.live ⟨.stop,pl⟩ ts):gP S=.inl (aV (Mode.of (dB S 0))).1:=by
 unfold gP;rw [aA (by omega)];simp only [hq]
theorem Qv {S:ByteArray}(h:S.size<=300){k:Tk}{pl:Nat}{ts:List Tok}(hk:k≠.stop)(hq:(aV (Mode.of (dB S 0))).2=.live ⟨k,pl⟩ ts):gP S=.inr (2,pl):=by
 unfold gP;rw [aA (by omega)];simp only [hq]
 cases k<;>first|rfl|exact absurd rfl hk
def D9 (S:ByteArray):Bool:=match gP S with|.inl (.query _)=>true|_=>false
def acE (r:Ending)(S:ByteArray):Prop:=∃(a0 a1:ByteArray) (a2:Int) (a3:ByteArray) (a4:Int) (p5:Option Addr) (n5 c5:Nat) (p6:Option Addr) (n6 c6:Nat) (p7:Option Addr) (n7 c7:Nat) (a8:Int) (p9:Option Addr) (n9 c9:Nat) (U8:Option Addr) (U9 Va:Nat) (e b:Nat),
 r=.returned (.tuple #[.agg #[.string a0,.string a1,.int .i64 a2,.string a3,.int .i64 a4,.slice p5 n5 c5,.slice p6 n6 c6,.slice p7 n7 c7,.int .i64 a8,.slice p9 n9 c9,.slice U8 U9 Va],.int .i64 e,.int .i64 b])/\
 (kh a0 kc=D9 S)/\((∃c,gP S=.inl c/\e=0)\/(gP S=.inr (e,b)))
theorem Uq {m:Mode}(h:¬m.alive):¬m.name.2.alive:=by
 cases m with
 |live t ts=>exact absurd trivial h
 |dead e b=>exact h
theorem NH {m:Mode}(h:¬m.alive)(f:Nat)(l:List gV):¬(eC f l m).2.alive:=by
 rw [CZ (NA h EK)];exact h
theorem aa9 {m:Mode}{t:ByteArray}(hw:∀s,m.is s=true->t=s)(ha:(aV m).2.alive):kh t kc=match (aV m).1 with|.query _=>true|_=>false:=by
 unfold aV at ha ⊢;by_cases i0:m.is mq=true
 . rw [aH i0,hw _ i0];rfl
 . rw [aA i0] at ha ⊢
   by_cases i1:m.is vu=true
   . rw [aH i1,hw _ i1];rfl
   . rw [aA i1] at ha ⊢
     by_cases i2:m.is yu=true
     . rw [aH i2,hw _ i2];rfl
     . rw [aA i2] at ha ⊢
       by_cases i3:m.is wB=true
       . rw [aH i3,hw _ i3];rfl
       . rw [aA i3] at ha ⊢
         by_cases i4:m.is xB=true
         . rw [aH i4,hw _ i4];rfl
         . rw [aA i4] at ha ⊢
           have h5:m.is kc=true:=by
            apply kr;intro hn;have hd:¬(m.take kc).alive:=by unfold Mode.take;rw [aA hn];exact cj m 2
            exact NH (Uq hd) _ _ ha
           rw [hw _ h5];rfl
theorem RP {w:World}{b:Nat}{t:TypeId}(h:w.heap[b]?=some (.cells #[.string ⟨#[]⟩,.string ⟨#[]⟩,.int .i64 0,.string ⟨#[]⟩,.int .i64 0,.slice none 0 0,.slice none 0 0,.slice none 0 0,.int .i64 0,.slice none 0 0,.slice none 0 0] t (0,0))):(w.cell? ⟨b,0,none⟩=some (.string ⟨#[]⟩)/\w.cell? ⟨b,1,none⟩=some (.string ⟨#[]⟩)/\w.cell? ⟨b,2,none⟩=some (.int .i64 0)/\w.cell? ⟨b,3,none⟩=some (.string ⟨#[]⟩)/\w.cell? ⟨b,4,none⟩=some (.int .i64 0)/\w.cell? ⟨b,5,none⟩=some (.slice none 0 0)/\w.cell? ⟨b,6,none⟩=some (.slice none 0 0)/\w.cell? ⟨b,7,none⟩=some (.slice none 0 0)/\w.cell? ⟨b,8,none⟩=some (.int .i64 0)/\w.cell? ⟨b,9,none⟩=some (.slice none 0 0)/\w.cell? ⟨b,10,none⟩=some (.slice none 0 0))/\w.frozen? ⟨b,0,none⟩=false/\w.frozen? ⟨b,1,none⟩=false/\w.frozen? ⟨b,2,none⟩=false/\w.frozen? ⟨b,3,none⟩=false/\w.frozen? ⟨b,4,none⟩=false/\w.frozen? ⟨b,5,none⟩=false/\w.frozen? ⟨b,6,none⟩=false/\w.frozen? ⟨b,7,none⟩=false/\w.frozen? ⟨b,8,none⟩=false/\w.frozen? ⟨b,9,none⟩=false/\w.frozen? ⟨b,10,none⟩=false:=
 have f:=bf h
 ⟨⟨cG h 0,cG h 1,cG h 2,cG h 3,cG h 4,cG h 5,cG h 6,cG h 7,cG h 8,cG h 9,cG h 10⟩,f 0,f 1,f 2,f 3,f 4,f 5,f 6,f 7,f 8,f 9,f 10⟩
theorem Ur (S:ByteArray)(w:World)(h:300<S.size):Calls Tryz.prog 11 #[.string S] w λr w'=>acE r S/\Below w.heap.size w w':=by
 have hs:gP S=.inr (1,0):=aH h;have h':(300:Int)<S.size:=by omega
 go_enter Tryz.func11,Tryz.ntmps11;go_wp2_with fail
 (try simp only [Exit.inBlock,Exit.then])
 refine ay (v:=.tuple #[.agg #[.string ⟨#[]⟩,.string ⟨#[]⟩,.int .i64 0,.string ⟨#[]⟩,.int .i64 0,.slice none 0 0,.slice none 0 0,.slice none 0 0,.int .i64 0,.slice none 0 0,.slice none 0 0],.int .i64 1,.int .i64 0]) (by simp [results,Tryz.results11,go_sem];try rfl) rfl ?_;exact ⟨⟨_,_,_,_,_,_,_,_,_,_,_,_,_,_,_,_,_,_,_,_,_,1,0,rfl,by unfold D9;rw [hs];rfl,.inr hs⟩,(ag _ _).alloc (af _) _⟩
theorem JE (S:ByteArray)(w:World)(hl:Laid w)(h0:0<w.heap.size):Calls Tryz.prog 11 #[.string S] w λr w'=>acE r S/\Below w.heap.size w w':=by
 by_cases hS:300<S.size
 . exact Ur S w hS
 have h:S.size<=300:=by omega
 have h':¬(300:Int)<S.size:=by omega
 have hlen:=aev S h;have HL:=hide hl;clear hl hS;go_enter Tryz.func11,Tryz.ntmps11;go_wp2_with fail;generalize hW:World.alloc (World.alloc w _) _=W;obtain ⟨b1,b2,b3,b4⟩:Below w.heap.size w W/\W.heap[w.heap.size]?=some (.cells #[.string ⟨#[]⟩,.string ⟨#[]⟩,.int .i64 0,.string ⟨#[]⟩,.int .i64 0,.slice none 0 0,.slice none 0 0,.slice none 0 0,.int .i64 0,.slice none 0 0,.slice none 0 0] 41 (0,0))/\W.heap[w.heap.size+1]?=some (.cells (gX (afg S)) 63 (0,0))/\W.heap.size=w.heap.size+2:=by
  rw [<- hW];exact ⟨((ag _ _).alloc (af _) _).alloc (by simp) _,heap_alloc2_old w _ _,heap_alloc2_new w _ _,by show ((w.heap.push _).push _).size=_;simp⟩
 have abb:(Value.slice none 0 0).ownBlock=none:=rfl;refine (Yh (K:=U7 (w.heap.size+1) (.slice none 0 0) W) (x:=afg S) b3 ((ae HL).below b1) (by omega) h rfl rfl rfl ⟨by omega,by omega,by simp [abb]⟩ (λk=>k.2.1 rfl) (λk hk=>hk.1)).mono ?_;rintro r w1 ⟨rfl,x1,s1,r1,n1,k1⟩;have hm1:Rd (W,.slice none 0 0) w1 (w.heap.size+1) (afg S) (.slice none 0 0) (Mode.of (dB S 0)) 0:=
  ⟨⟨x1,[],s1.more ⟨aF (by omega) k1.size,by omega,by simp [abb]⟩ (λk hk=>.inr ⟨hk.2.1,by rw [n1];exact hk.2.2,hk.1⟩),⟨r1.deep,r1.word,r1.names,r1.kinds,r1.rows,r1.dU,⟨_,r1.GZ⟩,⟨_,r1.G3⟩,⟨_,r1.G4⟩,⟨_,r1.G5⟩,_,r1.cond⟩,n1,rfl⟩,⟨k1,λg hg=>by cases hg⟩,by show w.heap.size+1<W.heap.size;omega⟩
 obtain ⟨k,t,i,j,_,c3,_,_,_,_,_,hw⟩:=hm1.tok;have HB:=hide (λ(w2:World) (v2:Value) (hf:Fq (w.heap.size+1) (.slice none 0 0) v2 W w2)=>(show w2.heap[w.heap.size]?=some (.cells #[.string ⟨#[]⟩,.string ⟨#[]⟩,.int .i64 0,.string ⟨#[]⟩,.int .i64 0,.slice none 0 0,.slice none 0 0,.slice none 0 0,.int .i64 0,.slice none 0 0,.slice none 0 0] 41 (0,0))/\aQ (λk=>k<w.heap.size) w w2 from
  ⟨(hf.keeps.block w.heap.size ⟨by omega,by omega,by simp [abb]⟩).trans b2,aQ.trans (⟨b1.os,b1.tape,b1.output,b1.size,λk hk=>b1.block k hk⟩:aQ (λk=>k<w.heap.size) w W) (hf.keeps.mono (λk hk=>⟨by omega,by omega,by simp [abb]⟩))⟩))
 clear s1 k1 b1 b2 b3 hW r1 n1;go_wp2_with fail;refine (hm1.command ⟨rfl,rfl,rfl,rfl,rfl⟩ (by omega) c3).mono ?_;rintro r w2 ⟨rfl,c2,v2,n2,⟨h2,f2⟩,hcw,Dd⟩;obtain ⟨bO,nQ⟩:=ae HB w2 v2 h2.fr;obtain ⟨kk,tt,ii,jj,e2,_,e4,_,hii,_,htt,_⟩:=h2.tok;have HSH:=hide Dd;have HCW:=hide hcw;have um:=hide nQ;clear c3 f2 Dd hcw nQ;by_cases hk:(kk:Int)=0
 . have QK:((kk:Int) != 0)=false:=by rw [hk];rfl
   obtain ⟨e,b,c6,c7,he⟩:=h2.ajN;obtain ⟨⟨d0,d1,d2,d3,d4,d5,d6,d7,d8,d9,d10⟩,z0,z1,z2,z3,z4,z5,z6,z7,z8,z9,z10⟩:=RP bO;rcases he with ⟨hq,e0⟩|⟨ha,e0⟩
   . have HQ:=hide (Gm h hq)
     clear bO hq;go_wp2_with fail;go_region
     all_goals
      (try go_wp2_with fail)
      (try simp only [Exit.inBlock,Exit.then])
      refine ay (v:=.tuple #[.agg #[.string ⟨#[]⟩,.string ⟨#[]⟩,.int .i64 0,.string ⟨#[]⟩,.int .i64 0,.slice none 0 0,.slice none 0 0,.slice none 0 0,.int .i64 0,.slice none 0 0,.slice none 0 0],.int .i64 e,.int .i64 b]) (by simp [results,Tryz.results11,go_sem,d0,d1,d2,d3,d4,d5,d6,d7,d8,d9,d10];try rfl) rfl ?_;exact ⟨⟨_,_,_,_,_,_,_,_,_,_,_,_,_,_,_,_,_,_,_,_,_,e,b,rfl,by unfold D9;rw [ae HQ];rfl,.inr (ae HQ)⟩,(((((((((((((ae um).setCell (p:=⟨w.heap.size,0,none⟩) (bx _) _).setCell (p:=⟨w.heap.size,1,none⟩) (bx _) _).setCell (p:=⟨w.heap.size,2,none⟩) (bx _) _).setCell (p:=⟨w.heap.size,3,none⟩) (bx _) _).setCell (p:=⟨w.heap.size,4,none⟩) (bx _) _).setCell (p:=⟨w.heap.size,5,none⟩) (bx _) _).setCell (p:=⟨w.heap.size,6,none⟩) (bx _) _).setCell (p:=⟨w.heap.size,7,none⟩) (bx _) _).setCell (p:=⟨w.heap.size,8,none⟩) (bx _) _).setCell (p:=⟨w.heap.size,9,none⟩) (bx _) _).setCell (p:=⟨w.heap.size,10,none⟩) (bx _) _)).drew.below⟩
   . have iP:∃pl ts,(aV (Mode.of (dB S 0))).2=.live ⟨.stop,pl⟩ ts:=by
      have ht:=ae htt ha
      cases hq:(aV (Mode.of (dB S 0))).2 with
      |dead _ _=>rw [hq] at ha;exact ha.elim
      |live tk ts=>
        rw [hq] at ht;obtain ⟨q,pl⟩:=tk
        cases q<;>simp only [lN,Mode.tk] at ht
        case stop=>exact ⟨pl,ts,rfl⟩
        all_goals omega
     obtain ⟨pl,ts,hq⟩:=iP;have HQ:=hide (Qu h hq);have HE:=hide (aa9 (ae hw) ha);obtain ⟨a1,a2,a3,a4,p5,n5,c5,p6,n6,ajO,p7,n7,ajP,a8,p9,n9,c9,U8,U9,Va,g0,g1,g2,g3,g4,g5,g6,g7,g8,g9,g10⟩:=h2.Yg (ae HSH) (ae HCW);clear bO hq ha;go_wp2_with fail
     (try simp only [Exit.inBlock,Exit.then])
     refine ay (v:=.tuple #[.agg #[.string t,.string a1,.int .i64 a2,.string a3,.int .i64 a4,.slice p5 n5 c5,.slice p6 n6 ajO,.slice p7 n7 ajP,.int .i64 a8,.slice p9 n9 c9,.slice U8 U9 Va],.int .i64 0,.int .i64 0]) (by simp [results,Tryz.results11,go_sem,d0,d1,d2,d3,d4,d5,d6,d7,d8,d9,d10];try rfl) rfl ?_;refine ⟨⟨t,a1,a2,a3,a4,p5,n5,c5,p6,n6,ajO,p7,n7,ajP,a8,p9,n9,c9,U8,U9,Va,0,0,rfl,?_,.inl ⟨_,ae HQ,rfl⟩⟩,((((((((((((ae um).setCell (p:=⟨w.heap.size,0,none⟩) (bx _) _).setCell (p:=⟨w.heap.size,1,none⟩) (bx _) _).setCell (p:=⟨w.heap.size,2,none⟩) (bx _) _).setCell (p:=⟨w.heap.size,3,none⟩) (bx _) _).setCell (p:=⟨w.heap.size,4,none⟩) (bx _) _).setCell (p:=⟨w.heap.size,5,none⟩) (bx _) _).setCell (p:=⟨w.heap.size,6,none⟩) (bx _) _).setCell (p:=⟨w.heap.size,7,none⟩) (bx _) _).setCell (p:=⟨w.heap.size,8,none⟩) (bx _) _).setCell (p:=⟨w.heap.size,9,none⟩) (bx _) _).setCell (p:=⟨w.heap.size,10,none⟩) (bx _) _).below⟩;rw [ae HE];unfold D9;rw [ae HQ]
     cases (aV (Mode.of (dB S 0))).1<;>rfl
 . have QK:((kk:Int) != 0)=true:=by rw [gy];exact hk
   go_wp2_with fail;refine (h2.fail 2 ii (by decide) hii).mono ?_;rintro r w3 ⟨rfl,h3,f3⟩;obtain ⟨eD,tq⟩:=ae HB w3 v2 h3.fr;obtain ⟨e,b,c6,c7,he⟩:=h3.ajN;have Bi:=hide tq;obtain ⟨⟨d0,d1,d2,d3,d4,d5,d6,d7,d8,d9,d10⟩,z0,z1,z2,z3,z4,z5,z6,z7,z8,z9,z10⟩:=RP eD;rcases he with ⟨hq,e0⟩|⟨ha,e0⟩
   . have hr:gP S=.inr (e,b):=by
      cases Cw:(aV (Mode.of (dB S 0))).2 with
      |dead e' b'=>rw [Cw] at hq;exact Gm h (Cw.trans hq)
      |live tk ts=>
        rw [Cw] at hq htt;have ht:=ae htt trivial;obtain ⟨q,pl⟩:=tk;have Co:Mode.dead 2 pl=.dead e b:=hq
        injection Co with q1 q2
        rw [Qv h (k:=q) (pl:=pl) (ts:=ts) (λhs=>by subst hs;simp only [lN,Mode.tk] at ht;omega) Cw,q1,q2]
     have HQ:=hide hr;clear eD tq hq hr e2 e4;go_wp2_with fail;go_region
     all_goals
      (try go_wp2_with fail)
      (try simp only [Exit.inBlock,Exit.then])
      refine ay (v:=.tuple #[.agg #[.string ⟨#[]⟩,.string ⟨#[]⟩,.int .i64 0,.string ⟨#[]⟩,.int .i64 0,.slice none 0 0,.slice none 0 0,.slice none 0 0,.int .i64 0,.slice none 0 0,.slice none 0 0],.int .i64 e,.int .i64 b]) (by simp [results,Tryz.results11,go_sem,d0,d1,d2,d3,d4,d5,d6,d7,d8,d9,d10];try rfl) rfl ?_;exact ⟨⟨_,_,_,_,_,_,_,_,_,_,_,_,_,_,_,_,_,_,_,_,_,e,b,rfl,by unfold D9;rw [ae HQ];rfl,.inr (ae HQ)⟩,(((((((((((((ae Bi).setCell (p:=⟨w.heap.size,0,none⟩) (bx _) _).setCell (p:=⟨w.heap.size,1,none⟩) (bx _) _).setCell (p:=⟨w.heap.size,2,none⟩) (bx _) _).setCell (p:=⟨w.heap.size,3,none⟩) (bx _) _).setCell (p:=⟨w.heap.size,4,none⟩) (bx _) _).setCell (p:=⟨w.heap.size,5,none⟩) (bx _) _).setCell (p:=⟨w.heap.size,6,none⟩) (bx _) _).setCell (p:=⟨w.heap.size,7,none⟩) (bx _) _).setCell (p:=⟨w.heap.size,8,none⟩) (bx _) _).setCell (p:=⟨w.heap.size,9,none⟩) (bx _) _).setCell (p:=⟨w.heap.size,10,none⟩) (bx _) _)).drew.below⟩
   . exact absurd ha (cj _ 2)
end Go.Proofs.YteniahoehoncjaaGreatDoor
