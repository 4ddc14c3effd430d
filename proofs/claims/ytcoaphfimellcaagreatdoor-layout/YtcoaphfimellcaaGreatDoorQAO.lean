import Derived.Test.YtcoaphfimellcaaGreatDoorQAB
import Derived.Test.YtcoaphfimellcaaGreatDoorQAN
import Derived.Test.YtcoaphfimellcaaGreatDoorQAA
set_option maxHeartbeats 0
set_option maxRecDepth 100000
namespace Go.Proofs.YtcoaphfimellcaaGreatDoor
open Go.RowKit
open Option renaming some→σ,none→ν
open Go.IntKind renaming i64→κ
open Go renaming World→ω,Value→υ
open Go.RowKit renaming Below→δ
open Go.Value renaming int→ι,slice→ψ
variable{w:Nat->Prop}{p:List Bool}{m l:ω}{x i t r:Nat}{v:List Nat}{n:υ}
namespace S
def Dx(bs:List Nat):List υ:=bs.map λ(n:Nat)=>Value.int .u8 (n:Int)
theorem mD(a:δ m.heap.size m l):m.grownBy l ν:=⟨a.os,a.tape,a.output,a.size,λc b _=>a.block c b⟩
def lenOf:υ->Nat|.slice _ m _=>m|_=>0
structure Wr (K:Nat->Prop)(w:ω)(p:Nat)(v:υ)(bs:List Nat)(l:List Bool):Prop where
 lays:Lays bs l
 sl:w.cell? (Ad p 0)=σ v
 used:w.cell? (Ad p 1)=σ (ι κ (l.length:Int))
 f0:w.frozen? (Ad p 0)=false
 f1:w.frozen? (Ad p 1)=false
 own:w.ownsRow 0 5 1 v bs.length (Dx bs)
 apart:v.ownBlock≠σ p
 kp:¬K p
 kv:∀g,v.ownBlock=σ g->¬K g
 old:∀k,K k->k<w.heap.size
def Writer(K:Nat->Prop)(w:ω)(p:Nat)(l:List Bool):Prop:=∃v bs,Wr K w p v bs l
theorem Writer.vJ{g:Nat->Prop}{b f:ω}{c:Nat}{i:List Bool}(a:Writer g b c i)(e:b.grownBy f ν):Writer g f c i:=by
 obtain⟨j,bs,a⟩:=a;have l:c<b.heap.size:=bz _ _ a.sl;have d:f.heap[c]?=b.heap[c]?:=e.block c l (by simp);exact⟨j,bs,a.lays,(bZ (w:=b) d).trans a.sl,(bZ (w:=b) d).trans a.used,(cY (w:=b) d).trans a.f0,(cY (w:=b) d).trans a.f1,
  a.own.kept e (by cases j.ownBlock<;>simp),a.apart,a.kp,a.kv,λm k=>ai (a.old m k) e.size⟩
theorem Writer.alloc{a:Nat->Prop}{w:ω}(c:Writer a w x p)(b:Obj):Writer a (w.alloc b) x p:=c.vJ (cR w b ν)
theorem Writer.drew(a:Writer w m x p):Writer w m.drew x p:=a.vJ ⟨rfl,rfl,rfl,ae _,λ_ _ _=>rfl⟩
theorem Writer.old(a:Writer w m x p):∀b,w b->b<m.heap.size:=by obtain⟨c,bs,a⟩:=a;exact a.old
theorem Writer.lt(a:Writer w m x p):x<m.heap.size:=by obtain⟨b,bs,a⟩:=a;exact bz _ _ a.sl
theorem Writer.also{m K':Nat->Prop}{f g:ω}{d:Nat}{o:List Bool}(a:Writer m f d o)(n:f.grownBy g ν)(k:∀c,K' c->m c\/(f.heap.size<=c/\c<g.heap.size)):Writer K' g d o:=by have s:=a.lt;obtain⟨p,bs,b⟩:=a.vJ n;obtain⟨u,v,i⟩:=a;have r:g.heap[d]?=f.heap[d]?:=n.block d s (by simp);have t:p=u:=(by have:=((bZ (w:=f) (w':=g) (a:=(Ad d 0)) r).trans i.sl).symm.trans b.sl;exact(bf this).symm);subst t;refine⟨p,bs,b.lays,b.sl,b.used,b.f0,b.f1,b.own,b.apart,?_,?_,?_⟩;{intro e;rcases k d e with a|a;{exact i.kp a};omega};{intro j l e;rcases k j e with a|a;{exact i.kv j l a};have:=(i.own.lt j l).2;omega};intro c e;rcases k c e with a|a;{exact b.old c a};exact a.2
theorem Writer.less{K':Nat->Prop}(b:Writer w m x p)(c:∀a,K' a->w a):Writer K' m x p:=
 b.also ⟨rfl,rfl,rfl,ae _,λ_ _ _=>rfl⟩ (λa d=>.inl (c a d))
structure wY (K:Nat->Prop)(w:ω)(p g m cap:Nat)(bs:List Nat)(l:List Bool):Prop where
 lays:yI bs l
 len:m=bs.length
 sl:w.cell? (Ad p 0)=σ (ψ (σ (Ad g 0)) m cap)
 used:w.cell? (Ad p 1)=σ (ι κ (l.length:Int))
 f0:w.frozen? (Ad p 0)=false
 f1:w.frozen? (Ad p 1)=false
 own:w.ownsRow 0 5 1 (ψ (σ (Ad g 0)) m cap) m (Dx bs)
 apart:g≠p
 kp:¬K p
 kg:¬K g
 old:∀k,K k->k<w.heap.size
theorem UC{bs:List Nat}(a:x<bs.length):(Dx bs)[x]?=σ (ι .u8 ((bs.getD x 0:Nat):Int)):=by simp[Dx,List.getD,a]
theorem Wr.slice{bs:List Nat}(a:Wr w m x n bs p)(d:0<bs.length) :
 ∃c b,n=ψ (σ (Ad c 0)) bs.length b:=by rcases a.own.2 with⟨_,a⟩|⟨c,b,_,a,_⟩;{omega};exact⟨c,b,a⟩
theorem Wr.room{bs:List Nat}(a:Wr w m x n bs p)(f:p.length % 8≠0) :
 ∃b c,n=ψ (σ (Ad b 0)) bs.length c/\wY w m x b bs.length c bs p:=by have d:=a.lays.aac f;obtain⟨b,c,rfl⟩:=a.slice (by rw[d.len];omega);exact⟨b,c,rfl,d,rfl,a.sl,a.used,a.f0,a.f1,a.own,λe=>a.apart (by rw[e];rfl),a.kp,a.kv b rfl,a.old⟩
theorem Wr.grown{i:Nat->Prop}{c d:ω}{b e n:Nat}{l:υ}{bs:List Nat}{o:List Bool}{p:Obj}(a:Wr i c b l bs o)(A:o.length % 8=0)
 (x:d.ownsRow 0 5 1 (ψ (σ (Ad e 0)) (bs.length+1) n) (bs.length+1) (Dx bs++[ι .u8 0])) (v:(c.alloc p).grownBy d l.ownBlock)
 (C:l.ownBlock=σ e\/(c.alloc p).heap.size<=e) :
 aX i c d/\d.cell? (Ad b 0)=σ l/\d.frozen? (Ad b 0)=false/\wY i (d.setCell (Ad b 0) (ψ (σ (Ad e 0)) (bs.length+1) n)) b e (bs.length+1) n (bs++[0]) o:=by
 have w:l.ownBlock=σ e\/c.heap.size<e:=by rcases C with f|f;exact .inl f;exact .inr (by simp at f;omega)
 have u:aX i c d:=((aX.refl i c).alloc a.old p).grown v (λk j=>by have:=a.old k j;simp;omega) (λk g=>a.kv k g);have D:b<c.heap.size:=bz _ _ a.sl;have m:d.heap[b]?=c.heap[b]?:=(v.block b (by simp;omega) (λg=>a.apart g.symm)).trans (ct _ _ _ D);have s:=(bZ (w:=c) (w':=d) (a:=(Ad b 0)) m).trans a.sl;have y:=(bZ (w:=c) (w':=d) (a:=(Ad b 1)) m).trans a.used;have t:=(cY (w:=c) (w':=d) (a:=(Ad b 0)) m).trans a.f0;have z:=(cY (w:=c) (w':=d) (a:=(Ad b 1)) m).trans a.f1;have r:e≠b:=(by rcases w with f|f;{intro g;subst g;exact a.apart f};omega);have B:¬i e:=(by rcases w with f|f;{exact a.kv e f};intro j;have:=a.old e j;omega);refine⟨u,s,t,a.lays.aad A,by simp,mj _ _ _ s,?_,?_,?_,?_,r,a.kp,B,?_⟩;{rw[jq _ _ _ _ (by simp)];exact y};{rw[gW];exact t};{rw[gW];exact z};{have g:Dx (bs++[0])=Dx bs++[ι .u8 0]:=(by simp[Dx]);rw[g];exact x.kept (grownBy_setCell _ (Ad b 0) _) (.inr (by simp[Value.ownBlock,r]))};intro k j;have:=u.size;have:=a.old k j;simp[World.setCell];omega
theorem wY.cell{p:Nat}{bs:List Nat}{a:List Bool}(b:wY w m p x i t bs a) :
 m.cell? (Ad x (a.length / 8))=σ (ι .u8 ((bs.getD (a.length / 8) 0:Nat):Int))/\m.frozen? (Ad x (a.length / 8))=false/\a.length / 8<i/\bs.getD (a.length / 8) 0<256:=by have c:=b.lays.len;have d:=b.len;refine⟨?_,b.own.frozenAt _,by omega,wX b.lays.small _⟩;rw[b.own.cellAt _ (by omega),UC (by omega)]
theorem wY.done{bs:List Nat}(a:wY w m x i t r bs p)(b:Bool)(e:Int)
 (n:e=((bs.getD (p.length / 8) 0 ||| b.toNat*2 ^ (p.length % 8):Nat):Int)) (f:Int) (o:f=((p.length+1:Nat):Int)) :
 Writer w ((m.setCell (Ad i (p.length / 8)) (ι .u8 e)).setCell (Ad x 1) (ι κ f)).drew x (p++[b]):=by subst n o;have l:=a.len;subst l;obtain⟨u,_⟩:=a.own.stored (p.length / 8) (ι .u8 ((bs.getD (p.length / 8) 0 ||| b.toNat*2 ^ (p.length % 8):Nat):Int));have j:((Ad i (p.length / 8)):Addr)≠(Ad x 1):=λc=>a.apart (bn Addr.block c);have g:((Ad i (p.length / 8)):Addr)≠(Ad x 0):=λc=>a.apart (bn Addr.block c);refine⟨ψ (σ (Ad i 0)) bs.length r,bs.set (p.length / 8) (bs.getD (p.length / 8) 0 ||| b.toNat*2 ^ (p.length % 8)),a.lays.put b,?_,?_,?_,?_,?_,?_,a.kp,?_,?_⟩;{show World.cell? (World.setCell _ _ _) _=_;rw[jq _ _ _ _ (by simp),jq _ _ _ _ g];exact a.sl};{show World.cell? (World.setCell _ _ _) _=_;rw[az];exact mj _ _ _ ((jq _ _ _ _ j).trans a.used)};{show World.frozen? (World.setCell _ _ _) _=_;rw[gW,gW];exact a.f0};{show World.frozen? (World.setCell _ _ _) _=_;rw[gW,gW];exact a.f1};{have c:Dx (bs.set (p.length / 8) (bs.getD (p.length / 8) 0 ||| b.toNat*2 ^ (p.length % 8)))=(Dx bs).set (p.length / 8) (ι .u8 ((bs.getD (p.length / 8) 0 ||| b.toNat*2 ^ (p.length % 8):Nat):Int)):=(by simp only[Dx,List.map_set]);rw[c,ny];exact(u.kept (grownBy_setCell _ (Ad x 1) _) (.inr (by simp[Value.ownBlock,a.apart]))).drew};{simp[Value.ownBlock,a.apart]};{intro v d;simp[Value.ownBlock]at d;subst d;exact a.kg};intro s k;have:=a.old s k;simpa[World.setCell]using this
theorem wY.keeps{bs:List Nat}(a:wY w l x i t r bs p)(b:aX w m l)(c:Nat)(d e:υ) :
 aX w m ((l.setCell (Ad i c) d).setCell (Ad x 1) e).drew:=
 ((b.setCell a.kg _).setCell a.kp _).drew
theorem V8(old b a c:Nat)(n:old<256)(d:b<18446744073709551616) :
 bits BinOp.or IntKind.u8 (old:Int) (bits BinOp.and IntKind.u64 ((b:Int) / 2 ^ min a 64) 1 % 256*2 ^ (c % 8) % 256)=((old ||| (b.testBit a).toNat*2 ^ (c % 8):Nat):Int):=by
 have f:(b:Int) / 2 ^ min a 64=((b / 2 ^ min a 64:Nat):Int):=(by rw[Int.natCast_ediv];congr 1);have e:b / 2 ^ min a 64<18446744073709551616:=du (Nat.div_le_self _ _) d;have g:bits BinOp.and IntKind.u64 ((b / 2 ^ min a 64:Nat):Int) 1=((b / 2 ^ min a 64 &&& 1:Nat):Int):=u64_and_nat _ 1 e (by omega);have i:b / 2 ^ min a 64 &&& 1=(b.testBit a).toNat:=by
  rw[uf];by_cases m:a<=64;{rw[fA m,ES]}
  rw[mH (by omega),qz (ai d (show 18446744073709551616<=2 ^ a from by
   have:(2:Nat) ^ 64<=2 ^ a:=dU (by omega) (by omega);simpa using this))]
  have:b / 2 ^ 64=0:=Nat.div_eq_of_lt (by simpa using d);simp[this]
 have o:(b.testBit a).toNat*2 ^ (c % 8)<256:=(by have:2 ^ (c % 8)<=2 ^ 7:=dU (by omega) (by omega);cases b.testBit a<;>simp<;>omega);have j:((b.testBit a).toNat:Int) % 256*2 ^ (c % 8) % 256=(((b.testBit a).toNat*2 ^ (c % 8):Nat):Int):=(by have k:((b.testBit a).toNat:Int) % 256=((b.testBit a).toNat:Int):=(by cases b.testBit a<;>simp);rw[k];have l:((b.testBit a).toNat:Int)*2 ^ (c % 8)=(((b.testBit a).toNat*2 ^ (c % 8):Nat):Int):=(by rw[Int.natCast_mul,Int.natCast_pow];rfl);rw[l];exact Int.emod_eq_of_lt (by omega) (by omega));rw[f,g,i,j];exact u8_or_nat _ _ n o
end S
