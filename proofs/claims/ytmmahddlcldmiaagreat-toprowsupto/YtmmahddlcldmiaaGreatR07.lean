/- Proved here: plain facts and contracts. No condition but what each names. -/
import Derived.Test.YtmmahddlcldmiaaGreatR06
namespace Go.Proofs.YtmmahddlcldmiaaGreat
open Go.RowKit Go.Proofs.Tryz
open Go.RowKit Go.Maps
set_option maxRecDepth 100000
set_option maxHeartbeats 8000000
theorem sT{n:Nat}(s m:Tc):(l:List (Cl (n+1)))->(∀c∈l,lY c s m=none)->mT s m l=none
 | [],_=>rfl
 | c::l,h=>by
  simp only[mT,h c (by simp)];exact sT s m l λc a=>h c (bW _ a)
theorem xR{n:Nat}(s m:Tc):(l:List (Cl (n+1)))->(j:Nat)->(c:Cl (n+1))->(B:List Tc)->l[j]?=some c->lY c s m=some B->(∀d b,d<j->l[d]?=some b->lY b s m=none)->mT s m l=some (c,B)
 | [],j,c,B,h,_,_=>by simp at h
 | a::l,0,c,B,h,hB,_=>by
  simp only[dh,gZ]at h;subst h;simp only[mT,hB]
 | a::l,j+1,c,B,h,hB,hn=>by
  simp only[mT,hn 0 a (by omega) rfl];exact xR s m l j c B (by simpa using h) hB λd b f e=>hn (d+1) b (by omega) (by simpa using e)
theorem Bl{n:Nat}(l:List (Cl (n+1)))(s:Tc):(ms:List Tc)->(k:Nat)->(∀m∈ms,mT s m l=none)->sS l s ms k=none
 | [],_,_=>rfl
 | m::ms,k,h=>by
  simp only[sS,h m (by simp)];exact Bl l s ms (k+1) λm a=>h m (bW _ a)
theorem Bn{n:Nat}(l:List (Cl (n+1)))(s:Tc):(ms:List Tc)->(k i:Nat)->(m:Tc)->(x:Cl (n+1)×List Tc)->ms[i]?=some m->mT s m l=some x->(∀b c,b<i->ms[b]?=some c->mT s c l=none)->sS l s ms k=some (k+i,x)
 | [],k,i,m,x,h,_,_=>by simp at h
 | a::ms,k,0,m,x,h,hx,_=>by
  simp only[dh,gZ]at h;subst h;simp only[sS,hx,iY]
 | a::ms,k,i+1,m,x,h,hx,hn=>by
  simp only[sS,hn 0 a (by omega) rfl];rw[Bn l s ms (k+1) i m x (by simpa using h) hx λb c e d=>hn (b+1) c (by omega) (by simpa using d)];congr 2;omega
def Q2{n:Nat}(l:List (Cl (n+1)))(s:Tc)(ms:List Tc)(w:ag)(e:Ending)(w':ag):Prop:=
 (sS l s ms 0=none/\e=.returned (.tuple #[.agg GR.toArray,.bool false])/\Hid (am w w'))\/
  ∃(d:Nat)(a:Tc)(c:Cl (n+1))(b g:Nat),e=.returned (.tuple #[.agg (DJ d a c (some ⟨b,0,none⟩) 4 g).toArray,.bool true])/\Hid (∃f i j,sS l s ms 0=some (d,c,f)/\c∈l/\ms[d]?=some (cn 13 a)/\bJ 13 a=0/\am w w'/\In w'.heap.size w' 13 a/\cD (λh=>w.heap.size<h/\h≠b) 13 a/\rn (i+1) j f (w.heap.size+1) w' b g)
theorem rn.kept{D:Nat}{l:List (Tm D)}{B:List Tc}{e:Nat}{w w':ag}{c g q:Nat}(a:rn D l B e w c g)(d:bE (λb=>b=q) w w')(v:q<e):rn D l B e w' c g:=by
 obtain⟨k,f⟩:=a.new;have i:¬c=q:=by omega
 refine⟨a.bnd,a.tells,a.cap,⟨k,aW f d.size⟩,λo t n=>?_,λp=>?_⟩
 ·obtain⟨r,s,j⟩:=a.at' o t n;exact⟨r.kee d f i,s.kee d (j.mono λx m u=>by have:=m.1;omega),j⟩
 ·have h:=a.free p;unfold World.frozen? at h ⊢;rw[d.block c f i];exact h
theorem rn.mono{D:Nat}{l:List (Tm D)}{B:List Tc}{e f:Nat}{w:ag}{h g:Nat}(a:rn D l B e w h g)(j:f<=e):rn D l B f w h g:=
 ⟨a.bnd,a.tells,a.cap,⟨by have:=a.new.1;omega,a.new.2⟩,λc d b=>⟨(a.at' c d b).1,(a.at' c d b).2.1,(a.at' c d b).2.2.mono λk i=>⟨by omega,i.2⟩⟩,a.free⟩
theorem DL{n bI ax:Nat}{name:aq}{room:Int}{s:Tc}{ms:List Tc}{a4:Nat}{M:aO}{w:ag}{ws:List Wd}{nm:br}{bM:Wd}{vs:List Wd}{ma:ar}{bF:Nat}{Mh:aO}(an:cV bI ax name room 13 s ms [] a4 M w ws nm bM vs ma bF Mh)(l:List (Cl (n+1)))(aw:ar)(a1 B:Nat)(aS:qz B w 13 (fy (n+1)) (iE (n+1) B w) aw l)(aI:B<=w.heap.size)(bx:∀c∈l,qx c)(aW:a4<=50000)(bg:ms.length<=1000)(bt:l.length<=1000000):ao 76 #[aH ax,ae aw l.length a1] w (Q2 l (cn 13 s) (ms.map (cn 13)) w):=by
 have aQ:=an.front;have a0:=aQ.2.2.1 s (by simp);have aV:∀m∈ms,bJ 13 m=0/\aT 13 m=true:=λm ah=>aQ.2.2.1 m (bW _ ah)
 refine(Bk (N:=12) ax l aw l.length a1 ms.length w (λa j=>match l[j]?,ms[a]? with
     | some c,some m=>(lY c (cn 13 s) (cn 13 m)).isSome
     | _,_=>false)
  (λF G u=>aB 13 F 13 s=true/\In u.heap.size u 13 F/\aG (λp b=>aB 13 p 13 b) G ms=true/\am w u/\∀e∈G,In u.heap.size u 13 e/\cD (λU=>w.heap.size<U) 13 e)
  (λa j p len I r bc=>∃c m h q E v,l[j]?=some c/\ms[a]?=some m/\lY c (cn 13 s) (cn 13 m)=some h/\p=some ⟨v,0,none⟩/\len=4/\rn (q+1) E h r.heap.size bc v I) bt (by omega) rfl ?_ ?_ ?_).mono ?_
 ·intro a c z;rcases aS with g|⟨b,o,g,aK,d⟩
  ·rw[g]at z;simp at z
  ·exact⟨b,o,g,by omega,(d a c z).1⟩
 ·intro r i bu;refine((an.later (N:=12) i).state (N:=12) aW).mono ?_;rintro g bZ ⟨e,rfl,ba⟩;obtain⟨y1,y2,a8,bP⟩:=ba;refine⟨e,rfl,y1,λaC L=>?_⟩;have y:=i.trans (y1.mono i.size);have t:=y.trans (L.mono y.size);refine((an.later (N:=12) t).mails (N:=12) aW bg).mono ?_;rintro g bO ⟨G,bb,p,c,rfl,a9⟩;obtain⟨a2,T,a3⟩:=a9;have bh:bb=ms.length:=by rw[<-a2];exact cW _ _ _ a3
  subst bh;have O:am aC bO:=T.1;have bX:=i.size;have aX:=y1.size;have aY:=L.size;obtain⟨bS,Y,J,aD,Z,_⟩:=fF.lay (eG 13) (f:=iQ 13) (λ_=>rfl) T;injection J with J bT bU;subst J;refine⟨p,c,G,rfl,a2,O,λa X C=>?_,bP,((y2.below L).mono L.size |>.below O).mono O.size,a3,t.trans (O.mono t.size),λX C=>⟨(T.2.2 X C).1,(T.2.2 X C).2.mono λU S=>?_⟩⟩
  ·rcases Z with Z|⟨bf,o,be,P,d⟩
   ·rw[Z]at C;simp at C
   ·exact⟨bf,o,be,P,(d a X C).1⟩
  ·rcases S.1 with bR|bR
   ·omega
   ·omega
 ·rintro F G u r a j e c ⟨V,a7,W,ay,aA⟩ i A d;have bA:=aL A;have bs:a<ms.length:=by
   have:=(aZ.1 A).1;rw[cW _ _ _ W]at this;exact this
  have al:ms[a]?=some ms[a]:=aN bs;have D:=jV _ _ _ W a e ms[a] A al;have R:=aV ms[a] (iv _);have bn:=aL d;obtain⟨bG,bH,_⟩:=bx c bn;have bl:iE (n+1) B w c:=by
   rcases aS with g|⟨b,o,g,aK,bk⟩
   ·rw[g]at d;simp at d
   ·exact(bk j c d).2
  have aP:=ay.trans (i.mono ay.size);have bj:iE (n+1) r.heap.size r c:=(eP (n+1)).mono (aF aI aP.size) ((eP (n+1)).below (aP.mono aI) bl);have bp:=IG c (n:=n) (m:=12) (k:=12) F e r.heap.size r bj ((a7.below i).mono i.size) (((aA e bA).1.below i).mono i.size) (av _) bG bH ((cd V).trans a0.1) ((cR _ _ _ _ V).trans a0.2) ((cd D).trans R.1) ((cR _ _ _ _ D).trans R.2);refine bp.mono ?_;rintro g bN ⟨p,len,I,bL,rfl,H⟩;obtain⟨aa,x,aE⟩:=H.out;have J:cn (12+1) F=cn 13 s:=iK V;have aD:cn (12+1) e=cn 13 ms[a]:=iK D;rw[J,aD]at x aE
  have ab:(match l[j]?,ms[a]? with
   | some c,some m=>(lY c (cn 13 s) (cn 13 m)).isSome
   | _,_=>false)=bL:=by
   rw[d,al];exact x.symm
  refine⟨p,len,I,by rw[ab],aa,λP=>?_⟩;rw[ab]at P;rw[P]at x;obtain⟨h,aJ⟩:=gw.1 x.symm;obtain⟨bC,q,E,v,bD,au⟩:=aE h aJ;cases q with
  | zero=>
   have bV:=(iJ au.bnd).1;exact((au.at' 0 (E[0]'(by omega)) (aN _)).2.1).elim
  | succ q=>exact⟨c,ms[a],h,q,E,v,d,al,aJ,bD,bC,au⟩
 ·rintro g bN (⟨rfl,H⟩|⟨a,j,e,c,p,len,I,rfl,H⟩)
  ·obtain⟨aa,x⟩:=H.out;refine aj ⟨Bl l _ _ 0 λm ah=>sT _ _ l λc d=>?_,rfl,x⟩;obtain⟨bE,ai,rfl⟩:=cu.1 ah;obtain⟨a,z,rfl⟩:=List.mem_iff_getElem.1 ai;obtain⟨j,aR,rfl⟩:=List.mem_iff_getElem.1 d;have:=aa a j z aR;simp only[aN z,aN aR]at this;exact lw.1 (by rw[<-lA,this];rfl)
  ·obtain⟨F,G,u,aC,bd,⟨V,a7,W,ay,aA⟩,A,d,ab,bv,bw,aM,y,t,⟨Y,m,h,q,E,v,a5,K,bK,rfl,rfl,a6⟩,af,bu⟩:=H;rw[d]at a5;obtain rfl:=az a5;have D:=jV _ _ _ W a e m A K;have R:=aV m (aL K);have bo:cn 13 e=cn 13 m:=iK D;have bz:=aM.size;have aX:=y.size;have aY:=t.size;obtain⟨y1,y2⟩:=aA e (aL A);have bQ:=In.offB y2 y1;have bi:am w bd:=(aM.trans (y.mono bz)).trans (t.mono (by omega));refine ak ⟨a,e,c,v,I,rfl,h,q,E,?_,aL d,?_,(cd D).trans R.1,bi.trans (af.below (by omega) λb aK g=>by omega),?_,bQ.mono λU S=>⟨S.1,λg=>?_⟩,(a6.kept af (by omega)).mono (by omega)⟩
   ·have bm:mT (cn 13 s) (cn 13 m) l=some (c,h):=xR _ _ l j c h d bK λap Y Q ad=>by
      have:=bw ap Q;simp only[ad,K]at this;exact lw.1 (by rw[<-lA,this];rfl)
    have:=Bn l (cn 13 s) (ms.map (cn 13)) 0 a (cn 13 m) (c,h) (by rw[dn,K];rfl) bm λbB bY bq aU=>by
     rw[dn]at aU;obtain⟨bE,ai,rfl⟩:=cG.1 aU;refine sT _ _ l λY ad=>?_;obtain⟨ap,Q,rfl⟩:=List.mem_iff_getElem.1 ad;have:=bv bB ap bq Q;simp only[aN Q,ai]at this;exact lw.1 (by rw[<-lA,this];rfl)
    rw[this,cT]
   ·rw[dn,K,bo];rfl
   ·have a8:=((y1.below y).mono aX |>.below t).mono aY;exact a8.kee af (y2.mono λU S g=>by omega)
   ·have:=a6.new.1;omega
def ub:List au:=[ab 0,ab 0]
theorem wJ(w:ag)(ty:TypeId)(g o c:Nat)(a:Array au)(e:w.heap[g]?=some (.cells a 109 (0,0)))(d:o+2<=a.size):(Builtin.clear_ #[100] ty #[ae (some ⟨g,o,none⟩) 1 c]).run Tryz.prog w=.ok (.tuple #[]) (w.setRow g (a.toList.take o++ub++a.toList.drop (o+2)).toArray):=by
 have b:=pX Tryz.prog g o 109 ub 0 a w e (by simpa [ub]using d) (by simp[ub,Value.oneCell']);have h:(Builtin.zeroCells (Value.agg #[ab 0,ab 0]).cells 1).toList=ub:=by
  simp[Builtin.zeroCells,Value.cells,ub];rfl
 simp only[iY]at b;have f:ub.length=2:=rfl;rw[f]at b;simp[Builtin.clear_,cC underlying100,h,b]
theorem Jz(w:ag)(g a L c i:Nat)(f:L<=c)(h:i+1<=L):(Instr.slice 100 (ae (some ⟨g,a,none⟩) L c) (some (ab i)) (some (ab ((i:Int)+1))) (some (ab L))).run Tryz.prog w=.ok (ae (some ⟨g,a+i*2,none⟩) 1 (L-i)) w:=by
 have b:(i:Int)+1<=(L:Int):=by omega
 have d:¬L=i:=by omega
 have e:(0:Int)<=(i:Int)+1:=by omega
 simp[Instr.slice,cC underlying100,Instr.sliceBounds,Instr.sliceBound,asIntOf,b,d,e,f,go_sem,eU]
theorem AW(w:ag)(g a L c i:Nat)(d:i<=c):(Instr.slice 100 (ae (some ⟨g,a,none⟩) L c) none (some (ab i)) none).run Tryz.prog w=.ok (ae (some ⟨g,a,none⟩) i c) w:=by
 have b:¬c<i:=by omega
 simp[Instr.slice,cC underlying100,Instr.sliceBounds,Instr.sliceBound,asIntOf,b,go_sem]
theorem Dr(w:ag)(g a L c i:Nat)(h:i+1<=L):(Instr.slice 100 (ae (some ⟨g,a,none⟩) L c) (some (ab ((i:Int)+1))) none none).run Tryz.prog w=.ok (.slice (some (if c=i+1 then ⟨g,a,none⟩else ⟨g,a+(i+1)*2,none⟩)) (L-(i+1)) (c-(i+1))) w:=by
 have b:(i:Int)+1<=(L:Int):=by omega
 have e:(0:Int)<=(i:Int)+1:=by omega
 have f:((i:Int)+1).toNat=i+1:=by omega
 by_cases d:c=i+1
 ·simp[Instr.slice,cC underlying100,Instr.sliceBounds,Instr.sliceBound,asIntOf,b,d,e,f,go_sem,eU]
 ·simp[Instr.slice,cC underlying100,Instr.sliceBounds,Instr.sliceBound,asIntOf,b,d,e,f,go_sem,eU]
theorem Dq(w:ag)(g a m c:Nat)(f:m+1<=c):(Instr.slice 100 (ae (some ⟨g,a,none⟩) m c) (some (ab m)) (some (ab ((m:Int)+1))) none).run Tryz.prog w=.ok (ae (some ⟨g,a+m*2,none⟩) 1 (c-m)) w:=by
 have b:¬c=m:=by omega
 have d:(m:Int)+1<=(c:Int):=by omega
 have e:(0:Int)<=(m:Int)+1:=by omega
 simp[Instr.slice,cC underlying100,Instr.sliceBounds,Instr.sliceBound,asIntOf,b,d,e,go_sem,eU]
theorem xE{w w':ag}{v x' c:au}{b:Array Oper}{o:Oper}{a:Act}{K:Act->bt}{Q:Exit->Act->bt}{E:Prop}(e:o.guard=none)(s x:Operand)(f:o.op=.call {callee:=.builtin .append,args:= #[s,x],argTypes:= #[100,100]})(h:a.eval s=v)(j:a.eval x=x')(g:(Builtin.append_ #[100,100] o.type #[v,x']).run Tryz.prog w=.ok c w')(d:K (a.put o.dst c) w'):if Region.wanted o (yielded b a.tmps)=true then Oper.wp Tryz.prog o a w K Q else E:=by
 have i:Region.wanted o (yielded b a.tmps)=true:=by simp[Region.wanted,e]
 rw[if_pos i];unfold Oper.wp execOp;simp only[f,resolve,invoke,builtin,Sem.run_bind,Sem.run_pure,nH,nA,aV,cF,h,j,g];exact d
theorem Bw(g b a i L:Nat)(w:ag)(d:Addr)(c f:cX)(_hL:L<=a)(_hi:i+1<=L)(_hm:L<=1000000)(k:Hid (∀W,(Instr.slice 100 (ae (some ⟨g,b,none⟩) L a) (some (ab i)) (some (ab ((i:Int)+1))) (some (ab L))).run Tryz.prog W=.ok (ae (some ⟨g,b+i*2,none⟩) 1 (L-i)) W))(l:Hid (∀W,(Instr.slice 100 (ae (some ⟨g,b,none⟩) L a) none (some (ab i)) none).run Tryz.prog W=.ok (ae (some ⟨g,b,none⟩) i a) W))(m:Hid (∀W,(Instr.slice 100 (ae (some ⟨g,b,none⟩) L a) (some (ab ((i:Int)+1))) none none).run Tryz.prog W=.ok (ae (some d) (L-(i+1)) (a-(i+1))) W))(h:Hid (∀ty,(Builtin.append_ #[100,100] ty #[ae (some ⟨g,b,none⟩) i a,ae (some d) (L-(i+1)) (a-(i+1))]).run Tryz.prog w.drew=.ok (ae (some ⟨g,b,none⟩) (L-1:Nat) a) (w.drew.setRow g c.toArray)))(n:Hid (∀W,(Instr.slice 100 (ae (some ⟨g,b,none⟩) (L-1:Nat) a) (some (ab (L-1:Nat))) (some (ab L)) none).run Tryz.prog W=.ok (ae (some ⟨g,b+(L-1)*2,none⟩) 1 (a-(L-1))) W))(j:Hid (∀ty,(Builtin.clear_ #[100] ty #[ae (some ⟨g,b+(L-1)*2,none⟩) 1 (a-(L-1))]).run Tryz.prog (w.drew.setRow g c.toArray)=.ok (.tuple #[]) ((w.drew.setRow g c.toArray).setRow g f.toArray))):ao 78 #[ae (some ⟨g,b,none⟩) L a,ab i,ab ((i:Int)+1)] w λe w'=>e=.returned (ae (some ⟨g,b,none⟩) (L-1:Nat) a)/\w'=(w.drew.setRow g c.toArray).setRow g f.toArray:=by
 have u:=k.out;have v:=l.out;have x:=m.out;have s:=n.out;have r:=j.out;have o:=h.out 100;clear k l m n j h;have t:¬(i:Int)=(i:Int)+1:=by omega
 obtain⟨q,p⟩:∃q:Nat,q=L-1:=⟨_,rfl⟩;rw[<-p]at s o r ⊢;clear p;go_enter func78,ntmps78;go_wp2_with fail;go_region_held3 (λ_=>True) (trivial) ((first|(refine xE rfl _ _ rfl (by simp[Act.eval]) (by simp[Act.eval]) o ?_)));go_wp2_with fail
 go_ret
 exact⟨rfl,rfl⟩
theorem zO(g a d i:Nat)(vs:List Wd)(c:Array au)(w:ag)(R:i<vs.length)(u:w.heap[g]?=some (.cells c 109 (0,0)))(B:vs.length<=d)(M:vs.length<=1000000)(S:a+d*2<=c.size)(D:(c.toList.drop a).take (vs.length*2)=bq vs):ao 78 #[ae (some ⟨g,a,none⟩) vs.length d,ab i,ab ((i:Int)+1)] w λe w'=>e=.returned (ae (some ⟨g,a,none⟩) (vs.length-1:Nat) d)/\Hid (bE (λb=>b=g) w w'/\w'.heap.size=w.heap.size/\∃p,w'.heap[g]?=some (.cells p 109 (0,0))/\p.size=c.size/\(p.toList.drop a).take ((vs.length-1)*2)=bq (vs.eraseIdx i)):=by
 obtain⟨Q,K,T,x,U⟩:=bY lO;have v:c.toList.length=c.size:=iR;obtain⟨k,n⟩:∃k,k=bq (vs.drop (i+1)):=⟨_,rfl⟩;have t:k.length=(vs.length-(i+1))*2:=by rw[n,cP,fw]
 have H:∀f l,k[f]?=some l->c.toList[a+(i+1)*2+f]?=some l:=λf l m=>by
  have L:=(aZ.1 m).1;have y:(bq vs)[(i+1)*2+f]?=some l:=by
   rw[<-m,n];have:=tZ vs (i+1) (vs.length-(i+1)) f (by omega);rw[bD (by simp)]at this;exact this.symm
  rw[<-D,jG,if_pos (by omega),lm]at y;rw[show a+(i+1)*2+f=a+((i+1)*2+f) by omega];exact y
 have N:∀h:ag,h.heap[g]?=some (.cells c 109 (0,0))->∀f l,k[f]?=some l->h.cell? ((if d=i+1 then (⟨g,a,none⟩:Addr)else ⟨g,a+(i+1)*2,none⟩).add f)=some l:=λh I f l m=>by
  have L:=(aZ.1 m).1;by_cases G:d=i+1
  ·omega
  ·rw[if_neg G,eU,ah I];exact H f l m
 have o:=λty:TypeId=>oS (P:=Tryz.prog) w.drew 100 ty 109 Q underlying100 K g a i d c u (if d=i+1 then (⟨g,a,none⟩:Addr)else ⟨g,a+(i+1)*2,none⟩) (vs.length-(i+1)) (d-(i+1)) k (by rw[t,x]) (N w.drew u) (by rw[n];exact rh _) (by omega) (by rw[x,t];omega);simp only[x]at o;rw[show i+(vs.length-(i+1))=vs.length-1 by omega]at o;obtain⟨j,r⟩:∃j,j=c.toList.take (a+i*2)++k++c.toList.drop (a+i*2+k.length):=⟨_,rfl⟩;rw[<-r]at o;have s:j.length=c.size:=by
  rw[r];simp only[bz,dK,fw,v];omega
 have A:(w.drew.setRow g j.toArray).heap[g]?=some (.cells j.toArray 109 (0,0)):=setRow_heap w.drew g c _ _ _ u;have J:=λty:TypeId=>wJ (w.drew.setRow g j.toArray) ty g (a+(vs.length-1)*2) (d-(vs.length-1)) j.toArray A (by simp only[ew,s];omega);have z:=λh=>Dq h g a (vs.length-1) d (by omega);rw[show (((vs.length-1:Nat):Int)+1)=(vs.length:Int) by omega]at z;refine(Bw g a d i vs.length w _ j _ B (by omega) M (λh=>Jz h g a vs.length d i B (by omega)) (λh=>AW h g a vs.length d i (by omega)) (λh=>Dr h g a vs.length d i (by omega)) o z J).mono ?_;rintro e w' ⟨rfl,rfl⟩;refine⟨rfl,⟨rfl,rfl,rfl,by simp,λb _ C=>(setRow_other _ _ _ _ C).trans (setRow_other _ _ _ _ C)⟩,by simp,_,setRow_heap _ _ _ _ _ _ A,?_,?_⟩
 ·have O:ub.length=2:=rfl;simp only[ew,bz,dK,fw,s,O];omega
 ·have q:(j.take (a+(vs.length-1)*2)).length=a+(vs.length-1)*2:=by rw[dK,s];omega
  rw[lg,ny (by rw[q];omega),iW (by rw[fw,q];omega),bD (by rw[fw,q];omega)];have E:j.take (a+(vs.length-1)*2)=c.toList.take (a+i*2)++k:=by
   rw[r];exact List.take_left' (by rw[bz,dK,t,v];omega)
  rw[E,ny (by rw[dK,v];omega),List.drop_take];have F:(c.toList.drop a).take (i*2)=bq (vs.take i):=by
   have:=congrArg (List.take (i*2)) D;rw[List.take_take,Nat.min_eq_left (by omega)]at this;rw[this]
   conv=>lhs;rw[<-iA i vs,qt]
   exact List.take_left' (by rw[cP,dK];omega)
  rw[show a+i*2-a=i*2 by omega,F,n,<-qt,tz]
def PO(y0 y1:Int)(y2:aq)(ya:ar)(yl yc:Nat)(f:Int)(sa:ar)(sl sc:Nat)(pa:ar)(pl pc:Nat)(ka:ar)(kl kc:Nat):au:=.agg #[ab y0,ab y1,af y2,ae ya yl yc,ab f,ae sa sl sc,ae pa pl pc,ae ka kl kc]
def N2:au:=.agg #[ab 0,ab 0,af ⟨#[]⟩,ae none 0 0,ab 0,ae none 0 0,ae none 0 0,ae none 0 0]
def Q7{n:Nat}(d:Int)(rng:Bool)(j:Prop)(T:Nat->Tc->Cl (n+1)->Int->ar->Nat->Nat->ar->Nat->Nat->ar->Nat->Nat->bt)(w:ag)(e:Ending)(w':ag):Prop:=
 (∃g,e=.returned (.tuple #[N2,ab g])/\Hid (am w w'/\((g=d/\d≠0)\/(g=1/\d=0/\rng=false)\/(g=4/\d=0/\rng=true/\j))))\/
  ∃(k:Nat)(a:Tc)(c:Cl (n+1))(f:Int)(sa:ar)(sl sc:Nat)(pa:ar)(pl pc:Nat)(ka:ar)(kl kc:Nat),e=.returned (.tuple #[PO a.1.1 a.1.2.1 a.1.2.2 a.2.1.1 a.2.2.length a.2.1.2 f sa sl sc pa pl pc ka kl kc,ab 0])/\Hid (d=0/\rng=true/\∃h i,T k a c f sa sl sc pa pl pc ka kl kc h/\am h i/\bE (λb=>b=w.heap.size) i w')
theorem CP(w:ag)(q:Nat)(v0 v1 v2 v3 a b c d:au):(((((((w.setCell ⟨q,0,none⟩ v0).setCell ⟨q,1,none⟩ v1).setCell ⟨q,2,none⟩ v2).setCell ⟨q,3,none⟩ v3).setCell ⟨q,4,none⟩ a).setCell ⟨q,5,none⟩ b).setCell ⟨q,6,none⟩ c).setCell ⟨q,7,none⟩ d=w.setCells q 0 [v0,v1,v2,v3,a,b,c,d]:=rfl
theorem Gh{w:ag}{q:Nat}{f g h i a b c d:au}{t:TypeId}(e:w.heap[q]?=some (.cells #[f,g,h,i,a,b,c,d] t))(v0 v1 v2 v3:au):((((w.setCell ⟨q,0,none⟩ v0).setCell ⟨q,1,none⟩ v1).setCell ⟨q,2,none⟩ v2).setCell ⟨q,3,none⟩ v3).heap[q]?=some (.cells #[v0,v1,v2,v3,a,b,c,d] t):=by
 unfold World.setCell;simp[bT,e]
theorem IP{w:ag}{q:Nat}{v0 v1 v2 v3 a f g h:au}{t:TypeId}(e:w.heap[q]?=some (.cells #[v0,v1,v2,v3,a,f,g,h] t))(b c d:au):(((w.setCell ⟨q,5,none⟩ b).setCell ⟨q,6,none⟩ c).setCell ⟨q,7,none⟩ d).heap[q]?=some (.cells #[v0,v1,v2,v3,a,b,c,d] t):=by
 unfold World.setCell;simp[bT,e]
theorem ye:(Tryz.prog.info? 117).map (·.size)=some 8:=by kernel_rfl
theorem ij{W:ag}{q:Nat}(vs:cX)(a:vs.length=8)(b:W.there q 0 8):(loadVar 117 ⟨q,0,none⟩).run Tryz.prog (W.setCells q 0 vs)=.ok (.agg vs.toArray) (W.setCells q 0 vs):=
 run_loadVar_mid (P:=Tryz.prog) (W.setCells q 0 vs) q 0 117 vs _ (World.rangeAt_setCells_same W q 0 vs (by rw[a];exact b)) underlying117 rfl (by rw[a];exact ye)
theorem B6{W:ag}{q:Nat}(vs:cX)(a:vs.length=8)(b:W.there q 0 8):(loadVar 117 ⟨q,0,none⟩).run Tryz.prog (W.setCells q 0 vs).drew=.ok (.agg vs.toArray) (W.setCells q 0 vs).drew:=
 run_loadVar_mid (P:=Tryz.prog) (W.setCells q 0 vs).drew q 0 117 vs _ ((World.rangeAt_drew _ _ _ _).2 (World.rangeAt_setCells_same W q 0 vs (by rw[a];exact b))) underlying117 rfl (by rw[a];exact ye)
theorem kY{w W:ag}{q:Nat}(vs:cX)(a:am w W)(d:q=w.heap.size):am w (W.setCells q 0 vs):=a.trans ((eQ q vs 0 W).1.below a.size λb c e=>by omega)
theorem I3{n:Nat}(z:Nat)(name:aq)(bY:ar)(L bZ:Nat)(self next:Int)(aP:Int)(cG:ar)(cF cH:Nat)(w:ag)(cE:Prop)(K bQ:Nat->Tc->Cl (n+1)->Nat->Nat->bt)(T:Nat->Tc->Cl (n+1)->Int->ar->Nat->Nat->ar->Nat->Nat->ar->Nat->Nat->bt)(rng:Bool)(aE:aO)(dl:z<w.heap.size)(cq:Hid (∀b,aE b->b<w.heap.size))(c9:Hid (aE z))(a2:Hid (rng=(decide (1<=self) && decide (self<=99) && decide (1<=next) && decide (next<=92))))(ct:Hid (∀W,am w W->ao 37 #[ae bY L bZ] W λe w'=>∃y0 y1 y2 ya yl yc,e=.returned (.tuple #[.agg #[ab y0,ab y1,af y2,ae ya yl yc],ab aP])/\Hid (am W w')))(c8:Hid (ai w z 0 (af name)))(cf:Hid (∀W,aP=0->am w W->ao 77 #[ae bY L bZ,af name] W λe w'=>e=.returned (ae cG cF cH)/\Hid (am W w')))(cd:Hid (∀W,aP=0->rng=true->am w W->ao 76 #[aH z,ae cG cF cH] W λe w'=>(e=.returned (.tuple #[.agg GR.toArray,.bool false])/\Hid (am W w'/\cE))\/∃(i:Nat)(y:Tc)(c:Cl (n+1))(l r:Nat),e=.returned (.tuple #[.agg (DJ i y c (some ⟨l,0,none⟩) 4 r).toArray,.bool true])/\Hid (am W w'/\W.heap.size<=l/\l<w'.heap.size/\i<=1000000/\K i y c l r w')))(cn:Hid (∀i y c l r a1 W,K i y c l r a1->am a1 W->∃ma aV aU,(ai W z 7 (ae ma aV aU)/\W.frozen? ⟨z,7,none⟩=false)/\Hid (∀bR,am W bR->ao 78 #[ae ma aV aU,ab i,ab ((i:Int)+1)] bR λe w'=>∃bk bm bl,e=.returned (ae bk bm bl)/\Hid (bE aE bR w'/\ai w' z 7 (ae ma aV aU)/\w'.frozen? ⟨z,7,none⟩=false/\bQ i y c l r (w'.setCell ⟨z,7,none⟩ (ae bk bm bl))))))(ci:Hid (∀i y c l r a1 W m,bQ i y c l r a1->am a1 W->a1.heap.size<=m->W.heap[m]?=some (.cells #[ae (some ⟨l,0,none⟩) 4 r,ab self,ab next,ae none 0 0,ae none 0 0,ae none 0 0,.bool false] 170)->ao 79 #[aH z,QN c,aH m] W λe w'=>∃f,e=.returned (ab f)/\Hid (bE (λb=>aE b\/b=m\/b=l) W w'/\(f=0\/f=1->∃v0 v1 v2 cZ sa sl sc pa pl pc ka kl kc,w'.heap[m]?=some (.cells #[v0,v1,v2,ae sa sl sc,ae pa pl pc,ae ka kl kc,cZ] 170)/\T i y c f sa sl sc pa pl pc ka kl kc w')/\(¬(f=0\/f=1)->T i y c f none 0 0 none 0 0 none 0 0 w')))):ao 45 #[aH z,ae bY L bZ,ab self,ab next] w (Q7 aP rng cE T w):=by
 have cx:Hid (∃bn aX bF,(bn=w.alloc bF/\aX=w.heap.size/\bF=.cells #[ab 0,ab 0,af ⟨#[]⟩,ae none 0 0,ab 0,ae none 0 0,ae none 0 0,ae none 0 0] 117)/\am w bn/\bn.heap[aX]?=some bF/\w.heap.size<bn.heap.size/\Hid (aX=w.heap.size)):=⟨_,_,_,⟨rfl,rfl,rfl⟩,aS _ _,aD _ _,by simp,rfl⟩;go_enter func45,ntmps45;go_upto_region 1 with fail;obtain⟨bn,j,bF,⟨bX,cR,cQ⟩,cN,bW,cP,aa⟩:=cx.out;rw[cQ]at bX bW;rw[<-bX,<-cR];have br:=ap cN;have bJ:=ap bW;have ck:=ap cP;clear bX cR cQ cN bW cP cx;go_wp2_with fail;refine(ct _ br).mono ?_;rintro e b9 ⟨y0,y1,y2,ya,yl,yc,rfl,bp⟩;have bG:=ap (br.trans (bp.mono br.size));have bK:Hid (b9.heap[j]?=_):=(bp.block j (aI.1 bJ).1).trans bJ;have cl:=ap (aW ck bp.size);clear bp bJ br ck ct;have cA:Hid (∃U,U=b9.alloc (.cells #[ab y0,ab y1,af y2,ae ya yl yc] 31)/\am b9 U):=⟨_,rfl,aS _ _⟩;go_upto_region 2 with fail;obtain⟨U,cW,bD⟩:=cA.out;rw[<-cW];have Y:=ap (bG.trans (bD.mono bG.size));have d:Hid (U.heap[j]?=_):=(bD.block j (aI.1 bK).1).trans bK;have cm:=ap (aW cl bD.size);clear cW bD cA bK bG cl;by_cases bB:aP=0;rotate_left
 ·have c5:=ap bB;have D:=ah d 0;have E:=ah d 1;have F:=ah d 2;have G:=ah d 3;have H:=ah d 4;have I:=ah d 5;have J:=ah d 6;have M:=ah d 7;simp only[dh,dy]at D E F G H I J M;have aY:∀g,U.frozen? ⟨j,g,none⟩=false:=λg=>by simp[World.frozen?,d.out]
  go_wp2_with fail;rw[CP];refine ay (v:=.tuple #[N2,ab aP]) (results_cell_tmp results45 rfl (ij _ rfl (dO d)) rfl) rfl ?_;exact aj ⟨aP,rfl,kY _ Y aa,aj ⟨rfl,c5⟩⟩
 ·have cg:=ap λW=>cf W bB;have ce:=ap λW=>cd W bB;clear cf cd;subst bB;cases hr:rng
  ·rw[hr]at a2;have da:=ap a2.out;clear a2;by_cases dm:self<1
   ·have D:=ah d 0;have E:=ah d 1;have F:=ah d 2;have G:=ah d 3;have H:=ah d 4;have I:=ah d 5;have J:=ah d 6;have M:=ah d 7;simp only[dh,dy]at D E F G H I J M;have aY:∀g,U.frozen? ⟨j,g,none⟩=false:=λg=>by simp[World.frozen?,d.out]
    go_wp2_with fail;rw[CP];refine ay (v:=.tuple #[N2,ab 1]) (results_cell_tmp results45 rfl (ij _ rfl (dO d)) rfl) rfl ?_;exact aj ⟨1,rfl,kY _ Y aa,ak (aj ⟨rfl,rfl,by first|rfl|exact hr⟩)⟩
   ·by_cases dn:99<self
    ·have D:=ah d 0;have E:=ah d 1;have F:=ah d 2;have G:=ah d 3;have H:=ah d 4;have I:=ah d 5;have J:=ah d 6;have M:=ah d 7;simp only[dh,dy]at D E F G H I J M;have aY:∀g,U.frozen? ⟨j,g,none⟩=false:=λg=>by simp[World.frozen?,d.out]
     go_wp2_with fail;rw[CP];refine ay (v:=.tuple #[N2,ab 1]) (results_cell_tmp results45 rfl (ij _ rfl (dO d)) rfl) rfl ?_;exact aj ⟨1,rfl,kY _ Y aa,ak (aj ⟨rfl,rfl,by first|rfl|exact hr⟩)⟩
    ·by_cases dp:next<1
     ·have D:=ah d 0;have E:=ah d 1;have F:=ah d 2;have G:=ah d 3;have H:=ah d 4;have I:=ah d 5;have J:=ah d 6;have M:=ah d 7;simp only[dh,dy]at D E F G H I J M;have aY:∀g,U.frozen? ⟨j,g,none⟩=false:=λg=>by simp[World.frozen?,d.out]
      go_wp2_with fail;rw[CP];refine ay (v:=.tuple #[N2,ab 1]) (results_cell_tmp results45 rfl (ij _ rfl (dO d)) rfl) rfl ?_;exact aj ⟨1,rfl,kY _ Y aa,ak (aj ⟨rfl,rfl,by first|rfl|exact hr⟩)⟩
     ·by_cases dq:92<next
      ·have D:=ah d 0;have E:=ah d 1;have F:=ah d 2;have G:=ah d 3;have H:=ah d 4;have I:=ah d 5;have J:=ah d 6;have M:=ah d 7;simp only[dh,dy]at D E F G H I J M;have aY:∀g,U.frozen? ⟨j,g,none⟩=false:=λg=>by simp[World.frozen?,d.out]
       go_wp2_with fail;rw[CP];refine ay (v:=.tuple #[N2,ab 1]) (results_cell_tmp results45 rfl (ij _ rfl (dO d)) rfl) rfl ?_;exact aj ⟨1,rfl,kY _ Y aa,ak (aj ⟨rfl,rfl,by first|rfl|exact hr⟩)⟩
      ·exfalso;have k:=da.out;have bS:1<=self:=by omega
       have bT:self<=99:=by omega
       have bU:1<=next:=by omega
       have bV:next<=92:=by omega
       simp[bS,bT,bU,bV]at k
  ·rw[hr]at a2;have db:=ap a2.out;have ⟨bS,bT,bU,bV⟩:1<=self/\self<=99/\1<=next/\next<=92:=by
    have k:=db.out;simp only[Bool.true_eq,aK,cw]at k;exact⟨k.1.1.1,k.1.1.2,k.1.2,k.2⟩
   have dm:¬self<1:=by omega
   have dn:¬99<self:=by omega
   have dp:¬next<1:=by omega
   have dq:¬92<next:=by omega
   have dk:ai U z 0 (af name):=(Y.cell (p:=⟨z,0,none⟩) dl).trans c8;have c3:=ap λW=>ce W hr;clear bS bT bU bV a2 ce;go_wp2_with fail;refine(cg U Y).mono ?_;rintro e dI ⟨rfl,bq⟩;have a6:=ap (Y.trans (bq.mono Y.size));have bx:=ap ((bq.block j (aI.1 d).1).trans d);have c6:=ap (aW cm bq.size);clear bq cg d Y cm dk;go_wp2_with fail;refine(c3 dI a6).mono ?_;rintro e ad (⟨rfl,P⟩|⟨i,y,c,l,r,rfl,P⟩)
   ·have aG:=ap (a6.trans (P.1.mono a6.size));have aZ:=ap ((P.1.block j (aI.1 bx).1).trans bx);have a9:Hid (∃A a,(A=ad.alloc (.cells #[ab 0,ab 0,ab 0,af ⟨#[]⟩,ae none 0 0,ab 0,ab 0,af ⟨#[]⟩,ae none 0 0,ab 0,ab 0,af ⟨#[]⟩,ae none 0 0,ae none 0 0,ab 0,ab 0,af ⟨#[]⟩,ae none 0 0,ae none 0 0] 164)/\a=ad.heap.size)/\Hid (am ad A/\A.heap[a]?=some (.cells #[ab 0,ab 0,ab 0,af ⟨#[]⟩,ae none 0 0,ab 0,ab 0,af ⟨#[]⟩,ae none 0 0,ab 0,ab 0,af ⟨#[]⟩,ae none 0 0,ae none 0 0,ab 0,ab 0,af ⟨#[]⟩,ae none 0 0,ae none 0 0] 164)/\ad.heap.size<=a)):=⟨_,_,⟨rfl,rfl⟩,aS _ _,aD _ _,av _⟩;dsimp only
    iterate 13 go_step
    obtain⟨A,a,⟨bh,bf⟩,B⟩:=a9.out;rw[<-bh,<-bf];clear bh bf;have a0:Hid (A.there a 0 19):=dO B.2.1;have aN:=ap (aI.1 aZ).1;have ba:Hid (∃wf,wf=A.setCells a 0 GR.toArray.toList/\Hid (bE (λaX=>aX=a) A wf)):=⟨_,rfl,(eQ a _ 0 A).1⟩;refine wpList_store_mid rfl 164 (.tmp 12) (.tmp 49) rfl a 0 GR.toArray rfl rfl a0 jl FE ?_;obtain⟨wf,bj,an⟩:=ba.out;rw[<-bj];clear bj a0 ba a9;have c1:=ap ((aG.trans (B.1.mono aG.size)).trans (an.below (by have:=aG.size;have:=B.1.size;omega) λb bd e=>by have:=aG.size;have:=B.2.2;omega));have Z:=ap ((an.block j (aW aN B.1.size) (λe=>by have:=aN.out;have:=B.2.2;omega)).trans ((B.1.block j aN).trans aZ));have c7:=ap P.2;clear an aZ aG P B;have D:=ah Z 0;have E:=ah Z 1;have F:=ah Z 2;have G:=ah Z 3;have H:=ah Z 4;have I:=ah Z 5;have J:=ah Z 6;have M:=ah Z 7;simp only[dh,dy]at D E F G H I J M;have aY:∀g,wf.frozen? ⟨j,g,none⟩=false:=λg=>by simp[World.frozen?,Z.out]
    go_wp2_with fail;rw[CP];refine ay (v:=.tuple #[N2,ab 4]) (results_cell_tmp results45 rfl (ij _ rfl (dO Z)) rfl) rfl ?_;exact aj ⟨4,rfl,kY _ c1 aa,ak (ak ⟨rfl,rfl,hr,c7⟩)⟩
   ·have aG:=ap (a6.trans (P.1.mono a6.size));have aZ:=ap ((P.1.block j (aI.1 bx).1).trans bx);have a9:Hid (∃A a,(A=ad.alloc (.cells #[ab 0,ab 0,ab 0,af ⟨#[]⟩,ae none 0 0,ab 0,ab 0,af ⟨#[]⟩,ae none 0 0,ab 0,ab 0,af ⟨#[]⟩,ae none 0 0,ae none 0 0,ab 0,ab 0,af ⟨#[]⟩,ae none 0 0,ae none 0 0] 164)/\a=ad.heap.size)/\Hid (am ad A/\A.heap[a]?=some (.cells #[ab 0,ab 0,ab 0,af ⟨#[]⟩,ae none 0 0,ab 0,ab 0,af ⟨#[]⟩,ae none 0 0,ab 0,ab 0,af ⟨#[]⟩,ae none 0 0,ae none 0 0,ab 0,ab 0,af ⟨#[]⟩,ae none 0 0,ae none 0 0] 164)/\ad.heap.size<=a)):=⟨_,_,⟨rfl,rfl⟩,aS _ _,aD _ _,av _⟩;dsimp only
    iterate 13 go_step
    obtain⟨A,a,⟨bh,bf⟩,B⟩:=a9.out;rw[<-bh,<-bf];clear bh bf;have a0:Hid (A.there a 0 19):=dO B.2.1;have aN:=ap (aI.1 aZ).1;have ba:Hid (∃wf,wf=A.setCells a 0 (DJ i y c (some ⟨l,0,none⟩) 4 r).toArray.toList/\Hid (wf.rangeAt a 0 (DJ i y c (some ⟨l,0,none⟩) 4 r)/\bE (λaX=>aX=a) A wf)):=⟨_,rfl,World.rangeAt_setCells_same A a 0 _ a0,(eQ a _ 0 A).1⟩;refine wpList_store_mid rfl 164 (.tmp 12) (.tmp 49) rfl a 0 (DJ i y c (some ⟨l,0,none⟩) 4 r).toArray rfl rfl a0 jl (FF i y c _ 4 r) ?_;obtain⟨wf,bj,an⟩:=ba.out;rw[<-bj];clear bj a0 ba a9;have bs:Hid (am ad wf):=B.1.trans (an.2.below B.1.size λb bd e=>by have:=B.2.2;omega);have bu:Hid (∀W:ag,wf.heap[a]?=W.heap[a]? ->W.rangeAt a 0 (DJ i y c (some ⟨l,0,none⟩) 4 r)):=λW dg g v be=>by
     have:=an.1 g v be;simp only[World.cell?,<-dg]at this ⊢;exact this
    have bM:=ap B.2.2;have a7:Hid (a<wf.heap.size):=aW (aI.1 B.2.1).1 an.2.size;have c0:ai wf a 0 (ab i):=an.1 0 _ rfl;clear B an;obtain⟨ma,aV,aU,⟨bA,f7⟩,c4⟩:=cn.out i y c l r ad wf P.2.2.2.2 bs;have c2:=ap (⟨P.2.1,P.2.2.1⟩:_/\_);have dU:(i:Int)<=1000000:=by have:=P.2.2.2.1;omega
    have dT:(0:Int)<=(i:Int):=by omega
    have dW:IntKind.i64.wrap ((i:Int)+1)=(i:Int)+1:=by
     rw[IntKind.wrap_i64];omega
    clear P cn;go_upto_region 9 with fail;have ca:Hid (am wf wf.drew):=(aA _ _).drew;have Q:wf.drew.cell? ⟨z,7,none⟩=some (ae ma aV aU)/\wf.drew.cell? ⟨a,0,none⟩=some (ab i):=⟨bA,c0⟩;clear bA c0 f7;refine wp_region_noPanic ?_;refine jZ (λw'=>ai w' z 7 (ae ma aV aU)/\ai w' a 0 (ab i)) 13 (by kernel_rfl) ?_
    try simp only[ew]
    refine bi (i:=0) (v:= ?_) rfl (by kernel_rfl) (by kernel_rfl) (by kernel_rfl) (by kernel_rfl) (λ_ _ _ k=>k) rfl ?_ Q ?_;rotate_left
    ·intro w' s
     try dsimp only at s
     go_simp
     try with_reducible rfl
    try simp only[Act.put]
    refine bi (i:=1) (v:= ?_) rfl (by kernel_rfl) (by kernel_rfl) (by kernel_rfl) (by kernel_rfl) (λ_ _ _ k=>k) rfl ?_ Q ?_;rotate_left
    ·intro w' s
     try dsimp only at s
     go_simp
     try with_reducible rfl
    try simp only[Act.put]
    refine bi (i:=2) (v:= ?_) rfl (by kernel_rfl) (by kernel_rfl) (by kernel_rfl) (by kernel_rfl) (λ_ _ _ k=>k) rfl ?_ Q ?_;rotate_left
    ·intro w' s
     try dsimp only at s
     go_simp
     try with_reducible rfl
    try simp only[Act.put]
    refine bi (i:=3) (v:= ?_) rfl (by kernel_rfl) (by kernel_rfl) (by kernel_rfl) (by kernel_rfl) (λ_ _ _ k=>k) rfl ?_ Q ?_;rotate_left
    ·intro w' s
     try dsimp only at s
     go_simp
     try with_reducible rfl
    try simp only[Act.put]
    refine bi (i:=4) (v:= ?_) rfl (by kernel_rfl) (by kernel_rfl) (by kernel_rfl) (by kernel_rfl) (λ_ _ _ k=>k) rfl ?_ Q ?_;rotate_left
    ·intro w' s
     try dsimp only at s
     go_simp
     try with_reducible rfl
    try simp only[Act.put]
    refine bi (i:=5) (v:= ?_) rfl (by kernel_rfl) (by kernel_rfl) (by kernel_rfl) (by kernel_rfl) (λ_ _ _ k=>k) rfl ?_ Q ?_;rotate_left
    ·intro w' s
     try dsimp only at s
     go_simp
     try with_reducible rfl
    try simp only[Act.put]
    refine bi (i:=6) (v:= ?_) rfl (by kernel_rfl) (by kernel_rfl) (by kernel_rfl) (by kernel_rfl) (λ_ _ _ k=>k) rfl ?_ Q ?_;rotate_left
    ·intro w' s
     try dsimp only at s
     go_simp
     try with_reducible rfl
    try simp only[Act.put]
    refine bi (i:=7) (v:= ?_) rfl (by kernel_rfl) (by kernel_rfl) (by kernel_rfl) (by kernel_rfl) (λ_ _ _ k=>k) rfl ?_ Q ?_;rotate_left
    ·intro w' s
     try dsimp only at s
     go_simp
     try with_reducible rfl
    try simp only[Act.put]
    refine bi (i:=8) (v:= ?_) rfl (by kernel_rfl) (by kernel_rfl) (by kernel_rfl) (by kernel_rfl) (λ_ _ _ k=>k) rfl ?_ Q ?_;rotate_left
    ·intro w' s
     try dsimp only at s
     go_simp
     try with_reducible rfl
    try simp only[Act.put]
    refine bi (i:=9) (v:= ?_) rfl (by kernel_rfl) (by kernel_rfl) (by kernel_rfl) (by kernel_rfl) (λ_ _ _ k=>k) rfl ?_ Q ?_;rotate_left
    ·intro w' s
     try dsimp only at s
     go_simp
     try with_reducible rfl
    try simp only[Act.put]
    refine dr (i:=10) (by kernel_rfl) rfl rfl (λK aJ=>?_) (by decide)
    go_simp
    refine(c4 _ ca).mono ?_;rintro e bo ⟨bk,bm,bl,rfl,a3⟩;have bI:Hid (bE aE wf bo):=(aR ca aE).trans a3.1 λ_ _ e=>e;have bc:ai bo z 7 (ae ma aV aU)/\ai bo a 0 (ab i):=⟨a3.2.1,(bI.cell 0 a7 (λe=>by have:=cq a e;have:=aG.size;have:=bM.out;omega)).trans Q.2⟩;have f7:=a3.2.2.1;have cp:=ap a3.2.2.2;have cj:Hid (bE aE wf (bo.setCell ⟨z,7,none⟩ (ae bk bm bl))):=bI.trans (bN _ _ _ _) λb _ e=>by rw[e];exact c9
    refine aJ _ _ (λ_=>bc) (λ_=>?_);clear aJ K a3 Q
    try simp only[Act.put,co,dE,dD]
    refine dr (i:=11) (by kernel_rfl) rfl rfl (λK aJ=>?_) (by decide)
    go_simp
    refine aJ _ _ (λ_=>bc) (λ_=>?_);clear aJ K
    try simp only[Act.put,co,dE,dD]
    refine bi (i:=12) (v:= ?_) rfl (by kernel_rfl) (by kernel_rfl) (by kernel_rfl) (by kernel_rfl) (λ_ _ _ k=>k) rfl ?_ bc ?_;rotate_left
    ·intro w' s
     try dsimp only at s
     go_simp
     try with_reducible rfl
    try simp only[Act.put,co]
    have bA:=bc.1;refine jY (by kernel_rfl) rfl rfl (by kernel_rfl) (λK aJ=>?_)
    go_simp
    refine aJ _ _ (NoPanic.normal ?_);clear aJ K bA f7 bc
    try simp only[Act.put,co,dE,dD]
    have cz:Hid (∃V,V=bo.setCell ⟨z,7,none⟩ (ae bk bm bl)/\Hid (bQ i y c l r V/\bE aE wf V)):=⟨_,rfl,cp,cj⟩;obtain⟨V,cX,a4⟩:=cz.out;rw[<-cX];clear cX cz cp bI cj;have bO:=ap a4.2.size;have bv:Hid (∀b,w.heap.size<=b->¬aE b):=λb bd e=>by have:=cq b e;omega
    have cy:=ap aG.size;have bL:=ap ((a4.2.block j (aW aN bs.size) (bv j (by rw[aa.out];exact av _))).trans ((bs.block j aN).trans aZ));have bz:=ap (a4.2.block a a7 (bv a (by have:=bM.out;have:=cy.out;omega)));have cb:=ap (bu V bz.symm);have dJ:ai V a 18 (ae (some ⟨l,0,none⟩) 4 r):=cb 18 _ rfl;have cB:Hid (∃u m,(u=V.alloc (.cells #[ae (some ⟨l,0,none⟩) 4 r,ab self,ab next,ae none 0 0,ae none 0 0,ae none 0 0,.bool false] 170)/\m=V.heap.size)/\Hid (am V u/\u.heap[m]?=some (.cells #[ae (some ⟨l,0,none⟩) 4 r,ab self,ab next,ae none 0 0,ae none 0 0,ae none 0 0,.bool false] 170)/\V.heap.size<=m)):=⟨_,_,⟨rfl,rfl⟩,aS _ _,aD _ _,av _⟩;go_upto_region 11 with fail;obtain⟨u,m,⟨cY,aQ⟩,al⟩:=cB.out;rw[<-cY,<-aQ];clear cY aQ cB dJ;have N:=ap (bu u (((al.1.block a (aW a7 bO)).trans bz).symm));have ds:ai u a 5 (ab c.1.1.1.1):=N 5 _ rfl;have dt:ai u a 6 (ab c.1.1.1.2.1):=N 6 _ rfl;have dx:ai u a 7 (af c.1.1.1.2.2):=N 7 _ rfl;have dz:ai u a 8 (ae c.1.1.2.1.1 c.1.1.2.2.length c.1.1.2.1.2):=N 8 _ rfl;have dA:ai u a 9 (ab c.1.2.1.1.1):=N 9 _ rfl;have dB:ai u a 10 (ab c.1.2.1.1.2.1):=N 10 _ rfl;have dC:ai u a 11 (af c.1.2.1.1.2.2):=N 11 _ rfl;have dF:ai u a 12 (ae c.1.2.1.2.1.1 c.1.2.1.2.2.length c.1.2.1.2.1.2):=N 12 _ rfl;have dG:ai u a 13 (ae c.2.1.1 c.2.2.length c.2.1.2):=N 13 _ rfl;have dH:ai u a 14 (ab c.1.2.2.1.1):=N 14 _ rfl;have du:ai u a 15 (ab c.1.2.2.1.2.1):=N 15 _ rfl;have dv:ai u a 16 (af c.1.2.2.1.2.2):=N 16 _ rfl;have dw:ai u a 17 (ae c.1.2.2.2.1.1 c.1.2.2.2.2.length c.1.2.2.2.1.2):=N 17 _ rfl;have ch:=ap (ci i y c l r V u m a4.1 al.1 al.2.2 al.2.1);go_wp2_with fail;refine ch.mono ?_;rintro e aL ⟨f,rfl,a5⟩;clear ds dt dx dz dA dB dC dF dG dH du dv dw ch;have dd:=ap a5.1.size;have dc:=ap al.1.size;have aw:Hid (j≠m/\j≠l/\a≠m/\a≠l/\j<u.heap.size/\a<u.heap.size/\w.heap.size<=j/\w.heap.size<=a):=by
     have cL:=aa.out;have cM:=c6.out;have df:=c2.out;have dM:=bM.out;have dN:=a7.out;have dP:=bO.out;have dQ:=al.2.2;have dR:=dc.out;have dS:=aN.out;have dK:=bs.size;have dL:=cy.out;exact⟨by omega,by omega,by omega,by omega,by omega,by omega,by omega,by omega⟩
    have cr:=ap ((a5.1.block j aw.2.2.2.2.1 (λe=>by
     rcases e with e|e|e
     ·exact bv j aw.2.2.2.2.2.2.1 e
     ·exact aw.1 e
     ·exact aw.2.1 e)).trans ((al.1.block j (aI.1 bL).1).trans bL))
    have cc:=ap (bu aL (((a5.1.block a aw.2.2.2.2.2.1 (λe=>by
     rcases e with e|e|e
     ·exact bv a aw.2.2.2.2.2.2.2 e
     ·exact aw.2.2.1 e
     ·exact aw.2.2.2.1 e)).trans ((al.1.block a (aW a7 bO)).trans bz)).symm))
    have cu:=ap a5.2;clear a5 N cb bL bz a4 al bu ci;have cC:Hid (∃t h,(t=aL.alloc (.cells #[ab 0,ab 0,af ⟨#[]⟩,ae none 0 0,ab f,ae none 0 0,ae none 0 0,ae none 0 0] 117)/\h=aL.heap.size)/\Hid (am aL t/\t.heap[h]?=some (.cells #[ab 0,ab 0,af ⟨#[]⟩,ae none 0 0,ab f,ae none 0 0,ae none 0 0,ae none 0 0] 117)/\aL.heap.size<=h)):=⟨_,_,⟨rfl,rfl⟩,aS _ _,aD _ _,av _⟩;go_upto_region 12 with fail;obtain⟨t,h,⟨cU,cS⟩,x⟩:=cC.out;rw[<-cU,<-cS];clear cU cS cC;have t4:ai t h 4 (ab f):=ah x.2.1 4;have bw:=ap ((x.1.block j (aI.1 cr).1).trans cr);have aM:Hid (j≠h/\a≠h/\a<aL.heap.size):=by
     have cL:=aw.out;have cM:=dd.out;have df:=x.2.2;exact⟨by omega,by omega,by omega⟩
    by_cases aT:f=0\/f=1
    ·by_cases bC:f=0
     case' pos=>have cO:(f==0)=true:=cv.2 bC
     case' neg=>
      have cO:(f==0)=false:=g9.2 bC;have di:(f==1)=true:=cv.2 (aT.resolve_left bC)
     all_goals
      have a8:=ap bw.out;have O:=ap x.2.1;obtain⟨v0,v1,v2,cZ,sa,sl,sc,pa,pl,pc,ka,kl,kc,aQ,cT⟩:=cu.out.1 aT;have bP:=ap cT;have bH:=ap ((x.1.block m (aI.1 aQ).1).trans aQ);have dj:m≠h:=by
       have cL:=(aI.1 aQ).1;have cM:=x.2.2;omega
      have dV:h≠m:=λe=>dj e.symm;clear aQ cT bw aT bC;have d3:ai t m 3 (ae sa sl sc):=ah bH 3;have d4:ai t m 4 (ae pa pl pc):=ah bH 4;have d5:ai t m 5 (ae ka kl kc):=ah bH 5;have cI:=ah O 5;have cJ:=ah O 6;have cK:=ah O 7;simp only[dh,dy]at cI cJ cK;have de:∀g,t.frozen? ⟨h,g,none⟩=false:=λg=>by simp[World.frozen?,O.out]
      go_upto_region 13 with fail;go_region_held3 (λW=>W.cell? ⟨m,3,none⟩=some (ae sa sl sc)/\W.cell? ⟨m,4,none⟩=some (ae pa pl pc)/\W.cell? ⟨m,5,none⟩=some (ae ka kl kc)) (first|(go_keep;done)|exact⟨d3,d4,d5⟩) ((fail));have cD:Hid (∃R,R=((t.setCell ⟨h,5,none⟩ (ae sa sl sc)).setCell ⟨h,6,none⟩ (ae pa pl pc)).setCell ⟨h,7,none⟩ (ae ka kl kc)/\Hid (bE (λb=>b=h) t R/\R.heap[h]?=some (.cells #[ab 0,ab 0,af ⟨#[]⟩,ae none 0 0,ab f,ae sa sl sc,ae pa pl pc,ae ka kl kc] 117))):=⟨_,rfl,bE.trans (bE.trans (bN t h 5 _) (bN _ h 6 _) λ_ _ e=>e) (bN _ h 7 _) λ_ _ e=>e,IP O _ _ _⟩;obtain⟨R,cV,X⟩:=cD.out;rw[<-cV];clear cV cD d3 d4 d5 cI cJ cK de t4;have cs:=ap ((X.1.block j (aI.1 a8).1 aM.1).trans a8);go_upto_region 14 with fail;have S:=ap (λ(g:Nat)(v:au)(be:(DJ i y c (some ⟨l,0,none⟩) 4 r)[g]?=some v)=>(X.1.cell (0+g) (aW aM.2.2 x.1.size) aM.2.1).trans ((x.1.cell (p:=⟨a,0+g,none⟩) aM.2.2).trans (cc g v be)));have b0:ai R a 1 (ab y.1.1):=S 1 _ rfl;have b1:ai R a 2 (ab y.1.2.1):=S 2 _ rfl;have b2:ai R a 3 (af y.1.2.2):=S 3 _ rfl;have b3:ai R a 4 (ae y.2.1.1 y.2.2.length y.2.1.2):=S 4 _ rfl;have ax:=ah X.2 0;have az:=ah X.2 1;have aB:=ah X.2 2;have aC:=ah X.2 3;simp only[dh,dy]at ax az aB aC;have b8:∀g,R.frozen? ⟨h,g,none⟩=false:=λg=>by simp[World.frozen?,X.out.2]
      have bb:Hid (∃C,C=(((R.setCell ⟨h,0,none⟩ (ab y.1.1)).setCell ⟨h,1,none⟩ (ab y.1.2.1)).setCell ⟨h,2,none⟩ (af y.1.2.2)).setCell ⟨h,3,none⟩ (ae y.2.1.1 y.2.2.length y.2.1.2)/\Hid (bE (λb=>b=h) R C/\C.heap[h]?=some (.cells #[ab y.1.1,ab y.1.2.1,af y.1.2.2,ae y.2.1.1 y.2.2.length y.2.1.2,ab f,ae sa sl sc,ae pa pl pc,ae ka kl kc] 117))):=⟨_,rfl,oK R h 0 _ _ _ _,Gh X.2 _ _ _ _⟩;go_upto_region 15 with fail;obtain⟨C,bg,o⟩:=bb.out;rw[<-bg];clear bg bb b0 b1 b2 b3 ax az aB aC b8 S;have q:=ap ((o.1.block j (aI.1 cs).1 aM.1).trans cs);have ax:=ah o.2 0;have az:=ah o.2 1;have aB:=ah o.2 2;have aC:=ah o.2 3;have b4:=ah o.2 4;have b5:=ah o.2 5;have b6:=ah o.2 6;have b7:=ah o.2 7;have D:=ah q 0;have E:=ah q 1;have F:=ah q 2;have G:=ah q 3;have H:=ah q 4;have I:=ah q 5;have J:=ah q 6;have M:=ah q 7;simp only[dh,dy]at ax az aB aC b4 b5 b6 b7 D E F G H I J M;have aY:∀g,C.frozen? ⟨j,g,none⟩=false:=λg=>by simp[World.frozen?,q.out]
      go_wp2_with fail;rw[CP];refine ay (v:=.tuple #[PO y.1.1 y.1.2.1 y.1.2.2 y.2.1.1 y.2.2.length y.2.1.2 f sa sl sc pa pl pc ka kl kc,ab 0]) (results_cell_tmp results45 rfl (B6 _ rfl (dO q)) rfl) rfl ?_;refine ak ⟨i,y,c,f,sa,sl,sc,pa,pl,pc,ka,kl,kc,rfl,rfl,by first|rfl|exact hr,aL,C,bP,((x.1.trans (X.1.below x.1.size λb bd e=>by have:=x.2.2;omega)).trans (o.1.below (aF x.1.size X.1.size) λb bd e=>by have:=x.2.2;omega)),?_⟩;rw[<-aa.out];exact(eQ j _ 0 C).1.trans (aR ((aA _ _).drew) _) λ_ _ e=>e
    ·have bP:=ap (cu.2 aT);have cO:(f==0)=false:=g9.2 λe=>aT (aj e);have di:(f==1)=false:=g9.2 λe=>aT (ak e);have a8:=ap bw.out;have O:=ap x.2.1;clear aT t4 bw;have t4:ai t h 4 (ab f):=ah O 4;go_upto_region 14 with fail;clear t4;have S:=ap (λg v be=>(x.1.cell (p:=⟨a,0+g,none⟩) aM.2.2).trans (cc g v be));have b0:ai t a 1 (ab y.1.1):=S 1 _ rfl;have b1:ai t a 2 (ab y.1.2.1):=S 2 _ rfl;have b2:ai t a 3 (af y.1.2.2):=S 3 _ rfl;have b3:ai t a 4 (ae y.2.1.1 y.2.2.length y.2.1.2):=S 4 _ rfl;have ax:=ah O 0;have az:=ah O 1;have aB:=ah O 2;have aC:=ah O 3;simp only[dh,dy]at ax az aB aC;have b8:∀g,t.frozen? ⟨h,g,none⟩=false:=λg=>by simp[World.frozen?,O.out]
     have bb:Hid (∃C,C=(((t.setCell ⟨h,0,none⟩ (ab y.1.1)).setCell ⟨h,1,none⟩ (ab y.1.2.1)).setCell ⟨h,2,none⟩ (af y.1.2.2)).setCell ⟨h,3,none⟩ (ae y.2.1.1 y.2.2.length y.2.1.2)/\Hid (bE (λb=>b=h) t C/\C.heap[h]?=some (.cells #[ab y.1.1,ab y.1.2.1,af y.1.2.2,ae y.2.1.1 y.2.2.length y.2.1.2,ab f,ae none 0 0,ae none 0 0,ae none 0 0] 117))):=⟨_,rfl,oK t h 0 _ _ _ _,Gh O _ _ _ _⟩;go_upto_region 15 with fail;obtain⟨C,bg,o⟩:=bb.out;rw[<-bg];clear bg bb b0 b1 b2 b3 ax az aB aC b8 S;have q:=ap ((o.1.block j (aI.1 a8).1 aM.1).trans a8);have ax:=ah o.2 0;have az:=ah o.2 1;have aB:=ah o.2 2;have aC:=ah o.2 3;have b4:=ah o.2 4;have b5:=ah o.2 5;have b6:=ah o.2 6;have b7:=ah o.2 7;have D:=ah q 0;have E:=ah q 1;have F:=ah q 2;have G:=ah q 3;have H:=ah q 4;have I:=ah q 5;have J:=ah q 6;have M:=ah q 7;simp only[dh,dy]at ax az aB aC b4 b5 b6 b7 D E F G H I J M;have aY:∀g,C.frozen? ⟨j,g,none⟩=false:=λg=>by simp[World.frozen?,q.out]
     go_wp2_with fail;rw[CP];refine ay (v:=.tuple #[PO y.1.1 y.1.2.1 y.1.2.2 y.2.1.1 y.2.2.length y.2.1.2 f none 0 0 none 0 0 none 0 0,ab 0]) (results_cell_tmp results45 rfl (ij _ rfl (dO q)) rfl) rfl ?_;refine ak ⟨i,y,c,f,none,0,0,none,0,0,none,0,0,rfl,rfl,by first|rfl|exact hr,aL,C,bP,(x.1.trans (o.1.below x.1.size λb bd e=>by have:=x.2.2;omega)),?_⟩;rw[<-aa.out];exact(eQ j _ 0 C).1
theorem Kw{a β:Type}{l r:List a}(c:List.Sublist l r)(f:a->List β):List.Sublist (l.flatMap f) (r.flatMap f):=by
 induction c with
 | slnil=>exact List.Sublist.refl _
 | cons b _ ih=>
  simp only[bP];exact ih.trans (List.sublist_append_right _ _)
 | cons_cons b _ ih=>
  simp only[bP];exact List.Sublist.append (List.Sublist.refl _) ih
theorem NZ{b:Type}{l r:List b}(c:List.Sublist l r)(f:b->Int)(d:∀a,0<=f a):(l.map f).sum<=(r.map f).sum:=by
 induction c with
 | slnil=>exact jD _
 | cons a _ ih=>
  simp only[aV,bR];have:=d a;omega
 | cons_cons a _ ih=>
  simp only[aV,bR];omega
theorem kA.erase{N:Nat}{ws:List Wd}{nm:br}{room:Int}{d:Wd}{vs:List Wd}{s:Tm (N+1)}{ms:List (Tm (N+1))}(l:kA (N+1) ws nm room (d::vs) (s::ms))(i:Nat):kA (N+1) ws nm room (d::vs.eraseIdx i) (s::ms.eraseIdx i):=by
 obtain⟨f,o,p,v,q,r,t,u⟩:=l;have m:vs.length=ms.length:=by simpa using f.1
 have n:List.Sublist (d::vs.eraseIdx i) (d::vs):=(List.eraseIdx_sublist vs i).cons_cons d;have j:List.Sublist (s::ms.eraseIdx i) (s::ms):=(List.eraseIdx_sublist ms i).cons_cons s;refine⟨⟨by simp[List.length_eraseIdx,m],λc g e b a=>?_⟩,(Kw n _).nodup o,λe a=>p e (j.subset a),?_,q,r,t,u⟩
 ·cases c with
  | zero=>
   simp only[dh,gZ]at b a;exact f.2 0 g e (by simp[b]) (by simp[a])
  | succ c=>
   simp only[dy,List.getElem?_eraseIdx]at b a;by_cases h:c<i
   ·rw[if_pos h]at b a;exact f.2 (c+1) g e (by simpa using b) (by simpa using a)
   ·rw[if_neg h]at b a;exact f.2 (c+2) g e (by simpa using b) (by simpa using a)
 ·have:=NZ j (sz (N+1)) λk=>(ft (N+1) k).1;omega
section
variable {base pb:Nat} {name:aq} {room:Int} {N:Nat} {s:Tm (N+1)} {ms:List (Tm (N+1))} {nk:Nat} {M:aO} {w:ag} {ws:List Wd} {nm:br} {sv:Wd} {vs:List Wd} {ma:ar} {mc:Nat} {Mh:aO}
theorem cV.dropped(a:cV base pb name room (N+1) s ms [] nk M w ws nm sv vs ma mc Mh)(i:Nat){w1:ag}{g:Nat}(x:¬Mh g)(l:bE (λb=>b=g) w w1)(v:j0 Mh ma (vs.eraseIdx i) mc w1)(u:M g):cV base pb name room (N+1) s (ms.eraseIdx i) [] nk M (w1.setCell ⟨pb,7,none⟩ (.slice ma (vs.eraseIdx i).length mc)) ws nm sv (vs.eraseIdx i) ma mc Mh/\ch M w (w1.setCell ⟨pb,7,none⟩ (.slice ma (vs.eraseIdx i).length mc)):=by
 obtain⟨m,z⟩:=a.box0;have q:eh base (PL pb name sv (ae ma vs.length mc)) room ws nm Mh w1:=a.heap.kept (jR l) λb r _ c=>x (by rw[<-c];exact r);have k:=bF w1 pb 7 (.slice ma (vs.eraseIdx i).length mc);have j:=a.has;simp only[cF,dQ]at j;refine⟨⟨q.turn k λB A mp t=>?_,?_,?_,?_,a.names,a.inM,a.mailM⟩,?_⟩
 ·unfold World.setCell;simp[bT,t]
 ·rcases v with d|⟨h,y,n,o,e,f,p⟩
  ·exact aj d
  ·exact ak ⟨h,y,n,o,e,(k.block h (aI.1 f).1 λd=>e (by rw[d];exact m)).trans f,p⟩
 ·simp only[cF,dQ];exact j.erase i
 ·simp[List.length_eraseIdx,a.len]
 ·refine ch.trans ((jR l).mono λb c=>?_) k λb _ c=>?_
  ·rw[c];exact u
  ·rw[c];exact a.inM pb m
theorem cV.delete(a:cV base pb name room (N+1) s ms [] nk M w ws nm sv vs ma mc Mh)(i:Nat)(H:i<ms.length)(G:ms.length<=1000):ao 78 #[ae ma vs.length mc,ab i,ab ((i:Int)+1)] w λe w'=>e=.returned (.slice ma (vs.eraseIdx i).length mc)/\Hid (bE M w w'/\ai w' pb 7 (ae ma vs.length mc)/\w'.frozen? ⟨pb,7,none⟩=false/\ cV base pb name room (N+1) s (ms.eraseIdx i) [] nk M (w'.setCell ⟨pb,7,none⟩ (.slice ma (vs.eraseIdx i).length mc)) ws nm sv (vs.eraseIdx i) ma mc Mh/\ch M w (w'.setCell ⟨pb,7,none⟩ (.slice ma (vs.eraseIdx i).length mc))):=by
 have k:=a.len;obtain⟨E,m⟩:=a.box0;have f:(vs.eraseIdx i).length=vs.length-1:=by rw[List.length_eraseIdx,if_pos (by omega)]
 rcases a.mail with⟨_,e,_⟩|⟨g,n,u,rfl,d,x,y,z,A,B⟩
 ·rw[e]at k;simp at k;omega
 ·refine(zO g n mc i vs u w (by omega) x y (by omega) A B).mono ?_;rintro e w' ⟨rfl,o⟩;obtain⟨c,I,v,p,F,q⟩:=o;have j:=a.mailM _ rfl;have l:¬pb=g:=λe=>d (by rw[<-e];exact E);obtain⟨L,J,K,C,_⟩:=a.heap.box;obtain⟨_,_,_,r,t,_⟩:=PL.cells C;have D:=a.dropped i (w1:=w') (g:=g) d c (ak ⟨g,n,v,rfl,d,p,by omega,z,by omega,by rw[f];exact q⟩) j;refine⟨by rw[f],c.mono λb _ e=>by rw[e];exact j,(c.cell 7 m l).trans r,?_,D⟩;have h:=t 7;unfold World.frozen? at h ⊢;rw[c.block pb m l];exact h
end
def sy(n:Nat)(room:Int)(l:List (Bh (n+1)))(name:aq)(self next:Int)(s:Tc)(ms:List Tc):Int:=
 if mK n l≠0 then mK n l else if (decide (1<=self) && decide (self<=99) && decide (1<=next) && decide (next<=92))=false then 1 else if (od room l name self next s ms).isSome then 0 else 4
def mG(c:Nat)(sends:List (Int×Tc))(spawns:List (Int×aq×Tc))(links:List Int)(sa:ar)(sl sc:Nat)(pa:ar)(pl pc:Nat)(ka:ar)(kl kc:Nat)(P:aO)(w:ag):Prop:=
 ∃(f:Nat)(d:List (Int×Tm (f+1)))(e:List (Int×aq×Tm (f+1))),(d.length=sl/\e.length=pl/\links.length=kl)/\w.ownsRow c 177 5 (ae sa sl sc) sl (d.flatMap λa=>Ov a.1 a.2)/\w.ownsRow c 174 6 (ae pa pl pc) pl (e.flatMap λa=>Pw a.1 a.2.1 a.2.2)/\w.ownsRow c 3 1 (ae ka kl kc) kl (links.map λg=>ab g)/\
  d.map (λa=>(a.1,cn _ a.2))=sends/\e.map (λa=>(a.1,a.2.1,cn _ a.2.2))=spawns/\(∀a∈d,bJ _ a.2=0/\In w.heap.size w _ a.2/\cD (λb=>c<=b/\P b) _ a.2)/\(∀a∈e,bJ _ a.2.2=0/\In w.heap.size w _ a.2.2/\cD (λb=>c<=b/\P b) _ a.2.2)/\∀b,((Value.slice sa sl sc).ownBlock=some b\/(Value.slice pa pl pc).ownBlock=some b\/(Value.slice ka kl kc).ownBlock=some b)->c<=b/\P b
theorem mG.kept{f:Nat}{sends:List (Int×Tc)}{spawns:List (Int×aq×Tc)}{links:List Int}{sa:ar}{sl sc:Nat}{pa:ar}{pl pc:Nat}{ka:ar}{kl kc:Nat}{P:aO}{w w':ag}(u:mG f sends spawns links sa sl sc pa pl pc ka kl kc P w){S:aO}(p:bE S w w')(n:∀q,f<=q->P q->q<w.heap.size->¬S q):mG f sends spawns links sa sl sc pa pl pc ka kl kc P w':=by
 obtain⟨t,H,I,v,y,z,A,B,C,g,h,i⟩:=u;have o:∀{e:Nat}{x:Tm e},In w.heap.size w e x->cD (λq=>f<=q/\P q) e x->In w'.heap.size w' e x:=λF G=>F.kee (p.mono (T:=λb=>S b/\b<w.heap.size) λb D q=>⟨q,D⟩) (G.mono λq c (a:S q/\q<w.heap.size)=>n q c.1 c.2 a.2 a.1);have l:∀{k:TypeId}{a e:Nat}{j:au}{m:cX},w.ownsRow f k a j e m->(∀q,j.ownBlock=some q->f<=q/\P q)->w'.ownsRow f k a j e m:=λ{k a e j m} r s=>bB r p λq c=>by
  obtain⟨J,E⟩:=eN r q c;exact n q (s q c).1 (s q c).2 (aI.1 E).1
 exact⟨t,H,I,v,l y λq c=>i q (aj c),l z λq c=>i q (ak (aj c)),l A λq c=>i q (ak (ak c)),B,C,λa d=>⟨(g a d).1,o (g a d).2.1 (g a d).2.2,(g a d).2.2⟩,λa d=>⟨(h a d).1,o (h a d).2.1 (h a d).2.2,(h a d).2.2⟩,i⟩
theorem mG.none(c:Nat)(P:aO)(w:ag):mG c [] [] [] none 0 0 none 0 0 none 0 0 P w:=
 ⟨0,[],[],⟨rfl,rfl,rfl⟩,eZ _ _ _ _,eZ _ _ _ _,eZ _ _ _ _,rfl,rfl,λd b=>(by cases b),λd b=>(by cases b),λe a=>by
  rcases a with a|a|a<;>cases a⟩
def QJ(r q:Nat)(name:aq)(room:Int)(s:Tc)(ms:List Tc)(o:Nat)(M:aO)(n:Nat)(l:List (Bh (n+1)))(self next:Int)(w:ag)(e:Ending)(w':ag):Prop:=
 (∃g,e=.returned (.tuple #[N2,ab g])/\Hid (g≠0/\g=sy n room l name self next (cn 13 s) (ms.map (cn 13))/\am w w'))\/
  ∃(a:Tc)(f:Int)(sa:ar)(sl sc:Nat)(pa:ar)(pl pc:Nat)(ka:ar)(kl kc:Nat),e=.returned (.tuple #[PO a.1.1 a.1.2.1 a.1.2.2 a.2.1.1 a.2.2.length a.2.1.2 f sa sl sc pa pl pc ka kl kc,ab 0])/\Hid (∃b h d,sy n room l name self next (cn 13 s) (ms.map (cn 13))=0/\od room l name self next (cn 13 s) (ms.map (cn 13))=some b/\f=b.fate/\cn 13 a=b.message/\bJ 13 a=0/\In w'.heap.size w' 13 a/\cD (λc=>w.heap.size<=c/\c<d) 13 a/\ch M w w'/\w.heap.size<d/\
   (∃i v p t u k m j,cV r q name room 13 i (ms.eraseIdx h) [] (o+402) (λc=>M c\/d<=c) w' v p t u k m j/\cn 13 i=b.state/\(ms.eraseIdx h).map (cn 13)=b.mail)/\mG (w.heap.size+1) b.sends b.spawns b.links sa sl sc pa pl pc ka kl kc (λ_=>True) w')
theorem Pb{n:Nat}(room self next:Int)(s m:Tc)(ms:List Tc)(c:Cl (n+1))(b:List Tc):fI room self next s m ms c b={fI room self next s s ms c b with message:=m}:=by
 unfold fI;cases qE self c.2.2 ⟨b,next,[],[],[],false⟩with
 | none=>rfl
 | some e=>
  cases d:tw e.b self (n+1) c.1.2.2 with
  | none=>simp only[d]
  | some t=>
   simp only[d];by_cases a:(ms.map (sz 13)).sum+sz 13 t<=room
   ·simp only[if_pos a]
   ·simp only[if_neg a]
theorem Hg{n:Nat}{room self next:Int}{s m:Tc}{ms:List Tc}{c:Cl (n+1)}{b:List Tc}(a:¬((fI room self next s m ms c b).fate=0\/(fI room self next s m ms c b).fate=1)):(fI room self next s m ms c b).sends=[]/\(fI room self next s m ms c b).spawns=[]/\(fI room self next s m ms c b).links=[]:=by
 unfold fI at a ⊢;cases hd:qE self c.2.2 ⟨b,next,[],[],[],false⟩with
 | none=>exact⟨rfl,rfl,rfl⟩
 | some d=>
  rw[hd]at a;cases f:tw d.b self (n+1) c.1.2.2 with
  | none=>simp[f]
  | some t=>
   simp only[f]at a ⊢;by_cases e:(ms.map (sz 13)).sum+sz 13 t<=room
   ·simp only[if_pos e]at a;cases hst:d.stops<;>simp[hst]at a
   ·simp[if_neg e]
theorem Hf{n:Nat}(room self next:Int)(s m:Tc)(ms:List Tc)(c:Cl (n+1))(b:List Tc):(fI room self next s m ms c b).mail=ms:=by
 unfold fI;cases qE self c.2.2 ⟨b,next,[],[],[],false⟩with
 | none=>rfl
 | some e=>
  cases d:tw e.b self (n+1) c.1.2.2 with
  | none=>simp only[d]
  | some t=>
   simp only[d];by_cases a:(ms.map (sz 13)).sum+sz 13 t<=room
   ·simp only[if_pos a]
   ·simp only[if_neg a]
theorem rn.keptS{D:Nat}{l:List (Tm D)}{B:List Tc}{d:Nat}{w w':ag}{b h:Nat}{S:aO}(a:rn D l B d w b h)(c:bE S w w')(g:∀q,d<=q->¬S q):rn D l B d w' b h:=by
 obtain⟨e,f⟩:=a.new;refine⟨a.bnd,a.tells,a.cap,⟨e,aW f c.size⟩,λn t m=>?_,λo=>?_⟩
 ·obtain⟨p,r,j⟩:=a.at' n t m;exact⟨p.kee c f (g b e),r.kee c (j.mono λs k=>g s k.1),j⟩
 ·have i:=a.free o;unfold World.frozen? at i ⊢;rw[c.block b f (g b e)];exact i
theorem xT{n B:Nat}{w:ag}{p:ar}{l:List (Bh (n+1))}(j:gL (n+1) B w p l)(name:aq):∃e d g,MV (n+1) (gI (n+1) name l)=ae e d g/\(gM name l).length=d/\qz B w 13 (fy (n+1)) (iE (n+1) B w) e (gM name l)/\(gM name l=[]\/∃b∈l,gM name l=b.2.2):=by
 have k:∀(l:List (Bh (n+1))) b,gI (n+1) name l=some b->b∈l:=by
  intro l
  induction l with
  | nil=>intro b a;cases a
  | cons q l ih=>
   intro b a;simp only[gI]at a;split at a
   ·obtain rfl:=az a;simp
   ·exact bW _ (ih b a)
 unfold gM;cases hb:gI (n+1) name l with
 | none=>exact⟨none,0,0,rfl,rfl,aj rfl,aj rfl⟩
 | some b=>
  have c:=k l b hb;refine⟨_,_,_,rfl,rfl,?_,ak ⟨b,c,rfl⟩⟩;rcases j with f|⟨s,o,f,r,h⟩
  ·rw[f]at c;cases c
  ·obtain⟨m,i⟩:=dp c;exact((h m b i).2).2.2
theorem cV.step{an J n:Nat}{name:aq}{room:Int}{s:Tc}{ms:List Tc}{al:Nat}{M:aO}{w:ag}{ws:List Wd}{nm:br}{bv:Wd}{vs:List Wd}{ma:ar}{aE:Nat}{Mh:aO}(S:cV an J name room 13 s ms [] al M w ws nm bv vs ma aE Mh)(l:List (Bh (n+1)))(Z:ar)(L B:Nat)(a8:gL (n+1) B w Z l)(Q:B<=w.heap.size)(b8:l.length<=L)(bm:L<=maxLen)(bP:kT (n+1) l=true->(aC (n+6) (cm n l)).length<=2097152)(R:∀b,M b->b<w.heap.size)(bQ:∀W,bE M w W->gL (n+1) B W Z l)(cC:al<=47000)(cx:ms.length<=999)(cy:an<=w.heap.size)(self next:Int):ao 45 #[aH J,ae Z l.length L,ab self,ab next] w (QJ an J name room s ms al M n l self next w):=by
 obtain⟨cc,cd⟩:=S.box0 (N:=12);obtain⟨cN,cG,cJ,bR,_⟩:=S.heap.box;obtain⟨bD,_,_,cu,cv,_⟩:=PL.cells bR;obtain⟨a0,bG,bg,bZ,bX,b0,bY⟩:=xT a8 name;have cB:L<=9223372036854775807:=by unfold maxLen at bm;omega
 have bk:mK n l=0->(∀c∈gM name l,qx c)/\(gM name l).length<=6:=λq=>by
  obtain⟨_,bn⟩:=Gg q;rcases bY with d|⟨b,r,d⟩
  ·rw[d];exact⟨λc bT=>(by cases bT),aM _⟩
  ·rw[d];exact⟨(bn b r).2,(bn b r).1⟩
 have a6:∀(g:Nat)(t:Tc),(ms.map (cn 13))[g]?=some t->g<ms.length:=λg t aw=>by
  have:=(aZ.1 aw).1;simpa using this
 refine(I3 J name Z l.length L self next (mK n l) a0 bG bg w (sS (gM name l) (cn 13 s) (ms.map (cn 13)) 0=none)
  (λg i c v F u=>∃j A E,am w u/\(1<=self/\self<=99/\1<=next/\next<=92)/\mK n l=0/\sS (gM name l) (cn 13 s) (ms.map (cn 13)) 0=some (g,c,j)/\c∈gM name l/\(ms.map (cn 13))[g]?=some (cn 13 i)/\bJ 13 i=0/\In u.heap.size u 13 i/\cD (λa=>w.heap.size<a/\a≠v) 13 i/\rn (A+1) E j (w.heap.size+1) u v F)
  (λg i c v F u=>∃j A E aU aL aP aS aB aG au,cV an J name room 13 s (ms.eraseIdx g) [] al M u aU aL aP aS aB aG au/\ch M w u/\(1<=self/\self<=99/\1<=next/\next<=92)/\mK n l=0/\sS (gM name l) (cn 13 s) (ms.map (cn 13)) 0=some (g,c,j)/\c∈gM name l/\(ms.map (cn 13))[g]?=some (cn 13 i)/\bJ 13 i=0/\In u.heap.size u 13 i/\cD (λa=>w.heap.size<a/\a≠v) 13 i/\rn (A+1) E j (w.heap.size+1) u v F)
  (λg i c f sa sl sc pa pl pc ka kl kc P=>∃j aa,sS (gM name l) (cn 13 s) (ms.map (cn 13)) 0=some (g,c,j)/\(ms.map (cn 13))[g]?=some (cn 13 i)/\bJ 13 i=0/\In P.heap.size P 13 i/\cD (λa=>w.heap.size<a/\a<aa) 13 i/\w.heap.size<aa/\ch M w P/\f=(fI room self next (cn 13 s) (cn 13 s) ((ms.eraseIdx g).map (cn 13)) c j).fate/\
   (∃O aU aL aP aS aB aG au,cV an J name room 13 O (ms.eraseIdx g) [] (al+402) (λa=>M a\/aa<=a) P aU aL aP aS aB aG au/\cn 13 O=(fI room self next (cn 13 s) (cn 13 s) ((ms.eraseIdx g).map (cn 13)) c j).state)/\
   mG (w.heap.size+1) (fI room self next (cn 13 s) (cn 13 s) ((ms.eraseIdx g).map (cn 13)) c j).sends (fI room self next (cn 13 s) (cn 13 s) ((ms.eraseIdx g).map (cn 13)) c j).spawns (fI room self next (cn 13 s) (cn 13 s) ((ms.eraseIdx g).map (cn 13)) c j).links sa sl sc pa pl pc ka kl kc (λ_=>True) P)
  _ M cd R (S.inM J cc) rfl ?_ bD ?_ ?_ ?_ ?_).mono ?_
 ·intro W k;refine(L5 n l Z L b8 bm B W (a8.below (k.mono Q)) (aF Q k.size) bP).mono ?_;rintro d K ⟨i,rfl,x⟩;exact⟨_,_,_,_,_,_,rfl,x.1⟩
 ·intro W _ k;refine(vq (n+1) name l Z L l.length B W rfl (by omega) (aF Q k.size) (a8.below (k.mono Q))).mono ?_;rintro d K ⟨rfl,r⟩;exact⟨by rw[bZ],r⟩
 ·intro W q y k;simp only[aK,cw]at y;obtain⟨a9,b9⟩:=bk q;have bj:=DL (S.later (N:=12) k) (gM name l) a0 bg B ((cU (eP (n+1)) 13 (fy (n+1)) a0).below (k.mono Q) b0) (aF Q k.size) a9 (by omega) (by omega) (by omega);rw[bX]at bj;refine bj.mono ?_;rintro d K (⟨bN,rfl,x⟩|⟨g,i,c,v,F,rfl,x⟩)
  ·exact aj ⟨rfl,x,bN⟩
  ·obtain⟨j,A,E,G,H,z,I,bq,V,X,D⟩:=x.out;have cj:=k.size;have ai:=D.new;have a5:=a6 g _ z;exact ak ⟨g,i,c,v,F,rfl,bq,by omega,ai.2,by omega,j,A,E,k.trans (bq.mono cj),⟨y.1.1.1,y.1.1.2,y.1.2,y.2⟩,q,G,H,z,I,V,X.mono λa h=>⟨by omega,h.2⟩,D.mono (by omega)⟩
 ·rintro g i c v F u W ⟨j,A,E,a1,T,q,G,H,z,I,V,X,D⟩ k;have a2:=a1.trans (k.mono a1.size);have a5:=a6 g _ z;obtain⟨cO,cH,cK,bS,_⟩:=(S.later (N:=12) a2).heap.box;obtain⟨_,_,_,bF,bH,_⟩:=PL.cells bS;refine⟨ma,vs.length,aE,⟨bF,bH 7⟩,λbC ay=>?_⟩;have bh:=a2.trans (ay.mono a2.size);refine((S.later (N:=12) bh).delete (N:=12) g a5 (by omega)).mono ?_;rintro d K ⟨rfl,x⟩;obtain⟨cl,co,cp,cq,bc⟩:=x.out;have cf:=a1.size;refine⟨ma,_,aE,rfl,cl,co,cp,j,A,E,ws,nm,bv,_,ma,aE,Mh,cq,(bu bh M).trans bc λ_ _ d=>d,T,q,G,H,z,I,?_,X,?_⟩
  ·exact(((V.below k).mono k.size |>.below ay).mono ay.size).kee (iM bc) (X.mono λa h e=>by have:=R a e;omega)
  ·exact((D.keptS (aR k (λ_=>False)) (λ_ _ d=>d)).keptS (aR ay (λ_=>False)) (λ_ _ d=>d)).keptS (iM bc) λa h e=>by have:=R a e;omega
 ·rintro g i c v F u W ad ⟨j,A,E,aU,aL,aP,aS,aB,aG,au,cb,a7,T,q,G,H,z,I,V,X,D⟩ k cz bi;obtain⟨a9,b9⟩:=bk q;have Y:=D.keptS (aR k (λ_=>False)) (λ_ _ d=>d);have ai:=D.new;have cf:=a7.size;have ci:=k.size;have a5:=a6 g _ z;have cA:ad<W.heap.size:=(aI.1 bi).1;have b2:eO (w.heap.size+1) ad self n A 0 next ⟨j,next,[],[],[],false⟩ W E v F [] [] (ae none 0 0) (ae none 0 0) (ae none 0 0):=by
   refine⟨bi,⟨by omega,by omega,ai.1,Y.new.2,by omega⟩,Y.bnd,Y.tells,λU e p=>⟨(Y.at' U e p).1,(Y.at' U e p).2.1,(In.offB (D.at' U e p).2.2 (D.at' U e p).2.1).mono λa h=>⟨h.1.1,λm=>?_⟩⟩,Y.free,eZ _ _ _ _,eZ _ _ _ _,eZ _ _ _ _,rfl,rfl,λe p=>(by cases p),λe p=>(by cases p),⟨⟨λd=>(by cases d),λd=>(by cases d),λd=>(by cases d)⟩,⟨λd=>(by cases d),λd=>(by cases d),λd=>(by cases d)⟩,λa=>⟨λd=>(by cases d),λd=>(by cases d)⟩⟩,⟨aM _,aM _,aM _,by simp,T.2.2.1,T.2.2.2⟩⟩;rcases m with m|m|m|m|m
   ·have:=h.2;omega
   ·exact h.1.2 m
   ·cases m
   ·cases m
   ·cases m
  have b7:bE M w W:=(iM a7).trans (aR k (λ_=>False)) λ_ _ d=>d.elim;have bW:iE (n+1) B W c:=by
   obtain⟨_,_,_,_,_,b1,_⟩:=xT (bQ W b7) name;rcases b1 with d|⟨a,o,d,h,bV⟩
   ·rw[d]at H;cases H
   ·obtain⟨U,b6⟩:=dp H;exact(bV U c b6).2
  have bU:iE (n+1) (w.heap.size+1) W c:=(eP (n+1)).mono (by omega) bW;have b3:(ms.eraseIdx g).length<=999:=by
   have:=List.length_eraseIdx_le ms g;omega
  have a4:=DW (b:=j) (cb.later (N:=12) k) b2 rfl c bU (a9 c H) ⟨T.1,T.2.1⟩ (λa e=>by have:=R a e;omega) (by omega) (by omega) b3;have b4:ao 79 #[aH J,QN c,aH ad] W _:=a4;refine b4.mono ?_;rintro d K ⟨f,rfl,aX,aY,⟨O,aV,aN,aQ,aT,aD,aJ,av,be,bf⟩,bB⟩;have a3:∀a,l9 ad v (ae none 0 0) (ae none 0 0) (ae none 0 0) a->a=ad\/a=v:=λa m=>by
   rcases m with m|m|m|m|m
   ·exact aj m
   ·exact ak m
   ·cases m
   ·cases m
   ·cases m
  have af:ch M w K:=(a7.trans (bu k M) λ_ _ d=>d).trans (jR aY) λa h e=>by
   rcases e with e|e
   ·exact e
   ·rcases a3 a e with e|e<;>omega
  have ap:=In.offB X V
  have aW:In K.heap.size K 13 i:=((V.below k).mono ci).kee aY (ap.mono λa h e=>by
   rcases e with e|e
   ·have:=R a e;omega
   ·rcases a3 a e with e|e
    ·have:=h.2;omega
    ·exact h.1.2 e)
  have bw:cD (λa=>w.heap.size<a/\a<W.heap.size) 13 i:=ap.mono λa h=>⟨h.1.1,by have:=h.2;omega⟩;refine⟨f,rfl,aY.mono λa _ e=>?_,λax=>?_,λax=>?_⟩
  ·rcases e with e|e
   ·exact aj e
   ·exact ak (a3 a e)
  ·obtain⟨bI,cF,ct,cs,bs,bt,cM,cL,cI,C,bx,bz,bd,_⟩:=bB ax;have bp:=C.sRow;have bo:=C.pRow;have bl:=C.lRow;have b5:=C.high;have bb:=C.sIn;have ba:=C.pIn;obtain⟨sa,sc,rfl⟩:=nr bp;obtain⟨pa,pc,rfl⟩:=nr bo;obtain⟨ka,kc,rfl⟩:=nr bl;refine⟨_,_,_,_,sa,bs.length,sc,pa,bt.length,pc,ka,bI.links.length,kc,C.box,j,W.heap.size,G,z,I,aW,bw,by omega,af,aX,⟨O,aV,aN,aQ,aT,aD,aJ,av,be,bf⟩,?_⟩;refine⟨A+1+n,bs,bt,⟨rfl,rfl,by rw[<-bd]⟩,bp,bo,by rw[<-bd];exact bl,C.sIs.trans bx,C.pIs.trans bz,λe p=>⟨(bb e p).1,(bb e p).2.1,(bb e p).2.2.mono λa h=>⟨h.1,trivial⟩⟩,λe p=>⟨(ba e p).1,(ba e p).2.1,(ba e p).2.2.mono λa h=>⟨h.1,trivial⟩⟩,λa h=>⟨b5 a (ak (ak h)),trivial⟩⟩
  ·rw[aX]at ax;obtain⟨bK,bL,bM⟩:=Hg ax;refine⟨j,W.heap.size,G,z,I,aW,bw,by omega,af,aX,⟨O,aV,aN,aQ,aT,aD,aJ,av,be,bf⟩,?_⟩;rw[bK,bL,bM];exact mG.none _ _ _
 ·rintro d K (⟨cr,rfl,x⟩|⟨g,i,c,f,sa,sl,sc,pa,pl,pc,ka,kl,kc,rfl,x⟩)
  ·obtain⟨r,ck⟩:=x.out;refine aj ⟨cr,rfl,?_⟩;rcases ck with⟨rfl,aw⟩|⟨rfl,q,y⟩|⟨rfl,q,y,ai⟩
   ·exact⟨aw,by unfold sy;rw[if_pos aw],r⟩
   ·exact⟨by decide,by unfold sy;rw[if_neg (λa=>a q),if_pos y],r⟩
   ·refine⟨by decide,?_,r⟩;have aA:od room l name self next (cn 13 s) (ms.map (cn 13))=none:=by
     unfold od;rw[ai];rfl
    unfold sy;rw[if_neg (λa=>a q),if_neg (by rw[y];decide),aA];rfl
  ·obtain⟨q,y,P,bC,⟨j,aa,G,z,I,aW,ap,bO,af,a4,⟨O,aV,aN,aQ,aT,aD,aJ,av,P1,bA⟩,ce⟩,ah,az⟩:=x;have cE:=af.size;have cg:=ah.size;have ca:(ms.map (cn 13)).eraseIdx g=(ms.eraseIdx g).map (cn 13):=by simp[tz,List.map_take,List.map_drop]
   have aA:od room l name self next (cn 13 s) (ms.map (cn 13))=some {fI room self next (cn 13 s) (cn 13 s) ((ms.eraseIdx g).map (cn 13)) c j with message:=cn 13 i}:=by
    unfold od;rw[G];simp only[dU];rw[z,ca,nG,Pb]
   refine ak ⟨i,f,sa,sl,sc,pa,pl,pc,ka,kl,kc,rfl,_,g,aa,?_,aA,a4,rfl,I,((aW.below ah).mono cg).kee az (ap.mono λa h d=>by omega),ap.mono λa h=>⟨by omega,h.2⟩,(af.trans (bu ah M) λ_ _ d=>d).trans (jR az) λb r d=>by omega,bO,⟨O,aV,aN,aQ,aT,aD,aJ,av,(P1.later (N:=12) ah).kept (N:=12) (jR az) λb r _ d=>?_,bA,(Hf ..).symm⟩,(ce.kept (aR ah (λ_=>False)) λ_ _ _ _ d=>d).kept az λa h _ _ d=>by omega⟩
   ·unfold sy;rw[if_neg (λa=>a q),if_neg (by rw[y];decide),aA];rfl
   ·rcases r with r|r
    ·have:=R b r;omega
    ·omega
theorem GS(n:Nat)(x:Tm n):bJ n x=0\/bJ n x=2\/bJ n x=5:=by
 rw[<-gR];unfold xH;split
 ·split
  ·exact ak (aj rfl)
  ·exact aj rfl
 ·exact ak (ak rfl)
section
variable {base pb:Nat} {name:aq} {room:Int} {N n:Nat} {s:Tm (N+1)} {ms:List (Tm (N+1))} {nk:Nat} {M:aO} {w:ag} {ws:List Wd} {nm:br} {sv:Wd} {vs:List Wd} {ma:ar} {mc:Nat} {Mh:aO}
theorem cV.putBad(k:cV base pb name room (N+1) s ms [] nk M w ws nm sv vs ma mc Mh)(x:Tm (n+1))(B:In w.heap.size w (n+1) x)(z:cD (λb=>¬M b) (n+1) x)(u:(aC (n+1) x).length<=2097152)(G:nk<=49000)(F:base<=w.heap.size)(o:bJ (n+1) x≠0):ao 123 #[aH pb,dG (n+1) x] w λe w'=>e=.returned (.tuple #[.agg #[ab 0,ab 0],ab (bJ (n+1) x)])/\am w w':=by
 obtain⟨_,_,_,I,J,C,D,_⟩:=k.front;have H:=k.names;have l:kh (n+1) x room ws=bJ (n+1) x:=by
  unfold kh;rw[if_pos o]
 have t:kh (n+1) x room ws≠6:=by
  rw[l];rcases GS (n+1) x with e|e|e<;>rw[e]<;>decide
 have p:∀{h:Wd}{c:Int}{f i:ag},zr (n+1) x base (PL pb name sv (ae ma vs.length mc)) room ws nm Mh h c f i->c≠0:=λg=>by
  rw[g.1,l];exact o
 refine(Cv pb x.1.1 x.1.2.1 x.1.2.2 x.2.1.1 x.2.2.length x.2.1.2 w (λh c f i=>zr (n+1) x base (PL pb name sv (ae ma vs.length mc)) room ws nm Mh h c f i) (λ_ _=>False) (λ_ _ _ _=>False) ?_ ?_ ?_).mono ?_
 ·intro f d;have m:=d.size;have q:=k.later d;refine(vF (n+1) x base (PL pb name sv (ae ma vs.length mc)) room ws nm Mh f q.heap ((B.below d).mono m) (z.mono λb d g=>d (k.inM b g)) u (by omega) C D (by omega) (by omega)).mono ?_;intro e i g;obtain⟨h,c,rfl,a⟩:=Aq g;refine⟨h,c,rfl,?_,a⟩;have j:=(a.2.1 (p a)).2;exact⟨j.size,λb _ _ r=>j.block b r⟩
 ·intro K f i L _ a _ _;exact absurd a.1.symm t
 ·intro _ _ _ a;exact a.elim
 ·rintro e w' ⟨h,c,rfl,⟨_,f,i,d,a,y⟩|⟨_,_,_,_,_,_,_,_,_,_,_,a,_⟩⟩
  ·obtain⟨A,j⟩:=a.2.1 (p a);have m:=d.size;have v:c=bJ (n+1) x:=a.1.trans l;refine⟨by rw[v,A],(d.trans (j.mono m)).trans ((iM y).below (by have:=j.size;omega) λb E g=>by omega)⟩
  ·exact a.elim
theorem cV.deliverBad(f:cV base pb name room (N+1) s ms [] nk M w ws nm sv vs ma mc Mh)(x:Tm (n+1))(v:In w.heap.size w (n+1) x)(t:cD (λb=>¬M b) (n+1) x)(p:(aC (n+1) x).length<=2097152)(r:nk<=49000)(q:base<=w.heap.size)(k:bJ (n+1) x≠0):ao 85 #[aH pb,dG (n+1) x] w λe w'=>e=.returned (ab (if 20<=ms.length then 2 else bJ (n+1) x))/\am w w':=by
 have z:=f.len;obtain⟨A,u⟩:=f.box0;refine(rN pb x.1.1 x.1.2.1 x.1.2.2 x.2.1.1 x.2.2.length x.2.1.2 vs.length mc ma w (λ_ l h d=>l=bJ (n+1) x/\am h d) (λ_ _ _ _ _ _=>False) u ?_ ?_ ?_).mono ?_
 ·intro d a;obtain⟨D,B,C,i,_⟩:=(f.later a).heap.box;exact(PL.cells i).2.2.2.1
 ·intro h a;have g:=a.size;refine((f.later a).putBad x ((v.below a).mono g) t p r (aF q g) k).mono ?_;rintro e d ⟨rfl,c⟩;exact⟨(0,0),_,rfl,⟨c.size,λb _ _ j=>c.block b j⟩,rfl,c⟩
 ·rintro y h d ⟨e,_⟩;exact absurd e.symm k
 ·rintro e w' ⟨i,m⟩;by_cases o:20<=vs.length
  ·obtain⟨rfl,a⟩:=i o;exact⟨by rw[if_pos (by omega)],a⟩
  ·obtain⟨y,l,h,d,rfl,a,⟨rfl,c⟩,j,_⟩:=m (by omega);have g:=a.size;exact⟨by rw[if_neg (by omega)],(a.trans (c.mono g)).trans ((j k).mono (by have:=c.size;omega))⟩
end
def kG(n:Nat)(x:Tm n)(room:Int)(s:Tc)(ms:List Tc):Int:=if 20<=ms.length then 2 else if bJ n x≠0 then bJ n x else if aT n x=false then 5 else if ((s::ms).map (sz 13)).sum+sz n x<=room then 0 else 6
theorem FH{l:List Tc}(a:∀y∈l,bJ 13 y=0):((l.map (cn 13)).map (sz 13)).sum=(l.map (sz 13)).sum:=by
 rw[gW];congr 1;exact jH λy b=>FI (a y b)
section
variable {base pb:Nat} {name:aq} {room:Int} {n:Nat} {s:Tc} {ms:List Tc} {nk:Nat} {M:aO} {w:ag} {ws:List Wd} {nm:br} {sv:Wd} {vs:List Wd} {ma:ar} {mc:Nat} {Mh:aO}
theorem cV.deliverC(f:cV base pb name room 13 s ms [] nk M w ws nm sv vs ma mc Mh)(x:Tm (n+1))(C:In w.heap.size w (n+1) x)(B:cD (λb=>¬M b) (n+1) x)(J:(aC (n+1) x).length<=2097152)(I:∀b,M b->b<w.heap.size)(A:nk<=49000)(G:ms.length<=999)(v:base<=w.heap.size):ao 85 #[aH pb,dG (n+1) x] w λe w'=>e=.returned (ab (kG (n+1) x room (cn 13 s) (ms.map (cn 13))))/\Hid (∃D q m o p k l h,cV base pb name room 13 s D [] (nk+201) (λb=>M b\/w.heap.size<=b) w' q m o p k l h/\ch M w w'/\D.map (cn 13)=if kG (n+1) x room (cn 13 s) (ms.map (cn 13))=0 then ms.map (cn 13)++ [cn (n+1) x]else ms.map (cn 13)):=by
 have L:∀r∈s::ms,bJ 13 r=0:=λr Q=>((f.front (N:=12)).2.2.1 r Q).1;have O:((cn 13 s::ms.map (cn 13)).map (sz 13)).sum=((s::ms).map (sz 13)).sum:=FH L;by_cases a:bJ (n+1) x=0
 ·have j:aJ ⟨n+1,x⟩:=aU.2 (bM.1 a).1;have i:fU (n+1) x<13:=by have:=(bM.1 a).2.1;omega
  have g:=jS 13 (n+1) x j i;have y:bJ 13 (bf 13 (n+1) x)=0:=(cd g).trans a;have z:=f.deliver (N:=12) (bf 13 (n+1) x) (tb 13 (n+1) x _ _ j i C) (uH 13 (n+1) x _ j i B) (fD y) I A G v;have d:zP 13 (bf 13 (n+1) x) room s ms=kG (n+1) x room (cn 13 s) (ms.map (cn 13)):=by
   unfold zP kG tf;rw[O,dS,y,a,cR _ _ _ _ g,mw _ _ _ _ g]
  have P:dG (12+1) (bf (12+1) (n+1) x)=dG (n+1) x:=Af 12 n x;rw[P]at z;refine z.mono ?_;rintro e w' ⟨rfl,E⟩;obtain⟨q,m,o,p,k,l,h,F,K⟩:=E;refine⟨congrArg (λS=>Ending.returned (ab S)) d,_,q,m,o,p,k,l,h,F,K,?_⟩;have H:zP (12+1) (bf (12+1) (n+1) x) room s ms=kG (n+1) x room (cn 13 s) (ms.map (cn 13)):=d;rw[H];by_cases c:kG (n+1) x room (cn 13 s) (ms.map (cn 13))=0
  ·rw[if_pos c,if_pos c,gV];congr 1;exact congrArg (λt=> [t]) (iK g)
  ·rw[if_neg c,if_neg c]
 ·have d:kG (n+1) x room (cn 13 s) (ms.map (cn 13))=if 20<=ms.length then 2 else bJ (n+1) x:=by
    unfold kG;rw[dS,if_pos a]
  have c:kG (n+1) x room (cn 13 s) (ms.map (cn 13))≠0:=by
   rw[d];split
   ·decide
   ·exact a
  refine(f.deliverBad (N:=12) x C B J A v a).mono ?_;rintro e w' ⟨rfl,u⟩;refine⟨by rw[d],ms,ws,nm,sv,vs,ma,mc,Mh,(f.later (N:=12) u).mono (N:=12) (λb R=>aj R) (by omega),bu u M,?_⟩;rw[if_neg c]
end
theorem K6{n:Nat}{x:Tm (n+1)}(room:Int)(name:aq)(b:bJ (n+1) x=0):gD 13 (bf 13 (n+1) x) room name=gD (n+1) x room name:=by
 have d:aJ ⟨n+1,x⟩:=aU.2 (bM.1 b).1;have c:fU (n+1) x<13:=by have:=(bM.1 b).2.1;omega
 have a:=jS 13 (n+1) x d c;unfold gD kh;rw[cd a,cR _ _ _ _ a,mw _ _ _ _ a]
theorem Qd(n:Nat)(x:Tm (n+1))(room:Int)(name:aq)(w:ag)(m:name.size<=9223372036854775807)(o:In w.heap.size w (n+1) x)(q:(aC (n+1) x).length<=2097152):ao 42 #[af name,dG (n+1) x,ab room] w λe w'=>(gD (n+1) x room name≠0->e=.returned (.tuple #[.pointer none,ab (gD (n+1) x room name)])/\am w w')/\ (gD (n+1) x room name=0->∃d,e=.returned (.tuple #[aH d,ab 0])/\Hid (w.heap.size<=d/\am w w'/\bJ (n+1) x=0/\∃s ws nm h Mh,cn 13 s=cn (n+1) x/\cV w.heap.size d name room 13 s [] [] 201 (λb=>w.heap.size<=b/\b<w'.heap.size) w' ws nm h [] none 0 Mh)):=by
 by_cases c:bJ (n+1) x=0
 ·have k:aJ ⟨n+1,x⟩:=aU.2 (bM.1 c).1;have j:fU (n+1) x<13:=by have:=(bM.1 c).2.1;omega
  have l:=jS 13 (n+1) x k j;have r:bJ 13 (bf 13 (n+1) x)=0:=(cd l).trans c;have i:=Cs 12 (bf 13 (n+1) x) room name w m (tb 13 (n+1) x _ _ k j o) (fD r);have u:dG (12+1) (bf (12+1) (n+1) x)=dG (n+1) x:=Af 12 n x;rw[u]at i;refine i.mono ?_;rintro e w' ⟨f,g⟩;have t:gD (12+1) (bf (12+1) (n+1) x) room name=gD (n+1) x room name:=K6 room name c;rw[t]at f g;refine⟨f,λa=>?_⟩;obtain⟨d,rfl,p⟩:=g a;obtain⟨v,y,ws,nm,h,Mh,z⟩:=p;exact⟨d,rfl,v,y,c,_,ws,nm,h,Mh,iK l,z⟩
 ·refine(Cs n x room name w m o q).mono ?_;rintro e w' ⟨f,g⟩;refine⟨f,λa=>?_⟩;unfold gD at a;split at a
  ·cases a
  ·split at a
   ·cases a
   ·unfold kh at a;rw[if_pos c]at a;exact absurd a c
def P1(e l:Nat)(name:aq)(room:Int)(cs:Tc)(g:List Tc)(k:Nat)(M:aO)(w:ag):Prop:=
 ∃a d c o j m n h i f,cV a l name room 13 d c [] k M w o j m n h i f/\(cn 13 d=cs/\c.map (cn 13)=g)/\a<=w.heap.size/\∀b,M b->e<=b/\b<w.heap.size
section
variable {B0 pb:Nat} {name:aq} {room:Int} {cs:Tc} {cms:List Tc} {k:Nat} {M:aO} {w:ag}
theorem P1.later(g:P1 B0 pb name room cs cms k M w){w1:ag}(c:am w w1):P1 B0 pb name room cs cms k M w1:=by
 obtain⟨f,o,m,r,n,p,q,j,l,e,h,i,s,a⟩:=g;have t:=c.size;exact⟨f,o,m,r,n,p,q,j,l,e,h.later (N:=12) c,i,by omega,λb d=>⟨(a b d).1,by have:=(a b d).2;omega⟩⟩
theorem P1.kept(g:P1 B0 pb name room cs cms k M w){S:aO}{w1:ag}(d:ch S w w1)(j:∀b,M b->¬S b):P1 B0 pb name room cs cms k M w1:=by
 obtain⟨f,p,n,s,o,q,r,l,m,e,h,i,t,c⟩:=g;have u:=d.size;exact⟨f,p,n,s,o,q,r,l,m,e,h.kept (N:=12) d λb a _=>j b a,i,by omega,λb a=>⟨(c b a).1,by have:=(c b a).2;omega⟩⟩
def mM(M:aO)(w w':ag)(b:Nat):Prop:=(M b\/w.heap.size<=b)/\b<w'.heap.size
theorem P1.ok(h:P1 B0 pb name room cs cms k M w):bJ 13 cs=0/\aT 13 cs=true/\(∀m∈cms,bJ 13 m=0/\aT 13 m=true)/\((cs::cms).map (sz 13)).sum<=room:=by
 obtain⟨q,b,f,z,v,x,y,t,u,p,i,⟨rfl,rfl⟩,r,s⟩:=h;obtain⟨_,_,e,n,o,_⟩:=i.front (N:=12);have j:∀a∈b::f,bJ 13 a=0:=λa d=>(e a d).1;have c:=e b (by simp);refine⟨nP c.1,(kN c.1).trans c.2,λm l=>?_,?_⟩
 ·obtain⟨a,d,rfl⟩:=cu.1 l;have:=e a (bW _ d);exact⟨nP this.1,(kN this.1).trans this.2⟩
 ·have g:((cn 13 b::f.map (cn 13)).map (sz 13)).sum=((b::f).map (sz 13)).sum:=FH j;rw[g];exact Int.le_trans n o
theorem P1.deliver(j:P1 B0 pb name room cs cms k M w){n:Nat}(x:Tm (n+1))(t:In w.heap.size w (n+1) x)(s:cD (λb=>¬M b) (n+1) x)(q:(aC (n+1) x).length<=2097152)(r:k<=49000)(m:cms.length<=999)(G:B0<=w.heap.size):ao 85 #[aH pb,dG (n+1) x] w λe w'=>e=.returned (ab (kG (n+1) x room cs cms))/\Hid (ch M w w'/\P1 B0 pb name room cs (if kG (n+1) x room cs cms=0 then cms++ [cn (n+1) x]else cms) (k+201) (mM M w w') w'):=by
 obtain⟨i,A,J,P,K,L,O,H,I,E,l,⟨rfl,rfl⟩,c,d⟩:=j;refine(l.deliverC x t s q (λb a=>(d b a).2) r (by simpa using m) c).mono ?_;rintro e w' ⟨rfl,h⟩;obtain⟨y,D,z,B,C,u,v,F,o,f,p⟩:=h;refine⟨rfl,f,i,A,y,D,z,B,C,u,v,_,o.inside (N:=12),⟨rfl,p⟩,aF c f.size,λb a=>⟨?_,a.2⟩⟩;rcases a.1 with g|g
 ·exact(d b g).1
 ·omega
theorem P1.state(d:P1 B0 pb name room cs cms k M w)(g:k<=50000):ao 34 #[aH pb] w λe w'=>∃y:Tc,e=.returned (dG 13 y)/\Hid (am w w'/\In w'.heap.size w' 13 y/\cD (λq=>w.heap.size<=q) 13 y/\bJ 13 y=0/\cn 13 y=cs):=by
 obtain⟨l,h,r,v,s,t,u,o,p,j,a,⟨rfl,rfl⟩,m,n⟩:=d;have f:=(a.front (N:=12)).2.2.1 h (by simp);refine(a.state (N:=12) g).mono ?_;rintro e w' ⟨y,rfl,c⟩;obtain⟨y1,y2,i,b⟩:=c;exact⟨y,rfl,y1,y2,i,(cd b).trans f.1,iK b⟩
end
section
variable {B0 pb:Nat} {name:aq} {room:Int} {cs:Tc} {cms:List Tc} {k:Nat} {M:aO} {w:ag}
theorem P1.mono(f:P1 B0 pb name room cs cms k M w){M':aO}{c a:Nat}(j:∀b,M b->M' b)(m:k<=c)(l:∀b,M' b->a<=b/\b<w.heap.size):P1 a pb name room cs cms c M' w:=by
 obtain⟨e,r,p,u,q,s,t,n,o,d,g,h,i,_⟩:=f;exact⟨e,r,p,u,q,s,t,n,o,d,g.mono (N:=12) j m,h,i,l⟩
def QK(B0 pb:Nat)(name:aq)(room:Int)(cs:Tc)(cms:List Tc)(k:Nat)(M:aO)(n:Nat)(l:List (Bh (n+1)))(self next:Int)(w:ag)(e:Ending)(w':ag):Prop:=
 (∃g,e=.returned (.tuple #[N2,ab g])/\Hid (g≠0/\g=sy n room l name self next cs cms/\am w w'))\/
  ∃(a:Tc)(f:Int)(sa:ar)(sl sc:Nat)(pa:ar)(pl pc:Nat)(ka:ar)(kl kc:Nat),e=.returned (.tuple #[PO a.1.1 a.1.2.1 a.1.2.2 a.2.1.1 a.2.2.length a.2.1.2 f sa sl sc pa pl pc ka kl kc,ab 0])/\Hid (∃c d,sy n room l name self next cs cms=0/\od room l name self next cs cms=some c/\f=c.fate/\cn 13 a=c.message/\bJ 13 a=0/\In w'.heap.size w' 13 a/\cD (λh=>w.heap.size<=h/\h<d) 13 a/\ch M w w'/\w.heap.size<d/\
   P1 B0 pb name room c.state c.mail (k+402) (λb=>(M b\/d<=b)/\b<w'.heap.size) w'/\c.mail.length<=cms.length/\mG (w.heap.size+1) c.sends c.spawns c.links sa sl sc pa pl pc ka kl kc (λ_=>True) w')
theorem P1.step(D:P1 B0 pb name room cs cms k M w){n:Nat}(l:List (Bh (n+1)))(a:ar)(c B:Nat)(K:gL (n+1) B w a l)(G:B<=w.heap.size)(L:l.length<=c)(O:c<=maxLen)(H:kT (n+1) l=true->(aC (n+6) (cm n l)).length<=2097152)(I:∀W,bE M w W->gL (n+1) B W a l)(ai:B0<=w.heap.size)(J:k<=47000)(F:cms.length<=999)(self next:Int):ao 45 #[aH pb,ae a l.length c,ab self,ab next] w (QK B0 pb name room cs cms k M n l self next w):=by
 obtain⟨C,ap,S,aw,an,aq,au,al,am,af,E,⟨rfl,rfl⟩,i,j⟩:=D;refine(E.step l a c B K G L O H (λb d=>(j b d).2) I J (by simpa using F) i self next).mono ?_;rintro ah av (⟨Y,rfl,e⟩|⟨ad,f,sa,sl,sc,pa,pl,pc,ka,kl,kc,rfl,e⟩)
 ·exact aj ⟨Y,rfl,e⟩
 ·obtain⟨X,P,o,p,r,s,t,u,v,x,g,y,⟨U,aa,T,V,Z,Q,R,ag,z,A,h⟩,q⟩:=e;refine ak ⟨ad,f,sa,sl,sc,pa,pl,pc,ka,kl,kc,rfl,X,o,p,r,s,t,u,v,x,g,y,⟨C,U,_,aa,T,V,Z,Q,R,_,z.inside (N:=12),⟨A,h⟩,aF i g.size,λb d=>⟨?_,d.2⟩⟩,?_,q⟩
  ·rcases d.1 with m|m
   ·exact(j b m).1
   ·omega
  ·rw[<-h,dS,dS];exact List.length_eraseIdx_le S P
end
theorem P1.new(n:Nat)(x:Tm (n+1))(room:Int)(name:aq)(w:ag)(m:name.size<=9223372036854775807)(o:In w.heap.size w (n+1) x)(k:(aC (n+1) x).length<=2097152):ao 42 #[af name,dG (n+1) x,ab room] w λe w'=>∃p:ar,e=.returned (.tuple #[.pointer p,ab (gD (n+1) x room name)])/\Hid (am w w'/\(gD (n+1) x room name≠0->p=none)/\(gD (n+1) x room name=0->∃a,p=some ⟨a,0,none⟩/\w.heap.size<=a/\bJ (n+1) x=0/\P1 w.heap.size a name room (cn (n+1) x) [] 201 (λb=>w.heap.size<=b/\b<w'.heap.size) w')):=by
 refine(Qd n x room name w m o k).mono ?_;rintro e w' ⟨i,j⟩;by_cases c:gD (n+1) x room name=0
 ·obtain⟨a,rfl,g⟩:=j c;obtain⟨q,f,r,v,z,u,y,h,s,t⟩:=g;exact⟨some ⟨a,0,none⟩,by rw[c],f,λd=>absurd c d,λ_=>⟨a,rfl,q,r,w.heap.size,v,[],z,u,y,[],none,0,h,t,⟨s,rfl⟩,f.size,λb d=>d⟩⟩
 ·obtain⟨rfl,l⟩:=i c;exact⟨none,rfl,l,λ_=>rfl,λd=>absurd d c⟩
structure BL where
 b:Nat
 o:Nat
 c:Array au
 t:TypeId
def uc(p:BL)(a:da)(w:ag):Prop:=(p.o<p.c.size/\p.t≠31)/\w.heap[p.b]?=some (.cells (p.c.setIfInBounds p.o (.map a)) p.t (0,0))
theorem uc.cell{p:BL}{c:da}{w:ag}(a:uc p c w):w.cell? ⟨p.b,p.o,none⟩=some (.map c)/\∀j,w.frozen? ⟨p.b,j,none⟩=false:=by
 refine⟨?_,λj=>by simp[World.frozen?,a.2]⟩;simp[World.cell?,a.2,a.1.1]
theorem uc.lt{p:BL}{c:da}{w:ag}(a:uc p c w):p.b<w.heap.size:=(aI.1 a.2).1
theorem uc.kept{p:BL}{c:da}{w w':ag}(a:uc p c w)(d:w'.heap[p.b]?=w.heap[p.b]?):uc p c w':=⟨a.1,d.trans a.2⟩
theorem uc.set{p:BL}{c mo':da}{w:ag}(a:uc p c w):uc p mo' (w.setCell ⟨p.b,p.o,none⟩ (.map mo')):=by
 refine⟨a.1,?_⟩;simp[World.setCell,bT,a.2]
def iF(base:Nat)(d:BL)(a:da)(n N:Nat)(f:aY->List (Tm N))(sl:aY->au)(w:ag):Prop:=
 base<=d.b/\uc d a w/\((a=none/\f=(λ_=> [])/\sl=λ_=>lZ)\/∃c,a=some c/\GM base c n N f sl w)
def sG(c:BL)(a:da)(sl:aY->au)(b:Nat):Prop:=b=c.b\/a=some b\/∃k,I2 k/\(sl k).ownBlock=some b
variable {base n N:Nat} {wp:BL} {mo:da} {f:aY->List (Tm N)} {sl:aY->au} {w:ag}
theorem iF.lt(c:iF base wp mo n N f sl w)(b:Nat)(a:sG wp mo sl b):base<=b/\b<w.heap.size:=by
 obtain⟨d,e,g⟩:=c;rcases a with rfl|a
 ·exact⟨d,e.lt⟩
 ·rcases g with⟨rfl,_,rfl⟩|⟨i,rfl,h⟩
  ·rcases a with a|⟨k,_,a⟩
   ·cases a
   ·simp[lZ,Value.ownBlock]at a
  ·refine h.lt b ?_;rcases a with a|a
   ·exact aj (az a).symm
   ·exact ak a
theorem FV{wp:BL}{c b:Nat}{sl:aY->au}(a:zW c sl b):sG wp (some c) sl b:=by
 rcases a with rfl|a
 ·exact ak (aj rfl)
 ·exact ak (ak a)
theorem iF.kee{S:aO}{w':ag}(c:iF base wp mo n N f sl w)(k:bE S w w')(d:∀b,sG wp mo sl b->¬S b):iF base wp mo n N f sl w':=by
 have j:=(c.lt wp.b (aj rfl)).2;obtain⟨e,g,a⟩:=c;refine⟨e,g.kept (k.block wp.b j (d wp.b (aj rfl))),?_⟩;rcases a with a|⟨l,rfl,i⟩
 ·exact aj a
 ·exact ak ⟨l,rfl,i.kee k λb h=>d b (FV h)⟩
theorem iF.later{w':ag}(a:iF base wp mo n N f sl w)(k:am w w'):iF base wp mo n N f sl w':=a.kee (aR k λ_=>False) λ_ _ b=>b
theorem iF.row(a:iF base wp mo n N f sl w){k:aY}(c:I2 k):oA base N (sl k) (f k) w:=by
 rcases a.2.2 with⟨_,rfl,rfl⟩|⟨d,_,b⟩
 ·exact⟨by simp[dw,cO],aj ⟨rfl,rfl⟩⟩
 ·exact b.row k c
theorem iF.look(b:iF base wp mo n N f sl w){k:aY}(a:I2 k):(Instr.lookup 51 (.map mo) (pk k) false).run Tryz.prog w=.ok (sl k) w:=by
 rcases b.2.2 with⟨rfl,_,rfl⟩|⟨d,rfl,c⟩
 ·exact Ib w a
 ·exact c.look a
theorem iF.cell(a:iF base wp mo n N f sl w):ai w wp.b (wp.o) (.map mo)/\∀j,w.frozen? ⟨wp.b,j,none⟩=false:=by
 exact a.2.1.cell
theorem oA.sliced{v:Value}{l:List (Tm N)}(d:oA base N v l w):∃a c,v=.slice a l.length c:=by
 rcases d.2 with⟨rfl,b⟩|⟨f,cap,e,rfl,_⟩
 ·exact⟨none,0,by rw[b]⟩
 ·exact⟨_,_,rfl⟩
theorem Jw(c:iF base wp mo n N f sl w){a b:Int}(g:I2 (a,b)):ao 160 #[.pointer (some ⟨wp.b,wp.o,none⟩),ab a,ab b] w λe w'=>e=.returned (ab (f (a,b)).length)/\w'=w:=by
 have i:=c.cell.1;obtain⟨sa,sc,h⟩:=(c.row g).sliced;have d:=c.look g;rw[h]at d;unfold pk at d;simp only at d;clear c;go_enter func160,ntmps160;go_wp2_with fail
 go_ret
 exact⟨rfl,rfl⟩
theorem F8(a:Int)(w:ag):ao 159 #[ab a] w λe w'=>e=.returned (.bool (decide (1<=a) && decide (a<=99)))/\w'=w:=by
 go_enter func159,ntmps159;by_cases b:1<=a<;>by_cases c:a<=99
 all_goals
  go_wp2_with fail
  go_ret
  simp[b,c]
variable {base mb n N:Nat} {f:aY->List (Tm N)} {sl:aY->au} {w wr:ag}
def Oi(base mb n N:Nat)(f:aY->List (Tm N))(sl:aY->au)(k:aY)(g:Nat)(W e:ag):Prop:=
 ∀(a:ag)(c:au)(l:List (Tm N)),a.heap[mb]?=e.heap[mb]? ->bE (λb=>b=mb\/(sl k).ownBlock=some b) W a->l≠[]->oA base N c l a->(∀b,c.ownBlock=some b->(sl k).ownBlock=some b\/W.heap.size<=b)->
  ∃d,(Instr.entryStore 51 (.map (some mb)) (goInt g) c).run Tryz.prog a=.ok () d/\GM base mb (n+1) N (fK f k l) (fK sl k c) d/\bE (λb=>b=mb) a d/\d.heap.size=a.heap.size
def ON(base mb n N:Nat)(f:aY->List (Tm N))(sl:aY->au)(k:aY)(y:Tm N)(wr c:ag):Prop:=
 ∃a,GM base mb (n+1) N (fK f k (f k++ [y])) (fK sl k a) c/\bE (zW mb sl) wr c/\∀b,zW mb (fK sl k a) b->zW mb sl b\/wr.heap.size<=b
theorem GM.open(d:GM base mb n N f sl wr){k:aY}(h:I2 k)(i:n<1000000){W:ag}(e:am wr W):∃(c:Nat)(a:ag),(Instr.mapEntry 51 (.map (some mb)) (pk k)).run Tryz.prog W=.ok (.tuple #[sl k,goInt c]) a/\bE (λb=>b=mb) W a/\a.heap.size=W.heap.size/\Oi base mb n N f sl k c W a:=
 (d.kee (aR e λ_=>False) λ_ _ g=>g).entry h i
theorem Oi.done(o:GM base mb n N f sl wr){k:aY}(s:I2 k){w L:Nat}{W i j e:ag}(B:Oi base mb n N f sl k w W i)(q:am wr W)(J:bE (λb=>b=mb) W i)(M:i.heap.size=W.heap.size)(l:am i j)(D:j.grownBy e (sl k).ownBlock){g c:Nat}{y:Tm N}(z:(f k).length=L)(F:e.ownsRow base 31 4 (ae (some ⟨g,0,none⟩) (L+1) c) (L+1) (dw N (f k)++uk (gK N y)))(A:(sl k).ownBlock=some g\/g=j.heap.size):∃h,(Instr.entryStore 51 (.map (some mb)) (goInt w) (ae (some ⟨g,0,none⟩) (L+1) c)).run Tryz.prog e=.ok () h/\ON base mb n N f sl k y wr h/\bE (λb=>b=mb) e h/\h.heap.size=e.heap.size:=by
 subst z;have K:=o.lt mb (aj rfl);have P:=q.size;have O:=l.size;have v:=eM D;have I:(Value.slice (some ⟨g,0,none⟩) ((f k).length+1) c).ownBlock=some g:=rfl;have u:∀b,(Value.slice (some ⟨g,0,none⟩) ((f k).length+1) c).ownBlock=some b->(sl k).ownBlock=some b\/W.heap.size<=b:=λb d=>by
  rw[I]at d;injection d with d;subst d;rcases A with a|a
  ·exact aj a
  ·exact ak (by omega)
 have p:bE (λb=>b=mb\/(sl k).ownBlock=some b) W e:=by
  refine bE.trans (bE.trans (J.mono λb _ a=>aj a) (aR l λ_=>False) λ_ _ C=>C.elim) v λb _ a=>ak a
 have E:e.heap[mb]?=i.heap[mb]? :=(v.block mb (by omega) (o.ne s)).trans (l.block mb (by omega))
 obtain⟨h,G,x,t,H⟩:=B e _ (f k++ [y]) E p (by simp) (by
  unfold oA;rw[qp,bz];have a:dw N [y]=uk (gK N y):=by simp[dw,cO]
  rw[a]
  exact F) u
 refine⟨h,G,⟨_,x,?_,λb d=>?_⟩,t,H⟩
 ·refine bE.trans (bE.trans (aR q _) (p.mono (T:=λb=>b=mb\/(sl k).ownBlock=some b) λb _ a=>a) λb _ a=>?_) t λb _ a=>aj a;rcases a with a|a
  ·exact aj a
  ·exact ak ⟨k,s,a⟩
 ·rcases d with d|⟨m,r,d⟩
  ·exact aj (aj d)
  ·by_cases a:m=k
   ·subst a;rw[cE]at d;rcases u b d with a|a
    ·exact aj (ak ⟨m,r,a⟩)
    ·exact ak (by omega)
   ·rw[bK _ _ a]at d;exact aj (ak ⟨m,r,d⟩)
section
variable {ops:Array Oper} {o:Oper} {a:Act} {K:Act->bt} {Q:Exit->Act->bt} {E:Prop}
end
variable {base n N:Nat} {wp:BL} {mo:da} {f:aY->List (Tm N)} {sl:aY->au} {w:ag}
def OW(base:Nat)(wp:BL)(mo:da)(n N:Nat)(f:aY->List (Tm N))(sl:aY->au)(k:aY)(l:List (Tm N))(w w':ag):Prop:=
 ∃a c,iF base wp a (n+1) N (fK f k l) c w'/\bE (sG wp mo sl) w w'/\∀b,sG wp a c b->sG wp mo sl b\/w.heap.size<=b
theorem Hr:(Tryz.prog.info? 31).map (λi=>(i.zero,i.size,i.bytes))=some (some (.agg #[ab 0,ab 0,af ⟨#[]⟩,ae none 0 0]),4,56):=by kernel_rfl
theorem M8(mb:Nat)(W:ag):(binOp .eql 51 (.map (some mb)) (.map none)).run Tryz.prog W=.ok (.bool false) W:=by kernel_rfl
theorem M7(W:ag):(binOp .eql 51 (.map none) (.map none)).run Tryz.prog W=.ok (.bool true) W:=by kernel_rfl
theorem fQ{S:aO}{W a:ag}(c:bE S W a){b:Nat}(e:b<W.heap.size)(d:¬S b):∀o v,ai W b o v->ai a b o v:=λo _ f=>(c.cell o e d).trans f
theorem FA(wp:BL)(mb:Nat)(i j:Int)(y0 y1:Int)(ys:ByteArray)(ya:Option Addr)(yl yc L sc:Nat)(sa:Option Addr)(xs:List Value)(base:Nat)(w wr:World)(aq:World->Nat->World->Prop)(aj:World->Prop)(bb:L<1000)(bd:base<=w.heap.size)(ai:wp.b<w.heap.size)(a2:(mb<w.heap.size/\wp.b≠mb/\wr=(w.alloc (.cells #[.int .i64 i,.int .i64 j] 44)).alloc (.cells #[.int .i64 y0,.int .i64 y1,.string ys,.slice ya yl yc] 31)/\(∀b,(Value.slice sa L sc).ownBlock=some b->b<w.heap.size/\b≠wp.b)/\Hid (w.cell? ⟨wp.b,wp.o,none⟩=some (.map (some mb))))\/(mb=w.heap.size+1+1/\wr=(((w.alloc (.cells #[.int .i64 i,.int .i64 j] 44)).alloc (.cells #[.int .i64 y0,.int .i64 y1,.string ys,.slice ya yl yc] 31)).alloc (.map #[] 0)).setCell ⟨wp.b,wp.o,none⟩ (.map (some mb))/\(∀b,(Value.slice sa L sc).ownBlock=some b->b<w.heap.size/\b≠wp.b)/\Hid (uc wp none w)))(aT:Hid (∀W,bE (λb=>b=mb) wr W->W.ownsRow base 31 4 (.slice sa L sc) L xs))(aK:Hid (∀W,Below wr.heap.size wr W->∃(z:Nat)(a:World),(Instr.mapEntry 51 (.map (some mb)) (pk (i,j))).run Tryz.prog W=.ok (.tuple #[.slice sa L sc,goInt z]) a/\(bE (λb=>b=mb) W a/\a.heap.size=W.heap.size/\aq W z a)))(aU:Hid (∀W z a aa h g c,aq W z a->Below wr.heap.size wr W->bE (λb=>b=mb) W a->a.heap.size=W.heap.size->Below a.heap.size a aa->aa.grownBy h (Value.slice sa L sc).ownBlock->h.ownsRow base 31 4 (.slice (some ⟨g,0,none⟩) (L+1) c) (L+1) (xs++ [.int .i64 y0,.int .i64 y1,.string ys,.slice ya yl yc])->((Value.slice sa L sc).ownBlock=some g\/g=aa.heap.size)-> ∃l,(Instr.entryStore 51 (.map (some mb)) (goInt z) (.slice (some ⟨g,0,none⟩) (L+1) c)).run Tryz.prog h=.ok () l/\(aj l/\bE (λb=>b=mb) h l/\l.heap.size=h.heap.size))):Calls Tryz.prog 161 #[.pointer (some ⟨wp.b,wp.o,none⟩),.agg #[.int .i64 i,.int .i64 j],.agg #[.int .i64 y0,.int .i64 y1,.string ys,.slice ya yl yc]] w λe w'=>e=.returned (.tuple #[])/\aj w':=by
 obtain⟨D,ay,aH,aI,aJ⟩:=bY Hr;have M:Hid (Tryz.prog.info? 31=some D/\D.zero=some (.agg #[.int .i64 0,.int .i64 0,.string ⟨#[]⟩,.slice none 0 0])/\D.size=4/\D.bytes=56):=⟨ay,aH,aI,aJ⟩;clear ay aH aI aJ;rcases a2 with⟨ag,ah,m,T,A⟩|⟨ag,m,T,A⟩
 case' inl=>
  have ab:=A.out;have aL:=M8 mb;have O:Hid (∃f d,f=w.heap.size/\d=w.heap.size+1):=⟨_,_,rfl,rfl⟩;go_enter func161,ntmps161;go_wp2_with fail;obtain⟨f,d,x,y⟩:=O.out;rw[<-m,<-y,<-x];have aG:wr.heap.size=w.heap.size+2:=by rw[m];simp
  have ak:Hid (Below w.heap.size w wr):=by
   rw[m];exact((aA _ _).alloc (av _) _).alloc (by simp) _
  have Y:Hid (wr.heap[f]?=some (.cells #[.int .i64 i,.int .i64 j] 44)):=by
   rw[m,x];exact(((aA _ _).alloc (av _) _).block w.heap.size (by simp)).trans (aD w _)
  have Z:Hid (wr.heap[d]?=some (.cells #[.int .i64 y0,.int .i64 y1,.string ys,.slice ya yl yc] 31)):=by
   rw[m,y];have s:=aD (w.alloc (.cells #[.int .i64 i,.int .i64 j] 44)) (.cells #[.int .i64 y0,.int .i64 y1,.string ys,.slice ya yl yc] 31);have e:(w.alloc (.cells #[.int .i64 i,.int .i64 j] 44)).heap.size=w.heap.size+1:=by simp
   rwa [e]at s
  have V:Hid (wr.cell? ⟨wp.b,wp.o,none⟩=some (.map (some mb))):=(ak.cell (p:=⟨wp.b,wp.o,none⟩) ai).trans ab;clear ak
 case' inr=>
  have ab:w.cell? ⟨wp.b,wp.o,none⟩=some (.map none):=A.cell.1;have ad:uc wp none (((w.alloc (.cells #[.int .i64 i,.int .i64 j] 44)).alloc (.cells #[.int .i64 y0,.int .i64 y1,.string ys,.slice ya yl yc] 31)).alloc (.map #[] 0)):=A.kept (((((aA w.heap.size w).alloc (av _) _).alloc (by simp) _).alloc (by simp;omega) _).block wp.b ai);have a9:(((w.alloc (.cells #[.int .i64 i,.int .i64 j] 44)).alloc (.cells #[.int .i64 y0,.int .i64 y1,.string ys,.slice ya yl yc] 31)).alloc (.map #[] 0)).frozen? ⟨wp.b,wp.o,none⟩=false:=ad.cell.2 _;have ba:(((w.alloc (.cells #[.int .i64 i,.int .i64 j] 44)).alloc (.cells #[.int .i64 y0,.int .i64 y1,.string ys,.slice ya yl yc] 31)).alloc (.map #[] 0)).cell? ⟨wp.b,wp.o,none⟩=some (.map none):=ad.cell.1;clear ad;have ah:wp.b≠mb:=by omega
  have aL:=M7;have be:= @lC Tryz.prog;have O:Hid (∃f d,f=w.heap.size/\d=w.heap.size+1):=⟨_,_,rfl,rfl⟩;go_enter func161,ntmps161;go_wp2_with fail;obtain⟨f,d,x,y⟩:=O.out;rw[<-ag,<-m,<-y,<-x];have aG:wr.heap.size=w.heap.size+3:=by rw[m];simp[World.setCell]
  have ae:∀b,b≠wp.b->wr.heap[b]?=(((w.alloc (.cells #[.int .i64 i,.int .i64 j] 44)).alloc (.cells #[.int .i64 y0,.int .i64 y1,.string ys,.slice ya yl yc] 31)).alloc (.map #[] 0)).heap[b]? :=λb C=>by
   rw[m];have:wp.b≠b:=λe=>C e.symm;simp[World.setCell,bT,this]
  have Y:Hid (wr.heap[f]?=some (.cells #[.int .i64 i,.int .i64 j] 44)):=by
   rw[ae f (by omega),x];exact((((aA _ _).alloc (av _) _).alloc (by simp) _).block w.heap.size (by simp)).trans (aD w _)
  have Z:Hid (wr.heap[d]?=some (.cells #[.int .i64 y0,.int .i64 y1,.string ys,.slice ya yl yc] 31)):=by
   rw[ae d (by omega),y];have s:=aD (w.alloc (.cells #[.int .i64 i,.int .i64 j] 44)) (.cells #[.int .i64 y0,.int .i64 y1,.string ys,.slice ya yl yc] 31);have e:(w.alloc (.cells #[.int .i64 i,.int .i64 j] 44)).heap.size=w.heap.size+1:=by simp
   rw[e]at s;exact(((aA _ _).alloc (av _) _).block (w.heap.size+1) (by simp)).trans s
  have V:Hid (wr.cell? ⟨wp.b,wp.o,none⟩=some (.map (some mb))):=by
   rw[m];exact(uc.set (mo':=some mb) (A.kept (((((aA w.heap.size w).alloc (av _) (.cells #[.int .i64 i,.int .i64 j] 44)).alloc (by simp) (.cells #[.int .i64 y0,.int .i64 y1,.string ys,.slice ya yl yc] 31)).alloc (by simp;omega) (.map #[] 0)).block wp.b ai))).cell.1
  clear ae
 all_goals
  have az:f<wr.heap.size:=by omega
  have aB:d<wr.heap.size:=by omega
  have aC:wp.b<wr.heap.size:=by omega
  have a4:mb<wr.heap.size:=by omega
  have bc:base<=wr.heap.size:=by omega
  have S:f≠mb:=by omega
  have u:d≠mb:=by omega
  have U:∀b,(Value.slice sa L sc).ownBlock=some b->b≠f/\b≠d/\b≠wp.b:=λb C=>⟨by have:=(T b C).1;omega,by have:=(T b C).1;omega,(T b C).2⟩;have N:Hid (∀W,Below wr.heap.size wr W->W.cell? ⟨wp.b,wp.o,none⟩=some (.map (some mb))/\(W.cell? ⟨f,0,none⟩=some (.int .i64 i)/\W.cell? ⟨f,1,none⟩=some (.int .i64 j))/\(W.cell? ⟨d,0,none⟩=some (.int .i64 y0)/\W.cell? ⟨d,1,none⟩=some (.int .i64 y1)/\W.cell? ⟨d,2,none⟩=some (.string ys)/\W.cell? ⟨d,3,none⟩=some (.slice ya yl yc))):=by
   intro W n;have au:=(n.block f az).trans Y;have Q:=(n.block d aB).trans Z;exact⟨(n.cell (p:=⟨wp.b,wp.o,none⟩) aC).trans V,⟨by simp[World.cell?,au],by simp[World.cell?,au]⟩,by simp[World.cell?,Q],by simp[World.cell?,Q],by simp[World.cell?,Q],by simp[World.cell?,Q]⟩
  have X:Hid (∀B W a,bE B W a->wr.heap.size<=W.heap.size->¬B wp.b->¬B f->¬B d->(W.cell? ⟨wp.b,wp.o,none⟩=some (.map (some mb))/\(W.cell? ⟨f,0,none⟩=some (.int .i64 i)/\W.cell? ⟨f,1,none⟩=some (.int .i64 j))/\(W.cell? ⟨d,0,none⟩=some (.int .i64 y0)/\W.cell? ⟨d,1,none⟩=some (.int .i64 y1)/\W.cell? ⟨d,2,none⟩=some (.string ys)/\W.cell? ⟨d,3,none⟩=some (.slice ya yl yc)))->
    a.cell? ⟨wp.b,wp.o,none⟩=some (.map (some mb))/\(a.cell? ⟨f,0,none⟩=some (.int .i64 i)/\a.cell? ⟨f,1,none⟩=some (.int .i64 j))/\(a.cell? ⟨d,0,none⟩=some (.int .i64 y0)/\a.cell? ⟨d,1,none⟩=some (.int .i64 y1)/\a.cell? ⟨d,2,none⟩=some (.string ys)/\a.cell? ⟨d,3,none⟩=some (.slice ya yl yc))):=by
   rintro B W a k bf a6 a7 a8 ⟨E,⟨F,G⟩,H,I,J,K⟩;have aX:=fQ k (b:=wp.b) (by omega) a6;have ar:=fQ k (b:=f) (by omega) a7;have P:=fQ k (b:=d) (by omega) a8;exact⟨aX _ _ E,⟨ar _ _ F,ar _ _ G⟩,P _ _ H,P _ _ I,P _ _ J,P _ _ K⟩
  have am:Hid (∀W a,Below wr.heap.size wr W->bE (λb=>b=mb) W a->a.cell? ⟨wp.b,wp.o,none⟩=some (.map (some mb))/\(a.cell? ⟨f,0,none⟩=some (.int .i64 i)/\a.cell? ⟨f,1,none⟩=some (.int .i64 j))/\(a.cell? ⟨d,0,none⟩=some (.int .i64 y0)/\a.cell? ⟨d,1,none⟩=some (.int .i64 y1)/\a.cell? ⟨d,2,none⟩=some (.string ys)/\a.cell? ⟨d,3,none⟩=some (.slice ya yl yc))):=
   λW a n k=>X _ W a k n.size ah S u (N W n)
  have aS:Hid (∀W a h,Below wr.heap.size wr W->bE (λb=>b=mb) W a->a.grownBy h (Value.slice sa L sc).ownBlock->h.cell? ⟨wp.b,wp.o,none⟩=some (.map (some mb))/\(h.cell? ⟨f,0,none⟩=some (.int .i64 i)/\h.cell? ⟨f,1,none⟩=some (.int .i64 j))/\(h.cell? ⟨d,0,none⟩=some (.int .i64 y0)/\h.cell? ⟨d,1,none⟩=some (.int .i64 y1)/\h.cell? ⟨d,2,none⟩=some (.string ys)/\h.cell? ⟨d,3,none⟩=some (.slice ya yl yc))):=
   λW a h n k a3=>X _ a h (eM a3) (aF n.size k.size) (λe=>(U _ e).2.2 rfl) (λe=>(U _ e).1 rfl) (λe=>(U _ e).2.1 rfl) (am W a n k)
  have q:Hid (Below wr.heap.size wr (wr.alloc (.cells #[.int .i64 y0,.int .i64 y1,.string ys,.slice ya yl yc] 31)).drew):=(show Below _ _ _ by go_grown);have ao:Hid ((wr.alloc (.cells #[.int .i64 y0,.int .i64 y1,.string ys,.slice ya yl yc] 31)).drew.heap.size=wr.heap.size+1):=(show _=_ by simp[World.drew]);have aM:Hid (∀a,bE (λb=>b=mb) (wr.alloc (.cells #[.int .i64 y0,.int .i64 y1,.string ys,.slice ya yl yc] 31)).drew a->bE (λb=>b=mb) wr a):=λa k=>bE.trans (aR q _) k λ_ _ e=>e
  have aN:Hid (∀a,bE (λb=>b=mb) (wr.alloc (.cells #[.int .i64 y0,.int .i64 y1,.string ys,.slice ya yl yc] 31)).drew a->a.heap[wr.heap.size]?=some (.cells #[.int .i64 y0,.int .i64 y1,.string ys,.slice ya yl yc] 31)):=
   λa k=>(k.block wr.heap.size (by rw[ao.out];omega) (by omega)).trans (aD wr _)
  have aQ:Hid (∀h l,(h.cell? ⟨wp.b,wp.o,none⟩=some (.map (some mb))/\(h.cell? ⟨f,0,none⟩=some (.int .i64 i)/\h.cell? ⟨f,1,none⟩=some (.int .i64 j))/\(h.cell? ⟨d,0,none⟩=some (.int .i64 y0)/\h.cell? ⟨d,1,none⟩=some (.int .i64 y1)/\h.cell? ⟨d,2,none⟩=some (.string ys)/\h.cell? ⟨d,3,none⟩=some (.slice ya yl yc)))->bE (λb=>b=mb) h l->(l.cell? ⟨wp.b,wp.o,none⟩=some (.map (some mb))/\(l.cell? ⟨f,0,none⟩=some (.int .i64 i)/\l.cell? ⟨f,1,none⟩=some (.int .i64 j))/\(l.cell? ⟨d,0,none⟩=some (.int .i64 y0)/\l.cell? ⟨d,1,none⟩=some (.int .i64 y1)/\l.cell? ⟨d,2,none⟩=some (.string ys)/\l.cell? ⟨d,3,none⟩=some (.slice ya yl yc)))):=by
   rintro h l ⟨E,⟨F,G⟩,H,I,J,K⟩ k;have lt:=λ(b o:Nat)(v:Value)(s:h.cell? ⟨b,o,none⟩=some v)=>iC h ⟨b,o,none⟩ s;exact⟨fQ k (lt _ _ _ E) ah _ _ E,⟨fQ k (lt _ _ _ F) S _ _ F,fQ k (lt _ _ _ G) S _ _ G⟩,fQ k (lt _ _ _ H) u _ _ H,fQ k (lt _ _ _ I) u _ _ I,fQ k (lt _ _ _ J) u _ _ J,fQ k (lt _ _ _ K) u _ _ K⟩
  obtain⟨E,⟨F,G⟩,H,I,J,K⟩:=N.out wr (aA _ _);obtain⟨z,a,a0,R⟩:=aK _ q;have r:=ap R;have aO:=ap (am _ _ q R.1);have aW:=ap (R.2.1.trans ao);simp only[pk,goInt]at a0;clear R;clear ag x y m O aG V Y Z X ab az aB aC a4 S u U;go_wp2_with fail
  go_region_held3 (λW=>W.cell? ⟨wp.b,wp.o,none⟩=some (.map (some mb))/\(W.cell? ⟨f,0,none⟩=some (.int .i64 i)/\W.cell? ⟨f,1,none⟩=some (.int .i64 j))/\(W.cell? ⟨d,0,none⟩=some (.int .i64 y0)/\W.cell? ⟨d,1,none⟩=some (.int .i64 y1)/\W.cell? ⟨d,2,none⟩=some (.string ys)/\W.cell? ⟨d,3,none⟩=some (.slice ya yl yc)))
   (first|(go_keep;done)|exact N _ (aA _ _).drew|exact N _ q|exact aO|exact al|exact aP) ((first
    | (refine step_append_lies _ rfl _ _ 29 rfl base 31 D _ 4 56 underlying29 M.1 M.2.1 M.2.2.1 M.2.2.2 rfl (by decide) (.slice sa L sc) L xs (by simp[Act.eval]) (aT _ (aM _ r.1)) ⟨wr.heap.size,0,none⟩ 1 1 [.int .i64 y0,.int .i64 y1,.string ys,.slice ya yl yc] (by simp[Act.eval]) rfl (World.news_of_block (cs:= #[.int .i64 y0,.int .i64 y1,.string ys,.slice ya yl yc]) (t:=31) (fr:=(0,0)) (aN _ r.1)) (by simp[Value.oneCell']) (by decide) (by unfold maxLen;omega) (by omega) (by have:=aW.out;omega) _ rfl ?_;intro aZ aY h aE af ax a5;have aV:=aU _ _ _ _ _ aZ aY r.2.2 q r.1 r.2.1 (aA _ _) af aE ax;obtain⟨l,a1,aw⟩:=aV;have an:=ap aw;simp only[goInt]at a1;have al:=ap (aS _ _ _ q r.1 af);have aP:=ap (aQ _ _ al an.2.1);clear aE af ax a5 aw)))
  exact dL (v:=.tuple #[]) (by simp[results]) rfl ⟨rfl,an.1⟩
variable {base n N:Nat} {wp:BL} {mo:Option Nat} {f:Int×Int->List (Tm N)} {sl:Int×Int->Value} {w:World}
theorem oA.at{v:Value}{l:List (Tm N)}(d:oA base N v l w):∃a c,v=.slice a l.length c/\w.ownsRow base 31 4 (.slice a l.length c) l.length (dw N l):=by
 obtain⟨a,c,b⟩:=d.sliced;refine⟨a,c,b,?_⟩;rw[<-b];exact d
theorem Gr(y:Tm (N+1)):uk (gK (N+1) y)=[.int .i64 y.1.1,.int .i64 y.1.2.1,.string y.1.2.2,.slice y.2.1.1 y.2.2.length y.2.1.2]:=rfl
theorem xi{mb:Nat}(g:iF base wp (some mb) n N f sl w):wp.b≠mb:=by
 intro e;obtain⟨_,h,c⟩:=g;rcases c with⟨c,_⟩|⟨l,a,i⟩
 ·cases c
 ·injection a with a;subst a e;obtain⟨j,⟨es,k,d,_⟩,_⟩:=i.map;rw[h.2]at d;cases d
theorem AV(c:iF base wp mo n N f sl w){k:Int×Int}(g:I2 k):(sl k).ownBlock≠some wp.b:=by
 intro d;obtain⟨h,a⟩:=eN (c.row g) wp.b d;rw[c.2.1.2]at a;injection a with a;injection a with _ e _;exact c.2.1.1.2 e
theorem MG{f:Int×Int->List (Tm (N+1))}(d:iF base wp mo n (N+1) f sl w){k:Int×Int}(i:I2 k)(y:Tm (N+1))(ab:n<999999)(V:(f k).length<1000):Calls Tryz.prog 161 #[.pointer (some ⟨wp.b,wp.o,none⟩),pk k,dG (N+1) y] w λe w'=>e=.returned (.tuple #[])/\OW base wp mo n (N+1) f sl k (f k++ [y]) w w':=by
 have u:=d.lt wp.b (aj rfl);rcases d.2.2 with⟨rfl,rfl,rfl⟩|⟨mb,rfl,C⟩
 ·obtain⟨wr,j⟩:∃wr,wr=(((w.alloc (.cells #[.int .i64 k.1,.int .i64 k.2] 44)).alloc (.cells #[.int .i64 y.1.1,.int .i64 y.1.2.1,.string y.1.2.2,.slice y.2.1.1 y.2.2.length y.2.1.2] 31)).alloc (.map #[] 0)).setCell ⟨wp.b,wp.o,none⟩ (.map (some (w.heap.size+1+1))):=⟨_,rfl⟩;have X:wr.heap.size=w.heap.size+3:=by rw[j];simp[World.setCell]
  have S:bE (λb=>b=wp.b) w wr:=by
   rw[j];refine bE.trans (aR (((((aA w.heap.size w).alloc (av _) _).alloc (by simp) _).alloc (by simp;omega) _)) _) (bN _ wp.b wp.o _) λ_ _ e=>e
  have Y:uc wp (some (w.heap.size+1+1)) wr:=by
   rw[j];exact(d.2.1.kept (((((aA w.heap.size w).alloc (av _) (.cells #[.int .i64 k.1,.int .i64 k.2] 44)).alloc (by simp) (.cells #[.int .i64 y.1.1,.int .i64 y.1.2.1,.string y.1.2.2,.slice y.2.1.1 y.2.2.length y.2.1.2] 31)).alloc (by simp;omega) (.map #[] 0)).block wp.b u.2)).set
  have l:GM base (w.heap.size+1+1) n (N+1) (λ_=> []) (λ_=>lZ) wr:=by
   have O:=GM.new ((w.alloc (.cells #[.int .i64 k.1,.int .i64 k.2] 44)).alloc (.cells #[.int .i64 y.1.1,.int .i64 y.1.2.1,.string y.1.2.2,.slice y.2.1.1 y.2.2.length y.2.1.2] 31)) (N+1);have e:((w.alloc (.cells #[.int .i64 k.1,.int .i64 k.2] 44)).alloc (.cells #[.int .i64 y.1.1,.int .i64 y.1.2.1,.string y.1.2.2,.slice y.2.1.1 y.2.2.length y.2.1.2] 31)).heap.size=w.heap.size+1+1:=by simp
   rw[e]at O
   have P:=(O.kee (bN _ wp.b wp.o (.map (some (w.heap.size+1+1)))) λb a e=>by
    rcases a with a|⟨v,_,a⟩
    ·omega
    ·simp[lZ,Value.ownBlock]at a)
   rw[<-j]at P;exact(P.rebase (by omega)).mono (aM _)
  refine(FA wp (w.heap.size+1+1) k.1 k.2 y.1.1 y.1.2.1 y.1.2.2 y.2.1.1 y.2.2.length y.2.1.2 0 0 none [] base w wr (λh q m=>Oi base (w.heap.size+1+1) n (N+1) (λ_=> []) (λ_=>lZ) k q h m) (λw'=>OW base wp none n (N+1) (λ_=> []) (λ_=>lZ) k ([]++ [y]) w w') (by omega) (by omega) u.2 (ak ⟨rfl,j,λb a=>by simp[Value.ownBlock]at a,d.2.1⟩) ?_ ?_ ?_).mono λe w' d=>d
  ·intro h g;exact⟨rfl,aj ⟨rfl,rfl⟩⟩
  ·intro h g;exact l.open i (by omega) g
  ·intro h q m Q aa R c B g E I A s G r;obtain⟨M,H,D,F,J⟩:=Oi.done l i B g E I A s (y:=y) (L:=0) rfl (by simpa [dw,cO,Gr]using G) r;refine⟨M,H,?_,F,J⟩;obtain⟨Z,x,p,z⟩:=D;have K:¬zW (w.heap.size+1+1) (λ_=>lZ) wp.b:=by
    rintro (e|⟨v,_,e⟩)
    ·omega
    ·simp[lZ,Value.ownBlock]at e
   refine⟨some (w.heap.size+1+1),_,⟨d.1,Y.kept (p.block wp.b (by omega) K),ak ⟨_,rfl,x⟩⟩,?_,λb a=>?_⟩
   ·refine bE.trans (S.mono λb _ e=>aj e) p λb a e=>?_;rcases e with e|⟨v,_,e⟩
    ·omega
    ·simp[lZ,Value.ownBlock]at e
   ·rcases a with a|a|a
    ·exact aj (aj a)
    ·injection a with a;exact ak (by omega)
    ·rcases z b (ak a)with(e|⟨v,_,e⟩)|e
     ·exact ak (by omega)
     ·simp[lZ,Value.ownBlock]at e
     ·exact ak (by omega)
 ·obtain⟨sa,sc,t,ad⟩:=(C.row k i).at;have W:=C.lt mb (aj rfl);obtain⟨wr,j⟩:∃wr,wr=(w.alloc (.cells #[.int .i64 k.1,.int .i64 k.2] 44)).alloc (.cells #[.int .i64 y.1.1,.int .i64 y.1.2.1,.string y.1.2.2,.slice y.2.1.1 y.2.2.length y.2.1.2] 31):=⟨_,rfl⟩;have a:Below w.heap.size w wr:=by
   rw[j];exact((aA _ _).alloc (av _) _).alloc (by simp) _
  have X:wr.heap.size=w.heap.size+2:=by rw[j];simp
  have l:GM base mb n (N+1) f sl wr:=C.kee (aR a λ_=>False) λ_ _ T=>T;refine(FA wp mb k.1 k.2 y.1.1 y.1.2.1 y.1.2.2 y.2.1.1 y.2.2.length y.2.1.2 (f k).length sc sa (dw (N+1) (f k)) base w wr (λh q m=>Oi base mb n (N+1) f sl k q h m) (λw'=>OW base wp (some mb) n (N+1) f sl k (f k++ [y]) w w') V (by omega) u.2 (aj ⟨W.2,xi d,j,λb a=>?_,d.cell.1⟩) ?_ ?_ ?_).mono λe w' d=>d
  ·rw[<-t]at a;exact⟨((d.row i).lt b a).2,λe=>AV d i (by rw[a,e])⟩
  ·intro h g;rw[<-t];exact bB (l.row k i) g λb a e=>l.ne i (by rw[a,e])
  ·intro h g;rw[<-t];exact l.open i (by omega) g
  ·intro h q m Q aa R c B g E I A s G r;rw[<-t]at s r;obtain⟨M,H,D,F,J⟩:=Oi.done l i B g E I A s (y:=y) (L:=(f k).length) rfl (by simpa [Gr]using G) r;refine⟨M,H,?_,F,J⟩;obtain⟨Z,x,p,z⟩:=D;have K:¬zW mb sl wp.b:=by
    rintro (e|⟨v,U,e⟩)
    ·exact xi d e
    ·exact AV d U e
   refine⟨some mb,_,⟨d.1,(d.2.1.kept (a.block wp.b u.2)).kept (p.block wp.b (by omega) K),ak ⟨_,rfl,x⟩⟩,?_,λb a=>?_⟩
   ·exact bE.trans (aR a _) p λb _ e=>FV e
   ·rcases a with a|a|a
    ·exact aj (aj a)
    ·injection a with a;exact aj (ak (aj (by rw[a])))
    ·rcases z b (ak a)with e|e
     ·exact aj (FV e)
     ·exact ak (by omega)
def gQ(b c:Bool)(a:Int)(cl:Bool)(L:Nat):Int:=if b=false\/c=false then 1 else if a≠0 then a else if cl=false then 5 else if 20<=L then 2 else 0
theorem Fs(wp:BL)(a b:Int)(k l:Int)(s:aq)(h:ar)(j i:Nat)(v g:Bool)(d:Int)(cl:Bool)(L:Nat)(w:ag)(C:Int->Int->aq->ar->Nat->Nat->ag->bt)(I:bt)(ak:L<=1000)(O:Hid (∀W,ao 159 #[ab a] W λe w'=>e=.returned (.bool v)/\w'=W))(P:Hid (∀W,ao 159 #[ab b] W λe w'=>e=.returned (.bool g)/\w'=W))(U:Hid (∀W,am w W->ao 53 #[.agg #[ab k,ab l,af s,ae h j i]] W λe w'=>e=.returned (ab d)/\am W w'))(V:Hid (∀W,am w W->ao 54 #[.agg #[ab k,ab l,af s,ae h j i]] W λe w'=>e=.returned (.bool cl)/\am W w'))(X:Hid (∀W,am w W->ao 160 #[.pointer (some ⟨wp.b,wp.o,none⟩),ab a,ab b] W λe w'=>e=.returned (ab L)/\w'=W))(S:Hid (∀W,d=0->am w W->ao 56 #[.agg #[ab k,ab l,af s,ae h j i]] W λe w'=>∃n p u q t r,e=.returned (.agg #[ab n,ab p,af u,ae q t r])/\Hid (C n p u q t r W w')))(Q:Hid (∀n p u q t r W w1,gQ v g d cl L=0->C n p u q t r W w1->am w W->ao 161 #[.pointer (some ⟨wp.b,wp.o,none⟩),.agg #[ab a,ab b],.agg #[ab n,ab p,af u,ae q t r]] w1 λe w'=>e=.returned (.tuple #[])/\Hid (I w'))):ao 121 #[.pointer (some ⟨wp.b,wp.o,none⟩),ab a,ab b,.agg #[ab k,ab l,af s,ae h j i]] w λe w'=>e=.returned (ab (gQ v g d cl L))/\(gQ v g d cl L≠0->am w w')/\(gQ v g d cl L=0->I w'):=by
 have M:Hid (∃m f,m=w.alloc (.cells #[ab k,ab l,af s,ae h j i] 31)/\f=w.heap.size):=⟨_,_,rfl,rfl⟩;go_enter func121,ntmps121;go_wp2_with fail;obtain⟨m,f,B,H⟩:=M.out;rw[<-B,<-H];have x:Hid (am w m):=by
  rw[B];exact aS _ _
 have K:Hid (m.heap[f]?=some (.cells #[ab k,ab l,af s,ae h j i] 31)/\f<m.heap.size):=by
  rw[B,H];exact⟨aD w _,by simp⟩
 have E:Hid (∀W,am m W->ai W f 0 (ab k)/\ai W f 1 (ab l)/\ai W f 2 (af s)/\ai W f 3 (ae h j i)):=by
  intro W aa;have c:=(aa.block f K.2).trans K.1;exact⟨ah c 0,ah c 1,ah c 2,ah c 3⟩
 clear B H M;refine(O m).mono ?_;rintro e w1 ⟨rfl,rfl⟩;cases v
 ·go_wp2_with fail
  go_ret
  have e:gQ false g d cl L=1:=by simp[gQ]
  rw[e];exact⟨rfl,λ_=>x,λc=>by cases c⟩
 ·go_wp2_with fail;refine(P _).mono ?_;rintro e an ⟨rfl,rfl⟩;cases g
  ·go_wp2_with fail
   go_ret
   have e:gQ true false d cl L=1:=by simp[gQ]
   rw[e];exact⟨rfl,λ_=>x,λc=>by cases c⟩
  ·obtain⟨t0,t1,t2,t3⟩:=E.out _ (aA _ _);go_wp2_with fail;refine(U _ x).mono ?_;rintro e au ⟨rfl,F⟩;have D:=ap F;have A:=ap (x.trans (F.mono x.size));clear F t0 t1 t2 t3;by_cases z:d=0;rotate_left
   ·have al:¬(0:Int)=d:=λe=>z e.symm;go_wp2_with fail
    go_ret
    have e:gQ true true d cl L=d:=by simp[gQ,z]
    rw[e];exact⟨rfl,λ_=>A,λc=>absurd c z⟩
   ·obtain⟨t0,t1,t2,t3⟩:=E.out _ D;have aj:=ap z;subst z;go_wp2_with fail;refine(V _ A).mono ?_;rintro e av ⟨rfl,G⟩;have R:=ap (D.trans (G.mono D.size));have y:=ap (A.trans (G.mono A.size));clear G t0 t1 t2 t3;cases cl
    ·go_wp2_with fail
     go_ret
     have e:gQ true true 0 false L=5:=by simp[gQ]
     rw[e];exact⟨rfl,λ_=>y,λc=>by cases c⟩
    ·go_wp2_with fail;refine(X _ y).mono ?_;rintro e aw ⟨rfl,rfl⟩;by_cases N:20<=L
     ·have Z:(20:Int)<=(L:Int):=by omega
      go_wp2_with fail
      go_ret
      have e:gQ true true 0 true L=2:=by simp[gQ,N]
      rw[e];exact⟨rfl,λ_=>y,λc=>by cases c⟩
     ·have Z:¬(20:Int)<=(L:Int):=by omega
      have J:Hid (gQ true true 0 true L=0):=(show gQ true true 0 true L=0 by simp[gQ,N]);obtain⟨t0,t1,t2,t3⟩:=E _ R;go_wp2_with fail;refine(S _ (by simp) y).mono ?_;rintro e ad ⟨n,p,u,q,t,r,rfl,Y⟩;go_wp2_with fail;refine(Q n p u q t r _ ad J Y y).mono ?_;rintro e ax ⟨rfl,T⟩;go_wp2_with fail
      go_ret
      rw[J.out];exact⟨rfl,λc=>absurd rfl c,λ_=>T⟩
theorem Fq{n:Nat}{x:Tm n}(a:bJ n x=0):aJ ⟨n,x⟩:=by
 rw[aU];rw[<-gR]at a;unfold xH at a;split at a
 ·rename_i b;simpa using b
 ·cases a
variable {base n N:Nat} {wp:BL} {mo:da} {f:aY->List (Tm (N+1))} {sl:aY->au} {w:ag}
def Ln(a:Int):Bool:=decide (1<=a) && decide (a<=99)
def mx(N:Nat)(a b:Int)(x:Tm (N+1))(L:Nat):Int:=gQ (Ln a) (Ln b) (bJ (N+1) x) (aT (N+1) x) L
def JI(base:Nat)(wp:BL)(mo:da)(n N:Nat)(f:aY->List (Tm (N+1)))(sl:aY->au)(k:aY)(x:Tm (N+1))(w w':ag):Prop:=
 ∃a c d,aB (N+1) a (N+1) x=true/\iF base wp c (n+1) (N+1) (fK f k (f k++ [a])) d w'/\bE (sG wp mo sl) w w'/\(∀b,sG wp c d b->sG wp mo sl b\/w.heap.size<=b)/\In w'.heap.size w' (N+1) a/\cD (λb=>w.heap.size<=b/\¬sG wp c d b) (N+1) a
theorem LG(i:iF base wp mo n (N+1) f sl w){a b:Int}(p:I2 (a,b))(x:Tm (N+1))(m:In w.heap.size w (N+1) x)(D:(aC (N+1) x).length<=2097152)(H:n<999999)(G:(f (a,b)).length<=1000):ao 121 #[.pointer (some ⟨wp.b,wp.o,none⟩),ab a,ab b,dG (N+1) x] w λe w'=>e=.returned (ab (mx N a b x (f (a,b)).length))/\(mx N a b x (f (a,b)).length≠0->am w w')/\(mx N a b x (f (a,b)).length=0->JI base wp mo n N f sl (a,b) x w w'):=by
 refine Fs wp a b x.1.1 x.1.2.1 x.1.2.2 x.2.1.1 x.2.2.length x.2.1.2 (Ln a) (Ln b) (bJ (N+1) x) (aT (N+1) x) (f (a,b)).length w
  (λu v B y A z g w'=>∃c:Tm (N+1),(u=c.1.1/\v=c.1.2.1/\B=c.1.2.2/\y=c.2.1.1/\A=c.2.2.length/\z=c.2.1.2)/\am g w'/\In w'.heap.size w' (N+1) c/\cD (λM=>g.heap.size<=M) (N+1) c/\aB (N+1) c (N+1) x=true)
  (λw'=>JI base wp mo n N f sl (a,b) x w w') G (λg=>F8 a g) (λg=>F8 b g) (λg d=>?_) (λg d=>?_) (λg d=>?_) (λg F d=>?_) ?_
 ·exact eq (N+1) x w.heap.size g (m.below d) d.size D
 ·exact jk (N+1) x w.heap.size g (m.below d) d.size
 ·exact Jw (i.later d) p
 ·refine(iL (N+1) x w.heap.size g (m.below d) d.size (Fq F)).mono ?_;rintro e w' ⟨c,rfl,I⟩;exact⟨c.1.1,c.1.2.1,c.1.2.2,c.2.1.1,c.2.2.length,c.2.1.2,rfl,⟨c,⟨rfl,rfl,rfl,rfl,rfl,rfl⟩,I⟩⟩
 ·rintro u v B y A z g P h ⟨c,⟨rfl,rfl,rfl,rfl,rfl,rfl⟩,E,q,r,J⟩ d;have l:am w P:=d.trans (E.mono d.size);have C:(f (a,b)).length<1000:=by
   by_cases Q:20<=(f (a,b)).length
   ·exfalso;unfold gQ at h;split at h
    ·cases h
    ·split at h
     ·contradiction
     ·split at h
      ·cases h
      ·first|cases h|(split at h<;>first|cases h|contradiction)
   ·omega
  refine(MG (i.later l) p c H C).mono ?_;rintro e w' ⟨rfl,L,O,K,s,t⟩;refine⟨rfl,c,L,O,J,K,bE.trans (aR l _) s λ_ _ e=>e,λb j=>?_,?_,?_⟩
  ·rcases t b j with e|e
   ·exact aj e
   ·exact ak (aF l.size e)
  ·refine q.kee s (r.mono λb j k=>?_);have:=(i.lt b k).2;have:=d.size;omega
  ·refine(In.offB r q).mono λb j=>⟨aF d.size j.1,λk=>?_⟩;rcases t b k with e|e
   ·have:=(i.lt b e).2;have:=d.size;omega
   ·omega
theorem I7(wp:BL)(mo:da)(a b:Int)(w:ag)(F:wp.b<w.heap.size)(y:Hid (w.cell? ⟨wp.b,wp.o,none⟩=some (.map mo)))(z:Hid (∀W,am w W->(Instr.lookup 51 (.map mo) (.agg #[ab a,ab b]) false).run Tryz.prog W=.ok (ae none 0 0) W)):ao 50 #[.pointer (some ⟨wp.b,wp.o,none⟩),ab a,ab b] w λe w'=>e=.returned (.tuple #[.agg #[ab 0,ab 0,af ⟨#[]⟩,ae none 0 0],ab 4])/\am w w':=by
 have t:=y.out;have s:Hid (∃wr c d,wr=(w.alloc (.cells #[ab 0,ab 0,af ⟨#[]⟩,ae none 0 0] 31)).alloc (.cells #[ab a,ab b] 44)/\c=w.heap.size/\d=w.heap.size+1):=⟨_,_,_,rfl,rfl,rfl⟩;go_enter func50,ntmps50;go_wp2_with fail;obtain⟨wr,c,d,f,l,m⟩:=s.out;rw[<-f,<-m,<-l];have E:wr.heap.size=w.heap.size+2:=by rw[f];simp
 have HB:Hid (am w wr):=by
  rw[f];exact(aS _ _).alloc (by simp) _
 have A:Hid (wr.heap[c]?=some (.cells #[ab 0,ab 0,af ⟨#[]⟩,ae none 0 0] 31)):=by
  rw[f,l];exact((aS _ _).block w.heap.size (by simp)).trans (aD w _)
 have B:Hid (wr.heap[d]?=some (.cells #[ab a,ab b] 44)):=by
  rw[f,m];have C:=aD (w.alloc (.cells #[ab 0,ab 0,af ⟨#[]⟩,ae none 0 0] 31)) (.cells #[ab a,ab b] 44);have e:(w.alloc (.cells #[ab 0,ab 0,af ⟨#[]⟩,ae none 0 0] 31)).heap.size=w.heap.size+1:=by simp
  rwa [e]at C
 have k:Hid (c<wr.heap.size/\d<wr.heap.size/\wp.b<wr.heap.size/\w.heap.size<=c/\w.heap.size<=d/\wp.b<w.heap.size):=(show _/\_ by omega);have r:Hid (∀W,am wr W->W.cell? ⟨wp.b,wp.o,none⟩=some (.map mo)/\W.cell? ⟨d,0,none⟩=some (ab a)/\W.cell? ⟨d,1,none⟩=some (ab b)):=by
  intro W j;have u:=(j.block d k.2.1).trans B;exact⟨((j.cell (p:=⟨wp.b,wp.o,none⟩) k.2.2.1).trans (HB.cell (p:=⟨wp.b,wp.o,none⟩) F)).trans t,ah u 0,ah u 1⟩
 have q:Hid (am wr wr.drew):=(aA _ _).drew;have n:Hid (∀W,am wr W->am w W):=λW j=>HB.trans (j.mono HB.size);have K:=z _ (n _ q);obtain⟨L,M,N⟩:=r.out wr (aA _ _);clear f l m s E t;go_region_held3 (λW=>W.cell? ⟨wp.b,wp.o,none⟩=some (.map mo)/\W.cell? ⟨d,0,none⟩=some (ab a)/\W.cell? ⟨d,1,none⟩=some (ab b)) (first|(go_keep;done)|exact r _ q) (fail);have g:=A.out;have G:wr.cell? ⟨c,0,none⟩=some (ab 0):=ah g 0;have H:wr.cell? ⟨c,1,none⟩=some (ab 0):=ah g 1;have I:wr.cell? ⟨c,2,none⟩=some (af ⟨#[]⟩):=ah g 2;have J:wr.cell? ⟨c,3,none⟩=some (ae none 0 0):=ah g 3;have h:∀x,wr.frozen? ⟨c,x,none⟩=false:=λx=>by simp[World.frozen?,g]
 have f0:=h 0;have f1:=h 1;have f2:=h 2;have f3:=h 3;clear h g;have i:=ap k.2.2.2.1;go_wp2_with fail;refine ay (v:=.tuple #[.agg #[ab 0,ab 0,af ⟨#[]⟩,ae none 0 0],ab 4]) (by simp[results,results50,go_sem,G,H,I,J]) rfl ⟨rfl,?_⟩;have D:=n _ (aA _ _);exact((((D.setCell i.out _).setCell i.out _).setCell i.out _).setCell i.out _).drew
theorem yT(wp:BL)(mb g c m:Nat)(y0 y1:Int)(ys:aq)(ya:ar)(yl yc:Nat)(a b:Int)(w:ag)(F:bt)(R:ag->bt)(aZ:wp.b<w.heap.size)(L:g<w.heap.size)(a6:mb<w.heap.size)(aV:wp.b≠mb)(aU:wp.b≠g)(aJ:Hid (w.cell? ⟨wp.b,wp.o,none⟩=some (.map (some mb))))(al:Hid (∀W,am w W->(Instr.lookup 51 (.map (some mb)) (.agg #[ab a,ab b]) false).run Tryz.prog W=.ok (ae (some ⟨g,0,none⟩) (m+1) c) W))(aO:Hid (w.cell? ⟨g,0,none⟩=some (ab y0)/\w.cell? ⟨g,1,none⟩=some (ab y1)/\w.cell? ⟨g,2,none⟩=some (af ys)/\w.cell? ⟨g,3,none⟩=some (ae ya yl yc)))(aR:(m=0/\Hid (∀W,am w W->∃w',(∀ty,(Builtin.delete_ #[51,44] ty #[.map (some mb),.agg #[ab a,ab b]]).run Tryz.prog W=.ok (.tuple #[]) w')/\bE (λb=>b=mb) W w'/\w'.heap.size=W.heap.size/\∀w2,Below w.heap.size w' w2->F w2))\/(1<=m/\m<=1000/\Hid (∀W,am w W->ao 84 #[ae (some ⟨g,0,none⟩) (m+1) c,ab 0,ab 1] W λe w'=>e=.returned (ae (some ⟨g,0,none⟩) m c)/\Hid (W.grownBy w' (some g)/\R W w'))/\Hid (∀W G,R W G->am w W->W.grownBy G (some g)->∃w',(Instr.mapUpdate 51 (.map (some mb)) (.agg #[ab a,ab b]) (ae (some ⟨g,0,none⟩) m c)).run Tryz.prog G=.ok () w'/\bE (λb=>b=mb) G w'/\∀w2,Below w.heap.size w' w2->F w2))):ao 50 #[.pointer (some ⟨wp.b,wp.o,none⟩),ab a,ab b] w λe w'=>e=.returned (.tuple #[.agg #[ab y0,ab y1,af ys,ae ya yl yc],ab 0])/\F w':=by
 have aC:=aJ.out;have ax:Hid (∃wr f h,wr=(w.alloc (.cells #[ab 0,ab 0,af ⟨#[]⟩,ae none 0 0] 31)).alloc (.cells #[ab a,ab b] 44)/\f=w.heap.size/\h=w.heap.size+1):=⟨_,_,_,rfl,rfl,rfl⟩;go_enter func50,ntmps50;go_wp2_with fail;obtain⟨wr,f,h,t,Q,S⟩:=ax.out;rw[<-t,<-S,<-Q];have aY:wr.heap.size=w.heap.size+2:=by rw[t];simp
 have HB:Hid (am w wr):=by
  rw[t];exact(aS _ _).alloc (by simp) _
 have aM:Hid (wr.heap[f]?=some (.cells #[ab 0,ab 0,af ⟨#[]⟩,ae none 0 0] 31)):=by
  rw[t,Q];exact((aS _ _).block w.heap.size (by simp)).trans (aD w _)
 have au:Hid (wr.heap[h]?=some (.cells #[ab a,ab b] 44)):=by
  rw[t,S];have I:=aD (w.alloc (.cells #[ab 0,ab 0,af ⟨#[]⟩,ae none 0 0] 31)) (.cells #[ab a,ab b] 44);have e:(w.alloc (.cells #[ab 0,ab 0,af ⟨#[]⟩,ae none 0 0] 31)).heap.size=w.heap.size+1:=by simp
  rwa [e]at I
 have u:Hid (f<wr.heap.size/\h<wr.heap.size/\wp.b<wr.heap.size/\w.heap.size<=f/\w.heap.size<=h/\wp.b<w.heap.size):=(show _/\_ by omega);have P:Hid (∀W,am wr W->W.cell? ⟨wp.b,wp.o,none⟩=some (.map (some mb))/\W.cell? ⟨h,0,none⟩=some (ab a)/\W.cell? ⟨h,1,none⟩=some (ab b)):=by
  intro W r;have B:=(r.block h u.2.1).trans au;exact⟨((r.cell (p:=⟨wp.b,wp.o,none⟩) u.2.2.1).trans (HB.cell (p:=⟨wp.b,wp.o,none⟩) aZ)).trans aC,ah B 0,ah B 1⟩
 have ak:Hid (am wr wr.drew):=(aA _ _).drew;have aj:Hid (∀W,am wr W->am w W):=λW r=>HB.trans (r.mono HB.size);have aT:=al _ (aj _ ak);obtain⟨aG,aH,aI⟩:=P.out wr (aA _ _);clear t Q S ax aY aC;go_region_held3 (λW=>W.cell? ⟨wp.b,wp.o,none⟩=some (.map (some mb))/\W.cell? ⟨h,0,none⟩=some (ab a)/\W.cell? ⟨h,1,none⟩=some (ab b)) (first|(go_keep;done)|exact P _ ak) (fail);obtain⟨T,U,V,X⟩:=aO;have A:=aw HB;replace T:=(A _ _ L).trans T;replace U:=(A _ _ L).trans U;replace V:=(A _ _ L).trans V;replace X:=(A _ _ L).trans X;clear A;rcases aR with⟨rfl,N⟩|⟨a4,a5,N,aN⟩
 case' inl=>simp only[cT]at al
 case' inr=>
  have ba:¬((m:Int)+1=0):=by omega
  have bb:¬((m:Int)+1=1):=by omega
  have bc:(0:Int)<(m:Int)+1:=by omega
 all_goals
  have aB:Hid (∃i n,(i=(wr.alloc (.cells #[ab y0,ab y1,af ys,ae ya yl yc] 31)).drew/\n=wr.heap.size)/\am wr i/\i.heap[n]?=some (.cells #[ab y0,ab y1,af ys,ae ya yl yc] 31)/\n<i.heap.size/\wr.heap.size<=n):=⟨_,_,⟨rfl,rfl⟩,(show Below _ _ _ by go_grown),aD wr _,by simp[World.drew],av _⟩;go_wp2_with fail;obtain⟨i,n,⟨aF,aE⟩,l⟩:=aB.out;rw[<-aF,<-aE];replace l:=ap l;clear aF aE aB aG aH aI aT T U V X;have ai:=ap (aj _ l.1);have x:Hid (∀W:ag,(∀b,b<i.heap.size->b≠mb->b≠g->W.heap[b]?=i.heap[b]?)->(W.cell? ⟨wp.b,wp.o,none⟩=some (.map (some mb))/\W.cell? ⟨h,0,none⟩=some (ab a)/\W.cell? ⟨h,1,none⟩=some (ab b))/\(W.cell? ⟨n,0,none⟩=some (ab y0)/\W.cell? ⟨n,1,none⟩=some (ab y1)/\W.cell? ⟨n,2,none⟩=some (af ys)/\W.cell? ⟨n,3,none⟩=some (ae ya yl yc))/\(W.heap[f]?=some (.cells #[ab 0,ab 0,af ⟨#[]⟩,ae none 0 0] 31))):=by
   intro W r;obtain⟨a0,a1,bd,be,bf,bg⟩:=u.out;have a8:=l.1.size;have a7:=l.2.2.2;have B:=(r h (by omega) (by omega) (by omega)).trans ((l.1.block h a1).trans au);have aP:=(r f (by omega) (by omega) (by omega)).trans ((l.1.block f a0).trans aM);have H:=(r n l.2.2.1 (by omega) (by omega)).trans l.2.1;have aQ:=r wp.b (by omega) aV aU;refine⟨⟨?_,ah B 0,ah B 1⟩,⟨ah H 0,ah H 1,ah H 2,ah H 3⟩,aP⟩;have I:=(P i l.1).1;simp only[World.cell?,aQ]at I ⊢;exact I
  have aK:Hid (am i i.drew):=(aA _ _).drew;have M:=ap (ai.trans (aK.mono ai.size));obtain⟨⟨aG,aH,aI⟩,_,_⟩:=x.out i (λ_ _ _ _=>rfl);have an:=ap (x i.drew (λ_ _ _ _=>rfl)).1
 ·go_region_held3 (λW=>W.cell? ⟨wp.b,wp.o,none⟩=some (.map (some mb))/\W.cell? ⟨h,0,none⟩=some (ab a)/\W.cell? ⟨h,1,none⟩=some (ab b)) (first|(go_keep;done)|exact an|exact aL.1|exact y.1)
    ((first|(go_at_call 84;refine(N _ M).mono ?_;rintro e a2 ⟨rfl,z⟩;obtain⟨d,a9,D,C⟩:=aN _ _ z.2 M z.1;have aL:=ap (x a2 (λb s J K=>z.1.block b s (λe=>K (az e))));have y:=ap (x d (λb s J K=>(D.block b (aW s z.1.size) J).trans (z.1.block b s (λe=>K (az e)))));have O:=ap C;clear D C)))
  obtain⟨_,⟨t0,t1,t2,t3⟩,j⟩:=y.out;have Y:d.cell? ⟨f,0,none⟩=some (ab 0):=ah j 0;have Z:d.cell? ⟨f,1,none⟩=some (ab 0):=ah j 1;have aa:d.cell? ⟨f,2,none⟩=some (af ⟨#[]⟩):=ah j 2;have ad:d.cell? ⟨f,3,none⟩=some (ae none 0 0):=ah j 3;have k:∀E,d.frozen? ⟨f,E,none⟩=false:=λE=>by simp[World.frozen?,j]
  have f0:=k 0;have f1:=k 1;have f2:=k 2;have f3:=k 3;have q:=ap u.2.2.2.1;clear k j;go_wp2_with fail;refine ay (v:=.tuple #[.agg #[ab y0,ab y1,af ys,ae ya yl yc],ab 0]) (by simp[results,results50,go_sem,Y,Z,aa,ad]) rfl ⟨rfl,?_⟩;exact O.out _ (((((aA w.heap.size d).setCell q.out _).setCell q.out _).setCell q.out _).setCell q.out _)
 ·obtain⟨d,a3,D,aX,C⟩:∃d,(∀ty,(Builtin.delete_ #[51,44] ty #[.map (some mb),.agg #[ab a,ab b]]).run Tryz.prog i.drew=.ok (.tuple #[]) d)/\bE (λb=>b=mb) i.drew d/\d.heap.size=i.drew.heap.size/\∀w2,Below w.heap.size d w2->F w2:=N _ M;have y:=ap (x d (λb s J K=>D.block b s J));have O:=ap C;clear D aX C;go_region_held3 (λW=>W.cell? ⟨wp.b,wp.o,none⟩=some (.map (some mb))/\W.cell? ⟨h,0,none⟩=some (ab a)/\W.cell? ⟨h,1,none⟩=some (ab b)) (first|(go_keep;done)|exact an|exact y.1) (fail);obtain⟨_,⟨t0,t1,t2,t3⟩,j⟩:=y;have Y:d.cell? ⟨f,0,none⟩=some (ab 0):=ah j 0;have Z:d.cell? ⟨f,1,none⟩=some (ab 0):=ah j 1;have aa:d.cell? ⟨f,2,none⟩=some (af ⟨#[]⟩):=ah j 2;have ad:d.cell? ⟨f,3,none⟩=some (ae none 0 0):=ah j 3;have k:∀E,d.frozen? ⟨f,E,none⟩=false:=λE=>by simp[World.frozen?,j]
  have f0:=k 0;have f1:=k 1;have f2:=k 2;have f3:=k 3;have q:=ap u.2.2.2.1;clear k j;go_wp2_with fail;refine ay (v:=.tuple #[.agg #[ab y0,ab y1,af ys,ae ya yl yc],ab 0]) (by simp[results,results50,go_sem,Y,Z,aa,ad]) rfl ⟨rfl,?_⟩;exact O.out _ (((((aA w.heap.size d).setCell q.out _).setCell q.out _).setCell q.out _).setCell q.out _)
variable {base n N:Nat} {wp:BL} {mo:da} {f:aY->List (Tm (N+1))} {sl:aY->au} {w:ag}
def mF(base:Nat)(wp:BL)(mo:da)(n N:Nat)(f:aY->List (Tm (N+1)))(sl:aY->au)(k:aY)(l:List (Tm (N+1)))(w w':ag):Prop:=
 ∃a,iF base wp mo (n+1) (N+1) (fK f k l) a w'/\bE (sG wp mo sl) w w'/\∀b,sG wp mo a b->sG wp mo sl b
theorem mF.later{k:aY}{l:List (Tm (N+1))}{w' w2:ag}(h:iF base wp mo n (N+1) f sl w)(g:mF base wp mo n N f sl k l w w')(a:Below w.heap.size w' w2):mF base wp mo n N f sl k l w w2:=by
 obtain⟨o,i,j,d⟩:=g;have e:bE (λb=>w.heap.size<=b) w' w2:=⟨a.os,a.tape,a.output,a.size,λb _ c=>a.block b (by omega)⟩;refine⟨o,i.kee e λb c m=>?_,bE.trans j e λb c m=>?_,d⟩
 ·have:=(h.lt b (d b c)).2;omega
 ·omega
theorem IR{base g c L:Nat}{y:Tm (N+1)}{l:List (Tm (N+1))}(b:w.ownsRow base 31 4 (ae (some ⟨g,0,none⟩) L c) L (dw (N+1) (y::l))):ai w g 0 (ab y.1.1)/\ai w g 1 (ab y.1.2.1)/\ai w g 2 (af y.1.2.2)/\ai w g 3 (ae y.2.1.1 y.2.2.length y.2.1.2):=by
 have a:=EA (l:=(y::l).map (gK (N+1))) b 0 (gK (N+1) y) (by simp);simp only[Nat.zero_mul,cT]at a;exact a
theorem LW(d:iF base wp mo n (N+1) f sl w){a b:Int}(k:I2 (a,b))(aq:n<999999)(U:(f (a,b)).length<=1000):ao 50 #[.pointer (some ⟨wp.b,wp.o,none⟩),ab a,ab b] w λe w'=> (f (a,b)=[]->e=.returned (.tuple #[.agg #[ab 0,ab 0,af ⟨#[]⟩,ae none 0 0],ab 4])/\am w w')/\ ∀y l,f (a,b)=y::l->e=.returned (.tuple #[dG (N+1) y,ab 0])/\mF base wp mo n N f sl (a,b) l w w':=by
 have q:=d.lt wp.b (aj rfl);have x:∀h,am w h->(Instr.lookup 51 (.map mo) (.agg #[ab a,ab b]) false).run Tryz.prog h=.ok (sl (a,b)) h:=λh g=>(d.later g).look k;cases j:f (a,b)with
 | nil=>
  have s:sl (a,b)=ae none 0 0:=by
   rcases d.2.2 with⟨_,_,rfl⟩|⟨mb,rfl,r⟩
   ·rfl
   ·obtain⟨P,Q,F,G⟩:=r.map;have aa:has P (kl (a,b))=false:=by
     cases hh:has P (kl (a,b))
     ·rfl
     ·obtain⟨t,v,Y,S⟩:=(G _).1 hh;rw[<-mH k v Y]at S;exact absurd j S
    have:=F (a,b) k;rw[atKey_of_not_has aa]at this;injection this with this;exact this.symm
  rw[s]at x;refine(I7 wp mo a b w q.2 d.cell.1 x).mono ?_;rintro e w' ⟨rfl,c⟩;exact⟨λ_=>⟨rfl,c⟩,λy l e=>by cases e⟩
 | cons y l=>
  rcases d.2.2 with⟨_,rfl,_⟩|⟨mb,rfl,r⟩
  ·cases j
  ·obtain⟨sa,sc,s,z⟩:=(r.row (a,b) k).at;rw[j]at s z U;have V:=r.lt mb (aj rfl);obtain⟨i,rfl⟩:∃i,sa=some ⟨i,0,none⟩:=by
    rcases z.2 with⟨e,_⟩|⟨i,cap,ap,e,_⟩
    ·simp at e
    ·simp at e;exact⟨i,e.1⟩
   have T:=z.lt i rfl;have M:wp.b≠i:=λe=>AV d k (by rw[s,e];rfl);have X:=IR z;rw[s]at x;cases hl0:l with
   | nil=>
    subst hl0;refine(yT wp mb i sc 0 y.1.1 y.1.2.1 y.1.2.2 y.2.1.1 y.2.2.length y.2.1.2 a b w (λw'=>mF base wp (some mb) n N f sl (a,b) [] w w') (λ_ _=>True) q.2 T.2 V.2 (xi d) M d.cell.1 x X (aj ⟨rfl,λh g=>?_⟩)).mono ?_
    ·have H:GM base mb n (N+1) f sl h:=r.kee (aR g λ_=>False) λ_ _ j=>j;obtain⟨u,O,I,m,W⟩:=H.drop k 3;have ad:∀ty,(Builtin.delete_ #[51,44] ty #[.map (some mb),.agg #[ab a,ab b]]).run Tryz.prog h=.ok (.tuple #[]) u:=λty=>O;refine⟨u,ad,m,W,λal J=>?_⟩;have p:mF base wp (some mb) n N f sl (a,b) [] w u:=by
      refine⟨_,⟨d.1,(d.2.1.kept (g.block wp.b q.2)).kept (m.block wp.b (aW q.2 g.size) (xi d)),ak ⟨mb,rfl,I.mono (fN n)⟩⟩,bE.trans (aR g _) m λB _ e=>ak (aj (by rw[e])),λB c=>?_⟩;rcases c with c|c|⟨t,v,c⟩
      ·exact aj c
      ·exact ak (aj c)
      ·by_cases e:t=(a,b)
       ·rw[e,cE]at c;simp[lZ,Value.ownBlock]at c
       ·rw[bK _ _ e]at c;exact ak (ak ⟨t,v,c⟩)
     exact mF.later d p J
    ·rintro e w' ⟨rfl,p⟩;refine⟨λe=>(by cases e),λan ai e=>?_⟩;injection e with D E;subst D E;exact⟨rfl,p⟩
   | cons y2 au=>
    rw[<-hl0];have L:l≠[]:=by rw[hl0];simp
    have Z:1<=l.length:=List.length_pos_iff.2 L;refine(yT wp mb i sc l.length y.1.1 y.1.2.1 y.1.2.2 y.2.1.1 y.2.2.length y.2.1.2 a b w (λw'=>mF base wp (some mb) n N f sl (a,b) l w w') (λh w'=>oA base (N+1) (ae (some ⟨i,0,none⟩) l.length sc) l w'/\w'.heap.size=h.heap.size) q.2 T.2 V.2 (xi d) M d.cell.1 x X (ak ⟨Z,by simp at U;omega,λh g=>?_,λh C R g K=>?_⟩)).mono ?_
    ·refine(DO base i sc l.length y l h rfl (bB z (aR g λ_=>False) λ_ _ j=>j) L).mono ?_;rintro e w' ⟨rfl,Q,F,G⟩;exact⟨rfl,F,Q,G⟩
    ·have H:GM base mb n (N+1) f sl h:=r.kee (aR g λ_=>False) λ_ _ j=>j;have A:(sl (a,b)).ownBlock=some i:=by rw[s];rfl
     obtain⟨u,O,I,m,W⟩:=H.store k (w1:=C) ((eM K).mono λb _ e=>A.trans e) L R.1 (λb c=>aj (A.trans c)) (by omega);refine⟨u,O,m,λal J=>?_⟩;have ah:bE (sG wp (some mb) sl) w C:=bE.trans (aR g _) (eM K) λB _ e=>ak (ak ⟨(a,b),k,A.trans e⟩);have ag:C.heap[wp.b]?=w.heap[wp.b]? :=(K.block wp.b (aW q.2 g.size) (λe=>M (az e))).trans (g.block wp.b q.2);have ar:=g.size;have p:mF base wp (some mb) n N f sl (a,b) l w u:=by
      refine⟨_,⟨d.1,(d.2.1.kept ag).kept (m.block wp.b (by rw[R.2];omega) (xi d)),ak ⟨mb,rfl,I⟩⟩,bE.trans ah m λB _ e=>ak (aj (by rw[e])),λB c=>?_⟩;rcases c with c|c|⟨t,v,c⟩
      ·exact aj c
      ·exact ak (aj c)
      ·by_cases e:t=(a,b)
       ·rw[e,cE]at c;exact ak (ak ⟨(a,b),k,A.trans c⟩)
       ·rw[bK _ _ e]at c;exact ak (ak ⟨t,v,c⟩)
     exact mF.later d p J
    ·rintro e w' ⟨rfl,p⟩;refine⟨λe=>(by cases e),λan ai e=>?_⟩;injection e with D E;subst D E;exact⟨rfl,p⟩
def js(x y:Int):Int×Int:=(min x y,max x y)
def qN:List Int:=(List.range 99).map λi:Nat=>(i:Int)+1
theorem B9{y:Int}:y∈qN ↔ 1<=y/\y<=99:=by
 simp only[qN,cu,List.mem_range];constructor
 ·rintro ⟨c,b,rfl⟩;omega
 ·intro a;exact⟨(y-1).toNat,by omega,by omega⟩
theorem oR:qN.length=99:=by simp[qN]
theorem EG:qN.Nodup:=by
 unfold qN;refine List.Pairwise.map _ ?_ List.nodup_range;intro c b a d;exact a (by omega)
theorem Lo(i:Nat)(a:i<99):qN[i]?=some ((i:Int)+1):=by simp[qN,a]
def rm(g:aY->Bool)(x:Int):List Int:=qN.filter λy=>g (js x y)
def A1(g:aY->Bool):Prop:=∀k,g k=true->1<=k.1/\k.1<k.2/\k.2<=99
theorem jJ{g:aY->Bool}{x y:Int}:y∈rm g x ↔ (1<=y/\y<=99)/\g (js x y)=true:=by
 rw[rm,List.mem_filter,B9]
theorem px(g:aY->Bool)(x:Int):(rm g x).Nodup:=EG.sublist List.filter_sublist
theorem wi(g:aY->Bool)(x:Int):(rm g x).length<=99:=by
 have:=List.length_filter_le (λa=>g (js x a)) qN;rw[oR]at this;exact this
theorem iq(x y:Int):js x y=(x,y)/\x<=y\/js x y=(y,x)/\y<=x:=by
 rcases Int.le_total x y with a|a
 ·exact aj ⟨by simp[js,Int.min_eq_left a,Int.max_eq_right a],a⟩
 ·exact ak ⟨by simp[js,Int.min_eq_right a,Int.max_eq_left a],a⟩
theorem Io{g:aY->Bool}(c:A1 g){x y:Int}(b:g (js x y)=true):(1<=x/\x<=99)/\(1<=y/\y<=99)/\x≠y:=by
 have:=c _ b;rcases iq x y with⟨a,_⟩|⟨a,_⟩<;>(rw[a]at this;simp at this;omega)
theorem Ch{g:aY->Bool}(b:A1 g)(x:Int):x∉rm g x:=λa=>(Io b (jJ.1 a).2).2.2 rfl
def wo(g:aY->Bool)(l:List Int):aY->Bool:=λk=>g k && !l.contains k.1 && !l.contains k.2
theorem tx{g:aY->Bool}{l:List Int}{k:aY}:wo g l k=true ↔ g k=true/\k.1∉l/\k.2∉l:=by
 simp[wo,and_assoc]
theorem Oy{g:aY->Bool}{l:List Int}{x y:Int}:wo g l (js x y)=true ↔ g (js x y)=true/\x∉l/\y∉l:=by
 rw[tx];rcases iq x y with⟨d,_⟩|⟨d,_⟩
 ·rw[d]
 ·rw[d];constructor
  ·rintro ⟨a,b,c⟩;exact⟨a,c,b⟩
  ·rintro ⟨a,b,c⟩;exact⟨a,c,b⟩
theorem A1.wo{g:aY->Bool}(a:A1 g)(l:List Int):A1 (wo g l):=λk b=>a k (tx.1 b).1
theorem Qn(g:aY->Bool)(l r:List Int):wo (wo g l) r=wo g (l++r):=by
 funext k;rw[Bool.eq_iff_iff,tx,tx,tx];simp only[de,not_or];constructor
 ·rintro ⟨⟨a,b,c⟩,d,e⟩;exact⟨a,⟨b,d⟩,c,e⟩
 ·rintro ⟨a,⟨b,d⟩,c,e⟩;exact⟨⟨a,b,c⟩,d,e⟩
def uh(g:aY->Bool)(x:Int)(l:List Int):aY->Bool:=l.foldl (λg y=>fK g (js x y) false) g
theorem Bu{g:aY->Bool}{x:Int}{l:List Int}{k:aY}:uh g x l k=true ↔ g k=true/\∀y∈l,k≠js x y:=by
 induction l generalizing g with
 | nil=>simp[uh]
 | cons y l ih=>
  have b:uh g x (y::l)=uh (fK g (js x y) false) x l:=rfl;rw[b,ih];unfold fK;by_cases a:k=js x y
  ·simp[a]
  ·simp[a]
theorem GZ(g:aY->Bool)(x:Int)(l:List Int)(y:Int):uh g x (l++ [y])=fK (uh g x l) (js x y) false:=by simp[uh]
theorem M3{g:aY->Bool}(i:A1 g)(x:Int):uh g x (rm g x)=wo g [x]:=by
 funext k;rw[Bool.eq_iff_iff,Bu,tx];refine and_congr_right λd=>?_;have l:=i k d;simp only[dC];constructor
 ·intro e;refine⟨λb=>?_,λb=>?_⟩
  ·have c:k=js x k.2:=by
     rcases iq x k.2 with⟨a,_⟩|⟨_,a⟩
     ·rw[a,<-b]
     ·omega
   exact e k.2 (jJ.2 ⟨by omega,c▸d⟩) c
  ·have c:k=js x k.1:=by
     rcases iq x k.1 with⟨_,a⟩|⟨a,_⟩
     ·omega
     ·rw[a,<-b]
   exact e k.1 (jJ.2 ⟨by omega,c▸d⟩) c
 ·rintro ⟨f,h⟩ j _ b;rcases iq x j with⟨a,_⟩|⟨a,_⟩
  ·exact f (by rw[b,a])
  ·exact h (by rw[b,a])
/-! ### who is told -/
def Ag(t l:List Int):List Int:=l.filter λy=> !t.contains y
def dz(g:aY->Bool)(x:Int):Nat->List Int
 | 0=>rm g x
 | i+1=>match (dz g x i)[i]? with
  | some y=>dz g x i++Ag (dz g x i) (rm (wo g (x::(dz g x i).take i)) y)
  | none=>dz g x i
def tY(g:aY->Bool)(x:Int):List Int:=dz g x 99
theorem rU{t l:List Int}{y:Int}:y∈Ag t l ↔ y∈l/\y∉t:=by simp[Ag]
structure Told (g:aY->Bool) (x:Int) (l:List Int):Prop where
 nodup:l.Nodup
 self:x∉l
 rng:∀y∈l,1<=y/\y<=99
 from':∀i y,l[i]?=some y->∃k∈x::l.take i,y∈rm g k
theorem Aj{t l:List Int}(c:t.Nodup)(d:l.Nodup)(e:∀y∈l,y∉t):(t++l).Nodup:=by
 rw[fM];exact⟨c,d,λh f b g a=>e b g (a▸f)⟩
theorem tR{l:List Int}{i:Nat}{y:Int}(c:l.Nodup)(g:l[i]?=some y):y∉l.take i:=by
 intro f;obtain⟨h,d,a⟩:=List.getElem_of_mem f;rw[dK]at d;rw[List.getElem_take]at a;obtain⟨e,b⟩:=aZ.1 g;exact(List.pairwise_iff_getElem.1 c) h i (by omega) e (by omega) (a.trans b.symm)
theorem jw{g:aY->Bool}(e:A1 g)(x:Int):∀i,Told g x (dz g x i)
 | 0=>⟨px g x,Ch e x,λy c=>(jJ.1 c).1,λi y c=>⟨x,by simp,aL c⟩⟩
 | i+1=>by
  have ih:=jw e x i;unfold dz;split
  ·rename_i y c;refine⟨Aj ih.nodup ((px _ _).sublist List.filter_sublist) λd b=>(rU.1 b).2,?_,?_,?_⟩
   ·intro a;rcases de.1 a with a|a
    ·exact ih.self a
    ·have:=(Oy.1 (jJ.1 (rU.1 a).1).2).2.2;simp at this
   ·intro d b;rcases de.1 b with a|a
    ·exact ih.rng d a
    ·exact(jJ.1 (rU.1 a).1).1
   ·intro j d b;rw[List.getElem?_append]at b;split at b
    ·rename_i h;obtain⟨k,l,m⟩:=ih.from' j d b;refine⟨k,?_,m⟩;rw[iW (by omega)];exact l
    ·rename_i h;have f:=rU.1 (aL b);refine⟨y,?_,jJ.2 ⟨(jJ.1 f.1).1,(Oy.1 (jJ.1 f.1).2).1⟩⟩;refine bW _ ?_;rw[List.take_append];refine List.mem_append_left _ ?_;rw[bD (by omega)];exact aL c
  ·exact ih
theorem K9{l:List Int}(a:l.Nodup):∀{r:List Int},(∀y∈l,y∈r)->l.length<=r.length:=by
 induction l with
 | nil=>simp
 | cons y l ih=>
  intro r b;rw[lq]at a;have c:=b y (by simp);have:=ih a.2 (r:=r.erase y) λe d=>(List.mem_erase_of_ne (λf:e=y=>a.1 (f▸d))).2 (b e (by simp[d]));rw[List.length_erase_of_mem c]at this;have:=List.length_pos_of_mem c;simp;omega
theorem Told.le{g:aY->Bool}{x:Int}{l:List Int}(a:Told g x l):l.length<=99:=by
 have:=K9 a.nodup (r:=qN) λc b=>B9.2 (a.rng c b);rwa [oR]at this
theorem qY{g:aY->Bool}{x:Int}{i:Nat}(a:(dz g x i).length<=i):∀j,dz g x (i+j)=dz g x i
 | 0=>rfl
 | j+1=>by
  have ih:=qY a j;have:dz g x (i+j+1)=dz g x (i+j):=by
   rw[dz];rw[eY (by rw[ih];omega)]
  rw[<-Nat.add_assoc,this,ih]
theorem Jc{g:aY->Bool}(e:A1 g){x:Int}{i:Nat}(d:(dz g x i).length<=i):dz g x i=tY g x:=by
 unfold tY;rcases Nat.le_total i 99 with a|a
 ·obtain⟨b,c⟩:=Nat.le.dest a;rw[<-c,qY d b]
 ·obtain⟨b,rfl⟩:=Nat.le.dest a;exact qY ((jw e x 99).le) b
theorem Fe{g:aY->Bool}(a:A1 g)(x:Int):Told g x (tY g x):=jw a x 99
theorem NL{x y a v:Int}:js a v=js x y ↔ (a=x/\v=y)\/(a=y/\v=x):=by
 rcases iq x y with⟨b,d⟩|⟨b,d⟩<;>rcases iq a v with⟨c,e⟩|⟨c,e⟩<;>(rw[b,c];simp only[eH];omega)
theorem II(i:Nat)(a:i<99):qN.take (i+1)=qN.take i++ [(i:Int)+1]:=by
 rw[dF,Lo i a];rfl
def sf(g:aY->Bool)(x:Int)(i:Nat):List Int:=(qN.take i).filter λy=>g (js x y)
theorem Ip(g:aY->Bool)(x:Int)(i:Nat)(a:i<99):sf g x (i+1)=sf g x i++if g (js x ((i:Int)+1))then [(i:Int)+1]else []:=by
 rw[sf,II i a,List.filter_append,List.filter_cons,List.filter_nil];rfl
theorem Lb(g:aY->Bool)(x:Int):sf g x 99=rm g x:=by
 rw[sf,bD (by rw[oR];exact av _)];rfl
theorem Ci(g:aY->Bool)(x:Int)(i:Nat):(sf g x i).length<=i:=by
 have:=List.length_filter_le (λa=>g (js x a)) (qN.take i);rw[dK]at this;unfold sf;omega
theorem Ik(t l:List Int)(y:Int)(b:y∉l):Ag t (l++ [y])=Ag t l++if (t++Ag t l).contains y then []else [y]:=by
 unfold Ag;rw[List.filter_append,List.filter_cons,List.filter_nil];have a:(t++l.filter λy=> !t.contains y).contains y=t.contains y:=by
  rw[Bool.eq_iff_iff];simp[b]
 rw[a];cases t.contains y<;>rfl
structure SM (base mb n:Nat) (g:aY->Bool) (w:ag):Prop where
 lo:base<=mb
 map:∃D:DataW au,w.ownsMap Tryz.prog 44 unitElem mb n D/\∀k,I2 k->has D (kl k)=g k
variable {base mb n:Nat} {g:aY->Bool} {w:ag}
theorem SM.lt(a:SM base mb n g w):base<=mb/\mb<w.heap.size:=by
 obtain⟨c,b,_⟩:=a.map;exact⟨a.lo,b.lt⟩
theorem SM.kee{S:aO}{w':ag}(a:SM base mb n g w)(k:bE S w w')(f:¬S mb):SM base mb n g w':=by
 obtain⟨c,b,e⟩:=a.map;refine⟨a.lo,c,?_,e⟩;have i:=b.lt;obtain⟨es,d,h,j⟩:=b;exact⟨es,d,(k.block mb i f).trans h,j⟩
theorem SM.later{w':ag}(a:SM base mb n g w)(k:am w w'):SM base mb n g w':=a.kee (aR k λ_=>False) id
theorem SM.rebase{a:Nat}(b:SM base mb n g w)(c:a<=base):SM a mb n g w:=⟨aF c b.lo,b.map⟩
theorem SM.mono(b:SM base mb n g w){m:Nat}(f:n<=m):SM base mb m g w:=by
 obtain⟨c,a,d,e⟩:=b;exact⟨c,a,d.mono f,e⟩
theorem SM.new(w:ag):SM w.heap.size w.heap.size 0 (λ_=>false) (w.alloc (.map #[] 0)):=
 ⟨av _,.map [],nI w _ _ _,λk _=>by simp[has]⟩
theorem Ds(w:ag):(zeroValue 254).run Tryz.prog w=.ok (.agg #[]) w:=by kernel_rfl
theorem SM.look(b:SM base mb n g w){k:aY}(a:I2 k):(Instr.lookup 70 (.map (some mb)) (pk k) true).run Tryz.prog w=.ok (.tuple #[.agg #[],.bool (g k)]) w:=by
 obtain⟨h,c,d⟩:=b.map;obtain⟨i,ps,e,f⟩:=c.look_ok dI underlying70 (Ds w) unitElem_mk (dJ a);obtain⟨rfl,_⟩:=unitElem_inv f;rw[e,d k a]
theorem EV(w:ag){k:aY}(b:I2 k):(Instr.lookup 70 (.map none) (pk k) true).run Tryz.prog w=.ok (.tuple #[.agg #[],.bool false]) w:=by
 have a:=look_nil (P:=Tryz.prog) (w:=w) true dI underlying70 (Ds w) (dJ b);simpa using a
theorem SM.put(d:SM base mb n g w){k:aY}(c:I2 k)(s:n<1000000):∃w2,(Instr.mapUpdate 70 (.map (some mb)) (pk k) (.agg #[])).run Tryz.prog w=.ok () w2/\SM base mb (n+1) (fK g k true) w2/\bE (λb=>b=mb) w w2/\w2.heap.size=w.heap.size:=by
 obtain⟨r,e,j⟩:=d.map;obtain⟨w2,o,m,q⟩:=e.store dI underlying70 (by unfold maxLen;omega) (dJ c) unitElem_mk;obtain⟨l,p⟩:=gq q;refine⟨w2,o,⟨d.lo,_,m,λh f=>?_⟩,l,p⟩;by_cases a:h=k
 ·rw[a,cE,has_put_same e.isMap (dI.key (dJ c))]
 ·rw[bK _ _ a,has_put_other λi=>a (mH f c i)];exact j h f
theorem SM.drop(c:SM base mb n g w){k:aY}(e:I2 k)(ty:TypeId):∃w2,(Builtin.delete_ #[70,44] ty #[.map (some mb),pk k]).run Tryz.prog w=.ok (.tuple #[]) w2/\SM base mb n (fK g k false) w2/\bE (λb=>b=mb) w w2/\w2.heap.size=w.heap.size:=by
 obtain⟨r,i,j⟩:=c.map;obtain⟨w2,o,m,q⟩:=i.drop dI underlying70 (dJ e) ty;obtain⟨l,p⟩:=gq q;refine⟨w2,o,⟨c.lo,_,m,λf d=>?_⟩,l,p⟩;by_cases a:f=k
 ·rw[a,cE,has_del_same]
 ·rw[bK _ _ a,has_del_other λh=>a (mH d e h)];exact j f d
/-! ### rows of numbers -/
def ke(l:List Int):List au:=l.map (Value.int .i64)
theorem mm(l:List Int)(k:Int):ke (l++ [k])=ke l++ [ab k]:=by simp[ke]
def jf(base:Nat)(v:au)(l:List Int)(w:ag):Prop:=w.ownsRow base 3 1 v l.length (ke l)
def ud(v:au)(l:List Int)(w:ag):Prop:=∃a c,v=ae a l.length c/\(l=[]\/∃g o,a=some ⟨g,o,none⟩/\g<w.heap.size/\∀(i:Nat)(k:Int),l[i]?=some k->w.cell? ⟨g,o+i,none⟩=some (ab k))
theorem jf.row{v:au}{l:List Int}(c:jf base v l w):ud v l w:=by
 have d:=c;rcases c.2 with⟨rfl,b⟩|⟨g,cap,i,rfl,_,e,_⟩
 ·exact⟨none,0,by rw[b],aj (bL b)⟩
 ·refine⟨some ⟨g,0,none⟩,cap,rfl,ak ⟨g,0,rfl,(aI.1 e).1,λh k f=>?_⟩⟩;have a:=d.cells (g:=g) rfl h (ab k) (by simp[ke,f]);rw[eU,cT]at a;rw[cT];exact a
theorem jf.nil(base:Nat)(w:ag):jf base (ae none 0 0) [] w:=⟨rfl,aj ⟨rfl,rfl⟩⟩
theorem jf.later{v:au}{l:List Int}{w':ag}(a:jf base v l w)(k:am w w'):jf base v l w':=bB a (aR k λ_=>False) λ_ _ a=>a
theorem ud.later{v:au}{l:List Int}{w':ag}(a:ud v l w)(k:am w w'):ud v l w':=by
 obtain⟨f,c,b,a⟩:=a;refine⟨f,c,b,?_⟩;rcases a with a|⟨g,o,b,d,a⟩
 ·exact aj a
 ·exact ak ⟨g,o,b,aW d k.size,λe i h=>(k.cell (p:=⟨g,o+e,none⟩) d).trans (a e i h)⟩
def oD(a:Int):Bool:=decide (1<=a) && decide (a<=99)
theorem mS(a:Int)(w:ag):ao 162 #[ab a] w λe w'=>e=.returned (.bool (oD a))/\w'=w:=by
 go_enter func162,ntmps162;by_cases b:1<=a
 ·go_wp2_with fail
  go_ret
  exact⟨b9 (by simp[oD,b]),rfl⟩
 ·go_wp2_with fail
  go_ret
  exact⟨b9 (by simp[oD];omega),rfl⟩
theorem pf(x y:Int)(w:ag):ao 157 #[ab x,ab y] w λe w'=>e=.returned (.agg #[ab (js x y).1,ab (js x y).2])/\am w w':=by
 go_enter func157,ntmps157;go_wp2_with fail
 all_goals
  exact ay (v:=.agg #[ab (js x y).1,ab (js x y).2]) (by simp[results,results157,go_sem,js]<;>omega) rfl ⟨rfl,aS _ _⟩
theorem kC{base e sz n:Nat}{v:au}{xs:cX}{w d:ag}{o:Obj}(f:w.ownsRow base e sz v n xs)(c:(w.alloc o).grownBy d v.ownBlock)(g:base<=w.heap.size):Below base w d:=by
 have a:Below base w (w.alloc o):=(aA _ _).alloc g _;refine⟨c.os.trans a.os,c.tape.trans a.tape,c.output.trans a.output,aF a.size c.size,λb h=>(c.block b (by simp;omega) λe=>?_).trans (a.block b h)⟩;have:=(f.lt b e.symm).1;omega
theorem Ao{x y:Int}(b:dN x)(c:dN y):I2 (js x y):=by
 rcases iq x y with⟨a,_⟩|⟨a,_⟩<;>rw[a]
 ·exact⟨b,c⟩
 ·exact⟨c,b⟩
theorem Qb(b:Nat)(a:b<=1000):dN (b:Int):=by unfold dN;omega
theorem JY(g:aY->Bool)(i:BL)(mo:da)(x:Int)(w:ag)(ah:i.b<w.heap.size)(aw:Hid (dN x))(ad:Hid (ai w i.b (i.o) (.map mo)))(s:Hid (∀k,I2 k->∀W,am w W->(Instr.lookup 70 (.map mo) (pk k) true).run Tryz.prog W=.ok (.tuple #[.agg #[],.bool (g k)]) W)):ao 156 #[.pointer (some ⟨i.b,i.o,none⟩),ab x] w λe w'=>∃v,e=.returned v/\Hid (jf w.heap.size v (rm g x) w'/\am w w'):=by
 obtain⟨C,ak,aq,ar,au⟩:=bY FZ;have l:Hid (Tryz.prog.info? 3=some C/\C.zero=some (ab 0)/\C.size=1/\C.bytes=8):=⟨ak,aq,ar,au⟩;clear ak aq ar au;go_enter func156,ntmps156;go_wp2_with fail;go_loopw [5,6] (λv aa wr=>∃(b:Nat),1<=b/\b<=100/\aa=ab b/\(∃q d c,v=ae q d c/\d<=99/\Hid ((sf g x (b-1)).length=d/\wr.ownsRow w.heap.size 3 1 (ae q d c) d (ke (sf g x (b-1)))/\am w wr))) (λ_ aa _=>100-(intOf aa).toNat)
 case atStart=>exact⟨1,by omega,by omega,rfl,none,0,0,rfl,by omega,rfl,⟨rfl,aj ⟨rfl,rfl⟩⟩,aA _ _⟩
 case round=>
  obtain⟨b,aE,F,rfl,q,d,c,rfl,X,a⟩:=hrel;by_cases aB:b<=99
  ·have aC:(b:Int)<=99:=by omega
   have V:ai wr i.b (i.o) (.map mo):=(a.2.2.cell (p:=⟨i.b,i.o,none⟩) ah).trans ad;have af:Hid (I2 (js x b)):=Ao aw (Qb b (by omega));have j:Hid (sf g x b=sf g x (b-1)++if g (js x b)then [(b:Int)]else []):=by
    have y:=Ip g x (b-1) (by omega);have ax:b-1+1=b:=by omega
    have ay:((b-1:Nat):Int)+1=(b:Int):=by omega
    rw[ax,ay]at y;exact y
   have O:=λW Y=>s (js x b) af W (a.2.2.trans (Below.mono Y a.2.2.size));have Z:=λW=>pf x b W;obtain⟨t,an⟩:∃t,t=g (js x b):=⟨_,rfl⟩;rw[<-an]at O j;have U:=ap (show d<=b-1 by have:=Ci g x (b-1);have:=a.1;omega);unfold pk at O;obtain⟨⟨aF,aG⟩,az⟩:∃p,p=js x b:=⟨_,rfl⟩;rw[<-az]at O Z;have J:=ap Z;replace s:=ap O;have B:Hid (∀W,am wr W->ai W i.b (i.o) (.map mo)):=λW Y=>((a.2.2.trans (Below.mono Y a.2.2.size)).cell (p:=⟨i.b,i.o,none⟩) ah).trans ad;have D:Hid (am wr wr.drew):=(aA _ _).drew;have E:Hid (∀o:Obj,am wr (wr.alloc o).drew):=λo=>(aS _ o).drew;clear an O Z af;go_wp2_with fail
   go_region_held3 (λW=>W.cell? ⟨i.b,i.o,none⟩=some (.map mo)) (first|(go_keep;done)|exact B _ D|exact B _ (E _)|exact B _ (f.alloc f.size _)|exact B _ f) ((first
    | (go_at_call 157;refine(J _).mono ?_;rintro e G ⟨rfl,F⟩;have f:=ap (D.trans (F.mono D.size));have T:=s _ f;have al:=s _ (f.alloc f.size (.cells #[] 254));clear F)
    | (go_at_call 157;refine(J _).mono ?_;rintro e G ⟨rfl,F⟩;have f:=ap ((E _).trans (F.mono (E _).size));have T:=s _ f;clear F)))
   ·obtain⟨h,r⟩:∃h,h=G.alloc (.cells #[] 254):=⟨_,rfl⟩;rw[<-r];have n:Hid (am wr h):=by rw[r];exact f.alloc f.size _
    obtain⟨R,Q⟩:∃R,R=G.heap.size:=⟨_,rfl⟩;rw[<-Q];clear r al Q;have HB:=ap (a.2.2.trans (n.mono a.2.2.size));have m:=ap (bB a.2.1 (aR n λ_=>False) λ_ _ y=>y);have u:=ap a.1;have K:=ap HB.size;clear a f n s J B D E T V;cases t
    ·go_wp2_with fail;go_roundw
     case rel=>exact⟨b+1,by omega,by omega,by go_num,q,d,c,rfl,X,by rw[fx,j.out];simpa using u.out,by rw[fx,j.out];simpa using m.out,HB.out⟩
     case measure=>simp[intOf];omega
    ·go_wp2_with (first
       | (at_builtin;refine wpList_append_lies _ rfl _ _ 25 rfl w.heap.size 3 C _ 1 8 underlying25 l.1 l.2.1 l.2.2.1 l.2.2.2 rfl (by decide) (ae q d c) d (ke (sf g x (b-1))) rfl (m.alloc _) ⟨h.heap.size,0,none⟩ 1 1 [ab b] rfl rfl (World.news_of_block (cs:= #[ab b]) (t:=3) (fr:=(0,0)) (aD h _)) (by simp[Value.oneCell']) (by decide) (by unfold maxLen;omega) (by omega) (by have:=K.out;simp;omega) _ rfl ?_;intro M L av A z N P;have I:=ap A;have H:=ap (HB.trans (kC m z HB.size));clear A z N P))
     go_roundw
     case rel=>
      refine⟨b+1,by omega,by omega,by go_num,some ⟨M,0,none⟩,d+1,L,rfl,by have:=U.out;omega,?_,?_,H⟩
      ·rw[fx,j.out];simpa using u.out
      ·rw[fx,j.out,if_pos rfl,mm];exact I
     case measure=>simp[intOf];omega
   ·obtain⟨h,r⟩:∃h,h=G.alloc (.cells #[] 254):=⟨_,rfl⟩;rw[<-r];have n:Hid (am wr h):=by rw[r];exact f.alloc f.size _
    obtain⟨R,Q⟩:∃R,R=G.heap.size:=⟨_,rfl⟩;rw[<-Q];clear r Q;have HB:=ap (a.2.2.trans (n.mono a.2.2.size));have m:=ap (bB a.2.1 (aR n λ_=>False) λ_ _ y=>y);have u:=ap a.1;have K:=ap HB.size;clear a f n s J B D E T al V;cases t
    ·go_wp2_with fail;go_roundw
     case rel=>exact⟨b+1,by omega,by omega,by go_num,q,d,c,rfl,X,by rw[fx,j.out];simpa using u.out,by rw[fx,j.out];simpa using m.out,HB.out⟩
     case measure=>simp[intOf];omega
    ·go_wp2_with (first
       | (at_builtin;refine wpList_append_lies _ rfl _ _ 25 rfl w.heap.size 3 C _ 1 8 underlying25 l.1 l.2.1 l.2.2.1 l.2.2.2 rfl (by decide) (ae q d c) d (ke (sf g x (b-1))) rfl (m.alloc _) ⟨h.heap.size,0,none⟩ 1 1 [ab b] rfl rfl (World.news_of_block (cs:= #[ab b]) (t:=3) (fr:=(0,0)) (aD h _)) (by simp[Value.oneCell']) (by decide) (by unfold maxLen;omega) (by omega) (by have:=K.out;simp;omega) _ rfl ?_;intro M L av A z N P;have I:=ap A;have H:=ap (HB.trans (kC m z HB.size));clear A z N P))
     go_roundw
     case rel=>
      refine⟨b+1,by omega,by omega,by go_num,some ⟨M,0,none⟩,d+1,L,rfl,by have:=U.out;omega,?_,?_,H⟩
      ·rw[fx,j.out];simpa using u.out
      ·rw[fx,j.out,if_pos rfl,mm];exact I
     case measure=>simp[intOf];omega
   ·obtain⟨h,r⟩:∃h,h=G:=⟨_,rfl⟩;subst r;have n:=ap f.out;have HB:=ap (a.2.2.trans (n.mono a.2.2.size));have m:=ap (bB a.2.1 (aR n λ_=>False) λ_ _ y=>y);have u:=ap a.1;have K:=ap HB.size;clear a f n s J B D E T V;cases t
    ·go_wp2_with fail;go_roundw
     case rel=>exact⟨b+1,by omega,by omega,by go_num,q,d,c,rfl,X,by rw[fx,j.out];simpa using u.out,by rw[fx,j.out];simpa using m.out,HB.out⟩
     case measure=>simp[intOf];omega
    ·go_wp2_with (first
       | (at_builtin;refine wpList_append_lies _ rfl _ _ 25 rfl w.heap.size 3 C _ 1 8 underlying25 l.1 l.2.1 l.2.2.1 l.2.2.2 rfl (by decide) (ae q d c) d (ke (sf g x (b-1))) rfl (m.alloc _) ⟨h.heap.size,0,none⟩ 1 1 [ab b] rfl rfl (World.news_of_block (cs:= #[ab b]) (t:=3) (fr:=(0,0)) (aD h _)) (by simp[Value.oneCell']) (by decide) (by unfold maxLen;omega) (by omega) (by have:=K.out;simp;omega) _ rfl ?_;intro M L av A z N P;have I:=ap A;have H:=ap (HB.trans (kC m z HB.size));clear A z N P))
     go_roundw
     case rel=>
      refine⟨b+1,by omega,by omega,by go_num,some ⟨M,0,none⟩,d+1,L,rfl,by have:=U.out;omega,?_,?_,H⟩
      ·rw[fx,j.out];simpa using u.out
      ·rw[fx,j.out,if_pos rfl,mm];exact I
     case measure=>simp[intOf];omega
  ·obtain rfl:b=100:=by omega
   have S:=a.out;go_wp2_with fail
   go_ret
   refine⟨_,rfl,?_,S.2.2⟩;have e:=Lb g x;rw[show 100-1=99 from rfl]at S;rw[<-e];unfold jf;rw[S.1];exact S.2.1
def fi(base:Nat)(a:BL)(mo:da)(n:Nat)(g:aY->Bool)(w:ag):Prop:=
 base<=a.b/\uc a mo w/\((mo=none/\g=λ_=>false)\/∃mb,mo=some mb/\SM base mb n g w)
def MO(a:BL)(mo:da)(b:Nat):Prop:=b=a.b\/mo=some b
variable {base n:Nat} {bp:BL} {mo:da} {g:aY->Bool} {w:ag}
theorem fi.lt(d:fi base bp mo n g w)(b:Nat)(a:MO bp mo b):base<=b/\b<w.heap.size:=by
 rcases a with rfl|a
 ·exact⟨d.1,d.2.1.lt⟩
 ·rcases d.2.2 with⟨c,_⟩|⟨mb,c,e⟩
  ·rw[c]at a;cases a
  ·rw[c]at a;injection a with a;subst a;exact e.lt
theorem fi.kee{S:aO}{w':ag}(c:fi base bp mo n g w)(k:bE S w w')(d:∀b,MO bp mo b->¬S b):fi base bp mo n g w':=by
 refine⟨c.1,c.2.1.kept (k.block bp.b (c.lt bp.b (aj rfl)).2 (d bp.b (aj rfl))),?_⟩;rcases c.2.2 with a|⟨mb,a,e⟩
 ·exact aj a
 ·exact ak ⟨mb,a,e.kee k (d mb (ak a))⟩
theorem fi.later{w':ag}(a:fi base bp mo n g w)(k:am w w'):fi base bp mo n g w':=a.kee (aR k λ_=>False) λ_ _ a=>a
theorem fi.cell(a:fi base bp mo n g w):ai w bp.b (bp.o) (.map mo)/\w.frozen? ⟨bp.b,bp.o,none⟩=false:=⟨a.2.1.cell.1,a.2.1.cell.2 _⟩
theorem fi.look(b:fi base bp mo n g w){k:aY}(a:I2 k):(Instr.lookup 70 (.map mo) (pk k) true).run Tryz.prog w=.ok (.tuple #[.agg #[],.bool (g k)]) w:=by
 rcases b.2.2 with⟨rfl,rfl⟩|⟨mb,rfl,c⟩
 ·exact EV w a
 ·exact c.look a
theorem fi.ne{mb:Nat}(c:fi base bp (some mb) n g w):bp.b≠mb:=by
 intro e;rcases c.2.2 with⟨a,_⟩|⟨j,a,f⟩
 ·cases a
 ·injection a with a;subst a e;obtain⟨h,⟨es,i,d,_⟩,_⟩:=f.map;rw[c.2.1.2]at d;cases d
theorem MR(a:fi base bp mo n g w){x:Int}(f:dN x):ao 156 #[.pointer (some ⟨bp.b,bp.o,none⟩),ab x] w λe w'=>∃v,e=.returned v/\Hid (jf w.heap.size v (rm g x) w'/\am w w'):=
 JY g bp mo x w (a.lt bp.b (aj rfl)).2 f a.cell.1 λ_ d _ c=>(a.later c).look d
theorem MT(mb:Nat)(W:ag):(binOp .eql 70 (.map (some mb)) (.map none)).run Tryz.prog W=.ok (.bool false) W:=by kernel_rfl
theorem MS(W:ag):(binOp .eql 70 (.map none) (.map none)).run Tryz.prog W=.ok (.bool true) W:=by kernel_rfl
theorem JW(bp:BL)(mb:Nat)(x y:Int)(w:ag)(g:bt)(v:bp.b<w.heap.size)(i:Hid (ai w bp.b (bp.o) (.map (some mb))))(l:Hid (oD x=true/\oD y=true))(C:x≠y)(k:Hid (∀W,am w W->∃w2,(Instr.mapUpdate 70 (.map (some mb)) (.agg #[ab (js x y).1,ab (js x y).2]) (.agg #[])).run Tryz.prog W=.ok () w2/\ai w2 bp.b (bp.o) (.map (some mb))/\Hid (g w2))):ao 122 #[.pointer (some ⟨bp.b,bp.o,none⟩),ab x,ab y] w λe w'=>e=.returned (ab 0)/\g w':=by
 have B:=i.out;have c:=λW=>mS x W;have d:=λW=>mS y W;have D:=MT mb;rw[l.out.1]at c;rw[l.out.2]at d;have n:=ap c;have q:=ap d;clear c d;have f:=λW=>pf x y W;obtain⟨⟨F,G⟩,A⟩:∃p,p=js x y:=⟨_,rfl⟩;rw[<-A]at f k;have t:=ap f;clear f;have j:Hid (∀W,am w W->ai W bp.b (bp.o) (.map (some mb))):=λW u=>(u.cell (p:=⟨bp.b,bp.o,none⟩) v).trans i;have a:Hid (am w w.drew):=(aA _ _).drew;go_enter func122,ntmps122;go_wp2_with fail;refine(n _).mono ?_;rintro e H ⟨rfl,rfl⟩;go_wp2_with fail;refine(q _).mono ?_;rintro e w2 ⟨rfl,rfl⟩;go_wp2_with fail
 go_region_held3 (λW=>W.cell? ⟨bp.b,bp.o,none⟩=some (.map (some mb))) (first|(go_keep;done)|exact j _ a|exact j _ h|exact r) ((first
       | (go_at_call 157;refine(t _).mono ?_;rintro e I ⟨rfl,m⟩;have h:=ap (a.trans (m.mono a.size));obtain⟨J,E,z,s⟩:=k _ h;have r:=ap z;clear m)))
 go_wp2_with fail
 go_ret
 exact⟨rfl,s⟩
theorem GO(bp:BL)(x y:Int)(w w0:ag)(g:bt)(F:bp.b<w.heap.size)(s:Hid (ai w bp.b (bp.o) (.map none)/\w.frozen? ⟨bp.b,bp.o,none⟩=false))(l:Hid (oD x=true/\oD y=true))(H:x≠y)(n:w0=(w.setCell ⟨bp.b,bp.o,none⟩ (.map (some w.heap.size))).alloc (.map #[] 0))(i:Hid (ai w0 bp.b (bp.o) (.map (some w.heap.size))))(B:bp.b<w0.heap.size)(k:Hid (∀W,am w0 W->∃w2,(Instr.mapUpdate 70 (.map (some w.heap.size)) (.agg #[ab (js x y).1,ab (js x y).2]) (.agg #[])).run Tryz.prog W=.ok () w2/\ai w2 bp.b (bp.o) (.map (some w.heap.size))/\Hid (g w2))):ao 122 #[.pointer (some ⟨bp.b,bp.o,none⟩),ab x,ab y] w λe w'=>e=.returned (ab 0)/\g w':=by
 obtain⟨E,f0⟩:=s;have c:=λW=>mS x W;have d:=λW=>mS y W;have I:=MS;have G:= @lC Tryz.prog;rw[l.out.1]at c;rw[l.out.2]at d;have q:=ap c;have r:=ap d;clear c d;have f:=λW=>pf x y W;obtain⟨⟨K,L⟩,D⟩:∃p,p=js x y:=⟨_,rfl⟩;rw[<-D]at f k;have v:=ap f;have z:=ap n;clear f n;have j:Hid (∀W,am w0 W->ai W bp.b (bp.o) (.map (some w.heap.size))):=λW A=>(A.cell (p:=⟨bp.b,bp.o,none⟩) B).trans i;have a:Hid (am w0 w0.drew):=(aA _ _).drew;go_enter func122,ntmps122;go_wp2_with fail;refine(q _).mono ?_;rintro e M ⟨rfl,rfl⟩;go_wp2_with fail;refine(r _).mono ?_;rintro e w2 ⟨rfl,rfl⟩;go_wp2_with fail;rw[<-z.out];have d0:=i.out
 go_region_held3 (λW=>W.cell? ⟨bp.b,bp.o,none⟩=some (.map (some w2.heap.size))) (first|(go_keep;done)|exact j _ a|exact j _ h|exact t) ((first
       | (go_at_call 157;refine(v _).mono ?_;rintro e N ⟨rfl,m⟩;have h:=ap (a.trans (m.mono a.size));obtain⟨O,J,C,u⟩:=k _ h;have t:=ap C;clear m)))
 go_wp2_with fail
 go_ret
 exact⟨rfl,u⟩
theorem GN(bp:BL)(x y:Int)(w:ag)(a:oD x=false\/oD y=false\/x=y):ao 122 #[.pointer (some ⟨bp.b,bp.o,none⟩),ab x,ab y] w λe w'=>e=.returned (ab 1)/\w'=w:=by
 have f:=λc=>mS x c;have g:=λc=>mS y c;obtain⟨d,h⟩:∃d,d=oD x:=⟨_,rfl⟩;obtain⟨b,i⟩:∃b,b=oD y:=⟨_,rfl⟩;rw[<-h]at f a;rw[<-i]at g a;have k:=ap f;have l:=ap g;have m:=ap a;clear f g h i a;go_enter func122,ntmps122;go_wp2_with fail;refine(k _).mono ?_;rintro e p ⟨rfl,rfl⟩;cases d
 ·go_wp2_with fail
  go_ret
  exact⟨rfl,rfl⟩
 ·go_wp2_with fail;refine(l _).mono ?_;rintro e q ⟨rfl,rfl⟩;cases b
  ·go_wp2_with fail
   go_ret
   exact⟨rfl,rfl⟩
  ·have j:x=y:=by simpa using m.out
   have n:=ap j;subst j;go_wp2_with fail
   go_ret
   exact⟨rfl,rfl⟩
variable {base n:Nat} {bp:BL} {mo:da} {g:aY->Bool} {w:ag}
def vT(x y:Int):Int:=if oD x=true/\oD y=true/\x≠y then 0 else 1
def OF(base:Nat)(bp:BL)(mo:da)(n:Nat)(g:aY->Bool)(w w':ag):Prop:=
 ∃a,fi base bp a n g w'/\bE (MO bp mo) w w'/\∀b,MO bp a b->MO bp mo b\/w.heap.size<=b
theorem fi.mono(b:fi base bp mo n g w){m:Nat}(c:n<=m):fi base bp mo m g w:=by
 refine⟨b.1,b.2.1,?_⟩;rcases b.2.2 with a|⟨mb,a,d⟩
 ·exact aj a
 ·exact ak ⟨mb,a,d.mono c⟩
theorem GL(a:fi base bp mo n g w){x y:Int}(z:dN x)(A:dN y)(v:n<1000000):ao 122 #[.pointer (some ⟨bp.b,bp.o,none⟩),ab x,ab y] w λe w'=>e=.returned (ab (vT x y))/\Hid (OF base bp mo (n+1) (if vT x y=0 then fK g (js x y) true else g) w w'):=by
 have q:=a.lt bp.b (aj rfl);by_cases f:oD x=true/\oD y=true/\x≠y
 ·have p:vT x y=0:=if_pos f;rw[p,if_pos rfl];rcases a.2.2 with⟨rfl,rfl⟩|⟨mb,rfl,D⟩
  ·obtain⟨h,l⟩:∃h,h=(w.setCell ⟨bp.b,bp.o,none⟩ (.map (some w.heap.size))).alloc (.map #[] 0):=⟨_,rfl⟩;have G:bE (λb=>b=bp.b) w (w.setCell ⟨bp.b,bp.o,none⟩ (.map (some w.heap.size))):=bN w bp.b bp.o _;have s:(w.setCell ⟨bp.b,bp.o,none⟩ (.map (some w.heap.size))).heap.size=w.heap.size:=by simp[World.setCell]
   have F:bE (λb=>b=bp.b) w h:=by
    rw[l];exact bE.trans G (aR (aS _ _) λ_=>False) λ_ _ a=>a.elim
   have t:uc bp (some w.heap.size) h:=by
    rw[l];exact(a.2.1.set).kept ((aS _ _).block bp.b (by rw[s];exact q.2))
   have H:h.heap.size=w.heap.size+1:=by rw[l,ja,s]
   have C:SM base w.heap.size n (λ_=>false) h:=by
    have u:=SM.new (w.setCell ⟨bp.b,bp.o,none⟩ (.map (some w.heap.size)));rw[s,<-l]at u;exact(u.rebase (by omega)).mono (aM _)
   refine(GO bp x y w h (λw'=>OF base bp none (n+1) (fK (λ_=>false) (js x y) true) w w') q.2 a.cell ⟨f.1,f.2.1⟩ f.2.2 l t.cell.1 (by omega) ?_).mono λe w' a=>⟨a.1,a.2⟩;intro B d;obtain⟨m,r,i,k,E⟩:=(C.later d).put (Ao z A) v;have j:uc bp (some w.heap.size) m:=(t.kept (d.block bp.b (by omega))).kept (k.block bp.b (by have:=d.size;omega) (by omega));refine⟨m,r,j.cell.1,some w.heap.size,⟨a.1,j,ak ⟨_,rfl,i⟩⟩,?_,λb c=>?_⟩
   ·refine bE.trans (bE.trans (F.mono λb _ e=>aj e) (aR d λ_=>False) λ_ _ a=>a.elim) k λb c e=>?_;omega
   ·rcases c with c|c
    ·exact aj (aj c)
    ·injection c with c;exact ak (by omega)
  ·refine(JW bp mb x y w (λw'=>OF base bp (some mb) (n+1) (fK g (js x y) true) w w') q.2 a.cell.1 ⟨f.1,f.2.1⟩ f.2.2 ?_).mono λe w' a=>⟨a.1,a.2⟩;intro B d;obtain⟨m,r,i,k,E⟩:=(D.later d).put (Ao z A) v;have j:uc bp (some mb) m:=(a.2.1.kept (d.block bp.b (by omega))).kept (k.block bp.b (by have:=d.size;omega) a.ne);refine⟨m,r,j.cell.1,some mb,⟨a.1,j,ak ⟨_,rfl,i⟩⟩,?_,λb c=>aj c⟩;exact bE.trans (aR d _) k λb _ e=>ak (by rw[e])
 ·have p:vT x y=1:=if_neg f;rw[p,if_neg (by decide)];refine(GN bp x y w ?_).mono ?_
  ·cases h1:oD x
   ·exact aj rfl
   ·cases i:oD y
    ·exact ak (aj rfl)
    ·refine ak (ak ?_);by_cases e:x=y
     ·exact e
     ·exact absurd ⟨h1,i,e⟩ f
  ·rintro e w' ⟨rfl,rfl⟩;exact⟨rfl,mo,a.mono (fN n),bE.refl _ _,λb c=>aj c⟩
theorem Ea(a:ar)(c:Nat)(l:List Int)(L:Nat)(y:Int)(w:ag)(x:L<=1000000)(n:Hid (l.length=L))(q:Hid (∀(i:Nat)(k:Int),l[i]?=some k->∃g o,a=some ⟨g,o,none⟩/\ai w g (o+i) (ab k))):ao 158 #[ae a L c,ab y] w λe w'=>∃r:Int,e=.returned (ab r)/\w'=w/\Hid (decide (0<=r)=l.contains y):=by
 go_enter func158,ntmps158;go_wp2_with fail;go_loopw [8] (λi wr=>∃b:Nat,b<=L/\i=ab b/\wr=w/\Hid (y∉l.take b)) (λi _=>L-(intOf i).toNat)
 case atStart=>exact⟨0,aM _,rfl,rfl,by simp[Hid]⟩
 case round=>
  obtain⟨b,u,rfl,rfl,p⟩:=hrel;by_cases s:b<L
  ·obtain⟨k,j⟩:∃k,l[b]?=some k:=⟨l[b]'(by rw[n.out];exact s),aN _⟩;obtain⟨g,o,rfl,t⟩:=q b k j;have m:=ap j;clear j;have z:(0:Int)<=(b:Int):=by omega
   have A:(b:Int)<(L:Int):=by omega
   by_cases h:y=k
   ·have f:Hid (l.contains y=true):=by
      rw[h];exact List.contains_iff_mem.2 (aL m)
    subst h;go_wp2_with fail
    go_ret
    exact⟨(b:Int),rfl,rfl,by rw[f.out];simp[Hid]⟩
   ·have f:Hid (y∉l.take (b+1)):=by
      rw[dF,m.out];intro d;rcases de.1 d with d|d
      ·exact p d
      ·exact h (by simpa using d)
    have v:¬k=y:=λe=>h e.symm;go_wp2_with fail;go_roundw
    case rel=>exact⟨b+1,by omega,by go_num,trivial,f⟩
    case measure=>simp[intOf];omega
  ·obtain rfl:b=L:=by omega
   have f:Hid (l.contains y=false):=by
    have d:=p.out;rw[bD (by rw[n.out];exact av _)]at d;exact(show l.contains y=false by simpa using d)
   go_wp2_with fail
   go_ret
   exact⟨-1,rfl,rfl,by rw[f.out];simp[Hid]⟩
theorem ud.cells{v:au}{l:List Int}(b:ud v l w):∃a c,v=ae a l.length c/\∀(i:Nat)(k:Int),l[i]?=some k->∃g o,a=some ⟨g,o,none⟩/\ai w g (o+i) (ab k):=by
 obtain⟨a,c,d,b⟩:=b;refine⟨a,c,d,λi k e=>?_⟩;rcases b with rfl|⟨g,o,d,_,b⟩
 ·simp at e
 ·exact⟨g,o,d,b i k e⟩
theorem vG(v:au)(y:Int)(t:Bool)(w:ag)(a:Hid (ao 158 #[v,ab y] w λe w'=>∃r:Int,e=.returned (ab r)/\w'=w/\Hid (decide (0<=r)=t))):ao 120 #[v,ab y] w λe w'=>e=.returned (.bool t)/\w'=w:=by
 go_enter func120,ntmps120;go_wp2_with fail;refine a.mono ?_;rintro e c ⟨r,rfl,rfl,b⟩;go_wp2_with fail
 go_ret
 exact⟨b9 (by rw[<-b.out]),rfl⟩
theorem xv{v:au}{l:List Int}(b:ud v l w)(f:l.length<=1000000)(y:Int):ao 120 #[v,ab y] w λe w'=>e=.returned (.bool (l.contains y))/\w'=w:=by
 obtain⟨a,c,e,d⟩:=b.cells;rw[e];exact vG _ y _ w (Ea a c l l.length y w f rfl d)
theorem BR(a b:ar)(c d:Nat)(len:Nat)(w:ag)(x:len<=1000000)(q:Hid (∀i,i<len->∃g o h j k,(a=some ⟨g,o,none⟩/\b=some ⟨h,j,none⟩)/\ai w g (o+i) (ab k)/\ai w h (j+i) (ab k))):ao 11 #[ae a len c,ae b len d] w λe w'=>e=.returned (.bool true)/\am w w':=by
 go_enter func11,ntmps11;go_wp2_with fail;go_loopw [13] (λi wr=>∃f:Nat,f<=len/\i=ab f/\Hid (am w wr)) (λi _=>len-(intOf i).toNat)
 case atStart=>exact⟨0,aM _,rfl,aA _ _⟩
 case round=>
  obtain⟨f,v,rfl,HB⟩:=hrel;by_cases u:f<len
  ·obtain⟨g,o,h,j,k,⟨rfl,rfl⟩,l,m⟩:=q f u;have s:=iC w ⟨g,o+f,none⟩ l;have t:=iC w ⟨h,j+f,none⟩ m;have n:=aw HB;replace l:=(n _ _ s).trans l;replace m:=(n _ _ t).trans m;clear n;have y:(0:Int)<=(f:Int):=by omega
   have z:(f:Int)<(len:Int):=by omega
   have r:Hid (am w wr.drew):=HB.drew;go_wp2_with fail;go_region_held3 (λp=>p.cell? ⟨g,o+f,none⟩=some (ab k)/\p.cell? ⟨h,j+f,none⟩=some (ab k)) (go_keep) (fail);go_wp2_with fail;go_roundw
   case rel=>exact⟨f+1,by omega,by go_num,r⟩
   case measure=>simp[intOf];omega
  ·obtain rfl:f=len:=by omega
   go_wp2_with fail
   go_ret
   exact⟨rfl,HB⟩
theorem D8{v h:au}{l:List Int}(q:ud v l w)(r:ud h l w)(u:l.length<=1000000):ao 11 #[v,h] w λe w'=>e=.returned (.bool true)/\am w w':=by
 obtain⟨i,c,m,x⟩:=q.cells;obtain⟨b,j,n,y⟩:=r.cells;rw[m,n];refine BR i b c j l.length w u λa d=>?_;have f:l[a]?=some (l[a]'d):=aN d;obtain⟨g,o,e,s⟩:=x a _ f;obtain⟨p,z,k,t⟩:=y a _ f;exact⟨g,o,p,z,_,⟨e,k⟩,s,t⟩
theorem DH(l:List Int)(L:Nat)(bp:BL)(mo:da)(x:Int)(w:ag)(R:ar->Nat->Nat->bt)(J:L<=99)(C:Hid (l.length=L))(D:Hid (ao 156 #[.pointer (some ⟨bp.b,bp.o,none⟩),ab x] w λe w'=>∃a c,e=.returned (ae a L c)/\Hid (R a c 0 w')))(f:Hid (∀a c j W,R a c j W->ai W bp.b (bp.o) (.map mo)/\∀(i:Nat)(k:Int),l[i]?=some k->∃g o,a=some ⟨g,o,none⟩/\ai W g (o+i) (ab k)))(HB:Hid (∀a c j W d,R a c j W->am W d->R a c j d))(A:Hid (∀a c j k W,R a c j W->l[j]?=some k->∃d,(∀ty,(Builtin.delete_ #[70,44] ty #[.map mo,.agg #[ab (js x k).1,ab (js x k).2]]).run Tryz.prog W=.ok (.tuple #[]) d)/\R a c (j+1) d)):ao 119 #[.pointer (some ⟨bp.b,bp.o,none⟩),ab x] w λe w'=>∃a c,e=.returned (ae a L c)/\Hid (R a c L w'):=by
 go_enter func119,ntmps119;go_wp2_with fail;refine D.mono ?_;rintro e S ⟨a,c,rfl,z⟩;go_wp2_with fail;go_loopw [13] (λi wr=>∃j:Nat,j<=L/\i=ab j/\Hid (R a c j wr)) (λi _=>L-(intOf i).toNat)
 case atStart=>exact⟨0,aM _,rfl,z⟩
 case round=>
  obtain⟨j,K,rfl,h⟩:=hrel;by_cases F:j<L
  ·obtain⟨k,m⟩:∃k,l[j]?=some k:=⟨l[j]'(by rw[C.out];exact F),aN _⟩;obtain⟨H,y⟩:=f.out a c j wr h;obtain⟨g,o,rfl,I⟩:=y j k m;have B:=ap m;clear m y;have N:(0:Int)<=(j:Int):=by omega
   have O:(j:Int)<(L:Int):=by omega
   have s:=ap (λW=>pf x k W);have q:=ap (λW (E:R (some ⟨g,o,none⟩) c j W)=>A _ _ _ k W E B);obtain⟨⟨P,Q⟩,v⟩:∃G,G=js x k:=⟨_,rfl⟩;rw[<-v]at s q;clear v;have p:Hid (R (some ⟨g,o,none⟩) c j wr.drew):=HB _ _ _ _ _ h (aA _ _).drew;have d0:=(f _ c j _ p).1;go_wp2_with fail
   go_region_held3 (λW=>W.cell? ⟨bp.b,bp.o,none⟩=some (.map mo)) (first|(go_keep;done)|exact(f _ _ _ _ n).1|exact(f _ _ _ _ r).1) ((first
    | (go_at_call 157;refine(s _).mono ?_;rintro e T ⟨rfl,t⟩;have n:=ap (HB _ _ _ _ _ p t);obtain⟨U,M,u⟩:=q _ n;have r:=ap u;clear t u)))
   go_wp2_with fail;go_roundw
   case rel=>exact⟨j+1,by omega,by go_num,r⟩
   case measure=>simp[intOf];omega
  ·obtain rfl:j=L:=by omega
   go_wp2_with fail
   go_ret
   exact⟨a,c,rfl,h⟩
variable {base n:Nat} {bp:BL} {mo:da} {g:aY->Bool} {w:ag}
theorem fi.drop(c:fi base bp mo n g w){k:aY}(h:I2 k)(f:mo≠none):∃w2,(∀ty,(Builtin.delete_ #[70,44] ty #[.map mo,pk k]).run Tryz.prog w=.ok (.tuple #[]) w2)/\fi base bp mo n (fK g k false) w2/\bE (λb=>mo=some b) w w2/\w2.heap.size=w.heap.size:=by
 have i:=λmb (a:mo=some mb)=>(show fi base bp (some mb) n g w from a▸c).ne;rcases c.2.2 with⟨a,_⟩|⟨mb,rfl,l⟩
 ·exact absurd a f
 ·obtain⟨w2,j,e,d,m⟩:=l.drop h 0;refine⟨w2,λty=>j,⟨c.1,c.2.1.kept (d.block bp.b (c.lt bp.b (aj rfl)).2 (i mb rfl)),ak ⟨mb,rfl,e⟩⟩,d.mono λb _ a=>by rw[a],m⟩
theorem fi.some(c:fi base bp mo n g w){k:aY}(b:g k=true):mo≠none:=by
 rcases c.2.2 with⟨_,a⟩|⟨mb,a,_⟩
 ·rw[a]at b;cases b
 ·rw[a];simp
theorem sR(p:fi base bp mo n g w)(y:A1 g){x:Int}(A:dN x):ao 119 #[.pointer (some ⟨bp.b,bp.o,none⟩),ab x] w λe w'=>∃v,e=.returned v/\Hid (jf w.heap.size v (rm g x) w'/\fi base bp mo n (wo g [x]) w'/\bE (λb=>mo=some b) w w'):=by
 have G:∀b,mo=some b->b<w.heap.size:=λb e=>(p.lt b (ak e)).2;have D:∀(d:ar)(c h:Nat)(k:Int)(a:ag),(jf w.heap.size (.slice d (rm g x).length c) (rm g x) a/\fi base bp mo n (uh g x ((rm g x).take h)) a/\bE (λb=>mo=some b) w a)->(rm g x)[h]?=some k->∃m,(∀ty,(Builtin.delete_ #[70,44] ty #[.map mo,.agg #[ab (js x k).1,ab (js x k).2]]).run Tryz.prog a=.ok (.tuple #[]) m)/\(jf w.heap.size (.slice d (rm g x).length c) (rm g x) m/\fi base bp mo n (uh g x ((rm g x).take (h+1))) m/\bE (λb=>mo=some b) w m):=by
  rintro d c h k a ⟨j,f,s⟩ l;have F:=jJ.1 (aL l);have B:I2 (js x k):=Ao A (by unfold dN;omega);have E:uh g x ((rm g x).take h) (js x k)=true:=by
   refine Bu.2 ⟨F.2,λP I e=>?_⟩;rcases NL.1 e with⟨_,e⟩|⟨t,u⟩
   ·exact tR (px g x) l (e▸I)
   ·exact absurd (aL l) (by rw[u];exact Ch y x)
  obtain⟨K,H,i,z,O⟩:=f.drop B (f.some E);refine⟨K,H,bB j z λb i e=>?_,?_,bE.trans s z λb _ e=>e⟩
  ·have:=(j.lt b i).1;have:=G b e;omega
  ·rw[dF,l];rw[show (some k).toList=[k]from rfl,GZ];exact i
 refine(DH (rm g x) (rm g x).length bp mo x w (λd c h a=>jf w.heap.size (.slice d (rm g x).length c) (rm g x) a/\fi base bp mo n (uh g x ((rm g x).take h)) a/\bE (λb=>mo=some b) w a) (wi g x) rfl ?_ ?_ ?_ D).mono ?_
 ·refine(MR p A).mono ?_;rintro e w' ⟨v,rfl,q⟩;obtain⟨d,c,e,_⟩:=q.out.1.row;subst e;exact⟨d,c,rfl,q.1,p.later q.2,aR q.2 _⟩
 ·rintro d c h a ⟨j,f,_⟩;refine⟨f.cell.1,λJ k l=>?_⟩;obtain⟨L,M,e,C⟩:=j.row.cells;injection e with t u N;subst t;exact C J k l
 ·rintro d c h a m ⟨j,f,s⟩ i;exact⟨j.later i,f.later i,bE.trans s (aR i λ_=>False) λ_ _ p=>p.elim⟩
 ·rintro e w' ⟨d,c,rfl,r⟩;refine⟨_,rfl,r.1,?_,r.2.2⟩;have f:=r.2.1;rw[bD (av _),M3 y]at f;exact f
def gn(g:aY->Bool)(x:Int)(i:Nat)(l:List Int)(j:Nat):List Int:=dz g x i++Ag (dz g x i) (l.take j)
theorem qX{g:aY->Bool}{x:Int}{i:Nat}{l:List Int}(b:l.Nodup){j:Nat}{y:Int}(a:l[j]?=some y):gn g x i l (j+1)=gn g x i l j++if (gn g x i l j).contains y then []else [y]:=by
 unfold gn;rw[dF,a];rw[show (some y).toList=[y]from rfl,Ik _ _ _ (tR b a),lg]
theorem yY{g:aY->Bool}{x:Int}{i:Nat}{y:Int}(a:(dz g x i)[i]?=some y):gn g x i (rm (wo g (x::(dz g x i).take i)) y) (rm (wo g (x::(dz g x i).take i)) y).length=dz g x (i+1):=by
 rw[dz,a];unfold gn;rw[bD (av _)]
theorem L6{g:aY->Bool}(b:A1 g){x:Int}{i:Nat}{y:Int}(c:(dz g x i)[i]?=some y)(j:Nat):(gn g x i (rm (wo g (x::(dz g x i).take i)) y) j).length<=99:=by
 have a:=(jw b x (i+1)).le;rw[<-yY c]at a;refine aF ?_ a;unfold gn;rw[bz,bz];refine Nat.add_le_add_left ?_ _;rw[bD (av _)];exact(List.Sublist.filter _ (List.take_sublist j _)).length_le
theorem Oc{g:aY->Bool}{x:Int}{i:Nat}{y:Int}(a:(dz g x i)[i]?=some y):wo (wo g (x::(dz g x i).take i)) [y]=wo g (x::(dz g x (i+1)).take (i+1)):=by
 rw[Qn];have b:=(aZ.1 a).1;rw[dz,a];simp only;rw[iW (by omega),dF,a];rfl
end Go.Proofs.YtmmahddlcldmiaaGreat
