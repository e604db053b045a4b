/- What is proved here: plain facts and contracts that the claimed theorem stands on. No condition but those that each names. -/
import Derived.Test.YtnidfceinoiboaaGreatG25
namespace Go.Proofs.YtnidfceinoiboaaGreat
open Go.RowKit
open Go.RowKit Go.Maps
set_option maxRecDepth 100000
set_option maxHeartbeats 1000000
theorem qw{n:Nat}(s m:Tc):(l:List (Cl (n+1)))->(∀c∈l,lW c s m=none)->oh s m l=none
 | [],_=>rfl
 | c::l,h=>by
  simp only[oh,h c (by simp)];exact qw s m l λc a=>h c (bR _ a)
theorem uR{n:Nat}(s m:Tc):(l:List (Cl (n+1)))->(j:Nat)->(c:Cl (n+1))->(B:List Tc)->l[j]?=some c->lW c s m=some B->(∀d b,d<j->l[d]?=some b->lW b s m=none)->oh s m l=some (c,B)
 | [],j,c,B,h,_,_=>by simp at h
 | a::l,0,c,B,h,hB,_=>by
  simp only[cH,jW]at h;subst h;simp only[oh,hB]
 | a::l,j+1,c,B,h,hB,hn=>by
  simp only[oh,hn 0 a (by omega) rfl];exact uR s m l j c B (by simpa using h) hB λd b f e=>hn (d+1) b (by omega) (by simpa using e)
theorem yf{n:Nat}(l:List (Cl (n+1)))(s:Tc):(ms:List Tc)->(k:Nat)->(∀m∈ms,oh s m l=none)->uQ l s ms k=none
 | [],_,_=>rfl
 | m::ms,k,h=>by
  simp only[uQ,h m (by simp)];exact yf l s ms (k+1) λm a=>h m (bR _ a)
theorem yg{n:Nat}(l:List (Cl (n+1)))(s:Tc):(ms:List Tc)->(k i:Nat)->(m:Tc)->(x:Cl (n+1)×List Tc)->ms[i]?=some m->oh s m l=some x->(∀b c,b<i->ms[b]?=some c->oh s c l=none)->uQ l s ms k=some (k+i,x)
 | [],k,i,m,x,h,_,_=>by simp at h
 | a::ms,k,0,m,x,h,hx,_=>by
  simp only[cH,jW]at h;subst h;simp only[uQ,hx,iY]
 | a::ms,k,i+1,m,x,h,hx,hn=>by
  simp only[uQ,hn 0 a (by omega) rfl];rw[yg l s ms (k+1) i m x (by simpa using h) hx λb c e d=>hn (b+1) c (by omega) (by simpa using d)];congr 2;omega
def Mi{n:Nat}(l:List (Cl (n+1)))(s:Tc)(ms:List Tc)(w:World)(e:Ending)(w':World):Prop:=
 (uQ l s ms 0=none/\e=.returned (.tuple #[.agg Db.toArray,.bool false])/\Hid (Below w.heap.size w w'))\/
  ∃(d:Nat)(a:Tc)(c:Cl (n+1))(b g:Nat),e=.returned (.tuple #[.agg (AD d a c (some ⟨b,0,none⟩) 4 g).toArray,.bool true])/\Hid (∃f i j,uQ l s ms 0=some (d,c,f)/\c∈l/\ms[d]?=some (cn 13 a)/\bA 13 a=0/\Below w.heap.size w w'/\In w'.heap.size w' 13 a/\ch (λh=>w.heap.size<h/\h≠b) 13 a/\pn (i+1) j f (w.heap.size+1) w' b g)
theorem pn.kept{D:Nat}{l:List (Tm D)}{B:List Tc}{e:Nat}{w w':World}{c g q:Nat}(a:pn D l B e w c g)(d:bf (λb=>b=q) w w')(v:q<e):pn D l B e w' c g:=by
 obtain⟨k,f⟩:=a.new;have i:¬c=q:=by omega
 refine⟨a.bnd,a.tells,a.cap,⟨k,aL f d.size⟩,λo t n=>?_,λp=>?_⟩
 ·obtain⟨r,s,j⟩:=a.at' o t n;exact⟨r.kee d f i,s.kee d (j.mono λx m u=>by have:=m.1;omega),j⟩
 ·have h:=a.free p;unfold World.frozen? at h ⊢;rw[d.block c f i];exact h
theorem pn.mono{D:Nat}{l:List (Tm D)}{B:List Tc}{e f:Nat}{w:World}{h g:Nat}(a:pn D l B e w h g)(j:f<=e):pn D l B f w h g:=
 ⟨a.bnd,a.tells,a.cap,⟨by have:=a.new.1;omega,a.new.2⟩,λc d b=>⟨(a.at' c d b).1,(a.at' c d b).2.1,(a.at' c d b).2.2.mono λk i=>⟨by omega,i.2⟩⟩,a.free⟩
theorem AE{n bz ar:Nat}{name:ByteArray}{room:Int}{s:Tc}{ms:List Tc}{aW:Nat}{M:Nat->Prop}{w:World}{ws:List Wd}{nm:List ByteArray}{bD:Wd}{vs:List Wd}{ma:Option Addr}{bv:Nat}{Mh:Nat->Prop}(am:cd bz ar name room 13 s ms [] aW M w ws nm bD vs ma bv Mh)(l:List (Cl (n+1)))(aq:Option Addr)(aT B:Nat)(aM:oF B w 13 (ex (n+1)) (gj (n+1) B w) aq l)(aD:B<=w.heap.size)(bo:∀c∈l,Hz c)(aP:aW<=50000)(a8:ms.length<=1000)(bk:l.length<=1000000):Calls Tryz.prog 58 #[.pointer (some ⟨ar,0,none⟩),.slice aq l.length aT] w (Mi l (cn 13 s) (ms.map (cn 13)) w):=by
 have aJ:=am.front;have aS:=aJ.2.2.1 s (by simp);have aO:∀m∈ms,bA 13 m=0/\aF 13 m=true:=λm aj=>aJ.2.2.1 m (bR _ aj)
 refine(ye (N:=12) ar l aq l.length aT ms.length w (λa j=>match l[j]?,ms[a]? with
     | some c,some m=>(lW c (cn 13 s) (cn 13 m)).isSome
     | _,_=>false)
  (λF G u=>aw 13 F 13 s=true/\In u.heap.size u 13 F/\av (λp b=>aw 13 p 13 b) G ms=true/\Below w.heap.size w u/\∀e∈G,In u.heap.size u 13 e/\ch (λU=>w.heap.size<U) 13 e)
  (λa j p len I r a4=>∃c m h q E v,l[j]?=some c/\ms[a]?=some m/\lW c (cn 13 s) (cn 13 m)=some h/\p=some ⟨v,0,none⟩/\len=4/\pn (q+1) E h r.heap.size a4 v I) bk (by omega) rfl ?_ ?_ ?_).mono ?_
 ·intro a c z;rcases aM with g|⟨b,o,g,aG,d⟩
  ·rw[g]at z;simp at z
  ·exact⟨b,o,g,by omega,(d a c z).1⟩
 ·intro r i bl;refine((am.later (N:=12) i).state (N:=12) aP).mono ?_;rintro g bQ ⟨e,rfl,a2⟩;obtain⟨y1,y2,a0,bG⟩:=a2.out;refine⟨e,rfl,y1,λY L=>?_⟩;have y:=i.trans (y1.mono i.size);have t:=y.trans (L.mono y.size);refine((am.later (N:=12) t).mails (N:=12) aP a8).mono ?_;rintro g bF ⟨G,a3,p,c,rfl,a1⟩;obtain⟨aU,T,aV⟩:=a1.out;have a9:a3=ms.length:=by rw[<-aU];exact cV _ _ _ aV
  subst a9;have O:Below Y.heap.size Y bF:=T.1;have bO:=i.size;have aQ:=y1.size;have aR:=L.size;obtain⟨bK,Z,J,aB,aa,_⟩:=eN.lay (dM 13) (f:=gq 13) (λ_=>rfl) T;injection J with J bL bM;subst J;refine⟨p,c,G,rfl,aU,O,λa X C=>?_,bG,((y2.below L).mono L.size |>.below O).mono O.size,aV,t.trans (O.mono t.size),λX C=>⟨(T.2.2 X C).1,(T.2.2 X C).2.mono λU S=>?_⟩⟩
  ·rcases aa with aa|⟨a7,o,a6,P,d⟩
   ·rw[aa]at C;simp at C
   ·exact⟨a7,o,a6,P,(d a X C).1⟩
  ·rcases S.1 with bJ|bJ
   ·omega
   ·omega
 ·rintro F G u r a j e c ⟨V,aZ,W,ax,az⟩ i A d;have bq:=ay A;have bj:a<ms.length:=by
   have:=(aK.1 A).1;rw[cV _ _ _ W]at this;exact this
  have al:ms[a]?=some ms[a]:=aA bj;have D:=ku _ _ _ W a e ms[a] A al;have R:=aO ms[a] (iS _);have bf:=ay d;obtain⟨bw,bx,_⟩:=bo c bf;have bd:gj (n+1) B w c:=by
   rcases aM with g|⟨b,o,g,aG,bc⟩
   ·rw[g]at d;simp at d
   ·exact(bc j c d).2
  have aI:=ax.trans (i.mono ax.size);have bb:gj (n+1) r.heap.size r c:=(dW (n+1)).mono (au aD aI.size) ((dW (n+1)).below (aI.mono aD) bd);have bh:=D8 c (n:=n) (m:=12) (k:=12) F e r.heap.size r bb ((aZ.below i).mono i.size) (((az e bq).1.below i).mono i.size) (ag _) bw bx ((bI V).trans aS.1) ((cw _ _ _ _ V).trans aS.2) ((bI D).trans R.1) ((cw _ _ _ _ D).trans R.2);refine bh.mono ?_;rintro g bE ⟨p,len,I,bC,rfl,H⟩;obtain⟨ab,x,aC⟩:=H.out;have J:cn (12+1) F=cn 13 s:=gw V;have aB:cn (12+1) e=cn 13 ms[a]:=gw D;rw[J,aB]at x aC
  have ad:(match l[j]?,ms[a]? with
   | some c,some m=>(lW c (cn 13 s) (cn 13 m)).isSome
   | _,_=>false)=bC:=by
   rw[d,al];exact x.symm
  refine⟨p,len,I,by rw[ad],ab,λP=>?_⟩;rw[ad]at P;rw[P]at x;obtain⟨h,aE⟩:=fL.1 x.symm;obtain⟨bs,q,E,v,bt,ao⟩:=aC h aE;cases q with
  | zero=>
   have bN:=(gu ao.bnd).1;exact((ao.at' 0 (E[0]'(by omega)) (aA _)).2.1).elim
  | succ q=>exact⟨c,ms[a],h,q,E,v,d,al,aE,bt,bs,ao⟩
 ·rintro g bE (⟨rfl,H⟩|⟨a,j,e,c,p,len,I,rfl,H⟩)
  ·obtain⟨ab,x⟩:=H.out;refine ae ⟨yf l _ _ 0 λm aj=>qw _ _ l λc d=>?_,rfl,x⟩;obtain⟨bu,ak,rfl⟩:=cC.1 aj;obtain⟨a,z,rfl⟩:=List.mem_iff_getElem.1 ak;obtain⟨j,aL,rfl⟩:=List.mem_iff_getElem.1 d;have:=ab a j z aL;simp only[aA z,aA aL]at this;exact jT.1 (by rw[<-jV,this];rfl)
  ·obtain⟨F,G,u,Y,a5,⟨V,aZ,W,ax,az⟩,A,d,ad,bm,bn,aH,y,t,⟨Z,m,h,q,E,v,aX,K,bB,rfl,rfl,aY⟩,ai,bl⟩:=H.out;rw[d]at aX;obtain rfl:=ap aX;have D:=ku _ _ _ W a e m A K;have R:=aO m (ay K);have bg:cn 13 e=cn 13 m:=gw D;have bp:=aH.size;have aQ:=y.size;have aR:=t.size;obtain⟨y1,y2⟩:=az e (ay A);have bH:=In.offB y2 y1;have ba:Below w.heap.size w a5:=(aH.trans (y.mono bp)).trans (t.mono (by omega));refine af ⟨a,e,c,v,I,rfl,h,q,E,?_,ay d,?_,(bI D).trans R.1,ba.trans (ai.below (by omega) λb aG g=>by omega),?_,bH.mono λU S=>⟨S.1,λg=>?_⟩,(aY.kept ai (by omega)).mono (by omega)⟩
   ·have be:oh (cn 13 s) (cn 13 m) l=some (c,h):=uR _ _ l j c h d bB λan Z Q ah=>by
      have:=bn an Q;simp only[ah,K]at this;exact jT.1 (by rw[<-jV,this];rfl)
    have:=yg l (cn 13 s) (ms.map (cn 13)) 0 a (cn 13 m) (c,h) (by rw[dh,K];rfl) be λbr bP bi aN=>by
     rw[dh]at aN;obtain⟨bu,ak,rfl⟩:=cD.1 aN;refine qw _ _ l λZ ah=>?_;obtain⟨an,Q,rfl⟩:=List.mem_iff_getElem.1 ah;have:=bm br an bi Q;simp only[aA Q,ak]at this;exact jT.1 (by rw[<-jV,this];rfl)
    rw[this,cU]
   ·rw[dh,K,bg];rfl
   ·have a0:=((y1.below y).mono aQ |>.below t).mono aR;exact a0.kee ai (y2.mono λU S g=>by omega)
   ·have:=aY.new.1;omega
def rH:List Value:=[.int .i64 0,.int .i64 0]
theorem tT(w:World)(ty:TypeId)(g o c:Nat)(a:Array Value)(e:w.heap[g]?=some (.cells a 125 (0,0)))(d:o+2<=a.size):(Builtin.clear_ #[116] ty #[.slice (some ⟨g,o,none⟩) 1 c]).run Tryz.prog w=.ok (.tuple #[]) (w.setRow g (a.toList.take o++rH++a.toList.drop (o+2)).toArray):=by
 have b:=oe Tryz.prog g o 125 rH 0 a w e (by simpa [rH]using d) (by simp[rH,Value.oneCell']);have h:(Builtin.zeroCells (Value.agg #[.int .i64 0,.int .i64 0]).cells 1).toList=rH:=by
  simp[Builtin.zeroCells,Value.cells,rH];rfl
 simp only[iY]at b;have f:rH.length=2:=rfl;rw[f]at b;simp[Builtin.clear_,bV Tryz.underlying116,h,b]
theorem ER(w:World)(g a L c i:Nat)(f:L<=c)(h:i+1<=L):(Instr.slice 116 (.slice (some ⟨g,a,none⟩) L c) (some (.int .i64 i)) (some (.int .i64 ((i:Int)+1))) (some (.int .i64 L))).run Tryz.prog w=.ok (.slice (some ⟨g,a+i*2,none⟩) 1 (L-i)) w:=by
 have b:(i:Int)+1<=(L:Int):=by omega
 have d:¬L=i:=by omega
 have e:(0:Int)<=(i:Int)+1:=by omega
 simp[Instr.slice,bV Tryz.underlying116,Instr.sliceBounds,Instr.sliceBound,asIntOf,b,d,e,f,go_sem,eE]
theorem xH(w:World)(g a L c i:Nat)(d:i<=c):(Instr.slice 116 (.slice (some ⟨g,a,none⟩) L c) none (some (.int .i64 i)) none).run Tryz.prog w=.ok (.slice (some ⟨g,a,none⟩) i c) w:=by
 have b:¬c<i:=by omega
 simp[Instr.slice,bV Tryz.underlying116,Instr.sliceBounds,Instr.sliceBound,asIntOf,b,go_sem]
theorem Am(w:World)(g a L c i:Nat)(h:i+1<=L):(Instr.slice 116 (.slice (some ⟨g,a,none⟩) L c) (some (.int .i64 ((i:Int)+1))) none none).run Tryz.prog w=.ok (.slice (some (if c=i+1 then ⟨g,a,none⟩else ⟨g,a+(i+1)*2,none⟩)) (L-(i+1)) (c-(i+1))) w:=by
 have b:(i:Int)+1<=(L:Int):=by omega
 have e:(0:Int)<=(i:Int)+1:=by omega
 have f:((i:Int)+1).toNat=i+1:=by omega
 by_cases d:c=i+1
 ·simp[Instr.slice,bV Tryz.underlying116,Instr.sliceBounds,Instr.sliceBound,asIntOf,b,d,e,f,go_sem,eE]
 ·simp[Instr.slice,bV Tryz.underlying116,Instr.sliceBounds,Instr.sliceBound,asIntOf,b,d,e,f,go_sem,eE]
theorem Al(w:World)(g a m c:Nat)(f:m+1<=c):(Instr.slice 116 (.slice (some ⟨g,a,none⟩) m c) (some (.int .i64 m)) (some (.int .i64 ((m:Int)+1))) none).run Tryz.prog w=.ok (.slice (some ⟨g,a+m*2,none⟩) 1 (c-m)) w:=by
 have b:¬c=m:=by omega
 have d:(m:Int)+1<=(c:Int):=by omega
 have e:(0:Int)<=(m:Int)+1:=by omega
 simp[Instr.slice,bV Tryz.underlying116,Instr.sliceBounds,Instr.sliceBound,asIntOf,b,d,e,go_sem,eE]
theorem uE{w w':World}{v x' c:Value}{b:Array Oper}{o:Oper}{a:Act}{K:Act->World->Prop}{Q:Exit->Act->World->Prop}{E:Prop}(e:o.guard=none)(s x:Operand)(f:o.op=.call {callee:=.builtin .append,args:= #[s,x],argTypes:= #[116,116]})(h:a.eval s=v)(j:a.eval x=x')(g:(Builtin.append_ #[116,116] o.type #[v,x']).run Tryz.prog w=.ok c w')(d:K (a.put o.dst c) w'):if Region.wanted o (yielded b a.tmps)=true then Oper.wp Tryz.prog o a w K Q else E:=by
 have i:Region.wanted o (yielded b a.tmps)=true:=by simp[Region.wanted,e]
 rw[if_pos i];unfold Oper.wp execOp;simp only[f,resolve,invoke,builtin,Sem.run_bind,Sem.run_pure,lP,lK,aH,bQ,h,j,g];exact d
theorem yt(g b a i L:Nat)(w:World)(d:Addr)(c f:List Value)(_hL:L<=a)(_hi:i+1<=L)(_hm:L<=1000000)(k:Hid (∀W,(Instr.slice 116 (.slice (some ⟨g,b,none⟩) L a) (some (.int .i64 i)) (some (.int .i64 ((i:Int)+1))) (some (.int .i64 L))).run Tryz.prog W=.ok (.slice (some ⟨g,b+i*2,none⟩) 1 (L-i)) W))(l:Hid (∀W,(Instr.slice 116 (.slice (some ⟨g,b,none⟩) L a) none (some (.int .i64 i)) none).run Tryz.prog W=.ok (.slice (some ⟨g,b,none⟩) i a) W))(m:Hid (∀W,(Instr.slice 116 (.slice (some ⟨g,b,none⟩) L a) (some (.int .i64 ((i:Int)+1))) none none).run Tryz.prog W=.ok (.slice (some d) (L-(i+1)) (a-(i+1))) W))(h:Hid (∀ty,(Builtin.append_ #[116,116] ty #[.slice (some ⟨g,b,none⟩) i a,.slice (some d) (L-(i+1)) (a-(i+1))]).run Tryz.prog w.drew=.ok (.slice (some ⟨g,b,none⟩) (L-1:Nat) a) (w.drew.setRow g c.toArray)))(n:Hid (∀W,(Instr.slice 116 (.slice (some ⟨g,b,none⟩) (L-1:Nat) a) (some (.int .i64 (L-1:Nat))) (some (.int .i64 L)) none).run Tryz.prog W=.ok (.slice (some ⟨g,b+(L-1)*2,none⟩) 1 (a-(L-1))) W))(j:Hid (∀ty,(Builtin.clear_ #[116] ty #[.slice (some ⟨g,b+(L-1)*2,none⟩) 1 (a-(L-1))]).run Tryz.prog (w.drew.setRow g c.toArray)=.ok (.tuple #[]) ((w.drew.setRow g c.toArray).setRow g f.toArray))):Calls Tryz.prog 60 #[.slice (some ⟨g,b,none⟩) L a,.int .i64 i,.int .i64 ((i:Int)+1)] w λe w'=>e=.returned (.slice (some ⟨g,b,none⟩) (L-1:Nat) a)/\w'=(w.drew.setRow g c.toArray).setRow g f.toArray:=by
 have u:=k.out;have v:=l.out;have x:=m.out;have s:=n.out;have r:=j.out;have o:=h.out 116;clear k l m n j h;have t:¬(i:Int)=(i:Int)+1:=by omega
 obtain⟨q,p⟩:∃q:Nat,q=L-1:=⟨_,rfl⟩;rw[<-p]at s o r ⊢;clear p;go_enter Tryz.func60,Tryz.ntmps60;go_wp2_with fail;go_region_held3 (λ_=>True) (trivial) ((first|(refine uE rfl _ _ rfl (by simp[Act.eval]) (by simp[Act.eval]) o ?_)));go_wp2_with fail
 go_ret
 exact⟨rfl,rfl⟩
theorem ww(g a d i:Nat)(vs:List Wd)(c:Array Value)(w:World)(R:i<vs.length)(u:w.heap[g]?=some (.cells c 125 (0,0)))(B:vs.length<=d)(M:vs.length<=1000000)(S:a+d*2<=c.size)(D:(c.toList.drop a).take (vs.length*2)=aP vs):Calls Tryz.prog 60 #[.slice (some ⟨g,a,none⟩) vs.length d,.int .i64 i,.int .i64 ((i:Int)+1)] w λe w'=>e=.returned (.slice (some ⟨g,a,none⟩) (vs.length-1:Nat) d)/\Hid (bf (λb=>b=g) w w'/\w'.heap.size=w.heap.size/\∃p,w'.heap[g]?=some (.cells p 125 (0,0))/\p.size=c.size/\(p.toList.drop a).take ((vs.length-1)*2)=aP (vs.eraseIdx i)):=by
 obtain⟨Q,K,T,x,U⟩:=bM kj;have v:c.toList.length=c.size:=gG;obtain⟨k,n⟩:∃k,k=aP (vs.drop (i+1)):=⟨_,rfl⟩;have t:k.length=(vs.length-(i+1))*2:=by rw[n,bY,eG]
 have H:∀f l,k[f]?=some l->c.toList[a+(i+1)*2+f]?=some l:=λf l m=>by
  have L:=(aK.1 m).1;have y:(aP vs)[(i+1)*2+f]?=some l:=by
   rw[<-m,n];have:=rF vs (i+1) (vs.length-(i+1)) f (by omega);rw[bk (by simp)]at this;exact this.symm
  rw[<-D,jP,if_pos (by omega),jO]at y;rw[show a+(i+1)*2+f=a+((i+1)*2+f) by omega];exact y
 have N:∀h:World,h.heap[g]?=some (.cells c 125 (0,0))->∀f l,k[f]?=some l->h.cell? ((if d=i+1 then (⟨g,a,none⟩:Addr)else ⟨g,a+(i+1)*2,none⟩).add f)=some l:=λh I f l m=>by
  have L:=(aK.1 m).1;by_cases G:d=i+1
  ·omega
  ·rw[if_neg G,eE,ab I];exact H f l m
 have o:=λty:TypeId=>mX (P:=Tryz.prog) w.drew 116 ty 125 Q Tryz.underlying116 K g a i d c u (if d=i+1 then (⟨g,a,none⟩:Addr)else ⟨g,a+(i+1)*2,none⟩) (vs.length-(i+1)) (d-(i+1)) k (by rw[t,x]) (N w.drew u) (by rw[n];exact ph _) (by omega) (by rw[x,t];omega);simp only[x]at o;rw[show i+(vs.length-(i+1))=vs.length-1 by omega]at o;obtain⟨j,r⟩:∃j,j=c.toList.take (a+i*2)++k++c.toList.drop (a+i*2+k.length):=⟨_,rfl⟩;rw[<-r]at o;have s:j.length=c.size:=by
  rw[r];simp only[aX,dn,eG,v];omega
 have A:(w.drew.setRow g j.toArray).heap[g]?=some (.cells j.toArray 125 (0,0)):=setRow_heap w.drew g c _ _ _ u;have J:=λty:TypeId=>tT (w.drew.setRow g j.toArray) ty g (a+(vs.length-1)*2) (d-(vs.length-1)) j.toArray A (by simp only[eQ,s];omega);have z:=λh=>Al h g a (vs.length-1) d (by omega);rw[show (((vs.length-1:Nat):Int)+1)=(vs.length:Int) by omega]at z;refine(yt g a d i vs.length w _ j _ B (by omega) M (λh=>ER h g a vs.length d i B (by omega)) (λh=>xH h g a vs.length d i (by omega)) (λh=>Am h g a vs.length d i (by omega)) o z J).mono ?_;rintro e w' ⟨rfl,rfl⟩;refine⟨rfl,⟨rfl,rfl,rfl,by simp,λb _ C=>(setRow_other _ _ _ _ C).trans (setRow_other _ _ _ _ C)⟩,by simp,_,setRow_heap _ _ _ _ _ _ A,?_,?_⟩
 ·have O:rH.length=2:=rfl;simp only[eQ,aX,dn,eG,s,O];omega
 ·have q:(j.take (a+(vs.length-1)*2)).length=a+(vs.length-1)*2:=by rw[dn,s];omega
  rw[lJ,nQ (by rw[q];omega),iX (by rw[eG,q];omega),bk (by rw[eG,q];omega)];have E:j.take (a+(vs.length-1)*2)=c.toList.take (a+i*2)++k:=by
   rw[r];exact List.take_left' (by rw[aX,dn,t,v];omega)
  rw[E,nQ (by rw[dn,v];omega),List.drop_take];have F:(c.toList.drop a).take (i*2)=aP (vs.take i):=by
   have:=congrArg (List.take (i*2)) D;rw[List.take_take,Nat.min_eq_left (by omega)]at this;rw[this]
   conv=>lhs;rw[<-im i vs,oB]
   exact List.take_left' (by rw[bY,dn];omega)
  rw[show a+i*2-a=i*2 by omega,F,n,<-oB,qY]
end Go.Proofs.YtnidfceinoiboaaGreat
