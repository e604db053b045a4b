/- What is proved here: plain facts and contracts that the claimed theorem stands on. No condition but those that each names. -/
import Derived.Test.YtckamaoibonjcaaGreatH15
namespace Go.Proofs.YtckamaoibonjcaaGreat
open Go.RowKit
set_option maxHeartbeats 1000000
set_option maxRecDepth 100000
def ui(L:Nat)(i:Int):Bool:=decide (0<=i) && decide (i<L)
theorem KV(c:ci)(room:Int)(tv:Value)(g:Option Addr)(L h:Nat)(mv:Value)(i:Int)(w:World)(d:Hid (HB c room tv (.slice g L h) mv w)):ak 131 #[.pointer (some ⟨c.b,c.o+2,none⟩),ab i] w λe w'=>e=.returned (.bool (ui L i))/\w'=w:=by
 obtain⟨⟨j,k,l,m⟩,n⟩:=d.out.cells;by_cases a:0<=i
 ·have HB:Hid (ui L i=decide (i<L)):=by simp[Hid,ui,a]
  have f:decide (0<=i)=true:=by simpa using a
  go_enter Tryz.func131,Tryz.ntmps131;go_wp2_with fail
  go_ret
  exact⟨eG HB.out.symm,rfl⟩
 ·have HB:Hid (ui L i=false):=by simp[Hid,ui,a]
  have f:decide (0<=i)=false:=by simpa using a
  go_enter Tryz.func131,Tryz.ntmps131;go_wp2_with fail
  go_ret
  exact⟨eG HB.out.symm,rfl⟩
theorem Na(l:List ByteArray)(k:Nat)(s:ByteArray)(a:l[k]?=some s):(fD l)[k]?=some (ae s):=by simp[fD,a]
theorem CH(base:Nat)(a:ci)(room:Int)(tv lv mv:Value)(nm:List ByteArray)(i:Nat)(s:ByteArray)(w:World)(h:Hid (HB a room tv lv mv w))(d:Hid (w.ownsRow base 9 1 lv nm.length (fD nm)))(f:Hid (nm[i]?=some s))(r:nm.length<=100000)(l:s.size<=2048):ak 133 #[.pointer (some ⟨a.b,a.o+2,none⟩),ab i] w λe w'=>e=.returned (ae s)/\ai w w':=by
 have x:i<nm.length:=(aM.1 f.out).1;obtain⟨g,c,rfl,_,_⟩:=d.out.form (by omega);have z:w.cell? ⟨g,i,none⟩=some (ae s):=by
  have:=d.out.cells (g:=g) rfl i (ae s) (Na nm i s f.out);rw[eV]at this;exact this
 obtain⟨⟨m,n,p,q⟩,t⟩:=h.out.cells;generalize nm.length=j at*;have u:(0:Int)<=(i:Int):=by omega
 have v:(i:Int)<(j:Int):=by omega
 go_enter Tryz.func133,Tryz.ntmps133;go_wp2_with fail;refine(dF s _ l).mono ?_;rintro e y ⟨rfl,k⟩;go_wp2_with fail
 go_ret
 exact⟨rfl,k⟩
theorem Aj(a:ci)(room n:Int)(d:Option Addr)(L f:Nat)(lv mv:Value)(w:World)(k:L<=100000)(p:0<=room)(m:room<=1000)(c:Hid (HB a room (.slice d L f) lv mv w)):ak 97 #[.pointer (some ⟨a.b,a.o,none⟩),ab n] w λe w'=>e=.returned (.bool (decide (n<=room-L)))/\ai w w':=by
 obtain⟨⟨g,h,i,j⟩,l⟩:=c.out.cells;go_enter Tryz.func97,Tryz.ntmps97;go_wp2_with fail
 go_quiet (fail)
 go_wp2_with fail
 go_ret
 exact⟨rfl,⟨rfl,rfl,rfl,aj _,λ_ _=>rfl⟩⟩
theorem sG(ws:List Wd)(k n j:Nat)(g:j<n*2):(aU ((ws.drop k).take n))[j]?=(aU ws)[k*2+j]? :=by
 by_cases f:k+j / 2<ws.length
 ·obtain⟨a,b⟩:∃a,ws[k+j / 2]?=some a:=⟨_,aE f⟩;have e:((ws.drop k).take n)[j / 2]?=some a:=by
   rw[rW (by omega),jX];exact b
  have c:j=j / 2*2+j % 2:=by omega
  have d:k*2+j=(k+j / 2)*2+j % 2:=by omega
  rw[d,iE ws (k+j / 2) a b (j % 2) (by omega)]
  conv=>lhs;rw[c]
  rw[iE _ (j / 2) a e (j % 2) (by omega)]
 ·rw[eg (l:=aU ws) (by rw[co];omega),eg (by rw[co,dw,eK];omega)]
def Km(ws:List Wd)(k n g:Nat)(w:World)(e:Ending)(w':World):Prop:=w'=w/\∃pa pc,e=.returned (.slice (some pa) n pc)/\pa.block=g/\eQ w ((ws.drop (k+1)).take n) (some pa)/\∃o,pa=⟨g,o,none⟩
theorem Lt{base g L c:Nat}{xs:List Value}{ty:TypeId}{sz:Nat}{w:World}(a:w.ownsRow base ty sz (.slice (some ⟨g,0,none⟩) L c) L xs):L<=c/\c<=maxLen:=by
 rcases a.2 with⟨a,_⟩|⟨f,cap,e,a,_,_,b,d,_⟩
 ·simp at a
 ·injection a with _ _ a;subst a;exact⟨b,d⟩
theorem wF(base:Nat)(g L b k n:Nat)(ws:List Wd)(w:World)(r:L<=100000)(c:Hid (w.ownsRow base 105 2 (.slice (some ⟨g,0,none⟩) L b) L (aU ws)))(p:Hid (ws[k]?=some (0,(n:Int))))(s:k+1+n<=L):ak 135 #[.slice (some ⟨g,0,none⟩) L b,ab k] w (Km ws k n g w):=by
 obtain⟨v,x⟩:=iG c.out k _ p.out;obtain⟨u,f⟩:=Lt c.out;have e:Hid (∀o,(n=0\/o=(k+1)*2)->eQ w ((ws.drop (k+1)).take n) (some ⟨g,o,none⟩)):=by
  rintro o (rfl|rfl)
  ·exact ag (by simp)
  ·refine ah ⟨_,rfl,λa q d=>?_⟩;have l:a<n*2:=by
    have:=(aM.1 d).1;rw[co,dw]at this;omega
   rw[sG ws (k+1) n a l]at d;have:=c.out.cells (g:=g) rfl _ q d;rw[eV]at this;have h:(⟨g,(k+1)*2,none⟩:Addr).add a=⟨g,(k+1)*2+a,none⟩:=by
    unfold Addr.add;by_cases i:a=0<;>simp[i]
   rw[h];exact this
 have t:(b:Int)<=9223372036854775807:=by unfold maxLen at f;omega
 clear f;by_cases j:b=k+1
 ·subst j;have m:n=0:=by omega
  subst m;go_enter Tryz.func135,Tryz.ntmps135;go_wp2_with fail
  go_ret
  exact⟨rfl,_,_,rfl,rfl,e.out _ (by simp),_,rfl⟩
 ·go_enter Tryz.func135,Tryz.ntmps135;go_wp2_with fail
  go_ret
  exact⟨rfl,_,_,rfl,rfl,e.out _ (ah rfl),_,rfl⟩
def NO(s t:ByteArray):Bool:=t.data==s.data
theorem nZ(s t:ByteArray):NO s t=true ↔ t=s:=by
 cases s;cases t;simp[NO]
def ew(nm:List ByteArray)(s:ByteArray):List ByteArray:=if nm.any (NO s)then nm else nm++ [s]
def kF(nm:List ByteArray)(s:ByteArray):Nat:=nm.findIdx (NO s)
theorem yj(nm:List ByteArray)(s:ByteArray):nm.any (NO s)=true ↔ s∈nm:=by
 rw[List.any_eq_true];constructor
 ·rintro ⟨t,c,a⟩;rw[nZ]at a;exact a▸c
 ·exact λb=>⟨s,b,(nZ s s).2 rfl⟩
theorem AE{nm:List ByteArray}{s:ByteArray}(e:nm.Nodup){i:Nat}(b:nm[i]?=some s):kF nm s=i:=by
 have f:=(aM.1 b).1;have a:kF nm s<nm.length:=by
  unfold kF;rw[List.findIdx_lt_length];exact⟨s,aG b,(nZ s s).2 rfl⟩
 have d:nm[kF nm s]'a=s:=(nZ s _).1 (List.findIdx_getElem (w:=a));have c:nm[kF nm s]?=nm[i]? :=by rw[b,aE a,d]
 exact(List.getElem?_inj a e).1 c
def bF{a:Type}(f:a->List Wd->List ByteArray->Wd×List Wd×List ByteArray):List a->List Wd->List ByteArray->List Wd×List Wd×List ByteArray
 | [],ws,nm=>([],ws,nm)
 | y::l,ws,nm=>((f y ws nm).1::(bF f l (f y ws nm).2.1 (f y ws nm).2.2).1,(bF f l (f y ws nm).2.1 (f y ws nm).2.2).2)
def aS:(n:Nat)->Tm n->List Wd->List ByteArray->Wd×List Wd×List ByteArray
 | 0,_,ws,nm=>((0,0),ws,nm)
 | n+1,x,ws,nm=>
  if x.1.1=2 then ((2,(kF (ew nm x.1.2.2) x.1.2.2:Int)),ws,ew nm x.1.2.2)
  else if x.1.1=4 then
   ((4,((bF (aS n) x.2.2 ws nm).2.1.length:Int)),(bF (aS n) x.2.2 ws nm).2.1++(0,(x.2.2.length:Int))::(bF (aS n) x.2.2 ws nm).1,(bF (aS n) x.2.2 ws nm).2.2)
  else ((x.1.1,x.1.2.1),ws,nm)
theorem FD{a:Type}(f:a->List Wd->List ByteArray->Wd×List Wd×List ByteArray)(l:List a)(y:a)(ws:List Wd)(nm:List ByteArray):bF f (l++ [y]) ws nm=((bF f l ws nm).1++ [(f y (bF f l ws nm).2.1 (bF f l ws nm).2.2).1],(f y (bF f l ws nm).2.1 (bF f l ws nm).2.2).2):=by
 induction l generalizing ws nm with
 | nil=>simp[bF]
 | cons b l ih=>simp[bF,ih]
theorem gD{a:Type}(f:a->List Wd->List ByteArray->Wd×List Wd×List ByteArray)(l:List a)(ws:List Wd)(nm:List ByteArray):(bF f l ws nm).1.length=l.length:=by
 induction l generalizing ws nm with
 | nil=>simp[bF]
 | cons b l ih=>simp[bF,ih]
theorem yh(nm:List ByteArray)(s:ByteArray):(ew nm s).length<=nm.length+1:=by
 unfold ew;split<;>simp
theorem iq:(n:Nat)->(x:Tm n)->(ws:List Wd)->(nm:List ByteArray)->((aS n x ws nm).2.1.length:Int)=ws.length+sz n x/\(aS n x ws nm).2.2.length<=nm.length+(av n x).length
 | 0,_,_,_=>by simp[aS,sz]
 | n+1,x,ws,nm=>by
  have key:∀(l:List (Tm n))(ws:List Wd)(nm:List ByteArray),((bF (aS n) l ws nm).2.1.length:Int)+l.length=ws.length+(l.map λy=>1+sz n y).sum/\(bF (aS n) l ws nm).2.2.length<=nm.length+(l.flatMap λy=>av n y).length:=by
   intro l
   induction l with
   | nil=>intro ws nm;simp[bF]
   | cons y l ih=>
    intro ws nm;obtain⟨e,f⟩:=iq n y ws nm;obtain⟨g,h⟩:=ih (aS n y ws nm).2.1 (aS n y ws nm).2.2;simp only[bF,aI,bC,bv,bf,aZ];exact⟨by omega,by omega⟩
  obtain⟨i,j⟩:=key x.2.2 ws nm;have k:=yh nm x.1.2.2;have c:=gD (aS n) x.2.2 ws nm;have d:(av (n+1) x).length=1+(x.2.2.flatMap λy=>av n y).length:=by simp[av];omega
  rw[d];by_cases b:x.1.1=2
  ·have a:¬x.1.1=4:=by omega
   simp only[aS,sz,if_pos b,if_neg a];exact⟨by omega,by omega⟩
  ·by_cases a:x.1.1=4
   ·simp only[aS,sz,if_neg b,if_pos a,bf,aZ,c];exact⟨by omega,by omega⟩
   ·simp only[aS,sz,if_neg b,if_neg a];exact⟨by omega,by omega⟩
def dy(base:Nat)(e:ci)(room:Int)(ws:List Wd)(nm:List ByteArray)(M:Nat->Prop)(w:World):Prop:=
 ∃d a c,HB e room d a c w/\w.ownsRow base 105 2 d ws.length (aU ws)/\jy base nm a c w/\M e.b/\(∀b,d.ownBlock=some b->M b)/\(∀b,a.ownBlock=some b->M b)/\∀b,mapBlock c=some b->M b
theorem dK{base:Nat}{e:TypeId}{sz:Nat}{v:Value}{n:Nat}{xs:List Value}{w w':World}{S:Nat->Prop}(c:w.ownsRow base e sz v n xs)(k:bO S w w')(h:∀b,v.ownBlock=some b->¬S b):w'.ownsRow base e sz v n xs:=by
 refine⟨c.1,?_⟩;rcases c.2 with⟨e,g⟩|⟨a,cap,f,e,i,d,j⟩
 ·exact ag ⟨e,g⟩
 ·exact ah ⟨a,cap,f,e,i,(k.block a (aC.1 d).1 (h a (by rw[e];rfl))).trans d,j⟩
theorem dy.kept{base:Nat}{d:ci}{room:Int}{ws:List Wd}{nm:List ByteArray}{M S:Nat->Prop}{w w':World}(m:dy base d room ws nm M w)(k:bO S w w')(c:∀b,M b->b<w.heap.size->¬S b):dy base d room ws nm M w':=by
 obtain⟨q,o,p,e,g,f,h,i,j,l⟩:=m;refine⟨q,o,p,e.kept (k.block d.b e.lt (c d.b h e.lt)),dK g k λb a=>c b (i b a) (g.lt b a).2,?_,h,i,j,l⟩;refine f.kept k (λb a=>c b (j b a) (f.1.lt b a).2) λb a=>c b (l b a) ?_;rcases f.2.2 with⟨rfl,_⟩|⟨s,r,rfl,_,n,_⟩
 ·simp[mapBlock]at a
 ·simp only[mapBlock]at a;obtain rfl:=au a;exact n.lt
theorem dy.mono{base:Nat}{c:ci}{room:Int}{ws:List Wd}{nm:List ByteArray}{M S:Nat->Prop}{w:World}(d:dy base c room ws nm M w)(k:∀b,M b->S b):dy base c room ws nm S w:=by
 obtain⟨o,m,n,e,f,g,h,i,j,l⟩:=d;exact⟨o,m,n,e,f,g,k _ h,λb a=>k b (i b a),λb a=>k b (j b a),λb a=>k b (l b a)⟩
def lq(base:Nat)(a:ci)(room:Int)(ws:List Wd)(nm:List ByteArray)(M:Nat->Prop)(w w':World):Prop:=dy base a room ws nm (λb=>M b\/w.heap.size<=b) w'/\bO M w w'
theorem wP{w:World}{base h:Nat}{e f:TypeId}{s o n m:Nat}{v g:Value}{xs ys:List Value}(i:w.ownsRow base e s v n xs)(j:w.ownsRow h f o g m ys)(l:e≠f):∀b,v.ownBlock=some b->g.ownBlock≠some b:=by
 intro b c d;rcases i.2 with⟨rfl,_⟩|⟨t,cap,q,rfl,_,k,_⟩
 ·simp[Value.ownBlock]at c
 ·rcases j.2 with⟨rfl,_⟩|⟨u,p,r,rfl,_,a,_⟩
  ·simp[Value.ownBlock]at d
  ·simp only[Value.ownBlock]at c d;obtain rfl:=au c;obtain rfl:=au d;rw[k]at a;injection a with a;injection a with _ a;exact l a
theorem mN{w:World}{base:Nat}{e:TypeId}{s n:Nat}{v:Value}{xs:List Value}{c:ci}{room:Int}{tv lv mv:Value}(h:w.ownsRow base e s v n xs)(f:HB c room tv lv mv w)(g:e≠103/\e≠107):v.ownBlock≠some c.b:=λe=>by
 rcases h.2 with⟨rfl,_⟩|⟨k,cap,j,rfl,_,i,_⟩
 ·simp[Value.ownBlock]at e
 ·simp[Value.ownBlock]at e;subst e;have a:w.heap[c.b]?=_:=f.2;rw[i]at a;injection a with a;injection a with a d;rcases f.1.2 with t1|t1
  ·exact g.1 (d.trans t1)
  ·exact g.2 (d.trans t1)
theorem Es{w:World}{base:Nat}{e:TypeId}{s n:Nat}{v:Value}{xs:List Value}{nm:List ByteArray}{lv mv:Value}{f:Nat}(g:w.ownsRow base e s v n xs)(h:jy f nm lv mv w):∀b,v.ownBlock=some b->mapBlock mv≠some b:=by
 intro b a c;rcases g.2 with⟨rfl,_⟩|⟨o,cap,m,rfl,_,i,_⟩
 ·simp[Value.ownBlock]at a
 ·rcases h.2.2 with⟨rfl,_⟩|⟨p,k,rfl,_,j,_⟩
  ·simp[mapBlock]at c
  ·simp only[Value.ownBlock,mapBlock]at a c;obtain rfl:=au a;obtain rfl:=au c;obtain⟨es,l,d,_⟩:=j;rw[i]at d;cases d
theorem tp{w:World}{nm:List ByteArray}{lv mv:Value}{base:Nat}{a:ci}{room:Int}{tv i j:Value}(f:jy base nm lv mv w)(d:HB a room tv i j w):mapBlock mv≠some a.b:=λe=>by
 rcases f.2.2 with⟨rfl,_⟩|⟨l,D,rfl,_,h,_⟩
 ·simp[mapBlock]at e
 ·simp only[mapBlock]at e;obtain rfl:=au e;obtain⟨es,k,g,_⟩:=h;have c:w.heap[a.b]?=_:=d.2;rw[g]at c;cases c
theorem KY{nm b:List ByteArray}{s:ByteArray}{i:Nat}(f:b.Nodup)(e:b[i]?=some s)(a:b=nm\/b=nm++ [s]):b=ew nm s/\i=kF (ew nm s) s:=by
 have c:b=ew nm s:=by
  unfold ew;by_cases d:s∈nm
  ·rw[if_pos ((yj nm s).2 d)];rcases a with a|a
   ·exact a
   ·rw[a,eL]at f;exact absurd rfl (f.2.2 s d s (by simp))
  ·rw[if_neg (λc=>d ((yj nm s).1 c))];rcases a with a|a
   ·rw[a]at e;exact absurd (aG e) d
   ·exact a
 refine⟨c,?_⟩;rw[<-c];exact(AE f e).symm
theorem Lf(base:Nat)(a:ci)(room:Int)(ws:List Wd)(nm:List ByteArray)(M:Nat->Prop)(s:ByteArray)(w:World)(r:dy base a room ws nm M w)(v:base<=w.heap.size)(u:nm.length<=100000)(x:s.size<=2048):ak 129 #[.pointer (some ⟨a.b,a.o+2,none⟩),ae s] w λe w'=>e=.returned (ab (kF (ew nm s) s:Int))/\Hid (lq base a room ws (ew nm s) M w w'):=by
 obtain⟨m,D,F,g,c,f,h,t,i,j⟩:=r;refine(CK base a room m D F nm s w g f v u x).mono ?_;rintro e w' ⟨H,rfl,I,E,G,n⟩;obtain⟨y,z,A,k,l,B,C⟩:=n.out;obtain⟨p,q⟩:=KY k.2.1 y z;subst p;refine⟨by rw[q],⟨m,E,G,A,dK c l ?_,k,ag h,λb e=>ag (t b e),?_,?_⟩,l.mono ?_⟩
 ·rintro b e (rfl|d|d)
  ·exact mN c g (by decide) e
  ·exact wP c f.1 (by decide) b e d
  ·exact Es c f b e d
 ·intro b e;rcases B b e with e|e
  ·exact ag (i b e)
  ·exact ah e
 ·intro b e;rcases C b e with e|e
  ·exact ag (j b e)
  ·exact ah e
 ·rintro b (rfl|e|e)
  ·exact h
  ·exact i b e
  ·exact j b e
theorem Ot(base:Nat)(d:ci)(room:Int)(ws:List Wd)(nm:List ByteArray)(M:Nat->Prop)(ps:List Wd)(m pc:Nat)(pa:Option Addr)(w:World)(x:dy base d room ws nm M w)(C:base<=w.heap.size)(A:ws.length<=100000)(E:ps.length=m)(B:m<=1000)(t:∀w1,bO M w w1->eQ w1 ps pa):ak 130 #[.pointer (some ⟨d.b,d.o+1,none⟩),.slice pa m pc] w λe w'=>e=.returned (.agg #[ab 4,ab ws.length])/\Hid (lq base d room (ws++(0,(m:Int))::ps) nm M w w'):=by
 obtain⟨q,J,K,a,f,g,i,j,y,z⟩:=x;obtain⟨⟨L,u,N,O⟩,D⟩:=a.cells;obtain⟨l,n,F⟩:∃l n,q=.slice l ws.length n:=by
  rcases f.2 with⟨e,v⟩|⟨Q,c,P,e,_⟩
  ·exact⟨none,0,by rw[e,v]⟩
  ·exact⟨_,c,e⟩
 subst E;refine(zj base d.b (d.o+1) q l n ws.length ws ps ps.length pc pa w F rfl rfl A B C u (D _) a.lt (mN f a (by decide)) f ?_).mono ?_
 ·intro w1 k;refine t w1 (k.mono ?_);rintro b (rfl|e)
  ·exact i
  ·exact j b e
 ·rintro e w' ⟨rfl,r,s⟩;obtain⟨G,H,p,I⟩:=s.out;refine⟨rfl,⟨r,J,K,(a.set1 r).kept H,?_,g.kept p ?_ ?_,ag i,?_,λb e=>ag (y b e),λb e=>ag (z b e)⟩,p.mono ?_⟩
  ·have e:(ws++(0,(ps.length:Int))::ps).length=ws.length+1+ps.length:=by simp;omega
   rw[e];exact G
  ·rintro b e (rfl|h)
   ·exact mN g.1 a (by decide) e
   ·exact wP f g.1 (by decide) b h e
  ·rintro b e (rfl|h)
   ·exact tp g a e
   ·exact Es f g b h e
  ·intro b e;rcases I b e with e|e
   ·exact ag (j b e)
   ·exact ah e
  ·rintro b (rfl|e)
   ·exact i
   ·exact j b e
theorem dy.inside{base:Nat}{f:ci}{room:Int}{ws:List Wd}{nm:List ByteArray}{M:Nat->Prop}{w:World}(g:dy base f room ws nm M w):dy base f room ws nm (λb=>M b/\b<w.heap.size) w:=by
 obtain⟨o,m,n,d,e,c,h,i,j,k⟩:=g;refine⟨o,m,n,d,e,c,⟨h,d.lt⟩,λb a=>⟨i b a,(e.lt b a).2⟩,λb a=>⟨j b a,(c.1.lt b a).2⟩,λb a=>⟨k b a,?_⟩⟩;rcases c.2.2 with⟨rfl,_⟩|⟨q,p,rfl,_,l,_⟩
 ·simp[mapBlock]at a
 ·simp only[mapBlock]at a;obtain rfl:=au a;exact l.lt
theorem dy.later{base:Nat}{c:ci}{room:Int}{ws:List Wd}{nm:List ByteArray}{M:Nat->Prop}{w wA:World}(a:dy base c room ws nm M w)(d:ai w wA):dy base c room ws nm (λb=>M b/\b<w.heap.size) wA:=
 a.inside.kept (aV d (λ_=>False)) λ_ _ _ a=>a
theorem Ap{base:Nat}{d:ci}{room:Int}{ws:List Wd}{nm:List ByteArray}{M:Nat->Prop}{w wA w2:World}(a:lq base d room ws nm (λb=>M b/\b<w.heap.size) wA w2)(i:ai w wA)(n:w.heap.size+2<=wA.heap.size)(v0 v1:Value):lq base d room ws nm M w ((w2.setCell ⟨w.heap.size+1,0,none⟩ v0).setCell ⟨w.heap.size+1,1,none⟩ v1):=by
 obtain⟨f,g⟩:=a;have k:=bi w2 (w.heap.size+1) 0 v0;have l:=bi (w2.setCell ⟨w.heap.size+1,0,none⟩ v0) (w.heap.size+1) 1 v1;have e:=k.trans l (λb _ a=>a);refine⟨(f.kept e ?_).mono ?_,?_⟩
 ·rintro b (⟨_,c⟩|c) _ m
  ·omega
  ·omega
 ·rintro b (⟨j,_⟩|c)
  ·exact ag j
  ·exact ah (by omega)
 ·have h:bO (λb=>(M b/\b<w.heap.size)\/b=w.heap.size+1) wA _:=(g.mono (λb a=>ag a)).trans e (λb _ a=>ah a);refine(aV i M).trans h ?_;rintro b c (a|a)
  ·exact a.1
  ·omega
theorem ur{base:Nat}{f:ci}{room:Int}{ws:List Wd}{nm:List ByteArray}{M:Nat->Prop}{w wA w2:World}(d:lq base f room ws nm (λb=>M b/\b<w.heap.size) wA w2):∀b,w.heap.size<=b->b<wA.heap.size->∀o,w2.cell? ⟨b,o,none⟩=wA.cell? ⟨b,o,none⟩/\w2.frozen? ⟨b,o,none⟩=wA.frozen? ⟨b,o,none⟩:=by
 intro b g e o;have c:=d.2.block b e (λd=>by omega);exact⟨bm c o,iN (a:=⟨b,o,none⟩) c⟩
theorem IJ(f:ci)(k d:Int)(s:ByteArray)(a:Option Addr)(l c:Nat)(w:World)(g:¬k=2)(h:¬k=4):ak 98 #[.pointer (some ⟨f.b,f.o,none⟩),.agg #[ab k,ab d,ae s,.slice a l c]] w λe w'=>e=.returned (.agg #[ab k,ab d])/\ai w w':=by
 have i:(k==2)=false:=by simpa using g
 have j:(k==4)=false:=by simpa using h
 go_enter Tryz.func98,Tryz.ntmps98;go_wp2_with fail;exact ar (v:=.agg #[ab k,ab d]) (by simp[results,Tryz.results98,go_sem]) rfl ⟨rfl,by go_grown⟩
theorem II(base:Nat)(f:ci)(room:Int)(ws:List Wd)(nm:List ByteArray)(M:Nat->Prop)(p:Int)(s:ByteArray)(a:Option Addr)(l c:Nat)(w:World)(u:Hid (dy base f room ws nm M w))(C:base<=w.heap.size)(x:nm.length<=100000)(y:s.size<=2048):ak 98 #[.pointer (some ⟨f.b,f.o,none⟩),.agg #[ab 2,ab p,ae s,.slice a l c]] w λe w'=>e=.returned (.agg #[ab 2,ab (kF (ew nm s) s:Int)])/\Hid (lq base f room ws (ew nm s) M w w'):=by
 generalize n:kF (ew nm s) s=j;go_enter Tryz.func98,Tryz.ntmps98;go_wp2_with fail;generalize i:(w.alloc (Obj.cells #[Value.int IntKind.i64 2,Value.int IntKind.i64 p,Value.string s,Value.slice a l c] 30)).alloc (Obj.cells #[Value.int IntKind.i64 0,Value.int IntKind.i64 0] 105)=wA;have d:Hid (ai w wA.drew/\wA.drew.heap.size=w.heap.size+2):=by
  subst i;exact⟨(((am _ _).alloc (aj _) _).alloc (by simp) _).drew,by simp[World.drew]⟩
 have z:wA.cell? ⟨w.heap.size,2,none⟩=some (ae s):=by subst i;simp[go_sem]
 have h:Hid ((wA.cell? ⟨w.heap.size+1,0,none⟩=some (ab 0)/\wA.cell? ⟨w.heap.size+1,1,none⟩=some (ab 0))/\wA.frozen? ⟨w.heap.size+1,0,none⟩=false/\wA.frozen? ⟨w.heap.size+1,1,none⟩=false):=by subst i;simp[Hid,go_sem]
 have q:Hid (ak 129 #[.pointer (some ⟨f.b,f.o+2,none⟩),ae s] wA.drew λe w'=>e=.returned (ab j)/\Hid (lq base f room ws (ew nm s) (λb=>M b/\b<w.heap.size) wA.drew w')):=by
  have m:=Lf base f room ws nm _ s wA.drew (u.out.later d.out.1) (by have:=d.out.2;omega) x y;rw[n]at m;exact m
 clear i n;go_region_held3 (λw'=>w'.cell? ⟨w.heap.size,2,none⟩=some (ae s)) (go_keep) ((go_at_call 129;refine q.out.mono ?_;rintro e E ⟨rfl,k⟩;have g:=ao (ur k.out);have D:=λo=>(g.out w.heap.size (aj _) (by have:=d.out.2;omega) o).1;have t:=(g.out (w.heap.size+1) (by omega) (by have:=d.out.2;omega) 0).1.trans h.out.1.1;have d1:=(g.out (w.heap.size+1) (by omega) (by have:=d.out.2;omega) 1).1.trans h.out.1.2;have A:=(g.out (w.heap.size+1) (by omega) (by have:=d.out.2;omega) 0).2.trans h.out.2.1;have B:=(g.out (w.heap.size+1) (by omega) (by have:=d.out.2;omega) 1).2.trans h.out.2.2));have r:=ao (Ap k.out d.out.1 (dm d.out.2.symm) (ab 2) (ab j));go_wp2_with fail;exact ar (v:=.agg #[ab 2,ab j]) (by simp[results,Tryz.results98,go_sem,t,d1]) rfl ⟨rfl,r.out⟩
def G4(x:Wd):Value:=.agg #[ab x.1,ab x.2]
def NB(n:Nat):Prop:=∀(x:Tm n)(base:Nat)(a:ci)(room:Int)(ws:List Wd)(nm:List ByteArray)(M:Nat->Prop)(w:World),dy base a room ws nm M w->In w.heap.size w n x->bZ (λb=>¬M b) n x->base<=w.heap.size->aA ⟨n,x⟩->ws.length+2*(av n x).length<=99000->nm.length+(av n x).length<=99000->
 ak 98 #[.pointer (some ⟨a.b,a.o,none⟩),df n x] w λe w'=>e=.returned (G4 (aS n x ws nm).1)/\Hid (lq base a room (aS n x ws nm).2.1 (aS n x ws nm).2.2 M w w')
def xv(n:Nat)(p:List (Tm n))(len base:Nat)(c:ci)(room:Int)(ws:List Wd)(nm:List ByteArray)(M:Nat->Prop)(g:Nat)(w a:World)(k:Nat)(wr:World):Prop:=
 wr.ownsRow g 105 2 (.slice (some ⟨g,0,none⟩) len len) len (aU ((bF (aS n) (p.take k) ws nm).1++List.replicate (len-k) (0,0)))/\
 dy base c room (bF (aS n) (p.take k) ws nm).2.1 (bF (aS n) (p.take k) ws nm).2.2 (λb=>(M b/\b<w.heap.size)\/a.heap.size<=b) wr/\
 bO (λb=>(M b/\b<w.heap.size)\/b=g) a wr
theorem uA(n:Nat):(madeCells #[ab 0,ab 0] (n*2)).toList=aU (List.replicate n (0,0)):=by
 apply List.ext_getElem?;intro b;by_cases d:b<n*2
 ·obtain⟨k,a,e,rfl⟩:∃k a,a<2/\b=k*2+a:=⟨b / 2,b % 2,Nat.mod_lt _ (by decide),by omega⟩;have f:k<n:=by omega
  rw[iE _ k (0,0) (by simp[f]) a e];have c:(madeCells #[ab 0,ab 0] (n*2))[k*2+a]?=some ((#[ab 0,ab 0]:Array Value)[(k*2+a) % 2]!):=by
   simp[madeCells,d]
  rw[lW,c,show (k*2+a) % 2=a by omega];have:a=0\/a=1:=by omega
  rcases this with rfl|rfl<;>rfl
 ·rw[eg (by simp[size_madeCells];omega),eg (by rw[co];simp;omega)]
theorem pW:(l:List Wd)->(i:Nat)->(x:Wd)->i<l.length->((aU l).set (i*2) (ab x.1)).set (i*2+1) (ab x.2)=aU (l.set i x)
 | [],i,x,h=>by simp at h
 | y::l,0,x,_=>by simp[aU,ph]
 | y::l,i+1,x,h=>by
  have ih:=pW l i x (by simpa using h);have e:aU (y::l)=ph y++aU l:=rfl;have b:aU ((y::l).set (i+1) x)=ph y++aU (l.set i x):=rfl;have a:(ph y).length=2:=rfl;rw[e,b,<-ih];rw[hU _ _ (by rw[a];omega),hU _ _ (by rw[a];omega),a];rw[show (i+1)*2-2=i*2 by omega,show (i+1)*2+1-2=i*2+1 by omega]
theorem IL{n:Nat}{p:List (Tm n)}{len base:Nat}{k:ci}{room:Int}{ws:List Wd}{nm:List ByteArray}{M:Nat->Prop}{w w0:World}{d t1 t2 a:Value}(f:dy base k room ws nm M w)(e:w0.ownsRow (w.heap.size+2) 105 2 (.slice (some ⟨((w.alloc (.cells #[d,t1,t2,a] 30)).alloc (.cells #[ab 0,ab 0] 105)).heap.size,0,none⟩) len len) len (madeCells (Value.agg #[ab 0,ab 0]).cells (len*2)).toList)(c:((w.alloc (.cells #[d,t1,t2,a] 30)).alloc (.cells #[ab 0,ab 0] 105)).grownBy w0 none):(xv n p len base k room ws nm M (w.heap.size+2) w w0 0 w0/\ai w w0/\w.heap.size+2<w0.heap.size)/\w0.cell? ⟨w.heap.size,3,none⟩=some a/\ (w0.cell? ⟨w.heap.size+1,0,none⟩=some (ab 0)/\w0.cell? ⟨w.heap.size+1,1,none⟩=some (ab 0))/\w0.frozen? ⟨w.heap.size+1,0,none⟩=false/\w0.frozen? ⟨w.heap.size+1,1,none⟩=false:=by
 have l:((w.alloc (.cells #[d,t1,t2,a] 30)).alloc (.cells #[ab 0,ab 0] 105)).heap.size=w.heap.size+2:=by simp
 rw[l]at e;have q:ai w ((w.alloc (.cells #[d,t1,t2,a] 30)).alloc (.cells #[ab 0,ab 0] 105)):=((am _ _).alloc (aj _) _).alloc (by simp) _;have h:Below (w.heap.size+2) ((w.alloc (.cells #[d,t1,t2,a] 30)).alloc (.cells #[ab 0,ab 0] 105)) w0:=⟨c.os,c.tape,c.output,c.size,λb g=>c.block b (by omega) (by simp)⟩;have g:=q.trans (h.mono (by omega));have i:=ap h;have j:=gt h;refine⟨⟨⟨?_,?_,bO.refl _ _⟩,g,(e.lt _ rfl).2⟩,?_,⟨?_,?_⟩,?_,?_⟩
 ·simp only[List.take_zero,bF,mi,Nat.sub_zero];have m:=uA len;have o:(Value.agg #[ab 0,ab 0]).cells= #[ab 0,ab 0]:=rfl;rw[o,m]at e;exact e
 ·simp only[List.take_zero,bF];exact(f.later g).mono λb f=>ag f
 ·rw[i _ _ (by omega)];simp[go_sem]
 ·rw[i _ _ (by omega)];simp[go_sem]
 ·rw[i _ _ (by omega)];simp[go_sem]
 ·rw[j _ _ (by omega)];simp[go_sem]
 ·rw[j _ _ (by omega)];simp[go_sem]
theorem oo{w:World}{base g L c:Nat}{ws:List Wd}(b:w.ownsRow base 105 2 (.slice (some ⟨g,0,none⟩) L c) L (aU ws)):∀j,w.frozen? ⟨g,j,none⟩=false:=by
 intro j;rcases b.2 with⟨d,_⟩|⟨l,cap,h,f,m,e,_⟩
 ·simp at d
 ·injection f with a i k;injection a with a;injection a with a _;subst a;simp[World.frozen?,e]
theorem xv.step{n:Nat}{p:List (Tm n)}{len base:Nat}{l:ci}{room:Int}{ws:List Wd}{nm:List ByteArray}{M:Nat->Prop}{g:Nat}{w d:World}{k:Nat}{wr w1 w2:World}(H:xv n p len base l room ws nm M g w d k wr)(G:w.heap.size<=g)(I:g<d.heap.size)(K:k<len)(L:p.length=len){x:Tm n}(A:p[k]?=some x)(i:ai wr w1)(z:lq base l room (aS n x (bF (aS n) (p.take k) ws nm).2.1 (bF (aS n) (p.take k) ws nm).2.2).2.1 (aS n x (bF (aS n) (p.take k) ws nm).2.1 (bF (aS n) (p.take k) ws nm).2.2).2.2 (λb=>((M b/\b<w.heap.size)\/d.heap.size<=b)/\b<wr.heap.size) w1 w2):xv n p len base l room ws nm M g w d (k+1) ((w2.setCell ⟨g,k*2,none⟩ (ab (aS n x (bF (aS n) (p.take k) ws nm).2.1 (bF (aS n) (p.take k) ws nm).2.2).1.1)).setCell ⟨g,k*2+1,none⟩ (ab (aS n x (bF (aS n) (p.take k) ws nm).2.1 (bF (aS n) (p.take k) ws nm).2.2).1.2))/\ (w2.cell? ⟨g,k*2,none⟩=some (ab 0)/\w2.cell? ⟨g,k*2+1,none⟩=some (ab 0))/\w2.frozen? ⟨g,k*2,none⟩=false/\w2.frozen? ⟨g,k*2+1,none⟩=false:=by
 obtain⟨m,E,o⟩:=H;obtain⟨u,q⟩:=z;have J:g<wr.heap.size:=(m.lt g rfl).2;have N:=i.size;have O:=o.size;have r:bF (aS n) (p.take (k+1)) ws nm=((bF (aS n) (p.take k) ws nm).1++ [(aS n x (bF (aS n) (p.take k) ws nm).2.1 (bF (aS n) (p.take k) ws nm).2.2).1],(aS n x (bF (aS n) (p.take k) ws nm).2.1 (bF (aS n) (p.take k) ws nm).2.2).2):=by
  rw[dx,A];exact FD _ _ _ _ _
 have s:(bF (aS n) (p.take k) ws nm).1.length=k:=by rw[gD,dw];omega
 have f:w2.ownsRow g 105 2 (.slice (some ⟨g,0,none⟩) len len) len (aU ((bF (aS n) (p.take k) ws nm).1++List.replicate (len-k) (0,0))):=by
  refine dK (dG m i) q λb h=>?_;simp only[Value.ownBlock]at h;obtain rfl:=au h;omega
 generalize bF (aS n) (p.take k) ws nm=e at*;generalize aS n x e.2.1 e.2.2=c at*;have B:(e.1++List.replicate (len-k) (0,0))[k]?=some ((0,0):Wd):=by
  rw[dN (by omega),s,gI,List.getElem?_replicate];simp;omega
 have C:=bi w2 g (k*2) (ab c.1.1);have D:=bi (w2.setCell ⟨g,k*2,none⟩ (ab c.1.1)) g (k*2+1) (ab c.1.2);have t:=C.trans D (λb _ a=>a);refine⟨⟨?_,?_,?_⟩,iG f k (0,0) B,oo f _,oo f _⟩
 ·rw[r];have j:=iR (iR f (k*2) (ab c.1.1)) (k*2+1) (ab c.1.2);rw[pW _ k c.1 (by simp;omega)]at j;have es:(e.1++List.replicate (len-k) ((0,0):Wd)).set k c.1=(e.1++ [c.1])++List.replicate (len-(k+1)) (0,0):=by
   rw[hU _ _ (by omega)];have:len-k=(len-(k+1))+1:=by omega
   rw[this,List.replicate_succ];simp[s]
  rw[es]at j;exact j
 ·rw[r];refine(u.kept t ?_).mono ?_
  ·rintro b (⟨a,_⟩|a) _ h<;>omega
  ·rintro b (⟨a,_⟩|a)
   ·exact a
   ·exact ah (by omega)
 ·have v:bO (λb=>(M b/\b<w.heap.size)\/b=g) d w1:=o.trans (aV i (λ_=>False)) (λ_ _ a=>a.elim)
  have y:bO (λb=>(M b/\b<w.heap.size)\/b=g) d w2:=v.trans q (λb F a=>by
   rcases a.1 with a|a
   ·exact ag a
   ·omega)
  exact y.trans t (λb _ a=>ah a)
theorem IN{n:Nat}{p:List (Tm n)}{len base:Nat}{q:ci}{room:Int}{ws:List Wd}{nm:List ByteArray}{M:Nat->Prop}{g:Nat}{w d:World}{k:Nat}{wr:World}(H:xv n p len base q room ws nm M g w d k wr)(t:w.heap.size<g)(u:g<d.heap.size)(h:ai w d){b o:Nat}(i:b<w.heap.size)(m:¬M b){x:Tm n}(l:dr w b o n x)(e:In w.heap.size w n x)(f:bZ (λb=>¬M b) n x):dr wr b o n x/\In w.heap.size wr n x/\bZ (λb=>¬(((M b/\b<w.heap.size)\/d.heap.size<=b)/\b<wr.heap.size)) n x:=by
 have j:∀a,¬M a/\a<w.heap.size->wr.heap[a]?=d.heap[a]? :=λa r=>H.2.2.block a (by omega) (by rintro (c|c);exact r.1 c.1;omega);refine⟨(l.below h i).block (j b ⟨m,i⟩),In.off j (In.offB f e) (e.below h),(In.offB f e).mono ?_⟩;rintro a ⟨s,v⟩ ⟨c|c,_⟩
 ·exact s c.1
 ·omega
theorem IK{n:Nat}{p:List (Tm n)}{len base:Nat}{f:ci}{room:Int}{ws:List Wd}{nm:List ByteArray}{M:Nat->Prop}{g:Nat}{w e:World}{wr:World}(H:xv n p len base f room ws nm M g w e len wr)(E:p.length=len)(C:g=w.heap.size+2)(D:g<e.heap.size)(m:ai w e):dy base f room (bF (aS n) p ws nm).2.1 (bF (aS n) p ws nm).2.2 (λb=>((M b/\b<w.heap.size)\/e.heap.size<=b)) wr/\(∀w1,bO (λb=>((M b/\b<w.heap.size)\/e.heap.size<=b)) wr w1->eQ w1 (bF (aS n) p ws nm).1 (some ⟨g,0,none⟩))/\ (∀o,wr.cell? ⟨w.heap.size+1,o,none⟩=e.cell? ⟨w.heap.size+1,o,none⟩/\wr.frozen? ⟨w.heap.size+1,o,none⟩=e.frozen? ⟨w.heap.size+1,o,none⟩)/\ ∀k j w2,lq base f room k j (λb=>((M b/\b<w.heap.size)\/e.heap.size<=b)) wr w2-> (∀o,w2.cell? ⟨w.heap.size+1,o,none⟩=wr.cell? ⟨w.heap.size+1,o,none⟩/\w2.frozen? ⟨w.heap.size+1,o,none⟩=wr.frozen? ⟨w.heap.size+1,o,none⟩)/\ ∀v0 v1,lq base f room k j M w ((w2.setCell ⟨w.heap.size+1,0,none⟩ v0).setCell ⟨w.heap.size+1,1,none⟩ v1):=by
 obtain⟨h,l,i⟩:=H;rw[bw (by omega)]at h l;rw[gI,mj,ed]at h;have F:=i.size;refine⟨l,λw1 x=>ah ⟨_,rfl,λy B v=>?_⟩,λo=>?_,λk j w2 q=>⟨λo=>?_,λv0 v1=>?_⟩⟩
 ·have:=(dK h x (λb d=>by
    simp only[Value.ownBlock]at d;obtain rfl:=au d
    omega)).cells (g:=g) rfl y B v
  exact this
 ·have d:=i.block (w.heap.size+1) (by omega) (by omega);exact⟨bm d o,iN (a:=⟨w.heap.size+1,o,none⟩) d⟩
 ·have d:=q.2.block (w.heap.size+1) (by omega) (by omega);exact⟨bm d o,iN (a:=⟨w.heap.size+1,o,none⟩) d⟩
 ·obtain⟨t,u⟩:=q;have z:=bi w2 (w.heap.size+1) 0 v0;have A:=bi (w2.setCell ⟨w.heap.size+1,0,none⟩ v0) (w.heap.size+1) 1 v1;have s:=z.trans A (λb _ c=>c);refine⟨(t.kept s ?_).mono ?_,?_⟩
  ·rintro b (c|c) _ d<;>omega
  ·rintro b ((c|c)|c)
   ·exact ag c.1
   ·exact ah (by omega)
   ·exact ah (by omega)
  ·refine(((aV m M).trans i ?_).trans u ?_).trans s ?_
   ·rintro b r (c|c)
    ·exact c.1
    ·omega
   ·rintro b r (c|c)
    ·exact c.1
    ·have:=m.size;omega
   ·intro b r c;omega
theorem uu(n:Nat)(l:List (Tm n))(ws:List Wd)(nm:List ByteArray):(bF (aS n) l ws nm).2.1.length<=ws.length+2*(l.flatMap λy=>av n y).length/\(bF (aS n) l ws nm).2.2.length<=nm.length+(l.flatMap λy=>av n y).length:=by
 induction l generalizing ws nm with
 | nil=>simp[bF]
 | cons y l ih=>
  obtain⟨a,b⟩:=iq n y ws nm;obtain⟨d,e⟩:=ih (aS n y ws nm).2.1 (aS n y ws nm).2.2;have c:=(eH n y).2;simp only[bF,bv,bf];exact⟨by omega,by omega⟩
theorem Ar(n:Nat)(p:List (Tm n))(k:Nat)(x:Tm n)(d:p[k]?=some x):((p.take k).flatMap λy=>av n y).length+(av n x).length<=(p.flatMap λy=>av n y).length:=by
 have b:=aM.1 d;obtain⟨c,rfl⟩:=b;have a:p=p.take k++p[k]::p.drop (k+1):=by
  rw[<-ee c,ji]
 conv=>rhs;rw[a]
 simp only[jW,bv,bf];omega
theorem K8(n:Nat)(ih:NB n)(base:Nat)(d:ci)(room:Int)(ws:List Wd)(nm:List ByteArray)(M:Nat->Prop)(al:Int)(s:ByteArray)(a:Option Addr)(len pc:Nat)(p:List (Tm n))(C:Hid (p.length=len))(w:World)(af:Hid (dy base d room ws nm M w))(aF:len<=8)(ay:base<=w.heap.size)(F:Hid (p=[]\/∃b o,a=some ⟨b,o,none⟩/\b<w.heap.size/\¬M b/\∀(i:Nat)(y:Tm n),p[i]?=some y->dr w b (o+i*4) n y/\In w.heap.size w n y/\bZ (λb=>¬M b) n y))(S:Hid (∀y∈p,aA ⟨n,y⟩))(G:Hid (ws.length+2*(p.flatMap λy=>av n y).length<=99000))(P:Hid (nm.length+(p.flatMap λy=>av n y).length<=99000)):ak 98 #[.pointer (some ⟨d.b,d.o,none⟩),.agg #[ab 4,ab al,ae s,.slice a len pc]] w λe w'=>e=.returned (G4 (4,((bF (aS n) p ws nm).2.1.length:Int)))/\Hid (lq base d room ((bF (aS n) p ws nm).2.1++(0,(len:Int))::(bF (aS n) p ws nm).1) (bF (aS n) p ws nm).2.2 M w w'):=by
 obtain⟨ah,L,T,U,V⟩:=bQ kA;go_enter Tryz.func98,Tryz.ntmps98;go_wp2_with (at_make;refine km _ rfl _ _ 96 rfl (w.heap.size+2) 105 ah _ 2 Tryz.underlying96 L T U _ _ _ _ len rfl rfl rfl rfl (by rw[V];omega) (by unfold maxLen;omega) (by simp) ?_;intro x Q K;have l:=ao (IL (p:=p) af.out Q K);have aw:=l.out.2.1;clear Q K);clear L T U V;obtain⟨c,B⟩:∃c,w.heap.size+1+1=c:=⟨_,rfl⟩;have H:Hid (xv n p len base d room ws nm M c w x 0 x):=by subst B;exact l.out.1.1
 have E:c<x.heap.size:=by subst B;exact l.out.1.2.2
 rw[B];go_loopw [28] (λi wr=>∃k:Nat,k<=len/\i=ab k/\Hid (xv n p len base d room ws nm M c w x k wr)) (λi _=>len-(intOf i).toNat)
 case atStart=>exact⟨0,by omega,rfl,H.out⟩
 case round=>
  clear H;obtain⟨k,aB,rfl,g⟩:=hrel;by_cases N:k<len
  ·obtain⟨f,m⟩:∃f,p[k]?=some f:=⟨p[k]'(by rw[C.out];exact N),aE _⟩;obtain⟨b,o,rfl,ag,O,R⟩:∃b o,a=some ⟨b,o,none⟩/\b<w.heap.size/\¬M b/\∀(i:Nat)(y:Tm n),p[i]?=some y->dr w b (o+i*4) n y/\In w.heap.size w n y/\bZ (λb=>¬M b) n y:=by
    rcases F.out with e|e
    ·rw[e]at m;simp at m
    ·exact e
   obtain⟨W,X,Y⟩:=R k f m;obtain⟨y1,y2,Z⟩:=IN g.out (by omega) E l.out.1.2.1 ag O W X Y;have az:c<wr.heap.size:=(g.out.1.lt c rfl).2;have aK:=g.out.2.2.size;cases n with
   | zero=>exact y1.elim
   | succ n=>
   obtain⟨u,q⟩:∃u:Wd,Hid (∀D,ai wr D->ak 98 #[.pointer (some ⟨d.b,d.o,none⟩),.agg #[ab f.1.1,ab f.1.2.1,ae f.1.2.2,.slice f.2.1.1 f.2.2.length f.2.1.2]] D λe h=>e=.returned (.agg #[ab u.1,ab u.2])/\
       Hid (xv (n+1) p len base d room ws nm M c w x (k+1) ((h.setCell ⟨c,k*2,none⟩ (ab u.1)).setCell ⟨c,k*2+1,none⟩ (ab u.2))/\
        (h.cell? ⟨c,k*2,none⟩=some (ab 0)/\h.cell? ⟨c,k*2+1,none⟩=some (ab 0))/\h.frozen? ⟨c,k*2,none⟩=false/\h.frozen? ⟨c,k*2+1,none⟩=false)):=by
    refine⟨(aS (n+1) f (bF (aS (n+1)) (p.take k) ws nm).2.1 (bF (aS (n+1)) (p.take k) ws nm).2.2).1,λD A=>?_⟩;have aL:=uu (n+1) (p.take k) ws nm;have aM:=Ar (n+1) p k f m;have aJ:=G.out;have aH:=P.out;have aI:=A.size;refine(ih f base d room _ _ _ D (g.out.2.1.later A) ((y2.below (A.mono (by omega))).mono (by omega)) Z (by omega) (S.out f (aG m)) (by omega) (by omega)).mono ?_;rintro e h ⟨rfl,z⟩;exact⟨rfl,g.out.step (by omega) E N C.out m A z.out⟩
   obtain⟨an,ap,aq,au⟩:=y1;clear ih g F R W X Y y2 Z m O G P S;generalize f.2.2.length=aN at*;have aC:(0:Int)<=(k:Int):=by omega
   have aD:(k:Int)<(len:Int):=by omega
   have ax:b<wr.heap.size:=by omega
   go_wp2_with fail;refine(q.out _ ((am _ _).alloc (aj _) _)).mono ?_;rintro e h ⟨rfl,I⟩;obtain⟨⟨J,d1⟩,aa,ad⟩:=I.out.2;clear q an ap aq au;go_wp2_with fail;go_roundw
   case rel=>exact⟨k+1,by omega,by go_num,I.out.1⟩
   case measure=>simp[intOf];omega
  ·obtain rfl:k=len:=by omega
   have j:=ao (IK g.out C.out B.symm E l.out.1.2.1)
   have q:Hid (ak 130 #[.pointer (some ⟨d.b,d.o+1,none⟩),.slice (some ⟨c,0,none⟩) k k] wr λe w'=>e=.returned (.agg #[ab 4,ab (bF (aS n) p ws nm).2.1.length])/\Hid (lq base d room ((bF (aS n) p ws nm).2.1++(0,(k:Int))::(bF (aS n) p ws nm).1) (bF (aS n) p ws nm).2.2 _ wr w')):=
    Ot base d room (bF (aS n) p ws nm).2.1 (bF (aS n) p ws nm).2.2 _ (bF (aS n) p ws nm).1 k k (some ⟨c,0,none⟩) wr j.out.1 (by have:=g.out.2.2.size;omega) (by have:=(uu n p ws nm).1;have:=G.out;omega) (by rw[gD];exact C.out) (by omega) j.out.2.1
   have t:=l.out.2.2;clear g l ih F;go_wp2_with fail;refine q.out.mono ?_;rintro e h ⟨rfl,z⟩;have r:=ao (j.out.2.2.2 _ _ h z.out);have J:=((r.out.1 0).1.trans (j.out.2.2.1 0).1).trans t.1.1;have d1:=((r.out.1 1).1.trans (j.out.2.2.1 1).1).trans t.1.2;have aa:=((r.out.1 0).2.trans (j.out.2.2.1 0).2).trans t.2.1;have ad:=((r.out.1 1).2.trans (j.out.2.2.1 1).2).trans t.2.2;clear q j z t;go_wp2_with fail;exact ar (v:=.agg #[ab 4,ab ((bF (aS n) p ws nm).2.1.length:Int)]) (by simp[results,Tryz.results98,go_sem,J,d1]) rfl ⟨rfl,r.out.2 _ _⟩
theorem FC{base:Nat}{c:ci}{room:Int}{ws:List Wd}{nm:List ByteArray}{M:Nat->Prop}{w w':World}(a:dy base c room ws nm M w)(b:ai w w'):lq base c room ws nm M w w':=
 ⟨(a.later b).mono λ_ a=>ag a.1,aV b M⟩
theorem K7(n:Nat):NB n:=by
 induction n with
 | zero=>intro a t p room d c s q _ w;exact w.elim
 | succ n ih=>
  intro a t p room d c s q u w k y A O J;have H:=w;obtain⟨⟨Q,R,N,M,L⟩,h⟩:=H;have z:=A (bu n a) (by simp[av,bu]);have F:a.2.2.length<=8:=lH (bu n a) z;have G:a.1.2.2.size<=2048:=by have:=rC (bu n a) z;simp only[bu]at this;omega
  have K:(av (n+1) a).length=1+(a.2.2.flatMap λf=>av n f).length:=by simp[av];omega
  by_cases g:a.1.1=2
  ·have e:aS (n+1) a d c=((2,(kF (ew c a.1.2.2) a.1.2.2:Int)),d,ew c a.1.2.2):=by simp only[aS,if_pos g]
   rw[e];have j:=II t p room d c s a.1.2.1 a.1.2.2 a.2.1.1 a.2.2.length a.2.1.2 q u y (by omega) G;rw[<-g]at j;refine j.mono ?_;rintro e B ⟨rfl,r⟩;exact⟨by rw[g];rfl,r⟩
  ·by_cases i:a.1.1=4
   ·have e:aS (n+1) a d c=((4,((bF (aS n) a.2.2 d c).2.1.length:Int)),(bF (aS n) a.2.2 d c).2.1++(0,(a.2.2.length:Int))::(bF (aS n) a.2.2 d c).1,(bF (aS n) a.2.2 d c).2.2):=by simp only[aS,if_neg g,if_pos i]
    rw[e];have j:=K8 n ih t p room d c s a.1.2.1 a.1.2.2 a.2.1.1 a.2.2.length a.2.1.2 a.2.2 rfl q u F y ?_ (λf l=>aR n a f A l) (by unfold Hid;omega) (by unfold Hid;omega)
    ·rw[<-i]at j;refine j.mono ?_;rintro e B ⟨rfl,r⟩;exact⟨by rw[i],r⟩
    ·rcases h with h|⟨b,o,e,v,h⟩
     ·exact ag h
     ·rcases k with k|⟨I,P,m,E,k⟩
      ·exact ag k
      ·rw[e]at m;injection m with m;injection m with C D;subst C D;exact ah ⟨b,o,e,v,E,λx f l=>⟨(h x f l).1,(h x f l).2,k x f l⟩⟩
   ·have e:aS (n+1) a d c=((a.1.1,a.1.2.1),d,c):=by simp only[aS,if_neg g,if_neg i]
    rw[e];refine(IJ p a.1.1 a.1.2.1 a.1.2.2 a.2.1.1 a.2.2.length a.2.1.2 q g i).mono ?_;rintro e B ⟨rfl,v⟩;exact⟨rfl,FC u v⟩
end Go.Proofs.YtckamaoibonjcaaGreat
