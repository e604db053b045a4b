/- What is proved here: plain facts and contracts that the claimed theorem stands on. No condition but those that each names. -/
import Derived.Test.YtnidfceinoiboaaGreatG15
import Derived.Deep.QuietTactic
import Derived.BigQuiet
namespace Go.Proofs.YtnidfceinoiboaaGreat
open Go.RowKit
set_option maxHeartbeats 1000000
set_option maxRecDepth 100000
def J9(room:Int)(w:World)(e:Ending)(w':World):Prop:=
    (¬(0<=room/\room<=1000)->e=.returned (.tuple #[.pointer none,.int .i64 1])/\w'=w)/\
    (0<=room/\room<=1000->e=.returned (.tuple #[.pointer (some ⟨w.heap.size,0,none⟩),.int .i64 0])/\HB (bW.own w.heap.size) room (.slice none 0 0) (.slice none 0 0) (.map none) w'/\w'.heap.size=w.heap.size+1/\Below w.heap.size w w')
theorem IX(room:Int)(w:World):Calls Tryz.prog 55 #[.int .i64 room] w (J9 room w):=by
 by_cases a:room<0
 ·have b:decide (room<0)=true:=by simpa using a
  go_enter Tryz.func55,Tryz.ntmps55;go_wp2_with fail
  go_ret2
  exact⟨λ_=>⟨rfl,rfl⟩,λc=>by omega⟩
 ·by_cases d:1000<room
  ·have b:decide (room<0)=false:=by simpa using a
   have e:decide (1000<room)=true:=by simpa using d
   go_enter Tryz.func55,Tryz.ntmps55;go_wp2_with fail
   go_ret2
   exact⟨λ_=>⟨rfl,rfl⟩,λc=>by omega⟩
  ·have b:decide (room<0)=false:=by simpa using a
   have e:decide (1000<room)=false:=by simpa using d
   go_enter Tryz.func55,Tryz.ntmps55;go_wp2_with fail
   go_ret2
   exact⟨λc=>by omega,λ_=>⟨rfl,⟨⟨rfl,ae rfl⟩,ax w _⟩,by simp,(ah _ _).alloc (ag _) _⟩⟩
def fA(ws:List Wd)(i:Int):Bool:=decide (0<=i) && match ws[i.toNat]? with
 | some x=>x.1==0
 | none=>false
theorem ij{base g c L:Nat}{ws:List Wd}{w:World}(d:w.ownsRow base 125 2 (.slice (some ⟨g,0,none⟩) L c) L (aP ws))(k:Nat)(x:Wd)(b:ws[k]?=some x):w.cell? ⟨g,k*2,none⟩=some (.int .i64 x.1)/\w.cell? ⟨g,k*2+1,none⟩=some (.int .i64 x.2):=by
 have a:=d.cells (g:=g) rfl;refine⟨?_,?_⟩
 ·have:=a (k*2+0) (.int .i64 x.1) (by rw[ii ws k x b 0 (by omega)];rfl);rw[fi]at this;exact this
 ·have:=a (k*2+1) (.int .i64 x.2) (by rw[ii ws k x b 1 (by omega)];rfl);rw[fi]at this;exact this
theorem Ay(base:Nat)(l:Option Addr)(L m:Nat)(ws:List Wd)(i:Int)(w:World)(d:Hid (ws.length=L))(q:L<=100000)(f:Hid (w.ownsRow base 125 2 (.slice l L m) L (aP ws))):Calls Tryz.prog 136 #[.slice l L m,.int .i64 i] w λe w'=>e=.returned (.bool (fA ws i))/\w'=w:=by
 by_cases h:0<=i
 ·obtain⟨k,rfl⟩:∃k:Nat,i=k:=⟨i.toNat,by omega⟩;by_cases o:k<L
  ·obtain⟨a,b⟩:∃a,ws[k]?=some a:=⟨ws[k]'(by rw[d.out];exact o),aA _⟩;obtain⟨p,c,j,_,_⟩:=f.out.form (by omega);simp at j;obtain⟨rfl,rfl⟩:=j;obtain⟨t,u⟩:=ij f.out k a b;have HB:Hid (fA ws k=(a.1==0)):=by simp[Hid,fA,b]
   have g:decide ((0:Int)<=(k:Int))=true:=by simp
   have n:decide ((k:Int)<(L:Int))=true:=by simp;omega
   have r:(0:Int)<=(k:Int):=by omega
   have s:(k:Int)<(L:Int):=by omega
   clear b;go_enter Tryz.func136,Tryz.ntmps136;go_wp2_with fail
   go_ret
   exact⟨eA HB.out.symm,rfl⟩
  ·have HB:Hid (fA ws k=false):=by
     have:ws[k]?=none:=eP (by rw[d.out];omega);simp[Hid,fA,this]
   have g:decide ((0:Int)<=(k:Int))=true:=by simp
   have n:decide ((k:Int)<(L:Int))=false:=by simp;omega
   go_enter Tryz.func136,Tryz.ntmps136;go_wp2_with fail
   go_ret
   exact⟨eA HB.out.symm,rfl⟩
 ·have HB:Hid (fA ws i=false):=by simp[Hid,fA,h]
  have g:decide (0<=i)=false:=by simpa using h
  go_enter Tryz.func136,Tryz.ntmps136;go_wp2_with fail
  go_ret
  exact⟨eA HB.out.symm,rfl⟩
def tf(L:Nat)(i:Int):Bool:=decide (0<=i) && decide (i<L)
theorem IJ(c:bW)(room:Int)(tv:Value)(g:Option Addr)(L h:Nat)(mv:Value)(i:Int)(w:World)(d:Hid (HB c room tv (.slice g L h) mv w)):Calls Tryz.prog 135 #[.pointer (some ⟨c.b,c.o+2,none⟩),.int .i64 i] w λe w'=>e=.returned (.bool (tf L i))/\w'=w:=by
 obtain⟨⟨j,k,l,m⟩,n⟩:=d.out.cells;by_cases a:0<=i
 ·have HB:Hid (tf L i=decide (i<L)):=by simp[Hid,tf,a]
  have f:decide (0<=i)=true:=by simpa using a
  go_enter Tryz.func135,Tryz.ntmps135;go_wp2_with fail
  go_ret
  exact⟨eA HB.out.symm,rfl⟩
 ·have HB:Hid (tf L i=false):=by simp[Hid,tf,a]
  have f:decide (0<=i)=false:=by simpa using a
  go_enter Tryz.func135,Tryz.ntmps135;go_wp2_with fail
  go_ret
  exact⟨eA HB.out.symm,rfl⟩
theorem KJ(l:List ByteArray)(k:Nat)(s:ByteArray)(a:l[k]?=some s):(fo l)[k]?=some (.string s):=by simp[fo,a]
theorem Ba(base:Nat)(a:bW)(room:Int)(tv lv mv:Value)(nm:List ByteArray)(i:Nat)(s:ByteArray)(w:World)(h:Hid (HB a room tv lv mv w))(d:Hid (w.ownsRow base 9 1 lv nm.length (fo nm)))(f:Hid (nm[i]?=some s))(r:nm.length<=100000)(l:s.size<=2048):Calls Tryz.prog 137 #[.pointer (some ⟨a.b,a.o+2,none⟩),.int .i64 i] w λe w'=>e=.returned (.string s)/\Below w.heap.size w w':=by
 have x:i<nm.length:=(aK.1 f.out).1;obtain⟨g,c,rfl,_,_⟩:=d.out.form (by omega);have z:w.cell? ⟨g,i,none⟩=some (.string s):=by
  have:=d.out.cells (g:=g) rfl i (.string s) (KJ nm i s f.out);rw[fi]at this;exact this
 obtain⟨⟨m,n,p,q⟩,t⟩:=h.out.cells;generalize nm.length=j at*;have u:(0:Int)<=(i:Int):=by omega
 have v:(i:Int)<(j:Int):=by omega
 go_enter Tryz.func137,Tryz.ntmps137;go_wp2_with fail;refine(dD s _ l).mono ?_;rintro e y ⟨rfl,k⟩;go_wp2_with fail
 go_ret
 exact⟨rfl,k⟩
theorem yI(a:bW)(room n:Int)(d:Option Addr)(L f:Nat)(lv mv:Value)(w:World)(k:L<=100000)(p:0<=room)(m:room<=1000)(c:Hid (HB a room (.slice d L f) lv mv w)):Calls Tryz.prog 85 #[.pointer (some ⟨a.b,a.o,none⟩),.int .i64 n] w λe w'=>e=.returned (.bool (decide (n<=room-L)))/\Below w.heap.size w w':=by
 obtain⟨⟨g,h,i,j⟩,l⟩:=c.out.cells;go_enter Tryz.func85,Tryz.ntmps85;go_wp2_with fail
 go_quiet (fail)
 go_wp2_with fail
 go_ret
 exact⟨rfl,⟨rfl,rfl,rfl,ag _,λ_ _=>rfl⟩⟩
theorem rF(ws:List Wd)(k n j:Nat)(g:j<n*2):(aP ((ws.drop k).take n))[j]?=(aP ws)[k*2+j]? :=by
 by_cases f:k+j / 2<ws.length
 ·obtain⟨a,b⟩:∃a,ws[k+j / 2]?=some a:=⟨_,aA f⟩;have e:((ws.drop k).take n)[j / 2]?=some a:=by
   rw[qZ (by omega),jO];exact b
  have c:j=j / 2*2+j % 2:=by omega
  have d:k*2+j=(k+j / 2)*2+j % 2:=by omega
  rw[d,ii ws (k+j / 2) a b (j % 2) (by omega)]
  conv=>lhs;rw[c]
  rw[ii _ (j / 2) a e (j % 2) (by omega)]
 ·rw[eP (l:=aP ws) (by rw[bY];omega),eP (by rw[bY,dn,eG];omega)]
def Ib(ws:List Wd)(k n g:Nat)(w:World)(e:Ending)(w':World):Prop:=w'=w/\∃pa pc,e=.returned (.slice (some pa) n pc)/\pa.block=g/\eK w ((ws.drop (k+1)).take n) (some pa)/\∃o,pa=⟨g,o,none⟩
theorem Jd{base g L c:Nat}{xs:List Value}{ty:TypeId}{sz:Nat}{w:World}(a:w.ownsRow base ty sz (.slice (some ⟨g,0,none⟩) L c) L xs):L<=c/\c<=maxLen:=by
 rcases a.2 with⟨a,_⟩|⟨f,cap,e,a,_,_,b,d,_⟩
 ·simp at a
 ·injection a with _ _ a;subst a;exact⟨b,d⟩
theorem vq(base:Nat)(g L b k n:Nat)(ws:List Wd)(w:World)(r:L<=100000)(c:Hid (w.ownsRow base 125 2 (.slice (some ⟨g,0,none⟩) L b) L (aP ws)))(p:Hid (ws[k]?=some (0,(n:Int))))(s:k+1+n<=L):Calls Tryz.prog 139 #[.slice (some ⟨g,0,none⟩) L b,.int .i64 k] w (Ib ws k n g w):=by
 obtain⟨v,x⟩:=ij c.out k _ p.out;obtain⟨u,f⟩:=Jd c.out;have e:Hid (∀o,(n=0\/o=(k+1)*2)->eK w ((ws.drop (k+1)).take n) (some ⟨g,o,none⟩)):=by
  rintro o (rfl|rfl)
  ·exact ae (by simp)
  ·refine af ⟨_,rfl,λa q d=>?_⟩;have l:a<n*2:=by
    have:=(aK.1 d).1;rw[bY,dn]at this;omega
   rw[rF ws (k+1) n a l]at d;have:=c.out.cells (g:=g) rfl _ q d;rw[fi]at this;have h:(⟨g,(k+1)*2,none⟩:Addr).add a=⟨g,(k+1)*2+a,none⟩:=by
    unfold Addr.add;by_cases i:a=0<;>simp[i]
   rw[h];exact this
 have t:(b:Int)<=9223372036854775807:=by unfold maxLen at f;omega
 clear f;by_cases j:b=k+1
 ·subst j;have m:n=0:=by omega
  subst m;go_enter Tryz.func139,Tryz.ntmps139;go_wp2_with fail
  go_ret
  exact⟨rfl,_,_,rfl,rfl,e.out _ (by simp),_,rfl⟩
 ·go_enter Tryz.func139,Tryz.ntmps139;go_wp2_with fail
  go_ret
  exact⟨rfl,_,_,rfl,rfl,e.out _ (af rfl),_,rfl⟩
def Ls(s t:ByteArray):Bool:=t.data==s.data
theorem ny(s t:ByteArray):Ls s t=true ↔ t=s:=by
 cases s;cases t;simp[Ls]
def ei(nm:List ByteArray)(s:ByteArray):List ByteArray:=if nm.any (Ls s)then nm else nm++ [s]
def kp(nm:List ByteArray)(s:ByteArray):Nat:=nm.findIdx (Ls s)
theorem wP(nm:List ByteArray)(s:ByteArray):nm.any (Ls s)=true ↔ s∈nm:=by
 rw[List.any_eq_true];constructor
 ·rintro ⟨t,c,a⟩;rw[ny]at a;exact a▸c
 ·exact λb=>⟨s,b,(ny s s).2 rfl⟩
theorem zb{nm:List ByteArray}{s:ByteArray}(e:nm.Nodup){i:Nat}(b:nm[i]?=some s):kp nm s=i:=by
 have f:=(aK.1 b).1;have a:kp nm s<nm.length:=by
  unfold kp;rw[List.findIdx_lt_length];exact⟨s,ay b,(ny s s).2 rfl⟩
 have d:nm[kp nm s]'a=s:=(ny s _).1 (List.findIdx_getElem (w:=a));have c:nm[kp nm s]?=nm[i]? :=by rw[b,aA a,d]
 exact(List.getElem?_inj a e).1 c
def bw{a:Type}(f:a->List Wd->List ByteArray->Wd×List Wd×List ByteArray):List a->List Wd->List ByteArray->List Wd×List Wd×List ByteArray
 | [],ws,nm=>([],ws,nm)
 | y::l,ws,nm=>((f y ws nm).1::(bw f l (f y ws nm).2.1 (f y ws nm).2.2).1,(bw f l (f y ws nm).2.1 (f y ws nm).2.2).2)
def aN:(n:Nat)->Tm n->List Wd->List ByteArray->Wd×List Wd×List ByteArray
 | 0,_,ws,nm=>((0,0),ws,nm)
 | n+1,x,ws,nm=>
  if x.1.1=2 then ((2,(kp (ei nm x.1.2.2) x.1.2.2:Int)),ws,ei nm x.1.2.2)
  else if x.1.1=4 then
   ((4,((bw (aN n) x.2.2 ws nm).2.1.length:Int)),(bw (aN n) x.2.2 ws nm).2.1++(0,(x.2.2.length:Int))::(bw (aN n) x.2.2 ws nm).1,(bw (aN n) x.2.2 ws nm).2.2)
  else ((x.1.1,x.1.2.1),ws,nm)
theorem DG{a:Type}(f:a->List Wd->List ByteArray->Wd×List Wd×List ByteArray)(l:List a)(y:a)(ws:List Wd)(nm:List ByteArray):bw f (l++ [y]) ws nm=((bw f l ws nm).1++ [(f y (bw f l ws nm).2.1 (bw f l ws nm).2.2).1],(f y (bw f l ws nm).2.1 (bw f l ws nm).2.2).2):=by
 induction l generalizing ws nm with
 | nil=>simp[bw]
 | cons b l ih=>simp[bw,ih]
theorem f9{a:Type}(f:a->List Wd->List ByteArray->Wd×List Wd×List ByteArray)(l:List a)(ws:List Wd)(nm:List ByteArray):(bw f l ws nm).1.length=l.length:=by
 induction l generalizing ws nm with
 | nil=>simp[bw]
 | cons b l ih=>simp[bw,ih]
theorem wO(nm:List ByteArray)(s:ByteArray):(ei nm s).length<=nm.length+1:=by
 unfold ei;split<;>simp
theorem g8:(n:Nat)->(x:Tm n)->(ws:List Wd)->(nm:List ByteArray)->((aN n x ws nm).2.1.length:Int)=ws.length+sz n x/\(aN n x ws nm).2.2.length<=nm.length+(aq n x).length
 | 0,_,_,_=>by simp[aN,sz]
 | n+1,x,ws,nm=>by
  have key:∀(l:List (Tm n))(ws:List Wd)(nm:List ByteArray),((bw (aN n) l ws nm).2.1.length:Int)+l.length=ws.length+(l.map λy=>1+sz n y).sum/\(bw (aN n) l ws nm).2.2.length<=nm.length+(l.flatMap λy=>aq n y).length:=by
   intro l
   induction l with
   | nil=>intro ws nm;simp[bw]
   | cons y l ih=>
    intro ws nm;obtain⟨e,f⟩:=g8 n y ws nm;obtain⟨g,h⟩:=ih (aN n y ws nm).2.1 (aN n y ws nm).2.2;simp only[bw,aH,bt,bj,aX,aW];exact⟨by omega,by omega⟩
  obtain⟨i,j⟩:=key x.2.2 ws nm;have k:=wO nm x.1.2.2;have c:=f9 (aN n) x.2.2 ws nm;have d:(aq (n+1) x).length=1+(x.2.2.flatMap λy=>aq n y).length:=by simp[aq];omega
  rw[d];by_cases b:x.1.1=2
  ·have a:¬x.1.1=4:=by omega
   simp only[aN,sz,if_pos b,if_neg a];exact⟨by omega,by omega⟩
  ·by_cases a:x.1.1=4
   ·simp only[aN,sz,if_neg b,if_pos a,aX,aW,c];exact⟨by omega,by omega⟩
   ·simp only[aN,sz,if_neg b,if_neg a];exact⟨by omega,by omega⟩
def dy(base:Nat)(e:bW)(room:Int)(ws:List Wd)(nm:List ByteArray)(M:Nat->Prop)(w:World):Prop:=
 ∃d a c,HB e room d a c w/\w.ownsRow base 125 2 d ws.length (aP ws)/\jp base nm a c w/\M e.b/\(∀b,d.ownBlock=some b->M b)/\(∀b,a.ownBlock=some b->M b)/\∀b,mapBlock c=some b->M b
theorem dJ{base:Nat}{e:TypeId}{sz:Nat}{v:Value}{n:Nat}{xs:List Value}{w w':World}{S:Nat->Prop}(c:w.ownsRow base e sz v n xs)(k:bD S w w')(h:∀b,v.ownBlock=some b->¬S b):w'.ownsRow base e sz v n xs:=by
 refine⟨c.1,?_⟩;rcases c.2 with⟨e,g⟩|⟨a,cap,f,e,i,d,j⟩
 ·exact ae ⟨e,g⟩
 ·exact af ⟨a,cap,f,e,i,(k.block a (aE.1 d).1 (h a (by rw[e];rfl))).trans d,j⟩
theorem dy.kept{base:Nat}{d:bW}{room:Int}{ws:List Wd}{nm:List ByteArray}{M S:Nat->Prop}{w w':World}(m:dy base d room ws nm M w)(k:bD S w w')(c:∀b,M b->b<w.heap.size->¬S b):dy base d room ws nm M w':=by
 obtain⟨q,o,p,e,g,f,h,i,j,l⟩:=m;refine⟨q,o,p,e.kept (k.block d.b e.lt (c d.b h e.lt)),dJ g k λb a=>c b (i b a) (g.lt b a).2,?_,h,i,j,l⟩;refine f.kept k (λb a=>c b (j b a) (f.1.lt b a).2) λb a=>c b (l b a) ?_;rcases f.2.2 with⟨rfl,_⟩|⟨s,r,rfl,_,n,_⟩
 ·simp[mapBlock]at a
 ·simp only[mapBlock]at a;obtain rfl:=ap a;exact n.lt
theorem dy.mono{base:Nat}{c:bW}{room:Int}{ws:List Wd}{nm:List ByteArray}{M S:Nat->Prop}{w:World}(d:dy base c room ws nm M w)(k:∀b,M b->S b):dy base c room ws nm S w:=by
 obtain⟨o,m,n,e,f,g,h,i,j,l⟩:=d;exact⟨o,m,n,e,f,g,k _ h,λb a=>k b (i b a),λb a=>k b (j b a),λb a=>k b (l b a)⟩
def kZ(base:Nat)(a:bW)(room:Int)(ws:List Wd)(nm:List ByteArray)(M:Nat->Prop)(w w':World):Prop:=dy base a room ws nm (λb=>M b\/w.heap.size<=b) w'/\bD M w w'
theorem vB{w:World}{base h:Nat}{e f:TypeId}{s o n m:Nat}{v g:Value}{xs ys:List Value}(i:w.ownsRow base e s v n xs)(j:w.ownsRow h f o g m ys)(l:e≠f):∀b,v.ownBlock=some b->g.ownBlock≠some b:=by
 intro b c d;rcases i.2 with⟨rfl,_⟩|⟨t,cap,q,rfl,_,k,_⟩
 ·simp[Value.ownBlock]at c
 ·rcases j.2 with⟨rfl,_⟩|⟨u,p,r,rfl,_,a,_⟩
  ·simp[Value.ownBlock]at d
  ·simp only[Value.ownBlock]at c d;obtain rfl:=ap c;obtain rfl:=ap d;rw[k]at a;injection a with a;injection a with _ a;exact l a
theorem mh{w:World}{base:Nat}{e:TypeId}{s n:Nat}{v:Value}{xs:List Value}{c:bW}{room:Int}{tv lv mv:Value}(h:w.ownsRow base e s v n xs)(f:HB c room tv lv mv w)(g:e≠123/\e≠127):v.ownBlock≠some c.b:=λe=>by
 rcases h.2 with⟨rfl,_⟩|⟨k,cap,j,rfl,_,i,_⟩
 ·simp[Value.ownBlock]at e
 ·simp[Value.ownBlock]at e;subst e;have a:w.heap[c.b]?=_:=f.2;rw[i]at a;injection a with a;injection a with a d;rcases f.1.2 with t1|t1
  ·exact g.1 (d.trans t1)
  ·exact g.2 (d.trans t1)
theorem CN{w:World}{base:Nat}{e:TypeId}{s n:Nat}{v:Value}{xs:List Value}{nm:List ByteArray}{lv mv:Value}{f:Nat}(g:w.ownsRow base e s v n xs)(h:jp f nm lv mv w):∀b,v.ownBlock=some b->mapBlock mv≠some b:=by
 intro b a c;rcases g.2 with⟨rfl,_⟩|⟨o,cap,m,rfl,_,i,_⟩
 ·simp[Value.ownBlock]at a
 ·rcases h.2.2 with⟨rfl,_⟩|⟨p,k,rfl,_,j,_⟩
  ·simp[mapBlock]at c
  ·simp only[Value.ownBlock,mapBlock]at a c;obtain rfl:=ap a;obtain rfl:=ap c;obtain⟨es,l,d,_⟩:=j;rw[i]at d;cases d
theorem sg{w:World}{nm:List ByteArray}{lv mv:Value}{base:Nat}{a:bW}{room:Int}{tv i j:Value}(f:jp base nm lv mv w)(d:HB a room tv i j w):mapBlock mv≠some a.b:=λe=>by
 rcases f.2.2 with⟨rfl,_⟩|⟨l,D,rfl,_,h,_⟩
 ·simp[mapBlock]at e
 ·simp only[mapBlock]at e;obtain rfl:=ap e;obtain⟨es,k,g,_⟩:=h;have c:w.heap[a.b]?=_:=d.2;rw[g]at c;cases c
theorem IK{nm b:List ByteArray}{s:ByteArray}{i:Nat}(f:b.Nodup)(e:b[i]?=some s)(a:b=nm\/b=nm++ [s]):b=ei nm s/\i=kp (ei nm s) s:=by
 have c:b=ei nm s:=by
  unfold ei;by_cases d:s∈nm
  ·rw[if_pos ((wP nm s).2 d)];rcases a with a|a
   ·exact a
   ·rw[a,eH]at f;exact absurd rfl (f.2.2 s d s (by simp))
  ·rw[if_neg (λc=>d ((wP nm s).1 c))];rcases a with a|a
   ·rw[a]at e;exact absurd (ay e) d
   ·exact a
 refine⟨c,?_⟩;rw[<-c];exact(zb f e).symm
theorem IY(base:Nat)(a:bW)(room:Int)(ws:List Wd)(nm:List ByteArray)(M:Nat->Prop)(s:ByteArray)(w:World)(r:dy base a room ws nm M w)(v:base<=w.heap.size)(u:nm.length<=100000)(x:s.size<=2048):Calls Tryz.prog 115 #[.pointer (some ⟨a.b,a.o+2,none⟩),.string s] w λe w'=>e=.returned (.int .i64 (kp (ei nm s) s:Int))/\Hid (kZ base a room ws (ei nm s) M w w'):=by
 obtain⟨m,D,F,g,c,f,h,t,i,j⟩:=r;refine(Bc base a room m D F nm s w g f v u x).mono ?_;rintro e w' ⟨H,rfl,I,E,G,n⟩;obtain⟨y,z,A,k,l,B,C⟩:=n.out;obtain⟨p,q⟩:=IK k.2.1 y z;subst p;refine⟨by rw[q],⟨m,E,G,A,dJ c l ?_,k,ae h,λb e=>ae (t b e),?_,?_⟩,l.mono ?_⟩
 ·rintro b e (rfl|d|d)
  ·exact mh c g (by decide) e
  ·exact vB c f.1 (by decide) b e d
  ·exact CN c f b e d
 ·intro b e;rcases B b e with e|e
  ·exact ae (i b e)
  ·exact af e
 ·intro b e;rcases C b e with e|e
  ·exact ae (j b e)
  ·exact af e
 ·rintro b (rfl|e|e)
  ·exact h
  ·exact i b e
  ·exact j b e
theorem L6(base:Nat)(d:bW)(room:Int)(ws:List Wd)(nm:List ByteArray)(M:Nat->Prop)(ps:List Wd)(m pc:Nat)(pa:Option Addr)(w:World)(x:dy base d room ws nm M w)(C:base<=w.heap.size)(A:ws.length<=100000)(E:ps.length=m)(B:m<=1000)(t:∀w1,bD M w w1->eK w1 ps pa):Calls Tryz.prog 116 #[.pointer (some ⟨d.b,d.o+1,none⟩),.slice pa m pc] w λe w'=>e=.returned (.agg #[.int .i64 4,.int .i64 ws.length])/\Hid (kZ base d room (ws++(0,(m:Int))::ps) nm M w w'):=by
 obtain⟨q,J,K,a,f,g,i,j,y,z⟩:=x;obtain⟨⟨L,u,N,O⟩,D⟩:=a.cells;obtain⟨l,n,F⟩:∃l n,q=.slice l ws.length n:=by
  rcases f.2 with⟨e,v⟩|⟨Q,c,P,e,_⟩
  ·exact⟨none,0,by rw[e,v]⟩
  ·exact⟨_,c,e⟩
 subst E;refine(xN base d.b (d.o+1) q l n ws.length ws ps ps.length pc pa w F rfl rfl A B C u (D _) a.lt (mh f a (by decide)) f ?_).mono ?_
 ·intro w1 k;refine t w1 (k.mono ?_);rintro b (rfl|e)
  ·exact i
  ·exact j b e
 ·rintro e w' ⟨rfl,r,s⟩;obtain⟨G,H,p,I⟩:=s.out;refine⟨rfl,⟨r,J,K,(a.set1 r).kept H,?_,g.kept p ?_ ?_,ae i,?_,λb e=>ae (y b e),λb e=>ae (z b e)⟩,p.mono ?_⟩
  ·have e:(ws++(0,(ps.length:Int))::ps).length=ws.length+1+ps.length:=by simp;omega
   rw[e];exact G
  ·rintro b e (rfl|h)
   ·exact mh g.1 a (by decide) e
   ·exact vB f g.1 (by decide) b h e
  ·rintro b e (rfl|h)
   ·exact sg g a e
   ·exact CN f g b h e
  ·intro b e;rcases I b e with e|e
   ·exact ae (j b e)
   ·exact af e
  ·rintro b (rfl|e)
   ·exact i
   ·exact j b e
theorem dy.inside{base:Nat}{f:bW}{room:Int}{ws:List Wd}{nm:List ByteArray}{M:Nat->Prop}{w:World}(g:dy base f room ws nm M w):dy base f room ws nm (λb=>M b/\b<w.heap.size) w:=by
 obtain⟨o,m,n,d,e,c,h,i,j,k⟩:=g;refine⟨o,m,n,d,e,c,⟨h,d.lt⟩,λb a=>⟨i b a,(e.lt b a).2⟩,λb a=>⟨j b a,(c.1.lt b a).2⟩,λb a=>⟨k b a,?_⟩⟩;rcases c.2.2 with⟨rfl,_⟩|⟨q,p,rfl,_,l,_⟩
 ·simp[mapBlock]at a
 ·simp only[mapBlock]at a;obtain rfl:=ap a;exact l.lt
theorem dy.later{base:Nat}{c:bW}{room:Int}{ws:List Wd}{nm:List ByteArray}{M:Nat->Prop}{w d:World}(a:dy base c room ws nm M w)(e:Below w.heap.size w d):dy base c room ws nm (λb=>M b/\b<w.heap.size) d:=
 a.inside.kept (aR e (λ_=>False)) λ_ _ _ a=>a
theorem yN{base:Nat}{e:bW}{room:Int}{ws:List Wd}{nm:List ByteArray}{M:Nat->Prop}{w c w2:World}(a:kZ base e room ws nm (λb=>M b/\b<w.heap.size) c w2)(j:Below w.heap.size w c)(o:w.heap.size+2<=c.heap.size)(v0 v1:Value):kZ base e room ws nm M w ((w2.setCell ⟨w.heap.size+1,0,none⟩ v0).setCell ⟨w.heap.size+1,1,none⟩ v1):=by
 obtain⟨g,h⟩:=a;have l:=aY w2 (w.heap.size+1) 0 v0;have m:=aY (w2.setCell ⟨w.heap.size+1,0,none⟩ v0) (w.heap.size+1) 1 v1;have f:=l.trans m (λb _ a=>a);refine⟨(g.kept f ?_).mono ?_,?_⟩
 ·rintro b (⟨_,d⟩|d) _ n
  ·omega
  ·omega
 ·rintro b (⟨k,_⟩|d)
  ·exact ae k
  ·exact af (by omega)
 ·have i:bD (λb=>(M b/\b<w.heap.size)\/b=w.heap.size+1) c _:=(h.mono (λb a=>ae a)).trans f (λb _ a=>af a);refine(aR j M).trans i ?_;rintro b d (a|a)
  ·exact a.1
  ·omega
theorem tn{base:Nat}{g:bW}{room:Int}{ws:List Wd}{nm:List ByteArray}{M:Nat->Prop}{w c w2:World}(e:kZ base g room ws nm (λb=>M b/\b<w.heap.size) c w2):∀b,w.heap.size<=b->b<c.heap.size->∀o,w2.cell? ⟨b,o,none⟩=c.cell? ⟨b,o,none⟩/\w2.frozen? ⟨b,o,none⟩=c.frozen? ⟨b,o,none⟩:=by
 intro b h f o;have d:=e.2.block b f (λe=>by omega);exact⟨bi d o,iq (a:=⟨b,o,none⟩) d⟩
theorem FU(d:bW)(k u:Int)(s:ByteArray)(a:Option Addr)(l c:Nat)(w:World)(f:¬k=2)(g:¬k=4):Calls Tryz.prog 86 #[.pointer (some ⟨d.b,d.o,none⟩),.agg #[.int .i64 k,.int .i64 u,.string s,.slice a l c]] w λe w'=>e=.returned (.agg #[.int .i64 k,.int .i64 u])/\Below w.heap.size w w':=by
 have h:(k==2)=false:=by simpa using f
 have i:(k==4)=false:=by simpa using g
 go_enter Tryz.func86,Tryz.ntmps86;go_wp2_with fail;exact ao (v:=.agg #[.int .i64 k,.int .i64 u]) (by simp[results,Tryz.results86,go_sem]) rfl ⟨rfl,by go_grown⟩
theorem FT(base:Nat)(g:bW)(room:Int)(ws:List Wd)(nm:List ByteArray)(M:Nat->Prop)(u:Int)(s:ByteArray)(a:Option Addr)(l c:Nat)(w:World)(x:Hid (dy base g room ws nm M w))(D:base<=w.heap.size)(y:nm.length<=100000)(z:s.size<=2048):Calls Tryz.prog 86 #[.pointer (some ⟨g.b,g.o,none⟩),.agg #[.int .i64 2,.int .i64 u,.string s,.slice a l c]] w λe w'=>e=.returned (.agg #[.int .i64 2,.int .i64 (kp (ei nm s) s:Int)])/\Hid (kZ base g room ws (ei nm s) M w w'):=by
 generalize p:kp (ei nm s) s=k;go_enter Tryz.func86,Tryz.ntmps86;go_wp2_with fail;generalize j:(w.alloc (Obj.cells #[Value.int IntKind.i64 2,Value.int IntKind.i64 u,Value.string s,Value.slice a l c] 30)).alloc (Obj.cells #[Value.int IntKind.i64 0,Value.int IntKind.i64 0] 125)=d;have f:Hid (Below w.heap.size w d.drew/\d.drew.heap.size=w.heap.size+2):=by
  subst j;exact⟨(((ah _ _).alloc (ag _) _).alloc (by simp) _).drew,by simp[World.drew]⟩
 have A:d.cell? ⟨w.heap.size,2,none⟩=some (.string s):=by subst j;simp[go_sem]
 have i:Hid ((d.cell? ⟨w.heap.size+1,0,none⟩=some (.int .i64 0)/\d.cell? ⟨w.heap.size+1,1,none⟩=some (.int .i64 0))/\d.frozen? ⟨w.heap.size+1,0,none⟩=false/\d.frozen? ⟨w.heap.size+1,1,none⟩=false):=by subst j;simp[Hid,go_sem]
 have q:Hid (Calls Tryz.prog 115 #[.pointer (some ⟨g.b,g.o+2,none⟩),.string s] d.drew λe w'=>e=.returned (.int .i64 k)/\Hid (kZ base g room ws (ei nm s) (λb=>M b/\b<w.heap.size) d.drew w')):=by
  have n:=IY base g room ws nm _ s d.drew (x.out.later f.out.1) (by have:=f.out.2;omega) y z;rw[p]at n;exact n
 clear j p;go_region_held3 (λw'=>w'.cell? ⟨w.heap.size,2,none⟩=some (.string s)) (go_keep) ((go_at_call 115;refine q.out.mono ?_;rintro e F ⟨rfl,m⟩;have h:=ai (tn m.out);have E:=λo=>(h.out w.heap.size (ag _) (by have:=f.out.2;omega) o).1;have t:=(h.out (w.heap.size+1) (by omega) (by have:=f.out.2;omega) 0).1.trans i.out.1.1;have d1:=(h.out (w.heap.size+1) (by omega) (by have:=f.out.2;omega) 1).1.trans i.out.1.2;have B:=(h.out (w.heap.size+1) (by omega) (by have:=f.out.2;omega) 0).2.trans i.out.2.1;have C:=(h.out (w.heap.size+1) (by omega) (by have:=f.out.2;omega) 1).2.trans i.out.2.2));have r:=ai (yN m.out f.out.1 (dp f.out.2.symm) (.int .i64 2) (.int .i64 k));go_wp2_with fail;exact ao (v:=.agg #[.int .i64 2,.int .i64 k]) (by simp[results,Tryz.results86,go_sem,t,d1]) rfl ⟨rfl,r.out⟩
def EU(x:Wd):Value:=.agg #[.int .i64 x.1,.int .i64 x.2]
def Lc(n:Nat):Prop:=∀(x:Tm n)(base:Nat)(a:bW)(room:Int)(ws:List Wd)(nm:List ByteArray)(M:Nat->Prop)(w:World),dy base a room ws nm M w->In w.heap.size w n x->ch (λb=>¬M b) n x->base<=w.heap.size->aB ⟨n,x⟩->ws.length+2*(aq n x).length<=99000->nm.length+(aq n x).length<=99000->
 Calls Tryz.prog 86 #[.pointer (some ⟨a.b,a.o,none⟩),dg n x] w λe w'=>e=.returned (EU (aN n x ws nm).1)/\Hid (kZ base a room (aN n x ws nm).2.1 (aN n x ws nm).2.2 M w w')
def vR(n:Nat)(p:List (Tm n))(len base:Nat)(c:bW)(room:Int)(ws:List Wd)(nm:List ByteArray)(M:Nat->Prop)(g:Nat)(w a:World)(k:Nat)(wr:World):Prop:=
 wr.ownsRow g 125 2 (.slice (some ⟨g,0,none⟩) len len) len (aP ((bw (aN n) (p.take k) ws nm).1++List.replicate (len-k) (0,0)))/\
 dy base c room (bw (aN n) (p.take k) ws nm).2.1 (bw (aN n) (p.take k) ws nm).2.2 (λb=>(M b/\b<w.heap.size)\/a.heap.size<=b) wr/\
 bD (λb=>(M b/\b<w.heap.size)\/b=g) a wr
theorem tx(n:Nat):(madeCells #[.int .i64 0,.int .i64 0] (n*2)).toList=aP (List.replicate n (0,0)):=by
 apply List.ext_getElem?;intro b;by_cases d:b<n*2
 ·obtain⟨k,a,e,rfl⟩:∃k a,a<2/\b=k*2+a:=⟨b / 2,b % 2,Nat.mod_lt _ (by decide),by omega⟩;have f:k<n:=by omega
  rw[ii _ k (0,0) (by simp[f]) a e];have c:(madeCells #[.int .i64 0,.int .i64 0] (n*2))[k*2+a]?=some ((#[.int .i64 0,.int .i64 0]:Array Value)[(k*2+a) % 2]!):=by
   simp[madeCells,d]
  rw[jL,c,show (k*2+a) % 2=a by omega];have:a=0\/a=1:=by omega
  rcases this with rfl|rfl<;>rfl
 ·rw[eP (by simp[size_madeCells];omega),eP (by rw[bY];simp;omega)]
theorem pi:(l:List Wd)->(i:Nat)->(x:Wd)->i<l.length->((aP l).set (i*2) (.int .i64 x.1)).set (i*2+1) (.int .i64 x.2)=aP (l.set i x)
 | [],i,x,h=>by simp at h
 | y::l,0,x,_=>by simp[aP,oC]
 | y::l,i+1,x,h=>by
  have ih:=pi l i x (by simpa using h);have e:aP (y::l)=oC y++aP l:=rfl;have b:aP ((y::l).set (i+1) x)=oC y++aP (l.set i x):=rfl;have a:(oC y).length=2:=rfl;rw[e,b,<-ih];rw[gL _ _ (by rw[a];omega),gL _ _ (by rw[a];omega),a];rw[show (i+1)*2-2=i*2 by omega,show (i+1)*2+1-2=i*2+1 by omega]
theorem FW{n:Nat}{p:List (Tm n)}{len base:Nat}{k:bW}{room:Int}{ws:List Wd}{nm:List ByteArray}{M:Nat->Prop}{w w0:World}{d t1 t2 a:Value}(f:dy base k room ws nm M w)(e:w0.ownsRow (w.heap.size+2) 125 2 (.slice (some ⟨((w.alloc (.cells #[d,t1,t2,a] 30)).alloc (.cells #[.int .i64 0,.int .i64 0] 125)).heap.size,0,none⟩) len len) len (madeCells (Value.agg #[.int .i64 0,.int .i64 0]).cells (len*2)).toList)(c:((w.alloc (.cells #[d,t1,t2,a] 30)).alloc (.cells #[.int .i64 0,.int .i64 0] 125)).grownBy w0 none):(vR n p len base k room ws nm M (w.heap.size+2) w w0 0 w0/\Below w.heap.size w w0/\w.heap.size+2<w0.heap.size)/\w0.cell? ⟨w.heap.size,3,none⟩=some a/\ (w0.cell? ⟨w.heap.size+1,0,none⟩=some (.int .i64 0)/\w0.cell? ⟨w.heap.size+1,1,none⟩=some (.int .i64 0))/\w0.frozen? ⟨w.heap.size+1,0,none⟩=false/\w0.frozen? ⟨w.heap.size+1,1,none⟩=false:=by
 have l:((w.alloc (.cells #[d,t1,t2,a] 30)).alloc (.cells #[.int .i64 0,.int .i64 0] 125)).heap.size=w.heap.size+2:=by simp
 rw[l]at e;have q:Below w.heap.size w ((w.alloc (.cells #[d,t1,t2,a] 30)).alloc (.cells #[.int .i64 0,.int .i64 0] 125)):=((ah _ _).alloc (ag _) _).alloc (by simp) _;have h:Below (w.heap.size+2) ((w.alloc (.cells #[d,t1,t2,a] 30)).alloc (.cells #[.int .i64 0,.int .i64 0] 125)) w0:=⟨c.os,c.tape,c.output,c.size,λb g=>c.block b (by omega) (by simp)⟩;have g:=q.trans (h.mono (by omega));have i:=aj h;have j:=fP h;refine⟨⟨⟨?_,?_,bD.refl _ _⟩,g,(e.lt _ rfl).2⟩,?_,⟨?_,?_⟩,?_,?_⟩
 ·simp only[List.take_zero,bw,lM,Nat.sub_zero];have m:=tx len;have o:(Value.agg #[.int .i64 0,.int .i64 0]).cells= #[.int .i64 0,.int .i64 0]:=rfl;rw[o,m]at e;exact e
 ·simp only[List.take_zero,bw];exact(f.later g).mono λb f=>ae f
 ·rw[i _ _ (by omega)];simp[go_sem]
 ·rw[i _ _ (by omega)];simp[go_sem]
 ·rw[i _ _ (by omega)];simp[go_sem]
 ·rw[j _ _ (by omega)];simp[go_sem]
 ·rw[j _ _ (by omega)];simp[go_sem]
theorem nI{w:World}{base g L c:Nat}{ws:List Wd}(b:w.ownsRow base 125 2 (.slice (some ⟨g,0,none⟩) L c) L (aP ws)):∀j,w.frozen? ⟨g,j,none⟩=false:=by
 intro j;rcases b.2 with⟨d,_⟩|⟨l,cap,h,f,m,e,_⟩
 ·simp at d
 ·injection f with a i k;injection a with a;injection a with a _;subst a;simp[World.frozen?,e]
theorem vR.step{n:Nat}{p:List (Tm n)}{len base:Nat}{l:bW}{room:Int}{ws:List Wd}{nm:List ByteArray}{M:Nat->Prop}{g:Nat}{w d:World}{k:Nat}{wr w1 w2:World}(H:vR n p len base l room ws nm M g w d k wr)(G:w.heap.size<=g)(I:g<d.heap.size)(K:k<len)(L:p.length=len){x:Tm n}(A:p[k]?=some x)(i:Below wr.heap.size wr w1)(z:kZ base l room (aN n x (bw (aN n) (p.take k) ws nm).2.1 (bw (aN n) (p.take k) ws nm).2.2).2.1 (aN n x (bw (aN n) (p.take k) ws nm).2.1 (bw (aN n) (p.take k) ws nm).2.2).2.2 (λb=>((M b/\b<w.heap.size)\/d.heap.size<=b)/\b<wr.heap.size) w1 w2):vR n p len base l room ws nm M g w d (k+1) ((w2.setCell ⟨g,k*2,none⟩ (.int .i64 (aN n x (bw (aN n) (p.take k) ws nm).2.1 (bw (aN n) (p.take k) ws nm).2.2).1.1)).setCell ⟨g,k*2+1,none⟩ (.int .i64 (aN n x (bw (aN n) (p.take k) ws nm).2.1 (bw (aN n) (p.take k) ws nm).2.2).1.2))/\ (w2.cell? ⟨g,k*2,none⟩=some (.int .i64 0)/\w2.cell? ⟨g,k*2+1,none⟩=some (.int .i64 0))/\w2.frozen? ⟨g,k*2,none⟩=false/\w2.frozen? ⟨g,k*2+1,none⟩=false:=by
 obtain⟨m,E,o⟩:=H;obtain⟨u,q⟩:=z;have J:g<wr.heap.size:=(m.lt g rfl).2;have N:=i.size;have O:=o.size;have r:bw (aN n) (p.take (k+1)) ws nm=((bw (aN n) (p.take k) ws nm).1++ [(aN n x (bw (aN n) (p.take k) ws nm).2.1 (bw (aN n) (p.take k) ws nm).2.2).1],(aN n x (bw (aN n) (p.take k) ws nm).2.1 (bw (aN n) (p.take k) ws nm).2.2).2):=by
  rw[dw,A];exact DG _ _ _ _ _
 have s:(bw (aN n) (p.take k) ws nm).1.length=k:=by rw[f9,dn];omega
 have f:w2.ownsRow g 125 2 (.slice (some ⟨g,0,none⟩) len len) len (aP ((bw (aN n) (p.take k) ws nm).1++List.replicate (len-k) (0,0))):=by
  refine dJ (dF m i) q λb h=>?_;simp only[Value.ownBlock]at h;obtain rfl:=ap h;omega
 generalize bw (aN n) (p.take k) ws nm=e at*;generalize aN n x e.2.1 e.2.2=c at*;have B:(e.1++List.replicate (len-k) (0,0))[k]?=some ((0,0):Wd):=by
  rw[dN (by omega),s,iZ,List.getElem?_replicate];simp;omega
 have C:=aY w2 g (k*2) (.int .i64 c.1.1);have D:=aY (w2.setCell ⟨g,k*2,none⟩ (.int .i64 c.1.1)) g (k*2+1) (.int .i64 c.1.2);have t:=C.trans D (λb _ a=>a);refine⟨⟨?_,?_,?_⟩,ij f k (0,0) B,nI f _,nI f _⟩
 ·rw[r];have j:=iz (iz f (k*2) (.int .i64 c.1.1)) (k*2+1) (.int .i64 c.1.2);rw[pi _ k c.1 (by simp;omega)]at j;have es:(e.1++List.replicate (len-k) ((0,0):Wd)).set k c.1=(e.1++ [c.1])++List.replicate (len-(k+1)) (0,0):=by
   rw[gL _ _ (by omega)];have:len-k=(len-(k+1))+1:=by omega
   rw[this,List.replicate_succ];simp[s]
  rw[es]at j;exact j
 ·rw[r];refine(u.kept t ?_).mono ?_
  ·rintro b (⟨a,_⟩|a) _ h<;>omega
  ·rintro b (⟨a,_⟩|a)
   ·exact a
   ·exact af (by omega)
 ·have v:bD (λb=>(M b/\b<w.heap.size)\/b=g) d w1:=o.trans (aR i (λ_=>False)) (λ_ _ a=>a.elim)
  have y:bD (λb=>(M b/\b<w.heap.size)\/b=g) d w2:=v.trans q (λb F a=>by
   rcases a.1 with a|a
   ·exact ae a
   ·omega)
  exact y.trans t (λb _ a=>af a)
theorem FX{n:Nat}{p:List (Tm n)}{len base:Nat}{q:bW}{room:Int}{ws:List Wd}{nm:List ByteArray}{M:Nat->Prop}{g:Nat}{w d:World}{k:Nat}{wr:World}(H:vR n p len base q room ws nm M g w d k wr)(t:w.heap.size<g)(u:g<d.heap.size)(h:Below w.heap.size w d){b o:Nat}(i:b<w.heap.size)(m:¬M b){x:Tm n}(l:dr w b o n x)(e:In w.heap.size w n x)(f:ch (λb=>¬M b) n x):dr wr b o n x/\In w.heap.size wr n x/\ch (λb=>¬(((M b/\b<w.heap.size)\/d.heap.size<=b)/\b<wr.heap.size)) n x:=by
 have j:∀a,¬M a/\a<w.heap.size->wr.heap[a]?=d.heap[a]? :=λa r=>H.2.2.block a (by omega) (by rintro (c|c);exact r.1 c.1;omega);refine⟨(l.below h i).block (j b ⟨m,i⟩),In.off j (In.offB f e) (e.below h),(In.offB f e).mono ?_⟩;rintro a ⟨s,v⟩ ⟨c|c,_⟩
 ·exact s c.1
 ·omega
theorem FV{n:Nat}{p:List (Tm n)}{len base:Nat}{f:bW}{room:Int}{ws:List Wd}{nm:List ByteArray}{M:Nat->Prop}{g:Nat}{w e:World}{wr:World}(H:vR n p len base f room ws nm M g w e len wr)(E:p.length=len)(C:g=w.heap.size+2)(D:g<e.heap.size)(m:Below w.heap.size w e):dy base f room (bw (aN n) p ws nm).2.1 (bw (aN n) p ws nm).2.2 (λb=>((M b/\b<w.heap.size)\/e.heap.size<=b)) wr/\(∀w1,bD (λb=>((M b/\b<w.heap.size)\/e.heap.size<=b)) wr w1->eK w1 (bw (aN n) p ws nm).1 (some ⟨g,0,none⟩))/\ (∀o,wr.cell? ⟨w.heap.size+1,o,none⟩=e.cell? ⟨w.heap.size+1,o,none⟩/\wr.frozen? ⟨w.heap.size+1,o,none⟩=e.frozen? ⟨w.heap.size+1,o,none⟩)/\ ∀k j w2,kZ base f room k j (λb=>((M b/\b<w.heap.size)\/e.heap.size<=b)) wr w2-> (∀o,w2.cell? ⟨w.heap.size+1,o,none⟩=wr.cell? ⟨w.heap.size+1,o,none⟩/\w2.frozen? ⟨w.heap.size+1,o,none⟩=wr.frozen? ⟨w.heap.size+1,o,none⟩)/\ ∀v0 v1,kZ base f room k j M w ((w2.setCell ⟨w.heap.size+1,0,none⟩ v0).setCell ⟨w.heap.size+1,1,none⟩ v1):=by
 obtain⟨h,l,i⟩:=H;rw[bk (by omega)]at h l;rw[iZ,lN,ee]at h;have F:=i.size;refine⟨l,λw1 x=>af ⟨_,rfl,λy B v=>?_⟩,λo=>?_,λk j w2 q=>⟨λo=>?_,λv0 v1=>?_⟩⟩
 ·have:=(dJ h x (λb d=>by
    simp only[Value.ownBlock]at d;obtain rfl:=ap d
    omega)).cells (g:=g) rfl y B v
  exact this
 ·have d:=i.block (w.heap.size+1) (by omega) (by omega);exact⟨bi d o,iq (a:=⟨w.heap.size+1,o,none⟩) d⟩
 ·have d:=q.2.block (w.heap.size+1) (by omega) (by omega);exact⟨bi d o,iq (a:=⟨w.heap.size+1,o,none⟩) d⟩
 ·obtain⟨t,u⟩:=q;have z:=aY w2 (w.heap.size+1) 0 v0;have A:=aY (w2.setCell ⟨w.heap.size+1,0,none⟩ v0) (w.heap.size+1) 1 v1;have s:=z.trans A (λb _ c=>c);refine⟨(t.kept s ?_).mono ?_,?_⟩
  ·rintro b (c|c) _ d<;>omega
  ·rintro b ((c|c)|c)
   ·exact ae c.1
   ·exact af (by omega)
   ·exact af (by omega)
  ·refine(((aR m M).trans i ?_).trans u ?_).trans s ?_
   ·rintro b r (c|c)
    ·exact c.1
    ·omega
   ·rintro b r (c|c)
    ·exact c.1
    ·have:=m.size;omega
   ·intro b r c;omega
theorem tq(n:Nat)(l:List (Tm n))(ws:List Wd)(nm:List ByteArray):(bw (aN n) l ws nm).2.1.length<=ws.length+2*(l.flatMap λy=>aq n y).length/\(bw (aN n) l ws nm).2.2.length<=nm.length+(l.flatMap λy=>aq n y).length:=by
 induction l generalizing ws nm with
 | nil=>simp[bw]
 | cons y l ih=>
  obtain⟨a,b⟩:=g8 n y ws nm;obtain⟨d,e⟩:=ih (aN n y ws nm).2.1 (aN n y ws nm).2.2;have c:=(eC n y).2;simp only[bw,bj,aX];exact⟨by omega,by omega⟩
theorem yP(n:Nat)(p:List (Tm n))(k:Nat)(x:Tm n)(d:p[k]?=some x):((p.take k).flatMap λy=>aq n y).length+(aq n x).length<=(p.flatMap λy=>aq n y).length:=by
 have b:=aK.1 d;obtain⟨c,rfl⟩:=b;have a:p=p.take k++p[k]::p.drop (k+1):=by
  rw[<-eF c,im]
 conv=>rhs;rw[a]
 simp only[jM,bj,aX];omega
theorem IS(n:Nat)(ih:Lc n)(base:Nat)(d:bW)(room:Int)(ws:List Wd)(nm:List ByteArray)(M:Nat->Prop)(u:Int)(s:ByteArray)(a:Option Addr)(len pc:Nat)(p:List (Tm n))(D:Hid (p.length=len))(w:World)(ae:Hid (dy base d room ws nm M w))(aC:len<=8)(au:base<=w.heap.size)(G:Hid (p=[]\/∃b o,a=some ⟨b,o,none⟩/\b<w.heap.size/\¬M b/\∀(i:Nat)(y:Tm n),p[i]?=some y->dr w b (o+i*4) n y/\In w.heap.size w n y/\ch (λb=>¬M b) n y))(T:Hid (∀y∈p,aB ⟨n,y⟩))(H:Hid (ws.length+2*(p.flatMap λy=>aq n y).length<=99000))(Q:Hid (nm.length+(p.flatMap λy=>aq n y).length<=99000)):Calls Tryz.prog 86 #[.pointer (some ⟨d.b,d.o,none⟩),.agg #[.int .i64 4,.int .i64 u,.string s,.slice a len pc]] w λe w'=>e=.returned (EU (4,((bw (aN n) p ws nm).2.1.length:Int)))/\Hid (kZ base d room ((bw (aN n) p ws nm).2.1++(0,(len:Int))::(bw (aN n) p ws nm).1) (bw (aN n) p ws nm).2.2 M w w'):=by
 obtain⟨aj,N,U,V,W⟩:=bM kj;go_enter Tryz.func86,Tryz.ntmps86;go_wp2_with (at_make;refine jZ _ rfl _ _ 116 rfl (w.heap.size+2) 125 aj _ 2 Tryz.underlying116 N U V _ _ _ _ len rfl rfl rfl rfl (by rw[W];omega) (by unfold maxLen;omega) (by simp) ?_;intro z R L;have l:=ai (FW (p:=p) ae.out R L);have ap:=l.out.2.1;clear R L);clear N U V W;obtain⟨c,C⟩:∃c,w.heap.size+1+1=c:=⟨_,rfl⟩;have I:Hid (vR n p len base d room ws nm M c w z 0 z):=by subst C;exact l.out.1.1
 have F:c<z.heap.size:=by subst C;exact l.out.1.2.2
 rw[C];go_loopw [28] (λi wr=>∃k:Nat,k<=len/\i=.int .i64 k/\Hid (vR n p len base d room ws nm M c w z k wr)) (λi _=>len-(intOf i).toNat)
 case atStart=>exact⟨0,by omega,rfl,I.out⟩
 case round=>
  clear I;obtain⟨k,aw,rfl,g⟩:=hrel;by_cases O:k<len
  ·obtain⟨f,m⟩:∃f,p[k]?=some f:=⟨p[k]'(by rw[D.out];exact O),aA _⟩;obtain⟨b,o,rfl,af,P,S⟩:∃b o,a=some ⟨b,o,none⟩/\b<w.heap.size/\¬M b/\∀(i:Nat)(y:Tm n),p[i]?=some y->dr w b (o+i*4) n y/\In w.heap.size w n y/\ch (λb=>¬M b) n y:=by
    rcases G.out with e|e
    ·rw[e]at m;simp at m
    ·exact e
   obtain⟨X,Y,Z⟩:=S k f m;obtain⟨y1,y2,aa⟩:=FX g.out (by omega) F l.out.1.2.1 af P X Y Z;have av:c<wr.heap.size:=(g.out.1.lt c rfl).2;have aG:=g.out.2.2.size;cases n with
   | zero=>exact y1.elim
   | succ n=>
   obtain⟨x,q⟩:∃x:Wd,Hid (∀E,Below wr.heap.size wr E->Calls Tryz.prog 86 #[.pointer (some ⟨d.b,d.o,none⟩),.agg #[.int .i64 f.1.1,.int .i64 f.1.2.1,.string f.1.2.2,.slice f.2.1.1 f.2.2.length f.2.1.2]] E λe h=>e=.returned (.agg #[.int .i64 x.1,.int .i64 x.2])/\
       Hid (vR (n+1) p len base d room ws nm M c w z (k+1) ((h.setCell ⟨c,k*2,none⟩ (.int .i64 x.1)).setCell ⟨c,k*2+1,none⟩ (.int .i64 x.2))/\
        (h.cell? ⟨c,k*2,none⟩=some (.int .i64 0)/\h.cell? ⟨c,k*2+1,none⟩=some (.int .i64 0))/\h.frozen? ⟨c,k*2,none⟩=false/\h.frozen? ⟨c,k*2+1,none⟩=false)):=by
    refine⟨(aN (n+1) f (bw (aN (n+1)) (p.take k) ws nm).2.1 (bw (aN (n+1)) (p.take k) ws nm).2.2).1,λE B=>?_⟩;have aH:=tq (n+1) (p.take k) ws nm;have aI:=yP (n+1) p k f m;have aF:=H.out;have aD:=Q.out;have aE:=B.size;refine(ih f base d room _ _ _ E (g.out.2.1.later B) ((y2.below (B.mono (by omega))).mono (by omega)) aa (by omega) (T.out f (ay m)) (by omega) (by omega)).mono ?_;rintro e h ⟨rfl,A⟩;exact⟨rfl,g.out.step (by omega) F O D.out m B A.out⟩
   obtain⟨ak,al,am,an⟩:=y1;clear ih g G S X Y Z y2 aa m P H Q T;generalize f.2.2.length=aJ at*;have ax:(0:Int)<=(k:Int):=by omega
   have az:(k:Int)<(len:Int):=by omega
   have ar:b<wr.heap.size:=by omega
   go_wp2_with fail;refine(q.out _ ((ah _ _).alloc (ag _) _)).mono ?_;rintro e h ⟨rfl,J⟩;obtain⟨⟨K,d1⟩,ab,ad⟩:=J.out.2;clear q ak al am an;go_wp2_with fail;go_roundw
   case rel=>exact⟨k+1,by omega,by go_num,J.out.1⟩
   case measure=>simp[intOf];omega
  ·obtain rfl:k=len:=by omega
   have j:=ai (FV g.out D.out C.symm F l.out.1.2.1)
   have q:Hid (Calls Tryz.prog 116 #[.pointer (some ⟨d.b,d.o+1,none⟩),.slice (some ⟨c,0,none⟩) k k] wr λe w'=>e=.returned (.agg #[.int .i64 4,.int .i64 (bw (aN n) p ws nm).2.1.length])/\Hid (kZ base d room ((bw (aN n) p ws nm).2.1++(0,(k:Int))::(bw (aN n) p ws nm).1) (bw (aN n) p ws nm).2.2 _ wr w')):=
    L6 base d room (bw (aN n) p ws nm).2.1 (bw (aN n) p ws nm).2.2 _ (bw (aN n) p ws nm).1 k k (some ⟨c,0,none⟩) wr j.out.1 (by have:=g.out.2.2.size;omega) (by have:=(tq n p ws nm).1;have:=H.out;omega) (by rw[f9];exact D.out) (by omega) j.out.2.1
   have t:=l.out.2.2;clear g l ih G;go_wp2_with fail;refine q.out.mono ?_;rintro e h ⟨rfl,A⟩;have r:=ai (j.out.2.2.2 _ _ h A.out);have K:=((r.out.1 0).1.trans (j.out.2.2.1 0).1).trans t.1.1;have d1:=((r.out.1 1).1.trans (j.out.2.2.1 1).1).trans t.1.2;have ab:=((r.out.1 0).2.trans (j.out.2.2.1 0).2).trans t.2.1;have ad:=((r.out.1 1).2.trans (j.out.2.2.1 1).2).trans t.2.2;clear q j A t;go_wp2_with fail;exact ao (v:=.agg #[.int .i64 4,.int .i64 ((bw (aN n) p ws nm).2.1.length:Int)]) (by simp[results,Tryz.results86,go_sem,K,d1]) rfl ⟨rfl,r.out.2 _ _⟩
theorem DF{base:Nat}{c:bW}{room:Int}{ws:List Wd}{nm:List ByteArray}{M:Nat->Prop}{w w':World}(a:dy base c room ws nm M w)(b:Below w.heap.size w w'):kZ base c room ws nm M w w':=
 ⟨(a.later b).mono λ_ a=>ae a.1,aR b M⟩
theorem IR(n:Nat):Lc n:=by
 induction n with
 | zero=>intro a t p room d c s q _ w;exact w.elim
 | succ n ih=>
  intro a t p room d c s q u w k y A O J;have H:=w;obtain⟨⟨Q,R,N,M,L⟩,h⟩:=H;have z:=A (bm n a) (by simp[aq,bm]);have F:a.2.2.length<=8:=lp (bm n a) z;have G:a.1.2.2.size<=2048:=by have:=qD (bm n a) z;simp only[bm]at this;omega
  have K:(aq (n+1) a).length=1+(a.2.2.flatMap λf=>aq n f).length:=by simp[aq];omega
  by_cases g:a.1.1=2
  ·have e:aN (n+1) a d c=((2,(kp (ei c a.1.2.2) a.1.2.2:Int)),d,ei c a.1.2.2):=by simp only[aN,if_pos g]
   rw[e];have j:=FT t p room d c s a.1.2.1 a.1.2.2 a.2.1.1 a.2.2.length a.2.1.2 q u y (by omega) G;rw[<-g]at j;refine j.mono ?_;rintro e B ⟨rfl,r⟩;exact⟨by rw[g];rfl,r⟩
  ·by_cases i:a.1.1=4
   ·have e:aN (n+1) a d c=((4,((bw (aN n) a.2.2 d c).2.1.length:Int)),(bw (aN n) a.2.2 d c).2.1++(0,(a.2.2.length:Int))::(bw (aN n) a.2.2 d c).1,(bw (aN n) a.2.2 d c).2.2):=by simp only[aN,if_neg g,if_pos i]
    rw[e];have j:=IS n ih t p room d c s a.1.2.1 a.1.2.2 a.2.1.1 a.2.2.length a.2.1.2 a.2.2 rfl q u F y ?_ (λf l=>aU n a f A l) (by unfold Hid;omega) (by unfold Hid;omega)
    ·rw[<-i]at j;refine j.mono ?_;rintro e B ⟨rfl,r⟩;exact⟨by rw[i],r⟩
    ·rcases h with h|⟨b,o,e,v,h⟩
     ·exact ae h
     ·rcases k with k|⟨I,P,m,E,k⟩
      ·exact ae k
      ·rw[e]at m;injection m with m;injection m with C D;subst C D;exact af ⟨b,o,e,v,E,λx f l=>⟨(h x f l).1,(h x f l).2,k x f l⟩⟩
   ·have e:aN (n+1) a d c=((a.1.1,a.1.2.1),d,c):=by simp only[aN,if_neg g,if_neg i]
    rw[e];refine(FU p a.1.1 a.1.2.1 a.1.2.2 a.2.1.1 a.2.2.length a.2.1.2 q g i).mono ?_;rintro e B ⟨rfl,v⟩;exact⟨rfl,DF u v⟩
end Go.Proofs.YtnidfceinoiboaaGreat
