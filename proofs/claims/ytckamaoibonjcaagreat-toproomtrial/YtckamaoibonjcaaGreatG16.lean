/- What is proved here: plain facts and contracts that the claimed theorem stands on. No condition but those that each names. -/
import Derived.Test.YtckamaoibonjcaaGreatG15
import Derived.Deep.QuietTactic
import Derived.BigQuiet
namespace Go.Proofs.YtckamaoibonjcaaGreat
open Go.RowKit
set_option maxHeartbeats 1000000
set_option maxRecDepth 100000
def Mq(room:Int)(w:World)(e:Ending)(w':World):Prop:=
    (¬(0<=room/\room<=1000)->e=.returned (.tuple #[.pointer none,.int .i64 1])/\w'=w)/\
    (0<=room/\room<=1000->e=.returned (.tuple #[.pointer (some ⟨w.heap.size,0,none⟩),.int .i64 0])/\HB (ch.own w.heap.size) room (.slice none 0 0) (.slice none 0 0) (.map none) w'/\w'.heap.size=w.heap.size+1/\ag w w')
theorem La(room:Int)(w:World):ah 65 #[.int .i64 room] w (Mq room w):=by
 by_cases a:room<0
 ·have b:decide (room<0)=true:=by simpa using a
  go_enter Tryz.func65,Tryz.ntmps65;go_wp2_with fail
  go_ret2
  exact⟨λ_=>⟨rfl,rfl⟩,λc=>by omega⟩
 ·by_cases d:1000<room
  ·have b:decide (room<0)=false:=by simpa using a
   have e:decide (1000<room)=true:=by simpa using d
   go_enter Tryz.func65,Tryz.ntmps65;go_wp2_with fail
   go_ret2
   exact⟨λ_=>⟨rfl,rfl⟩,λc=>by omega⟩
  ·have b:decide (room<0)=false:=by simpa using a
   have e:decide (1000<room)=false:=by simpa using d
   go_enter Tryz.func65,Tryz.ntmps65;go_wp2_with fail
   go_ret2
   exact⟨λc=>by omega,λ_=>⟨rfl,⟨⟨rfl,ae rfl⟩,ay w _⟩,by simp,(ak _ _).alloc (ai _) _⟩⟩
def fM(ws:List Wd)(i:Int):Bool:=decide (0<=i) && match ws[i.toNat]? with
 | some x=>x.1==0
 | none=>false
theorem iG{base g c L:Nat}{ws:List Wd}{w:World}(d:w.ownsRow base 105 2 (.slice (some ⟨g,0,none⟩) L c) L (aS ws))(k:Nat)(x:Wd)(b:ws[k]?=some x):w.cell? ⟨g,k*2,none⟩=some (.int .i64 x.1)/\w.cell? ⟨g,k*2+1,none⟩=some (.int .i64 x.2):=by
 have a:=d.cells (g:=g) rfl;refine⟨?_,?_⟩
 ·have:=a (k*2+0) (.int .i64 x.1) (by rw[iE ws k x b 0 (by omega)];rfl);rw[eO]at this;exact this
 ·have:=a (k*2+1) (.int .i64 x.2) (by rw[iE ws k x b 1 (by omega)];rfl);rw[eO]at this;exact this
theorem BZ(base:Nat)(l:Option Addr)(L m:Nat)(ws:List Wd)(i:Int)(w:World)(d:Hid (ws.length=L))(q:L<=100000)(f:Hid (w.ownsRow base 105 2 (.slice l L m) L (aS ws))):ah 132 #[.slice l L m,.int .i64 i] w λe w'=>e=.returned (.bool (fM ws i))/\w'=w:=by
 by_cases h:0<=i
 ·obtain⟨k,rfl⟩:∃k:Nat,i=k:=⟨i.toNat,by omega⟩;by_cases o:k<L
  ·obtain⟨a,b⟩:∃a,ws[k]?=some a:=⟨ws[k]'(by rw[d.out];exact o),aD _⟩;obtain⟨p,c,j,_,_⟩:=f.out.form (by omega);simp at j;obtain⟨rfl,rfl⟩:=j;obtain⟨t,u⟩:=iG f.out k a b;have HB:Hid (fM ws k=(a.1==0)):=by simp[Hid,fM,b]
   have g:decide ((0:Int)<=(k:Int))=true:=by simp
   have n:decide ((k:Int)<(L:Int))=true:=by simp;omega
   have r:(0:Int)<=(k:Int):=by omega
   have s:(k:Int)<(L:Int):=by omega
   clear b;go_enter Tryz.func132,Tryz.ntmps132;go_wp2_with fail
   go_ret
   exact⟨fx HB.out.symm,rfl⟩
  ·have HB:Hid (fM ws k=false):=by
     have:ws[k]?=none:=ee (by rw[d.out];omega);simp[Hid,fM,this]
   have g:decide ((0:Int)<=(k:Int))=true:=by simp
   have n:decide ((k:Int)<(L:Int))=false:=by simp;omega
   go_enter Tryz.func132,Tryz.ntmps132;go_wp2_with fail
   go_ret
   exact⟨fx HB.out.symm,rfl⟩
 ·have HB:Hid (fM ws i=false):=by simp[Hid,fM,h]
  have g:decide (0<=i)=false:=by simpa using h
  go_enter Tryz.func132,Tryz.ntmps132;go_wp2_with fail
  go_ret
  exact⟨fx HB.out.symm,rfl⟩
def ud(L:Nat)(i:Int):Bool:=decide (0<=i) && decide (i<L)
theorem KR(c:ch)(room:Int)(tv:Value)(g:Option Addr)(L h:Nat)(mv:Value)(i:Int)(w:World)(d:Hid (HB c room tv (.slice g L h) mv w)):ah 131 #[.pointer (some ⟨c.b,c.o+2,none⟩),.int .i64 i] w λe w'=>e=.returned (.bool (ud L i))/\w'=w:=by
 obtain⟨⟨j,k,l,m⟩,n⟩:=d.out.cells;by_cases a:0<=i
 ·have HB:Hid (ud L i=decide (i<L)):=by simp[Hid,ud,a]
  have f:decide (0<=i)=true:=by simpa using a
  go_enter Tryz.func131,Tryz.ntmps131;go_wp2_with fail
  go_ret
  exact⟨fx HB.out.symm,rfl⟩
 ·have HB:Hid (ud L i=false):=by simp[Hid,ud,a]
  have f:decide (0<=i)=false:=by simpa using a
  go_enter Tryz.func131,Tryz.ntmps131;go_wp2_with fail
  go_ret
  exact⟨fx HB.out.symm,rfl⟩
theorem M3(l:List ByteArray)(k:Nat)(s:ByteArray)(a:l[k]?=some s):(fz l)[k]?=some (.string s):=by simp[fz,a]
theorem CI(base:Nat)(a:ch)(room:Int)(tv lv mv:Value)(nm:List ByteArray)(i:Nat)(s:ByteArray)(w:World)(h:Hid (HB a room tv lv mv w))(d:Hid (w.ownsRow base 9 1 lv nm.length (fz nm)))(f:Hid (nm[i]?=some s))(r:nm.length<=100000)(l:s.size<=2048):ah 133 #[.pointer (some ⟨a.b,a.o+2,none⟩),.int .i64 i] w λe w'=>e=.returned (.string s)/\ag w w':=by
 have x:i<nm.length:=(aL.1 f.out).1;obtain⟨g,c,rfl,_,_⟩:=d.out.form (by omega);have z:w.cell? ⟨g,i,none⟩=some (.string s):=by
  have:=d.out.cells (g:=g) rfl i (.string s) (M3 nm i s f.out);rw[eO]at this;exact this
 obtain⟨⟨m,n,p,q⟩,t⟩:=h.out.cells;generalize nm.length=j at*;have u:(0:Int)<=(i:Int):=by omega
 have v:(i:Int)<(j:Int):=by omega
 go_enter Tryz.func133,Tryz.ntmps133;go_wp2_with fail;refine(dD s _ l).mono ?_;rintro e y ⟨rfl,k⟩;go_wp2_with fail
 go_ret
 exact⟨rfl,k⟩
theorem Am(a:ch)(room n:Int)(d:Option Addr)(L f:Nat)(lv mv:Value)(w:World)(k:L<=100000)(p:0<=room)(m:room<=1000)(c:Hid (HB a room (.slice d L f) lv mv w)):ah 97 #[.pointer (some ⟨a.b,a.o,none⟩),.int .i64 n] w λe w'=>e=.returned (.bool (decide (n<=room-L)))/\ag w w':=by
 obtain⟨⟨g,h,i,j⟩,l⟩:=c.out.cells;go_enter Tryz.func97,Tryz.ntmps97;go_wp2_with fail
 go_quiet (fail)
 go_wp2_with fail
 go_ret
 exact⟨rfl,⟨rfl,rfl,rfl,ai _,λ_ _=>rfl⟩⟩
theorem sF(ws:List Wd)(k n j:Nat)(g:j<n*2):(aS ((ws.drop k).take n))[j]?=(aS ws)[k*2+j]? :=by
 by_cases f:k+j / 2<ws.length
 ·obtain⟨a,b⟩:∃a,ws[k+j / 2]?=some a:=⟨_,aD f⟩;have e:((ws.drop k).take n)[j / 2]?=some a:=by
   rw[rY (by omega),j9];exact b
  have c:j=j / 2*2+j % 2:=by omega
  have d:k*2+j=(k+j / 2)*2+j % 2:=by omega
  rw[d,iE ws (k+j / 2) a b (j % 2) (by omega)]
  conv=>lhs;rw[c]
  rw[iE _ (j / 2) a e (j % 2) (by omega)]
 ·rw[ee (l:=aS ws) (by rw[cm];omega),ee (by rw[cm,du,eD];omega)]
def Ki(ws:List Wd)(k n g:Nat)(w:World)(e:Ending)(w':World):Prop:=w'=w/\∃pa pc,e=.returned (.slice (some pa) n pc)/\pa.block=g/\eI w ((ws.drop (k+1)).take n) (some pa)/\∃o,pa=⟨g,o,none⟩
theorem Ln{base g L c:Nat}{xs:List Value}{ty:TypeId}{sz:Nat}{w:World}(a:w.ownsRow base ty sz (.slice (some ⟨g,0,none⟩) L c) L xs):L<=c/\c<=maxLen:=by
 rcases a.2 with⟨a,_⟩|⟨f,cap,e,a,_,_,b,d,_⟩
 ·simp at a
 ·injection a with _ _ a;subst a;exact⟨b,d⟩
theorem wE(base:Nat)(g L b k n:Nat)(ws:List Wd)(w:World)(r:L<=100000)(c:Hid (w.ownsRow base 105 2 (.slice (some ⟨g,0,none⟩) L b) L (aS ws)))(p:Hid (ws[k]?=some (0,(n:Int))))(s:k+1+n<=L):ah 135 #[.slice (some ⟨g,0,none⟩) L b,.int .i64 k] w (Ki ws k n g w):=by
 obtain⟨v,x⟩:=iG c.out k _ p.out;obtain⟨u,f⟩:=Ln c.out;have e:Hid (∀o,(n=0\/o=(k+1)*2)->eI w ((ws.drop (k+1)).take n) (some ⟨g,o,none⟩)):=by
  rintro o (rfl|rfl)
  ·exact ae (by simp)
  ·refine af ⟨_,rfl,λa q d=>?_⟩;have l:a<n*2:=by
    have:=(aL.1 d).1;rw[cm,du]at this;omega
   rw[sF ws (k+1) n a l]at d;have:=c.out.cells (g:=g) rfl _ q d;rw[eO]at this;have h:(⟨g,(k+1)*2,none⟩:Addr).add a=⟨g,(k+1)*2+a,none⟩:=by
    unfold Addr.add;by_cases i:a=0<;>simp[i]
   rw[h];exact this
 have t:(b:Int)<=9223372036854775807:=by unfold maxLen at f;omega
 clear f;by_cases j:b=k+1
 ·subst j;have m:n=0:=by omega
  subst m;go_enter Tryz.func135,Tryz.ntmps135;go_wp2_with fail
  go_ret
  exact⟨rfl,_,_,rfl,rfl,e.out _ (by simp),_,rfl⟩
 ·go_enter Tryz.func135,Tryz.ntmps135;go_wp2_with fail
  go_ret
  exact⟨rfl,_,_,rfl,rfl,e.out _ (af rfl),_,rfl⟩
def NI(s t:ByteArray):Bool:=t.data==s.data
theorem nZ(s t:ByteArray):NI s t=true ↔ t=s:=by
 cases s;cases t;simp[NI]
def ek(nm:List ByteArray)(s:ByteArray):List ByteArray:=if nm.any (NI s)then nm else nm++ [s]
def kI(nm:List ByteArray)(s:ByteArray):Nat:=nm.findIdx (NI s)
theorem ym(nm:List ByteArray)(s:ByteArray):nm.any (NI s)=true ↔ s∈nm:=by
 rw[List.any_eq_true];constructor
 ·rintro ⟨t,c,a⟩;rw[nZ]at a;exact a▸c
 ·exact λb=>⟨s,b,(nZ s s).2 rfl⟩
theorem AH{nm:List ByteArray}{s:ByteArray}(e:nm.Nodup){i:Nat}(b:nm[i]?=some s):kI nm s=i:=by
 have f:=(aL.1 b).1;have a:kI nm s<nm.length:=by
  unfold kI;rw[List.findIdx_lt_length];exact⟨s,aC b,(nZ s s).2 rfl⟩
 have d:nm[kI nm s]'a=s:=(nZ s _).1 (List.findIdx_getElem (w:=a));have c:nm[kI nm s]?=nm[i]? :=by rw[b,aD a,d]
 exact(List.getElem?_inj a e).1 c
def bB{a:Type}(f:a->List Wd->List ByteArray->Wd×List Wd×List ByteArray):List a->List Wd->List ByteArray->List Wd×List Wd×List ByteArray
 | [],ws,nm=>([],ws,nm)
 | y::l,ws,nm=>((f y ws nm).1::(bB f l (f y ws nm).2.1 (f y ws nm).2.2).1,(bB f l (f y ws nm).2.1 (f y ws nm).2.2).2)
def aO:(n:Nat)->Tm n->List Wd->List ByteArray->Wd×List Wd×List ByteArray
 | 0,_,ws,nm=>((0,0),ws,nm)
 | n+1,x,ws,nm=>
  if x.1.1=2 then ((2,(kI (ek nm x.1.2.2) x.1.2.2:Int)),ws,ek nm x.1.2.2)
  else if x.1.1=4 then
   ((4,((bB (aO n) x.2.2 ws nm).2.1.length:Int)),(bB (aO n) x.2.2 ws nm).2.1++(0,(x.2.2.length:Int))::(bB (aO n) x.2.2 ws nm).1,(bB (aO n) x.2.2 ws nm).2.2)
  else ((x.1.1,x.1.2.1),ws,nm)
theorem FB{a:Type}(f:a->List Wd->List ByteArray->Wd×List Wd×List ByteArray)(l:List a)(y:a)(ws:List Wd)(nm:List ByteArray):bB f (l++ [y]) ws nm=((bB f l ws nm).1++ [(f y (bB f l ws nm).2.1 (bB f l ws nm).2.2).1],(f y (bB f l ws nm).2.1 (bB f l ws nm).2.2).2):=by
 induction l generalizing ws nm with
 | nil=>simp[bB]
 | cons b l ih=>simp[bB,ih]
theorem gC{a:Type}(f:a->List Wd->List ByteArray->Wd×List Wd×List ByteArray)(l:List a)(ws:List Wd)(nm:List ByteArray):(bB f l ws nm).1.length=l.length:=by
 induction l generalizing ws nm with
 | nil=>simp[bB]
 | cons b l ih=>simp[bB,ih]
theorem yk(nm:List ByteArray)(s:ByteArray):(ek nm s).length<=nm.length+1:=by
 unfold ek;split<;>simp
theorem ir:(n:Nat)->(x:Tm n)->(ws:List Wd)->(nm:List ByteArray)->((aO n x ws nm).2.1.length:Int)=ws.length+sz n x/\(aO n x ws nm).2.2.length<=nm.length+(ar n x).length
 | 0,_,_,_=>by simp[aO,sz]
 | n+1,x,ws,nm=>by
  have key:∀(l:List (Tm n))(ws:List Wd)(nm:List ByteArray),((bB (aO n) l ws nm).2.1.length:Int)+l.length=ws.length+(l.map λy=>1+sz n y).sum/\(bB (aO n) l ws nm).2.2.length<=nm.length+(l.flatMap λy=>ar n y).length:=by
   intro l
   induction l with
   | nil=>intro ws nm;simp[bB]
   | cons y l ih=>
    intro ws nm;obtain⟨e,f⟩:=ir n y ws nm;obtain⟨g,h⟩:=ih (aO n y ws nm).2.1 (aO n y ws nm).2.2;simp only[bB,aG,bq,bv,aY,aV];exact⟨by omega,by omega⟩
  obtain⟨i,j⟩:=key x.2.2 ws nm;have k:=yk nm x.1.2.2;have c:=gC (aO n) x.2.2 ws nm;have d:(ar (n+1) x).length=1+(x.2.2.flatMap λy=>ar n y).length:=by simp[ar];omega
  rw[d];by_cases b:x.1.1=2
  ·have a:¬x.1.1=4:=by omega
   simp only[aO,sz,if_pos b,if_neg a];exact⟨by omega,by omega⟩
  ·by_cases a:x.1.1=4
   ·simp only[aO,sz,if_neg b,if_pos a,aY,aV,c];exact⟨by omega,by omega⟩
   ·simp only[aO,sz,if_neg b,if_neg a];exact⟨by omega,by omega⟩
def dw(base:Nat)(e:ch)(room:Int)(ws:List Wd)(nm:List ByteArray)(M:Nat->Prop)(w:World):Prop:=
 ∃d a c,HB e room d a c w/\w.ownsRow base 105 2 d ws.length (aS ws)/\jD base nm a c w/\M e.b/\(∀b,d.ownBlock=some b->M b)/\(∀b,a.ownBlock=some b->M b)/\∀b,mapBlock c=some b->M b
theorem dK{base:Nat}{e:TypeId}{sz:Nat}{v:Value}{n:Nat}{xs:List Value}{w w':World}{S:Nat->Prop}(c:w.ownsRow base e sz v n xs)(k:bL S w w')(h:∀b,v.ownBlock=some b->¬S b):w'.ownsRow base e sz v n xs:=by
 refine⟨c.1,?_⟩;rcases c.2 with⟨e,g⟩|⟨a,cap,f,e,i,d,j⟩
 ·exact ae ⟨e,g⟩
 ·exact af ⟨a,cap,f,e,i,(k.block a (aA.1 d).1 (h a (by rw[e];rfl))).trans d,j⟩
theorem dw.kept{base:Nat}{d:ch}{room:Int}{ws:List Wd}{nm:List ByteArray}{M S:Nat->Prop}{w w':World}(m:dw base d room ws nm M w)(k:bL S w w')(c:∀b,M b->b<w.heap.size->¬S b):dw base d room ws nm M w':=by
 obtain⟨q,o,p,e,g,f,h,i,j,l⟩:=m;refine⟨q,o,p,e.kept (k.block d.b e.lt (c d.b h e.lt)),dK g k λb a=>c b (i b a) (g.lt b a).2,?_,h,i,j,l⟩;refine f.kept k (λb a=>c b (j b a) (f.1.lt b a).2) λb a=>c b (l b a) ?_;rcases f.2.2 with⟨rfl,_⟩|⟨s,r,rfl,_,n,_⟩
 ·simp[mapBlock]at a
 ·simp only[mapBlock]at a;obtain rfl:=ap a;exact n.lt
theorem dw.mono{base:Nat}{c:ch}{room:Int}{ws:List Wd}{nm:List ByteArray}{M S:Nat->Prop}{w:World}(d:dw base c room ws nm M w)(k:∀b,M b->S b):dw base c room ws nm S w:=by
 obtain⟨o,m,n,e,f,g,h,i,j,l⟩:=d;exact⟨o,m,n,e,f,g,k _ h,λb a=>k b (i b a),λb a=>k b (j b a),λb a=>k b (l b a)⟩
def lw(base:Nat)(a:ch)(room:Int)(ws:List Wd)(nm:List ByteArray)(M:Nat->Prop)(w w':World):Prop:=dw base a room ws nm (λb=>M b\/w.heap.size<=b) w'/\bL M w w'
theorem wO{w:World}{base h:Nat}{e f:TypeId}{s o n m:Nat}{v g:Value}{xs ys:List Value}(i:w.ownsRow base e s v n xs)(j:w.ownsRow h f o g m ys)(l:e≠f):∀b,v.ownBlock=some b->g.ownBlock≠some b:=by
 intro b c d;rcases i.2 with⟨rfl,_⟩|⟨t,cap,q,rfl,_,k,_⟩
 ·simp[Value.ownBlock]at c
 ·rcases j.2 with⟨rfl,_⟩|⟨u,p,r,rfl,_,a,_⟩
  ·simp[Value.ownBlock]at d
  ·simp only[Value.ownBlock]at c d;obtain rfl:=ap c;obtain rfl:=ap d;rw[k]at a;injection a with a;injection a with _ a;exact l a
theorem mP{w:World}{base:Nat}{e:TypeId}{s n:Nat}{v:Value}{xs:List Value}{c:ch}{room:Int}{tv lv mv:Value}(h:w.ownsRow base e s v n xs)(f:HB c room tv lv mv w)(g:e≠103/\e≠107):v.ownBlock≠some c.b:=λe=>by
 rcases h.2 with⟨rfl,_⟩|⟨k,cap,j,rfl,_,i,_⟩
 ·simp[Value.ownBlock]at e
 ·simp[Value.ownBlock]at e;subst e;have a:w.heap[c.b]?=_:=f.2;rw[i]at a;injection a with a;injection a with a d;rcases f.1.2 with t1|t1
  ·exact g.1 (d.trans t1)
  ·exact g.2 (d.trans t1)
theorem Ev{w:World}{base:Nat}{e:TypeId}{s n:Nat}{v:Value}{xs:List Value}{nm:List ByteArray}{lv mv:Value}{f:Nat}(g:w.ownsRow base e s v n xs)(h:jD f nm lv mv w):∀b,v.ownBlock=some b->mapBlock mv≠some b:=by
 intro b a c;rcases g.2 with⟨rfl,_⟩|⟨o,cap,m,rfl,_,i,_⟩
 ·simp[Value.ownBlock]at a
 ·rcases h.2.2 with⟨rfl,_⟩|⟨p,k,rfl,_,j,_⟩
  ·simp[mapBlock]at c
  ·simp only[Value.ownBlock,mapBlock]at a c;obtain rfl:=ap a;obtain rfl:=ap c;obtain⟨es,l,d,_⟩:=j;rw[i]at d;cases d
theorem th{w:World}{nm:List ByteArray}{lv mv:Value}{base:Nat}{a:ch}{room:Int}{tv i j:Value}(f:jD base nm lv mv w)(d:HB a room tv i j w):mapBlock mv≠some a.b:=λe=>by
 rcases f.2.2 with⟨rfl,_⟩|⟨l,D,rfl,_,h,_⟩
 ·simp[mapBlock]at e
 ·simp only[mapBlock]at e;obtain rfl:=ap e;obtain⟨es,k,g,_⟩:=h;have c:w.heap[a.b]?=_:=d.2;rw[g]at c;cases c
theorem KU{nm b:List ByteArray}{s:ByteArray}{i:Nat}(f:b.Nodup)(e:b[i]?=some s)(a:b=nm\/b=nm++ [s]):b=ek nm s/\i=kI (ek nm s) s:=by
 have c:b=ek nm s:=by
  unfold ek;by_cases d:s∈nm
  ·rw[if_pos ((ym nm s).2 d)];rcases a with a|a
   ·exact a
   ·rw[a,eE]at f;exact absurd rfl (f.2.2 s d s (by simp))
  ·rw[if_neg (λc=>d ((ym nm s).1 c))];rcases a with a|a
   ·rw[a]at e;exact absurd (aC e) d
   ·exact a
 refine⟨c,?_⟩;rw[<-c];exact(AH f e).symm
theorem Lb(base:Nat)(a:ch)(room:Int)(ws:List Wd)(nm:List ByteArray)(M:Nat->Prop)(s:ByteArray)(w:World)(r:dw base a room ws nm M w)(v:base<=w.heap.size)(u:nm.length<=100000)(x:s.size<=2048):ah 129 #[.pointer (some ⟨a.b,a.o+2,none⟩),.string s] w λe w'=>e=.returned (.int .i64 (kI (ek nm s) s:Int))/\Hid (lw base a room ws (ek nm s) M w w'):=by
 obtain⟨m,D,F,g,c,f,h,t,i,j⟩:=r;refine(CL base a room m D F nm s w g f v u x).mono ?_;rintro e w' ⟨H,rfl,I,E,G,n⟩;obtain⟨y,z,A,k,l,B,C⟩:=n.out;obtain⟨p,q⟩:=KU k.2.1 y z;subst p;refine⟨by rw[q],⟨m,E,G,A,dK c l ?_,k,ae h,λb e=>ae (t b e),?_,?_⟩,l.mono ?_⟩
 ·rintro b e (rfl|d|d)
  ·exact mP c g (by decide) e
  ·exact wO c f.1 (by decide) b e d
  ·exact Ev c f b e d
 ·intro b e;rcases B b e with e|e
  ·exact ae (i b e)
  ·exact af e
 ·intro b e;rcases C b e with e|e
  ·exact ae (j b e)
  ·exact af e
 ·rintro b (rfl|e|e)
  ·exact h
  ·exact i b e
  ·exact j b e
theorem Oi(base:Nat)(d:ch)(room:Int)(ws:List Wd)(nm:List ByteArray)(M:Nat->Prop)(ps:List Wd)(m pc:Nat)(pa:Option Addr)(w:World)(x:dw base d room ws nm M w)(C:base<=w.heap.size)(A:ws.length<=100000)(E:ps.length=m)(B:m<=1000)(t:∀w1,bL M w w1->eI w1 ps pa):ah 130 #[.pointer (some ⟨d.b,d.o+1,none⟩),.slice pa m pc] w λe w'=>e=.returned (.agg #[.int .i64 4,.int .i64 ws.length])/\Hid (lw base d room (ws++(0,(m:Int))::ps) nm M w w'):=by
 obtain⟨q,J,K,a,f,g,i,j,y,z⟩:=x;obtain⟨⟨L,u,N,O⟩,D⟩:=a.cells;obtain⟨l,n,F⟩:∃l n,q=.slice l ws.length n:=by
  rcases f.2 with⟨e,v⟩|⟨Q,c,P,e,_⟩
  ·exact⟨none,0,by rw[e,v]⟩
  ·exact⟨_,c,e⟩
 subst E;refine(zo base d.b (d.o+1) q l n ws.length ws ps ps.length pc pa w F rfl rfl A B C u (D _) a.lt (mP f a (by decide)) f ?_).mono ?_
 ·intro w1 k;refine t w1 (k.mono ?_);rintro b (rfl|e)
  ·exact i
  ·exact j b e
 ·rintro e w' ⟨rfl,r,s⟩;obtain⟨G,H,p,I⟩:=s.out;refine⟨rfl,⟨r,J,K,(a.set1 r).kept H,?_,g.kept p ?_ ?_,ae i,?_,λb e=>ae (y b e),λb e=>ae (z b e)⟩,p.mono ?_⟩
  ·have e:(ws++(0,(ps.length:Int))::ps).length=ws.length+1+ps.length:=by simp;omega
   rw[e];exact G
  ·rintro b e (rfl|h)
   ·exact mP g.1 a (by decide) e
   ·exact wO f g.1 (by decide) b h e
  ·rintro b e (rfl|h)
   ·exact th g a e
   ·exact Ev f g b h e
  ·intro b e;rcases I b e with e|e
   ·exact ae (j b e)
   ·exact af e
  ·rintro b (rfl|e)
   ·exact i
   ·exact j b e
theorem dw.inside{base:Nat}{f:ch}{room:Int}{ws:List Wd}{nm:List ByteArray}{M:Nat->Prop}{w:World}(g:dw base f room ws nm M w):dw base f room ws nm (λb=>M b/\b<w.heap.size) w:=by
 obtain⟨o,m,n,d,e,c,h,i,j,k⟩:=g;refine⟨o,m,n,d,e,c,⟨h,d.lt⟩,λb a=>⟨i b a,(e.lt b a).2⟩,λb a=>⟨j b a,(c.1.lt b a).2⟩,λb a=>⟨k b a,?_⟩⟩;rcases c.2.2 with⟨rfl,_⟩|⟨q,p,rfl,_,l,_⟩
 ·simp[mapBlock]at a
 ·simp only[mapBlock]at a;obtain rfl:=ap a;exact l.lt
theorem dw.later{base:Nat}{c:ch}{room:Int}{ws:List Wd}{nm:List ByteArray}{M:Nat->Prop}{w wA:World}(a:dw base c room ws nm M w)(d:ag w wA):dw base c room ws nm (λb=>M b/\b<w.heap.size) wA:=
 a.inside.kept (aT d (λ_=>False)) λ_ _ _ a=>a
theorem Au{base:Nat}{d:ch}{room:Int}{ws:List Wd}{nm:List ByteArray}{M:Nat->Prop}{w wA w2:World}(a:lw base d room ws nm (λb=>M b/\b<w.heap.size) wA w2)(i:ag w wA)(n:w.heap.size+2<=wA.heap.size)(v0 v1:Value):lw base d room ws nm M w ((w2.setCell ⟨w.heap.size+1,0,none⟩ v0).setCell ⟨w.heap.size+1,1,none⟩ v1):=by
 obtain⟨f,g⟩:=a;have k:=aZ w2 (w.heap.size+1) 0 v0;have l:=aZ (w2.setCell ⟨w.heap.size+1,0,none⟩ v0) (w.heap.size+1) 1 v1;have e:=k.trans l (λb _ a=>a);refine⟨(f.kept e ?_).mono ?_,?_⟩
 ·rintro b (⟨_,c⟩|c) _ m
  ·omega
  ·omega
 ·rintro b (⟨j,_⟩|c)
  ·exact ae j
  ·exact af (by omega)
 ·have h:bL (λb=>(M b/\b<w.heap.size)\/b=w.heap.size+1) wA _:=(g.mono (λb a=>ae a)).trans e (λb _ a=>af a);refine(aT i M).trans h ?_;rintro b c (a|a)
  ·exact a.1
  ·omega
theorem ul{base:Nat}{f:ch}{room:Int}{ws:List Wd}{nm:List ByteArray}{M:Nat->Prop}{w wA w2:World}(d:lw base f room ws nm (λb=>M b/\b<w.heap.size) wA w2):∀b,w.heap.size<=b->b<wA.heap.size->∀o,w2.cell? ⟨b,o,none⟩=wA.cell? ⟨b,o,none⟩/\w2.frozen? ⟨b,o,none⟩=wA.frozen? ⟨b,o,none⟩:=by
 intro b g e o;have c:=d.2.block b e (λd=>by omega);exact⟨bk c o,iO (a:=⟨b,o,none⟩) c⟩
theorem ID(f:ch)(k d:Int)(s:ByteArray)(a:Option Addr)(l c:Nat)(w:World)(g:¬k=2)(h:¬k=4):ah 98 #[.pointer (some ⟨f.b,f.o,none⟩),.agg #[.int .i64 k,.int .i64 d,.string s,.slice a l c]] w λe w'=>e=.returned (.agg #[.int .i64 k,.int .i64 d])/\ag w w':=by
 have i:(k==2)=false:=by simpa using g
 have j:(k==4)=false:=by simpa using h
 go_enter Tryz.func98,Tryz.ntmps98;go_wp2_with fail;exact aq (v:=.agg #[.int .i64 k,.int .i64 d]) (by simp[results,Tryz.results98,go_sem]) rfl ⟨rfl,by go_grown⟩
theorem IC(base:Nat)(f:ch)(room:Int)(ws:List Wd)(nm:List ByteArray)(M:Nat->Prop)(p:Int)(s:ByteArray)(a:Option Addr)(l c:Nat)(w:World)(u:Hid (dw base f room ws nm M w))(C:base<=w.heap.size)(x:nm.length<=100000)(y:s.size<=2048):ah 98 #[.pointer (some ⟨f.b,f.o,none⟩),.agg #[.int .i64 2,.int .i64 p,.string s,.slice a l c]] w λe w'=>e=.returned (.agg #[.int .i64 2,.int .i64 (kI (ek nm s) s:Int)])/\Hid (lw base f room ws (ek nm s) M w w'):=by
 generalize n:kI (ek nm s) s=j;go_enter Tryz.func98,Tryz.ntmps98;go_wp2_with fail;generalize i:(w.alloc (Obj.cells #[Value.int IntKind.i64 2,Value.int IntKind.i64 p,Value.string s,Value.slice a l c] 30)).alloc (Obj.cells #[Value.int IntKind.i64 0,Value.int IntKind.i64 0] 105)=wA;have d:Hid (ag w wA.drew/\wA.drew.heap.size=w.heap.size+2):=by
  subst i;exact⟨(((ak _ _).alloc (ai _) _).alloc (by simp) _).drew,by simp[World.drew]⟩
 have z:wA.cell? ⟨w.heap.size,2,none⟩=some (.string s):=by subst i;simp[go_sem]
 have h:Hid ((wA.cell? ⟨w.heap.size+1,0,none⟩=some (.int .i64 0)/\wA.cell? ⟨w.heap.size+1,1,none⟩=some (.int .i64 0))/\wA.frozen? ⟨w.heap.size+1,0,none⟩=false/\wA.frozen? ⟨w.heap.size+1,1,none⟩=false):=by subst i;simp[Hid,go_sem]
 have q:Hid (ah 129 #[.pointer (some ⟨f.b,f.o+2,none⟩),.string s] wA.drew λe w'=>e=.returned (.int .i64 j)/\Hid (lw base f room ws (ek nm s) (λb=>M b/\b<w.heap.size) wA.drew w')):=by
  have m:=Lb base f room ws nm _ s wA.drew (u.out.later d.out.1) (by have:=d.out.2;omega) x y;rw[n]at m;exact m
 clear i n;go_region_held3 (λw'=>w'.cell? ⟨w.heap.size,2,none⟩=some (.string s)) (go_keep) ((go_at_call 129;refine q.out.mono ?_;rintro e E ⟨rfl,k⟩;have g:=aj (ul k.out);have D:=λo=>(g.out w.heap.size (ai _) (by have:=d.out.2;omega) o).1;have t:=(g.out (w.heap.size+1) (by omega) (by have:=d.out.2;omega) 0).1.trans h.out.1.1;have d1:=(g.out (w.heap.size+1) (by omega) (by have:=d.out.2;omega) 1).1.trans h.out.1.2;have A:=(g.out (w.heap.size+1) (by omega) (by have:=d.out.2;omega) 0).2.trans h.out.2.1;have B:=(g.out (w.heap.size+1) (by omega) (by have:=d.out.2;omega) 1).2.trans h.out.2.2));have r:=aj (Au k.out d.out.1 (dn d.out.2.symm) (.int .i64 2) (.int .i64 j));go_wp2_with fail;exact aq (v:=.agg #[.int .i64 2,.int .i64 j]) (by simp[results,Tryz.results98,go_sem,t,d1]) rfl ⟨rfl,r.out⟩
def G1(x:Wd):Value:=.agg #[.int .i64 x.1,.int .i64 x.2]
def Ns(n:Nat):Prop:=∀(x:Tm n)(base:Nat)(a:ch)(room:Int)(ws:List Wd)(nm:List ByteArray)(M:Nat->Prop)(w:World),dw base a room ws nm M w->In w.heap.size w n x->bV (λb=>¬M b) n x->base<=w.heap.size->aw ⟨n,x⟩->ws.length+2*(ar n x).length<=99000->nm.length+(ar n x).length<=99000->
 ah 98 #[.pointer (some ⟨a.b,a.o,none⟩),df n x] w λe w'=>e=.returned (G1 (aO n x ws nm).1)/\Hid (lw base a room (aO n x ws nm).2.1 (aO n x ws nm).2.2 M w w')
def xu(n:Nat)(p:List (Tm n))(len base:Nat)(c:ch)(room:Int)(ws:List Wd)(nm:List ByteArray)(M:Nat->Prop)(g:Nat)(w a:World)(k:Nat)(wr:World):Prop:=
 wr.ownsRow g 105 2 (.slice (some ⟨g,0,none⟩) len len) len (aS ((bB (aO n) (p.take k) ws nm).1++List.replicate (len-k) (0,0)))/\
 dw base c room (bB (aO n) (p.take k) ws nm).2.1 (bB (aO n) (p.take k) ws nm).2.2 (λb=>(M b/\b<w.heap.size)\/a.heap.size<=b) wr/\
 bL (λb=>(M b/\b<w.heap.size)\/b=g) a wr
theorem uv(n:Nat):(madeCells #[.int .i64 0,.int .i64 0] (n*2)).toList=aS (List.replicate n (0,0)):=by
 apply List.ext_getElem?;intro b;by_cases d:b<n*2
 ·obtain⟨k,a,e,rfl⟩:∃k a,a<2/\b=k*2+a:=⟨b / 2,b % 2,Nat.mod_lt _ (by decide),by omega⟩;have f:k<n:=by omega
  rw[iE _ k (0,0) (by simp[f]) a e];have c:(madeCells #[.int .i64 0,.int .i64 0] (n*2))[k*2+a]?=some ((#[.int .i64 0,.int .i64 0]:Array Value)[(k*2+a) % 2]!):=by
   simp[madeCells,d]
  rw[l6,c,show (k*2+a) % 2=a by omega];have:a=0\/a=1:=by omega
  rcases this with rfl|rfl<;>rfl
 ·rw[ee (by simp[size_madeCells];omega),ee (by rw[cm];simp;omega)]
theorem pX:(l:List Wd)->(i:Nat)->(x:Wd)->i<l.length->((aS l).set (i*2) (.int .i64 x.1)).set (i*2+1) (.int .i64 x.2)=aS (l.set i x)
 | [],i,x,h=>by simp at h
 | y::l,0,x,_=>by simp[aS,ph]
 | y::l,i+1,x,h=>by
  have ih:=pX l i x (by simpa using h);have e:aS (y::l)=ph y++aS l:=rfl;have b:aS ((y::l).set (i+1) x)=ph y++aS (l.set i x):=rfl;have a:(ph y).length=2:=rfl;rw[e,b,<-ih];rw[hU _ _ (by rw[a];omega),hU _ _ (by rw[a];omega),a];rw[show (i+1)*2-2=i*2 by omega,show (i+1)*2+1-2=i*2+1 by omega]
theorem IF{n:Nat}{p:List (Tm n)}{len base:Nat}{k:ch}{room:Int}{ws:List Wd}{nm:List ByteArray}{M:Nat->Prop}{w w0:World}{d t1 t2 a:Value}(f:dw base k room ws nm M w)(e:w0.ownsRow (w.heap.size+2) 105 2 (.slice (some ⟨((w.alloc (.cells #[d,t1,t2,a] 30)).alloc (.cells #[.int .i64 0,.int .i64 0] 105)).heap.size,0,none⟩) len len) len (madeCells (Value.agg #[.int .i64 0,.int .i64 0]).cells (len*2)).toList)(c:((w.alloc (.cells #[d,t1,t2,a] 30)).alloc (.cells #[.int .i64 0,.int .i64 0] 105)).grownBy w0 none):(xu n p len base k room ws nm M (w.heap.size+2) w w0 0 w0/\ag w w0/\w.heap.size+2<w0.heap.size)/\w0.cell? ⟨w.heap.size,3,none⟩=some a/\ (w0.cell? ⟨w.heap.size+1,0,none⟩=some (.int .i64 0)/\w0.cell? ⟨w.heap.size+1,1,none⟩=some (.int .i64 0))/\w0.frozen? ⟨w.heap.size+1,0,none⟩=false/\w0.frozen? ⟨w.heap.size+1,1,none⟩=false:=by
 have l:((w.alloc (.cells #[d,t1,t2,a] 30)).alloc (.cells #[.int .i64 0,.int .i64 0] 105)).heap.size=w.heap.size+2:=by simp
 rw[l]at e;have q:ag w ((w.alloc (.cells #[d,t1,t2,a] 30)).alloc (.cells #[.int .i64 0,.int .i64 0] 105)):=((ak _ _).alloc (ai _) _).alloc (by simp) _;have h:Below (w.heap.size+2) ((w.alloc (.cells #[d,t1,t2,a] 30)).alloc (.cells #[.int .i64 0,.int .i64 0] 105)) w0:=⟨c.os,c.tape,c.output,c.size,λb g=>c.block b (by omega) (by simp)⟩;have g:=q.trans (h.mono (by omega));have i:=am h;have j:=gq h;refine⟨⟨⟨?_,?_,bL.refl _ _⟩,g,(e.lt _ rfl).2⟩,?_,⟨?_,?_⟩,?_,?_⟩
 ·simp only[List.take_zero,bB,mm,Nat.sub_zero];have m:=uv len;have o:(Value.agg #[.int .i64 0,.int .i64 0]).cells= #[.int .i64 0,.int .i64 0]:=rfl;rw[o,m]at e;exact e
 ·simp only[List.take_zero,bB];exact(f.later g).mono λb f=>ae f
 ·rw[i _ _ (by omega)];simp[go_sem]
 ·rw[i _ _ (by omega)];simp[go_sem]
 ·rw[i _ _ (by omega)];simp[go_sem]
 ·rw[j _ _ (by omega)];simp[go_sem]
 ·rw[j _ _ (by omega)];simp[go_sem]
theorem oo{w:World}{base g L c:Nat}{ws:List Wd}(b:w.ownsRow base 105 2 (.slice (some ⟨g,0,none⟩) L c) L (aS ws)):∀j,w.frozen? ⟨g,j,none⟩=false:=by
 intro j;rcases b.2 with⟨d,_⟩|⟨l,cap,h,f,m,e,_⟩
 ·simp at d
 ·injection f with a i k;injection a with a;injection a with a _;subst a;simp[World.frozen?,e]
theorem xu.step{n:Nat}{p:List (Tm n)}{len base:Nat}{l:ch}{room:Int}{ws:List Wd}{nm:List ByteArray}{M:Nat->Prop}{g:Nat}{w d:World}{k:Nat}{wr w1 w2:World}(H:xu n p len base l room ws nm M g w d k wr)(G:w.heap.size<=g)(I:g<d.heap.size)(K:k<len)(L:p.length=len){x:Tm n}(A:p[k]?=some x)(i:ag wr w1)(z:lw base l room (aO n x (bB (aO n) (p.take k) ws nm).2.1 (bB (aO n) (p.take k) ws nm).2.2).2.1 (aO n x (bB (aO n) (p.take k) ws nm).2.1 (bB (aO n) (p.take k) ws nm).2.2).2.2 (λb=>((M b/\b<w.heap.size)\/d.heap.size<=b)/\b<wr.heap.size) w1 w2):xu n p len base l room ws nm M g w d (k+1) ((w2.setCell ⟨g,k*2,none⟩ (.int .i64 (aO n x (bB (aO n) (p.take k) ws nm).2.1 (bB (aO n) (p.take k) ws nm).2.2).1.1)).setCell ⟨g,k*2+1,none⟩ (.int .i64 (aO n x (bB (aO n) (p.take k) ws nm).2.1 (bB (aO n) (p.take k) ws nm).2.2).1.2))/\ (w2.cell? ⟨g,k*2,none⟩=some (.int .i64 0)/\w2.cell? ⟨g,k*2+1,none⟩=some (.int .i64 0))/\w2.frozen? ⟨g,k*2,none⟩=false/\w2.frozen? ⟨g,k*2+1,none⟩=false:=by
 obtain⟨m,E,o⟩:=H;obtain⟨u,q⟩:=z;have J:g<wr.heap.size:=(m.lt g rfl).2;have N:=i.size;have O:=o.size;have r:bB (aO n) (p.take (k+1)) ws nm=((bB (aO n) (p.take k) ws nm).1++ [(aO n x (bB (aO n) (p.take k) ws nm).2.1 (bB (aO n) (p.take k) ws nm).2.2).1],(aO n x (bB (aO n) (p.take k) ws nm).2.1 (bB (aO n) (p.take k) ws nm).2.2).2):=by
  rw[dv,A];exact FB _ _ _ _ _
 have s:(bB (aO n) (p.take k) ws nm).1.length=k:=by rw[gC,du];omega
 have f:w2.ownsRow g 105 2 (.slice (some ⟨g,0,none⟩) len len) len (aS ((bB (aO n) (p.take k) ws nm).1++List.replicate (len-k) (0,0))):=by
  refine dK (dF m i) q λb h=>?_;simp only[Value.ownBlock]at h;obtain rfl:=ap h;omega
 generalize bB (aO n) (p.take k) ws nm=e at*;generalize aO n x e.2.1 e.2.2=c at*;have B:(e.1++List.replicate (len-k) (0,0))[k]?=some ((0,0):Wd):=by
  rw[ed (by omega),s,jo,List.getElem?_replicate];simp;omega
 have C:=aZ w2 g (k*2) (.int .i64 c.1.1);have D:=aZ (w2.setCell ⟨g,k*2,none⟩ (.int .i64 c.1.1)) g (k*2+1) (.int .i64 c.1.2);have t:=C.trans D (λb _ a=>a);refine⟨⟨?_,?_,?_⟩,iG f k (0,0) B,oo f _,oo f _⟩
 ·rw[r];have j:=iS (iS f (k*2) (.int .i64 c.1.1)) (k*2+1) (.int .i64 c.1.2);rw[pX _ k c.1 (by simp;omega)]at j;have es:(e.1++List.replicate (len-k) ((0,0):Wd)).set k c.1=(e.1++ [c.1])++List.replicate (len-(k+1)) (0,0):=by
   rw[hU _ _ (by omega)];have:len-k=(len-(k+1))+1:=by omega
   rw[this,List.replicate_succ];simp[s]
  rw[es]at j;exact j
 ·rw[r];refine(u.kept t ?_).mono ?_
  ·rintro b (⟨a,_⟩|a) _ h<;>omega
  ·rintro b (⟨a,_⟩|a)
   ·exact a
   ·exact af (by omega)
 ·have v:bL (λb=>(M b/\b<w.heap.size)\/b=g) d w1:=o.trans (aT i (λ_=>False)) (λ_ _ a=>a.elim)
  have y:bL (λb=>(M b/\b<w.heap.size)\/b=g) d w2:=v.trans q (λb F a=>by
   rcases a.1 with a|a
   ·exact ae a
   ·omega)
  exact y.trans t (λb _ a=>af a)
theorem IG{n:Nat}{p:List (Tm n)}{len base:Nat}{q:ch}{room:Int}{ws:List Wd}{nm:List ByteArray}{M:Nat->Prop}{g:Nat}{w d:World}{k:Nat}{wr:World}(H:xu n p len base q room ws nm M g w d k wr)(t:w.heap.size<g)(u:g<d.heap.size)(h:ag w d){b o:Nat}(i:b<w.heap.size)(m:¬M b){x:Tm n}(l:dA w b o n x)(e:In w.heap.size w n x)(f:bV (λb=>¬M b) n x):dA wr b o n x/\In w.heap.size wr n x/\bV (λb=>¬(((M b/\b<w.heap.size)\/d.heap.size<=b)/\b<wr.heap.size)) n x:=by
 have j:∀a,¬M a/\a<w.heap.size->wr.heap[a]?=d.heap[a]? :=λa r=>H.2.2.block a (by omega) (by rintro (c|c);exact r.1 c.1;omega);refine⟨(l.below h i).block (j b ⟨m,i⟩),In.off j (In.offB f e) (e.below h),(In.offB f e).mono ?_⟩;rintro a ⟨s,v⟩ ⟨c|c,_⟩
 ·exact s c.1
 ·omega
theorem IE{n:Nat}{p:List (Tm n)}{len base:Nat}{f:ch}{room:Int}{ws:List Wd}{nm:List ByteArray}{M:Nat->Prop}{g:Nat}{w e:World}{wr:World}(H:xu n p len base f room ws nm M g w e len wr)(E:p.length=len)(C:g=w.heap.size+2)(D:g<e.heap.size)(m:ag w e):dw base f room (bB (aO n) p ws nm).2.1 (bB (aO n) p ws nm).2.2 (λb=>((M b/\b<w.heap.size)\/e.heap.size<=b)) wr/\(∀w1,bL (λb=>((M b/\b<w.heap.size)\/e.heap.size<=b)) wr w1->eI w1 (bB (aO n) p ws nm).1 (some ⟨g,0,none⟩))/\ (∀o,wr.cell? ⟨w.heap.size+1,o,none⟩=e.cell? ⟨w.heap.size+1,o,none⟩/\wr.frozen? ⟨w.heap.size+1,o,none⟩=e.frozen? ⟨w.heap.size+1,o,none⟩)/\ ∀k j w2,lw base f room k j (λb=>((M b/\b<w.heap.size)\/e.heap.size<=b)) wr w2-> (∀o,w2.cell? ⟨w.heap.size+1,o,none⟩=wr.cell? ⟨w.heap.size+1,o,none⟩/\w2.frozen? ⟨w.heap.size+1,o,none⟩=wr.frozen? ⟨w.heap.size+1,o,none⟩)/\ ∀v0 v1,lw base f room k j M w ((w2.setCell ⟨w.heap.size+1,0,none⟩ v0).setCell ⟨w.heap.size+1,1,none⟩ v1):=by
 obtain⟨h,l,i⟩:=H;rw[bw (by omega)]at h l;rw[jo,mn,dZ]at h;have F:=i.size;refine⟨l,λw1 x=>af ⟨_,rfl,λy B v=>?_⟩,λo=>?_,λk j w2 q=>⟨λo=>?_,λv0 v1=>?_⟩⟩
 ·have:=(dK h x (λb d=>by
    simp only[Value.ownBlock]at d;obtain rfl:=ap d
    omega)).cells (g:=g) rfl y B v
  exact this
 ·have d:=i.block (w.heap.size+1) (by omega) (by omega);exact⟨bk d o,iO (a:=⟨w.heap.size+1,o,none⟩) d⟩
 ·have d:=q.2.block (w.heap.size+1) (by omega) (by omega);exact⟨bk d o,iO (a:=⟨w.heap.size+1,o,none⟩) d⟩
 ·obtain⟨t,u⟩:=q;have z:=aZ w2 (w.heap.size+1) 0 v0;have A:=aZ (w2.setCell ⟨w.heap.size+1,0,none⟩ v0) (w.heap.size+1) 1 v1;have s:=z.trans A (λb _ c=>c);refine⟨(t.kept s ?_).mono ?_,?_⟩
  ·rintro b (c|c) _ d<;>omega
  ·rintro b ((c|c)|c)
   ·exact ae c.1
   ·exact af (by omega)
   ·exact af (by omega)
  ·refine(((aT m M).trans i ?_).trans u ?_).trans s ?_
   ·rintro b r (c|c)
    ·exact c.1
    ·omega
   ·rintro b r (c|c)
    ·exact c.1
    ·have:=m.size;omega
   ·intro b r c;omega
theorem uo(n:Nat)(l:List (Tm n))(ws:List Wd)(nm:List ByteArray):(bB (aO n) l ws nm).2.1.length<=ws.length+2*(l.flatMap λy=>ar n y).length/\(bB (aO n) l ws nm).2.2.length<=nm.length+(l.flatMap λy=>ar n y).length:=by
 induction l generalizing ws nm with
 | nil=>simp[bB]
 | cons y l ih=>
  obtain⟨a,b⟩:=ir n y ws nm;obtain⟨d,e⟩:=ih (aO n y ws nm).2.1 (aO n y ws nm).2.2;have c:=(ez n y).2;simp only[bB,bv,aY];exact⟨by omega,by omega⟩
theorem Aw(n:Nat)(p:List (Tm n))(k:Nat)(x:Tm n)(d:p[k]?=some x):((p.take k).flatMap λy=>ar n y).length+(ar n x).length<=(p.flatMap λy=>ar n y).length:=by
 have b:=aL.1 d;obtain⟨c,rfl⟩:=b;have a:p=p.take k++p[k]::p.drop (k+1):=by
  rw[<-eR c,jl]
 conv=>rhs;rw[a]
 simp only[j8,bv,aY];omega
theorem K4(n:Nat)(ih:Ns n)(base:Nat)(d:ch)(room:Int)(ws:List Wd)(nm:List ByteArray)(M:Nat->Prop)(al:Int)(s:ByteArray)(a:Option Addr)(len pc:Nat)(p:List (Tm n))(C:Hid (p.length=len))(w:World)(ad:Hid (dw base d room ws nm M w))(aE:len<=8)(ax:base<=w.heap.size)(F:Hid (p=[]\/∃b o,a=some ⟨b,o,none⟩/\b<w.heap.size/\¬M b/\∀(i:Nat)(y:Tm n),p[i]?=some y->dA w b (o+i*4) n y/\In w.heap.size w n y/\bV (λb=>¬M b) n y))(S:Hid (∀y∈p,aw ⟨n,y⟩))(G:Hid (ws.length+2*(p.flatMap λy=>ar n y).length<=99000))(P:Hid (nm.length+(p.flatMap λy=>ar n y).length<=99000)):ah 98 #[.pointer (some ⟨d.b,d.o,none⟩),.agg #[.int .i64 4,.int .i64 al,.string s,.slice a len pc]] w λe w'=>e=.returned (G1 (4,((bB (aO n) p ws nm).2.1.length:Int)))/\Hid (lw base d room ((bB (aO n) p ws nm).2.1++(0,(len:Int))::(bB (aO n) p ws nm).1) (bB (aO n) p ws nm).2.2 M w w'):=by
 obtain⟨af,L,T,U,V⟩:=bO kD;go_enter Tryz.func98,Tryz.ntmps98;go_wp2_with (at_make;refine kt _ rfl _ _ 96 rfl (w.heap.size+2) 105 af _ 2 Tryz.underlying96 L T U _ _ _ _ len rfl rfl rfl rfl (by rw[V];omega) (by unfold maxLen;omega) (by simp) ?_;intro x Q K;have l:=aj (IF (p:=p) ad.out Q K);have au:=l.out.2.1;clear Q K);clear L T U V;obtain⟨c,B⟩:∃c,w.heap.size+1+1=c:=⟨_,rfl⟩;have H:Hid (xu n p len base d room ws nm M c w x 0 x):=by subst B;exact l.out.1.1
 have E:c<x.heap.size:=by subst B;exact l.out.1.2.2
 rw[B];go_loopw [28] (λi wr=>∃k:Nat,k<=len/\i=.int .i64 k/\Hid (xu n p len base d room ws nm M c w x k wr)) (λi _=>len-(intOf i).toNat)
 case atStart=>exact⟨0,by omega,rfl,H.out⟩
 case round=>
  clear H;obtain⟨k,az,rfl,g⟩:=hrel;by_cases N:k<len
  ·obtain⟨f,m⟩:∃f,p[k]?=some f:=⟨p[k]'(by rw[C.out];exact N),aD _⟩;obtain⟨b,o,rfl,ae,O,R⟩:∃b o,a=some ⟨b,o,none⟩/\b<w.heap.size/\¬M b/\∀(i:Nat)(y:Tm n),p[i]?=some y->dA w b (o+i*4) n y/\In w.heap.size w n y/\bV (λb=>¬M b) n y:=by
    rcases F.out with e|e
    ·rw[e]at m;simp at m
    ·exact e
   obtain⟨W,X,Y⟩:=R k f m;obtain⟨y1,y2,Z⟩:=IG g.out (by omega) E l.out.1.2.1 ae O W X Y;have ay:c<wr.heap.size:=(g.out.1.lt c rfl).2;have aI:=g.out.2.2.size;cases n with
   | zero=>exact y1.elim
   | succ n=>
   obtain⟨u,q⟩:∃u:Wd,Hid (∀D,ag wr D->ah 98 #[.pointer (some ⟨d.b,d.o,none⟩),.agg #[.int .i64 f.1.1,.int .i64 f.1.2.1,.string f.1.2.2,.slice f.2.1.1 f.2.2.length f.2.1.2]] D λe h=>e=.returned (.agg #[.int .i64 u.1,.int .i64 u.2])/\
       Hid (xu (n+1) p len base d room ws nm M c w x (k+1) ((h.setCell ⟨c,k*2,none⟩ (.int .i64 u.1)).setCell ⟨c,k*2+1,none⟩ (.int .i64 u.2))/\
        (h.cell? ⟨c,k*2,none⟩=some (.int .i64 0)/\h.cell? ⟨c,k*2+1,none⟩=some (.int .i64 0))/\h.frozen? ⟨c,k*2,none⟩=false/\h.frozen? ⟨c,k*2+1,none⟩=false)):=by
    refine⟨(aO (n+1) f (bB (aO (n+1)) (p.take k) ws nm).2.1 (bB (aO (n+1)) (p.take k) ws nm).2.2).1,λD A=>?_⟩;have aJ:=uo (n+1) (p.take k) ws nm;have aK:=Aw (n+1) p k f m;have aH:=G.out;have aF:=P.out;have aG:=A.size;refine(ih f base d room _ _ _ D (g.out.2.1.later A) ((y2.below (A.mono (by omega))).mono (by omega)) Z (by omega) (S.out f (aC m)) (by omega) (by omega)).mono ?_;rintro e h ⟨rfl,z⟩;exact⟨rfl,g.out.step (by omega) E N C.out m A z.out⟩
   obtain⟨am,an,ao,ap⟩:=y1;clear ih g F R W X Y y2 Z m O G P S;generalize f.2.2.length=aL at*;have aA:(0:Int)<=(k:Int):=by omega
   have aB:(k:Int)<(len:Int):=by omega
   have av:b<wr.heap.size:=by omega
   go_wp2_with fail;refine(q.out _ ((ak _ _).alloc (ai _) _)).mono ?_;rintro e h ⟨rfl,I⟩;obtain⟨⟨J,d1⟩,aa,ab⟩:=I.out.2;clear q am an ao ap;go_wp2_with fail;go_roundw
   case rel=>exact⟨k+1,by omega,by go_num,I.out.1⟩
   case measure=>simp[intOf];omega
  ·obtain rfl:k=len:=by omega
   have j:=aj (IE g.out C.out B.symm E l.out.1.2.1)
   have q:Hid (ah 130 #[.pointer (some ⟨d.b,d.o+1,none⟩),.slice (some ⟨c,0,none⟩) k k] wr λe w'=>e=.returned (.agg #[.int .i64 4,.int .i64 (bB (aO n) p ws nm).2.1.length])/\Hid (lw base d room ((bB (aO n) p ws nm).2.1++(0,(k:Int))::(bB (aO n) p ws nm).1) (bB (aO n) p ws nm).2.2 _ wr w')):=
    Oi base d room (bB (aO n) p ws nm).2.1 (bB (aO n) p ws nm).2.2 _ (bB (aO n) p ws nm).1 k k (some ⟨c,0,none⟩) wr j.out.1 (by have:=g.out.2.2.size;omega) (by have:=(uo n p ws nm).1;have:=G.out;omega) (by rw[gC];exact C.out) (by omega) j.out.2.1
   have t:=l.out.2.2;clear g l ih F;go_wp2_with fail;refine q.out.mono ?_;rintro e h ⟨rfl,z⟩;have r:=aj (j.out.2.2.2 _ _ h z.out);have J:=((r.out.1 0).1.trans (j.out.2.2.1 0).1).trans t.1.1;have d1:=((r.out.1 1).1.trans (j.out.2.2.1 1).1).trans t.1.2;have aa:=((r.out.1 0).2.trans (j.out.2.2.1 0).2).trans t.2.1;have ab:=((r.out.1 1).2.trans (j.out.2.2.1 1).2).trans t.2.2;clear q j z t;go_wp2_with fail;exact aq (v:=.agg #[.int .i64 4,.int .i64 ((bB (aO n) p ws nm).2.1.length:Int)]) (by simp[results,Tryz.results98,go_sem,J,d1]) rfl ⟨rfl,r.out.2 _ _⟩
theorem FA{base:Nat}{c:ch}{room:Int}{ws:List Wd}{nm:List ByteArray}{M:Nat->Prop}{w w':World}(a:dw base c room ws nm M w)(b:ag w w'):lw base c room ws nm M w w':=
 ⟨(a.later b).mono λ_ a=>ae a.1,aT b M⟩
theorem KZ(n:Nat):Ns n:=by
 induction n with
 | zero=>intro a t p room d c s q _ w;exact w.elim
 | succ n ih=>
  intro a t p room d c s q u w k y A O J;have H:=w;obtain⟨⟨Q,R,N,M,L⟩,h⟩:=H;have z:=A (bu n a) (by simp[ar,bu]);have F:a.2.2.length<=8:=lK (bu n a) z;have G:a.1.2.2.size<=2048:=by have:=rE (bu n a) z;simp only[bu]at this;omega
  have K:(ar (n+1) a).length=1+(a.2.2.flatMap λf=>ar n f).length:=by simp[ar];omega
  by_cases g:a.1.1=2
  ·have e:aO (n+1) a d c=((2,(kI (ek c a.1.2.2) a.1.2.2:Int)),d,ek c a.1.2.2):=by simp only[aO,if_pos g]
   rw[e];have j:=IC t p room d c s a.1.2.1 a.1.2.2 a.2.1.1 a.2.2.length a.2.1.2 q u y (by omega) G;rw[<-g]at j;refine j.mono ?_;rintro e B ⟨rfl,r⟩;exact⟨by rw[g];rfl,r⟩
  ·by_cases i:a.1.1=4
   ·have e:aO (n+1) a d c=((4,((bB (aO n) a.2.2 d c).2.1.length:Int)),(bB (aO n) a.2.2 d c).2.1++(0,(a.2.2.length:Int))::(bB (aO n) a.2.2 d c).1,(bB (aO n) a.2.2 d c).2.2):=by simp only[aO,if_neg g,if_pos i]
    rw[e];have j:=K4 n ih t p room d c s a.1.2.1 a.1.2.2 a.2.1.1 a.2.2.length a.2.1.2 a.2.2 rfl q u F y ?_ (λf l=>aN n a f A l) (by unfold Hid;omega) (by unfold Hid;omega)
    ·rw[<-i]at j;refine j.mono ?_;rintro e B ⟨rfl,r⟩;exact⟨by rw[i],r⟩
    ·rcases h with h|⟨b,o,e,v,h⟩
     ·exact ae h
     ·rcases k with k|⟨I,P,m,E,k⟩
      ·exact ae k
      ·rw[e]at m;injection m with m;injection m with C D;subst C D;exact af ⟨b,o,e,v,E,λx f l=>⟨(h x f l).1,(h x f l).2,k x f l⟩⟩
   ·have e:aO (n+1) a d c=((a.1.1,a.1.2.1),d,c):=by simp only[aO,if_neg g,if_neg i]
    rw[e];refine(ID p a.1.1 a.1.2.1 a.1.2.2 a.2.1.1 a.2.2.length a.2.1.2 q g i).mono ?_;rintro e B ⟨rfl,v⟩;exact⟨rfl,FA u v⟩
end Go.Proofs.YtckamaoibonjcaaGreat
