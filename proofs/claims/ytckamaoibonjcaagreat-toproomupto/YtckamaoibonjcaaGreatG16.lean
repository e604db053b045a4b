/- What is proved here: plain facts and contracts that the claimed theorem stands on. No condition but those that each names. -/
import Derived.Test.YtckamaoibonjcaaGreatG15
import Derived.Deep.QuietTactic
import Derived.BigQuiet
namespace Go.Proofs.YtckamaoibonjcaaGreat
open Go.RowKit
set_option maxHeartbeats 1000000
set_option maxRecDepth 100000
def L9(room:Int)(w:World)(e:Ending)(w':World):Prop:=
    (¬(0<=room/\room<=1000)->e=.returned (.tuple #[.pointer none,.int .i64 1])/\w'=w)/\
    (0<=room/\room<=1000->e=.returned (.tuple #[.pointer (some ⟨w.heap.size,0,none⟩),.int .i64 0])/\HB (cg.own w.heap.size) room (.slice none 0 0) (.slice none 0 0) (.map none) w'/\w'.heap.size=w.heap.size+1/\ag w w')
theorem KQ(room:Int)(w:World):ah 65 #[.int .i64 room] w (L9 room w):=by
 by_cases a:room<0
 ·have b:decide (room<0)=true:=by simpa using a
  go_enter Tryz.func65,Tryz.ntmps65;go_wp2_with fail
  go_ret2
  exact⟨λ_=>⟨rfl,rfl⟩,λc=>by omega⟩
 ·by_cases d:1000<room
  ·have b:decide (room<0)=false:=by simpa using a
   have e:decide (1000<room)=true:=by simpa using d
   go_enter Tryz.func65,Tryz.ntmps65;go_wp2_with fail
   go_ret2
   exact⟨λ_=>⟨rfl,rfl⟩,λc=>by omega⟩
  ·have b:decide (room<0)=false:=by simpa using a
   have e:decide (1000<room)=false:=by simpa using d
   go_enter Tryz.func65,Tryz.ntmps65;go_wp2_with fail
   go_ret2
   exact⟨λc=>by omega,λ_=>⟨rfl,⟨⟨rfl,ae rfl⟩,ax w _⟩,by simp,(ak _ _).alloc (ai _) _⟩⟩
def fG(ws:List Wd)(i:Int):Bool:=decide (0<=i) && match ws[i.toNat]? with
 | some x=>x.1==0
 | none=>false
theorem iA{base g c L:Nat}{ws:List Wd}{w:World}(d:w.ownsRow base 105 2 (.slice (some ⟨g,0,none⟩) L c) L (aS ws))(k:Nat)(x:Wd)(b:ws[k]?=some x):w.cell? ⟨g,k*2,none⟩=some (.int .i64 x.1)/\w.cell? ⟨g,k*2+1,none⟩=some (.int .i64 x.2):=by
 have a:=d.cells (g:=g) rfl;refine⟨?_,?_⟩
 ·have:=a (k*2+0) (.int .i64 x.1) (by rw[iy ws k x b 0 (by omega)];rfl);rw[eM]at this;exact this
 ·have:=a (k*2+1) (.int .i64 x.2) (by rw[iy ws k x b 1 (by omega)];rfl);rw[eM]at this;exact this
theorem BO(base:Nat)(l:Option Addr)(L m:Nat)(ws:List Wd)(i:Int)(w:World)(d:Hid (ws.length=L))(q:L<=100000)(f:Hid (w.ownsRow base 105 2 (.slice l L m) L (aS ws))):ah 132 #[.slice l L m,.int .i64 i] w λe w'=>e=.returned (.bool (fG ws i))/\w'=w:=by
 by_cases h:0<=i
 ·obtain⟨k,rfl⟩:∃k:Nat,i=k:=⟨i.toNat,by omega⟩;by_cases o:k<L
  ·obtain⟨a,b⟩:∃a,ws[k]?=some a:=⟨ws[k]'(by rw[d.out];exact o),aD _⟩;obtain⟨p,c,j,_,_⟩:=f.out.form (by omega);simp at j;obtain⟨rfl,rfl⟩:=j;obtain⟨t,u⟩:=iA f.out k a b;have HB:Hid (fG ws k=(a.1==0)):=by simp[Hid,fG,b]
   have g:decide ((0:Int)<=(k:Int))=true:=by simp
   have n:decide ((k:Int)<(L:Int))=true:=by simp;omega
   have r:(0:Int)<=(k:Int):=by omega
   have s:(k:Int)<(L:Int):=by omega
   clear b;go_enter Tryz.func132,Tryz.ntmps132;go_wp2_with fail
   go_ret
   exact⟨ft HB.out.symm,rfl⟩
  ·have HB:Hid (fG ws k=false):=by
     have:ws[k]?=none:=ed (by rw[d.out];omega);simp[Hid,fG,this]
   have g:decide ((0:Int)<=(k:Int))=true:=by simp
   have n:decide ((k:Int)<(L:Int))=false:=by simp;omega
   go_enter Tryz.func132,Tryz.ntmps132;go_wp2_with fail
   go_ret
   exact⟨ft HB.out.symm,rfl⟩
 ·have HB:Hid (fG ws i=false):=by simp[Hid,fG,h]
  have g:decide (0<=i)=false:=by simpa using h
  go_enter Tryz.func132,Tryz.ntmps132;go_wp2_with fail
  go_ret
  exact⟨ft HB.out.symm,rfl⟩
def tV(L:Nat)(i:Int):Bool:=decide (0<=i) && decide (i<L)
theorem KB(c:cg)(room:Int)(tv:Value)(g:Option Addr)(L h:Nat)(mv:Value)(i:Int)(w:World)(d:Hid (HB c room tv (.slice g L h) mv w)):ah 131 #[.pointer (some ⟨c.b,c.o+2,none⟩),.int .i64 i] w λe w'=>e=.returned (.bool (tV L i))/\w'=w:=by
 obtain⟨⟨j,k,l,m⟩,n⟩:=d.out.cells;by_cases a:0<=i
 ·have HB:Hid (tV L i=decide (i<L)):=by simp[Hid,tV,a]
  have f:decide (0<=i)=true:=by simpa using a
  go_enter Tryz.func131,Tryz.ntmps131;go_wp2_with fail
  go_ret
  exact⟨ft HB.out.symm,rfl⟩
 ·have HB:Hid (tV L i=false):=by simp[Hid,tV,a]
  have f:decide (0<=i)=false:=by simpa using a
  go_enter Tryz.func131,Tryz.ntmps131;go_wp2_with fail
  go_ret
  exact⟨ft HB.out.symm,rfl⟩
theorem MN(l:List ByteArray)(k:Nat)(s:ByteArray)(a:l[k]?=some s):(fw l)[k]?=some (.string s):=by simp[fw,a]
theorem Cx(base:Nat)(a:cg)(room:Int)(tv lv mv:Value)(nm:List ByteArray)(i:Nat)(s:ByteArray)(w:World)(h:Hid (HB a room tv lv mv w))(d:Hid (w.ownsRow base 9 1 lv nm.length (fw nm)))(f:Hid (nm[i]?=some s))(r:nm.length<=100000)(l:s.size<=2048):ah 133 #[.pointer (some ⟨a.b,a.o+2,none⟩),.int .i64 i] w λe w'=>e=.returned (.string s)/\ag w w':=by
 have x:i<nm.length:=(aL.1 f.out).1;obtain⟨g,c,rfl,_,_⟩:=d.out.form (by omega);have z:w.cell? ⟨g,i,none⟩=some (.string s):=by
  have:=d.out.cells (g:=g) rfl i (.string s) (MN nm i s f.out);rw[eM]at this;exact this
 obtain⟨⟨m,n,p,q⟩,t⟩:=h.out.cells;generalize nm.length=j at*;have u:(0:Int)<=(i:Int):=by omega
 have v:(i:Int)<(j:Int):=by omega
 go_enter Tryz.func133,Tryz.ntmps133;go_wp2_with fail;refine(dD s _ l).mono ?_;rintro e y ⟨rfl,k⟩;go_wp2_with fail
 go_ret
 exact⟨rfl,k⟩
theorem Aa(a:cg)(room n:Int)(d:Option Addr)(L f:Nat)(lv mv:Value)(w:World)(k:L<=100000)(p:0<=room)(m:room<=1000)(c:Hid (HB a room (.slice d L f) lv mv w)):ah 97 #[.pointer (some ⟨a.b,a.o,none⟩),.int .i64 n] w λe w'=>e=.returned (.bool (decide (n<=room-L)))/\ag w w':=by
 obtain⟨⟨g,h,i,j⟩,l⟩:=c.out.cells;go_enter Tryz.func97,Tryz.ntmps97;go_wp2_with fail
 go_quiet (fail)
 go_wp2_with fail
 go_ret
 exact⟨rfl,⟨rfl,rfl,rfl,ai _,λ_ _=>rfl⟩⟩
theorem sw(ws:List Wd)(k n j:Nat)(g:j<n*2):(aS ((ws.drop k).take n))[j]?=(aS ws)[k*2+j]? :=by
 by_cases f:k+j / 2<ws.length
 ·obtain⟨a,b⟩:∃a,ws[k+j / 2]?=some a:=⟨_,aD f⟩;have e:((ws.drop k).take n)[j / 2]?=some a:=by
   rw[rQ (by omega),jX];exact b
  have c:j=j / 2*2+j % 2:=by omega
  have d:k*2+j=(k+j / 2)*2+j % 2:=by omega
  rw[d,iy ws (k+j / 2) a b (j % 2) (by omega)]
  conv=>lhs;rw[c]
  rw[iy _ (j / 2) a e (j % 2) (by omega)]
 ·rw[ed (l:=aS ws) (by rw[ci];omega),ed (by rw[ci,dr,eC];omega)]
def JZ(ws:List Wd)(k n g:Nat)(w:World)(e:Ending)(w':World):Prop:=w'=w/\∃pa pc,e=.returned (.slice (some pa) n pc)/\pa.block=g/\eG w ((ws.drop (k+1)).take n) (some pa)/\∃o,pa=⟨g,o,none⟩
theorem K7{base g L c:Nat}{xs:List Value}{ty:TypeId}{sz:Nat}{w:World}(a:w.ownsRow base ty sz (.slice (some ⟨g,0,none⟩) L c) L xs):L<=c/\c<=maxLen:=by
 rcases a.2 with⟨a,_⟩|⟨f,cap,e,a,_,_,b,d,_⟩
 ·simp at a
 ·injection a with _ _ a;subst a;exact⟨b,d⟩
theorem wg(base:Nat)(g L b k n:Nat)(ws:List Wd)(w:World)(r:L<=100000)(c:Hid (w.ownsRow base 105 2 (.slice (some ⟨g,0,none⟩) L b) L (aS ws)))(p:Hid (ws[k]?=some (0,(n:Int))))(s:k+1+n<=L):ah 135 #[.slice (some ⟨g,0,none⟩) L b,.int .i64 k] w (JZ ws k n g w):=by
 obtain⟨v,x⟩:=iA c.out k _ p.out;obtain⟨u,f⟩:=K7 c.out;have e:Hid (∀o,(n=0\/o=(k+1)*2)->eG w ((ws.drop (k+1)).take n) (some ⟨g,o,none⟩)):=by
  rintro o (rfl|rfl)
  ·exact ae (by simp)
  ·refine af ⟨_,rfl,λa q d=>?_⟩;have l:a<n*2:=by
    have:=(aL.1 d).1;rw[ci,dr]at this;omega
   rw[sw ws (k+1) n a l]at d;have:=c.out.cells (g:=g) rfl _ q d;rw[eM]at this;have h:(⟨g,(k+1)*2,none⟩:Addr).add a=⟨g,(k+1)*2+a,none⟩:=by
    unfold Addr.add;by_cases i:a=0<;>simp[i]
   rw[h];exact this
 have t:(b:Int)<=9223372036854775807:=by unfold maxLen at f;omega
 clear f;by_cases j:b=k+1
 ·subst j;have m:n=0:=by omega
  subst m;go_enter Tryz.func135,Tryz.ntmps135;go_wp2_with fail
  go_ret
  exact⟨rfl,_,_,rfl,rfl,e.out _ (by simp),_,rfl⟩
 ·go_enter Tryz.func135,Tryz.ntmps135;go_wp2_with fail
  go_ret
  exact⟨rfl,_,_,rfl,rfl,e.out _ (af rfl),_,rfl⟩
def Nq(s t:ByteArray):Bool:=t.data==s.data
theorem nS(s t:ByteArray):Nq s t=true ↔ t=s:=by
 cases s;cases t;simp[Nq]
def ei(nm:List ByteArray)(s:ByteArray):List ByteArray:=if nm.any (Nq s)then nm else nm++ [s]
def kC(nm:List ByteArray)(s:ByteArray):Nat:=nm.findIdx (Nq s)
theorem xV(nm:List ByteArray)(s:ByteArray):nm.any (Nq s)=true ↔ s∈nm:=by
 rw[List.any_eq_true];constructor
 ·rintro ⟨t,c,a⟩;rw[nS]at a;exact a▸c
 ·exact λb=>⟨s,b,(nS s s).2 rfl⟩
theorem Aw{nm:List ByteArray}{s:ByteArray}(e:nm.Nodup){i:Nat}(b:nm[i]?=some s):kC nm s=i:=by
 have f:=(aL.1 b).1;have a:kC nm s<nm.length:=by
  unfold kC;rw[List.findIdx_lt_length];exact⟨s,aC b,(nS s s).2 rfl⟩
 have d:nm[kC nm s]'a=s:=(nS s _).1 (List.findIdx_getElem (w:=a));have c:nm[kC nm s]?=nm[i]? :=by rw[b,aD a,d]
 exact(List.getElem?_inj a e).1 c
def bB{a:Type}(f:a->List Wd->List ByteArray->Wd×List Wd×List ByteArray):List a->List Wd->List ByteArray->List Wd×List Wd×List ByteArray
 | [],ws,nm=>([],ws,nm)
 | y::l,ws,nm=>((f y ws nm).1::(bB f l (f y ws nm).2.1 (f y ws nm).2.2).1,(bB f l (f y ws nm).2.1 (f y ws nm).2.2).2)
def aO:(n:Nat)->Tm n->List Wd->List ByteArray->Wd×List Wd×List ByteArray
 | 0,_,ws,nm=>((0,0),ws,nm)
 | n+1,x,ws,nm=>
  if x.1.1=2 then ((2,(kC (ei nm x.1.2.2) x.1.2.2:Int)),ws,ei nm x.1.2.2)
  else if x.1.1=4 then
   ((4,((bB (aO n) x.2.2 ws nm).2.1.length:Int)),(bB (aO n) x.2.2 ws nm).2.1++(0,(x.2.2.length:Int))::(bB (aO n) x.2.2 ws nm).1,(bB (aO n) x.2.2 ws nm).2.2)
  else ((x.1.1,x.1.2.1),ws,nm)
theorem Fl{a:Type}(f:a->List Wd->List ByteArray->Wd×List Wd×List ByteArray)(l:List a)(y:a)(ws:List Wd)(nm:List ByteArray):bB f (l++ [y]) ws nm=((bB f l ws nm).1++ [(f y (bB f l ws nm).2.1 (bB f l ws nm).2.2).1],(f y (bB f l ws nm).2.1 (bB f l ws nm).2.2).2):=by
 induction l generalizing ws nm with
 | nil=>simp[bB]
 | cons b l ih=>simp[bB,ih]
theorem gu{a:Type}(f:a->List Wd->List ByteArray->Wd×List Wd×List ByteArray)(l:List a)(ws:List Wd)(nm:List ByteArray):(bB f l ws nm).1.length=l.length:=by
 induction l generalizing ws nm with
 | nil=>simp[bB]
 | cons b l ih=>simp[bB,ih]
theorem xU(nm:List ByteArray)(s:ByteArray):(ei nm s).length<=nm.length+1:=by
 unfold ei;split<;>simp
theorem ij:(n:Nat)->(x:Tm n)->(ws:List Wd)->(nm:List ByteArray)->((aO n x ws nm).2.1.length:Int)=ws.length+sz n x/\(aO n x ws nm).2.2.length<=nm.length+(ar n x).length
 | 0,_,_,_=>by simp[aO,sz]
 | n+1,x,ws,nm=>by
  have key:∀(l:List (Tm n))(ws:List Wd)(nm:List ByteArray),((bB (aO n) l ws nm).2.1.length:Int)+l.length=ws.length+(l.map λy=>1+sz n y).sum/\(bB (aO n) l ws nm).2.2.length<=nm.length+(l.flatMap λy=>ar n y).length:=by
   intro l
   induction l with
   | nil=>intro ws nm;simp[bB]
   | cons y l ih=>
    intro ws nm;obtain⟨e,f⟩:=ij n y ws nm;obtain⟨g,h⟩:=ih (aO n y ws nm).2.1 (aO n y ws nm).2.2;simp only[bB,aH,bq,bv,aY,aV];exact⟨by omega,by omega⟩
  obtain⟨i,j⟩:=key x.2.2 ws nm;have k:=xU nm x.1.2.2;have c:=gu (aO n) x.2.2 ws nm;have d:(ar (n+1) x).length=1+(x.2.2.flatMap λy=>ar n y).length:=by simp[ar];omega
  rw[d];by_cases b:x.1.1=2
  ·have a:¬x.1.1=4:=by omega
   simp only[aO,sz,if_pos b,if_neg a];exact⟨by omega,by omega⟩
  ·by_cases a:x.1.1=4
   ·simp only[aO,sz,if_neg b,if_pos a,aY,aV,c];exact⟨by omega,by omega⟩
   ·simp only[aO,sz,if_neg b,if_neg a];exact⟨by omega,by omega⟩
def du(base:Nat)(e:cg)(room:Int)(ws:List Wd)(nm:List ByteArray)(M:Nat->Prop)(w:World):Prop:=
 ∃d a c,HB e room d a c w/\w.ownsRow base 105 2 d ws.length (aS ws)/\jy base nm a c w/\M e.b/\(∀b,d.ownBlock=some b->M b)/\(∀b,a.ownBlock=some b->M b)/\∀b,mapBlock c=some b->M b
theorem dJ{base:Nat}{e:TypeId}{sz:Nat}{v:Value}{n:Nat}{xs:List Value}{w w':World}{S:Nat->Prop}(c:w.ownsRow base e sz v n xs)(k:bL S w w')(h:∀b,v.ownBlock=some b->¬S b):w'.ownsRow base e sz v n xs:=by
 refine⟨c.1,?_⟩;rcases c.2 with⟨e,g⟩|⟨a,cap,f,e,i,d,j⟩
 ·exact ae ⟨e,g⟩
 ·exact af ⟨a,cap,f,e,i,(k.block a (aA.1 d).1 (h a (by rw[e];rfl))).trans d,j⟩
theorem du.kept{base:Nat}{d:cg}{room:Int}{ws:List Wd}{nm:List ByteArray}{M S:Nat->Prop}{w w':World}(m:du base d room ws nm M w)(k:bL S w w')(c:∀b,M b->b<w.heap.size->¬S b):du base d room ws nm M w':=by
 obtain⟨q,o,p,e,g,f,h,i,j,l⟩:=m;refine⟨q,o,p,e.kept (k.block d.b e.lt (c d.b h e.lt)),dJ g k λb a=>c b (i b a) (g.lt b a).2,?_,h,i,j,l⟩;refine f.kept k (λb a=>c b (j b a) (f.1.lt b a).2) λb a=>c b (l b a) ?_;rcases f.2.2 with⟨rfl,_⟩|⟨s,r,rfl,_,n,_⟩
 ·simp[mapBlock]at a
 ·simp only[mapBlock]at a;obtain rfl:=aq a;exact n.lt
theorem du.mono{base:Nat}{c:cg}{room:Int}{ws:List Wd}{nm:List ByteArray}{M S:Nat->Prop}{w:World}(d:du base c room ws nm M w)(k:∀b,M b->S b):du base c room ws nm S w:=by
 obtain⟨o,m,n,e,f,g,h,i,j,l⟩:=d;exact⟨o,m,n,e,f,g,k _ h,λb a=>k b (i b a),λb a=>k b (j b a),λb a=>k b (l b a)⟩
def lk(base:Nat)(a:cg)(room:Int)(ws:List Wd)(nm:List ByteArray)(M:Nat->Prop)(w w':World):Prop:=du base a room ws nm (λb=>M b\/w.heap.size<=b) w'/\bL M w w'
theorem wE{w:World}{base h:Nat}{e f:TypeId}{s o n m:Nat}{v g:Value}{xs ys:List Value}(i:w.ownsRow base e s v n xs)(j:w.ownsRow h f o g m ys)(l:e≠f):∀b,v.ownBlock=some b->g.ownBlock≠some b:=by
 intro b c d;rcases i.2 with⟨rfl,_⟩|⟨t,cap,q,rfl,_,k,_⟩
 ·simp[Value.ownBlock]at c
 ·rcases j.2 with⟨rfl,_⟩|⟨u,p,r,rfl,_,a,_⟩
  ·simp[Value.ownBlock]at d
  ·simp only[Value.ownBlock]at c d;obtain rfl:=aq c;obtain rfl:=aq d;rw[k]at a;injection a with a;injection a with _ a;exact l a
theorem mH{w:World}{base:Nat}{e:TypeId}{s n:Nat}{v:Value}{xs:List Value}{c:cg}{room:Int}{tv lv mv:Value}(h:w.ownsRow base e s v n xs)(f:HB c room tv lv mv w)(g:e≠103/\e≠107):v.ownBlock≠some c.b:=λe=>by
 rcases h.2 with⟨rfl,_⟩|⟨k,cap,j,rfl,_,i,_⟩
 ·simp[Value.ownBlock]at e
 ·simp[Value.ownBlock]at e;subst e;have a:w.heap[c.b]?=_:=f.2;rw[i]at a;injection a with a;injection a with a d;rcases f.1.2 with t1|t1
  ·exact g.1 (d.trans t1)
  ·exact g.2 (d.trans t1)
theorem Eh{w:World}{base:Nat}{e:TypeId}{s n:Nat}{v:Value}{xs:List Value}{nm:List ByteArray}{lv mv:Value}{f:Nat}(g:w.ownsRow base e s v n xs)(h:jy f nm lv mv w):∀b,v.ownBlock=some b->mapBlock mv≠some b:=by
 intro b a c;rcases g.2 with⟨rfl,_⟩|⟨o,cap,m,rfl,_,i,_⟩
 ·simp[Value.ownBlock]at a
 ·rcases h.2.2 with⟨rfl,_⟩|⟨p,k,rfl,_,j,_⟩
  ·simp[mapBlock]at c
  ·simp only[Value.ownBlock,mapBlock]at a c;obtain rfl:=aq a;obtain rfl:=aq c;obtain⟨es,l,d,_⟩:=j;rw[i]at d;cases d
theorem s8{w:World}{nm:List ByteArray}{lv mv:Value}{base:Nat}{a:cg}{room:Int}{tv i j:Value}(f:jy base nm lv mv w)(d:HB a room tv i j w):mapBlock mv≠some a.b:=λe=>by
 rcases f.2.2 with⟨rfl,_⟩|⟨l,D,rfl,_,h,_⟩
 ·simp[mapBlock]at e
 ·simp only[mapBlock]at e;obtain rfl:=aq e;obtain⟨es,k,g,_⟩:=h;have c:w.heap[a.b]?=_:=d.2;rw[g]at c;cases c
theorem KE{nm b:List ByteArray}{s:ByteArray}{i:Nat}(f:b.Nodup)(e:b[i]?=some s)(a:b=nm\/b=nm++ [s]):b=ei nm s/\i=kC (ei nm s) s:=by
 have c:b=ei nm s:=by
  unfold ei;by_cases d:s∈nm
  ·rw[if_pos ((xV nm s).2 d)];rcases a with a|a
   ·exact a
   ·rw[a,eQ]at f;exact absurd rfl (f.2.2 s d s (by simp))
  ·rw[if_neg (λc=>d ((xV nm s).1 c))];rcases a with a|a
   ·rw[a]at e;exact absurd (aC e) d
   ·exact a
 refine⟨c,?_⟩;rw[<-c];exact(Aw f e).symm
theorem KR(base:Nat)(a:cg)(room:Int)(ws:List Wd)(nm:List ByteArray)(M:Nat->Prop)(s:ByteArray)(w:World)(r:du base a room ws nm M w)(v:base<=w.heap.size)(u:nm.length<=100000)(x:s.size<=2048):ah 129 #[.pointer (some ⟨a.b,a.o+2,none⟩),.string s] w λe w'=>e=.returned (.int .i64 (kC (ei nm s) s:Int))/\Hid (lk base a room ws (ei nm s) M w w'):=by
 obtain⟨m,D,F,g,c,f,h,t,i,j⟩:=r;refine(CA base a room m D F nm s w g f v u x).mono ?_;rintro e w' ⟨H,rfl,I,E,G,n⟩;obtain⟨y,z,A,k,l,B,C⟩:=n.out;obtain⟨p,q⟩:=KE k.2.1 y z;subst p;refine⟨by rw[q],⟨m,E,G,A,dJ c l ?_,k,ae h,λb e=>ae (t b e),?_,?_⟩,l.mono ?_⟩
 ·rintro b e (rfl|d|d)
  ·exact mH c g (by decide) e
  ·exact wE c f.1 (by decide) b e d
  ·exact Eh c f b e d
 ·intro b e;rcases B b e with e|e
  ·exact ae (i b e)
  ·exact af e
 ·intro b e;rcases C b e with e|e
  ·exact ae (j b e)
  ·exact af e
 ·rintro b (rfl|e|e)
  ·exact h
  ·exact i b e
  ·exact j b e
theorem N1(base:Nat)(d:cg)(room:Int)(ws:List Wd)(nm:List ByteArray)(M:Nat->Prop)(ps:List Wd)(m pc:Nat)(pa:Option Addr)(w:World)(x:du base d room ws nm M w)(C:base<=w.heap.size)(A:ws.length<=100000)(E:ps.length=m)(B:m<=1000)(t:∀w1,bL M w w1->eG w1 ps pa):ah 130 #[.pointer (some ⟨d.b,d.o+1,none⟩),.slice pa m pc] w λe w'=>e=.returned (.agg #[.int .i64 4,.int .i64 ws.length])/\Hid (lk base d room (ws++(0,(m:Int))::ps) nm M w w'):=by
 obtain⟨q,J,K,a,f,g,i,j,y,z⟩:=x;obtain⟨⟨L,u,N,O⟩,D⟩:=a.cells;obtain⟨l,n,F⟩:∃l n,q=.slice l ws.length n:=by
  rcases f.2 with⟨e,v⟩|⟨Q,c,P,e,_⟩
  ·exact⟨none,0,by rw[e,v]⟩
  ·exact⟨_,c,e⟩
 subst E;refine(yY base d.b (d.o+1) q l n ws.length ws ps ps.length pc pa w F rfl rfl A B C u (D _) a.lt (mH f a (by decide)) f ?_).mono ?_
 ·intro w1 k;refine t w1 (k.mono ?_);rintro b (rfl|e)
  ·exact i
  ·exact j b e
 ·rintro e w' ⟨rfl,r,s⟩;obtain⟨G,H,p,I⟩:=s.out;refine⟨rfl,⟨r,J,K,(a.set1 r).kept H,?_,g.kept p ?_ ?_,ae i,?_,λb e=>ae (y b e),λb e=>ae (z b e)⟩,p.mono ?_⟩
  ·have e:(ws++(0,(ps.length:Int))::ps).length=ws.length+1+ps.length:=by simp;omega
   rw[e];exact G
  ·rintro b e (rfl|h)
   ·exact mH g.1 a (by decide) e
   ·exact wE f g.1 (by decide) b h e
  ·rintro b e (rfl|h)
   ·exact s8 g a e
   ·exact Eh f g b h e
  ·intro b e;rcases I b e with e|e
   ·exact ae (j b e)
   ·exact af e
  ·rintro b (rfl|e)
   ·exact i
   ·exact j b e
theorem du.inside{base:Nat}{f:cg}{room:Int}{ws:List Wd}{nm:List ByteArray}{M:Nat->Prop}{w:World}(g:du base f room ws nm M w):du base f room ws nm (λb=>M b/\b<w.heap.size) w:=by
 obtain⟨o,m,n,d,e,c,h,i,j,k⟩:=g;refine⟨o,m,n,d,e,c,⟨h,d.lt⟩,λb a=>⟨i b a,(e.lt b a).2⟩,λb a=>⟨j b a,(c.1.lt b a).2⟩,λb a=>⟨k b a,?_⟩⟩;rcases c.2.2 with⟨rfl,_⟩|⟨q,p,rfl,_,l,_⟩
 ·simp[mapBlock]at a
 ·simp only[mapBlock]at a;obtain rfl:=aq a;exact l.lt
theorem du.later{base:Nat}{c:cg}{room:Int}{ws:List Wd}{nm:List ByteArray}{M:Nat->Prop}{w wA:World}(a:du base c room ws nm M w)(d:ag w wA):du base c room ws nm (λb=>M b/\b<w.heap.size) wA:=
 a.inside.kept (aT d (λ_=>False)) λ_ _ _ a=>a
theorem Ah{base:Nat}{d:cg}{room:Int}{ws:List Wd}{nm:List ByteArray}{M:Nat->Prop}{w wA w2:World}(a:lk base d room ws nm (λb=>M b/\b<w.heap.size) wA w2)(i:ag w wA)(n:w.heap.size+2<=wA.heap.size)(v0 v1:Value):lk base d room ws nm M w ((w2.setCell ⟨w.heap.size+1,0,none⟩ v0).setCell ⟨w.heap.size+1,1,none⟩ v1):=by
 obtain⟨f,g⟩:=a;have k:=aZ w2 (w.heap.size+1) 0 v0;have l:=aZ (w2.setCell ⟨w.heap.size+1,0,none⟩ v0) (w.heap.size+1) 1 v1;have e:=k.trans l (λb _ a=>a);refine⟨(f.kept e ?_).mono ?_,?_⟩
 ·rintro b (⟨_,c⟩|c) _ m
  ·omega
  ·omega
 ·rintro b (⟨j,_⟩|c)
  ·exact ae j
  ·exact af (by omega)
 ·have h:bL (λb=>(M b/\b<w.heap.size)\/b=w.heap.size+1) wA _:=(g.mono (λb a=>ae a)).trans e (λb _ a=>af a);refine(aT i M).trans h ?_;rintro b c (a|a)
  ·exact a.1
  ·omega
theorem ub{base:Nat}{f:cg}{room:Int}{ws:List Wd}{nm:List ByteArray}{M:Nat->Prop}{w wA w2:World}(d:lk base f room ws nm (λb=>M b/\b<w.heap.size) wA w2):∀b,w.heap.size<=b->b<wA.heap.size->∀o,w2.cell? ⟨b,o,none⟩=wA.cell? ⟨b,o,none⟩/\w2.frozen? ⟨b,o,none⟩=wA.frozen? ⟨b,o,none⟩:=by
 intro b g e o;have c:=d.2.block b e (λd=>by omega);exact⟨bk c o,iJ (a:=⟨b,o,none⟩) c⟩
theorem Im(f:cg)(k d:Int)(s:ByteArray)(a:Option Addr)(l c:Nat)(w:World)(g:¬k=2)(h:¬k=4):ah 98 #[.pointer (some ⟨f.b,f.o,none⟩),.agg #[.int .i64 k,.int .i64 d,.string s,.slice a l c]] w λe w'=>e=.returned (.agg #[.int .i64 k,.int .i64 d])/\ag w w':=by
 have i:(k==2)=false:=by simpa using g
 have j:(k==4)=false:=by simpa using h
 go_enter Tryz.func98,Tryz.ntmps98;go_wp2_with fail;exact ap (v:=.agg #[.int .i64 k,.int .i64 d]) (by simp[results,Tryz.results98,go_sem]) rfl ⟨rfl,by go_grown⟩
theorem Il(base:Nat)(f:cg)(room:Int)(ws:List Wd)(nm:List ByteArray)(M:Nat->Prop)(p:Int)(s:ByteArray)(a:Option Addr)(l c:Nat)(w:World)(u:Hid (du base f room ws nm M w))(C:base<=w.heap.size)(x:nm.length<=100000)(y:s.size<=2048):ah 98 #[.pointer (some ⟨f.b,f.o,none⟩),.agg #[.int .i64 2,.int .i64 p,.string s,.slice a l c]] w λe w'=>e=.returned (.agg #[.int .i64 2,.int .i64 (kC (ei nm s) s:Int)])/\Hid (lk base f room ws (ei nm s) M w w'):=by
 generalize n:kC (ei nm s) s=j;go_enter Tryz.func98,Tryz.ntmps98;go_wp2_with fail;generalize i:(w.alloc (Obj.cells #[Value.int IntKind.i64 2,Value.int IntKind.i64 p,Value.string s,Value.slice a l c] 30)).alloc (Obj.cells #[Value.int IntKind.i64 0,Value.int IntKind.i64 0] 105)=wA;have d:Hid (ag w wA.drew/\wA.drew.heap.size=w.heap.size+2):=by
  subst i;exact⟨(((ak _ _).alloc (ai _) _).alloc (by simp) _).drew,by simp[World.drew]⟩
 have z:wA.cell? ⟨w.heap.size,2,none⟩=some (.string s):=by subst i;simp[go_sem]
 have h:Hid ((wA.cell? ⟨w.heap.size+1,0,none⟩=some (.int .i64 0)/\wA.cell? ⟨w.heap.size+1,1,none⟩=some (.int .i64 0))/\wA.frozen? ⟨w.heap.size+1,0,none⟩=false/\wA.frozen? ⟨w.heap.size+1,1,none⟩=false):=by subst i;simp[Hid,go_sem]
 have q:Hid (ah 129 #[.pointer (some ⟨f.b,f.o+2,none⟩),.string s] wA.drew λe w'=>e=.returned (.int .i64 j)/\Hid (lk base f room ws (ei nm s) (λb=>M b/\b<w.heap.size) wA.drew w')):=by
  have m:=KR base f room ws nm _ s wA.drew (u.out.later d.out.1) (by have:=d.out.2;omega) x y;rw[n]at m;exact m
 clear i n;go_region_held3 (λw'=>w'.cell? ⟨w.heap.size,2,none⟩=some (.string s)) (go_keep) ((go_at_call 129;refine q.out.mono ?_;rintro e E ⟨rfl,k⟩;have g:=aj (ub k.out);have D:=λo=>(g.out w.heap.size (ai _) (by have:=d.out.2;omega) o).1;have t:=(g.out (w.heap.size+1) (by omega) (by have:=d.out.2;omega) 0).1.trans h.out.1.1;have d1:=(g.out (w.heap.size+1) (by omega) (by have:=d.out.2;omega) 1).1.trans h.out.1.2;have A:=(g.out (w.heap.size+1) (by omega) (by have:=d.out.2;omega) 0).2.trans h.out.2.1;have B:=(g.out (w.heap.size+1) (by omega) (by have:=d.out.2;omega) 1).2.trans h.out.2.2));have r:=aj (Ah k.out d.out.1 (dk d.out.2.symm) (.int .i64 2) (.int .i64 j));go_wp2_with fail;exact ap (v:=.agg #[.int .i64 2,.int .i64 j]) (by simp[results,Tryz.results98,go_sem,t,d1]) rfl ⟨rfl,r.out⟩
def GL(x:Wd):Value:=.agg #[.int .i64 x.1,.int .i64 x.2]
def M8(n:Nat):Prop:=∀(x:Tm n)(base:Nat)(a:cg)(room:Int)(ws:List Wd)(nm:List ByteArray)(M:Nat->Prop)(w:World),du base a room ws nm M w->In w.heap.size w n x->bV (λb=>¬M b) n x->base<=w.heap.size->av ⟨n,x⟩->ws.length+2*(ar n x).length<=99000->nm.length+(ar n x).length<=99000->
 ah 98 #[.pointer (some ⟨a.b,a.o,none⟩),dd n x] w λe w'=>e=.returned (GL (aO n x ws nm).1)/\Hid (lk base a room (aO n x ws nm).2.1 (aO n x ws nm).2.2 M w w')
def xf(n:Nat)(p:List (Tm n))(len base:Nat)(c:cg)(room:Int)(ws:List Wd)(nm:List ByteArray)(M:Nat->Prop)(g:Nat)(w a:World)(k:Nat)(wr:World):Prop:=
 wr.ownsRow g 105 2 (.slice (some ⟨g,0,none⟩) len len) len (aS ((bB (aO n) (p.take k) ws nm).1++List.replicate (len-k) (0,0)))/\
 du base c room (bB (aO n) (p.take k) ws nm).2.1 (bB (aO n) (p.take k) ws nm).2.2 (λb=>(M b/\b<w.heap.size)\/a.heap.size<=b) wr/\
 bL (λb=>(M b/\b<w.heap.size)\/b=g) a wr
theorem uk(n:Nat):(madeCells #[.int .i64 0,.int .i64 0] (n*2)).toList=aS (List.replicate n (0,0)):=by
 apply List.ext_getElem?;intro b;by_cases d:b<n*2
 ·obtain⟨k,a,e,rfl⟩:∃k a,a<2/\b=k*2+a:=⟨b / 2,b % 2,Nat.mod_lt _ (by decide),by omega⟩;have f:k<n:=by omega
  rw[iy _ k (0,0) (by simp[f]) a e];have c:(madeCells #[.int .i64 0,.int .i64 0] (n*2))[k*2+a]?=some ((#[.int .i64 0,.int .i64 0]:Array Value)[(k*2+a) % 2]!):=by
   simp[madeCells,d]
  rw[lV,c,show (k*2+a) % 2=a by omega];have:a=0\/a=1:=by omega
  rcases this with rfl|rfl<;>rfl
 ·rw[ed (by simp[size_madeCells];omega),ed (by rw[ci];simp;omega)]
theorem pR:(l:List Wd)->(i:Nat)->(x:Wd)->i<l.length->((aS l).set (i*2) (.int .i64 x.1)).set (i*2+1) (.int .i64 x.2)=aS (l.set i x)
 | [],i,x,h=>by simp at h
 | y::l,0,x,_=>by simp[aS,o7]
 | y::l,i+1,x,h=>by
  have ih:=pR l i x (by simpa using h);have e:aS (y::l)=o7 y++aS l:=rfl;have b:aS ((y::l).set (i+1) x)=o7 y++aS (l.set i x):=rfl;have a:(o7 y).length=2:=rfl;rw[e,b,<-ih];rw[gW _ _ (by rw[a];omega),gW _ _ (by rw[a];omega),a];rw[show (i+1)*2-2=i*2 by omega,show (i+1)*2+1-2=i*2+1 by omega]
theorem Ip{n:Nat}{p:List (Tm n)}{len base:Nat}{k:cg}{room:Int}{ws:List Wd}{nm:List ByteArray}{M:Nat->Prop}{w w0:World}{d t1 t2 a:Value}(f:du base k room ws nm M w)(e:w0.ownsRow (w.heap.size+2) 105 2 (.slice (some ⟨((w.alloc (.cells #[d,t1,t2,a] 30)).alloc (.cells #[.int .i64 0,.int .i64 0] 105)).heap.size,0,none⟩) len len) len (madeCells (Value.agg #[.int .i64 0,.int .i64 0]).cells (len*2)).toList)(c:((w.alloc (.cells #[d,t1,t2,a] 30)).alloc (.cells #[.int .i64 0,.int .i64 0] 105)).grownBy w0 none):(xf n p len base k room ws nm M (w.heap.size+2) w w0 0 w0/\ag w w0/\w.heap.size+2<w0.heap.size)/\w0.cell? ⟨w.heap.size,3,none⟩=some a/\ (w0.cell? ⟨w.heap.size+1,0,none⟩=some (.int .i64 0)/\w0.cell? ⟨w.heap.size+1,1,none⟩=some (.int .i64 0))/\w0.frozen? ⟨w.heap.size+1,0,none⟩=false/\w0.frozen? ⟨w.heap.size+1,1,none⟩=false:=by
 have l:((w.alloc (.cells #[d,t1,t2,a] 30)).alloc (.cells #[.int .i64 0,.int .i64 0] 105)).heap.size=w.heap.size+2:=by simp
 rw[l]at e;have q:ag w ((w.alloc (.cells #[d,t1,t2,a] 30)).alloc (.cells #[.int .i64 0,.int .i64 0] 105)):=((ak _ _).alloc (ai _) _).alloc (by simp) _;have h:Below (w.heap.size+2) ((w.alloc (.cells #[d,t1,t2,a] 30)).alloc (.cells #[.int .i64 0,.int .i64 0] 105)) w0:=⟨c.os,c.tape,c.output,c.size,λb g=>c.block b (by omega) (by simp)⟩;have g:=q.trans (h.mono (by omega));have i:=am h;have j:=gh h;refine⟨⟨⟨?_,?_,bL.refl _ _⟩,g,(e.lt _ rfl).2⟩,?_,⟨?_,?_⟩,?_,?_⟩
 ·simp only[List.take_zero,bB,l9,Nat.sub_zero];have m:=uk len;have o:(Value.agg #[.int .i64 0,.int .i64 0]).cells= #[.int .i64 0,.int .i64 0]:=rfl;rw[o,m]at e;exact e
 ·simp only[List.take_zero,bB];exact(f.later g).mono λb f=>ae f
 ·rw[i _ _ (by omega)];simp[go_sem]
 ·rw[i _ _ (by omega)];simp[go_sem]
 ·rw[i _ _ (by omega)];simp[go_sem]
 ·rw[j _ _ (by omega)];simp[go_sem]
 ·rw[j _ _ (by omega)];simp[go_sem]
theorem oc{w:World}{base g L c:Nat}{ws:List Wd}(b:w.ownsRow base 105 2 (.slice (some ⟨g,0,none⟩) L c) L (aS ws)):∀j,w.frozen? ⟨g,j,none⟩=false:=by
 intro j;rcases b.2 with⟨d,_⟩|⟨l,cap,h,f,m,e,_⟩
 ·simp at d
 ·injection f with a i k;injection a with a;injection a with a _;subst a;simp[World.frozen?,e]
theorem xf.step{n:Nat}{p:List (Tm n)}{len base:Nat}{l:cg}{room:Int}{ws:List Wd}{nm:List ByteArray}{M:Nat->Prop}{g:Nat}{w d:World}{k:Nat}{wr w1 w2:World}(H:xf n p len base l room ws nm M g w d k wr)(G:w.heap.size<=g)(I:g<d.heap.size)(K:k<len)(L:p.length=len){x:Tm n}(A:p[k]?=some x)(i:ag wr w1)(z:lk base l room (aO n x (bB (aO n) (p.take k) ws nm).2.1 (bB (aO n) (p.take k) ws nm).2.2).2.1 (aO n x (bB (aO n) (p.take k) ws nm).2.1 (bB (aO n) (p.take k) ws nm).2.2).2.2 (λb=>((M b/\b<w.heap.size)\/d.heap.size<=b)/\b<wr.heap.size) w1 w2):xf n p len base l room ws nm M g w d (k+1) ((w2.setCell ⟨g,k*2,none⟩ (.int .i64 (aO n x (bB (aO n) (p.take k) ws nm).2.1 (bB (aO n) (p.take k) ws nm).2.2).1.1)).setCell ⟨g,k*2+1,none⟩ (.int .i64 (aO n x (bB (aO n) (p.take k) ws nm).2.1 (bB (aO n) (p.take k) ws nm).2.2).1.2))/\ (w2.cell? ⟨g,k*2,none⟩=some (.int .i64 0)/\w2.cell? ⟨g,k*2+1,none⟩=some (.int .i64 0))/\w2.frozen? ⟨g,k*2,none⟩=false/\w2.frozen? ⟨g,k*2+1,none⟩=false:=by
 obtain⟨m,E,o⟩:=H;obtain⟨u,q⟩:=z;have J:g<wr.heap.size:=(m.lt g rfl).2;have N:=i.size;have O:=o.size;have r:bB (aO n) (p.take (k+1)) ws nm=((bB (aO n) (p.take k) ws nm).1++ [(aO n x (bB (aO n) (p.take k) ws nm).2.1 (bB (aO n) (p.take k) ws nm).2.2).1],(aO n x (bB (aO n) (p.take k) ws nm).2.1 (bB (aO n) (p.take k) ws nm).2.2).2):=by
  rw[dt,A];exact Fl _ _ _ _ _
 have s:(bB (aO n) (p.take k) ws nm).1.length=k:=by rw[gu,dr];omega
 have f:w2.ownsRow g 105 2 (.slice (some ⟨g,0,none⟩) len len) len (aS ((bB (aO n) (p.take k) ws nm).1++List.replicate (len-k) (0,0))):=by
  refine dJ (dE m i) q λb h=>?_;simp only[Value.ownBlock]at h;obtain rfl:=aq h;omega
 generalize bB (aO n) (p.take k) ws nm=e at*;generalize aO n x e.2.1 e.2.2=c at*;have B:(e.1++List.replicate (len-k) (0,0))[k]?=some ((0,0):Wd):=by
  rw[dZ (by omega),s,ji,List.getElem?_replicate];simp;omega
 have C:=aZ w2 g (k*2) (.int .i64 c.1.1);have D:=aZ (w2.setCell ⟨g,k*2,none⟩ (.int .i64 c.1.1)) g (k*2+1) (.int .i64 c.1.2);have t:=C.trans D (λb _ a=>a);refine⟨⟨?_,?_,?_⟩,iA f k (0,0) B,oc f _,oc f _⟩
 ·rw[r];have j:=iN (iN f (k*2) (.int .i64 c.1.1)) (k*2+1) (.int .i64 c.1.2);rw[pR _ k c.1 (by simp;omega)]at j;have es:(e.1++List.replicate (len-k) ((0,0):Wd)).set k c.1=(e.1++ [c.1])++List.replicate (len-(k+1)) (0,0):=by
   rw[gW _ _ (by omega)];have:len-k=(len-(k+1))+1:=by omega
   rw[this,List.replicate_succ];simp[s]
  rw[es]at j;exact j
 ·rw[r];refine(u.kept t ?_).mono ?_
  ·rintro b (⟨a,_⟩|a) _ h<;>omega
  ·rintro b (⟨a,_⟩|a)
   ·exact a
   ·exact af (by omega)
 ·have v:bL (λb=>(M b/\b<w.heap.size)\/b=g) d w1:=o.trans (aT i (λ_=>False)) (λ_ _ a=>a.elim)
  have y:bL (λb=>(M b/\b<w.heap.size)\/b=g) d w2:=v.trans q (λb F a=>by
   rcases a.1 with a|a
   ·exact ae a
   ·omega)
  exact y.trans t (λb _ a=>af a)
theorem Iq{n:Nat}{p:List (Tm n)}{len base:Nat}{q:cg}{room:Int}{ws:List Wd}{nm:List ByteArray}{M:Nat->Prop}{g:Nat}{w d:World}{k:Nat}{wr:World}(H:xf n p len base q room ws nm M g w d k wr)(t:w.heap.size<g)(u:g<d.heap.size)(h:ag w d){b o:Nat}(i:b<w.heap.size)(m:¬M b){x:Tm n}(l:dy w b o n x)(e:In w.heap.size w n x)(f:bV (λb=>¬M b) n x):dy wr b o n x/\In w.heap.size wr n x/\bV (λb=>¬(((M b/\b<w.heap.size)\/d.heap.size<=b)/\b<wr.heap.size)) n x:=by
 have j:∀a,¬M a/\a<w.heap.size->wr.heap[a]?=d.heap[a]? :=λa r=>H.2.2.block a (by omega) (by rintro (c|c);exact r.1 c.1;omega);refine⟨(l.below h i).block (j b ⟨m,i⟩),In.off j (In.offB f e) (e.below h),(In.offB f e).mono ?_⟩;rintro a ⟨s,v⟩ ⟨c|c,_⟩
 ·exact s c.1
 ·omega
theorem Io{n:Nat}{p:List (Tm n)}{len base:Nat}{f:cg}{room:Int}{ws:List Wd}{nm:List ByteArray}{M:Nat->Prop}{g:Nat}{w e:World}{wr:World}(H:xf n p len base f room ws nm M g w e len wr)(E:p.length=len)(C:g=w.heap.size+2)(D:g<e.heap.size)(m:ag w e):du base f room (bB (aO n) p ws nm).2.1 (bB (aO n) p ws nm).2.2 (λb=>((M b/\b<w.heap.size)\/e.heap.size<=b)) wr/\(∀w1,bL (λb=>((M b/\b<w.heap.size)\/e.heap.size<=b)) wr w1->eG w1 (bB (aO n) p ws nm).1 (some ⟨g,0,none⟩))/\ (∀o,wr.cell? ⟨w.heap.size+1,o,none⟩=e.cell? ⟨w.heap.size+1,o,none⟩/\wr.frozen? ⟨w.heap.size+1,o,none⟩=e.frozen? ⟨w.heap.size+1,o,none⟩)/\ ∀k j w2,lk base f room k j (λb=>((M b/\b<w.heap.size)\/e.heap.size<=b)) wr w2-> (∀o,w2.cell? ⟨w.heap.size+1,o,none⟩=wr.cell? ⟨w.heap.size+1,o,none⟩/\w2.frozen? ⟨w.heap.size+1,o,none⟩=wr.frozen? ⟨w.heap.size+1,o,none⟩)/\ ∀v0 v1,lk base f room k j M w ((w2.setCell ⟨w.heap.size+1,0,none⟩ v0).setCell ⟨w.heap.size+1,1,none⟩ v1):=by
 obtain⟨h,l,i⟩:=H;rw[bw (by omega)]at h l;rw[ji,mg,dY]at h;have F:=i.size;refine⟨l,λw1 x=>af ⟨_,rfl,λy B v=>?_⟩,λo=>?_,λk j w2 q=>⟨λo=>?_,λv0 v1=>?_⟩⟩
 ·have:=(dJ h x (λb d=>by
    simp only[Value.ownBlock]at d;obtain rfl:=aq d
    omega)).cells (g:=g) rfl y B v
  exact this
 ·have d:=i.block (w.heap.size+1) (by omega) (by omega);exact⟨bk d o,iJ (a:=⟨w.heap.size+1,o,none⟩) d⟩
 ·have d:=q.2.block (w.heap.size+1) (by omega) (by omega);exact⟨bk d o,iJ (a:=⟨w.heap.size+1,o,none⟩) d⟩
 ·obtain⟨t,u⟩:=q;have z:=aZ w2 (w.heap.size+1) 0 v0;have A:=aZ (w2.setCell ⟨w.heap.size+1,0,none⟩ v0) (w.heap.size+1) 1 v1;have s:=z.trans A (λb _ c=>c);refine⟨(t.kept s ?_).mono ?_,?_⟩
  ·rintro b (c|c) _ d<;>omega
  ·rintro b ((c|c)|c)
   ·exact ae c.1
   ·exact af (by omega)
   ·exact af (by omega)
  ·refine(((aT m M).trans i ?_).trans u ?_).trans s ?_
   ·rintro b r (c|c)
    ·exact c.1
    ·omega
   ·rintro b r (c|c)
    ·exact c.1
    ·have:=m.size;omega
   ·intro b r c;omega
theorem ud(n:Nat)(l:List (Tm n))(ws:List Wd)(nm:List ByteArray):(bB (aO n) l ws nm).2.1.length<=ws.length+2*(l.flatMap λy=>ar n y).length/\(bB (aO n) l ws nm).2.2.length<=nm.length+(l.flatMap λy=>ar n y).length:=by
 induction l generalizing ws nm with
 | nil=>simp[bB]
 | cons y l ih=>
  obtain⟨a,b⟩:=ij n y ws nm;obtain⟨d,e⟩:=ih (aO n y ws nm).2.1 (aO n y ws nm).2.2;have c:=(ey n y).2;simp only[bB,bv,aY];exact⟨by omega,by omega⟩
theorem Aj(n:Nat)(p:List (Tm n))(k:Nat)(x:Tm n)(d:p[k]?=some x):((p.take k).flatMap λy=>ar n y).length+(ar n x).length<=(p.flatMap λy=>ar n y).length:=by
 have b:=aL.1 d;obtain⟨c,rfl⟩:=b;have a:p=p.take k++p[k]::p.drop (k+1):=by
  rw[<-eP c,jf]
 conv=>rhs;rw[a]
 simp only[jW,bv,aY];omega
theorem KK(n:Nat)(ih:M8 n)(base:Nat)(d:cg)(room:Int)(ws:List Wd)(nm:List ByteArray)(M:Nat->Prop)(al:Int)(s:ByteArray)(a:Option Addr)(len pc:Nat)(p:List (Tm n))(C:Hid (p.length=len))(w:World)(ad:Hid (du base d room ws nm M w))(aE:len<=8)(ax:base<=w.heap.size)(F:Hid (p=[]\/∃b o,a=some ⟨b,o,none⟩/\b<w.heap.size/\¬M b/\∀(i:Nat)(y:Tm n),p[i]?=some y->dy w b (o+i*4) n y/\In w.heap.size w n y/\bV (λb=>¬M b) n y))(S:Hid (∀y∈p,av ⟨n,y⟩))(G:Hid (ws.length+2*(p.flatMap λy=>ar n y).length<=99000))(P:Hid (nm.length+(p.flatMap λy=>ar n y).length<=99000)):ah 98 #[.pointer (some ⟨d.b,d.o,none⟩),.agg #[.int .i64 4,.int .i64 al,.string s,.slice a len pc]] w λe w'=>e=.returned (GL (4,((bB (aO n) p ws nm).2.1.length:Int)))/\Hid (lk base d room ((bB (aO n) p ws nm).2.1++(0,(len:Int))::(bB (aO n) p ws nm).1) (bB (aO n) p ws nm).2.2 M w w'):=by
 obtain⟨af,L,T,U,V⟩:=bO kv;go_enter Tryz.func98,Tryz.ntmps98;go_wp2_with (at_make;refine ke _ rfl _ _ 96 rfl (w.heap.size+2) 105 af _ 2 Tryz.underlying96 L T U _ _ _ _ len rfl rfl rfl rfl (by rw[V];omega) (by unfold maxLen;omega) (by simp) ?_;intro x Q K;have l:=aj (Ip (p:=p) ad.out Q K);have au:=l.out.2.1;clear Q K);clear L T U V;obtain⟨c,B⟩:∃c,w.heap.size+1+1=c:=⟨_,rfl⟩;have H:Hid (xf n p len base d room ws nm M c w x 0 x):=by subst B;exact l.out.1.1
 have E:c<x.heap.size:=by subst B;exact l.out.1.2.2
 rw[B];go_loopw [28] (λi wr=>∃k:Nat,k<=len/\i=.int .i64 k/\Hid (xf n p len base d room ws nm M c w x k wr)) (λi _=>len-(intOf i).toNat)
 case atStart=>exact⟨0,by omega,rfl,H.out⟩
 case round=>
  clear H;obtain⟨k,az,rfl,g⟩:=hrel;by_cases N:k<len
  ·obtain⟨f,m⟩:∃f,p[k]?=some f:=⟨p[k]'(by rw[C.out];exact N),aD _⟩;obtain⟨b,o,rfl,ae,O,R⟩:∃b o,a=some ⟨b,o,none⟩/\b<w.heap.size/\¬M b/\∀(i:Nat)(y:Tm n),p[i]?=some y->dy w b (o+i*4) n y/\In w.heap.size w n y/\bV (λb=>¬M b) n y:=by
    rcases F.out with e|e
    ·rw[e]at m;simp at m
    ·exact e
   obtain⟨W,X,Y⟩:=R k f m;obtain⟨y1,y2,Z⟩:=Iq g.out (by omega) E l.out.1.2.1 ae O W X Y;have ay:c<wr.heap.size:=(g.out.1.lt c rfl).2;have aI:=g.out.2.2.size;cases n with
   | zero=>exact y1.elim
   | succ n=>
   obtain⟨u,q⟩:∃u:Wd,Hid (∀D,ag wr D->ah 98 #[.pointer (some ⟨d.b,d.o,none⟩),.agg #[.int .i64 f.1.1,.int .i64 f.1.2.1,.string f.1.2.2,.slice f.2.1.1 f.2.2.length f.2.1.2]] D λe h=>e=.returned (.agg #[.int .i64 u.1,.int .i64 u.2])/\
       Hid (xf (n+1) p len base d room ws nm M c w x (k+1) ((h.setCell ⟨c,k*2,none⟩ (.int .i64 u.1)).setCell ⟨c,k*2+1,none⟩ (.int .i64 u.2))/\
        (h.cell? ⟨c,k*2,none⟩=some (.int .i64 0)/\h.cell? ⟨c,k*2+1,none⟩=some (.int .i64 0))/\h.frozen? ⟨c,k*2,none⟩=false/\h.frozen? ⟨c,k*2+1,none⟩=false)):=by
    refine⟨(aO (n+1) f (bB (aO (n+1)) (p.take k) ws nm).2.1 (bB (aO (n+1)) (p.take k) ws nm).2.2).1,λD A=>?_⟩;have aJ:=ud (n+1) (p.take k) ws nm;have aK:=Aj (n+1) p k f m;have aH:=G.out;have aF:=P.out;have aG:=A.size;refine(ih f base d room _ _ _ D (g.out.2.1.later A) ((y2.below (A.mono (by omega))).mono (by omega)) Z (by omega) (S.out f (aC m)) (by omega) (by omega)).mono ?_;rintro e h ⟨rfl,z⟩;exact⟨rfl,g.out.step (by omega) E N C.out m A z.out⟩
   obtain⟨am,an,ao,aq⟩:=y1;clear ih g F R W X Y y2 Z m O G P S;generalize f.2.2.length=aL at*;have aA:(0:Int)<=(k:Int):=by omega
   have aB:(k:Int)<(len:Int):=by omega
   have aw:b<wr.heap.size:=by omega
   go_wp2_with fail;refine(q.out _ ((ak _ _).alloc (ai _) _)).mono ?_;rintro e h ⟨rfl,I⟩;obtain⟨⟨J,d1⟩,aa,ab⟩:=I.out.2;clear q am an ao aq;go_wp2_with fail;go_roundw
   case rel=>exact⟨k+1,by omega,by go_num,I.out.1⟩
   case measure=>simp[intOf];omega
  ·obtain rfl:k=len:=by omega
   have j:=aj (Io g.out C.out B.symm E l.out.1.2.1)
   have q:Hid (ah 130 #[.pointer (some ⟨d.b,d.o+1,none⟩),.slice (some ⟨c,0,none⟩) k k] wr λe w'=>e=.returned (.agg #[.int .i64 4,.int .i64 (bB (aO n) p ws nm).2.1.length])/\Hid (lk base d room ((bB (aO n) p ws nm).2.1++(0,(k:Int))::(bB (aO n) p ws nm).1) (bB (aO n) p ws nm).2.2 _ wr w')):=
    N1 base d room (bB (aO n) p ws nm).2.1 (bB (aO n) p ws nm).2.2 _ (bB (aO n) p ws nm).1 k k (some ⟨c,0,none⟩) wr j.out.1 (by have:=g.out.2.2.size;omega) (by have:=(ud n p ws nm).1;have:=G.out;omega) (by rw[gu];exact C.out) (by omega) j.out.2.1
   have t:=l.out.2.2;clear g l ih F;go_wp2_with fail;refine q.out.mono ?_;rintro e h ⟨rfl,z⟩;have r:=aj (j.out.2.2.2 _ _ h z.out);have J:=((r.out.1 0).1.trans (j.out.2.2.1 0).1).trans t.1.1;have d1:=((r.out.1 1).1.trans (j.out.2.2.1 1).1).trans t.1.2;have aa:=((r.out.1 0).2.trans (j.out.2.2.1 0).2).trans t.2.1;have ab:=((r.out.1 1).2.trans (j.out.2.2.1 1).2).trans t.2.2;clear q j z t;go_wp2_with fail;exact ap (v:=.agg #[.int .i64 4,.int .i64 ((bB (aO n) p ws nm).2.1.length:Int)]) (by simp[results,Tryz.results98,go_sem,J,d1]) rfl ⟨rfl,r.out.2 _ _⟩
theorem Fk{base:Nat}{c:cg}{room:Int}{ws:List Wd}{nm:List ByteArray}{M:Nat->Prop}{w w':World}(a:du base c room ws nm M w)(b:ag w w'):lk base c room ws nm M w w':=
 ⟨(a.later b).mono λ_ a=>ae a.1,aT b M⟩
theorem KJ(n:Nat):M8 n:=by
 induction n with
 | zero=>intro a t p room d c s q _ w;exact w.elim
 | succ n ih=>
  intro a t p room d c s q u w k y A O J;have H:=w;obtain⟨⟨Q,R,N,M,L⟩,h⟩:=H;have z:=A (bu n a) (by simp[ar,bu]);have F:a.2.2.length<=8:=lF (bu n a) z;have G:a.1.2.2.size<=2048:=by have:=ru (bu n a) z;simp only[bu]at this;omega
  have K:(ar (n+1) a).length=1+(a.2.2.flatMap λf=>ar n f).length:=by simp[ar];omega
  by_cases g:a.1.1=2
  ·have e:aO (n+1) a d c=((2,(kC (ei c a.1.2.2) a.1.2.2:Int)),d,ei c a.1.2.2):=by simp only[aO,if_pos g]
   rw[e];have j:=Il t p room d c s a.1.2.1 a.1.2.2 a.2.1.1 a.2.2.length a.2.1.2 q u y (by omega) G;rw[<-g]at j;refine j.mono ?_;rintro e B ⟨rfl,r⟩;exact⟨by rw[g];rfl,r⟩
  ·by_cases i:a.1.1=4
   ·have e:aO (n+1) a d c=((4,((bB (aO n) a.2.2 d c).2.1.length:Int)),(bB (aO n) a.2.2 d c).2.1++(0,(a.2.2.length:Int))::(bB (aO n) a.2.2 d c).1,(bB (aO n) a.2.2 d c).2.2):=by simp only[aO,if_neg g,if_pos i]
    rw[e];have j:=KK n ih t p room d c s a.1.2.1 a.1.2.2 a.2.1.1 a.2.2.length a.2.1.2 a.2.2 rfl q u F y ?_ (λf l=>aN n a f A l) (by unfold Hid;omega) (by unfold Hid;omega)
    ·rw[<-i]at j;refine j.mono ?_;rintro e B ⟨rfl,r⟩;exact⟨by rw[i],r⟩
    ·rcases h with h|⟨b,o,e,v,h⟩
     ·exact ae h
     ·rcases k with k|⟨I,P,m,E,k⟩
      ·exact ae k
      ·rw[e]at m;injection m with m;injection m with C D;subst C D;exact af ⟨b,o,e,v,E,λx f l=>⟨(h x f l).1,(h x f l).2,k x f l⟩⟩
   ·have e:aO (n+1) a d c=((a.1.1,a.1.2.1),d,c):=by simp only[aO,if_neg g,if_neg i]
    rw[e];refine(Im p a.1.1 a.1.2.1 a.1.2.2 a.2.1.1 a.2.2.length a.2.1.2 q g i).mono ?_;rintro e B ⟨rfl,v⟩;exact⟨rfl,Fk u v⟩
end Go.Proofs.YtckamaoibonjcaaGreat
