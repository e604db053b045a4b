/- What is proved here: plain facts and contracts that the claimed theorem stands on. No condition but those that each names. -/
import Derived.Test.YtckamaoibonjcaaGreatH30
import Derived.Deep.DeepAppendWide
import Derived.MapKept
namespace Go.Proofs.YtckamaoibonjcaaGreat
open Go.RowKit
open Go.MapKept
set_option maxRecDepth 100000
set_option maxHeartbeats 4000000
def ex(p:Int)(v:ByteArray×Tc×List Tc)(a:List (ByteArray×Int×Int×Tc))(s:Sy):Prop:=
 (s.ps.map (·.1)).Nodup/\(∀k∈s.ps.map (·.1),k<=s.last)/\p<=s.last/\∃l,s.evs=a++l/\(s.get p=some v\/(s.get p=none/\(mY,p,4,sJ)∈l))
section
variable {p:Int} {v:ByteArray×Tc×List Tc} {l0:List (ByteArray×Int×Int×Tc)} {s:Sy}
theorem ex.as{a:Sy}(b:ex p v l0 s)(c:a.ps=s.ps)(d:a.last=s.last)(e:a.evs=s.evs):ex p v l0 a:=by
 unfold ex Sy.get at b ⊢;rw[c,d,e];exact b
theorem ex.tell(d:ex p v l0 s)(wt:ByteArray)(a b:Int)(t:Tc):ex p v l0 (s.tell wt a b t):=by
 obtain⟨e,f,g,l,h,i⟩:=d;exact⟨e,f,g,l++ [(wt,a,b,t)],by simp[Sy.tell,h],i.imp id λc=>⟨c.1,mh _ c.2⟩⟩
theorem ex.add(f:ex p v l0 s)(a:Int)(nm:ByteArray)(cs:Tc):ex p v l0 (s.add a nm cs):=by
 have c:ex p v l0 {s with last:=s.last+1,ps:=s.ps++ [(s.last+1,nm,cs,[])]}:=by
  obtain⟨g,c,o,l,h,i⟩:=f;have m:Sy.get {s with last:=s.last+1,ps:=s.ps++ [(s.last+1,nm,cs,[])]} p=s.get p:=by
   have e:(s.last+1==p)=false:=by simp;omega
   unfold Sy.get;simp only[List.find?_append,eZ,e,List.find?_nil,Option.or_none]
  refine⟨?_,λk d=>?_,by simp only;omega,l,h,by rw[m];exact i⟩
  ·simp only[fH,aI,bR];refine eL.2 ⟨g,by simp,λa j b e n=>?_⟩;simp only[dD]at e;have:=c a j;omega
  ·simp only[fH,aI,bR,da,dD]at d ⊢;rcases d with d|rfl
   ·have:=c k d;omega
   ·omega
 exact c.tell _ _ _ _
theorem Ff{l:List (Int×ByteArray×Tc×List Tc)}(d:(l.map (·.1)).Nodup)(x q:Int):((l.eraseP λr=>r.1==x).find? λr=>r.1==q)=if q=x then none else l.find? λr=>r.1==q:=by
 induction l with
 | nil=>simp
 | cons r l ih=>
  obtain⟨f,g⟩:=j8.1 (by simpa using d:(r.1::l.map (·.1)).Nodup);rw[List.eraseP_cons];cases hx:r.1==x
  ·simp only[cond_false,eZ];cases b:r.1==q
   ·exact ih g
   ·simp only[bV]at b;have:¬q=x:=λa=>by rw[b,a]at hx;simp at hx
    rw[if_neg this]
  ·simp only[bV]at hx;simp only[cond_true,eZ];by_cases a:q=x
   ·rw[if_pos a,l7];intro h e c;simp only[bV]at c;exact f (bU.2 ⟨h,e,by rw[c,a,hx]⟩)
   ·have b:(r.1==q)=false:=by simp;omega
    rw[if_neg a,b]
theorem ex.drop(f:ex p v l0 s){x how:Int}(q:x≠p\/how=4):ex p v l0 (s.drop x how):=by
 obtain⟨e,g,h,l,i,j⟩:=f;have m:(s.drop x how).get p=if p=x then none else s.get p:=by
  show ((s.ps.eraseP λa=>a.1==x).find? λa=>a.1==p).map (·.2)=_;rw[Ff e];split<;>rfl
 have n:∀k∈(s.ps.eraseP λa=>a.1==x).map (·.1),k∈s.ps.map (·.1):=λk c=>by
  obtain⟨r,o,rfl⟩:=bU.1 c;exact bU.2 ⟨r,List.mem_of_mem_eraseP o,rfl⟩
 refine⟨(List.eraseP_sublist.map _).nodup e,λk c=>g k (n k c),h,l++ [(mY,x,how,sJ)],by simp[Sy.drop,Sy.tell,i],?_⟩;rw[m];by_cases d:p=x
 ·subst d;obtain rfl:how=4:=q.resolve_left λb=>b rfl;rw[if_pos rfl];exact ah ⟨rfl,by simp⟩
 ·rw[if_neg d];exact j.imp id λb=>⟨b.1,mh _ b.2⟩
theorem ex.fin(a:ex p v l0 s){x:Int}(b:x≠p)(how:Int):ex p v l0 (s.fin x how):=
 fO (λ(s:Sy)(c:Int)=>s.drop c 4) _ (λ_ _ _ k=>k.drop (ah rfl)) (s:={s.drop x how with bonds:=wo s.bonds (x::sQ s.bonds x (how==1))}) ((a.drop (how:=how) (ag b)).as rfl rfl rfl)
theorem Ls(s:Sy){k q:Int}(d:k≠q)(f:ByteArray×Tc×List Tc):(s.put k f).get q=s.get q:=by
 unfold Sy.get Sy.put;simp only
 induction s.ps with
 | nil=>rfl
 | cons b l ih=>
  simp only[aI,eZ];by_cases a:b.1=k
  ·have c:(k==q)=false:=by simpa using d
   have e:(b.1==q)=false:=by rw[a];exact c
   simp only[if_pos a,c,e];exact ih
  ·simp only[if_neg a];cases b.1==q
   ·exact ih
   ·rfl
theorem ex.put(c:ex p v l0 s){k:Int}(i:k≠p)(b:ByteArray×Tc×List Tc):ex p v l0 (s.put k b):=by
 obtain⟨d,e,f,l,g,h⟩:=c;have a:(s.put k b).ps.map (·.1)=s.ps.map (·.1):=by
  simp only[Sy.put,fI];refine jf λm _=>?_;simp only[Function.comp];split
  ·rename_i j;exact j.symm
  ·rfl
 exact⟨by rw[a];exact d,by rw[a];exact e,f,l,g,by rw[Ls s i];exact h⟩
theorem ex.deliver(c:ex p v l0 s)(room a:Int){b:Int}(d:b≠p)(t:Tc):ex p v l0 (s.deliver room a b t):=by
 unfold Sy.deliver;split
 ·exact c
 ·split
  ·exact c.tell _ _ _ _
  ·split
   ·exact c.fin d _
   ·split
    ·exact c.put d _
    ·exact c
theorem ex.send(c:ex p v l0 s)(a b:Int)(t:Tc):ex p v l0 (s.send a b t):=by
 unfold Sy.send;split
 ·exact ex.tell (c.as rfl rfl rfl:ex p v l0 {s with ways:=gY s.ways (a,b) (s.ways (a,b)++ [t])}) _ _ _ _
 ·exact c.tell _ _ _ _
theorem ex.link(c:ex p v l0 s)(a b:Int):ex p v l0 (s.link a b):=by
 unfold Sy.link;split
 ·exact c.as rfl rfl rfl
 ·exact c
theorem ex.follow(e:ex p v l0 s){a:Int}(f:a≠p)(c:Tk):ex p v l0 (s.follow a c):=by
 have d:=fO (P:=ex p v l0) (λ(s:Sy)(b:Int)=>s.link a b) c.links (λ_ b _ k=>k.link a b) (fO (P:=ex p v l0) (λ(s:Sy)(b:Int×Tc)=>s.send a b.1 b.2) c.sends (λ_ b _ k=>k.send a b.1 b.2) (fO (P:=ex p v l0) (λ(s:Sy)(b:Int×ByteArray×Tc)=>s.add a b.2.1 b.2.2) c.spawns (λ_ b _ k=>k.add a b.2.1 b.2.2) e));unfold Sy.follow;simp only;split
 ·exact d.fin f _
 ·exact d
theorem ex.do(c:ex p v l0 s){n:Nat}(prog:List (Bh (n+1)))(room:Int){j a b:Int}(h:¬(j=2/\b=p\/j≠2/\a=p))(k:Nat)(x:Tm k):ex p v l0 (s.do n prog room j a b k x).1:=by
 unfold Sy.do;split
 ·rename_i q;have d:a≠p:=λe=>h (ah ⟨by omega,e⟩);unfold Sy.run;split
  ·exact c
  ·split
   ·split
    ·exact c
    ·rename_i f _;have i:=(c.put d (‹ByteArray›,f.state,f.mail)).tell mE a 0 f.message;simp only;split
     ·exact i.fin d _
     ·split
      ·exact i.fin d _
      ·exact i.follow d f
   ·exact c
 ·split
  ·rename_i g;have o:b≠p:=λe=>h (ag ⟨g,e⟩);unfold Sy.arrive;split
   ·exact c
   ·rename_i t l _;have m:ex p v l0 {s with ways:=gY s.ways (a,b) l}:=c.as rfl rfl rfl;simp only;split
    ·exact m.deliver room a o t
    ·exact m.tell _ _ _ _
  ·split
   ·rename_i g r;have d:a≠p:=λe=>h (ah ⟨g,e⟩);unfold Sy.inject;split
    ·exact c
    ·split
     ·exact c
     ·split
      ·exact c
      ·exact c.deliver room 0 d _
   ·exact c
end
variable {P:Program} {md:Region.Mode} {ops:Array Oper} {Q:Exit->Act->World->Prop} {S:World->Prop} {X:Nat}
theorem Kc(i:Nat){d:Oper}{v:Value}{f:Nat}{e:Array Bool}{a:Act}{w:World}(l:ops[i]?=some d)(b:(Region.noSelect ops && Region.free md ops e i && (Region.ready md ops e).contains i && yU md ops X i)=true)(h:∀c a w,Q (.panic c) (a.put d.dst v) w->Q (.panic c) a w)(k:d.guard=none)(m:∀w,S w->(execOp a.eval d).run P w=.ok (.value v) w)(j:S w)(g:js P md ops Q S X f (e.setIfInBounds i true) (a.put d.dst v) w):js P md ops Q S X (f+1) e a w:=by
 simp only[aB]at b;exact aO l b.1.1.1 b.1.1.2 b.1.2 b.2 h k m j g
theorem ID:(Tryz.prog.info? 40).map (λi=>(i.zero,i.size,i.bytes))=some (some (.agg #[.string ⟨#[]⟩,.int .i64 0,.int .i64 0,.int .i64 0,.int .i64 0,.string ⟨#[]⟩,.slice none 0 0]),7,88):=by kernel_rfl
def L7(base:Nat)(wt:ByteArray)(a b:Int)(f:Option Addr)(L h:Nat)(xs:List Value)(R:World->World->Int->Int->ByteArray->Option Addr->Nat->Nat->Prop)(w i:World)(g c:Nat):Prop:=
 ∃d e y0 y1 y2 ya yl yc,Below w.heap.size w d/\Below d.heap.size d e/\R d e y0 y1 y2 ya yl yc/\bk (λj=>(Value.slice f L h).ownBlock=some j) e i/\i.ownsRow base 40 7 (.slice (some ⟨g,0,none⟩) (L+1) c) (L+1) (xs++ [.string wt,.int .i64 a,.int .i64 b,.int .i64 y0,.int .i64 y1,.string y2,.slice ya yl yc])/\((Value.slice f L h).ownBlock=some g\/e.heap.size<=g)
theorem Dn(base m:Nat)(wt:ByteArray)(a b A B:Int)(C:ByteArray)(xa:Option Addr)(D xc:Nat)(n:Option Addr)(L q:Nat)(xs:List Value)(R:World->World->Int->Int->ByteArray->Option Addr->Nat->Nat->Prop)(w:World)(aU:L<=100000)(X:m<w.heap.size)(aV:base<=w.heap.size)(Z:Hid (w.cell? ⟨m,6,none⟩=some (.slice n L q)/\w.frozen? ⟨m,6,none⟩=false))(ah:Hid (w.ownsRow base 40 7 (.slice n L q) L xs))(ab:Hid ((Value.slice n L q).ownBlock≠some m))(aa:Hid (∀W,Below w.heap.size w W->Calls Tryz.prog 54 #[.agg #[.int .i64 A,.int .i64 B,.string C,.slice xa D xc]] W λe w'=>∃y0 y1 y2 ya yl yc,e=.returned (.agg #[.int .i64 y0,.int .i64 y1,.string y2,.slice ya yl yc])/\Hid (Below W.heap.size W w'/\R W w' y0 y1 y2 ya yl yc))):Calls Tryz.prog 44 #[.pointer (some ⟨m,0,none⟩),.string wt,.int .i64 a,.int .i64 b,.agg #[.int .i64 A,.int .i64 B,.string C,.slice xa D xc]] w λe w'=>e=.returned (.tuple #[])/\Hid (∃g c r,w'=r.setCell ⟨m,6,none⟩ (.slice (some ⟨g,0,none⟩) (L+1) c)/\L7 base wt a b n L q xs R w r g c):=by
 obtain⟨aJ,aq,aw,ax,ay⟩:=bQ ID;have M:=ao (⟨aq,aw,ax,ay⟩:_/\_/\_/\_);clear aq aw ax ay;go_enter Tryz.func44,Tryz.ntmps44;go_upto_region 1 with fail;generalize aA:w.alloc _=s;have y:Hid (Below w.heap.size w s/\s.heap[w.heap.size]?=some (.cells #[.int .i64 A,.int .i64 B,.string C,.slice xa D xc] 30)):=by
  rw[<-aA];exact⟨(am _ _).alloc (aj _) _,az _ _⟩
 clear aA;obtain⟨h,T⟩:∃h,h=w.heap.size:=⟨_,rfl⟩;rw[<-T];rw[<-T]at y;have O:=ao T;clear T;have N:Hid (∀W:World,Below s.heap.size s W->W.cell? ⟨m,6,none⟩=some (.slice n L q)/\W.cell? ⟨h,0,none⟩=some (.int .i64 A)/\W.cell? ⟨h,1,none⟩=some (.int .i64 B)/\W.cell? ⟨h,2,none⟩=some (.string C)/\W.cell? ⟨h,3,none⟩=some (.slice xa D xc)):=λW d=>by
  have Q:=(d.block h (aC.1 y.out.2).1).trans y.out.2;have aF:=(O.out▸y.out.1:Below w.heap.size w s).trans (d.mono (O.out▸y.out.1:Below w.heap.size w s).size);exact⟨(aF.cell (p:=⟨m,6,none⟩) X).trans Z.out.1,af Q 0,af Q 1,af Q 2,af Q 3⟩
 have G:Hid (Below s.heap.size s s.drew):=(am _ _).drew;have z:Hid (Below w.heap.size w s):=by
  have d:=y.out.1;rw[O.out]at d;exact d
 have u:=N.out _ G.out;refine wp_region_noPanic ?_;refine jd (λW=>W.cell? ⟨m,6,none⟩=some (.slice n L q)/\W.cell? ⟨h,0,none⟩=some (.int .i64 A)/\W.cell? ⟨h,1,none⟩=some (.int .i64 B)/\W.cell? ⟨h,2,none⟩=some (.string C)/\W.cell? ⟨h,3,none⟩=some (.slice xa D xc)) 15 (by kernel_rfl) ?_
 try simp only[e9]
 refine Kc 0 (v:= ?_) rfl (by kernel_rfl) (λ_ _ _ d=>d) rfl ?_ u ?_;rotate_left
 ·intro w' f
  try dsimp only at f
  go_simp
  try with_reducible rfl
 try simp only[Act.put,bS]
 refine Kc 1 (v:= ?_) rfl (by kernel_rfl) (λ_ _ _ d=>d) rfl ?_ u ?_;rotate_left
 ·intro w' f
  try dsimp only at f
  go_simp
  try with_reducible rfl
 try simp only[Act.put]
 refine Kc 2 (v:= ?_) rfl (by kernel_rfl) (λ_ _ _ d=>d) rfl ?_ u ?_;rotate_left
 ·intro w' f
  try dsimp only at f
  go_simp
  try with_reducible rfl
 try simp only[Act.put]
 refine Kc 3 (v:= ?_) rfl (by kernel_rfl) (λ_ _ _ d=>d) rfl ?_ u ?_;rotate_left
 ·intro w' f
  try dsimp only at f
  go_simp
  try with_reducible rfl
 try simp only[Act.put]
 refine Kc 4 (v:= ?_) rfl (by kernel_rfl) (λ_ _ _ d=>d) rfl ?_ u ?_;rotate_left
 ·intro w' f
  try dsimp only at f
  go_simp
  try with_reducible rfl
 try simp only[Act.put]
 refine Kc 5 (v:= ?_) rfl (by kernel_rfl) (λ_ _ _ d=>d) rfl ?_ u ?_;rotate_left
 ·intro w' f
  try dsimp only at f
  go_simp
  try with_reducible rfl
 try simp only[Act.put]
 refine Kc 6 (v:= ?_) rfl (by kernel_rfl) (λ_ _ _ d=>d) rfl ?_ u ?_;rotate_left
 ·intro w' f
  try dsimp only at f
  go_simp
  try with_reducible rfl
 try simp only[Act.put]
 refine Kc 7 (v:= ?_) rfl (by kernel_rfl) (λ_ _ _ d=>d) rfl ?_ u ?_;rotate_left
 ·intro w' f
  try dsimp only at f
  go_simp
  try with_reducible rfl
 try simp only[Act.put]
 refine Kc 8 (v:= ?_) rfl (by kernel_rfl) (λ_ _ _ d=>d) rfl ?_ u ?_;rotate_left
 ·intro w' f
  try dsimp only at f
  go_simp
  try with_reducible rfl
 try simp only[Act.put]
 refine cR (i:=9) (by kernel_rfl) rfl rfl (λx l=>?_) (by decide)
 go_simp
 refine(aa.out _ (z.out.trans (G.out.mono z.out.size))).mono ?_;rintro e j ⟨y0,y1,y2,ya,yl,yc,rfl,I⟩;have E:=ao (G.out.trans (I.out.1.mono G.out.size));have S:=N.out j E.out;refine l.out _ _ (λ_=>S) (λ_=>?_);clear l x
 try simp only[Act.put,bS,dd,dc]
 refine Kc 10 (v:= ?_) rfl (by kernel_rfl) (λ_ _ _ d=>d) rfl ?_ S ?_;rotate_left
 ·intro w' f
  try dsimp only at f
  go_simp
  try with_reducible rfl
 try simp only[Act.put,bS]
 have F:=ao (z.out.trans (E.out.mono z.out.size));obtain⟨o,ar⟩:∃o:Obj,o=.cells #[.string wt,.int .i64 a,.int .i64 b,.int .i64 y0,.int .i64 y1,.string y2,.slice ya yl yc] 40:=⟨_,rfl⟩;have K:Hid (Below j.heap.size j (j.alloc o)):=(am _ _).alloc (aj _) o;have ai:=ao (N.out _ (E.out.trans (K.out.mono E.out.size)));have ae:Hid ((j.alloc o).ownsRow base 40 7 (.slice n L q) L xs):=aY ah.out (aD (F.out.trans (K.out.mono F.out.size)) λ_=>False) λ_ _ d=>d;have ad:Hid ((j.alloc o).heap[j.heap.size]?=some o):=az j o;have U:Hid ((j.alloc o).heap.size=j.heap.size+1):=(show _=_ by simp);rw[ar]at K ai ae ad U;clear ar o;refine cR (i:=11) (by kernel_rfl) rfl rfl (λx l=>?_) (by decide)
 go_simp
 refine l.out _ _ (λ_=>ai.out) (λaE=>?_);clear l x
 try simp only[Act.put,bS,dd,dc]
 refine cR (i:=12) (by kernel_rfl) rfl rfl (λx l=>?_) (by decide);refine wp_append_lies _ _ _ 38 rfl base 40 aJ _ 7 88 Tryz.underlying38 M.out.1 M.out.2.1 M.out.2.2.1 M.out.2.2.2 rfl (by decide) (.slice n L q) L xs rfl ae.out ⟨j.heap.size,0,none⟩ 1 1 [.string wt,.int .i64 a,.int .i64 b,.int .i64 y0,.int .i64 y1,.string y2,.slice ya yl yc] rfl rfl (World.news_of_block (cs:= #[.string wt,.int .i64 a,.int .i64 b,.int .i64 y0,.int .i64 y1,.string y2,.slice ya yl yc]) (t:=40) (fr:=(0,0)) ad.out) (by simp[Value.oneCell']) (by decide) (by unfold maxLen;omega) (by omega) (by have:=U.out;have:=F.out.size;omega) _ rfl ?_;intro P ak r au ap al aG;have H:Hid (bk (λaM=>(Value.slice n L q).ownBlock=some aM) j r):=bk.trans (aD K.out _) (dR ap) λ_ _ e=>e;have Y:Hid ((Value.slice n L q).ownBlock=some P\/j.heap.size<=P):=al.imp id λe=>by have:=U.out;omega
 have ag:=ao au;have J:Hid ((r.cell? ⟨m,6,none⟩=some (.slice n L q)/\r.cell? ⟨h,0,none⟩=some (.int .i64 A)/\r.cell? ⟨h,1,none⟩=some (.int .i64 B)/\r.cell? ⟨h,2,none⟩=some (.string C)/\r.cell? ⟨h,3,none⟩=some (.slice xa D xc))/\r.frozen? ⟨m,6,none⟩=false):=by
  have aH:¬(Value.slice n L q).ownBlock=some h:=λe=>by
   have:=(ah.out.lt h e).2;have:=O.out;omega
  have aI:h<j.heap.size:=by
   have:=E.out.size;have:=(aC.1 y.out.2).1;omega
  have av:m<j.heap.size:=aL X F.out.size;obtain⟨aN,aO,aP,aQ,aR⟩:=S;have k:=λaK=>H.out.cell aK aI aH;refine⟨⟨(H.out.cell 6 av ab.out).trans aN,(k 0).trans aO,(k 1).trans aP,(k 2).trans aQ,(k 3).trans aR⟩,?_⟩;have an:=Z.out.2;unfold World.frozen? at an ⊢;rw[H.out.block m av ab.out,F.out.block m X];exact an
 clear au ap al aG;refine l.out _ _ (λ_=>J.out.1) (λV=>?_);clear l x
 try simp only[Act.put,bS]
 refine cR (i:=13) (by kernel_rfl) rfl rfl (λx l=>?_) (by decide)
 go_simp
 refine l.out _ _ (λ_=>V) (λ_=>?_);clear l x
 try simp only[Act.put,bS,dd,dc]
 refine Kc 14 (v:= ?_) rfl (by kernel_rfl) (λ_ _ _ d=>d) rfl ?_ V ?_;rotate_left
 ·intro w' f
  try dsimp only at f
  go_simp
  try with_reducible rfl
 try simp only[Act.put,bS]
 have aT:=J.out.2;have aS:=J.out.1.1;refine jc (by kernel_rfl) rfl rfl (by kernel_rfl) (λx l=>?_)
 go_simp
 refine l.out _ _ (NoPanic.normal ?_);clear l x
 try simp only[Act.put,bS,dd,dc]
 have aB:Hid (L7 base wt a b n L q xs R w r P ak):=⟨s.drew,j,y0,y1,y2,ya,yl,yc,z.out.trans (G.out.mono z.out.size),I.out.1,I.out.2,H.out,ag.out,Y.out⟩;clear N aa J ag Y H I u V aE S;exact dO (v:=.tuple #[]) (by simp[results]) rfl ⟨rfl,P,ak,r,rfl,aB.out⟩
def yZ(b:Nat):Value:=.pointer (some ⟨b,0,none⟩)
def vq{b:Type}(f:b->Value)(w:World)(c:Nat)(l:List (Int×b)):Prop:=∃es a,w.heap[c]?=some (.map es a)/\es.toList.map (λe=>(e.key,e.val))=l.map (λp=>(ab p.1,f p.2))/\Stamped es a
def cN{a:Type}(l:List (Int×a))(k:Int):Option a:=(l.find? λp=>p.1==k).map (·.2)
section
variable {α:Type} {f:α->Value}
theorem Eb(k:Int):(es:List MapEntry)->(l:List (Int×α))->(i:Nat)->es.map (λe=>(e.key,e.val))=l.map (λp=>(ab p.1,f p.2))-> Instr.findNow (.int .i64) (ab k) es i=some ((l.findIdx? (λp=>p.1==k)).map λj=>(i+j,((cN l k).map f).getD undef))
 | [],[],_,_=>rfl
 | [],_::_,_,h=>by simp at h
 | _::_,[],_,h=>by simp at h
 | e::es,p::l,i,h=>by
  rw[aI,aI,l6]at h;obtain⟨b,g⟩:=h;have d:e.key=ab p.1:=(Prod.mk.inj b).1;have n:e.val=f p.2:=(Prod.mk.inj b).2;have ih:=Eb k es l (i+1) g;by_cases a:p.1=k
  ·have c:(k==p.1)=true:=by simp[a]
   simp[Instr.findNow,Instr.sameNow,d,n,a,List.findIdx?_cons,cN]
  ·have c:(k==p.1)=false:=by simpa using λe=>a e.symm
   have m:(p.1==k)=false:=by simpa using a
   rw[Instr.findNow,d];simp only[Instr.sameNow,cM,c];rw[ih];simp only[List.findIdx?_cons,cN,eZ,m];congr 1;cases List.findIdx? (λp=>p.1==k) l with
   | none=>rfl
   | some j=>simp;omega
theorem mH{w:World}{es:Array MapEntry}{l:List (Int×α)}(k:Int)(b:es.toList.map (λe=>(e.key,e.val))=l.map λp=>(ab p.1,f p.2)):(Instr.findKey 3 (ab k) es.toList).run Tryz.prog w=.ok ((l.findIdx? (λp=>p.1==k)).map λj=>(j,((cN l k).map f).getD undef)) w:=by
 have c:=Tryz.underlying3;have a:=Eb k es.toList l 0 b;simp only[cP]at a;simp[Instr.findKey,ch c,Result.andThen,a]
theorem ky(w:World)(em:Bool)(k:Int):(Instr.checkKey em 10000 3 (ab k)).run Tryz.prog w=.ok () w:=by
 have a:=Tryz.underlying3;unfold Instr.checkKey;simp[ch a,Result.andThen]
theorem xV{l:List (Int×α)}{k:Int}(a:cN l k=none):l.findIdx? (λp=>p.1==k)=none:=by
 unfold cN at a;rw[oF];intro p b;rw[Option.map_eq_none_iff,l7]at a;simpa using a p b
theorem KZ{l:List (Int×α)}{k:Int}{b:α}(a:cN l k=some b):∃j,l.findIdx? (λp=>p.1==k)=some j:=by
 cases e:l.findIdx? (λp=>p.1==k)with
 | some j=>exact⟨j,rfl⟩
 | none=>
  unfold cN at a;rw[oF]at e;have:l.find? (λp=>p.1==k)=none:=l7.2 λp c=>by simpa using e p c
  rw[this]at a;cases a
variable {w:World} {mb mt et:Nat} {l:List (Int×α)}
theorem vq.look(i:vq f w mb l)(h:Tryz.prog.underlying mt=some (.map 3 et)){e:Value}(n:(zeroValue et).run Tryz.prog w=.ok e w)(k:Int)(c:Bool):(cN l k=none->(Instr.lookup mt (.map (some mb)) (ab k) c).run Tryz.prog w=.ok (if c then .tuple #[e,.bool false]else e) w)/\ ∀b,cN l k=some b->(Instr.lookup mt (.map (some mb)) (ab k) c).run Tryz.prog w=.ok (if c then .tuple #[f b,.bool true]else f b) w:=by
 obtain⟨es,o,g,j,_⟩:=i;have d:=mH (w:=w) k j;refine⟨λa=>?_,λb a=>?_⟩
 ·rw[xV a]at d;simp[Instr.lookup,ch h,j9 g,ky,d,Result.andThen,n]
 ·obtain⟨p,m⟩:=KZ a;rw[m]at d;simp[Instr.lookup,ch h,j9 g,ky,d,Result.andThen,a]
theorem vq.put(m:vq f w mb l)(o:Tryz.prog.underlying mt=some (.map 3 et)){k:Int}(i:cN l k=none)(b:α):∃w',(Instr.mapUpdate mt (.map (some mb)) (ab k) (f b)).run Tryz.prog w=.ok () w'/\vq f w' mb (l++ [(k,b)])/\bk (λq=>q=mb) w w'/\w'.heap.size=w.heap.size:=by
 obtain⟨es,u,a,e,n⟩:=m;have h:=mH (w:=w) k e;rw[xV i]at h;refine⟨_,by simp[Instr.mapUpdate,ch o,j9 a,ky,h,MapKept.run_setObj_map _ a,Result.andThen];rfl,⟨_,_,(heap_set a).1,?_,stamped_push n λg s j=>?_⟩,?_,?_⟩
 ·simp[e]
 ·have t:(g.key,g.val)∈l.map λc=>(Value.int .i64 c.1,f c.2):=e▸bU.2 ⟨g,s,rfl⟩;obtain⟨c,p,d⟩:=bU.1 t;rw[j]at d;have:=oF.1 (xV i) c p;simp at d;simp[d.1]at this
 ·exact⟨rfl,rfl,rfl,by simp,λq _ r=>(heap_set a).2 q r⟩
 ·simp
theorem Al{α a:Type}(f:α->a)(l:List α)(i:Nat):(l.map f).eraseIdx i=(l.eraseIdx i).map f:=by
 simp[rV,List.map_take,List.map_drop]
theorem vq.del(m:vq f w mb l)(j:Tryz.prog.underlying mt=some (.map 3 et))(k:Int):∃w',(∀ty,(Builtin.delete_ #[mt,3] ty #[.map (some mb),ab k]).run Tryz.prog w=.ok (.tuple #[]) w')/\vq f w' mb (l.eraseP λp=>p.1==k)/\bk (λq=>q=mb) w w'/\w'.heap.size=w.heap.size:=by
 obtain⟨es,h,a,b,i⟩:=m;have c:=mH (w:=w) k b;cases e:l.findIdx? (λp=>p.1==k)with
 | none=>
  rw[e]at c;refine⟨{w with heap:=w.heap.setIfInBounds mb (.map es h)},λty=>by simp[Builtin.delete_,ch j,j9 a,ky,c,MapKept.run_setObj_map _ a,Result.andThen],⟨_,_,(heap_set a).1,?_,i⟩,?_,?_⟩
  ·rw[List.eraseP_of_forall_not λp r=>by have:=oF.1 e p r;rw[this];decide];exact b
  ·exact⟨rfl,rfl,rfl,by simp,λq _ d=>(heap_set a).2 q d⟩
  ·simp
 | some g=>
  rw[e]at c;refine⟨{w with heap:=w.heap.setIfInBounds mb (.map (es.eraseIdxIfInBounds g) h)},λty=>by simp[Builtin.delete_,ch j,j9 a,ky,c,MapKept.run_setObj_map _ a,Result.andThen],⟨_,_,(heap_set a).1,?_,stamped_erase i g⟩,?_,?_⟩
  ·have o:g<es.size:=by
     have s:=(List.findIdx?_eq_some_iff_getElem.1 e).1;have n:=congrArg List.length b;simp at n;omega
   rw[List.eraseP_eq_eraseIdx,e];simp only[Array.eraseIdxIfInBounds,o,dite_true,Array.toList_eraseIdx];rw[<-Al,<-Al,b]
  ·exact⟨rfl,rfl,rfl,by simp,λq _ d=>(heap_set a).2 q d⟩
  ·simp
theorem vq.len(a:vq f w mb l)(e:Tryz.prog.underlying mt=some (.map 3 et))(ty:TypeId):(Builtin.len_ #[mt] ty #[.map (some mb)]).run Tryz.prog w=.ok (ab l.length) w:=by
 obtain⟨es,g,b,c,_⟩:=a;have d:es.size=l.length:=by
  have:=congrArg List.length c;simpa using this
 simp[Builtin.len_,ch e,j9 b,Result.andThen,d];unfold goInt
 go_num
theorem vq.kept{w':World}(b:vq f w mb l)(e:w'.heap[mb]?=w.heap[mb]?):vq f w' mb l:=by
 obtain⟨es,a,c,d⟩:=b;exact⟨es,a,e.trans c,d⟩
theorem vq.new(w:World):vq f (w.alloc (.map #[] 0)) w.heap.size []:=⟨#[],0,az _ _,rfl,stamped_empty 0⟩
end
abbrev IM(w:World)(a:Nat)(l:List (Int×Nat)):Prop:=vq yZ w a l
theorem IM.look{w:World}{a:Nat}{l:List (Int×Nat)}(d:IM w a l)(k:Int)(c:Bool):(cN l k=none->(Instr.lookup 62 (.map (some a)) (ab k) c).run Tryz.prog w=.ok (if c then .tuple #[.pointer none,.bool false]else .pointer none) w)/\ ∀b,cN l k=some b->(Instr.lookup 62 (.map (some a)) (ab k) c).run Tryz.prog w=.ok (if c then .tuple #[yZ b,.bool true]else yZ b) w:=
 vq.look d Tryz.underlying62 (by kernel_rfl) k c
theorem Ct(w:World)(k:Int)(c:Bool):(Instr.lookup 62 (.map none) (ab k) c).run Tryz.prog w=.ok (if c then .tuple #[.pointer none,.bool false]else .pointer none) w:=by
 have b:=Tryz.underlying62;have d:(zeroValue 60).run Tryz.prog w=.ok (.pointer none) w:=by kernel_rfl
 have a:=mH (f:=yZ) (w:=w) (es:= #[]) (l:=[]) k rfl;simp[Instr.lookup,ch b,ky,a,Result.andThen,d]
structure kJ where
 lo:Nat
 b:Nat
 room:Int
 n:Nat
 prog:List (Bh (n+1))
 pa:Option Addr
 pc:Nat
structure fS where
 ow:Nat->Int
 po:Option Nat
 l:List (Int×Nat)
 wo:Option Nat
 wn:Nat
 f:Int×Int->List Tc
 sl:Int×Int->Value
 bo:Option Nat
 bn:Nat
 ev:Value
 es:List (ByteArray×Int×Int×Tc)
 k:Nat
def dL(p:kJ)(s:Sy)(d:fS):Array Value:= #[.slice p.pa p.prog.length p.pc,ab p.room,ab s.last,.map d.po,.map d.wo,.map d.bo,d.ev]
def zb(p:kJ)(s:Sy)(d:fS):BL:=⟨p.b,4,dL p s d,70⟩
def Mb(p:kJ)(s:Sy)(d:fS):BL:=⟨p.b,5,dL p s d,70⟩
def Fg(e:ByteArray×Int×Int×Tc):List Value:=[ae e.1,ab e.2.1,ab e.2.2.1,ab e.2.2.2.1.1,ab e.2.2.2.1.2.1,ae e.2.2.2.1.2.2,.slice e.2.2.2.2.1.1 e.2.2.2.2.2.length e.2.2.2.2.1.2]
def zW(t:Tc):Prop:=bq 13 t=0\/(t.1=(0,0,⟨#[]⟩)/\t.2.2=[])
structure aX (p:kJ) (s:Sy) (d:fS) (w:World):Prop where
 low:∀b,d.ow b≠0->p.lo<=b/\b<w.heap.size
 box:w.heap[p.b]?=some (.cells (dL p s d) 70)
 own:d.ow p.b=-5
 pg:(gM (p.n+1) w.heap.size w p.pa p.prog/\sN (jt (p.n+1) λb=>d.ow b=-4) (λb=>d.ow b=-4) p.pa p.prog)/\(p.prog.length<=p.pc/\p.pc<=maxLen/\nn p.n p.prog=0/\(av (p.n+6) (bW p.n p.prog)).length<=2097152)
 pm:(d.po=none/\d.l=[])\/∃mb,d.po=some mb/\d.ow mb=-5/\mb≠p.b/\IM w mb d.l
 keys:d.l.map (·.1)=s.ps.map (·.1)/\(s.ps.map (·.1)).Nodup/\(∀q∈s.ps,1<=q.1/\q.1<=s.last)/\0<=s.last/\s.last<=90/\s.ps.length<=12
 ps:∀k b,cN d.l k=some b->∃nm cs cms,s.get k=some (nm,cs,cms)/\P1 p.lo b nm p.room cs cms (d.k+201) (λq=>d.ow q=k) w/\cms.length<=20
 wy:gO p.lo (zb p s d) d.wo d.wn 13 d.f d.sl w/\(∀b,qX (zb p s d) d.wo d.sl b->b=p.b\/d.ow b=-1)/\(∀k,(d.f k).map (cn 13)=s.ways k)/\(∀k,(d.f k).length<=20)/\∀k,∀y∈d.f k,bq 13 y=0/\aH 13 y=true/\In w.heap.size w 13 y/\bZ (λb=>d.ow b=-1/\¬qX (zb p s d) d.wo d.sl b) 13 y
 bd:ey p.lo (Mb p s d) d.bo d.bn s.bonds w/\zh s.bonds/\∀b,d.bo=some b->d.ow b=-2
 evr:w.ownsRow p.lo 40 7 d.ev d.es.length (d.es.flatMap Fg)/\∀b,d.ev.ownBlock=some b->d.ow b=-3
 evt:d.es.map (λe=>(e.1,e.2.1,e.2.2.1,cn 13 e.2.2.2))=s.evs/\∀e∈d.es,(In w.heap.size w 13 e.2.2.2/\bZ (λb=>d.ow b=-3/\d.ev.ownBlock≠some b) 13 e.2.2.2)/\zW e.2.2.2
theorem eS{S D:Nat->Prop}{w w':World}(c:bk S w w')(e:∀b,D b->¬S b){n:Nat}{x:Tm n}(a:In w.heap.size w n x/\bZ D n x):In w'.heap.size w' n x/\bZ D n x:=
 ⟨(In.off (P:=λb=>D b/\b<w.heap.size) (λb d=>c.block b d.2 (e b d.1)) (In.offB a.2 a.1) a.1).mono c.size,a.2⟩
theorem Fv{l:List (Int×Nat)}{k:Int}{b:Nat}(a:cN l k=some b):(k,b)∈l:=by
 unfold cN at a;cases c:l.find? (λe=>e.1==k)with
 | none=>rw[c]at a;cases a
 | some e=>
  rw[c]at a;have f:=rX c;have d:=List.find?_some c;simp at a d;subst a d;exact f
theorem aX.key{p:kJ}{s:Sy}{d:fS}{w:World}(a:aX p s d w){k:Int}{b:Nat}(e:cN d.l k=some b):1<=k/\k<=s.last:=by
 have c:k∈d.l.map (·.1):=bU.2 ⟨_,Fv e,rfl⟩;rw[a.keys.1]at c;obtain⟨g,f,rfl⟩:=bU.1 c;exact a.keys.2.2.1 g f
theorem gO.turn{base:Nat}{p e:BL}{d:Option Nat}{n N:Nat}{f:Int×Int->List (Tm N)}{sl:Int×Int->Value}{w w':World}(c:gO base p d n N f sl w){S:Nat->Prop}(o:bk S w w')(l:∀b,qX p d sl b->b≠p.b->¬S b)(q:e.b=p.b)(j:sL e d w'):gO base e d n N f sl w':=by
 refine⟨by rw[q];exact c.1,j,?_⟩;rcases c.2.2 with a|⟨r,rfl,m⟩
 ·exact ag a
 ·refine ah ⟨r,rfl,m.kee o λb g=>l b (D9 g) λa=>?_⟩;rcases g with rfl|⟨k,h,i⟩
  ·exact vo c a.symm
  ·exact yX c h (by rw[i,a])
theorem ey.turn{base:Nat}{p c:BL}{a:Option Nat}{n:Nat}{g:Int×Int->Bool}{w w':World}(d:ey base p a n g w){S:Nat->Prop}(j:bk S w w')(i:∀b:Nat,a=Option.some b->¬S b)(k:c.b=p.b)(h:sL c a w'):ey base c a n g w':=by
 refine⟨by rw[k];exact d.1,h,?_⟩;rcases d.2.2 with f|⟨e,rfl,l⟩
 ·exact ag f
 ·exact ah ⟨e,rfl,l.kee j (i e rfl)⟩
section
variable {p:kJ} {s:Sy} {d:fS} {w w':World} {ow:Nat->Int} {S:Nat->Prop}
theorem aX.pgK(e:aX p s d w)(f:bk S w w')(g:∀b,d.ow b=-4->¬S b)(h:∀b,d.ow b≠0->ow b=d.ow b):gM (p.n+1) w'.heap.size w' p.pa p.prog/\sN (jt (p.n+1) λb=>ow b=-4) (λb=>ow b=-4) p.pa p.prog:=by
 have c:=cu (dJ (p.n+1)) 2 (oR (p.n+1)) p.pa;exact⟨c.2.2.2.1 _ _ _ _ f.size (c.2.2.1 _ _ _ w' _ (λb a=>f.block b a.2 (g b a.1)) (c.2.1 _ _ _ _ e.pg.1.2 e.pg.1.1) e.pg.1.1),c.1 _ _ _ (λb a=>(h b (by rw[a];decide)).trans a) e.pg.1.2⟩
theorem aX.pmK(f:aX p s d w)(k:bk S w w')(j:∀b,d.ow b=-5->b≠p.b->¬S b)(m:∀b,d.ow b≠0->ow b=d.ow b):(d.po=none/\d.l=[])\/∃a,d.po=some a/\ow a=-5/\a≠p.b/\IM w' a d.l:=by
 rcases f.pm with g|⟨a,h,c,e,i⟩
 ·exact ag g
 ·exact ah ⟨a,h,(m a (by rw[c];decide)).trans c,e,i.kept (k.block a (f.low a (by rw[c];decide)).2 (j a c e))⟩
theorem aX.psK(f:aX p s d w)(c:bk S w w'){k:Int}{b j:Nat}(o:d.k<=j)(n:∀b,d.ow b=k->¬S b)(t:∀b,d.ow b≠0->ow b=d.ow b)(r:∀b,ow b≠0->p.lo<=b/\b<w'.heap.size)(g:cN d.l k=some b):∃nm cs a,s.get k=some (nm,cs,a)/\P1 p.lo b nm p.room cs a (j+201) (λq=>ow q=k) w'/\a.length<=20:=by
 obtain⟨nm,cs,a,h,i,m⟩:=f.ps k b g;have u:=(f.key g).1;exact⟨nm,cs,a,h,(i.kept (S:=S) ⟨c.os,c.tape,c.output,c.size,c.block⟩ n).mono (λb e=>(t b (by rw[e];omega)).trans e) (Nat.add_le_add_right o 201) λb e=>r b (by rw[e];omega),m⟩
theorem aX.wyK(e:aX p s d w)(j:bk S w w')(i:∀b,d.ow b=-1->¬S b)(l:∀b,d.ow b≠0->ow b=d.ow b){q:BL}(m:q.b=p.b)(o:sL q d.wo w'):gO p.lo q d.wo d.wn 13 d.f d.sl w'/\(∀b,qX q d.wo d.sl b->b=p.b\/ow b=-1)/\∀k,∀y∈d.f k,bq 13 y=0/\aH 13 y=true/\In w'.heap.size w' 13 y/\bZ (λb=>ow b=-1/\¬qX q d.wo d.sl b) 13 y:=by
 have h:∀b,qX q d.wo d.sl b ↔ qX (zb p s d) d.wo d.sl b:=λb=>by
  unfold qX;rw[m];exact Iff.rfl
 refine⟨e.wy.1.turn j (λb c r=>?_) m o,λb c=>(e.wy.2.1 b ((h b).1 c)).imp id λa=>(l b (by rw[a];decide)).trans a,λk y t=>?_⟩
 ·rcases e.wy.2.1 b c with a|a
  ·exact absurd a r
  ·exact i b a
 ·obtain⟨y1,y2,u⟩:=e.wy.2.2.2.2 k y t;have n:=eS j (λb q=>i b q.1) u;exact⟨y1,y2,n.1,n.2.mono λb g=>⟨(l b (by rw[g.1];decide)).trans g.1,λc=>g.2 ((h b).1 c)⟩⟩
theorem aX.bdK(a:aX p s d w)(g:bk S w w')(f:∀b,d.ow b=-2->¬S b)(h:∀b,d.ow b≠0->ow b=d.ow b){q:BL}(i:q.b=p.b)(e:sL q d.bo w'):ey p.lo q d.bo d.bn s.bonds w'/\zh s.bonds/\∀b,d.bo=some b->ow b=-2:=
 ⟨a.bd.1.turn g (λb c=>f b (a.bd.2.2 b c)) i e,a.bd.2.1,λb c=>(h b (by rw[a.bd.2.2 b c];decide)).trans (a.bd.2.2 b c)⟩
theorem aX.evK(c:aX p s d w)(h:bk S w w')(f:∀b,d.ow b=-3->¬S b)(i:∀b,d.ow b≠0->ow b=d.ow b):(w'.ownsRow p.lo 40 7 d.ev d.es.length (d.es.flatMap Fg)/\∀b,d.ev.ownBlock=some b->ow b=-3)/\∀e∈d.es,(In w'.heap.size w' 13 e.2.2.2/\bZ (λb=>ow b=-3/\d.ev.ownBlock≠some b) 13 e.2.2.2)/\zW e.2.2.2:=by
 refine⟨⟨aY c.evr.1 h λb a=>f b (c.evr.2 b a),λb a=>(i b (by rw[c.evr.2 b a];decide)).trans (c.evr.2 b a)⟩,λe g=>⟨?_,(c.evt.2 e g).2⟩⟩;have j:=eS h (λb a=>f b a.1) (c.evt.2 e g).1;exact⟨j.1,j.2.mono λb a=>⟨(i b (by rw[a.1];decide)).trans a.1,a.2⟩⟩
theorem pQ{d:fS}{w:World}(a:w.heap[p.b]?=some (.cells (dL p s d) 70)):sL (zb p s d) d.wo w/\sL (Mb p s d) d.bo w:=by
 refine⟨⟨⟨by simp[zb,dL],by simp[zb]⟩,?_⟩,⟨⟨by simp[Mb,dL],by simp[Mb]⟩,?_⟩⟩
 ·simp[zb,dL,a]
 ·simp[Mb,dL,a]
theorem aX.kept(a:aX p s d w)(c:bk S w w')(n:∀b,S b->d.ow b=0):aX p s d w':=by
 have j:∀b,d.ow b≠0->¬S b:=λb e r=>e (n b r);have f:∀b,d.ow b≠0->d.ow b=d.ow b:=λ_ _=>rfl;have h:w'.heap[p.b]?=some (.cells (dL p s d) 70):=(c.block p.b (aC.1 a.box).1 (j p.b (by rw[a.own];decide))).trans a.box;have i:∀b,d.ow b≠0->p.lo<=b/\b<w'.heap.size:=λb e=>⟨(a.low b e).1,aL (a.low b e).2 c.size⟩;have t:∀{t:Int},t≠0->∀b,d.ow b=t->¬S b:=λo b g=>j b (by rw[g];exact o);obtain⟨y1,y2,q⟩:=a.wyK c (t (by decide)) f rfl (pQ h).1;obtain⟨l,m⟩:=a.evK c (t (by decide)) f;exact⟨i,h,a.own,⟨a.pgK c (t (by decide)) f,a.pg.2⟩,a.pmK c (λb g _=>t (by decide) b g) f,a.keys,λk b e=>a.psK c (aj _) (t (by have:=(a.key e).1;omega)) f i e,⟨y1,y2,a.wy.2.2.1,a.wy.2.2.2.1,q⟩,a.bdK c (t (by decide)) f rfl (pQ h).2,l,a.evt.1,m⟩
theorem aX.later(a:aX p s d w)(b:ai w w'):aX p s d w':=a.kept (aD b λ_=>False) λ_ q=>q.elim
end
def Nx(f g:Int)(h:ByteArray)(xa:Option Addr)(i xc:Nat)(t:Tc)(w:World):Prop:=
 ∀b,ai w b->ak 54 #[.agg #[ab f,ab g,ae h,.slice xa i xc]] b λd c=>∃y0 y1 y2 ya yl yc,d=.returned (.agg #[ab y0,ab y1,ae y2,.slice ya yl yc])/\Hid (ai b c/\∃a:Tc,(a.1=(y0,y1,y2)/\a.2.1=(ya,yc)/\a.2.2.length=yl)/\(In c.heap.size c 13 a/\bZ (λe=>b.heap.size<=e) 13 a)/\cn 13 a=t/\zW a)
theorem jL{m:Nat}{x:Tm (m+1)}{w:World}(n:In w.heap.size w (m+1) x)(g:bq (m+1) x=0):Nx x.1.1 x.1.2.1 x.1.2.2 x.2.1.1 x.2.2.length x.2.1.2 (cn (m+1) x) w:=λW f=>by
 have l:aA ⟨m+1,x⟩:=aJ.2 (bz.1 g).1;refine(gS (m+1) x W.heap.size W ((n.below f).mono f.size) (aj _) l).mono ?_;rintro e w' ⟨y,rfl,H⟩;obtain⟨i,j,k,d⟩:=H.out;have a:bq (m+1) y=0:=(bL d).trans g;have c:aA ⟨m+1,y⟩:=aJ.2 (bz.1 a).1;have b:fm (m+1) y<13:=by have:=(bz.1 a).2.1;omega
 have h:=iW 13 (m+1) y c b;refine⟨y.1.1,y.1.2.1,y.1.2.2,y.2.1.1,y.2.2.length,y.2.1.2,rfl,i,aN 13 (m+1) y,⟨rfl,rfl,by simp[aN]⟩,⟨rG 13 (m+1) y _ _ c b j,tn 13 (m+1) y _ c b k⟩,(gR h).trans (gR d),ag ((bL h).trans a)⟩
theorem Hz(w:World):Nx 0 0 ⟨#[]⟩ none 0 0 sJ w:=λW h=>by
 refine(rz 12 0 0 ⟨#[]⟩ none 0 0 [] W (by decide) λw1 c=>?_).mono ?_
 ·refine(kP none 0 w1).mono ?_;rintro e w' ⟨rfl,rfl⟩;exact⟨none,0,[],rfl,am _ _,rfl,aj _,aF _,rfl,ag rfl⟩
 ·rintro e w' ⟨a,b,l,rfl,H⟩;obtain⟨c,d,g,f,_⟩:=H.out;obtain rfl:l=[]:=bB d;exact⟨0,0,⟨#[]⟩,a,0,b,rfl,c,((0,0,⟨#[]⟩),(a,b),[]),⟨rfl,rfl,rfl⟩,⟨⟨⟨show dk 0 by unfold dk;decide,show dk 0 by unfold dk;decide,show (0:Nat)<=maxLen from aF _,aF _,f⟩,ag rfl⟩,ag rfl⟩,rfl,ah ⟨rfl,rfl⟩⟩
def En(d:fS)(w w':World)(t:Int)(q:Nat):Int:=if w.heap.size<=q/\q<w'.heap.size then t else d.ow q
theorem tr{p:kJ}{s:Sy}{d:fS}{w w':World}{t:Int}(a:aX p s d w)(e:w.heap.size<=w'.heap.size)(c:p.lo<=w.heap.size):∀b,En d w w' t b≠0->p.lo<=b/\b<w'.heap.size:=λb q=>by
 unfold En at q;split at q
 ·omega
 ·have:=a.low b q;omega
theorem tu{p:kJ}{s:Sy}{d:fS}{w w':World}{t:Int}(a:aX p s d w):∀b,d.ow b≠0->En d w w' t b=d.ow b:=λb q=>by
 have:=(a.low b q).2;exact if_neg (by omega)
theorem aX.lo{p:kJ}{s:Sy}{d:fS}{w:World}(a:aX p s d w):p.lo<=w.heap.size/\p.b<w.heap.size:=by
 have:=a.low p.b (by rw[a.own];decide);omega
def xy(p:kJ)(s:Sy)(d:fS)(wt:ByteArray)(a b:Int)(t:Tc)(w w':World):Prop:=
 ∃e f,aX p (s.tell wt a b t) {d with ow:=En d w w' (-3),ev:=e,es:=d.es++ [(wt,a,b,f)]} w'/\bk (λc=>c=p.b\/d.ow c=-3) w w'
theorem aX.tell{p:kJ}{s:Sy}{d:fS}{w:World}(g:aX p s d w)(wt:ByteArray)(a b V W:Int)(X:ByteArray)(xa:Option Addr)(Y xc:Nat)(t:Tc)(aC:Nx V W X xa Y xc t w)(aB:d.es.length<=100000):ak 44 #[.pointer (some ⟨p.b,0,none⟩),ae wt,ab a,ab b,.agg #[ab V,ab W,ae X,.slice xa Y xc]] w λe w'=>e=.returned (.tuple #[])/\Hid (xy p s d wt a b t w w'):=by
 obtain⟨aa,ao⟩:=g.lo;obtain⟨y,z,m⟩:∃y z,d.ev=.slice y d.es.length z:=by
  rcases g.evr.1.2 with⟨e,az⟩|⟨i,c,aP,e,_⟩
  ·exact⟨none,0,by rw[e,az]⟩
  ·exact⟨_,c,e⟩
 have O:=g.box;have I:d.ev.ownBlock≠some p.b:=λe=>by
  have u:=g.evr.2 _ e;rw[g.own]at u;cases u
 have an:=g.evr.1;rw[m]at an I;refine(Dn p.lo p.b wt a b V W X xa Y xc y d.es.length z _ (λK w' y0 y1 y2 ya yl yc=>∃l:Tc,(l.1=(y0,y1,y2)/\l.2.1=(ya,yc)/\l.2.2.length=yl)/\(In w'.heap.size w' 13 l/\bZ (λf=>K.heap.size<=f) 13 l)/\cn 13 l=t/\zW l) w aB ao aa ⟨?_,by simp[World.frozen?,O]⟩ an I aC).mono ?_
 ·have u:=af O 6;simp only[dL,cI,cV]at u;rw[m]at u;exact u
 rintro e w' ⟨rfl,ar⟩;obtain⟨i,c,q,x,K,L,y0,y1,y2,ya,yl,yc,R,aL,⟨l,⟨M,N,aA⟩,Q,aE,aH⟩,S,ap,J⟩:=ar.out;have H:ai w L:=R.trans (aL.mono R.size);have P:bk (λaO=>(Value.slice y d.es.length z).ownBlock=some aO) w q:=(aD H _).trans S λ_ _ e=>e;have o:bk (λf=>f=p.b\/d.ow f=-3) w w':=by
  rw[x];refine(P.mono (T:=λf=>f=p.b\/d.ow f=-3) λf _ e=>ah (g.evr.2 f (by rw[m];exact e))).trans (bt q p.b 6 _) λf _ e=>ag e
 have aK:=o.size;have aS:w'.heap.size=q.heap.size:=by rw[x];simp[World.setCell]
 have Z:w'.heap[p.b]?=some (.cells (dL p (s.tell wt a b t) {d with ow:=En d w w' (-3),ev:=.slice (some ⟨i,0,none⟩) (d.es.length+1) c,es:=d.es++ [(wt,a,b,l)]}) 70):=by
  have v:q.heap[p.b]?=some (.cells (dL p s d) 70):=(P.block p.b ao I).trans O;rw[x];simp[World.setCell,bG,v,dL,Sy.tell]
 have ad:=tr (t:=-3) g aK aa;have n:=tu (w':=w') (t:=-3) g;have G:∀{U:Int},U≠ -3->U≠ -5->∀f,d.ow f=U->¬(f=p.b\/d.ow f=-3):=λF v f e h=>by
  rcases h with rfl|h
  ·rw[g.own]at e;exact v e.symm
  ·exact F (e.symm.trans h)
 have am:∀f,w.heap.size<=f->f<w'.heap.size->En d w w' (-3) f=-3:=λf av aw=>if_pos ⟨av,aw⟩;obtain⟨ax,ay⟩:=pQ Z;obtain⟨E,j,r⟩:=g.wyK o (G (by decide) (by decide)) n rfl ax;refine⟨rfl,.slice (some ⟨i,0,none⟩) (d.es.length+1) c,l,⟨ad,Z,(n p.b (by rw[g.own];decide)).trans g.own,⟨g.pgK o (G (by decide) (by decide)) n,g.pg.2⟩,g.pmK o (λf M N h=>?_) n,g.keys,λk b f=>g.psK o (aj _) (G (by have:=(g.key f).1;omega) (by have:=(g.key f).1;omega)) n ad f,⟨E,j,g.wy.2.2.1,g.wy.2.2.2.1,r⟩,g.bdK o (G (by decide) (by decide)) n rfl ay,⟨?_,λf e=>?_⟩,?_,λe A=>?_⟩,o⟩
 ·rcases h with h|h
  ·exact N h
  ·rw[M]at h;cases h
 ·have e:[(wt,a,b,l)].flatMap Fg=[ae wt,ab a,ab b,ab y0,ab y1,ae y2,.slice ya yl yc]:=by simp[Fg,M,N,aA]
  have v:w'.ownsRow p.lo 40 7 (.slice (some ⟨i,0,none⟩) (d.es.length+1) c) (d.es.length+1) (d.es.flatMap Fg++ [(wt,a,b,l)].flatMap Fg):=by
   rw[e,x];refine aY ap (bt q p.b 6 _) λf aJ h=>?_;have:i=f:=au aJ;subst this h;rcases J with h|h
   ·exact I h
   ·have:=H.size;omega
  rw[<-jW]at v;simpa using v
 ·have B:i=f:=au e;subst B;rcases J with h|h
  ·have F:=g.evr.2 i (by rw[m];exact h);exact(n i (by rw[F];decide)).trans F
  ·have:=H.size;have:=(ap.lt i rfl).2;exact am i (by omega) (by omega)
 ·show _=s.evs++ [(wt,a,b,t)];rw[fH,g.evt.1,aI,bR,aE]
 ·have aG:bk (λf=>f=p.b\/d.ev.ownBlock=some f) w w':=by
    rw[x,m];exact(P.mono (T:=λf=>f=p.b\/(Value.slice y d.es.length z).ownBlock=some f) λf _ e=>ah e).trans (bt q p.b 6 _) λf _ e=>ag e
  have aF:bk (λf=>f=p.b\/d.ev.ownBlock=some f) L w':=by
   rw[x,m];exact(S.mono (T:=λf=>f=p.b\/(Value.slice y d.es.length z).ownBlock=some f) λf _ e=>ah e).trans (bt q p.b 6 _) λf _ e=>ag e
  have aR:=H.size;rcases da.1 A with A|A
  ·obtain⟨⟨aq,aM⟩,aN⟩:=g.evt.2 e A;refine⟨?_,aN⟩;have C:=eS aG (D:=λf=>(d.ow f=-3/\d.ev.ownBlock≠some f)/\f<w.heap.size) (λf E j=>?_) ⟨aq,In.offB aM aq⟩
   ·refine⟨C.1,C.2.mono λf h=>⟨(n f (by rw[h.1.1];decide)).trans h.1.1,λj=>?_⟩⟩;have B:i=f:=au j;subst B;rcases J with r|r
    ·exact h.1.2 (by rw[m];exact r)
    ·omega
   ·rcases j with rfl|j
    ·have:=E.1.1;rw[g.own]at this;cases this
    ·exact E.1.2 j
  ·obtain rfl:=dD.1 A;refine⟨?_,aH⟩;have aQ:=R.size;have al:∀f,d.ev.ownBlock=some f->f<w.heap.size:=λf h=>(g.evr.1.lt f h).2;have C:=eS aF (D:=λf=>K.heap.size<=f/\f<L.heap.size) (λf E j=>?_) ⟨Q.1,In.offB Q.2 Q.1⟩
   ·have:=S.size;refine⟨C.1,C.2.mono λf h=>⟨am f (by omega) (by omega),λj=>?_⟩⟩;have B:i=f:=au j;subst B;rcases J with r|r
    ·have:=al i (by rw[m];exact r);omega
    ·omega
   ·rcases j with rfl|j
    ·omega
    ·have:=al f j;omega
theorem Ox{w:World}{q:Nat}{a b c d:Value}{T:TypeId}{fr:Nat×Nat}(e:w.heap[q]?=some (.cells #[a,b,c,d] T fr)):w.cell? ⟨q,0,none⟩=some a/\w.cell? ⟨q,1,none⟩=some b/\w.cell? ⟨q,2,none⟩=some c/\w.cell? ⟨q,3,none⟩=some d:=by simp[World.cell?,e]
theorem Fu{l:List (Int×Nat)}{ps:List (Int×ByteArray×Tc×List Tc)}(k:Int)(a:l.map (·.1)=ps.map (·.1)):(cN l k).isSome=((ps.find? λp=>p.1==k).map (·.2)).isSome:=by
 induction l generalizing ps with
 | nil=>
  cases ps with
  | nil=>rfl
  | cons b ps=>simp at a
 | cons c l ih=>
  cases ps with
  | nil=>simp at a
  | cons b ps=>
   simp only[aI,l6]at a;have ih:=ih a.2;unfold cN at ih ⊢;rw[eZ,eZ,a.1];cases b.1==k
   ·exact ih
   ·rfl
section
variable {p:kJ} {s:Sy} {d:fS} {w:World}
theorem aX.alive(a:aX p s d w)(k:Int):(cN d.l k).isSome=(s.get k).isSome:=Fu k a.keys.1
theorem aX.look(g:aX p s d w)(k:Int)(c:Bool):(Instr.lookup 62 (.map d.po) (ab k) c).run Tryz.prog w=.ok (if c then .tuple #[match cN d.l k with|some b=>yZ b|none=> .pointer none,.bool (cN d.l k).isSome]else match cN d.l k with|some b=>yZ b|none=> .pointer none) w:=by
 rcases g.pm with⟨a,f⟩|⟨j,a,_,_,f⟩
 ·rw[a,f];have:=Ct w k c;cases c<;>exact this
 ·rw[a];obtain⟨h,i⟩:=f.look k c;cases e:cN d.l k with
  | none=>
   rw[h e];cases c<;>rfl
  | some b=>
   rw[i b e];cases c<;>rfl
theorem aX.cells(c:aX p s d w):w.cell? ⟨p.b,0,none⟩=some (.slice p.pa p.prog.length p.pc)/\w.cell? ⟨p.b,1,none⟩=some (ab p.room)/\w.cell? ⟨p.b,2,none⟩=some (ab s.last)/\w.cell? ⟨p.b,3,none⟩=some (.map d.po):=by
 have a:=c.box;exact⟨af a 0,af a 1,af a 2,af a 3⟩
theorem aX.isAlive(a:aX p s d w)(k:Int):ak 49 #[.pointer (some ⟨p.b,0,none⟩),ab k] w λe w'=>e=.returned (.bool (s.get k).isSome)/\w'=w:=by
 have i:=a.cells.2.2.2;have f:=a.look k true;rw[if_pos rfl]at f;have c:=a.alive k;obtain⟨h,g⟩:∃h,h=(s.get k).isSome:=⟨_,rfl⟩;rw[<-g]at c ⊢;rw[c]at f;generalize (match cN d.l k with|some b=>yZ b|none=> .pointer none)=m at f;clear c g;generalize d.po=j at*;clear a;go_enter Tryz.func49,Tryz.ntmps49;go_wp2_with fail
 go_ret
 exact⟨rfl,rfl⟩
theorem aX.len(c:aX p s d w)(ty:TypeId):(Builtin.len_ #[62] ty #[.map d.po]).run Tryz.prog w=.ok (ab s.ps.length) w:=by
 have e:d.l.length=s.ps.length:=by
  have:=congrArg List.length c.keys.1;simpa using this
 rcases c.pm with⟨a,b⟩|⟨f,a,_,_,b⟩
 ·rw[a,<-e,b];exact Maps.len_nil Tryz.underlying62 ty
 ·rw[a,<-e];exact vq.len b Tryz.underlying62 ty
theorem aX.mayHave(c:aX p s d w)(n:Nat)(r:n<=1000):ak 37 #[.pointer (some ⟨p.b,0,none⟩),ab n] w λe w'=>e=.returned (.bool (s.may n))/\w'=w:=by
 obtain⟨_,_,k,l⟩:=c.cells;have q:=c.len 3;obtain⟨_,_,_,t,u,v⟩:=c.keys;obtain⟨j,a⟩:∃j,j=s.may n:=⟨_,rfl⟩;rw[<-a];unfold Sy.may at a;generalize s.last=h at*;generalize s.ps.length=f at*;generalize d.po=x at*;clear c;have m:IntKind.i64.wrap ((f:Int)+n)=(f:Int)+n:=by rw[IntKind.wrap];simp[IntKind.bits,IntKind.signed];omega
 have o:IntKind.i64.wrap (h+n)=h+n:=by rw[IntKind.wrap];simp[IntKind.bits,IntKind.signed];omega
 go_enter Tryz.func37,Tryz.ntmps37;by_cases g:(f:Int)+n<=12
 ·by_cases i:h+n<=90
  ·rw[gj g,gj i]at a;subst a;go_wp2_with fail
   go_ret
   exact⟨rfl,rfl⟩
  ·rw[gj g,kj i]at a;subst a;go_wp2_with fail
   go_ret
   exact⟨rfl,rfl⟩
 ·rw[kj g]at a;subst a;go_wp2_with fail
  go_ret
  exact⟨rfl,rfl⟩
theorem CC(n:Nat)(nm:ByteArray)(l:List (Bh n))(q:Option Addr)(F len B r:Nat)(w:World)(J:l.length=len)(K:len<=9223372036854775807)(C:B<=w.heap.size)(_hsb:r<w.heap.size)(v:Hid (w.cell? ⟨r,0,none⟩=some (.slice q len F)))(y:Hid (gM n B w q l)):ak 38 #[.pointer (some ⟨r,0,none⟩),ae nm] w λe w'=>e=.returned (.bool (fU n nm l).isSome)/\ai w w':=by
 have H:=v.out;go_enter Tryz.func38,Tryz.ntmps38;go_wp2_with fail;go_loopw [12] (λm wr=>∃a:Nat,a<=len/\m=ab a/\Hid (ai w wr/\fU n nm l=fU n nm (l.drop a))) (λm _=>len-(intOf m).toNat)
 case atStart=>exact⟨0,by omega,rfl,am _ _,rfl⟩
 case round=>
 obtain⟨a,I,rfl,c⟩:=hrel;by_cases L:a<len
 ·obtain⟨b,d⟩:∃b,l[a]?=some b:=⟨l[a]'(by omega),aE _⟩;obtain⟨j,lo,rfl,E,x⟩:∃g o,q=some ⟨g,o,none⟩/\g<B/\Hid (∀(t:Nat)(f:Value),(oR n b)[t]?=some f->w.cell? ⟨g,o+a*2+t,none⟩=some f):=by
   rcases y.out with e|⟨g,o,e,D,A⟩
   ·rw[e]at d;simp at d
   ·exact⟨g,o,e,D,(A a _ d).1⟩
  have h:∀(t:Nat)(f:Value),(oR n b)[t]?=some f->wr.cell? ⟨j,lo+a*2+t,none⟩=some f:=λt f u=>(c.out.1.cell (p:=⟨j,lo+a*2+t,none⟩) (aL E C)).trans (x.out t f u);have G:wr.cell? ⟨j,lo+a*2,none⟩=some (ae b.1):=h 0 _ rfl;have O:wr.cell? ⟨j,lo+a*2+1,none⟩=some (.slice b.2.1.1 b.2.2.length b.2.1.2):=h 1 _ rfl;have M:(0:Int)<=(a:Int):=by omega
  have N:(a:Int)<(len:Int):=by omega
  have s:Hid (∀o,ai w (wr.alloc o)):=λo=>c.out.1.alloc c.out.1.size o;by_cases i:b.1=nm
  ·have k:Hid (fU n nm l=some b):=by
     show _=_;rw[c.out.2,nU n nm d,if_pos i]
   rw[i]at G;clear h c d;go_wp2_with fail
   go_ret
   exact⟨bK (by rw[k.out];rfl),s.out _⟩
  ·have k:Hid (fU n nm l=fU n nm (l.drop (a+1))):=by
     show _=_;rw[c.out.2,nU n nm d,if_neg i]
   have u:(b.1.toList==nm.toList)=false:=by
    rw[gi];intro e;rw[b8,b8]at e;exact i (ByteArray.ext (Array.ext' e))
   clear h c d;go_wp2_with fail;go_roundw
   case rel=>exact⟨a+1,by omega,by go_num,s.out _,k.out⟩
   case measure=>simp[intOf];omega
 ·obtain rfl:a=len:=by omega
  have z:Hid (fU n nm l=none):=by
   show _=_;rw[c.out.2,oE (by omega)];rfl
  have HB:=ao c.out.1;clear c;go_wp2_with fail
  go_ret
  exact⟨bK (by rw[z.out];rfl),HB.out⟩
theorem aX.knows(a:aX p s d w)(nm:ByteArray):ak 38 #[.pointer (some ⟨p.b,0,none⟩),ae nm] w λe w'=>e=.returned (.bool (kC p.n p.prog nm))/\ai w w':=
 CC (p.n+1) nm p.prog p.pa p.pc p.prog.length w.heap.size p.b w rfl (ax a.pg.2.1 a.pg.2.2.1) (aj _) a.lo.2 a.cells.1 a.pg.1.1
end
theorem nz{g:Type}{k j:Int}(d:j≠k):(l:List (Int×g))->(l.eraseP λp=>p.1==k).find? (λp=>p.1==j)=l.find? λp=>p.1==j
 | []=>rfl
 | a::l=>by
  rw[List.eraseP_cons];by_cases b:a.1=k
  ·have c:(a.1==k)=true:=by simpa using b
   have f:(a.1==j)=false:=by simp[b];exact λe=>d e.symm
   simp[c,f]
  ·have c:(a.1==k)=false:=by simpa using b
   simp only[c,cond_false,eZ];rw[nz d l]
theorem vX{g:Type}{k:Int}:(l:List (Int×g))->(l.map (·.1)).Nodup->(l.eraseP λp=>p.1==k).find? (λp=>p.1==k)=none
 | [],_=>rfl
 | a::l,hn=>by
  rw[aI,j8]at hn;rw[List.eraseP_cons];by_cases b:a.1=k
  ·have c:(a.1==k)=true:=by simpa using b
   simp only[c,cond_true];refine l7.2 λf e=>?_;simp only[bV];intro d;exact hn.1 (bU.2 ⟨f,e,d.trans b.symm⟩)
  ·have c:(a.1==k)=false:=by simpa using b
   simp only[c,cond_false,eZ];exact vX l hn.2
def dH(a:Nat)(d b:fS)(w w':World):Prop:=bk (λq=>d.ow q<0) w w'/\(∀q,q<w.heap.size->b.ow q=d.ow q)/\b.k=d.k/\b.es.length<=d.es.length+a/\b.wn<=d.wn+a/\b.bn<=d.bn+a
theorem dH.trans{a b:Nat}{d d1 f:fS}{w w1 w2:World}(j:dH a d d1 w w1)(k:dH b d1 f w1 w2):dH (a+b) d f w w2:=by
 obtain⟨h,i,l,p,q,r⟩:=j;obtain⟨m,n,o,t,u,v⟩:=k;have s:=h.size;exact⟨h.trans m λc e g=>by rw[i c e]at g;exact g,λc e=>(n c (by omega)).trans (i c e),o.trans l,by omega,by omega,by omega⟩
theorem dH.mono{a b:Nat}{d d1:fS}{w w1:World}(c:dH a d d1 w w1)(k:a<=b):dH b d d1 w w1:=by
 obtain⟨e,f,g,h,i,j⟩:=c;exact⟨e,f,g,by omega,by omega,by omega⟩
theorem dH.later(d:fS){w w1:World}(a:ai w w1):dH 0 d d w w1:=⟨aD a _,λ_ _=>rfl,rfl,aj _,aj _,aj _⟩
theorem xy.up{p:kJ}{s:Sy}{d:fS}{wt:ByteArray}{a b:Int}{t:Tc}{w w':World}(f:aX p s d w)(k:xy p s d wt a b t w w'):∃e,aX p (s.tell wt a b t) e w'/\dH 1 d e w w':=by
 obtain⟨l,m,g,h⟩:=k;refine⟨_,g,h.mono λi _ c=>?_,λi j=>if_neg (by omega),rfl,by simp,fe _,fe _⟩;rcases c with c|c
 ·rw[c,f.own];decide
 ·rw[c];decide
section
variable {p:kJ} {s:Sy} {d:fS} {w:World}
theorem aX.del(a:aX p s d w)(k:Int):∃w',(∀ty,(Builtin.delete_ #[62,3] ty #[.map d.po,ab k]).run Tryz.prog w=.ok (.tuple #[]) w')/\aX p {s with ps:=s.ps.eraseP λq=>q.1==k} {d with l:=d.l.eraseP λq=>q.1==k} w'/\bk (λq=>d.ow q=-5/\q≠p.b) w w':=by
 have J:(d.l.eraseP λq=>q.1==k).map (·.1)=(s.ps.eraseP λq=>q.1==k).map (·.1):=by
  have e:=congrArg (λl=>l.eraseP (λq=>q==k)) a.keys.1;simpa [List.eraseP_map,Function.comp_def]using e
 obtain⟨E,u,F,G,H,I⟩:=a.keys;have L:(d.l.map (·.1)).Nodup:=by rw[E];exact u
 have v:∀(w':World),bk (λq=>d.ow q=-5/\q≠p.b) w w'->((d.po=none/\d.l.eraseP (λq=>q.1==k)=[])\/∃h,d.po=some h/\d.ow h=-5/\h≠p.b/\IM w' h (d.l.eraseP λq=>q.1==k))->aX p {s with ps:=s.ps.eraseP λq=>q.1==k} {d with l:=d.l.eraseP λq=>q.1==k} w':=λw' c M=>by
  have i:∀b,d.ow b≠0->d.ow b=d.ow b:=λ_ _=>rfl;have y:∀b,d.ow b≠0->p.lo<=b/\b<w'.heap.size:=λb q=>⟨(a.low b q).1,aL (a.low b q).2 c.size⟩;have m:w'.heap[p.b]?=some (.cells (dL p s d) 70):=(c.block p.b a.lo.2 λn=>n.2 rfl).trans a.box;have t:∀{t:Int},t≠ -5->∀b,d.ow b=t->¬(d.ow b=-5/\b≠p.b):=λO b e n=>O (e.symm.trans n.1);obtain⟨y1,y2,T⟩:=a.wyK c (t (by decide)) i rfl (pQ m).1;obtain⟨f,g⟩:=a.evK c (t (by decide)) i;refine⟨y,m,a.own,⟨a.pgK c (t (by decide)) i,a.pg.2⟩,M,⟨J,?_,λq N=>F q (List.mem_of_mem_eraseP N),G,H,?_⟩,λj b q=>?_,⟨y1,y2,a.wy.2.2.1,a.wy.2.2.2.1,T⟩,a.bdK c (t (by decide)) i rfl (pQ m).2,f,a.evt.1,g⟩
  ·exact(u.sublist ((List.eraseP_sublist (l:=s.ps) (p:=λq=>q.1==k)).map _))
  ·exact ax (List.length_eraseP_le) I
  ·have x:j≠k:=λe=>by
     subst e;have:cN (d.l.eraseP λq=>q.1==j) j=none:=by unfold cN;rw[vX d.l L];rfl
     rw[this]at q;cases q
   have z:cN d.l j=some b:=by
    unfold cN at q ⊢;rw[nz x]at q;exact q
   obtain⟨P,B,A,r,D⟩:=a.psK c (aj _) (t (by have:=(a.key z).1;omega)) i y z;refine⟨P,B,A,?_,D⟩;unfold Sy.get at r ⊢;rw[nz x];exact r
 rcases a.pm with⟨f,g⟩|⟨h,f,g,o,C⟩
 ·refine⟨w,?_,v w (bk.refl _ _) (ag ⟨f,by rw[g];rfl⟩),bk.refl _ _⟩;have K:=Tryz.underlying62;intro ty;rw[f];simp[Builtin.delete_,ch K,ky,Result.andThen]
 ·obtain⟨w',Q,R,S,_⟩:=vq.del C Tryz.underlying62 k;have c:bk (λq=>d.ow q=-5/\q≠p.b) w w':=S.mono λq _ e=>by rw[e];exact⟨g,o⟩
  exact⟨w',λty=>by rw[f];exact Q ty,v w' c (ah ⟨h,f,g,o,R⟩),c⟩
theorem Fe(a:Nat)(c:Option Nat)(x how:Int)(w w1:World)(R:World->Prop)(f:Hid (w.cell? ⟨a,3,none⟩=some (.map c)))(i:∀ty,(Builtin.delete_ #[62,3] ty #[.map c,ab x]).run Tryz.prog w=.ok (.tuple #[]) w1)(g:Hid (ak 44 #[.pointer (some ⟨a,0,none⟩),ae ⟨#[101,110,100]⟩,ab x,ab how,.agg #[ab 0,ab 0,ae ⟨#[]⟩,.slice none 0 0]] w1 λe w'=>e=.returned (.tuple #[])/\R w')):ak 73 #[.pointer (some ⟨a,0,none⟩),ab x,ab how] w λe w'=>e=.returned (.tuple #[])/\R w':=by
 have h:=f.out;go_enter Tryz.func73,Tryz.ntmps73;go_wp2_with fail;refine g.out.mono ?_;rintro e j ⟨rfl,b⟩;have d:=ao b;clear b;go_wp2_with fail;exact dO (v:=.tuple #[]) (by simp[results]) rfl ⟨rfl,d.out⟩
theorem aX.drop(g:aX p s d w)(x how:Int)(k:d.es.length<=100000):ak 73 #[.pointer (some ⟨p.b,0,none⟩),ab x,ab how] w λe w'=>e=.returned (.tuple #[])/\Hid (∃c,aX p (s.drop x how) c w'/\dH 1 d c w w'):=by
 obtain⟨f,m,h,n⟩:=g.del x;refine Fe p.b d.po x how w f _ g.cells.2.2.2 m ((h.tell mY x how 0 0 ⟨#[]⟩ none 0 0 sJ (Hz f) k).mono λe w' a=>⟨a.1,?_⟩);obtain⟨c,i,j⟩:=a.2.out.up h;have o:dH 0 d {d with l:=d.l.eraseP λa=>a.1==x} w f:=⟨n.mono λa _ e=>by rw[e.1];decide,λ_ _=>rfl,rfl,aj _,aj _,aj _⟩;exact⟨c,i,(o.trans j).mono (aj _)⟩
end
end Go.Proofs.YtckamaoibonjcaaGreat
