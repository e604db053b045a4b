/- Proved here: plain facts and contracts. No condition but what each names. -/
import Derived.Test.YtmmahddlcldmiaaGreatDoorT21
namespace Go.Proofs.YtmmahddlcldmiaaGreatDoor
open Go.RowKit Go.Maps Go.Proofs.Tryz
open Go.RowKit
set_option maxRecDepth 100000
set_option maxHeartbeats 4000000
def iQ(x y:Int):Int×Int:=(min x y,max x y)
def qr:List Int:=(List.range 99).map λi:Nat=>(i:Int)+1
theorem BF{y:Int}:y∈qr ↔ 1<=y/\y<=99:=by
 simp only[qr,cC,List.mem_range];constructor
 ·rintro ⟨c,b,rfl⟩;omega
 ·intro a;exact⟨(y-1).toNat,by omega,by omega⟩
theorem ov:qr.length=99:=by simp[qr]
theorem DY:qr.Nodup:=by
 unfold qr;refine List.Pairwise.map _ ?_ List.nodup_range;intro c b a d;exact a (by omega)
theorem KP(i:Nat)(a:i<99):qr[i]?=some ((i:Int)+1):=by simp[qr,a]
def qI(g:Int×Int->Bool)(x:Int):List Int:=qr.filter λy=>g (iQ x y)
def AB(g:Int×Int->Bool):Prop:=∀k,g k=true->1<=k.1/\k.1<k.2/\k.2<=99
theorem jk{g:Int×Int->Bool}{x y:Int}:y∈qI g x ↔ (1<=y/\y<=99)/\g (iQ x y)=true:=by
 rw[qI,List.mem_filter,BF]
theorem oV(g:Int×Int->Bool)(x:Int):(qI g x).Nodup:=DY.sublist List.filter_sublist
theorem vF(g:Int×Int->Bool)(x:Int):(qI g x).length<=99:=by
 have:=List.length_filter_le (λa=>g (iQ x a)) qr;rw[ov]at this;exact this
theorem gN(x y:Int):iQ x y=(x,y)/\x<=y\/iQ x y=(y,x)/\y<=x:=by
 rcases Int.le_total x y with a|a
 ·exact ah ⟨by simp[iQ,Int.min_eq_left a,Int.max_eq_right a],a⟩
 ·exact ai ⟨by simp[iQ,Int.min_eq_right a,Int.max_eq_left a],a⟩
theorem G7{g:Int×Int->Bool}(c:AB g){x y:Int}(b:g (iQ x y)=true):(1<=x/\x<=99)/\(1<=y/\y<=99)/\x≠y:=by
 have:=c _ b;rcases gN x y with⟨a,_⟩|⟨a,_⟩<;>(rw[a]at this;simp at this;omega)
theorem BN{g:Int×Int->Bool}(b:AB g)(x:Int):x∉qI g x:=λa=>(G7 b (jk.1 a).2).2.2 rfl
def wo(g:Int×Int->Bool)(l:List Int):Int×Int->Bool:=λk=>g k && !l.contains k.1 && !l.contains k.2
theorem sP{g:Int×Int->Bool}{l:List Int}{k:Int×Int}:wo g l k=true ↔ g k=true/\k.1∉l/\k.2∉l:=by
 simp[wo,and_assoc]
theorem NV{g:Int×Int->Bool}{l:List Int}{x y:Int}:wo g l (iQ x y)=true ↔ g (iQ x y)=true/\x∉l/\y∉l:=by
 rw[sP];rcases gN x y with⟨d,_⟩|⟨d,_⟩
 ·rw[d]
 ·rw[d];constructor
  ·rintro ⟨a,b,c⟩;exact⟨a,c,b⟩
  ·rintro ⟨a,b,c⟩;exact⟨a,c,b⟩
theorem AB.wo{g:Int×Int->Bool}(a:AB g)(l:List Int):AB (wo g l):=λk b=>a k (sP.1 b).1
theorem PM(g:Int×Int->Bool)(l r:List Int):wo (wo g l) r=wo g (l++r):=by
 funext k;rw[Bool.eq_iff_iff,sP,sP,sP];simp only[dp,not_or];constructor
 ·rintro ⟨⟨a,b,c⟩,d,e⟩;exact⟨a,⟨b,d⟩,c,e⟩
 ·rintro ⟨a,⟨b,d⟩,c,e⟩;exact⟨⟨a,b,c⟩,d,e⟩
def tH(g:Int×Int->Bool)(x:Int)(l:List Int):Int×Int->Bool:=l.foldl (λg y=>iE g (iQ x y) false) g
theorem A0{g:Int×Int->Bool}{x:Int}{l:List Int}{k:Int×Int}:tH g x l k=true ↔ g k=true/\∀y∈l,k≠iQ x y:=by
 induction l generalizing g with
 | nil=>simp[tH]
 | cons y l ih=>
  have b:tH g x (y::l)=tH (iE g (iQ x y) false) x l:=rfl;rw[b,ih];unfold iE;by_cases a:k=iQ x y
  ·simp[a]
  ·simp[a]
theorem Gm(g:Int×Int->Bool)(x:Int)(l:List Int)(y:Int):tH g x (l++ [y])=iE (tH g x l) (iQ x y) false:=by simp[tH]
theorem Mu{g:Int×Int->Bool}(i:AB g)(x:Int):tH g x (qI g x)=wo g [x]:=by
 funext k;rw[Bool.eq_iff_iff,A0,sP];refine and_congr_right λd=>?_;have l:=i k d;simp only[eF];constructor
 ·intro e;refine⟨λb=>?_,λb=>?_⟩
  ·have c:k=iQ x k.2:=by
     rcases gN x k.2 with⟨a,_⟩|⟨_,a⟩
     ·rw[a,<-b]
     ·omega
   exact e k.2 (jk.2 ⟨by omega,c▸d⟩) c
  ·have c:k=iQ x k.1:=by
     rcases gN x k.1 with⟨_,a⟩|⟨a,_⟩
     ·omega
     ·rw[a,<-b]
   exact e k.1 (jk.2 ⟨by omega,c▸d⟩) c
 ·rintro ⟨f,h⟩ j _ b;rcases gN x j with⟨a,_⟩|⟨a,_⟩
  ·exact f (by rw[b,a])
  ·exact h (by rw[b,a])
/-! ### who is told -/
def zy(t l:List Int):List Int:=l.filter λy=> !t.contains y
def de(g:Int×Int->Bool)(x:Int):Nat->List Int
 | 0=>qI g x
 | i+1=>match (de g x i)[i]? with
  | some y=>de g x i++zy (de g x i) (qI (wo g (x::(de g x i).take i)) y)
  | none=>de g x i
def tq(g:Int×Int->Bool)(x:Int):List Int:=de g x 99
theorem rq{t l:List Int}{y:Int}:y∈zy t l ↔ y∈l/\y∉t:=by simp[zy]
structure Told (g:Int×Int->Bool) (x:Int) (l:List Int):Prop where
 nodup:l.Nodup
 self:x∉l
 rng:∀y∈l,1<=y/\y<=99
 from':∀i y,l[i]?=some y->∃k∈x::l.take i,y∈qI g k
theorem zD{t l:List Int}(c:t.Nodup)(d:l.Nodup)(e:∀y∈l,y∉t):(t++l).Nodup:=by
 rw[fp];exact⟨c,d,λh f b g a=>e b g (a▸f)⟩
theorem th{l:List Int}{i:Nat}{y:Int}(c:l.Nodup)(g:l[i]?=some y):y∉l.take i:=by
 intro f;obtain⟨h,d,a⟩:=List.getElem_of_mem f;rw[dy]at d;rw[List.getElem_take]at a;obtain⟨e,b⟩:=aO.1 g;exact(List.pairwise_iff_getElem.1 c) h i (by omega) e (by omega) (a.trans b.symm)
theorem iU{g:Int×Int->Bool}(e:AB g)(x:Int):∀i,Told g x (de g x i)
 | 0=>⟨oV g x,BN e x,λy c=>(jk.1 c).1,λi y c=>⟨x,by simp,aH c⟩⟩
 | i+1=>by
  have ih:=iU e x i;unfold de;split
  ·rename_i y c;refine⟨zD ih.nodup ((oV _ _).sublist List.filter_sublist) λd b=>(rq.1 b).2,?_,?_,?_⟩
   ·intro a;rcases dp.1 a with a|a
    ·exact ih.self a
    ·have:=(NV.1 (jk.1 (rq.1 a).1).2).2.2;simp at this
   ·intro d b;rcases dp.1 b with a|a
    ·exact ih.rng d a
    ·exact(jk.1 (rq.1 a).1).1
   ·intro j d b;rw[List.getElem?_append]at b;split at b
    ·rename_i h;obtain⟨k,l,m⟩:=ih.from' j d b;refine⟨k,?_,m⟩;rw[gS (by omega)];exact l
    ·rename_i h;have f:=rq.1 (aH b);refine⟨y,?_,jk.2 ⟨(jk.1 f.1).1,(NV.1 (jk.1 f.1).2).1⟩⟩;refine bX _ ?_;rw[List.take_append];refine List.mem_append_left _ ?_;rw[bu (by omega)];exact aH c
  ·exact ih
theorem KD{l:List Int}(a:l.Nodup):∀{r:List Int},(∀y∈l,y∈r)->l.length<=r.length:=by
 induction l with
 | nil=>simp
 | cons y l ih=>
  intro r b;rw[mS]at a;have c:=b y (by simp);have:=ih a.2 (r:=r.erase y) λe d=>(List.mem_erase_of_ne (λf:e=y=>a.1 (f▸d))).2 (b e (by simp[d]));rw[List.length_erase_of_mem c]at this;have:=List.length_pos_of_mem c;simp;omega
theorem Told.le{g:Int×Int->Bool}{x:Int}{l:List Int}(a:Told g x l):l.length<=99:=by
 have:=KD a.nodup (r:=qr) λc b=>BF.2 (a.rng c b);rwa [ov]at this
theorem qC{g:Int×Int->Bool}{x:Int}{i:Nat}(a:(de g x i).length<=i):∀j,de g x (i+j)=de g x i
 | 0=>rfl
 | j+1=>by
  have ih:=qC a j;have:de g x (i+j+1)=de g x (i+j):=by
   rw[de];rw[eD (by rw[ih];omega)]
  rw[<-Nat.add_assoc,this,ih]
theorem IB{g:Int×Int->Bool}(e:AB g){x:Int}{i:Nat}(d:(de g x i).length<=i):de g x i=tq g x:=by
 unfold tq;rcases Nat.le_total i 99 with a|a
 ·obtain⟨b,c⟩:=Nat.le.dest a;rw[<-c,qC d b]
 ·obtain⟨b,rfl⟩:=Nat.le.dest a;exact qC ((iU e x 99).le) b
theorem Ew{g:Int×Int->Bool}(a:AB g)(x:Int):Told g x (tq g x):=iU a x 99
theorem M7{x y a v:Int}:iQ a v=iQ x y ↔ (a=x/\v=y)\/(a=y/\v=x):=by
 rcases gN x y with⟨b,d⟩|⟨b,d⟩<;>rcases gN a v with⟨c,e⟩|⟨c,e⟩<;>(rw[b,c];simp only[eG];omega)
theorem Hr(i:Nat)(a:i<99):qr.take (i+1)=qr.take i++ [(i:Int)+1]:=by
 rw[dq,KP i a];rfl
def rB(g:Int×Int->Bool)(x:Int)(i:Nat):List Int:=(qr.take i).filter λy=>g (iQ x y)
theorem G8(g:Int×Int->Bool)(x:Int)(i:Nat)(a:i<99):rB g x (i+1)=rB g x i++if g (iQ x ((i:Int)+1))then [(i:Int)+1]else []:=by
 rw[rB,Hr i a,List.filter_append,List.filter_cons,List.filter_nil];rfl
theorem KF(g:Int×Int->Bool)(x:Int):rB g x 99=qI g x:=by
 rw[rB,bu (by rw[ov];exact ak _)];rfl
theorem BO(g:Int×Int->Bool)(x:Int)(i:Nat):(rB g x i).length<=i:=by
 have:=List.length_filter_le (λa=>g (iQ x a)) (qr.take i);rw[dy]at this;unfold rB;omega
theorem G4(t l:List Int)(y:Int)(b:y∉l):zy t (l++ [y])=zy t l++if (t++zy t l).contains y then []else [y]:=by
 unfold zy;rw[List.filter_append,List.filter_cons,List.filter_nil];have a:(t++l.filter λy=> !t.contains y).contains y=t.contains y:=by
  rw[Bool.eq_iff_iff];simp[b]
 rw[a];cases t.contains y<;>rfl
structure SM (base mb n:Nat) (g:Int×Int->Bool) (w:World):Prop where
 lo:base<=mb
 map:∃D:DataW Value,w.ownsMap Tryz.prog 198 unitElem mb n D/\∀k,I2 k->has D (kl k)=g k
variable {base mb n:Nat} {g:Int×Int->Bool} {w:World}
theorem SM.lt(a:SM base mb n g w):base<=mb/\mb<w.heap.size:=by
 obtain⟨c,b,_⟩:=a.map;exact⟨a.lo,b.lt⟩
theorem SM.kee{S:Nat->Prop}{w':World}(a:SM base mb n g w)(k:br S w w')(f:¬S mb):SM base mb n g w':=by
 obtain⟨c,b,e⟩:=a.map;refine⟨a.lo,c,?_,e⟩;have i:=b.lt;obtain⟨es,d,h,j⟩:=b;exact⟨es,d,(k.block mb i f).trans h,j⟩
theorem SM.later{w':World}(a:SM base mb n g w)(k:aj w w'):SM base mb n g w':=a.kee (aJ k λ_=>False) id
theorem SM.rebase{a:Nat}(b:SM base mb n g w)(c:a<=base):SM a mb n g w:=⟨az c b.lo,b.map⟩
theorem SM.mono(b:SM base mb n g w){m:Nat}(f:n<=m):SM base mb m g w:=by
 obtain⟨c,a,d,e⟩:=b;exact⟨c,a,d.mono f,e⟩
theorem SM.new(w:World):SM w.heap.size w.heap.size 0 (λ_=>false) (w.alloc (.map #[] 0)):=
 ⟨ak _,.map [],py w _ _ _,λk _=>by simp[has]⟩
theorem CP(w:World):(zeroValue 253).run Tryz.prog w=.ok (.agg #[]) w:=by kernel_rfl
theorem SM.look(b:SM base mb n g w){k:Int×Int}(a:I2 k):(Instr.lookup 90 (.map (some mb)) (pk k) true).run Tryz.prog w=.ok (.tuple #[.agg #[],.bool (g k)]) w:=by
 obtain⟨h,c,d⟩:=b.map;obtain⟨i,ps,e,f⟩:=c.look_ok fh underlying90 (CP w) unitElem_mk (fL a);obtain⟨rfl,_⟩:=unitElem_inv f;rw[e,d k a]
theorem Eh(w:World){k:Int×Int}(b:I2 k):(Instr.lookup 90 (.map none) (pk k) true).run Tryz.prog w=.ok (.tuple #[.agg #[],.bool false]) w:=by
 have a:=look_nil (P:=Tryz.prog) (w:=w) true fh underlying90 (CP w) (fL b);simpa using a
theorem SM.put(d:SM base mb n g w){k:Int×Int}(c:I2 k)(s:n<1000000):∃w2,(Instr.mapUpdate 90 (.map (some mb)) (pk k) (.agg #[])).run Tryz.prog w=.ok () w2/\SM base mb (n+1) (iE g k true) w2/\br (λb=>b=mb) w w2/\w2.heap.size=w.heap.size:=by
 obtain⟨r,e,j⟩:=d.map;obtain⟨w2,o,m,q⟩:=e.store fh underlying90 (by unfold maxLen;omega) (fL c) unitElem_mk;obtain⟨l,p⟩:=iV q;refine⟨w2,o,⟨d.lo,_,m,λh f=>?_⟩,l,p⟩;by_cases a:h=k
 ·rw[a,cJ,has_put_same e.isMap (fh.key (fL c))]
 ·rw[bT _ _ a,has_put_other λi=>a (qk f c i)];exact j h f
theorem SM.drop(c:SM base mb n g w){k:Int×Int}(e:I2 k)(ty:TypeId):∃w2,(Builtin.delete_ #[90,198] ty #[.map (some mb),pk k]).run Tryz.prog w=.ok (.tuple #[]) w2/\SM base mb n (iE g k false) w2/\br (λb=>b=mb) w w2/\w2.heap.size=w.heap.size:=by
 obtain⟨r,i,j⟩:=c.map;obtain⟨w2,o,m,q⟩:=i.drop fh underlying90 (fL e) ty;obtain⟨l,p⟩:=iV q;refine⟨w2,o,⟨c.lo,_,m,λf d=>?_⟩,l,p⟩;by_cases a:f=k
 ·rw[a,cJ,has_del_same]
 ·rw[bT _ _ a,has_del_other λh=>a (qk d e h)];exact j f d
/-! ### rows of numbers -/
def jJ(l:List Int):List Value:=l.map (Value.int .i64)
theorem lE(l:List Int)(k:Int):jJ (l++ [k])=jJ l++ [ab k]:=by simp[jJ]
def iC(base:Nat)(v:Value)(l:List Int)(w:World):Prop:=w.ownsRow base 3 1 v l.length (jJ l)
def tC(v:Value)(l:List Int)(w:World):Prop:=∃a c,v=ae a l.length c/\(l=[]\/∃g o,a=some ⟨g,o,none⟩/\g<w.heap.size/\∀(i:Nat)(k:Int),l[i]?=some k->w.cell? ⟨g,o+i,none⟩=some (ab k))
theorem iC.row{v:Value}{l:List Int}(c:iC base v l w):tC v l w:=by
 have d:=c;rcases c.2 with⟨rfl,b⟩|⟨g,cap,i,rfl,_,e,_⟩
 ·exact⟨none,0,by rw[b],ah (bF b)⟩
 ·refine⟨some ⟨g,0,none⟩,cap,rfl,ai ⟨g,0,rfl,(aF.1 e).1,λh k f=>?_⟩⟩;have a:=d.cells (g:=g) rfl h (ab k) (by simp[jJ,f]);rw[eU,dc]at a;rw[dc];exact a
theorem iC.nil(base:Nat)(w:World):iC base (ae none 0 0) [] w:=⟨rfl,ah ⟨rfl,rfl⟩⟩
theorem iC.later{v:Value}{l:List Int}{w':World}(a:iC base v l w)(k:aj w w'):iC base v l w':=bi a (aJ k λ_=>False) λ_ _ a=>a
theorem tC.later{v:Value}{l:List Int}{w':World}(a:tC v l w)(k:aj w w'):tC v l w':=by
 obtain⟨f,c,b,a⟩:=a;refine⟨f,c,b,?_⟩;rcases a with a|⟨g,o,b,d,a⟩
 ·exact ah a
 ·exact ai ⟨g,o,b,aR d k.size,λe i h=>(k.cell (p:=⟨g,o+e,none⟩) d).trans (a e i h)⟩
def nP(a:Int):Bool:=decide (1<=a) && decide (a<=99)
theorem lZ(a:Int)(w:World):am 160 #[ab a] w λe w'=>e=.returned (.bool (nP a))/\w'=w:=by
 go_enter func160,ntmps160;by_cases b:1<=a
 ·go_wp2_with fail
  go_ret
  exact⟨bS (by simp[nP,b]),rfl⟩
 ·go_wp2_with fail
  go_ret
  exact⟨bS (by simp[nP];omega),rfl⟩
theorem oL(x y:Int)(w:World):am 155 #[ab x,ab y] w λe w'=>e=.returned (.agg #[ab (iQ x y).1,ab (iQ x y).2])/\aj w w':=by
 go_enter func155,ntmps155;go_wp2_with fail
 all_goals
  exact av (v:=.agg #[ab (iQ x y).1,ab (iQ x y).2]) (by simp[results,results155,go_sem,iQ]<;>omega) rfl ⟨rfl,(ap _ _).alloc (ak _) _⟩
theorem jX{base e sz n:Nat}{v:Value}{xs:List Value}{w d:World}{o:Obj}(f:w.ownsRow base e sz v n xs)(c:(w.alloc o).grownBy d v.ownBlock)(g:base<=w.heap.size):Below base w d:=by
 have a:Below base w (w.alloc o):=(ap _ _).alloc g _;refine⟨c.os.trans a.os,c.tape.trans a.tape,c.output.trans a.output,az a.size c.size,λb h=>(c.block b (by simp;omega) λe=>?_).trans (a.block b h)⟩;have:=(f.lt b e.symm).1;omega
theorem zI{x y:Int}(b:dt x)(c:dt y):I2 (iQ x y):=by
 rcases gN x y with⟨a,_⟩|⟨a,_⟩<;>rw[a]
 ·exact⟨b,c⟩
 ·exact⟨c,b⟩
theorem Pz(b:Nat)(a:b<=1000):dt (b:Int):=by unfold dt;omega
theorem Js(g:Int×Int->Bool)(i:BL)(R:Option Nat)(x:Int)(w:World)(ai:i.b<w.heap.size)(ax:Hid (dt x))(af:Hid (w.cell? ⟨i.b,i.o,none⟩=some (.map R)))(s:Hid (∀k,I2 k->∀W,aj w W->(Instr.lookup 90 (.map R) (pk k) true).run Tryz.prog W=.ok (.tuple #[.agg #[],.bool (g k)]) W)):am 154 #[.pointer (some ⟨i.b,i.o,none⟩),ab x] w λe w'=>∃v,e=.returned v/\Hid (iC w.heap.size v (qI g x) w'/\aj w w'):=by
 obtain⟨C,al,ar,au,av⟩:=bP Fl;have l:Hid (Tryz.prog.info? 3=some C/\C.zero=some (ab 0)/\C.size=1/\C.bytes=8):=⟨al,ar,au,av⟩;clear al ar au av;go_enter func154,ntmps154;go_wp2_with fail;go_loopw [5,6] (λv ad wr=>∃(b:Nat),1<=b/\b<=100/\ad=ab b/\(∃q d c,v=ae q d c/\d<=99/\Hid ((rB g x (b-1)).length=d/\wr.ownsRow w.heap.size 3 1 (ae q d c) d (jJ (rB g x (b-1)))/\aj w wr))) (λ_ ad _=>100-(intOf ad).toNat)
 case atStart=>exact⟨1,by omega,by omega,rfl,none,0,0,rfl,by omega,rfl,⟨rfl,ah ⟨rfl,rfl⟩⟩,ap _ _⟩
 case round=>
  obtain⟨b,aD,F,rfl,q,d,c,rfl,Y,a⟩:=hrel;by_cases aB:b<=99
  ·have aC:(b:Int)<=99:=by omega
   have X:wr.cell? ⟨i.b,i.o,none⟩=some (.map R):=(a.2.2.cell (p:=⟨i.b,i.o,none⟩) ai).trans af;have ag:Hid (I2 (iQ x b)):=zI ax (Pz b (by omega));have j:Hid (rB g x b=rB g x (b-1)++if g (iQ x b)then [(b:Int)]else []):=by
    have y:=G8 g x (b-1) (by omega);have ay:b-1+1=b:=by omega
    have az:((b-1:Nat):Int)+1=(b:Int):=by omega
    rw[ay,az]at y;exact y
   have O:=λW Z=>s (iQ x b) ag W (a.2.2.trans (Below.mono Z a.2.2.size));have aa:=λW=>oL x b W;obtain⟨t,ao⟩:∃t,t=g (iQ x b):=⟨_,rfl⟩;rw[<-ao]at O j;have V:=aq (show d<=b-1 by have:=BO g x (b-1);have:=a.1;omega);unfold pk at O;obtain⟨⟨aF,aG⟩,aA⟩:∃p,p=iQ x b:=⟨_,rfl⟩;rw[<-aA]at O aa;have J:=aq aa;replace s:=aq O;have B:Hid (∀W,aj wr W->W.cell? ⟨i.b,i.o,none⟩=some (.map R)):=λW Z=>((a.2.2.trans (Below.mono Z a.2.2.size)).cell (p:=⟨i.b,i.o,none⟩) ai).trans af;have D:Hid (aj wr wr.drew):=(ap _ _).drew;have E:Hid (∀o:Obj,aj wr (wr.alloc o).drew):=λo=>((ap _ _).alloc (ak _) o).drew;clear ao O aa ag;go_wp2_with fail
   go_region_held3 (λW=>W.cell? ⟨i.b,i.o,none⟩=some (.map R)) (first|(go_keep;done)|exact B _ D|exact B _ (E _)|exact B _ (f.alloc f.size _)|exact B _ f) ((first
    | (go_at_call 155;refine(J _).mono ?_;rintro e G ⟨rfl,F⟩;have f:=aq (D.trans (F.mono D.size));have U:=s _ f;have an:=s _ (f.alloc f.size (.cells #[] 253));clear F)
    | (go_at_call 155;refine(J _).mono ?_;rintro e G ⟨rfl,F⟩;have f:=aq ((E _).trans (F.mono (E _).size));have U:=s _ f;clear F)))
   ·obtain⟨h,r⟩:∃h,h=G.alloc (.cells #[] 253):=⟨_,rfl⟩;rw[<-r];have n:Hid (aj wr h):=by rw[r];exact f.alloc f.size _
    obtain⟨S,Q⟩:∃S,S=G.heap.size:=⟨_,rfl⟩;rw[<-Q];clear r an Q;have HB:=aq (a.2.2.trans (n.mono a.2.2.size));have m:=aq (bi a.2.1 (aJ n λ_=>False) λ_ _ y=>y);have u:=aq a.1;have K:=aq HB.size;clear a f n s J B D E U X;cases t
    ·go_wp2_with fail;go_roundw
     case rel=>exact⟨b+1,by omega,by omega,by go_num,q,d,c,rfl,Y,by rw[eY,j.out];simpa using u.out,by rw[eY,j.out];simpa using m.out,HB.out⟩
     case measure=>simp[intOf];omega
    ·go_wp2_with (first
       | (at_builtin;refine wpList_append_lies _ rfl _ _ 57 rfl w.heap.size 3 C _ 1 8 underlying57 l.1 l.2.1 l.2.2.1 l.2.2.2 rfl (by decide) (ae q d c) d (jJ (rB g x (b-1))) rfl (m.alloc _) ⟨h.heap.size,0,none⟩ 1 1 [ab b] rfl rfl (World.news_of_block (cs:= #[ab b]) (t:=3) (fr:=(0,0)) (aE h _)) (by simp[Value.oneCell']) (by decide) (by unfold maxLen;omega) (by omega) (by have:=K.out;simp;omega) _ rfl ?_;intro M L aw A z N P;have I:=aq A;have H:=aq (HB.trans (jX m z HB.size));clear A z N P))
     go_roundw
     case rel=>
      refine⟨b+1,by omega,by omega,by go_num,some ⟨M,0,none⟩,d+1,L,rfl,by have:=V.out;omega,?_,?_,H⟩
      ·rw[eY,j.out];simpa using u.out
      ·rw[eY,j.out,if_pos rfl,lE];exact I
     case measure=>simp[intOf];omega
   ·obtain⟨h,r⟩:∃h,h=G.alloc (.cells #[] 253):=⟨_,rfl⟩;rw[<-r];have n:Hid (aj wr h):=by rw[r];exact f.alloc f.size _
    obtain⟨S,Q⟩:∃S,S=G.heap.size:=⟨_,rfl⟩;rw[<-Q];clear r Q;have HB:=aq (a.2.2.trans (n.mono a.2.2.size));have m:=aq (bi a.2.1 (aJ n λ_=>False) λ_ _ y=>y);have u:=aq a.1;have K:=aq HB.size;clear a f n s J B D E U an X;cases t
    ·go_wp2_with fail;go_roundw
     case rel=>exact⟨b+1,by omega,by omega,by go_num,q,d,c,rfl,Y,by rw[eY,j.out];simpa using u.out,by rw[eY,j.out];simpa using m.out,HB.out⟩
     case measure=>simp[intOf];omega
    ·go_wp2_with (first
       | (at_builtin;refine wpList_append_lies _ rfl _ _ 57 rfl w.heap.size 3 C _ 1 8 underlying57 l.1 l.2.1 l.2.2.1 l.2.2.2 rfl (by decide) (ae q d c) d (jJ (rB g x (b-1))) rfl (m.alloc _) ⟨h.heap.size,0,none⟩ 1 1 [ab b] rfl rfl (World.news_of_block (cs:= #[ab b]) (t:=3) (fr:=(0,0)) (aE h _)) (by simp[Value.oneCell']) (by decide) (by unfold maxLen;omega) (by omega) (by have:=K.out;simp;omega) _ rfl ?_;intro M L aw A z N P;have I:=aq A;have H:=aq (HB.trans (jX m z HB.size));clear A z N P))
     go_roundw
     case rel=>
      refine⟨b+1,by omega,by omega,by go_num,some ⟨M,0,none⟩,d+1,L,rfl,by have:=V.out;omega,?_,?_,H⟩
      ·rw[eY,j.out];simpa using u.out
      ·rw[eY,j.out,if_pos rfl,lE];exact I
     case measure=>simp[intOf];omega
   ·obtain⟨h,r⟩:∃h,h=G:=⟨_,rfl⟩;subst r;have n:=aq f.out;have HB:=aq (a.2.2.trans (n.mono a.2.2.size));have m:=aq (bi a.2.1 (aJ n λ_=>False) λ_ _ y=>y);have u:=aq a.1;have K:=aq HB.size;clear a f n s J B D E U X;cases t
    ·go_wp2_with fail;go_roundw
     case rel=>exact⟨b+1,by omega,by omega,by go_num,q,d,c,rfl,Y,by rw[eY,j.out];simpa using u.out,by rw[eY,j.out];simpa using m.out,HB.out⟩
     case measure=>simp[intOf];omega
    ·go_wp2_with (first
       | (at_builtin;refine wpList_append_lies _ rfl _ _ 57 rfl w.heap.size 3 C _ 1 8 underlying57 l.1 l.2.1 l.2.2.1 l.2.2.2 rfl (by decide) (ae q d c) d (jJ (rB g x (b-1))) rfl (m.alloc _) ⟨h.heap.size,0,none⟩ 1 1 [ab b] rfl rfl (World.news_of_block (cs:= #[ab b]) (t:=3) (fr:=(0,0)) (aE h _)) (by simp[Value.oneCell']) (by decide) (by unfold maxLen;omega) (by omega) (by have:=K.out;simp;omega) _ rfl ?_;intro M L aw A z N P;have I:=aq A;have H:=aq (HB.trans (jX m z HB.size));clear A z N P))
     go_roundw
     case rel=>
      refine⟨b+1,by omega,by omega,by go_num,some ⟨M,0,none⟩,d+1,L,rfl,by have:=V.out;omega,?_,?_,H⟩
      ·rw[eY,j.out];simpa using u.out
      ·rw[eY,j.out,if_pos rfl,lE];exact I
     case measure=>simp[intOf];omega
  ·obtain rfl:b=100:=by omega
   have T:=a.out;go_wp2_with fail
   go_ret
   refine⟨_,rfl,?_,T.2.2⟩;have e:=KF g x;rw[show 100-1=99 from rfl]at T;rw[<-e];unfold iC;rw[T.1];exact T.2.1
def eL(base:Nat)(c:BL)(a:Option Nat)(n:Nat)(g:Int×Int->Bool)(w:World):Prop:=
 base<=c.b/\tB c a w/\((a=none/\g=λ_=>false)\/∃mb,a=some mb/\SM base mb n g w)
def Me(a:BL)(c:Option Nat)(b:Nat):Prop:=b=a.b\/c=some b
variable {base n:Nat} {bp:BL} {mo:Option Nat} {g:Int×Int->Bool} {w:World}
theorem eL.lt(d:eL base bp mo n g w)(b:Nat)(a:Me bp mo b):base<=b/\b<w.heap.size:=by
 rcases a with rfl|a
 ·exact⟨d.1,d.2.1.lt⟩
 ·rcases d.2.2 with⟨c,_⟩|⟨mb,c,e⟩
  ·rw[c]at a;cases a
  ·rw[c]at a;injection a with a;subst a;exact e.lt
theorem eL.kee{S:Nat->Prop}{w':World}(c:eL base bp mo n g w)(k:br S w w')(d:∀b,Me bp mo b->¬S b):eL base bp mo n g w':=by
 refine⟨c.1,c.2.1.kept (k.block bp.b (c.lt bp.b (ah rfl)).2 (d bp.b (ah rfl))),?_⟩;rcases c.2.2 with a|⟨mb,a,e⟩
 ·exact ah a
 ·exact ai ⟨mb,a,e.kee k (d mb (ai a))⟩
theorem eL.later{w':World}(a:eL base bp mo n g w)(k:aj w w'):eL base bp mo n g w':=a.kee (aJ k λ_=>False) λ_ _ a=>a
theorem eL.cell(a:eL base bp mo n g w):w.cell? ⟨bp.b,bp.o,none⟩=some (.map mo)/\w.frozen? ⟨bp.b,bp.o,none⟩=false:=⟨a.2.1.cell.1,a.2.1.cell.2 _⟩
theorem eL.look(b:eL base bp mo n g w){k:Int×Int}(a:I2 k):(Instr.lookup 90 (.map mo) (pk k) true).run Tryz.prog w=.ok (.tuple #[.agg #[],.bool (g k)]) w:=by
 rcases b.2.2 with⟨rfl,rfl⟩|⟨mb,rfl,c⟩
 ·exact Eh w a
 ·exact c.look a
theorem eL.ne{mb:Nat}(c:eL base bp (some mb) n g w):bp.b≠mb:=by
 intro e;rcases c.2.2 with⟨a,_⟩|⟨j,a,f⟩
 ·cases a
 ·injection a with a;subst a e;obtain⟨h,⟨es,i,d,_⟩,_⟩:=f.map;rw[c.2.1.2]at d;cases d
theorem Mi(a:eL base bp mo n g w){x:Int}(f:dt x):am 154 #[.pointer (some ⟨bp.b,bp.o,none⟩),ab x] w λe w'=>∃v,e=.returned v/\Hid (iC w.heap.size v (qI g x) w'/\aj w w'):=
 Js g bp mo x w (a.lt bp.b (ah rfl)).2 f a.cell.1 λ_ d _ c=>(a.later c).look d
theorem Mk(mb:Nat)(W:World):(binOp .eql 90 (.map (some mb)) (.map none)).run Tryz.prog W=.ok (.bool false) W:=by kernel_rfl
theorem Mj(W:World):(binOp .eql 90 (.map none) (.map none)).run Tryz.prog W=.ok (.bool true) W:=by kernel_rfl
theorem Jq(bp:BL)(mb:Nat)(x y:Int)(w:World)(g:World->Prop)(v:bp.b<w.heap.size)(i:Hid (w.cell? ⟨bp.b,bp.o,none⟩=some (.map (some mb))))(l:Hid (nP x=true/\nP y=true))(C:x≠y)(k:Hid (∀W,aj w W->∃w2,(Instr.mapUpdate 90 (.map (some mb)) (.agg #[ab (iQ x y).1,ab (iQ x y).2]) (.agg #[])).run Tryz.prog W=.ok () w2/\w2.cell? ⟨bp.b,bp.o,none⟩=some (.map (some mb))/\Hid (g w2))):am 126 #[.pointer (some ⟨bp.b,bp.o,none⟩),ab x,ab y] w λe w'=>e=.returned (ab 0)/\g w':=by
 have B:=i.out;have c:=λW=>lZ x W;have d:=λW=>lZ y W;have D:=Mk mb;rw[l.out.1]at c;rw[l.out.2]at d;have n:=aq c;have q:=aq d;clear c d;have f:=λW=>oL x y W;obtain⟨⟨F,G⟩,A⟩:∃p,p=iQ x y:=⟨_,rfl⟩;rw[<-A]at f k;have t:=aq f;clear f;have j:Hid (∀W,aj w W->W.cell? ⟨bp.b,bp.o,none⟩=some (.map (some mb))):=λW u=>(u.cell (p:=⟨bp.b,bp.o,none⟩) v).trans i;have a:Hid (aj w w.drew):=(ap _ _).drew;go_enter func126,ntmps126;go_wp2_with fail;refine(n _).mono ?_;rintro e H ⟨rfl,rfl⟩;go_wp2_with fail;refine(q _).mono ?_;rintro e w2 ⟨rfl,rfl⟩;go_wp2_with fail
 go_region_held3 (λW=>W.cell? ⟨bp.b,bp.o,none⟩=some (.map (some mb))) (first|(go_keep;done)|exact j _ a|exact j _ h|exact r) ((first
       | (go_at_call 155;refine(t _).mono ?_;rintro e I ⟨rfl,m⟩;have h:=aq (a.trans (m.mono a.size));obtain⟨J,E,z,s⟩:=k _ h;have r:=aq z;clear m)))
 go_wp2_with fail
 go_ret
 exact⟨rfl,s⟩
theorem Gb(bp:BL)(x y:Int)(w w0:World)(g:World->Prop)(F:bp.b<w.heap.size)(s:Hid (w.cell? ⟨bp.b,bp.o,none⟩=some (.map none)/\w.frozen? ⟨bp.b,bp.o,none⟩=false))(l:Hid (nP x=true/\nP y=true))(H:x≠y)(n:w0=(w.setCell ⟨bp.b,bp.o,none⟩ (.map (some w.heap.size))).alloc (.map #[] 0))(i:Hid (w0.cell? ⟨bp.b,bp.o,none⟩=some (.map (some w.heap.size))))(B:bp.b<w0.heap.size)(k:Hid (∀W,aj w0 W->∃w2,(Instr.mapUpdate 90 (.map (some w.heap.size)) (.agg #[ab (iQ x y).1,ab (iQ x y).2]) (.agg #[])).run Tryz.prog W=.ok () w2/\w2.cell? ⟨bp.b,bp.o,none⟩=some (.map (some w.heap.size))/\Hid (g w2))):am 126 #[.pointer (some ⟨bp.b,bp.o,none⟩),ab x,ab y] w λe w'=>e=.returned (ab 0)/\g w':=by
 obtain⟨E,f0⟩:=s;have c:=λW=>lZ x W;have d:=λW=>lZ y W;have I:=Mj;have G:= @run_makeMap Tryz.prog;rw[l.out.1]at c;rw[l.out.2]at d;have q:=aq c;have r:=aq d;clear c d;have f:=λW=>oL x y W;obtain⟨⟨K,L⟩,D⟩:∃p,p=iQ x y:=⟨_,rfl⟩;rw[<-D]at f k;have v:=aq f;have z:=aq n;clear f n;have j:Hid (∀W,aj w0 W->W.cell? ⟨bp.b,bp.o,none⟩=some (.map (some w.heap.size))):=λW A=>(A.cell (p:=⟨bp.b,bp.o,none⟩) B).trans i;have a:Hid (aj w0 w0.drew):=(ap _ _).drew;go_enter func126,ntmps126;go_wp2_with fail;refine(q _).mono ?_;rintro e M ⟨rfl,rfl⟩;go_wp2_with fail;refine(r _).mono ?_;rintro e w2 ⟨rfl,rfl⟩;go_wp2_with fail;rw[<-z.out];have d0:=i.out
 go_region_held3 (λW=>W.cell? ⟨bp.b,bp.o,none⟩=some (.map (some w2.heap.size))) (first|(go_keep;done)|exact j _ a|exact j _ h|exact t) ((first
       | (go_at_call 155;refine(v _).mono ?_;rintro e N ⟨rfl,m⟩;have h:=aq (a.trans (m.mono a.size));obtain⟨O,J,C,u⟩:=k _ h;have t:=aq C;clear m)))
 go_wp2_with fail
 go_ret
 exact⟨rfl,u⟩
theorem Ga(bp:BL)(x y:Int)(w:World)(a:nP x=false\/nP y=false\/x=y):am 126 #[.pointer (some ⟨bp.b,bp.o,none⟩),ab x,ab y] w λe w'=>e=.returned (ab 1)/\w'=w:=by
 have f:=λc=>lZ x c;have g:=λc=>lZ y c;obtain⟨d,h⟩:∃d,d=nP x:=⟨_,rfl⟩;obtain⟨b,i⟩:∃b,b=nP y:=⟨_,rfl⟩;rw[<-h]at f a;rw[<-i]at g a;have k:=aq f;have l:=aq g;have m:=aq a;clear f g h i a;go_enter func126,ntmps126;go_wp2_with fail;refine(k _).mono ?_;rintro e p ⟨rfl,rfl⟩;cases d
 ·go_wp2_with fail
  go_ret
  exact⟨rfl,rfl⟩
 ·go_wp2_with fail;refine(l _).mono ?_;rintro e q ⟨rfl,rfl⟩;cases b
  ·go_wp2_with fail
   go_ret
   exact⟨rfl,rfl⟩
  ·have j:x=y:=by simpa using m.out
   have n:=aq j;subst j;go_wp2_with fail
   go_ret
   exact⟨rfl,rfl⟩
variable {base n:Nat} {bp:BL} {mo:Option Nat} {g:Int×Int->Bool} {w:World}
def vv(x y:Int):Int:=if nP x=true/\nP y=true/\x≠y then 0 else 1
def N2(base:Nat)(bp:BL)(mo:Option Nat)(n:Nat)(g:Int×Int->Bool)(w w':World):Prop:=
 ∃a,eL base bp a n g w'/\br (Me bp mo) w w'/\∀b,Me bp a b->Me bp mo b\/w.heap.size<=b
theorem eL.mono(b:eL base bp mo n g w){m:Nat}(c:n<=m):eL base bp mo m g w:=by
 refine⟨b.1,b.2.1,?_⟩;rcases b.2.2 with a|⟨mb,a,d⟩
 ·exact ah a
 ·exact ai ⟨mb,a,d.mono c⟩
theorem F9(a:eL base bp mo n g w){x y:Int}(z:dt x)(A:dt y)(v:n<1000000):am 126 #[.pointer (some ⟨bp.b,bp.o,none⟩),ab x,ab y] w λe w'=>e=.returned (ab (vv x y))/\Hid (N2 base bp mo (n+1) (if vv x y=0 then iE g (iQ x y) true else g) w w'):=by
 have q:=a.lt bp.b (ah rfl);by_cases f:nP x=true/\nP y=true/\x≠y
 ·have p:vv x y=0:=if_pos f;rw[p,if_pos rfl];rcases a.2.2 with⟨rfl,rfl⟩|⟨mb,rfl,D⟩
  ·obtain⟨h,l⟩:∃h,h=(w.setCell ⟨bp.b,bp.o,none⟩ (.map (some w.heap.size))).alloc (.map #[] 0):=⟨_,rfl⟩;have G:br (λb=>b=bp.b) w (w.setCell ⟨bp.b,bp.o,none⟩ (.map (some w.heap.size))):=bD w bp.b bp.o _;have s:(w.setCell ⟨bp.b,bp.o,none⟩ (.map (some w.heap.size))).heap.size=w.heap.size:=by simp[World.setCell]
   have F:br (λb=>b=bp.b) w h:=by
    rw[l];exact br.trans G (aJ ((ap _ _).alloc (ak _) _) λ_=>False) λ_ _ a=>a.elim
   have t:tB bp (some w.heap.size) h:=by
    rw[l];exact(a.2.1.set).kept (((ap _ _).alloc (ak _) _).block bp.b (by rw[s];exact q.2))
   have H:h.heap.size=w.heap.size+1:=by rw[l,iy,s]
   have C:SM base w.heap.size n (λ_=>false) h:=by
    have u:=SM.new (w.setCell ⟨bp.b,bp.o,none⟩ (.map (some w.heap.size)));rw[s,<-l]at u;exact(u.rebase (by omega)).mono (aI _)
   refine(Gb bp x y w h (λw'=>N2 base bp none (n+1) (iE (λ_=>false) (iQ x y) true) w w') q.2 a.cell ⟨f.1,f.2.1⟩ f.2.2 l t.cell.1 (by omega) ?_).mono λe w' a=>⟨a.1,a.2⟩;intro B d;obtain⟨m,r,i,k,E⟩:=(C.later d).put (zI z A) v;have j:tB bp (some w.heap.size) m:=(t.kept (d.block bp.b (by omega))).kept (k.block bp.b (by have:=d.size;omega) (by omega));refine⟨m,r,j.cell.1,some w.heap.size,⟨a.1,j,ai ⟨_,rfl,i⟩⟩,?_,λb c=>?_⟩
   ·refine br.trans (br.trans (F.mono λb _ e=>ah e) (aJ d λ_=>False) λ_ _ a=>a.elim) k λb c e=>?_;omega
   ·rcases c with c|c
    ·exact ah (ah c)
    ·injection c with c;exact ai (by omega)
  ·refine(Jq bp mb x y w (λw'=>N2 base bp (some mb) (n+1) (iE g (iQ x y) true) w w') q.2 a.cell.1 ⟨f.1,f.2.1⟩ f.2.2 ?_).mono λe w' a=>⟨a.1,a.2⟩;intro B d;obtain⟨m,r,i,k,E⟩:=(D.later d).put (zI z A) v;have j:tB bp (some mb) m:=(a.2.1.kept (d.block bp.b (by omega))).kept (k.block bp.b (by have:=d.size;omega) a.ne);refine⟨m,r,j.cell.1,some mb,⟨a.1,j,ai ⟨_,rfl,i⟩⟩,?_,λb c=>ah c⟩;exact br.trans (aJ d _) k λb _ e=>ai (by rw[e])
 ·have p:vv x y=1:=if_neg f;rw[p,if_neg (by decide)];refine(Ga bp x y w ?_).mono ?_
  ·cases h1:nP x
   ·exact ah rfl
   ·cases i:nP y
    ·exact ai (ah rfl)
    ·refine ai (ai ?_);by_cases e:x=y
     ·exact e
     ·exact absurd ⟨h1,i,e⟩ f
  ·rintro e w' ⟨rfl,rfl⟩;exact⟨rfl,mo,a.mono (fQ n),br.refl _ _,λb c=>ah c⟩
theorem Du(a:Option Addr)(c:Nat)(l:List Int)(L:Nat)(y:Int)(w:World)(x:L<=1000000)(n:Hid (l.length=L))(q:Hid (∀(i:Nat)(k:Int),l[i]?=some k->∃g o,a=some ⟨g,o,none⟩/\w.cell? ⟨g,o+i,none⟩=some (ab k))):am 156 #[ae a L c,ab y] w λe w'=>∃r:Int,e=.returned (ab r)/\w'=w/\Hid (decide (0<=r)=l.contains y):=by
 go_enter func156,ntmps156;go_wp2_with fail;go_loopw [8] (λi wr=>∃b:Nat,b<=L/\i=ab b/\wr=w/\Hid (y∉l.take b)) (λi _=>L-(intOf i).toNat)
 case atStart=>exact⟨0,aI _,rfl,rfl,by simp[Hid]⟩
 case round=>
  obtain⟨b,u,rfl,rfl,p⟩:=hrel;by_cases s:b<L
  ·obtain⟨k,j⟩:∃k,l[b]?=some k:=⟨l[b]'(by rw[n.out];exact s),aG _⟩;obtain⟨g,o,rfl,t⟩:=q b k j;have m:=aq j;clear j;have z:(0:Int)<=(b:Int):=by omega
   have A:(b:Int)<(L:Int):=by omega
   by_cases h:y=k
   ·have f:Hid (l.contains y=true):=by
      rw[h];exact List.contains_iff_mem.2 (aH m)
    subst h;go_wp2_with fail
    go_ret
    exact⟨(b:Int),rfl,rfl,by rw[f.out];simp[Hid]⟩
   ·have f:Hid (y∉l.take (b+1)):=by
      rw[dq,m.out];intro d;rcases dp.1 d with d|d
      ·exact p d
      ·exact h (by simpa using d)
    have v:¬k=y:=λe=>h e.symm;go_wp2_with fail;go_roundw
    case rel=>exact⟨b+1,by omega,by go_num,trivial,f⟩
    case measure=>simp[intOf];omega
  ·obtain rfl:b=L:=by omega
   have f:Hid (l.contains y=false):=by
    have d:=p.out;rw[bu (by rw[n.out];exact ak _)]at d;exact(show l.contains y=false by simpa using d)
   go_wp2_with fail
   go_ret
   exact⟨-1,rfl,rfl,by rw[f.out];simp[Hid]⟩
theorem tC.cells{v:Value}{l:List Int}(b:tC v l w):∃a c,v=ae a l.length c/\∀(i:Nat)(k:Int),l[i]?=some k->∃g o,a=some ⟨g,o,none⟩/\w.cell? ⟨g,o+i,none⟩=some (ab k):=by
 obtain⟨a,c,d,b⟩:=b;refine⟨a,c,d,λi k e=>?_⟩;rcases b with rfl|⟨g,o,d,_,b⟩
 ·simp at e
 ·exact⟨g,o,d,b i k e⟩
theorem vf(v:Value)(y:Int)(t:Bool)(w:World)(a:Hid (am 156 #[v,ab y] w λe w'=>∃r:Int,e=.returned (ab r)/\w'=w/\Hid (decide (0<=r)=t))):am 124 #[v,ab y] w λe w'=>e=.returned (.bool t)/\w'=w:=by
 go_enter func124,ntmps124;go_wp2_with fail;refine a.mono ?_;rintro e c ⟨r,rfl,rfl,b⟩;go_wp2_with fail
 go_ret
 exact⟨bS (by rw[<-b.out]),rfl⟩
theorem wI{v:Value}{l:List Int}(b:tC v l w)(f:l.length<=1000000)(y:Int):am 124 #[v,ab y] w λe w'=>e=.returned (.bool (l.contains y))/\w'=w:=by
 obtain⟨a,c,e,d⟩:=b.cells;rw[e];exact vf _ y _ w (Du a c l l.length y w f rfl d)
theorem Bn(a b:Option Addr)(c d:Nat)(len:Nat)(w:World)(x:len<=1000000)(q:Hid (∀i,i<len->∃g o h j k,(a=some ⟨g,o,none⟩/\b=some ⟨h,j,none⟩)/\w.cell? ⟨g,o+i,none⟩=some (ab k)/\w.cell? ⟨h,j+i,none⟩=some (ab k))):am 19 #[ae a len c,ae b len d] w λe w'=>e=.returned (.bool true)/\aj w w':=by
 go_enter func19,ntmps19;go_wp2_with fail;go_loopw [13] (λi wr=>∃f:Nat,f<=len/\i=ab f/\Hid (aj w wr)) (λi _=>len-(intOf i).toNat)
 case atStart=>exact⟨0,aI _,rfl,ap _ _⟩
 case round=>
  obtain⟨f,v,rfl,HB⟩:=hrel;by_cases u:f<len
  ·obtain⟨g,o,h,j,k,⟨rfl,rfl⟩,l,m⟩:=q f u;have s:=gV w ⟨g,o+f,none⟩ l;have t:=gV w ⟨h,j+f,none⟩ m;have n:=ar HB;replace l:=(n _ _ s).trans l;replace m:=(n _ _ t).trans m;clear n;have y:(0:Int)<=(f:Int):=by omega
   have z:(f:Int)<(len:Int):=by omega
   have r:Hid (aj w wr.drew):=HB.drew;go_wp2_with fail;go_region_held3 (λp=>p.cell? ⟨g,o+f,none⟩=some (ab k)/\p.cell? ⟨h,j+f,none⟩=some (ab k)) (go_keep) (fail);go_wp2_with fail;go_roundw
   case rel=>exact⟨f+1,by omega,by go_num,r⟩
   case measure=>simp[intOf];omega
  ·obtain rfl:f=len:=by omega
   go_wp2_with fail
   go_ret
   exact⟨rfl,HB⟩
theorem Ds{v h:Value}{l:List Int}(q:tC v l w)(r:tC h l w)(u:l.length<=1000000):am 19 #[v,h] w λe w'=>e=.returned (.bool true)/\aj w w':=by
 obtain⟨i,c,m,x⟩:=q.cells;obtain⟨b,j,n,y⟩:=r.cells;rw[m,n];refine Bn i b c j l.length w u λa d=>?_;have f:l[a]?=some (l[a]'d):=aG d;obtain⟨g,o,e,s⟩:=x a _ f;obtain⟨p,z,k,t⟩:=y a _ f;exact⟨g,o,p,z,_,⟨e,k⟩,s,t⟩
theorem C3(l:List Int)(L:Nat)(bp:BL)(mo:Option Nat)(x:Int)(w:World)(R:Option Addr->Nat->Nat->World->Prop)(J:L<=99)(C:Hid (l.length=L))(D:Hid (am 154 #[.pointer (some ⟨bp.b,bp.o,none⟩),ab x] w λe w'=>∃a c,e=.returned (ae a L c)/\Hid (R a c 0 w')))(f:Hid (∀a c j W,R a c j W->W.cell? ⟨bp.b,bp.o,none⟩=some (.map mo)/\∀(i:Nat)(k:Int),l[i]?=some k->∃g o,a=some ⟨g,o,none⟩/\W.cell? ⟨g,o+i,none⟩=some (ab k)))(HB:Hid (∀a c j W d,R a c j W->aj W d->R a c j d))(A:Hid (∀a c j k W,R a c j W->l[j]?=some k->∃d,(∀ty,(Builtin.delete_ #[90,198] ty #[.map mo,.agg #[ab (iQ x k).1,ab (iQ x k).2]]).run Tryz.prog W=.ok (.tuple #[]) d)/\R a c (j+1) d)):am 123 #[.pointer (some ⟨bp.b,bp.o,none⟩),ab x] w λe w'=>∃a c,e=.returned (ae a L c)/\Hid (R a c L w'):=by
 go_enter func123,ntmps123;go_wp2_with fail;refine D.mono ?_;rintro e S ⟨a,c,rfl,z⟩;go_wp2_with fail;go_loopw [13] (λi wr=>∃j:Nat,j<=L/\i=ab j/\Hid (R a c j wr)) (λi _=>L-(intOf i).toNat)
 case atStart=>exact⟨0,aI _,rfl,z⟩
 case round=>
  obtain⟨j,K,rfl,h⟩:=hrel;by_cases F:j<L
  ·obtain⟨k,m⟩:∃k,l[j]?=some k:=⟨l[j]'(by rw[C.out];exact F),aG _⟩;obtain⟨H,y⟩:=f.out a c j wr h;obtain⟨g,o,rfl,I⟩:=y j k m;have B:=aq m;clear m y;have N:(0:Int)<=(j:Int):=by omega
   have O:(j:Int)<(L:Int):=by omega
   have s:=aq (λW=>oL x k W);have q:=aq (λW (E:R (some ⟨g,o,none⟩) c j W)=>A _ _ _ k W E B);obtain⟨⟨P,Q⟩,v⟩:∃G,G=iQ x k:=⟨_,rfl⟩;rw[<-v]at s q;clear v;have p:Hid (R (some ⟨g,o,none⟩) c j wr.drew):=HB _ _ _ _ _ h (ap _ _).drew;have d0:=(f _ c j _ p).1;go_wp2_with fail
   go_region_held3 (λW=>W.cell? ⟨bp.b,bp.o,none⟩=some (.map mo)) (first|(go_keep;done)|exact(f _ _ _ _ n).1|exact(f _ _ _ _ r).1) ((first
    | (go_at_call 155;refine(s _).mono ?_;rintro e T ⟨rfl,t⟩;have n:=aq (HB _ _ _ _ _ p t);obtain⟨U,M,u⟩:=q _ n;have r:=aq u;clear t u)))
   go_wp2_with fail;go_roundw
   case rel=>exact⟨j+1,by omega,by go_num,r⟩
   case measure=>simp[intOf];omega
  ·obtain rfl:j=L:=by omega
   go_wp2_with fail
   go_ret
   exact⟨a,c,rfl,h⟩
variable {base n:Nat} {bp:BL} {mo:Option Nat} {g:Int×Int->Bool} {w:World}
theorem eL.drop(c:eL base bp mo n g w){k:Int×Int}(h:I2 k)(f:mo≠none):∃w2,(∀ty,(Builtin.delete_ #[90,198] ty #[.map mo,pk k]).run Tryz.prog w=.ok (.tuple #[]) w2)/\eL base bp mo n (iE g k false) w2/\br (λb=>mo=some b) w w2/\w2.heap.size=w.heap.size:=by
 have i:=λmb (a:mo=some mb)=>(show eL base bp (some mb) n g w from a▸c).ne;rcases c.2.2 with⟨a,_⟩|⟨mb,rfl,l⟩
 ·exact absurd a f
 ·obtain⟨w2,j,e,d,m⟩:=l.drop h 0;refine⟨w2,λty=>j,⟨c.1,c.2.1.kept (d.block bp.b (c.lt bp.b (ah rfl)).2 (i mb rfl)),ai ⟨mb,rfl,e⟩⟩,d.mono λb _ a=>by rw[a],m⟩
theorem eL.some(c:eL base bp mo n g w){k:Int×Int}(b:g k=true):mo≠none:=by
 rcases c.2.2 with⟨_,a⟩|⟨mb,a,_⟩
 ·rw[a]at b;cases b
 ·rw[a];simp
theorem sg(p:eL base bp mo n g w)(y:AB g){x:Int}(A:dt x):am 123 #[.pointer (some ⟨bp.b,bp.o,none⟩),ab x] w λe w'=>∃v,e=.returned v/\Hid (iC w.heap.size v (qI g x) w'/\eL base bp mo n (wo g [x]) w'/\br (λb=>mo=some b) w w'):=by
 have G:∀b,mo=some b->b<w.heap.size:=λb e=>(p.lt b (ai e)).2;have D:∀(d:Option Addr)(c h:Nat)(k:Int)(a:World),(iC w.heap.size (.slice d (qI g x).length c) (qI g x) a/\eL base bp mo n (tH g x ((qI g x).take h)) a/\br (λb=>mo=some b) w a)->(qI g x)[h]?=some k->∃m,(∀ty,(Builtin.delete_ #[90,198] ty #[.map mo,.agg #[ab (iQ x k).1,ab (iQ x k).2]]).run Tryz.prog a=.ok (.tuple #[]) m)/\(iC w.heap.size (.slice d (qI g x).length c) (qI g x) m/\eL base bp mo n (tH g x ((qI g x).take (h+1))) m/\br (λb=>mo=some b) w m):=by
  rintro d c h k a ⟨j,f,s⟩ l;have F:=jk.1 (aH l);have B:I2 (iQ x k):=zI A (by unfold dt;omega);have E:tH g x ((qI g x).take h) (iQ x k)=true:=by
   refine A0.2 ⟨F.2,λP I e=>?_⟩;rcases M7.1 e with⟨_,e⟩|⟨t,u⟩
   ·exact th (oV g x) l (e▸I)
   ·exact absurd (aH l) (by rw[u];exact BN y x)
  obtain⟨K,H,i,z,O⟩:=f.drop B (f.some E);refine⟨K,H,bi j z λb i e=>?_,?_,br.trans s z λb _ e=>e⟩
  ·have:=(j.lt b i).1;have:=G b e;omega
  ·rw[dq,l];rw[show (some k).toList=[k]from rfl,Gm];exact i
 refine(C3 (qI g x) (qI g x).length bp mo x w (λd c h a=>iC w.heap.size (.slice d (qI g x).length c) (qI g x) a/\eL base bp mo n (tH g x ((qI g x).take h)) a/\br (λb=>mo=some b) w a) (vF g x) rfl ?_ ?_ ?_ D).mono ?_
 ·refine(Mi p A).mono ?_;rintro e w' ⟨v,rfl,q⟩;obtain⟨d,c,e,_⟩:=q.out.1.row;subst e;exact⟨d,c,rfl,q.1,p.later q.2,aJ q.2 _⟩
 ·rintro d c h a ⟨j,f,_⟩;refine⟨f.cell.1,λJ k l=>?_⟩;obtain⟨L,M,e,C⟩:=j.row.cells;injection e with t u N;subst t;exact C J k l
 ·rintro d c h a m ⟨j,f,s⟩ i;exact⟨j.later i,f.later i,br.trans s (aJ i λ_=>False) λ_ _ p=>p.elim⟩
 ·rintro e w' ⟨d,c,rfl,r⟩;refine⟨_,rfl,r.1,?_,r.2.2⟩;have f:=r.2.1;rw[bu (ak _),Mu y]at f;exact f
def fN(g:Int×Int->Bool)(x:Int)(i:Nat)(l:List Int)(j:Nat):List Int:=de g x i++zy (de g x i) (l.take j)
theorem qB{g:Int×Int->Bool}{x:Int}{i:Nat}{l:List Int}(b:l.Nodup){j:Nat}{y:Int}(a:l[j]?=some y):fN g x i l (j+1)=fN g x i l j++if (fN g x i l j).contains y then []else [y]:=by
 unfold fN;rw[dq,a];rw[show (some y).toList=[y]from rfl,G4 _ _ _ (th b a),mN]
theorem yt{g:Int×Int->Bool}{x:Int}{i:Nat}{y:Int}(a:(de g x i)[i]?=some y):fN g x i (qI (wo g (x::(de g x i).take i)) y) (qI (wo g (x::(de g x i).take i)) y).length=de g x (i+1):=by
 rw[de,a];unfold fN;rw[bu (ak _)]
theorem Ls{g:Int×Int->Bool}(b:AB g){x:Int}{i:Nat}{y:Int}(c:(de g x i)[i]?=some y)(j:Nat):(fN g x i (qI (wo g (x::(de g x i).take i)) y) j).length<=99:=by
 have a:=(iU b x (i+1)).le;rw[<-yt c]at a;refine az ?_ a;unfold fN;rw[bk,bk];refine Nat.add_le_add_left ?_ _;rw[bu (ak _)];exact(List.Sublist.filter _ (List.take_sublist j _)).length_le
theorem NE{g:Int×Int->Bool}{x:Int}{i:Nat}{y:Int}(a:(de g x i)[i]?=some y):wo (wo g (x::(de g x i).take i)) [y]=wo g (x::(de g x (i+1)).take (i+1)):=by
 rw[PM];have b:=(aO.1 a).1;rw[de,a];simp only;rw[gS (by omega),dq,a];rfl
variable {base n:Nat} {bp:BL} {mo:Option Nat} {g:Int×Int->Bool} {w:World}
def N5(base:Nat)(bp:BL)(mo:Option Nat)(n:Nat)(g:Int×Int->Bool)(x:Int)(j:Nat)(a:Option Addr)(L c:Nat)(w W:World):Prop:=
 (de g x j).length=L/\iC w.heap.size (ae a L c) (de g x j) W/\eL base bp mo n (wo g (x::(de g x j).take j)) W/\br (λb=>mo=some b) w W
def Oa(base:Nat)(bp:BL)(mo:Option Nat)(n:Nat)(g:Int×Int->Bool)(x:Int)(j:Nat)(l:List Int)(d:Option Addr)(e:Nat)(q:Nat)(a:Option Addr)(L c:Nat)(w W:World):Prop:=
 (fN g x j l q).length=L/\iC w.heap.size (ae a L c) (fN g x j l q) W/\iC w.heap.size (ae d l.length e) l W/\(∀b,(Value.slice a L c).ownBlock=some b->(Value.slice d l.length e).ownBlock≠some b)/\eL base bp mo n (wo g (x::(de g x (j+1)).take (j+1))) W/\br (λb=>mo=some b) w W
theorem tn{v:Value}{a:Option Addr}{L c:Nat}{l:List Int}(b:tC v l w)(e:v=ae a L c)(i:Nat)(k:Int)(h:l[i]?=some k):∃g o,a=some ⟨g,o,none⟩/\w.cell? ⟨g,o+i,none⟩=some (ab k):=by
 obtain⟨j,m,d,b⟩:=b.cells;rw[e]at d;injection d with f n p;subst f;exact b i k h
theorem Oa.more{x:Int}{j:Nat}{l:List Int}{v:Option Addr}{z q:Nat}{a:Option Addr}{L c:Nat}{W:World}(B:Oa base bp mo n g x j l v z q a L c w W)(I:l.Nodup)(M:∀b,Me bp mo b->b<w.heap.size){y:Int}(N:l[q]?=some y)(J:(fN g x j l q).contains y=false){o:Obj}{f m:Nat}{h:World}(K:h.ownsRow w.heap.size 3 1 (ae (some ⟨f,0,none⟩) (L+1) m) (L+1) (jJ (fN g x j l q)++ [ab y]))(H:(W.alloc o).grownBy h (Value.slice a L c).ownBlock)(G:(Value.slice a L c).ownBlock=some f\/f=(W.alloc o).heap.size):Oa base bp mo n g x j l v z (q+1) (some ⟨f,0,none⟩) (L+1) m w h:=by
 obtain⟨p,C,r,s,D,E⟩:=B;have d:fN g x j l (q+1)=fN g x j l q++ [y]:=by
  rw[qB I N,J];rfl
 have F:aj W (W.alloc o):=(ap _ _).alloc (ak _) _;have k:br (λb=>(Value.slice a L c).ownBlock=some b) W h:=br.trans (aJ F _) (eh H) λb _ d=>d;have u:∀b,(Value.slice a L c).ownBlock=some b->w.heap.size<=b:=λb e=>(C.lt b e).1;refine⟨by rw[d,bk,p];rfl,?_,bi r k λb e d=>s b d e,?_,D.kee k λb e d=>?_,br.trans E k λb e d=>?_⟩
 ·unfold iC;rw[d,lE,bk,p];exact K
 ·intro b e t;have A:f=b:=aw e;subst A;rcases G with i|i
  ·exact s _ i t
  ·have:=(r.lt _ t).2;simp at i;omega
 ·have:=M b e;have:=u b d;omega
 ·have:=u b d;omega
theorem F7(base:Nat)(bp:BL)(mo:Option Nat)(n:Nat)(g:Int×Int->Bool)(x:Int)(w:World)(u:Hid (AB g))(Z:Hid (∀b,Me bp mo b->b<w.heap.size))(X:Hid (am 123 #[.pointer (some ⟨bp.b,bp.o,none⟩),ab x] w λe w'=>∃a L c,e=.returned (ae a L c)/\Hid (N5 base bp mo n g x 0 a L c w w'))):am 101 #[.pointer (some ⟨bp.b,bp.o,none⟩),ab x,.bool false] w λe w'=>∃v,e=.returned v/\Hid (iC w.heap.size v (tq g x) w'/\eL base bp mo n (wo g (x::tq g x)) w'/\br (λb=>mo=some b) w w'):=by
 obtain⟨B,al,ao,ap,ar⟩:=bP Fl;have F:Hid (Tryz.prog.info? 3=some B/\B.zero=some (ab 0)/\B.size=1/\B.bytes=8):=⟨al,ao,ap,ar⟩;clear al ao ap ar;go_enter func101,ntmps101;go_wp2_with fail;refine X.mono ?_;rintro e a9 ⟨a,L,c,rfl,M⟩;go_wp2_with fail;go_loopw [7,8] (λv q wr=>∃(d:Nat)(a:Option Addr)(L c:Nat),v=ae a L c/\q=ab d/\d<=99/\L<=99/\Hid (N5 base bp mo n g x d a L c w wr)) (λ_ q _=>100-(intOf q).toNat)
 case atStart=>exact⟨0,a,L,c,rfl,rfl,by omega,by have m:=(iU u x 0).le;have p:=M.1;omega,M⟩
 case round=>
  clear M X;obtain⟨d,a,L,c,rfl,rfl,a2,I,h⟩:=hrel;by_cases aN:d<L
  ·obtain⟨r,J⟩:∃r,(de g x d)[d]?=some r:=⟨(de g x d)[d]'(by rw[h.out.1];exact aN),aG _⟩;obtain⟨af,o,rfl,aD⟩:=tn h.2.1.row rfl d r J;have H:=aq J;have aA:Hid (dt r):=by
    have:=(iU u x d).rng r (aH J);unfold Hid dt;omega
   clear J;have a5:(0:Int)<=(d:Int):=by omega
   have a6:(d:Int)<(L:Int):=by omega
   have Y:=aq (sg h.2.2.1 (u.wo _) aA);go_wp2_with fail;refine Y.mono ?_;rintro e U ⟨aX,rfl,G⟩;obtain⟨l,z⟩:∃l,l=qI (wo g (x::(de g x d).take d)) r:=⟨_,rfl⟩;rw[<-z]at G;obtain⟨j,k⟩:∃j,j=l.length:=⟨_,rfl⟩;have a1:j<=99:=by
    have:=vF (wo g (x::(de g x d).take d)) r;rw[k,z];exact this
   obtain⟨K,C,aU⟩:∃K C,aX=ae K j C:=by
    obtain⟨aB,aC,e,_⟩:=G.out.1.row;exact⟨aB,aC,by rw[k];exact e⟩
   subst aU;have N:Hid l.Nodup:=by rw[z];exact oV _ _
   have aa:Hid (∀f,(fN g x d l f).length<=99):=by rw[z];exact λf=>Ls u H f
   have au:Hid (fN g x d l j=de g x (d+1)):=by rw[k,z];exact yt H
   have W:Hid (Oa base bp mo n g x d l K C 0 (some ⟨af,o,none⟩) L c w U):=by
    have aV:=NE H (g:=g) (x:=x);have A:=G.out;have aT:∀b,mo=some b->b<w.heap.size:=λb e=>Z b (ai e);have aP:br (λb=>mo=some b) w U:=br.trans h.2.2.2 A.2.2 λ_ _ e=>e;have ad:fN g x d l 0=de g x d:=by simp[fN,zy]
    have aS:iC w.heap.size (ae (some ⟨af,o,none⟩) L c) (de g x d) U:=bi h.2.1 A.2.2 λb R e=>by
     have:=(h.2.1.lt b R).1;have:=aT b e;omega
    refine⟨by rw[ad];exact h.1,by rw[ad];exact aS,?_,?_,?_,aP⟩
    ·rw[<-k];exact rF A.1 h.2.2.2.size
    ·intro b R aj;rw[<-k]at aj;have:=(A.1.lt b aj).1;have:=(h.2.1.lt b R).2;omega
    ·rw[<-aV];exact A.2.1
   replace k:=aq k;clear G h Y aD z;go_wp2_with fail;go_loopw [7,28] (λv q wr=>∃(f:Nat)(a:Option Addr)(L c:Nat),v=ae a L c/\q=ab f/\f<=j/\L<=99/\Hid (Oa base bp mo n g x d l K C f a L c w wr)) (λ_ q _=>j-(intOf q).toNat)
   case atStart=>exact⟨0,_,L,c,rfl,rfl,aI _,I,W⟩
   case round=>
    clear W;obtain⟨f,a,L,c,rfl,rfl,a4,I,i⟩:=hrel;by_cases aR:f<j
    ·obtain⟨s,T⟩:∃s,l[f]?=some s:=⟨l[f]'(by rw[<-k.out];exact aR),aG _⟩;obtain⟨aJ,aW,rfl,aZ⟩:=tn i.2.2.1.row rfl f s T;have Q:=aq T;clear T;have a7:(0:Int)<=(f:Int):=by omega
     have a8:(f:Int)<(j:Int):=by omega
     have V:=aq (wI i.2.1.row (by rw[i.out.1];omega) s);obtain⟨t,S⟩:∃t,t=(fN g x d l f).contains s:=⟨_,rfl⟩;rw[<-S]at V;have P:=aq S;clear S;go_wp2_with fail;refine V.mono ?_;rintro e D ⟨rfl,rfl⟩;cases t
     ·have aY:=aq (aa (f+1));have aw:Hid (L+1<=99):=by
       have m:=aa (f+1);have p:=i.1;rw[qB N.out Q.out,<-P.out,bk]at m;simp at m;unfold Hid;omega
      have az:Hid (w.heap.size<=D.heap.size):=i.2.2.2.2.2.size;have ay:=aq i.2.1;have ax:=aq i.1
      go_wp2_with (first
       | (at_builtin;refine wpList_append_lies _ rfl _ _ 57 rfl w.heap.size 3 B _ 1 8 underlying57 F.1 F.2.1 F.2.2.1 F.2.2.2 rfl (by decide) (ae a L c) L (jJ (fN g x d l f)) rfl ((show D.ownsRow w.heap.size 3 1 (ae a L c) L (jJ (fN g x d l f))from by have y:=ay.out;unfold iC at y;rw[ax.out]at y;exact y).alloc _) ⟨D.heap.size,0,none⟩ 1 1 [ab s] rfl rfl (World.news_of_block (cs:= #[ab s]) (t:=3) (fr:=(0,0)) (aE D _)) (by simp[Value.oneCell']) (by decide) (by unfold maxLen;omega) (by omega) (by have:=az.out;simp;omega) _ rfl ?_;intro a0 aF ba an ak ah aQ;have O:=aq (i.more N Z Q P.symm an ak ah);clear an ak ah aQ))
      go_roundw
      case rel=>exact⟨f+1,_,L+1,aF,rfl,by go_num,by omega,aw,O⟩
      case measure=>simp[intOf];omega
     ·have O:Hid (Oa base bp mo n g x d l (some ⟨aJ,aW,none⟩) C (f+1) a L c w D):=by
        have y:=i.out;unfold Oa at y ⊢;have e:fN g x d l (f+1)=fN g x d l f:=by
         rw[qB N.out Q.out,<-P.out];simp
        rw[e];exact y
      go_wp2_with fail;go_roundw
      case rel=>exact⟨f+1,_,L,c,rfl,by go_num,by omega,I,O⟩
      case measure=>simp[intOf];omega
    ·obtain rfl:f=j:=by omega
     have E:Hid (N5 base bp mo n g x (d+1) a L c w wr):=by
      obtain⟨m,p,_,_,aL,aM⟩:=i;rw[au.out]at m p;exact⟨m,p,aL,aM⟩
     have av:Hid (d+1<=99):=by
      have:=(iU u x d).le;have:=(aO.1 H).1;unfold Hid;omega
     go_wp2_with fail;go_roundw
     case rel=>exact⟨d+1,a,L,c,rfl,by go_num,av,I,E⟩
     case measure=>simp[intOf];omega
  ·have E:Hid (de g x d=tq g x):=IB u (by rw[h.out.1];omega);have a3:¬(d:Int)<(L:Int):=by omega
   go_wp2_with fail
   go_ret
   obtain⟨m,p,ag,aK⟩:=h;rw[bu (by omega),E.out]at ag;rw[E.out]at p;exact⟨_,rfl,p,ag,aK⟩
theorem AL(bp:BL)(x:Int)(w:World)(R:World->Prop)(c:Hid (am 123 #[.pointer (some ⟨bp.b,bp.o,none⟩),ab x] w λe w'=>∃v,e=.returned v/\Hid (R w'))):am 101 #[.pointer (some ⟨bp.b,bp.o,none⟩),ab x,.bool true] w λe w'=>e=.returned (ae none 0 0)/\R w':=by
 go_enter func101,ntmps101;go_wp2_with fail;refine c.mono ?_;rintro e d ⟨v,rfl,a⟩;go_wp2_with fail
 go_ret
 exact⟨rfl,a⟩
def uS(g:Int×Int->Bool)(x:Int)(a:Bool):List Int:=if a then []else tq g x
theorem Jm(f:eL base bp mo n g w)(h:AB g){x:Int}(i:dt x)(d:Bool):am 101 #[.pointer (some ⟨bp.b,bp.o,none⟩),ab x,.bool d] w λe w'=>∃v,e=.returned v/\Hid (iC w.heap.size v (uS g x d) w'/\eL base bp mo n (wo g (x::uS g x d)) w'/\br (λb=>mo=some b) w w'):=by
 cases d
 ·rw[show uS g x false=tq g x from if_neg (by decide)];refine F7 base bp mo n g x w h (λb m=>(f.lt b m).2) ?_;refine(sg f h i).mono ?_;rintro e w' ⟨v,rfl,a⟩;obtain⟨j,c,e,_⟩:=a.out.1.row;subst e;exact⟨j,_,c,rfl,rfl,a.1,a.2.1,a.2.2⟩
 ·refine(AL bp x w (λw'=>eL base bp mo n (wo g [x]) w'/\br (λb=>mo=some b) w w') ?_).mono ?_
  ·refine(sg f h i).mono ?_;rintro e w' ⟨v,rfl,a⟩;exact⟨v,rfl,a.2⟩
  ·rw[show uS g x true=[]from if_pos rfl];rintro e w' ⟨rfl,k,l⟩;exact⟨_,rfl,iC.nil _ _,k,l⟩
def Fa:ByteArray:=⟨#[115,112,97,119,110]⟩
def NP:ByteArray:=⟨#[101,110,100]⟩
def nZ:ByteArray:=⟨#[116,97,107,101]⟩
def JX:ByteArray:=⟨#[115,101,110,100]⟩
def nY:ByteArray:=⟨#[108,111,115,116]⟩
def tz:Tc:=((0,0,⟨#[]⟩),(none,0),[])
structure Sy where
 last:Int
 ps:List (Int×ByteArray×Tc×List Tc)
 ways:Int×Int->List Tc
 bonds:Int×Int->Bool
 evs:List (ByteArray×Int×Int×Tc)
def Sy.get(s:Sy)(k:Int):Option (ByteArray×Tc×List Tc):=(s.ps.find? λp=>p.1==k).map (·.2)
def Sy.put(s:Sy)(k:Int)(v:ByteArray×Tc×List Tc):Sy:={s with ps:=s.ps.map λp=>if p.1=k then (k,v)else p}
def Sy.tell(s:Sy)(wt:ByteArray)(a b:Int)(t:Tc):Sy:={s with evs:=s.evs++ [(wt,a,b,t)]}
def Sy.add(s:Sy)(a:Int)(nm:ByteArray)(cs:Tc):Sy:=Sy.tell {s with last:=s.last+1,ps:=s.ps++ [(s.last+1,nm,cs,[])]} Fa a (s.last+1) cs
def Sy.drop(s:Sy)(x how:Int):Sy:=Sy.tell {s with ps:=s.ps.eraseP λp=>p.1==x} NP x how tz
def Sy.fin(s:Sy)(x how:Int):Sy:=(uS s.bonds x (how==1)).foldl (λs y=>s.drop y 4) {s.drop x how with bonds:=wo s.bonds (x::uS s.bonds x (how==1))}
def Sy.deliver(s:Sy)(room a b:Int)(t:Tc):Sy:=match s.get b with
 | none=>s
 | some (nm,cs,cms)=>if nn 13 t room cs cms=2 then s.tell nY a b t else if nn 13 t room cs cms=6 then s.fin b 3 else if nn 13 t room cs cms=0 then s.put b (nm,cs,cms++ [t])else s
def Sy.send(s:Sy)(a b:Int)(t:Tc):Sy:=if nK 12 a b t (s.ways (a,b)).length=0 then Sy.tell {s with ways:=iE s.ways (a,b) (s.ways (a,b)++ [t])} JX a b t else s.tell nY a b t
def Sy.link(s:Sy)(a b:Int):Sy:=if (s.get b).isSome then {s with bonds:=if vv a b=0 then iE s.bonds (iQ a b) true else s.bonds}else s
def Sy.may(s:Sy)(n:Nat):Bool:=decide ((s.ps.length:Int)+n<=12) && decide (s.last+n<=90)
section
variable (n:Nat) (prog:List (Bh (n+1))) (room:Int)
def lf(nm:ByteArray):Bool:=(f9 (n+1) nm prog).isSome
def Sy.made(s:Sy)(l:List (Int×ByteArray×Tc)):Bool:=s.may l.length && l.all λx=>lf n prog x.2.1 && fX 13 x.2.2 room x.2.1==0
def Sy.follow(s:Sy)(a:Int)(c:Tk):Sy:=
 let s:=c.spawns.foldl (λs b=>s.add a b.2.1 b.2.2) s
 let s:=c.sends.foldl (λs b=>s.send a b.1 b.2) s
 let s:=c.links.foldl (λs b=>s.link a b) s
 if c.fate=1 then s.fin a 1 else s
def Sy.run(s:Sy)(a:Int):Sy×Int:=match s.get a with
 | none=>(s,4)
 | some (nm,cs,cms)=>if rN n room prog nm a (s.last+1) cs cms=0 then match nA room prog nm a (s.last+1) cs cms with
     | none=>(s,0)
     | some b=>
      let s:=(s.put a (nm,b.state,b.mail)).tell nZ a 0 b.message
      (if b.fate=2\/b.fate=3 then s.fin a b.fate else if s.made n prog room b.spawns=false then s.fin a 2 else s.follow a b,0)
  else (s,rN n room prog nm a (s.last+1) cs cms)
def Sy.arrive(s:Sy)(a b:Int):Sy×Int:=match s.ways (a,b)with
 | []=>(s,4)
 | t::l=>
  let s:={s with ways:=iE s.ways (a,b) l}
  (if (s.get b).isSome then s.deliver room a b t else s.tell nY a b t,0)
def Sy.inject(s:Sy)(a:Int)(k:Nat)(x:Tm k):Sy×Int:=if (s.get a).isSome=false then (s,4)else if bv k x≠0 then (s,bv k x)else if aK k x=false then (s,5)else (s.deliver room 0 a (cn k x),0)
def Sy.do(s:Sy)(c a b:Int)(k:Nat)(x:Tm k):Sy×Int:=if c=1 then s.run n prog room a else if c=2 then s.arrive room a b else if c=3 then s.inject room a k x else (s,1)
def Sy.start(s:Sy)(nm:ByteArray)(k:Nat)(x:Tm k):Sy×Int:=if s.may 1=false then (s,2)else if lf n prog nm=false then (s,4)else if fX k x room nm≠0 then (s,fX k x room nm)else (s.add 0 nm (cn k x),0)
end
def Az(K:Nat)(b:List (Int×Tc))(c:List (Int×ByteArray×Tc))(a:List Int):Prop:=(b.length<=K/\c.length<=K/\a.length<=K)/\(∀x∈b,dt x.1)/\∀x∈a,dt x
theorem Fz{b:List Tc}{self:Int}{n:Nat}{x:Tm n}{h:Int}(a:nv b self n x=some h):dt h:=by
 unfold nv sO at a;cases f:vl 13 b self n x with
 | none=>rw[f]at a;cases a
 | some e=>
  rw[f,dA]at a;by_cases d:bv (13+n) e=0
  ·rw[if_pos d,dA]at a;by_cases c:(cn (13+n) e).1.1=3
   ·rw[if_pos c]at a;obtain rfl:=aw a;have i:aD ⟨13,cn (13+n) e⟩:=aL.2 (bC.1 (nV d)).1;have g:=i _ (mQ);simp only[cg,c]at g;simp[oe]at g;unfold dt;omega
   ·rw[if_neg c]at a;cases a
  ·rw[if_neg d]at a;cases a
theorem Oy{self:Int}{n K:Nat}{a:Ac (n+1)}{d e:Dg}(b:rh self a d=some e)(k:Az K d.sends d.spawns d.links):Az (K+1) e.sends e.spawns e.links:=by
 unfold rh at b;obtain⟨⟨o,p,q⟩,f,g⟩:=k;split at b
 ·obtain⟨m,h,b⟩:=bB.1 b;obtain⟨t,l,rfl⟩:=ci.1 b;refine⟨⟨by simp;omega,by simp;omega,by simp;omega⟩,λj i=>?_,g⟩;rcases dp.1 i with c|c
  ·exact f j c
  ·rw[eF.1 c];exact Fz h
 ·split at b
  ·obtain⟨t,l,b⟩:=bB.1 b;split at b
   ·obtain rfl:=aw b;exact⟨⟨by simp;omega,by simp;omega,by simp;omega⟩,f,g⟩
   ·cases b
  ·split at b
   ·obtain⟨m,h,rfl⟩:=ci.1 b;refine⟨⟨by simp;omega,by simp;omega,by simp;omega⟩,f,λj i=>?_⟩;rcases dp.1 i with c|c
    ·exact g j c
    ·rw[eF.1 c];exact Fz h
   ·obtain rfl:=aw b;exact⟨⟨by simp;omega,by simp;omega,by simp;omega⟩,f,g⟩
theorem JQ{self:Int}{n:Nat}:(l:List (Ac (n+1)))->{K:Nat}->{d b:Dg}->qe self l d=some b->Az K d.sends d.spawns d.links->Az (K+l.length) b.sends b.spawns b.links
 | [],K,d,b,c,hk=>by
  obtain rfl:=aw c;exact hk
 | a::l,K,d,b,c,hk=>by
  unfold qe at c;obtain⟨e,f,c⟩:=bB.1 c;have:=JQ l c (Oy f hk);rw[bf,show K+(l.length+1)=K+1+l.length by omega];exact this
theorem clsC_mem{n:Nat}{s m:Tc}:(l:List (Cl (n+1)))->{y:Cl (n+1)×List Tc}->l9 s m l=some y->y.1∈l
 | [],y,h=>by simp[l9]at h
 | c::l,y,h=>by
  unfold l9 at h;cases e:lq c s m with
  | none=>
   rw[e]at h;exact bX _ (clsC_mem l h)
  | some b=>
   rw[e]at h;obtain rfl:=aw h;exact mQ
theorem EW{n:Nat}{l:List (Cl (n+1))}{s:Tc}:(ms:List Tc)->(i:Nat)->{x:Nat×Cl (n+1)×List Tc}->sh l s ms i=some x->x.2.1∈l
 | [],i,x,h=>by simp[sh]at h
 | m::ms,i,x,h=>by
  unfold sh at h;cases e:l9 s m l with
  | none=>
   rw[e]at h;exact EW ms (i+1) h
  | some y=>
   rw[e]at h;obtain rfl:=aw h;exact clsC_mem l e
theorem qS{n:Nat}{name:ByteArray}:(l:List (Bh n))->{b:Bh n}->f9 n name l=some b->b∈l/\b.1=name
 | [],b,h=>by simp[f9]at h
 | c::l,b,h=>by
  unfold f9 at h;split at h
  ·rename_i e;obtain rfl:=aw h;exact⟨mQ,e⟩
  ·exact⟨bX _ (qS l h).1,(qS l h).2⟩
theorem DA{n:Nat}{prog:List (Bh (n+1))}(c:ky (n+1) prog=true){nm:ByteArray}(d:lf n prog nm=true):nm.size<=2048:=by
 obtain⟨b,g⟩:=gA.1 d;obtain⟨e,f⟩:=qS prog g;unfold ky at c;simp only[aA,bZ]at c;have a:=c.2 b e;unfold wF at a;simp only[aA]at a;rw[<-f];exact xI a.1.1.1
theorem Lg{n:Nat}{room:Int}{l:List (Bh (n+1))}(j:ky (n+1) l=true){name:ByteArray}{self next:Int}{s:Tc}{ms:List Tc}{f:Tk}(e:nA room l name self next s ms=some f):Az 8 f.sends f.spawns f.links:=by
 unfold nA at e;obtain⟨c,p,e⟩:=bB.1 e;obtain⟨y,u,rfl⟩:=ci.1 e;have a:=EW ms 0 p;have r:c.2.1.2.2.length<=8:=by
  unfold gf at a;cases g:f9 (n+1) name l with
  | none=>rw[g]at a;simp at a
  | some b=>
   rw[g]at a;have a:c.2.1∈b.2.2:=a;unfold ky at j;simp only[aA,bZ]at j;have h:=j.2 b (qS l g).1;unfold wF at h;simp only[aA,bZ]at h;have k:=h.2 _ a;unfold tF at k;simp only[aA,bO]at k;omega
 have i:Az 8 [] [] []:=⟨⟨by simp,by simp,by simp⟩,by simp,by simp⟩;unfold fm;cases hd:qe self c.2.1.2.2 ⟨c.2.2,next,[],[],[],false⟩with
 | none=>exact i
 | some d=>
  have o:Az 8 d.sends d.spawns d.links:=by
   obtain⟨⟨v,w,x⟩,q⟩:=JQ _ (K:=0) hd ⟨⟨by simp,by simp,by simp⟩,by simp,by simp⟩;exact⟨⟨by omega,by omega,by omega⟩,q⟩
  cases m:sO d.b self (n+1) c.2.1.1.2.2 with
  | none=>simp only[m];exact i
  | some t=>
   simp only[m];split
   ·exact o
   ·exact i
def e9(n:Nat)(x:Tm (n+1)):ByteArray:=if x.1.1=4 then match x.2.2[0]? with|some a=>if bU ⟨n,a⟩=2 then (gg n a).1.2.2 else .empty|none=> .empty else .empty
def bQ(n:Nat)(x:Tm (n+1)):List (Tm n):=if x.1.1=4 then match x.2.2[0]? with|some a=>if bU ⟨n,a⟩=2 then x.2.2.drop 1 else []|none=> []else []
def s8(a s:ByteArray):Bool:=a.toList==s.toList
def ES:(n:Nat)->Tm n->List (Tm (n-1))
 | 0,_=> []
 | _+1,x=>x.2.2
def xH(n:Nat)(x:Tm n):ByteArray:=(gg n x).1.2.2
def zO(M n:Nat)(a b c:Tm n):Option (Ac (M+1)):=if bU ⟨n,a⟩=2/\bU ⟨n,c⟩=5 then some (2,(zT M,aS (M+1) n b),(xH n a,pF n c))else none
def jM(M n:Nat)(d:ByteArray)(q:List (Tm n)):Option (Ac (M+1)):=
 if (s8 d mJ && decide (q.length=2))=true then (q[0]?).bind λa=>(q[1]?).bind λb=>some (1,(aS (M+1) n a,aS (M+1) n b),(.empty,0))
 else if (s8 d iX && decide (q.length=3))=true then (q[0]?).bind λa=>(q[1]?).bind λb=>(q[2]?).bind λc=>zO M n a b c
 else if (s8 d mI && decide (q.length=1))=true then (q[0]?).bind λa=>some (3,(aS (M+1) n a,zT M),(.empty,0))
 else if (s8 d lL && decide (q.length=0))=true then some (4,(zT M,zT M),(.empty,0))else none
def sG(M:Nat):(n:Nat)->Tm n->Option (Ac (M+1))
 | 0,_=>none
 | n+1,x=>jM M n (e9 n x) (bQ n x)
def sH(M n:Nat)(e:ByteArray)(q:List (Tm n)):Option (Cl (M+1)):=
 if (s8 e LW && decide (q.length=4))=true then (q[0]?).bind λa=>(q[1]?).bind λb=>(q[2]?).bind λc=>(q[3]?).bind λd=>
  if bU ⟨n,c⟩=4 then (cG (sG M (n-1)) (ES n c)).map λl=>((aS (M+1) n a,aS (M+1) n b,aS (M+1) n d),(none,0),l)else none
 else none
def zN(M:Nat):(n:Nat)->Tm n->Option (Cl (M+1))
 | 0,_=>none
 | n+1,x=>sH M n (e9 n x) (bQ n x)
def tK(M n:Nat)(b:ByteArray)(q:List (Tm n)):Option (Bh (M+1)):=
 if s8 b tV=true then (q[0]?).bind λa=>if bU ⟨n,a⟩=2 then (cG (zN M n) (q.drop 1)).map λl=>(xH n a,(none,0),l)else none
 else none
def zM(M:Nat):(n:Nat)->Tm n->Option (Bh (M+1))
 | 0,_=>none
 | n+1,x=>tK M n (e9 n x) (bQ n x)
def B4(M:Nat):(n:Nat)->Tm n->Option (List (Bh (M+1)))
 | 0,_=>none
 | n+1,x=>if s8 (e9 n x) nL=true then cG (zM M n) (bQ n x)else none
def qN{a:Type}(f:a->List Value)(h:Nat->World->a->Prop)(i:(Nat->Prop)->a->Prop)(S:a->a->Prop)(o:Option a)(w:World)(e:Ending)(w':World):Prop:=
 ∃(c:a)(d:Bool),e=.returned (.tuple #[.agg (f c).toArray,.bool d])/\Hid (aj w w'/\d=o.isSome/\h w'.heap.size w' c/\i (λb=>w.heap.size<=b) c/\∀g,o=some g->S c g)
def lA{a:Type}(k:Nat)(f:a->List Value)(i:Nat->World->a->Prop)(j:(Nat->Prop)->a->Prop)(S:a->a->Prop)(o:Option (List a))(w:World)(e:Ending)(w':World):Prop:=
 ∃(l:List a)(d:Option Addr)(c:Nat)(g:Bool),e=.returned (.tuple #[ae d l.length c,.bool g])/\Hid (aj w w'/\g=o.isSome/\(l.length<=c/\c<=maxLen)/\pY w'.heap.size w' k f (i w'.heap.size w') d l/\tD (j (λb=>w.heap.size<=b)) (λb=>w.heap.size<=b) d l/\∀h,o=some h->eQ S l h)
theorem r7{d e:Type}(f:d->Option e)(p:List d)(k:Nat)(x:d)(i:p[k]?=some x)(l:List e)(y:e)(a:cG f (p.take k)=some l)(j:f x=some y):cG f (p.take (k+1))=some (l++ [y]):=by
 rw[dq,i];have key:∀(c:List d)(l:List e),cG f c=some l->cG f (c++ [x])=some (l++ [y]):=by
  intro c
  induction c with
  | nil=>intro l a;simp[cG]at a;subst a;simp[cG,j]
  | cons n c ih=>
   intro l a;simp only[cG]at a;obtain⟨b,g,a⟩:=bB.1 a;obtain⟨m,h,rfl⟩:=ci.1 a;simp only[fO,cG,g,ih m h];rfl
 exact key _ _ a
end Go.Proofs.YtmmahddlcldmiaaGreatDoor
